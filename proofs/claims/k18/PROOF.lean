import PyProof.Rows.All
import Wide.All
import OpenK.AllK
import Wide.FinOn
import Lean
import PyProof.EqAt
import PyProof.EqKinds
import PyProof.TupleCall
import PyProof.ZipIter
import PyProof.ExcArgsOwn
import PyProof.ExcAttrAll.ValueError
import KE.KSortTup
import PyProof.AutoSeq1
import PySem.SetTable
import PyProof.SetNew
import PyProof.TupleKey
import PyProof.DictRoadsH
import PyProof.DictKinds
import PyProof.IsRules
import PyProof.Rows.SetFrom
import PyProof.WalksMore
import KE.KDictSum
import KE.KDictOf
import PyProof.AttrMissHeap
import PyProof.TupleOfSeq
import PyProof.StrBlock2
import PySem.Challenge.RW_leastlays_k18_of_anything
set_option compiler.extract_closed false
set_option bootstrap.genMatcherCode false
set_option genSizeOf false
set_option Elab.async false
set_option linter.all false
set_option maxRecDepth 100000
set_option maxHeartbeats 4000000
def aa:=@PySem.wpAny_bind
def ae:=@PySem.Heap.get?_push_of_some
def ag:=@PySem.wpAny_pure
def ai:=@List.length_map
def aj:=@Nat.le_refl
def ak:=@List.getElem?_eq_getElem
def ao:=@if_neg
def aq:=@List.length_append
def ar:=@List.mem_cons_self
def au:=@Array.getElem?_toList
def av:=@List.mem_cons_of_mem
def ax:=@Array.length_toList
def ay:=@if_pos
def az:=@List.getD_eq_getElem?_getD
def aA:=@List.size_toArray
def aB:=@PyProof.Rows.wpS_bind
def aC:=@List.mem_append
def aD:=@List.mem_singleton
def aE:=@List.mem_cons
def aF:=@List.mem_of_getElem?
def aG:=@PySem.Heap.get?_push_size
def aH:=@List.append_assoc
def aI:=@PySem.Heap.lt_size
def aJ:=@PyProof.Rows.wpS_pure
def aK:=@Nat.lt_of_lt_of_le
def aL:=@Bool.and_eq_true
def aM:=@Nat.ne_of_lt
def aN:=@List.getElem?_eq_some_iff
def aO:=@List.mem_append_right
def aP:=@List.getElem?_map
def aQ:=@congrArg
def aR:=@List.all_eq_true
def aS:=@List.mem_append_left
def aT:=@List.length_cons
def aU:=@List.map_cons
def aV:=@PySem.sizeLine_eq
def aW:=@List.mem_map
def aX:=@List.mem_filter
def aY:=@List.length_take
def aZ:=@List.getElem?_append_right
def a_:=@Bool.false_ne_true
def ba:=@List.mem_range
def bb:=@Nat.le_trans
def bf:=@List.take_add_one
def bg:=@List.take_length
def bh:=@beq_iff_eq
def bj:=@List.zipWith_cons_cons
def bo:=@Nat.zero_le
def bp:=@List.take_append_drop
def bq:=@decide_eq_false
def br:=@List.getElem?_append_left
def bt:=@PySem.Heap.size_push
def bu:=@decide_eq_true
def bw:=@Int.toNat_natCast
def bx:=@Option.some.inj
def bz:=@List.pairwise_append
def bA:=@List.length_replicate
def bB:=@List.length_filter_le
def bC:=@decide_eq_true_eq
def bD:=@List.length_take_le
def bE:=@List.any_eq_true
def bF:=@List.not_mem_nil
def bG:=@List.replicate_succ
def bH:=@List.sum_cons
def bI:=@PySem.wpAny_call_entry
def bJ:=@of_decide_eq_true
def bK:=@PySem.wpAny_callSpecial?_slot
def bL:=@Array.getElem?_eq_getElem
def bM:=@Array.getD_eq_getD_getElem?
def bN:=@List.take_of_length_le
def bO:=@PyProof.Rows.KeyOrd.kle_trans
def bP:=@PyProof.Rows.KeyOrd.kle_of_klt
def bQ:=@Nat.lt_irrefl
def bR:=@Array.toList_append
def bS:=@List.nil_append
def bT:=@Classical.byContradiction
def bU:=@Nat.lt_succ_self
def bV:=@List.length_drop
def bW:=@List.lookup_cons
def bX:=@PySem.wpAny_newObj_type
def bY:=@Nat.lt_succ_of_lt
def bZ:=@List.mem_of_mem_take
def b_:=@List.map_append
def cc:=@PySem.wpAny_holding
def cf:=@Nat.le_add_right
def cg:=@eq_of_heq
def cj:=@PyProof.Rows.wpS_forRange
def ck:=@List.Perm.append_left
def cm:=@List.mem_iff_getElem?
def cn:=@List.pairwise_map
def cq:=@PySem.wpAny_setState_of
def cu:=@PyProof.Rows.slot_tuple_getitem
def cv:=@Bool.eq_iff_iff
def cw:=@List.nodup_cons
def cx:=@List.mem_iff_getElem
def cy:=@PyProof.Rows.KeyOrd.kle_refl
def cz:=@List.drop_eq_nil_of_le
def cA:=@PySem.Heap.SameBut.update
def cB:=@List.all_cons
def cC:=@PyProof.Rows.wpS_mono
def cD:=@List.perm_append_comm
def cE:=@PySem.wpAny_field
def cF:=@List.mem_filterMap
def cG:=@List.mem_of_mem_drop
def cH:=@Nat.le_of_lt
def cI:=@PySem.wpAny_seqItems
def cJ:=@beq_eq_false_iff_ne
def cK:=@List.drop_eq_getElem_cons
def cL:=@PySem.Heap.get?_update_self
def cM:=@List.getElem?_eq_none
def cN:=@PySem.Obj.data_mapFields
def cO:=@List.pairwise_cons
def cP:=@Nat.mod_eq_of_lt
def cQ:=@List.mem_singleton_self
def cR:=@List.flatten_cons
def cS:=@or_false
def cT:=@Array.toList_push
def cU:=@Array.getElem?_eq_some_iff
def cW:=@List.drop_zero
def cX:=@Int.emod_lt_of_pos
def cY:=@List.append_nil
def cZ:=@List.getElem?_take_of_lt
def c_:=@List.foldl_cons
def de:=@PySem.call_meets
def df:=@Nat.pow_succ
def dg:=@PySem.wpAny_truthy_bool
def dh:=@Nat.lt_trichotomy
def di:=@List.drop_append_of_le_length
def dj:=@PySem.wpAny_typeNameOfWhole_keyiter
def dk:=@List.getElem?_cons_succ
def dm:=@List.getElem_mem
def dn:=@PySem.wpAny_mono
def dq:=@Array.getElem?_eq_none
def dr:=@Nat.ne_of_gt
def dt:=@PySem.codeAny_mono
def du:=@PySem.wpAny_setField_rec
def dv:=@Nat.zero_add
def dw:=@List.set_cons_zero
def dy:=@List.map_map
def dz:=@PyProof.Rows.F.plain_set_update_loop
def dC:=@Ne.symm
def dD:=@PySem.wpAny_passesOwn
def dE:=@Nat.min_eq_left
def dF:=@Int.emod_nonneg
def dG:=@PySem.codeAny_builtin
def dH:=@PySem.F.slot_tuple_iterator_next
def dI:=@Array.perm_iff_toList_perm
def dJ:=@PySem.Around.under_plainId
def dM:=@ite_congr
def dN:=@Bool.false_and
def dO:=@Bool.and_false
def dP:=@PySem.wpAny_setField
def dQ:=@PySem.isSubtype_type
def dR:=@List.cons_append
def dS:=@PySem.wpAny_typeNameOf_keyiter
def dU:=@List.getElem?_cons_zero
def dV:=@PySem.wpAny_attempt
def dW:=@Nat.add_assoc
def dX:=@PySem.wpAny_execs_nil
def dY:=@PySem.wpAny_Call_Name_kw
def dZ:=@PySem.F.slot_int_rmul
def d_:=@List.find?_cons
def ed:=@List.set_cons_succ
def eh:=@Nat.le_succ
def ei:=@List.take_append_of_le_length
def ek:=@List.any_eq_false
def el:=@Nat.le_of_lt_succ
def ez:=@PySem.wpAny_typeOf
def eB:=@List.map_nil
def eC:=@PySem.Obj.isFreed_of_fields
def eD:=@PyProof.Rows.callWith_type1
def eE:=@heq_of_eq
def eF:=@Array.mem_toList_iff
def eG:=@beq_self_eq_true
def eH:=@PySem.F.slot_tuple_mul
def eJ:=@Array.toList_extract
def eM:=@PySem.wpAny_askSetting
def eN:=@Option.bind_some
def eO:=@Bool.false_or
def eQ:=@List.nodup_iff_pairwise_ne
def eR:=@List.length_zipWith
def eS:=@List.replicate_zero
def eT:=@PySem.wpAny_binaryOp_repeat_ref
def eU:=@List.length_nil
def eV:=@List.pairwise_iff_getElem
def eW:=@PySem.Calls.call_function_entry
def eX:=@List.mem_or_eq_of_mem_set
def eY:=@Nat.mul_comm
def eZ:=@List.getElem?_drop
def e_:=@PyProof.Rows.KeyOrd.klt_of_kle_of_klt
def fc:=@Nat.add_sub_cancel
def fe:=@Array.size_setIfInBounds
def ff:=@Nat.lt_of_le_of_lt
def fg:=@Nat.succ_pos
def fh:=@List.all_map
def fi:=@List.eq_of_mem_replicate
def fj:=@if_true
def fk:=@PySem.typeIs_int
def fm:=@List.nodup_nil
def fo:=@PyProof.Rows.wpS_get
def fq:=@Nat.mod_lt
def ft:=@List.length_eq_zero_iff
def fu:=@PySem.wpAny_pyIter_list
def fz:=@PySem.Obj.cls_mapFields
def fA:=@List.getElem_take
def fB:=@List.getElem_drop
def fC:=@List.ext_getElem?
def fD:=@PySem.wpAny_dictEntries
def fE:=@List.length_range
def fF:=@List.nodup_append
def fG:=@Option.some.injEq
def fH:=@List.all_eq_false
def fJ:=@PySem.Heap.get?_update_other
def fK:=@Option.map_eq_some_iff
def fL:=@Int.le_refl
def fM:=@PySem.wpAny_isInstance
def fN:=@List.ext_getElem
def fO:=@List.nodup_range
def fP:=@Option.bind_none
def fQ:=@Option.join_some
def fR:=@List.length_singleton
def fS:=@PySem.builtinLookup_eq_fast
def fT:=@PySem.pushCells_keeps
def fU:=@PySem.wpAny_rule
def fV:=@PySem.wpAny_updateSeq_pair
def fW:=@PySem.F.slot_zip_next
def fX:=@Nat.lt_trans
def fY:=@Array.toList_reverse
def fZ:=@Nat.succ.inj
def f':=@exists_eq_left'
def f_:=@exists_and_left
def gb:=@List.getElem?_of_mem
abbrev LLI:=List (List Int)
namespace L2
open PySem PySem.Spec PyProof.Rows
abbrev Key:=Sum Int Str
noncomputable def a3P:Key->Value->Bool
 |.inl k,v=>Value.isInt k v
 |.inr x,v=>Value.isStrOf x v
noncomputable def b8e(w:World):Key->Int
 |.inl k=>hashInt k
 |.inr x=>hashStr w x
theorem C4:∀{k:Key}{v:Value},a3P k v=true->(∃i t,k=Sum.inl i/\v=Value.int i t)∨(∃x t,k=Sum.inr x/\v=Value.str x t)
 |.inl i,v,h=>by
  obtain⟨t,e⟩:=Value.isInt_shape (k:=i) (v:=v) h;exact .inl ⟨i,t,rfl,e⟩
 |.inr x,v,h=>by
  obtain⟨t,e⟩:=Value.isStrOf_shape (x:=x) (v:=v) h;exact .inr ⟨x,t,rfl,e⟩
theorem a9I(i:Int)(t:Tok):a3P (.inl i) (.int i t)=true:=by simp[a3P,Value.isInt]
theorem a9H(x:Str)(t:Tok):a3P (.inr x) (.str x t)=true:=by simp[a3P,Value.isStrOf]
theorem b6E(a b:Int):decide ((Sum.inl a:Key)=Sum.inl b)=(a==b):=by
 by_cases e:a=b
 .subst e;simp
 .have h:¬(Sum.inl a:Key)=Sum.inl b:=λq=>e (Sum.inl.inj q);rw[bq h];exact(cJ.mpr e).symm
theorem b6B(a b:Str):decide ((Sum.inr a:Key)=Sum.inr b)=decide (a=b):=by
 by_cases e:a=b
 .subst e;simp
 .have h:¬(Sum.inr a:Key)=Sum.inr b:=λq=>e (Sum.inr.inj q);rw[bq h,bq e]
theorem b6D(a:Int)(b:Str):decide ((Sum.inl a:Key)=Sum.inr b)=false:=bq (λq=>nomatch q)
theorem b6C(a:Str)(b:Int):decide ((Sum.inr a:Key)=Sum.inl b)=false:=bq (λq=>nomatch q)
noncomputable def B5(prog:Program)(w:World):PySem.KeyKind prog w Key where
 is:=a3P
 hash:=b8e w
 inj:=λv a b ha hb=>by
  rcases C4 ha with⟨i,t,rfl,rfl⟩|⟨x,t,rfl,rfl⟩
  .rcases C4 hb with⟨j,u,rfl,e⟩|⟨y,u,rfl,e⟩
   .injection e with e1 _;rw[e1]
   .exact nomatch e
  .rcases C4 hb with⟨j,u,rfl,e⟩|⟨y,u,rfl,e⟩
   .exact nomatch e
   .injection e with e1 _;rw[e1]
 byValue:=λk v h=>by
  rcases C4 h with⟨i,t,rfl,rfl⟩|⟨x,t,rfl,rfl⟩<;>rfl
 pyHash:=λhv h=>by
  rcases C4 hv with⟨i,t,rfl,rfl⟩|⟨x,t,rfl,rfl⟩
  .exact wpAny_pyHash_int h
  .exact wpAny_pyHash_str h
 eqBool:=λhu hv h=>by
  rcases C4 hu with⟨i,t,rfl,rfl⟩|⟨x,t,rfl,rfl⟩
  .rcases C4 hv with⟨j,u,rfl,rfl⟩|⟨y,u,rfl,rfl⟩
   .rw[b6E]at h;exact wpAny_eqBool_int h
   .rw[b6D]at h;exact SeqAt.EqAt.int_str i t y u _ _ _ _ h
  .rcases C4 hv with⟨j,u,rfl,rfl⟩|⟨y,u,rfl,rfl⟩
   .rw[b6C]at h;exact SeqAt.EqAt.str_int x t j u _ _ _ _ h
   .rw[b6B]at h;exact wpAny_eqBool_str h
 «strs»:=λk x t v h=>by
  rcases C4 h with⟨i,u,rfl,e⟩|⟨y,u,rfl,e⟩
  .exact nomatch e
  .injection e with e1 _
   subst e1;cases v<;>rfl
theorem a5Y(prog:Program)(w:World)(i:Int)(t:Tok):(B5 prog w).is (.inl i) (.int i t)=true:=a9I i t
theorem a5X(prog:Program)(w:World)(x:Str)(t:Tok):(B5 prog w).is (.inr x) (.str x t)=true:=a9H x t
inductive V where
 |non|bl (b:Bool)|int (i:Int)|str (x:Str)|byt (b:Array UInt8)|flt (b:UInt64)|ref (a:Addr)|ty (n:String)
 deriving DecidableEq
def RelV:V->Value->Prop
 |.non,u=>u=Value.none
 |.bl b,u=>u=Value.bool b
 |.int i,u=>∃t,u=Value.int i t
 |.str x,u=>∃t,u=Value.str x t
 |.byt b,u=>∃t,u=Value.bytes b t
 |.flt b,u=>∃t,u=Value.float b t
 |.ref a,u=>u=Value.ref a
 |.ty n,u=>u=Value.type n
abbrev Vals:List V->List Value->Prop:=Paired RelV
theorem Vals.length{xs:List V}{us:List Value}(r:Vals xs us):xs.length=us.length:=Paired.length r
theorem Vals.get:∀{xs:List V}{us:List Value}{i:Nat}{x:V},Vals xs us->xs[i]?=some x->∃u,us[i]?=some u/\RelV x u
 |_,_,_,_,.nil,e=>by simp at e
 |_,_,0,_,.cons r _,e=>by simp at e;subst e;exact⟨_,rfl,r⟩
 |_,_,i+1,x,.cons _ t,e=>by
  obtain⟨u,h1,h2⟩:=Vals.get (i:=i) (x:=x) t (by simpa using e);exact⟨u,by simpa using h1,h2⟩
theorem Vals.set{x:V}{u:Value}(r:RelV x u):∀{xs:List V}{us:List Value}(i:Nat),Vals xs us->Vals (xs.set i x) (us.set i u)
 |_,_,_,.nil=>.nil
 |_,_,0,.cons _ t=>.cons r t
 |_,_,i+1,.cons q t=>.cons q (Vals.set r i t)
theorem Vals.append:∀{xs ys:List V}{us a:List Value},Vals xs us->Vals ys a->Vals (xs++ys) (us++a)
 |_,_,_,_,.nil,s=>s
 |_,_,_,_,.cons r t,s=>.cons r (Vals.append t s)
theorem Vals.take:∀{xs:List V}{us:List Value}(n:Nat),Vals xs us->Vals (xs.take n) (us.take n)
 |_,_,0,_=>.nil
 |_,_,_+1,.nil=>.nil
 |_,_,n+1,.cons r t=>.cons r (Vals.take n t)
theorem Vals.drop:∀{xs:List V}{us:List Value}(n:Nat),Vals xs us->Vals (xs.drop n) (us.drop n)
 |_,_,0,r=>r
 |_,_,_+1,.nil=>.nil
 |_,_,n+1,.cons _ t=>Vals.drop n t
def RelO:Option V->Option Value->Prop
 |some v,some u=>RelV v u
 |none,none=>True
 |_,_=>False
def KV{κ:Type}:List (κ×V)->List (κ×Value)->Prop:=Paired λ(p:κ×V) (q:κ×Value)=>p.1=q.1/\RelV p.2 q.2
noncomputable def kV:Key->V
 |.inl i=>.int i
 |.inr x=>.str x
inductive HO where
 |lst (xs:List V)
 |tup (xs:List V)
 |dK (kvs:List (Key×V))|dT (kvs:List (List Key×V))
 |set (S:Int->Bool) (n:Nat)
 |ins (C dx:Addr) (fs:List (Str×V))
 |own (x:Addr)
 |xd (fs:List (Str×V))
 |met (f x:Addr)
 |rng (lo hi:Int)
 |frz (o:Obj) (u:HO)
 |tbl (ps:Array Value)
 |ext (φ:Heap->Prop)
abbrev Hp:=Addr->Option HO
noncomputable def upd(H:Hp)(a:Addr)(o:HO):Hp:=λb=>if b=a then some o else H b
theorem A0{H:Hp}{a:Addr}{o:HO}:upd H a o a=some o:=by unfold upd;rw[ay rfl]
theorem A1{H:Hp}{a b:Addr}{o:HO}(h:b≠a):upd H a o b=H b:=by unfold upd;rw[ao h]
theorem a4n{H:Hp}{a:Addr}{o u:HO}:upd (upd H a o) a u=upd H a u:=by
 funext b;unfold upd;split<;>rfl
theorem G4{H:Hp}{a b:Addr}{o u:HO}(h:H a=some o)(h':H b=some u)(d:o≠u):a≠b:=by
 intro e;subst e;rw[h]at h';exact d (bx h')
theorem A6{H:Hp}{a b:Addr}{o:HO}(h:H a=some o)(h':H b=none):a≠b:=by
 intro e;subst e;rw[h]at h';cases h'
section
variable (P:Program) (w:World)
def ObjOk(H:Hp)(h:Heap)(a:Addr):HO->Prop
 |.lst xs=>xs.length<=sizeLine/\∃(its:List Value) (n:Nat),Vals xs its/\h.get? a=some {cls:=.type "list",data:=.seq its.toArray n}
 |.tup xs=>xs.length<=sizeLine/\∃its:List Value,Vals xs its/\IsTup h a its.toArray
 |.dK kvs=>kvs.length<=sizeLine/\(a==sysModules)=false/\∃vs,KV kvs vs/\h.DictOf (B5 P w) a vs
 |.dT kvs=>kvs.length<=sizeLine/\(a==sysModules)=false/\∃xs:List (List Key×Addr×Value),
   Paired (λ(p:List Key×V) (q:List Key×Addr×Value)=>p.1=q.1/\H q.2.1=some (.tup (p.1.map kV))/\RelV p.2 q.2.2) kvs xs /\
   ∃o es ep,h.get? a=some o/\o.ExactDict/\o.data=.dict es ep/\es.toList=xs.map (entryOfKey (tupleKind (B5 P w)))/\(xs.map (·.1)).Nodup
 |.set S n=>h.SetOf (intKind P w) a S n
 |.ins C dx fs=>H dx=some (.own a)/\fs.length<=1000/\dx≠a/\h.get? a=some (PySem.W.instObj C dx) /\
   ∃mA,h.Ns1 dx mA/\(∀f,RelO (fs.lookup f) (mA f))/\PySem.Within mA (fs.map (·.1))
 |.own _=>∃o,h.get? a=some o
 |.xd fs=>∃mA,h.Ns1 a mA/\∀f,RelO (fs.lookup f) (mA f)
 |.rng lo hi=>∃t u v,h.get? a=some {cls:=.type "range",data:=.fields #[.int lo t,.int hi u,.int 1 v]}
 |.frz o u=>h.get? a=some o/\ObjOk H h a u
 |.tbl ps=>h.get? a=some {cls:=.none,data:=.fields ps}
 |.met f x=>h.get? a=some (PySem.W.methodObj (.ref f) (.ref x))
 |.ext φ=>φ h/\(∃o,h.get? a=some o)/\∀h1 h2:Heap,φ h1->(∀o,h1.get? a=some o->h2.get? a=some o)->φ h2
def HOk(H:Hp)(h:Heap):Prop:=∀a o,H a=some o->ObjOk P w H h a o
end
section
variable {P:Program}{w:World}{H H':Hp}{h h':Heap}{a:Addr}{o:HO}
theorem ObjOk.lt(x:ObjOk P w H h a o):a<h.objs.size:=by
 cases o with
 |lst xs=>obtain⟨_,_,_,_,e⟩:=x;exact aI e
 |tup xs=>obtain⟨_,_,_,p⟩:=x;exact p.lt
 |dK kvs=>obtain⟨_,_,_,_,o,_,_,e,_⟩:=x;exact aI e
 |dT kvs=>obtain⟨_,_,_,_,o,_,_,e,_⟩:=x;exact aI e
 |set S n=>obtain⟨o,_,_,_,e,_⟩:=x;exact aI e
 |ins C dx fs=>obtain⟨_,_,_,e,_⟩:=x;exact aI e
 |own y=>obtain⟨_,e⟩:=x;exact aI e
 |xd fs=>obtain⟨_,⟨_,_,_,e,_⟩,_⟩:=x;exact aI e
 |rng lo hi=>obtain⟨_,_,_,e⟩:=x;exact aI e
 |frz ob u=>obtain⟨e,_⟩:=x;exact aI e
 |tbl ps=>exact aI (show h.get? a=some _ from x)
 |met f y=>exact aI (show h.get? a=some _ from x)
 |ext φ=>obtain⟨_,⟨_,e⟩,_⟩:=x;exact aI e
theorem Paired.mapP{α β:Type}{F G:α->β->Prop}:∀{l₁:List α}{l₂:List β},Paired F l₁ l₂->(∀a b,F a b->G a b)->Paired G l₁ l₂
 |_,_,.nil,_=>.nil
 |_,_,.cons r t,f=>.cons (f _ _ r) (Paired.mapP t f)
theorem Paired.imp'{α β:Type}{F G:α->β->Prop}(f:∀a b,F a b->G a b){l₁:List α}{l₂:List β}(r:Paired F l₁ l₂):Paired G l₁ l₂:=Paired.mapP r f
theorem ObjOk.stay(x:ObjOk P w H h a o)(k:∀b u,(b=a∨H b=some (.own a))->h.get? b=some u->h'.get? b=some u)
  (j:∀b,H b=some (.own a)->H' b=some (.own a)) (l:∀b xs,H b=some (.tup xs)->H' b=some (.tup xs)):ObjOk P w H' h' a o:=by
 induction o with
 |lst xs=>obtain⟨z,its,n,r,e⟩:=x;exact⟨z,its,n,r,k _ _ (.inl rfl) e⟩
 |tup xs=>obtain⟨z,its,r,g,e,c⟩:=x;exact⟨z,its,r,g,k _ _ (.inl rfl) e,c⟩
 |dK kvs=>obtain⟨z,y,s,r,g,es,ep,e,c⟩:=x;exact⟨z,y,s,r,g,es,ep,k _ _ (.inl rfl) e,c⟩
 |dT kvs =>
  obtain⟨z,y,xs,r,g,es,ep,e,c⟩:=x;exact⟨z,y,xs,Paired.mapP r λp q z=>⟨z.1,l _ _ z.2.1,z.2.2⟩,g,es,ep,k _ _ (.inl rfl) e,c⟩
 |set S n=>obtain⟨g,es,ep,t,e,c⟩:=x;exact⟨g,es,ep,t,k _ _ (.inl rfl) e,c⟩
 |ins C dx fs =>
  obtain⟨d,z,ne,e,mA,⟨od,es,ep,i,c⟩,r⟩:=x;exact⟨j _ d,z,ne,k _ _ (.inl rfl) e,mA,⟨od,es,ep,k _ _ (.inr d) i,c⟩,r⟩
 |own y=>obtain⟨g,e⟩:=x;exact⟨g,k _ _ (.inl rfl) e⟩
 |xd fs=>obtain⟨mA,⟨od,es,ep,e,c⟩,r⟩:=x;exact⟨mA,⟨od,es,ep,k _ _ (.inl rfl) e,c⟩,r⟩
 |rng lo hi=>obtain⟨t,u,v,e⟩:=x;exact⟨t,u,v,k _ _ (.inl rfl) e⟩
 |frz g u m=>obtain⟨e,q⟩:=x;exact⟨k _ _ (.inl rfl) e,m q⟩
 |tbl ps =>
  have e:h.get? a=some {cls:=.none,data:=.fields ps}:=x;show h'.get? a=some {cls:=.none,data:=.fields ps};exact k a _ (.inl rfl) e
 |met f y =>
  have e:h.get? a=some (PySem.W.methodObj (.ref f) (.ref y)):=x;show h'.get? a=some (PySem.W.methodObj (.ref f) (.ref y));exact k a _ (.inl rfl) e
 |ext φ=>obtain⟨p,⟨o,e⟩,st⟩:=x;exact⟨st _ _ p λo q=>k _ _ (.inl rfl) q,⟨o,k _ _ (.inl rfl) e⟩,st⟩
theorem HOk.lt(x:HOk P w H h)(e:H a=some o):a<h.objs.size:=(x a o e).lt
theorem HOk.fresh(x:HOk P w H h)(e:h.objs.size<=a):H a=none:=by
 cases q:H a with
 |none=>rfl
 |some u=>exact absurd (aK (x.lt q) e) (bQ _)
theorem HOk.kept(x:HOk P w H h)(k:∀b u,h.get? b=some u->h'.get? b=some u):HOk P w H h':=λa o e =>
 (x a o e).stay (λb u _ q=>k b u q) (λ_ q=>q) λ_ _ q=>q
theorem HOk.laid(x:HOk P w H h)(k:∀b u,h.get? b=some u->h'.get? b=some u)(hp:h.objs.size<=a)(new:ObjOk P w (upd H a o) h' a o):HOk P w (upd H a o) h':=λb u e=>by
 have f:=x.fresh hp;by_cases d:b=a
 .subst d;rw[A0]at e;cases e;exact new
 .rw[A1 d]at e;exact(x b u e).stay (λc v _ q=>k c v q) (λc q=>by rw[A1 (A6 q f)];exact q) λc xs q=>by rw[A1 (A6 q f)];exact q
end
def Rd(H:Hp)(a:Addr)(u:HO):Prop:=H a=some u∨∃o,H a=some (.frz o u)
theorem Rd.ok{P:Program}{w:World}{H:Hp}{h:Heap}{a:Addr}{u:HO}(r:Rd H a u)(x:HOk P w H h):ObjOk P w H h a u:=by
 rcases r with r|⟨o,r⟩
 .exact x a u r
 .obtain⟨_,q⟩:=x a _ r;exact q
def Mut:Option HO->Prop
 |some (.lst _)=>True
 |some (.dK _)=>True
 |some (.dT _)=>True
 |some (.set _ _)=>True
 |some (.ins _ _ _)=>True
 |some (.ext _)=>True
 |_=>False
section
variable {P:Program}{w:World}{H:Hp}{h h':Heap}{x e:Addr}{o':HO}
theorem HOk.write(ok:HOk P w H h)(j:Mut (H x))(m:e=x∨H e=some (.own x))(k:∀b u,b≠e->h.get? b=some u->h'.get? b=some u)(l:∃u,h'.get? e=some u)
  (new:ObjOk P w (upd H x o') h' x o'):HOk P w (upd H x o') h':=λb u q=>by
 have d:∀c y,H c=some (.own y)->c≠x:=λc y r z=>by subst z;rw[r]at j;exact j
 have f:∀c xs,H c=some (.tup xs)->c≠x:=λc xs r z=>by subst z;rw[r]at j;exact j
 by_cases g:b=x
 .subst g;rw[A0]at q;cases q;exact new
 .rw[A1 g]at q;by_cases a:b=e
  .have q':H b=some (.own x):=by
    rcases m with z|z
    .exact absurd (a.trans z) g
    .rw[a];exact z
   rw[q]at q';cases q';obtain⟨v,n⟩:=l;exact⟨v,by rw[a];exact n⟩
  .refine(ok b u q).stay (λc v i r=>k c v ?_ r) (λc r=>by rw[A1 (d c b r)];exact r) λc xs r=>by rw[A1 (f c xs r)];exact r
   rcases i with rfl|i
   .exact a
   .rintro rfl;rcases m with z|z
    .exact d c b i z
    .rw[i]at z;cases z;exact g rfl
end
structure Un(fs ex:List Addr)(H H':Hp)(h h':Heap):Prop where
 keep:∀b o,h.get? b=some o->H b=none->b∉fs->b∉ex->h'.get? b=some o
 slot:∀b o,h.get? b=some o->H b=none->b∈fs->b∉ex->∃sl,h'.get? b=some {o with slots:=sl}
 free:∀b o,h.get? b=some o->H b=none->b∉ex->H' b=none
 there:∀b o,h.get? b=some o->b∉ex->∃o',h'.get? b=some o'
 tups:∀b xs,H b=some (.tup xs)->H' b=some (.tup xs)
 frzs:∀b o u,H b=some (.frz o u)->H' b=some (.frz o u)
 tbls:∀b ps,H b=some (.tbl ps)->∃more,H' b=some (.tbl (ps++more))
section
variable {fs fs' ex ex':List Addr}{H H1 H2:Hp}{h h1 h2 h':Heap}{a x e:Addr}{o:HO}
theorem Un.any(u:Un fs ex H H1 h h1){b:Addr}{a:Obj}(q:h.get? b=some a)(n:H b=none)(d:b∉ex):∃sl,h1.get? b=some {a with slots:=sl}:=by
 by_cases c:b∈fs
 .exact u.slot b a q n c d
 .exact⟨a.slots,u.keep b a q n c d⟩
theorem Un.kept(k:∀b u,h.get? b=some u->h'.get? b=some u):Un fs ex H H h h' :=
 ⟨λb a q _ _ _=>k b a q,λb a q _ _ _=>⟨a.slots,k b a q⟩,λ_ _ _ n _=>n,λb a q _=>⟨a,k b a q⟩,λ_ _ q=>q,λ_ _ _ q=>q,λ_ ps q=>⟨#[],by rw[q];simp⟩⟩
theorem Un.refl:Un fs ex H H h h:=Un.kept λ_ _ q=>q
theorem Un.laid(k:∀b u,h.get? b=some u->h'.get? b=some u)(hp:h.objs.size<=a)(c:H a=none):Un fs ex H (upd H a o) h h' where
 keep:=λb u q _ _ _=>k b u q
 slot:=λb u q _ _ _=>⟨u.slots,k b u q⟩
 free:=λb u q n _=>by rw[A1 (aM (aK (aI q) hp))];exact n
 there:=λb u q _=>⟨u,k b u q⟩
 tups:=λb xs q=>by rw[A1 (A6 q c)];exact q
 frzs:=λb u xs q=>by rw[A1 (A6 q c)];exact q
 tbls:=λb ps q=>⟨#[],by rw[A1 (A6 q c),q];simp⟩
theorem Un.write(c:Mut (H x))(j:e=x∨H e=some (.own x))(k:∀b u,b≠e->h.get? b=some u->h'.get? b=some u)(d:∃u,h'.get? e=some u):Un fs ex H (upd H x o) h h':=by
 have i:∀b,H b=none->b≠x:=λb n z=>by subst z;rw[n]at c;exact c
 have g:∀b,H b=none->b≠e:=λb n z=>by
  subst z;rcases j with r|r
  .exact i b n r
  .rw[n]at r;cases r
 have f:∀b u,H b=some u->¬Mut (some u)->b≠x:=λb u q nm z=>by subst z;rw[q]at c;exact nm c
 refine⟨λb u q n _ _=>k b u (g b n) q,λb u q n _ _=>⟨u.slots,k b u (g b n) q⟩,λb u q n _=>by rw[A1 (i b n)];exact n,λb u q _=>?_,
  λb xs q=>by rw[A1 (f b _ q λz=>z)];exact q,λb u xs q=>by rw[A1 (f b _ q λz=>z)];exact q,λb ps q=>⟨#[],by rw[A1 (f b _ q λz=>z),q];simp⟩⟩
 by_cases a:b=e
 .subst a;exact d
 .exact⟨u,k b u a q⟩
end
noncomputable def trk(h:Heap)(H:Hp):List Addr:=(List.range h.objs.size).filter λa=>(H a).isSome
noncomputable def a5b(h:Heap)(H:Hp):Heap:=PySem.W.hideAll h (trk h H)
theorem a9M(h:Heap)(H:Hp):(a5b h H).objs.size=h.objs.size:=PySem.W.hideAll_size _ _
theorem b2n{h:Heap}{H:Hp}{b:Addr}{o:Obj}(e:h.get? b=some o)(n:H b=none):(a5b h H).get? b=some o :=
 PySem.W.hideAll_get _ e λa=>by
  have q:(H b).isSome=true:=(aX.mp a).2;rw[n]at q;simp at q
theorem b4h{h:Heap}{H:Hp}{b:Addr}{o:Obj}(e:(a5b h H).get? b=some o):h.get? b=some o/\H b=none:=by
 have a:h.get? b=some o:=PySem.W.of_hideAll (trk h H) e;refine⟨a,?_⟩;cases q:H b with
 |none=>rfl
 |some x =>
  have c:b∈trk h H:=aX.mpr ⟨ba.mpr (aI a),by simp[q]⟩;have z:(a5b h H).get? b=none:=PySem.W.hideAll_none (trk h H) c;rw[z]at e;cases e
noncomputable def b4Q(g h:Heap)(L:Addr):List (Addr×Obj):=(List.range h.objs.size).filterMap λa=>if a=L∨(g.get? a).isSome=true then none else(h.get? a).map λo=>(a,o)
noncomputable def rest(g h:Heap)(L d:Addr):List (Addr×Obj):=(b4Q g h L).filter λp=>decide (p.1≠d)
structure Mod(K:PySem.W.Frag)(mg:Str->Option Value)(base:Heap):Prop where
 kin:K.In base
 glob:base.Ns mainGlobals mg
 blt:∃mb,base.Ns builtinsNs mb/\∀x:Str,x≠"__name__"->mb x=bootBuiltins x
 nolimit:base.NoLimit
structure Cx where
 prog:Program
 w:World
 K:PySem.W.Frag
 mg:Str->Option Value
 base:Heap
 A:Around
 N:List Str
 s₀:Shared
 H₀:Hp
 env:Env
 outer:List Env
 stack:List Env
 ex:List Addr
 fn:Str->Bool
 calm:Bool
 pn:List (Addr×Obj)
 xe:Value->Shared->Prop
noncomputable def frs(l:List Env):List Addr:=l.filterMap (·.frame)
noncomputable abbrev Cx.fs(X:Cx):List Addr:=frs X.outer
def Vis(sc:Scope)(x:Str):Prop:=sc.names.lookup x=some .local∨sc.names.lookup x=some .cell∨sc.names.lookup x=some .free
def Loc(sc:Scope)(x:Str):Prop:=sc.names.lookup x=some .local∨sc.names.lookup x=some .cell
def b8k(env:Env)(h:Heap)(m:Str->Option Value)(x:Str)(u:Value):Prop :=
 (env.kindOf x=some .local/\m x=some u)∨((env.kindOf x=some .cell∨env.kindOf x=some .free)/\∃c,env.cells.lookup x=some c/\h.IsCell c (some u))
structure Cx.Ok(X:Cx):Prop where
 mod:Mod X.K X.mg X.base
 kind:X.env.scope.kind=.function
 glob:X.env.globals=mainGlobals
 blt:X.env.builtins=builtinsNs
 above:X.s₀.heap.objs.size<=X.env.locals
 inj:∀x y c,X.env.cells.lookup x=some c->X.env.cells.lookup y=some c->x=y
 has:∀x,(X.env.kindOf x=some .cell∨X.env.kindOf x=some .free)->∃c,X.env.cells.lookup x=some c
 cab:∀x c,X.fn x=true->X.env.cells.lookup x=some c->X.s₀.heap.objs.size<=c
 hd:X.calm=true->X.A.handled=none
 frames:X.A.frames=some X.stack
 stk:X.stack=X.outer∨(X.stack=X.env::X.outer/\X.env.frame=some X.env.locals)
 exf:∀b∈X.ex,b≠X.env.locals/\∀x c,X.env.cells.lookup x=some c->c≠b
 bs:∀b o,X.base.get? b=some o->X.s₀.heap.get? b=some o/\X.H₀ b=none
 bsz:X.base.objs.size<=X.s₀.heap.objs.size
 noex:∀b o,X.base.get? b=some o->b∉X.ex
 exfs:∀b∈X.ex,b∉X.fs
 funs:X.s₀.heap.FunFrames X.base X.outer
 frf:∀b∈X.fs,X.H₀ b=none
structure Inv(X:Cx)(pins:List (Addr×Obj))(σ:List (Option V))(H:Hp)(s:Shared):Prop where
 ok:X.Ok
 os:s.os=X.s₀.os
 bare:AllBare s.gens
 base:Un X.fs X.ex X.H₀ H X.s₀.heap s.heap
 loc:∃m,s.heap.Ns X.env.locals m/\∀(i:Nat) (x:Str) (v:V),X.N[i]?=some x->σ[i]?=some (some v)->Vis X.env.scope x->∃u,RelV v u/\b8k X.env s.heap m x u
 cell:∀x c,X.env.cells.lookup x=some c->∃v,s.heap.IsCell c v
 free:H X.env.locals=none
 freeC:∀x c,X.env.cells.lookup x=some c->H c=none
 pin:∀p∈X.pn++pins,s.heap.get? p.1=some p.2/\H p.1=none/\p.1≠X.env.locals/\p.1∉X.fs/\∀v,p.2.data≠.cell v
 hok:HOk X.prog X.w H s.heap
 len:σ.length=X.N.length
section
variable {X:Cx}{pins:List (Addr×Obj)}{σ:List (Option V)}{H H':Hp}{s:Shared}{h':Heap}
theorem Cx.Ok.nofr(ok:X.Ok){b:Addr}{o:Obj}(e:X.base.get? b=some o):b∉X.fs:=λa=>by
 have:=(ok.funs.mem a).1;rw[e]at this;cases this
theorem Inv.bs(I:Inv X pins σ H s):∀b o,X.base.get? b=some o->s.heap.get? b=some o/\H b=none:=λb o e =>
 ⟨I.base.keep b o (I.ok.bs b o e).1 (I.ok.bs b o e).2 (I.ok.nofr e) (I.ok.noex b o e),I.base.free b o (I.ok.bs b o e).1 (I.ok.bs b o e).2 (I.ok.noex b o e)⟩
theorem Inv.bk(I:Inv X pins σ H s):∀b o,X.base.get? b=some o->s.heap.get? b=some o:=λb o e=>(I.bs b o e).1
theorem Inv.mod(I:Inv X pins σ H s):Mod X.K X.mg X.base:=I.ok.mod
theorem Inv.kIn(I:Inv X pins σ H s):X.K.In s.heap:=I.ok.mod.kin.keeps I.bk
theorem Inv.lt(I:Inv X pins σ H s):X.env.locals<s.heap.objs.size:=let ⟨_,hn,_⟩:=I.loc;hn.lt
theorem Inv.sz(I:Inv X pins σ H s):X.s₀.heap.objs.size<=s.heap.objs.size:=bb I.ok.above (cH I.lt)
theorem Inv.nofs(I:Inv X pins σ H s){a:Addr}(h:s.heap.objs.size<=a):a∉X.fs:=λb=>by
 obtain⟨_,o,c,_⟩:=I.ok.funs.mem b;exact absurd (aK (aI c) (bb I.sz h)) (bQ _)
theorem Inv.cne(I:Inv X pins σ H s):∀x c,X.env.cells.lookup x=some c->c≠X.env.locals:=λx c e z=>by
 obtain⟨v,o,d,hd⟩:=I.cell x c e;obtain⟨m,⟨o',es,ep,b,a,_⟩,_⟩:=I.loc;rw[z,b]at d;cases d;rw[a]at hd;cases hd
theorem Inv.funs(I:Inv X pins σ H s):s.heap.FunFrames X.base X.outer:=by
 have all:∀(l:List Env),(∀b∈frs l,b∈X.fs)->X.s₀.heap.FunFrames X.base l->s.heap.FunFrames X.base l:=by
  intro l;induction l with
  |nil=>intro _ _;trivial
  |cons env r k =>
   intro hs g;obtain⟨f,⟨L,o,d,h,i,hd⟩,j⟩:=g;have a:L∈X.fs:=hs L (by unfold frs;rw[List.filterMap_cons,d];exact ar);obtain⟨sl,e⟩:=I.base.slot L o i (I.ok.frf L a) a λz=>I.ok.exfs L z a;exact⟨f,⟨L,_,d,h,e,hd⟩,k (λb c=>hs b (by unfold frs;rw[List.filterMap_cons,d];exact av _ c)) j⟩
 exact all X.outer (λ_ c=>c) I.ok.funs
theorem Inv.stack(I:Inv X pins σ H s):s.heap.FunFrames X.base X.stack:=by
 rcases I.ok.stk with e|⟨e,a⟩
 .rw[e];exact I.funs
 .rw[e];obtain⟨m,b,_⟩:=I.loc;refine .cons (by rw[I.ok.kind];decide) a b ?_ I.funs;exact Heap.get?_none_of_le (bb I.ok.bsz I.ok.above)
theorem Inv.stkSub(I:Inv X pins σ H s):∀b∈frs X.stack,b∈X.env.locals::X.fs:=λb a=>by
 rcases I.ok.stk with e|⟨e,c⟩
 .rw[e]at a;exact av _ a
 .rw[e]at a;unfold frs at a;rw[List.filterMap_cons,c]at a;exact a
theorem Inv.stkFree(I:Inv X pins σ H s):∀b∈frs X.stack,H b=none:=λb a=>by
 rcases aE.mp (I.stkSub b a)with e|a
 .rw[e];exact I.free
 .obtain⟨_,o,ho,_⟩:=I.ok.funs.mem a;exact I.base.free b o ho (I.ok.frf b a) λz=>I.ok.exfs b z a
theorem Inv.step{g':Array GenState}{t':Nat}{d':Drawn}{ch:List Addr}(I:Inv X pins σ H s)
  (g:∀b∈ch,(b∈X.ex∨X.s₀.heap.objs.size<=b)/\b≠X.env.locals/\(∀x c,X.env.cells.lookup x=some c->c≠b)/\∀p∈X.pn++pins,p.1≠b)
  (keep:∀b o,b≠X.env.locals->b∉X.fs->b∉ch->s.heap.get? b=some o->H b=none->h'.get? b=some o)
  (w:∀b o,b≠X.env.locals->b∈X.fs->b∉ch->s.heap.get? b=some o->H b=none->∃sl,h'.get? b=some {o with slots:=sl}) (free:∀b o,b∉ch->s.heap.get? b=some o->H b=none->H' b=none)
  (there:∀b o,b∉ch->s.heap.get? b=some o->∃o',h'.get? b=some o')
  (F:∀b xs,H b=some (.tup xs)->H' b=some (.tup xs)) (C:∀b o u,H b=some (.frz o u)->H' b=some (.frz o u)) (E:∀b ps,H b=some (.tbl ps)->∃more,H' b=some (.tbl (ps++more)))
  (P:∀m,s.heap.Ns X.env.locals m->h'.Ns X.env.locals m) (G:HOk X.prog X.w H' h') (N:AllBare g') :
  Inv X pins σ H' {s with heap:=h',gens:=g',drawn:=d',toks:=t'}:=by
 have D:∀b o,X.s₀.heap.get? b=some o->b≠X.env.locals:=λb o e=>aM (aK (aI e) I.ok.above);have t:∀b o,X.s₀.heap.get? b=some o->b∉X.ex->b∉ch:=λb o e a y=>by
  rcases(g b y).1 with z|z
  .exact a z
  .exact absurd (aK (aI e) z) (bQ _)
 have f:∀x c,X.env.cells.lookup x=some c->∀v,s.heap.IsCell c v->h'.IsCell c v:=λx c e v ⟨o,A,hd⟩=>by
  have h:c∉ch:=λz=>(g c z).2.2.1 x c e rfl;by_cases K:c∈X.fs
  .obtain⟨sl,q⟩:=w c o (I.cne x c e) K h A (I.freeC x c e);exact⟨_,q,hd⟩
  .exact⟨o,keep c o (I.cne x c e) K h A (I.freeC x c e),hd⟩
 refine⟨I.ok,I.os,N,⟨λb o e n y a=>?_,λb o e n y a=>?_,λb o e n a=>?_,λb o e a=>?_,λb xs e=>F b xs (I.base.tups b xs e),λb o xs e=>C b o xs (I.base.frzs b o xs e),λb ps e=>?_⟩,?_,λx c e=>?_,?_,λx c e=>?_,λp L=>?_,G,I.len⟩
 .exact keep b o (D b o e) y (t b o e a) (I.base.keep b o e n y a) (I.base.free b o e n a)
 .obtain⟨sl,j⟩:=I.base.slot b o e n y a;obtain⟨J,B⟩:=w b _ (D b o e) y (t b o e a) j (I.base.free b o e n a);exact⟨J,B⟩
 .obtain⟨o',j⟩:=I.base.there b o e a;exact free b o' (t b o e a) j (I.base.free b o e n a)
 .obtain⟨o',j⟩:=I.base.there b o e a;exact there b o' (t b o e a) j
 .obtain⟨m1,j⟩:=I.base.tbls b ps e;obtain⟨O,B⟩:=E b _ j;exact⟨m1++O,by rw[B,Array.append_assoc]⟩
 .obtain⟨m,hn,hl⟩:=I.loc;refine⟨m,P m hn,λi x v j B M=>?_⟩;obtain⟨u,r,l⟩:=hl i x v j B M;refine⟨u,r,?_⟩;rcases l with l|⟨k,c,e,z⟩
  .exact .inl l
  .exact .inr ⟨k,c,e,f x c e _ z⟩
 .obtain⟨v,z⟩:=I.cell x c e;exact⟨v,f x c e v z⟩
 .obtain⟨m,⟨o,_,_,A,_⟩,_⟩:=I.loc;exact free _ o (λz=>(g _ z).2.1 rfl) A I.free
 .obtain⟨v,o,A,hd⟩:=I.cell x c e;exact free c o (λz=>(g c z).2.2.1 x c e rfl) A (I.freeC x c e)
 .obtain⟨e,n,ne,nf,d⟩:=I.pin p L;have h:p.1∉ch:=λz=>(g p.1 z).2.2.2 p L rfl;exact⟨keep p.1 p.2 ne nf h e n,free p.1 p.2 h e n,ne,nf,d⟩
theorem Inv.un{t':Nat}(I:Inv X pins σ H s)(u:Un X.fs [] H H' s.heap h')(g:HOk X.prog X.w H' h'):Inv X pins σ H' {s with heap:=h',toks:=t'}:=by
 obtain⟨m,⟨o,es,ep,h,r⟩,_⟩:=id I.loc;obtain⟨sl,i⟩:=u.any h I.free (by simp);exact I.step (g':=s.gens) (d':=s.drawn) (ch:=[]) (λ_ z=>nomatch z) (λb o _ f _ e n=>u.keep b o e n f (by simp)) (λb o _ f _ e n=>u.slot b o e n f (by simp)) (λb o _ e n=>u.free b o e n (by simp)) (λb o _ e=>u.there b o e (by simp)) u.tups u.frzs u.tbls (λl j=>by
  obtain⟨o',d,c,a,k⟩:=j;rw[h]at a;cases a;exact⟨_,d,c,i,k⟩) g I.bare
theorem Inv.call{g':Array GenState}{t':Nat}{d':Drawn}{ch:List Addr}(I:Inv X pins σ H s)(u:Un (frs X.stack) ch H H' s.heap h')(j:HOk X.prog X.w H' h')(q:AllBare g')
  (d:∀b∈ch,(b∈X.ex∨X.s₀.heap.objs.size<=b)/\b≠X.env.locals/\(∀x c,X.env.cells.lookup x=some c->c≠b)/\∀p∈X.pn++pins,p.1≠b) :
  Inv X pins σ H' {s with heap:=h',gens:=g',drawn:=d',toks:=t'}:=by
 obtain⟨m,⟨o,es,ep,k,r⟩,_⟩:=id I.loc;obtain⟨sl,i⟩:=u.any k I.free λz=>(d _ z).2.1 rfl;exact I.step (ch:=ch) d (λb o i l a e n=>u.keep b o e n (λz=>(aE.mp (I.stkSub b z)).elim i l) a) (λb o _ _ a e n=>u.any e n a) (λb o a e n=>u.free b o e n a) (λb o a e=>u.there b o e a) u.tups u.frzs u.tbls (λw t=>by
  obtain⟨o',h,g,f,v⟩:=t;rw[k]at f;cases f;exact⟨_,h,g,i,v⟩) j q
theorem Inv.turned{t':Nat}{it:Addr}(I:Inv X pins σ H s)(k:∀b o,b≠it->s.heap.get? b=some o->h'.get? b=some o)(j:H it=none)(f:it≠X.env.locals)
  (h1:it∈X.ex∨X.s₀.heap.objs.size<=it) (h2:∀x c,X.env.cells.lookup x=some c->c≠it) (g:∀p∈X.pn++pins,p.1≠it):Inv X pins σ H {s with heap:=h',toks:=t'}:=by
 have d:∀b u,H b=some u->b≠it:=λb u e z=>by rw[z,j]at e;cases e
 refine I.step (g':=s.gens) (d':=s.drawn) (ch:=[it]) (λb h=>?_) (λb o _ _ a e _=>k b o (λz=>a (by simp[z])) e) (λb o _ _ a e _=>⟨o.slots,k b o (λz=>a (by simp[z])) e⟩) (λ_ _ _ _ n=>n)
  (λb o a e=>⟨o,k b o (λz=>a (by simp[z])) e⟩) (λ_ _ e=>e) (λ_ _ _ e=>e) (λb ps e=>⟨#[],by rw[e];simp⟩) (λm i=>?_) (λb u e=>?_) I.bare
 .have e:b=it:=by simpa using h
  subst e;exact⟨h1,f,h2,g⟩
 .obtain⟨o,es,ep,ho,r⟩:=i;exact⟨o,es,ep,k _ o (dC f) ho,r⟩
 .refine(I.hok b u e).stay (λc v a q=>k c v ?_ q) (λ_ q=>q) λ_ _ q=>q;rcases a with z|z
  .rw[z];exact d b u e
  .exact d c _ z
theorem Inv.tok(I:Inv X pins σ H s)(t:Nat):Inv X pins σ H {s with toks:=t}:=I.un (h':=s.heap) (t':=t) Un.refl I.hok
theorem Inv.kept{t':Nat}(I:Inv X pins σ H s)(k:∀b u,s.heap.get? b=some u->h'.get? b=some u):Inv X pins σ H {s with heap:=h',toks:=t'}:=I.un (Un.kept k) (I.hok.kept k)
theorem Inv.laid{a:Addr}{o:HO}{t':Nat}(I:Inv X pins σ H s)(k:∀b u,s.heap.get? b=some u->h'.get? b=some u)(hp:s.heap.objs.size<=a)(new:ObjOk X.prog X.w (upd H a o) h' a o) :
  Inv X pins σ (upd H a o) {s with heap:=h',toks:=t'}:=I.un (Un.laid k hp (I.hok.fresh hp)) (I.hok.laid k hp new)
theorem Inv.write{x e:Addr}{o:HO}{t':Nat}(I:Inv X pins σ H s)(d:Mut (H x))(c:e=x∨H e=some (.own x))(k:∀b u,b≠e->s.heap.get? b=some u->h'.get? b=some u)(a:∃u,h'.get? e=some u)
  (new:ObjOk X.prog X.w (upd H x o) h' x o):Inv X pins σ (upd H x o) {s with heap:=h',toks:=t'}:=I.un (Un.write d c k a) (I.hok.write d c k a new)
theorem Inv.weak{σ':List (Option V)}(I:Inv X pins σ H s)(d:σ'.length=σ.length)(w:∀(i:Nat) v,σ'[i]?=some (some v)->σ[i]?=some (some v)):Inv X pins σ' H s :=
 ⟨I.ok,I.os,I.bare,I.base,let ⟨m,hn,hl'⟩:=I.loc;⟨m,hn,λi x v a b c=>hl' i x v a (w i v b) c⟩,I.cell,I.free,I.freeC,I.pin,I.hok,d.trans I.len⟩
theorem Inv.pins_of{pins':List (Addr×Obj)}(I:Inv X pins σ H s)(h:∀p∈pins',s.heap.get? p.1=some p.2/\H p.1=none/\p.1≠X.env.locals/\p.1∉X.fs/\∀v,p.2.data≠.cell v):Inv X pins' σ H s :=
 ⟨I.ok,I.os,I.bare,I.base,I.loc,I.cell,I.free,I.freeC,λp a=>(aC.mp a).elim (λz=>I.pin p (aS _ z)) (h p),I.hok,I.len⟩
theorem a5T{N:List Str}(e:N.Nodup){i j:Nat}{x:Str}(a:N[i]?=some x)(b:N[j]?=some x):i=j:=by
 obtain⟨h1,c⟩:=aN.mp a;obtain⟨h2,d⟩:=aN.mp b;exact(List.getElem_inj e).mp (c.trans d.symm)
theorem a3D{M:Model}{A:Around}{E:Value->Shared->Prop}{i:Nat}{x:Str}{v:V}{u:Value}{Q:Unit->Shared->Prop}(I:Inv X pins σ H s)(Z:X.N.Nodup)(hi:X.N[i]?=some x)(t:Loc X.env.scope x)(r:RelV v u)
  (h:∀s',Inv X pins (σ.set i (some v)) H s'->(∃a,Heap.SameBut a s.heap s'.heap/\(a=X.env.locals∨X.env.cells.lookup x=some a))->Q () s') (hf:X.fn x=true∨X.env.scope.names.lookup x=some .local:=by first|exact .inl rfl|exact .inr rfl|assumption):wpAny M A (storeName X.env x u) Q E s:=by
 obtain⟨m,P,hl⟩:=id I.loc;have G:(X.env.scope.kind==.class || (X.env.scope.kind==.module && X.env.locals != X.env.globals))=false:=by rw[I.ok.kind];rfl
 have hiσ:i<σ.length:=by rw[I.len];exact(aN.mp hi).1
 have cne:=I.cne;have g:∀{a:Addr}{h':Heap},(∃o,s.heap.get? a=some o/\H a=none)->Heap.SameBut a s.heap h'->HOk X.prog X.w H h':=λ{a h'} ha hs b ob e=>by
  obtain⟨_,_,w⟩:=ha;refine(I.hok b ob e).stay (λc N l q=>(hs.2 c ?_).trans q) (λ_ q=>q) λ_ _ q=>q;rintro rfl;rcases l with rfl|l
  .rw[w]at e;cases e
  .rw[w]at l;cases l
 rcases t with C|C
 .refine wpAny_storeName_local C P (λh' R hs=>?_) G;obtain⟨oL,_,_,S,_⟩:=id P;refine h _ ⟨I.ok,I.os,I.bare,⟨λb o e n D t=>?_,λb o e n D t=>?_,I.base.free,λb o e t=>?_,I.base.tups,I.base.frzs,I.base.tbls⟩,⟨_,R,λj y Y f B O=>?_⟩,λy c e=>?_,I.free,I.freeC,λp T=>?_,g ⟨oL,S,I.free⟩ hs,by simpa using I.len⟩ ⟨_,hs,.inl rfl⟩
  .exact(hs.2 b (aM (aK (aI e) I.ok.above))).trans (I.base.keep b o e n D t)
  .obtain⟨sl,f⟩:=I.base.slot b o e n D t;exact⟨sl,(hs.2 b (aM (aK (aI e) I.ok.above))).trans f⟩
  .obtain⟨o',f⟩:=I.base.there b o e t;exact⟨o',(hs.2 b (aM (aK (aI e) I.ok.above))).trans f⟩
  .by_cases hj:j=i
   .subst hj;rw[hi]at f;cases f;rw[List.getElem?_set_self hiσ]at B;cases B;exact⟨u,r,.inl ⟨C,by simp⟩⟩
   .rw[List.getElem?_set_ne (dC hj)]at B;obtain⟨W,U,q⟩:=hl j y Y f B O;refine⟨W,U,?_⟩;rcases q with⟨k,e⟩|⟨k,c,e,z⟩
    .refine .inl ⟨k,?_⟩;have:y≠x:=λe=>hj (a5T Z f (e ▸ hi));simp[this,e]
    .exact .inr ⟨k,c,e,z.sameBut hs (cne y c e)⟩
  .obtain⟨N,z⟩:=I.cell y c e;exact⟨N,z.sameBut hs (cne y c e)⟩
  .obtain⟨e,n,ne,nf,d⟩:=I.pin p T;exact⟨(hs.2 p.1 ne).trans e,n,ne,nf,d⟩
 .have hfn:X.fn x=true:=by
   rcases hf with z|z
   .exact z
   .rw[z]at C;cases C
  obtain⟨c,l⟩:=I.ok.has x (.inl C);obtain⟨N,z⟩:=I.cell x c l;refine wpAny_storeName_cell I.ok.kind C l z (λh' F hs=>?_);obtain⟨oc,J,K⟩:=id z;refine h {s with heap:=h'} ⟨I.ok,I.os,I.bare,⟨λb o e n D t=>?_,λb o e n D t=>?_,I.base.free,λb o e t=>?_,I.base.tups,I.base.frzs,I.base.tbls⟩,⟨m,P.sameBut hs (dC (cne x c l)),λj y Y f B O=>?_⟩,λy L e=>?_,I.free,I.freeC,λp T=>?_,g ⟨oc,J,I.freeC x c l⟩ hs,by simpa using I.len⟩ ⟨c,hs,.inr l⟩
  .exact(hs.2 b (aM (aK (aI e) (I.ok.cab x c hfn l)))).trans (I.base.keep b o e n D t)
  .obtain⟨sl,f⟩:=I.base.slot b o e n D t;exact⟨sl,(hs.2 b (aM (aK (aI e) (I.ok.cab x c hfn l)))).trans f⟩
  .obtain⟨o',f⟩:=I.base.there b o e t;exact⟨o',(hs.2 b (aM (aK (aI e) (I.ok.cab x c hfn l)))).trans f⟩
  .by_cases hj:j=i
   .subst hj;rw[hi]at f;cases f;rw[List.getElem?_set_self hiσ]at B;cases B;exact⟨u,r,.inr ⟨.inl C,c,l,F⟩⟩
   .rw[List.getElem?_set_ne (dC hj)]at B;obtain⟨W,U,q⟩:=hl j y Y f B O;refine⟨W,U,?_⟩;rcases q with q|⟨k,L,e,z'⟩
    .exact .inl q
    .refine .inr ⟨k,L,e,z'.sameBut hs ?_⟩;rintro rfl;exact hj (a5T Z f (I.ok.inj _ _ _ e l ▸ hi))
  .by_cases hcc:L=c
   .subst hcc;exact⟨_,F⟩
   .obtain⟨w2,z2⟩:=I.cell y L e;exact⟨w2,z2.sameBut hs hcc⟩
  .obtain⟨e,n,ne,nf,d⟩:=I.pin p T;refine⟨(hs.2 p.1 ?_).trans e,n,ne,nf,d⟩;intro q;rw[q,J]at e;have q':oc=p.2:=bx e;exact d N (by rw[<-q'];exact K)
theorem a2h{M:Model}{A:Around}{E:Value->Shared->Prop}{i:Nat}{x:Str}{v:V}{u:Value}{Q:Unit->Shared->Prop}(I:Inv X pins σ H s)(b:X.N.Nodup)(hi:X.N[i]?=some x)(d:Loc X.env.scope x)(r:RelV v u)
  (h:∀s',Inv X pins (σ.set i (some v)) H s'->Q () s') (c:X.fn x=true∨X.env.scope.names.lookup x=some .local:=by first|exact .inl rfl|exact .inr rfl|assumption):wpAny M A (storeName X.env x u) Q E s :=
 a3D I b hi d r (λs' a _=>h s' a) c
theorem Inv.call'{s':Shared}{ch:List Addr}(I:Inv X pins σ H s)(i:s'.os=s.os)(u:Un (frs X.stack) ch H H' s.heap s'.heap)(d:HOk X.prog X.w H' s'.heap)(h:AllBare s'.gens)
  (a:∀b∈ch,(b∈X.ex∨X.s₀.heap.objs.size<=b)/\b≠X.env.locals/\(∀x c,X.env.cells.lookup x=some c->c≠b)/\∀p∈X.pn++pins,p.1≠b):Inv X pins σ H' s':=by
 obtain⟨h',g,f,t',o'⟩:=s';have e:o'=s.os:=i;subst e;exact I.call (g':=g) (t':=t') (d':=f) u d h a
end
abbrev XK:=Value->Option Addr->Hp->Prop
abbrev St:=List (Option V)
abbrev VK:=V->Hp->Prop
abbrev TE:=St->Hp->VK->Prop
abbrev TT:=St->Hp->(Bool->Hp->Prop)->Prop
abbrev TA:=St->Hp->(List V->Hp->Prop)->Prop
structure Ends where
 nx:St->Hp->Prop
 rt:VK
 bk:St->Hp->Prop:=λ_ _=>False
 ct:St->Hp->Prop:=λ_ _=>False
abbrev TS:=Ends->St->Hp->Prop
def EP(X:Cx)(pins:List (Addr×Obj))(σ:St)(Q:VK)(u:Value)(s':Shared):Prop:=∃v H',Inv X pins σ H' s'/\RelV v u/\Q v H'
def TP(X:Cx)(pins:List (Addr×Obj))(σ:St)(Q:Bool->Hp->Prop)(b:Bool)(s':Shared):Prop:=∃H',Inv X pins σ H' s'/\Q b H'
def AP(X:Cx)(pins:List (Addr×Obj))(σ:St)(Q:List V->Hp->Prop)(us:List Value)(s':Shared):Prop:=∃vs H',Inv X pins σ H' s'/\Vals vs us/\Q vs H'
def SP(X:Cx)(pins:List (Addr×Obj))(D:Ends)(f:Flow)(s':Shared):Prop :=
 match f with
 |.next=>∃σ' H',Inv X pins σ' H' s'/\D.nx σ' H'
 |.brk=>∃σ' H',Inv X pins σ' H' s'/\D.bk σ' H'
 |.cont=>∃σ' H',Inv X pins σ' H' s'/\D.ct σ' H'
 |.ret u=>∃v σ' H',Inv X pins σ' H' s'/\RelV v u/\D.rt v H'
def PE(X:Cx)(e:Expr)(t:TE):Prop :=
 ∀(pins:List (Addr×Obj)) (s:Shared) (σ:St) (H:Hp) (Q:VK),Inv X pins σ H s->t σ H Q->wpAny (model X.prog X.w) X.A (eval e X.env) (EP X pins σ Q) X.xe s
def PT(X:Cx)(e:Expr)(t:TT):Prop :=
 ∀(pins:List (Addr×Obj)) (s:Shared) (σ:St) (H:Hp) (Q:Bool->Hp->Prop),Inv X pins σ H s->t σ H Q->wpAny (model X.prog X.w) X.A (isTrue e X.env (eval e X.env)) (TP X pins σ Q) X.xe s
def PW(X:Cx)(e:Expr)(t:TT):Prop :=
 ∀(whole:Sem Value) (pins:List (Addr×Obj)) (s:Shared) (σ:St) (H:Hp) (Q:Bool->Hp->Prop),Inv X pins σ H s->t σ H Q->wpAny (model X.prog X.w) X.A (isTrue e X.env whole) (TP X pins σ Q) X.xe s
theorem PW.pt{X:Cx}{e:Expr}{t:TT}(h:PW X e t):PT X e t:=h _
def PA(X:Cx)(es:List Expr)(t:TA):Prop :=
 ∀(pos:Pos) (pins:List (Addr×Obj)) (s:Shared) (σ:St) (H:Hp) (Q:List V->Hp->Prop),Inv X pins σ H s->t σ H Q->wpAny (model X.prog X.w) X.A (spliced (backTo pos (starEach es X.env))) (AP X pins σ Q) X.xe s
def PS(X:Cx)(st:Stmt)(t:TS):Prop :=
 ∀(pins:List (Addr×Obj)) (s:Shared) (σ:St) (H:Hp) (D:Ends),Inv X pins σ H s->t D σ H->wpAny (model X.prog X.w) X.A (exec st X.env) (SP X pins D) X.xe s
def PSs(X:Cx)(st:List Stmt)(t:TS):Prop :=
 ∀(pins:List (Addr×Obj)) (s:Shared) (σ:St) (H:Hp) (D:Ends),Inv X pins σ H s->t D σ H->wpAny (model X.prog X.w) X.A (execs st X.env) (SP X pins D) X.xe s
theorem thn{α:Type}{t:Sem α}{Q b:α->Shared->Prop}{M:Model}{A:Around}{E:Value->Shared->Prop}{s:Shared}(h:wpAny M A t Q E s)(c:∀a s,Q a s->b a s):wpAny M A t b E s:=dn h c λ_ _ x=>x
section
variable {X:Cx}
def P0(i:Nat):TE:=λσ H Q=>∃v,σ[i]?=some (some v)/\Q v H
def tC(v:V):TE:=λ_ H Q=>Q v H
theorem b1y{i:Nat}{x:Str}{pos:Pos}(g:X.N[i]?=some x)(o:Vis X.env.scope x)(hd:(x==("__debug__" : Str))=false:=by decide)(d:(x==("__classdict__" : Str))=false:=by decide):PE X (.Name x pos) (P0 i):=by
 intro pins s σ H Q I h;obtain⟨v,e,h⟩:=h;obtain⟨m,n,j⟩:=I.loc;obtain⟨u,r,l⟩:=j i x v g e o;have fin:EP X pins σ Q u s:=⟨v,H,I,r,h⟩;rcases l with⟨b,k⟩|⟨b,c,f,a⟩
 .exact wpAny_Name (wpAny_loadName_local I.ok.kind b n k fin) hd
 .rcases b with b|b
  .exact wpAny_Name (wpAny_loadName_cell I.ok.kind b f a fin) hd
  .exact wpAny_Name (wpAny_loadName_free I.ok.kind b f a fin d) hd
theorem b6e{i j pos}:PE X (.Constant (.int i) j pos) (tC (.int i)):=λ_ _ _ H _ I h=>wpAny_Constant_int ⟨.int i,H,I.tok _,⟨_,rfl⟩,h⟩
theorem b7H{b j pos}:PE X (.Constant (.bool b) j pos) (tC (.bl b)):=λ_ _ _ H _ I h=>Constant_bool ⟨.bl b,H,I,rfl,h⟩
theorem b6c{j pos}:PE X (.Constant .none j pos) (tC .non):=λ_ _ _ H _ I h=>Constant_none ⟨.non,H,I,rfl,h⟩
theorem b5Z{x j pos}:PE X (.Constant (.str x) j pos) (tC (.str x)):=λ_ _ _ H _ I h=>Calls.Constant_str ⟨.str x,H,I.tok _,⟨_,rfl⟩,h⟩
def Gl(X:Cx)(x:Str):Prop:=X.env.kindOf x=some .globalImplicit
theorem a0z{E:Value->Shared->Prop}{pins:List (Addr×Obj)}{s:Shared}{σ:St}{H:Hp}{x:Str}{u:Value}{pos:Pos}{Q:Value->Shared->Prop}(I:Inv X pins σ H s)(a:Gl X x)(b:X.mg x=some u)(h:Q u s)
  (hd:(x==("__debug__" : Str))=false:=by decide):wpAny (model X.prog X.w) X.A (eval (.Name x pos) X.env) Q E s :=
 Calls.Name_function_global I.ok.kind a (Calls.loadGlobal_global (by rw[I.ok.glob];exact I.mod.glob.keeps I.bk) b h) hd
theorem a2I{E:Value->Shared->Prop}{pins:List (Addr×Obj)}{s:Shared}{σ:St}{H:Hp}{x:Str}{u:Value}{pos:Pos}{Q:Value->Shared->Prop}(I:Inv X pins σ H s)(a:Gl X x)(b:X.mg x=none)(d:bootBuiltins x=some u)(h:Q u s)
  (c:x≠"__name__":=by decide) (hd:(x==("__debug__" : Str))=false:=by decide):wpAny (model X.prog X.w) X.A (eval (.Name x pos) X.env) Q E s:=by
 obtain⟨e,h1,h2⟩:=I.mod.blt;exact Calls.Name_function_global I.ok.kind a (Calls.loadGlobal_builtin (by rw[I.ok.glob];exact I.mod.glob.keeps I.bk) b (by rw[I.ok.blt];exact h1.keeps I.bk) ((h2 x c).trans d) h) hd
theorem b3U{x:Str}{v:V}{u:Value}{pos:Pos}(a:Gl X x)(b:X.mg x=none)(d:bootBuiltins x=some u)(r:RelV v u)(c:x≠"__name__":=by decide)(hd:(x==("__debug__" : Str))=false:=by decide):PE X (.Name x pos) (tC v) :=
 λ_ _ _ H _ I h=>a2I I a b d ⟨v,H,I,r,h⟩ c hd
variable {a b:Expr}{ta tb:TE}{pos:Pos}
def PC(X:Cx)(op:CmpOp)(a b:Expr)(t:TE):Prop :=
 ∀(pins:List (Addr×Obj)) (s:Shared) (σ:St) (H:Hp) (Q:VK),Inv X pins σ H s->t σ H Q ->
  wpAny (model X.prog X.w) X.A (eval a X.env) (λv s₁=>wpAny (model X.prog X.w) X.A (eval b X.env) (λu s₂=>wpAny (model X.prog X.w) X.A (compareOp op v u) (EP X pins σ Q) X.xe s₂) X.xe s₁) X.xe s
def tB(t:TE):TT:=λσ H Q=>t σ H λx H1=>∃c,x=.bl c/\Q c H1
theorem b6g{c:CmpOp}{t:TE}(h:PC X c a b t)(h1:behindInMarks c b=false:=by first|exact nobehind _ (by decide) (by decide)|rfl):PE X (.Compare a [c] [b] pos) t:=λpins s σ H Q I hw=>wpAny_Compare1 (h pins s σ H Q I hw) h1
theorem b5O{e:CmpOp}{t:TE}(h:PC X e a b t)(h1:behindInMarks e b=false:=by first|exact nobehind _ (by decide) (by decide)|rfl):PT X (.Compare a [e] [b] pos) (tB t):=by
 intro pins s σ H Q I hw;refine wpAny_isTrue_Compare1 (thn (h pins s σ H _ I hw) λv s1 h1=>thn h1 λu s2 h2=>thn h2 λc j ⟨x,H1,f,i,g⟩=>?_) h1;obtain⟨d,rfl,q⟩:=g;cases i;exact dg ⟨H1,f,q⟩
variable {tA tB':TT}{rest:List Expr}
def a9a(t u:TT):TT:=λσ H Q=>t σ H λc H1=>if c=true then u σ H1 Q else Q false H1
def tOr(t u:TT):TT:=λσ H Q=>t σ H λc H1=>if c=true then Q true H1 else u σ H1 Q
def a8Y(t:TT):TT:=λσ H Q=>t σ H λc H1=>Q (!c) H1
theorem pw_and1(b:PT X a tA):PW X (.BoolOp .And [a] pos) tA:=by
 intro d pins s σ H Q I h;refine isTrue_and (thn (b pins s σ H Q I h) λc s1 e=>?_);cases c with
 |true=>exact isTrue_and_nil e
 |false=>exact e
theorem pw_or1(b:PT X a tA):PW X (.BoolOp .Or [a] pos) tA:=by
 intro d pins s σ H Q I h;refine isTrue_or (thn (b pins s σ H Q I h) λc s1 e=>?_);cases c with
 |false=>exact isTrue_or_nil e
 |true=>exact e
theorem pw_and(f:PT X a tA)(g:PW X (.BoolOp .And (b::rest) pos) tB'):PW X (.BoolOp .And (a::b::rest) pos) (a9a tA tB'):=by
 intro i pins s σ H Q I h;refine isTrue_and (thn (f pins s σ H _ I h) λc s1 ⟨H1,d,e⟩=>?_);cases c with
 |true=>exact g i pins s1 σ H1 Q d e
 |false=>exact⟨H1,d,e⟩
theorem pw_or(f:PT X a tA)(g:PW X (.BoolOp .Or (b::rest) pos) tB'):PW X (.BoolOp .Or (a::b::rest) pos) (tOr tA tB'):=by
 intro i pins s σ H Q I h;refine isTrue_or (thn (f pins s σ H _ I h) λc s1 ⟨H1,d,e⟩=>?_);cases c with
 |true=>exact⟨H1,d,e⟩
 |false=>exact g i pins s1 σ H1 Q d e
theorem b5N(b:PT X a tA):PT X (.UnaryOp .Not a pos) (a8Y tA):=by
 intro pins s σ H Q I h;exact isTrue_not (b pins s σ H (λc H1=>Q (!c) H1) I h)
def a3C(ta tb:TE):TE:=λσ H Q=>ta σ H λx H1=>∃c,x=.bl c/\if c=true then tb σ H1 Q else Q (.bl false) H1
def a8X(ta tb:TE):TE:=λσ H Q=>ta σ H λx H1=>∃c,x=.bl c/\if c=true then Q (.bl true) H1 else tb σ H1 Q
def a3z(ta:TE):TE:=λσ H Q=>ta σ H λx H1=>∃c,x=.bl c/\Q (.bl (!c)) H1
theorem b6a{op}{t:TE}(h:PE X a t):PE X (.BoolOp op [a] pos) t:=λpins s σ H Q I hw=>BoolOp_one (h pins s σ H Q I hw)
theorem b6h(f:PE X a ta)(g:PE X (.BoolOp .And (b::rest) pos) tb):PE X (.BoolOp .And (a::b::rest) pos) (a3C ta tb):=by
 intro pins s σ H Q I h;refine BoolOp_and (thn (f pins s σ H _ I h) λv s1 ⟨x,H1,e,i,d⟩=>?_);obtain⟨c,rfl,d⟩:=d;cases i;refine dg ?_;cases c with
 |true=>exact g pins s1 σ H1 Q e d
 |false=>exact⟨.bl false,H1,e,rfl,d⟩
theorem b7F(f:PE X a ta)(g:PE X (.BoolOp .Or (b::rest) pos) tb):PE X (.BoolOp .Or (a::b::rest) pos) (a8X ta tb):=by
 intro pins s σ H Q I h;refine BoolOp_or (thn (f pins s σ H _ I h) λv s1 ⟨x,H1,e,i,d⟩=>?_);obtain⟨c,rfl,d⟩:=d;cases i;refine dg ?_;cases c with
 |false=>exact g pins s1 σ H1 Q e d
 |true=>exact⟨.bl true,H1,e,rfl,d⟩
theorem b6b(e:PE X a ta):PE X (.UnaryOp .Not a pos) (a3z ta):=by
 intro pins s σ H Q I h;refine UnaryOp_ (thn (e pins s σ H _ I h) λv s1 ⟨x,H1,d,f,b⟩=>?_);obtain⟨c,rfl,b⟩:=b;cases f;exact not_of (dg ⟨.bl (!c),H1,d,rfl,b⟩)
def tIf(t:TT)(ta tb:TE):TE:=λσ H Q=>t σ H λc H1=>if c=true then ta σ H1 Q else tb σ H1 Q
theorem b1A{c:Expr}(j:PT X c tA)(g:PE X a ta)(i:PE X b tb):PE X (.IfExp c a b pos) (tIf tA ta tb):=by
 intro pins s σ H Q I h;refine wpAny_IfExp (thn (j pins s σ H _ I h) λd s1 ⟨H1,e,f⟩=>?_);cases d with
 |true=>exact g pins s1 σ H1 Q e f
 |false=>exact i pins s1 σ H1 Q e f
end
def SqL(K:PySem.W.Frag)(H:Hp)(a:Addr)(xs:List V):Prop :=
 Rd H a (.lst xs) ∨
  ∃(o:Obj) (its:Array Value) (n:Nat),K.lookup a=some o/\o.cls=.type "list"/\o.dict=none/\o.data=.seq its n/\its.size<=sizeLine/\Vals xs its.toList
def SqT(K:PySem.W.Frag)(H:Hp)(a:Addr)(xs:List V):Prop :=
 Rd H a (.tup xs) ∨
  ∃(o:Obj) (its:Array Value) (n:Nat),K.lookup a=some o/\o.cls=.type "tuple"/\o.data=.seq its n/\its.size<=sizeLine/\Vals xs its.toList
noncomputable def b8i:Value->Option V
 |.none=>some .non
 |.bool b=>some (.bl b)
 |.int i _=>some (.int i)
 |.str x _=>some (.str x)
 |.bytes b _=>some (.byt b)
 |.float b _=>some (.flt b)
 |.ref a=>some (.ref a)
 |.type n=>some (.ty n)
 |_=>none
theorem RelV.abs{x:V}{u:Value}(r:RelV x u):b8i u=some x:=by
 cases x with
 |non=>cases r;rfl
 |bl _=>cases r;rfl
 |int _=>obtain⟨t,rfl⟩:=r;rfl
 |str _=>obtain⟨t,rfl⟩:=r;rfl
 |byt _=>obtain⟨t,rfl⟩:=r;rfl
 |flt _=>obtain⟨t,rfl⟩:=r;rfl
 |ref _=>cases r;rfl
 |ty _=>cases r;rfl
theorem RelV.inj{x y:V}{u:Value}(r:RelV x u)(q:RelV y u):x=y:=bx (r.abs.symm.trans q.abs)
theorem Vals.inj:∀{xs ys:List V}{us:List Value},Vals xs us->Vals ys us->xs=ys
 |_,_,_,.nil,.nil=>rfl
 |_,_,_,.cons r t,.cons r' t'=>by rw[r.inj r',Vals.inj t t']
section
variable {X:Cx}{pins:List (Addr×Obj)}{σ:St}{H:Hp}{s:Shared}{a:Addr}{xs ys:List V}
theorem SqL.of{K:PySem.W.Frag}(h:H a=some (.lst xs)):SqL K H a xs:=.inl (.inl h)
theorem SqT.of{K:PySem.W.Frag}(h:H a=some (.tup xs)):SqT K H a xs:=.inl (.inl h)
theorem Inv.list(I:Inv X pins σ H s)(h:SqL X.K H a xs):∃its:List Value,Vals xs its/\PlainL s.heap a its.toArray/\xs.length<=sizeLine:=by
 rcases h with h|⟨o,its,n,c,b,hd,hs,d,r⟩
 .obtain⟨z,its,n,r,e⟩:=h.ok I.hok;exact⟨its,r,⟨_,n,e,rfl,rfl,rfl⟩,z⟩
 .refine⟨its.toList,r,⟨o,n,I.kIn a o c,b,hd,by simpa using hs⟩,?_⟩;have e:=r.length;simp only[ax]at e;omega
theorem Inv.tuple(I:Inv X pins σ H s)(h:SqT X.K H a xs):∃its:List Value,Vals xs its/\IsTup s.heap a its.toArray/\xs.length<=sizeLine:=by
 rcases h with h|⟨o,its,n,c,b,hs,d,r⟩
 .obtain⟨z,its,r,p⟩:=h.ok I.hok;exact⟨its,r,p,z⟩
 .refine⟨its.toList,r,⟨o,I.kIn a o c,b,n,by simpa using hs⟩,?_⟩;have e:=r.length;simp only[ax]at e;omega
theorem Inv.list_inj(I:Inv X pins σ H s)(h:SqL X.K H a xs)(h':SqL X.K H a ys):xs=ys:=by
 obtain⟨its,r,⟨o,n,e,_,_,d⟩,_⟩:=I.list h;obtain⟨b,g,⟨o',i,f,_,_,c⟩,_⟩:=I.list h';rw[e]at f;cases f;rw[d]at c;injection c with d1 _
 have:its=b:=by simpa using aQ Array.toList d1
 subst this;exact r.inj g
theorem Inv.tuple_inj(I:Inv X pins σ H s)(h:SqT X.K H a xs)(h':SqT X.K H a ys):xs=ys:=by
 obtain⟨its,r,⟨o,e,_,n,d⟩,_⟩:=I.tuple h;obtain⟨b,g,⟨o',f,_,i,c⟩,_⟩:=I.tuple h';rw[e]at f;cases f;rw[d]at c;injection c with d1 _
 have:its=b:=by simpa using aQ Array.toList d1
 subst this;exact r.inj g
end
noncomputable abbrev Cx.wish(X:Cx)(E:Value->Shared->Prop):Cx:={X with xe:=E}
noncomputable abbrev Cx.nox(X:Cx):Cx:=X.wish λ_ _=>False
theorem Cx.Ok.wish{X:Cx}(ok:X.Ok)(E:Value->Shared->Prop):(X.wish E).Ok :=
 ⟨ok.mod,ok.kind,ok.glob,ok.blt,ok.above,ok.inj,ok.has,ok.cab,ok.hd,ok.frames,ok.stk,ok.exf,ok.bs,ok.bsz,ok.noex,ok.exfs,ok.funs,ok.frf⟩
theorem Cx.Ok.unwish{X:Cx}{E:Value->Shared->Prop}(ok:(X.wish E).Ok):X.Ok :=
 ⟨ok.mod,ok.kind,ok.glob,ok.blt,ok.above,ok.inj,ok.has,ok.cab,ok.hd,ok.frames,ok.stk,ok.exf,ok.bs,ok.bsz,ok.noex,ok.exfs,ok.funs,ok.frf⟩
section
variable {X:Cx}{pins:List (Addr×Obj)}{σ:St}{H:Hp}{s:Shared}{E:Value->Shared->Prop}
theorem Inv.wish(I:Inv X pins σ H s)(E:Value->Shared->Prop):Inv (X.wish E) pins σ H s:=⟨I.ok.wish E,I.os,I.bare,I.base,I.loc,I.cell,I.free,I.freeC,I.pin,I.hok,I.len⟩
theorem Inv.unwish(I:Inv (X.wish E) pins σ H s):Inv X pins σ H s:=⟨I.ok.unwish,I.os,I.bare,I.base,I.loc,I.cell,I.free,I.freeC,I.pin,I.hok,I.len⟩
theorem SP.unwish{D:Ends}{f:Flow}{s':Shared}(h:SP (X.wish E) pins D f s'):SP X pins D f s':=by
 cases f with
 |next=>obtain⟨σ',H',I,q⟩:=h;exact⟨σ',H',I.unwish,q⟩
 |brk=>obtain⟨σ',H',I,q⟩:=h;exact⟨σ',H',I.unwish,q⟩
 |cont=>obtain⟨σ',H',I,q⟩:=h;exact⟨σ',H',I.unwish,q⟩
 |ret u=>obtain⟨v,σ',H',I,r,q⟩:=h;exact⟨v,σ',H',I.unwish,r,q⟩
theorem PSs.nox{st:List Stmt}{t:TS}(h:PSs X.nox st t):PSs X st t:=λpins s σ H D I hw =>
 dn (h pins s σ H D (I.wish _) hw) (λ_ _ q=>q.unwish) λ_ _ z=>False.elim z
end
section
variable {X:Cx}{st:Stmt}{rest:List Stmt}{t u:TS}{e:Expr}{te:TE}{pos:Pos}
def a3A:TS:=λD σ H=>D.nx σ H
def a5u(t u:TS):TS:=λD σ H=>t {D with nx:=u D} σ H
theorem b3z:PSs X [] a3A:=λ_ _ σ H _ I h=>dX ⟨σ,H,I,h⟩
theorem b1n(h1:PS X st t)(h2:PSs X rest u):PSs X (st::rest) (a5u t u):=by
 intro pins s σ H D I h;refine wpAny_execs_cons (thn (h1 pins s σ H {D with nx:=u D} I h) λf s1 q=>?_);cases f with
 |next =>
  obtain⟨σ',H',a,q⟩:=q;exact h2 pins s1 σ' H' D a q
 |ret v=>exact q
 |brk=>exact q
 |cont=>exact q
theorem b3y(h1:PS X st t):PSs X [st] t:=by
 intro pins s σ H D I h;refine wpAny_execs_cons (thn (h1 pins s σ H D I h) λf s1 q=>?_);cases f with
 |next=>exact dX q
 |ret v=>exact q
 |brk=>exact q
 |cont=>exact q
def b0D:TS:=λD σ H=>D.bk σ H
theorem b1r:PS X (.Break pos) b0D:=λ_ _ σ H _ I h=>wpAny_Break ⟨σ,H,I,h⟩
theorem Inv.quiet{pins:List (Addr×Obj)}{σ:St}{H:Hp}{s:Shared}(I:Inv X pins σ H s):interactive X.env=false:=by simp[interactive,I.ok.kind]
def a3B(te:TE):TS:=λD σ H=>te σ H λ_ H1=>D.nx σ H1
theorem b3B(b:PE X e te)(hs:swapsWith e none pos.line X.env=pure false:=by rfl):PS X (.Expr e pos) (a3B te):=by
 intro pins s σ H D I h;exact wpAny_Expr_any (thn (b pins s σ H _ I h) λv s1 ⟨x,H1,a,d,c⟩=>⟨σ,H1,a,c⟩) I.quiet hs
def a6K(te:TE):TS:=λD σ H=>te σ H D.rt
theorem b5Q(b:PE X e te):PS X (.Return (some e) pos) (a6K te):=by
 intro pins s σ H D I h;exact wpAny_Return_some (thn (b pins s σ H _ I h) λv s1 ⟨x,H1,a,d,c⟩=>⟨x,σ,H1,a,d,c⟩)
def a7R:TS:=λD _ H=>D.rt .non H
def a8Z(c:TT)(t u:TS):TS:=λD σ H=>c σ H λb H1=>if b=true then t D σ H1 else u D σ H1
theorem b7C{c:Expr}{a b:List Stmt}{tc:TT}(j:PT X c tc)(g:PSs X a t)(i:PSs X b u):PS X (.If c a b pos) (a8Z tc t u):=by
 intro pins s σ H D I h;refine wpAny_If (thn (j pins s σ H _ I h) λd s1 ⟨H1,e,f⟩=>?_);cases d with
 |true=>exact g pins s1 σ H1 D e f
 |false=>exact i pins s1 σ H1 D e f
end
abbrev TG:=V->St->Hp->(St->Hp->Prop)->Prop
abbrev TGs:=List V->St->Hp->(St->Hp->Prop)->Prop
def PG(X:Cx)(target:Expr)(t:TG):Prop :=
 ∀(pins:List (Addr×Obj)) (s:Shared) (σ:St) (H:Hp) (v:V) (u:Value) (Q:St->Hp->Prop),Inv X pins σ H s->RelV v u->t v σ H Q ->
  wpAny (model X.prog X.w) X.A (assign target X.env u) (λ_ s'=>∃σ' H',Inv X pins σ' H' s'/\Q σ' H') X.xe s
def PGs(X:Cx)(ts:List Expr)(t:TGs):Prop :=
 ∀(pins:List (Addr×Obj)) (s:Shared) (σ:St) (H:Hp) (vs:List V) (us:List Value) (Q:St->Hp->Prop),Inv X pins σ H s->Vals vs us->t vs σ H Q ->
  wpAny (model X.prog X.w) X.A (assignInOrder ((assignEach ts X.env).map (·.2)) us) (λ_ s'=>∃σ' H',Inv X pins σ' H' s'/\Q σ' H') X.xe s
abbrev b2R:=V->V->V->Hp->(Hp->Prop)->Prop
def b7l(X:Cx)(t:b2R):Prop :=
 ∀(pins:List (Addr×Obj)) (s:Shared) (σ:St) (H:Hp) (o i v:V) (ov iv u:Value) (Q:Hp->Prop),Inv X pins σ H s->RelV o ov->RelV i iv->RelV v u->t o i v H Q ->
  wpAny (model X.prog X.w) X.A (setItem ov iv u) (λ_ s'=>∃H',Inv X pins σ H' s'/\Q H') X.xe s
abbrev TIp:=V->V->Hp->VK->Prop
def PIp(X:Cx)(op:Operator)(t:TIp):Prop :=
 ∀(pins:List (Addr×Obj)) (s:Shared) (σ:St) (H:Hp) (x y:V) (v u:Value) (Q:VK),Inv X pins σ H s->RelV x v->RelV y u->t x y H Q ->
  wpAny (model X.prog X.w) X.A (inplaceOp op v u) (EP X pins σ Q) X.xe s
section
variable {X:Cx}{pos:Pos}
def B0(i:Nat):TG:=λv σ H Q=>Q (σ.set i (some v)) H
theorem b3P{i:Nat}{x:Str}(b:X.N.Nodup)(hi:X.N[i]?=some x)(d:Loc X.env.scope x)(c:X.fn x=true∨X.env.scope.names.lookup x=some .local:=by first|exact .inl rfl|exact .inr rfl|assumption):PG X (.Name x pos) (B0 i):=by
 intro pins s σ H v u Q I r h;exact wpAny_assign_Name (a2h I b hi d r (λs' a=>⟨_,H,a,h⟩) c)
def a7u:TGs:=λvs σ H Q=>vs=[]/\Q σ H
def U7(t:TG)(u:TGs):TGs:=λvs σ H Q=>∃v r,vs=v::r/\t v σ H λσ' H'=>u r σ' H' Q
theorem b3N:PGs X [] a7u:=by
 intro pins s σ H b a Q I r h;obtain⟨e,h⟩:=h;subst e;cases r;exact assignInOrder_nil ⟨σ,H,I,h⟩
theorem b1x{e:Expr}{es:List Expr}{t:TG}{u:TGs}(h1:PG X e t)(h2:PGs X es u)
  (hs:(assignEach (e::es) X.env).map (·.2)=assign e X.env::(assignEach es X.env).map (·.2):=by rfl):PGs X (e::es) (U7 t u):=by
 intro pins s σ H g d Q I r h;obtain⟨v,f,b,h⟩:=h;subst b;cases r with
 |cons r rr =>
  rw[hs];refine assignInOrder_cons (thn (h1 pins s σ H _ _ _ I r h) λ_ s1 ⟨σ1,H1,a,c⟩=>?_);exact h2 pins s1 σ1 H1 _ _ Q a rr c
def a6n(K:PySem.W.Frag)(n:Nat)(t:TGs):TG:=λv σ H Q=>∃a xs,v=.ref a/\SqT K H a xs/\xs.length=n/\t xs σ H Q
theorem b5W{es:List Expr}{k:Nat}{t:TGs}{n:Nat}(i:X.calm=true)(h:PGs X es t)
  (l:(assignEach es X.env).length=n:=by rfl) (c:(assignEach es X.env).findIdx? (·.1)=none:=by rfl):PG X (.Tuple es k pos) (a6n X.K n t):=by
 intro pins s σ H v u Q I r hw;obtain⟨a,xs,g,m,j,hw⟩:=hw;subst g;cases r;obtain⟨its,d,p,w⟩:=I.tuple m;refine assign_Tuple_tuple (I.ok.hd i) p (by simp[l,<-j,d.length]) c λh' q=>?_;have f:Inv X pins σ H {s with heap:=h'}:=I.kept (t':=s.toks) λb o e=>q b o (aM (aI e)) e;exact h pins _ σ H xs _ Q f (by simpa using d) hw
def b7X(to ti:TE)(t:b2R):TG:=λv σ H Q=>to σ H λo H1=>ti σ H1 λi H2=>t o i v H2 λH3=>Q σ H3
theorem b5X{o i:Expr}{to c:TE}{t:b2R}(k:PE X o to)(hi:PE X i c)(hs:b7l X t)
  (j:∀v,assign (.Subscript o i pos) X.env v=(do
   let a <-holding [v] (eval o X.env)
   let b <-holding [v,a] (eval i X.env)
   standAt pos
   holding [v,a,b] (setItem a b v)
   release [v,a,b] []):=by intro _;rfl):PG X (.Subscript o i pos) (b7X to c t):=by
 intro pins s σ H v u Q I r h;rw[j];refine aa (cc (thn (k pins s σ H _ I h) λa s1 ⟨x,H1,e,p,l⟩=>?_));refine aa (cc (thn (hi pins s1 σ H1 _ e l) λb s2 ⟨y,H2,f,q,m⟩=>?_));refine aa (wpAny_standAt (aa (cc (thn (hs pins s2 σ H2 x y v a b u _ f p q r m) λ_ w ⟨d,g,n⟩=>?_))));exact wpAny_release ⟨σ,d,g,n⟩
def a2g(te:TE)(g:TG):TS:=λD σ H=>te σ H λx H1=>g x σ H1 D.nx
theorem b5T{tg e:Expr}{te:TE}{g:TG}(b:PE X e te)(c:PG X tg g)(hs:swapsWithSole [tg] e pos.line X.env=pure false:=by rfl)(hw:swappedStores [tg] e X.env=pure none:=by rfl)
  (h1:(assignEach [tg] X.env).map (·.2)=[assign tg X.env]:=by rfl):PS X (.Assign [tg] e pos) (a2g te g):=by
 intro pins s σ H D I h;refine wpAny_Assign_stores (thn (b pins s σ H _ I h) λv s1 ⟨x,H1,a,f,d⟩=>?_) hs hw;rw[h1];exact thn (c pins s1 σ H1 x v _ a f d) λ_ s2 q=>q
theorem b5P{i:Nat}{x:Str}{e:Expr}{te:TE}{pos':Pos}(c:X.N.Nodup)(hi:X.N[i]?=some x)(g:Loc X.env.scope x)(d:PE X e te)(hs:swapsWith e (some (.Name x pos')) pos.line X.env=pure false:=by rfl)(f:X.fn x=true∨X.env.scope.names.lookup x=some .local:=by first|exact .inl rfl|exact .inr rfl|assumption) :
  PS X (.Assign [.Name x pos'] e pos) (a2g te (B0 i)):=by
 intro pins s σ H D I h;refine wpAny_Assign_Name (thn (d pins s σ H _ I h) λv s1 ⟨y,H1,a,k,j⟩=>?_) hs;exact a2h a c hi g k (λs2 b=>⟨_,H1,b,j⟩) f
def b4V(to ti te:TE)(tget:V->V->Hp->VK->Prop)(tip:TIp)(tset:b2R):TS:=λD σ H=>to σ H λo H1=>ti σ H1 λi H2=>tget o i H2 λx H3=>te σ H3 λy H4=>tip x y H4 λz H5=>tset o i z H5 λH6=>D.nx σ H6
def b7m(X:Cx)(t:V->V->Hp->VK->Prop):Prop :=
 ∀(pins:List (Addr×Obj)) (s:Shared) (σ:St) (H:Hp) (o i:V) (ov iv:Value) (Q:VK),Inv X pins σ H s->RelV o ov->RelV i iv->t o i H Q ->
  wpAny (model X.prog X.w) X.A (getItem ov iv) (EP X pins σ Q) X.xe s
theorem b3D{o i e:Expr}{to l te:TE}{a:V->V->Hp->VK->Prop}{f:TIp}{b:b2R}{g:Operator}{tpos:Pos}(F:PE X o to)(hi:PE X i l)(E:b7m X a)(C:PE X e te)(hp:PIp X g f)(hs:b7l X b)
  (B:∀d c new,augStore i d c new=(do holding [new,d,c] (setItem d c new);release [new,d,c] [];pure .next):=by intros;rfl):PS X (.AugAssign (.Subscript o i tpos) g e pos) (b4V to l te a f b):=by
 intro pins s σ H D I h;refine wpAny_AugAssign_SubscriptAny (thn (F pins s σ H _ I h) λd s1 ⟨m,H1,u,j,G⟩=>?_) B;refine thn (hi pins s1 σ H1 _ u G) λc s2 ⟨n,H2,w,k,J⟩=>?_;refine thn (E pins s2 σ H2 m n d c _ w j k J) λold R ⟨U,p,x,O,K⟩=>?_;refine thn (C pins R σ p _ x K) λv S ⟨W,q,y,P,L⟩=>?_;refine thn (hp pins S σ q U W old v _ y O P L) λnew T ⟨Y,r,z,Q,M⟩=>?_;exact thn (hs pins T σ r m n Y d c new _ z j k Q M) λ_ Z ⟨t,A,N⟩=>⟨σ,t,A,N⟩
def ipI(f:Int->Int->Int):TIp:=λx y H Q=>∃i j,x=.int i/\y=.int j/\Q (.int (f i j)) H
theorem b6Q:PIp X .Add (ipI λi j=>i+j):=by
 intro pins s σ H x y v u Q I c d h;obtain⟨i,j,a,b,q⟩:=h;subst a;subst b;obtain⟨t,rfl⟩:=c;obtain⟨t',rfl⟩:=d;exact iadd_int ⟨.int _,H,I.tok _,⟨_,rfl⟩,q⟩
def b0z(c:TT)(tb:TS):TS:=λD σ H=>∃W:Nat->St->Hp->Prop,(∃m,W m σ H)/\∀m σ H,W m σ H ->
 c σ H λb H1=>if b=true then ∃N:St->Hp->Prop,(∀σ' H',N σ' H'->∃m',m'<m/\W m' σ' H')/\tb {D with nx:=N,ct:=N,bk:=D.nx} σ H1 else D.nx σ H1
theorem b1o{c:Expr}{body:List Stmt}{tc:TT}{tb:TS}(hp:PassesOwn (model X.prog X.w) X.A X.env X.xe)(t:PT X c tc)(r:PSs X body tb):PS X (.While c body [] pos) (b0z tc tb):=by
 intro pins s σ H D I h;obtain⟨W,⟨u,w⟩,d⟩:=h;refine wpAny_While (codeAny_whileLoop (λn s'=>∃σ' H',Inv X pins σ' H' s'/\W n σ' H') ?_ u ⟨σ,H,I,w⟩);rintro n s1 ⟨σ1,H1,q,x⟩;refine dD hp (thn (t pins s1 σ1 H1 _ q (d n σ1 H1 x)) λb s2 ⟨H2,o,e⟩=>?_);cases b with
 |true =>
  obtain⟨N,p,e⟩:=e;rw[ay rfl];refine dD hp (thn (r pins s2 σ1 H2 _ o e) λf y g=>?_);cases f with
  |next =>
   obtain⟨σ3,a,i,l⟩:=g;obtain⟨k,j,m⟩:=p σ3 a l;exact⟨k,j,σ3,a,i,m⟩
  |cont =>
   obtain⟨σ3,a,i,l⟩:=g;obtain⟨k,j,m⟩:=p σ3 a l;exact⟨k,j,σ3,a,i,m⟩
  |brk=>exact g
  |ret v=>exact g
 |false =>
  rw[ao a_];exact dX ⟨σ1,H2,o,e⟩
end
structure It where
 go:Nat->Hp->Prop
 yld:Nat->Hp->V->Hp->Prop
 stop:Nat->Hp->Prop
def a1j(X:Cx)(pins:List (Addr×Obj))(H:Hp)(b:Addr):Prop :=
 H b=none/\b≠X.env.locals/\b∉X.fs/\(b∈X.ex∨X.s₀.heap.objs.size<=b)/\(∀x c,X.env.cells.lookup x=some c->c≠b)/\∀p∈X.pn++pins,p.1≠b
theorem Inv.fpOk{X:Cx}{pins:List (Addr×Obj)}{σ:St}{H H':Hp}{s:Shared}{b:Addr}(I:Inv X pins σ H s)(a:s.heap.objs.size<=b)(d:H' b=none):a1j X pins H' b:=by
 refine⟨d,dr (aK I.lt a),I.nofs a,.inr (bb I.sz a),λx c e z=>?_,λp f z=>?_⟩
 .obtain⟨v,q⟩:=I.cell x c e;exact absurd (aK q.lt (by rw[z];exact a)) (bQ _)
 .exact absurd (aK (aI (I.pin p f).1) (by rw[z];exact a)) (bQ _)
structure Turn(P:Program)(w:World)(K:PySem.W.Frag)(tg:Expr)(J:It)(fp:List Addr)(it:Addr)(tn:Nat->Heap->Prop):Prop where
 mem:it∈fp
 obj:∀i h,tn i h->∀b∈fp,∃o,h.get? b=some o/\∀v,o.data≠.cell v
 keep:∀i h h',tn i h->(∀b∈fp,∀o,h.get? b=some o->h'.get? b=some o)->tn i h'
 item:∀(X:Cx),X.prog=P->X.w=w->X.K=K->X.calm=true->∀(i:Nat) (pins:List (Addr×Obj)) (s:Shared) (σ:St) (H:Hp) (E:Value->Shared->Prop),Inv X pins σ H s->(∀b∈fp,a1j X pins H b)->tn i s.heap->J.go i H ->
  wpAny (model P w) X.A (pyNext (.ref it)) (λr s1=>∃u,r=some u /\
   wpAny (model P w) X.A (letOwnedTupleGo tg (.ref it) u) (λ_ s2=>∃x H',Inv X pins σ H' s2/\RelV x u/\J.yld i H x H'/\tn (i+1) s2.heap/\∀b∈fp,H' b=none) E s1) E s
 done:∀(X:Cx),X.prog=P->X.w=w->X.K=K->X.calm=true->∀(i:Nat) (pins:List (Addr×Obj)) (s:Shared) (σ:St) (H:Hp) (E:Value->Shared->Prop),Inv X pins σ H s->(∀b∈fp,a1j X pins H b)->tn i s.heap->J.stop i H ->
  wpAny (model P w) X.A (pyNext (.ref it)) (λr s1=>r=none/\Inv X pins σ H s1) E s
 self:∀(A:Around) (i:Nat) (s:Shared) (Q:Value->Shared->Prop) (E:Value->Shared->Prop),tn i s.heap->Q (.ref it) s->wpAny (model P w) A (pyIter (.ref it)) Q E s
abbrev TI:=St->Hp->(It->Hp->Prop)->Prop
def PIE(X:Cx)(pins:List (Addr×Obj))(σ:St)(tg:Expr)(R:It->Hp->Prop)(itv:Value)(s2:Shared):Prop :=
 ∃(it:Addr) (fp:List Addr) (tn:Nat->Heap->Prop) (J:It) (H':Hp),itv=.ref it/\Inv X pins σ H' s2/\Turn X.prog X.w X.K tg J fp it tn/\tn 0 s2.heap/\(∀b∈fp,a1j X pins H' b)/\R J H'
def PI(X:Cx)(tg iter:Expr)(wi:TI):Prop :=
 ∀(pins:List (Addr×Obj)) (s:Shared) (σ:St) (H:Hp) (R:It->Hp->Prop),Inv X pins σ H s->wi σ H R ->
  wpAny (model X.prog X.w) X.A (eval iter X.env) (λv s1=>wpAny (model X.prog X.w) X.A (pyIter v) (PIE X pins σ tg R) X.xe s1) X.xe s
theorem a8z{M:Model}{A:Around}{E:Value->Shared->Prop}{s:Shared}{tg:Expr}{it:Addr}{u:Value}{o:Obj}{n:String}{vs:Array Value}{Q:Unit->Shared->Prop}(d:s.heap.get? it=some o)(b:o.cls=.type n)(hd:o.data=.fields vs)
  (c:["enumerate","zip","dict_itemiterator","dict_reverseitemiterator","odict_iterator","itertools.zip_longest","itertools.pairwise"].contains n=false) (a:Q () s):wpAny M A (letOwnedTupleGo tg (.ref it) u) Q E s:=by
 unfold letOwnedTupleGo;cases tg<;>first
  |exact ag a
  | (cases u <;> first
    |exact ag a
    | (refine aa (wpAny_load d ?_)
       rw[b,hd];show wpAny M A (if (["enumerate","zip","dict_itemiterator","dict_reverseitemiterator","odict_iterator","itertools.zip_longest","itertools.pairwise"].contains n && vs[0]? == some (rawInt _))=true then _ else _) Q E s;rw[ao (by intro h;rw[c,dN]at h;cases h)];exact ag a))
noncomputable def Itl(K:PySem.W.Frag)(a:Addr):It :=
 ⟨λi H=>∃xs x,SqL K H a xs/\xs[i]?=some x,λi H x H'=>H'=H/\∀xs,SqL K H a xs->xs[i]?=some x,λi H=>∃xs,SqL K H a xs/\xs.length<=i⟩
noncomputable def Itt(K:PySem.W.Frag)(a:Addr):It :=
 ⟨λi H=>∃xs x,SqT K H a xs/\xs[i]?=some x,λi H x H'=>H'=H/\∀xs,SqT K H a xs->xs[i]?=some x,λi H=>∃xs,SqT K H a xs/\xs.length<=i⟩
noncomputable def Itr(lo:Int)(n:Nat):It:=⟨λi _=>i<n,λi H x H'=>H'=H/\x=.int (lo+i),λi _=>n<=i⟩
theorem a8T{P:Program}{w:World}{K:PySem.W.Frag}{tg:Expr}(a it:Addr):Turn P w K tg (Itl K a) [it] it (λi h=>h.IsListIter it a i) where
 mem:=by simp
 obj:=λi h st b f=>by
  have e:b=it:=by simpa using f
  subst e;obtain⟨o,e,c,d⟩:=st;exact⟨o,e,λv z=>by rw[d]at z;cases z⟩
 keep:=λi h h' st k=>st.at λo e=>k it (by simp) o e
 item:=by
  intro X t hw r C i pins s σ H E I g st y;subst t hw r;obtain⟨xs,x,j,A⟩:=y;obtain⟨its,B,p,L⟩:=I.list j;obtain⟨u,G,M⟩:=B.get A;obtain⟨l,f1,f2,m,n,q⟩:=g it (by simp);refine wpAny_pyNext_list_item st p.isList (x:=u) (by simpa using G) λh' st' N=>?_;have D:Inv X pins σ H {s with heap:=h'}:=I.turned (t':=s.toks) (λb o f e=>(N.2 b f).trans e) l f1 m n q;obtain⟨o,e,c,d⟩:=id st';exact⟨u,rfl,a8z (s:={s with heap:=h'}) e c d (by decide) ⟨x,H,D,M,⟨rfl,λys J=>by rw[I.list_inj J j];exact A⟩,st',λb f=>(g b f).1⟩⟩
 done:=by
  intro X t hw r C i pins s σ H E I g st y;subst t hw r;obtain⟨xs,j,A⟩:=y;obtain⟨its,B,p,L⟩:=I.list j;obtain⟨l,f1,f2,m,n,q⟩:=g it (by simp);have O:=B.length;exact wpAny_pyNext_list_end (I.ok.hd C) st p.isList (by simp;omega) λh' F=>⟨rfl,I.turned (t':=s.toks) (λb o f e=>F b o f e) l f1 m n q⟩
 self:=λ_ _ _ _ _ st h=>wpAny_pyIter_listiter st h
theorem a6E{P:Program}{w:World}{K:PySem.W.Frag}{tg:Expr}(a it:Addr):Turn P w K tg (Itt K a) [it] it (λi h=>h.IsTupleIter it a i) where
 mem:=by simp
 obj:=λi h st b f=>by
  have e:b=it:=by simpa using f
  subst e;obtain⟨o,e,c,d⟩:=st;exact⟨o,e,λv z=>by rw[d]at z;cases z⟩
 keep:=λi h h' st k=>st.at λo e=>k it (by simp) o e
 item:=by
  intro X t hw r C i pins s σ H E I g st y;subst t hw r;obtain⟨xs,x,j,A⟩:=y;obtain⟨its,B,p,L⟩:=I.tuple j;obtain⟨u,G,M⟩:=B.get A;obtain⟨l,f1,f2,m,n,q⟩:=g it (by simp);refine wpAny_pyNext_tuple_item st (show s.heap.IsTuple a its.toArray from p) (x:=u) (by simpa using G) λh' st' N=>?_;have D:Inv X pins σ H {s with heap:=h'}:=I.turned (t':=s.toks) (λb o f e=>(N.2 b f).trans e) l f1 m n q;obtain⟨o,e,c,d⟩:=id st';exact⟨u,rfl,a8z (s:={s with heap:=h'}) e c d (by decide) ⟨x,H,D,M,⟨rfl,λys J=>by rw[I.tuple_inj J j];exact A⟩,st',λb f=>(g b f).1⟩⟩
 done:=by
  intro X t hw r C i pins s σ H E I g st y;subst t hw r;obtain⟨xs,j,A⟩:=y;obtain⟨its,B,p,L⟩:=I.tuple j;obtain⟨l,f1,f2,m,n,q⟩:=g it (by simp);have O:=B.length;exact wpAny_pyNext_tuple_end (I.ok.hd C) st (show s.heap.IsTuple a its.toArray from p) (by simp;omega) λh' F=>⟨rfl,I.turned (t':=s.toks) (λb o f e=>F b o f e) l f1 m n q⟩
 self:=λ_ _ _ _ _ st h=>wpAny_pyIter_tupleiter st h
theorem a6F{P:Program}{w:World}{K:PySem.W.Frag}{tg:Expr}(it:Addr)(lo:Int)(n:Nat):Turn P w K tg (Itr lo n) [it] it (λi h=>IsRangeIter h it (lo+(i:Nat)*1) ((n:Int)-(i:Nat)) 1) where
 mem:=by simp
 obj:=λi h st b a=>by
  have e:b=it:=by simpa using a
  subst e;exact⟨_,st,λv z=>by
   have y:Data.fields _=Data.cell v:=z;cases y⟩
 keep:=λi h h' st k=>k it (by simp) _ st
 item:=by
  intro X m hw l p i pins s σ H E I c st q;subst m hw l;obtain⟨d,f1,f2,f,g,j⟩:=c it (by simp);have W:=Walks.range (prog:=X.prog) (w:=X.w) (I.ok.hd p) it lo 1 n;refine W.item i s _ _ q st λv h' tk x st' kk=>?_;obtain⟨t,rfl⟩:=x;have r:Inv X pins σ H {s with heap:=h',toks:=tk}:=I.turned (λb o a e=>kk b o (by simpa using a) e) d f1 f g j;refine⟨_,rfl,a8z (s:={s with heap:=h',toks:=tk}) (n:="range_iterator") st' rfl rfl (by decide) ⟨.int (lo+i),H,r,⟨t,?_⟩,⟨rfl,rfl⟩,st',λb a=>(c b a).1⟩⟩;rw[Int.mul_one]
 done:=by
  intro X m hw l p i pins s σ H E I c st q;subst m hw l;obtain⟨d,f1,f2,f,g,j⟩:=c it (by simp);exact wpAny_pyNext_range_end (I.ok.hd p) st (by have:n<=i:=q;omega) λh' u=>⟨rfl,I.turned (t':=s.toks) (λb o a e=>u b o a e) d f1 f g j⟩
 self:=λ_ _ _ _ _ st h=>wpAny_pyIter_rangeiter st h
section
variable {X:Cx}{tg:Expr}
def b2l(K:PySem.W.Frag)(tl:TE):TI:=λσ H R=>tl σ H λx H1=>∃a,x=.ref a/\(∃xs,SqL K H1 a xs)/\R (Itl K a) H1
def b6T(K:PySem.W.Frag)(tl:TE):TI:=λσ H R=>tl σ H λx H1=>∃a,x=.ref a/\(∃xs,SqT K H1 a xs)/\R (Itt K a) H1
theorem b3L{l:Expr}{tl:TE}(f:PE X l tl):PI X tg l (b2l X.K tl):=by
 intro pins s σ H R I h;refine thn (f pins s σ H _ I h) λv s1 ⟨x,H1,c,j,i⟩=>?_;obtain⟨a,e,⟨xs,g⟩,q⟩:=i;subst e;cases j;obtain⟨its,m,p,k⟩:=c.list g;refine fu p.isList ?_;refine⟨s1.heap.objs.size,[s1.heap.objs.size],_,_,H1,rfl,c.kept (t':=s1.toks) λb o e=>ae _ e,a8T a _,⟨_,aG _ rfl,rfl,rfl⟩,λb d=>?_,q⟩;have e:b=s1.heap.objs.size:=by simpa using d
 subst e;exact c.fpOk (aj _) (c.hok.fresh (aj _))
theorem b5V{l:Expr}{tl:TE}(f:PE X l tl):PI X tg l (b6T X.K tl):=by
 intro pins s σ H R I h;refine thn (f pins s σ H _ I h) λv s1 ⟨x,H1,c,j,i⟩=>?_;obtain⟨a,e,⟨xs,g⟩,q⟩:=i;subst e;cases j;obtain⟨its,m,p,k⟩:=c.tuple g;refine wpAny_pyIter_tuple (show s1.heap.IsTuple a its.toArray from p) ?_;refine⟨s1.heap.objs.size,[s1.heap.objs.size],_,_,H1,rfl,c.kept (t':=s1.toks) λb o e=>ae _ e,a6E a _,⟨_,aG _ rfl,rfl,rfl⟩,λb d=>?_,q⟩;have e:b=s1.heap.objs.size:=by simpa using d
 subst e;exact c.fpOk (aj _) (c.hok.fresh (aj _))
theorem b1b{pins:List (Addr×Obj)}{σ:St}{H:Hp}{s:Shared}{R:It->Hp->Prop}{E:Value->Shared->Prop}{lo hi:Int}{t u v:Tok}{tk:Nat}(I:Inv X pins σ H s)(h1 : -(2 ^ 62)<=lo)(h2:lo<2 ^ 62)(d : -(2 ^ 62)<=hi)(f:hi<2 ^ 62)
  (q:R (Itr lo (hi-lo).toNat) H):wpAny (model X.prog X.w) X.A (pyIter (.ref s.heap.objs.size)) (PIE X pins σ tg R) E {s with heap:=s.heap.push {cls:=.type "range",data:=.fields #[.int lo t,.int hi u,.int 1 v]},toks:=tk}:=by
 refine wpAny_pyIter_range (IsRange.new ..) (small_one h1 h2 d f) ?_;have a:Inv X pins σ H {s with heap:=s.heap.push {cls:=.type "range",data:=.fields #[.int lo t,.int hi u,.int 1 v]},toks:=tk}:=I.kept λb o e=>ae _ e;refine⟨(s.heap.push {cls:=.type "range",data:=.fields #[.int lo t,.int hi u,.int 1 v]}).objs.size,[(s.heap.push {cls:=.type "range",data:=.fields #[.int lo t,.int hi u,.int 1 v]}).objs.size],_,_,H,rfl,
  a.kept (t':=tk) λb o e=>ae _ e,a6F _ lo (hi-lo).toNat,?_,λb g=>?_,q⟩
 .have e1:lo+((0:Nat):Int)*1=lo:=by simp
  have c:(((hi-lo).toNat:Nat):Int)-((0:Nat):Int)=Builtin.Range.rangeSize lo hi 1:=by rw[rangeSize_one];split<;>omega
  show IsRangeIter _ _ (lo+((0:Nat):Int)*1) ((((hi-lo).toNat:Nat):Int)-((0:Nat):Int)) 1;rw[e1,c];exact aG _ rfl
 .have e:b=(s.heap.push {cls:=.type "range",data:=.fields #[.int lo t,.int hi u,.int 1 v]}).objs.size:=by simpa using g
  subst e;exact a.fpOk (aj _) (a.hok.fresh (aj _))
def b5q(ta:TA):TI:=λσ H R=>ta σ H λvs H1=>∃j:Int,vs=[.int j] /\ -(2 ^ 62)<=j/\j<2 ^ 62/\R (Itr 0 j.toNat) H1
theorem a9t{a:Expr}{ta:TA}{p pos:Pos}(f:Gl X "range")(g:X.mg "range"=none)(d:PA X [a] ta)(hs:starEach [a] X.env=[(false,eval a X.env)]:=by rfl):PI X tg (.Call (.Name "range" p) [a] [] pos) (b5q ta):=by
 intro pins s σ H R I h;refine Call_ (a2I I f g boot_range (eD (thn (d pos pins s σ H _ I h) λl s1 ⟨m,H1,c,k,b⟩=>?_) hs rfl));obtain⟨j,e,b,i,q⟩:=b;subst e;cases k with
 |cons r rr =>
  cases rr;obtain⟨t,rfl⟩:=r;exact call_range_1 (b1b c (by omega) (by omega) b i (by simpa using q))
def b7t(wi:TI)(g:TG)(tb:TS):TS:=λD σ H=>wi σ H λJ H1=>∃W:Nat->Nat->St->Hp->Prop,(∃m,W 0 m σ H1)/\∀i m σ H,W i m σ H ->
 (J.stop i H/\D.nx σ H)∨(J.go i H/\∃N:St->Hp->Prop,(∀σ' H',N σ' H'->∃m',m'<m/\W (i+1) m' σ' H')/\∀x H',J.yld i H x H'->g x σ H' λσ2 H2=>tb {D with nx:=N,ct:=N,bk:=D.nx} σ2 H2)
noncomputable def a2x(fp:List Addr)(h:Heap):List (Addr×Obj):=fp.filterMap λb=>(h.get? b).map λo=>(b,o)
theorem S6{fp:List Addr}{h:Heap}{b:Addr}{o:Obj}(a:b∈fp)(e:h.get? b=some o):(b,o)∈a2x fp h:=cF.mpr ⟨b,a,by rw[e];rfl⟩
theorem a9C{fp:List Addr}{h:Heap}{p:Addr×Obj}(hp:p∈a2x fp h):p.1∈fp/\h.get? p.1=some p.2:=by
 obtain⟨b,c,e⟩:=cF.mp hp;cases q:h.get? b with
 |none=>rw[q]at e;cases e
 |some o =>
  rw[q]at e;have a:(b,o)=p:=bx e;subst a;exact⟨c,q⟩
theorem Inv.pinned{pins:List (Addr×Obj)}{σ:St}{H:Hp}{s:Shared}{fp:List Addr}(I:Inv X pins σ H s)(g:∀b∈fp,a1j X pins H b)(h:∀b∈fp,∃o,s.heap.get? b=some o/\∀v,o.data≠.cell v):Inv X (pins++a2x fp s.heap) σ H s :=
 I.pins_of λp i=>(aC.mp i).elim (λz=>I.pin p (aO _ z)) λz=>by
  obtain⟨c,e⟩:=a9C z;obtain⟨f,f1,f2,_⟩:=g p.1 c;obtain⟨o,a,d⟩:=h p.1 c;rw[e]at a;cases a;exact⟨e,f,f1,f2,d⟩
theorem Inv.unpinned{pins pl:List (Addr×Obj)}{σ:St}{H:Hp}{s:Shared}(I:Inv X (pins++pl) σ H s):Inv X pins σ H s:=I.pins_of λp a=>I.pin p (aO _ (aS _ a))
theorem b5R{l:Expr}{body:List Stmt}{U:TI}{g:TG}{tb:TS}{pos:Pos}(hp:PassesOwn (model X.prog X.w) X.A X.env X.xe)(P:X.calm=true)(hi:PI X tg l U)(hg:PG X tg g)(k:PSs X body tb)
  (hs:∀x,foldedSetIterable l X.env x=pure x:=by intro _;rfl):PS X (.For tg l body [] pos) (b7t U g tb):=by
 intro pins s σ H D I h;refine wpAny_For (thn (hi pins s σ H _ I h) λv s1 h1=>thn h1 λa0 s2 h2=>?_) hs;obtain⟨it,fp,S,J,H2,e,Y,T,L,f2,W,⟨m0,w0⟩,B⟩:=h2;subst e;have p:∀{H':Hp},(∀b∈fp,H' b=none)->∀b∈fp,a1j X pins H' b:=λhn b k=>⟨hn b k,(f2 b k).2⟩;refine codeAny_forLoop_any (λn s'=>∃i σ' H',Inv X pins σ' H' s'/\S i s'.heap/\(∀b∈fp,H' b=none)/\W i n σ' H') ?_ m0 ⟨0,σ,H2,Y,L,λb k=>(f2 b k).1,w0⟩;rintro n Q ⟨i,σ3,C,O,z,w,w3⟩;rcases B i n σ3 C w3 with⟨A,qn⟩|⟨go,N,hN,step⟩
 .refine dD hp (thn (T.done X rfl rfl rfl P i pins Q σ3 C X.xe O (p w) z A) λr s4 ⟨G,Z⟩=>?_);subst G;exact dX ⟨σ3,C,Z,qn⟩
 .refine dD hp (thn (T.item X rfl rfl rfl P i pins Q σ3 C X.xe O (p w) z go) λr s4 ⟨u,G,h4⟩=>?_);subst G;refine dD hp (thn h4 λ_ R ⟨x,M,I5,r5,y5,t,F⟩=>?_);have E:=I5.pinned (p F) (T.obj _ _ t);refine dD hp (thn (hg _ R σ3 M x u _ E r5 (step x M y5)) λ_ s6 ⟨σ6,V,I6,q6⟩=>?_);refine dD hp (thn (k _ s6 σ6 V _ I6 q6) λf K q=>?_);have j:∀{σ7:St}{a:Hp},Inv X (pins++a2x fp R.heap) σ7 a K->N σ7 a->∃m,m<n/\∃i σ' H',Inv X pins σ' H' K/\S i K.heap/\(∀b∈fp,H' b=none)/\W i m σ' H':=λ{σ7 a} c y=>by
   obtain⟨m',hm,w7⟩:=hN σ7 a y;refine⟨m',hm,i+1,σ7,a,c.unpinned,T.keep _ _ _ t λb k o e=>(c.pin (b,o) (aO _ (aO _ (S6 k e)))).1,λb k=>?_,w7⟩;obtain⟨o,e,d⟩:=T.obj _ _ t b k;exact(c.pin (b,o) (aO _ (aO _ (S6 k e)))).2.1
  cases f with
  |next=>obtain⟨σ7,a,c,y⟩:=q;exact j c y
  |cont=>obtain⟨σ7,a,c,y⟩:=q;exact j c y
  |brk=>obtain⟨σ7,a,c,q⟩:=q;exact⟨σ7,a,c.unpinned,q⟩
  |ret v=>obtain⟨x7,σ7,a,c,r7,q⟩:=q;exact⟨x7,σ7,a,c.unpinned,r7,q⟩
end
theorem R1{K:PySem.W.Frag}{a:Addr}{xs:List V}{g:TG}{tb:TS}{D:Ends}{σ:St}{H:Hp}(b:Nat->St->Hp->Prop)(h0:b 0 σ H)(f:∀i σ H,i<=xs.length->b i σ H->SqL K H a xs)
  (hs:∀i x σ H,xs[i]?=some x->b i σ H->g x σ H λσ2 H2=>tb {D with nx:=b (i+1),ct:=b (i+1),bk:=D.nx} σ2 H2) (hd:∀σ H,b xs.length σ H->D.nx σ H) :
  ∃W:Nat->Nat->St->Hp->Prop,(∃m,W 0 m σ H)/\∀i m σ H,W i m σ H ->
   ((Itl K a).stop i H/\D.nx σ H)∨((Itl K a).go i H/\∃N:St->Hp->Prop,(∀σ' H',N σ' H'->∃d,d<m/\W (i+1) d σ' H')/\∀x H',(Itl K a).yld i H x H'->g x σ H' λσ2 H2=>tb {D with nx:=N,ct:=N,bk:=D.nx} σ2 H2):=by
 refine⟨λi m σ H=>m=xs.length-i/\i<=xs.length/\b i σ H,⟨xs.length,by simp,bo _,h0⟩,?_⟩;rintro i m σ H ⟨rfl,hi,p⟩;have q:=f i σ H hi p;by_cases c:i<xs.length
 .refine .inr ⟨⟨xs,xs[i],q,by simp[c]⟩,b (i+1),λσ' H' h=>⟨xs.length-(i+1),by omega,rfl,c,h⟩,λx H' y=>?_⟩;obtain⟨e,y⟩:=y;subst e;exact hs i x σ _ (y xs q) p
 .have e:i=xs.length:=by omega
  subst e;exact .inl ⟨⟨xs,q,aj _⟩,hd σ H p⟩
theorem b4x{K:PySem.W.Frag}{a:Addr}{xs:List V}{g:TG}{tb:TS}{D:Ends}{σ:St}{H:Hp}(b:Nat->St->Hp->Prop)(h0:b 0 σ H)(f:∀i σ H,i<=xs.length->b i σ H->SqT K H a xs)
  (hs:∀i x σ H,xs[i]?=some x->b i σ H->g x σ H λσ2 H2=>tb {D with nx:=b (i+1),ct:=b (i+1),bk:=D.nx} σ2 H2) (hd:∀σ H,b xs.length σ H->D.nx σ H) :
  ∃W:Nat->Nat->St->Hp->Prop,(∃m,W 0 m σ H)/\∀i m σ H,W i m σ H ->
   ((Itt K a).stop i H/\D.nx σ H)∨((Itt K a).go i H/\∃N:St->Hp->Prop,(∀σ' H',N σ' H'->∃d,d<m/\W (i+1) d σ' H')/\∀x H',(Itt K a).yld i H x H'->g x σ H' λσ2 H2=>tb {D with nx:=N,ct:=N,bk:=D.nx} σ2 H2):=by
 refine⟨λi m σ H=>m=xs.length-i/\i<=xs.length/\b i σ H,⟨xs.length,by simp,bo _,h0⟩,?_⟩;rintro i m σ H ⟨rfl,hi,p⟩;have q:=f i σ H hi p;by_cases c:i<xs.length
 .refine .inr ⟨⟨xs,xs[i],q,by simp[c]⟩,b (i+1),λσ' H' h=>⟨xs.length-(i+1),by omega,rfl,c,h⟩,λx H' y=>?_⟩;obtain⟨e,y⟩:=y;subst e;exact hs i x σ _ (y xs q) p
 .have e:i=xs.length:=by omega
  subst e;exact .inl ⟨⟨xs,q,aj _⟩,hd σ H p⟩
theorem a1b{lo:Int}{n:Nat}{g:TG}{tb:TS}{D:Ends}{σ:St}{H:Hp}(a:Nat->St->Hp->Prop)(h0:a 0 σ H)
  (hs:∀i σ H,i<n->a i σ H->g (.int (lo+i)) σ H λσ2 H2=>tb {D with nx:=a (i+1),ct:=a (i+1),bk:=D.nx} σ2 H2) (hd:∀σ H,a n σ H->D.nx σ H) :
  ∃W:Nat->Nat->St->Hp->Prop,(∃m,W 0 m σ H)/\∀i m σ H,W i m σ H ->
   ((Itr lo n).stop i H/\D.nx σ H)∨((Itr lo n).go i H/\∃N:St->Hp->Prop,(∀σ' H',N σ' H'->∃c,c<m/\W (i+1) c σ' H')/\∀x H',(Itr lo n).yld i H x H'->g x σ H' λσ2 H2=>tb {D with nx:=N,ct:=N,bk:=D.nx} σ2 H2):=by
 refine⟨λi m σ H=>m=n-i/\i<=n/\a i σ H,⟨n,by simp,bo _,h0⟩,?_⟩;rintro i m σ H ⟨rfl,hi,p⟩;by_cases b:i<n
 .refine .inr ⟨b,a (i+1),λσ' H' d=>⟨n-(i+1),by omega,rfl,b,d⟩,λx H' y=>?_⟩;obtain⟨e,y⟩:=y;subst e y;exact hs i σ _ b p
 .have e:i=n:=by omega
  subst e;exact .inl ⟨aj _,hd σ H p⟩
abbrev R2:=V->V->Hp->VK->Prop
def OpR(X:Cx)(f:Value->Value->Sem Value)(r:R2):Prop :=
 ∀(pins:List (Addr×Obj)) (s:Shared) (σ:St) (H:Hp) (x y:V) (v u:Value) (Q:VK),Inv X pins σ H s->RelV x v->RelV y u->r x y H Q ->
  wpAny (model X.prog X.w) X.A (f v u) (EP X pins σ Q) X.xe s
def UnR(X:Cx)(f:Value->Sem Value)(r:V->Hp->VK->Prop):Prop :=
 ∀(pins:List (Addr×Obj)) (s:Shared) (σ:St) (H:Hp) (x:V) (v:Value) (Q:VK),Inv X pins σ H s->RelV x v->r x H Q ->
  wpAny (model X.prog X.w) X.A (f v) (EP X pins σ Q) X.xe s
def D0(X:Cx)(f:Value)(r:List V->Hp->VK->Prop):Prop :=
 ∀(pins:List (Addr×Obj)) (s:Shared) (σ:St) (H:Hp) (xs:List V) (us:List Value) (Q:VK),Inv X pins σ H s->Vals xs us->r xs H Q ->
  wpAny (model X.prog X.w) X.A (call f us) (EP X pins σ Q) X.xe s
def b8j(X:Cx)(r:V->Hp->(Bool->Hp->Prop)->Prop):Prop :=
 ∀(pins:List (Addr×Obj)) (s:Shared) (σ:St) (H:Hp) (x:V) (v:Value) (Q:Bool->Hp->Prop),Inv X pins σ H s->RelV x v->r x H Q ->
  wpAny (model X.prog X.w) X.A (truthy v) (TP X pins σ Q) X.xe s
def tOp(r:R2)(ta tb:TE):TE:=λσ H Q=>ta σ H λx H1=>tb σ H1 λy H2=>r x y H2 Q
def tUn(r:V->Hp->VK->Prop)(ta:TE):TE:=λσ H Q=>ta σ H λx H1=>r x H1 Q
def rI(C:Int->Int->Prop)(g:Int->Int->V):R2:=λx y H Q=>∃i j,x=.int i/\y=.int j/\C i j/\Q (g i j) H
def rI0(g:Int->Int->V):R2:=λx y H Q=>∃i j,x=.int i/\y=.int j/\Q (g i j) H
def rU(g:Int->V):V->Hp->VK->Prop:=λx H Q=>∃i,x=.int i/\Q (g i) H
section
variable {X:Cx}{a b c:Expr}{ta tb tc:TE}{pos:Pos}
theorem b7a(e:PE X a ta)(g:PE X b tb){pins:List (Addr×Obj)}{s:Shared}{σ:St}{H:Hp}{R:V->V->Hp->Prop}(I:Inv X pins σ H s)
  (h:ta σ H λx H1=>tb σ H1 λy H2=>R x y H2) {Q:Value->Shared->Prop}{f:Value->Value->Sem Value}
  (i:∀v u s2 x y H2,Inv X pins σ H2 s2->RelV x v->RelV y u->R x y H2->wpAny (model X.prog X.w) X.A (f v u) Q X.xe s2) :
  wpAny (model X.prog X.w) X.A (eval a X.env) (λv s₁=>wpAny (model X.prog X.w) X.A (eval b X.env) (λu s₂=>wpAny (model X.prog X.w) X.A (f v u) Q X.xe s₂) X.xe s₁) X.xe s:=by
 refine thn (e pins s σ H _ I h) λv s1 ⟨x,H1,c,l,j⟩=>?_;refine thn (g pins s1 σ H1 _ c j) λu s2 ⟨y,H2,d,m,k⟩=>?_;exact i v u s2 x y H2 d l m k
theorem U6{c:Operator}{r:R2}(g:OpR X (binaryOp c) r)(e:PE X a ta)(f:PE X b tb):PE X (.BinOp a c b pos) (tOp r ta tb):=by
 intro pins s σ H Q I h;exact wpAny_BinOp (b7a e f I h λv u s2 x y H2 d i j q=>g pins s2 σ H2 x y v u Q d i j q)
theorem b7E{b:UnaryOp}{r:V->Hp->VK->Prop}(e:UnR X (unaryOp b) r)(d:PE X a ta):PE X (.UnaryOp b a pos) (tUn r ta):=by
 intro pins s σ H Q I h;exact UnaryOp_ (thn (d pins s σ H _ I h) λv s1 ⟨x,H1,c,g,f⟩=>e pins s1 σ H1 x v Q c g f)
theorem opI{f:Value->Value->Sem Value}{C:Int->Int->Prop}{g:Int->Int->Int}
  (a:∀(i j:Int) (t u:Tok) (s:Shared) (Q:Value->Shared->Prop) (E:Value->Shared->Prop),C i j->Q (.int (g i j) s.toks) {s with toks:=s.toks+1}->wpAny (model X.prog X.w) X.A (f (.int i t) (.int j u)) Q E s) :
  OpR X f (rI C λi j=>.int (g i j)):=by
 intro pins s σ H x y v u Q I c d h;obtain⟨i,j,rfl,rfl,b,q⟩:=h;obtain⟨t,rfl⟩:=c;obtain⟨t',rfl⟩:=d;exact a i j t t' s _ _ b ⟨.int (g i j),H,I.tok _,⟨_,rfl⟩,q⟩
theorem b7L{f:Value->Value->Sem Value}{g:Int->Int->Int}
  (a:∀(i j:Int) (t u:Tok) (s:Shared) (Q:Value->Shared->Prop) (E:Value->Shared->Prop),Q (.int (g i j) s.toks) {s with toks:=s.toks+1}->wpAny (model X.prog X.w) X.A (f (.int i t) (.int j u)) Q E s) :
  OpR X f (rI0 λi j=>.int (g i j)):=by
 intro pins s σ H x y v u Q I b c h;obtain⟨i,j,rfl,rfl,q⟩:=h;obtain⟨t,rfl⟩:=b;obtain⟨t',rfl⟩:=c;exact a i j t t' s _ _ ⟨.int (g i j),H,I.tok _,⟨_,rfl⟩,q⟩
theorem b4a{f:Value->Value->Sem Value}{g:Int->Int->Bool}
  (a:∀(i j:Int) (t u:Tok) (s:Shared) (Q:Value->Shared->Prop) (E:Value->Shared->Prop),Q (.bool (g i j)) s->wpAny (model X.prog X.w) X.A (f (.int i t) (.int j u)) Q E s) :
  OpR X f (rI0 λi j=>.bl (g i j)):=by
 intro pins s σ H x y v u Q I b c h;obtain⟨i,j,rfl,rfl,q⟩:=h;obtain⟨t,rfl⟩:=b;obtain⟨t',rfl⟩:=c;exact a i j t t' s _ _ ⟨.bl (g i j),H,I,rfl,q⟩
def b8b(i j:Int):Prop:=0<j/\j<1073741824
def b8a(i j:Int):Prop:=0<=j/\j<=1000000/\i.natAbs<2 ^ 64
def CMul(i j:Int):Prop:=(-(2 ^ 64)<i/\i<2 ^ 64)∨(-(2 ^ 64)<j/\j<2 ^ 64)
theorem CMul.ok{i j:Int}(h:CMul i j):IntMulOk i j:=by
 rcases h with⟨h1,h2⟩|⟨h1,h2⟩
 .exact .of_left (intBits_le_64 h1 h2)
 .exact .of_right (intBits_le_64 h1 h2)
theorem b6w:OpR X (binaryOp .Add) (rI0 λi j=>.int (i+j)):=b7L λ_ _ _ _ _ _ _ q=>add_int q
theorem b6l:OpR X (binaryOp .Sub) (rI0 λi j=>.int (i-j)):=b7L λ_ _ _ _ _ _ _ q=>sub_int q
theorem b6q:OpR X (binaryOp .Mult) (rI CMul λi j=>.int (i*j)):=opI λ_ _ _ _ _ _ _ a q=>mul_int q a.ok
theorem b3Y:OpR X (binaryOp .FloorDiv) (rI b8b λi j=>.int (i / j)):=opI λi j _ _ _ _ _ a q=>by
 have h1:(0:Int)<j:=a.1;have h2:j<1073741824:=a.2;exact floordiv_int (by omega) (by rw[Int.fdiv_eq_ediv_of_nonneg i (by omega)];exact q) (.inl (PyProof.noPylong_small (by omega)))
theorem b6r:OpR X (binaryOp .Mod) (rI (λ_ j=>0<j) λi j=>.int (i % j)):=opI λi j _ _ _ _ _ a q=>by
 have h1:(0:Int)<j:=a;exact mod_int' (by omega) (by rw[Int.fmod_eq_emod_of_nonneg i (by omega)];exact q)
theorem b6n:OpR X (binaryOp .Pow) (rI b8a λi j=>.int (i ^ j.toNat)):=opI λ_ _ _ _ _ _ _ a q=>pow_int_small a.1 a.2.1 a.2.2 q
theorem unI{f:Value->Sem Value}{g:Int->Int}
  (a:∀(i:Int) (t:Tok) (s:Shared) (Q:Value->Shared->Prop) (E:Value->Shared->Prop),Q (.int (g i) s.toks) {s with toks:=s.toks+1}->wpAny (model X.prog X.w) X.A (f (.int i t)) Q E s) :
  UnR X f (rU λi=>.int (g i)):=by
 intro pins s σ H x v Q I b h;obtain⟨i,rfl,q⟩:=h;obtain⟨t,rfl⟩:=b;exact a i t s _ _ ⟨.int (g i),H,I.tok _,⟨_,rfl⟩,q⟩
theorem b5v:UnR X (unaryOp .USub) (rU λi=>.int (-i)):=unI λ_ _ _ _ _ q=>neg_int q
end
noncomputable def b5E:V->V->Bool
 |.non,.non=>true | .non,.int _=>true | .int _,.non=>true | .non,.bl _=>true | .bl _,.non=>true | .non,.str _=>true | .str _,.non=>true
 |.int _,.int _=>true | .bl _,.bl _=>true | .str _,.str _=>true | .byt _,.byt _=>true
 |.int _,.str _=>true | .str _,.int _=>true | .bl _,.str _=>true | .str _,.bl _=>true
 |_,_=>false
theorem a1N(a b:Int):b5E (.int a) (.int b)=true:=rfl
def rEq:R2:=λx y H Q=>b5E x y=true/\Q (.bl (decide (x=y))) H
def rNe:R2:=λx y H Q=>b5E x y=true/\Q (.bl (!decide (x=y))) H
theorem b4z{i j:Int}:decide (V.int i=V.int j)=(i==j):=by
 rw[cv];simp
theorem b6X{i j:Bool}:decide (V.bl i=V.bl j)=(i==j):=by
 rw[cv];simp
theorem b4y{i j:Str}:decide (V.str i=V.str j)=(i==j):=by
 rw[cv];simp
theorem b4A{i j:Array UInt8}:decide (V.byt i=V.byt j)=(i.toList==j.toList):=by
 rw[cv];cases i;cases j;simp
section
variable {X:Cx}{a b c:Expr}{ta tb tc:TE}{pos:Pos}
theorem E4{pins:List (Addr×Obj)}{σ:St}{H:Hp}{s:Shared}{Q:VK}{k a:Bool}(I:Inv X pins σ H s)(q:Q (.bl k) H)(e:k=a):EP X pins σ Q (.bool a) s:=by
 subst e;exact⟨.bl k,H,I,rfl,q⟩
theorem b5i:OpR X (compareOp .Eq) rEq:=by
 intro pins s σ H x y v u Q I b a h;obtain⟨hs,q⟩:=h;cases x with
 |non =>
  cases b;cases y with
  |non=>cases a;exact PySem.EqNone.eq_none_none (E4 I q (by simp))
  |bl j=>cases a;exact PySem.EqNone.eq_none_bool (E4 I q (by simp))
  |int j=>obtain⟨t',rfl⟩:=a;exact PySem.EqNone.eq_none_int (E4 I q (by simp))
  |str j=>obtain⟨t',rfl⟩:=a;exact PySem.EqNone.eq_none_str (E4 I q (by simp))
  |_=>exact absurd (show false=true from hs) a_
 |bl i =>
  cases b;cases y with
  |non=>cases a;exact PySem.EqNone.eq_bool_none (E4 I q (by simp))
  |bl j=>cases a;exact eq_bool (E4 I q b6X)
  |str j=>obtain⟨t',rfl⟩:=a;exact PySem.EqMixed.eq_bool_str (E4 I q (by simp))
  |_=>exact absurd (show false=true from hs) a_
 |int i =>
  obtain⟨t,rfl⟩:=b;cases y with
  |non=>cases a;exact PySem.EqNone.eq_int_none (E4 I q (by simp))
  |int j=>obtain⟨t',rfl⟩:=a;exact eq_int (E4 I q b4z)
  |str j=>obtain⟨t',rfl⟩:=a;exact PySem.EqMixed.eq_int_str (E4 I q (by simp))
  |_=>exact absurd (show false=true from hs) a_
 |str i =>
  obtain⟨t,rfl⟩:=b;cases y with
  |non=>cases a;exact PySem.EqNone.eq_str_none (E4 I q (by simp))
  |bl j=>cases a;exact PySem.EqMixed.eq_str_bool (E4 I q (by simp))
  |int j=>obtain⟨t',rfl⟩:=a;exact PySem.EqMixed.eq_str_int (E4 I q (by simp))
  |str j=>obtain⟨t',rfl⟩:=a;exact eq_str (E4 I q b4y)
  |_=>exact absurd (show false=true from hs) a_
 |byt i =>
  obtain⟨t,rfl⟩:=b;cases y with
  |byt j=>obtain⟨t',rfl⟩:=a;exact PySem.W.eq_bytes (E4 I q b4A)
  |_=>exact absurd (show false=true from hs) a_
 |_=>cases y<;>exact absurd (show false=true from hs) a_
theorem b7I:OpR X (compareOp .Lt) (rI0 λi j=>.bl (decide (i<j))):=b4a λ_ _ _ _ _ _ _ q=>lt_int q
theorem b7J:OpR X (compareOp .LtE) (rI0 λi j=>.bl (decide (i<=j))):=b4a λ_ _ _ _ _ _ _ q=>le_int q
theorem b7K:OpR X (compareOp .Gt) (rI0 λi j=>.bl (decide (j<i))):=b4a λ_ _ _ _ _ _ _ q=>gt_int q
theorem b5h:OpR X (compareOp .GtE) (rI0 λi j=>.bl (decide (j<=i))):=b4a λ_ _ _ _ _ _ _ q=>ge_int q
theorem b1F:OpR X (compareOp .Is) (λx y H Q=>y=.non/\Q (.bl (decide (x=.non))) H):=by
 intro pins s σ H x y v u Q I a b h;obtain⟨rfl,q⟩:=h;cases b;refine is_none_gen (E4 I q ?_);cases x<;>first
  |(cases a;rfl)
  |(obtain⟨t,rfl⟩:=a;rfl)
theorem a8p:OpR X (compareOp .IsNot) (λx y H Q=>y=.non/\Q (.bl (!decide (x=.non))) H):=by
 intro pins s σ H x y v u Q I a b h;obtain⟨rfl,q⟩:=h;cases b;refine isnot_none_gen (E4 I q ?_);cases x<;>first
  |(cases a;rfl)
  |(obtain⟨t,rfl⟩:=a;rfl)
theorem G0(b:Expr){a:CmpOp}(h:a≠.In:=by decide)(h2:a≠.NotIn:=by decide):behindInMarks a b=false:=by
 have c:(a==CmpOp.In)=false:=by cases a<;>first|rfl|exact absurd rfl h
 have d:(a==CmpOp.NotIn)=false:=by cases a<;>first|rfl|exact absurd rfl h2
 cases b with
 |Set elts k p=>show(k==0 && (a==CmpOp.In || a==CmpOp.NotIn) && elts.all (constantsAlone 8))=false;rw[c,d,Bool.or_false,dO,dN]
 |_=>rfl
theorem S3{c:CmpOp}{r:R2}(i:OpR X (compareOp c) r)(e:PE X a ta)(f:PE X b tb)(g:behindInMarks c b=false):PE X (.Compare a [c] [b] pos) (tOp r ta tb):=by
 intro pins s σ H Q I h;exact wpAny_Compare1 (b7a e f I h λv u s2 x y H2 d j k q=>i pins s2 σ H2 x y v u Q d j k q) g
def N3(t:TE):TT:=λσ H Q=>t σ H λx H'=>∃k,x=.bl k/\Q k H'
theorem O3{d:CmpOp}{r:R2}(o:OpR X (compareOp d) r)(l:PE X a ta)(m:PE X b tb)(n:behindInMarks d b=false):PT X (.Compare a [d] [b] pos) (N3 (tOp r ta tb)):=by
 intro pins s σ H Q I h;refine wpAny_isTrue_Compare1 (thn (l pins s σ H _ I h) λv s1 ⟨x,H1,g,w,p⟩=>thn (m pins s1 σ H1 _ g p) λu s2 ⟨y,H2,i,A,q⟩ =>
  thn (o pins s2 σ H2 x y v u _ i w A q) λc C ⟨z,f,j,B,k,e,t⟩=>?_) n
 subst e;cases B;exact dg ⟨f,j,t⟩
def b7k(K:PySem.W.Frag)(x:V)(H:Hp)(k:Bool):Prop :=
 match x with
 |.non=>k=false
 |.bl b=>k=b
 |.int i=>k=(i != 0)
 |.str y=>y.length<=sizeLine/\k=((y.length:Int) != 0)
 |.byt y=>y.size<=sizeLine/\k=((y.size:Int) != 0)
 |.ref p=>(∃xs,SqL K H p xs/\k=!xs.isEmpty)∨(∃xs,SqT K H p xs/\k=!xs.isEmpty)∨∃kvs,H p=some (.dK kvs)/\k=!kvs.isEmpty
 |_=>False
theorem a7q{κ:Type}{kvs:List (κ×V)}{vs:List (κ×Value)}(r:KV kvs vs):(!vs.isEmpty)=!kvs.isEmpty:=by
 cases r<;>rfl
theorem a2V{xs:List V}{its:List Value}(r:Vals xs its):(!its.toArray.isEmpty)=!xs.isEmpty:=by
 cases r<;>simp
theorem a0R:(sizeLine:Nat)<2 ^ 63:=by rw[aV];decide
theorem b5y:b8j X (λx H Q=>∃k,b7k X.K x H k/\Q k H):=by
 intro pins s σ H x v Q I d h;obtain⟨k,e,q⟩:=h;have u:=a0R;have hs:sizeLine=16777216:=aV;cases x with
 |non =>
  cases d;have a:k=false:=e;subst a;exact truthy_none ⟨H,I,q⟩
 |bl b =>
  cases d;have a:k=b:=e;subst a;exact dg ⟨H,I,q⟩
 |int i =>
  obtain⟨t,rfl⟩:=d;have a:k=(i != 0):=e;subst a;exact PySem.P.truthy_int ⟨H,I,q⟩
 |str y =>
  obtain⟨t,rfl⟩:=d;obtain⟨o,a⟩:y.length<=sizeLine/\k=((y.length:Int) != 0):=e;subst a;exact PySem.P.truthy_str (by omega) ⟨H,I.tok _,q⟩
 |byt y =>
  obtain⟨t,rfl⟩:=d;obtain⟨o,a⟩:y.size<=sizeLine/\k=((y.size:Int) != 0):=e;subst a;exact PySem.W.truthy_bytes (by omega) ⟨H,I.tok _,q⟩
 |ref p =>
  cases d;have a:(∃xs,SqL X.K H p xs/\k=!xs.isEmpty)∨(∃xs,SqT X.K H p xs/\k=!xs.isEmpty)∨∃kvs,H p=some (.dK kvs)/\k=!kvs.isEmpty:=e;rcases a with⟨xs,f,a⟩|⟨xs,f,a⟩|⟨kvs,f,a⟩
  .subst a;obtain⟨its,r,j,l⟩:=I.list f;have c:=r.length;exact wpAny_truthy_list j.isList (by simp only[aA];omega) ⟨H,I.tok _,by rw[a2V r];exact q⟩
  .subst a;obtain⟨its,r,j,l⟩:=I.tuple f;have c:=r.length;exact truthy_tuple j (by simp only[aA];omega) ⟨H,I.tok _,by rw[a2V r];exact q⟩
  .subst a;obtain⟨l,n,g,r,m⟩:kvs.length<=sizeLine/\(p==sysModules)=false/\∃g,KV kvs g/\s.heap.DictOf (B5 X.prog X.w) p g:=I.hok p _ f;have c:kvs.length=g.length:=Paired.length r;exact wpAny_truthy_dict n m (by omega) ⟨H,I.tok _,by rw[a7q r];exact q⟩
 |_=>exact(show False from e).elim
theorem b1m(d:PE X a ta)(e:∀b,isTrue a X.env b=(do let v <-b;standAt a.pos;holding [v] (truthy v))) :
  PT X a (λσ H Q=>ta σ H λx H'=>∃k,b7k X.K x H' k/\Q k H'):=by
 intro pins s σ H Q I h;exact isTrue_plain (thn (d pins s σ H _ I h) λv s1 ⟨x,H1,c,g,f⟩=>b5y pins s1 σ H1 x v Q c g f) (e _)
theorem a5s{x:V}{us:List Value}(r:Vals [x] us):∃u,us=[u]/\RelV x u:=by
 cases r with
 |cons r1 r2=>cases r2;exact⟨_,rfl,r1⟩
theorem b7r{x y:V}{us:List Value}(r:Vals [x,y] us):∃u a,us=[u,a]/\RelV x u/\RelV y a:=by
 cases r with
 |cons r1 r2 =>
  cases r2 with
  |cons r3 r4=>cases r4;exact⟨_,_,rfl,r1,r3⟩
theorem b0c(b:X.calm=true):D0 X (.builtin "min") (λxs H Q=>∃i j,xs=[.int i,.int j]/\Q (.int (if j<i then j else i)) H):=by
 intro pins s σ H xs c Q I r h;obtain⟨i,j,rfl,q⟩:=h;obtain⟨u,d,rfl,⟨t,rfl⟩,⟨t',rfl⟩⟩:=b7r r;refine min_two_ints (I.ok.hd b) λh' tk k=>⟨_,H,I.kept k,?_,q⟩;by_cases a:j<i
 .rw[ay a,ay a];exact⟨_,rfl⟩
 .rw[ao a,ao a];exact⟨_,rfl⟩
theorem b0h:D0 X (.type "int") (λxs H Q=>(∃i,xs=[.int i]/\Q (.int i) H)∨∃k,xs=[.bl k]/\Q (.int (if k then 1 else 0)) H):=by
 intro pins s σ H xs a Q I r h;rcases h with⟨i,rfl,q⟩|⟨k,rfl,q⟩
 .obtain⟨u,rfl,t,rfl⟩:=a5s r;exact call_int_int ⟨.int i,H,I,⟨_,rfl⟩,q⟩
 .obtain⟨u,rfl,r1⟩:=a5s r;cases r1;exact call_int_bool ⟨.int (if k then 1 else 0),H,I.tok _,⟨_,rfl⟩,q⟩
end
structure ObjM(h:Heap)(x dx C:Addr)(mA:Str->Option Value):Prop where
 obj:h.get? x=some (PySem.W.instObj C dx)
 ns:h.Ns1 dx mA
 ne:dx≠x
theorem a9G{h:Heap}{dx:Addr}{mA:Str->Option Value}(n:h.Ns1 dx mA):∃od,h.get? dx=some od/\∀name,PySem.W.lookIn name od=some (mA name):=by
 obtain⟨o,es,ep,g,hd,d,_,f⟩:=n;refine⟨o,g,λname=>?_⟩;have e:=f name;unfold nsFind findBy at e;rw[<-Array.find?_toList]at e;unfold PySem.W.lookIn;rw[hd];dsimp only;split
 .rename_i y q;rw[q]at e;exact aQ some e
 .rename_i q;rw[q]at e;have a:es.toList.any (·.refKey)=false:=by
   rw[ek];intro y i;obtain⟨z,t,b⟩:=d y (eF.mp i);simp[DictEntry.refKey,b]
  have c:¬es.toList.any (·.refKey)=true:=by rw[a];exact a_
  rw[ao c];exact aQ some e
theorem ObjM.look{h:Heap}{x dx C:Addr}{mA:Str->Option Value}(I:ObjM h x dx C mA):∃od,PySem.W.InstAt h x (PySem.W.instObj C dx) C (some od)/\∀name,PySem.W.lookIn name od=some (mA name) :=
 let ⟨od,ho,hl⟩:=a9G I.ns
 ⟨od,⟨I.obj,rfl,rfl,ho⟩,hl⟩
section
variable {prog:Program}{w:World}{A:Around}{E:Value->Shared->Prop}{s:Shared}{K:PySem.W.Frag}{x dx C f:Addr}{mA:Str->Option Value}{name:Str}{v:Value}
theorem b4v{a:Bool}{Q:Value->Shared->Prop}(X:K.In s.heap)(I:ObjM s.heap x dx C mA)(d:PySem.W.plainGet K C name=true)(e:PySem.W.hasDictIn K C=true)
  (c:PySem.W.findIn K (.ref C) name=some none) (g:mA name=some v) (b:PySem.W.handedIn v=true) (h:Q v {s with toks:=s.toks+1}) :
  wpAny (model prog w) A (getAttr (.ref x) name a) Q E s:=by
 obtain⟨od,J,f⟩:=I.look;exact PySem.W.get_value X J (PySem.W.plainGet_of d).1 (PySem.W.findObj_own e c rfl (by rw[f,g])) b h
theorem b2p{pl:Sem Bool}{Q:Value×List Value->Shared->Prop}(X:K.In s.heap)(I:ObjM s.heap x dx C mA)(a:PySem.W.plainGet K C name=true)
  (b:PySem.W.findIn K (.ref C) name=some (some (.ref f))) (d:PySem.W.isFn K (.ref f)=true) (e:mA name=none) (h:Q (.ref f,[.ref x]) s) :
  wpAny (model prog w) A (getMethod (.ref x) name pl) Q E s:=by
 obtain⟨od,J,c⟩:=I.look;exact PySem.W.method_fn X J (PySem.W.plainGet_of a).1 (PySem.W.plainGet_of a).2 b (bh.mp d) (by show(PySem.W.lookIn name od).map (·.isSome)=some false;rw[c,e];rfl) h
theorem b3l{ns:List Str}{Q:Unit->Shared->Prop}(X:K.In s.heap)(I:ObjM s.heap x dx C mA)
  (hs:PySem.W.findIn K (.ref C) "__setattr__"=some (some (.builtin "object.__setattr__"))) (hp:PySem.W.plainOver K C=true) (n:PySem.W.takerIn K C name=some none) (m:PySem.W.hasDictIn K C=true)
  (hw:PySem.Within mA ns) (hsz:ns.length<=sizeLine)
  (h:∀h',ObjM h' x dx C (λy=>if y=name then some v else mA y)->Heap.SameBut dx s.heap h'->Q () {s with heap:=h',toks:=s.toks+2}) :
  wpAny (model prog w) A (setAttr (.ref x) name v) Q E s:=by
 obtain⟨od,J,p⟩:=I.look;refine PySem.W.set_plain X J hs (PySem.W.osa_open (s:={s with toks:=s.toks+1}) (r:=none) X J hp n λb=>?_);obtain⟨cd,l,f⟩:=PySem.W.any_some m;have o:s.heap.get? x=some ⟨.ref C,some dx,.plain,#[]⟩:=I.obj;refine aa (ag (aa (aa (wpAny_loadPart o (aa (PySem.W.Looks.here (s:={s with toks:=s.toks+1}) (PySem.W.looks_clsIn X l) ?_))))));rw[f];refine ag (a:=some dx) (aa (ag (aa ?_)));refine wpAny_nsSet1 (s:={s with toks:=s.toks+1}) I.ns λh' c d=>?_;obtain⟨q,k,j,i,g,e⟩:=c.count (PySem.Within.cons name v hw);refine aa (wpAny_lookBehind i (by rw[g];exact pastItsLine_dict (bb e (by rw[aT];omega))) ?_);exact ag (h _ ⟨(d.2 _ (dC I.ne)).trans I.obj,c,I.ne⟩ d)
theorem b1T{R:Result->Shared->Prop}{vs:List Value}{a:List (Str×Value)}(X:K.In s.heap)(c:PySem.W.makesIn K C=true)
  (hi:PySem.W.findIn K (.ref C) "__init__"=some (some (.ref f))) (b:PySem.W.typeIn K (.ref f)=some (.type "function"))
  (h:codeAny (model prog w) (A.under (.builtin "type.__call__" ⟨.ref C::vs,a⟩)) (.call (.ref f) ⟨.ref (s.heap.objs.size+1)::vs,a⟩) (PySem.W.InitBack (s.heap.objs.size+1) R)
   {s with heap:=(s.heap.push PySem.W.emptyDict).push (PySem.W.instObj C s.heap.objs.size)}) :
  codeAny (model prog w) A (.call (.ref C) ⟨vs,a⟩) R s:=by
 obtain⟨e,g,d,t,os⟩:=s;exact PySem.W.make_core (PySem.W.makes_of X c) (PySem.W.looks_findIn X hi) (λself=>PySem.W.bind_fn X self b) (.inl rfl) h
end
noncomputable def G9(f:Str)(v:V):List (Str×V)->List (Str×V)
 |[]=>[(f,v)]
 |(g,x)::r=>if g=f then(g,v)::r else(g,x)::G9 f v r
theorem a1r(f g:Str)(v:V):∀fs:List (Str×V),(G9 f v fs).lookup g=if g=f then some v else fs.lookup g
 |[]=>by
  show List.lookup g [(f,v)]=_;by_cases h:g=f
  .have hb:(g==f)=true:=bh.mpr h;simp only[List.lookup,hb,ay h]
  .have hb:(g==f)=false:=cJ.mpr h;simp only[List.lookup,hb,ao h]
 |(k,x)::r=>by
  have b:=a1r f g v r;rw[show G9 f v ((k,x)::r)=(if k=f then(k,v)::r else(k,x)::G9 f v r)from rfl];by_cases a:k=f
  .rw[ay a];by_cases h:g=k
   .have hb:(g==k)=true:=bh.mpr h;simp only[List.lookup,hb,ay (h.trans a)]
   .have hb:(g==k)=false:=cJ.mpr h;simp only[List.lookup,hb,ao (λe:g=f=>h (e.trans a.symm))]
  .rw[ao a];by_cases h:g=k
   .have hb:(g==k)=true:=bh.mpr h;simp only[List.lookup,hb,ao (λe:g=f=>a (h.symm.trans e))]
   .have hb:(g==k)=false:=cJ.mpr h;simp only[List.lookup,hb];exact b
theorem a0V(f:Str)(v:V):∀fs:List (Str×V),f∈(G9 f v fs).map (·.1)/\∀g,g∈fs.map (·.1)->g∈(G9 f v fs).map (·.1)
 |[]=>⟨by simp[G9],λg h=>by simp at h⟩
 |(k,x)::r=>by
  obtain⟨b,c⟩:=a0V f v r;rw[show G9 f v ((k,x)::r)=(if k=f then(k,v)::r else(k,x)::G9 f v r)from rfl];by_cases a:k=f
  .rw[ay a];subst a;exact⟨by simp,λg h=>by simpa using h⟩
  .rw[ao a];refine⟨?_,λg h=>?_⟩
   .rw[aU];exact av _ b
   .rw[aU]at h⊢;rcases aE.mp h with e|e
    .exact aE.mpr (.inl e)
    .exact av _ (c g e)
theorem a1t(f:Str)(v:V):∀fs:List (Str×V),(G9 f v fs).length<=fs.length+1
 |[]=>by simp[G9]
 |(k,x)::r=>by
  have b:=a1t f v r;rw[show G9 f v ((k,x)::r)=(if k=f then(k,v)::r else(k,x)::G9 f v r)from rfl];by_cases a:k=f
  .rw[ay a,aT,aT];omega
  .rw[ao a,aT,aT];omega
theorem RelO.some_of{v:V}{o:Option Value}(r:RelO (some v) o):∃u,o=some u/\RelV v u:=by
 cases o with
 |none=>exact(show False from r).elim
 |some u=>exact⟨u,rfl,r⟩
theorem RelO.none_of{o:Option Value}(r:RelO none o):o=none:=by
 cases o with
 |none=>rfl
 |some u=>exact(show False from r).elim
theorem a9N{v:V}{u:Value}(r:RelV v u):PySem.W.handedIn u=true:=by
 cases v with
 |non=>cases(show u=Value.none from r);rfl
 |bl b=>cases(show u=Value.bool b from r);rfl
 |int i=>obtain⟨t,e⟩:=(show ∃t,u=Value.int i t from r);cases e;rfl
 |str x=>obtain⟨t,e⟩:=(show ∃t,u=Value.str x t from r);cases e;rfl
 |byt b=>obtain⟨t,e⟩:=(show ∃t,u=Value.bytes b t from r);cases e;rfl
 |flt b=>obtain⟨t,e⟩:=(show ∃t,u=Value.float b t from r);cases e;rfl
 |ref a=>cases(show u=Value.ref a from r);rfl
 |ty n=>cases(show u=Value.type n from r);rfl
section
variable {P:Program}{w:World}{H H':Hp}{h h':Heap}{a C dx:Addr}{fs fs':List (Str×V)}
theorem a1V(b:HOk P w H h)(e:H a=some (.ins C dx fs)):∃mA,ObjM h a dx C mA/\(∀f,RelO (fs.lookup f) (mA f))/\PySem.Within mA (fs.map (·.1))/\fs.length<=1000/\H dx=some (.own a):=by
 obtain⟨d,z,ne,c,mA,n,r,q⟩:=(show ObjOk P w H h a (.ins C dx fs)from b a _ e);exact⟨mA,⟨c,n,ne⟩,r,q,z,d⟩
end
structure Cls(K:PySem.W.Frag)(C:Addr):Prop where
 pg:PySem.W.plainGet K C Str.empty=true
 hd:PySem.W.hasDictIn K C=true
 po:PySem.W.plainOver K C=true
 sa:PySem.W.findIn K (.ref C) "__setattr__"=some (some (.builtin "object.__setattr__"))
theorem Cls.get{K:PySem.W.Frag}{C:Addr}(c:Cls K C)(f:Str):PySem.W.plainGet K C f=true:=c.pg
def NoAttr(K:PySem.W.Frag)(C:Addr)(f:Str):Prop:=PySem.W.findIn K (.ref C) f=some none
theorem NoAttr.taker{K:PySem.W.Frag}{C:Addr}{f:Str}(n:NoAttr K C f):PySem.W.takerIn K C f=some none:=by
 unfold PySem.W.takerIn;rw[show PySem.W.findIn K (.ref C) f=some none from n];rfl
structure Meth(K:PySem.W.Frag)(C:Addr)(m:Str)(f:Addr):Prop where
 at_:PySem.W.findIn K (.ref C) m=some (some (.ref f))
 fn:PySem.W.isFn K (.ref f)=true
 kp:PySem.W.keepIn K (.ref f)=true
section
variable {X:Cx}{pins:List (Addr×Obj)}{σ:St}{H:Hp}{s:Shared}{a C dx:Addr}{fs:List (Str×V)}{f:Str}{v:V}{A:Around}{E:Value->Shared->Prop}
theorem a7s{b:Bool}{Q:Value->Shared->Prop}(I:Inv X pins σ H s)(e:H a=some (.ins C dx fs))(c:Cls X.K C)(n:NoAttr X.K C f)(l:fs.lookup f=some v)
  (h:∀u s',Inv X pins σ H s'->RelV v u->Q u s'):wpAny (model X.prog X.w) A (getAttr (.ref a) f b) Q E s:=by
 obtain⟨mA,O,r,_,_,_⟩:=a1V I.hok e;obtain⟨u,g,d⟩:=RelO.some_of (v:=v) (o:=mA f) (by rw[<-l];exact r f);exact b4v I.kIn O (c.get f) c.hd n g (a9N d) (h u _ (I.tok _) d)
theorem a2W{m:Str}{g:Addr}{pl:Sem Bool}{Q:Value×List Value->Shared->Prop}(I:Inv X pins σ H s)(e:H a=some (.ins C dx fs))(c:Cls X.K C)(k:Meth X.K C m g)(l:fs.lookup m=none)
  (h:Q (.ref g,[.ref a]) s):wpAny (model X.prog X.w) A (getMethod (.ref a) m pl) Q E s:=by
 obtain⟨mA,O,r,_,_,_⟩:=a1V I.hok e;have b:mA m=none:=RelO.none_of (by rw[<-l];exact r m);exact b2p I.kIn O (c.get m) k.at_ k.fn b h
theorem a6O{y:V}{u:Value}{Q:Unit->Shared->Prop}(I:Inv X pins σ H s)(e:H a=some (.ins C dx fs))(c:Cls X.K C)(n:NoAttr X.K C f)(v:fs.length<1000)(p:RelV y u)
  (h:∀s',Inv X pins σ (upd H a (.ins C dx (G9 f y fs))) s'->Q () s'):wpAny (model X.prog X.w) A (setAttr (.ref a) f u) Q E s:=by
 obtain⟨mA,O,r,j,_,i⟩:=a1V I.hok e;have m:(fs.map (·.1)).length<=sizeLine:=by rw[ai,aV];omega
 refine b3l I.kIn O c.sa c.po n.taker c.hd j m λh' d t=>h _ ?_;have hd:∃o,h'.get? dx=some o:=let ⟨o,_,_,e',_⟩:=d.ns;⟨o,e'⟩
 refine I.write (x:=a) (e:=dx) (by rw[e];exact True.intro) (.inr i) (λb q k z=>(t.2 b k).trans z) hd ?_;refine⟨by rw[A1 O.ne];exact i,?_,O.ne,d.obj,_,d.ns,λg=>?_,λg l=>?_⟩
 .have:=a1t f y fs;omega
 .show RelO ((G9 f y fs).lookup g) (if g=f then some u else mA g);rw[a1r];by_cases q:g=f
  .rw[ay q,ay q];exact p
  .rw[ao q,ao q];exact r g
 .by_cases q:g=f
  .rw[q];exact(a0V f y fs).1
  .refine(a0V f y fs).2 g (j g λz=>l ?_);show(if g=f then some u else mA g)=none;rw[ao q];exact z
theorem Inv.made(I:Inv X pins σ H s):Inv X pins σ (upd (upd H s.heap.objs.size (.own (s.heap.objs.size+1))) (s.heap.objs.size+1) (.ins C s.heap.objs.size []))
  {s with heap:=(s.heap.push PySem.W.emptyDict).push (PySem.W.instObj C s.heap.objs.size)}:=by
 have c:(s.heap.push PySem.W.emptyDict).get? s.heap.objs.size=some PySem.W.emptyDict:=aG s.heap rfl;have f:((s.heap.push PySem.W.emptyDict).push (PySem.W.instObj C s.heap.objs.size)).get? (s.heap.objs.size+1)=some (PySem.W.instObj C s.heap.objs.size):=by
  have:=aG (s.heap.push PySem.W.emptyDict) (o:=PySem.W.instObj C s.heap.objs.size) rfl;rwa[bt]at this
 have g:(s.heap.push PySem.W.emptyDict).Ns s.heap.objs.size (λ_=>none):=⟨PySem.W.emptyDict,#[],_,c,rfl,(λe h=>absurd h (by simp)),λ_=>rfl⟩;have d:=I.laid (a:=s.heap.objs.size) (o:=.own (s.heap.objs.size+1)) (h':=s.heap.push PySem.W.emptyDict) (t':=s.toks) (λb u q=>ae _ q) (aj _) ⟨_,c⟩;refine d.laid (a:=s.heap.objs.size+1) (o:=.ins C s.heap.objs.size []) (t':=s.toks) (λb u q=>ae _ q) (Nat.le_of_eq (bt _ _)) ?_;have ne:s.heap.objs.size≠s.heap.objs.size+1:=aM (bU _);refine⟨by rw[A1 ne,A0],bo _,ne,f,λ_=>none,(Heap.Ns1.of_empty g).at λo q=>ae _ q,λ_=>True.intro,λy i=>absurd rfl i⟩
theorem b4M{prog:Program}{w:World}{env:Env}{e:Expr}{f:Str}{pos:Pos}{s:Shared}{Q:Value->Shared->Prop}(a:attributeBase e f env (eval e env)=eval e env)
  (h:wpAny (model prog w) A (eval e env) (λo s₁=>wpAny (model prog w) A (getAttr o f true) Q E s₁) E s):wpAny (model prog w) A (eval (.Attribute e f pos) env) Q E s :=
 Attribute_any_ h (by rw[arm_eval_Attribute,a])
end
def b7u(K:PySem.W.Frag)(ta:TE)(f:Str):TE:=λσ H Q=>ta σ H λx H1=>∃a C dx fs v,x=.ref a/\H1 a=some (.ins C dx fs)/\Cls K C/\NoAttr K C f/\fs.lookup f=some v/\Q v H1
def b7w(K:PySem.W.Frag)(ta tv:TE)(f:Str):TS:=λD σ H=>tv σ H λy H1=>ta σ H1 λx H2=>∃a C dx fs,x=.ref a/\H2 a=some (.ins C dx fs)/\Cls K C/\NoAttr K C f/\fs.length<1000 /\
 D.nx σ (upd H2 a (.ins C dx (G9 f y fs)))
section
variable {X:Cx}{o e value:Expr}{f:Str}{pos pos' tpos:Pos}{ta tv:TE}
theorem b6f(j:PE X e ta)(i:attributeBase e f X.env (eval e X.env)=eval e X.env):PE X (.Attribute e f pos) (b7u X.K ta f):=by
 intro pins s σ H Q I h;refine b4M i (thn (j pins s σ H _ I h) λu s1 ⟨x,H1,b,m,a,C,dx,fs,v,ex,g,c,n,l,q⟩=>?_);subst ex;obtain rfl:u=Value.ref a:=m;exact a7s b g c n l λo s2 d k=>⟨v,H1,d,k,q⟩
theorem b5S(i:PE X o ta)(j:PE X value tv)(hs:swapsWith value (some (.Attribute o f pos')) pos.line X.env=pure false):PS X (.Assign [.Attribute o f pos'] value pos) (b7w X.K ta tv f):=by
 intro pins s σ H D I h;refine plainObj_wpAny_Assign_Attribute (thn (j pins s σ H _ I h) λu s1 ⟨y,H1,b,r,q⟩=>thn (i pins s1 σ H1 _ b q) λk s2 ⟨x,H2,d,p,a,C,dx,fs,ex,g,c,n,l,m⟩=>?_) hs;subst ex;obtain rfl:k=Value.ref a:=p;exact a6O d g c n l r λt e=>⟨σ,_,e,m⟩
end
section
variable {X:Cx}{pins:List (Addr×Obj)}{σ:St}{H:Hp}{s:Shared}{A:Around}{E:Value->Shared->Prop}{Q:Value->Shared->Prop}{c:Value}{b:Bool}
inductive TyOf(K:PySem.W.Frag)(H:Hp):V->Value->Prop where
 |non:TyOf K H .non (.type "NoneType")
 |bl (x:Bool):TyOf K H (.bl x) (.type "bool")
 |int (i:Int):TyOf K H (.int i) (.type "int")
 |str (x:Str):TyOf K H (.str x) (.type "str")
 |flt (x:UInt64):TyOf K H (.flt x) (.type "float")
 |lst {a:Addr}{xs:List V}(e:H a=some (.lst xs)):TyOf K H (.ref a) (.type "list")
 |frz {a:Addr}{o:Obj}{xs:List V}(e:H a=some (.frz o (.lst xs))):TyOf K H (.ref a) (.type "list")
 |tup {a:Addr}{xs:List V}(e:H a=some (.tup xs)):TyOf K H (.ref a) (.type "tuple")
 |dK {a:Addr}{kvs:List (Key×V)}(e:H a=some (.dK kvs)):TyOf K H (.ref a) (.type "dict")
 |dT {a:Addr}{kvs:List (List Key×V)}(e:H a=some (.dT kvs)):TyOf K H (.ref a) (.type "dict")
 |ins {a C dx:Addr}{fs:List (Str×V)}(e:H a=some (.ins C dx fs)) (cl:Cls K C) (ha:PySem.W.findIn K (.ref C) "__class__"=some (some (.builtin "object.__class__")))
   (hn:PySem.W.specialIn K (.builtin "object.__class__") "__get__"=some (some (.builtin "getset_descriptor.__get__"))) (htk:PySem.W.takesIn K (.builtin "object.__class__")=some true)
   (hm:PySem.W.mroIn K C (.type "object")=some true):TyOf K H (.ref a) (.ref C)
theorem a9K{x:V}{u t:Value}(I:Inv X pins σ H s)(d:RelV x u)(ty:TyOf X.K H x t)(e:PySem.W.kitOne X.K t c=some b)(h:∀tk,Q (.bool b) {s with toks:=tk}) :
  wpAny (model X.prog X.w) A (call (.builtin "isinstance") [u,c]) Q E s:=by
 cases ty with
 |non=>cases(show u=Value.none from d);exact PySem.W.kia_one PySem.W.kitx_none I.kIn True.intro e (λz=>nomatch z) h
 |bl y=>cases(show u=Value.bool y from d);exact PySem.W.kia_one PySem.W.kitx_bool I.kIn True.intro e (λz=>nomatch z) h
 |int i=>obtain⟨t,q⟩:=(show ∃t,u=Value.int i t from d);cases q;exact PySem.W.kia_one PySem.W.kitx_int I.kIn True.intro e (λz=>nomatch z) h
 |str y=>obtain⟨t,q⟩:=(show ∃t,u=Value.str y t from d);cases q;exact PySem.W.kia_one PySem.W.kitx_str I.kIn True.intro e (λz=>nomatch z) h
 |flt y=>obtain⟨t,q⟩:=(show ∃t,u=Value.float y t from d);cases q;exact PySem.W.kia_one PySem.W.kitx_float I.kIn True.intro e (λz=>nomatch z) h
 |@lst a xs ea =>
  cases(show u=Value.ref a from d);obtain⟨_,_,n,_,h1⟩:=(show ObjOk X.prog X.w H s.heap a (.lst xs)from I.hok a _ ea);exact PySem.W.kia_one PySem.W.kitx_list I.kIn ⟨_,h1,rfl⟩ e (λz=>nomatch z) h
 |@frz a ob xs ea =>
  cases(show u=Value.ref a from d);obtain⟨_,_,_,n,_,h1⟩:=(show ObjOk X.prog X.w H s.heap a (.frz ob (.lst xs))from I.hok a _ ea);exact PySem.W.kia_one PySem.W.kitx_list I.kIn ⟨_,h1,rfl⟩ e (λz=>nomatch z) h
 |@tup a xs ea =>
  cases(show u=Value.ref a from d);obtain⟨_,_,_,p⟩:=(show ObjOk X.prog X.w H s.heap a (.tup xs)from I.hok a _ ea);obtain⟨o,h1,h2,_⟩:=p;exact PySem.W.kia_one PySem.W.kitx_tuple I.kIn ⟨o,h1,h2⟩ e (λz=>nomatch z) h
 |@dK a kvs ea =>
  cases(show u=Value.ref a from d);obtain⟨_,_,l,_,p⟩:=(show ObjOk X.prog X.w H s.heap a (.dK kvs)from I.hok a _ ea);obtain⟨o,es,ep,h1,h2,_⟩:=p;exact PySem.W.kia_one PySem.W.kitx_dict I.kIn ⟨o,h1,h2.1⟩ e (λz=>nomatch z) h
 |@dT a kvs ea =>
  cases(show u=Value.ref a from d);obtain⟨_,_,xs,_,o,es,ep,h1,h2,_⟩:=(show ObjOk X.prog X.w H s.heap a (.dT kvs)from I.hok a _ ea);exact PySem.W.kia_one PySem.W.kitx_dict I.kIn ⟨o,h1,h2.1⟩ e (λz=>nomatch z) h
 |@ins a C dx fs ea cl g k f j =>
  cases(show u=Value.ref a from d);obtain⟨mA,O,_⟩:=a1V I.hok ea;obtain⟨od,J,_⟩:=O.look;exact PySem.W.kia_one (PySem.W.kitx_own (cl.get _) cl.hd g k f j) I.kIn J e (λz=>nomatch z) h
end
structure Room(k:Nat)(A:Around):Prop where
 hd:A.handled=none
 dp:A.depth+3*k+5<recursionLimit
 un:A.units+16*k+200<cLine
theorem Room.mono{j k:Nat}{A:Around}(r:Room k A)(h:j<=k):Room j A:=⟨r.hd,by have:=r.dp;omega,by have:=r.un;omega⟩
theorem Room.deeper{k:Nat}{A:Around}(r:Room (k+1) A)(env:Env):Room k (A.deeper env) :=
 ⟨r.hd,by have:=r.dp;show A.depth+1+3*k+5<_;omega,by have:=r.un;show A.units+3+16*k+200<_;omega⟩
theorem a7j{A:Around}{C:Addr}{us:List Value}{a:List (Str×Value)}:(A.under (.builtin "type.__call__" ⟨.ref C::us,a⟩)).depth=A.depth+1:=by
 first|rfl|simp[Around.under,Code.weight,Code.isCreation,Code.isGuard,Code.isCaller,Code.frames,Code.isFrame,guardIds]
theorem a7i{A:Around}{C:Addr}{us:List Value}{a:List (Str×Value)}:(A.under (.builtin "type.__call__" ⟨.ref C::us,a⟩)).units=A.units+1:=by
 first|rfl|simp[Around.under,Code.cUnits,Code.frames,Code.isFrame]
theorem Room.make{k:Nat}{A:Around}(r:Room (k+1) A)(C:Addr)(us:List Value)(a:List (Str×Value)):Room k (A.under (.builtin "type.__call__" ⟨.ref C::us,a⟩)) :=
 ⟨r.hd,by have:=r.dp;rw[a7j];omega,by have:=r.un;rw[a7i];omega⟩
theorem Room.depth{k:Nat}{A:Around}(r:Room k A):A.depth<recursionLimit:=by have:=r.dp;omega
def P5:TA:=λ_ H Q=>Q [] H
def L0(ta:TE)(tr:TA):TA:=λσ H Q=>ta σ H λx H1=>tr σ H1 λxs H2=>Q (x::xs) H2
section
variable {X:Cx}{e:Expr}{es:List Expr}{te:TE}{t:TA}{pos:Pos}
theorem b6j:PA X [] P5:=λ_ _ _ _ H Q I h=>Calls.spliced_nil ⟨[],H,I,.nil,h⟩
theorem b3V(c:PE X e te)(d:PA X es t)(hs:starEach (e::es) X.env=(false,eval e X.env)::starEach es X.env:=by rfl):PA X (e::es) (L0 te t):=by
 intro pos pins s σ H Q I h;rw[hs];show wpAny _ _ (spliced ((false,eval e X.env)::backTo pos (starEach es X.env))) _ _ s;refine Calls.spliced_cons (thn (c pins s σ H _ I h) λu s1 ⟨x,H1,a,i,f⟩=>?_);exact thn (d pos pins s1 σ H1 _ a f) λk s2 ⟨xs,H2,b,j,g⟩=>⟨x::xs,H2,b,.cons i j,g⟩
def a2e(t:TA):TE:=λσ H Q=>t σ H λxs H1=>xs.length<=sizeLine/\∀p,H1 p=none->Q (.ref p) (upd H1 p (.tup xs))
def a4o(t:TA):TE:=λσ H Q=>t σ H λxs H1=>xs.length<=sizeLine/\∀p,H1 p=none->Q (.ref p) (upd H1 p (.lst xs))
theorem b5Y{x1}(h:PA X es t):PE X (.Tuple es x1 pos) (a2e t):=by
 intro pins s σ H Q I d;refine wpAny_Tuple_spliced (thn (h pos pins s σ H _ I d) λf s1 ⟨xs,H1,a,r,z,q⟩=>⟨by rw[<-r.length];exact z,?_⟩);have c:H1 s1.heap.objs.size=none:=a.hok.fresh (aj _);refine⟨.ref s1.heap.objs.size,upd H1 s1.heap.objs.size (.tup xs),a.laid (t':=s1.toks) (λb u e=>ae _ e) (aj _) ?_,rfl,q _ c⟩;exact⟨z,f,r,⟨_,aG _ rfl,rfl,_,rfl⟩⟩
theorem b6d(h:PA X es t):PE X (.List es pos) (a4o t):=by
 intro pins s σ H Q I d;refine wpAny_List_spliced (thn (h pos pins s σ H _ I d) λf s1 ⟨xs,H1,a,r,z,q⟩=>⟨by rw[<-r.length];exact z,?_⟩);have c:H1 s1.heap.objs.size=none:=a.hok.fresh (aj _);refine⟨.ref s1.heap.objs.size,upd H1 s1.heap.objs.size (.lst xs),a.laid (t':=s1.toks) (λb u e=>ae _ e) (aj _) ?_,rfl,q _ c⟩;exact⟨z,f,0,r,aG _ rfl⟩
end
abbrev Sp:=List V->Hp->VK->XK->Prop
abbrev CXT:=List Env->Hp->Shared->XK->Value->Shared->Prop
structure Env0(P:Program)(w:World)(K:PySem.W.Frag)(mg:Str->Option Value)(base:Heap)(A:Around)(outer:List Env)(s:Shared)(H:Hp):Prop where
 frames:A.frames=some outer
 mod:Mod K mg base
 bs:∀b o,base.get? b=some o->s.heap.get? b=some o/\H b=none
 bsz:base.objs.size<=s.heap.objs.size
 funs:s.heap.FunFrames base outer
 frf:∀b∈frs outer,H b=none
 hok:HOk P w H s.heap
 bare:AllBare s.gens
def CE(outer:List Env)(P:Program)(w:World)(H:Hp)(s:Shared)(Q:VK)(u:Value)(s':Shared):Prop :=
 ∃v H',s'.os=s.os/\AllBare s'.gens/\Un (frs outer) [] H H' s.heap s'.heap/\HOk P w H' s'.heap/\RelV v u/\Q v H'
def CR(CX:CXT)(outer:List Env)(P:Program)(w:World)(H:Hp)(s:Shared)(Q:VK)(E:XK)(r:Result)(s':Shared):Prop :=
 match r with
 |.ok (.ret u)=>CE outer P w H s Q u s'
 |.ok _=>False
 |.error e=>CX outer H s E e s'
structure FnOk(P:Program)(w:World)(K:PySem.W.Frag)(mg:Str->Option Value)(base:Heap)(CX:CXT)(k:Nat)(f:Addr)(fd:FuncData)(ps:List Str)(sp:Sp):Prop where
 len:∀vs H Q E,sp vs H Q E->vs.length=ps.length
 run:∀(A:Around) (outer:List Env) (s:Shared) (H:Hp) (args:Args) (us:List Value) (vs:List V) (Q:VK) (E:XK),Room k A->Env0 P w K mg base A outer s H->BindsTo s fd args (ps.zip us)->Vals vs us->sp vs H Q E ->
  codeAny (model P w) A (.call (.ref f) args) (CR CX outer P w H s Q E) s
theorem FnOk.imp{P:Program}{w:World}{K:PySem.W.Frag}{mg:Str->Option Value}{base:Heap}{CX:CXT}{k:Nat}{f:Addr}{fd:FuncData}{ps:List Str}{sp sp':Sp}(F:FnOk P w K mg base CX k f fd ps sp)
  (h:∀vs H Q E,sp' vs H Q E->sp vs H Q E):FnOk P w K mg base CX k f fd ps sp' :=
 ⟨λvs H Q E q=>F.len vs H Q E (h _ _ _ _ q),λA a s H b i vs Q E e d c g hs=>F.run A a s H b i vs Q E e d c g (h _ _ _ _ hs)⟩
theorem Env0.make{P:Program}{w:World}{K:PySem.W.Frag}{mg:Str->Option Value}{base:Heap}{A:Around}{outer:List Env}{s:Shared}{H:Hp}(e:Env0 P w K mg base A outer s H)(C:Addr)(us:List Value)(a:List (Str×Value)) :
  Env0 P w K mg base (A.under (.builtin "type.__call__" ⟨.ref C::us,a⟩)) outer s H:=⟨by first|exact e.frames | (simpa[Around.under,Code.envs,Code.isFrame,pushEnvs]using e.frames),e.mod,e.bs,e.bsz,e.funs,e.frf,e.hok,e.bare⟩
section
variable {X:Cx}{pins:List (Addr×Obj)}{σ:St}{H:Hp}{s s':Shared}
theorem Inv.env0(I:Inv X pins σ H s):Env0 X.prog X.w X.K X.mg X.base X.A X.stack s H :=
 ⟨I.ok.frames,I.ok.mod,I.bs,bb I.ok.bsz I.sz,I.stack,I.stkFree,I.hok,I.bare⟩
theorem Inv.after{Q:VK}{u:Value}(I:Inv X pins σ H s)(h:CE X.stack X.prog X.w H s Q u s'):EP X pins σ Q u s':=by
 obtain⟨v,H',os,a,un,c,r,q⟩:=h;obtain⟨f,g,d,t,e⟩:=s';obtain rfl:e=s.os:=os;exact⟨v,H',I.call (h':=f) (g':=g) (d':=d) (t':=t) (ch:=[]) un c a (λb z=>absurd z (by simp)),r,q⟩
end
def a2f(sp:Sp)(dvs:List V)(E:XK)(t:TA):TE:=λσ H Q=>t σ H λvs H1=>sp (vs++dvs) H1 Q E
def a1o(C:Addr)(m:Str)(sp:Sp)(dvs:List V)(E:XK)(ta:TE)(t:TA):TE:=λσ H Q=>ta σ H λx H1=>∃a dx fs,x=.ref a/\H1 a=some (.ins C dx fs)/\fs.lookup m=none /\
 t σ H1 λvs H2=>sp (x::(vs++dvs)) H2 Q E
def b4U(C:Addr)(sp:Sp)(dvs:List V)(E:XK)(t:TA):TE:=λσ H Q=>t σ H λvs H1=>∀x dx,H1 x=none->H1 dx=none->dx≠x ->
 sp (.ref x::(vs++dvs)) (upd (upd H1 dx (.own x)) x (.ins C dx [])) (λv H2=>v=.non/\Q (.ref x) H2) E
def Binds(K:PySem.W.Frag)(fd:FuncData)(ps:List Str)(ds:List Value):Prop :=
 ∀(s:Shared) (us:List Value),K.In s.heap->(us++ds).length=ps.length->BindsTo s fd ⟨us,[]⟩ (ps.zip (us++ds))
theorem Binds.all{K:PySem.W.Frag}{fd:FuncData}{ps:List Str}(h:∀us:List Value,us.length=ps.length->bindArgs fd ⟨us,[]⟩=pure (ps.zip us)):Binds K fd ps []:=λs us _ a=>by
 rw[cY]at a⊢;exact .of_eq (h us a)
def a0j(CX:CXT)(X:Cx)(E:XK):Prop:=∀(pins:List (Addr×Obj)) (σ:St) (H:Hp) (s:Shared) (e:Value) (s':Shared),Inv X pins σ H s->CX X.stack H s E e s'->X.xe e s'
section
variable {X:Cx}{CX:CXT}{k:Nat}{f C:Addr}{fd:FuncData}{ps:List Str}{sp:Sp}{dvs:List V}{ds:List Value}{E:XK}{x m:Str}{p pos apos:Pos}{e o:Expr}{es:List Expr}{ta:TE}{t:TA}
theorem a6U{pins:List (Addr×Obj)}{σ:St}{H:Hp}{s:Shared}{Q:VK}{us:List Value}{vs:List V}(F:FnOk X.prog X.w X.K X.mg X.base CX k f fd ps sp)(g:Room k X.A)(c:Binds X.K fd ps ds)(hd:Vals dvs ds)(i:a0j CX X E)
  (I:Inv X pins σ H s) (r:Vals vs us) (h:sp (vs++dvs) H Q E):wpAny (model X.prog X.w) X.A (call (.ref f) us) (EP X pins σ Q) X.xe s:=by
 have b:Vals (vs++dvs) (us++ds):=r.append hd;have d:(us++ds).length=ps.length:=by rw[<-b.length];exact F.len _ _ _ _ h
 refine wpAny_call (dt (F.run X.A X.stack s H ⟨us,[]⟩ (us++ds) (vs++dvs) Q E g I.env0 (c s us I.kIn d) b h) λr s' a=>?_);cases r with
 |error e=>exact i pins σ H s e s' I a
 |ok fl =>
  cases fl with
  |ret u=>exact I.after a
  |next=>exact False.elim a
  |brk=>exact False.elim a
  |cont=>exact False.elim a
theorem b3T(F:FnOk X.prog X.w X.K X.mg X.base CX k f fd ps sp)(n:Room k X.A)(j:Gl X x)(m:X.mg x=some (.ref f))(l:PySem.W.keepIn X.K (.ref f)=true)(g:Binds X.K fd ps ds)(hd:Vals dvs ds)(o:a0j CX X E)
  (d:PA X (e::es) t) (a:(x==("__debug__" : Str))=false:=by decide) (i:starEach (e::es) X.env=(false,eval e X.env)::starEach es X.env:=by rfl) (b:(backTo pos (starEach es X.env)).any (·.1)=false:=by rfl) :
  PE X (.Call (.Name x p) (e::es) [] pos) (a2f sp dvs E t):=by
 intro pins s σ H Q I h;refine dY (a0z I j m ?_ a);refine PySem.W.callWith_K (h₀:=X.base) I.ok.mod.kin l (thn (d pos pins s σ H _ I h) λu s1 ⟨v,H1,c,r,q⟩=>⟨c.kIn,?_⟩) i b;exact a6U F n g hd o c r q
theorem b3Q{pl:Sem Bool}(w:PE X o ta)(c:Cls X.K C)(j:Meth X.K C m f)(F:FnOk X.prog X.w X.K X.mg X.base CX k f fd ps sp)(y:Room k X.A)(v:Binds X.K fd ps ds)(hd:Vals dvs ds)(A:a0j CX X E)(p:PA X (e::es) t)
  (d:starEach (e::es) X.env=(false,eval e X.env)::starEach es X.env:=by rfl) (b:(backTo pos (starEach es X.env)).any (·.1)=false:=by rfl)
  (z:eval (.Call (.Attribute o m apos) (e::es) [] pos) X.env=(do
   let ov <-eval o X.env
   standAt apos.atName
   let (f,first) <-holding [ov] (getMethod ov m pl)
   callWith pos f first (backTo pos (starEach (e::es) X.env)) (backToKw pos (keywordEach [] X.env))):=by rfl) :
  PE X (.Call (.Attribute o m apos) (e::es) [] pos) (a1o C m sp dvs E ta t):=by
 intro pins s σ H Q I h;refine PySem.W.methodCall_KW (pl:=pl) (thn (w pins s σ H _ I h) λu s1 ⟨x,H1,g,D,a,dx,fs,ex,n,l,q⟩=>?_) z;subst ex;obtain rfl:u=Value.ref a:=D;refine a2W g n c j l ?_;refine PySem.W.callWith_K (first:=[.ref a]) (h₀:=X.base) I.ok.mod.kin j.kp (thn (p pos pins s1 σ H1 _ g q) λG s2 ⟨J,H2,i,r,B⟩=>⟨i.kIn,?_⟩) d b;exact a6U (us:=.ref a::G) (vs:=.ref a::J) F y v hd A i (.cons rfl r) B
theorem b1z{pl:Sem Bool}(i:PE X o ta)(c:Cls X.K C)(d:Meth X.K C m f)(F:FnOk X.prog X.w X.K X.mg X.base CX k f fd ps sp)(j:Room k X.A)(g:Binds X.K fd ps ds)(hd:Vals dvs ds)(p:a0j CX X E)
  (n:eval (.Call (.Attribute o m apos) [] [] pos) X.env=(do
   let ov <-eval o X.env
   standAt apos.atName
   let (f,first) <-holding [ov] (getMethod ov m pl)
   callWith pos f first (backTo pos (starEach [] X.env)) (backToKw pos (keywordEach [] X.env))):=by rfl) :
  PE X (.Call (.Attribute o m apos) [] [] pos) (a1o C m sp dvs E ta P5):=by
 intro pins s σ H Q I h;refine PySem.W.methodCall_KW (pl:=pl) (thn (i pins s σ H _ I h) λu s1 ⟨x,H1,b,r,a,dx,fs,ex,e,l,q⟩=>?_) n;subst ex;obtain rfl:u=Value.ref a:=r;refine a2W b e c d l ?_;exact PySem.W.callWith_K0 (first:=[.ref a]) b.kIn d.kp (a6U (us:=[.ref a]) (vs:=[.ref a]) F j g hd p b (.cons rfl .nil) q)
structure Mk(K:PySem.W.Frag)(C f:Addr):Prop where
 makes:PySem.W.makesIn K C=true
 init:PySem.W.findIn K (.ref C) "__init__"=some (some (.ref f))
 fn:PySem.W.isFn K (.ref f)=true
 kp:PySem.W.keepIn K (.ref C)=true
theorem b0V{pins:List (Addr×Obj)}{σ:St}{H:Hp}{s:Shared}{Q:VK}{us:List Value}{vs:List V}(M:Mk X.K C f)(F:FnOk X.prog X.w X.K X.mg X.base CX k f fd ps sp)(m:Room (k+1) X.A)(j:Binds X.K fd ps ds)(hd:Vals dvs ds)
  (n:a0j CX X E) (I:Inv X pins σ H s) (r:Vals vs us)
  (h:∀x dx,H x=none->H dx=none->dx≠x->sp (.ref x::(vs++dvs)) (upd (upd H dx (.own x)) x (.ins C dx [])) (λv H2=>v=.non/\Q (.ref x) H2) E) :
  wpAny (model X.prog X.w) X.A (call (.ref C) us) (EP X pins σ Q) X.xe s:=by
 have c:=h (s.heap.objs.size+1) s.heap.objs.size (I.hok.fresh (eh _)) (I.hok.fresh (aj _)) (aM (bU _));have b:=Inv.made (C:=C) I;have d:Vals (V.ref (s.heap.objs.size+1)::(vs++dvs)) (Value.ref (s.heap.objs.size+1)::(us++ds)):=.cons rfl (r.append hd);have l:(Value.ref (s.heap.objs.size+1)::us++ds).length=ps.length:=by
  have e:=d.length;rw[F.len _ _ _ _ c]at e;exact e.symm
 refine wpAny_call (b1T (f:=f) I.kIn M.makes M.init (bh.mp M.fn) (dt (F.run _ X.stack _ _ ⟨Value.ref (s.heap.objs.size+1)::us,[]⟩ (Value.ref (s.heap.objs.size+1)::(us++ds)) _ _ E (m.make C us [])
  (b.env0.make C us []) (j _ (Value.ref (s.heap.objs.size+1)::us) b.kIn l) d c) λr s' a=>?_))
 cases r with
 |error e=>exact n pins σ _ _ e s' b a
 |ok fl =>
  cases fl with
  |ret u =>
   obtain⟨v,H',g,p,i,o⟩:=b.after a;subst i;exact⟨p,⟨V.ref (s.heap.objs.size+1),H',g,rfl,o⟩⟩
  |next=>exact False.elim a
  |brk=>exact False.elim a
  |cont=>exact False.elim a
theorem b3R(M:Mk X.K C f)(F:FnOk X.prog X.w X.K X.mg X.base CX k f fd ps sp)(m:Room (k+1) X.A)(j:Gl X x)(l:X.mg x=some (.ref C))(g:Binds X.K fd ps ds)(hd:Vals dvs ds)(n:a0j CX X E)
  (d:PA X (e::es) t) (a:(x==("__debug__" : Str))=false:=by decide) (i:starEach (e::es) X.env=(false,eval e X.env)::starEach es X.env:=by rfl) (b:(backTo pos (starEach es X.env)).any (·.1)=false:=by rfl) :
  PE X (.Call (.Name x p) (e::es) [] pos) (b4U C sp dvs E t):=by
 intro pins s σ H Q I h;refine dY (a0z I j l ?_ a);refine PySem.W.callWith_K (h₀:=X.base) I.ok.mod.kin M.kp (thn (d pos pins s σ H _ I h) λo s1 ⟨u,H1,c,r,q⟩=>⟨c.kIn,?_⟩) i b;exact b0V M F m g hd n c r q
end
section
variable {X:Cx}{CX:CXT}{k:Nat}{f C:Addr}{fd:FuncData}{ps ks:List Str}{sp:Sp}{E:XK}{x m:Str}{p pos apos kpos:Pos}{e o:Expr}{es:List Expr}{kws:List Keyword}{te ta:TE}{t tk:TA}{nm:Option Str}
variable {g:List Value->List Value->List Value}{gV:List V->List V->List V}
end
structure FnScope(N P:List Str)(sc:Scope):Prop where
 kind:sc.kind=.function
 co:sc.isCoroutine=false
 gen:sc.isGenerator=false
 nd:N.Nodup
 pre:N.take P.length=P
 par:∀x∈P,sc.names.lookup x=some .local∨sc.names.lookup x=some .cell
 nofree:∀y∈sc.names,y.2≠.free
theorem a4g{kindOf:Str->Option NameKind}{x:Str}:∀{binds:List (Str×Value)}{m:Str->Option Value},(∀v,(x,v)∉binds)->bindL kindOf binds m x=m x
 |[],_,_=>rfl
 |(n,v)::r,m,h=>by
  unfold bindL;rw[a4g λw hw=>h w (av _ hw)];split
  .have:x≠n:=by rintro rfl;exact h v ar
   simp[this]
  .rfl
theorem a4i{kindOf:Str->Option NameKind}{x:Str}:∀{binds:List (Str×Value)}{m:Str->Option Value},(∀v,(x,v)∉binds)->bindC kindOf binds m x=m x
 |[],_,_=>rfl
 |(n,v)::r,m,h=>by
  unfold bindC;rw[a4i λw hw=>h w (av _ hw)];split
  .rfl
  .have:x≠n:=by rintro rfl;exact h v ar
   simp[this]
theorem a4h{kindOf:Str->Option NameKind}{x:Str}{v:Value}:∀{P:List Str}{vs:List Value}{i:Nat}{m:Str->Option Value},P.Nodup->P[i]?=some x->vs[i]?=some v->kindOf x=some .local ->
  bindL kindOf (P.zip vs) m x=some v
 |[],_,_,_,_,h,_,_=>by simp at h
 |_::_,[],_,_,_,_,h,_=>by simp at h
 |p::P,w::vs,0,m,nd,h1,h2,a=>by
  simp at h1 h2;subst h1;subst h2;show bindL kindOf ((p,w)::P.zip vs) m p=_;unfold bindL;rw[a4g λv b=>(cw.mp nd).1 (List.of_mem_zip b).1,ay a];simp
 |p::P,w::vs,i+1,m,nd,h1,h2,a=>by
  show bindL kindOf ((p,w)::P.zip vs) m x=_;unfold bindL;exact a4h (i:=i) (cw.mp nd).2 (by simpa using h1) (by simpa using h2) a
theorem a4j{kindOf:Str->Option NameKind}{x:Str}{v:Value}:∀{P:List Str}{vs:List Value}{i:Nat}{m:Str->Option Value},P.Nodup->P[i]?=some x->vs[i]?=some v->kindOf x≠some .local ->
  bindC kindOf (P.zip vs) m x=some v
 |[],_,_,_,_,h,_,_=>by simp at h
 |_::_,[],_,_,_,_,h,_=>by simp at h
 |p::P,w::vs,0,m,nd,h1,h2,a=>by
  simp at h1 h2;subst h1;subst h2;show bindC kindOf ((p,w)::P.zip vs) m p=_;unfold bindC;rw[a4i λv b=>(cw.mp nd).1 (List.of_mem_zip b).1,ao a];simp
 |p::P,w::vs,i+1,m,nd,h1,h2,a=>by
  show bindC kindOf ((p,w)::P.zip vs) m x=_;unfold bindC;exact a4j (i:=i) (cw.mp nd).2 (by simpa using h1) (by simpa using h2) a
noncomputable def start(N:List Str)(vs:List V):St:=vs.map some++List.replicate (N.length-vs.length) none
noncomputable def V1(CX:CXT)(P:Program)(w:World)(K:PySem.W.Frag)(mg:Str->Option Value)(base:Heap)(N:List Str)(qual:Str)(scope:Scope)(f:Addr)(cd:Value)(A:Around)(outer:List Env)(s:Shared)(H:Hp)(E:XK):Cx where
 prog:=P
 w:=w
 K:=K
 mg:=mg
 base:=base
 A:=A.deeper (envOfC qual scope s.heap.objs.size f cd)
 N:=N
 s₀:=s
 H₀:=H
 env:=envOfC qual scope s.heap.objs.size f cd
 outer:=outer
 stack:=envOfC qual scope s.heap.objs.size f cd::outer
 ex:=[]
 calm:=true
 fn:=λ_=>true
 pn:=[]
 xe:=λe s'=>wpAny (model P w) (A.deeper (envOfC qual scope s.heap.objs.size f cd)) (leaving (envOfC qual scope s.heap.objs.size f cd) e) (λ_ s''=>CX outer H s E e s'') (λe' s''=>CX outer H s E e' s'') s'
theorem a6w{a:Scope}{n:Nat}{x:Str}(h:a.names.lookup x=some .cell):∃c,(cellsFrom n a.names []).lookup x=some c:=by
 have q:=PySem.W.cellsFrom_some a.names n [] (.inl h);exact Option.isSome_iff_exists.mp q
theorem a9L{CX:CXT}{P:Program}{w:World}{K:PySem.W.Frag}{mg:Str->Option Value}{base:Heap}{N ps:List Str}{qual:Str}{scope:Scope}{f:Addr}{cd:Value}{A:Around}{outer:List Env}{s s1:Shared}{H:Hp}{E:XK}{us:List Value}{vs:List V}
  (S:FnScope N ps scope) (hd:A.handled=none) (d:Env0 P w K mg base A outer s H) (G:vs.length=ps.length) (r:Vals vs us)
  (x:InCallC s s.heap.objs.size (bindL (envOfC qual scope s.heap.objs.size f cd).kindOf (ps.zip us) λ_=>none) (cellsFrom (s.heap.objs.size+1) scope.names []) (bindC (envOfC qual scope s.heap.objs.size f cd).kindOf (ps.zip us) λ_=>none) s1) :
  Inv (V1 CX P w K mg base N qual scope f cd A outer s H E) [] (start N vs) H s1:=by
 have C:ps.length<=N.length:=by have:=aQ List.length S.pre;rw[aY]at this;omega
 obtain⟨h1,tk,rfl,o⟩:=x.done;have j:∀b:Addr,b∉(V1 CX P w K mg base N qual scope f cd A outer s H E).ex:=λb z=>absurd (show b∈([]:List Addr)from z) (by simp);refine⟨⟨d.mod,S.kind,rfl,rfl,aj _,λy z c h1 h2=>?_,λy g=>?_,λy c _ h=>?_,λ_=>hd,Around.frames_deeper d.frames,.inr ⟨rfl,rfl⟩,λb z=>absurd z (j b),d.bs,d.bsz,λb _ _=>j b,λb z=>absurd z (j b),d.funs,d.frf⟩,
  rfl,d.bare,Un.kept o,⟨_,x.toInCall.ns,λi y v h1 h2 F=>?_⟩,λy c h=>⟨_,x.cell y c h⟩,d.hok.fresh (aj _),λy c h=>?_,λp l=>absurd (show p∈([]:List (Addr×Obj))from l) (by simp),d.hok.kept o,?_⟩
 .exact name_of_addr x.apart (PySem.mem_of_lookup h1) (PySem.mem_of_lookup h2)
 .have g:scope.names.lookup y=some .cell∨scope.names.lookup y=some .free:=g;rcases g with g|g
  .exact a6w g
  .exact absurd rfl (S.nofree _ (PySem.mem_of_lookup g))
 .exact cH (x.above y c (PySem.mem_of_lookup h))
 .have hi:i<vs.length:=by
   unfold start at h2;by_cases hi:i<vs.length
   .exact hi
   .rw[aZ (by simpa using hi)]at h2;rw[List.getElem?_replicate]at h2;split at h2<;>cases h2
  have B:vs[i]?=some v:=by
   unfold start at h2;rw[br (by simpa using hi),aP]at h2;cases e:vs[i]? with
   |none=>rw[e]at h2;cases h2
   |some a=>rw[e]at h2;cases h2;rfl
  obtain⟨u,t,D⟩:=r.get B;have l:ps[i]?=some y:=by
   rw[<-S.pre,cZ (by omega)];exact h1
  have m:ps.Nodup:=by rw[<-S.pre];exact S.nd.sublist (List.take_sublist _ _)
  refine⟨u,D,?_⟩;rcases S.par y (aF l)with k|k
  .exact .inl ⟨k,a4h m l t k⟩
  .obtain⟨c,e⟩:=a6w (n:=s.heap.objs.size+1) k;refine .inr ⟨.inl k,c,e,?_⟩;have q:=x.cell y c e;rw[a4j m l t (by show scope.names.lookup y≠_;rw[k];decide)]at q;exact q
 .exact d.hok.fresh (cH (x.above y c (PySem.mem_of_lookup h)))
 .unfold start;show _=N.length;rw[aq,ai,bA];omega
theorem b5t{CX:CXT}{P:Program}{w:World}{K:PySem.W.Frag}{mg:Str->Option Value}{base:Heap}{k:Nat}{f:Addr}{name qual:Str}{c:Arguments}{body:List Stmt}{scope:Scope}{G kV h pm a ct oc:Value}{an od:Option Addr}
  {B:Array (Option Value)}{N ps:List Str}{sp:Sp}(X:K.lookup f=some ⟨oc,od,.func (PySem.W.fnOf name qual c body scope G kV h pm an a ct),B⟩) (m:PySem.W.codeIn K a qual=true) (S:FnScope N ps scope)
  (l:∀vs H Q E,sp vs H Q E->vs.length=ps.length)
  (d:∀(A:Around) (outer:List Env) (s:Shared) (H:Hp) (vs:List V) (Q:VK) (E:XK),Room k (A.deeper (envOfC qual scope s.heap.objs.size f a))->sp vs H Q E ->
   ∃t,PSs (V1 CX P w K mg base N qual scope f a A outer s H E) body t/\t {nx:=λ_ H'=>Q .non H',rt:=Q} (start N vs) H) :
  FnOk P w K mg base CX (k+1) f (PySem.W.fnOf name qual c body scope G kV h pm an a ct) ps sp:=by
 refine⟨l,λA outer s H F Y vs Q E p i M r j=>?_⟩;have R:=l _ _ _ _ j;have D:K.In s.heap:=i.mod.kin.keeps λb o e=>(i.bs b o e).1;have z:s.heap.NoLimit:=i.mod.nolimit.keeps λb o e=>(i.bs b o e).1;have g:∀y∈ps.zip Y,scope.names.lookup y.1=some .local∨(scope.names.lookup y.1=some .cell/\((cellsFrom (s.heap.objs.size+1) scope.names []).lookup y.1).isSome=true):=λ⟨n,v⟩ W=>by
  rcases S.par n (List.of_mem_zip W).1 with q|q
  .exact .inl q
  .exact .inr ⟨q,PySem.W.cellsFrom_some _ _ _ (.inl q)⟩
 refine codeAny_call_function p.depth (D _ _ X) rfl S.co S.gen rfl (PySem.W.codeRec_of D m) (M _ _ _ _ ?_);refine wpAny_newFunctionEnv_cells S.kind g λL O s1 x=>?_;subst O;refine⟨z.keeps x.toInCall.keep,codeAny_func ?_⟩;obtain⟨t,U,T⟩:=d A outer s H vs Q E (p.deeper _) j;have I:Inv (V1 CX P w K mg base N qual scope f a A outer s H E) [] (start N vs) H s1:=a9L S p.hd i R r x;refine dn (U [] s1 (start N vs) H _ I T) (λfl s' hs=>?_) λe s' hs=>hs;have fin:∀{σ':St}{H':Hp}{v:V}{u:Value},Inv (V1 CX P w K mg base N qual scope f a A outer s H E) [] σ' H' s'->RelV v u->Q v H'->CE outer P w H s Q u s' :=
  λ{σ' H' v u} J C q=>⟨v,H',J.os,J.bare,J.base,J.hok,C,q⟩
 cases fl with
 |ret u =>
  obtain⟨v,σ',H',J,C,q⟩:=hs;exact fin J C q
 |next =>
  obtain⟨σ',H',J,q⟩:=hs;exact fin (v:=V.non) (u:=Value.none) J rfl q
 |brk =>
  obtain⟨_,_,_,q⟩:=hs;exact False.elim q
 |cont =>
  obtain⟨_,_,_,q⟩:=hs;exact False.elim q
section
variable {X:Cx}{x:Str}{p pos:Pos}{e:Expr}{es:List Expr}{t:TA}{id T:String}{r:List V->Hp->VK->Prop}
def tCB(r:List V->Hp->VK->Prop)(t:TA):TE:=λσ H Q=>t σ H λvs H1=>r vs H1 Q
theorem E8(f:D0 X (.builtin id) r)(i:Gl X x)(j:X.mg x=none)(l:bootBuiltins x=some (.builtin id))(d:PA X (e::es) t)(k:x≠"__name__":=by decide)(a:(x==("__debug__" : Str))=false:=by decide)
  (g:starEach (e::es) X.env=(false,eval e X.env)::starEach es X.env:=by rfl) (b:(backTo pos (starEach es X.env)).any (·.1)=false:=by rfl):PE X (.Call (.Name x p) (e::es) [] pos) (tCB r t):=by
 intro pins s σ H Q I h;refine dY (a2I I i j l ?_ k a);exact PyProof.Rows.callWith_builtin1 (thn (d pos pins s σ H _ I h) λo s1 ⟨q,H1,c,n,m⟩=>f pins s1 σ H1 q o Q c n m) g b
theorem Q9(f:D0 X (.type T) r)(i:Gl X x)(j:X.mg x=none)(l:bootBuiltins x=some (.type T))(d:PA X (e::es) t)(k:x≠"__name__":=by decide)(a:(x==("__debug__" : Str))=false:=by decide)
  (g:starEach (e::es) X.env=(false,eval e X.env)::starEach es X.env:=by rfl) (b:(backTo pos (starEach es X.env)).any (·.1)=false:=by rfl):PE X (.Call (.Name x p) (e::es) [] pos) (tCB r t):=by
 intro pins s σ H Q I h;refine dY (a2I I i j l ?_ k a);exact eD (thn (d pos pins s σ H _ I h) λo s1 ⟨q,H1,c,n,m⟩=>f pins s1 σ H1 q o Q c n m) g b
end
end L2
namespace HT
open PySem PyProof.Rows
noncomputable def lexLt:List Int->List Int->Bool
 |[],[]=>false
 |[],_::_=>true
 |_::_,[]=>false
 |x::xs,y::ys=>if x=y then lexLt xs ys else decide (x<y)
theorem lexLt_cons(x y:Int)(xs ys:List Int):lexLt (x::xs) (y::ys)=if x=y then lexLt xs ys else decide (x<y):=rfl
section
open PySem.SeqAt
open PySem.AutoSeq1 (wpAny_loadPart')
open PySem.MeetsSeq PySem.MeetsSeq2 PySem.MeetsSeq3
end
section
variable {prog:Program}{w:World}{A:Around}{E:Value->Shared->Prop}{s:Shared}
theorem cat_tup{t b:Addr}{vs a:List Value}{Q:Value->Shared->Prop}(r:IsTup s.heap t vs.toArray)(q:IsTup s.heap b a.toArray)(o:vs≠[])
  (h1:a=[]->Q (.ref t) s) (h2:a≠[]->Q (.ref s.heap.objs.size) {s with heap:=s.heap.push {cls:=.type "tuple",data:=.seq (vs++a).toArray}})
  (k:vs.length+a.length<=sizeLine):wpAny (model prog w) A (binaryOp .Add (.ref t) (.ref b)) Q E s:=by
 obtain⟨⟨cls,dd,data,sl⟩,i,m,n,hd⟩:=id r;obtain⟨⟨l,d,j,h⟩,c,f,p,g⟩:=id q;simp only at m hd f g;subst m hd f g;have e:vs.toArray++a.toArray=(vs++a).toArray:=by simp
 by_cases hw:a=[]
 .exact concat_meets ⟨_,i,rfl⟩ ⟨_,c,rfl⟩ noFill_tuple_add seq_tuple_add PySem.F.slot_tuple_add PySem.F.entry_tuple_add (PySem.F.args_tuple_add_2 _ _)
   (tuple_addW1 t b vs.toArray a.toArray n p dd d sl h (by simpa using o) (by simp[hw])) ⟨i,c,h1 hw⟩
 .refine concat_meets ⟨_,i,rfl⟩ ⟨_,c,rfl⟩ noFill_tuple_add seq_tuple_add PySem.F.slot_tuple_add PySem.F.entry_tuple_add (PySem.F.args_tuple_add_2 _ _)
   (tuple_addW2 t b vs.toArray a.toArray n p dd d sl h (by simpa using o) (by simpa using hw) (by rw[aA,aA];exact k)) ⟨i,c,?_⟩
  rw[e];exact h2 hw
noncomputable def sIx(n d:Nat):Option Int->Nat
 |none=>d
 |some v=>if v<0 then(v+(n:Int)).toNat else min v.toNat n
theorem sIx_none(n d:Nat):sIx n d none=d:=rfl
theorem sIx_nat(n d k:Nat):sIx n d (some (k:Int))=min k n:=by
 show(if (k:Int)<0 then((k:Int)+(n:Int)).toNat else min (k:Int).toNat n)=min k n;rw[ao (by omega),bw]
theorem b5F(n d:Nat)(hd:d<=n)(o:Option Int):sIx n d o<=n:=by
 cases o with
 |none=>exact hd
 |some v =>
  show(if v<0 then(v+(n:Int)).toNat else min v.toNat n)<=n;by_cases a:v<0
  .rw[ay a];omega
  .rw[ao a];exact Nat.min_le_right _ _
theorem a8J(v:Int)(n d:Nat):(if v<0 then max (v+(n:Int)) 0 else min v (n:Int))=((sIx n d (some v):Nat):Int):=by
 show(if v<0 then max (v+(n:Int)) 0 else min v (n:Int))=(((if v<0 then(v+(n:Int)).toNat else min v.toNat n):Nat):Int);by_cases a:v<0
 .simp only[ay a];omega
 .simp only[ao a];omega
theorem a7E(lo hi:Option Int)(n:Nat):Builtin.Slice.sliceAdjust lo hi 1 (n:Int)=(((sIx n 0 lo:Nat):Int),((sIx n n hi:Nat):Int)):=by
 have h1:¬((1:Int)<0):=by omega
 unfold Builtin.Slice.sliceAdjust;simp only[h1,if_false];refine Prod.ext ?_ ?_
 .cases lo with
  |none=>rfl
  |some v=>exact a8J v n 0
 .cases hi with
  |none=>rfl
  |some v=>exact a8J v n n
theorem a7a(i j:Nat):Builtin.Slice.slicePlaces (i:Int) (j:Int) 1=j-i:=by
 unfold Builtin.Slice.slicePlaces;have h1:(1:Int) > 0:=by omega
 simp only[h1,fj,Int.ediv_one];split<;>omega
theorem a2o{v:Value}{o:Option Int}{Q:Option Int->Shared->Prop}(p:IsPart v o)(h:Q o s):wpAny (model prog w) A (Builtin.Slice.slicePartIndex v) Q E s:=by
 cases p with
 |none=>exact slicePart_none h
 |int i t=>exact slicePart_int h
theorem Q7{sl:Addr}{c d:Value}{lo hi:Option Int}{n:Nat}{Q:Int×Int×Nat->Shared->Prop}(hs:s.heap.IsSliceOf sl c d .none)(pl:IsPart c lo)(f:IsPart d hi)
  (h:Q (((sIx n 0 lo:Nat):Int),1,sIx n n hi-sIx n 0 lo) s):wpAny (model prog w) A (Builtin.Slice.sliceApplied (.ref sl) (pure (n:Int))) Q E s:=by
 obtain⟨os,b,e,a⟩:=id hs;unfold Builtin.Slice.sliceApplied Builtin.Slice.sliceFields;refine aa (aa (cE b a (x:=c) rfl (aa (cE b a (x:=d) rfl (aa (cE b a (x:=.none) rfl (ag ?_)))))));refine aa (slicePart_none ?_);show wpAny _ _ (if ((1:Int)==0)=true then _ else _) _ _ s;rw[ao (by decide)];refine aa (a2o pl (aa (a2o f (aa (ag ?_)))));show wpAny _ _ (match Builtin.Slice.sliceAdjust lo hi 1 (n:Int)with | (lo,hi)=>pure (lo,(1:Int),Builtin.Slice.slicePlaces lo hi 1)) _ _ s;rw[a7E lo hi n];show wpAny _ _ (pure (((sIx n 0 lo:Nat):Int),(1:Int),Builtin.Slice.slicePlaces ((sIx n 0 lo:Nat):Int) ((sIx n n hi:Nat):Int) 1)) _ _ s;rw[a7a];exact ag h
theorem b1v(xs:Array Value)(i k:Nat):((List.range k).filterMap λ(m:Nat)=>xs[((i:Int)+(m:Int)*1).toNat]?).toArray=((xs.toList.drop i).take k).toArray:=by
 have e:(λ(m:Nat)=>xs[((i:Int)+(m:Int)*1).toNat]?)=λm=>xs[i+m]?:=by
  funext m;have:((i:Int)+(m:Int)*1).toNat=i+m:=by omega
  rw[this]
 rw[e];have:=pick_run xs i k;rw[List.filterMap_map]at this;have a:((λx=>xs[x]?) ∘ λx=>i+x)=λm=>xs[i+m]?:=rfl;rw[a]at this;rw[this]
theorem getItem_tuple_cut{t sl:Addr}{items:Array Value}{g i:Value}{lo hi:Option Int}{Q:Value->Shared->Prop}(b:IsTup s.heap t items)(hs:s.heap.IsSliceOf sl g i .none)(pl:IsPart g lo)(l:IsPart i hi)
  (hw:¬(sIx items.size 0 lo=0/\sIx items.size items.size hi=items.size))
  (h:Q (.ref s.heap.objs.size) {s with heap:=s.heap.push {cls:=.type "tuple",data:=.seq ((items.toList.drop (sIx items.size 0 lo)).take (sIx items.size items.size hi-sIx items.size 0 lo)).toArray}})
  (k:items.size<=sizeLine):wpAny (model prog w) A (getItem (.ref t) (.ref sl)) Q E s:=by
 have a:sizeOk (.seq ((items.toList.drop (sIx items.size 0 lo)).take (sIx items.size items.size hi-sIx items.size 0 lo)).toArray):=by
  show((items.toList.drop (sIx items.size 0 lo)).take (sIx items.size items.size hi-sIx items.size 0 lo)).toArray.size<=sizeLine;rw[aA,aY,bV,ax];omega
 have n:sIx items.size items.size hi<=items.size:=b5F _ _ (aj _) hi;obtain⟨os,f,d,j⟩:=id hs;have c:s.TypeIs (.ref sl) "slice":=⟨os,f,d⟩;unfold getItem
 try with_reducible refine cc ?_
 first|refine aa (ag ?_)|skip
 refine aa (wpAny_sequenceKey b.typeIs (by decide) ?_);refine aa (bK (name:=Str.ofString "__getitem__") b.typeIs cu
  (bI cu b.typeIs entry_tuple_getitem ?_ (args_tuple_getitem _ _)))
 show wpAny _ _ (Builtin.Tuple.tupleItemsOf (.ref t)>>=_) _ _ s;refine aa (tupleItemsOf_ b ?_);refine aa (ez c ?_);rw[ay (by decide)];refine aa (Q7 hs pl l ?_);have e:¬((((sIx items.size 0 lo:Nat):Int)==0 && (1:Int)==1 && (sIx items.size items.size hi-sIx items.size 0 lo)==items.size)=true):=by
  intro q;rw[aL,aL]at q;have o:((sIx items.size 0 lo:Nat):Int)=0:=eq_of_beq q.1.1;have p:sIx items.size items.size hi-sIx items.size 0 lo=items.size:=eq_of_beq q.2;exact hw ⟨by omega,by omega⟩
 show wpAny _ _ (if (((sIx items.size 0 lo:Nat):Int)==0 && (1:Int)==1 && (sIx items.size items.size hi-sIx items.size 0 lo)==items.size)=true then _ else _) _ _ s;rw[ao e,b1v]
 first
  |exact aa (m:=Builtin.Tuple.tupleExact _) (bX (ag ⟨_,rfl,ag h⟩) a)
  |exact aa (m:=Builtin.Tuple.tupleExact _) (bX (aa (ag (ag ⟨_,rfl,ag h⟩))) a)
  |exact aa (aa (m:=Builtin.Tuple.tupleExact _) (bX (ag (ag ⟨_,rfl,ag h⟩)) a))
  |exact aa (aa (m:=Builtin.Tuple.tupleExact _) (bX (ag ⟨_,rfl,ag h⟩) a))
end
end HT
namespace L2
open PySem PySem.Spec PyProof.Rows
abbrev TO:=St->Hp->(Option Int->Hp->Prop)->Prop
def PO(X:Cx)(e:Option Expr)(t:TO):Prop :=
 ∀(pins:List (Addr×Obj)) (s:Shared) (σ:St) (H:Hp) (Q:Option Int->Hp->Prop),Inv X pins σ H s->t σ H Q ->
  wpAny (model X.prog X.w) X.A (evalPart e X.env) (λu s'=>∃o H',Inv X pins σ H' s'/\IsPart u o/\Q o H') X.xe s
def J9:TO:=λ_ H Q=>Q none H
def a1n(t:TE):TO:=λσ H Q=>t σ H λx H1=>∃i,x=.int i/\Q (some i) H1
theorem a7r{ns:List Int}:∀{us:List Value},Vals (ns.map V.int) us->IntsAre us ns:=by
 induction ns with
 |nil=>intro us r;rw[eB]at r;cases r;exact .nil
 |cons n ns a =>
  intro us r;rw[aU]at r;cases r with
  |cons r1 r2 =>
   obtain⟨t,e⟩:=r1;subst e;exact .cons n t (a r2)
section
variable {X:Cx}{e:Expr}{te:TE}{lo hi:Option Expr}{tl th:TO}{pos p2:Pos}
theorem b3G:PO X none J9:=by
 intro pins s σ H Q I h;rw[evalPart_none];exact ag ⟨none,H,I,.none,h⟩
theorem b3F(h:PE X e te):PO X (some e) (a1n te):=by
 intro pins s σ H Q I hw;rw[evalPart_some];refine thn (h pins s σ H _ I hw) λu s1 ⟨x,H1,a,c,b⟩=>?_;obtain⟨i,rfl,q⟩:=b;obtain⟨t,rfl⟩:=c;exact⟨some i,H1,a,.int i t,q⟩
def SlR(X:Cx)(r:V->Option Int->Option Int->Hp->VK->Prop):Prop :=
 ∀(pins:List (Addr×Obj)) (s:Shared) (σ:St) (H:Hp) (x:V) (v vl vu:Value) (lo hi:Option Int) (sl:Addr) (Q:VK),Inv X pins σ H s->RelV x v->s.heap.IsSliceOf sl vl vu .none->IsPart vl lo->IsPart vu hi->r x lo hi H Q ->
  ∃T id,typeLookup (.type T) "__getitem__"=pure (some (.builtin id))/\s.TypeIs v T/\wpAny (model X.prog X.w) X.A (getItem v (.ref sl)) (EP X pins σ Q) X.xe s
def tSl(r:V->Option Int->Option Int->Hp->VK->Prop)(te:TE)(tl th:TO):TE:=λσ H Q=>te σ H λx H1=>tl σ H1 λl H2=>th σ H2 λu H3=>r x l u H3 Q
theorem a2y{r:V->Option Int->Option Int->Hp->VK->Prop}(p:SlR X r)(m:PE X e te)(o:PO X lo tl)(w:PO X hi th):PE X (.Subscript e (.Slice lo hi none p2) pos) (tSl r te tl th):=by
 intro pins s σ H Q I h;refine Subscript_ (thn (m pins s σ H _ I h) λv s1 ⟨x,H1,f,D,A⟩=>?_);refine wpAny_Slice (thn (o pins s1 σ H1 _ f A) λc s2 ⟨l,H2,g,y,B⟩=>thn (w pins s2 σ H2 _ g B) λvu a ⟨u,d,i,z,C⟩=>?_);rw[evalPart_none];refine ag ?_;have j:Inv X pins σ d {a with heap:=a.heap.push {cls:=.type "slice",data:=.fields #[c,vu,.none]}}:=i.kept (t':=a.toks) λb E q=>ae _ q;obtain⟨T,id,k,t,n⟩:=p pins {a with heap:=a.heap.push {cls:=.type "slice",data:=.fields #[c,vu,.none]}} σ d x v c vu l u a.heap.objs.size Q j D (Heap.IsSliceOf.new ..) y z C;show wpAny (model X.prog X.w) X.A (subscriptTail e (.Slice lo hi none p2) v (.ref a.heap.objs.size)) (EP X pins σ Q) X.xe {a with heap:=a.heap.push {cls:=.type "slice",data:=.fields #[c,vu,.none]}};exact tail_any (ops:=[.ref a.heap.objs.size,v]) t k n (by with_unfolding_all rfl)
noncomputable def K9(xs:List V)(lo hi:Option Int):List V:=(xs.drop (HT.sIx xs.length 0 lo)).take (HT.sIx xs.length xs.length hi-HT.sIx xs.length 0 lo)
theorem W4(xs:List V)(lo hi:Option Int):(K9 xs lo hi).length<=xs.length:=by
 unfold K9;rw[aY,bV];omega
def b1g(K:PySem.W.Frag):V->Option Int->Option Int->Hp->VK->Prop:=λx lo hi H Q=>∃a xs,x=.ref a/\SqT K H a xs /\
 ¬(HT.sIx xs.length 0 lo=0/\HT.sIx xs.length xs.length hi=xs.length)/\∀p,H p=none->Q (.ref p) (upd H p (.tup (K9 xs lo hi)))
theorem b0N:SlR X (b1g X.K):=by
 intro pins s σ H x v l m lo hi sl Q I j hs g i h;obtain⟨a,xs,rfl,f,hw,q⟩:=h;cases j;obtain⟨its,r,d,e⟩:=I.tuple f;have c:its.toArray.size=xs.length:=by rw[aA];exact r.length.symm
 refine⟨"tuple",_,cu.lookup,d.typeIs,?_⟩;refine HT.getItem_tuple_cut d hs g i (by rw[c];exact hw) ?_ (by rw[c];exact e);rw[c];refine⟨.ref s.heap.objs.size,_,I.laid (t':=s.toks) (o:=.tup (K9 xs lo hi)) (λb k q=>ae _ q) (aj _) ?_,rfl,q _ (I.hok.fresh (aj _))⟩;exact⟨bb (W4 xs lo hi) e,_,(r.drop (HT.sIx xs.length 0 lo)).take (HT.sIx xs.length xs.length hi-HT.sIx xs.length 0 lo),IsTup.new _ _⟩
def b7A(K:PySem.W.Frag):R2:=λx y H Q=>∃a b xs ys,x=.ref a/\y=.ref b/\SqT K H a xs/\SqT K H b ys/\xs≠[]/\xs.length+ys.length<=sizeLine /\
 (ys=[]->Q (.ref a) H)/\(ys≠[]->∀p,H p=none->Q (.ref p) (upd H p (.tup (xs++ys))))
theorem Vals.nil_iff{xs:List V}{us:List Value}(r:Vals xs us):us=[]↔xs=[]:=by
 cases r with
 |nil=>simp
 |cons _ _=>simp
theorem b3Z:OpR X (binaryOp .Add) (b7A X.K):=by
 intro pins s σ H x y v u Q I m n h;obtain⟨a,b,xs,ys,rfl,rfl,g,i,j,e,k,l⟩:=h;cases m;cases n;obtain⟨its,d,p1,_⟩:=I.tuple g;obtain⟨f,c,p2,_⟩:=I.tuple i;refine HT.cat_tup p1 p2 (λz=>j (d.nil_iff.mp z)) (λz=>⟨.ref a,H,I,rfl,k (c.nil_iff.mp z)⟩) (λz=>?_) (by rw[<-d.length,<-c.length];exact e);refine⟨.ref s.heap.objs.size,_,I.laid (t':=s.toks) (o:=.tup (xs++ys)) (λb p q=>ae _ q) (aj _) ?_,rfl,l (λw=>z (c.nil_iff.mpr w)) _ (I.hok.fresh (aj _))⟩;exact⟨by rw[aq];exact e,_,d.append c,IsTup.new _ _⟩
end
noncomputable def ixN(n:Nat)(i:Int):Option Nat:=if 0<=i then(if i<n then some i.toNat else none)else if -(n:Int)<=i then some (i+n).toNat else none
noncomputable def atI{α:Type}(xs:List α)(i:Int):Option α:=(ixN xs.length i).bind λj=>xs[j]?
theorem a8y{n:Nat}{i:Int}{j:Nat}(h:ixN n i=some j):seqIndex? i n=some j/\j<n /\ -(n:Int)<=i/\i<n:=by
 unfold ixN at h;by_cases a:0<=i
 .rw[ay a]at h;by_cases h1:i<n
  .rw[ay h1]at h;have e:i.toNat=j:=bx h;exact⟨by rw[seqIndex_of a h1,e],by omega,by omega,h1⟩
  .rw[ao h1]at h;cases h
 .rw[ao a]at h;by_cases h1 : -(n:Int)<=i
  .rw[ay h1]at h;have e:(i+n).toNat=j:=bx h;exact⟨by rw[seqIndex_neg (by omega) h1,e],by omega,h1,by omega⟩
  .rw[ao h1]at h;cases h
theorem a5i{α:Type}{xs:List α}{i:Int}{v:α}(h:atI xs i=some v):∃j,seqIndex? i xs.length=some j/\xs[j]?=some v/\j<xs.length /\ -(xs.length:Int)<=i/\i<xs.length:=by
 unfold atI at h;cases e:ixN xs.length i with
 |none=>rw[e]at h;cases h
 |some j =>
  rw[e]at h;obtain⟨h1,h2,a,b⟩:=a8y e;exact⟨j,h1,h,h2,a,b⟩
theorem a0J{α:Type}{xs:List α}{j:Nat}{v:α}(h:xs[j]?=some v):atI xs (j:Int)=some v:=by
 have a:j<xs.length:=(aN.mp h).1;have e:ixN xs.length (j:Int)=some j:=by
  unfold ixN;rw[ay (by omega),ay (by omega)];simp
 unfold atI;rw[e];exact h
def a5j(b:Expr):Prop:=∀o i,subscripted b false o i=operate [o,i] (getItem o i)
def IxR(X:Cx)(r:R2):Prop :=
 ∀(value slice:Expr) (pins:List (Addr×Obj)) (s:Shared) (σ:St) (H:Hp) (x y:V) (v u:Value) (Q:VK),Inv X pins σ H s->RelV x v->RelV y u->r x y H Q ->
  subscripted slice false v u=operate [v,u] (getItem v u)->wpAny (model X.prog X.w) X.A (subscriptTail value slice v u) (EP X pins σ Q) X.xe s
def MtR(X:Cx)(id:String)(r:V->List V->Hp->VK->Prop):Prop :=
 ∀(pins:List (Addr×Obj)) (s:Shared) (σ:St) (H:Hp) (x:V) (xs:List V) (v:Value) (us:List Value) (Q:VK),Inv X pins σ H s->RelV x v->Vals xs us->r x xs H Q ->
  wpAny (model X.prog X.w) X.A (call (.builtin id) (v::us)) (EP X pins σ Q) X.xe s
section
variable {X:Cx}{a b:Expr}{ta tb:TE}{pos:Pos}
theorem b5g{r:R2}(f:IxR X r)(d:PE X a ta)(e:PE X b tb)(hs:a5j b):PE X (.Subscript a b pos) (tOp r ta tb):=by
 intro pins s σ H Q I h;exact Subscript_ (b7a d e I h λv u s2 x y H2 c g i q=>f a b pins s2 σ H2 x y v u Q c g i q (hs _ _))
def a6Y(K:PySem.W.Frag):R2:=λx y H Q=>∃p xs i v,x=.ref p/\y=.int i/\SqL K H p xs/\atI xs i=some v/\Q v H
def b5I(K:PySem.W.Frag):R2:=λx y H Q=>∃p xs i v,x=.ref p/\y=.int i/\SqT K H p xs/\atI xs i=some v/\Q v H
theorem b4s:IxR X (a6Y X.K):=by
 intro value c pins s σ H x y v u Q I n o h hs;obtain⟨p,xs,i,z,rfl,rfl,m,k,q⟩:=h;cases n;obtain⟨t,rfl⟩:=o;obtain⟨its,r,a,C⟩:=I.list m;obtain⟨j,h1,h2,A,f,g⟩:=a5i k;obtain⟨w,d,b⟩:=r.get h2;have l:=r.length;have B:=a0R;have fin:EP X pins σ Q w s:=⟨z,H,I,b,q⟩;by_cases e:0<=i
 .have hj:i.toNat=j:=by
   rw[seqIndex_of e g]at h1;exact bx h1
  exact item_listR a.isList e (by omega) (by rw[hj];simpa using d) fin hs
 .have hj:(i+(its.toArray.size:Int)).toNat=j:=by
   rw[seqIndex_neg (by omega) f]at h1;rw[aA,<-l];exact bx h1
  exact subscriptTail_builtinR (x:=w) a.isList.typeIs slot_list_getitem.lookup
   (wpAny_getItem_list_neg (Q:=λr s'=>r=w/\EP X pins σ Q r s') a.isList (by omega) (by rw[aA]<;>omega) (by omega) (by rw[hj];simpa using d) ⟨rfl,fin⟩) hs
theorem b6O:IxR X (b5I X.K):=by
 intro value b pins s σ H x y v u Q I k l h hs;obtain⟨p,xs,i,z,rfl,rfl,g,e,q⟩:=h;cases k;obtain⟨t,rfl⟩:=l;obtain⟨its,r,c,B⟩:=I.tuple g;obtain⟨j,h1,h2,m,n,o⟩:=a5i e;obtain⟨w,d,a⟩:=r.get h2;have f:=r.length;have A:=a0R;have fin:EP X pins σ Q w s:=⟨z,H,I,a,q⟩;exact subscriptTail_builtinR (x:=w) c.typeIs slot_tuple_getitem.lookup
  (getItem_tuple (j:=j) (Q:=λr s'=>r=w/\EP X pins σ Q r s') c (by omega) (by omega) (by rw[aA,<-f];exact h1) (by simpa using d) ⟨rfl,fin⟩) hs
theorem a7h(its:List Value)(n j:Nat)(u:Value):Obj.mapSeq (·.setIfInBounds j u) {cls:=.type "list",data:=.seq its.toArray n}={cls:=.type "list",data:=.seq (its.set j u).toArray n}:=by
 simp[Obj.mapSeq]
theorem Inv.lst{pins:List (Addr×Obj)}{σ:St}{H:Hp}{s:Shared}{p:Addr}{xs:List V}(I:Inv X pins σ H s)(h:H p=some (.lst xs)) :
  ∃(its:List Value) (n:Nat),Vals xs its/\s.heap.get? p=some {cls:=.type "list",data:=.seq its.toArray n}/\xs.length<=sizeLine:=by
 obtain⟨z,its,n,r,e⟩:=I.hok p _ h;exact⟨its,n,r,e,z⟩
theorem Inv.lstUpd{pins:List (Addr×Obj)}{σ:St}{H:Hp}{s:Shared}{p:Addr}{xs ys:List V}{its its':List Value}{n a:Nat}{f:Obj->Obj}(I:Inv X pins σ H s)(h:H p=some (.lst xs))
  (g:s.heap.get? p=some {cls:=.type "list",data:=.seq its.toArray n}) (c:f {cls:=.type "list",data:=.seq its.toArray n}={cls:=.type "list",data:=.seq its'.toArray a}) (r:Vals ys its') (i:ys.length<=sizeLine) (t:Nat) :
  Inv X pins σ (upd H p (.lst ys)) {s with heap:=s.heap.update p f,toks:=t}:=by
 have e:(s.heap.update p f).get? p=some {cls:=.type "list",data:=.seq its'.toArray a}:=by
  rw[cL f g (by rw[c]<;>rfl),c]
 refine I.write (x:=p) (e:=p) (by rw[h];trivial) (.inl rfl) (λb u d q=>(fJ _ _ (dC d)).trans q) ⟨_,e⟩ ?_;exact⟨i,its',a,r,e⟩
def b1h:V->V->V->Hp->(Hp->Prop)->Prop:=λo i v H Q=>∃p xs k j,o=.ref p/\i=.int k/\H p=some (.lst xs)/\ixN xs.length k=some j/\Q (upd H p (.lst (xs.set j v)))
theorem a5F:b7l X b1h:=by
 intro pins s σ H o i v B A u Q I x w y h;obtain⟨p,xs,k,j,rfl,rfl,g,l,q⟩:=h;cases x;obtain⟨t,rfl⟩:=w;obtain⟨its,n,r,b,m⟩:=I.lst g;obtain⟨h1,h2,e,f⟩:=a8y l;have a:=r.length;have z:=a0R;have c:Inv X pins σ (upd H p (.lst (xs.set j v))) {s with heap:=s.heap.update p (Obj.mapSeq (·.setIfInBounds j u))} :=
  I.lstUpd g b (a7h its n j u) (r.set y j) (by rw[List.length_set];exact m) s.toks
 by_cases d:0<=k
 .have hk:k.toNat=j:=by
   rw[seqIndex_of d f]at h1;exact bx h1
  exact PySem.W.ki_setAt b d (by omega) (by rw[aA,<-a];exact f) (by rw[hk];exact⟨_,c,q⟩)
 .have hk:(k+(its.toArray.size:Int)).toNat=j:=by
   rw[seqIndex_neg (by omega) e]at h1;rw[aA,<-a];exact bx h1
  exact PySem.W.ki_setBack b (by omega) (by rw[aA,<-a];exact e) (by omega) (by rw[hk];exact⟨_,c,q⟩)
theorem a4w(lo hi:Option Int)(n:Nat):(sliceBounds lo hi none n).1=((HT.sIx n 0 lo:Nat):Int)/\(sliceBounds lo hi none n).2.1=((HT.sIx n n hi:Nat):Int)/\(sliceBounds lo hi none n).2.2=1:=by
 refine⟨?_,?_,rfl⟩
 .cases lo with
  |none=>simp[sliceBounds,HT.sIx]
  |some i =>
   simp only[sliceBounds,HT.sIx,Option.getD_none,show(1:Int) > 0 by decide,fj];by_cases h:i<0
   .simp only[h,fj]<;>omega
   .simp only[h,if_false]<;>omega
 .cases hi with
  |none=>simp[sliceBounds,HT.sIx]
  |some i =>
   simp only[sliceBounds,HT.sIx,Option.getD_none,show(1:Int) > 0 by decide,fj];by_cases h:i<0
   .simp only[h,fj]<;>omega
   .simp only[h,if_false]<;>omega
theorem a3p(its:List Value)(lo hi:Option Int):slicePick its.toArray lo hi none=((its.drop (HT.sIx its.length 0 lo)).take (HT.sIx its.length its.length hi-HT.sIx its.length 0 lo)).toArray:=by
 obtain⟨h1,h2,a⟩:=a4w lo hi its.toArray.size;unfold slicePick;rw[h1,h2,a];simp only[sliceRange_one,pick_run,aA]<;>rfl
def b5H(K:PySem.W.Frag):V->Option Int->Option Int->Hp->VK->Prop:=λx lo hi H Q=>∃a xs,x=.ref a/\SqL K H a xs/\∀p,H p=none->Q (.ref p) (upd H p (.lst (K9 xs lo hi)))
theorem b3i:SlR X (b5H X.K):=by
 intro pins s σ H x v l m lo hi sl Q I j hs g i h;obtain⟨a,xs,rfl,e,q⟩:=h;cases j;obtain⟨its,r,d,f⟩:=I.list e;have c:=r.length;refine⟨"list",_,slot_list_getitem.lookup,d.isList.typeIs,?_⟩;refine wpAny_getItem_list_slice d.isList hs g i .none (by simp) ?_ (by rw[aA]<;>omega);rw[a3p,<-c];refine⟨.ref s.heap.objs.size,_,I.laid (t':=s.toks) (o:=.lst (K9 xs lo hi)) (λb k q=>ae _ q) (aj _) ?_,rfl,q _ (I.hok.fresh (aj _))⟩;exact⟨bb (W4 xs lo hi) f,_,0,(r.drop (HT.sIx xs.length 0 lo)).take (HT.sIx xs.length xs.length hi-HT.sIx xs.length 0 lo),aG _ rfl⟩
noncomputable def a6o:V->Bool
 |.non=>true
 |.bl _=>true
 |.int _=>true
 |.str _=>true
 |_=>false
noncomputable def eqV:V->V->Bool
 |.non,.non=>true
 |.bl a,.bl b=>a==b
 |.bl a,.int b=>(if a then 1 else 0)==b
 |.int a,.bl b=>a==(if b then 1 else 0)
 |.int a,.int b=>a==b
 |.str a,.str b=>a==b
 |_,_=>false
theorem b6V{A:Around}{s:Shared}{y x:V}{u v:Value}(d:RelV y u)(c:RelV x v)(fy:a6o y=true)(fx:a6o x=true):SeqAt.EqAt A s u v (eqV y x):=by
 cases y with
 |non =>
  cases d;cases x with
  |non=>cases c;exact SeqAt.EqAt.same _
  |bl b=>cases c;exact SeqAt.EqAt.none_bool b
  |int b=>obtain⟨t,rfl⟩:=c;exact SeqAt.EqAt.none_int b t
  |str b=>obtain⟨t,rfl⟩:=c;exact SeqAt.EqAt.none_str b t
  |_=>exact absurd (show false=true from fx) a_
 |bl a =>
  cases d;cases x with
  |non=>cases c;exact SeqAt.EqAt.bool_none a
  |bl b=>cases c;exact SeqAt.EqAt.bool_bool a b
  |int b=>obtain⟨t,rfl⟩:=c;exact SeqAt.EqAt.bool_int a b t
  |str b=>obtain⟨t,rfl⟩:=c;exact SeqAt.EqAt.bool_str a b t
  |_=>exact absurd (show false=true from fx) a_
 |int a =>
  obtain⟨t',rfl⟩:=d;cases x with
  |non=>cases c;exact SeqAt.EqAt.int_none a t'
  |bl b=>cases c;exact SeqAt.EqAt.int_bool a t' b
  |int b=>obtain⟨t,rfl⟩:=c;exact SeqAt.EqAt.int_int a t' b t
  |str b=>obtain⟨t,rfl⟩:=c;exact SeqAt.EqAt.int_str a t' b t
  |_=>exact absurd (show false=true from fx) a_
 |str a =>
  obtain⟨t',rfl⟩:=d;cases x with
  |non=>cases c;exact SeqAt.EqAt.str_none a t'
  |bl b=>cases c;exact SeqAt.EqAt.str_bool a t' b
  |int b=>obtain⟨t,rfl⟩:=c;exact SeqAt.EqAt.str_int a t' b t
  |str b=>obtain⟨t,rfl⟩:=c;exact SeqAt.EqAt.str_str a t' b t
  |_=>exact absurd (show false=true from fx) a_
 |_=>exact absurd (show false=true from fy) a_
theorem a5g:D0 X (.builtin "len") (λxs H Q=>∃p ys,xs=[.ref p]/\(SqL X.K H p ys∨SqT X.K H p ys)/\Q (.int ys.length) H):=by
 intro pins s σ H xs e Q I r h;obtain⟨p,ys,rfl,b,q⟩:=h;obtain⟨u,rfl,c⟩:=a5s r;cases c;have d:=a0R;rcases b with b|b
 .obtain⟨its,r',pl,hz⟩:=I.list b;have a:=r'.length;exact Calls.call_len_list pl.isList (by simp only[aA]<;>omega) ⟨.int ys.length,H,I.tok _,⟨s.toks+1,by rw[aA,a]⟩,q⟩
 .obtain⟨its,r',pl,hz⟩:=I.tuple b;have a:=r'.length;exact len_tuple pl (by simp only[aA]<;>omega) ⟨.int ys.length,H,I.tok _,⟨s.toks+1,by rw[aA,a]⟩,q⟩
theorem a5f:D0 X (.type "list") (λxs H Q=>∃p ys,xs=[.ref p]/\(SqL X.K H p ys∨SqT X.K H p ys)/\∀l,H l=none->Q (.ref l) (upd H l (.lst ys))):=by
 intro pins s σ H xs t Q I r h;obtain⟨p,ys,rfl,f,q⟩:=h;obtain⟨u,rfl,m⟩:=a5s r;cases m;have fin:∀(its:List Value),Vals ys its->ys.length<=sizeLine->∀(h':Heap) (a:Nat),(∀b o',s.heap.get? b=some o'->h'.get? b=some o') ->
   h'.get? s.heap.objs.size=some {cls:=.type "list",dict:=none,data:=.seq its.toArray a,slots:=#[]}->EP X pins σ Q (.ref s.heap.objs.size) {s with heap:=h'}:=λits c g h' a i e =>
  ⟨.ref s.heap.objs.size,_,I.laid (t':=s.toks) i (aj _) (show ObjOk X.prog X.w _ h' _ (.lst ys)from⟨g,its,a,c,e⟩),rfl,q _ (I.hok.fresh (aj _))⟩
 rcases f with f|f
 .obtain⟨its,c,pl,g⟩:=I.list f;have d:=c.length;obtain⟨o,k,j,n,hd⟩:=pl.isList;exact call_list_seq p (.inl rfl) k j hd (λh' a i e=>fin its c g h' a i e) (by simp only[aA]<;>omega)
 .obtain⟨its,c,pl,g⟩:=I.tuple f;have d:=c.length;obtain⟨o,k,j,n,hd⟩:=pl;exact call_list_seq p (.inr rfl) k j hd (λh' a i e=>fin its c g h' a i e) (by simp only[aA]<;>omega)
theorem a3u:D0 X (.type "tuple") (λxs H Q=>∃p ys,xs=[.ref p]/\((SqL X.K H p ys/\∀l,H l=none->Q (.ref l) (upd H l (.tup ys)))∨(SqT X.K H p ys/\Q (.ref p) H))):=by
 intro pins s σ H xs j Q I r h;obtain⟨p,ys,rfl,h⟩:=h;obtain⟨u,rfl,i⟩:=a5s r;cases i;rcases h with⟨a,q⟩|⟨a,q⟩
 .obtain⟨its,r',pl,hz⟩:=I.list a;have d:=r'.length;refine call_tuple_list pl.isList (λh' g=>?_) (by simp only[aA]<;>omega);have c:Inv X pins σ H {s with heap:=h'}:=I.kept (t':=s.toks) g;have f:Inv X pins σ (upd H h'.objs.size (.tup ys)) {s with heap:=h'.push {cls:=.type "tuple",data:=.seq its.toArray}} :=
   c.laid (t':=s.toks) (λb o e=>ae _ e) (aj _) (show ObjOk X.prog X.w _ _ _ (.tup ys)from⟨hz,its,r',IsTup.new _ _⟩)
  exact⟨.ref h'.objs.size,_,f,rfl,q _ (c.hok.fresh (aj _))⟩
 .obtain⟨its,r',pl,hz⟩:=I.tuple a;exact call_tuple_same pl ⟨.ref p,H,I,rfl,q⟩
def tyV(K:PySem.W.Frag)(T:String)(x:V)(H:Hp):Prop:=match x with
 |.str _=>T="str"
 |.int _=>T="int"
 |.ref p=>(T="list" /\ ∃xs,SqL K H p xs)∨(T="tuple" /\ ∃o,K.lookup p=some o/\o.cls=.type "tuple"/\o.dict=none) ∨
   (T="dict"/\((∃kvs,H p=some (.dK kvs))∨∃kvs,H p=some (.dT kvs)))∨(T="set" /\ ∃S n,H p=some (.set S n))
 |_=>False
theorem b5w{pins:List (Addr×Obj)}{σ:St}{H:Hp}{s:Shared}{T:String}{x:V}{v:Value}(I:Inv X pins σ H s)(r:RelV x v)(ty:tyV X.K T x H) :
  s.TypeIs v T/\∀a,v=.ref a->∃f,s.heap.get? a=some f/\f.dict=none:=by
 cases x with
 |str z =>
  obtain⟨t,rfl⟩:=r;cases(show T="str" from ty);exact⟨typeIs_str s z t,λ_ e=>nomatch e⟩
 |int i =>
  obtain⟨t,rfl⟩:=r;cases(show T="int" from ty);exact⟨fk s i t,λ_ e=>nomatch e⟩
 |ref p =>
  cases r;rcases ty with⟨rfl,xs,h⟩|⟨rfl,o,b,g,hd⟩|⟨rfl,b⟩|⟨rfl,S,n,b⟩
  .obtain⟨its,_,pl,_⟩:=I.list h;refine⟨pl.isList.typeIs,λa e=>?_⟩;cases e;obtain⟨o,n,e,c,hd,_⟩:=pl;exact⟨o,e,hd⟩
  .refine⟨⟨o,I.kIn p o b,g⟩,λa e=>?_⟩;cases e;exact⟨o,I.kIn _ o b,hd⟩
  .have z:∃o,s.heap.get? p=some o/\o.ExactDict:=by
    rcases b with⟨kvs,b⟩|⟨kvs,b⟩
    .obtain⟨_,_,_,_,o,_,_,e,ex,_⟩:=I.hok p _ b;exact⟨o,e,ex⟩
    .obtain⟨_,_,_,_,o,_,_,e,ex,_⟩:=I.hok p _ b;exact⟨o,e,ex⟩
   obtain⟨o,e,ex⟩:=z;refine⟨⟨o,e,ex.1⟩,λa d=>?_⟩;cases d;exact⟨o,e,ex.2.1⟩
  .obtain⟨o,_,_,_,e,ex,_⟩:=I.hok p _ b;refine⟨⟨o,e,ex.1⟩,λa d=>?_⟩;cases d;exact⟨o,e,ex.2.1⟩
 |_=>exact False.elim ty
def tBM(K:PySem.W.Frag)(T:String)(r:V->List V->Hp->VK->Prop)(to:TE)(t:TA):TE:=λσ H Q=>to σ H λx H1=>tyV K T x H1/\t σ H1 λxs H2=>r x xs H2 Q
variable {o e:Expr}{es:List Expr}{to:TE}{t:TA}{name:Str}{apos cpos:Pos}{T id:String}{r:V->List V->Hp->VK->Prop}
theorem b7G(q:PlainAttrs T)(f:Slot T name id)(g:typeOf (.builtin id)=pure (.type "method_descriptor"))(n:MtR X id r)(p:PE X o to)(m:PA X (e::es) t)
  (b:attributeBase o name X.env (eval o X.env)=eval o X.env:=by rfl)
  (d:((backTo cpos (starEach (e::es) X.env)).all (λx=>!x.1) && (backToKw cpos (keywordEach [] X.env)).all (λx=>x.1.isSome)
   && decide ((e::es).length+([]:List Keyword).length+(if ([]:List Keyword).isEmpty then 0 else 1)<30))=true:=by rfl)
  (c:(apos.endLine==cpos.line)=true:=by rfl) (hs:starEach (e::es) X.env=(false,eval e X.env)::starEach es X.env:=by rfl) (a:(backTo cpos (starEach es X.env)).any (·.1)=false:=by rfl) :
  PE X (.Call (.Attribute o name apos) (e::es) [] cpos) (tBM X.K T r to t):=by
 intro pins s σ H Q I h;refine wpAny_Call_method_late b d c rfl (thn (p pins s σ H _ I h) λv s1 ⟨x,H1,i,k,ty,u⟩=>?_);obtain⟨h1,h2⟩:=b5w i k ty;refine⟨T,id,q,f,g,h1,h2,?_⟩;have j:=m cpos pins s1 σ H1 _ i u;rw[hs]at j⊢;refine Calls.callWith_builtin (by show(false || (backTo cpos (starEach es X.env)).any (·.1))=false;rw[a]<;>rfl) (Calls.evalArgs_plain ?_);exact thn j λz s2 ⟨A,H2,l,y,w⟩=>n pins s2 σ H2 x A v z Q l k y w
end
def MtM(X:Cx)(id:String)(r:V->List V->Hp->VK->Prop):Prop :=
 ∀(pins:List (Addr×Obj)) (s:Shared) (σ:St) (H:Hp) (x:V) (xs:List V) (v:Value) (us:List Value) (Q:VK),Inv X pins σ H s->RelV x v->Vals xs us->r x xs H Q ->
  wpAny (model X.prog X.w) X.A (call (.builtin id) (v::us)) (EP X pins σ Q) X.xe s
theorem Vals.one{x:V}{us:List Value}(h:Vals [x] us):∃u,us=[u]/\RelV x u:=by
 cases h with
 |cons r q=>cases q;exact⟨_,rfl,r⟩
theorem Vals.two{x y:V}{us:List Value}(h:Vals [x,y] us):∃u v,us=[u,v]/\RelV x u/\RelV y v:=by
 cases h with
 |cons r h=>obtain⟨v,rfl,q⟩:=Vals.one (x:=y) h;exact⟨_,_,rfl,r,q⟩
theorem Vals.eraseIdx:∀{xs:List V}{us:List Value}(i:Nat),Vals xs us->Vals (xs.eraseIdx i) (us.eraseIdx i)
 |_,_,_,.nil=>.nil
 |_,_,0,.cons _ t=>t
 |_,_,i+1,.cons r t=>.cons r (Vals.eraseIdx i t)
theorem Vals.rep{xs:List V}{us:List Value}(h:Vals xs us):∀k:Nat,Vals (List.replicate k xs).flatten (List.replicate k us).flatten
 |0=>.nil
 |k+1=>by
  rw[bG,bG,cR,cR];exact Vals.append h (Vals.rep h k)
theorem a3O{α:Type}:∀(l:List α) (i:Nat),(l.eraseIdx i).length<=l.length
 |[],_=>aj _
 |_::_,0=>eh _
 |_::r,i+1=>Nat.succ_le_succ (a3O r i)
theorem a3Y(its:List Value):∀(k:Nat) (a:List Value),
  List.foldl (λc d=>c++d) a.toArray (List.replicate k its.toArray)=(a++(List.replicate k its).flatten).toArray
 |0,a=>by simp
 |k+1,a=>by
  have e:a.toArray++its.toArray=(a++its).toArray:=by simp
  have b:(a++its)++(List.replicate k its).flatten=a++(List.replicate (k+1) its).flatten:=by
   rw[bG,cR,aH]
  rw[<-b,<-a3Y its k (a++its),<-e,bG,c_]
section
variable {X:Cx}{pins:List (Addr×Obj)}{σ:St}{H:Hp}{s:Shared}{l b:Addr}{xs ys zs:List V}
theorem Inv.lset{its its':List Value}{n:Nat}{f:Array Value->Array Value}{t':Nat}(I:Inv X pins σ H s)(a:H l=some (.lst xs))
  (e:s.heap.get? l=some {cls:=.type "list",data:=.seq its.toArray n}) (c:f its.toArray=its'.toArray) (g:Vals ys its') (h:ys.length<=sizeLine) :
  Inv X pins σ (upd H l (.lst ys)) {s with heap:=s.heap.update l (Obj.mapSeq f),toks:=t'}:=by
 have q:=PySem.IsL.update e f;rw[c]at q;refine I.write (x:=l) (e:=l) (by rw[a];exact trivial) (.inl rfl) (λb' u b d=>(fJ s.heap (Obj.mapSeq f) (dC b)).trans d) ⟨_,q⟩ ?_;exact⟨h,its',_,g,q⟩
theorem Inv.lnew{its:List Value}{t':Nat}(I:Inv X pins σ H s)(a:Vals ys its)(b:ys.length<=sizeLine) :
  Inv X pins σ (upd H s.heap.objs.size (.lst ys)) {s with heap:=s.heap.push {cls:=.type "list",data:=.seq its.toArray},toks:=t'} :=
 I.laid (λ_ _ q=>ae _ q) (aj _) ⟨b,its,0,a,aG _ rfl⟩
theorem Inv.fresh(I:Inv X pins σ H s):H s.heap.objs.size=none:=I.hok.fresh (aj _)
theorem Inv.lstM(I:Inv X pins σ H s)(a:H l=some (.lst xs)):xs.length<=sizeLine/\∃(its:List Value) (n:Nat),Vals xs its/\xs.length=its.length/\s.heap.get? l=some {cls:=.type "list",data:=.seq its.toArray n}:=by
 obtain⟨z,its,n,r,e⟩:=I.hok l _ a;exact⟨z,its,n,r,r.length,e⟩
theorem a5S{n:Nat}(h:n<=sizeLine):Builtin.List.listTooLong n=false:=by
 unfold Builtin.List.listTooLong;exact bq (by omega)
end
section
variable {X:Cx}
def a8j:V->List V->Hp->VK->Prop:=λx vs H Q=>∃l xs y,x=.ref l/\vs=[y]/\H l=some (.lst xs)/\xs.length<sizeLine/\Q .non (upd H l (.lst (xs++[y])))
theorem a9E:MtM X "list.append" a8j:=by
 intro pins s σ H x j v i Q I d c h;obtain⟨l,xs,y,rfl,rfl,a,g,q⟩:=h;cases d;obtain⟨u,rfl,b⟩:=c.one;obtain⟨z,its,n,r,f,e⟩:=I.lstM a;refine de F.slot_list_append ⟨_,e,rfl⟩ F.entry_list_append (F.args_list_append_2 _ _) (PySem.list_append l its.toArray n u (by rw[aA];omega)) ⟨e,?_⟩;refine⟨.non,_,I.lset (its':=its++[u]) a e (by simp) (r.append (.cons b .nil)) ?_,rfl,q⟩;rw[aq,fR];omega
def a8i:V->List V->Hp->VK->Prop:=λx vs H Q=>∃l b xs zs,x=.ref l/\vs=[.ref b]/\H l=some (.lst xs)/\H b=some (.lst zs)/\xs.length+zs.length<=sizeLine/\Q .non (upd H l (.lst (xs++zs)))
theorem a9D:MtM X "list.extend" a8i:=by
 intro pins s σ H x B v A Q I t p h;obtain⟨l,b,xs,zs,rfl,rfl,f,i,y,q⟩:=h;cases t;obtain⟨u,rfl,o⟩:=p.one;cases o;obtain⟨z,its,n,r,w,e⟩:=I.lstM f;obtain⟨C,a,k,m,j,g⟩:=I.lstM i;have d:its.toArray.size+a.toArray.size<=sizeLine:=by rw[aA,aA];omega
 have c:¬(!its.toArray.isEmpty && Builtin.List.listTooLong (its.toArray.size+a.toArray.size))=true:=by
  rw[a5S d,dO];exact a_
 refine de F.slot_list_extend ⟨_,e,rfl⟩ F.entry_list_extend (F.args_list_extend_2 _ _)
  (AutoSeq1.list_extend_list_list_0 l its.toArray n b a.toArray k c (by rw[aA];omega) (by omega)) ⟨e,g,?_⟩
 refine⟨.non,_,I.lset (its':=its++a) f e (by simp) (r.append m) ?_,rfl,q⟩;rw[aq];omega
def b1k:V->List V->Hp->VK->Prop:=λx vs H Q=>∃l xs i k y,x=.ref l/\vs=[.int i]/\H l=some (.lst xs) /\ -(2 ^ 63)<=i/\i<2 ^ 63/\seqIndex? i xs.length=some k/\xs[k]?=some y/\Q y (upd H l (.lst (xs.eraseIdx k)))
theorem b1S:MtM X "list.pop" b1k:=by
 intro pins s σ H x p v o Q I m j h;obtain⟨l,xs,i,k,y,rfl,rfl,b,h1,h2,c,f,q⟩:=h;cases m;obtain⟨u,rfl,g⟩:=j.one;obtain⟨t,rfl⟩:=g;obtain⟨z,its,n,r,d,e⟩:=I.lstM b;obtain⟨w,hw,a⟩:=r.get f;refine de F.slot_list_pop ⟨_,e,rfl⟩ F.entry_list_pop (F.args_list_pop_2 _ _)
  (MeetsSeq.list_pop_at l its.toArray n i t k w (fitsIndex_both h1 h2) (by rw[aA,<-d];exact c) (by rw[<-au];exact hw) (by rw[aA];omega)) ⟨e,?_⟩
 refine⟨y,_,I.lset (its':=its.eraseIdx k) b e ?_ (r.eraseIdx k) ?_,a,q⟩
 .show its.toArray.eraseIdxIfInBounds k=(its.eraseIdx k).toArray;rw[List.eraseIdxIfInBounds_toArray]
 .have:=a3O xs k;omega
def b7B:R2:=λx y H Q=>∃l b xs zs,x=.ref l/\y=.ref b/\H l=some (.lst xs)/\H b=some (.lst zs)/\xs.length+zs.length<=sizeLine/\∀p,H p=none->Q (.ref p) (upd H p (.lst (xs++zs)))
theorem b6v:OpR X (binaryOp .Add) b7B:=by
 intro pins s σ H x y v u Q I k m h;obtain⟨l,b,xs,zs,rfl,rfl,g,f,p,q⟩:=h;cases k;cases m;obtain⟨z,its,n,r,o,e⟩:=I.lstM g;obtain⟨w,a,t,j,i,c⟩:=I.lstM f;refine PySem.P.add_list e c ?_ (by rw[aA,aA];omega);have d:its.toArray++a.toArray=(its++a).toArray:=by simp
 rw[d];exact⟨.ref _,_,I.lnew (t':=s.toks) (r.append j) (by rw[aq];omega),rfl,q _ I.fresh⟩
def b7x:R2:=λx y H Q=>∃l k xs,x=.ref l/\y=.int k/\H l=some (.lst xs) /\ -(2 ^ 63)<=k/\k<2 ^ 63/\xs.length*k.toNat<=sizeLine /\
 ∀p,H p=none->Q (.ref p) (upd H p (.lst (List.replicate k.toNat xs).flatten))
theorem a4T{α:Type}(xs:List α)(k:Nat):(List.replicate k xs).flatten.length=k*xs.length:=by
 induction k with
 |zero=>simp
 |succ k a=>rw[bG,cR,aq,a,Nat.succ_mul,Nat.add_comm]
theorem b6m:OpR X (binaryOp .Mult) b7x:=by
 intro pins s σ H x y v u Q I B C h;obtain⟨l,k,xs,rfl,rfl,w,h1,h2,o,q⟩:=h;cases B;obtain⟨t,rfl⟩:=C;obtain⟨z,its,n,r,A,e⟩:=I.lstM w;have f:its.toArray.size*k.toNat<=sizeLine:=by rw[aA,<-A];exact o
 have c:¬its.toArray.size*k.toNat > (2 ^ 63-1) / 8:=by
  have:(sizeLine:Nat)<=(2 ^ 63-1) / 8:=by decide
  omega
 have d:¬(!Builtin.List.listFitsIndex k)=true:=by
  rw[fitsIndex_both h1 h2];exact a_
 have b:¬Builtin.List.listTooLong (its.toArray.size*k.toNat)=true:=by
  rw[a5S f];exact a_
 have g:List.foldl (λi j=>i++j) #[] (List.replicate (if its.toArray.isEmpty=true then 0 else k.toNat) its.toArray)=(List.replicate k.toNat its).flatten.toArray:=by
  have p:∀m:Nat,List.foldl (λi j=>i++j) #[] (List.replicate m its.toArray)=(List.replicate m its).flatten.toArray:=λm=>by
   have:=a3Y its m [];rw[bS]at this;exact this
  rw[p];cases its with
  |nil=>simp
  |cons a r'=>rw[ao (by simp)]
 refine eT (T:="list") (U:="int") (by decide) ⟨_,e,rfl⟩ (λs'=>fk s' k t) noFill_list_mul F.fills_int_mul dZ repeat_list F.slot_int_index.lookup
  (de dZ (fk s k t) F.entry_int_rmul (F.args_int_rmul_2 _ _) (int___rmul___int_list k t l its.toArray n)
   ⟨e,rfl,⟨_,e,rfl⟩,de F.slot_list_mul ⟨_,e,rfl⟩ F.entry_list_mul (F.args_list_mul_2 _ _) (AutoListH.list___mul___list_int_3 l its.toArray n k t d c b) ⟨e,?_⟩⟩)
 rw[g];exact⟨.ref _,_,I.lnew (t':=s.toks) (r.rep k.toNat) (by rw[a4T,eY];exact o),rfl,q _ I.fresh⟩
end
section
variable {prog:Program}{w:World}{A:Around}{E:Value->Shared->Prop}{s:Shared}
end
section
variable {X:Cx}
end
end L2
namespace Att
open PySem PySem.W PySem.Calls PyProof.Rows
theorem a1E{P:Params}{h:Heap}:∀(ns:List Int) (vs:List Value),WellAll P h vs (ns.map WData.int)->IntsAre vs ns:=by
 intro ns;induction ns with
 |nil =>
  intro vs w;rw[eB]at w;cases w;exact .nil
 |cons n ns c =>
  intro vs w;rw[aU]at w;cases w with
  |cons a b =>
   cases a;exact .cons _ _ (c _ b)
theorem a9f{l:OpenLaw}{n:Nat}(o:l.most=some n){P:Params}{h:Heap}{args:List WData}{c:List Value}
  (b:l.row.toRowW.claim.pre args=true) (j:WellAll P h c args) :
  ∃a vs ns,c=[Value.ref a]/\args=[WData.list (ns.map WData.int)]/\h.get? a=some {cls:=.type "list",data:=.seq vs.toArray}/\IntsAre vs ns/\ns.length<=n:=by
 have hsh:WShape.hasAll [] args [.list .int]=true:=(pre_splitW b).1;have k:l.pre.holds [] {args:=args}=true:=(pre_splitW b).2;obtain⟨d,r,rfl,h1,h2⟩:=hasAllW_cons hsh;obtain rfl:=hasAllW_nil h2;obtain⟨xs,rfl,m⟩:=hasW_list h1;obtain⟨ns,rfl⟩:=items_int m;have f:ns.length<=n:=by
  unfold OpenLaw.pre at k;have g:(WTm.not (.lt (.lit (.int (n:Int))) (.len (.arg 0)))).holds [] {args:=[.list (ns.map .int)]}=true:=by
   have g:=(holds_andW k).1;rw[o]at g;exact g
  have i:=condW_of g (w_not (w_lt w_lit (w_len_list (w_arg rfl))));rw[ai]at i;refine Nat.le_of_not_lt λq=>?_;have s:(n:Int)<((ns.length:Nat):Int):=by omega
  first
   |(rw[bu s]at i;exact absurd i (by decide))
   |(simp at i;omega)
 cases j with
 |cons w1 w2 =>
  cases w2;cases w1 with
  |list p e=>exact⟨_,_,ns,rfl,rfl,p,a1E ns _ e,f⟩
theorem a9r(l:OpenLaw)(args:List WData):l.row.toRowW.claim.post args (.bool true) args=true :=
 postW_of (r:=l.row.toRowW) (X:=(true==true))
  (show WShape.has [] (.bool true) .bool=true by first|rfl|decide|simp[WShape.has,WShape.arms,WShape.armsAll])
  (show(WTm.eq .res (.lit (.bool true))).value [] {args:=args,res:=some (.bool true),after:=args}=some (.bool (true==true))from w_eq_bool (w_res rfl) w_lit) rfl
theorem attach_call{l:OpenLaw}{n:Nat}{q:Program}{b:List Str}{XP:(Str->Option Value)->Heap->Prop}{u:World->Heap->Prop}{d:DefRec}
  (H:l.most=some n) (m:d.params.defaults=[])
  (call:∀(w:World) (s₀ s₁:Shared) (mg t:Str->Option Value) (g:Addr) (o:Obj) (pm cd c:Value) (a:Addr) (vs:List Value) (ns:List Int),
   Ground q b [] XP w s₀ mg t s₁.heap->u w s₁.heap ->
   s₁.heap.get? g=some o->o.data=.func (docDef d.name d.params d.body d.scope pm cd c)->s₁.heap.CodeRec cd d.name->mg d.name=some (.ref g) ->
   s₁.heap.get? a=some {cls:=.type "list",data:=.seq vs.toArray}->IntsAre vs ns->ns.length<=n->s₁.gens=#[] ->
   codeAny (model l.prog w) callerA (.call (.ref g) ⟨[.ref a],[]⟩) (λr s'=>r=.ok (.ret (.bool true))/\OldK s₁.heap s'.heap/\s'.os=s₁.os/\AllBare s'.gens) s₁) :
  WalkO q b XP u l.row.toRowW d [] (λf vs=>PySem.call f vs):=by
 intro w s₀ s₁ mg t G Y g o pm cd c A kV I hd k x p D v z L j y K s E;obtain rfl:A=.none:=Dflts.none x m;obtain rfl:kV=.none:=Dflts.noKw x;obtain⟨a,vs,ns,rfl,rfl,i,e,h⟩:=a9f H j s;refine enter_call (dt (call w s₀ s₁ mg t g o pm cd c a vs ns G Y I (fd_plain hd) k p i e h D) λr s' J=>?_);obtain⟨rfl,h2,B,C⟩:=J;exact⟨.inl ⟨.bool true,.bool true,[],rfl,λ_=>rfl,.bool true,a9r l _,λ_=>⟨List.Pairwise.nil,λ_ F=>(nomatch F)⟩⟩,h2,B,C⟩
section
variable {prog:Program}{w:World}{A:Around}{E:Value->Shared->Prop}{s:Shared}{K:Frag}
end
end Att
namespace L2
open PySem PySem.Spec PyProof.Rows
theorem a3y:∀{vs:List Value}{ns:List Int},IntsAre vs ns->Vals (ns.map V.int) vs
 |_,_,.nil=>.nil
 |_,_,.cons n t h=>.cons ⟨t,rfl⟩ (a3y h)
def b7o(H:Hp):Prop:=∀b,H b=none∨∃o xs,H b=some (.frz o (.lst xs))
theorem b1W{P:Program}{w:World}{K:PySem.W.Frag}{mg O:Str->Option Value}{CX:CXT}{k:Nat}{I a:Addr}{fd:FuncData}{x:Str}{sp:Sp}{s₁:Shared}{vs:List Value}{ns:List Int}
  (R:K.In s₁.heap) (y:s₁.heap.Ns mainGlobals mg) (f:s₁.heap.Ns builtinsNs O) (L:∀x:Str,x≠"__name__"->O x=bootBuiltins x) (t:s₁.heap.NoLimit) (hg:s₁.gens=#[])
  (E:s₁.heap.get? a=some {cls:=.type "list",data:=.seq vs.toArray}) (hi:IntsAre vs ns) (W:ns.length<=sizeLine) (hr:Room k callerA)
  (F:∀base:Heap,K.In base->base.Ns mainGlobals mg->FnOk P w K mg base CX k I fd [x] sp) (j:∀(s:Shared) (u:Value),BindsTo s fd ⟨[u],[]⟩ [(x,u)])
  (N:∀H:Hp,b7o H->SqL K H a (ns.map V.int)->sp [.ref a] H (λv _=>v=.bl true) λ_ _ _=>False)
  (J:∀H e s',CX [] H s₁ (λ_ _ _=>False) e s'->False) :
  codeAny (model P w) callerA (.call (.ref I) ⟨[.ref a],[]⟩) (λr s'=>r=.ok (.ret (.bool true))/\OldK s₁.heap s'.heap/\s'.os=s₁.os/\AllBare s'.gens) s₁:=by
 have X:=a3y hi;have C:=hi.length;have i:∀H:Hp,b7o H->SqL K H a (ns.map V.int)->HOk P w H s₁.heap->(∀b,H b≠none->b=a)->(H a≠none->K.lookup a=none) ->
   codeAny (model P w) callerA (.call (.ref I) ⟨[.ref a],[]⟩) (λr s'=>r=.ok (.ret (.bool true))/\OldK s₁.heap s'.heap/\s'.os=s₁.os/\AllBare s'.gens) s₁:=by
  intro H U hS A T hK;have c:∀{b:Addr}{o:Obj},s₁.heap.get? b=some o->H b=none->(a5b s₁.heap H).get? b=some o:=λe n=>b2n e n;have Q:∀{b:Addr}{o:Obj}{es:Array DictEntry}{ep:Nat},s₁.heap.get? b=some o->o.data=.dict es ep->H b=none:=λ{b o es ep} e d=>by
   cases q:H b with
   |none=>rfl
   |some u =>
    have G:b=a:=T b (by rw[q];simp);subst G;rw[E]at e;cases e;have Y:Data.seq vs.toArray _=Data.dict es ep:=d;cases Y
  have g:∀{b:Addr}{m:Str->Option Value},s₁.heap.Ns b m->(a5b s₁.heap H).Ns b m:=λ{b m} ⟨o,es,ep,e,d,r⟩=>⟨o,es,ep,c e (Q e d),d,r⟩;have p:K.In (a5b s₁.heap H):=λb o e=>c (R b o e) (by
   cases q:H b with
   |none=>rfl
   |some u =>
    have G:b=a:=T b (by rw[q];simp);subst G;rw[hK (by rw[q];simp)]at e;cases e)
  have hM:Mod K mg (a5b s₁.heap H):=⟨p,g y,⟨O,g f,L⟩,let ⟨mc,h1,h2⟩:=t;⟨mc,g h1,h2⟩⟩;have Z:Env0 P w K mg (a5b s₁.heap H) callerA [] s₁ H:=⟨rfl,hM,λb o e=>b4h e,Nat.le_of_eq (a9M _ _),trivial,λb f=>absurd (show b∈([]:List Addr)from f) (by simp),A,.of_eq hg⟩;refine dt ((F _ p (g y)).run callerA [] s₁ H ⟨[.ref a],[]⟩ [.ref a] [.ref a] _ _ hr Z (j s₁ (.ref a)) (.cons rfl .nil) (N H U hS)) λr s' h=>?_;cases r with
  |error e=>exact(J H e s' h).elim
  |ok fl =>
   cases fl with
   |next=>exact False.elim h
   |brk=>exact False.elim h
   |cont=>exact False.elim h
   |ret u =>
    obtain⟨v,H',os,l,un,B,r',q⟩:=h;have q':v=.bl true:=q;subst q';obtain rfl:u=Value.bool true:=r';refine⟨rfl,OldK.of_keep λb o e=>?_,os,l⟩;cases q:H b with
    |none=>exact un.keep b o e q (by intro z;exact absurd (show b∈([]:List Addr)from z) (by simp)) (by simp)
    |some u =>
     rcases U b with z|⟨ob,xs,z⟩
     .rw[q]at z;cases z
     .have z2:=un.frzs b ob _ z;obtain⟨S,_⟩:=A b _ z;obtain⟨e2,_⟩:=B b _ z2;rw[e]at S;cases S;exact e2
 cases M:K.lookup a with
 |some o =>
  have e:=R a o M;rw[E]at e;cases e;refine i (λ_=>none) (λ_=>.inl rfl) (.inr ⟨_,vs.toArray,_,M,rfl,rfl,rfl,by rw[aA,C];exact W,by simpa using X⟩) (λb u z=>by have D:(none:Option HO)=some u:=z;cases D) (λb z=>absurd rfl z) λz=>absurd rfl z
 |none =>
  refine i (λb=>if b=a then some (.frz {cls:=.type "list",data:=.seq vs.toArray} (.lst (ns.map V.int)))else none) (λb=>?_) (.inl (.inr ⟨{cls:=.type "list",data:=.seq vs.toArray},ay rfl⟩)) (λb u z=>?_) (λb z=>?_) λ_=>M
  .by_cases f:b=a
   .exact .inr ⟨_,_,ay f⟩
   .exact .inl (ao f)
  .by_cases f:b=a
   .have D:=(ay f).symm.trans z;cases D;subst f;exact⟨E,by rw[ai];exact W,vs,_,X,E⟩
   .have D:=(ao f).symm.trans z;cases D
  .by_cases f:b=a
   .exact f
   .exact absurd (ao f) z
theorem walk_of{l:PySem.W.OpenLaw}{n k:Nat}{q:Program}{g:List Str}{XP:(Str->Option Value)->Heap->Prop}{A:World->Heap->Prop}{d:DefRec}{K:Params->PySem.W.Frag}{CX:World->CXT}{sp:World->Sp}{x:Str}
  (N:l.most=some n) (t:n<=sizeLine) (p:d.params.defaults=[]) (O:Room k callerA)
  (I:∀(w:World) (h:Heap),A w h->(K w.params).In h)
  (F:∀(w:World) (mg:Str->Option Value) (j:Addr) (h:Heap),(K w.params).In h->h.Ns mainGlobals mg->mg d.name=some (.ref j) ->
   ∃fd:FuncData,(∀(s:Shared) (u:Value),BindsTo s fd ⟨[u],[]⟩ [(x,u)]) /\
    ∀base:Heap,(K w.params).In base->base.Ns mainGlobals mg->FnOk l.prog w (K w.params) mg base (CX w) k j fd [x] (sp w))
  (y:∀(w:World) (H:Hp) (a:Addr) (ns:List Int),ns.length<=n->b7o H->SqL (K w.params) H a (ns.map V.int)->sp w [.ref a] H (λv _=>v=.bl true) λ_ _ _=>False)
  (m:∀(w:World) (H:Hp) (s:Shared) (e:Value) (s':Shared),CX w [] H s (λ_ _ _=>False) e s'->False) :
  PySem.W.WalkO q g XP A l.row.toRowW d [] (λf vs=>PySem.call f vs):=by
 refine Att.attach_call N p λw s₀ s₁ mg Q j o pm cd B a vs ns G Y P hd L r i c b M=>?_;have z:=I w _ Y;obtain⟨fd,J,C⟩:=F w mg j _ z G.T.g r;exact b1W z G.T.g G.T.b G.T.builtins G.T.nolimit M i c (bb b t) O C J (λH D E=>y w H a ns b D E) λH e s'=>m w H s₁ e s'
end L2
namespace L2
open PySem PySem.Spec PyProof.Rows
noncomputable def T5(s:Stmt)(j:Nat):Stmt:=match s with
 |.ClassDef _ _ _ body _ _ _ _ _ _ _=>body.getD j (.Pass ⟨0,0,0,0⟩)
 |_=>.Pass ⟨0,0,0,0⟩
noncomputable def O8(s:Stmt):Arguments:=match s with
 |.FunctionDef _ a _ _ _ _ _ _ _ _=>a
 |_=>{posonlyargs:=[],args:=[],vararg:=none,kwonlyargs:=[],kw_defaults:=[],kwarg:=none,defaults:=[]}
noncomputable def E2(s:Stmt):List Stmt:=match s with
 |.FunctionDef _ _ b _ _ _ _ _ _ _=>b
 |_=>[]
noncomputable def A3(s:Stmt):Scope:=match s with
 |.FunctionDef _ _ _ _ _ _ sc _ _ _=>sc
 |_=>{kind:=.function,names:=[],isGenerator:=false,isCoroutine:=false}
abbrev CX0:CXT:=λ_ _ _ _ _ _=>False
abbrev E0:XK:=λ_ _ _=>False
theorem a8n{X:Cx}:a0j CX0 X E0:=λ_ _ _ _ _ _ _ h=>h.elim
structure Fun(K:PySem.W.Frag)(x qual:Str)(st:Stmt)(f:Addr)(fd:FuncData):Prop where
 ex:∃(oc:Value) (od:Option Addr) (kV doc pm:Value) (an:Option Addr) (cdv ct:Value) (osl:Array (Option Value)),
  fd=PySem.W.fnOf x qual (O8 st) (E2 st) (A3 st) .none kV doc pm an cdv ct/\K.lookup f=some ⟨oc,od,.func fd,osl⟩/\PySem.W.codeIn K cdv qual=true
 kp:PySem.W.keepIn K (.ref f)=true
section
variable {P:Program}{w:World}{K:PySem.W.Frag}{mg:Str->Option Value}{base:Heap}
theorem Fun.ok{x qual:Str}{st:Stmt}{f:Addr}{fd:FuncData}{N ps:List Str}{k:Nat}{sp:Sp}(F:Fun K x qual st f fd)(S:FnScope N ps (A3 st))(e:∀vs H Q E,sp vs H Q E->vs.length=ps.length)
  (b:∀(a:Value) (A:Around) (outer:List Env) (s:Shared) (H:Hp) (vs:List V) (Q:VK) (E:XK),Room k (A.deeper (envOfC qual (A3 st) s.heap.objs.size f a))->sp vs H Q E ->
   ∃t,PSs (V1 CX0 P w K mg base N qual (A3 st) f a A outer s H E).nox (E2 st) t/\t {nx:=λ_ H'=>Q .non H',rt:=Q} (start N vs) H):FnOk P w K mg base CX0 (k+1) f fd ps sp:=by
 obtain⟨oc,od,kV,g,pm,an,a,ct,l,rfl,j,c⟩:=F.ex;refine b5t j c S e λA outer s H vs Q E i d=>?_;obtain⟨t,h,q⟩:=b a A outer s H vs Q E i d;exact⟨t,h.nox,q⟩
theorem Fun.binds{x qual:Str}{st:Stmt}{f:Addr}{fd:FuncData}{ps:List Str}(F:Fun K x qual st f fd)
  (h:∀(kV b pm:Value) (an:Option Addr) (a ct:Value) (us:List Value),us.length=ps.length->bindArgs (PySem.W.fnOf x qual (O8 st) (E2 st) (A3 st) .none kV b pm an a ct) ⟨us,[]⟩=pure (ps.zip us)):Binds K fd ps []:=by
 obtain⟨oc,od,kV,b,pm,an,a,ct,d,rfl,e,c⟩:=F.ex;exact .all (h kV b pm an a ct)
theorem a2X{x qual:Str}{st:Stmt}{f:Addr}{oc:Value}{od an:Option Addr}{d:Array (Option Value)}{kV b pm a ct:Value}(l:K.lookup f=some ⟨oc,od,.func (PySem.W.fnOf x qual (O8 st) (E2 st) (A3 st) .none kV b pm an a ct),d⟩)
  (c:PySem.W.codeIn K a qual=true) (k:PySem.W.keepIn K (.ref f)=true):Fun K x qual st f (PySem.W.fnOf x qual (O8 st) (E2 st) (A3 st) .none kV b pm an a ct):=⟨⟨oc,od,kV,b,pm,an,a,ct,d,rfl,l,c⟩,k⟩
end
section
variable {X:Cx}
theorem pv(i:Nat){x:Str}{pos:Pos}(b:X.N[i]?=some x:=by rfl)(c:Vis X.env.scope x:=by first|exact Or.inl rfl|exact Or.inr (Or.inl rfl)|exact Or.inr (Or.inr rfl))(hd:(x==("__debug__" : Str))=false:=by decide)
  (a:(x==("__classdict__" : Str))=false:=by decide):PE X (.Name x pos) (P0 i):=b1y b c hd a
end
theorem C6{A B:Prop}(h:B):if false=true then A else B:=by
 rw[ao a_];exact h
theorem E3{A B:Prop}(h:A):if true=true then A else B:=by
 rw[ay rfl];exact h
theorem a5a{c A B:Prop}[Decidable c](h1:c->A)(h2:¬c->B):if c then A else B:=by
 by_cases h:c
 .rw[ay h];exact h1 h
 .rw[ao h];exact h2 h
def Same(H H':Hp):Prop:=∀b o,H b=some o->H' b=some o
theorem Same.refl(H:Hp):Same H H:=λ_ _ h=>h
theorem Same.trans{H H1 H2:Hp}(a:Same H H1)(b:Same H1 H2):Same H H2:=λc o h=>b c o (a c o h)
theorem Same.free{H H':Hp}(e:Same H H'){l:Addr}(h:H' l=Option.none):H l=Option.none:=by
 cases q:H l with
 |none=>rfl
 |some o =>
  rw[e l o q]at h;cases h
theorem Same.seq{K:PySem.W.Frag}{H H':Hp}{a:Addr}{xs:List V}(e:Same H H')(h:SqL K H a xs):SqL K H' a xs:=by
 rcases h with(h|⟨o,h⟩)|h
 .exact .inl (.inl (e _ _ h))
 .exact .inl (.inr ⟨o,e _ _ h⟩)
 .exact .inr h
noncomputable def G2(env:Env)(cs:List (Str×Addr))(x:Str×NameKind):List (Str×Addr) :=
 if x.2==.free then(match env.cells.lookup x.1 with|some a=>(x.1,a)::cs|none=>cs)else cs
noncomputable def a1J(scope:Scope)(env:Env):List (Str×Addr):=scope.names.foldl (G2 env) []
theorem a3f{env:Env}(f:Str×NameKind->List (Str×Addr)->Sem (ForInStep (List (Str×Addr))))
  (c:∀n k r,f (n,k) r=if (k==NameKind.free)=true then(do let a <-cellOf env n;pure (ForInStep.yield ((n,a)::r)))else pure (ForInStep.yield r)) :
  ∀(names:List (Str×NameKind)) (cs:List (Str×Addr)),(∀x∈names,x.2=.free->∃a,env.cells.lookup x.1=some a)->forIn names cs f=pure (names.foldl (G2 env) cs)
 |[],cs,_=>rfl
 |(n,k)::r,cs,h=>by
  rw[List.forIn_cons,c_,c];have g:=λy j=>h y (av _ j);by_cases e:k=.free
  .subst e;obtain⟨a,d⟩:=h (n,NameKind.free) ar rfl;have i:cellOf env n=pure a:=by unfold cellOf;rw[d]
   have b:G2 env cs (n,NameKind.free)=(n,a)::cs:=by unfold G2;rw[d];rfl
   rw[b,<-a3f f c r _ g,i];rfl
  .have hb:(k==NameKind.free)=false:=by simpa using e
   have b:G2 env cs (n,k)=cs:=by unfold G2;rw[hb];rfl
   rw[b,<-a3f f c r _ g,hb];rfl
theorem b2C{scope:Scope}{env:Env}(h:∀x∈scope.names,x.2=.free->∃a,env.cells.lookup x.1=some a):closureFor scope env=pure (a1J scope env):=by
 simp only[closureFor];rw[a3f (env:=env) _ (λn k r=>by cases b:k==NameKind.free<;>simp[b]) scope.names [] h];rfl
theorem a4d{env:Env}{x:Str}{c:Addr}:∀(names:List (Str×NameKind)) (cs:List (Str×Addr)),(names.foldl (G2 env) cs).lookup x=some c->env.cells.lookup x=some c∨cs.lookup x=some c
 |[],cs,h=>.inr h
 |y::r,cs,h=>by
  rw[c_]at h;rcases a4d r _ h with z|z
  .exact .inl z
  .unfold G2 at z;split at z
   .split at z
    .rename_i a ha;rw[bW]at z;cases b:x==y.1 with
     |true =>
      rw[b]at z;rw[bh.mp b];exact .inl (ha.trans z)
     |false =>
      rw[b]at z;exact .inr z
    .exact .inr z
   .exact .inr z
theorem Z4{scope:Scope}{env:Env}{x:Str}{c:Addr}(h:(a1J scope env).lookup x=some c):env.cells.lookup x=some c :=
 (a4d scope.names [] h).elim id λz=>by cases z
theorem a0h{env:Env}{x:Str}{a:Addr}(d:env.cells.lookup x=some a):∀(names:List (Str×NameKind)) (cs:List (Str×Addr)),((x,NameKind.free)∈names∨cs.lookup x=some a)->(∀c,cs.lookup x=some c->c=a)->(names.foldl (G2 env) cs).lookup x=some a
 |[],cs,h,_=>h.elim (λz=>by cases z) id
 |y::r,cs,h,i=>by
  rw[c_];by_cases b:y.2=.free/\y.1=x
  .have e2:G2 env cs y=(x,a)::cs:=by unfold G2;rw[b.2,d,b.1];rfl
   rw[e2];have f:((x,a)::cs).lookup x=some a:=by rw[bW];simp
   exact a0h d r _ (.inr f) λc z=>by rw[f]at z;exact(bx z).symm
  .have same:(G2 env cs y).lookup x=cs.lookup x:=by
    unfold G2;split
    .rename_i hk;split
     .have hne:(x==y.1)=false:=by
       cases g:x==y.1 with
       |false=>rfl
       |true=>exact absurd ⟨by simpa using hk,(bh.mp g).symm⟩ b
      rw[bW,hne]
     .rfl
    .rfl
   refine a0h d r _ ?_ (by rw[same];exact i);rw[same];rcases h with z|z
   .rcases aE.mp z with e|z
    .exact absurd ⟨by rw[<-e],by rw[<-e]⟩ b
    .exact .inl z
   .exact .inr z
theorem a6v{scope:Scope}{env:Env}{x:Str}{a:Addr}(b:env.cells.lookup x=some a)(d:(x,NameKind.free)∈scope.names):(a1J scope env).lookup x=some a :=
 a0h b _ _ (.inl d) λc z=>by cases z
theorem R5{x:Str}{c:Addr}:∀(names:List (Str×NameKind)) (n:Nat) (a:List (Str×Addr)),(cellsFrom n names a).lookup x=some c->(n<=c/\(x,NameKind.cell)∈names)∨a.lookup x=some c
 |[],_,_,h=>.inr h
 |(y,k)::r,n,a,h=>by
  unfold cellsFrom at h;split at h
  .rename_i hk;have d:k=.cell:=by simpa using hk
   rcases R5 r _ _ h with⟨f,e⟩|z
   .exact .inl ⟨by omega,av _ e⟩
   .rw[bW]at z;cases b:x==y with
    |true =>
     rw[b]at z;cases z;exact .inl ⟨aj _,by rw[d,bh.mp b];exact ar⟩
    |false =>
     rw[b]at z;exact .inr z
  .rcases R5 r _ _ h with⟨f,e⟩|z
   .exact .inl ⟨f,av _ e⟩
   .exact .inr z
theorem a7x:∀(names:List (Str×NameKind)) (n:Nat) (a:List (Str×Addr)),(∀x c,a.lookup x=some c->c<n)->(∀x y c,a.lookup x=some c->a.lookup y=some c->x=y) ->
  ∀x y c,(cellsFrom n names a).lookup x=some c->(cellsFrom n names a).lookup y=some c->x=y
 |[],_,_,_,h2=>h2
 |(z,k)::r,n,a,h1,h2=>by
  unfold cellsFrom;split
  .have lk:∀x c,List.lookup x ((z,n)::a)=some c->(x=z/\c=n)∨a.lookup x=some c:=λx c e=>by
    rw[bW]at e;cases b:x==z with
    |true=>rw[b]at e;cases e;exact .inl ⟨bh.mp b,rfl⟩
    |false=>rw[b]at e;exact .inr e
   refine a7x r (n+1) _ (λx c e=>?_) λx y c e d=>?_
   .rcases lk x c e with⟨_,q⟩|q
    .rw[q];exact bU _
    .exact bY (h1 x c q)
   .rcases lk x c e with⟨q1,q2⟩|q<;>rcases lk y c d with⟨p1,p2⟩|p
    .rw[q1,p1]
    .exact absurd (h1 y c p) (by rw[q2];exact bQ _)
    .exact absurd (h1 x c q) (by rw[p2];exact bQ _)
    .exact h2 x y c q p
  .exact a7x r n a h1 h2
theorem a5e{x:Str}:∀(names:List (Str×NameKind)) (n:Nat) (a:List (Str×Addr)),((x,NameKind.cell)∈names∨∃c,a.lookup x=some c)->∃c,(cellsFrom n names a).lookup x=some c
 |[],_,_,h=>h.elim (λz=>by cases z) id
 |(y,k)::r,n,a,h=>by
  unfold cellsFrom;split
  .rename_i hk;refine a5e r _ _ ?_;by_cases b:x=y
   .exact .inr ⟨n,by rw[bW,b];simp⟩
   .have hb:(x==y)=false:=cJ.mpr b;rcases h with z|⟨c,z⟩
    .rcases aE.mp z with e|z
     .exact absurd (Prod.mk.inj e).1 b
     .exact .inl z
    .exact .inr ⟨c,by rw[bW,hb];exact z⟩
  .rename_i hk;refine a5e r _ _ ?_;rcases h with z|z
   .rcases aE.mp z with e|z
    .exact absurd (by rw[<-(Prod.mk.inj e).2];rfl) hk
    .exact .inl z
   .exact .inr z
theorem a4H{x:Str}{c:Addr}:∀(names:List (Str×NameKind)) (h:Heap) (a:List (Str×Addr)),(∀x c,a.lookup x=some c->∃v,h.IsCell c v)->(cellsFrom h.objs.size names a).lookup x=some c->∃v,(pushCells h names).IsCell c v
 |[],h,a,f,e=>f x c e
 |(y,k)::r,h,a,f,e=>by
  unfold cellsFrom at e;unfold pushCells;split at e
  .rename_i hk;rw[ay hk];rw[show h.objs.size+1=(h.push {cls:=.type "cell",data:=.cell none}).objs.size from(bt ..).symm]at e;refine a4H r _ _ (λi j d=>?_) e;rw[bW]at d;cases g:i==y with
   |true=>rw[g]at d;cases d;exact⟨_,_,aG _ rfl,rfl⟩
   |false =>
    rw[g]at d;obtain⟨v,z⟩:=f i j d;exact⟨v,z.keeps λb o q=>ae _ q⟩
  .rename_i hk;rw[ao hk];exact a4H r _ _ f e
section
variable {M:Model}{A:Around}{E:Value->Shared->Prop}{s:Shared}
theorem a6z{scope:Scope}{b:Addr}{a:List (Str×Addr)}{qual:Str}{outer:Env}{Q:Env->Shared->Prop}
  (f:Q (newEnv scope s.heap.objs.size b (cellsFrom (s.heap.objs.size+1) scope.names a) qual none .none (some outer) builtinsNs) {s with heap:=pushCells (s.heap.push {cls:=.type "dict",data:=.dict #[]}) scope.names}) :
  wpAny M A (newFunctionEnv scope b a [] qual none .none (some outer)) Q E s:=by
 simp only[newFunctionEnv,Option.isSome_some,fj];refine aa (wpAny_alloc ?_);refine aa (wpAny_layCells _ (λname c d=>by cases e:c==NameKind.cell<;>simp[e]) _ _ _ _ ?_);rw[show({s with heap:=s.heap.push {cls:=.type "dict",data:=.dict #[]}}:Shared).heap.objs.size=s.heap.objs.size+1 from bt ..];exact aa (ag (ag f))
end
section
variable {prog:Program}{w:World}{A:Around}{s:Shared}
abbrev NoX:Value->Shared->Prop:=λ_ _=>False
theorem toE{α:Type}{M:Model}{A:Around}{t:Sem α}{Q b:α->Shared->Prop}{E:Value->Shared->Prop}{s:Shared}(h:wpAny M A t Q NoX s)(c:∀a s,Q a s->b a s):wpAny M A t b E s :=
 dn h c λ_ _ z=>z.elim
theorem a5d{e a b:Expr}{f:List Expr}{scope:Scope}{pos:Pos}{it d:Value}{env:Env}{R:Result->Shared->Prop}(I:Nat->Shared->Prop)
  (g:∀n s,I n s->wpAny (model prog w) A (pyNext it) (λr s₁=>match r with
   |none=>R (.ok .next) s₁
   |some v=>wpAny (model prog w) A (letOwnedTupleGo a it v) (λ_ s₂=>wpAny (model prog w) A (assign a env v) (λ_ s₃ =>
     wpAny (model prog w) A (forIn f true λc r=>if r=true then do let ok <-isTrue c env (eval c env);pure (ForInStep.yield ok)else pure (ForInStep.yield r)) (λok s₄ =>
      if ok=true then wpAny (model prog w) A (eval e env) (λx s₅=>wpAny (model prog w) A (call (.builtin "list.append") [d,x]) (λ_ s₆=>∃m,m<n/\I m s₆) NoX s₅) NoX s₄
      else ∃m,m<n/\I m s₄) NoX s₃) NoX s₂) NoX s₁) NoX s)
  (n:Nat) (h:I n s):codeAny (model prog w) A (.compLoop (.ListComp e [⟨a,b,f,0⟩] scope pos) 0 it d env) R s:=by
 refine codeAny_loop rfl I (λn s i=>?_) n h;show wpAny _ A ((compTurn (.ListComp e [⟨a,b,f,0⟩] scope pos) 0 it d env).onRaise (λx=>do noteFrame x env;theTreesLotGoes x)) _ _ s;refine wpAny_noted ?_;rw[compTurn_list];refine aa (wpAny_standAt (aa (toE (g n s i) λr s₁ h₁=>?_)));cases r with
 |none=>exact ag h₁
 |some v =>
  refine aa (toE h₁ λ_ s₂ h₂=>aa (toE h₂ λ_ s₃ h₃=>aa (toE h₃ λok s₄ h₄=>?_)));cases ok with
  |false=>exact ag ⟨rfl,h₄⟩
  |true=>exact aa (aa (toE h₄ λx s₅ h₅=>aa (toE h₅ λ_ s₆ h₆=>ag (ag ⟨rfl,h₆⟩))))
end
noncomputable def Cx.blk(X:Cx)(N:List Str)(scope:Scope)(cells:List (Str×Addr))(C:Addr)(s:Shared)(H:Hp)(ex:List Addr):Cx :=
 {X with N:=N,s₀:=s,H₀:=H,env:=compEnvC scope cells C X.env,outer:=X.stack,stack:=X.stack,ex:=ex,fn:=λx=>scope.names.any λy=>y.1==x && y.2==.cell,pn:=[],xe:=NoX}
noncomputable def B1(src:List (Option Nat))(σ:St):St:=src.map λo=>o.bind λj=>(σ[j]?).join
noncomputable def B6(sc out:Scope):Bool:=sc.names.all λx=>x.2 != .free || (out.names.lookup x.1==some .cell || out.names.lookup x.1==some .free)
noncomputable def L3:List Str->List (Option Nat)->List Str->Scope->Bool
 |[],[],_,_=>true
 |x::N,o::src,M,sc=>(match o with|none=>true|some j=>M[j]? == some x && sc.names.lookup x==some .free) && L3 N src M sc
 |_,_,_,_=>false
noncomputable def a4D(sc:Scope):Bool:=sc.kind==.function && sc.names.all λx=>sc.names.lookup x.1==some x.2
theorem a4e:∀{N:List Str}{src:List (Option Nat)}{M:List Str}{a:Scope},L3 N src M a=true->src.length=N.length
 |[],[],_,_,_=>rfl
 |_::N,_::src,M,a,h=>by
  unfold L3 at h;rw[aL]at h;rw[aT,aT,a4e h.2]
 |[],_::_,_,_,h=>by simp[L3]at h
 |_::_,[],_,_,h=>by simp[L3]at h
theorem a4f:∀{N:List Str}{src:List (Option Nat)}{M:List Str}{a:Scope}{i:Nat}{x:Str}{j:Nat},L3 N src M a=true->N[i]?=some x->src[i]?=some (some j)->M[j]?=some x/\a.names.lookup x=some .free
 |[],[],_,_,_,_,_,_,h,_=>by simp at h
 |y::N,o::src,M,a,0,x,j,h,h1,h2=>by
  unfold L3 at h;rw[aL]at h;simp at h1 h2;subst h1 h2;have q:=h.1;rw[aL]at q;exact⟨bh.mp q.1,bh.mp q.2⟩
 |y::N,o::src,M,a,i+1,x,j,h,h1,h2=>by
  unfold L3 at h;rw[aL]at h;exact a4f h.2 (by simpa using h1) (by simpa using h2)
 |[],_::_,_,_,_,_,_,h,_,_=>by simp[L3]at h
 |_::_,[],_,_,_,_,_,h,_,_=>by simp[L3]at h
theorem b0k{src:List (Option Nat)}{σ:St}{i:Nat}{v:V}(h:(B1 src σ)[i]?=some (some v)):∃j,src[i]?=some (some j)/\σ[j]?=some (some v):=by
 unfold B1 at h;rw[aP]at h;cases e:src[i]? with
 |none=>rw[e]at h;cases h
 |some o =>
  rw[e]at h;cases o with
  |none=>cases h
  |some j =>
   refine⟨j,rfl,?_⟩;have h':(σ[j]?).join=some v:=bx h;cases q:σ[j]? with
   |none=>rw[q]at h';cases h'
   |some z=>rw[q]at h';rw[show z=some v from h']
theorem V8{env:Env}:∀{names:List (Str×NameKind)}{x:Str}{k:NameKind},
  (names.map λ(n,k)=>if (k==NameKind.free && env.scope.kind==.function && env.kindOf n==some .cell)then(n,NameKind.cell)else(n,k)).lookup x=some k ->
  ∃b,names.lookup x=some b/\(k=b∨(b=.free/\k=.cell))
 |[],_,_,h=>by cases h
 |(n,k0)::r,x,k,h=>by
  rw[aU,bW]at h;rw[bW];dsimp only at h;split at h
  .rename_i h0;have a:x==n:=by
    split at h0<;>exact h0
   rw[a];refine⟨k0,rfl,?_⟩;split at h
   .rename_i hc;cases h;simp only[aL]at hc;exact .inr ⟨by simpa using hc.1.1,rfl⟩
   .cases h;exact .inl rfl
  .rename_i h0;have a:(x==n)=false:=by
    split at h0<;>exact h0
   rw[a];exact V8 h
theorem I9{env:Env}:∀{names:List (Str×NameKind)}{x:Str}{c:NameKind},names.lookup x=some c ->
  ∃k,(names.map λ(n,k)=>if (k==NameKind.free && env.scope.kind==.function && env.kindOf n==some .cell)then(n,NameKind.cell)else(n,k)).lookup x=some k/\(k=c∨(c=.free/\k=.cell))
 |[],_,_,h=>by cases h
 |(n,k0)::r,x,c,h=>by
  rw[bW]at h;rw[aU];by_cases b:(k0==NameKind.free && env.scope.kind==.function && env.kindOf n==some .cell)=true
  .simp only[b,fj];rw[bW];cases a:x==n with
   |true =>
    rw[a]at h;cases h;simp only[aL]at b;exact⟨_,rfl,.inr ⟨by simpa using b.1.1,rfl⟩⟩
   |false=>rw[a]at h;exact I9 h
  .simp only[ao b];rw[bW];cases a:x==n with
   |true=>rw[a]at h;cases h;exact⟨_,rfl,.inl rfl⟩
   |false=>rw[a]at h;exact I9 h
def PIf(X:Cx)(ifs:List Expr)(t:TT):Prop :=
 ∀(pins:List (Addr×Obj)) (s:Shared) (σ:St) (H:Hp) (Q:Bool->Hp->Prop),Inv X pins σ H s->t σ H Q ->
  wpAny (model X.prog X.w) X.A (forIn ifs true λc r=>if r=true then do let ok <-isTrue c X.env (eval c X.env);pure (ForInStep.yield ok)else pure (ForInStep.yield r)) (TP X pins σ Q) X.xe s
def J3:TT:=λ_ H Q=>Q true H
theorem b3I{X:Cx}:PIf X [] J3:=λpins s σ H Q I h=>wpAny_tests_nil ⟨H,I,h⟩
theorem b3H{X:Cx}{c:Expr}{t:TT}(h:PT X c t):PIf X [c] t:=λpins s σ H Q I q=>wpAny_tests_one (h pins s σ H Q I q)
def Sub(σ σ':St):Prop:=σ.length=σ'.length/\∀(i:Nat) (v:V),σ[i]?=some (some v)->σ'[i]?=some (some v)
def E6(src:List (Option Nat))(g:TG)(tt:TT)(te:TE)(σ:St)(Q:VK)(J:It)(H1:Hp):Prop :=
 ∃W:Nat->Nat->List V->Hp->Prop,(∃m,W 0 m [] H1)/\∀i m ys H,W i m ys H ->
  (J.stop i H/\ys.length<=sizeLine/\∀p,H p=none->Q (.ref p) (upd H p (.lst ys))) ∨
  (J.go i H/\ys.length<sizeLine/\∃N:List V->Hp->Prop,(∀zs H',N zs H'->∃m',m'<m/\W (i+1) m' zs H')/\∀x H',J.yld i H x H'->g x (B1 src σ) H' λσ2 H2=>Sub (B1 src σ) σ2/\tt σ2 H2 λb H3 =>
   if b=true then te σ2 H3 λv H4=>N (ys++[v]) H4 else N ys H3)
def a5v(src:List (Option Nat))(wi:TI)(g:TG)(tt:TT)(te:TE):TE:=λσ H Q=>wi σ H (E6 src g tt te σ Q)
section
variable {X:Cx}{pins:List (Addr×Obj)}{σ:St}{H:Hp}{s:Shared}
theorem Inv.block{N:List Str}{src:List (Option Nat)}{scope:Scope}{fp:List Addr}(I:Inv X pins σ H s)(P:∀b∈fp,a1j X pins H b)(Z:∀b∈fp,∃o,s.heap.get? b=some o)
  (J:B6 scope X.env.scope=true) (D:L3 N src X.N scope=true) (C:a4D scope=true) {lo:Obj} :
  Inv (X.blk N scope (cellsFrom (s.heap.objs.size+2) scope.names (a1J scope X.env)) (s.heap.objs.size+1) s H fp) [] (B1 src σ) H
   {s with heap:=pushCells ((s.heap.push lo).push {cls:=.type "dict",data:=.dict #[]}) scope.names}:=by
 unfold a4D at C;rw[aL]at C;have E:scope.kind=.function:=by simpa using C.1
 have F:∀x∈scope.names,scope.names.lookup x.1=some x.2:=λx A=>by simpa using aR.mp C.2 x A
 have t:∀x∈scope.names,x.2=.free->X.env.kindOf x.1=some .cell∨X.env.kindOf x.1=some .free:=λx A f=>by
  have q:=aR.mp J x A;rw[f]at q;have V:(X.env.scope.names.lookup x.1==some .cell || X.env.scope.names.lookup x.1==some .free)=true:=by simpa using q
  rw[Bool.or_eq_true]at V;exact V.imp (λz=>bh.mp z) λz=>bh.mp z
 have keep:∀b o,s.heap.get? b=some o->(pushCells ((s.heap.push lo).push {cls:=.type "dict",data:=.dict #[]}) scope.names).get? b=some o:=λb o e =>
  fT _ _ _ _ (ae _ (ae _ e))
 have R:∀x c,(a1J scope X.env).lookup x=some c->c<s.heap.objs.size:=λx c e=>by
  obtain⟨v,z⟩:=I.cell x c (Z4 e);exact z.lt
 have d:∀x c,(cellsFrom (s.heap.objs.size+2) scope.names (a1J scope X.env)).lookup x=some c->(s.heap.objs.size+2<=c/\(x,NameKind.cell)∈scope.names)∨X.env.cells.lookup x=some c:=λx c e =>
  (R5 _ _ _ e).imp id Z4
 have K:∀x k,(compEnvC scope (cellsFrom (s.heap.objs.size+2) scope.names (a1J scope X.env)) (s.heap.objs.size+1) X.env).kindOf x=some k->∃g,scope.names.lookup x=some g/\(k=g∨(g=.free/\k=.cell)):=λx k e =>
  V8 (env:=X.env) e
 have mem:∀{x k},scope.names.lookup x=some k->(x,k)∈scope.names:=λe=>mem_of_lookup e;refine⟨⟨I.ok.mod,?_,I.ok.glob,I.ok.blt,?_,?_,?_,?_,I.ok.hd,I.ok.frames,.inl rfl,?_,I.bs,bb I.ok.bsz I.sz,?_,?_,I.stack,I.stkFree⟩,rfl,I.bare,Un.kept keep,?_,?_,?_,?_,?_,I.hok.kept keep,?_⟩
 .exact E
 .exact eh _
 .-- inj
  refine a7x _ _ _ (λx c e=>?_) λx y c e S=>I.ok.inj x y c (Z4 e) (Z4 S);exact aK (R x c e) (cf _ 2)
 .-- has
  intro x A;refine a5e _ _ _ ?_;have f:∃g,scope.names.lookup x=some g/\(g=.cell∨g=.free):=by
   rcases A with A|A
   .obtain⟨g,e,z⟩:=K x _ A;exact⟨g,e,z.elim (λz=>.inl z.symm) λz=>.inr z.1⟩
   .obtain⟨g,e,z⟩:=K x _ A;exact⟨g,e,z.elim (λz=>.inr z.symm) λz=>by cases z.2⟩
  obtain⟨g,e,rfl|rfl⟩:=f
  .exact .inl (mem e)
  .obtain⟨a,ha⟩:=I.ok.has x (t _ (mem e) rfl);exact .inr ⟨a,a6v ha (mem e)⟩
 .-- cab
  intro x c A e;rcases d x c e with z|z
  .exact bb (cf _ 2) z.1
  .-- x is the block's own cell, so it is not in the closure's part
   exfalso;obtain⟨y,hy,G⟩:=bE.mp A;rw[aL]at G;have T:y.1=x:=bh.mp G.1;have U:y.2=.cell:=by simpa using G.2
   have l1:scope.names.lookup x=some .cell:=by rw[<-T,<-U];exact F y hy
   rcases R5 _ _ _ e with q|q
   .obtain⟨v,z'⟩:=I.cell x c z;exact absurd (aK z'.lt (bb (cf _ 2) q.1)) (bQ _)
   .-- the closure holds free names alone
    have fr:∀(names:List (Str×NameKind)) (L:List (Str×Addr)),(names.foldl (G2 X.env) L).lookup x=some c->(x,NameKind.free)∈names∨L.lookup x=some c:=by
     intro names;induction names with
     |nil=>intro L h;exact .inr h
     |cons n r ih =>
      intro L h;rw[c_]at h;rcases ih _ h with w|w
      .exact .inl (av _ w)
      .unfold G2 at w;split at w
       .rename_i f;split at w
        .rw[bW]at w;cases B:x==n.1 with
         |true =>
          have:n=(x,NameKind.free):=Prod.ext (bh.mp B).symm (by simpa using f);exact .inl (by rw[this];exact ar)
         |false=>rw[B]at w;exact .inr w
        .exact .inr w
       .exact .inr w
    rcases fr _ _ q with w|w
    .have:=F _ w;rw[l1]at this;cases this
    .cases w
 .-- exf
  intro b B;obtain⟨o,e⟩:=Z b B;have lt:=aI e;refine⟨aM (bY lt),λx c O=>?_⟩;rcases d x c O with z|z
  .exact dr (aK lt (bb (cf _ 2) z.1))
  .exact(P b B).2.2.2.2.1 x c z
 .-- noex
  intro b o e B;rcases(P b B).2.2.2.1 with z|z
  .exact I.ok.noex b o e z
  .exact absurd (aK (aI (I.ok.bs b o e).1) z) (bQ _)
 .-- exfs
  intro b B z;rcases aE.mp (I.stkSub b z)with q|q
  .exact(P b B).2.1 q
  .exact(P b B).2.2.1 q
 .-- loc
  refine⟨λ_=>none,?_,λi x v T U e3=>?_⟩
  .have:=(Heap.Ns.new (s.heap.push lo) (.type "dict")).keeps (fT scope.names _);rw[bt]at this;exact this
  .obtain⟨j,e4,e5⟩:=b0k U;obtain⟨W,M⟩:=a4f D T e4;obtain⟨m,_,Y⟩:=I.loc;have f:=t _ (mem M) rfl;have hv:Vis X.env.scope x:=.inr (f.imp id id);obtain⟨u,r,l⟩:=Y j x v W e5 hv;refine⟨u,r,.inr ⟨?_,?_⟩⟩
   .obtain⟨k,q,z⟩:=I9 (env:=X.env) M;rcases z with z|z
    .exact .inr (by rw[<-z];exact q)
    .exact .inl (by rw[<-z.2];exact q)
   .rcases l with l|⟨_,c,O,z⟩
    .exfalso;rcases f with f|f<;>rw[l.1]at f<;>cases f
    .refine⟨c,?_,z.keeps keep⟩;have own:¬(x,NameKind.cell)∈scope.names:=λw=>by
      have:=F _ w;rw[M]at this;cases this
     obtain⟨Q,q⟩:=a5e (x:=x) scope.names (s.heap.objs.size+2) (a1J scope X.env) (.inr ⟨c,a6v O (mem M)⟩);rcases d x Q q with w|w
     .exact absurd w.2 own
     .rw[O]at w;cases w;exact q
 .-- cell
  intro x c e;have S:(cellsFrom ((s.heap.push lo).push {cls:=.type "dict",data:=.dict #[]}).objs.size scope.names (a1J scope X.env)).lookup x=some c:=by
   rw[bt,bt];exact e
  refine a4H _ _ _ (λx' Q q=>?_) S;obtain⟨v,z⟩:=I.cell x' Q (Z4 q);exact⟨v,z.keeps λb o q=>ae _ (ae _ q)⟩
 .exact I.hok.fresh (eh _)
 .intro x c e;rcases d x c e with z|z
  .exact I.hok.fresh (bb (cf _ 2) z.1)
  .exact I.freeC x c z
 .intro p hp;cases hp
 .show(B1 src σ).length=N.length;unfold B1;rw[ai];exact a4e D
theorem Inv.unblock{N:List Str}{scope:Scope}{d:List (Str×Addr)}{C a:Addr}{fp:List Addr}{pins':List (Addr×Obj)}{σ':St}{H':Hp}{s':Shared}{h':Heap}{ys:List V}{us:List Value}{n:Nat}
  (I:Inv X pins σ H s) (A:∀b∈fp,a1j X pins H b) (y:s.heap.objs.size<=C) (w:s.heap.objs.size<=a) (p:a≠C) (J:Inv (X.blk N scope d C s H fp) pins' σ' H' s')
  (x:H' a=none) (B:s'.heap.get? a=some {cls:=.type "list",data:=.seq us.toArray n}) (D:Vals ys us) (E:ys.length<=sizeLine) (m:Heap.SameBut C s'.heap h') :
  Inv X pins σ (upd H' a (.lst ys)) {s' with heap:=h'}:=by
 have base:Un (frs X.stack) fp H H' s.heap s'.heap:=J.base;have k:∀b o,b≠C->s'.heap.get? b=some o->h'.get? b=some o:=λb o q e=>m.extBut b o q e;have old:∀b o,s.heap.get? b=some o->b≠C/\b≠a:=λb o e=>by
  have:=aI e;exact⟨aM (aK this y),aM (aK this w)⟩
 have g:H' C=none:=J.free;have h:H a=none:=I.hok.fresh w;have j:HOk X.prog X.w H' s'.heap:=J.hok;have v:HOk X.prog X.w (upd H' a (.lst ys)) h':=by
  intro b o e;by_cases i:b=a
  .subst i;rw[A0]at e;cases e;exact⟨E,us,n,D,k _ _ p B⟩
  .rw[A1 i]at e;refine(j b o e).stay (λc u l q=>k c u ?_ q) (λc q=>?_) λc xs q=>?_
   .rintro rfl;rcases l with rfl|l
    .rw[g]at e;cases e
    .rw[g]at l;cases l
   .rw[A1 (by rintro rfl;rw[x]at q;cases q)];exact q
   .rw[A1 (by rintro rfl;rw[x]at q;cases q)];exact q
 have f:∀b u,H b=some u->b≠a:=λb u e=>by rintro rfl;rw[h]at e;cases e
 refine I.call' (s':={s' with heap:=h'}) (ch:=fp) (J.os) ⟨λb o e q r t=>?_,λb o e q r t=>?_,λb o e q t=>?_,λb o e t=>?_,λb xs e=>?_,λb o u e=>?_,λb ps e=>?_⟩ v J.bare λb m=>?_
 .exact k b o (old b o e).1 (base.keep b o e q r t)
 .obtain⟨sl,z⟩:=base.slot b o e q r t;exact⟨sl,k b _ (old b o e).1 z⟩
 .rw[A1 (old b o e).2];exact base.free b o e q t
 .obtain⟨o',z⟩:=base.there b o e t;exact⟨o',k b _ (old b o e).1 z⟩
 .rw[A1 (f b _ e)];exact base.tups b xs e
 .rw[A1 (f b _ e)];exact base.frzs b o u e
 .rw[A1 (f b _ e)];exact base.tbls b ps e
 .obtain⟨_,h1,_,h3,h4,h5⟩:=A b m;exact⟨h3,h1,h4,h5⟩
set_option maxHeartbeats 4000000 in
theorem a4c{tg t E:Expr}{K:List Expr}{scope:Scope}{pos:Pos}{N:List Str}{src:List (Option Nat)}{wi:TI}{g:TG}{tt:TT}{te:TE}{Q:VK}{RR:Value->Addr->Result->Shared->Prop}(hc:X.calm=true)(hi:PI X tg t wi)
  (b9:B6 scope X.env.scope=true) (b8:L3 N src X.N scope=true) (d6:a4D scope=true)
  (hg:∀a C s H ex,PG (X.blk N scope a C s H ex) tg g) (ht:∀a C s H ex,PIf (X.blk N scope a C s H ex) K tt) (he:∀a C s H ex,PE (X.blk N scope a C s H ex) E te)
  (I:Inv X pins σ H s) (h:a5v src wi g tt te σ H Q)
  (c0:∀(s2 s4:Shared) (H2 H4:Hp) (fp:List Addr) (a:List (Str×Addr)) (pl:List (Addr×Obj)) (σ4:St) (ys:List V) (us:List Value) (k:Nat),Inv X pins σ H2 s2->(∀b∈fp,a1j X pins H2 b) ->
   Inv (X.blk N scope a (s2.heap.objs.size+1) s2 H2 fp) pl σ4 H4 s4->H4 s2.heap.objs.size=none->s4.heap.get? s2.heap.objs.size=some {cls:=.type "list",data:=.seq us.toArray k}->Vals ys us->ys.length<=sizeLine ->
   Q (.ref s2.heap.objs.size) (upd H4 s2.heap.objs.size (.lst ys))->RR (.ref s2.heap.objs.size) (s2.heap.objs.size+1) (.ok .next) s4) :
  wpAny (model X.prog X.w) X.A (eval t X.env) (λx s₁=>wpAny (model X.prog X.w) X.A (pyIter x) (λit s₂=>wpAny (model X.prog X.w) X.A (newList []) (λb0 s₃ =>
   wpAny (model X.prog X.w) X.A (newFunctionEnv scope X.env.globals (a1J scope X.env) [] X.env.qual none .none (some X.env)) (λP s₄ =>
    codeAny (model X.prog X.w) X.A (.compStart (.ListComp E [⟨tg,t,K,0⟩] scope pos) 0 it b0 {P with scope:=relabel scope X.env}) (RR b0 P.locals) s₄) X.xe s₃) X.xe s₂) X.xe s₁) X.xe s:=by
 refine thn (hi pins s σ H _ I h) λv s1 h1=>thn h1 λd8 s2 h2=>?_;obtain⟨it,fp,tn,J,H2,e,Z,T,c5,f2,W,⟨m0,w0⟩,c7⟩:=h2;subst e;have c1:∀b∈fp,∃o,s2.heap.get? b=some o:=λb l=>(T.obj _ _ c5 b l).imp λ_ q=>q.1;refine bX (a6z ?_);have hB:=Z.block (lo:={cls:=.type "list",dict:=none,data:=.seq ([]:List Value).toArray}) f2 c1 b9 b8 d6;rw[show({s2 with heap:=s2.heap.push {cls:=.type "list",dict:=none,data:=.seq ([]:List Value).toArray}}:Shared).heap.objs.size=s2.heap.objs.size+1 from bt ..];generalize G:cellsFrom (s2.heap.objs.size+1+1) scope.names (a1J scope X.env)=a at hB⊢;generalize B:pushCells ((s2.heap.push {cls:=.type "list",dict:=none,data:=.seq ([]:List Value).toArray}).push {cls:=.type "dict",data:=.dict #[]}) scope.names=h4 at hB⊢;have a6:∀b o,s2.heap.get? b=some o->h4.get? b=some o:=λb o q=>by
  rw[<-B];exact fT _ _ _ _ (ae _ (ae _ q))
 have b6:h4.get? s2.heap.objs.size=some {cls:=.type "list",data:=.seq ([]:List Value).toArray 0}:=by
  rw[<-B];exact fT _ _ _ _ (ae _ (aG _ rfl))
 have c6:tn 0 h4:=T.keep _ _ _ c5 λb _ o q=>a6 b o q;generalize f:X.blk N scope a (s2.heap.objs.size+1) s2 H2 fp=j at hB;have eA:j.A=X.A:=by rw[<-f];rfl
 have eP:j.prog=X.prog:=by rw[<-f];rfl
 have ew:j.w=X.w:=by rw[<-f];rfl
 have eK:j.K=X.K:=by rw[<-f];rfl
 have ec:j.calm=true:=by rw[<-f];exact hc
 have ee:j.env=compEnvC scope a (s2.heap.objs.size+1) X.env:=by rw[<-f];rfl
 have ex:j.ex=fp:=by rw[<-f];rfl
 have b7:j.pn=[]:=by rw[<-f];rfl
 have d1:j.s₀=s2:=by rw[<-f];rfl
 have a4:j.xe=NoX:=by rw[<-f];rfl
 have eL:j.env.locals=s2.heap.objs.size+1:=by rw[ee];rfl
 have d0:j.fs=frs X.stack:=by rw[<-f];rfl
 have c4:=hB.ok;have cne:∀x c,j.env.cells.lookup x=some c->c≠s2.heap.objs.size:=λx c q=>by
  rw[ee]at q;have q':a.lookup x=some c:=q;rw[<-G]at q';rcases R5 _ _ _ q' with z|z
  .exact dr (aK (bU _) (bb (eh _) z.1))
  .obtain⟨v,z'⟩:=Z.cell x c (Z4 z);exact aM z'.lt
 have R:∀b∈fp,b≠s2.heap.objs.size:=λb l=>by
  obtain⟨o,q⟩:=c1 b l;exact aM (aI q)
 have A:s2.heap.objs.size∉j.fs:=by
  rw[d0];intro z;rcases aE.mp (Z.stkSub _ z)with q|q
  .exact absurd Z.lt (by rw[<-q];exact bQ _)
  .exact Z.nofs (aj _) q
 have w:∀{H':Hp}{pl:List (Addr×Obj)},(∀b∈fp,H' b=none)->(∀p∈pl,p.1=s2.heap.objs.size)->∀b∈fp,a1j j pl H' b:=λ{H' pl} hn D b l=>by
  obtain⟨x1,x2⟩:=c4.exf b (by rw[ex];exact l);refine⟨hn b l,x1,c4.exfs b (by rw[ex];exact l),.inl (by rw[ex];exact l),x2,λp c2=>?_⟩;rw[b7,bS]at c2;rw[D p c2];exact(R b l).symm
 have c3:∀s5:Shared,s5={s2 with heap:=h4}->codeAny (model X.prog X.w) X.A (.compLoop (.ListComp E [⟨tg,t,K,0⟩] scope pos) 0 (.ref it) (.ref s2.heap.objs.size) j.env)
   (RR (.ref s2.heap.objs.size) (s2.heap.objs.size+1)) s5:=by
  rintro s5 rfl;refine a5d (λn s'=>∃i H' ys us k,Inv j [] (B1 src σ) H' s'/\tn i s'.heap/\(∀b∈fp,H' b=none)/\H' s2.heap.objs.size=none /\
   s'.heap.get? s2.heap.objs.size=some {cls:=.type "list",data:=.seq (us:List Value).toArray k}/\Vals ys us/\W i n ys H') ?_ m0
   ⟨0,H2,[],[],0,hB,c6,λb l=>(f2 b l).1,Z.hok.fresh (aj _),b6,.nil,w0⟩
  rintro n s3 ⟨i,U,ys,us,k,I3,a7,a5,L,a9,r3,w3⟩;rcases c7 i n ys U w3 with⟨S,hz,qn⟩|⟨go,hz,Nn,hN,step⟩
  .have d:=T.done j eP ew eK ec i [] s3 (B1 src σ) U NoX I3 (w a5 (λ_ z=>by cases z)) a7 S;rw[eA]at d;have a0:Inv j [(s2.heap.objs.size,{cls:=.type "list",data:=.seq us.toArray k})] (B1 src σ) U s3:=I3.pins_of λp D=>by
    rw[aD.mp D];exact⟨a9,L,by rw[eL];exact aM (bU _),A,λv z=>by cases z⟩
   have d:=T.done j eP ew eK ec i _ s3 (B1 src σ) U NoX a0 (w a5 (λp z=>by rw[aD.mp z])) a7 S;rw[eA]at d;refine thn d λr s4 ⟨hr,I4⟩=>?_;subst hr;have c9:=(I4.pin (s2.heap.objs.size,{cls:=.type "list",data:=.seq us.toArray k}) (aO _ ar)).1;rw[<-f]at I4;exact c0 s2 s4 H2 U fp a _ _ ys us k Z f2 I4 L c9 r3 hz (qn _ L)
  .have a0:Inv j [(s2.heap.objs.size,{cls:=.type "list",data:=.seq us.toArray k})] (B1 src σ) U s3:=I3.pins_of λp D=>by
    rw[aD.mp D];exact⟨a9,L,by rw[eL];exact aM (bU _),A,λv z=>by cases z⟩
   have d:=T.item j eP ew eK ec i _ s3 (B1 src σ) U NoX a0 (w a5 (λp z=>by rw[aD.mp z])) a7 go;rw[eA]at d;refine thn d λr s4 ⟨u,hr,d3⟩=>?_;subst hr;refine thn d3 λ_ s5 ⟨x,H5,I5,r5,y5,a8,d2⟩=>?_;have c8:=I5.pinned (w d2 (λp z=>by rw[aD.mp z])) (T.obj _ _ a8);have d5:PG j tg g:=by rw[<-f];exact hg _ _ _ _ _
   have d7:PIf j K tt:=by rw[<-f];exact ht _ _ _ _ _
   have d4:PE j E te:=by rw[<-f];exact he _ _ _ _ _
   have a1:=d5 _ s5 _ H5 x u _ c8 r5 (step x H5 y5);rw[eP,ew,eA,a4]at a1;refine thn a1 λ_ s6 ⟨σ6,H6,I6,sb,q6⟩=>?_;have a2:=d7 _ s6 σ6 H6 _ I6 q6;rw[eP,ew,eA,a4]at a2;refine thn a2 λok s7 ⟨H7,I7,q7⟩=>?_;have O:∀{Y:Hp}{M:Shared}{pl:List (Addr×Obj)},Inv j ([(s2.heap.objs.size,{cls:=.type "list",data:=.seq us.toArray k})]++a2x fp s5.heap) σ6 Y M ->
     Inv j [] (B1 src σ) Y M/\tn (i+1) M.heap/\(∀b∈fp,Y b=none)/\Y s2.heap.objs.size=none/\M.heap.get? s2.heap.objs.size=some {cls:=.type "list",data:=.seq us.toArray k}:=λ{Y M pl} I8=>by
    have p0:=I8.pin (s2.heap.objs.size,{cls:=.type "list",data:=.seq us.toArray k}) (aO _ (aS _ ar));refine⟨(I8.pins_of (pins':=[]) λp D=>by cases D).weak sb.1 sb.2,T.keep _ _ _ a8 λb l o e=>(I8.pin (b,o) (aO _ (aO _ (S6 l e)))).1,λb l=>?_,p0.2.1,p0.1⟩;obtain⟨o,e,_⟩:=T.obj _ _ a8 b l;exact(I8.pin (b,o) (aO _ (aO _ (S6 l e)))).2.1
   cases ok with
   |false =>
    obtain⟨m',hm,w7⟩:=hN _ _ q7;obtain⟨b1,b2,b3,b4,b5⟩:=O (pl:=[]) I7;exact⟨m',hm,i+1,H7,ys,us,k,b1,b2,b3,b4,b5,r3,w7⟩
   |true =>
    have a3:=d4 _ s7 σ6 H7 _ I7 q7;rw[eP,ew,eA,a4]at a3;refine thn a3 λy M ⟨vy,Y,I8,ry,n8⟩=>?_;obtain⟨m',hm,w8⟩:=hN _ _ n8;obtain⟨b1,b2,b3,b4,b5⟩:=O (pl:=[]) I8;refine de F.slot_list_append ⟨_,b5,rfl⟩ F.entry_list_append (F.args_list_append_2 _ _) (PySem.list_append s2.heap.objs.size us.toArray k y (by rw[aA,<-r3.length];omega)) ⟨b5,?_⟩;have q:=PySem.IsL.update b5 (λxs=>xs.push y);rw[show us.toArray.push y=(us++[y]).toArray by simp]at q;have nb:∀b o,b≠s2.heap.objs.size->M.heap.get? b=some o->(M.heap.update s2.heap.objs.size (Obj.mapSeq λxs=>xs.push y)).get? b=some o:=λb o l e =>
     (fJ M.heap _ (dC l)).trans e
    refine⟨m',hm,i+1,Y,ys++[vy],us++[y],_,?_,?_,b3,b4,q,r3.append (.cons ry .nil),w8⟩
    .exact b1.turned nb b4 (by rw[eL];exact aM (bU _)) (.inr (by rw[d1];exact aj _)) cne λp D=>by rw[b7]at D;cases D
    .exact T.keep _ _ _ b2 λb l o e=>nb b o (R b l) e
 have m:=c3 _ rfl;rw[ee]at m;exact codeAny_compStart_list m (T.self _ 0 _ _ _ c6 m)
theorem a3H{scope:Scope}(a:a4D scope=true):scope.kind=.function/\∀x∈scope.names,scope.names.lookup x.1=some x.2:=by
 unfold a4D at a;rw[aL]at a;exact⟨by simpa using a.1,λx b=>by simpa using aR.mp a.2 x b⟩
theorem Inv.clos{scope:Scope}(I:Inv X pins σ H s)(a:B6 scope X.env.scope=true):closureFor scope X.env=pure (a1J scope X.env):=b2C λx d c=>by
 have q:=aR.mp a x d;rw[c]at q;have b:(X.env.scope.names.lookup x.1==some .cell || X.env.scope.names.lookup x.1==some .free)=true:=by simpa using q
 rw[Bool.or_eq_true]at b;exact I.ok.has x.1 (b.imp (λz=>bh.mp z) λz=>bh.mp z)
theorem b3S{tg b e:Expr}{j:List Expr}{scope:Scope}{pos:Pos}{N:List Str}{src:List (Option Nat)}{u:TI}{g:TG}{t:TT}{te:TE}(y:X.calm=true)(hi:PI X tg b u)
  (c:B6 scope X.env.scope=true) (f:L3 N src X.N scope=true) (i:a4D scope=true)
  (A:∀a C s H ex,PG (X.blk N scope a C s H ex) tg g) (D:∀a C s H ex,PIf (X.blk N scope a C s H ex) j t) (z:∀a C s H ex,PE (X.blk N scope a C s H ex) e te)
  (hs:∀x,foldedSetIterable b X.env x=pure x:=by intro _;rfl):PE X (.ListComp e [⟨tg,b,j,0⟩] scope pos) (a5v src u g t te):=by
 intro pins s σ H Q I h;obtain⟨d,n⟩:=a3H i;rw[eval_ListComp];refine wpAny_comprehension_free (use:=none) rfl hs (I.clos c) d (λx E B=>by rw[<-B];exact n x E) (a4c (RR:=compPost (model X.prog X.w) X.A X.xe none (EP X pins σ Q)) y hi c f i A D z I h ?_);intro s2 L H2 J fp a K σ4 ys M k v f2 r p l G F q;obtain⟨m,o,_⟩:=r.loc;exact⟨m,o,λh' w=>⟨.ref s2.heap.objs.size,_,Inv.unblock v f2 (eh _) (aj _) (aM (bU _)) r p l G F w,rfl,q⟩⟩
theorem b3A{i:Nat}{y:Str}{u r:Pos}{tg f j:Expr}{l:List Expr}{scope:Scope}{pos:Pos}{N:List Str}{src:List (Option Nat)}{wi:TI}{g:TG}{tt:TT}{te:TE}
  (hN:X.N.Nodup) (hy:X.N[i]?=some y) (Y:Loc X.env.scope y)
  (hc:X.calm=true) (hi:PI X tg f wi) (n:B6 scope X.env.scope=true) (B:L3 N src X.N scope=true) (F:a4D scope=true)
  (hg:∀d C s H ex,PG (X.blk N scope d C s H ex) tg g) (ht:∀d C s H ex,PIf (X.blk N scope d C s H ex) l tt) (S:∀d C s H ex,PE (X.blk N scope d C s H ex) j te)
  (W:swapsWith (.ListComp j [⟨tg,f,l,0⟩] scope pos) (some (.Name y u)) r.line X.env=pure true:=by rfl) (hs:∀x,foldedSetIterable f X.env x=pure x:=by intro _;rfl)
  (hf:X.fn y=true∨X.env.scope.names.lookup y=some .local:=by first|exact .inl rfl|exact .inr rfl|assumption) :
  PS X (.Assign [.Name y u] (.ListComp j [⟨tg,f,l,0⟩] scope pos) r) (a2g (a5v src wi g tt te) (B0 i)):=by
 intro pins s σ H D I h;obtain⟨t,T⟩:=a3H F;rw[exec_Assign_Name_used _ _ _ _ W];refine aa (wpAny_standAt (aa ?_));show wpAny _ X.A (do let _ <-comprehension (.ListComp j [⟨tg,f,l,0⟩] scope pos) scope X.env _ (newList []) false (eval f X.env) (some (assign (.Name y u) X.env))) _ _ s;refine aa (dn (wpAny_comprehension_free (use:=some (assign (.Name y u) X.env)) (Q:=λ_ s'=>SP X pins D .next s') rfl hs (I.clos n) t (λx Y hk=>by rw[<-hk];exact T x Y)
  (a4c (RR:=compPost (model X.prog X.w) X.A X.xe (some (assign (.Name y u) X.env)) (λ_ s'=>SP X pins D .next s')) hc hi n B F hg ht S I h ?_)) (λ_ s' hq=>ag (ag hq)) λ_ _ e=>e)
 intro s2 s4 H2 H4 fp d pl σ4 ys us k w f2 L Z M r4 hz q;obtain⟨m,V,_⟩:=L.loc;have E:s4.heap.Ns (s2.heap.objs.size+1) m:=V;have O:H4 (s2.heap.objs.size+1)=none:=L.free;have J:=Inv.unblock w f2 (eh _) (aj _) (aM (bU _)) L Z M r4 hz (Heap.SameBut.refl _ _);have K:s2.heap.objs.size+1≠X.env.locals:=dr (bY w.lt);have G:∀x c,X.env.cells.lookup x=some c->c≠s2.heap.objs.size+1:=λx c e=>by
  obtain⟨v,z⟩:=w.cell x c e;exact aM (bY z.lt)
 show wpAny _ X.A (assign (.Name y u) X.env (.ref s2.heap.objs.size)) _ _ s4;refine wpAny_assign_Name (a3D (v:=.ref s2.heap.objs.size) J hN hy Y rfl (λs' I' hb=>?_) hf);obtain⟨a,sb,P⟩:=hb;have A:s2.heap.objs.size+1≠a:=by
  rcases P with rfl|P
  .exact K
  .exact(G _ _ P).symm
 refine⟨m,E.sameBut sb A,λh' R=>⟨_,_,I'.turned (t':=s'.toks) (it:=s2.heap.objs.size+1) (λb o U e=>R.extBut b o U e) ?_ K (.inr (bb w.sz (eh _))) G λp hp=>?_,q⟩⟩
 .rw[A1 (dr (bU _))];exact O
 .exact aM (bY (aI (w.pin p hp).1))
end
def SqAt(k:Bool)(h:Heap)(l:Addr)(xs:Array Value):Prop:=match k with|true=>h.IsTuple l xs|false=>h.IsList l xs
def ItAt(k:Bool)(h:Heap)(i l:Addr)(n:Nat):Prop:=match k with|true=>h.IsTupleIter i l n|false=>h.IsListIter i l n
noncomputable def b6P:Bool->String|true => "tuple_iterator" | false => "list_iterator"
noncomputable def a1x(k:Bool)(l:Addr):Obj:={cls:=.type (b6P k),data:=.fields #[.ref l,.int 0 0]}
theorem ItAt.extBut{k:Bool}{h h':Heap}{i l b:Addr}{n:Nat}(x:ItAt k h i l n)(hs:Heap.ExtBut b h h')(a:i≠b):ItAt k h' i l n:=by
 cases k
 .exact Heap.IsListIter.extBut x hs a
 .exact Heap.IsTupleIter.extBut x hs a
theorem ItAt.at{k:Bool}{h h':Heap}{i l:Addr}{n:Nat}(x:ItAt k h i l n)(e:∀o,h.get? i=some o->h'.get? i=some o):ItAt k h' i l n:=by
 cases k
 .exact Heap.IsListIter.at x e
 .exact Heap.IsTupleIter.at x e
theorem ItAt.get{k:Bool}{h:Heap}{i l:Addr}{n:Nat}(x:ItAt k h i l n):∃o,h.get? i=some o/\o.data=.fields #[.ref l,.int n 0]:=by
 cases k<;>obtain⟨o,e,c,d⟩:=x<;>exact⟨o,e,d⟩
theorem SqAt.extBut{k:Bool}{h h':Heap}{l b:Addr}{xs:Array Value}(x:SqAt k h l xs)(hs:Heap.ExtBut b h h')(a:l≠b):SqAt k h' l xs:=by
 cases k
 .exact Heap.IsList.extBut x hs a
 .exact Heap.IsTuple.extBut x hs a
theorem SqAt.at{k:Bool}{h h':Heap}{l:Addr}{xs:Array Value}(x:SqAt k h l xs)(e:∀o,h.get? l=some o->h'.get? l=some o):SqAt k h' l xs:=by
 cases k<;>obtain⟨o,q,r⟩:=x<;>exact⟨o,e o q,r⟩
theorem SqAt.get{k:Bool}{h:Heap}{l:Addr}{xs:Array Value}(x:SqAt k h l xs):∃o,h.get? l=some o:=by
 cases k<;>obtain⟨o,q,r⟩:=x<;>exact⟨o,q⟩
section
variable {prog:Program}{w:World}{A:Around}{E:Value->Shared->Prop}{s:Shared}
theorem a1D{it t:Addr}{i:Nat}{items:Array Value}{x:Value}{Q:Value->Shared->Prop}(a:s.heap.IsTupleIter it t i)(g:s.heap.IsTuple t items)(h:items[i]?=some x)
  (e:∀h',h'.IsTupleIter it t (i+1)->Heap.SameBut it s.heap h'->Q x {s with heap:=h'}):wpAny (model prog w) A (Builtin.SmallTypes.nextOf (.ref it)) Q E s:=by
 obtain⟨o,b,f,hd⟩:=id a;obtain⟨k,d,_,j,c⟩:=g;unfold Builtin.SmallTypes.nextOf;refine aa (bK (name:=Str.ofString "__next__") a.typeIs dH
  (bI dH a.typeIs F.entry_tuple_iterator_next ?_ (F.args_tuple_iterator_next_1 _)))
 show wpAny _ _ (field (.ref it) 0>>=_) _ _ s;refine aa (cE b hd (x:=.ref t) rfl ?_);show wpAny _ _ (if (Value.ref t==Value.none)=true then _ else _) _ _ s;rw[ao (show ¬((Value.ref t==Value.none)=true)from a_)];show wpAny _ _ (field (.ref it) 1>>=_) _ _ s;refine aa (cE b hd (x:=.int i 0) rfl ?_);show wpAny _ _ (seqItems? (.ref t)>>=_) _ _ s;refine aa (cI d c ?_);simp only[bw,h];refine aa (dP b hd (by simp) (ag ⟨x,rfl,ag (e _ ?_ (cA ..))⟩));exact⟨_,cL _ b (eC (cN hd _)),(fz ..).trans f,by
  rw[cN hd];simp[rawInt]⟩
theorem a2C{it t:Addr}{i:Nat}{items:Array Value}{Q:Value->Shared->Prop}(g:A.handled=none)(b:s.heap.IsTupleIter it t i)(j:s.heap.IsTuple t items)(k:items[i]?=none)
  (h:∀h' e,Heap.ExtBut it s.heap h'->(∃o,h'.get? e=some o/\o.cls=.type "StopIteration")->E (.ref e) {s with heap:=h'}) :
  wpAny (model prog w) A (Builtin.SmallTypes.nextOf (.ref it)) Q E s:=by
 obtain⟨o,d,l,hd⟩:=id b;obtain⟨p,f,_,n,c⟩:=j;unfold Builtin.SmallTypes.nextOf;refine aa (bK (name:=Str.ofString "__next__") b.typeIs dH
  (bI dH b.typeIs F.entry_tuple_iterator_next ?_ (F.args_tuple_iterator_next_1 _)))
 show wpAny _ _ (field (.ref it) 0>>=_) _ _ s;refine aa (cE d hd (x:=.ref t) rfl ?_);show wpAny _ _ (if (Value.ref t==Value.none)=true then _ else _) _ _ s;rw[ao (show ¬((Value.ref t==Value.none)=true)from a_)];show wpAny _ _ (field (.ref it) 1>>=_) _ _ s;refine aa (cE d hd (x:=.int i 0) rfl ?_);show wpAny _ _ (seqItems? (.ref t)>>=_) _ _ s;refine aa (cI f c ?_);simp only[bw,k];refine aa (fU (aa (dP d hd (by simp) ?_)));show wpAny _ _ (newExc (.type "StopIteration") []>>=_) _ _ _;refine aa ?_;simp only[newExc,newTuple];refine aa (bX ?_ (by size_fits));refine aa (m:=firstArgMember _ _) (wpAny_of_eq (a:=Value.none) (by first|rfl | (simp only[firstArgMember];rfl)) ?_);refine bX ?_ (by size_fits);simp only[raiseNew];refine aa (wpAny_handled ?_)
 first|rw[show A.in1.handled=none from g]|rw[g]
 refine aa (ag (wpAny_throw ?_));exact h _ _ (((cA ..).extBut.push _).push _) ⟨_,aG _ rfl,rfl⟩
theorem a2i{k:Bool}{it l:Addr}{i:Nat}{items:Array Value}{x:Value}{Q:Value->Shared->Prop}(a:ItAt k s.heap it l i)(c:SqAt k s.heap l items)(d:items[i]?=some x)
  (b:∀h',ItAt k h' it l (i+1)->Heap.SameBut it s.heap h'->Q x {s with heap:=h'}):wpAny (model prog w) A (Builtin.SmallTypes.nextOf (.ref it)) Q E s:=by
 cases k
 .exact wpAny_nextOf_list_item a c d b
 .exact a1D a c d b
theorem a7W{k:Bool}{it l:Addr}{i:Nat}{items:Array Value}{Q:Value->Shared->Prop}(c:A.handled=none)(a:ItAt k s.heap it l i)(d:SqAt k s.heap l items)(f:items[i]?=none)
  (b:∀h' e,Heap.ExtBut it s.heap h'->(∃o,h'.get? e=some o/\o.cls=.type "StopIteration")->E (.ref e) {s with heap:=h'}) :
  wpAny (model prog w) A (Builtin.SmallTypes.nextOf (.ref it)) Q E s:=by
 cases k
 .exact wpAny_nextOf_list_end c a d f b
 .exact a2C c a d f b
theorem V2{k:Bool}{l:Addr}{items:Array Value}{Q:Value->Shared->Prop}(b:SqAt k s.heap l items)(a:Q (.ref s.heap.objs.size) {s with heap:=s.heap.push (a1x k l)}):wpAny (model prog w) A (pyIter (.ref l)) Q E s:=by
 cases k
 .exact fu b a
 .exact wpAny_pyIter_tuple b a
end
section
variable {prog:Program}{w:World}{A:Around}{E:Value->Shared->Prop}{s:Shared}{k1 k2:Bool}
theorem b0o{z TI TO f g l m:Addr}{p q:Nat}{xs ys:Array Value}{x y a b:Value}{Q:Value->Shared->Prop}(D:ZipApart z TI TO f g l m)
  (j:IsZip s.heap z TI TO .none) (B:IsPair s.heap TI (.ref f) (.ref g)) (C:IsPair s.heap TO a b)
  (h1:ItAt k1 s.heap f l p) (h2:ItAt k2 s.heap g m q) (F:SqAt k1 s.heap l xs) (G:SqAt k2 s.heap m ys) (I:xs[p]?=some x) (J:ys[q]?=some y)
  (H:∀h',IsZip h' z TI TO (rawInt s.heap.objs.size)->IsPair h' TO x y->ItAt k1 h' f l (p+1)->ItAt k2 h' g m (q+1)->IsPair h' s.heap.objs.size x y->h'.objs.size=s.heap.objs.size+1 ->
   (∀c o,c≠z->c≠TO->c≠f->c≠g->s.heap.get? c=some o->h'.get? c=some o)->Q (.ref s.heap.objs.size) {s with heap:=h'}) :
  wpAny (model prog w) A (Builtin.«zip.__next__» ⟨[.ref z],[]⟩) (λfin s'=>∃v,fin=.done (.ret v)/\Q v s') E s:=by
 show wpAny _ _ (field (.ref z) 2>>=_) _ _ _;refine aa (cE j rfl (x:=.bool false) rfl ?_);show wpAny _ _ (field (.ref z) 3>>=_) _ _ _;refine aa (cE j rfl (x:=.ref TI) rfl ?_);refine aa (cI B rfl ?_);show wpAny _ _ (Builtin.SmallTypes.ownedTupleIsFree (.ref z)>>=_) _ _ _;refine aa ?_;unfold Builtin.SmallTypes.ownedTupleIsFree;refine aa (cE j rfl (x:=.none) rfl (ag ?_));simp only[fj];refine aa (fU ?_);refine aa (cE j rfl (x:=.ref TO) rfl ?_);refine aa (du j (by simp) λh₁ hz₁ hs₁=>?_);replace hz₁:IsZip h₁ z TI TO .ellipsis:=hz₁;refine aa ?_;simp only[List.zipIdx_cons,List.zipIdx_nil,List.forIn_cons,List.forIn_nil];refine aa (aa (wpAny_onRaise ?_));show wpAny _ _ (Builtin.SmallTypes.nextOf (.ref f)>>=_) _ _ _;refine aa (a2i (h1.extBut hs₁.extBut D.i1z) (F.extBut hs₁.extBut D.l1z) I λh₂ h1₂ hs₂=>ag ?_);have hTO₂:IsPair h₂ TO a b:=hs₂.extBut _ _ D.TOi1 (hs₁.extBut _ _ D.TOz C);refine aa (cI hTO₂ rfl ?_);refine aa (fV hTO₂ λh₃ hTO₃ hs₃=>?_);replace hTO₃:IsPair h₃ TO x b:=hTO₃;refine aa (wpAny_letGo (ag ?_));refine aa (aa (wpAny_onRaise ?_));show wpAny _ _ (Builtin.SmallTypes.nextOf (.ref g)>>=_) _ _ _;refine aa (a2i (((h2.extBut hs₁.extBut D.i2z).extBut hs₂.extBut D.i12.symm).extBut hs₃.extBut D.TOi2.symm)
  (((G.extBut hs₁.extBut D.l2z).extBut hs₂.extBut D.l2i1).extBut hs₃.extBut D.l2TO) J λh₄ h2₄ hs₄=>ag ?_)
 have hTO₄:IsPair h₄ TO x b:=hs₄.extBut _ _ D.TOi2 hTO₃;refine aa (cI hTO₄ rfl ?_);refine aa (fV hTO₄ λh₅ hTO₅ hs₅=>?_);replace hTO₅:IsPair h₅ TO x y:=hTO₅;refine aa (wpAny_letGo (ag (ag ?_)));refine aa (cI hTO₅ rfl ?_);refine aa (wpAny_newTuple ?_);have i:h₅.objs.size=s.heap.objs.size:=by rw[hs₅.1,hs₄.1,hs₃.1,hs₂.1,hs₁.1]
 have hz₅:IsZip h₅ z TI TO .ellipsis:=hs₅.extBut _ _ D.TOz.symm (hs₄.extBut _ _ D.i2z.symm (hs₃.extBut _ _ D.TOz.symm (hs₂.extBut _ _ D.i1z.symm hz₁)));have hk₅:∀c o,c≠z->c≠TO->c≠f->c≠g->s.heap.get? c=some o->h₅.get? c=some o:=λc o h n t u e =>
  hs₅.extBut _ _ n (hs₄.extBut _ _ u (hs₃.extBut _ _ n (hs₂.extBut _ _ t (hs₁.extBut _ _ h e))))
 have h1₅:ItAt k1 h₅ f l (p+1):=((h1₂.extBut hs₃.extBut D.TOi1.symm).extBut hs₄.extBut D.i12).extBut hs₅.extBut D.TOi1.symm;have h2₅:ItAt k2 h₅ g m (q+1):=h2₄.extBut hs₅.extBut D.TOi2.symm;have d:z<h₅.objs.size:=aI hz₅;show wpAny _ _ (Builtin.SmallTypes.ownedTupleHandOut (.ref z) (.ref h₅.objs.size)>>=_) _ _ _;refine aa ?_;unfold Builtin.SmallTypes.ownedTupleHandOut;have hz₆:IsZip (h₅.push {cls:=.type "tuple",data:=.seq #[x,y]}) z TI TO .ellipsis:=ae _ hz₅;refine aa (du hz₆ (by simp) λh₇ hz₇ hs₇=>?_);replace hz₇:IsZip h₇ z TI TO (rawInt h₅.objs.size):=hz₇;refine du hz₇ (by simp) λh₈ hz₈ hs₈=>?_;replace hz₈:IsZip h₈ z TI TO (rawInt h₅.objs.size):=hz₈;have r:∀c o,c≠z->h₅.get? c=some o->h₈.get? c=some o:=λc o h e=>hs₈.extBut _ _ h (hs₇.extBut _ _ h (ae _ e));have hT₈:IsPair h₈ h₅.objs.size x y:=hs₈.extBut _ _ (dr d) (hs₇.extBut _ _ (dr d) (aG _ rfl));have k:h₈.objs.size=h₅.objs.size+1:=by rw[hs₈.1,hs₇.1,bt]
 rw[i]at hz₈ hT₈ k;refine ag ⟨_,rfl,?_⟩;show Q (.ref h₅.objs.size) _;rw[i];exact H h₈ hz₈ (r _ _ D.TOz hTO₅) (h1₅.at λo e=>r _ o D.i1z e) (h2₅.at λo e=>r _ o D.i2z e) hT₈ k λc o h n t u e=>r c o h (hk₅ c o h n t u e)
theorem b2U{z TI TO m n y B:Addr}{C F:Nat}{xs ys:Array Value}{a b:Value}{Q:Fin->Shared->Prop}(I:A.handled=none)(D:ZipApart z TI TO m n y B)
  (l:IsZip s.heap z TI TO .none) (q:IsPair s.heap TI (.ref m) (.ref n)) (r:IsPair s.heap TO a b)
  (h1:ItAt k1 s.heap m y C) (h2:ItAt k2 s.heap n B F) (k:SqAt k1 s.heap y xs) (u:SqAt k2 s.heap B ys) (j:xs[C]?=none∨ys[F]?=none)
  (H:∀h' e,(∀c o,c≠z->c≠TO->c≠m->c≠n->s.heap.get? c=some o->h'.get? c=some o)->(∃o,h'.get? e=some o/\o.cls=.type "StopIteration")->E (.ref e) {s with heap:=h'}) :
  wpAny (model prog w) A (Builtin.«zip.__next__» ⟨[.ref z],[]⟩) Q E s:=by
 show wpAny _ _ (field (.ref z) 2>>=_) _ _ _;refine aa (cE l rfl (x:=.bool false) rfl ?_);show wpAny _ _ (field (.ref z) 3>>=_) _ _ _;refine aa (cE l rfl (x:=.ref TI) rfl ?_);refine aa (cI q rfl ?_);show wpAny _ _ (Builtin.SmallTypes.ownedTupleIsFree (.ref z)>>=_) _ _ _;refine aa ?_;unfold Builtin.SmallTypes.ownedTupleIsFree;refine aa (cE l rfl (x:=.none) rfl (ag ?_));simp only[fj];refine aa (fU ?_);refine aa (cE l rfl (x:=.ref TO) rfl ?_);refine aa (du l (by simp) λh₁ hz₁ hs₁=>?_);replace hz₁:IsZip h₁ z TI TO .ellipsis:=hz₁;refine aa ?_;simp only[List.zipIdx_cons,List.zipIdx_nil,List.forIn_cons,List.forIn_nil];refine aa (aa (wpAny_onRaise ?_));show wpAny _ _ (Builtin.SmallTypes.nextOf (.ref m)>>=_) _ _ _;cases v:xs[C]? with
 |none =>
  refine aa (a7W I (h1.extBut hs₁.extBut D.i1z) (k.extBut hs₁.extBut D.l1z) v λh₂ e hs₂ t=>?_);obtain⟨G,d,f⟩:=t;have hz₂:IsZip h₂ z TI TO .ellipsis:=hs₂ _ _ D.i1z.symm hz₁;have g:e≠z:=λx=>by subst x;rw[hz₂]at d;cases d;simp at f
  refine du hz₂ (by simp) λh₃ _ hs₃=>H h₃ e (λc o i _ p _ x=>hs₃.extBut _ _ i (hs₂ _ _ p (hs₁.extBut _ _ i x))) ⟨G,hs₃.extBut _ _ g d,f⟩
 |some x =>
  have L:ys[F]?=none:=by rcases j with h|h;rw[v]at h;cases h;exact h
  refine aa (a2i (h1.extBut hs₁.extBut D.i1z) (k.extBut hs₁.extBut D.l1z) v λh₂ h1₂ hs₂=>ag ?_);have hTO₂:IsPair h₂ TO a b:=hs₂.extBut _ _ D.TOi1 (hs₁.extBut _ _ D.TOz r);refine aa (cI hTO₂ rfl ?_);refine aa (fV hTO₂ λh₃ hTO₃ hs₃=>?_);refine aa (wpAny_letGo (ag ?_));refine aa (aa (wpAny_onRaise ?_));show wpAny _ _ (Builtin.SmallTypes.nextOf (.ref n)>>=_) _ _ _;refine aa (a7W I (((h2.extBut hs₁.extBut D.i2z).extBut hs₂.extBut D.i12.symm).extBut hs₃.extBut D.TOi2.symm)
   (((u.extBut hs₁.extBut D.l2z).extBut hs₂.extBut D.l2i1).extBut hs₃.extBut D.l2TO) L λh₄ e hs₄ t=>?_)
  obtain⟨G,d,f⟩:=t;have hz₄:IsZip h₄ z TI TO .ellipsis:=hs₄ _ _ D.i2z.symm (hs₃.extBut _ _ D.TOz.symm (hs₂.extBut _ _ D.i1z.symm hz₁));have g:e≠z:=λx=>by subst x;rw[hz₄]at d;cases d;simp at f
  refine du hz₄ (by simp) λh₅ _ hs₅=>H h₅ e (λc o i J p K x=>hs₅.extBut _ _ i (hs₄ _ _ K (hs₃.extBut _ _ J (hs₂.extBut _ _ p (hs₁.extBut _ _ i x))))) ⟨G,hs₅.extBut _ _ g d,f⟩
noncomputable abbrev zH1(k1:Bool)(h:Heap)(l1:Addr):Heap:=h.push (a1x k1 l1)
noncomputable abbrev zH2(k1 k2:Bool)(h:Heap)(l1 l2:Addr):Heap:=(zH1 k1 h l1).push (a1x k2 l2)
noncomputable abbrev zH3(k1 k2:Bool)(h:Heap)(l1 l2:Addr):Heap:=(zH2 k1 k2 h l1 l2).push {cls:=.type "tuple",data:=.seq #[.ref h.objs.size,.ref (zH1 k1 h l1).objs.size]}
noncomputable abbrev zH4(k1 k2:Bool)(h:Heap)(l1 l2:Addr):Heap:=(zH3 k1 k2 h l1 l2).push {cls:=.type "tuple",data:=.seq #[.none,.none]}
noncomputable abbrev zH5(k1 k2:Bool)(h:Heap)(l1 l2:Addr):Heap:=(zH4 k1 k2 h l1 l2).push {cls:=.type "zip",data:=.fields #[.none,.bool false,.bool false,.ref (zH2 k1 k2 h l1 l2).objs.size,.ref (zH3 k1 k2 h l1 l2).objs.size]}
theorem b2S(a b:Addr)(xs ys:Array Value) :
  Meets (Builtin.«zip.__new__» ⟨[.type "zip",.ref a,.ref b],[]⟩) (λ_ R s=>SqAt k1 s.heap a xs/\SqAt k2 s.heap b ys /\
   R (.ok (.ret (.ref (zH4 k1 k2 s.heap a b).objs.size))) {s with heap:=zH5 k1 k2 s.heap a b}) :=
 .of_wp λprog w A R s h=>by
  obtain⟨k,g,d,tk,os⟩:=s;obtain⟨i,j,h⟩:=h;have l:=sub_zip;have c:SqAt k1 (Shared.heap ⟨k,g,d,tk,os⟩) a xs:=i;have f:SqAt k2 (Shared.heap ⟨k.push (a1x k1 a),g,d,tk,os⟩) b ys:=j.at λo e=>ae _ e
  wp_walk using V2 c,V2 f
  exact⟨_,rfl,h⟩
theorem b0q{a b:Addr}{xs ys:Array Value}{Q:Value->Shared->Prop}(e:SqAt k1 s.heap a xs)(f:SqAt k2 s.heap b ys)
  (h:∀h',IsZip h' (s.heap.objs.size+4) (s.heap.objs.size+2) (s.heap.objs.size+3) .none->IsPair h' (s.heap.objs.size+2) (.ref s.heap.objs.size) (.ref (s.heap.objs.size+1)) ->
   IsPair h' (s.heap.objs.size+3) .none .none->ItAt k1 h' s.heap.objs.size a 0->ItAt k2 h' (s.heap.objs.size+1) b 0->h'.objs.size=s.heap.objs.size+5 ->
   (∀c o,s.heap.get? c=some o->h'.get? c=some o)->Q (.ref (s.heap.objs.size+4)) {s with heap:=h'}) :
  wpAny (model prog w) A (call (.type "zip") [.ref a,.ref b]) Q E s:=by
 refine callType_new F.called_zip (by decide) (F.typeCall_zip_2 _ _) (F.newCall_zip_2 _ _) (λobj=>F.args_object_init_3 obj _ _) F.entry_zip_new
  (b2S (k1:=k1) (k2:=k2) a b xs ys) ⟨e,f,?_⟩
 have g:(zH1 k1 s.heap a).objs.size=s.heap.objs.size+1:=bt ..;have i:(zH2 k1 k2 s.heap a b).objs.size=s.heap.objs.size+2:=by rw[bt,g]
 have j:(zH3 k1 k2 s.heap a b).objs.size=s.heap.objs.size+3:=by rw[bt,i]
 have k:(zH4 k1 k2 s.heap a b).objs.size=s.heap.objs.size+4:=by rw[bt,j]
 have q:(zH5 k1 k2 s.heap a b).objs.size=s.heap.objs.size+5:=by rw[bt,k]
 have d:(zH5 k1 k2 s.heap a b).get? (zH4 k1 k2 s.heap a b).objs.size=some _:=aG _ rfl;have n:(zH5 k1 k2 s.heap a b).get? (zH3 k1 k2 s.heap a b).objs.size=some _:=ae _ (aG _ rfl);have m:(zH5 k1 k2 s.heap a b).get? (zH2 k1 k2 s.heap a b).objs.size=some _:=ae _ (ae _ (aG _ rfl));have l:(zH5 k1 k2 s.heap a b).get? (zH1 k1 s.heap a).objs.size=some (a1x k2 b):=ae _ (ae _ (ae _ (aG _ rfl)));have p:(zH5 k1 k2 s.heap a b).get? s.heap.objs.size=some (a1x k1 a):=ae _ (ae _ (ae _ (ae _ (aG _ rfl))));show _/\_;rw[i,j,k]at d;rw[g,i]at m;rw[j]at n;rw[g]at l;rw[k];refine⟨⟨_,d,rfl⟩,h _ d m n ?_ ?_ q λc o x =>
  ae _ (ae _ (ae _ (ae _ (ae _ x))))⟩
 .cases k1<;>exact⟨_,p,rfl,rfl⟩
 .cases k2<;>exact⟨_,l,rfl,rfl⟩
end
def SqK(k:Bool)(K:PySem.W.Frag)(H:Hp)(a:Addr)(xs:List V):Prop:=match k with|true=>SqT K H a xs|false=>SqL K H a xs
theorem Inv.sqk{X:Cx}{pins:List (Addr×Obj)}{σ:St}{H:Hp}{s:Shared}{k:Bool}{a:Addr}{xs:List V}(I:Inv X pins σ H s)(h:SqK k X.K H a xs):∃its:List Value,Vals xs its/\SqAt k s.heap a its.toArray/\xs.length<=sizeLine:=by
 cases k
 .obtain⟨its,r,p,z⟩:=I.list h;exact⟨its,r,p.isList,z⟩
 .obtain⟨its,r,p,z⟩:=I.tuple h;exact⟨its,r,p,z⟩
theorem Inv.sqk_inj{X:Cx}{pins:List (Addr×Obj)}{σ:St}{H:Hp}{s:Shared}{k:Bool}{a:Addr}{xs ys:List V}(I:Inv X pins σ H s)(h:SqK k X.K H a xs)(h':SqK k X.K H a ys):xs=ys:=by
 cases k
 .exact I.list_inj h h'
 .exact I.tuple_inj h h'
noncomputable def Itz(K:PySem.W.Frag)(k1 k2:Bool)(a b:Addr):It :=
 ⟨λi H=>∃xs ys x y,SqK k1 K H a xs/\SqK k2 K H b ys/\xs[i]?=some x/\ys[i]?=some y,
  λi H v H'=>∃p x y,v=.ref p/\H p=none/\H'=upd H p (.tup [x,y])/\(∀xs,SqK k1 K H a xs->xs[i]?=some x)/\∀ys,SqK k2 K H b ys->ys[i]?=some y,
  λi H=>∃xs ys,SqK k1 K H a xs/\SqK k2 K H b ys/\(xs.length<=i∨ys.length<=i)⟩
structure ZTurn(k1 k2:Bool)(z TI TO i1 i2 a b:Addr)(i:Nat)(f0:Value)(h:Heap):Prop where
 zz:IsZip h z TI TO f0
 ti:IsPair h TI (.ref i1) (.ref i2)
 to:∃u v,IsPair h TO u v
 t1:ItAt k1 h i1 a i
 t2:ItAt k2 h i2 b i
structure ZNe(z TI TO i1 i2:Addr):Prop where
 TIz:TI≠z
 TOz:TO≠z
 i1z:i1≠z
 i2z:i2≠z
 TITO:TI≠TO
 TIi1:TI≠i1
 TIi2:TI≠i2
 TOi1:TO≠i1
 TOi2:TO≠i2
 i12:i1≠i2
section
variable {X:Cx}{pins:List (Addr×Obj)}{σ:St}{H:Hp}{s:Shared}
theorem Inv.turnedT{h':Heap}{ch:List Addr}{p:Addr}{o:HO}(I:Inv X pins σ H s)(h:∀b∈ch,a1j X pins H b)(hp:s.heap.objs.size=p)(k:∀b o,b∉ch->s.heap.get? b=some o->h'.get? b=some o)
  (new:ObjOk X.prog X.w (upd H p o) h' p o):Inv X pins σ (upd H p o) {s with heap:=h'}:=by
 have l:H p=none:=I.hok.fresh (Nat.le_of_eq hp);have f:∀b u,H b=some u->b∉ch:=λb u e z=>by rw[(h b z).1]at e;cases e
 have a:∀b u,H b=some u->b≠p:=λb u e z=>by rw[z,l]at e;cases e
 have i:∀b u,s.heap.get? b=some u->b≠p:=λb u e=>by
  rw[<-hp];exact aM (aI e)
 refine I.step (g':=s.gens) (d':=s.drawn) (t':=s.toks) (ch:=ch) (λb g=>?_) (λb o _ _ d e _=>k b o d e) (λb o _ _ d e _=>⟨o.slots,k b o d e⟩) (λb u _ e n=>by rw[A1 (i b u e)];exact n)
  (λb o d e=>⟨o,k b o d e⟩) (λb xs e=>by rw[A1 (a b _ e)];exact e) (λb u v e=>by rw[A1 (a b _ e)];exact e) (λb ps e=>⟨#[],by rw[A1 (a b _ e),e];simp⟩) (λm j=>?_) (λb u e=>?_) I.bare
 .obtain⟨_,h1,_,h3,h4,h5⟩:=h b g;exact⟨h3,h1,h4,h5⟩
 .obtain⟨o,es,ep,ho,r⟩:=j;exact⟨o,es,ep,k _ o (λz=>(h _ z).2.1 rfl) ho,r⟩
 .by_cases g:b=p
  .subst g;rw[A0]at e;cases e;exact new
  .rw[A1 g]at e;refine(I.hok b u e).stay (λc v d q=>k c v ?_ q) (λc q=>by rw[A1 (a c _ q)];exact q) λc xs q=>by rw[A1 (a c _ q)];exact q
   rcases d with z|z
   .rw[z];exact f b u e
   .exact f c _ z
theorem Inv.turnedL{h':Heap}{ch:List Addr}(I:Inv X pins σ H s)(f:∀b∈ch,a1j X pins H b)(k:∀b o,b∉ch->s.heap.get? b=some o->h'.get? b=some o):Inv X pins σ H {s with heap:=h'}:=by
 have d:∀b u,H b=some u->b∉ch:=λb u e z=>by rw[(f b z).1]at e;cases e
 refine I.step (g':=s.gens) (d':=s.drawn) (t':=s.toks) (ch:=ch) (λb g=>?_) (λb o _ _ a e _=>k b o a e) (λb o _ _ a e _=>⟨o.slots,k b o a e⟩) (λb u _ e n=>n)
  (λb o a e=>⟨o,k b o a e⟩) (λb xs e=>e) (λb u v e=>e) (λb ps e=>⟨#[],by rw[e];simp⟩) (λm h=>?_) (λb u e=>?_) I.bare
 .obtain⟨_,h1,_,h3,h4,h5⟩:=f b g;exact⟨h3,h1,h4,h5⟩
 .obtain⟨o,es,ep,ho,r⟩:=h;exact⟨o,es,ep,k _ o (λz=>(f _ z).2.1 rfl) ho,r⟩
 .refine(I.hok b u e).stay (λc v a q=>k c v ?_ q) (λc q=>q) λc xs q=>q;rcases a with z|z
  .rw[z];exact d b u e
  .exact d c _ z
theorem Inv.apart{k:Bool}{a:Addr}{xs:List V}{b:Addr}{o:Obj}(I:Inv X pins σ H s)(hs:SqK k X.K H a xs)(h:a1j X pins H b):a≠b:=by
 rintro rfl;have c:∀{u:HO},Rd H a u->False:=λr=>by
  rcases r with r|⟨o,r⟩<;>rw[h.1]at r<;>cases r
 have d:∀{f:Obj},X.K.lookup a=some f->False:=λe=>by
  have g:=I.mod.kin a _ e;rcases h.2.2.2.1 with z|z
  .exact I.ok.noex _ _ g z
  .exact absurd (aK (aI (I.ok.bs _ _ g).1) z) (bQ _)
 cases k
 .rcases hs with r|⟨f,_,_,e,_⟩
  .exact c r
  .exact d e
 .rcases hs with r|⟨f,_,_,e,_⟩
  .exact c r
  .exact d e
end
theorem b0x{P:Program}{w:World}{K:PySem.W.Frag}{es:List Expr}{kt:Nat}{tp:Pos}{k1 k2:Bool}{a b z TI TO j l:Addr}(D:ZNe z TI TO j l) :
  Turn P w K (.Tuple es kt tp) (Itz K k1 k2 a b) [z,TI,TO,j,l] z (λi h=>ZTurn k1 k2 z TI TO j l a b i .none h) where
 mem:=by simp
 obj:=λi h st c f=>by
  simp only[aE,bF,cS]at f;rcases f with rfl|rfl|rfl|rfl|rfl
  .exact⟨_,st.zz,λv z=>by cases z⟩
  .exact⟨_,st.ti,λv z=>by cases z⟩
  .obtain⟨u,v,q⟩:=st.to;exact⟨_,q,λv z=>by cases z⟩
  .obtain⟨o,e,d⟩:=st.t1.get;exact⟨o,e,λv z=>by rw[d]at z;cases z⟩
  .obtain⟨o,e,d⟩:=st.t2.get;exact⟨o,e,λv z=>by rw[d]at z;cases z⟩
 keep:=λi h h' st k=>⟨k z (by simp) _ st.zz,k TI (by simp) _ st.ti,let ⟨u,v,q⟩:=st.to;⟨u,v,k TO (by simp) _ q⟩,st.t1.at λo e=>k j (by simp) o e,st.t2.at λo e=>k l (by simp) o e⟩
 item:=by
  intro X N hw M f i pins s σ H E I t st O;subst N hw M;obtain⟨xs,ys,x,y,n,p,hx,hy⟩:=O;obtain⟨us,Y,V,zu⟩:=I.sqk n;obtain⟨ws,C,W,zw⟩:=I.sqk p;obtain⟨u,hu,Z⟩:=Y.get hx;obtain⟨v,hv,a0⟩:=C.get hy;have g:∀c∈[z,TI,TO,j,l],a≠c/\b≠c:=λc f=>⟨I.apart (o:=default) n (t c f),I.apart (o:=default) p (t c f)⟩;have L:ZipApart z TI TO j l a b:=⟨D.TIz,D.TOz,D.i1z,D.i2z,D.TITO,D.TIi1,D.TIi2,D.TOi1,D.TOi2,D.i12,(g z (by simp)).1,(g TO (by simp)).1,(g j (by simp)).1,(g l (by simp)).1,(g z (by simp)).2,(g TO (by simp)).2,(g j (by simp)).2,(g l (by simp)).2⟩;obtain⟨ua,ub,r⟩:=st.to;have G:s.TypeIs (.ref z) "zip":=⟨_,st.zz,rfl⟩;unfold pyNext;refine aa (dV (bK (name:=Str.ofString "__next__") G fW
   (bI fW G F.entry_zip_next
    (b0o L st.zz st.ti r st.t1 st.t2 V W (x:=u) (y:=v) (by simpa using hu) (by simpa using hv) λh' a1 a2 a3 a4 a5 a6 a7=>ag ?_) (F.args_zip_next_1 _))))
  refine⟨_,rfl,?_⟩;refine wpAny_letOwnedTupleGo_zip (s:={s with heap:=h'}) a1 λh2 S m=>?_;have ne:∀c∈[z,TI,TO,j,l],c≠s.heap.objs.size:=λc f e=>by
   have:∃o,s.heap.get? c=some o:=by
    simp only[aE,bF,cS]at f;rcases f with rfl|rfl|rfl|rfl|rfl
    .exact⟨_,st.zz⟩
    .exact⟨_,st.ti⟩
    .exact⟨_,r⟩
    .obtain⟨o,e,d⟩:=st.t1.get;exact⟨o,e⟩
    .obtain⟨o,e,d⟩:=st.t2.get;exact⟨o,e⟩
   obtain⟨o,q⟩:=this;exact absurd (aI q) (by rw[e];exact bQ _)
  have B:H s.heap.objs.size=none:=I.hok.fresh (aj _);have U:IsPair h2 s.heap.objs.size u v:=m.extBut _ _ (ne z (by simp)).symm a5;have kk:∀c o,c∉[z,TI,TO,j,l]->s.heap.get? c=some o->h2.get? c=some o:=λc o f e=>by
   simp only[aE,bF,cS,not_or]at f;exact m.extBut _ _ f.1 (a7 c o f.1 f.2.2.1 f.2.2.2.1 f.2.2.2.2 e)
  have I2:Inv X pins σ (upd H s.heap.objs.size (.tup [x,y])) {s with heap:=h2} :=
   I.turnedT (ch:=[z,TI,TO,j,l]) t rfl kk ⟨by show 2<=sizeLine;decide,[u,v],.cons Z (.cons a0 .nil),⟨_,U,rfl,0,rfl⟩⟩
  refine⟨.ref s.heap.objs.size,_,I2,rfl,⟨_,x,y,rfl,B,rfl,λzs R=>?_,λzs R=>?_⟩,⟨S,m.extBut _ _ D.TIz (a7 _ _ D.TIz D.TITO D.TIi1 D.TIi2 st.ti),⟨u,v,m.extBut _ _ D.TOz a2⟩,a3.extBut m.extBut D.i1z,a4.extBut m.extBut D.i2z⟩,λc f=>?_⟩
  .rw[I.sqk_inj R n];exact hx
  .rw[I.sqk_inj R p];exact hy
  .rw[A1 (ne c f)];exact(t c f).1
 done:=by
  intro X N hw M f i pins s σ H E I t st O;subst N hw M;obtain⟨xs,ys,n,p,J⟩:=O;obtain⟨us,Y,V,zu⟩:=I.sqk n;obtain⟨ws,C,W,zw⟩:=I.sqk p;have l1:=Y.length;have l2:=C.length;have g:∀c∈[z,TI,TO,j,l],a≠c/\b≠c:=λc f=>⟨I.apart (o:=default) n (t c f),I.apart (o:=default) p (t c f)⟩;have L:ZipApart z TI TO j l a b:=⟨D.TIz,D.TOz,D.i1z,D.i2z,D.TITO,D.TIi1,D.TIi2,D.TOi1,D.TOi2,D.i12,(g z (by simp)).1,(g TO (by simp)).1,(g j (by simp)).1,(g l (by simp)).1,(g z (by simp)).2,(g TO (by simp)).2,(g j (by simp)).2,(g l (by simp)).2⟩;obtain⟨ua,ub,r⟩:=st.to;have G:s.TypeIs (.ref z) "zip":=⟨_,st.zz,rfl⟩;unfold pyNext;refine aa (dV (bK (name:=Str.ofString "__next__") G fW
   (bI fW G F.entry_zip_next (b2U (I.ok.hd f) L st.zz st.ti r st.t1 st.t2 V W ?_ λh' e hk he=>?_) (F.args_zip_next_1 _))))
  .rcases J with q|q
   .exact .inl (by simp;omega)
   .exact .inr (by simp;omega)
  .obtain⟨o,ho,f⟩:=he;refine aa (fM (T:="StopIteration") (b:=true) ⟨o,ho,f⟩ isSubtype_stop ?_);refine ag ⟨rfl,I.turnedL (ch:=[z,TI,TO,j,l]) t λc o f e=>?_⟩;simp only[aE,bF,cS,not_or]at f;exact hk c o f.1 f.2.2.1 f.2.2.2.1 f.2.2.2.2 e
 self:=λA i s Q E st h=>wpAny_pyIter_zip st.zz h
theorem nne{a b:Nat}(h:a≠b):@Ne Addr a b:=h
theorem zne(n:Nat):ZNe (n+4) (n+2) (n+3) n (n+1) :=
 ⟨nne (by omega),nne (by omega),nne (by omega),nne (by omega),nne (by omega),nne (by omega),nne (by omega),nne (by omega),nne (by omega),nne (by omega)⟩
def b6S(K:PySem.W.Frag)(ta:TA):TI:=λσ H R=>ta σ H λvs H1=>∃k1 k2 a b,vs=[.ref a,.ref b]/\(∃xs,SqK k1 K H1 a xs)/\(∃ys,SqK k2 K H1 b ys)/\R (Itz K k1 k2 a b) H1
section
variable {X:Cx}
theorem b5U{es:List Expr}{u:Nat}{A:Pos}{a b:Expr}{ta:TA}{p pos:Pos}(m:Gl X "zip")(n:X.mg "zip"=none)(l:PA X [a,b] ta)(i:bootBuiltins "zip"=some (.type "zip"))
  (hs:starEach [a,b] X.env=[(false,eval a X.env),(false,eval b X.env)]:=by rfl) (g:starEach [b] X.env=[(false,eval b X.env)]:=by rfl) :
  PI X (.Tuple es u A) (.Call (.Name "zip" p) [a,b] [] pos) (b6S X.K ta):=by
 intro pins s σ H R I h;refine Call_ (a2I I m n i (eD (thn (l pos pins s σ H _ I h) λB s1 ⟨M,H1,d,y,x⟩=>?_) (by rw[hs,g]) (by rw[g];rfl)));obtain⟨k1,k2,J,K,e,⟨xs,o⟩,⟨ys,t⟩,q⟩:=x;subst e;cases y with
 |cons r rr =>
  cases rr with
  |cons r' rr =>
   cases rr;cases r;cases r';obtain⟨B,L,v,P⟩:=d.sqk o;obtain⟨N,z,w,Q⟩:=d.sqk t;refine b0q v w λh' k C D E F O G=>?_;refine wpAny_pyIter_zip (s:={s1 with heap:=h'}) k ?_;refine⟨s1.heap.objs.size+4,[s1.heap.objs.size+4,s1.heap.objs.size+2,s1.heap.objs.size+3,s1.heap.objs.size,s1.heap.objs.size+1],_,_,H1,rfl,d.kept (t':=s1.toks) G,b0x (zne _),
    ⟨k,C,⟨_,_,D⟩,E,F⟩,λc j=>?_,q⟩
   have f:s1.heap.objs.size<=c:=by
    simp only[aE,bF,cS]at j;rcases j with rfl|rfl|rfl|rfl|rfl
    .exact cf _ _
    .exact cf _ _
    .exact cf _ _
    .exact aj _
    .exact cf _ _
   exact d.fpOk f (d.hok.fresh f)
end
theorem a1Y{prog:Program}{w:World}{A:Around}{k:Bool}{I l:Addr}{items:Array Value}(b:A.handled=none)(a:l≠I) :
  Walks prog w A I [I,l] [I] items.size (λi v=>items[i]?=some v) (λi h=>ItAt k h I l i/\SqAt k h l items):=by
 cases k
 .exact Walks.list b I l a items
 .exact Walks.tuple b I l a items
noncomputable def trV:V->Bool
 |.bl b=>b
 |.int i=>i != 0
 |.non=>false
 |_=>true
noncomputable def a6p:V->Bool
 |.bl _=>true
 |.int _=>true
 |.non=>true
 |_=>false
theorem a1m{prog:Program}{w:World}{A:Around}{E:Value->Shared->Prop}{s:Shared}{x:V}{v:Value}{Q:Bool->Shared->Prop}(r:RelV x v)(f:a6p x=true)(h:Q (trV x) s):wpAny (model prog w) A (truthy v) Q E s:=by
 cases x with
 |non=>cases r;exact truthy_none h
 |bl b=>cases r;exact dg h
 |int i=>obtain⟨t,rfl⟩:=r;exact PySem.P.truthy_int h
 |_=>cases f
theorem a3L{α:Type}(xs:List α)(p:α->Bool)(d:α):(List.range xs.length).all (λi=>p (xs.getD i d))=xs.all p:=by
 rw[cv,aR,aR];constructor
 .intro h x hx;obtain⟨i,hi,rfl⟩:=cx.mp hx;have:=h i (ba.mpr hi);simpa[az,hi]using this
 .intro h i hi;have a:=ba.mp hi;simpa[az,a]using h xs[i] (dm a)
theorem a9m{α:Type}(xs:List α)(p:α->Bool)(d:α):(List.range xs.length).any (λi=>p (xs.getD i d))=xs.any p:=by
 have:=a3L xs (λx=>!p x) d;rw[<-List.not_any_eq_all_not,<-List.not_any_eq_all_not]at this;simpa using this
theorem a8k(xs:List Int):∀n,n<=xs.length->preSum (λi=>xs.getD i 0) n=(xs.take n).sum
 |0,_=>by simp[preSum]
 |n+1,h=>by
  have this:xs[n]?=some xs[n]:=ak (by omega);have e:xs.take (n+1)=xs.take n++[xs[n]]:=by rw[bf,this];rfl
  rw[preSum,a8k xs n (by omega),e,List.sum_append];simp[az,this]
section
variable {X:Cx}
abbrev RL:=List V->Hp->VK->Prop
def b5L(K:PySem.W.Frag):RL:=λxs H Q=>∃(k:Bool) (p:Addr) (ys:List V),xs=[.ref p]/\SqK k K H p ys/\ys.all a6p=true/\Q (.bl (ys.all trV)) H
def b5K(K:PySem.W.Frag):RL:=λxs H Q=>∃(k:Bool) (p:Addr) (ys:List V),xs=[.ref p]/\SqK k K H p ys/\ys.all a6p=true/\Q (.bl (ys.any trV)) H
def b5G(K:PySem.W.Frag):RL:=λxs H Q=>∃(k:Bool) (p:Addr) (ns:List Int),xs=[.ref p]/\SqK k K H p (ns.map V.int)/\Q (.int ns.sum) H
theorem a7p{k:Bool}{l:Addr}{items:Array Value}{s:Shared}(h:SqAt k s.heap l items):ItAt k (s.heap.push (a1x k l)) s.heap.objs.size l 0/\SqAt k (s.heap.push (a1x k l)) l items:=by
 refine⟨?_,h.at λo e=>ae _ e⟩;cases k<;>exact⟨_,aG _ rfl,rfl,rfl⟩
theorem a2J{k:Bool}{l:Addr}{items:Array Value}{s:Shared}(h:SqAt k s.heap l items):l≠s.heap.objs.size:=by
 obtain⟨o,e⟩:=h.get;exact aM (aI e)
theorem a2M{s:Shared}{h':Heap}{c:Obj}(a:∀b o,b∉[s.heap.objs.size]->(s.heap.push c).get? b=some o->h'.get? b=some o):∀b o,s.heap.get? b=some o->h'.get? b=some o:=λb o e =>
 a b o (λz=>by have:=aI e;rw[aD.mp z]at this;exact bQ _ this) (ae _ e)
theorem b2H(m:X.calm=true):D0 X (.builtin "all") (b5L X.K):=by
 intro pins s σ H xs y Q I w h;obtain⟨k,p,ys,rfl,hs,n,q⟩:=h;obtain⟨u,rfl,t⟩:=w.one;cases t;obtain⟨its,c,d,x⟩:=I.sqk hs;have o:X.A.in1.handled=none:=I.ok.hd m;refine call_all_walk (V2 d ?_);refine⟨s.heap.objs.size,_,_,_,_,_,λi=>trV (ys.getD i .non),rfl,a1Y (k:=k) (l:=p) (items:=its.toArray) o (a2J d),a7p d,?_,λh' tk r=>?_⟩
 .intro i v s' Q' E' hv hq;have b:its[i]?=some v:=by simpa using hv
  obtain⟨hi,_⟩:=aN.mp b;have a:i<ys.length:=by rw[c.length];exact hi
  have g:ys[i]?=some ys[i]:=ak a;obtain⟨z,f,j⟩:=c.get g;rw[b]at f;cases f;refine a1m j (aR.mp n _ (dm a)) ?_;simpa[az,g]using hq
 .have e:(List.range its.toArray.size).all (λi=>trV (ys.getD i .non))=ys.all trV:=by
   rw[aA,<-c.length];exact a3L ys trV .non
  rw[e];exact⟨.bl _,H,I.kept (a2M r),rfl,q⟩
theorem b2G(m:X.calm=true):D0 X (.builtin "any") (b5K X.K):=by
 intro pins s σ H xs y Q I w h;obtain⟨k,p,ys,rfl,hs,n,q⟩:=h;obtain⟨u,rfl,t⟩:=w.one;cases t;obtain⟨its,c,d,x⟩:=I.sqk hs;have o:X.A.in1.handled=none:=I.ok.hd m;refine call_any_walk (V2 d ?_);refine⟨s.heap.objs.size,_,_,_,_,_,λi=>trV (ys.getD i .non),rfl,a1Y (k:=k) (l:=p) (items:=its.toArray) o (a2J d),a7p d,?_,λh' tk r=>?_⟩
 .intro i v s' Q' E' hv hq;have b:its[i]?=some v:=by simpa using hv
  obtain⟨hi,_⟩:=aN.mp b;have a:i<ys.length:=by rw[c.length];exact hi
  have g:ys[i]?=some ys[i]:=ak a;obtain⟨z,f,j⟩:=c.get g;rw[b]at f;cases f;refine a1m j (aR.mp n _ (dm a)) ?_;simpa[az,g]using hq
 .have e:(List.range its.toArray.size).any (λi=>trV (ys.getD i .non))=ys.any trV:=by
   rw[aA,<-c.length];exact a9m ys trV .non
  rw[e];exact⟨.bl _,H,I.kept (a2M r),rfl,q⟩
theorem b2E(w:X.calm=true):D0 X (.builtin "sum") (b5G X.K):=by
 intro pins s σ H xs D Q I B h;obtain⟨k,p,a,rfl,hs,q⟩:=h;obtain⟨u,rfl,A⟩:=B.one;cases A;obtain⟨its,n,d,C⟩:=I.sqk hs;have m:=n.length;rw[ai]at m;have x:X.A.in1.handled=none:=I.ok.hd w;refine call_sum_walkG (V2 d ?_);refine⟨s.heap.objs.size,_,_,_,_,_,λi=>a.getD i 0,rfl,a1Y (k:=k) (l:=p) (items:=its.toArray) x (a2J d),a7p d,λb j=>?_,?_,λh' tk t' y=>?_⟩
 .rw[bt];obtain⟨o,e⟩:=d.get;have f:=aI e;simp only[aE,bF,cS]at j;rcases j with rfl|rfl
  .exact bU _
  .exact bY f
 .intro i v hv;have c:its[i]?=some v:=by simpa using hv
  obtain⟨hi,_⟩:=aN.mp c;have z:(a.map V.int)[i]?=some (.int a[i]):=by rw[aP,ak (by omega)];rfl
  obtain⟨E,g,t,r⟩:=n.get z;rw[c]at g;cases g;exact⟨t,by rw[r];show _=Value.int (a.getD i 0) t;rw[az,ak (by omega)];rfl⟩
 .have e:preSum (λi=>a.getD i 0) its.toArray.size=a.sum:=by
   rw[aA,<-m,a8k a _ (aj _),bg]
  rw[e];exact⟨.int a.sum,H,I.kept (a2M y),⟨t',rfl⟩,q⟩
def b5J(K:PySem.W.Frag):RL:=λxs H Q=>∃x n t b,xs=[x,.ty n]/\TyOf K H x t/\PySem.W.kitOne K t (.type n)=some b/\Q (.bl b) H
theorem b2F:D0 X (.builtin "isinstance") (b5J X.K):=by
 intro pins s σ H xs f Q I d h;obtain⟨x,n,t,b,rfl,ty,e,q⟩:=h;obtain⟨u,v,rfl,c,a⟩:=d.two;cases a;exact a9K I c ty e λtk=>⟨.bl b,H,I.tok tk,rfl,q⟩
def a3I(x:V)(b:Bool):Bool:=decide (x=.bl b)
theorem a1y{M:Model}{A:Around}{E:Value->Shared->Prop}{s:Shared}{x:V}{v:Value}{b:Bool}{Q:Bool->Shared->Prop}(r:RelV x v)(h:Q (a3I x b) s):wpAny M A (isSame v (.bool b)) Q E s:=by
 unfold isSame;cases x with
 |non=>cases r;exact ag h
 |bl c=>cases r;exact ag (by
   have e:a3I (.bl c) b=(Value.bool c==Value.bool b):=by cases c<;>cases b<;>rfl
   rw[e]at h;exact h)
 |int i=>obtain⟨t,rfl⟩:=r;exact ag h
 |str y=>obtain⟨t,rfl⟩:=r;exact ag h
 |byt y=>obtain⟨t,rfl⟩:=r;exact ag h
 |flt y=>obtain⟨t,rfl⟩:=r;exact ag h
 |ref p=>cases r;exact ag h
 |ty n=>cases r;exact ag h
theorem b6s{b:Bool}:OpR X (compareOp .Is) (λx y H Q=>y=.bl b/\Q (.bl (a3I x b)) H):=by
 intro pins s σ H x y v u Q I a c h;obtain⟨rfl,q⟩:=h;cases c;unfold compareOp;exact aa (a1y a (ag ⟨.bl _,H,I,rfl,q⟩))
theorem a9w{b:Bool}:OpR X (compareOp .IsNot) (λx y H Q=>y=.bl b/\Q (.bl (!a3I x b)) H):=by
 intro pins s σ H x y v u Q I a c h;obtain⟨rfl,q⟩:=h;cases c;unfold compareOp;exact aa (a1y a (ag ⟨.bl _,H,I,rfl,q⟩))
end
theorem b2L:bootBuiltins "len"=some (.builtin "len"):=boot_len
theorem b7b:bootBuiltins "zip"=some (.type "zip"):=by kernel_rfl
theorem b7g:bootBuiltins "all"=some (.builtin "all"):=by kernel_rfl
theorem b7f:bootBuiltins "any"=some (.builtin "any"):=by kernel_rfl
theorem b7c:bootBuiltins "sum"=some (.builtin "sum"):=by kernel_rfl
theorem b7e:bootBuiltins "min"=some (.builtin "min"):=by kernel_rfl
theorem a3w:bootBuiltins "isinstance"=some (.builtin "isinstance"):=by kernel_rfl
theorem a1g:bootBuiltins "sorted"=some (.builtin "sorted"):=by kernel_rfl
theorem a3i:bootBuiltins "tuple"=some (.type "tuple"):=by kernel_rfl
theorem b4J:bootBuiltins "list"=some (.type "list"):=by kernel_rfl
theorem b2M:bootBuiltins "int"=some (.type "int"):=by kernel_rfl
theorem b4L:bootBuiltins "bool"=some (.type "bool"):=by kernel_rfl
theorem b7d:bootBuiltins "set"=some (.type "set"):=by kernel_rfl
theorem b4K:bootBuiltins "dict"=some (.type "dict"):=by kernel_rfl
theorem a0G{src:List (Option Nat)}{g:TG}{f:TT}{te:TE}{σ:St}{Q:VK}{J:It}{H1:Hp}(n:Nat)(a:Nat->List V->Hp->Prop)(h0:a 0 [] H1)
  (hs:∀i ys H,i<n->a i ys H->J.go i H/\ys.length<sizeLine/\∀x H',J.yld i H x H'->g x (B1 src σ) H' λσ2 H2=>Sub (B1 src σ) σ2/\f σ2 H2 λb d=>if b=true then te σ2 d λv h=>a (i+1) (ys++[v]) h else a (i+1) ys d)
  (hd:∀ys H,a n ys H->J.stop n H/\ys.length<=sizeLine/\∀p,H p=none->Q (.ref p) (upd H p (.lst ys))):E6 src g f te σ Q J H1:=by
 refine⟨λi m ys H=>m=n-i/\i<=n/\a i ys H,⟨n,by omega,bo _,h0⟩,?_⟩;rintro i m ys H ⟨rfl,hi,p⟩;by_cases c:i<n
 .obtain⟨q1,q2,q3⟩:=hs i ys H c p;exact .inr ⟨q1,q2,a (i+1),λzs H' j=>⟨n-(i+1),by omega,rfl,c,j⟩,q3⟩
 .have e:i=n:=by omega
  subst e;exact .inl (hd ys H p)
theorem a7w{src:List (Option Nat)}{g:TG}{f:TT}{te:TE}{σ:St}{Q:VK}{lo:Int}{n:Nat}{H1:Hp}(j:n<=sizeLine)(a:Nat->List V->Hp->Prop)(h0:a 0 [] H1)
  (d:∀i ys H,a i ys H->ys.length<=i)
  (hs:∀i ys H,i<n->a i ys H->g (.int (lo+i)) (B1 src σ) H λσ2 H2=>Sub (B1 src σ) σ2/\f σ2 H2 λb c=>if b=true then te σ2 c λv h=>a (i+1) (ys++[v]) h else a (i+1) ys c)
  (hd:∀ys H,a n ys H->∀p,H p=none->Q (.ref p) (upd H p (.lst ys))):E6 src g f te σ Q (Itr lo n) H1 :=
 a0G n a h0 (λi ys H hi p=>⟨hi,by have:=d i ys H p;omega,λx H' y=>by obtain⟨e,y⟩:=y;subst e y;exact hs i ys _ hi p⟩)
  λys H p=>⟨aj _,bb (d n ys H p) j,hd ys H p⟩
theorem Z3{K:PySem.W.Frag}{src:List (Option Nat)}{g:TG}{j:TT}{te:TE}{σ:St}{Q:VK}{a:Addr}{xs:List V}{H1:Hp}(m:xs.length<=sizeLine)(c:Nat->List V->Hp->Prop)(h0:c 0 [] H1)
  (h:∀i ys H,i<=xs.length->c i ys H->SqL K H a xs/\ys.length<=i)
  (hs:∀i x ys H,xs[i]?=some x->c i ys H->g x (B1 src σ) H λσ2 H2=>Sub (B1 src σ) σ2/\j σ2 H2 λb f=>if b=true then te σ2 f λv k=>c (i+1) (ys++[v]) k else c (i+1) ys f)
  (hd:∀ys H,c xs.length ys H->∀p,H p=none->Q (.ref p) (upd H p (.lst ys))):E6 src g j te σ Q (Itl K a) H1 :=
 a0G xs.length c h0 (λi ys H hi p=>by
   obtain⟨d,l⟩:=h i ys H (cH hi) p;refine⟨⟨xs,xs[i],d,ak hi⟩,by omega,λx H' y=>?_⟩;obtain⟨e,y⟩:=y;subst e;exact hs i x ys _ (y xs d) p)
  λys H p=>by
   obtain⟨d,l⟩:=h _ ys H (aj _) p;exact⟨⟨xs,d,aj _⟩,by omega,hd ys H p⟩
theorem K7{K:PySem.W.Frag}{src:List (Option Nat)}{g:TG}{j:TT}{te:TE}{σ:St}{Q:VK}{a:Addr}{xs:List V}{H1:Hp}(m:xs.length<=sizeLine)(c:Nat->List V->Hp->Prop)(h0:c 0 [] H1)
  (h:∀i ys H,i<=xs.length->c i ys H->SqT K H a xs/\ys.length<=i)
  (hs:∀i x ys H,xs[i]?=some x->c i ys H->g x (B1 src σ) H λσ2 H2=>Sub (B1 src σ) σ2/\j σ2 H2 λb f=>if b=true then te σ2 f λv k=>c (i+1) (ys++[v]) k else c (i+1) ys f)
  (hd:∀ys H,c xs.length ys H->∀p,H p=none->Q (.ref p) (upd H p (.lst ys))):E6 src g j te σ Q (Itt K a) H1 :=
 a0G xs.length c h0 (λi ys H hi p=>by
   obtain⟨d,l⟩:=h i ys H (cH hi) p;refine⟨⟨xs,xs[i],d,ak hi⟩,by omega,λx H' y=>?_⟩;obtain⟨e,y⟩:=y;subst e;exact hs i x ys _ (y xs d) p)
  λys H p=>by
   obtain⟨d,l⟩:=h _ ys H (aj _) p;exact⟨⟨xs,d,aj _⟩,by omega,hd ys H p⟩
theorem W5{K:PySem.W.Frag}{src:List (Option Nat)}{g:TG}{m:TT}{te:TE}{σ:St}{Q:VK}{k1 k2:Bool}{a b:Addr}{xs zs:List V}{H1:Hp}(B:xs.length<=sizeLine)(c:Nat->List V->Hp->Prop)(h0:c 0 [] H1)
  (l:∀i ys H,i<=xs.length->i<=zs.length->c i ys H->SqK k1 K H a xs/\SqK k2 K H b zs/\ys.length<=i)
  (hs:∀i x z ys H p,xs[i]?=some x->zs[i]?=some z->c i ys H->H p=none->g (.ref p) (B1 src σ) (upd H p (.tup [x,z])) λσ2 H2=>Sub (B1 src σ) σ2/\m σ2 H2 λb k=>if b=true then te σ2 k λv n=>c (i+1) (ys++[v]) n else c (i+1) ys k)
  (hd:∀ys H,c (min xs.length zs.length) ys H->∀p,H p=none->Q (.ref p) (upd H p (.lst ys))):E6 src g m te σ Q (Itz K k1 k2 a b) H1 :=
 a0G (min xs.length zs.length) c h0 (λi ys H hi p=>by
   have h:i<xs.length:=by omega
   have j:i<zs.length:=by omega
   obtain⟨d,f,s⟩:=l i ys H (by omega) (by omega) p;refine⟨⟨xs,zs,xs[i],zs[i],d,f,ak h,ak j⟩,by omega,λx H' y=>?_⟩;obtain⟨r,t,A,e,o,q,u,w⟩:=y;subst e q;exact hs i t A ys _ r (u xs d) (w zs f) p o)
  λys H p=>by
   obtain⟨d,f,s⟩:=l _ ys H (by omega) (by omega) p;exact⟨⟨xs,zs,d,f,by omega⟩,by omega,hd ys H p⟩
structure Ok(P:Program)(w:World)(K:PySem.W.Frag)(mg:Str->Option Value)(base:Heap)(x:Str)(k:Nat)(ps:List Str)(sp:Sp):Prop where
 ex:∃f fd,mg x=some (.ref f)/\PySem.W.keepIn K (.ref f)=true/\Binds K fd ps []/\FnOk P w K mg base CX0 k f fd ps sp
structure FunAt(K:PySem.W.Frag)(mg:Str->Option Value)(x:Str)(st:Stmt)(ps:List Str):Prop where
 ex:∃f fd,mg x=some (.ref f)/\Fun K x x st f fd/\Binds K fd ps []
section
variable {P:Program}{w:World}{K:PySem.W.Frag}{mg:Str->Option Value}{base:Heap}
theorem Ok.imp{x:Str}{k:Nat}{ps:List Str}{sp sp':Sp}(O:Ok P w K mg base x k ps sp)(h:∀vs H Q E,sp' vs H Q E->sp vs H Q E):Ok P w K mg base x k ps sp':=by
 obtain⟨f,fd,h1,h2,a,b⟩:=O.ex;exact⟨f,fd,h1,h2,a,b.imp h⟩
theorem FunAt.ok{x:Str}{st:Stmt}{N ps:List Str}{k:Nat}{sp:Sp}(F:FunAt K mg x st ps)(S:FnScope N ps (A3 st))(c:∀vs H Q E,sp vs H Q E->vs.length=ps.length)
  (b:∀(a:Value) (f:Addr) (A:Around) (outer:List Env) (s:Shared) (H:Hp) (vs:List V) (Q:VK) (E:XK),Room k (A.deeper (envOfC x (A3 st) s.heap.objs.size f a))->sp vs H Q E ->
   ∃t,PSs (V1 CX0 P w K mg base N x (A3 st) f a A outer s H E).nox (E2 st) t/\t {nx:=λ_ H'=>Q .non H',rt:=Q} (start N vs) H):Ok P w K mg base x (k+1) ps sp:=by
 obtain⟨f,fd,h1,h2,d⟩:=F.ex;exact⟨f,fd,h1,h2.kp,d,h2.ok S c λa=>b a f⟩
end
section
variable {X:Cx}{k:Nat}{ps:List Str}{sp:Sp}{x:Str}{p pos:Pos}{e:Expr}{es:List Expr}{t:TA}
theorem b1C(O:Ok X.prog X.w X.K X.mg X.base x k ps sp)(j:Room k X.A)(i:Gl X x)(g:PA X (e::es) t)(a:(x==("__debug__" : Str))=false:=by decide)
  (h:starEach (e::es) X.env=(false,eval e X.env)::starEach es X.env:=by rfl) (b:(backTo pos (starEach es X.env)).any (·.1)=false:=by rfl):PE X (.Call (.Name x p) (e::es) [] pos) (a2f sp [] E0 t):=by
 obtain⟨f,fd,h1,h2,c,d⟩:=O.ex;exact b3T d j i h1 h2 c .nil a8n g a h b
end
inductive EqV(K:PySem.W.Frag)(H:Hp):Nat->V->V->Bool->Prop
 |flat {n:Nat}{x y:V}(fx:a6o x=true) (fy:a6o y=true):EqV K H n x y (eqV x y)
 |tup {n:Nat}{a b:Addr}{xs ys:List V}(e:Nat->Bool) (ha:SqT K H a xs) (hb:SqT K H b ys) (he:∀j x y,xs[j]?=some x->ys[j]?=some y->EqV K H n x y (e j)) :
   EqV K H (n+1) (.ref a) (.ref b) ((List.range (min xs.length ys.length)).all e && xs.length==ys.length)
 |lst {n:Nat}{a b:Addr}{xs ys:List V}(e:Nat->Bool) (ha:SqL K H a xs) (hb:SqL K H b ys) (he:∀j x y,xs[j]?=some x->ys[j]?=some y->EqV K H n x y (e j)) :
   EqV K H (n+1) (.ref a) (.ref b) ((List.range (min xs.length ys.length)).all e && xs.length==ys.length)
theorem b2w:∀{x:V},a6o x=true->eqV x x=true
 |.non,_=>rfl
 |.bl b,_=>eG b
 |.int i,_=>eG i
 |.str y,_=>eG y
 |.byt _,h=>by cases h
 |.flt _,h=>by cases h
 |.ref _,h=>by cases h
 |.ty _,h=>by cases h
section
variable {X:Cx}{pins:List (Addr×Obj)}{σ:St}{H:Hp}{s:Shared}
theorem EqV.same{n:Nat}{x y:V}{b:Bool}(I:Inv X pins σ H s)(h:EqV X.K H n x y b):x=y->b=true:=by
 induction h with
 |flat fx fy=>rintro rfl;exact b2w fx
 |tup e c d g f =>
  intro z;cases z;have q:=I.tuple_inj c d;subst q;simp only[Nat.min_self,aL,eG,and_true,aR,ba];intro j a;exact f j _ _ (ak a) (ak a) rfl
 |lst e c d g f =>
  intro z;cases z;have q:=I.list_inj c d;subst q;simp only[Nat.min_self,aL,eG,and_true,aR,ba];intro j a;exact f j _ _ (ak a) (ak a) rfl
theorem D4{xs:List V}{us:List Value}{j:Nat}{u:Value}(r:Vals xs us)(h:us[j]?=some u):∃x,xs[j]?=some x/\RelV x u:=by
 obtain⟨c,_⟩:=aN.mp h;have a:j<xs.length:=by rw[r.length];exact c
 have b:xs[j]?=some xs[j]:=ak a;obtain⟨d,e,q⟩:=r.get b;rw[h]at e;cases e;exact⟨_,b,q⟩
theorem EqV.at{n:Nat}{x y:V}{b:Bool}(I:Inv X pins σ H s)(h:EqV X.K H n x y b):∀{A:Around}{u v:Value},A.units+n<cLine->RelV x u->RelV y v->SeqAt.EqAt A s u v b:=by
 induction h with
 |flat fx fy=>intro A u v _ l m;exact b6V l m fx fy
 |@tup n a b xs ys e g i q r =>
  intro A u v B l m;cases l;cases m;by_cases c:a=b
  .have:=(EqV.tup e g i q).same I (by rw[c]);rw[this,c];exact SeqAt.EqAt.same _
  .obtain⟨us,r1,p1,_⟩:=I.tuple g;obtain⟨d,k,p2,_⟩:=I.tuple i;rw[r1.length,k.length];refine SeqAt.EqAt.of_refs c ?_;have:=SeqAt.RcAt.tuples (A:=A) (s:=s) (e:=e) (show s.heap.IsTuple a us.toArray from p1) (show s.heap.IsTuple b d.toArray from p2) (by omega) (λj h1 h2=>?_)
   .simpa using this
   .have h1':us[j]?=some us.toArray[j]:=by simp at h1⊢
    have f:d[j]?=some d.toArray[j]:=by simp at h2⊢
    obtain⟨x,ex,t⟩:=D4 r1 h1';obtain⟨y,p,w⟩:=D4 k f;exact r j x y ex p (by show A.units+1+n<cLine;omega) t w
 |@lst n a b xs ys e g i q r =>
  intro A u v B l m;cases l;cases m;by_cases c:a=b
  .have:=(EqV.lst e g i q).same I (by rw[c]);rw[this,c];exact SeqAt.EqAt.same _
  .obtain⟨us,r1,p1,_⟩:=I.list g;obtain⟨d,k,p2,_⟩:=I.list i;rw[r1.length,k.length];refine SeqAt.EqAt.of_refs c ?_;by_cases o:us.length=d.length
   .have:=SeqAt.RcAt.lists (A:=A) (s:=s) (e:=e) p1.isList p2.isList (by simpa using o) (by omega) (λj h1 h2=>?_)
    .simpa[o]using this
    .have h1':us[j]?=some us.toArray[j]:=by simp at h1⊢
     have f:d[j]?=some d.toArray[j]:=by simp at h2⊢
     obtain⟨x,ex,t⟩:=D4 r1 h1';obtain⟨y,p,w⟩:=D4 k f;exact r j x y ex p (by show A.units+1+n<cLine;omega) t w
   .have:=SeqAt.RcAt.lists_lengths (A:=A) (s:=s) p1.isList p2.isList (by simpa using o) (by omega);have z:(us.length==d.length)=false:=by simpa using o
    rw[z,dO];exact this
end
def a5M(K:PySem.W.Frag)(neg:Bool):R2:=λx y H Q=>∃n b,n<=50/\EqV K H n x y b/\(∃a c,x=.ref a/\y=.ref c)/\Q (.bl (if neg then !b else b)) H
section
variable {X:Cx}
theorem b6u(C:X.A.units+60<cLine):OpR X (compareOp .Eq) (a5M X.K false):=by
 intro pins s σ H x y v u Q I m o h;obtain⟨n,b,B,i,⟨a,c,rfl,rfl⟩,q⟩:=h;cases m;cases o;show wpAny _ _ (richCompare .Eq (.ref a) (.ref c)) _ _ s;have key:SeqAt.RcAt X.A s (.ref a) (.ref c) b:=by
  cases i with
  |flat fx fy=>cases fx
  |@tup n _ _ xs ys e t w i =>
   obtain⟨d,k,p1,_⟩:=I.tuple t;obtain⟨f,l,p2,_⟩:=I.tuple w;rw[k.length,l.length];have:=SeqAt.RcAt.tuples (A:=X.A) (s:=s) (e:=e) (show s.heap.IsTuple a d.toArray from p1) (show s.heap.IsTuple c f.toArray from p2) (by omega) (λj h1 h2=>?_)
   .simpa using this
   .have h1':d[j]?=some d.toArray[j]:=by simp at h1⊢
    have g:f[j]?=some f.toArray[j]:=by simp at h2⊢
    obtain⟨x,ex,m⟩:=D4 k h1';obtain⟨y,r,o⟩:=D4 l g;exact(i j x y ex r).at I (by show X.A.units+1+n<cLine;omega) m o
  |@lst n _ _ xs ys e t w i =>
   obtain⟨d,k,p1,_⟩:=I.list t;obtain⟨f,l,p2,_⟩:=I.list w;rw[k.length,l.length];by_cases p:d.length=f.length
   .have:=SeqAt.RcAt.lists (A:=X.A) (s:=s) (e:=e) p1.isList p2.isList (by simpa using p) (by omega) (λj h1 h2=>?_)
    .simpa[p]using this
    .have h1':d[j]?=some d.toArray[j]:=by simp at h1⊢
     have g:f[j]?=some f.toArray[j]:=by simp at h2⊢
     obtain⟨x,ex,m⟩:=D4 k h1';obtain⟨y,r,o⟩:=D4 l g;exact(i j x y ex r).at I (by show X.A.units+1+n<cLine;omega) m o
   .have:=SeqAt.RcAt.lists_lengths (A:=X.A) (s:=s) p1.isList p2.isList (by simpa using p) (by omega);have z:(d.length==f.length)=false:=by simpa using p
    rw[z,dO];exact this
 exact key _ _ _ _ ⟨.bl _,H,I,rfl,q⟩
theorem b6p(C:X.A.units+60<cLine):OpR X (compareOp .NotEq) (a5M X.K true):=by
 intro pins s σ H x y v u Q I m o h;obtain⟨n,b,B,i,⟨a,c,rfl,rfl⟩,q⟩:=h;cases m;cases o;show wpAny _ _ (richCompare .NotEq (.ref a) (.ref c)) _ _ s;have key:SeqAt.RcNeAt X.A s (.ref a) (.ref c) (!b):=by
  cases i with
  |flat fx fy=>cases fx
  |@tup n _ _ xs ys e t w i =>
   obtain⟨d,k,p1,_⟩:=I.tuple t;obtain⟨f,l,p2,_⟩:=I.tuple w;rw[k.length,l.length];have:=SeqAt.RcNeAt.tuples (A:=X.A) (s:=s) (e:=e) (show s.heap.IsTuple a d.toArray from p1) (show s.heap.IsTuple c f.toArray from p2) (by omega) (λj h1 h2=>?_)
   .simpa using this
   .have h1':d[j]?=some d.toArray[j]:=by simp at h1⊢
    have g:f[j]?=some f.toArray[j]:=by simp at h2⊢
    obtain⟨x,ex,m⟩:=D4 k h1';obtain⟨y,r,o⟩:=D4 l g;exact(i j x y ex r).at I (by show X.A.units+1+n<cLine;omega) m o
  |@lst n _ _ xs ys e t w i =>
   obtain⟨d,k,p1,_⟩:=I.list t;obtain⟨f,l,p2,_⟩:=I.list w;rw[k.length,l.length];by_cases p:d.length=f.length
   .have:=SeqAt.RcNeAt.lists (A:=X.A) (s:=s) (e:=e) p1.isList p2.isList (by simpa using p) (by omega) (λj h1 h2=>?_)
    .simpa[p]using this
    .have h1':d[j]?=some d.toArray[j]:=by simp at h1⊢
     have g:f[j]?=some f.toArray[j]:=by simp at h2⊢
     obtain⟨x,ex,m⟩:=D4 k h1';obtain⟨y,r,o⟩:=D4 l g;exact(i j x y ex r).at I (by show X.A.units+1+n<cLine;omega) m o
   .have:=SeqAt.RcNeAt.lists_lengths (A:=X.A) (s:=s) p1.isList p2.isList (by simpa using p) (by omega);have z:(d.length==f.length)=false:=by simpa using p
    rw[z,dO];exact this
 exact key _ _ _ _ ⟨.bl _,H,I,rfl,q⟩
theorem b4P{ns ms:List Int}:((List.range (min ns.length ms.length)).all (λj=>decide (ns.getD j 0=ms.getD j 0)) && ns.length==ms.length)=decide (ns=ms):=by
 rw[cv];simp only[aL,aR,ba,bC,bh];constructor
 .rintro⟨h1,h2⟩;refine fN h2 λi a b=>?_;have:=h1 i (by omega);simpa[az,a,b]using this
 .rintro rfl;exact⟨λ_ _=>rfl,rfl⟩
theorem b2j{ns:List Int}{j:Nat}{x:V}(h:(ns.map V.int)[j]?=some x):x=.int (ns.getD j 0)/\j<ns.length:=by
 rw[aP]at h;cases e:ns[j]? with
 |none=>rw[e]at h;cases h
 |some z =>
  rw[e]at h;obtain⟨a,_⟩:=aN.mp e;exact⟨by rw[az,e];exact(bx h).symm,a⟩
theorem EqV.ints{K:PySem.W.Frag}{H:Hp}{k:Bool}{a b:Addr}{ns ms:List Int}(c:SqK k K H a (ns.map V.int))(d:SqK k K H b (ms.map V.int)):EqV K H 1 (.ref a) (.ref b) (decide (ns=ms)):=by
 have step:∀j x y,(ns.map V.int)[j]?=some x->(ms.map V.int)[j]?=some y->EqV K H 0 x y (decide (ns.getD j 0=ms.getD j 0)):=λj x y e f=>by
  obtain⟨rfl,_⟩:=b2j e;obtain⟨rfl,_⟩:=b2j f;have:=EqV.flat (K:=K) (H:=H) (n:=0) (x:=.int (ns.getD j 0)) (y:=.int (ms.getD j 0)) rfl rfl;rw[show eqV (.int (ns.getD j 0)) (.int (ms.getD j 0))=decide (ns.getD j 0=ms.getD j 0)from rfl]at this;exact this
 rw[<-b4P];cases k
 .have:=EqV.lst (λj=>decide (ns.getD j 0=ms.getD j 0)) c d step;simpa using this
 .have:=EqV.tup (λj=>decide (ns.getD j 0=ms.getD j 0)) c d step;simpa using this
theorem b2q:b7m X (a6Y X.K):=by
 intro pins s σ H x y v u Q I m n h;obtain⟨p,xs,i,z,rfl,rfl,l,g,q⟩:=h;cases m;obtain⟨t,rfl⟩:=n;obtain⟨its,r,d,B⟩:=I.list l;obtain⟨j,h1,h2,o,e,f⟩:=a5i g;obtain⟨w,b,a⟩:=r.get h2;have k:=r.length;have A:=a0R;have fin:EP X pins σ Q w s:=⟨z,H,I,a,q⟩;by_cases c:0<=i
 .have hj:i.toNat=j:=by
   rw[seqIndex_of c f]at h1;exact bx h1
  exact wpAny_getItem_list d.isList c (by omega) (by rw[hj];simpa using b) fin
 .have hj:(i+(its.toArray.size:Int)).toNat=j:=by
   rw[seqIndex_neg (by omega) e]at h1;rw[aA,<-k];exact bx h1
  exact wpAny_getItem_list_neg d.isList (by omega) (by rw[aA]<;>omega) (by omega) (by rw[hj];simpa using b) fin
def a4G:R2:=λx y H Q=>∃a b xs ys,x=.ref a/\y=.ref b/\H a=some (.tup xs)/\H b=some (.tup ys)/\xs.length+ys.length<=sizeLine/\∀p H',Same H H'->H' p=some (.tup (xs++ys))->Q (.ref p) H'
theorem b1E:OpR X (binaryOp .Add) a4G:=by
 intro pins s σ H x y v u Q I B C h;obtain⟨a,b,xs,ys,rfl,rfl,k,l,E,q⟩:=h;by_cases z:xs=[]
 .subst z;cases B;cases C;obtain⟨its,G,p1,_⟩:=I.tuple (.inl (.inl k));obtain⟨A,J,p2,_⟩:=I.tuple (.inl (.inl l));cases G;obtain⟨⟨cls,dd,data,sl⟩,w,t,n,hd⟩:=id p1;obtain⟨⟨r,j,i,m⟩,g,d,F,f⟩:=id p2;simp only at t hd d f;subst t hd d f;exact concat_meets ⟨_,w,rfl⟩ ⟨_,g,rfl⟩ noFill_tuple_add seq_tuple_add PySem.F.slot_tuple_add PySem.F.entry_tuple_add (PySem.F.args_tuple_add_2 _ _)
   (tuple_addW0 a b _ _ n F dd j sl m (by simp)) ⟨w,g,⟨.ref b,H,I,rfl,q b H (Same.refl H) l⟩⟩
 .refine b3Z pins s σ H _ _ v u Q I B C ⟨a,b,xs,ys,rfl,rfl,.inl (.inl k),.inl (.inl l),z,E,λe=>?_,λ_ p D=>?_⟩
  .subst e;exact q a H (Same.refl H) (by rw[cY];exact k)
  .exact q p _ (λc o e=>by rw[A1 (A6 e D)];exact e) A0
end
open PySem.AutoSeq1 (wpAny_loadPart')
theorem R0:fillsNumberSlot (.type "tuple") "mul"=pure false :=
 PySem.fillsNumberSlot_seq (id:="tuple.__mul__") (r:=some (.builtin "tuple.__rmul__")) eH.lookup (by decide +kernel) F.slot_tuple_rmul.lookup (by decide +kernel)
theorem a0v:seqRepeat? (.type "tuple")=pure (some (.builtin "tuple.__mul__")):=by
 unfold seqRepeat?;rw[PySem.seqSlot_of (T:="tuple") (name:="__mul__") (id:="tuple.__mul__") eH.lookup (by decide +kernel),PySem.seqSlot_of (T:="tuple") (name:="__rmul__") (id:="tuple.__rmul__") F.slot_tuple_rmul.lookup (by decide +kernel)];rfl
theorem a2v(a:Int)(t:Tok)(l:Addr)(items:Array Value)(n:Nat)(dd:Option Addr)(sl:Array (Option Value)) :
  Meets (Builtin.«int.__rmul__» ⟨[.int a t,.ref l],[]⟩) (λ_ R s=>s.heap.get? l=some {cls:=.type "tuple",dict:=dd,data:=.seq items n,slots:=sl}/\R (.ok (.ret Value.notImplemented)) s) :=
 .of_wp λprog w A R s h=>by obtain⟨c,g,d,tk,os⟩:=s;obtain⟨b,h⟩:=h;wp_walk;exact⟨_,rfl,h⟩
theorem a6I(l:Addr)(items:Array Value)(n:Nat)(dd:Option Addr)(sl:Array (Option Value))(u:Tok) :
  Meets (Builtin.«tuple.__mul__» ⟨[.ref l,.int 1 u],[]⟩) (λ_ R s=>s.heap.get? l=some {cls:=.type "tuple",dict:=dd,data:=.seq items n,slots:=sl}/\R (.ok (.ret (.ref l))) s) :=
 .of_wp λprog w A R s h=>by
  obtain⟨b,g,d,tk,os⟩:=s;obtain⟨a,h⟩:=h;have f1:=AutoSeq1.idx_int
  wp_walk using wpAny_loadPart' a
  exact⟨_,rfl,h⟩
theorem a6H(l:Addr)(items:Array Value)(n:Nat)(dd:Option Addr)(sl:Array (Option Value))(x:Int)(u:Tok)(e:items.isEmpty=false)(h1:1<x)(h2:¬(decide (x < -(2 ^ 63)) || decide (x ≥ 2 ^ 63))=true)
  (j:¬((items.size:Int)*x > (2 ^ 63-1) / 8)) (k:¬Builtin.Tuple.tupleTooMany ((items.size:Int)*x)=true) (hsz:(List.foldl (λb c=>b++c) #[] (List.replicate x.toNat items)).size<=sizeLine) :
  Meets (Builtin.«tuple.__mul__» ⟨[.ref l,.int x u],[]⟩) (λ_ R s=>s.heap.get? l=some {cls:=.type "tuple",dict:=dd,data:=.seq items n,slots:=sl} /\
   R (.ok (.ret (.ref s.heap.objs.size))) {s with heap:=s.heap.push {cls:=.type "tuple",data:=.seq (List.foldl (λb c=>b++c) #[] (List.replicate x.toNat items))}}) :=
 .of_wp λprog w A R s h=>by
  obtain⟨p,g,d,tk,os⟩:=s;obtain⟨a,h⟩:=h;have f1:=AutoSeq1.idx_int;have f:(x==1)=false:=by simp;omega
  have i:decide (x<=0)=false:=by simp;omega
  have m:¬((items.isEmpty || x==1)=true):=by rw[e,f];decide
  have o:¬((decide (x<=0) || items.isEmpty)=true):=by rw[e,i];decide
  wp_walk using wpAny_loadPart' a
  rw[ao h2]
  wp_walk using wpAny_loadPart' a
  rw[ao j]
  wp_walk using wpAny_loadPart' a
  first
   |exact⟨_,rfl,h⟩
   |(rw[ao k];wp_walk using wpAny_loadPart' a;exact⟨_,rfl,h⟩)
theorem a2Y{α:Type}(its:List α):∀(k:Nat) (a:List α),List.foldl (λb c=>b++c) a.toArray (List.replicate k its.toArray)=(a++(List.replicate k its).flatten).toArray
 |0,a=>by simp
 |k+1,a=>by
  have e:a.toArray++its.toArray=(a++its).toArray:=by simp
  rw[bG,c_,e,a2Y its k,bG,cR,aH]
section
variable {X:Cx}
def b1i:R2:=λx y H Q=>∃a xs n,x=.ref a/\y=.int n/\H a=some (.tup xs)/\xs≠[]/\1<=n/\(xs.length:Int)*n<=(sizeLine:Int)/\∀p H',Same H H'->H' p=some (.tup (List.replicate n.toNat xs).flatten)->Q (.ref p) H'
theorem a8o:OpR X (binaryOp .Mult) b1i:=by
 intro pins s σ H x y v u Q I J K h;obtain⟨a,xs,n,rfl,rfl,l,i,M,N,q⟩:=h;cases J;obtain⟨t,rfl⟩:=K;obtain⟨its,r,p1,G⟩:=I.tuple (.inl (.inl l));obtain⟨⟨cls,dd,data,sl⟩,g,w,m,hd⟩:=id p1;simp only at w hd;subst w hd;have d:=r.length;have f:0<its.length:=by rw[<-d];exact List.length_pos_iff.mpr i
 refine eT (T:="tuple") (U:="int") (by decide) ⟨_,g,rfl⟩ (λs'=>fk s' n t) R0 F.fills_int_mul dZ a0v F.slot_int_index.lookup
  (de dZ (fk s n t) F.entry_int_rmul (F.args_int_rmul_2 _ _) (a2v n t a its.toArray m dd sl) ⟨g,rfl,⟨_,g,rfl⟩,?_⟩)
 by_cases h1:n=1
 .subst h1;refine de eH ⟨_,g,rfl⟩ F.entry_tuple_mul (F.args_tuple_mul_2 _ _) (a6I a its.toArray m dd sl t) ⟨g,.ref a,H,I,rfl,q a H (Same.refl H) ?_⟩;rw[l];simp
 .have e0:=a2Y its n.toNat [];rw[bS]at e0;have C:((List.replicate n.toNat its).flatten).length=n.toNat*its.length:=a4T its n.toNat;have p:n.toNat*its.length<=sizeLine:=by
   have L:((n.toNat*its.length:Nat):Int)=(xs.length:Int)*n:=by
    rw[d];push_cast;rw[Int.toNat_of_nonneg (by omega),Int.mul_comm]
   omega
  have hs:sizeLine=16777216:=aV;have E:(its.toArray.size:Int)*n<=16777216:=by rw[aA,<-d];omega
  have D:n<=(its.toArray.size:Int)*n:=by
   have A:(1:Int)<=(its.toArray.size:Int):=by rw[aA];omega
   have:=Int.mul_le_mul_of_nonneg_right A (show(0:Int)<=n by omega);omega
  refine de eH ⟨_,g,rfl⟩ F.entry_tuple_mul (F.args_tuple_mul_2 _ _) (a6H a its.toArray m dd sl n t (by simp;intro z;rw[z]at f;exact bQ _ f) (by omega) ?_ ?_ ?_ ?_) ⟨g,?_⟩
  .simp only[Bool.or_eq_true,bC,not_or];omega
  .omega
  .simp only[Builtin.Tuple.tupleTooMany,bC];omega
  .have e0':List.foldl (λj k=>j++k) #[] (List.replicate n.toNat its.toArray)=(List.replicate n.toNat its).flatten.toArray:=e0;rw[e0',aA,C];exact p
  .have e0':List.foldl (λj k=>j++k) #[] (List.replicate n.toNat its.toArray)=(List.replicate n.toNat its).flatten.toArray:=e0;rw[e0'];have B:H s.heap.objs.size=none:=I.hok.fresh (aj _);refine⟨.ref s.heap.objs.size,_,I.laid (t':=s.toks) (o:=.tup (List.replicate n.toNat xs).flatten) (λb O q=>ae _ q) (aj _) ?_,rfl,q _ _ (λc o e=>by rw[A1 (A6 e B)];exact e) A0⟩;exact⟨by rw[a4T,d];exact p,_,r.rep n.toNat,IsTup.new _ _⟩
end
end L2
namespace L2
open PySem PySem.Spec PyProof.Rows
section
variable {X:Cx}{pos:Pos}
theorem b3O(K:PySem.W.Frag){es:List Expr}{k:Nat}{t:TGs}{n:Nat}(c:X.calm=true)(h:PGs X es t)(b:X.K=K:=by rfl)
  (d:(assignEach es X.env).length=n:=by rfl) (a:(assignEach es X.env).findIdx? (·.1)=none:=by rfl):PG X (.Tuple es k pos) (a6n K n t):=by
 subst b;exact b5W c h d a
theorem b1w(K:PySem.W.Frag){tg l:Expr}{tl:TE}(b:PE X l tl)(a:X.K=K:=by rfl):PI X tg l (b2l K tl):=by subst a;exact b3L b
theorem b3K(K:PySem.W.Frag){tg l:Expr}{tl:TE}(b:PE X l tl)(a:X.K=K:=by rfl):PI X tg l (b6T K tl):=by subst a;exact b5V b
theorem b3J(K:PySem.W.Frag){es:List Expr}{h:Nat}{i:Pos}{a b:Expr}{ta:TA}{p pos:Pos}(f:Gl X "zip")(g:X.mg "zip"=none)(e:PA X [a,b] ta)(d:X.K=K:=by rfl)
  (hs:starEach [a,b] X.env=[(false,eval a X.env),(false,eval b X.env)]:=by rfl) (c:starEach [b] X.env=[(false,eval b X.env)]:=by rfl) :
  PI X (.Tuple es h i) (.Call (.Name "zip" p) [a,b] [] pos) (b6S K ta):=by subst d;exact b5U f g e b7b hs c
def a8W(K:PySem.W.Frag)(ta:TE):TT:=λσ H Q=>ta σ H λx H'=>∃k,b7k K x H' k/\Q k H'
theorem a9q(K:PySem.W.Frag){a:Expr}{ta:TE}(d:PE X a ta)(e:∀b,isTrue a X.env b=(do let v <-b;standAt a.pos;holding [v] (truthy v)))(c:X.K=K:=by rfl):PT X a (a8W K ta):=by
 subst c;exact b1m d e
theorem b2i(K:PySem.W.Frag)(a:X.K=K:=by rfl):IxR X (a6Y K):=by subst a;exact b4s
theorem b4r(K:PySem.W.Frag)(a:X.K=K:=by rfl):IxR X (b5I K):=by subst a;exact b6O
theorem a9O(K:PySem.W.Frag)(a:X.K=K:=by rfl):b7m X (a6Y K):=by subst a;exact b2q
theorem b0O(K:PySem.W.Frag)(a:X.K=K:=by rfl):SlR X (b5H K):=by subst a;exact b3i
theorem b3h(K:PySem.W.Frag)(a:X.K=K:=by rfl):SlR X (b1g K):=by subst a;exact b0N
theorem b6t(K:PySem.W.Frag)(b:X.A.units+60<cLine)(a:X.K=K:=by rfl):OpR X (compareOp .Eq) (a5M K false):=by subst a;exact b6u b
theorem b6o(K:PySem.W.Frag)(b:X.A.units+60<cLine)(a:X.K=K:=by rfl):OpR X (compareOp .NotEq) (a5M K true):=by subst a;exact b6p b
theorem b0j(K:PySem.W.Frag)(b:X.calm=true)(a:X.K=K:=by rfl):D0 X (.builtin "all") (b5L K):=by subst a;exact b2H b
theorem b0i(K:PySem.W.Frag)(b:X.calm=true)(a:X.K=K:=by rfl):D0 X (.builtin "any") (b5K K):=by subst a;exact b2G b
theorem a9Z(K:PySem.W.Frag)(b:X.calm=true)(a:X.K=K:=by rfl):D0 X (.builtin "sum") (b5G K):=by subst a;exact b2E b
theorem b0f(K:PySem.W.Frag)(a:X.K=K:=by rfl):D0 X (.builtin "isinstance") (b5J K):=by subst a;exact b2F
def b7y(K:PySem.W.Frag):RL:=λxs H Q=>∃p ys,xs=[.ref p]/\(SqL K H p ys∨SqT K H p ys)/\Q (.int ys.length) H
def b5e(K:PySem.W.Frag):RL:=λxs H Q=>∃p ys,xs=[.ref p]/\(SqL K H p ys∨SqT K H p ys)/\∀l,H l=none->Q (.ref l) (upd H l (.lst ys))
def b1d(K:PySem.W.Frag):RL:=λxs H Q=>∃p ys,xs=[.ref p]/\((SqL K H p ys/\∀l,H l=none->Q (.ref l) (upd H l (.tup ys)))∨(SqT K H p ys/\Q (.ref p) H))
theorem b0e(K:PySem.W.Frag)(a:X.K=K:=by rfl):D0 X (.builtin "len") (b7y K):=by subst a;exact a5g
theorem a7B(K:PySem.W.Frag)(a:X.K=K:=by rfl):D0 X (.type "list") (b5e K):=by subst a;exact a5f
theorem a6x(K:PySem.W.Frag)(a:X.K=K:=by rfl):D0 X (.type "tuple") (b1d K):=by subst a;exact a3u
def a9n:RL:=λxs H Q=>∃i j,xs=[.int i,.int j]/\Q (.int (if j<i then j else i)) H
def b3w:RL:=λxs H Q=>∃i j,xs=[.int i,.int j]/\Q (.int (if j > i then j else i)) H
def b7z:RL:=λxs H Q=>(∃i,xs=[.int i]/\Q (.int i) H)∨∃k,xs=[.bl k]/\Q (.int (if k then 1 else 0)) H
theorem b0b(a:X.calm=true):D0 X (.builtin "min") a9n:=b0c a
theorem b0g:D0 X (.type "int") b7z:=b0h
variable {o e:Expr}{es:List Expr}{to:TE}{t:TA}{name:Str}{apos cpos:Pos}{T id:String}{r:V->List V->Hp->VK->Prop}
theorem a7b(K:PySem.W.Frag)(l:PlainAttrs T)(f:Slot T name id)(g:typeOf (.builtin id)=pure (.type "method_descriptor"))(j:MtR X id r)(k:PE X o to)(i:PA X (e::es) t)(h:X.K=K:=by rfl)
  (b:attributeBase o name X.env (eval o X.env)=eval o X.env:=by rfl)
  (d:((backTo cpos (starEach (e::es) X.env)).all (λx=>!x.1) && (backToKw cpos (keywordEach [] X.env)).all (λx=>x.1.isSome)
   && decide ((e::es).length+([]:List Keyword).length+(if ([]:List Keyword).isEmpty then 0 else 1)<30))=true:=by rfl)
  (c:(apos.endLine==cpos.line)=true:=by rfl) (hs:starEach (e::es) X.env=(false,eval e X.env)::starEach es X.env:=by rfl) (a:(backTo cpos (starEach es X.env)).any (·.1)=false:=by rfl) :
  PE X (.Call (.Attribute o name apos) (e::es) [] cpos) (tBM K T r to t):=by subst h;exact b7G l f g j k i b d c hs a
end
def IT(H:Hp)(v:V)(ns:List Int):Prop:=∃a,v=.ref a/\H a=some (.tup (ns.map V.int))
theorem IT.same{H H':Hp}{v:V}{ns:List Int}(h:IT H v ns)(s:Same H H')   : IT H' v ns:=let ⟨a,e,q⟩:=h;⟨a,e,s a _ q⟩
theorem Same.upd{H H':Hp}{p:Addr}{o:HO}(s:Same H H')(hp:H' p=none):Same H (upd H' p o):=λb u e=>by
 rw[A1 (A6 (s b u e) hp)];exact s b u e
theorem D5{H:Hp}{p b:Addr}{o u:HO}(a:H b=some u)(hp:H p=none):upd H p o b=some u:=by rw[A1 (A6 a hp)];exact a
def Off(l:List Addr)(H H':Hp):Prop:=∀b o,b∉l->H b=some o->H' b=some o
theorem Off.refl(l:List Addr)(H:Hp):Off l H H:=λ_ _ _ e=>e
theorem Off.trans{l:List Addr}{H H1 H2:Hp}(a:Off l H H1)(b:Off l H1 H2):Off l H H2:=λc o d e=>b c o d (a c o d e)
theorem Same.off{l:List Addr}{H H':Hp}(s:Same H H'):Off l H H':=λb o _ e=>s b o e
theorem Off.upd{l:List Addr}{H H':Hp}{p:Addr}{o:HO}(s:Off l H H')(hp:H' p=none):Off l H (upd H' p o):=λb u a e=>by
 rw[A1 (A6 (s b u a e) hp)];exact s b u a e
theorem Off.set{l:List Addr}{H H':Hp}{p:Addr}{o:HO}(s:Off l H H')(hp:p∈l):Off l H (L2.upd H' p o):=λb u a e=>by
 rw[A1 (by rintro rfl;exact a hp)];exact s b u a e
theorem K4(ns:List Int):(ns.map V.int).length=ns.length:=ai _
theorem Y9{ns:List Int}{i:Nat}{x:V}(h:(ns.map V.int)[i]?=some x):∃z,ns[i]?=some z/\x=.int z:=by
 rw[aP]at h;cases e:ns[i]? with
 |none=>rw[e]at h;cases h
 |some z=>rw[e]at h;exact⟨z,rfl,(bx h).symm⟩
theorem L4{α β γ:Type}(f:α->β->γ){xs:List α}{ys:List β}{i:Nat}{x:α}{y:β}(a:xs[i]?=some x)(b:ys[i]?=some y):(List.zipWith f xs ys).take (i+1)=(List.zipWith f xs ys).take i++[f x y]:=by
 have:(List.zipWith f xs ys)[i]?=some (f x y):=by rw[List.getElem?_zipWith,a,b]
 rw[bf,this];rfl
theorem b0p{K:PySem.W.Frag}{src:List (Option Nat)}{σ caps:St}{Q:VK}{k1 k2:Bool}{a b:Addr}{xs ys:List Int}{H:Hp}{te:TE}(f:Int->Int->V)(t:SqK k1 K H a (xs.map V.int))(u:SqK k2 K H b (ys.map V.int))(w:xs.length<=1000)
  (c:∀H',Same H H'->SqK k1 K H' a (xs.map V.int)/\SqK k2 K H' b (ys.map V.int))
  (g:B1 src σ=none::none::caps) (l:∀x y H1 o,Same H H1->o (f x y) H1->te (some (.int x)::some (.int y)::caps) H1 o)
  (hd:∀H1 p,Same H H1->H1 p=none->Q (.ref p) (upd H1 p (.lst (List.zipWith f xs ys)))) :
  E6 src (a6n K 2 (U7 (B0 0) (U7 (B0 1) a7u))) J3 te σ Q (Itz K k1 k2 a b) H:=by
 have A:(1000:Nat)<=sizeLine:=by rw[aV];decide
 refine W5 (xs:=xs.map V.int) (zs:=ys.map V.int) (by rw[K4];omega) (λi zs H'=>Same H H'/\zs=(List.zipWith f xs ys).take i) ⟨Same.refl H,by simp⟩ (λi zs H' _ _ h=>⟨(c H' h.1).1,(c H' h.1).2,by rw[h.2];exact bD _ _⟩) ?_ ?_
 .rintro i x z zs H' p hx hy ⟨s,rfl⟩ hp;obtain⟨k,m,q⟩:=Y9 hx;obtain⟨d,n,r⟩:=Y9 hy;subst q r;clear hx hy;have s':Same H (upd H' p (.tup [.int k,.int d])):=s.upd hp;refine⟨p,[.int k,.int d],rfl,SqT.of A0,rfl,.int k,[.int d],rfl,.int d,[],rfl,rfl,?_⟩;rw[g];show Sub _ (some (.int k)::some (.int d)::caps)/\_;refine⟨⟨rfl,λj v e=>?_⟩,?_⟩
  .match j,e with
   |0,e=>cases e
   |1,e=>cases e
   |j+2,e=>exact e
  .exact l k d _ _ s' ⟨s',(L4 f m n).symm⟩
 .rintro zs H' ⟨s,rfl⟩ p hp;have e:(List.zipWith f xs ys).take (min (xs.map V.int).length (ys.map V.int).length)=List.zipWith f xs ys:=by
   rw[K4,K4,bN];rw[eR];exact aj _
  rw[e];exact hd H' p s hp
theorem Sub.one{caps:St}{v:V}:Sub (none::caps) (some v::caps):=⟨rfl,λj u e=>by
 match j,e with
 |0,e=>cases e
 |j+1,e=>exact e⟩
theorem a0w{src:List (Option Nat)}{σ caps:St}{Q:VK}{n:Nat}{H:Hp}{e:TT}{te:TE}(h:n<=1000)(c:B1 src σ=none::caps)(a:Nat->List V->Hp->Prop)(h0:a 0 [] H)(g:∀i ys H,a i ys H->ys.length<=i)
  (hs:∀i ys H,i<n->a i ys H->e (some (.int i)::caps) H λb d=>if b=true then te (some (.int i)::caps) d λv f=>a (i+1) (ys++[v]) f else a (i+1) ys d)
  (hd:∀ys H,a n ys H->∀p,H p=none->Q (.ref p) (upd H p (.lst ys))):E6 src (B0 0) e te σ Q (Itr 0 n) H:=by
 have j:(1000:Nat)<=sizeLine:=by rw[aV];decide
 refine a7w (by omega) a h0 g (λi ys H hi p=>?_) hd;show Sub _ ((B1 src σ).set 0 (some (.int (0+(i:Int)))))/\_;rw[c,Int.zero_add];exact⟨Sub.one,hs i ys H hi p⟩
theorem b0y{K:PySem.W.Frag}{src:List (Option Nat)}{σ caps:St}{Q:VK}{a:Addr}{xs:List Int}{H:Hp}{te:TE}(f:Int->V)(j:xs.length<=1000)(b:∀H',Same H H'->SqT K H' a (xs.map V.int))(c:B1 src σ=none::caps)
  (e:∀x H1 g,x∈xs->Same H H1->g (f x) H1->te (some (.int x)::caps) H1 g) (hd:∀H1 p,Same H H1->H1 p=none->Q (.ref p) (upd H1 p (.lst (xs.map f)))):E6 src (B0 0) J3 te σ Q (Itt K a) H:=by
 have k:(1000:Nat)<=sizeLine:=by rw[aV];decide
 refine K7 (xs:=xs.map V.int) (by rw[K4];omega) (λi ys H'=>Same H H'/\ys=(xs.take i).map f) ⟨Same.refl H,by simp⟩ (λi ys H' _ h=>⟨b H' h.1,by rw[h.2,ai];exact bD _ _⟩) ?_ ?_
 .rintro i x ys H' hx ⟨s,rfl⟩;obtain⟨z,d,rfl⟩:=Y9 hx;show Sub _ ((B1 src σ).set 0 (some (.int z)))/\_;rw[c];refine⟨Sub.one,e z H' _ (aF d) s ⟨s,?_⟩⟩;rw[bf,d];simp
 .rintro ys H' ⟨s,rfl⟩ p hp;rw[K4,bg];exact hd H' p s hp
theorem a6V{src:List (Option Nat)}{σ caps:St}{Q:VK}{n:Nat}{H:Hp}{te:TE}(f:Nat->V)(c:n<=1000)(a:B1 src σ=none::caps)(b:∀(i:Nat) H1 Q1,i<n->Same H H1->Q1 (f i) H1->te (some (.int i)::caps) H1 Q1)
  (hd:∀H1 p,Same H H1->H1 p=none->Q (.ref p) (upd H1 p (.lst ((List.range n).map f)))):E6 src (B0 0) J3 te σ Q (Itr 0 n) H:=by
 refine a0w c a (λi ys H'=>Same H H'/\ys=(List.range i).map f) ⟨Same.refl H,rfl⟩ (λi ys H' h=>by rw[h.2];simp) ?_ ?_
 .rintro i ys H' hi ⟨s,rfl⟩;refine b i H' _ hi s ⟨s,?_⟩;rw[List.range_succ,b_];rfl
 .rintro ys H' ⟨s,rfl⟩ p hp;exact hd H' p s hp
theorem Room.u60{k:Nat}{A:Around}(r:Room k A):A.units+60<cLine:=by have:=r.un;omega
theorem a0r{t u:TS}{D:Ends}{σ:St}{H:Hp}(a:St->Hp->Prop)(fin:∀σ H,a σ H->u D σ H)(h:(∀σ H,a σ H->u D σ H)->t {D with nx:=u D} σ H):a5u t u D σ H:=h fin
theorem b7s{K:PySem.W.Frag}{a:Bool}{te:TE}{σ:St}{H:Hp}{Q:VK}{b:Addr}{cs:List Int}(c:∀d:VK,d (.ref b) H->te σ H d)(f:H b=some (.lst (cs.map V.int)))
  (q:∀p,H p=none->Q (.bl (if a then !decide (cs=[])else decide (cs=[]))) (upd H p (.lst []))):tOp (a5M K a) te (a4o P5) σ H Q :=
 c _ ⟨bo _,λp e=>⟨1,_,by decide,EqV.ints (k:=false) (ms:=[]) (SqL.of (D5 f e)) (SqL.of A0),⟨_,_,rfl,rfl⟩,q p e⟩⟩
theorem b4T{K:PySem.W.Frag}{a:Bool}{te:TE}{σ:St}{H:Hp}{Q:Bool->Hp->Prop}{b:Addr}{cs:List Int}(c:∀d:VK,d (.ref b) H->te σ H d)(e:H b=some (.lst (cs.map V.int)))
  (q:∀p,H p=none->Q (if a then !decide (cs=[])else decide (cs=[])) (upd H p (.lst []))):N3 (tOp (a5M K a) te (a4o P5)) σ H Q :=
 b7s c e λp f=>⟨_,rfl,q p f⟩
theorem ixL{K:PySem.W.Frag}{ta tb:TE}{σ:St}{H:Hp}{Q:VK}{p:Addr}{xs:List V}{i:Int}{v:V}(b:∀a:VK,a (.ref p) H->ta σ H a)(c:∀a:VK,a (.int i) H->tb σ H a)(hp:H p=some (.lst xs))(e:atI xs i=some v)(q:Q v H):tOp (a6Y K) ta tb σ H Q :=
 b _ (c _ ⟨p,xs,i,v,rfl,rfl,SqL.of hp,e,q⟩)
theorem b6Y(xs:List Int)(k:Nat)(a:k<=xs.length):K9 (xs.map V.int) none (some (k:Int))=(xs.take k).map V.int:=by
 unfold K9;rw[HT.sIx_none,HT.sIx_nat,ai,dE a,cW,Nat.sub_zero,List.map_take]
theorem b6Z(xs:List Int)(k:Nat)(a:k<=xs.length):K9 (xs.map V.int) (some (k:Int)) none=(xs.drop k).map V.int:=by
 unfold K9;rw[HT.sIx_none,HT.sIx_nat,ai,dE a,bN (by simp),List.map_drop]
theorem a9e(xs:List Int)(k:Nat)(z:Int)(a:k<xs.length):xs.take k++[z]++xs.drop (k+1)=xs.set k z:=by
 rw[List.set_eq_take_append_cons_drop,ay a,aH];rfl
theorem b5M{K:PySem.W.Frag}{σ:St}{H:Hp}{Q:VK}{i j:Nat}{tx:TE}{a:Addr}{xs:List Int}{k:Nat}{z:Int}(hi:σ[i]?=some (some (.ref a)))(l:σ[j]?=some (some (.int k)))(h:H a=some (.tup (xs.map V.int)))(s:k<xs.length)(B:xs.length<=1000)
  (e:∀H' (N:VK),Same H H'->N (.int z) H'->tx σ H' N) (q:∀v H',Same H H'->IT H' v (xs.set k z)->Q v H') :
  tOp a4G (tOp a4G (tSl (b1g K) (P0 i) J9 (a1n (P0 j))) (a2e (L0 tx P5))) (tSl (b1g K) (P0 i) (a1n (tOp (rI0 λi j=>.int (i+j)) (P0 j) (tC (.int 1)))) J9) σ H Q:=by
 have C:(3000:Nat)<=sizeLine:=by rw[aV];decide
 refine⟨_,hi,_,l,k,rfl,a,_,rfl,SqT.of h,?_,λp t=>?_⟩
 .rw[HT.sIx_none,HT.sIx_nat,ai];omega
 .rw[b6Y xs k (by omega)];have s1:Same H (upd H p (.tup ((xs.take k).map V.int))):=(Same.refl H).upd t;have f:upd H p (.tup ((xs.take k).map V.int)) p=some (.tup ((xs.take k).map V.int)):=A0;generalize upd H p (.tup ((xs.take k).map V.int))=H1 at s1 f;refine e H1 _ s1 ⟨by show 1<=sizeLine;omega,λp2 c=>?_⟩;have s2:Same H1 (upd H1 p2 (.tup [.int z])):=(Same.refl H1).upd c;have g:upd H1 p2 (.tup [.int z]) p2=some (.tup [.int z]):=A0;generalize upd H1 p2 (.tup [.int z])=H2 at s2 g;refine⟨p,p2,_,_,rfl,rfl,s2 _ _ f,g,?_,λu b x o=>?_⟩
  .rw[ai,aY];show min k xs.length+1<=_;omega
  .have s13:Same H b:=(s1.trans s2).trans x;refine⟨_,hi,_,l,_,_,rfl,rfl,_,rfl,a,_,rfl,SqT.of (s13 _ _ h),?_,λm d=>?_⟩
   .rw[show((k:Int)+1)=((k+1:Nat):Int) by push_cast;rfl,HT.sIx_nat,ai];omega
   .rw[show((k:Int)+1)=((k+1:Nat):Int) by push_cast;rfl,b6Z xs (k+1) (by omega)];have n:Same b (upd b m (.tup ((xs.drop (k+1)).map V.int))):=(Same.refl b).upd d;refine⟨u,m,_,_,rfl,rfl,n _ _ o,A0,?_,λw A y r=>?_⟩
    .rw[aq,ai,aY,ai,bV];show min k xs.length+1+_<=_;omega
    .refine q _ _ ((s13.trans n).trans y) ⟨w,rfl,?_⟩;rw[r,<-a9e xs k z s];simp
theorem var{i:Nat}{σ:St}{H:Hp}{v:V}(e:σ[i]?=some (some v)):∀Q:VK,Q v H->P0 i σ H Q:=λQ q=>⟨v,e,q⟩
theorem con{v:V}{σ:St}{H:Hp}:∀Q:VK,Q v H->tC v σ H Q:=λQ q=>q
structure JE(X:Cx)(e:Expr)(t:TE):Prop where
 h:PE X e t
structure JT(X:Cx)(e:Expr)(t:TT):Prop where
 h:PT X e t
structure JW(X:Cx)(e:Expr)(t:TT):Prop where
 h:PW X e t
structure JA(X:Cx)(es:List Expr)(t:TA):Prop where
 h:PA X es t
structure JS(X:Cx)(st:Stmt)(t:TS):Prop where
 h:PS X st t
structure JB(X:Cx)(st:List Stmt)(t:TS):Prop where
 h:PSs X st t
structure JG(X:Cx)(tg:Expr)(t:TG):Prop where
 h:PG X tg t
structure JGs(X:Cx)(ts:List Expr)(t:TGs):Prop where
 h:PGs X ts t
structure JI(X:Cx)(tg iter:Expr)(t:TI):Prop where
 h:PI X tg iter t
structure JF(X:Cx)(ifs:List Expr)(t:TT):Prop where
 h:PIf X ifs t
structure JO(X:Cx)(e:Option Expr)(t:TO):Prop where
 h:PO X e t
section
variable {X:Cx}{a b c e o:Expr}{es rest:List Expr}{ta tb tc te to:TE}{tA tB:TT}{t:TA}{pos p apos cpos p2:Pos}
theorem jv(i:Nat){x:Str}(b:X.N[i]?=some x:=by rfl)(c:Vis X.env.scope x:=by first|exact Or.inl rfl|exact Or.inr (Or.inl rfl)|exact Or.inr (Or.inr rfl))(hd:(x==("__debug__" : Str))=false:=by decide)
  (a:(x==("__classdict__" : Str))=false:=by decide):JE X (.Name x pos) (P0 i):=⟨b1y b c hd a⟩
theorem A4{i j}:JE X (.Constant (.int i) j pos) (tC (.int i)):=⟨b6e⟩
theorem J2{i j}:JE X (.Constant (.bool i) j pos) (tC (.bl i)):=⟨b7H⟩
theorem O6{j}:JE X (.Constant .none j pos) (tC .non):=⟨b6c⟩
theorem a6m{x j}:JE X (.Constant (.str x) j pos) (tC (.str x)):=⟨b5Z⟩
theorem a4Y{x:Str}{v:V}{u:Value}(a:Gl X x)(b:X.mg x=none)(d:bootBuiltins x=some u)(r:RelV v u)(c:x≠"__name__":=by decide)(hd:(x==("__debug__" : Str))=false:=by decide):JE X (.Name x pos) (tC v):=⟨b3U a b d r c hd⟩
theorem M8(c:JE X a ta)(d:JE X b tb):JE X (.BinOp a .Add b pos) (tOp (rI0 λi j=>.int (i+j)) ta tb):=⟨U6 b6w c.h d.h⟩
theorem a3T(c:JE X a ta)(d:JE X b tb):JE X (.BinOp a .Sub b pos) (tOp (rI0 λi j=>.int (i-j)) ta tb):=⟨U6 b6l c.h d.h⟩
theorem a0b(c:JE X a ta)(d:JE X b tb):JE X (.BinOp a .Mult b pos) (tOp (rI CMul λi j=>.int (i*j)) ta tb):=⟨U6 b6q c.h d.h⟩
theorem a0B(c:JE X a ta)(d:JE X b tb):JE X (.BinOp a .Mod b pos) (tOp (rI (λ_ j=>0<j) λi j=>.int (i % j)) ta tb):=⟨U6 b6r c.h d.h⟩
theorem b2h(c:JE X a ta)(d:JE X b tb):JE X (.BinOp a .FloorDiv b pos) (tOp (rI b8b λi j=>.int (i / j)) ta tb):=⟨U6 b3Y c.h d.h⟩
theorem a3U(c:JE X a ta)(d:JE X b tb):JE X (.BinOp a .Pow b pos) (tOp (rI b8a λi j=>.int (i ^ j.toNat)) ta tb):=⟨U6 b6n c.h d.h⟩
theorem O5(c:JE X a ta)(d:JE X b tb):JE X (.BinOp a .Add b pos) (tOp (a4G) ta tb):=⟨U6 b1E c.h d.h⟩
theorem b5p(c:JE X a ta)(d:JE X b tb):JE X (.BinOp a .Add b pos) (tOp (b7B) ta tb):=⟨U6 b6v c.h d.h⟩
theorem a2R(c:JE X a ta)(d:JE X b tb):JE X (.BinOp a .Mult b pos) (tOp (b1i) ta tb):=⟨U6 a8o c.h d.h⟩
theorem b7R(c:JE X a ta)(d:JE X b tb):JE X (.BinOp a .Mult b pos) (tOp (b7x) ta tb):=⟨U6 b6m c.h d.h⟩
theorem a8w(b:JE X a ta):JE X (.UnaryOp .USub a pos) (tUn (rU λi=>.int (-i)) ta):=⟨b7E b5v b.h⟩
theorem b7T(b:JE X a ta):JE X (.UnaryOp .Not a pos) (a3z ta):=⟨b6b b.h⟩
theorem a1v{op}(h:JE X a ta):JE X (.BoolOp op [a] pos) ta:=⟨b6a h.h⟩
theorem a1w(c:JE X a ta)(d:JE X (.BoolOp .And (b::rest) pos) tb):JE X (.BoolOp .And (a::b::rest) pos) (a3C ta tb):=⟨b6h c.h d.h⟩
theorem b7S(c:JE X a ta)(d:JE X (.BoolOp .Or (b::rest) pos) tb):JE X (.BoolOp .Or (a::b::rest) pos) (a8X ta tb):=⟨b7F c.h d.h⟩
theorem b7U(f:JT X c tA)(d:JE X a ta)(e:JE X b tb):JE X (.IfExp c a b pos) (tIf tA ta tb):=⟨b1A f.h d.h e.h⟩
theorem a3R(c:JE X a ta)(d:JE X b tb):JE X (.Compare a [.Eq] [b] pos) (tOp (rEq) ta tb):=⟨S3 b5i c.h d.h (G0 _)⟩
theorem a6i(c:JE X a ta)(d:JE X b tb):JT X (.Compare a [.Eq] [b] pos) (N3 (tOp (rEq) ta tb)):=⟨O3 b5i c.h d.h (G0 _)⟩
theorem b1Y(c:JE X a ta)(d:JE X b tb):JT X (.Compare a [.Lt] [b] pos) (N3 (tOp (rI0 λi j=>.bl (decide (i<j))) ta tb)):=⟨O3 b7I c.h d.h (G0 _)⟩
theorem b5k(c:JE X a ta)(d:JE X b tb):JE X (.Compare a [.LtE] [b] pos) (tOp (rI0 λi j=>.bl (decide (i<=j))) ta tb):=⟨S3 b7J c.h d.h (G0 _)⟩
theorem b7Q(c:JE X a ta)(d:JE X b tb):JT X (.Compare a [.Gt] [b] pos) (N3 (tOp (rI0 λi j=>.bl (decide (j<i))) ta tb)):=⟨O3 b7K c.h d.h (G0 _)⟩
theorem b7P(c:JE X a ta)(d:JE X b tb):JE X (.Compare a [.GtE] [b] pos) (tOp (rI0 λi j=>.bl (decide (j<=i))) ta tb):=⟨S3 b5h c.h d.h (G0 _)⟩
theorem b5l(c:JE X a ta)(d:JE X b tb):JT X (.Compare a [.GtE] [b] pos) (N3 (tOp (rI0 λi j=>.bl (decide (j<=i))) ta tb)):=⟨O3 b5h c.h d.h (G0 _)⟩
theorem b6H(K:PySem.W.Frag)(f:X.A.units+60<cLine)(d:JE X a ta)(e:JE X b tb)(c:X.K=K:=by rfl):JE X (.Compare a [.Eq] [b] pos) (tOp (a5M K false) ta tb):=⟨S3 (b6t K f c) d.h e.h (G0 _)⟩
theorem a7l(K:PySem.W.Frag)(f:X.A.units+60<cLine)(d:JE X a ta)(e:JE X b tb)(c:X.K=K:=by rfl):JT X (.Compare a [.NotEq] [b] pos) (N3 (tOp (a5M K true) ta tb)):=⟨O3 (b6o K f c) d.h e.h (G0 _)⟩
theorem b1X(c:JE X a ta)(d:JE X b tb):JE X (.Compare a [.Is] [b] pos) (tOp (λx y H Q=>y=.non/\Q (.bl (decide (x=.non))) H) ta tb):=⟨S3 b1F c.h d.h (G0 _)⟩
theorem b1Z(c:JE X a ta)(d:JE X b tb):JT X (.Compare a [.Is] [b] pos) (N3 (tOp (λx y H Q=>y=.non/\Q (.bl (decide (x=.non))) H) ta tb)):=⟨O3 b1F c.h d.h (G0 _)⟩
theorem b4n(c:JE X a ta)(d:JE X b tb):JE X (.Compare a [.IsNot] [b] pos) (tOp (λx y H Q=>y=.non/\Q (.bl (!decide (x=.non))) H) ta tb):=⟨S3 a8p c.h d.h (G0 _)⟩
theorem a8s(c:JE X a ta)(d:JE X b tb):JT X (.Compare a [.IsNot] [b] pos) (N3 (tOp (λx y H Q=>y=.non/\Q (.bl (!decide (x=.non))) H) ta tb)):=⟨O3 a8p c.h d.h (G0 _)⟩
theorem b6G(k:Bool)(c:JE X a ta)(d:JE X b tb):JE X (.Compare a [.Is] [b] pos) (tOp (λx y H Q=>y=.bl k/\Q (.bl (a3I x k)) H) ta tb):=⟨S3 (b6s (b:=k)) c.h d.h (G0 _)⟩
theorem a0Y(k:Bool)(c:JE X a ta)(d:JE X b tb):JT X (.Compare a [.IsNot] [b] pos) (N3 (tOp (λx y H Q=>y=.bl k/\Q (.bl (!a3I x k)) H) ta tb)):=⟨O3 (a9w (b:=k)) c.h d.h (G0 _)⟩
theorem a2O(h:JW X e tA):JT X e tA:=⟨h.h.pt⟩
theorem a0A(b:JT X a tA):JW X (.BoolOp .And [a] pos) tA:=⟨pw_and1 b.h⟩
theorem a0X(b:JT X a tA):JW X (.BoolOp .Or [a] pos) tA:=⟨pw_or1 b.h⟩
theorem a2N(c:JT X a tA)(d:JW X (.BoolOp .And (b::rest) pos) tB):JW X (.BoolOp .And (a::b::rest) pos) (a9a tA tB):=⟨pw_and c.h d.h⟩
theorem a3Q(c:JT X a tA)(d:JW X (.BoolOp .Or (b::rest) pos) tB):JW X (.BoolOp .Or (a::b::rest) pos) (tOr tA tB):=⟨pw_or c.h d.h⟩
theorem J6(b:JT X a tA):JT X (.UnaryOp .Not a pos) (a8Y tA):=⟨b5N b.h⟩
theorem C1(K:PySem.W.Frag)(d:JE X a ta)(e:∀b,isTrue a X.env b=(do let v <-b;standAt a.pos;holding [v] (truthy v)):=by intro _;rfl)(c:X.K=K:=by rfl):JT X a (a8W K ta):=⟨a9q K d.h e c⟩
theorem jaN:JA X [] P5:=⟨b6j⟩
theorem jaC(a:JE X e te)(b:JA X es t)(hs:starEach (e::es) X.env=(false,eval e X.env)::starEach es X.env:=by rfl):JA X (e::es) (L0 te t):=⟨b3V a.h b.h hs⟩
theorem D7{x1}(h:JA X es t):JE X (.Tuple es x1 pos) (a2e t):=⟨b5Y h.h⟩
theorem E1(h:JA X es t):JE X (.List es pos) (a4o t):=⟨b6d h.h⟩
theorem E9(K:PySem.W.Frag)(d:JE X a ta)(e:JE X b tb)(hs:a5j b:=by intro _ _;rfl)(c:X.K=K:=by rfl):JE X (.Subscript a b pos) (tOp (a6Y K) ta tb):=⟨b5g (b2i K c) d.h e.h hs⟩
theorem a2S(K:PySem.W.Frag)(d:JE X a ta)(e:JE X b tb)(hs:a5j b:=by intro _ _;rfl)(c:X.K=K:=by rfl):JE X (.Subscript a b pos) (tOp (b5I K) ta tb):=⟨b5g (b4r K c) d.h e.h hs⟩
theorem Y7:JO X none J9:=⟨b3G⟩
theorem Y0(h:JE X e te):JO X (some e) (a1n te):=⟨b3F h.h⟩
theorem b5o(K:PySem.W.Frag){lo hi:Option Expr}{tl th:TO}(b:JE X e te)(c:JO X lo tl)(d:JO X hi th)(a:X.K=K:=by rfl):JE X (.Subscript e (.Slice lo hi none p2) pos) (tSl (b5H K) te tl th):=⟨a2y (b0O K a) b.h c.h d.h⟩
theorem b5n(K:PySem.W.Frag){lo hi:Option Expr}{tl th:TO}(b:JE X e te)(c:JO X lo tl)(d:JO X hi th)(a:X.K=K:=by rfl):JE X (.Subscript e (.Slice lo hi none p2) pos) (tSl (b1g K) te tl th):=⟨a2y (b3h K a) b.h c.h d.h⟩
theorem A7{k:Nat}{ps:List Str}{sp:Sp}{x:Str}(O:Ok X.prog X.w X.K X.mg X.base x k ps sp)(g:Room k X.A)(f:Gl X x)(c:JA X (e::es) t)(a:(x==("__debug__" : Str))=false:=by decide)
  (d:starEach (e::es) X.env=(false,eval e X.env)::starEach es X.env:=by rfl) (b:(backTo pos (starEach es X.env)).any (·.1)=false:=by rfl):JE X (.Call (.Name x p) (e::es) [] pos) (a2f sp [] E0 t):=⟨b1C O g f c.h a d b⟩
theorem G1(K:PySem.W.Frag)(f:Gl X "len")(g:X.mg "len"=none)(c:JA X (e::es) t)(b:X.K=K:=by rfl)(d:starEach (e::es) X.env=(false,eval e X.env)::starEach es X.env:=by rfl)(a:(backTo pos (starEach es X.env)).any (·.1)=false:=by rfl):JE X (.Call (.Name "len" p) (e::es) [] pos) (tCB (b7y K) t):=⟨E8 (b0e K b) f g b2L c.h (by decide) (by decide) d a⟩
theorem b2e(K:PySem.W.Frag)(g:Gl X "sum")(h:X.mg "sum"=none)(c:JA X (e::es) t)(d:X.calm=true:=by rfl)(b:X.K=K:=by rfl)(f:starEach (e::es) X.env=(false,eval e X.env)::starEach es X.env:=by rfl)(a:(backTo pos (starEach es X.env)).any (·.1)=false:=by rfl):JE X (.Call (.Name "sum" p) (e::es) [] pos) (tCB (b5G K) t):=⟨E8 (a9Z K d b) g h b7c c.h (by decide) (by decide) f a⟩
theorem K8(K:PySem.W.Frag)(g:Gl X "all")(h:X.mg "all"=none)(c:JA X (e::es) t)(d:X.calm=true:=by rfl)(b:X.K=K:=by rfl)(f:starEach (e::es) X.env=(false,eval e X.env)::starEach es X.env:=by rfl)(a:(backTo pos (starEach es X.env)).any (·.1)=false:=by rfl):JE X (.Call (.Name "all" p) (e::es) [] pos) (tCB (b5L K) t):=⟨E8 (b0j K d b) g h b7g c.h (by decide) (by decide) f a⟩
theorem b6K(K:PySem.W.Frag)(g:Gl X "any")(h:X.mg "any"=none)(c:JA X (e::es) t)(d:X.calm=true:=by rfl)(b:X.K=K:=by rfl)(f:starEach (e::es) X.env=(false,eval e X.env)::starEach es X.env:=by rfl)(a:(backTo pos (starEach es X.env)).any (·.1)=false:=by rfl):JE X (.Call (.Name "any" p) (e::es) [] pos) (tCB (b5K K) t):=⟨E8 (b0i K d b) g h b7f c.h (by decide) (by decide) f a⟩
theorem K5(K:PySem.W.Frag)(f:Gl X "isinstance")(g:X.mg "isinstance"=none)(c:JA X (e::es) t)(b:X.K=K:=by rfl)(d:starEach (e::es) X.env=(false,eval e X.env)::starEach es X.env:=by rfl)(a:(backTo pos (starEach es X.env)).any (·.1)=false:=by rfl):JE X (.Call (.Name "isinstance" p) (e::es) [] pos) (tCB (b5J K) t):=⟨E8 (b0f K b) f g a3w c.h (by decide) (by decide) d a⟩
theorem b6J(f:Gl X "min")(g:X.mg "min"=none)(b:JA X (e::es) t)(c:X.calm=true:=by rfl)(d:starEach (e::es) X.env=(false,eval e X.env)::starEach es X.env:=by rfl)(a:(backTo pos (starEach es X.env)).any (·.1)=false:=by rfl):JE X (.Call (.Name "min" p) (e::es) [] pos) (tCB (a9n) t):=⟨E8 (b0b c) f g b7e b.h (by decide) (by decide) d a⟩
theorem D6(K:PySem.W.Frag)(f:Gl X "tuple")(g:X.mg "tuple"=none)(c:JA X (e::es) t)(b:X.K=K:=by rfl)(d:starEach (e::es) X.env=(false,eval e X.env)::starEach es X.env:=by rfl)(a:(backTo pos (starEach es X.env)).any (·.1)=false:=by rfl):JE X (.Call (.Name "tuple" p) (e::es) [] pos) (tCB (b1d K) t):=⟨Q9 (a6x K b) f g a3i c.h (by decide) (by decide) d a⟩
theorem a8v(K:PySem.W.Frag)(f:Gl X "list")(g:X.mg "list"=none)(c:JA X (e::es) t)(b:X.K=K:=by rfl)(d:starEach (e::es) X.env=(false,eval e X.env)::starEach es X.env:=by rfl)(a:(backTo pos (starEach es X.env)).any (·.1)=false:=by rfl):JE X (.Call (.Name "list" p) (e::es) [] pos) (tCB (b5e K) t):=⟨Q9 (a7B K b) f g b4J c.h (by decide) (by decide) d a⟩
theorem a4W(d:Gl X "int")(f:X.mg "int"=none)(b:JA X (e::es) t)(c:starEach (e::es) X.env=(false,eval e X.env)::starEach es X.env:=by rfl)(a:(backTo pos (starEach es X.env)).any (·.1)=false:=by rfl):JE X (.Call (.Name "int" p) (e::es) [] pos) (tCB (b7z) t):=⟨Q9 b0g d f b2M b.h (by decide) (by decide) c a⟩
theorem M5(K:PySem.W.Frag)(h:JE X o to)(g:JA X (e::es) t)(f:X.K=K:=by rfl)(b:attributeBase o "append" X.env (eval o X.env)=eval o X.env:=by rfl)
  (d:((backTo cpos (starEach (e::es) X.env)).all (λx=>!x.1) && (backToKw cpos (keywordEach [] X.env)).all (λx=>x.1.isSome) && decide ((e::es).length+([]:List Keyword).length+(if ([]:List Keyword).isEmpty then 0 else 1)<30))=true:=by rfl)
  (c:(apos.endLine==cpos.line)=true:=by rfl) (hs:starEach (e::es) X.env=(false,eval e X.env)::starEach es X.env:=by rfl) (a:(backTo cpos (starEach es X.env)).any (·.1)=false:=by rfl) :
  JE X (.Call (.Attribute o "append" apos) (e::es) [] cpos) (tBM K "list" a8j to t):=⟨a7b K PySem.F.plainAttrs_list PySem.F.slot_list_append PySem.F.type_list_append a9E h.h g.h f b d c hs a⟩
theorem b2d(K:PySem.W.Frag)(h:JE X o to)(g:JA X (e::es) t)(f:X.K=K:=by rfl)(b:attributeBase o "pop" X.env (eval o X.env)=eval o X.env:=by rfl)
  (d:((backTo cpos (starEach (e::es) X.env)).all (λx=>!x.1) && (backToKw cpos (keywordEach [] X.env)).all (λx=>x.1.isSome) && decide ((e::es).length+([]:List Keyword).length+(if ([]:List Keyword).isEmpty then 0 else 1)<30))=true:=by rfl)
  (c:(apos.endLine==cpos.line)=true:=by rfl) (hs:starEach (e::es) X.env=(false,eval e X.env)::starEach es X.env:=by rfl) (a:(backTo cpos (starEach es X.env)).any (·.1)=false:=by rfl) :
  JE X (.Call (.Attribute o "pop" apos) (e::es) [] cpos) (tBM K "list" b1k to t):=⟨a7b K PySem.F.plainAttrs_list PySem.F.slot_list_pop PySem.F.type_list_pop b1S h.h g.h f b d c hs a⟩
theorem a3S(K:PySem.W.Frag)(h:JE X o to)(g:JA X (e::es) t)(f:X.K=K:=by rfl)(b:attributeBase o "extend" X.env (eval o X.env)=eval o X.env:=by rfl)
  (d:((backTo cpos (starEach (e::es) X.env)).all (λx=>!x.1) && (backToKw cpos (keywordEach [] X.env)).all (λx=>x.1.isSome) && decide ((e::es).length+([]:List Keyword).length+(if ([]:List Keyword).isEmpty then 0 else 1)<30))=true:=by rfl)
  (c:(apos.endLine==cpos.line)=true:=by rfl) (hs:starEach (e::es) X.env=(false,eval e X.env)::starEach es X.env:=by rfl) (a:(backTo cpos (starEach es X.env)).any (·.1)=false:=by rfl) :
  JE X (.Call (.Attribute o "extend" apos) (e::es) [] cpos) (tBM K "list" a8i to t):=⟨a7b K PySem.F.plainAttrs_list PySem.F.slot_list_extend PySem.F.type_list_extend a9D h.h g.h f b d c hs a⟩
theorem A8{i:Nat}{x:Str}(a:X.N.Nodup)(hi:X.N[i]?=some x)(c:Loc X.env.scope x)(b:X.fn x=true∨X.env.scope.names.lookup x=some .local:=by first|exact .inl rfl|exact .inr rfl|assumption):JG X (.Name x pos) (B0 i):=⟨b3P a hi c b⟩
theorem M2:JGs X [] a7u:=⟨b3N⟩
theorem B4{g:TG}{u:TGs}(h1:JG X e g)(h2:JGs X es u)(hs:(assignEach (e::es) X.env).map (·.2)=assign e X.env::(assignEach es X.env).map (·.2):=by rfl):JGs X (e::es) (U7 g u):=⟨b1x h1.h h2.h hs⟩
theorem T3(K:PySem.W.Frag)(n:Nat){k:Nat}{u:TGs}(h:JGs X es u)(c:X.calm=true:=by rfl)(b:X.K=K:=by rfl)(d:(assignEach es X.env).length=n:=by rfl)(a:(assignEach es X.env).findIdx? (·.1)=none:=by rfl):JG X (.Tuple es k pos) (a6n K n u):=⟨b3O K c h.h b d a⟩
theorem a7n{i:Expr}{a:TE}(c:JE X o to)(hi:JE X i a)
  (b:∀v,assign (.Subscript o i pos) X.env v=(do
   let ov <-holding [v] (eval o X.env)
   let iv <-holding [v,ov] (eval i X.env)
   standAt pos
   holding [v,ov,iv] (setItem ov iv v)
   release [v,ov,iv] []):=by intro _;rfl):JG X (.Subscript o i pos) (b7X to a b1h):=⟨b5X c.h hi.h a5F b⟩
theorem J1(K:PySem.W.Frag){tg l:Expr}{tl:TE}(b:JE X l tl)(a:X.K=K:=by rfl):JI X tg l (b2l K tl):=⟨b1w K b.h a⟩
theorem J0(K:PySem.W.Frag){tg l:Expr}{tl:TE}(b:JE X l tl)(a:X.K=K:=by rfl):JI X tg l (b6T K tl):=⟨b3K K b.h a⟩
theorem a2Q(K:PySem.W.Frag){h:Nat}{i:Pos}(f:Gl X "zip")(g:X.mg "zip"=none)(e:JA X [a,b] t)(d:X.K=K:=by rfl)(hs:starEach [a,b] X.env=[(false,eval a X.env),(false,eval b X.env)]:=by rfl)(c:starEach [b] X.env=[(false,eval b X.env)]:=by rfl) :
  JI X (.Tuple es h i) (.Call (.Name "zip" p) [a,b] [] pos) (b6S K t):=⟨b3J K f g e.h d hs c⟩
theorem J7{tg:Expr}(c:Gl X "range")(d:X.mg "range"=none)(b:JA X [a] t)(hs:starEach [a] X.env=[(false,eval a X.env)]:=by rfl):JI X tg (.Call (.Name "range" p) [a] [] pos) (b5q t):=⟨a9t c d b.h hs⟩
theorem C0:JF X [] J3:=⟨b3I⟩
theorem a0Z(h:JT X c tA):JF X [c] tA:=⟨b3H h.h⟩
theorem B8{tg b c:Expr}{f:List Expr}{scope:Scope}{N:List Str}{src:List (Option Nat)}{j:TI}{g:TG}{i:TT}(hi:JI X tg b j)(e:B6 scope X.env.scope=true)(d:L3 N src X.N scope=true)(h:a4D scope=true)
  (m:∀a C s H ex,JG (X.blk N scope a C s H ex) tg g) (n:∀a C s H ex,JF (X.blk N scope a C s H ex) f i) (l:∀a C s H ex,JE (X.blk N scope a C s H ex) c te)
  (k:X.calm=true:=by rfl) (hs:∀x,foldedSetIterable b X.env x=pure x:=by intro _;rfl):JE X (.ListComp c [⟨tg,b,f,0⟩] scope pos) (a5v src j g i te) :=
 ⟨b3S k hi.h e d h (λ_ _ _ _ _=>(m _ _ _ _ _).h) (λ_ _ _ _ _=>(n _ _ _ _ _).h) (λ_ _ _ _ _=>(l _ _ _ _ _).h) hs⟩
variable {st:Stmt}{sts:List Stmt}{u v:TS}
theorem C2:JB X [] a3A:=⟨b3z⟩
theorem A2(h1:JS X st u)(h2:JB X sts v):JB X (st::sts) (a5u u v):=⟨b1n h1.h h2.h⟩
theorem A5(h1:JS X st u):JB X [st] u:=⟨b3y h1.h⟩
theorem b2c:JS X (.Break pos) b0D:=⟨b1r⟩
theorem A9(a:JE X e te):JS X (.Return (some e) pos) (a6K te):=⟨b5Q a.h⟩
theorem M1(a:JE X e te)(hs:swapsWith e none pos.line X.env=pure false:=by rfl):JS X (.Expr e pos) (a3B te):=⟨b3B a.h hs⟩
theorem D9{A B:List Stmt}(d:JT X c tA)(a:JB X A u)(b:JB X B v):JS X (.If c A B pos) (a8Z tA u v):=⟨b7C d.h a.h b.h⟩
theorem a6j{B:List Stmt}(b:JT X c tA)(a:JB X B v)(hp:PassesOwn (model X.prog X.w) X.A X.env X.xe:=by exact PassesOwn.never):JS X (.While c B [] pos) (b0z tA v):=⟨b1o hp b.h a.h⟩
theorem P6{tg a:Expr}{B:List Stmt}{b:TI}{g:TG}(hi:JI X tg a b)(e:JG X tg g)(c:JB X B v)(hp:PassesOwn (model X.prog X.w) X.A X.env X.xe:=by exact PassesOwn.never)(d:X.calm=true:=by rfl)
  (hs:∀x,foldedSetIterable a X.env x=pure x:=by intro _;rfl):JS X (.For tg a B [] pos) (b7t b g v):=⟨b5R hp d hi.h e.h c.h hs⟩
theorem B2{i:Nat}{x:Str}{pos':Pos}(a:X.N.Nodup)(hi:X.N[i]?=some x)(d:Loc X.env.scope x)(b:JE X e te)(hs:swapsWith e (some (.Name x pos')) pos.line X.env=pure false:=by rfl)
  (c:X.fn x=true∨X.env.scope.names.lookup x=some .local:=by first|exact .inl rfl|exact .inr rfl|assumption):JS X (.Assign [.Name x pos'] e pos) (a2g te (B0 i)):=⟨b5P a hi d b.h hs c⟩
theorem a4V{i:Nat}{y:Str}{m c:Pos}{tg b d:Expr}{e:List Expr}{scope:Scope}{N:List Str}{src:List (Option Nat)}{o:TI}{g:TG}{n:TT}
  (p:X.N.Nodup) (w:X.N[i]?=some y) (v:Loc X.env.scope y) (hi:JI X tg b o) (h:B6 scope X.env.scope=true) (f:L3 N src X.N scope=true) (k:a4D scope=true)
  (t:∀a C s H ex,JG (X.blk N scope a C s H ex) tg g) (u:∀a C s H ex,JF (X.blk N scope a C s H ex) e n) (j:∀a C s H ex,JE (X.blk N scope a C s H ex) d te)
  (q:X.calm=true:=by rfl) (l:swapsWith (.ListComp d [⟨tg,b,e,0⟩] scope pos) (some (.Name y m)) c.line X.env=pure true:=by rfl) (hs:∀x,foldedSetIterable b X.env x=pure x:=by intro _;rfl)
  (r:X.fn y=true∨X.env.scope.names.lookup y=some .local:=by first|exact .inl rfl|exact .inr rfl|assumption) :
  JS X (.Assign [.Name y m] (.ListComp d [⟨tg,b,e,0⟩] scope pos) c) (a2g (a5v src o g n te) (B0 i)) :=
 ⟨b3A p w v q hi.h h f k (λ_ _ _ _ _=>(t _ _ _ _ _).h) (λ_ _ _ _ _=>(u _ _ _ _ _).h) (λ_ _ _ _ _=>(j _ _ _ _ _).h) l hs r⟩
theorem a2P{tg:Expr}{g:TG}(a:JE X e te)(b:JG X tg g)(hs:swapsWithSole [tg] e pos.line X.env=pure false:=by rfl)(hw:swappedStores [tg] e X.env=pure none:=by rfl)
  (h1:(assignEach [tg] X.env).map (·.2)=[assign tg X.env]:=by rfl):JS X (.Assign [tg] e pos) (a2g te g):=⟨b5T a.h b.h hs hw h1⟩
theorem a7m(K:PySem.W.Frag){i:Expr}{c:TE}{tpos:Pos}(h:JE X o to)(hi:JE X i c)(g:JE X e te)(d:X.K=K:=by rfl)
  (f:∀b a new,augStore i b a new=(do holding [new,b,a] (setItem b a new);release [new,b,a] [];pure .next):=by intros;rfl):JS X (.AugAssign (.Subscript o i tpos) .Add e pos) (b4V to c te (a6Y K) (ipI λi j=>i+j) b1h):=⟨b3D h.h hi.h (a9O K d) g.h b6Q a5F f⟩
end
section
variable {P:Program}{w:World}{K:PySem.W.Frag}{mg:Str->Option Value}{base:Heap}
theorem FunAt.okJ{x:Str}{st:Stmt}{N ps:List Str}{k:Nat}{sp:Sp}(F:FunAt K mg x st ps)(S:FnScope N ps (A3 st))(c:∀vs H Q E,sp vs H Q E->vs.length=ps.length)
  (b:∀(a:Value) (f:Addr) (A:Around) (outer:List Env) (s:Shared) (H:Hp) (vs:List V) (Q:VK) (E:XK),Room k (A.deeper (envOfC x (A3 st) s.heap.objs.size f a))->sp vs H Q E ->
   ∃t,JB (V1 CX0 P w K mg base N x (A3 st) f a A outer s H E).nox (E2 st) t/\t {nx:=λ_ H'=>Q .non H',rt:=Q} (start N vs) H):Ok P w K mg base x (k+1) ps sp :=
 F.ok S c λa f A outer s H vs Q E e h=>let ⟨t,d,r⟩:=b a f A outer s H vs Q E e h;⟨t,d.h,r⟩
theorem Fun.okJ{x qual:Str}{st:Stmt}{f:Addr}{fd:FuncData}{N ps:List Str}{k:Nat}{sp:Sp}(F:Fun K x qual st f fd)(S:FnScope N ps (A3 st))(c:∀vs H Q E,sp vs H Q E->vs.length=ps.length)
  (b:∀(a:Value) (A:Around) (outer:List Env) (s:Shared) (H:Hp) (vs:List V) (Q:VK) (E:XK),Room k (A.deeper (envOfC qual (A3 st) s.heap.objs.size f a))->sp vs H Q E ->
   ∃t,JB (V1 CX0 P w K mg base N qual (A3 st) f a A outer s H E).nox (E2 st) t/\t {nx:=λ_ H'=>Q .non H',rt:=Q} (start N vs) H):FnOk P w K mg base CX0 (k+1) f fd ps sp :=
 F.ok S c λa A outer s H vs Q E e h=>let ⟨t,d,r⟩:=b a A outer s H vs Q E e h;⟨t,d.h,r⟩
end
def a8a(K:PySem.W.Frag):Sp:=λvs H Q _=>∃(a:Addr) (ns:List Int),vs=[.ref a]/\SqL K H a (ns.map V.int)/\ns.length<=63/\∀H',Q (.bl true) H'
theorem law_walk{l:PySem.W.OpenLaw}{q:Program}{b:List Str}{XP:(Str->Option Value)->Heap->Prop}{e:World->Heap->Prop}{d:DefRec}{K:Params->PySem.W.Frag}(k:Nat)(o:l.most=some 63)(c:d.params.defaults=[])(p:Room k callerA)
  (j:∀(w:World) (h:Heap),e w h->(K w.params).In h)
  (F:∀(w:World) (mg:Str->Option Value) (g:Addr) (h:Heap),(K w.params).In h->h.Ns mainGlobals mg->mg d.name=some (.ref g) ->
   ∃fd:FuncData,(∀(s:Shared) (u:Value),BindsTo s fd ⟨[u],[]⟩ [("_law_script",u)])/\∀base:Heap,(K w.params).In base->base.Ns mainGlobals mg->FnOk l.prog w (K w.params) mg base CX0 k g fd ["_law_script"] (a8a (K w.params))) :
  PySem.W.WalkO q b XP e l.row.toRowW d [] (λf vs=>PySem.call f vs) :=
 L2.walk_of (n:=63) (k:=k) (x:="_law_script") (CX:=λ_=>CX0) (sp:=λw=>a8a (K w.params)) o (by decide) c p j F (λ_ _ a r m _ i=>⟨a,r,rfl,i,m,λ_=>rfl⟩) λ_ _ _ _ _ z=>z
def Its(H:Hp)(vs:List V)(rss:LLI):Prop:=vs.length=rss.length/\∀(i:Nat) (v:V),vs[i]?=some v->∃r,rss[i]?=some r/\IT H v r
theorem Its.same{H H':Hp}{vs:List V}{rss:LLI}(h:Its H vs rss)(s:Same H H'):Its H' vs rss:=⟨h.1,λi v e=>let ⟨r,e1,e2⟩:=h.2 i v e;⟨r,e1,e2.same s⟩⟩
theorem Its.nil{H:Hp}:Its H [] []:=⟨rfl,λi v e=>by simp at e⟩
theorem Its.snoc{H:Hp}{vs:List V}{rss:LLI}{v:V}{r:List Int}(h:Its H vs rss)(d:IT H v r):Its H (vs++[v]) (rss++[r]):=by
 refine⟨by simp[h.1],λi u e=>?_⟩;by_cases hi:i<vs.length
 .rw[br hi]at e;obtain⟨q,b,c⟩:=h.2 i u e;exact⟨q,by rw[br (by rw[<-h.1];exact hi)];exact b,c⟩
 .rw[aZ (by omega)]at e;have a:i-vs.length=0:=by
   have:=(aN.mp e).1;simp at this;omega
  rw[a]at e;simp at e;subst e;refine⟨r,?_,d⟩;rw[aZ (by rw[<-h.1];omega),<-h.1,a];rfl
theorem Its.mem{H:Hp}{vs:List V}{rss:LLI}{v:V}{i:Nat}(h:Its H vs rss)(e:vs[i]?=some v):∃r,r∈rss/\rss[i]?=some r/\IT H v r :=
 let ⟨r,e1,e2⟩:=h.2 i v e
 ⟨r,aF e1,e1,e2⟩
theorem a8O{K:PySem.W.Frag}{src:List (Option Nat)}{σ caps:St}{Q:VK}{k1 k2:Bool}{a b:Addr}{xs ys:List Int}{H:Hp}{te:TE}(f:Int->Int->V)(t:xs.length<=1000)
  (c:∀H',Same H H'->SqK k1 K H' a (xs.map V.int)/\SqK k2 K H' b (ys.map V.int))
  (g:B1 src σ=none::none::caps) (n:∀x y H1 o,x∈xs->y∈ys->Same H H1->o (f x y) H1->te (some (.int x)::some (.int y)::caps) H1 o)
  (hd:∀H1 p,Same H H1->H1 p=none->Q (.ref p) (upd H1 p (.lst (List.zipWith f xs ys)))) :
  E6 src (a6n K 2 (U7 (B0 0) (U7 (B0 1) a7u))) J3 te σ Q (Itz K k1 k2 a b) H:=by
 have u:(1000:Nat)<=sizeLine:=by rw[aV];decide
 refine W5 (xs:=xs.map V.int) (zs:=ys.map V.int) (by rw[K4];omega) (λi zs H'=>Same H H'/\zs=(List.zipWith f xs ys).take i) ⟨Same.refl H,by simp⟩ (λi zs H' _ _ h=>⟨(c H' h.1).1,(c H' h.1).2,by rw[h.2];exact bD _ _⟩) ?_ ?_
 .rintro i x z zs H' p hx hy ⟨s,rfl⟩ hp;obtain⟨m,k,q⟩:=Y9 hx;obtain⟨d,l,r⟩:=Y9 hy;subst q r;clear hx hy;have s':Same H (upd H' p (.tup [.int m,.int d])):=s.upd hp;refine⟨p,[.int m,.int d],rfl,SqT.of A0,rfl,.int m,[.int d],rfl,.int d,[],rfl,rfl,?_⟩;rw[g];show Sub _ (some (.int m)::some (.int d)::caps)/\_;refine⟨⟨rfl,λj v e=>?_⟩,?_⟩
  .match j,e with
   |0,e=>cases e
   |1,e=>cases e
   |j+2,e=>exact e
  .exact n m d _ _ (aF k) (aF l) s' ⟨s',(L4 f k l).symm⟩
 .rintro zs H' ⟨s,rfl⟩ p hp;have e:(List.zipWith f xs ys).take (min (xs.map V.int).length (ys.map V.int).length)=List.zipWith f xs ys:=by
   rw[K4,K4,bN];rw[eR];exact aj _
  rw[e];exact hd H' p s hp
theorem b3a{K:PySem.W.Frag}{src:List (Option Nat)}{σ caps:St}{Q:VK}{a:Addr}{vs:List V}{rss:LLI}{H:Hp}{te:TE}(f:List Int->V)(m:vs.length<=1000)(b:∀H',Same H H'->SqT K H' a vs)(k:Its H vs rss)(c:B1 src σ=none::caps)
  (g:∀v r H1 j,r∈rss->IT H1 v r->Same H H1->(∀H2,Same H1 H2->j (f r) H2)->te (some v::caps) H1 j) (hd:∀H1 p,Same H H1->H1 p=none->Q (.ref p) (upd H1 p (.lst (rss.map f)))):E6 src (B0 0) J3 te σ Q (Itt K a) H:=by
 have n:(1000:Nat)<=sizeLine:=by rw[aV];decide
 refine K7 (xs:=vs) (by omega) (λi ys H'=>Same H H'/\ys=(rss.take i).map f) ⟨Same.refl H,by simp⟩ (λi ys H' _ h=>⟨b H' h.1,by rw[h.2,ai];exact bD _ _⟩) ?_ ?_
 .rintro i x ys H' hx ⟨s,rfl⟩;obtain⟨r,l,d,e⟩:=k.mem hx;show Sub _ ((B1 src σ).set 0 (some x))/\_;rw[c];refine⟨Sub.one,g x r H' _ l (e.same s) s λH2 s2=>⟨s.trans s2,?_⟩⟩;rw[bf,d];simp
 .rintro ys H' ⟨s,rfl⟩ p hp;rw[k.1,bg];exact hd H' p s hp
theorem b0n{K:PySem.W.Frag}{src:List (Option Nat)}{σ caps:St}{Q:VK}{k1 k2:Bool}{a b:Addr}{xs:List Int}{us:List V}{rss:LLI}{H:Hp}{te:TE}(f:Int->List Int->V)(w:xs.length<=1000)
  (c:∀H',Same H H'->SqK k1 K H' a (xs.map V.int)/\SqK k2 K H' b us) (q:Its H us rss)
  (d:B1 src σ=none::none::caps) (n:∀x v r H1 o,x∈xs->r∈rss->IT H1 v r->Same H H1->o (f x r) H1->te (some (.int x)::some v::caps) H1 o)
  (hd:∀H1 p,Same H H1->H1 p=none->Q (.ref p) (upd H1 p (.lst (List.zipWith f xs rss)))) :
  E6 src (a6n K 2 (U7 (B0 0) (U7 (B0 1) a7u))) J3 te σ Q (Itz K k1 k2 a b) H:=by
 have y:(1000:Nat)<=sizeLine:=by rw[aV];decide
 refine W5 (xs:=xs.map V.int) (zs:=us) (by rw[K4];omega) (λi zs H'=>Same H H'/\zs=(List.zipWith f xs rss).take i) ⟨Same.refl H,by simp⟩ (λi zs H' _ _ h=>⟨(c H' h.1).1,(c H' h.1).2,by rw[h.2];exact bD _ _⟩) ?_ ?_
 .rintro i x z zs H' p hx hy ⟨s,rfl⟩ hp;obtain⟨k,g,t⟩:=Y9 hx;subst t;obtain⟨r,u,l,m⟩:=q.mem hy;have s':Same H (upd H' p (.tup [.int k,z])):=s.upd hp;refine⟨p,[.int k,z],rfl,SqT.of A0,rfl,.int k,[z],rfl,z,[],rfl,rfl,?_⟩;rw[d];show Sub _ (some (.int k)::some z::caps)/\_;refine⟨⟨rfl,λj v e=>?_⟩,?_⟩
  .match j,e with
   |0,e=>cases e
   |1,e=>cases e
   |j+2,e=>exact e
  .exact n k z r _ _ (aF g) u (m.same s') s' ⟨s',(L4 f g l).symm⟩
 .rintro zs H' ⟨s,rfl⟩ p hp;have e:(List.zipWith f xs rss).take (min (xs.map V.int).length us.length)=List.zipWith f xs rss:=by
   rw[K4,q.1,bN];rw[eR];exact aj _
  rw[e];exact hd H' p s hp
theorem a6W{src:List (Option Nat)}{σ caps:St}{Q:VK}{n:Nat}{H:Hp}{d:TT}(t:Nat->Bool)(f:n<=1000)(a:B1 src σ=none::caps)(b:∀(i:Nat) H1 (c:Bool->Hp->Prop),i<n->Same H H1->(∀H2,Same H1 H2->c (t i) H2)->d (some (.int i)::caps) H1 c)
  (hd:∀H1 p,Same H H1->H1 p=none->Q (.ref p) (upd H1 p (.lst ((((List.range n).filter t).map λ(i:Nat)=>(i:Int)).map V.int)))):E6 src (B0 0) d (P0 0) σ Q (Itr 0 n) H:=by
 refine a0w f a (λi ys H'=>Same H H'/\ys=(((List.range i).filter t).map λ(i:Nat)=>(i:Int)).map V.int) ⟨Same.refl H,rfl⟩ (λi ys H' h=>by rw[h.2,ai,ai];exact bb (bB _ _) (by simp)) ?_ ?_
 .rintro i ys H' hi ⟨s,rfl⟩;refine b i H' _ hi s λH2 s2=>?_;rw[List.range_succ,List.filter_append];cases e:t i with
  |true=>exact⟨_,rfl,s.trans s2,by simp[e]⟩
  |false=>exact⟨s.trans s2,by simp[e]⟩
 .rintro ys H' ⟨s,rfl⟩ p hp;exact hd H' p s hp
end L2
namespace L2
open PySem PySem.Spec PyProof.Rows PySem.W
noncomputable def b2v(p C:Addr):HO:=.ext λh=>∃o,h.get? p=some o/\o.cls=.ref C
theorem ObjOk.there{P:Program}{w:World}{H:Hp}{h:Heap}{a:Addr}{o:HO}(x:ObjOk P w H h a o):∃u,h.get? a=some u:=by
 induction o with
 |lst xs=>obtain⟨_,_,_,_,e⟩:=x;exact⟨_,e⟩
 |tup xs=>obtain⟨_,_,_,b,e,_⟩:=x;exact⟨_,e⟩
 |dK kvs=>obtain⟨_,_,_,_,o,_,_,e,_⟩:=x;exact⟨_,e⟩
 |dT kvs=>obtain⟨_,_,_,_,o,_,_,e,_⟩:=x;exact⟨_,e⟩
 |set S n=>obtain⟨o,_,_,_,e,_⟩:=x;exact⟨_,e⟩
 |ins C dx fs=>obtain⟨_,_,_,e,_⟩:=x;exact⟨_,e⟩
 |own y=>obtain⟨_,e⟩:=x;exact⟨_,e⟩
 |xd fs=>obtain⟨_,⟨_,_,_,e,_⟩,_⟩:=x;exact⟨_,e⟩
 |rng lo hi=>obtain⟨_,_,_,e⟩:=x;exact⟨_,e⟩
 |frz b u c=>obtain⟨e,_⟩:=x;exact⟨_,e⟩
 |tbl ps=>exact⟨_,x⟩
 |met f y=>exact⟨_,x⟩
 |ext φ=>exact x.2.1
def Cov(l:List Env)(H:Hp)(h0 h B:Heap):Prop:=∀b o,h.get? b=some o->b∉frs l->(H b≠none∨∃o',h0.get? b=some o')->B.get? b=some o
theorem a2Z{P:Program}{w:World}{l:List Env}{H H':Hp}{h0 h1 h2 B base:Heap}(f:Un (frs l) [] H H' h0 h1)(j:HOk P w H' h1)(d:Cov l H' h0 h1 B)(st:B.StaysIn h2)(t:h1.UpToSlots h2)(r:h1.FunFrames base l)(v:∀b∈frs l,H' b=none) :
  Un (frs l) [] H H' h0 h2/\HOk P w H' h2/\Cov l H' h0 h2 B:=by
 have A:∀b,H' b≠none->b∉frs l:=λb n c=>n (v b c);refine⟨⟨?_,?_,f.free,?_,f.tups,f.frzs,f.tbls⟩,?_,?_⟩
 .intro b o e n c hx;exact st b o (d b o (f.keep b o e n c hx) c (.inr ⟨o,e⟩))
 .intro b o e n c hx;obtain⟨sl,q⟩:=f.slot b o e n c hx;obtain⟨_,x,i,p⟩:=r.mem c;rw[q]at i;cases i;obtain⟨k,h⟩:=t b _ q p;exact⟨k,h⟩
 .intro b o e hx;obtain⟨g,q⟩:=f.there b o e hx;by_cases c:b∈frs l
  .obtain⟨_,x,i,p⟩:=r.mem c;rw[q]at i;cases i;obtain⟨k,h⟩:=t b _ q p;exact⟨_,h⟩
  .exact⟨g,st b g (d b g q c (.inr ⟨o,e⟩))⟩
 .intro a o e;refine(j a o e).stay (λb u c q=>?_) (λ_ q=>q) λ_ _ q=>q;have m:H' b≠none:=by
   rcases c with rfl|c
   .rw[e];intro z;cases z
   .rw[c];intro z;cases z
  exact st b u (d b u q (A b m) (.inl m))
 .intro b o e c ho;have ex:∃g,h1.get? b=some g:=by
   rcases ho with m|⟨o',q⟩
   .cases eq:H' b with
    |none=>exact absurd eq m
    |some u=>exact(j b u eq).there
   .exact f.there b o' q (by simp)
  obtain⟨g,y⟩:=ex;have h:=d b g y c ho;have s:=st b g h;rw[e]at s;cases s;exact h
def CXE(P:Program)(w:World):CXT:=λouter H s E e s' =>
 ∃(p C:Addr) (H':Hp) (B:Heap) (a0:Value),e=.ref p/\s'.os=s.os/\AllBare s'.gens/\Un (frs outer) [] H H' s.heap s'.heap/\HOk P w H' s'.heap /\
  H' p=none/\Heap.FlyingW B outer p (.ref C) a0 s'.heap/\Cov outer H' s.heap s'.heap B/\E (.ref C) none H'
def b0B(C:Addr)(E:XK)(t:TA):TS:=λ_ σ H=>t σ H λvs H1=>vs.length<=sizeLine/\E (.ref C) none H1
theorem b1q{P:Program}{w:World}{K:PySem.W.Frag}{mg:Str->Option Value}{base:Heap}{N:List Str}{qual:Str}{scope:Scope}{f:Addr}{cd:Value}{A:Around}{outer:List Env}{s0:Shared}{i:Hp}{E:XK}
  {x:Str}{C:Addr}{bmB F:List Value}{B Y newId V g U:String}{e:Expr}{es:List Expr}{t:TA}{np cpos pos:Pos}
  (O:OwnCls x C bmB newId mg base) (Fn:ExcBaseFacts Y newId U F) (J:bmB.contains (.type Y)=true) (Z:ExcBaseFacts B V g bmB)
  (hg:Gl (V1 (CXE P w) P w K mg base N qual scope f cd A outer s0 i E) x)
  (ha:PA (V1 (CXE P w) P w K mg base N qual scope f cd A outer s0 i E) (e::es) t) (hd:(x==("__debug__" : Str))=false:=by decide)
  (y:starEach (e::es) (envOfC qual scope s0.heap.objs.size f cd)=(false,eval e (envOfC qual scope s0.heap.objs.size f cd))::starEach es (envOfC qual scope s0.heap.objs.size f cd):=by rfl)
  (S:(backTo cpos (starEach es (envOfC qual scope s0.heap.objs.size f cd))).any (·.1)=false:=by rfl) :
  PS (V1 (CXE P w) P w K mg base N qual scope f cd A outer s0 i E) (.Raise (some (.Call (.Name x np) (e::es) [] cpos)) none pos) (b0B C E t):=by
 intro pins s σ H D I h;obtain⟨tl,NC,nm,q,bs,m,sn,sub,ab,col,dd,k0,k1,k2,k3,k5,mN,hC,hN,R,T⟩:=O.obj;refine wpAny_Raise_call_subU (C:=C) (nm:=nm) (q:=q) (N:=NC) (bs:=bs) (bm:=tl) (hdct:=m) (sn:=sn) (sub:=sub) (ab:=ab) (col:=col) (dd:=dd) (k0:=k0) (k1:=k1) (k2:=k2) (k3:=k3) (k5:=k5)
  Fn J Z (mN:=mN) (T.hasType Z.hasBase) (I.ok.hd rfl) (by show(backTo cpos (starEach (e::es) (envOfC qual scope s0.heap.objs.size f cd))).any _=false;rw[y];show(false || (backTo cpos (starEach es (envOfC qual scope s0.heap.objs.size f cd))).any (·.1))=false;rw[S];rfl) R (a0z I hg O.bound ⟨rfl,?_⟩ hd)
 have k:=ha cpos pins s σ H _ I h;have L:starEach (e::es) (V1 (CXE P w) P w K mg base N qual scope f cd A outer s0 i E).env=_:=y;rw[L]at k⊢;refine Calls.evalArgs_plain (dn k (λus s2 ⟨vs,H1,c,r,hl,q⟩=>⟨rfl,by rw[<-r.length];exact hl,c.bk _ _ hC,hN.keeps c.bk,T.keeps c.bk,λh' p Q=>?_⟩) λ_ _ z=>z);have M:∀a∈(envOfC qual scope s0.heap.objs.size f cd::outer),∀b,a.frame=some b->b∈frs (envOfC qual scope s0.heap.objs.size f cd::outer):=λa y b d=>cF.mpr ⟨a,y,d⟩;refine wpAny_leaves_madeW (base:=hideAll s2.heap (frs (envOfC qual scope s0.heap.objs.size f cd::outer))) (h:=s2.heap) c.ok.frames rfl (λb o q=>of_hideAll _ q) (funFrames_hide c.stack M) Q λh2 t x1 x2 x3 x4=>?_;have v:∀b∈frs outer,b∈frs (envOfC qual scope s0.heap.objs.size f cd::outer):=λb d=>by
  obtain⟨a,h1,h2⟩:=cF.mp d;exact cF.mpr ⟨a,av _ h1,h2⟩
 have n:∀b,b∉frs outer->b≠s0.heap.objs.size->b∉frs (envOfC qual scope s0.heap.objs.size f cd::outer):=λb h1 h2 h3=>by
  obtain⟨a,X,q2⟩:=cF.mp h3;rcases aE.mp X with rfl|X
  .exact h2 (bx q2).symm
  .exact h1 (cF.mpr ⟨a,X,q2⟩)
 have G:Cov outer H1 s0.heap s2.heap (hideAll s2.heap (frs (envOfC qual scope s0.heap.objs.size f cd::outer))):=λb o eb nb d=>by
  refine hideAll_get _ eb (n b nb λz=>?_);subst z;rcases d with d|⟨o',d⟩
  .exact d c.free
  .exact absurd (aI d) (bQ _)
 have hp:H1 p=none:=by
  cases eq:H1 p with
  |none=>rfl
  |some u =>
   obtain⟨o,eo⟩:=(c.hok p u eq).there;rw[Q.new]at eo;cases eo
 obtain⟨U2,W,j⟩:=a2Z (P:=P) (w:=w) (l:=outer) (H:=i) (H':=H1) (h0:=s0.heap) (h1:=s2.heap) (h2:=h2) c.base c.hok G x1.1 ((Heap.UpToSlots.of_keeps Q.keeps).trans x4) c.funs λb d=>c.stkFree b (v b d);exact⟨p,C,H1,_,.ref t,rfl,c.os,c.bare,U2,W,hp,x1,j,q⟩
def XP(X:Cx)(pins:List (Addr×Obj))(R:St->Addr->Hp->Prop)(e:Value)(s':Shared):Prop :=
 ∃(σ1:St) (H1:Hp) (s1:Shared) (p C:Addr) (H':Hp) (B:Heap) (a0:Value),e=.ref p/\Inv X pins σ1 H1 s1/\s'.os=s1.os/\AllBare s'.gens/\Un (frs X.stack) [] H1 H' s1.heap s'.heap/\HOk X.prog X.w H' s'.heap /\
  H' p=none/\Heap.FlyingW B X.stack p (.ref C) a0 s'.heap/\Cov X.stack H' s1.heap s'.heap B/\R σ1 C H'
abbrev TX:=Ends->(St->Addr->Hp->Prop)->St->Hp->Prop
def PSx(X:Cx)(sts:List Stmt)(t:TX):Prop :=
 ∀(pins:List (Addr×Obj)) (s:Shared) (σ:St) (H:Hp) (D:Ends) (R:St->Addr->Hp->Prop),Inv X pins σ H s->t D R σ H->wpAny (model X.prog X.w) X.A (execs sts X.env) (SP X pins D) (XP X pins R) s
structure OkE(P:Program)(w:World)(K:PySem.W.Frag)(mg:Str->Option Value)(base:Heap)(x:Str)(k:Nat)(ps:List Str)(sp:Sp):Prop where
 ex:∃f fd,mg x=some (.ref f)/\PySem.W.keepIn K (.ref f)=true/\Binds K fd ps []/\FnOk P w K mg base (CXE P w) k f fd ps sp
theorem FunAt.okE{P:Program}{w:World}{K:PySem.W.Frag}{mg:Str->Option Value}{base:Heap}{x:Str}{st:Stmt}{N ps:List Str}{k:Nat}{sp:Sp}(F:FunAt K mg x st ps)(S:FnScope N ps (A3 st))(e:∀vs H Q E,sp vs H Q E->vs.length=ps.length)
  (b:∀(a:Value) (f:Addr) (A:Around) (outer:List Env) (s:Shared) (H:Hp) (vs:List V) (Q:VK) (E:XK),Room k (A.deeper (envOfC x (A3 st) s.heap.objs.size f a))->sp vs H Q E ->
   ∃t,JB (V1 (CXE P w) P w K mg base N x (A3 st) f a A outer s H E) (E2 st) t/\t {nx:=λ_ H'=>Q .non H',rt:=Q} (start N vs) H):OkE P w K mg base x (k+1) ps sp:=by
 obtain⟨f,fd,h1,h2,i⟩:=F.ex;refine⟨f,fd,h1,h2.kp,i,?_⟩;obtain⟨oc,od,kV,g,pm,an,a,ct,m,rfl,l,c⟩:=h2.ex;refine b5t l c S e λA outer s H vs Q E j d=>?_;obtain⟨t,h,q⟩:=b a f A outer s H vs Q E j d;exact⟨t,h.h,q⟩
def b4R(i:Nat)(sp:Sp)(t:TA):TX:=λD R σ H=>t σ H λvs H1=>sp vs H1 (λv H2=>D.nx (σ.set i (some v)) H2) λc _ H'=>∃C,c=.ref C/\R σ C H'
theorem b3x{X:Cx}{k:Nat}{ps:List Str}{sp:Sp}{x y:Str}{p pos cpos pos':Pos}{e:Expr}{es:List Expr}{t:TA}{i:Nat}(m:∀e s,¬X.xe e s)(O:OkE X.prog X.w X.K X.mg X.base x k ps sp)(Y:Room k X.A)(T:Gl X x)
  (M:X.N.Nodup) (hi:X.N[i]?=some y) (Z:Loc X.env.scope y) (N:PA X (e::es) t) (j:(x==("__debug__" : Str))=false:=by decide)
  (Q:starEach (e::es) X.env=(false,eval e X.env)::starEach es X.env:=by rfl) (l:(backTo cpos (starEach es X.env)).any (·.1)=false:=by rfl)
  (hs:swapsWith (.Call (.Name x p) (e::es) [] cpos) (some (.Name y pos')) pos.line X.env=pure false:=by rfl) (S:X.fn y=true∨X.env.scope.names.lookup y=some .local:=by first|exact .inl rfl|exact .inr rfl|assumption) :
  PSx X [.Assign [.Name y pos'] (.Call (.Name x p) (e::es) [] cpos) pos] (b4R i sp t):=by
 intro pins s σ H D R I h;obtain⟨f,fd,W,U,P,F⟩:=O.ex;refine wpAny_execs_cons (wpAny_Assign_Name ?_ hs);refine dY (a0z I T W ?_ j);refine PySem.W.callWith_K (h₀:=X.base) I.ok.mod.kin U (dn (N cpos pins s σ H _ I h) (λd s1 ⟨vs,H1,a,r,q⟩=>⟨a.kIn,?_⟩) λe s z=>absurd z (m e s)) Q l;have V:d.length=ps.length:=by rw[<-r.length];exact F.len _ _ _ _ q
 have b:=P s1 d a.kIn (by rw[cY];exact V);rw[cY]at b;refine wpAny_call (dt (F.run X.A X.stack s1 H1 ⟨d,[]⟩ d vs _ _ Y a.env0 b r q) λr s' c=>?_);cases r with
 |error e =>
  obtain⟨p,C,H',B,a0,h1,h2,w,A,E,G,J,K,C',L,g⟩:=c;cases L;exact⟨σ,H1,s1,p,C,H',B,a0,h1,a,h2,w,A,E,G,J,K,g⟩
 |ok fl =>
  cases fl with
  |ret u =>
   obtain⟨v,H2,n,rv,q2⟩:=a.after c;exact a2h n M hi Z rv (λs2 o=>dX ⟨_,H2,o,q2⟩) S
  |next=>exact False.elim c
  |brk=>exact False.elim c
  |cont=>exact False.elim c
section
variable {M:Model}{A:Around}{E:Value->Shared->Prop}
structure ClsX(K:PySem.W.Frag)(C:Addr)(above:List Value):Prop where
 ex:∃nm q N bs bm hdct sn sub ab col dd k0 k1 k2 k3 k5 newId,K.lookup C=some (excClassObj nm q C N bs bm hdct sn sub ab col dd k0 k1 k2 k3 k5 newId)/\bm.contains (.type "BaseException")=true/\∀v∈above,bm.contains v=true
end
section
variable {X:Cx}{pins:List (Addr×Obj)}{σ:St}{H1 H':Hp}{s1 s':Shared}{p C:Addr}{B:Heap}{a0:Value}{h2:Heap}
theorem Inv.land(a:Inv X pins σ H1 s1)(e:s'.os=s1.os)(k:AllBare s'.gens)(g:Un (frs X.stack) [] H1 H' s1.heap s'.heap)(d:HOk X.prog X.w H' s'.heap)(i:s'.heap.FunFrames B X.stack)(c:Cov X.stack H' s1.heap s'.heap B)(st:B.StaysIn h2)(m:s'.heap.UpToSlots h2) :
  Inv X pins σ H' {s' with heap:=h2}:=by
 have j:∀b∈frs X.stack,H' b=none:=λb h=>by
  obtain⟨_,o,l,_⟩:=a.stack.mem h;exact g.free b o l (a.stkFree b h) (by simp)
 obtain⟨U2,f,_⟩:=a2Z g d c st m i j;exact a.call' (ch:=[]) e U2 f k (λb z=>absurd z (by simp))
theorem Inv.landX(i:Inv X pins σ H1 s1)(t:s'.os=s1.os)(H:AllBare s'.gens)(A:Un (frs X.stack) [] H1 H' s1.heap s'.heap)(s:HOk X.prog X.w H' s'.heap)(hp:H' p=none)(F:s'.heap.FunFrames B X.stack)(j:Cov X.stack H' s1.heap s'.heap B)(c:Heap.FlyingW B X.stack p (.ref C) a0 h2)(N:s'.heap.UpToSlots h2) :
  Inv X pins σ (upd H' p (b2v p C)) {s' with heap:=h2}:=by
 have G:∀b∈frs X.stack,H' b=none:=λb h=>by
  obtain⟨_,o,r,_⟩:=i.stack.mem h;exact A.free b o r (i.stkFree b h) (by simp)
 obtain⟨U2,x,f⟩:=a2Z A s j c.1 N F G;obtain⟨w,d,hcl⟩:=c.there;have v:p∉frs X.stack:=λh=>by
  obtain⟨_,o,r,J⟩:=c.2.2.1.mem h;obtain⟨K,O,_,_,_,g,_,l,_⟩:=c.2.2.2;rw[r]at g;cases g;exact J O l
 have m:∀o,s1.heap.get? p≠some o:=λo e=>by
  have:=f p w d v (.inr ⟨o,e⟩);rw[c.2.1]at this;cases this
 have E:Un (frs X.stack) [] H1 (upd H' p (b2v p C)) s1.heap h2:=by
  refine⟨U2.keep,U2.slot,λb o e n I=>?_,U2.there,λb xs e=>?_,λb o u e=>?_,λb ps e=>?_⟩
  .rw[A1 (by rintro rfl;exact m o e)];exact U2.free b o e n I
  .have q:=U2.tups b xs e;rw[A1 (by rintro rfl;rw[hp]at q;cases q)];exact q
  .have q:=U2.frzs b o u e;rw[A1 (by rintro rfl;rw[hp]at q;cases q)];exact q
  .obtain⟨more,q⟩:=U2.tbls b ps e;exact⟨more,by rw[A1 (by rintro rfl;rw[hp]at q;cases q)];exact q⟩
 have y:HOk X.prog X.w (upd H' p (b2v p C)) h2:=λa o e=>by
  by_cases D:a=p
  .subst D;rw[A0]at e;cases e;exact⟨⟨w,d,hcl⟩,⟨w,d⟩,λP Q ⟨o,L,M⟩ k=>⟨o,k o L,M⟩⟩
  .rw[A1 D]at e;refine(x a o e).stay (λb u _ q=>q) (λb q=>?_) λb xs q=>?_
   .rw[A1 (by rintro rfl;rw[hp]at q;cases q)];exact q
   .rw[A1 (by rintro rfl;rw[hp]at q;cases q)];exact q
 exact i.call' (ch:=[]) t E y H (λb z=>absurd z (by simp))
end
section
variable {X:Cx}{pins:List (Addr×Obj)}{σ:St}{H:Hp}{s:Shared}
noncomputable abbrev Cx.held(X:Cx)(p:Addr):Cx:={X with A:=X.A.mark (some (.ref p)),calm:=false,xe:=λ_ _=>False}
theorem Inv.held(I:Inv X pins σ H s)(p:Addr):Inv (X.held p) pins σ H s :=
 ⟨⟨I.ok.mod,I.ok.kind,I.ok.glob,I.ok.blt,I.ok.above,I.ok.inj,I.ok.has,I.ok.cab,(λz=>by cases z),I.ok.frames,I.ok.stk,I.ok.exf,I.ok.bs,I.ok.bsz,I.ok.noex,I.ok.exfs,I.ok.funs,I.ok.frf⟩,I.os,I.bare,I.base,I.loc,I.cell,I.free,I.freeC,I.pin,I.hok,I.len⟩
theorem Inv.unheld{p:Addr}(J:X.Ok)(I:Inv (X.held p) pins σ H s):Inv X pins σ H s :=
 ⟨J,I.os,I.bare,I.base,I.loc,I.cell,I.free,I.freeC,I.pin,I.hok,I.len⟩
end
structure JX(X:Cx)(sts:List Stmt)(t:TX):Prop where
 h:PSx X sts t
section
variable {X:Cx}{k:Nat}{ps:List Str}{sp:Sp}{x y:Str}{p pos cpos pos':Pos}{e:Expr}{es:List Expr}{t:TA}{i:Nat}
theorem b6F(O:OkE X.prog X.w X.K X.mg X.base x k ps sp)(l:Room k X.A)(j:Gl X x)(d:X.N.Nodup)(hi:X.N[i]?=some y)(m:Loc X.env.scope y)(f:JA X (e::es) t)(c:∀e s,¬X.xe e s:=by exact λ_ _ z=>z)(a:(x==("__debug__" : Str))=false:=by decide)
  (g:starEach (e::es) X.env=(false,eval e X.env)::starEach es X.env:=by rfl) (b:(backTo cpos (starEach es X.env)).any (·.1)=false:=by rfl)
  (hs:swapsWith (.Call (.Name x p) (e::es) [] cpos) (some (.Name y pos')) pos.line X.env=pure false:=by rfl) (h:X.fn y=true∨X.env.scope.names.lookup y=some .local:=by first|exact .inl rfl|exact .inr rfl|assumption) :
  JX X [.Assign [.Name y pos'] (.Call (.Name x p) (e::es) [] cpos) pos] (b4R i sp t):=⟨b3x c O l j d hi m f.h a g b hs h⟩
end
theorem b2b{P:Program}{w:World}{K:PySem.W.Frag}{mg:Str->Option Value}{base:Heap}{N:List Str}{qual:Str}{scope:Scope}{f:Addr}{cd:Value}{A:Around}{outer:List Env}{s0:Shared}{b:Hp}{E:XK}
  {x:Str}{C:Addr}{bmB c:List Value}{B j newId i a h:String}{e:Expr}{es:List Expr}{t:TA}{p cpos pos:Pos}
  (O:OwnCls x C bmB newId mg base) (l:ExcBaseFacts j newId h c) (d:bmB.contains (.type j)=true) (k:ExcBaseFacts B i a bmB)
  (o:Gl (V1 (CXE P w) P w K mg base N qual scope f cd A outer s0 b E) x)
  (m:JA (V1 (CXE P w) P w K mg base N qual scope f cd A outer s0 b E) (e::es) t) (hd:(x==("__debug__" : Str))=false:=by decide)
  (n:starEach (e::es) (envOfC qual scope s0.heap.objs.size f cd)=(false,eval e (envOfC qual scope s0.heap.objs.size f cd))::starEach es (envOfC qual scope s0.heap.objs.size f cd):=by rfl)
  (g:(backTo cpos (starEach es (envOfC qual scope s0.heap.objs.size f cd))).any (·.1)=false:=by rfl) :
  JS (V1 (CXE P w) P w K mg base N qual scope f cd A outer s0 b E) (.Raise (some (.Call (.Name x p) (e::es) [] cpos)) none pos) (b0B C E t):=⟨b1q O l d k o m.h hd n g⟩
end L2
namespace L2
open PySem PySem.Spec PyProof.Rows PySem.W Builtin Builtin.ObjectAttr Builtin.Getset_descriptor
section
variable {K:PySem.W.Frag}{prog:Program}{w:World}{A:Around}{E:Value->Shared->Prop}{h:Heap}{g:Array GenState}{d:Drawn}{t:Nat}{os:OsState}{a:Addr}{o:Obj}
 {nm q:Str}{C N:Addr}{bs bm:List Value}{hdct:Bool}{sn:List Str}{sub:List Value}{ab:Bool}{col:Option Bool}{dd:Option Addr}{k0 k1 k2 k3 k5:Option Value}{newId:String}
end
section
variable {X:Cx}{es:List Expr}{e:Expr}{t:TA}{pos p:Pos}
end
end L2
namespace L2
open PySem PySem.Spec PyProof.Rows
theorem a0D{α:Type}{ca:α->V}{xs:List α}{i:Nat}{x:V}(h:(xs.map ca)[i]?=some x):∃z,xs[i]?=some z/\x=ca z:=by
 rw[aP]at h;cases e:xs[i]? with
 |none=>rw[e]at h;cases h
 |some z=>rw[e]at h;exact⟨z,rfl,(bx h).symm⟩
theorem b2T{α β:Type}{K:PySem.W.Frag}{src:List (Option Nat)}{σ caps:St}{Q:VK}{k1 k2:Bool}{a b:Addr}(ca:α->V)(d:β->V){xs:List α}{ys:List β}{H:Hp}{te:TE}(f:α->β->V)(u:xs.length<=1000)
  (c:∀H',Same H H'->SqK k1 K H' a (xs.map ca)/\SqK k2 K H' b (ys.map d))
  (k:B1 src σ=none::none::caps) (o:∀x y H1 q,x∈xs->y∈ys->Same H H1->(∀H2,Same H1 H2->q (f x y) H2)->te (some (ca x)::some (d y)::caps) H1 q)
  (hd:∀H1 p,Same H H1->H1 p=none->Q (.ref p) (upd H1 p (.lst (List.zipWith f xs ys)))) :
  E6 src (a6n K 2 (U7 (B0 0) (U7 (B0 1) a7u))) J3 te σ Q (Itz K k1 k2 a b) H:=by
 have w:(1000:Nat)<=sizeLine:=by rw[aV];decide
 refine W5 (xs:=xs.map ca) (zs:=ys.map d) (by rw[ai];omega) (λi zs H'=>Same H H'/\zs=(List.zipWith f xs ys).take i) ⟨Same.refl H,by simp⟩ (λi zs H' _ _ h=>⟨(c H' h.1).1,(c H' h.1).2,by rw[h.2];exact bD _ _⟩) ?_ ?_
 .rintro i x z zs H' p hx hy ⟨s,rfl⟩ hp;obtain⟨n,l,r⟩:=a0D hx;obtain⟨g,m,t⟩:=a0D hy;subst r t;clear hx hy;have s':Same H (upd H' p (.tup [ca n,d g])):=s.upd hp;refine⟨p,[ca n,d g],rfl,SqT.of A0,rfl,ca n,[d g],rfl,d g,[],rfl,rfl,?_⟩;rw[k];show Sub _ (some (ca n)::some (d g)::caps)/\_;refine⟨⟨rfl,λj v e=>?_⟩,?_⟩
  .match j,e with
   |0,e=>cases e
   |1,e=>cases e
   |j+2,e=>exact e
  .exact o n g _ _ (aF l) (aF m) s' λH2 s2=>⟨s'.trans s2,(L4 f l m).symm⟩
 .rintro zs H' ⟨s,rfl⟩ p hp;have e:(List.zipWith f xs ys).take (min (xs.map ca).length (ys.map d).length)=List.zipWith f xs ys:=by
   rw[ai,ai,bN];rw[eR];exact aj _
  rw[e];exact hd H' p s hp
theorem a7Q{α:Type}{K:PySem.W.Frag}{src:List (Option Nat)}{σ caps:St}{Q:VK}{a:Addr}(ca:α->V){xs:List α}{H:Hp}{te:TE}(f:α->V)(j:xs.length<=1000)(b:∀H',Same H H'->SqT K H' a (xs.map ca))(c:B1 src σ=none::caps)
  (e:∀x H1 g,x∈xs->Same H H1->(∀H2,Same H1 H2->g (f x) H2)->te (some (ca x)::caps) H1 g) (hd:∀H1 p,Same H H1->H1 p=none->Q (.ref p) (upd H1 p (.lst (xs.map f)))):E6 src (B0 0) J3 te σ Q (Itt K a) H:=by
 have k:(1000:Nat)<=sizeLine:=by rw[aV];decide
 refine K7 (xs:=xs.map ca) (by rw[ai];omega) (λi ys H'=>Same H H'/\ys=(xs.take i).map f) ⟨Same.refl H,by simp⟩ (λi ys H' _ h=>⟨b H' h.1,by rw[h.2,ai];exact bD _ _⟩) ?_ ?_
 .rintro i x ys H' hx ⟨s,rfl⟩;obtain⟨z,d,rfl⟩:=a0D hx;show Sub _ ((B1 src σ).set 0 (some (ca z)))/\_;rw[c];refine⟨Sub.one,e z H' _ (aF d) s λH2 s2=>⟨s.trans s2,?_⟩⟩;rw[bf,d];simp
 .rintro ys H' ⟨s,rfl⟩ p hp;rw[ai,bg];exact hd H' p s hp
theorem a8V{α:Type}{K:PySem.W.Frag}{src:List (Option Nat)}{σ caps:St}{Q:VK}{a:Addr}(ca:α->V){xs:List α}{H:Hp}{j:TT}(t:α->Bool)(k:xs.length<=1000)(b:∀H',Same H H'->SqT K H' a (xs.map ca))(c:B1 src σ=none::caps)
  (f:∀x H1 (g:Bool->Hp->Prop),x∈xs->Same H H1->(∀H2,Same H1 H2->g (t x) H2)->j (some (ca x)::caps) H1 g) (hd:∀H1 p,Same H H1->H1 p=none->Q (.ref p) (upd H1 p (.lst ((xs.filter t).map ca)))):E6 src (B0 0) j (P0 0) σ Q (Itt K a) H:=by
 have l:(1000:Nat)<=sizeLine:=by rw[aV];decide
 refine K7 (xs:=xs.map ca) (by rw[ai];omega) (λi ys H'=>Same H H'/\ys=((xs.take i).filter t).map ca) ⟨Same.refl H,by simp⟩ (λi ys H' _ h=>⟨b H' h.1,by rw[h.2,ai];exact bb (bB _ _) (bD _ _)⟩) ?_ ?_
 .rintro i x ys H' hx ⟨s,rfl⟩;obtain⟨z,d,rfl⟩:=a0D hx;show Sub _ ((B1 src σ).set 0 (some (ca z)))/\_;rw[c];refine⟨Sub.one,f z H' _ (aF d) s λH2 s2=>?_⟩;rw[bf,d];cases e:t z with
  |true=>exact⟨_,rfl,s.trans s2,by simp[e]⟩
  |false=>exact⟨s.trans s2,by simp[e]⟩
 .rintro ys H' ⟨s,rfl⟩ p hp;rw[ai,bg];exact hd H' p s hp
theorem b4O{rss c:LLI}:((List.range (min rss.length c.length)).all (λj=>decide (rss.getD j []=c.getD j [])) && rss.length==c.length)=decide (rss=c):=by
 rw[cv];simp only[aL,aR,ba,bC,bh];constructor
 .rintro⟨h1,h2⟩;refine fN h2 λi a b=>?_;have:=h1 i (by omega);simpa[az,a,b]using this
 .rintro rfl;exact⟨λ_ _=>rfl,rfl⟩
theorem EqV.its{K:PySem.W.Frag}{H:Hp}{k:Bool}{a b:Addr}{vs d:List V}{rss c:LLI}(e:SqK k K H a vs)(f:SqK k K H b d)(h1:Its H vs rss)(h2:Its H d c):EqV K H 2 (.ref a) (.ref b) (decide (rss=c)):=by
 have step:∀j x y,vs[j]?=some x->d[j]?=some y->EqV K H 1 x y (decide (rss.getD j []=c.getD j [])):=λj x y l m=>by
  obtain⟨r,g,ra,rfl,i⟩:=h1.2 j x l;obtain⟨q,eq,n,rfl,h⟩:=h2.2 j y m;rw[az,az,g,eq];exact EqV.ints (k:=true) (SqT.of i) (SqT.of h)
 rw[<-b4O,<-h1.1,<-h2.1];cases k
 .exact EqV.lst (λj=>decide (rss.getD j []=c.getD j [])) e f step
 .exact EqV.tup (λj=>decide (rss.getD j []=c.getD j [])) e f step
theorem a2c{K:PySem.W.Frag}{src:List (Option Nat)}{σ caps:St}{Q:VK}{a:Addr}{vs:List V}{rss:LLI}{H:Hp}{te:TE}(f:List Int->V)(m:vs.length<=sizeLine)(b:∀H',Same H H'->SqT K H' a vs)(k:Its H vs rss)(c:B1 src σ=none::caps)
  (g:∀v r H1 j,r∈rss->IT H1 v r->Same H H1->(∀H2,Same H1 H2->j (f r) H2)->te (some v::caps) H1 j) (hd:∀H1 p,Same H H1->H1 p=none->Q (.ref p) (upd H1 p (.lst (rss.map f)))):E6 src (B0 0) J3 te σ Q (Itt K a) H:=by
 refine K7 (xs:=vs) (by omega) (λi ys H'=>Same H H'/\ys=(rss.take i).map f) ⟨Same.refl H,by simp⟩ (λi ys H' _ h=>⟨b H' h.1,by rw[h.2,ai];exact bD _ _⟩) ?_ ?_
 .rintro i x ys H' hx ⟨s,rfl⟩;obtain⟨r,l,d,e⟩:=k.mem hx;show Sub _ ((B1 src σ).set 0 (some x))/\_;rw[c];refine⟨Sub.one,g x r H' _ l (e.same s) s λH2 s2=>⟨s.trans s2,?_⟩⟩;rw[bf,d];simp
 .rintro ys H' ⟨s,rfl⟩ p hp;rw[k.1,bg];exact hd H' p s hp
theorem Its.put{H:Hp}{vs:List V}{rss:LLI}{c:Addr}{xs:List V}{o:HO}(h:Its H vs rss)(b:H c=some (.lst xs)):Its (upd H c o) vs rss:=⟨h.1,λi v e=>let ⟨r,e1,a,e2,q⟩:=h.2 i v e;⟨r,e1,a,e2,by rw[A1 (G4 q b (by intro z;cases z))];exact q⟩⟩
open _root_.HT
section
variable {prog:Program}{w:World}{A:Around}{E:Value->Shared->Prop}{s:Shared}
theorem Z7{t sl:Addr}{items:Array Value}{e f:Value}{lo hi:Option Int}{Q:Value->Shared->Prop}(a:IsTup s.heap t items)(hs:s.heap.IsSliceOf sl e f .none)(pl:IsPart e lo)(i:IsPart f hi)
  (hw:sIx items.size 0 lo=0/\sIx items.size items.size hi=items.size) (h:Q (.ref t) s):wpAny (model prog w) A (getItem (.ref t) (.ref sl)) Q E s:=by
 obtain⟨os,d,c,g⟩:=id hs;have b:s.TypeIs (.ref sl) "slice":=⟨os,d,c⟩;unfold getItem
 try with_reducible refine cc ?_
 first|refine aa (ag ?_)|skip
 refine aa (wpAny_sequenceKey a.typeIs (by decide) ?_);refine aa (bK (name:=Str.ofString "__getitem__") a.typeIs cu
  (bI cu a.typeIs entry_tuple_getitem ?_ (args_tuple_getitem _ _)))
 show wpAny _ _ (Builtin.Tuple.tupleItemsOf (.ref t)>>=_) _ _ s;refine aa (tupleItemsOf_ a ?_);refine aa (ez b ?_);rw[ay (by decide)];refine aa (Q7 hs pl i ?_);rw[hw.1,hw.2];show wpAny _ _ (if ((((0:Nat):Int)==0 && (1:Int)==1 && (items.size-0)==items.size))=true then _ else _) _ _ s;rw[ay (by simp)];refine aa (aa (ez a.typeIs (ag ?_)));rw[ay (by decide)];exact aa (fU (ag ⟨_,rfl,ag h⟩))
end
section
variable {X:Cx}{e:Expr}{te:TE}{lo hi:Option Expr}{tl th:TO}{pos p2:Pos}
def b3v(K:PySem.W.Frag):V->Option Int->Option Int->Hp->VK->Prop:=λx lo hi H Q=>∃a xs,x=.ref a/\SqT K H a xs /\
 ((HT.sIx xs.length 0 lo=0/\HT.sIx xs.length xs.length hi=xs.length)->Q (.ref a) H)/\(¬(HT.sIx xs.length 0 lo=0/\HT.sIx xs.length xs.length hi=xs.length)->∀p,H p=none->Q (.ref p) (upd H p (.tup (K9 xs lo hi))))
theorem b3g(K:PySem.W.Frag)(i:X.K=K):SlR X (b3v K):=by
 subst i;intro pins s σ H x v l m lo hi sl Q I g hs e f h;obtain⟨a,xs,rfl,d,j,k⟩:=h;by_cases hw:HT.sIx xs.length 0 lo=0/\HT.sIx xs.length xs.length hi=xs.length
 .cases g;obtain⟨its,r,c,n⟩:=I.tuple d;have b:its.toArray.size=xs.length:=by rw[aA];exact r.length.symm
  refine⟨"tuple",_,cu.lookup,c.typeIs,?_⟩;exact Z7 c hs e f (by rw[b];exact hw) ⟨.ref a,H,I,rfl,j hw⟩
 .exact b0N pins s σ H (.ref a) v l m lo hi sl Q I g hs e f ⟨a,xs,rfl,d,hw,k hw⟩
theorem b5m(K:PySem.W.Frag)(b:JE X e te)(c:JO X lo tl)(d:JO X hi th)(a:X.K=K:=by rfl):JE X (.Subscript e (.Slice lo hi none p2) pos) (tSl (b3v K) te tl th):=⟨a2y (b3g K a) b.h c.h d.h⟩
theorem a6J(l:Addr)(items:Array Value)(n:Nat)(dd:Option Addr)(sl:Array (Option Value))(u:Tok)(a:items.isEmpty=false) :
  Meets (Builtin.«tuple.__mul__» ⟨[.ref l,.int 0 u],[]⟩) (λ_ R s=>s.heap.get? l=some {cls:=.type "tuple",dict:=dd,data:=.seq items n,slots:=sl}/\R (.ok (.ret (.ref s.heap.objs.size))) {s with heap:=s.heap.push {cls:=.type "tuple",data:=.seq #[]}}) :=
 .of_wp λprog w A R s h=>by
  obtain⟨e,g,d,tk,os⟩:=s;obtain⟨b,h⟩:=h;have f1:=AutoSeq1.idx_int;have c:¬((items.isEmpty || (0:Int)==1)=true):=by rw[a];decide
  wp_walk using PySem.AutoSeq1.wpAny_loadPart' b
  exact⟨_,rfl,h⟩
def b1j:R2:=λx y H Q=>∃a xs n,x=.ref a/\y=.int n/\H a=some (.tup xs)/\xs≠[]/\0<=n/\(xs.length:Int)*n<=(sizeLine:Int)/\∀p H',Same H H'->H' p=some (.tup (List.replicate n.toNat xs).flatten)->Q (.ref p) H'
theorem b3X:OpR X (binaryOp .Mult) b1j:=by
 intro pins s σ H x y v u Q I l p h;obtain⟨a,xs,n,rfl,rfl,j,g,D,B,q⟩:=h;by_cases w:n=0
 .subst w;cases l;obtain⟨t,rfl⟩:=p;obtain⟨its,r,p1,C⟩:=I.tuple (.inl (.inl j));obtain⟨⟨cls,dd,data,sl⟩,i,k,m,hd⟩:=id p1;simp only at k hd;subst k hd;have f:=r.length;have d:0<its.length:=by rw[<-f];exact List.length_pos_iff.mpr g
  refine eT (T:="tuple") (U:="int") (by decide) ⟨_,i,rfl⟩ (λs'=>fk s' 0 t) R0 F.fills_int_mul dZ a0v F.slot_int_index.lookup
   (de dZ (fk s 0 t) F.entry_int_rmul (F.args_int_rmul_2 _ _) (a2v 0 t a its.toArray m dd sl) ⟨i,rfl,⟨_,i,rfl⟩,?_⟩)
  refine de eH ⟨_,i,rfl⟩ F.entry_tuple_mul (F.args_tuple_mul_2 _ _) (a6J a its.toArray m dd sl t (by simp;intro z;rw[z]at d;exact bQ _ d)) ⟨i,?_⟩;have A:H s.heap.objs.size=none:=I.hok.fresh (aj _);refine⟨.ref s.heap.objs.size,_,I.laid (t':=s.toks) (o:=.tup []) (λb E q=>ae _ q) (aj _) ?_,rfl,q _ _ (λc o e=>by rw[A1 (A6 e A)];exact e) A0⟩;exact⟨bo _,[],.nil,IsTup.new _ _⟩
 .exact a8o pins s σ H (.ref a) (.int n) v u Q I l p ⟨a,xs,n,rfl,rfl,j,g,by omega,B,q⟩
theorem a7o{a b:Expr}{ta tb:TE}(c:JE X a ta)(d:JE X b tb):JE X (.BinOp a .Mult b pos) (tOp b1j ta tb):=⟨U6 b3X c.h d.h⟩
theorem map_int_inj{a b:List Int}:a.map V.int=b.map V.int↔a=b:=by
 constructor
 .intro h;induction a generalizing b with
  |nil=>cases b with
   |nil=>rfl
   |cons _ _=>cases h
  |cons x a c=>cases b with
   |nil=>cases h
   |cons y b =>
    rw[aU,aU]at h;injection h with h1 h2
    injection h1 with h1
    rw[h1,c h2]
 .rintro rfl;rfl
end
end L2
namespace L2
open PySem PySem.Spec PyProof.Rows
section
variable {X:Cx}
end
section
variable {X:Cx}
end
section
variable {prog:Program}{w:World}{A:Around}{E:Value->Shared->Prop}{s:Shared}{k:Bool}
end
section
variable {X:Cx}
end
section
variable {M:Model}{A:Around}{E:Value->Shared->Prop}
theorem a1H{nm q:Str}{C N:Addr}{bs bm:List Value}{hdct:Bool}{sn:List Str}{sub:List Value}{ab:Bool}{col:Option Bool}{dd:Option Addr}{k0 k1 k2 k3 k5:Option Value}{newId:String}
  {h:Heap}{g:Array GenState}{d:Drawn}{t:Nat}{os:OsState}{e:Addr}{k:Obj}{Q:Bool->Shared->Prop}
  (j:h.get? C=some (excClassObj nm q C N bs bm hdct sn sub ab col dd k0 k1 k2 k3 k5 newId)) (l:h.get? e=some k) (b:k.cls=.ref C)
  (a:bm.contains (.type "BaseException")=true) (m:Q true ⟨h,g,d,t,os⟩):wpAny M A (excMatches (.ref e) (.ref C)) Q E ⟨h,g,d,t,os⟩:=by
 have c:(Value.ref C::bm).contains (.type "BaseException")=true:=by rw[List.contains_cons,a,Bool.or_true]
 have i:(Value.ref C::bm).contains (.ref C)=true:=by rw[List.contains_cons];simp
 have f:=tc_notTuple;unfold excMatches
 repeat (first | (with_reducible refine wpAny_loadPart_at l ?_;rw[b])|with_reducible refine wpAny_loadPart_at j ?_ | (with_reducible refine wpAny_isSubtype_exc j ?_;first|rw[c]|rw[i])|wp_step)
 exact m
end
def b0A(K:PySem.W.Frag)(D:Addr)(tx:TX)(ts:TS):TS:=λDe σ H=>tx De (λσ1 C H'=>C=D/\∀p,H' p=none->ts De σ1 (upd H' p (b2v p C))) σ H
theorem b1p{X:Cx}{body:List Stmt}{tx:TX}{P:TS}{n:Str}{np m pos:Pos}{K:Stmt}{b:List Stmt}{D:Addr}(j:X.stack=X.env::X.outer)(w:X.env.frame=some X.env.locals)(hx:PSx X body tx)
  (hg:Gl X n) (hm:X.mg n=some (.ref D)) (Z:ClsX X.K D [])
  (y:∀p,PSs (X.held p) (K::b) P) (hd:(n==("__debug__" : Str))=false:=by decide) :
  PS X (.Try body [.ExceptHandler (some (.Name n np)) none (K::b) m] [] [] pos) (b0A X.K D tx P):=by
 intro pins s σ H G I h;refine wpAny_Try_except (dn (hx pins s σ H G _ I h) (λf s1 q=>?_) λe s' q=>?_)
 .cases f with
  |next=>exact dX q
  |brk=>exact q
  |cont=>exact q
  |ret v=>exact q
 .obtain⟨σ1,H1,s1,p,C,H',B,a0,rfl,I1,hos,hbare,hU,hok,hp,fl,cov,hC,k⟩:=q;subst hC;have N:=fl.2.2.1;have l:=fl;rw[j]at l;refine wpAny_looks_onW (L:=X.env.locals) (by rw[<-j];exact I1.ok.frames) w l λh4 i E=>?_;refine wpAny_landsW i λW c d=>?_;rw[<-j]at c;have d:=E.trans d;have J:Inv X pins σ1 H' {s' with heap:=W}:=I1.land hos hbare hU hok N cov c.1 d;refine wpAny_handleBy_cons (codeAny_handlers_test ?_) (by intro q;cases q);refine a0z (X:=X.held p) (J.held p) hg hm ?_ hd;obtain⟨oe,x,hcl⟩:=c.there;obtain⟨a1,q',R,U,T,u,a2,O,S,M,V,j0,j1,j2,j3,j5,o,A,t,_⟩:=Z.ex;refine a1H (J.kIn _ _ A) x hcl t ?_;refine codeAny_handlers_suite ?_;refine lands_againW c λY r F=>?_;have Q:Inv X pins σ1 (upd H' p (b2v p C)) {s' with heap:=Y}:=I1.landX hos hbare hU hok hp N cov r (d.trans F);refine dn (y p pins _ _ _ G (Q.held p) (k p hp)) (λf s8 a=>?_) λ_ _ z=>False.elim z;cases f with
  |next=>obtain⟨σ2,H2,g,a⟩:=a;exact⟨σ2,H2,g.unheld I.ok,a⟩
  |brk=>obtain⟨σ2,H2,g,a⟩:=a;exact⟨σ2,H2,g.unheld I.ok,a⟩
  |cont=>obtain⟨σ2,H2,g,a⟩:=a;exact⟨σ2,H2,g.unheld I.ok,a⟩
  |ret v=>obtain⟨v',σ2,H2,g,rv,a⟩:=a;exact⟨v',σ2,H2,g.unheld I.ok,rv,a⟩
section
variable {X:Cx}{k:Nat}{ps:List Str}{sp:Sp}{x:Str}{p pos cpos:Pos}{e:Expr}{es:List Expr}{t:TA}
theorem b2a(K:PySem.W.Frag){body:List Stmt}{tx:TX}{h:TS}{c:Str}{n b pos:Pos}{g:Stmt}{a:List Stmt}{D:Addr}(m:JX X body tx)(k:Gl X c)(l:X.mg c=some (.ref D))(i:ClsX K D [])
  (f:∀p,JB (X.held p) (g::a) h) (j:X.K=K:=by rfl) (e:X.stack=X.env::X.outer:=by rfl) (d:X.env.frame=some X.env.locals:=by rfl) (hd:(c==("__debug__" : Str))=false:=by decide) :
  JS X (.Try body [.ExceptHandler (some (.Name c n)) none (g::a) b] [] [] pos) (b0A K D tx h):=by
 subst j;exact⟨b1p e d m.h k l i (λp=>(f p).h) hd⟩
end
section
variable (P:Program) (w:World)
end
section
variable {P:Program}{w:World}{H H':Hp}{h h':Heap}{a:Addr}{o:HO}
end
section
variable {P:Program}{w:World}{H:Hp}{h h':Heap}{x e:Addr}{o':HO}
end
section
variable {fs fs' ex ex':List Addr}{H H1 H2:Hp}{h h1 h2 h':Heap}{a x e:Addr}{o:HO}
end
section
variable {X:Cx}{pins:List (Addr×Obj)}{σ:List (Option V)}{H H':Hp}{s:Shared}{h':Heap}
end
section
variable {X:Cx}
variable {a b:Expr}{ta tb:TE}{pos:Pos}
variable {tA tB':TT}{rest:List Expr}
end
section
variable {X:Cx}{pins:List (Addr×Obj)}{σ:St}{H:Hp}{s:Shared}{a:Addr}{xs ys:List V}
end
section
variable {X:Cx}{pins:List (Addr×Obj)}{σ:St}{H:Hp}{s:Shared}{E:Value->Shared->Prop}
end
section
variable {X:Cx}{st:Stmt}{rest:List Stmt}{t u:TS}{e:Expr}{te:TE}{pos:Pos}
end
section
variable {X:Cx}{pos:Pos}
end
section
variable {X:Cx}{tg:Expr}
end
section
variable {X:Cx}{a b c:Expr}{ta tb tc:TE}{pos:Pos}
end
section
variable {prog:Program}{w:World}{A:Around}{E:Value->Shared->Prop}{s:Shared}{K:PySem.W.Frag}{x dx C f:Addr}{mA:Str->Option Value}{name:Str}{v:Value}
end
section
variable {P:Program}{w:World}{H H':Hp}{h h':Heap}{a C dx:Addr}{fs fs':List (Str×V)}
end
section
variable {X:Cx}{pins:List (Addr×Obj)}{σ:St}{H:Hp}{s:Shared}{a C dx:Addr}{fs:List (Str×V)}{f:Str}{v:V}{A:Around}{E:Value->Shared->Prop}
end
section
variable {X:Cx}{o e value:Expr}{f:Str}{pos pos' tpos:Pos}{ta tv:TE}
end
section
variable {X:Cx}{pins:List (Addr×Obj)}{σ:St}{H:Hp}{s:Shared}{A:Around}{E:Value->Shared->Prop}{Q:Value->Shared->Prop}{c:Value}{b:Bool}
end
section
variable {X:Cx}{e:Expr}{es:List Expr}{te:TE}{t:TA}{pos:Pos}
end
section
variable {X:Cx}{pins:List (Addr×Obj)}{σ:St}{H:Hp}{s s':Shared}
end
section
variable {X:Cx}{CX:CXT}{k:Nat}{f C:Addr}{fd:FuncData}{ps:List Str}{sp:Sp}{dvs:List V}{ds:List Value}{E:XK}{x m:Str}{p pos apos:Pos}{e o:Expr}{es:List Expr}{ta:TE}{t:TA}
end
section
variable {X:Cx}{CX:CXT}{k:Nat}{f C:Addr}{fd:FuncData}{ps ks:List Str}{sp:Sp}{E:XK}{x m:Str}{p pos apos kpos:Pos}{e o:Expr}{es:List Expr}{kws:List Keyword}{te ta:TE}{t tk:TA}{nm:Option Str}
variable {g:List Value->List Value->List Value}{gV:List V->List V->List V}
end
section
variable {X:Cx}{x:Str}{p pos:Pos}{e:Expr}{es:List Expr}{t:TA}{id T:String}{r:List V->Hp->VK->Prop}
end
section
variable {κ:Type} [DecidableEq κ]
noncomputable def Q6(kvs:List (κ×V))(k:κ):Option V:=(kvs.find? λkv=>decide (kv.1=k)).map (·.2)
noncomputable def Z6(kvs:List (κ×V))(k:κ)(v:V):List (κ×V) :=
 if (kvs.any λkv=>decide (kv.1=k))=true then kvs.map (λkv=>if kv.1=k then(kv.1,v)else kv)else kvs++[(k,v)]
theorem a2a{p:κ×V}{r:List (κ×V)}{k:κ}(e:p.1=k):Q6 (p::r) k=some p.2:=by simp[Q6,d_,e]
theorem a2b{p:κ×V}{r:List (κ×V)}{k:κ}(e:¬p.1=k):Q6 (p::r) k=Q6 r k:=by simp[Q6,d_,e]
theorem Q5(k:κ):∀kvs:List (κ×V),(kvs.any λa=>decide (a.1=k))=(Q6 kvs k).isSome
 |[]=>rfl
 |p::r=>by
  rw[List.any_cons];by_cases e:p.1=k
  .simp only[a2a e,bu e,Bool.true_or,Option.isSome_some]
  .rw[a2b e,bq e,eO];exact Q5 k r
theorem a1s(kvs:List (κ×V))(k:κ)(v:V):(Z6 kvs k v).length<=kvs.length+1:=by
 unfold Z6;split
 .rw[ai];omega
 .rw[aq,aT,eU];omega
theorem a5P{kvs:List (κ×V)}{k:κ}(v:V)(h:Q6 kvs k=none):Z6 kvs k v=kvs++[(k,v)]:=by
 unfold Z6;rw[Q5,h];exact ao (by decide)
theorem RelO.isSome_eq{o:Option V}{u:Option Value}(r:RelO o u):o.isSome=u.isSome:=by
 cases o with
 |none=>cases u with
  |none=>rfl
  |some _=>exact(show False from r).elim
 |some _=>cases u with
  |none=>exact(show False from r).elim
  |some _=>rfl
theorem KV.val{kvs:List (κ×V)}{vs:List (κ×Value)}(r:KV kvs vs)(k:κ):RelO (Q6 kvs k) (valueAt vs k):=by
 unfold KV at r;induction r with
 |nil=>exact True.intro
 |@cons p q ps qs h t a =>
  obtain⟨h1,h2⟩:=h;by_cases e:p.1=k
  .have e':q.1=k:=h1.symm.trans e;have b:valueAt (q::qs) k=some q.2:=by simp[valueAt,d_,e']
   rw[a2a e,b];exact h2
  .have e':¬q.1=k:=λz=>e (h1.trans z);have b:valueAt (q::qs) k=valueAt qs k:=by simp[valueAt,d_,e']
   rw[a2b e,b];exact a
theorem KV.any{kvs:List (κ×V)}{vs:List (κ×Value)}(r:KV kvs vs)(k:κ):(kvs.any λa=>decide (a.1=k))=vs.any λa=>decide (a.1=k):=by
 unfold KV at r;induction r with
 |nil=>rfl
 |cons h t b=>rw[List.any_cons,List.any_cons,b,h.1]
theorem KV.repl{kvs:List (κ×V)}{vs:List (κ×Value)}(r:KV kvs vs)(k:κ){y:V}{u:Value}(c:RelV y u) :
  KV (kvs.map λa=>if a.1=k then(a.1,y)else a) (vs.map λa=>if a.1=k then(a.1,u)else a):=by
 unfold KV at r⊢;induction r with
 |nil=>exact .nil
 |@cons p q ps qs h t b =>
  rw[aU,aU];refine .cons ?_ b;obtain⟨h1,h2⟩:=h;by_cases e:p.1=k
  .rw[ay e,ay (h1.symm.trans e)];exact⟨h1,c⟩
  .rw[ao e,ao (λz=>e (h1.trans z))];exact⟨h1,h2⟩
theorem KV.put{kvs:List (κ×V)}{vs:List (κ×Value)}(r:KV kvs vs)(k:κ){y:V}{u:Value}(a:RelV y u):KV (Z6 kvs k y) (stored vs k u):=by
 unfold Z6 stored;rw[r.any k];by_cases e:(vs.any λb=>decide (b.1=k))=true
 .rw[ay e,ay e];exact r.repl k a
 .rw[ao e,ao e];exact Paired.snoc r ⟨rfl,a⟩
theorem KV.length{kvs:List (κ×V)}{vs:List (κ×Value)}(r:KV kvs vs):kvs.length=vs.length:=Paired.length r
end
theorem a8r{P:Program}{w:World}{k:Key}{u:Value}(r:RelV (kV k) u):(B5 P w).is k u=true:=by
 cases k with
 |inl i=>obtain⟨t,e⟩:=(show ∃t,u=Value.int i t from r);subst e;exact a5Y P w i t
 |inr x=>obtain⟨t,e⟩:=(show ∃t,u=Value.str x t from r);subst e;exact a5X P w x t
theorem a3V{P:Program}{w:World}:∀{ks:List Key}{us:List Value},Vals (ks.map kV) us->ItemsAre (B5 P w) ks us
 |[],_,r=>by rw[eB]at r;cases r;exact .nil
 |k::ks,_,r=>by
  rw[aU]at r;cases r with
  |cons h t=>exact .cons (a8r h) (a3V t)
abbrev KT(H:Hp):List (List Key×V)->List (List Key×Addr×Value)->Prop:=Paired λp q=>p.1=q.1/\H q.2.1=some (.tup (p.1.map kV))/\RelV p.2 q.2.2
theorem KT.val{H:Hp}{kvs:List (List Key×V)}{xs:List (List Key×Addr×Value)}(r:KT H kvs xs)(k:List Key):RelO (Q6 kvs k) ((atKey xs k).map (·.2)):=by
 induction r with
 |nil=>exact True.intro
 |@cons p q ps qs h t a =>
  obtain⟨h1,_,h2⟩:=h;by_cases e:p.1=k
  .have e':q.1=k:=h1.symm.trans e;have b:atKey (q::qs) k=some q.2:=by simp[atKey,d_,e']
   rw[a2a e,b];exact h2
  .have e':¬q.1=k:=λz=>e (h1.trans z);have b:atKey (q::qs) k=atKey qs k:=by simp[atKey,d_,e']
   rw[a2b e,b];exact a
theorem KT.repl{H:Hp}{kvs:List (List Key×V)}{xs:List (List Key×Addr×Value)}(r:KT H kvs xs)(k:List Key){y:V}{u:Value}(d:RelV y u) :
  KT H (kvs.map λa=>if a.1=k then(a.1,y)else a) (xs.map (putAt k u)):=by
 induction r with
 |nil=>exact .nil
 |@cons p q ps qs h t c =>
  rw[aU,aU];refine .cons ?_ c;obtain⟨h1,h2,b⟩:=h;unfold putAt;by_cases e:p.1=k
  .rw[ay e,ay (h1.symm.trans e)];exact⟨h1,h2,d⟩
  .rw[ao e,ao (λz=>e (h1.trans z))];exact⟨h1,h2,b⟩
theorem KT.put{H:Hp}{kvs:List (List Key×V)}{xs:List (List Key×Addr×Value)}(r:KT H kvs xs)(k:List Key){b:Addr}{y:V}{u:Value}(c:H b=some (.tup (k.map kV)))(a:RelV y u) :
  KT H (Z6 kvs k y) (storedH xs k b u):=by
 have e:(kvs.any λd=>decide (d.1=k))=(atKey xs k).isSome:=by
  rw[Q5,(r.val k).isSome_eq,Option.isSome_map]
 unfold Z6 storedH;rw[e];by_cases q:(atKey xs k).isSome=true
 .rw[ay q,ay q];exact r.repl k a
 .rw[ao q,ao q];exact Paired.snoc r ⟨rfl,c,a⟩
theorem KT.keeps{H H':Hp}{kvs:List (List Key×V)}{xs:List (List Key×Addr×Value)}(r:KT H kvs xs)(a:∀b ys,H b=some (.tup ys)->H' b=some (.tup ys)):KT H' kvs xs :=
 Paired.mapP r λ_ _ z=>⟨z.1,a _ _ z.2.1,z.2.2⟩
section
variable {P:Program}{w:World}{H:Hp}{h:Heap}{a:Addr}
theorem b5b{u:HO}(ok:HOk P w H h)(e:Rd H a u):ObjOk P w H h a u:=e.ok ok
theorem b2B{kvs:List (Key×V)}(ok:HOk P w H h)(e:Rd H a (.dK kvs)):kvs.length<=sizeLine/\(a==sysModules)=false/\∃vs,KV kvs vs/\h.DictOf (B5 P w) a vs :=
 show ObjOk P w H h a (.dK kvs)from b5b ok e
theorem b7Z{kvs:List (Key×V)}(ok:HOk P w H h)(e:H a=some (.dK kvs)):kvs.length<=sizeLine/\(a==sysModules)=false/\∃vs,KV kvs vs/\h.DictOf (B5 P w) a vs:=b2B ok (.inl e)
theorem a0W{ks:List Key}(ok:HOk P w H h)(e:H a=some (.tup (ks.map kV))):(tupleKind (B5 P w)).is h ks a:=by
 obtain⟨_,its,r,o,h1,h2,n,b⟩:=(show ObjOk P w H h a (.tup (ks.map kV))from ok a _ e);exact⟨o,its.toArray,n,h1,h2,b,by simpa using a3V r⟩
theorem b2y{kvs:List (List Key×V)}(ok:HOk P w H h)(e:Rd H a (.dT kvs)):kvs.length<=sizeLine/\(a==sysModules)=false /\
  ∃xs,KT H kvs xs/\h.DictOfH (tupleKind (B5 P w)) a xs:=by
 obtain⟨z,y,xs,r,o,es,ep,h1,h2,d,f,g⟩:=(show ObjOk P w H h a (.dT kvs)from b5b ok e);refine⟨z,y,xs,r,o,es,ep,h1,h2,d,f,λx b=>?_,g⟩;have all:∀{l:List (List Key×V)}{m:List (List Key×Addr×Value)},KT H l m->∀x∈m,(tupleKind (B5 P w)).is h x.1 x.2.1:=by
  intro l m q;induction q with
  |nil=>intro x b;exact nomatch b
  |@cons p q ps qs c t i =>
   intro x b;rcases aE.mp b with e|b
   .subst e;exact a0W ok (by rw[<-c.1];exact c.2.1)
   .exact i x b
 exact all r x b
theorem b7Y{kvs:List (List Key×V)}(ok:HOk P w H h)(e:H a=some (.dT kvs)):kvs.length<=sizeLine/\(a==sysModules)=false /\
  ∃xs,KT H kvs xs/\h.DictOfH (tupleKind (B5 P w)) a xs:=b2y ok (.inl e)
end
def DGet(H:Hp)(a:Addr)(y:V)(r:Option V):Prop :=
 (∃kvs k,Rd H a (.dK kvs)/\y=kV k/\r=Q6 kvs k)∨∃kvs k b,Rd H a (.dT kvs)/\y=.ref b/\H b=some (.tup (k.map kV))/\r=Q6 kvs k
def DPut(H:Hp)(a:Addr)(y v:V)(H':Hp):Prop :=
 (∃kvs k,H a=some (.dK kvs)/\y=kV k/\kvs.length<sizeLine/\H'=upd H a (.dK (Z6 kvs k v))) ∨
 ∃kvs k b,H a=some (.dT kvs)/\y=.ref b/\H b=some (.tup (k.map kV))/\kvs.length<sizeLine/\H'=upd H a (.dT (Z6 kvs k v))
theorem DGet.t{H:Hp}{a b:Addr}{kvs:List (List Key×V)}{k:List Key}(e:H a=some (.dT kvs))(c:H b=some (.tup (k.map kV))):DGet H a (.ref b) (Q6 kvs k):=.inr ⟨kvs,k,b,.inl e,rfl,c,rfl⟩
theorem DPut.t{H:Hp}{a b:Addr}{kvs:List (List Key×V)}{k:List Key}{v:V}(e:H a=some (.dT kvs))(c:H b=some (.tup (k.map kV)))(d:kvs.length<sizeLine) :
  DPut H a (.ref b) v (upd H a (.dT (Z6 kvs k v))):=.inr ⟨kvs,k,b,e,rfl,c,d,rfl⟩
section
variable {X:Cx}{pins:List (Addr×Obj)}{σ:St}{H:Hp}{s:Shared}{a:Addr}{y v:V}{u r:Value}{o:Option V}{A:Around}{E:Value->Shared->Prop}
theorem Inv.big(I:Inv X pins σ H s):sysModules<s.heap.objs.size:=by
 have h:mainGlobals<s.heap.objs.size:=(I.mod.glob.keeps I.bk).lt;exact fX (by decide) h
theorem b8g{Q:Value->Shared->Prop}(j:A.units+1<cLine)(I:Inv X pins σ H s)(g:DGet H a y o)(f:RelV y u)(h:∀s',Inv X pins σ H s'->Q (.bool o.isSome) s') :
  wpAny (model X.prog X.w) A (compareOp .In u (.ref a)) Q E s:=by
 rcases g with⟨kvs,k,e,d,l⟩|⟨kvs,k,b,e,d,i,l⟩
 .subst d;obtain⟨z,hd,m,c,dd⟩:=b2B I.hok e;refine wpAny_in_of (a8r f) hd dd.mapOf ?_;rw[<-(c.val k).isSome_eq,<-l];exact h _ (I.tok _)
 .subst d;cases(show u=Value.ref b from f);obtain⟨z,hd,xs,c,dd⟩:=b2y I.hok e;refine wpAny_in_heap (tupleKind_room_in1 j) (a0W I.hok i) hd dd ?_;have q:=(c.val k).isSome_eq;rw[Option.isSome_map]at q;rw[<-q,<-l];exact h _ (I.tok _)
theorem b4B{Q:Value->Shared->Prop}(j:A.units+1<cLine)(I:Inv X pins σ H s)(g:DGet H a y o)(f:RelV y u)(h:∀s',Inv X pins σ H s'->Q (.bool (!o.isSome)) s') :
  wpAny (model X.prog X.w) A (compareOp .NotIn u (.ref a)) Q E s:=by
 rcases g with⟨kvs,k,e,d,l⟩|⟨kvs,k,b,e,d,i,l⟩
 .subst d;obtain⟨z,hd,m,c,dd⟩:=b2B I.hok e;refine wpAny_notIn_of (a8r f) hd dd.mapOf ?_;rw[<-(c.val k).isSome_eq,<-l];exact h _ (I.tok _)
 .subst d;cases(show u=Value.ref b from f);obtain⟨z,hd,xs,c,dd⟩:=b2y I.hok e;refine wpAny_notIn_heap (tupleKind_room_in1 j) (a0W I.hok i) hd dd ?_;have q:=(c.val k).isSome_eq;rw[Option.isSome_map]at q;rw[<-q,<-l];exact h _ (I.tok _)
theorem a8H{h':Heap}{t':Nat}{c:HO}(I:Inv X pins σ H s)(g:Mut (H a))(hs:Heap.SameBut a s.heap h')(f:∃q,h'.get? a=some q)(new:ObjOk X.prog X.w (upd H a c) h' a c) :
  Inv X pins σ (upd H a c) {s with heap:=h',toks:=t'} :=
 I.write (x:=a) (e:=a) g (.inl rfl) (λb q d z=>(hs.2 b d).trans z) f new
theorem b6W{P:Program}{w:World}{H':Hp}{h':Heap}{kvs:List (Key×V)}{vs:List (Key×Value)}(z:kvs.length<=sizeLine)(hd:(a==sysModules)=false)(b:KV kvs vs)(dd:h'.DictOf (B5 P w) a vs) :
  ObjOk P w H' h' a (.dK kvs):=⟨z,hd,vs,b,dd⟩
theorem a9U{H':Hp}{Q:Unit->Shared->Prop}(G:A.units+1<cLine)(I:Inv X pins σ H s)(g:DPut H a y v H')(x:RelV y u)(w:RelV v r)(h:∀s',Inv X pins σ H' s'->Q () s') :
  wpAny (model X.prog X.w) A (setItem (.ref a) u r) Q E s:=by
 rcases g with⟨kvs,k,e,m,l,j⟩|⟨kvs,k,b,e,m,p,l,j⟩
 .subst m j;obtain⟨z,hd,J,d,dd⟩:=b7Z I.hok e;have o:J.length<=sizeLine:=by rw[<-d.length];exact z
  have n:(Z6 kvs k v).length<=sizeLine:=by have:=a1s kvs k v;omega
  refine wpAny_setItem_pairs (hsz:=o) (a8r x) dd λh' f hs=>h _ ?_;have F:∃q,h'.get? a=some q:=let ⟨q,_,_,i,_⟩:=f;⟨q,i⟩
  exact a8H I (by rw[e];exact True.intro) hs F (b6W n hd (d.put k w) f)
 .subst m j;cases(show u=Value.ref b from x);obtain⟨z,hd,xs,d,dd⟩:=b7Y I.hok e;have o:xs.length<=sizeLine:=by rw[<-Paired.length d];exact z
  have n:(Z6 kvs k v).length<=sizeLine:=by have:=a1s kvs k v;omega
  refine wpAny_setItem_heap (hsz:=o) (tupleKind_room_in1 G) (a0W I.hok p) dd λh' f hs=>h _ ?_;obtain⟨q,es,ep,i,h2,B,C,_,D⟩:=f;refine a8H I (by rw[e];exact True.intro) hs ⟨q,i⟩ ⟨n,hd,_,(d.put k p w).keeps λc ys t=>?_,q,es,ep,i,h2,B,C,D⟩;rw[A1 (G4 t e (λz=>nomatch z))];exact t
end
section
variable {X:Cx}{pins:List (Addr×Obj)}{σ:St}{H:Hp}{s:Shared}{a:Addr}{kvs:List (Key×V)}{k:Key}{u:Value}{A:Around}{E:Value->Shared->Prop}
end
def b7v(ty td:TE):TE:=λσ H Q=>ty σ H λy H1=>td σ H1 λx H2=>∃a o,x=.ref a/\DGet H2 a y o/\Q (.bl o.isSome) H2
def a7S(ty td:TE):TE:=λσ H Q=>ty σ H λy H1=>td σ H1 λx H2=>∃a o,x=.ref a/\DGet H2 a y o/\Q (.bl (!o.isSome)) H2
def b5a(td ty tv:TE):TS:=λD σ H=>tv σ H λv H1=>td σ H1 λx H2=>ty σ H2 λy H3=>∃a H4,x=.ref a/\DPut H3 a y v H4/\D.nx σ H4
section
variable {X:Cx}{o i e value:Expr}{pos pos' tpos:Pos}{td ty tv:TE}
theorem b6i(f:X.A.units+1<cLine)(hi:PE X i ty)(e:PE X o td):PC X .In i o (b7v ty td):=by
 intro pins s σ H Q I h;refine thn (hi pins s σ H _ I h) λp s1 ⟨y,H1,b,n,k⟩=>thn (e pins s1 σ H1 _ b k) λu s2 ⟨x,H2,c,m,a,j,ex,g,l⟩=>?_;subst ex;obtain rfl:u=Value.ref a:=m;exact b8g f c g n λq d=>⟨.bl j.isSome,H2,d,rfl,l⟩
theorem a9u(f:X.A.units+1<cLine)(hi:PE X i ty)(e:PE X o td):PC X .NotIn i o (a7S ty td):=by
 intro pins s σ H Q I h;refine thn (hi pins s σ H _ I h) λp s1 ⟨y,H1,b,n,k⟩=>thn (e pins s1 σ H1 _ b k) λu s2 ⟨x,H2,c,m,a,j,ex,g,l⟩=>?_;subst ex;obtain rfl:u=Value.ref a:=m;exact b4B f c g n λq d=>⟨.bl (!j.isSome),H2,d,rfl,l⟩
theorem b3C(k:X.A.units+1<cLine)(j:PE X o td)(hi:PE X i ty)(l:PE X value tv)(hs:swapsWith value (some (.Subscript o i pos')) pos.line X.env=pure false) :
  PS X (.Assign [.Subscript o i pos'] value pos) (b5a td ty tv):=by
 intro pins s σ H D I h;refine wpAny_Assign_Subscript (thn (l pins s σ H _ I h) λr s1 ⟨v,H1,c,q,m⟩=>thn (j pins s1 σ H1 _ c m) λu s2 ⟨x,H2,d,t,n⟩=>thn (hi pins s2 σ H2 _ d n) λA B ⟨y,z,e,w,a,b,ex,g,p⟩=>?_) hs;subst ex;obtain rfl:u=Value.ref a:=t;exact a9U k e g w q λC f=>⟨σ,b,f,p⟩
end
theorem b2z{P:Program}{w:World}{H:Hp}(h:Heap)(a:sysModules<h.objs.size):ObjOk P w H (h.push {cls:=.type "dict",data:=.dict #[]}) h.objs.size (.dT []) :=
 ⟨bo _,cJ.mpr (dC (aM a)),[],.nil,_,#[],0,aG _ rfl,⟨rfl,rfl,rfl⟩,rfl,rfl,fm⟩
def b0C:TE:=λ_ H Q=>∀p,H p=none->Q (.ref p) (upd H p (.dT []))
section
variable {X:Cx}{pos:Pos}
theorem b1B:PE X (.Dict [] [] pos) b0C:=λpins s σ H Q I h =>
 wpAny_Dict_empty ⟨.ref s.heap.objs.size,_,I.laid (a:=s.heap.objs.size) (o:=.dT []) (t':=s.toks) (λ_ _ q=>ae _ q) (aj _) (b2z s.heap I.big),rfl,h _ (I.hok.fresh (aj _))⟩
end
section
variable {X:Cx}{pins:List (Addr×Obj)}{σ:St}{H:Hp}{s:Shared}{a:Addr}{y d:V}{u r:Value}{o:Option V}{A:Around}{E:Value->Shared->Prop}
end
section
variable {X:Cx}{o e f:Expr}{apos cpos:Pos}{td ty tx:TE}
end
section
variable {X:Cx}{pins:List (Addr×Obj)}{σ:St}{H:Hp}{s:Shared}{a:Addr}{kvs:List (Key×V)}{A:Around}{E:Value->Shared->Prop}
end
section
variable {X:Cx}{pins:List (Addr×Obj)}{σ:St}{H:Hp}{s:Shared}{a:Addr}{y:V}{u:Value}{A:Around}{E:Value->Shared->Prop}
end
end L2
namespace Att
open PySem PySem.W PySem.Calls PyProof.Rows
section
variable {prog:Program}{w:World}{A:Around}{E:Value->Shared->Prop}{s:Shared}{K:Frag}
end
end Att
namespace L2
open PySem PySem.Spec PyProof.Rows
end L2
namespace L2
open PySem PySem.Spec PyProof.Rows
section
variable {P:Program}{w:World}{K:PySem.W.Frag}{mg:Str->Option Value}{base:Heap}
end
section
variable {X:Cx}
end
section
variable {κ:Type} [DecidableEq κ]
theorem b0v{kvs:List (κ×V)}{k:κ}(h:Q6 kvs k=none):¬k∈kvs.map (·.1):=by
 intro m;obtain⟨p,a,e⟩:=aW.mp m;have q:(kvs.any λb=>decide (b.1=k))=true:=bE.mpr ⟨p,a,bu e⟩;rw[Q5,h]at q;exact absurd q (by simp)
theorem b2Z{kvs:List (κ×V)}{k:κ}{v:V}(h:Q6 kvs k=some v):k∈kvs.map (·.1):=by
 have q:(kvs.any λb=>decide (b.1=k))=true:=by
  rw[Q5,h]
  all_goals rfl
 obtain⟨p,a,e⟩:=bE.mp q;exact aW.mpr ⟨p,a,bJ e⟩
theorem a8q:∀{l:List κ}{k:κ},l.Nodup->¬k∈l->(l++[k]).Nodup
 |[],k,_,_=>by simp
 |a::r,k,h,b=>by
  obtain⟨h1,h2⟩:=cw.mp h;show(a::(r++[k])).Nodup;refine cw.mpr ⟨λm=>?_,a8q h2 λm=>b (aE.mpr (Or.inr m))⟩;rcases aC.mp m with q|q
  .exact h1 q
  .exact b (aE.mpr (Or.inl (aD.mp q).symm))
end
end L2
namespace L2
open PySem PySem.Spec PyProof.Rows PySem.W
section
variable {O:KeyOrd}{key:Nat->O.α}{N:Nat}{p:Array Nat}
noncomputable def kk(key:Nat->O.α)(p:Array Nat)(i:Nat):O.α:=key (p[i]?.getD 0)
end
theorem J5:∀a:List Int,HT.lexLt a a=false
 |[]=>rfl
 |x::xs=>by rw[HT.lexLt_cons,ay rfl];exact J5 xs
theorem a0S:∀a b c:List Int,HT.lexLt a b=true->HT.lexLt b c=true->HT.lexLt a c=true
 |[],[],_,h,_=>by cases h
 |_::_,[],_,h,_=>by cases h
 |_,_::_,[],_,h=>by cases h
 |[],_::_,_::_,_,_=>rfl
 |x::xs,y::ys,z::zs,h1,h2=>by
  rw[HT.lexLt_cons]at h1 h2⊢;by_cases e:x=y
  .rw[ay e]at h1;by_cases d:y=z
   .rw[ay d]at h2;rw[ay (e.trans d)];exact a0S xs ys zs h1 h2
   .rw[ao d]at h2;rw[ao (by rw[e];exact d),e];exact h2
  .rw[ao e]at h1;have h1:=bJ h1;by_cases d:y=z
   .rw[ao (by rw[<-d];exact e),<-d];exact bu h1
   .rw[ao d]at h2;have h2:=bJ h2;rw[ao (by omega)];exact bu (by omega)
theorem M4:∀a b:List Int,HT.lexLt a b=false->HT.lexLt b a=false->a=b
 |[],[],_,_=>rfl
 |[],_::_,h,_=>by cases h
 |_::_,[],_,h=>by cases h
 |x::xs,y::ys,h1,h2=>by
  rw[HT.lexLt_cons]at h1 h2;by_cases e:x=y
  .subst e;rw[ay rfl]at h1 h2;rw[M4 xs ys h1 h2]
  .rw[ao e]at h1;rw[ao (dC e)]at h2;have h1:=of_decide_eq_false h1;have h2:=of_decide_eq_false h2;omega
theorem b4j(a b c:List Int)(h:HT.lexLt a c=true):HT.lexLt a b=true∨HT.lexLt b c=true:=by
 cases h1:HT.lexLt a b with
 |true=>exact .inl rfl
 |false =>
  refine .inr ?_;cases h2:HT.lexLt b a with
  |true=>exact a0S b a c h2 h
  |false=>rw[<-M4 a b h1 h2];exact h
noncomputable def OL:KeyOrd:=⟨List Int,HT.lexLt,J5,a0S,b4j,M4⟩
def C9(tss:LLI):Prop:=tss.Pairwise λa b=>HT.lexLt b a=false
section
variable {prog:Program}{w:World}{A:Around}{E:Value->Shared->Prop}{s:Shared}
noncomputable def b4k(fin:Bool):List Int->List Int->Bool
 |[],_=>fin
 |_::_,[]=>fin
 |x::xs,y::ys=>if x=y then b4k fin xs ys else decide (x<y)
theorem a6c:∀(xs ys:List Int),b4k (decide (xs.length<ys.length)) xs ys=HT.lexLt xs ys
 |[],[]=>rfl
 |[],y::ys=>by
  show decide (0<ys.length+1)=true;exact bu (by omega)
 |x::xs,[]=>by
  show decide (xs.length+1<0)=false;exact bq (by omega)
 |x::xs,y::ys=>by
  rw[HT.lexLt_cons];show(if x=y then _ else _)=_;split
  .rw[<-a6c xs ys];congr 1;simp only[aT];exact decide_eq_decide.mpr (by omega)
  .rfl
theorem a9x{c:Bool}{a b:Int}{t u:Tok}{Q:Bool->Shared->Prop}(h:Q (decide (a<b)) s):wpAny (model prog w) A (oneLt' c (.int a t) (.int b u)) Q E s:=by
 cases c with
 |true=>exact oneLt_int h
 |false=>exact kat_one _ _ (lt_int h)
theorem a1u{b fin:Bool}{Q:Bool->Shared->Prop}:∀{vs a:List Value}{ns ms:List Int}(i:Nat),IntsAre vs ns->IntsAre a ms->Q (b4k fin ns ms) s->KatLex prog w A b fin Q (vs.zip a) i s
 |_,_,_,_,i,.nil,_,h=>h
 |_,_,_,_,i,.cons _ _ _,.nil,h=>h
 |_,_,_,_,i,.cons x t c,.cons y u d,h=>by
  rw[List.zip_cons_cons];refine kat_cons (wpAny_eqBool_int ?_);have h:Q (if x=y then b4k fin _ _ else decide (x<y)) s:=h;by_cases e:x=y
  .rw[ay e]at h;rw[show(x==y)=true from bh.mpr e];exact kat_yes (a1u (i+1) c d h)
  .rw[ao e]at h;rw[show(x==y)=false from cJ.mpr e];exact kat_no (a9x h)
def TupsAre(h:Heap)(vs:List Value)(rss:LLI):Prop:=vs.length=rss.length/\∀(i:Nat) (v:Value),vs[i]?=some v->∃(r:List Int) (b:Addr) (its:Array Value),rss[i]?=some r/\v=Value.ref b/\IsTup h b its/\IntsAre its.toList r
theorem TupsAre.keeps{h h':Heap}{vs:List Value}{rss:LLI}(t:TupsAre h vs rss)(k:∀b its,IsTup h b its->IsTup h' b its):TupsAre h' vs rss :=
 ⟨t.1,λi v e=>let ⟨r,b,its,e1,e2,e3,e4⟩:=t.2 i v e;⟨r,b,its,e1,e2,k _ _ e3,e4⟩⟩
theorem a5t{h:Heap}:∀{vs:List Value}{rss:LLI},TupsAre h vs rss->(∀r∈rss,0<r.length)->∃fs,KatTups h vs fs/\fs.length=vs.length/\∀f∈fs,∃n t,f=Value.int n t
 |[],_,_,_=>⟨[],trivial,rfl,λ_ z=>nomatch z⟩
 |v::vs,[],T,_=>by cases T.1
 |v::vs,r::rss,T,hw=>by
  obtain⟨fs,h1,h2,p⟩:=a5t (vs:=vs) (rss:=rss) ⟨by have:=T.1;simpa using this,λi u e=>T.2 (i+1) u e⟩ λr c=>hw r (av _ c);obtain⟨y,b,its,j,k,⟨o,q,s,n,w⟩,d⟩:=T.2 0 v rfl;cases j;have c:=hw r ar;obtain⟨x,t,g,m⟩:∃x t g,its.toList=Value.int x t::g:=by
   generalize its.toList=l at d;cases d with
   |nil=>simp at c
   |cons x t h=>exact⟨x,t,_,rfl⟩
  refine⟨.int x t::fs,⟨⟨b,o,its,n,k,q,s,w,?_⟩,h1⟩,by simp[h2],λf a=>?_⟩
  .rw[<-au,m];rfl
  .rcases aE.mp a with rfl|a
   .exact⟨x,t,rfl⟩
   .exact p f a
theorem a8U{vs:List Value}{rss:LLI}{Q:SortKind->Shared->Prop}(T:TupsAre s.heap vs rss)(hw:∀r∈rss,0<r.length)(a:0<vs.length)(h:Q (tuples' true) s):wpAny (model prog w) A (keyKind' vs.toArray) Q E s:=by
 obtain⟨fs,h1,h2,b⟩:=a5t T hw;refine kat_kind (T:=.type "int") h1 (by omega) (λv a=>?_) rfl ?_
 .obtain⟨n,t,rfl⟩:=b v a;exact .now
 .rw[show(Value.type "int" != Value.type "tuple")=true from rfl];exact h
end
section
variable {prog:Program}{w:World}{A:Around}{E:Value->Shared->Prop}{s:Shared}
theorem U5{h:Heap}{a:Addr}{vs:List Value}{out:Array Value}:∀b o,b≠a->h.get? b=some o->(sortedHeap h a vs out).get? b=some o:=λb o c e=>by
 unfold sortedHeap;rw[Heap.get?_update_ne _ _ _ _ c];exact ae _ (ae _ (by rw[Heap.get?_update_ne _ _ _ _ c];exact e))
theorem Z8{h:Heap}{a:Addr}{vs:List Value}{out:Array Value}{n:Nat}(f:h.get? a=some (seqObj "list" vs.toArray n)):∃c,(sortedHeap h a vs out).get? a=some (seqObj "list" out c):=by
 unfold sortedHeap;have g:a<h.objs.size:=aI f;obtain⟨b,d⟩:∃b,(h.update a (Obj.mapSeq λ_=>#[])).get? a=some (seqObj "list" #[] b):=⟨_,get?_update_seq f (λ_=>#[])⟩;have e:(((h.update a (Obj.mapSeq λ_=>#[])).push (seqObj "tuple" vs.toArray 0)).push (seqObj "list" #[] 0)).get? a=some (seqObj "list" #[] b):=ae _ (ae _ d);exact⟨_,get?_update_seq e (λ_=>out)⟩
end
section
variable {X:Cx}
theorem a2T{pins:List (Addr×Obj)}{σ:St}{H:Hp}{s:Shared}(I:Inv X pins σ H s){ys:List V}{rss:LLI}{us:List Value}(h:Its H ys rss)(r:Vals ys us):TupsAre s.heap us rss:=by
 refine⟨by rw[<-r.length];exact h.1,λi v e=>?_⟩;have hi:i<ys.length:=by rw[r.length];exact(aN.mp e).1
 obtain⟨u,c,d⟩:=r.get (ak hi);rw[e]at c;cases c;obtain⟨b,f,a,g,j⟩:=h.2 i _ (ak hi);rw[g]at d;cases d;obtain⟨its,k,l,_⟩:=I.tuple (SqT.of (K:=X.K) j);exact⟨b,a,its.toArray,f,rfl,l,by simpa using a7r k⟩
end
noncomputable def O7:Bool->Keyed->Array Keyed->Nat->Nat->Nat->StateT SortSt Sem (Option Nat):=sortPriv% PySem.Builtin.gallop
noncomputable def O9(left:Bool)(key:Keyed)(arr:Array Keyed)(base:Nat)(i:Nat):StateT SortSt Sem (Option Bool):=do
 let x <-elem' arr (base+i)
 if left then lt' x key else return (<-lt' key x).map (!·)
noncomputable def b4I(left:Bool)(key:Keyed)(arr:Array Keyed)(base n lo₀ hi₀:Nat):StateT SortSt Sem (Option Nat):=do
 let mut lo:=lo₀
 let mut hi:=hi₀
 for _ in [0:n] do
  if lo ≥ hi then break
  let m:=lo+(hi-lo) / 2
  let some more <-O9 left key arr base m|return none
  if more then lo:=m+1 else hi:=m
 return some hi
theorem a7t(left:Bool)(key:Keyed)(arr:Array Keyed)(base n a:Nat):O7 left key arr base n a=(O9 left key arr base a>>=λr=>match r with
 |some right=>(if right=true then
   (forIn [:n] ((none,0,1):Option (Option Nat)×Nat×Nat) (λ_ c=>if c.2.2 ≥ n-a then pure (.done (none,c.2.1,c.2.2))else O9 left key arr base (a+c.2.2)>>=λr=>match r with
     |some more=>(if (!more)=true then pure (.done (none,c.2.1,c.2.2))else pure (.yield (none,c.2.2,2*c.2.2+1)))
     |_=>pure (.done (some none,c.2.1,c.2.2)))>>=λc=>match c.1 with
    |some r=>pure r
    |none=>b4I left key arr base n (a+c.2.1+1) (a+min c.2.2 (n-a)))
  else
   (forIn [:n] ((none,0,1):Option (Option Nat)×Nat×Nat) (λ_ c=>if c.2.2 ≥ a+1 then pure (.done (none,c.2.1,c.2.2))else O9 left key arr base (a-c.2.2)>>=λr=>match r with
     |some found=>(if found=true then pure (.done (none,c.2.1,c.2.2))else pure (.yield (none,c.2.2,2*c.2.2+1)))
     |_=>pure (.done (some none,c.2.1,c.2.2)))>>=λc=>match c.1 with
    |some r=>pure r
    |none=>b4I left key arr base n (a+1-min c.2.2 (a+1)) (a-c.2.1)))
 |_=>pure none):=by
 show(_>>=_)=(_>>=_);refine aQ _ (funext λr=>?_);cases r with
 |none=>rfl
 |some right =>
  dsimp only;refine dM rfl (λ_=>?_) (λ_=>?_)
  .refine congr (aQ _ (aQ _ (funext λ_=>funext λc=>?_))) (funext λc=>?_)
   .rfl
   .rcases c with⟨_|q,c⟩<;>rfl
  .refine congr (aQ _ (aQ _ (funext λ_=>funext λc=>?_))) (funext λc=>?_)
   .rfl
   .rcases c with⟨_|q,c⟩<;>rfl
section
variable {prog:Program}{w:World}{A:Around}{E:Value->Shared->Prop}{s:Shared}
def Cmp(prog:Program)(w:World)(A:Around)(s:Shared)(κ:SortKind)(D:Keyed->Prop)(lt:Keyed->Keyed->Bool):Prop :=
 ∀x y (C:Bool->Shared->Prop),D x->D y->C (lt x y) s->wpAny (model prog w) A (keyLt' κ x.1 y.1) C (λ_ _=>False) s
variable {κ:SortKind}{D:Keyed->Prop}{lt:Keyed->Keyed->Bool}
theorem a0k{st:SortSt}{x y:Keyed}{Q:Option Bool->SortSt->Prop}(d:Cmp prog w A s κ D lt)(e:kindOf st=κ)(f:D x)(g:D y)(h:Q (some (lt x y)) st):wpS (model prog w) A E s (lt' x y) Q st:=by
 rw[lt'_eq];refine aB (fo ?_);rw[e];refine aB (wpS_lift (dV (dn (d x y (λb s'=>s'=s/\b=lt x y) f g ⟨rfl,rfl⟩) (λb s' ⟨a,c⟩=>?_) λ_ _ z=>z.elim)));rw[a,c];exact⟨rfl,aJ h⟩
noncomputable def b2Q(lt:Keyed->Keyed->Bool)(left:Bool)(key x:Keyed):Bool:=if left then lt x key else !(lt key x)
theorem a6B{st:SortSt}{left:Bool}{key x:Keyed}{arr:Array Keyed}{base i:Nat}{Q:Option Bool->SortSt->Prop}(b:Cmp prog w A s κ D lt)(c:kindOf st=κ)(a:D key)(d:D x)(e:arr[base+i]?=some x)(h:Q (some (b2Q lt left key x)) st) :
  wpS (model prog w) A E s (O9 left key arr base i) Q st:=by
 unfold O9;rw[elem'_eq,e];refine aB (aJ ?_);unfold b2Q at h;cases left with
 |true=>exact a0k b c d a h
 |false=>exact aB (a0k b c a d (aJ h))
theorem a7N{st:SortSt}{left:Bool}{key:Keyed}{arr:Array Keyed}{base n lo hi:Nat}{Q:Option Nat->SortSt->Prop}(a:Nat->Bool)
  (m:∀i,i<n->∀{R:Option Bool->SortSt->Prop},R (some (a i)) st->wpS (model prog w) A E s (O9 left key arr base i) R st) (mono:∀i j,i<=j->j<n->a j=true->a i=true) (o:∀i j,i<=j->j<n->a i=false->a j=false)
  (h1:lo<=hi) (h2:hi<=n) (u:∀i,i<lo->a i=true) (v:∀i,hi<=i->i<n->a i=false)
  (h:∀k,k<=n->(∀i,i<k->a i=true)->(∀i,k<=i->i<n->a i=false)->Q (some k) st):wpS (model prog w) A E s (b4I left key arr base n lo hi) Q st:=by
 unfold b4I;dsimp only;refine aB (cC (cj (I:=λx c st'=>st'=st/\∃l r,c=(none,l,r)/\l<=r/\r<=n/\r-l<=n-x/\(∀i,i<l->a i=true)/\(∀i,r<=i->i<n->a i=false))
  (Q:=λc st'=>st'=st/\∃l,c=(none,l,l)/\l<=n/\(∀i,i<l->a i=true)/\(∀i,l<=i->i<n->a i=false)) ?step ?fin ⟨rfl,lo,hi,rfl,h1,h2,by omega,u,v⟩) ?post)
 case fin =>
  rintro c st' ⟨rfl,l,r,rfl,a1,b,t,d,f⟩;have e:l=r:=by omega
  subst e;exact⟨rfl,l,rfl,b,d,f⟩
 case step =>
  rintro x c st' _ y ⟨rfl,l,r,rfl,a1,b,t,d,f⟩;dsimp only;by_cases g:l ≥ r
  .rw[ay g];have e:l=r:=by omega
   subst e;exact aJ ⟨rfl,l,rfl,b,d,f⟩
  .rw[ao g];have q:l+(r-l) / 2<n:=by omega
   refine aB (m _ q ?_);dsimp only;cases p:a (l+(r-l) / 2)with
   |true =>
    rw[ay rfl];exact aJ ⟨rfl,_,r,rfl,by omega,b,by omega,λi hi=>mono i _ (by omega) q p,f⟩
   |false =>
    rw[ao (by simp)];exact aJ ⟨rfl,l,_,rfl,by omega,by omega,by omega,d,λi h1 h2=>o _ i h1 h2 p⟩
 case post =>
  rintro c st' ⟨rfl,l,rfl,b,d,f⟩;exact aJ (h l b d f)
theorem J4{st:SortSt}{left:Bool}{key:Keyed}{arr:Array Keyed}{base n a:Nat}{Q:Option Nat->SortSt->Prop}(F:Cmp prog w A s κ D lt)(J:kindOf st=κ)(u:D key)(b:Nat->Bool)
  (r:∀i,i<n->∃x,arr[base+i]?=some x/\D x/\b2Q lt left key x=b i) (mono:∀i j,i<=j->j<n->b j=true->b i=true) (G:a<n)
  (h:∀k,k<=n->(∀i,i<k->b i=true)->(∀i,k<=i->i<n->b i=false)->Q (some k) st):wpS (model prog w) A E s (O7 left key arr base n a) Q st:=by
 have m:∀i,i<n->∀{R:Option Bool->SortSt->Prop},R (some (b i)) st->wpS (model prog w) A E s (O9 left key arr base i) R st:=λi hi R hR=>by
  obtain⟨x,B,y,C⟩:=r i hi;exact a6B F J u y B (by rw[C];exact hR)
 have q:∀i j,i<=j->j<n->b i=false->b j=false:=λi j z H e=>by
  cases y:b j with
  |false=>rfl
  |true=>rw[mono i j z H y]at e;cases e
 rw[a7t];refine aB (m a G ?_);dsimp only;cases t:b a with
 |true =>
  rw[ay rfl];refine aB (cC (cj (I:=λx c st'=>st'=st/\∃l o,c=(none,l,o)/\l<o/\x+1<=o/\a+l<n/\b (a+l)=true)
   (Q:=λc st'=>st'=st/\∃l o,c=(none,l,o)/\l<o/\a+l<n/\b (a+l)=true/\(o ≥ n-a∨b (a+o)=false)) ?step ?fin ⟨rfl,0,1,rfl,by omega,by omega,by omega,t⟩) ?post)
  case fin =>
   rintro c st' ⟨rfl,l,o,rfl,a1,v,g,f⟩;exact⟨rfl,l,o,rfl,a1,g,f,.inl (by omega)⟩
  case step =>
   rintro x c st' _ K ⟨rfl,l,o,rfl,a1,v,g,f⟩;dsimp only;by_cases d:o ≥ n-a
   .rw[ay d];exact aJ ⟨rfl,l,o,rfl,a1,g,f,.inl d⟩
   .rw[ao d];refine aB (m _ (by omega) ?_);dsimp only;cases r:b (a+o)with
    |true =>
     rw[ao (by simp)];exact aJ ⟨rfl,o,2*o+1,rfl,by omega,by omega,by omega,r⟩
    |false =>
     rw[ay (by rfl)];exact aJ ⟨rfl,l,o,rfl,a1,g,f,.inr r⟩
  case post =>
   rintro c st' ⟨rfl,l,o,rfl,a1,g,f,p⟩;dsimp only;refine a7N (lo:=a+l+1) (hi:=a+min o (n-a)) b m mono q (by omega) (by omega) (λi hi=>mono i (a+l) (by omega) g f) (λi h1 h2=>?_) h;rcases p with p|p
   .omega
   .exact q (a+o) i (by omega) h2 p
 |false =>
  rw[ao (by simp)];refine aB (cC (cj (I:=λx c st'=>st'=st/\∃l o,c=(none,l,o)/\l<o/\x+1<=o/\l<=a/\b (a-l)=false)
   (Q:=λc st'=>st'=st/\∃l o,c=(none,l,o)/\l<o/\l<=a/\b (a-l)=false/\(o ≥ a+1∨b (a-o)=true)) ?step ?fin ⟨rfl,0,1,rfl,by omega,by omega,by omega,t⟩) ?post)
  case fin =>
   rintro c st' ⟨rfl,l,o,rfl,a1,v,g,f⟩;exact⟨rfl,l,o,rfl,a1,g,f,.inl (by omega)⟩
  case step =>
   rintro x c st' _ K ⟨rfl,l,o,rfl,a1,v,g,f⟩;dsimp only;by_cases d:o ≥ a+1
   .rw[ay d];exact aJ ⟨rfl,l,o,rfl,a1,g,f,.inl d⟩
   .rw[ao d];refine aB (m _ (by omega) ?_);dsimp only;cases r:b (a-o)with
    |true =>
     rw[ay rfl];exact aJ ⟨rfl,l,o,rfl,a1,g,f,.inr r⟩
    |false =>
     rw[ao (by simp)];exact aJ ⟨rfl,o,2*o+1,rfl,by omega,by omega,by omega,r⟩
  case post =>
   rintro c st' ⟨rfl,l,o,rfl,a1,g,f,p⟩;dsimp only;refine a7N (lo:=a+1-min o (a+1)) (hi:=a-l) b m mono q (by omega) (by omega) (λi hi=>?_) (λi h1 h2=>q (a-l) i h1 h2 f) h;rcases p with p|p
   .omega
   .exact mono i (a-o) (by omega) (by omega) p
end
section
variable {O:KeyOrd}{kf:Keyed->O.α}{la lb o:List Keyed}{ia ib:Nat}
def leK(kf:Keyed->O.α)(x y:Keyed):Prop:=O.kle (kf x) (kf y)
noncomputable def ltK(kf:Keyed->O.α)(x y:Keyed):Bool:=O.blt (kf x) (kf y)
structure MS(kf:Keyed->O.α)(la lb o:List Keyed)(ia ib:Nat):Prop where
 perm:o.Perm (la.take ia++lb.take ib)
 sorted:o.Pairwise (leK kf)
 ra:∀x∈o,∀y∈la.drop ia,leK kf x y
 rb:∀x∈o,∀y∈lb.drop ib,leK kf x y
theorem Z0{α:Type}{l:List α}{i:Nat}{x:α}(h:l[i]?=some x):l.drop i=x::l.drop (i+1):=by
 obtain⟨hi,e⟩:=aN.mp h;rw[cK hi,e]
theorem V3{l:List Keyed}{i:Nat}{x:Keyed}(hs:l.Pairwise (leK kf))(h:l[i]?=some x):∀y∈l.drop (i+1),leK kf x y:=by
 have:=hs.drop (i:=i);rw[Z0 h]at this;exact(cO.mp this).1
theorem R7{α:Type}{l:List α}{i:Nat}{x:α}(h:l[i]?=some x):l.take (i+1)=l.take i++[x]:=by
 rw[bf,h];rfl
theorem MS.stepA{x:Keyed}(h:MS kf la lb o ia ib)(hs:la.Pairwise (leK kf))(e:la[ia]?=some x)(c:∀y∈lb.drop ib,leK kf x y):MS kf la lb (o++[x]) (ia+1) ib:=by
 have d:x∈la.drop ia:=by rw[Z0 e];exact ar
 refine⟨?_,?_,λz b y a=>?_,λz b y a=>?_⟩
 .rw[R7 e];have:=h.perm.append_right [x];refine this.trans ?_;rw[aH,aH];exact ck _ cD
 .rw[bz];exact⟨h.sorted,List.pairwise_singleton _ _,λz b y a=>by rw[aD.mp a];exact h.ra z b x d⟩
 .have hy':y∈la.drop ia:=by rw[Z0 e];exact av _ a
  rcases aC.mp b with q|q
  .exact h.ra z q y hy'
  .rw[aD.mp q];exact V3 hs e y a
 .rcases aC.mp b with q|q
  .exact h.rb z q y a
  .rw[aD.mp q];exact c y a
theorem MS.swap(h:MS kf la lb o ia ib):MS kf lb la o ib ia:=⟨h.perm.trans cD,h.sorted,h.rb,h.ra⟩
theorem MS.stepB{x:Keyed}(h:MS kf la lb o ia ib)(hs:lb.Pairwise (leK kf))(e:lb[ib]?=some x)(a:∀y∈la.drop ia,leK kf x y):MS kf la lb (o++[x]) ia (ib+1) :=
 (h.swap.stepA hs e a).swap
theorem MS.bulkA(hs:la.Pairwise (leK kf)):∀(k:Nat) {o:List Keyed}{ia:Nat},MS kf la lb o ia ib->ia+k<=la.length->(∀i x,i<k->la[ia+i]?=some x->∀y∈lb.drop ib,leK kf x y)->MS kf la lb (o++(la.drop ia).take k) (ia+k) ib
 |0,o,ia,h,_,_=>by rw[List.take_zero,cY];exact h
 |k+1,o,ia,h,c,b=>by
  obtain⟨x,a⟩:∃x,la[ia]?=some x:=⟨_,ak (by omega)⟩;have h1:=h.stepA hs a (b 0 x (by omega) a);have h2:=MS.bulkA hs k h1 (by omega) λi y hi e=>b (i+1) y (by omega) (by rw[<-e];congr 1;omega);rw[Z0 a,List.take_succ_cons];rw[aH]at h2;rw[show ia+(k+1)=ia+1+k by omega];exact h2
theorem MS.bulkB(hs:lb.Pairwise (leK kf)){k:Nat}(h:MS kf la lb o ia ib)(b:ib+k<=lb.length)(a:∀i x,i<k->lb[ib+i]?=some x->∀y∈la.drop ia,leK kf x y):MS kf la lb (o++(lb.drop ib).take k) ia (ib+k) :=
 (MS.bulkA hs k h.swap b a).swap
def a1i(kf:Keyed->O.α)(la lb o:List Keyed):Prop:=o.Perm (la++lb)/\o.Pairwise (leK kf)
theorem MS.done(h:MS kf la lb o ia ib)(hs:la.Pairwise (leK kf))(b:ib=lb.length):a1i kf la lb (o++la.drop ia++lb.drop ib):=by
 subst b;rw[List.drop_length,cY];have a:=h.perm;rw[bg]at a;refine⟨?_,?_⟩
 .refine(a.append_right _).trans ?_;rw[aH];refine(ck _ cD).trans ?_;rw[<-aH,bp]
 .rw[bz];exact⟨h.sorted,hs.drop,h.ra⟩
theorem MS.lastA(h:MS kf la lb o ia ib)(a:la.Pairwise (leK kf))(hs:lb.Pairwise (leK kf))(c:∀y∈lb.drop ib,∀x∈la.drop ia,leK kf y x):a1i kf la lb (o++lb.drop ib++la.drop ia):=by
 refine⟨?_,?_⟩
 .have hp:=(h.perm.append_right (lb.drop ib)).append_right (la.drop ia);refine hp.trans ?_;rw[aH (la.take ia),bp,aH];refine(ck _ cD).trans ?_;rw[<-aH,bp]
 .rw[bz];refine⟨?_,a.drop,λx d y b=>?_⟩
  .rw[bz];exact⟨h.sorted,hs.drop,h.rb⟩
  .rcases aC.mp d with q|q
   .exact h.ra x q y b
   .exact c x q y b
end
noncomputable def a2D:Array Keyed->Array Keyed->StateT SortSt Sem (Array Keyed):=sortPriv% PySem.Builtin.mergeLo
noncomputable def X0(g:Nat):StateT SortSt Sem Unit:=modify λs=>SortSt.mk' (kindOf s) (arrOf s) (pendingOf s) g (failedOf s)
noncomputable def M9(a b out:Array Keyed)(ia ib:Nat):Array Keyed:=out++a.extract ia a.size++b.extract ib b.size
noncomputable def a0g(a b out:Array Keyed)(ia ib:Nat):Array Keyed:=out++b.extract ib b.size++a.extract ia a.size
abbrev T1:Type:=Option (Array Keyed)×Array Keyed×Nat×Nat×Nat×Nat
abbrev T2:Type:=Option (Array Keyed)×Array Keyed×Nat×Nat×Nat×Nat×Nat
noncomputable def loD(a b out:Array Keyed)(ia ib mg k k1:Nat):StateT SortSt Sem (ForInStep T2) :=
 elem' a ia>>=λx =>
 if (ia+1+1==a.size)=true then pure (.done (some (a0g a b (out.push x) (ia+1) ib),out.push x,ia+1,ib,mg,k,k1))
 else if (decide (k<7) && decide (k1<7))=true then pure (.done (none,out.push x,ia+1,ib,mg,k,k1))
 else pure (.yield (none,out.push x,ia+1,ib,mg,k,k1))
noncomputable def loC(a b out:Array Keyed)(ia ib mg k bc:Nat):StateT SortSt Sem (ForInStep T2) :=
 elem' b ib>>=λy =>
 if (ib+1==b.size)=true then pure (.done (some (M9 a b (out.push y) ia (ib+1)),out.push y,ia,ib+1,mg,k,bc))
 else elem' a ia>>=λx=>O7 true x b (ib+1) (b.size-(ib+1)) 0>>=λr =>
  match r with
  |some k1=>(if k1 > 0 then
    (if (ib+1+k1==b.size)=true then pure (.done (some (M9 a b (out.push y++b.extract (ib+1) (ib+1+k1)) ia (ib+1+k1)),out.push y++b.extract (ib+1) (ib+1+k1),ia,ib+1+k1,mg,k,k1))
    else loD a b (out.push y++b.extract (ib+1) (ib+1+k1)) ia (ib+1+k1) mg k k1)
   else loD a b (out.push y) ia (ib+1) mg k k1)
  |_=>pure (.done (some (M9 a b (out.push y) ia (ib+1)),out.push y,ia,ib+1,mg,k,bc))
noncomputable def loB(a b out:Array Keyed)(ia ib mg ac bc:Nat):StateT SortSt Sem (ForInStep T2) :=
 X0 mg>>=λ_=>elem' b ib>>=λy=>O7 false y a ia (a.size-ia) 0>>=λr =>
 match r with
 |some k=>(if k > 0 then
   (if (ia+k+1==a.size)=true then pure (.done (some (a0g a b (out++a.extract ia (ia+k)) (ia+k) ib),out++a.extract ia (ia+k),ia+k,ib,mg,k,bc))
   else if (ia+k==a.size)=true then pure (.done (some (M9 a b (out++a.extract ia (ia+k)) (ia+k) ib),out++a.extract ia (ia+k),ia+k,ib,mg,k,bc))
   else loC a b (out++a.extract ia (ia+k)) (ia+k) ib mg k bc)
  else loC a b out ia ib mg k bc)
 |_=>pure (.done (some (M9 a b out ia ib),out,ia,ib,mg,ac,bc))
noncomputable def loA(a b out:Array Keyed)(ia ib ac bc mg:Nat):StateT SortSt Sem (ForInStep T1) :=
 elem' b ib>>=λy=>elem' a ia>>=λx=>lt' y x>>=λr =>
 match r with
 |some bWins=>(if bWins=true then elem' b ib>>=λy =>
   (if (ib+1==b.size)=true then pure (.done (some (M9 a b (out.push y) ia (ib+1)),out.push y,ia,ib+1,0,bc+1))
   else if bc+1 ≥ mg then pure (.done (none,out.push y,ia,ib+1,0,bc+1))
   else pure (.yield (none,out.push y,ia,ib+1,0,bc+1)))
  else elem' a ia>>=λx =>
   (if (ia+1+1==a.size)=true then pure (.done (some (a0g a b (out.push x) (ia+1) ib),out.push x,ia+1,ib,ac+1,0))
   else if ac+1 ≥ mg then pure (.done (none,out.push x,ia+1,ib,ac+1,0))
   else pure (.yield (none,out.push x,ia+1,ib,ac+1,0))))
 |_=>pure (.done (some (M9 a b out ia ib),out,ia,ib,ac,bc))
theorem a5Z(a b:Array Keyed):a2D a b=(do
 rule "list.sort.merge-lo"
 let y <-elem' b 0
 if (1==b.size)=true then pure (M9 a b #[y] 0 1)
 else if (0+1==a.size)=true then pure (a0g a b #[y] 0 1)
 else do
  let g <-get
  let r <-forIn [:a.size+b.size] ((none,#[y],0,1,gallopOf g):Option (Array Keyed)×Array Keyed×Nat×Nat×Nat) λ_ c=>do
   let r <-forIn [:a.size+b.size] ((none,c.2.1,c.2.2.1,c.2.2.2.1,0,0):T1) λ_ d=>loA a b d.2.1 d.2.2.1 d.2.2.2.1 d.2.2.2.2.1 d.2.2.2.2.2 c.2.2.2.2
   match r.1 with
   |some q=>pure (ForInStep.done (some q,r.2.1,r.2.2.1,r.2.2.2.1,c.2.2.2.2))
   |none=>do
    rule "list.sort.gallop"
    let t <-forIn [:a.size+b.size] ((none,r.2.1,r.2.2.1,r.2.2.2.1,c.2.2.2.2+1,r.2.2.2.2.1,r.2.2.2.2.2):T2) λ_ d =>
     if d.2.2.2.2.1 > 1 then loB a b d.2.1 d.2.2.1 d.2.2.2.1 (d.2.2.2.2.1-1) d.2.2.2.2.2.1 d.2.2.2.2.2.2 else loB a b d.2.1 d.2.2.1 d.2.2.2.1 d.2.2.2.2.1 d.2.2.2.2.2.1 d.2.2.2.2.2.2
    match t.1 with
    |some q=>pure (ForInStep.done (some q,t.2.1,t.2.2.1,t.2.2.2.1,t.2.2.2.2.1))
    |none=>do
     X0 (t.2.2.2.2.1+1)
     pure (ForInStep.yield (none,t.2.1,t.2.2.1,t.2.2.2.1,t.2.2.2.2.1+1))
  match r.1 with
  |some q=>pure q
  |none=>unsupported "internal:list.sort.merge-bound"):=by
 show(_>>=_)=(_>>=_);refine aQ _ (funext λ_=>?_);dsimp only;refine aQ _ (funext λy=>?_);refine dM rfl (λ_=>rfl) (λ_=>dM rfl (λ_=>rfl) λ_=>?_);refine aQ _ (funext λg=>?_);refine congr (aQ _ (aQ _ (funext λ_=>funext λc=>?_))) (funext λr=>?_)
 .refine congr (aQ _ (aQ _ (funext λ_=>funext λd=>?_))) (funext λr=>?_)
  .rfl
  .rcases r with⟨_|q,r⟩
   .dsimp only;refine aQ _ (funext λ_=>?_);refine congr (aQ _ (aQ _ (funext λ_=>funext λd=>?_))) (funext λr=>?_)
    .rfl
    .rcases r with⟨_|q,r⟩<;>rfl
   .rfl
 .rcases r with⟨_|q,r⟩
  .dsimp only
  .rfl
theorem a1W{α:Type}(a:Array α)(i:Nat):(a.extract i a.size).toList=a.toList.drop i:=by
 rw[eJ];simp[List.extract_eq_drop_take'];rw[<-ax,bg]
theorem a3c{α:Type}(a:Array α)(i k:Nat):(a.extract i (i+k)).toList=(a.toList.drop i).take k:=by
 rw[eJ];simp[List.extract_eq_drop_take]
theorem a6s(a b out:Array Keyed)(ia ib:Nat):(M9 a b out ia ib).toList=out.toList++a.toList.drop ia++b.toList.drop ib:=by
 unfold M9;rw[bR,bR,a1W,a1W]
theorem a6f(a b out:Array Keyed)(ia ib:Nat):(a0g a b out ia ib).toList=out.toList++b.toList.drop ib++a.toList.drop ia:=by
 unfold a0g;rw[bR,bR,a1W,a1W]
section
variable {prog:Program}{w:World}{A:Around}{E:Value->Shared->Prop}{s:Shared}{κ:SortKind}{D:Keyed->Prop}{O:KeyOrd}{kf:Keyed->O.α}{a b out:Array Keyed}{ia ib:Nat}{st:SortSt}
def Good(st st':SortSt):Prop:=kindOf st'=kindOf st/\arrOf st'=arrOf st/\pendingOf st'=pendingOf st/\failedOf st'=failedOf st
structure Two(D:Keyed->Prop)(kf:Keyed->O.α)(a b:Array Keyed):Prop where
 da:∀(i:Nat) x,a[i]?=some x->D x
 db:∀(i:Nat) x,b[i]?=some x->D x
 sa:a.toList.Pairwise (leK kf)
 sb:b.toList.Pairwise (leK kf)
 last:∀y∈b.toList,∀x,a[a.size-1]?=some x->ltK kf y x=true
theorem T7{l:List Keyed}{i:Nat}{x z:Keyed}(hs:l.Pairwise (leK kf))(e:l[i]?=some x)(h:leK kf z x):∀y∈l.drop i,leK kf z y:=λy a=>by
 rw[Z0 e]at a;rcases aE.mp a with rfl|a
 .exact h
 .exact bO h (V3 hs e y a)
def MI(kf:Keyed->O.α)(a b out:Array Keyed)(ia ib:Nat):Prop:=MS kf a.toList b.toList out.toList ia ib/\ia+1<a.size/\ib<b.size
def C5(kf:Keyed->O.α)(a b r:Array Keyed):Prop:=a1i kf a.toList b.toList r.toList
theorem X9(T:Two D kf a b)(h:MS kf a.toList b.toList out.toList ia ib)(hi:ia+1=a.size):C5 kf a b (a0g a b out ia ib):=by
 unfold C5;rw[a6f];refine h.lastA T.sa T.sb λy e x d=>?_;have c:ia<a.toList.length:=by rw[ax];omega
 rw[cK c,cz (by rw[ax];omega),aD]at d;refine bP (T.last y (cG e) x ?_);rw[d,show a.size-1=ia by omega,<-au,ak c]
theorem Z1(T:Two D kf a b)(h:MS kf a.toList b.toList out.toList ia ib)(hi:ib=b.size):C5 kf a b (M9 a b out ia ib):=by
 unfold C5;rw[a6s];exact h.done T.sa (by rw[ax];exact hi)
theorem B3{arr:Array Keyed}{i:Nat}(hi:i<arr.size){Q:Keyed->SortSt->Prop}(h:∀x,arr[i]?=some x->arr.toList[i]?=some x->Q x st):wpS (model prog w) A E s (elem' arr i) Q st:=by
 rw[elem'_eq];have e:arr[i]?=some arr[i]:=getElem?_pos arr i hi;rw[e];exact aJ (h _ e (by rw[au];exact e))
def P2(kf:Keyed->O.α)(st:SortSt)(a b:Array Keyed)(c0:Nat)(c:T2)(st':SortSt):Prop:=Good st st'/\((∃r,c.1=some r/\C5 kf a b r)∨(c.1=none/\MI kf a b c.2.1 c.2.2.1 c.2.2.2.1/\c0<=c.2.2.1+c.2.2.2.1))
def Y2(kf:Keyed->O.α)(st:SortSt)(a b:Array Keyed)(c0:Nat)(c:T2)(st':SortSt):Prop:=Good st st'/\c.1=none/\MI kf a b c.2.1 c.2.2.1 c.2.2.2.1/\c0<=c.2.2.1+c.2.2.2.1
def R2'(kf:Keyed->O.α)(st:SortSt)(a b:Array Keyed)(c0:Nat)(r:ForInStep T2)(st':SortSt):Prop:=match r with | .done c'=>P2 kf st a b c0 c' st' | .yield c'=>Y2 kf st a b c0 c' st'
variable {c0 mg k k1 bc ac:Nat}{st':SortSt}
theorem a7G(T:Two D kf a b)(g:Good st st')(h:MI kf a b out ia ib)(j:∀x,a.toList[ia]?=some x->∀y∈b.toList.drop ib,leK kf x y)(i:c0<=ia+ib):wpS (model prog w) A E s (loD a b out ia ib mg k k1) (R2' kf st a b c0) st':=by
 unfold loD;refine aB (B3 (by have:=h.2.1;omega) λx l d=>?_);have c:=h.1.stepA T.sa d (j x d);rw[<-cT]at c;split
 .rename_i e;exact aJ ⟨g,.inl ⟨_,rfl,X9 T c (eq_of_beq e)⟩⟩
 .rename_i e;have e:¬ia+1+1=a.size:=λz=>e (bh.mpr z);have f:MI kf a b (out.push x) (ia+1) ib:=⟨c,by have:=h.2.1;omega,h.2.2⟩;split
  .exact aJ ⟨g,.inr ⟨rfl,f,by show c0<=ia+1+ib;omega⟩⟩
  .exact aJ ⟨g,rfl,f,by show c0<=ia+1+ib;omega⟩
theorem gdK(a:Array Keyed){i:Nat}(hi:i<a.size):a[i]?=some (a.getD i (Value.none,Value.none)):=by
 rw[bM,getElem?_pos a i hi];rfl
theorem X8{l:List Keyed}(hs:l.Pairwise (leK kf)){i j:Nat}{x y:Keyed}(b:i<=j)(ex:l[i]?=some x)(a:l[j]?=some y):leK kf x y:=by
 by_cases e:i=j
 .subst e;rw[ex]at a;cases a;exact cy _
 .refine V3 hs ex y ?_;have:(l.drop (i+1))[j-(i+1)]?=some y:=by rw[eZ,<-a];congr 1;omega
  exact aF this
theorem a7H(T:Two D kf a b)(p:Cmp prog w A s κ D (ltK kf))(G:kindOf st=κ)(g:Good st st')(h:MI kf a b out ia ib)(H:∀y,b.toList[ib]?=some y->∀x∈a.toList.drop ia,leK kf y x)(C:c0<=ia+ib):wpS (model prog w) A E s (loC a b out ia ib mg k bc) (R2' kf st a b c0) st':=by
 unfold loC;obtain⟨r,f,q⟩:=h;refine aB (B3 q λy u l=>?_);have n:=r.stepB T.sb l (H y l);rw[<-cT]at n;split
 .rename_i e;exact aJ ⟨g,.inl ⟨_,rfl,Z1 T n (eq_of_beq e)⟩⟩
 .rename_i e;have e:¬ib+1=b.size:=λz=>e (bh.mpr z);refine aB (B3 (by omega) λx f1 f2=>?_);refine aB (J4 p (g.1.trans G) (T.da _ _ f1) (λi=>ltK kf (b.getD (ib+1+i) (Value.none,Value.none)) x) (λi hi=>⟨_,gdK b (by omega),T.db _ _ (gdK b (by omega)),rfl⟩) (λi j F K B=>?_) (by omega) λk1 L I J=>?_)
  .refine e_ (X8 T.sb (i:=ib+1+i) (j:=ib+1+j) (by omega) ?_ ?_) B
   .rw[au];exact gdK b (by omega)
   .rw[au];exact gdK b (by omega)
  .dsimp only;have d:∀(c:Nat),c=ib+1+k1->c<b.size->∀t,a.toList[ia]?=some t->∀y∈b.toList.drop c,leK kf t y:=λc u l t ex'=>by
    rw[f2]at ex';cases ex';have o:b.toList[c]?=some (b.getD c (Value.none,Value.none)):=by rw[au];exact gdK b l
    refine T7 T.sb o ?_;have:=J k1 (aj _) (by omega);rw[<-u]at this;exact this
   split
   .have hbk:=MS.bulkB T.sb (k:=k1) n (by rw[ax];omega) λi z hi v=>by
     refine T7 T.sa f2 ?_;have:=I i hi;rw[au,gdK b (by omega)]at v;cases v;exact bP this
    rw[<-a3c,<-bR]at hbk;split
    .rename_i m;exact aJ ⟨g,.inl ⟨_,rfl,Z1 T hbk (eq_of_beq m)⟩⟩
    .rename_i m;have m:¬ib+1+k1=b.size:=λz=>m (bh.mpr z);exact a7G T g ⟨hbk,f,by omega⟩ (d _ rfl (by omega)) (by omega)
   .exact a7G T g ⟨n,f,by omega⟩ (d _ (by omega) (by omega)) (by omega)
theorem R6{Q:Unit->SortSt->Prop}(h:∀a,Good st' a->Q () a):wpS (model prog w) A E s (X0 mg) Q st':=by
 unfold X0;exact wpS_modify (h _ ⟨rfl,rfl,rfl,rfl⟩)
theorem Good.trans{st st' a:SortSt}(h:Good st st')(h2:Good st' a):Good st a:=⟨h2.1.trans h.1,h2.2.1.trans h.2.1,h2.2.2.1.trans h.2.2.1,h2.2.2.2.trans h.2.2.2⟩
theorem a7I(T:Two D kf a b)(f:Cmp prog w A s κ D (ltK kf))(u:kindOf st=κ)(g:Good st st')(h:MI kf a b out ia ib)(r:c0<=ia+ib):wpS (model prog w) A E s (loB a b out ia ib mg ac bc) (R2' kf st a b c0) st':=by
 unfold loB;obtain⟨n,t,l⟩:=h;refine aB (R6 λO J=>?_);have g:=g.trans J;refine aB (B3 l λy I p=>?_);refine aB (J4 f (g.1.trans u) (T.db _ _ I) (λi=>!(ltK kf y (a.getD (ia+i) (Value.none,Value.none)))) (λi hi=>⟨_,gdK a (by omega),T.da _ _ (gdK a (by omega)),rfl⟩) (λi j L P G=>?_) (by omega) λk Q H N=>?_)
 .have hle:leK kf (a.getD (ia+j) (Value.none,Value.none)) y:=by
   unfold leK KeyOrd.kle;unfold ltK at G;simpa using G
  have:=bO (X8 T.sa (i:=ia+i) (j:=ia+j) (by omega) (by rw[au];exact gdK a (by omega)) (by rw[au];exact gdK a (by omega))) hle;unfold KeyOrd.kle at this;unfold ltK;rw[this];rfl
 .dsimp only;have m:ltK kf y (a.getD (a.size-1) (Value.none,Value.none))=true:=T.last y (aF p) _ (gdK a (by omega));have M:ia+k<a.size:=by
   refine Nat.lt_of_not_le λK=>?_;have:=H (a.size-1-ia) (by omega);rw[show ia+(a.size-1-ia)=a.size-1 by omega,m]at this;cases this
  have c:∀d,d=ia+k->∀v,b.toList[ib]?=some v->∀x∈a.toList.drop d,leK kf v x:=λd e v C=>by
   rw[p]at C;cases C;have q:a.toList[d]?=some (a.getD d (Value.none,Value.none)):=by rw[au];exact gdK a (by omega)
   refine T7 T.sa q ?_;have:=N k (aj _) (by omega);rw[<-e]at this;refine bP ?_;unfold KeyOrd.klt;unfold ltK at this;simpa using this
  split
  .have hbk:=MS.bulkA T.sa k n (by rw[ax];omega) λi z hi F=>by
    refine T7 T.sb p ?_;have:=H i hi;rw[au,gdK a (by omega)]at F;cases F;unfold leK KeyOrd.kle;unfold ltK at this;simpa using this
   rw[<-a3c,<-bR]at hbk;split
   .rename_i o;exact aJ ⟨g,.inl ⟨_,rfl,X9 T hbk (eq_of_beq o)⟩⟩
   .rename_i o;have o:¬ia+k+1=a.size:=λz=>o (bh.mpr z);split
    .rename_i B;have B:=eq_of_beq B;omega
    .exact a7H T f u g ⟨hbk,by omega,l⟩ (c _ rfl) (by omega)
  .exact a7H T f u g ⟨n,t,l⟩ (c _ (by omega)) r
def P1(kf:Keyed->O.α)(st:SortSt)(a b:Array Keyed)(c0:Nat)(c:T1)(st':SortSt):Prop:=Good st st'/\((∃r,c.1=some r/\C5 kf a b r)∨(c.1=none/\MI kf a b c.2.1 c.2.2.1 c.2.2.2.1/\c0<=c.2.2.1+c.2.2.2.1))
def Y1(kf:Keyed->O.α)(st:SortSt)(a b:Array Keyed)(c0:Nat)(c:T1)(st':SortSt):Prop:=Good st st'/\c.1=none/\MI kf a b c.2.1 c.2.2.1 c.2.2.2.1/\c0<=c.2.2.1+c.2.2.2.1
def R1'(kf:Keyed->O.α)(st:SortSt)(a b:Array Keyed)(c0:Nat)(r:ForInStep T1)(st':SortSt):Prop:=match r with | .done c'=>P1 kf st a b c0 c' st' | .yield c'=>Y1 kf st a b c0 c' st'
theorem b2W(T:Two D kf a b)(m:Cmp prog w A s κ D (ltK kf))(r:kindOf st=κ)(g:Good st st')(h:MI kf a b out ia ib)(q:c0<=ia+ib):wpS (model prog w) A E s (loA a b out ia ib ac bc mg) (R1' kf st a b (c0+1)) st':=by
 unfold loA;obtain⟨i,n,d⟩:=h;refine aB (B3 d λy p l=>?_);refine aB (B3 (by omega) λx f1 f2=>?_);refine aB (a0k m (g.1.trans r) (T.db _ _ p) (T.da _ _ f1) ?_);dsimp only;cases o:ltK kf y x with
 |true =>
  rw[ay rfl];refine aB (B3 d λu k c=>?_);rw[l]at c;cases c;have f:=i.stepB T.sb l (T7 T.sa f2 (bP o));rw[<-cT]at f;split
  .rename_i e;exact aJ ⟨g,.inl ⟨_,rfl,Z1 T f (eq_of_beq e)⟩⟩
  .rename_i e;have e:¬ib+1=b.size:=λz=>e (bh.mpr z);have j:MI kf a b (out.push y) ia (ib+1):=⟨f,n,by omega⟩;split
   .exact aJ ⟨g,.inr ⟨rfl,j,by show c0+1<=ia+(ib+1);omega⟩⟩
   .exact aJ ⟨g,rfl,j,by show c0+1<=ia+(ib+1);omega⟩
 |false =>
  rw[ao (by simp)];refine aB (B3 (by omega) λt k c=>?_);rw[f2]at c;cases c;have f:=i.stepA T.sa f2 (T7 T.sb l o);rw[<-cT]at f;split
  .rename_i e;exact aJ ⟨g,.inl ⟨_,rfl,X9 T f (eq_of_beq e)⟩⟩
  .rename_i e;have e:¬ia+1+1=a.size:=λz=>e (bh.mpr z);have j:MI kf a b (out.push x) (ia+1) ib:=⟨f,by omega,d⟩;split
   .exact aJ ⟨g,.inr ⟨rfl,j,by show c0+1<=ia+1+ib;omega⟩⟩
   .exact aJ ⟨g,rfl,j,by show c0+1<=ia+1+ib;omega⟩
theorem P8{n:String}{Q:Unit->SortSt->Prop}(h:Q () st):wpS (model prog w) A E s (liftM (rule n):StateT SortSt Sem Unit) Q st:=wpS_lift (fU ⟨rfl,h⟩)
theorem a5n(T:Two D kf a b)(k:Cmp prog w A s κ D (ltK kf))(t:kindOf st=κ)(O:0<a.size)(F:0<b.size)(h0:∀y,b.toList[0]?=some y->∀x∈a.toList,leK kf y x){Q:Array Keyed->SortSt->Prop}
  (q:∀r st',C5 kf a b r->Good st st'->Q r st'):wpS (model prog w) A E s (a2D a b) Q st:=by
 rw[a5Z];refine aB (P8 ?_);refine aB (B3 F λy f j=>?_);have l:MS kf a.toList b.toList (#[y]:Array Keyed).toList 0 1:=by
  have z:MS kf a.toList b.toList [] 0 0:=⟨.nil,.nil,(λ_ h=>nomatch h),λ_ h=>nomatch h⟩;exact z.stepB T.sb j (λx u=>h0 y j x u)
 have o:Good st st:=⟨rfl,rfl,rfl,rfl⟩;split
 .rename_i e;exact aJ (q _ _ (Z1 T l (eq_of_beq e)) o)
 .rename_i e;have e:¬1=b.size:=λz=>e (bh.mpr z);split
  .rename_i n;exact aJ (q _ _ (X9 T l (eq_of_beq n)) o)
  .rename_i n;have n:¬0+1=a.size:=λz=>n (bh.mpr z);refine aB (fo ?_);refine aB (cC (cj (I:=λx c st'=>Good st st'/\c.1=none/\MI kf a b c.2.1 c.2.2.1 c.2.2.2.1/\x+1<=c.2.2.1+c.2.2.2.1)
    (Q:=λc st'=>Good st st'/\∃r,c.1=some r/\C5 kf a b r) ?step ?fin ⟨o,rfl,⟨l,by show 0+1<a.size;omega,by show 1<b.size;omega⟩,aj _⟩) ?post)
   case post =>
    rintro c st' ⟨g,r,f,j⟩;obtain⟨L,M⟩:=c;dsimp only at f;subst f;exact aJ (q _ _ j g)
   case fin =>
    rintro c st' ⟨g,f,⟨_,h1,h2⟩,N⟩;exfalso;omega
   case step =>
    rintro x c J _ u ⟨g,f,p,G⟩;refine aB (cC (cj (I:=λz d st'=>Y1 kf st a b (x+1+min z 1) d st') (Q:=λd st'=>P1 kf st a b (x+2) d st') ?s1 ?f1 ⟨g,rfl,p,by show x+1+min 0 1<=c.2.2.1+c.2.2.2.1;omega⟩) ?p1)
    case f1 =>
     rintro d st' ⟨g,f,h1,h2⟩;exact⟨g,.inr ⟨f,h1,by omega⟩⟩
    case s1 =>
     rintro z d st' _ H ⟨g,f,h1,h2⟩;refine cC (b2W T k t g h1 (c0:=x+1) (by omega)) λr m i=>?_;cases r with
     |done c'=>exact i
     | «yield» c'=>exact⟨i.1,i.2.1,i.2.2.1,by have:=i.2.2.2;omega⟩
    case p1 =>
     rintro d st' ⟨g,hd⟩;obtain⟨v,B⟩:=d;rcases hd with⟨r,f,j⟩|⟨f,h1,h2⟩
     .dsimp only at f;subst f;exact aJ ⟨g,r,rfl,j⟩
     .dsimp only at f;subst f;refine aB (P8 ?_);refine aB (cC (cj (I:=λz d st'=>Y2 kf st a b (x+2) d st') (Q:=λd st'=>P2 kf st a b (x+2) d st') ?s2 ?f2 ⟨g,rfl,h1,h2⟩) ?p2)
      case f2 =>
       rintro d st' ⟨g,f,h1,h2⟩;exact⟨g,.inr ⟨f,h1,h2⟩⟩
      case s2 =>
       rintro z d st' _ H ⟨g,f,h1,h2⟩;split
       .refine cC (a7I T k t g h1 h2) λr m i=>?_;cases r<;>exact i
       .refine cC (a7I T k t g h1 h2) λr m i=>?_;cases r<;>exact i
      case p2 =>
       rintro d st' ⟨g,hd⟩;obtain⟨v,B⟩:=d;rcases hd with⟨r,f,j⟩|⟨f,h1,h2⟩
       .dsimp only at f;subst f;exact aJ ⟨g,r,rfl,j⟩
       .dsimp only at f;subst f;refine aB (R6 λK C=>?_);exact aJ ⟨g.trans C,rfl,h1,h2⟩
end
section
variable {O:KeyOrd}{kf:Keyed->O.α}{la lb o:List Keyed}{na nb:Nat}
structure MH(kf:Keyed->O.α)(la lb o:List Keyed)(na nb:Nat):Prop where
 perm:o.Perm (la.drop na++lb.drop nb)
 sorted:o.Pairwise (leK kf)
 ra:∀x∈la.take na,∀y∈o,leK kf x y
 rb:∀x∈lb.take nb,∀y∈o,leK kf x y
theorem a1p{l:List Keyed}{i:Nat}{x:Keyed}(hs:l.Pairwise (leK kf))(h:l[i]?=some x):∀y∈l.take i,leK kf y x:=λy a=>by
 have:=hs.take (i:=i+1);rw[R7 h,bz]at this;exact this.2.2 y a x (aD.mpr rfl)
theorem MH.stepA{x:Keyed}(h:MH kf la lb o (na+1) nb)(hs:la.Pairwise (leK kf))(e:la[na]?=some x)(c:∀y∈lb.take nb,leK kf y x):MH kf la lb (x::o) na nb:=by
 have d:x∈la.take (na+1):=by rw[R7 e];exact aO _ (aD.mpr rfl)
 refine⟨?_,?_,λz b y a=>?_,λz b y a=>?_⟩
 .rw[Z0 e,dR];exact h.perm.cons x
 .rw[cO];exact⟨λy a=>h.ra x d y a,h.sorted⟩
 .rcases aE.mp a with rfl|a
  .exact a1p hs e z b
  .exact h.ra z (by rw[R7 e];exact aS _ b) y a
 .rcases aE.mp a with rfl|a
  .exact c z b
  .exact h.rb z b y a
theorem MH.swap(h:MH kf la lb o na nb):MH kf lb la o nb na:=⟨h.perm.trans cD,h.sorted,h.rb,h.ra⟩
theorem MH.stepB{x:Keyed}(h:MH kf la lb o na (nb+1))(hs:lb.Pairwise (leK kf))(e:lb[nb]?=some x)(a:∀y∈la.take na,leK kf y x):MH kf la lb (x::o) na nb:=(h.swap.stepA hs e a).swap
theorem MH.bulkA(hs:la.Pairwise (leK kf)){a:Nat}:∀(k:Nat) {o:List Keyed},MH kf la lb o (a+k) nb->a+k<=la.length->(∀i x,a<=i->i<a+k->la[i]?=some x->∀y∈lb.take nb,leK kf y x)->MH kf la lb ((la.take (a+k)).drop a++o) a nb
 |0,o,h,d,_=>by
  rw[Nat.add_zero,cz (by rw[aY];omega),bS];exact h
 |k+1,o,h,d,c=>by
  obtain⟨x,b⟩:∃x,la[a+k]?=some x:=⟨_,ak (by omega)⟩;have h1:=MH.stepA (na:=a+k) h hs b (c _ x (by omega) (by omega) b);have h2:=MH.bulkA hs k h1 (by omega) λi y h1 h2 e=>c i y h1 (by omega) e;rw[show a+(k+1)=a+k+1 by omega,R7 b,di (by rw[aY];omega),aH];exact h2
theorem MH.bulkB(hs:lb.Pairwise (leK kf)){a k:Nat}(h:MH kf la lb o na (a+k))(c:a+k<=lb.length)(b:∀i x,a<=i->i<a+k->lb[i]?=some x->∀y∈la.take na,leK kf y x):MH kf la lb ((lb.take (a+k)).drop a++o) na a :=
 (MH.bulkA hs k h.swap c b).swap
theorem MH.done(h:MH kf la lb o 0 nb)(hs:lb.Pairwise (leK kf)):a1i kf la lb (la.take 0++lb.take nb++o):=by
 rw[List.take_zero,bS];have a:=h.perm;rw[cW]at a;refine⟨?_,?_⟩
 .refine(ck _ a).trans ?_;rw[<-aH];refine(List.Perm.append_right _ cD).trans ?_;rw[aH,bp]
 .rw[bz];exact⟨hs.take,h.sorted,h.rb⟩
theorem MH.firstB(h:MH kf la lb o na nb)(a:la.Pairwise (leK kf))(hs:lb.Pairwise (leK kf))(c:∀y∈lb.take nb,∀x∈la.take na,leK kf y x):a1i kf la lb (lb.take nb++la.take na++o):=by
 refine⟨?_,?_⟩
 .refine(ck _ h.perm).trans ?_;rw[aH,<-aH (la.take na),bp];refine cD.trans ?_;rw[aH];refine ck _ (cD.trans ?_);rw[bp]
 .rw[bz];refine⟨?_,h.sorted,λx d y b=>?_⟩
  .rw[bz];exact⟨hs.take,a.take,c⟩
  .rcases aC.mp d with q|q
   .exact h.rb x q y b
   .exact h.ra x q y b
end
noncomputable def a2E:Array Keyed->Array Keyed->StateT SortSt Sem (Array Keyed):=sortPriv% PySem.Builtin.mergeHi
noncomputable def N0(a b out:Array Keyed)(na nb:Nat):Array Keyed:=a.extract 0 na++b.extract 0 nb++out.reverse
noncomputable def T9(a b out:Array Keyed)(na nb:Nat):Array Keyed:=b.extract 0 nb++a.extract 0 na++out.reverse
abbrev U1:Type:=Option (Array Keyed)×Nat×Nat×Array Keyed×Nat×Nat
abbrev U2:Type:=Option (Array Keyed)×Nat×Nat×Array Keyed×Nat×Nat×Nat
noncomputable def hiD(a b:Array Keyed)(na nb:Nat)(out:Array Keyed)(mg k k1:Nat):StateT SortSt Sem (ForInStep U2) :=
 elem' a (na-1)>>=λx =>
 if (na-1==0)=true then pure (.done (some (N0 a b (out.push x) (na-1) nb),na-1,nb,out.push x,mg,k,k1))
 else if (decide (k<7) && decide (k1<7))=true then pure (.done (none,na-1,nb,out.push x,mg,k,k1))
 else pure (.yield (none,na-1,nb,out.push x,mg,k,k1))
noncomputable def hiC(a b:Array Keyed)(na nb:Nat)(out:Array Keyed)(mg k bc:Nat):StateT SortSt Sem (ForInStep U2) :=
 elem' b (nb-1)>>=λy =>
 if (nb-1==1)=true then pure (.done (some (T9 a b (out.push y) na (nb-1)),na,nb-1,out.push y,mg,k,bc))
 else elem' a (na-1)>>=λx=>O7 true x b 0 (nb-1) (nb-1-1)>>=λr =>
  match r with
  |some at_=>(if nb-1-at_ > 0 then
    (if (at_==1)=true then pure (.done (some (T9 a b (out.push y++(b.extract at_ (nb-1)).reverse) na at_),na,at_,out.push y++(b.extract at_ (nb-1)).reverse,mg,k,nb-1-at_))
    else if (at_==0)=true then pure (.done (some (N0 a b (out.push y++(b.extract at_ (nb-1)).reverse) na at_),na,at_,out.push y++(b.extract at_ (nb-1)).reverse,mg,k,nb-1-at_))
    else hiD a b na at_ (out.push y++(b.extract at_ (nb-1)).reverse) mg k (nb-1-at_))
   else hiD a b na (nb-1) (out.push y) mg k (nb-1-at_))
  |_=>pure (.done (some (N0 a b (out.push y) na (nb-1)),na,nb-1,out.push y,mg,k,bc))
noncomputable def hiB(a b:Array Keyed)(na nb:Nat)(out:Array Keyed)(mg ac bc:Nat):StateT SortSt Sem (ForInStep U2) :=
 X0 mg>>=λ_=>elem' b (nb-1)>>=λy=>O7 false y a 0 na (na-1)>>=λr =>
 match r with
 |some at_=>(if na-at_ > 0 then
   (if (at_==0)=true then pure (.done (some (N0 a b (out++(a.extract at_ na).reverse) at_ nb),at_,nb,out++(a.extract at_ na).reverse,mg,na-at_,bc))
   else hiC a b at_ nb (out++(a.extract at_ na).reverse) mg (na-at_) bc)
  else hiC a b na nb out mg (na-at_) bc)
 |_=>pure (.done (some (N0 a b out na nb),na,nb,out,mg,ac,bc))
noncomputable def hiA(a b:Array Keyed)(na nb:Nat)(out:Array Keyed)(ac bc mg:Nat):StateT SortSt Sem (ForInStep U1) :=
 elem' b (nb-1)>>=λy=>elem' a (na-1)>>=λx=>lt' y x>>=λr =>
 match r with
 |some aWins=>(if aWins=true then elem' a (na-1)>>=λx =>
   (if (na-1==0)=true then pure (.done (some (N0 a b (out.push x) (na-1) nb),na-1,nb,out.push x,ac+1,0))
   else if ac+1 ≥ mg then pure (.done (none,na-1,nb,out.push x,ac+1,0))
   else pure (.yield (none,na-1,nb,out.push x,ac+1,0)))
  else elem' b (nb-1)>>=λy =>
   (if (nb-1==1)=true then pure (.done (some (T9 a b (out.push y) na (nb-1)),na,nb-1,out.push y,0,bc+1))
   else if bc+1 ≥ mg then pure (.done (none,na,nb-1,out.push y,0,bc+1))
   else pure (.yield (none,na,nb-1,out.push y,0,bc+1))))
 |_=>pure (.done (some (N0 a b out na nb),na,nb,out,ac,bc))
theorem a6a(a b:Array Keyed):a2E a b=(do
 rule "list.sort.merge-hi"
 let y <-elem' a (a.size-1)
 if (a.size-1==0)=true then pure (N0 a b #[y] (a.size-1) b.size)
 else if (b.size==1)=true then pure (T9 a b #[y] (a.size-1) b.size)
 else do
  let g <-get
  let r <-forIn [:a.size+b.size] ((none,a.size-1,b.size,#[y],gallopOf g):Option (Array Keyed)×Nat×Nat×Array Keyed×Nat) λ_ c=>do
   let r <-forIn [:a.size+b.size] ((none,c.2.1,c.2.2.1,c.2.2.2.1,0,0):U1) λ_ d=>hiA a b d.2.1 d.2.2.1 d.2.2.2.1 d.2.2.2.2.1 d.2.2.2.2.2 c.2.2.2.2
   match r.1 with
   |some q=>pure (ForInStep.done (some q,r.2.1,r.2.2.1,r.2.2.2.1,c.2.2.2.2))
   |none=>do
    rule "list.sort.gallop"
    let t <-forIn [:a.size+b.size] ((none,r.2.1,r.2.2.1,r.2.2.2.1,c.2.2.2.2+1,r.2.2.2.2.1,r.2.2.2.2.2):U2) λ_ d =>
     if d.2.2.2.2.1 > 1 then hiB a b d.2.1 d.2.2.1 d.2.2.2.1 (d.2.2.2.2.1-1) d.2.2.2.2.2.1 d.2.2.2.2.2.2 else hiB a b d.2.1 d.2.2.1 d.2.2.2.1 d.2.2.2.2.1 d.2.2.2.2.2.1 d.2.2.2.2.2.2
    match t.1 with
    |some q=>pure (ForInStep.done (some q,t.2.1,t.2.2.1,t.2.2.2.1,t.2.2.2.2.1))
    |none=>do
     X0 (t.2.2.2.2.1+1)
     pure (ForInStep.yield (none,t.2.1,t.2.2.1,t.2.2.2.1,t.2.2.2.2.1+1))
  match r.1 with
  |some q=>pure q
  |none=>unsupported "internal:list.sort.merge-bound"):=by
 show(_>>=_)=(_>>=_);refine aQ _ (funext λ_=>?_);dsimp only;refine aQ _ (funext λy=>?_);refine dM rfl (λ_=>rfl) (λ_=>dM rfl (λ_=>rfl) λ_=>?_);refine aQ _ (funext λg=>?_);refine congr (aQ _ (aQ _ (funext λ_=>funext λc=>?_))) (funext λr=>?_)
 .refine congr (aQ _ (aQ _ (funext λ_=>funext λd=>?_))) (funext λr=>?_)
  .rfl
  .rcases r with⟨_|q,r⟩
   .dsimp only;refine aQ _ (funext λ_=>?_);refine congr (aQ _ (aQ _ (funext λ_=>funext λd=>?_))) (funext λr=>?_)
    .rfl
    .rcases r with⟨_|q,r⟩<;>rfl
   .rfl
 .rcases r with⟨_|q,r⟩
  .dsimp only
  .rfl
theorem a1e{α:Type}(a:Array α)(i n:Nat):(a.extract i n).toList=(a.toList.take n).drop i:=by
 rw[eJ];simp[List.extract_eq_drop_take']
theorem a6t(a b out:Array Keyed)(na nb:Nat):(N0 a b out na nb).toList=a.toList.take na++b.toList.take nb++out.toList.reverse:=by
 unfold N0;rw[bR,bR,a1e,a1e,fY,cW,cW]
theorem a5c(a b out:Array Keyed)(na nb:Nat):(T9 a b out na nb).toList=b.toList.take nb++a.toList.take na++out.toList.reverse:=by
 unfold T9;rw[bR,bR,a1e,a1e,fY,cW,cW]
theorem a0x(out:Array Keyed)(x:Keyed):(out.push x).toList.reverse=x::out.toList.reverse:=by
 rw[cT,List.reverse_append];rfl
theorem a8M(out a:Array Keyed)(i n:Nat):(out++(a.extract i n).reverse).toList.reverse=(a.toList.take n).drop i++out.toList.reverse:=by
 rw[bR,List.reverse_append,fY,List.reverse_reverse,a1e]
section
variable {prog:Program}{w:World}{A:Around}{E:Value->Shared->Prop}{s:Shared}{κ:SortKind}{D:Keyed->Prop}{O:KeyOrd}{kf:Keyed->O.α}{a b out:Array Keyed}{na nb:Nat}{st:SortSt}
def a4k(kf:Keyed->O.α)(a b:Array Keyed):Prop:=∀y,b.toList[0]?=some y->∀x∈a.toList,ltK kf y x=true
theorem S9{l:List Keyed}{i:Nat}{x z:Keyed}(hs:l.Pairwise (leK kf))(e:l[i]?=some x)(h:leK kf x z):∀y∈l.take (i+1),leK kf y z:=λy a=>by
 rw[R7 e]at a;rcases aC.mp a with a|a
 .exact bO (a1p hs e y a) h
 .rw[aD.mp a];exact h
def MJ(kf:Keyed->O.α)(a b out:Array Keyed)(na nb:Nat):Prop:=MH kf a.toList b.toList out.toList.reverse na nb/\1<=na/\2<=nb/\na<=a.size/\nb<=b.size
theorem Z2(T:Two D kf a b)(h:MH kf a.toList b.toList out.toList.reverse na nb)(hi:na=0):C5 kf a b (N0 a b out na nb):=by
 subst hi;unfold C5;rw[a6t];exact h.done T.sb
theorem T8(T:Two D kf a b)(F:a4k kf a b)(h:MH kf a.toList b.toList out.toList.reverse na nb)(hi:nb=1)(d:0<b.size):C5 kf a b (T9 a b out na nb):=by
 subst hi;unfold C5;rw[a5c];refine h.firstB T.sa T.sb λy c x f=>?_;have e:b.toList[0]?=some (b.getD 0 (Value.none,Value.none)):=by rw[au];exact gdK b d
 rw[R7 e,List.take_zero,bS,aD]at c;rw[c];exact bP (F _ e x (bZ f))
def P4(kf:Keyed->O.α)(st:SortSt)(a b:Array Keyed)(c0:Nat)(c:U2)(st':SortSt):Prop:=Good st st'/\((∃r,c.1=some r/\C5 kf a b r)∨(c.1=none/\MJ kf a b c.2.2.2.1 c.2.1 c.2.2.1/\c.2.1+c.2.2.1+c0<=a.size+b.size))
def Y4(kf:Keyed->O.α)(st:SortSt)(a b:Array Keyed)(c0:Nat)(c:U2)(st':SortSt):Prop:=Good st st'/\c.1=none/\MJ kf a b c.2.2.2.1 c.2.1 c.2.2.1/\c.2.1+c.2.2.1+c0<=a.size+b.size
def R4(kf:Keyed->O.α)(st:SortSt)(a b:Array Keyed)(c0:Nat)(r:ForInStep U2)(st':SortSt):Prop:=match r with | .done c'=>P4 kf st a b c0 c' st' | .yield c'=>Y4 kf st a b c0 c' st'
variable {c0 mg k k1 bc ac:Nat}{st':SortSt}
theorem a7J(T:Two D kf a b)(g:Good st st')(h:MJ kf a b out na nb)(j:∀x,a.toList[na-1]?=some x->∀y∈b.toList.take nb,leK kf y x)(o:na+nb+c0<=a.size+b.size):wpS (model prog w) A E s (hiD a b na nb out mg k k1) (R4 kf st a b c0) st':=by
 unfold hiD;obtain⟨f,h1,h2,p,m⟩:=h;refine aB (B3 (by omega) λx l c=>?_);obtain⟨n,rfl⟩:∃n,na=n+1:=⟨na-1,by omega⟩;rw[fc]at l c j⊢;have d:=f.stepA T.sa c (j x c);rw[<-a0x]at d;split
 .rename_i e;exact aJ ⟨g,.inl ⟨_,rfl,Z2 T d (eq_of_beq e)⟩⟩
 .rename_i e;have e:¬n=0:=λz=>e (bh.mpr z);have i:MJ kf a b (out.push x) n nb:=⟨d,by omega,h2,by omega,m⟩;split
  .exact aJ ⟨g,.inr ⟨rfl,i,by show n+nb+c0<=_;omega⟩⟩
  .exact aJ ⟨g,rfl,i,by show n+nb+c0<=_;omega⟩
theorem a7K(T:Two D kf a b)(F:a4k kf a b)(u:Cmp prog w A s κ D (ltK kf))(R:kindOf st=κ)(g:Good st st')(h:MJ kf a b out na nb)(J:∀y,b.toList[nb-1]?=some y->∀x∈a.toList.take na,leK kf x y)(P:na+nb+c0<=a.size+b.size):wpS (model prog w) A E s (hiC a b na nb out mg k bc) (R4 kf st a b c0) st':=by
 unfold hiC;obtain⟨C,h1,h2,I,X⟩:=h;refine aB (B3 (by omega) λy L r=>?_);obtain⟨m,rfl⟩:∃m,nb=m+1:=⟨nb-1,by omega⟩;rw[fc]at L r J⊢;have p:=C.stepB T.sb r (J y r);rw[<-a0x]at p;split
 .rename_i e;exact aJ ⟨g,.inl ⟨_,rfl,T8 T F p (eq_of_beq e) (by omega)⟩⟩
 .rename_i e;have e:¬m=1:=λz=>e (bh.mpr z);refine aB (B3 (by omega) λx f1 f2=>?_);refine aB (J4 u (g.1.trans R) (T.da _ _ f1) (λi=>ltK kf (b.getD (0+i) (Value.none,Value.none)) x) (λi hi=>⟨_,gdK b (by omega),T.db _ _ (gdK b (by omega)),rfl⟩) (λi j Q v O=>?_) (by omega) λc Z V K=>?_)
  .refine e_ (X8 T.sb (i:=0+i) (j:=0+j) (by omega) ?_ ?_) O
   .rw[au];exact gdK b (by omega)
   .rw[au];exact gdK b (by omega)
  .dsimp only;have N:1<=c:=by
    refine Nat.pos_of_ne_zero λz=>?_;have:=K 0 (by omega) (by omega);have M:=F (b.getD 0 (Value.none,Value.none)) (by rw[au];exact gdK b (by omega)) x (aF f2);rw[dv]at this;rw[M]at this;cases this
   have d:∀o,a.toList[na-1]?=some o->∀f,f=c->∀y∈b.toList.take f,leK kf y o:=λo ex' f W=>by
    rw[f2]at ex';cases ex';obtain⟨n,S⟩:∃n,f=n+1:=⟨f-1,by omega⟩;rw[S];have t:b.toList[n]?=some (b.getD n (Value.none,Value.none)):=by rw[au];exact gdK b (by omega)
    refine S9 T.sb t (bP ?_);have:=V n (by omega);rw[dv]at this;exact this
   split
   .obtain⟨j,v⟩:∃j,m=c+j:=⟨m-c,by omega⟩;have l:MH kf a.toList b.toList ((b.toList.take (c+j)).drop c++(out.push y).toList.reverse) na c:=by
     rw[v]at p;refine MH.bulkB T.sb p (by rw[ax];omega) λi z U Y H=>?_;have:=K i U (by omega);rw[dv]at this;rw[au,gdK b (by omega)]at H;cases H;have B:leK kf x (b.getD i (Value.none,Value.none)):=this;have:=S9 T.sa f2 B;rwa[show na-1+1=na by omega]at this
    rw[<-v,<-a8M]at l;split
    .rename_i q;exact aJ ⟨g,.inl ⟨_,rfl,T8 T F l (eq_of_beq q) (by omega)⟩⟩
    .rename_i q;have q:¬c=1:=λz=>q (bh.mpr z);split
     .rename_i G;have G:=eq_of_beq G;omega
     .exact a7J T g ⟨l,h1,by omega,I,by omega⟩ (λo ex'=>d o ex' _ rfl) (by omega)
   .exact a7J T g ⟨p,h1,by omega,I,by omega⟩ (λo ex'=>d o ex' _ (by omega)) (by omega)
theorem a7L(T:Two D kf a b)(F:a4k kf a b)(l:Cmp prog w A s κ D (ltK kf))(t:kindOf st=κ)(g:Good st st')(h:MJ kf a b out na nb)(q:na+nb+c0<=a.size+b.size):wpS (model prog w) A E s (hiB a b na nb out mg ac bc) (R4 kf st a b c0) st':=by
 unfold hiB;obtain⟨m,h1,h2,L,H⟩:=h;refine aB (R6 λS K=>?_);have g:=g.trans K;refine aB (B3 (by omega) λy J B=>?_);refine aB (J4 l (g.1.trans t) (T.db _ _ J) (λi=>!(ltK kf y (a.getD (0+i) (Value.none,Value.none)))) (λi hi=>⟨_,gdK a (by omega),T.da _ _ (gdK a (by omega)),rfl⟩) (λi j M r I=>?_) (by omega) λc V Q R=>?_)
 .have hle:leK kf (a.getD (0+j) (Value.none,Value.none)) y:=by
   unfold leK KeyOrd.kle;unfold ltK at I;simpa using I
  have:=bO (X8 T.sa (i:=0+i) (j:=0+j) (by omega) (by rw[au];exact gdK a (by omega)) (by rw[au];exact gdK a (by omega))) hle;unfold KeyOrd.kle at this;unfold ltK;rw[this];rfl
 .dsimp only;have f:∀d,d=c->∀v,b.toList[nb-1]?=some v->∀x∈a.toList.take d,leK kf x v:=λd e v C=>by
   rw[B]at C;cases C;subst e;by_cases N:d=0
   .rw[N,List.take_zero];exact λ_ z=>nomatch z
   obtain⟨n,rfl⟩:∃n,d=n+1:=⟨d-1,by omega⟩;have p:a.toList[n]?=some (a.getD n (Value.none,Value.none)):=by rw[au];exact gdK a (by omega)
   refine S9 T.sa p ?_;have:=Q n (by omega);rw[dv]at this;unfold leK KeyOrd.kle;unfold ltK at this;simpa using this
  split
  .obtain⟨j,r⟩:∃j,na=c+j:=⟨na-c,by omega⟩;have k:MH kf a.toList b.toList ((a.toList.take (c+j)).drop c++out.toList.reverse) c nb:=by
    rw[r]at m;refine MH.bulkA T.sa j m (by rw[ax];omega) λi z P U G=>?_;have:=R i P (by omega);rw[dv]at this;rw[au,gdK a (by omega)]at G;cases G;have u:O.klt (kf y) (kf (a.getD i (Value.none,Value.none))):=by
     unfold KeyOrd.klt;unfold ltK at this;simpa using this
    have:=S9 T.sb B (bP u);rwa[show nb-1+1=nb by omega]at this
   rw[<-r,<-a8M]at k;split
   .rename_i o;exact aJ ⟨g,.inl ⟨_,rfl,Z2 T k (eq_of_beq o)⟩⟩
   .rename_i o;have o:¬c=0:=λz=>o (bh.mpr z);exact a7K T F l t g ⟨k,by omega,h2,by omega,H⟩ (f _ rfl) (by omega)
  .exact a7K T F l t g ⟨m,h1,h2,L,H⟩ (f _ (by omega)) q
def P3(kf:Keyed->O.α)(st:SortSt)(a b:Array Keyed)(c0:Nat)(c:U1)(st':SortSt):Prop:=Good st st'/\((∃r,c.1=some r/\C5 kf a b r)∨(c.1=none/\MJ kf a b c.2.2.2.1 c.2.1 c.2.2.1/\c.2.1+c.2.2.1+c0<=a.size+b.size))
def Y3(kf:Keyed->O.α)(st:SortSt)(a b:Array Keyed)(c0:Nat)(c:U1)(st':SortSt):Prop:=Good st st'/\c.1=none/\MJ kf a b c.2.2.2.1 c.2.1 c.2.2.1/\c.2.1+c.2.2.1+c0<=a.size+b.size
def R3(kf:Keyed->O.α)(st:SortSt)(a b:Array Keyed)(c0:Nat)(r:ForInStep U1)(st':SortSt):Prop:=match r with | .done c'=>P3 kf st a b c0 c' st' | .yield c'=>Y3 kf st a b c0 c' st'
theorem b2X(T:Two D kf a b)(F:a4k kf a b)(l:Cmp prog w A s κ D (ltK kf))(u:kindOf st=κ)(g:Good st st')(h:MJ kf a b out na nb)(t:na+nb+c0<=a.size+b.size):wpS (model prog w) A E s (hiA a b na nb out ac bc mg) (R3 kf st a b (c0+1)) st':=by
 unfold hiA;obtain⟨f,h1,h2,q,r⟩:=h;refine aB (B3 (by omega) λy o j=>?_);refine aB (B3 (by omega) λx f1 f2=>?_);refine aB (a0k l (g.1.trans u) (T.db _ _ o) (T.da _ _ f1) ?_);dsimp only;obtain⟨n,rfl⟩:∃n,na=n+1:=⟨na-1,by omega⟩;obtain⟨m,rfl⟩:∃m,nb=m+1:=⟨nb-1,by omega⟩;rw[fc]at o j f1 f2⊢;rw[fc];cases p:ltK kf y x with
 |true =>
  rw[ay rfl];refine aB (B3 (by omega) λv k c=>?_);rw[f2]at c;cases c;have d:=f.stepA T.sa f2 (S9 T.sb j (bP p));rw[<-a0x]at d;split
  .rename_i e;exact aJ ⟨g,.inl ⟨_,rfl,Z2 T d (eq_of_beq e)⟩⟩
  .rename_i e;have e:¬n=0:=λz=>e (bh.mpr z);have i:MJ kf a b (out.push x) n (m+1):=⟨d,by omega,h2,by omega,r⟩;split
   .exact aJ ⟨g,.inr ⟨rfl,i,by show n+(m+1)+(c0+1)<=_;omega⟩⟩
   .exact aJ ⟨g,rfl,i,by show n+(m+1)+(c0+1)<=_;omega⟩
 |false =>
  rw[ao (by simp)];refine aB (B3 (by omega) λB k c=>?_);rw[j]at c;cases c;have d:=f.stepB T.sb j (S9 T.sa f2 p);rw[<-a0x]at d;split
  .rename_i e;exact aJ ⟨g,.inl ⟨_,rfl,T8 T F d (eq_of_beq e) (by omega)⟩⟩
  .rename_i e;have e:¬m=1:=λz=>e (bh.mpr z);have i:MJ kf a b (out.push y) (n+1) m:=⟨d,h1,by omega,q,by omega⟩;split
   .exact aJ ⟨g,.inr ⟨rfl,i,by show n+1+m+(c0+1)<=_;omega⟩⟩
   .exact aJ ⟨g,rfl,i,by show n+1+m+(c0+1)<=_;omega⟩
theorem a5o(T:Two D kf a b)(F:a4k kf a b)(k:Cmp prog w A s κ D (ltK kf))(t:kindOf st=κ)(P:0<a.size)(G:0<b.size){Q:Array Keyed->SortSt->Prop}
  (q:∀r st',C5 kf a b r->Good st st'->Q r st'):wpS (model prog w) A E s (a2E a b) Q st:=by
 rw[a6a];refine aB (P8 ?_);refine aB (B3 (by omega) λy f j=>?_);have l:MH kf a.toList b.toList (#[y]:Array Keyed).toList.reverse (a.size-1) b.size:=by
  have z:MH kf a.toList b.toList [] (a.size-1+1) b.size:=by
   refine⟨?_,.nil,(λ_ _ _ h=>nomatch h),λ_ _ _ h=>nomatch h⟩;rw[cz (by rw[ax];omega),cz (by rw[ax];omega)];exact .nil
  exact z.stepA T.sa j (λx u=>bP (T.last x (bZ u) y f))
 have o:Good st st:=⟨rfl,rfl,rfl,rfl⟩;split
 .rename_i e;exact aJ (q _ _ (Z2 T l (eq_of_beq e)) o)
 .rename_i e;have e:¬a.size-1=0:=λz=>e (bh.mpr z);split
  .rename_i n;exact aJ (q _ _ (T8 T F l (eq_of_beq n) G) o)
  .rename_i n;have n:¬b.size=1:=λz=>n (bh.mpr z);refine aB (fo ?_);refine aB (cC (cj (I:=λx c st'=>Good st st'/\c.1=none/\MJ kf a b c.2.2.2.1 c.2.1 c.2.2.1/\c.2.1+c.2.2.1+(x+1)<=a.size+b.size)
    (Q:=λc st'=>Good st st'/\∃r,c.1=some r/\C5 kf a b r) ?step ?fin ⟨o,rfl,⟨l,by show 1<=a.size-1;omega,by show 2<=b.size;omega,by show a.size-1<=a.size;omega,aj _⟩,by show a.size-1+b.size+(0+1)<=_;omega⟩) ?post)
   case post =>
    rintro c st' ⟨g,r,f,j⟩;obtain⟨M,N⟩:=c;dsimp only at f;subst f;exact aJ (q _ _ j g)
   case fin =>
    rintro c st' ⟨g,f,⟨_,h1,h2,_⟩,O⟩;exfalso;omega
   case step =>
    rintro x c K _ u ⟨g,f,p,H⟩;refine aB (cC (cj (I:=λz d st'=>Y3 kf st a b (x+1+min z 1) d st') (Q:=λd st'=>P3 kf st a b (x+2) d st') ?s1 ?f1 ⟨g,rfl,p,by show c.2.1+c.2.2.1+(x+1+min 0 1)<=_;omega⟩) ?p1)
    case f1 =>
     rintro d st' ⟨g,f,h1,h2⟩;exact⟨g,.inr ⟨f,h1,by omega⟩⟩
    case s1 =>
     rintro z d st' _ J ⟨g,f,h1,h2⟩;refine cC (b2X T F k t g h1 (c0:=x+1) (by omega)) λr m i=>?_;cases r with
     |done c'=>exact i
     | «yield» c'=>exact⟨i.1,i.2.1,i.2.2.1,by have:=i.2.2.2;omega⟩
    case p1 =>
     rintro d st' ⟨g,hd⟩;obtain⟨v,B⟩:=d;rcases hd with⟨r,f,j⟩|⟨f,h1,h2⟩
     .dsimp only at f;subst f;exact aJ ⟨g,r,rfl,j⟩
     .dsimp only at f;subst f;refine aB (P8 ?_);refine aB (cC (cj (I:=λz d st'=>Y4 kf st a b (x+2) d st') (Q:=λd st'=>P4 kf st a b (x+2) d st') ?s2 ?f2 ⟨g,rfl,h1,h2⟩) ?p2)
      case f2 =>
       rintro d st' ⟨g,f,h1,h2⟩;exact⟨g,.inr ⟨f,h1,h2⟩⟩
      case s2 =>
       rintro z d st' _ J ⟨g,f,h1,h2⟩;split
       .refine cC (a7L T F k t g h1 h2) λr m i=>?_;cases r<;>exact i
       .refine cC (a7L T F k t g h1 h2) λr m i=>?_;cases r<;>exact i
      case p2 =>
       rintro d st' ⟨g,hd⟩;obtain⟨v,B⟩:=d;rcases hd with⟨r,f,j⟩|⟨f,h1,h2⟩
       .dsimp only at f;subst f;exact aJ ⟨g,r,rfl,j⟩
       .dsimp only at f;subst f;refine aB (R6 λL C=>?_);exact aJ ⟨g.trans C,rfl,h1,h2⟩
end
noncomputable def a6P(arr merged:Array Keyed)(sa:Nat):Array Keyed:=merged.toList.zipIdx.foldl (λa (p,j)=>a.setIfInBounds (sa+j) p) arr
noncomputable def mgC(sa:Nat)(merged:Array Keyed):StateT SortSt Sem Bool :=
 (modify λs=>SortSt.mk' (kindOf s) (a6P (arrOf s) merged sa) (pendingOf s) (gallopOf s) (failedOf s))>>=λ_=>get>>=λs=>pure (failedOf s).isNone
noncomputable def mgB(s:SortSt)(sa na sb nb:Nat):StateT SortSt Sem Bool :=
 elem' (arrOf s) (sa+na-1)>>=λx=>O7 true x (arrOf s) sb nb (nb-1)>>=λr=>match r with
 |some n=>(if (n==0)=true then pure true
  else if na<=n then a2D ((arrOf s).extract sa sb) ((arrOf s).extract sb (sb+n))>>=mgC sa
  else a2E ((arrOf s).extract sa sb) ((arrOf s).extract sb (sb+n))>>=mgC sa)
 |_=>pure false
noncomputable def mgA(s:SortSt)(sa na sb nb:Nat):StateT SortSt Sem Bool :=
 elem' (arrOf s) sb>>=λy=>O7 false y (arrOf s) sa na 0>>=λr=>match r with
 |some k=>(if (na-k==0)=true then pure true else mgB s (sa+k) (na-k) sb nb)
 |_=>pure false
theorem a6b(i:Nat):mergeAt' i=(get>>=λs=>match ((pendingOf s)[i]?,(pendingOf s)[i+1]?)with
 |(some (sa,na,pw),some (sb,nb,_))=>set (SortSt.mk' (kindOf s) (arrOf s) (((pendingOf s).setIfInBounds i (sa,na+nb,pw)).eraseIdxIfInBounds (i+1)) (gallopOf s) (failedOf s))>>=λ_=>mgA s sa na sb nb
 |_=>liftM (unsupported "internal:list.sort.pending" : Sem Bool)):=by
 show(_>>=_)=(_>>=_);refine aQ _ (funext λs=>?_);dsimp only;rcases(pendingOf s)[i]? with _|⟨sa,na,pw⟩
 .rfl
 rcases(pendingOf s)[i+1]? with _|⟨sb,nb,pw2⟩
 .rfl
 dsimp only;refine aQ _ (funext λ_=>?_);unfold mgA;refine aQ _ (funext λy=>?_);refine aQ _ (funext λr=>?_);rcases r with _|k
 .rfl
 dsimp only;refine dM rfl (λ_=>rfl) λ_=>?_;unfold mgB;refine aQ _ (funext λx=>?_);refine aQ _ (funext λr=>?_);rcases r with _|n
 .rfl
 rfl
theorem a3X:∀(l:List Keyed) (arr:Array Keyed) (b j:Nat),b+j+l.length<=arr.size ->
  ((l.zipIdx j).foldl (λa (p:Keyed×Nat)=>a.setIfInBounds (b+p.2) p.1) arr).toList=arr.toList.take (b+j)++l++arr.toList.drop (b+j+l.length)
 |[],arr,b,j,h=>by simp
 |x::l,arr,b,j,h=>by
  rw[aT]at h;rw[List.zipIdx_cons,c_,a3X l _ b (j+1) (by rw[fe];omega)];rw[Array.toList_setIfInBounds];have c:b+j<arr.toList.length:=by rw[ax];omega
  rw[aT,show b+(j+1)=b+j+1 by omega];rw[List.take_set,List.drop_set_of_lt (by omega)];rw[List.take_succ_eq_append_getElem c,List.set_append_right _ _ (by rw[aY];omega)];rw[aY,show b+j-min (b+j) arr.toList.length=0 by omega];simp[aH];congr 1;omega
theorem a5G(arr a:Array Keyed)(b:Nat)(h:b+a.size<=arr.size):(a6P arr a b).toList=arr.toList.take b++a.toList++arr.toList.drop (b+a.size):=by
 have:=a3X a.toList arr b 0 (by rw[ax];omega);rw[Nat.add_zero,ax]at this;exact this
theorem b2V{M:Model}{A:Around}{E:Value->Shared->Prop}{s:Shared}{σ:Type}{st a:σ}{Q:PUnit->σ->Prop}(h:Q ⟨⟩ a):wpS M A E s (set a:StateT σ Sem PUnit) Q st:=by
 unfold wpS;rw[StateT.run_set];exact ag ⟨rfl,h⟩
section
variable {prog:Program}{w:World}{A:Around}{E:Value->Shared->Prop}{s:Shared}{κ:SortKind}{D:Keyed->Prop}{O:KeyOrd}{kf:Keyed->O.α}{st:SortSt}
structure Runs2(kf:Keyed->O.α)(D:Keyed->Prop)(arr:Array Keyed)(P LA LB R:List Keyed):Prop where
 eq:arr.toList=P++LA++LB++R
 d:∀x∈arr.toList,D x
 sa:LA.Pairwise (leK kf)
 sb:LB.Pairwise (leK kf)
 na:0<LA.length
 nb:0<LB.length
variable {arr:Array Keyed}{P LA LB R:List Keyed}
theorem Runs2.atA(h:Runs2 kf D arr P LA LB R){i:Nat}(hi:i<LA.length):arr[P.length+i]?=LA[i]?:=by
 rw[<-au,h.eq,aH,aH,aZ (by omega),br (by omega)];congr 1;omega
theorem Runs2.atB(h:Runs2 kf D arr P LA LB R){i:Nat}(hi:i<LB.length):arr[P.length+LA.length+i]?=LB[i]?:=by
 rw[<-au,h.eq,aH,aZ (by rw[aq];omega),br (by rw[aq];omega)];congr 1;rw[aq];omega
theorem Runs2.dA(h:Runs2 kf D arr P LA LB R):∀x∈LA,D x:=λx a=>h.d x (by rw[h.eq];simp[a])
theorem Runs2.dB(h:Runs2 kf D arr P LA LB R):∀x∈LB,D x:=λx a=>h.d x (by rw[h.eq];simp[a])
theorem Runs2.size(h:Runs2 kf D arr P LA LB R):arr.size=P.length+LA.length+LB.length+R.length:=by
 rw[<-ax,h.eq];simp[dW]
theorem Runs2.extA(h:Runs2 kf D arr P LA LB R)(k:Nat):(arr.extract (P.length+k) (P.length+LA.length)).toList=LA.drop k:=by
 rw[a1e,h.eq,aH (P++LA),ei (by simp)];rw[bN (by simp),List.drop_append,cz (by omega),bS];congr 1;omega
theorem Runs2.extB(h:Runs2 kf D arr P LA LB R){k:Nat}(a:k<=LB.length):(arr.extract (P.length+LA.length) (P.length+LA.length+k)).toList=LB.take k:=by
 rw[a3c,h.eq,aH,di (by simp),cz (by simp),bS,ei a]
theorem a5p{i pw a9:Nat}{Q:Bool->SortSt->Prop}(G:Cmp prog w A s κ D (ltK kf))(hk:kindOf st=κ)(h:Runs2 kf D (arrOf st) P LA LB R)(hp:(pendingOf st)[i]?=some (P.length,LA.length,pw))(a7:(pendingOf st)[i+1]?=some (P.length+LA.length,LB.length,a9))(hf:failedOf st=none)
  (q:∀(st':SortSt) (M:List Keyed),kindOf st'=κ->failedOf st'=none->pendingOf st'=((pendingOf st).setIfInBounds i (P.length,LA.length+LB.length,pw)).eraseIdxIfInBounds (i+1)->a1i kf LA LB M->(arrOf st').toList=P++M++R->Q true st'):wpS (model prog w) A E s (mergeAt' i) Q st:=by
 rw[a6b];refine aB (fo ?_);rw[hp,a7];dsimp only;refine aB (b2V ?_);unfold mgA;have m:=eE h.size;have a0:=h.na;have S:=h.nb;generalize f:SortSt.mk' (kindOf st) (arrOf st) (((pendingOf st).setIfInBounds i (P.length,LA.length+LB.length,pw)).eraseIdxIfInBounds (i+1)) (gallopOf st) (failedOf st)=d;have k2:kindOf d=κ:=by rw[<-f];exact hk
 have a2:arrOf d=arrOf st:=by rw[<-f]
 have p2:pendingOf d=((pendingOf st).setIfInBounds i (P.length,LA.length+LB.length,pw)).eraseIdxIfInBounds (i+1):=by rw[<-f]
 have f2:failedOf d=none:=by rw[<-f];exact hf
 have B:LA++LB=LA++LB->(∀x∈LA,∀y∈LB,leK kf x y)->Q true d:=λ_ a6=>by
  refine q d (LA++LB) k2 f2 p2 ⟨.refl _,bz.mpr ⟨h.sa,h.sb,a6⟩⟩ ?_;rw[a2,h.eq];simp[aH]
 refine aB (B3 (by have:=cg m;omega) λy e1 _=>?_);have ey:LB[0]?=some y:=by rw[<-h.atB S];exact e1
 have a3:∀z∈LB,leK kf y z:=T7 h.sb ey (cy _);have W:∀i,i<LA.length->(arrOf st)[P.length+i]?=some (LA.getD i (Value.none,Value.none))/\LA[i]?=some (LA.getD i (Value.none,Value.none)):=λi hi=>by
  have:LA[i]?=some (LA.getD i (Value.none,Value.none)):=by rw[az,ak hi];rfl
  exact⟨by rw[h.atA hi];exact this,this⟩
 have X:∀i,i<LB.length->(arrOf st)[P.length+LA.length+i]?=some (LB.getD i (Value.none,Value.none))/\LB[i]?=some (LB.getD i (Value.none,Value.none)):=λi hi=>by
  have:LB[i]?=some (LB.getD i (Value.none,Value.none)):=by rw[az,ak hi];rfl
  exact⟨by rw[h.atB hi];exact this,this⟩
 have t:∀{u v:Keyed},(!(ltK kf u v))=true->leK kf v u:=λ{u v} z=>by
  unfold leK KeyOrd.kle;unfold ltK at z;simpa using z
 refine aB (J4 G k2 (h.dB _ (aF ey)) (λi=>!(ltK kf y (LA.getD i (Value.none,Value.none)))) (λi hi=>⟨_,(W i hi).1,h.dA _ (aF (W i hi).2),rfl⟩) (λi j N c hb=>?_) a0 λk q1 q2 q3=>?_)
 .have:=bO (X8 h.sa N (W i (by omega)).2 (W j c).2) (t hb);unfold KeyOrd.kle at this;unfold ltK;rw[this];rfl
 .dsimp only;have Z:∀x∈LA.take k,leK kf x y:=λx hx=>by
   obtain⟨j,c,e⟩:=cx.mp hx;rw[aY]at c;have o:=aK c (Nat.min_le_right _ _);have:=t (q2 j (aK c (Nat.min_le_left _ _)));have a:=(W j o).2;rw[fA]at e;rw[ak o,e]at a;injection a with a
   rw[a];exact this
  split
  .rename_i e;have e:=eq_of_beq e;refine aJ (B rfl λx hx z l=>bO (Z x ?_) (a3 z l));rw[bN (by omega)];exact hx
  .rename_i e;replace e:k<LA.length:=Nat.lt_of_sub_ne_zero λz=>e (bh.mpr z);clear q1;have a4:∀x∈LA.drop k,ltK kf y x=true:=λx hx=>by
    obtain⟨j,c,e⟩:=cx.mp hx;rw[bV]at c;rw[fB]at e;clear m S;have O:k+j<LA.length:=by omega
    have:=q3 (k+j) (cf _ _) O;have a:=(W (k+j) O).2;rw[ak O,e]at a;injection a with a
    rw[a];simpa using this
   unfold mgB;refine aB (B3 (by have:=cg m;omega) λx f1 _=>?_);rw[show P.length+k+(LA.length-k)-1=P.length+(LA.length-1) by omega]at f1;have ex:LA[LA.length-1]?=some x:=by rw[<-h.atA (by omega)];exact f1
   have V:∀z∈LA,leK kf z x:=λz l=>by
    have:=S9 h.sa ex (cy _) z;rw[show LA.length-1+1=LA.length by omega,bg]at this;exact this l
   refine aB (J4 G k2 (h.dA _ (aF ex)) (λi=>ltK kf (LB.getD i (Value.none,Value.none)) x) (λi hi=>⟨_,(X i hi).1,h.dB _ (aF (X i hi).2),rfl⟩) (λi j N c hb=>?_) (by omega) λn r1 r2 r3=>?_)
   .exact e_ (X8 h.sb N (X i (by omega)).2 (X j c).2) hb
   .dsimp only;have L:∀z∈LB.drop n,leK kf x z:=λz l=>by
     obtain⟨j,c,e⟩:=cx.mp l;rw[bV]at c;rw[fB]at e;have U:n+j<LB.length:=by clear m a0 S;omega
     have:=r3 (n+j) (cf _ _) U;have a:=(X (n+j) U).2;rw[ak U,e]at a;injection a with a
     rw[a];exact this
    have a5:∀z∈LB.take n,ltK kf z x=true:=λz l=>by
     obtain⟨j,c,e⟩:=cx.mp l;rw[aY]at c;rw[fA]at e;have o:=aK c (Nat.min_le_right _ _);have:=r2 j (aK c (Nat.min_le_left _ _));have a:=(X j o).2;rw[ak o,e]at a;injection a with a
     rw[a];exact this
    split
    .rename_i e;have e:=eq_of_beq e;refine aJ (B rfl λu p z l=>bO (V u p) (L z ?_));rw[e,cW];exact l
    .rename_i Y;replace Y:0<n:=Nat.pos_of_ne_zero λz=>Y (bh.mpr z);have J:=h.extA k;have K:=h.extB r1;generalize b1:(arrOf st).extract (P.length+k) (P.length+LA.length)=Xa at J;generalize b2:(arrOf st).extract (P.length+LA.length) (P.length+LA.length+n)=Ya at K;have sX:=eE (show Xa.size=LA.length-k by rw[<-ax,J,bV]);have sY:=eE (show Ya.size=n by rw[<-ax,K,aY,dE r1]);have T:Two D kf Xa Ya:=by
      refine⟨λi z C=>?_,λi z C=>?_,by rw[J];exact h.sa.drop,by rw[K];exact h.sb.take,λz l u eu=>?_⟩
      .refine h.dA z (cG (i:=k) ?_);rw[<-J];rw[<-au]at C;exact aF C
      .refine h.dB z (bZ (i:=n) ?_);rw[<-K];rw[<-au]at C;exact aF C
      .rw[K]at l;rw[<-au,J,eZ,cg sX,show k+(LA.length-k-1)=LA.length-1 by omega,ex]at eu;cases eu;exact a5 z l
     have F:a4k kf Xa Ya:=λz C u p=>by
      rw[K,cZ Y,ey]at C;cases C;rw[J]at p;exact a4 u p
     have fin:∀(r:Array Keyed) (b:SortSt),C5 kf Xa Ya r->Good d b->wpS (model prog w) A E s (mgC (P.length+k) r) Q b:=λr b hr g=>by
      unfold mgC;obtain⟨H,a8⟩:=hr;rw[J,K]at H;have a1:=eE (show r.size=LA.length-k+n by
       have:=H.length_eq;rw[aq,bV,aY,ax,dE r1]at this;exact this)
      refine aB (wpS_modify (aB (fo (aJ ?_))));show Q (failedOf b).isNone _;rw[g.2.2.2,f2];have I:∀z∈r.toList,z∈LA.drop k∨z∈LB.take n:=λz l=>aC.mp (H.mem_iff.mp l);refine q _ (LA.take k++r.toList++LB.drop n) (g.1.trans k2) rfl (g.2.2.1.trans p2) ⟨?_,?_⟩ ?_
      .refine((ck _ H).append_right _).trans ?_;rw[<-aH (LA.take k),bp,aH,bp]
      .have sAk:∀u∈LA.take k,∀v∈LA.drop k,leK kf u v:=by
        have:=h.sa;rw[<-bp k LA,bz]at this;exact this.2.2
       have b0:∀u∈LB.take n,∀v∈LB.drop n,leK kf u v:=by
        have:=h.sb;rw[<-bp n LB,bz]at this;exact this.2.2
       rw[bz,bz];refine⟨⟨h.sa.take,a8,λu p v hv=>?_⟩,h.sb.drop,λu p v hv=>?_⟩
       .rcases I v hv with z|z
        .exact sAk u p v z
        .exact bO (Z u p) (a3 v (bZ z))
       .rcases aC.mp p with z|z
        .exact bO (V u (bZ z)) (L v hv)
        .rcases I u z with z|z
         .exact bO (V u (cG z)) (L v hv)
         .exact b0 u z v hv
      .show(a6P (arrOf b) r (P.length+k)).toList=_;rw[g.2.1,a2,a5G _ _ _ (by rw[cg a1,cg m];clear m;omega),h.eq,cg a1];have e1:(P++LA++LB++R).take (P.length+k)=P++LA.take k:=by
        rw[aH,aH,List.take_append,bN (by omega),show P.length+k-P.length=k by omega,ei (by omega)]
       have a:(P++LA++LB++R).drop (P.length+k+(LA.length-k+n))=LB.drop n++R:=by
        rw[aH (P++LA),List.drop_append,cz (by rw[aq];omega),bS,aq,show P.length+k+(LA.length-k+n)-(P.length+LA.length)=n by omega,di r1]
       rw[e1,a];simp[aH]
     split
     .exact aB (a5n T G k2 (by rw[cg sX];omega) (by rw[cg sY];exact Y) (λz C u p=>bP (F z C u p)) λr b hr g=>fin r b hr g)
     .exact aB (a5o T F G k2 (by rw[cg sX];omega) (by rw[cg sY];exact Y) λr b hr g=>fin r b hr g)
end
section
variable {prog:Program}{w:World}{A:Around}{E:Value->Shared->Prop}{s:Shared}{κ:SortKind}{D:Keyed->Prop}{O:KeyOrd}{kf:Keyed->O.α}{st:SortSt}
noncomputable def kx(kf:Keyed->O.α)(arr:Array Keyed)(i:Nat):O.α:=kf (arr.getD i (Value.none,Value.none))
def SoO(kf:Keyed->O.α)(arr:Array Keyed)(lo m:Nat):Prop:=∀i j,i<=j->j<m->O.kle (kx kf arr (lo+i)) (kx kf arr (lo+j))
def NiO(kf:Keyed->O.α)(arr:Array Keyed)(lo m:Nat):Prop:=∀i j,i<=j->j<m->O.kle (kx kf arr (lo+j)) (kx kf arr (lo+i))
def Kept(lo:Nat)(st st':SortSt):Prop:=kindOf st'=kindOf st/\pendingOf st'=pendingOf st/\failedOf st'=failedOf st/\(arrOf st').Perm (arrOf st)/\∀i,i<lo->(arrOf st')[i]?=(arrOf st)[i]?
theorem Kept.refl{lo:Nat}:Kept lo st st:=⟨rfl,rfl,rfl,.refl _,λ_ _=>rfl⟩
theorem Kept.trans{lo:Nat}{st' a:SortSt}(h:Kept lo st st')(h2:Kept lo st' a):Kept lo st a:=⟨h2.1.trans h.1,h2.2.1.trans h.2.1,h2.2.2.1.trans h.2.2.1,h2.2.2.2.1.trans h.2.2.2.1,λi hi=>(h2.2.2.2.2 i hi).trans (h.2.2.2.2 i hi)⟩
def AllD(D:Keyed->Prop)(arr:Array Keyed):Prop:=∀x∈arr.toList,D x
theorem AllD.perm{a b:Array Keyed}(h:AllD D a)(p:b.Perm a):AllD D b:=λx c=>h x ((dI.mp p).mem_iff.mp c)
theorem V9{a b:Array Keyed}{i j:Nat}(h:a[i]?=b[j]?):kx kf a i=kx kf b j:=by
 unfold kx;rw[bM,bM,h]
theorem P9{i j:Nat}{Q:Option Bool->SortSt->Prop}(a:Cmp prog w A s κ D (ltK kf))(f:kindOf st=κ)(d:AllD D (arrOf st))(hi:i<(arrOf st).size)(e:j<(arrOf st).size)(h:Q (some (O.blt (kx kf (arrOf st) i) (kx kf (arrOf st) j))) st):wpS (model prog w) A E s (ltAt' i j) Q st:=by
 rw[ltAt'_eq];refine aB (fo ?_);refine aB (B3 hi λx b f1=>aB (B3 e λy c f2=>?_));rw[gdK _ hi]at b;rw[gdK _ e]at c;cases b;cases c;exact a0k a f (d _ (aF f1)) (d _ (aF f2)) h
theorem b0r{src a:Nat}{Q:Unit->SortSt->Prop}(h:Q () (setArr st (bubble (arrOf st) src (src-a)))):wpS (model prog w) A E s (moveDown' src a) Q st:=by
 rw[moveDown'_eq];exact wpS_modify h
theorem a0U{arr:Array Keyed}{src a:Nat}(hs:src<arr.size)(hd:a<=src)(i:Nat):kx kf (bubble arr src (src-a)) i=if i=a then kx kf arr src else if a<i/\i<=src then kx kf arr (i-1)else kx kf arr i:=by
 have e:=getElem?_bubble hs (src-a) (by omega) i;rw[show src-(src-a)=a by omega]at e;split
 .rename_i c;rw[ay c]at e;exact V9 e
 .rename_i c;rw[ao c]at e;split
  .rename_i c2;rw[ay c2]at e;exact V9 e
  .rename_i c2;rw[ao c2]at e;exact V9 e
theorem a2w{l j k:Nat}(h:l<j)(h2:j<=k):j-1<k:=by omega
section
variable {arr:Array Keyed}{lo k l i:Nat}(hs:lo+k<arr.size) (hd:l<=k)
include hs hd
theorem b2J(h:i<l):kx kf (bubble arr (lo+k) (lo+k-(lo+l))) (lo+i)=kx kf arr (lo+i):=by
 rw[a0U hs (by omega),ao (by omega),ao (by omega)]
theorem a7D:kx kf (bubble arr (lo+k) (lo+k-(lo+l))) (lo+l)=kx kf arr (lo+k):=by
 rw[a0U hs (by omega),ay rfl]
theorem a5h(h:l<i)(h2:i<=k):kx kf (bubble arr (lo+k) (lo+k-(lo+l))) (lo+i)=kx kf arr (lo+(i-1)):=by
 rw[a0U hs (by omega),ao (by omega),ay (by omega),Nat.add_sub_assoc (by omega)]
end
theorem b0s{lo n ok:Nat}{Q:Bool->SortSt->Prop}(C:Cmp prog w A s κ D (ltK kf))(L:kindOf st=κ)(J:AllD D (arrOf st))(N:lo+n<=(arrOf st).size)(H:ok<=n)(hs:SoO kf (arrOf st) lo ok)
  (h:∀st',Kept lo st st'->SoO kf (arrOf st') lo n->Q true st'):wpS (model prog w) A E s (binarySort' lo n ok) Q st:=by
 rw[binarySort'_eq];refine aB (cC (cj (I:=λk c st'=>c=(none,())/\Kept lo st st'/\SoO kf (arrOf st') lo (min k n))
  (Q:=λc st'=>c=(none,())/\Kept lo st st'/\SoO kf (arrOf st') lo n) ?step ?fin ?init) ?post)
 case post =>
  rintro c st' ⟨rfl,f,e⟩;exact aJ (h st' f e)
 case init =>
  refine⟨rfl,Kept.refl,λi j g q=>?_⟩;by_cases h1:ok=0
  .have:i=j:=by omega
   subst this;exact cy _
  .exact hs i j g (by omega)
 case fin =>
  rintro c st' ⟨K,f,e⟩;refine⟨K,f,?_⟩;rwa[show min (max (max ok 1) n) n=n by omega]at e
 case step =>
  rintro k c st' B F ⟨rfl,f,e⟩;rw[show min k n=k by omega]at e;have t:lo+k<(arrOf st').size:=by have:=f.2.2.2.1.size_eq;omega
  have z:=J.perm f.2.2.2.1;have u:min (k+1) n=k+1:=by omega
  clear N H B F;refine aB (cC (cj (I:=λx c a=>a=st'/\∃l r,c=(none,l,r)/\l<=r/\r<=k/\r-l<=k-x /\
    (∀i,i<l->O.kle (kx kf (arrOf st') (lo+i)) (kx kf (arrOf st') (lo+k)))/\(∀i,r<=i->i<k->O.kle (kx kf (arrOf st') (lo+k)) (kx kf (arrOf st') (lo+i))))
   (Q:=λc a=>a=st'/\∃l r,c=(none,l,r)/\l<=k /\
    (∀i,i<l->O.kle (kx kf (arrOf st') (lo+i)) (kx kf (arrOf st') (lo+k)))/\(∀i,l<=i->i<k->O.kle (kx kf (arrOf st') (lo+k)) (kx kf (arrOf st') (lo+i)))) ?istep ?ifin ?iinit) ?ipost)
  case iinit=>exact⟨rfl,0,k,rfl,by omega,by omega,by omega,λi hi=>by omega,λi h1 h2=>by omega⟩
  case ifin =>
   rintro c a ⟨rfl,l,r,rfl,G,v,M,o,m⟩;have:l=r:=by omega
   subst this;exact⟨rfl,l,l,rfl,v,o,m⟩
  case istep =>
   rintro x c a _ P ⟨rfl,l,r,rfl,G,v,M,o,m⟩;dsimp only;by_cases y:l ≥ r
   .rw[ay y];have:l=r:=by omega
    subst this;exact aJ ⟨rfl,l,l,rfl,v,o,m⟩
   .rw[ao y];refine aB (P9 C (f.1.trans L) z (by omega) (by omega) ?_);dsimp only;cases p:O.blt (kx kf (arrOf a) (lo+k)) (kx kf (arrOf a) (lo+(l+r) / 2))with
    |true =>
     rw[ay rfl];refine aJ ⟨rfl,l,(l+r) / 2,rfl,by omega,by omega,by omega,o,λi h1 h2=>?_⟩;exact bO (bP p) (e _ _ h1 h2)
    |false =>
     rw[ao (by simp)];refine aJ ⟨rfl,(l+r) / 2+1,r,rfl,by omega,by omega,by omega,λi h1=>?_,m⟩;exact bO (e i ((l+r) / 2) (by omega) (by omega)) p
  case ipost =>
   rintro c a ⟨rfl,l,r,rfl,b,o,m⟩;refine aB (b0r (aJ ⟨rfl,f.trans ⟨rfl,rfl,rfl,bubble_perm _ _ _,λi hi=>?_⟩,?_⟩))
   .show(bubble (arrOf a) (lo+k) (lo+k-(lo+l)))[i]?=_;rw[getElem?_bubble t _ (by omega),ao (by omega),ao (by omega)]
   rw[u];clear u;intro i j g q;replace q:j<=k:=el q;show O.kle (kx kf (bubble (arrOf a) (lo+k) (lo+k-(lo+l))) (lo+i)) (kx kf (bubble (arrOf a) (lo+k) (lo+k-(lo+l))) (lo+j));rcases dh i l with c|rfl|c
   .rw[b2J t b c];rcases dh j l with d|rfl|d
    .rw[b2J t b d];exact e i j g (aK d b)
    .rw[a7D t b];exact o i c
    .rw[a5h t b d q];exact e i (j-1) (Nat.le_sub_one_of_lt (fX c d)) (a2w d q)
   .rw[a7D t b];rcases Nat.lt_or_eq_of_le g with d|rfl
    .rw[a5h t b d q];exact m (j-1) (Nat.le_sub_one_of_lt d) (a2w d q)
    .rw[a7D t b];exact cy _
   .have d:=aK c g;rw[a5h t b c (bb g q),a5h t b d q];exact e (i-1) (j-1) (Nat.sub_le_sub_right g 1) (a2w d q)
end
noncomputable def b2O(lo a nrem:Nat):StateT SortSt Sem AscSt:=forIn [a:nrem] ((none,a):AscSt) λ_ c=>ltAt' (lo+c.2) (lo+c.2-1)>>=λr=>match r with
 |some sm=>(if sm=true then pure (.done (none,c.2))else pure (.yield (none,c.2+1)))
 |_=>pure (.done (some none,c.2))
noncomputable def a0d(lo n nrem:Nat):StateT SortSt Sem (Option Nat):=reverseSlice' lo (lo+n)>>=λ_=>b2O lo n nrem>>=λc=>match c.1 with
 |some r=>pure r
 |none=>pure (some c.2)
noncomputable def a8G(lo n nrem:Nat):StateT SortSt Sem DescSt:=forIn [n:nrem] ((none,n,0):DescSt) λ_ c=>ltAt' (lo+c.2.1) (lo+c.2.1-1)>>=λr=>match r with
 |some sm=>(if sm=true then(if c.2.2 > 0 then reverseSlice' (lo+c.2.1-(c.2.2+1)) (lo+c.2.1)>>=λ_=>pure (.yield (none,c.2.1+1,0))else pure (.yield (none,c.2.1+1,0)))
  else ltAt' (lo+c.2.1-1) (lo+c.2.1)>>=λr=>match r with
   |some lg=>(if lg=true then pure (.done (none,c.2.1,c.2.2))else pure (.yield (none,c.2.1+1,c.2.2+1)))
   |_=>pure (.done (some none,c.2.1,c.2.2)))
 |_=>pure (.done (some none,c.2.1,c.2.2))
noncomputable def dpO(lo n nrem:Nat):StateT SortSt Sem (Option Nat):=liftM (rule "list.sort.descending-run")>>=λ_=>a8G lo (n+1) nrem>>=λc=>match c.1 with
 |some r=>pure r
 |none=>(if c.2.2 > 0 then reverseSlice' (lo+c.2.1-(c.2.2+1)) (lo+c.2.1)>>=λ_=>a0d lo c.2.1 nrem else a0d lo c.2.1 nrem)
theorem a9V(lo a:Nat):countRun' lo a=(b2O lo 1 a>>=λc=>match c.1 with
 |some r=>pure r
 |none=>(if (c.2==a)=true then pure (some c.2)else if c.2 > 1 then ltAt' lo (lo+c.2-1)>>=λr=>match r with
   |some rose=>(if rose=true then pure (some c.2)else reverseSlice' lo (lo+c.2)>>=λ_=>dpO lo c.2 a)
   |_=>pure none
  else dpO lo c.2 a)):=by
 have e:∀(n:Nat),(reverseSlice' lo (lo+n)>>=λ_=>b2O lo n a>>=λc=>match c.1 with|some r=>pure r|none=>pure (some c.2))=a0d lo n a:=λn=>rfl;rw[countRun'_eq];dsimp only;refine congr (aQ _ ?_) (funext λc=>?_)
 .rfl
 rcases c with⟨_|q,n⟩
 .dsimp only;have d:∀n:Nat,(liftM (rule "list.sort.descending-run")>>=λ_=>a8G lo (n+1) a>>=λc=>match c.1 with
    |some r=>pure r
    |none=>(if c.2.2 > 0 then reverseSlice' (lo+c.2.1-(c.2.2+1)) (lo+c.2.1)>>=λ_=>a0d lo c.2.1 a else a0d lo c.2.1 a))=dpO lo n a:=λn=>rfl
  have b:∀{β:Type}{m:StateT SortSt Sem β}{f g:β->StateT SortSt Sem (Option Nat)},(∀c,f c=g c)->(m>>=f)=(m>>=g):=λh=>aQ _ (funext h);refine dM rfl (λ_=>rfl) λ_=>dM rfl (λ_=>?_) λ_=>?_
  .refine b λr=>?_;rcases r with _|r
   .rfl
   .dsimp only;refine dM rfl (λ_=>rfl) λ_=>?_;refine b λ_=>?_;rw[<-d];refine b λ_=>?_;refine congr (aQ _ ?_) (funext λc=>?_)
    .rfl
    .rcases c with⟨_|q,n,z⟩
     .dsimp only;refine dM rfl (λ_=>?_) λ_=>?_
      .refine b λ_=>?_;refine b λ_=>?_;refine congr (aQ _ ?_) (funext λc=>?_)
       .rfl
       .rcases c with⟨_|q,n⟩<;>rfl
      .refine b λ_=>?_;refine congr (aQ _ ?_) (funext λc=>?_)
       .rfl
       .rcases c with⟨_|q,n⟩<;>rfl
     .rfl
  .rw[<-d];refine b λ_=>?_;refine congr (aQ _ ?_) (funext λc=>?_)
   .rfl
   .rcases c with⟨_|q,n,z⟩
    .dsimp only;refine dM rfl (λ_=>?_) λ_=>?_
     .refine b λ_=>?_;refine b λ_=>?_;refine congr (aQ _ ?_) (funext λc=>?_)
      .rfl
      .rcases c with⟨_|q,n⟩<;>rfl
     .refine b λ_=>?_;refine congr (aQ _ ?_) (funext λc=>?_)
      .rfl
      .rcases c with⟨_|q,n⟩<;>rfl
    .rfl
 .rfl
section
variable {prog:Program}{w:World}{A:Around}{E:Value->Shared->Prop}{s:Shared}{κ:SortKind}{D:Keyed->Prop}{O:KeyOrd}{kf:Keyed->O.α}{st:SortSt}
theorem a0T{arr:Array Keyed}{i j:Nat}(a:j<=arr.size)(k:Nat):kx kf (mirror arr i j ((j-i) / 2)) k=if i<=k/\k<j then kx kf arr (i+j-1-k)else kx kf arr k:=by
 have e:=getElem?_mirror_all (i:=i) a k;split
 .rename_i c;rw[ay c]at e;exact V9 e
 .rename_i c;rw[ao c]at e;exact V9 e
theorem M0{arr:Array Keyed}{i j:Nat}(b:j<=arr.size)(a:∀k,i<=k->k<j->kx kf arr k=kx kf arr (j-1))(k:Nat):kx kf (mirror arr i j ((j-i) / 2)) k=kx kf arr k:=by
 rw[a0T b];split
 .rw[a _ (by omega) (by omega),a k (by omega) (by omega)]
 .rfl
theorem Kept.rev{lo i j:Nat}(hi:lo<=i)(a:j<=(arrOf st).size):Kept lo st (setArr st (mirror (arrOf st) i j ((j-i) / 2))):=⟨rfl,rfl,rfl,mirror_perm _ _ _ _,λk b=>by
 show(mirror (arrOf st) i j ((j-i) / 2))[k]?=_;rw[getElem?_mirror_all a,ao (by omega)]⟩
theorem a5r{lo a b:Nat}{Q:AscSt->SortSt->Prop}(k:Cmp prog w A s κ D (ltK kf))(u:kindOf st=κ)(t:AllD D (arrOf st))(r:lo+b<=(arrOf st).size)(q:1<=a)(f:a<=b)(hs:SoO kf (arrOf st) lo a)
  (h:∀n,a<=n->n<=b->SoO kf (arrOf st) lo n->(n=b∨O.klt (kx kf (arrOf st) (lo+n)) (kx kf (arrOf st) (lo+(n-1))))->Q (none,n) st):wpS (model prog w) A E s (b2O lo a b) Q st:=by
 unfold b2O;refine cj (I:=λx c st'=>st'=st/\c=(none,x)/\SoO kf (arrOf st) lo x) ?step ?fin ⟨rfl,rfl,hs⟩
 case fin =>
  rintro c st' ⟨rfl,rfl,d⟩;rw[Nat.max_eq_right f]at d⊢;exact h b f (aj _) d (.inl rfl)
 case step =>
  rintro x c st' g p ⟨rfl,rfl,d⟩;dsimp only;replace q:1<=x:=bb q g;rw[show lo+x-1=lo+(x-1) by clear r f g p;omega];refine aB (P9 k u t (by omega) (by omega) ?_);clear r f;dsimp only;cases e:O.blt (kx kf (arrOf st') (lo+x)) (kx kf (arrOf st') (lo+(x-1)))with
  |true =>
   rw[ay rfl];exact aJ (h x g (by omega) d (.inr e))
  |false =>
   rw[ao (by simp)];refine aJ ⟨rfl,rfl,λi j m v=>?_⟩;by_cases o:j<x
   .exact d i j m o
   .have hj':j=x:=by omega
    subst hj';by_cases l:i=j
    .subst l;exact cy _
    .exact bO (d i (j-1) (by omega) (by omega)) e
theorem a1X{lo n a:Nat}{Q:Option Nat->SortSt->Prop}(d:Cmp prog w A s κ D (ltK kf))(l:kindOf st=κ)(g:AllD D (arrOf st))(f:lo+a<=(arrOf st).size)(h1:1<=n)(b:n<=a)(hs:NiO kf (arrOf st) lo n)
  (h:∀m st',Kept lo st st'->1<=m->m<=a->SoO kf (arrOf st') lo m->Q (some m) st'):wpS (model prog w) A E s (a0d lo n a) Q st:=by
 unfold a0d;refine aB (wpS_reverse ?_);have c:Kept lo st (setArr st (mirror (arrOf st) lo (lo+n) ((lo+n-lo) / 2))):=Kept.rev (aj _) (by omega);refine aB (a5r d (c.1.trans l) (g.perm c.2.2.2.1) (by rw[c.2.2.2.1.size_eq];exact f) h1 b (λi j k q=>?_) λm r o p _=>aJ (h m _ c (by omega) o p));show O.kle (kx kf (mirror (arrOf st) lo (lo+n) ((lo+n-lo) / 2)) (lo+i)) (kx kf (mirror (arrOf st) lo (lo+n) ((lo+n-lo) / 2)) (lo+j));have e:lo+n<=(arrOf st).size:=by omega
 rw[a0T e,a0T e];clear f h1 b e;rw[ay (by omega),ay (by omega),show lo+(lo+n)-1-(lo+i)=lo+(n-1-i) by omega,show lo+(lo+n)-1-(lo+j)=lo+(n-1-j) by omega];exact hs _ _ (by omega) (by omega)
theorem a8P{lo n d:Nat}{Q:DescSt->SortSt->Prop}(H:Cmp prog w A s κ D (ltK kf))(J:kindOf st=κ)(M:AllD D (arrOf st))(L:lo+d<=(arrOf st).size)(h1:1<=n)(u:n<=d)(hs:NiO kf (arrOf st) lo n)
  (h:∀m a st',Kept lo st st'->n<=m->m<=d->NiO kf (arrOf st') lo m->a+1<=m->(∀i,lo+m-(a+1)<=i->i<lo+m->kx kf (arrOf st') i=kx kf (arrOf st') (lo+m-1))->Q (none,m,a) st'):wpS (model prog w) A E s (a8G lo n d) Q st:=by
 unfold a8G;refine cj (I:=λx c st'=>∃a,c=(none,x,a)/\Kept lo st st'/\NiO kf (arrOf st') lo x/\a+1<=x /\
   (∀i,lo+x-(a+1)<=i->i<lo+x->kx kf (arrOf st') i=kx kf (arrOf st') (lo+x-1))) ?step ?fin ⟨0,rfl,Kept.refl,hs,by omega,λi h1 h2=>by congr 1;omega⟩
 case fin =>
  rintro c st' ⟨a,rfl,b,g,F,y⟩;rw[Nat.max_eq_right u]at g F y⊢;exact h d a st' b u (aj _) g F y
 case step =>
  rintro x c st' o e ⟨a,rfl,b,g,F,y⟩;dsimp only;have t:lo+x<(arrOf st').size:=by rw[b.2.2.2.1.size_eq];exact aK (Nat.add_lt_add_left e lo) L
  have G:=M.perm b.2.2.2.1;replace e:x<=d:=cH e;have ex:HEq (lo+x-1) (lo+(x-1)):=eE (by clear L h1 u o e t;omega);have l:lo+x-1<(arrOf st').size:=ff (Nat.sub_le _ _) t;clear L h1 u;refine aB (P9 H (b.1.trans J) G t l ?_);dsimp only;rw[cg ex]at y l⊢;cases q:O.blt (kx kf (arrOf st') (lo+x)) (kx kf (arrOf st') (lo+(x-1)))with
  |true =>
   rw[ay rfl];have r:∀xs:Array Keyed,(∀k,kx kf xs k=kx kf (arrOf st') k)->NiO kf xs lo (x+1):=by
    intro xs J i j B N;rw[J,J];by_cases C:j<x
    .exact g i j B C
    .have hj':j=x:=by omega
     subst hj';by_cases z:i=j
     .subst z;exact cy _
     .exact bO (bP q) (g i (j-1) (by omega) (by omega))
   by_cases f:a > 0
   .rw[ay f];refine aB (wpS_reverse (aJ ⟨0,rfl,b.trans (Kept.rev (by clear t l ex o e f;omega) (cH t)),r _ (M0 (cH t) (λk P R=>by rw[cg ex];exact y k P R)),fg _,λi h1 h2=>by clear t l ex o e f F;congr 1;omega⟩))
   .rw[ao f];exact aJ ⟨0,rfl,b,r _ (λ_=>rfl),fg _,λi h1 h2=>by clear t l ex o e f F;congr 1;omega⟩
  |false =>
   rw[ao (by simp)];refine aB (P9 H (b.1.trans J) G l t ?_);dsimp only;clear t l;cases p:O.blt (kx kf (arrOf st') (lo+(x-1))) (kx kf (arrOf st') (lo+x))with
   |true =>
    rw[ay rfl];exact aJ (h x a st' b o e g F (by rw[cg ex];exact y))
   |false =>
    rw[ao (by simp)];have v:kx kf (arrOf st') (lo+x)=kx kf (arrOf st') (lo+(x-1)):=KeyOrd.kle_antisymm p q;clear o e;refine aJ ⟨a+1,rfl,b,λi j B N=>?_,by omega,λi h1 h2=>?_⟩
    .by_cases C:j<x
     .exact g i j B C
     .have hj':j=x:=by omega
      subst hj';by_cases z:i=j
      .subst z;exact cy _
      .rw[v];exact g i (j-1) (by omega) (by omega)
    .rw[show lo+(x+1)-1=lo+x by omega];by_cases K:i=lo+x
     .subst K;rfl
     .rw[v];exact y i (by omega) (by omega)
theorem a7M{lo n a:Nat}{Q:Option Nat->SortSt->Prop}(e:Cmp prog w A s κ D (ltK kf))(t:kindOf st=κ)(y:AllD D (arrOf st))(q:lo+a<=(arrOf st).size)(u:n+1<=a)(hs:NiO kf (arrOf st) lo (n+1))
  (h:∀m st',Kept lo st st'->1<=m->m<=a->SoO kf (arrOf st') lo m->Q (some m) st'):wpS (model prog w) A E s (dpO lo n a) Q st:=by
 unfold dpO;refine aB (P8 ?_);refine aB (a8P e t y q (by omega) u hs λm k st' b C f p F z=>?_);dsimp only;have v:=eE (b.2.2.2.1.size_eq:(arrOf st').size=(arrOf st).size);have g:lo+m<=(arrOf st').size:=by rw[cg v];exact bb (Nat.add_le_add_left f lo) q
 have o:=y.perm b.2.2.2.1;by_cases d:k > 0
 .rw[ay d];have c:Kept lo st' (setArr st' (mirror (arrOf st') (lo+m-(k+1)) (lo+m) ((lo+m-(lo+m-(k+1))) / 2))):=Kept.rev (by omega) g;refine aB (wpS_reverse (a1X e (c.1.trans (b.1.trans t)) (o.perm c.2.2.2.1) (by rw[c.2.2.2.1.size_eq,cg v];exact q) (by omega) f (λi j r B=>?_) λx l k2=>h x l (b.trans (c.trans k2))));show O.kle (kx kf (mirror (arrOf st') _ _ _) _) (kx kf (mirror (arrOf st') _ _ _) _);rw[M0 g z,M0 g z];exact p i j r B
 .rw[ao d];exact a1X e (b.1.trans t) o (by rw[cg v];exact q) (by omega) f p λx l k2=>h x l (b.trans k2)
theorem a6A{lo b:Nat}{Q:Option Nat->SortSt->Prop}(f:Cmp prog w A s κ D (ltK kf))(v:kindOf st=κ)(F:AllD D (arrOf st))(q:lo+b<=(arrOf st).size)(h1:1<=b)
  (h:∀m st',Kept lo st st'->1<=m->m<=b->SoO kf (arrOf st') lo m->Q (some m) st'):wpS (model prog w) A E s (countRun' lo b) Q st:=by
 rw[a9V];refine aB (a5r f v F q (aj 1) h1 (λi j x J=>by have:i=j:=(by omega);subst this;exact cy _) λn g c l C=>?_);dsimp only;by_cases a:n=b
 .rw[ay (by simpa using a)];exact aJ (h n st Kept.refl g c l)
 .rw[ao (by simpa using a)];have y:O.klt (kx kf (arrOf st) (lo+n)) (kx kf (arrOf st) (lo+(n-1))):=C.resolve_left a;replace a:n+1<=b:=by omega
  clear C c h1;replace c:=Nat.le_of_succ_le a;have u:lo+n<(arrOf st).size:=aK (Nat.add_lt_add_left a lo) q;by_cases o:n > 1
  .rw[ay o];refine aB (P9 f v F (by omega) (by omega) ?_);dsimp only;have ex:lo+n-1=lo+(n-1):=by clear q a c u;omega
   rw[ex];cases t:O.blt (kx kf (arrOf st) lo) (kx kf (arrOf st) (lo+(n-1)))with
   |true =>
    rw[ay rfl];exact aJ (h n st Kept.refl g c l)
   |false =>
    rw[ao (by simp)];have r:=q;clear q;have d:∀k,k<n->kx kf (arrOf st) (lo+k)=kx kf (arrOf st) (lo+(n-1)):=by
     intro k v;clear u a c ex;have a1:=l 0 k (bo _) v;have K:=l k (n-1) (by omega) (by omega);exact KeyOrd.kle_antisymm K (bO t a1)
    have z:∀k,kx kf (mirror (arrOf st) lo (lo+n) ((lo+n-lo) / 2)) k=kx kf (arrOf st) k:=M0 (cH u) λk M N=>by
     rw[ex];clear u a c ex r;have:=d (k-lo) (by omega);rwa[show lo+(k-lo)=k by omega]at this
    have e:Kept lo st (setArr st (mirror (arrOf st) lo (lo+n) ((lo+n-lo) / 2))):=Kept.rev (aj _) (cH u);refine aB (wpS_reverse (a7M f (e.1.trans v) (F.perm e.2.2.2.1) (by rw[e.2.2.2.1.size_eq];exact r) a (λi j x J=>?_) λL I k2=>h L I (e.trans k2)));show O.kle (kx kf (mirror (arrOf st) _ _ _) _) (kx kf (mirror (arrOf st) _ _ _) _);rw[z,z];clear u a c ex r g;by_cases H:j<n
    .rw[d i (by omega),d j H];exact cy _
    .have hj':j=n:=by omega
     subst hj';by_cases p:i=j
     .subst p;exact cy _
     .rw[d i (by omega)];exact bP y
  .rw[ao o];have B:n=1:=by omega
   subst B;refine a7M f v F q a (λi j x J=>?_) h;clear u a c q g o;by_cases p:i=j
   .subst p;exact cy _
   .have hi0:i=0:=by omega
    have G:j=1:=by omega
    subst hi0;subst G;exact bP y
end
noncomputable def a1C:Nat->List (List Keyed)->List (Nat×Nat)
 |_,[]=>[]
 |o,r::rs=>(o,r.length)::a1C (o+r.length) rs
theorem O4:∀(o:Nat) (X Y:List (List Keyed)),a1C o (X++Y)=a1C o X++a1C (o+X.flatten.length) Y
 |o,[],Y=>by simp[a1C]
 |o,r::X,Y=>by
  simp only[dR,a1C,O4 (o+r.length) X Y,cR,aq,dW]
theorem a2B:∀(o:Nat) (X:List (List Keyed)),(a1C o X).length=X.length
 |_,[]=>rfl
 |o,r::X=>by simp only[a1C,aT,a2B (o+r.length) X]
noncomputable abbrev ent(e:Nat×Nat×Nat):Nat×Nat:=(e.1,e.2.1)
section
variable {prog:Program}{w:World}{A:Around}{E:Value->Shared->Prop}{s:Shared}{κ:SortKind}{D:Keyed->Prop}{O:KeyOrd}{kf:Keyed->O.α}{st:SortSt}{a0:Array Keyed}
structure RI(kf:Keyed->O.α)(κ:SortKind)(a0:Array Keyed)(st:SortSt)(runs:List (List Keyed))(rest:List Keyed):Prop where
 kind:kindOf st=κ
 failed:failedOf st=none
 perm:(arrOf st).Perm a0
 eq:(arrOf st).toList=runs.flatten++rest
 sorted:∀r∈runs,r.Pairwise (leK kf)
 ne:∀r∈runs,0<r.length
 pend:(pendingOf st).toList.map ent=a1C 0 runs
theorem RI.size{runs:List (List Keyed)}{rest:List Keyed}(h:RI kf κ a0 st runs rest):(pendingOf st).size=runs.length:=by
 rw[<-ax,<-ai (f:=ent),h.pend,a2B]
theorem a1l{X Y:List (List Keyed)}{ra b rest:List Keyed}{Q:Bool->SortSt->Prop}(j:Cmp prog w A s κ D (ltK kf))(I:AllD D a0)(h:RI kf κ a0 st (X++ra::b::Y) rest)
  (q:∀(st':SortSt) (M:List Keyed),RI kf κ a0 st' (X++M::Y) rest->M.length=ra.length+b.length->Q true st'):wpS (model prog w) A E s (mergeAt' X.length) Q st:=by
 have p:=h.pend;rw[O4,a1C,a1C]at p;obtain⟨c,R,i,n,v⟩:=List.map_eq_append_iff.mp p;obtain⟨x,S,B,e,C⟩:=List.map_eq_cons_iff.mp v;obtain⟨y,K,F,g,o⟩:=List.map_eq_cons_iff.mp C;subst B F;obtain⟨L,N,u⟩:=x;obtain⟨O,P,m⟩:=y;rw[dv]at e g o;have e:(L,N)=(X.flatten.length,ra.length):=e;have g:(O,P)=(X.flatten.length+ra.length,b.length):=g;cases e;cases g;have J:c.length=X.length:=by rw[<-ai (f:=ent),n,a2B]
 have G:(pendingOf st)[X.length]?=some (X.flatten.length,ra.length,u):=by
  rw[<-au,i,aZ (by omega),show X.length-c.length=0 by omega];rfl
 have H:(pendingOf st)[X.length+1]?=some (X.flatten.length+ra.length,b.length,m):=by
  rw[<-au,i,aZ (by omega),show X.length+1-c.length=1 by omega];rfl
 have a:Runs2 kf D (arrOf st) X.flatten ra b (Y.flatten++rest):=by
  refine⟨?_,λz t=>(I.perm h.perm) z t,h.sorted _ (by simp),h.sorted _ (by simp),h.ne _ (by simp),h.ne _ (by simp)⟩;rw[h.eq];simp[aH]
 refine a5p j h.kind a G H h.failed λst' M k1 k2 k3 l k5=>?_;have d:M.length=ra.length+b.length:=by rw[l.1.length_eq,aq]
 refine q st' M ⟨k1,k2,?_,?_,λr k=>?_,λr k=>?_,?_⟩ d
 .refine dI.mpr ?_;refine List.Perm.trans ?_ (dI.mp h.perm);rw[k5,a.eq];refine List.Perm.append_right _ ?_;rw[aH X.flatten];exact ck _ l.1
 .rw[k5];simp[aH]
 .rcases aC.mp k with z|z
  .exact h.sorted r (aS _ z)
  .rcases aE.mp z with rfl|z
   .exact l.2
   .exact h.sorted r (aO _ (av _ (av _ z)))
 .rcases aC.mp k with z|z
  .exact h.ne r (aS _ z)
  .rcases aE.mp z with rfl|z
   .have:=h.ne ra (by simp);omega
   .exact h.ne r (aO _ (av _ (av _ z)))
 .rw[k3,Array.eraseIdxIfInBounds];have t:(pendingOf st).size=X.length+(Y.length+2):=by rw[h.size];simp
  rw[dif_pos (by rw[fe];omega),Array.toList_eraseIdx,Array.toList_setIfInBounds,i];rw[List.set_append_right _ _ (by omega),show X.length-c.length=0 by omega,dw];rw[List.eraseIdx_append_of_length_le (by omega),show X.length+1-c.length=1 by omega];show(c++(X.flatten.length,ra.length+b.length,u)::K).map ent=_;rw[b_,aU,n,o,O4,a1C,dv,d];show _++(X.flatten.length,ra.length+b.length)::_=_;rw[dW]
end
noncomputable def a1T(lo n:Nat):StateT SortSt Sem (ForInStep (Option Unit×Nat)) :=
 (modify λs=>setPending s ((pendingOf s).push (lo,n,0)))>>=λ_=>pure (.yield (none,lo+n))
noncomputable def W0(sz pw:Nat):StateT SortSt Sem (Option Unit×Unit) :=
 forIn [:sz] ((none,()):Option Unit×Unit) λ_ _=>get>>=λg=>match (if (pendingOf g).size > 1 then(pendingOf g)[(pendingOf g).size-2]? else none)with
  |some (_,_,older)=>(if older<=pw then pure (.done (none,()))else mergeAt' ((pendingOf g).size-2)>>=λb=>if (!b)=true then pure (.done (some (),()))else pure (.yield (none,())))
  |_=>pure (.done (none,()))
noncomputable def a0i(sz lo n:Nat):StateT SortSt Sem (ForInStep (Option Unit×Nat)):=get>>=λg=>match (pendingOf g).back? with
 |some (s1,n1,_)=>W0 sz (power' sz (2*s1+n1) (2*s1+n1+n1+n) sz)>>=λc=>match c.1 with
  |some r=>pure (.done (some r,lo))
  |none=>(modify λs=>setPending s ((pendingOf s).modify ((pendingOf s).size-1) λx=>(x.1,x.2.1,power' sz (2*s1+n1) (2*s1+n1+n1+n) sz)))>>=λ_=>a1T lo n
 |_=>a1T lo n
noncomputable def a8t(sz:Nat):StateT SortSt Sem (Option Unit×Unit) :=
 forIn [:sz] ((none,()):Option Unit×Unit) λ_ _=>get>>=λg=>if (pendingOf g).size<=1 then pure (.done (none,()))
  else mergeAt' (if Option.any (λx=>decide (x<(pendingOf g)[(pendingOf g).size-2+1]?.elim 0 λx=>x.2.1)) (if (pendingOf g).size-2 > 0 then Option.map (λx=>x.2.1) (pendingOf g)[(pendingOf g).size-2-1]? else none)=true then(pendingOf g).size-2-1 else(pendingOf g).size-2)>>=λb=>if (!b)=true then pure (.done (some (),()))else pure (.yield (none,()))
section
variable {prog:Program}{w:World}{A:Around}{E:Value->Shared->Prop}{s:Shared}{κ:SortKind}{D:Keyed->Prop}{O:KeyOrd}{kf:Keyed->O.α}{st:SortSt}{a0:Array Keyed}{runs:List (List Keyed)}{rest:List Keyed}
theorem two_last{α:Type}{l:List α}(h:2<=l.length):∃X a b,l=X++[a,b]/\X.length=l.length-2:=by
 refine⟨l.take (l.length-2),l[l.length-2],l[l.length-1],?_,by rw[aY];omega⟩;have c:l.drop (l.length-2)=[l[l.length-2],l[l.length-1]]:=by
  rw[cK (by omega),cK (by omega),cz (by omega)];congr 2;congr 1;omega
 rw[<-c,bp]
theorem a4l{sz j:Nat}{Q:Option Unit×Unit->SortSt->Prop}(g:Cmp prog w A s κ D (ltK kf))(i:AllD D a0)(h:RI kf κ a0 st runs rest)
  (q:∀st' a,RI kf κ a0 st' a rest->a.flatten.length=runs.flatten.length->a.length<=runs.length->Q (none,()) st'):wpS (model prog w) A E s (W0 sz j) Q st:=by
 unfold W0;refine cj (I:=λ_ c st'=>c=(none,())/\∃a,RI kf κ a0 st' a rest/\a.flatten.length=runs.flatten.length/\a.length<=runs.length) ?step (λc st' ⟨e,d,h1,h2,b⟩=>by rw[e];exact q st' d h1 h2 b) ⟨rfl,runs,h,rfl,aj _⟩;rintro x c st' _ _ ⟨rfl,d,h1,h2,b⟩;refine aB (fo ?_);split
 .rename_i older heq;split
  .exact aJ (q st' d h1 h2 b)
  .have hz:(pendingOf st').size > 1:=by
    refine Nat.lt_of_not_le λz=>?_;rw[ao (by omega)]at heq;cases heq
   have hs:=h1.size;obtain⟨X,ra,n,f,m⟩:=two_last (l:=d) (by omega);rw[f]at h1;rw[show(pendingOf st').size-2=X.length by omega];refine aB (a1l g i h1 λk M k1 k2=>?_);rw[ao (by simp)];refine aJ ⟨rfl,_,k1,?_,?_⟩
   .rw[<-h2,f];simp[k2]
   .rw[f]at b;simp at b⊢;omega
 .exact aJ (q st' d h1 h2 b)
theorem a1k{lo n:Nat}{Q:ForInStep (Option Unit×Nat)->SortSt->Prop}{r:List Keyed}(h:RI kf κ a0 st runs (r++rest))(e:r.Pairwise (leK kf))(d:0<n)(c:r.length=n)(a:lo=runs.flatten.length)
  (q:∀st',RI kf κ a0 st' (runs++[r]) rest->Q (.yield (none,lo+n)) st'):wpS (model prog w) A E s (a1T lo n) Q st:=by
 unfold a1T;refine aB (wpS_modify (aJ (q _ ⟨h.kind,h.failed,h.perm,?_,λz b=>?_,λz b=>?_,?_⟩)))
 .show(arrOf st).toList=_;rw[h.eq];simp
 .rcases aC.mp b with y|y
  .exact h.sorted z y
  .rw[aD.mp y];exact e
 .rcases aC.mp b with y|y
  .exact h.ne z y
  .rw[aD.mp y,c];exact d
 .show((pendingOf st).push (lo,n,0)).toList.map ent=_;rw[cT,b_,h.pend,O4,dv,a,<-c];rfl
theorem map_modify{p:Array (Nat×Nat×Nat)}{i a:Nat}:(p.modify i λx=>(x.1,x.2.1,a)).toList.map ent=p.toList.map ent:=by
 rw[Array.toList_modify];refine fC λj=>?_;rw[aP,aP,List.getElem?_modify];cases p.toList[j]? with
 |none=>rfl
 |some x =>
  by_cases e:i=j
  .simp[e]
  .simp[e]
theorem a6C{sz lo n:Nat}{Q:ForInStep (Option Unit×Nat)->SortSt->Prop}{r:List Keyed}(e:Cmp prog w A s κ D (ltK kf))(j:AllD D a0)(h:RI kf κ a0 st runs (r++rest))(i:r.Pairwise (leK kf))(g:0<n)(d:r.length=n)(b:lo=runs.flatten.length)
  (q:∀st' a,RI kf κ a0 st' a rest->a.flatten.length=lo+n->a.length<=runs.length+1->Q (.yield (none,lo+n)) st'):wpS (model prog w) A E s (a0i sz lo n) Q st:=by
 unfold a0i;refine aB (fo ?_);split
 .refine aB (a4l e j h λst' a k1 k2 k3=>?_);dsimp only;refine aB (wpS_modify ?_);refine a1k (runs:=a) (rest:=rest) ⟨k1.kind,k1.failed,k1.perm,k1.eq,k1.sorted,k1.ne,map_modify.trans k1.pend⟩ i g d (by rw[k2];exact b) λc f=>q c _ f ?_ ?_
  .simp[k2,d,b]
  .simp;omega
 .refine a1k h i g d b λc f=>q c _ f ?_ ?_
  .simp[d,b]
  .simp
end
section
variable {prog:Program}{w:World}{A:Around}{E:Value->Shared->Prop}{s:Shared}{κ:SortKind}{D:Keyed->Prop}{O:KeyOrd}{kf:Keyed->O.α}{st:SortSt}{a0:Array Keyed}{runs:List (List Keyed)}{rest:List Keyed}
theorem b2N{α:Type}{l:List α}{i:Nat}(h:i+1<l.length):∃X a b Y,l=X++a::b::Y/\X.length=i:=by
 refine⟨l.take i,l[i],l[i+1],l.drop (i+1+1),?_,by rw[aY];omega⟩;rw[<-cK (by omega),<-cK (by omega),bp]
theorem a5q{sz:Nat}{Q:Option Unit×Unit->SortSt->Prop}(j:Cmp prog w A s κ D (ltK kf))(n:AllD D a0)(h:RI kf κ a0 st runs rest)(t:runs.length<=sz)
  (q:∀st' a,RI kf κ a0 st' a rest->a.length<=1->Q (none,()) st'):wpS (model prog w) A E s (a8t sz) Q st:=by
 unfold a8t;refine cj (I:=λx c st'=>c=(none,())/\∃a,RI kf κ a0 st' a rest/\a.length+x<=sz+1) ?step (λc st' ⟨e,g,h1,h2⟩=>by rw[e];exact q st' g h1 (by omega)) ⟨rfl,runs,h,by omega⟩;rintro x c st' _ _ ⟨rfl,g,h1,h2⟩;refine aB (fo ?_);have hs:=h1.size;split
 .exact aJ (q st' g h1 (by omega))
 .rename_i hz;have m:∀i,i+1<g.length->wpS (model prog w) A E s ((mergeAt' i>>=λb=>if (!b)=true then pure (ForInStep.done (some (),()))else pure (ForInStep.yield (none,()))):StateT SortSt Sem (ForInStep (Option Unit×Unit))) (λr d=>match r with|ForInStep.done c'=>Q c' d|ForInStep.yield c'=>c'=(none,())/\∃a,RI kf κ a0 d a rest/\a.length+(x+1)<=sz+1) st':=λi hi=>by
   obtain⟨X,ra,u,Y,k,l⟩:=b2N hi;rw[k]at h1 h2;rw[<-l];refine aB (a1l j n h1 λp M k1 k2=>?_);rw[ao (by simp)];refine aJ ⟨rfl,_,k1,?_⟩;simp at h2⊢;omega
  refine cC (m _ ?_) (λr d o=>by cases r<;>exact o);by_cases f:(pendingOf st').size-2 > 0
  .rw[ay f];split<;>omega
  .rw[ao f,ao (by simp)];omega
theorem RI.kept{st':SortSt}(h:RI kf κ a0 st runs rest)(k:Kept runs.flatten.length st st'):RI kf κ a0 st' runs ((arrOf st').toList.drop runs.flatten.length):=by
 refine⟨k.1.trans h.kind,k.2.2.1.trans h.failed,k.2.2.2.1.trans h.perm,?_,h.sorted,h.ne,by rw[k.2.1];exact h.pend⟩;have e:(arrOf st').toList.take runs.flatten.length=runs.flatten:=by
  have a:(arrOf st).toList.take runs.flatten.length=runs.flatten:=by rw[h.eq,List.take_left'];rfl
  rw[<-a];refine fC λi=>?_;rw[aY];by_cases hi:i<runs.flatten.length
  .have hle:runs.flatten.length<=(arrOf st).toList.length:=by rw[h.eq,aq];omega
   rw[cZ (by omega),cZ hi,au,au];exact k.2.2.2.2 i hi
  .rw[cM (by rw[aY];omega),cM (by rw[aY];omega)]
 rw[<-bp runs.flatten.length (arrOf st').toList,e];congr 1;rw[di (aj _),List.drop_length,bS]
theorem b3e{arr:Array Keyed}{lo n:Nat}(h:SoO kf arr lo n)(c:lo+n<=arr.size):((arr.toList.drop lo).take n).Pairwise (leK kf):=by
 rw[eV];intro i j hi b a;rw[aY,bV,ax]at hi b;have q:=h i j (cH a) (by omega);unfold leK;have g:∀k,k<n->kx kf arr (lo+k)=kf (arr[lo+k]?.getD (Value.none,Value.none)):=λk _=>by unfold kx;rw[bM]
 rw[g i (by omega),g j (by omega),getElem?_pos arr _ (by omega),getElem?_pos arr _ (by omega)]at q;simp only[fA,fB,Array.getElem_toList];exact q
theorem a2t:∀{runs:List (List Keyed)},(∀r∈runs,0<r.length)->runs.length<=runs.flatten.length
 |[],_=>aj _
 |r::runs,h=>by
  have:=a2t (runs:=runs) λz a=>h z (av _ a);have:=h r ar;simp only[aT,cR,aq];omega
theorem a3x{α:Type}{m m':StateT SortSt Sem α}{Q:α->SortSt->Prop}(e:m=m')(h:wpS (model prog w) A E s m' Q st):wpS (model prog w) A E s m Q st:=by rw[e];exact h
theorem a5m{Q:Unit->SortSt->Prop}(f:Cmp prog w A s κ D (ltK kf))(P:kindOf st=κ)(y:AllD D (arrOf st))(hp:pendingOf st=#[])(O:failedOf st=none)
  (q:∀st':SortSt,(arrOf st').Perm (arrOf st)->failedOf st'=none->(arrOf st').toList.Pairwise (leK kf)->Q () st'):wpS (model prog w) A E s sortRuns' Q st:=by
 rw[sortRuns'_eq];refine aB (fo ?_);dsimp only;generalize F:(arrOf st).size=sz;have N:RI kf κ (arrOf st) st [] (arrOf st).toList:=⟨P,O,.refl _,rfl,(λ_ z=>nomatch z),(λ_ z=>nomatch z),by rw[hp];rfl⟩;have J:∀{st':SortSt}{runs:List (List Keyed)}{rest:List Keyed},RI kf κ (arrOf st) st' runs rest->(arrOf st').size=sz:=λh=>by rw[h.perm.size_eq];exact F
 have L:∀{st':SortSt}{runs:List (List Keyed)}{rest:List Keyed},RI kf κ (arrOf st) st' runs rest->runs.flatten.length+rest.length=sz:=λh=>by
  have:=aQ List.length h.eq;rw[ax,J h,aq]at this;omega
 refine aB (cC (cj (I:=λx c st'=>c.1=none/\∃runs rest,RI kf κ (arrOf st) st' runs rest/\c.2=runs.flatten.length/\x<=c.2)
  (Q:=λc st'=>c.1=none/\∃runs,RI kf κ (arrOf st) st' runs []/\runs.length<=sz) ?step ?fin ⟨rfl,[],_,N,rfl,aj _⟩) ?post)
 case fin =>
  rintro c st' ⟨k,runs,rest,h1,h2,K⟩;have:=L h1;have l:rest=[]:=List.eq_nil_of_length_eq_zero (by omega);subst l;exact⟨k,runs,h1,by have:=a2t h1.ne;omega⟩
 case step =>
  rintro x c st' _ X ⟨k,runs,rest,h1,h2,K⟩;obtain⟨M,lo⟩:=c;dsimp only at k h2 K⊢;subst k;have R:=L h1;have H:=J h1;by_cases t:lo ≥ sz
  .rw[ay t];have l:rest=[]:=List.eq_nil_of_length_eq_zero (by omega);subst l;exact aJ ⟨rfl,runs,h1,by have:=a2t h1.ne;omega⟩
  .rw[ao t];have p:=y.perm h1.perm;have add:∀(n:Nat) (d:SortSt),Kept lo st' d->0<n->lo+n<=sz->SoO kf (arrOf d) lo n->wpS (model prog w) A E s (a0i sz lo n) (λr e=>match r with|ForInStep.done c'=>c'.1=none/\∃runs,RI kf κ (arrOf st) e runs []/\runs.length<=sz|ForInStep.yield c'=>c'.1=none/\∃runs rest,RI kf κ (arrOf st) e runs rest/\c'.2=runs.flatten.length/\x+1<=c'.2) d:=λn d j C U i=>by
    rw[h2]at j;have hR:=h1.kept j;rw[<-h2]at hR;have G:=J hR;rw[<-bp n ((arrOf d).toList.drop lo)]at hR;refine a6C f y hR (b3e i (by omega)) C (by rw[aY,bV,ax];omega) h2 λv W k1 k2 k3=>⟨rfl,W,_,k1,k2.symm,by show x+1<=lo+n;omega⟩
   refine aB (a6A f h1.kind p (by omega) (by omega) λm d j S T i=>?_);dsimp only;split
   .refine aB (P8 ?_);have G:(arrOf d).size=sz:=by rw[j.2.2.2.1.size_eq];exact H
    refine aB (b0s f (j.1.trans h1.kind) (p.perm j.2.2.2.1) (by omega) (by omega) i λv B u=>?_);rw[ao (by simp)];refine a3x (m':=a0i sz lo (min (sz-lo) (minRun' sz sz 0))) (by
     unfold a0i;refine aQ _ (funext λg=>?_);rcases(pendingOf g).back? with _|⟨s1,n1,z⟩
     .rfl
     .dsimp only;refine congr (aQ _ ?_) (funext λc=>?_)
      .unfold W0;refine aQ _ (funext λ_=>funext λ_=>aQ _ (funext λg=>?_));generalize (if (pendingOf g).size > 1 then(pendingOf g)[(pendingOf g).size-2]? else none)=o;rcases o with _|⟨a,b,o⟩<;>rfl
      .rcases c with⟨_|q,c⟩<;>rfl) (cC (add _ v (j.trans B) (by omega) (by omega) u) λr e l=>by cases r<;>exact l)
   .refine a3x (m':=a0i sz lo m) (by
     unfold a0i;refine aQ _ (funext λg=>?_);rcases(pendingOf g).back? with _|⟨s1,n1,z⟩
     .rfl
     .dsimp only;refine congr (aQ _ ?_) (funext λc=>?_)
      .unfold W0;refine aQ _ (funext λ_=>funext λ_=>aQ _ (funext λg=>?_));generalize (if (pendingOf g).size > 1 then(pendingOf g)[(pendingOf g).size-2]? else none)=o;rcases o with _|⟨a,b,o⟩<;>rfl
      .rcases c with⟨_|q,c⟩<;>rfl) (cC (add _ d j (by omega) (by omega) i) λr e l=>by cases r<;>exact l)
 case post =>
  rintro c st' ⟨k,runs,h1,h2⟩;obtain⟨M,lo⟩:=c;dsimp only at k;subst k;dsimp only;refine aB (a5q (sz:=sz) f y h1 h2 λd V k1 k2=>?_);dsimp only;refine aJ (q d k1.perm k1.failed ?_);rw[k1.eq,cY]
  match V,k2,k1.sorted with
  |[],_,_=>exact .nil
  |[r],_,hs=>simpa using hs r (by simp)
  |_::_::_,k2,_=>simp at k2
end
noncomputable def E7(h:Heap)(v:Value):List Int:=match v with
 |.ref b=>match h.get? b with
  |some o=>match o.data with
   |.seq xs _=>xs.toList.map numOf
   |_=>[]
  |none=>[]
 |_=>[]
theorem C7{h:Heap}{b:Addr}{its:Array Value}{r:List Int}(t:IsTup h b its)(i:IntsAre its.toList r):E7 h (.ref b)=r:=by
 obtain⟨o,h1,h2,n,a⟩:=t;unfold E7;simp only[h1,a];exact i.nums
theorem L9{α β:Type}{f:α->β}{os i:List β}(h:os.Perm i):∀{T:List α},i=T.map f->∃c:List α,c.Perm T/\c.map f=os:=by
 induction h with
 |nil=>intro T e;cases T with|nil=>exact⟨[],.nil,rfl⟩|cons _ _=>cases e
 |cons x _ m =>
  intro T e;cases T with
  |nil=>cases e
  |cons t T =>
   injection e with e1 e2
   obtain⟨c,h1,h2⟩:=m e2;exact⟨t::c,h1.cons t,by rw[aU,h2,e1]⟩
 |swap x y l =>
  intro T e
  match T,e with
  |a::b::T,e =>
   injection e with e1 e2
   injection e2 with e2 e3
   exact⟨b::a::T,.swap a b T,by rw[aU,aU,e1,e2,e3]⟩
 |trans _ _ d g =>
  intro T e;obtain⟨c,h1,h2⟩:=g e;obtain⟨T2,j,k⟩:=d h2.symm;exact⟨T2,j.trans h1,k⟩
section
variable {prog:Program}{w:World}{A:Around}{E:Value->Shared->Prop}{s:Shared}
noncomputable def kfH(h:Heap):Keyed->OL.α:=λx=>(E7 h x.1:List Int)
def DH(h:Heap)(x:Keyed):Prop:=∃b its r,x.1=Value.ref b/\IsTup h b its/\IntsAre its.toList r
theorem b8h:Cmp prog w A s (tuples' true) (DH s.heap) (ltK (kfH s.heap)):=by
 rintro⟨x,B⟩ ⟨y,D⟩ C ⟨b,its,r,h,j,d⟩ ⟨b',a,u,i,k,e⟩ c;dsimp only at h i;subst h i;have c:C (HT.lexLt (E7 s.heap (.ref b)) (E7 s.heap (.ref b'))) s:=c;rw[C7 j d,C7 k e]at c;obtain⟨o,p,z,n,t⟩:=j;obtain⟨o',f,q,v,g⟩:=k;refine kat_lt p t f g (a1u 0 d e ?_);have l:its.size=r.length:=by rw[<-ax];exact d.length
 have m:a.size=u.length:=by rw[<-ax];exact e.length
 rw[l,m,a6c];exact c
theorem a0a{a:Addr}{vs:List Value}{rss:LLI}{n:Nat}{P:Fin->Shared->Prop}(m:s.heap.get? a=some (seqObj "list" vs.toArray n))(T:TupsAre s.heap vs rss)(hw:∀r∈rss,0<r.length)(hz:vs.length<=sizeLine)
  (h:∀os:List Value,os.Perm vs->os.Pairwise (λx y=>HT.lexLt (E7 s.heap y) (E7 s.heap x)=false)->P (.done (.ret .none)) {s with heap:=sortedHeap s.heap a vs os.toArray}) :
  wpAny (model prog w) A (Builtin.«list.sort» ⟨[.ref a],[]⟩) P E s:=by
 rw[list_sort_plain];have O:a<s.heap.objs.size:=aI m;refine aa (listItems_at m rfl ?_);refine aa (listUpdate_at m rfl ?_ (by rw[aA];omega) (bo _));obtain⟨H,p⟩:∃H,(s.heap.update a (Obj.mapSeq λ_=>#[])).get? a=some (seqObj "list" #[] H):=⟨_,get?_update_seq m (λ_=>#[])⟩;refine aa (seqEpoch_at p rfl ?_);refine aa (wpAny_newTuple ?_ (by show vs.length<=_;omega));refine aa (wpAny_newList ?_ (bo _));refine cc ?_;have d:(((s.heap.update a (Obj.mapSeq λ_=>#[])).push (seqObj "tuple" vs.toArray 0)).push (seqObj "list" #[] 0)).get? a=some (seqObj "list" #[] H):=by
  rw[Heap.get?_push_ne _ _ _ (by rw[size_push',Heap.size_update];exact aM (bY O)),Heap.get?_push_ne _ _ _ (by rw[Heap.size_update];exact aM O)];exact p
 have g:∀b its,IsTup s.heap b its->IsTup (((s.heap.update a (Obj.mapSeq λ_=>#[])).push (seqObj "tuple" vs.toArray 0)).push (seqObj "list" #[] 0)) b its:=λb its ⟨o,B,l,N⟩=>by
  have U:b≠a:=λz=>by
   rw[z,m]at B;cases B;have l:Value.type "list"=Value.type "tuple":=l;injection l with l
   exact absurd l (by decide)
  refine⟨o,?_,l,N⟩;exact ae _ (ae _ (by rw[Heap.get?_update_ne _ _ _ _ U];exact B))
 have G:=T.keeps g;show wpAny (model prog w) A _ P E {s with heap:=((s.heap.update a (Obj.mapSeq λ_=>#[])).push (seqObj "tuple" vs.toArray 0)).push (seqObj "list" #[] 0)};have c:∀v∈vs,E7 (((s.heap.update a (Obj.mapSeq λ_=>#[])).push (seqObj "tuple" vs.toArray 0)).push (seqObj "list" #[] 0)) v=E7 s.heap v:=λv X=>by
  obtain⟨i,hi⟩:=cm.mp X;obtain⟨r,b,its,_,I,C,F⟩:=T.2 i v hi;rw[I,C7 C F,C7 (g b its C) F]
 generalize K:((s.heap.update a (Obj.mapSeq λ_=>#[])).push (seqObj "tuple" vs.toArray 0)).push (seqObj "list" #[] 0)=k at d G c;dsimp only;have fin:∀os:List Value,os.Perm vs->os.Pairwise (λx y=>HT.lexLt (E7 s.heap y) (E7 s.heap x)=false)->P (.done (.ret .none)) {s with heap:=k.update a (Obj.mapSeq λ_=>os.toArray)}:=λos h1 h2=>by
  have:=h os h1 h2;unfold sortedHeap at this;rw[K]at this;exact this
 by_cases h2:vs.toArray.size<2
 .have h2':vs.length<2:=by simpa using h2
  rw[ay h2,ay h2];refine aa (ag ?_);rw[StateT.run_pure];refine aa (ag ?_);dsimp only;refine aa (seqEpoch_at d rfl ?_);refine aa (listUpdate_at d rfl ?_ (bo _) (by rw[Array.size_map];show(pairsOf vs).size<=_;rw[pairsOf_size];omega));simp only[bne_self_eq_false,Bool.false_eq_true,if_false];have e:((vs.toArray.zip vs.toArray).map (·.2))=vs.toArray:=by
   apply Array.toList_inj.mp;simp[List.map_snd_zip]
  show wpAny _ _ _ _ _ {s with heap:=k.update a (Obj.mapSeq λ_=>(vs.toArray.zip vs.toArray).map (·.2))};rw[e];refine ag (fin vs (.refl _) ?_);rw[eV];intro i j hi Z V;omega
 .have h2':2<=vs.length:=by
   have:¬vs.length<2:=by simpa using h2
   omega
  rw[ao h2,ao h2];refine aa (a8U G hw (by omega) ?_);have J:AllD (DH k) (vs.toArray.zip vs.toArray):=λx u=>by
   have L:x∈vs.zip vs:=by simpa using u
   obtain⟨_,W⟩:=mem_zip_self L;obtain⟨i,hi⟩:=cm.mp W;obtain⟨r,b,its,_,I,C,F⟩:=G.2 i _ hi;exact⟨b,its,r,I,C,F⟩
  refine aa (dn (a5m (s:={s with heap:=k}) (st:=SortSt.mk' (tuples' true) (vs.toArray.zip vs.toArray) #[] 7 none) (kf:=kfH k) (D:=DH k) (b8h (s:={s with heap:=k})) rfl J rfl rfl
   (Q:=λ_ st'=>(arrOf st').Perm (vs.toArray.zip vs.toArray)/\failedOf st'=none/\(arrOf st').toList.Pairwise (leK (kfH k))) λst' B l N=>⟨B,l,N⟩) ?_ λ_ _ e=>e)
  rintro⟨⟨⟩,st'⟩ s' ⟨rfl,S,R,hs⟩;dsimp only at S R hs⊢;have t:(arrOf st').toList.Perm (vs.zip vs):=by
   have:=dI.mp S;simpa using this
  have q:((arrOf st').toList.map (·.2)).Perm vs:=by
   have:=t.map Prod.snd;rwa[List.map_snd_zip (aj _)]at this
  have f:∀x∈(arrOf st').toList,x.1=x.2/\x.1∈vs:=λx u=>mem_zip_self (t.mem_iff.mp u);have e:(arrOf st').map (·.2)=((arrOf st').toList.map (·.2)).toArray:=by
   apply Array.toList_inj.mp;simp
  refine aa (seqEpoch_at d rfl ?_);rw[e];refine aa (listUpdate_at d rfl ?_ (bo _) (by rw[aA,q.length_eq];omega));rw[R];simp only[bne_self_eq_false,Bool.false_eq_true,if_false];refine ag (fin _ q ?_);rw[cn];refine hs.imp_of_mem λ{x y} u Y M=>?_;have h1:=f x u;have h2:=f y Y;rw[<-h1.1,<-h2.1,<-c _ h1.2,<-c _ h2.2];exact M
theorem a1K{x:Value}{vs:List Value}{rss:LLI}{Q:Value->Shared->Prop}(g:∀(q:Around) (t:Value->Shared->Prop) (l:List Value->Shared->Prop),(∀h1:Heap,(∀b o,s.heap.get? b=some o->h1.get? b=some o)->l vs {s with heap:=h1})->wpAny (model prog w) q (collect x) l t s)
  (T:TupsAre s.heap vs rss) (hw:∀r∈rss,0<r.length) (F:vs.length<=sizeLine)
  (h:∀(h1 h':Heap) (os:List Value) (c:Nat),(∀b o,s.heap.get? b=some o->h1.get? b=some o)->(∀b o,h1.get? b=some o->h'.get? b=some o)->h'.get? h1.objs.size=some (seqObj "list" os.toArray c)->os.Perm vs->os.Pairwise (λx y=>HT.lexLt (E7 s.heap y) (E7 s.heap x)=false)->Q (.ref h1.objs.size) {s with heap:=h'}) :
  wpAny (model prog w) A (call (.builtin "sorted") [x]) Q E s:=by
 refine eW kind_sorted plain_sorted entry_sorted (args_sorted1 _) ?_;unfold Builtin.«sorted»;refine aa (m:=checkCount "sorted" 1 1 _) (ag ?_);refine aa (g _ _ _ λh1 k1=>?_);refine aa (wpAny_newList ?_ (by omega));have f:(h1.push (seqObj "list" vs.toArray 0)).get? h1.objs.size=some (seqObj "list" vs.toArray 0):=aG _ rfl;have a:∀b its,IsTup s.heap b its->IsTup (h1.push (seqObj "list" vs.toArray 0)) b its:=λb its ⟨o,G,H⟩=>⟨o,ae _ (k1 _ _ G),H⟩;have T2:=T.keeps a;have d:∀v∈vs,E7 (h1.push (seqObj "list" vs.toArray 0)) v=E7 s.heap v:=λv B=>by
  obtain⟨i,hi⟩:=cm.mp B;obtain⟨r,b,its,_,u,n,p⟩:=T.2 i v hi;rw[u,C7 n p,C7 (a b its n) p]
 show wpAny _ _ _ _ _ {s with heap:=h1.push (seqObj "list" vs.toArray 0)};refine aa (cc (bI slot_list_sort ⟨_,f,rfl⟩ entry_list_sort (a0a (s:={s with heap:=h1.push (seqObj "list" vs.toArray 0)}) f T2 hw F λos j hs=>⟨_,rfl,?_⟩) (args_list_sort _)));obtain⟨c,z⟩:=Z8 (out:=os.toArray) f;refine ag ⟨_,rfl,h h1 _ os c k1 (λb o e=>?_) z j (hs.imp_of_mem λ{x y} C D k=>?_)⟩
 .exact U5 b o (aM (aI e)) (ae _ e)
 .rw[<-d _ (j.mem_iff.mp C),<-d _ (j.mem_iff.mp D)];exact k
end
def b1f(K:PySem.W.Frag):RL:=λxs H Q=>∃(p:Addr) (ys:List V) (rss:LLI),xs=[.ref p]/\(SqL K H p ys∨SqT K H p ys)/\Its H ys rss/\(∀r∈rss,0<r.length) /\
 ∀l zs tss,H l=none->Its H zs tss->tss.Perm rss->C9 tss->zs.Perm ys->Q (.ref l) (upd H l (.lst zs))
theorem W8:∀{ys:List V}{us:List Value}{rss:LLI},Vals ys us->ys.length=rss.length->∃T:List (Value×V×List Int),T.map (·.1)=us/\T.map (·.2.1)=ys/\T.map (·.2.2)=rss/\∀(i:Nat) t,T[i]?=some t->RelV t.2.1 t.1/\ys[i]?=some t.2.1/\rss[i]?=some t.2.2
 |[],us,rss,r,e=>by
  cases r;cases rss with
  |nil=>exact⟨[],rfl,rfl,rfl,λi t h=>by simp at h⟩
  |cons _ _=>cases e
 |y::ys,us,rss,r,e=>by
  cases r with
  |cons h hs =>
   cases rss with
   |nil=>cases e
   |cons r rss =>
    obtain⟨T,b,c,d,f⟩:=W8 hs (by simpa using e);refine⟨(_,y,r)::T,by rw[aU,b],by rw[aU,c],by rw[aU,d],λi t a=>?_⟩;cases i with
    |zero=>cases a;exact⟨h,rfl,rfl⟩
    |succ i=>exact f i t a
theorem N2:∀{T:List (Value×V×List Int)},(∀t∈T,RelV t.2.1 t.1)->Vals (T.map (·.2.1)) (T.map (·.1))
 |[],_=>.nil
 |t::T,h=>.cons (h t ar) (N2 λu a=>h u (av _ a))
section
variable {X:Cx}
theorem a7A(K:PySem.W.Frag)(hK:X.K=K:=by rfl):D0 X (.builtin "sorted") (b1f K):=by
 subst hK;intro pins s σ H xs us Q I rv h;obtain⟨p,ys,a1,rfl,r,G,hw,q⟩:=h;obtain⟨u,rfl,ru⟩:=rv.one;cases ru;obtain⟨its,O,z,l⟩:∃its:List Value,Vals ys its/\ys.length<=sizeLine/\∀(D:Around) (E:Value->Shared->Prop) (B:List Value->Shared->Prop),(∀h1:Heap,(∀b o,s.heap.get? b=some o->h1.get? b=some o)->B its {s with heap:=h1})->wpAny (model X.prog X.w) D (collect (.ref p)) B E s:=by
  rcases r with r|r
  .obtain⟨its,g,pl,z⟩:=I.list r;obtain⟨o,L,J,n,hd⟩:=pl.isList;have m:=g.length;exact⟨its,g,z,λD E B k=>wpAny_collect_seq p (.inl rfl) L J hd (λh' N=>k h' N) (by simp only[aA];omega)⟩
  .obtain⟨its,g,pl,z⟩:=I.tuple r;obtain⟨o,L,J,n,hd⟩:=pl;have m:=g.length;exact⟨its,g,z,λD E B k=>wpAny_collect_seq p (.inr rfl) L J hd (λh' N=>k h' N) (by simp only[aA];omega)⟩
 have hl:=O.length;have TT:=a2T I G O;obtain⟨T,W,t2,t3,t4⟩:=W8 O G.1;refine a1K l TT hw (by omega) λh1 h' os c k1 k2 e hp hs=>?_;obtain⟨d,p1,p2⟩:=L9 (f:=λt:Value×V×List Int=>t.1) hp W.symm;have P:=I.kept (t':=s.toks) k1;have C:∀t∈d,RelV t.2.1 t.1/\IT H t.2.1 t.2.2/\E7 s.heap t.1=t.2.2:=λt M=>by
  obtain⟨i,hi⟩:=cm.mp (p1.mem_iff.mp M);obtain⟨r1,r2,U⟩:=t4 i t hi;obtain⟨a0,S,q2⟩:=G.2 i _ r2;rw[U]at S;cases S;have Z:its[i]?=some t.1:=by rw[<-W,aP,hi];rfl
  obtain⟨g,b,R,f1,f2,f3,f4⟩:=TT.2 i _ Z;rw[U]at f1;cases f1;exact⟨r1,q2,by rw[f2];exact C7 f3 f4⟩
 have A:(d.map (·.2.1)).Perm ys:=by rw[<-t2];exact p1.map _
 have hv:Vals (d.map (·.2.1)) os:=by rw[<-p2];exact N2 λt M=>(C t M).1
 have Y:=P.laid (h':=h') (a:=h1.objs.size) (o:=.lst (d.map (·.2.1))) (t':=s.toks) k2 (aj _) ⟨by rw[A.length_eq];exact z,os,c,hv,e⟩;refine⟨.ref h1.objs.size,_,Y,rfl,q _ _ (d.map (·.2.2)) (P.hok.fresh (aj _)) ⟨by rw[ai,ai],λi v j=>?_⟩ (by rw[<-t3];exact p1.map _) ?_ A⟩
 .rw[aP]at j⊢;cases F:d[i]? with
  |none=>rw[F]at j;cases j
  |some t =>
   rw[F]at j;cases j;exact⟨t.2.2,rfl,(C t (aF F)).2.1⟩
 .unfold C9;rw[cn];rw[<-p2,cn]at hs;refine hs.imp_of_mem λ{x y} hx hy w=>?_;rw[(C x hx).2.2,(C y hy).2.2]at w;exact w
theorem a6k(K:PySem.W.Frag){e:Expr}{t:TA}{p pos:Pos}(f:Gl X "sorted")(g:X.mg "sorted"=none)(c:JA X [e] t)(b:X.K=K:=by rfl)(d:starEach [e] X.env=(false,eval e X.env)::starEach [] X.env:=by rfl)(a:(backTo pos (starEach [] X.env)).any (·.1)=false:=by rfl):JE X (.Call (.Name "sorted" p) [e] [] pos) (tCB (b1f K) t):=⟨E8 (a7A K b) f g a1g c.h (by decide) (by decide) d a⟩
end
def DRaw(h:Heap)(d:Addr)(es:Array DictEntry)(ep:Nat):Prop:=∃ob:Obj,h.get? d=some ob/\ob.ExactDict/\ob.data=.dict es ep
theorem DRaw.typ{s:Shared}{d:Addr}{es:Array DictEntry}{ep:Nat}(x:DRaw s.heap d es ep):s.TypeIs (.ref d) "dict":=by
 obtain⟨c,a,b,_⟩:=x;exact⟨c,a,b.1⟩
theorem DRaw.lt{h:Heap}{d:Addr}{es:Array DictEntry}{ep:Nat}(x:DRaw h d es ep):d<h.objs.size:=by
 obtain⟨b,a,_⟩:=x;exact aI a
theorem DRaw.to{h h':Heap}{d:Addr}{es:Array DictEntry}{ep:Nat}(x:DRaw h d es ep)(k:∀a,h.get? d=some a->h'.get? d=some a):DRaw h' d es ep:=by
 obtain⟨a,b,q⟩:=x;exact⟨a,k _ b,q⟩
section
variable {prog:Program}{w:World}{A:Around}{E:Value->Shared->Prop}{s:Shared}{it d:Addr}{i ep:Nat}{es:Array DictEntry}
theorem a5K{Q:Value->Shared->Prop}(hs:(d==sysModules)=false)(D:DRaw s.heap d es ep)
  (q:Q (.ref s.heap.objs.size) {s with heap:=s.heap.push {cls:=.type "dict_keyiterator",data:=.fields #[.ref d,.int 0 0,.int es.size 0,.int ep 0]}}):wpAny (model prog w) A (pyIter (.ref d)) Q E s:=by
 have ty:=D.typ;obtain⟨c,a,_,b⟩:=D;refine wpAny_pyIter_slot ty PySem.F.slot_dict_iter (bI PySem.F.slot_dict_iter ty PySem.F.entry_dict_iter ?body (PySem.F.args_dict_iter_1 _))
 case body =>
  unfold Builtin.«dict.__iter__» Builtin.Dict.dictSlotNone;refine aa (aa (wpAny_notOrdered_dict ty (ag ?_)));show wpAny _ _ (Builtin.Dict.showsAll d>>=λ_=>_) _ _ _;unfold Builtin.Dict.showsAll;rw[ao (λz=>by rw[hs]at z;cases z)];refine aa (ag (aa (fD a b (aa (wpAny_dictEpoch a b ?_)))));refine aa (bX (ag ⟨_,rfl,"dict_keyiterator",_,⟨_,aG _ rfl,rfl⟩,PySem.F.slot_dict_keyiterator_next.lookup,?_⟩));exact q
theorem a5L{Q:Option Value->Shared->Prop}(I:s.heap.IsKeyIter it d i es.size ep)(D:DRaw s.heap d es ep)(hi:i<es.size)
  (q:∀h',h'.IsKeyIter it d (i+1) es.size ep->Heap.SameBut it s.heap h'->Q (some es[i].key) {s with heap:=h'}):wpAny (model prog w) A (pyNext (.ref it)) Q E s:=by
 obtain⟨h,f1,f2,a⟩:=id I;obtain⟨od,e,g,f⟩:=D;unfold pyNext;refine aa (dV (bK (name:=Str.ofString "__next__") I.typeIs PySem.F.slot_dict_keyiterator_next (bI PySem.F.slot_dict_keyiterator_next I.typeIs PySem.F.entry_dict_keyiterator_next ?body (PySem.F.args_dict_keyiterator_next_1 _))))
 case body =>
  refine aa (ag (aa (aa ?_)))
  first|refine aa (dj I.typeIs (ag ?_))|refine aa (dS I.typeIs (ag ?_))
  refine aa (wpAny_fieldsOf f1 a ?_);rw[show Builtin.Dict_items.ownsTuple "dict_keyiterator"=false by decide,ao a_];show wpAny _ _ (if (Value.ref d==Value.none)=true then _ else _) _ _ _;have b:¬((Value.ref d==Value.none)=true):=a_;rw[ao b];refine aa (ag (aa (fD e f ?_)));rw[ao (by simp)];refine aa (ag (aa (wpAny_dictEpoch e f ?_)));rw[ao (by simp)];refine ag ?_;dsimp only;rw[show(if (i:Int)<0 then(none:Option DictEntry)else es[(i:Int).toNat]?)=some es[i] by rw[ao (by omega),bw,bL hi]];dsimp only;refine aa ?_
  first|refine aa (dj I.typeIs (ag ?_))|refine aa (dS I.typeIs (ag ?_))
  refine aa (wpAny_isOneOf_keyiter I.typeIs ?_);show wpAny _ _ (setField (.ref it) 1 (rawInt ((i:Int)+1))>>=λ_=>_) _ _ _;have c:(s.heap.update it (Obj.mapFields λz=>z.setIfInBounds 1 (rawInt ((i:Int)+1)))).IsKeyIter it d (i+1) es.size ep :=
   ⟨_,cL _ f1 (eC (cN a _)),(fz ..).trans f2,by rw[cN a];simp[rawInt]⟩
  refine aa (dP f1 a (by simp) (aa (cc ?_)));refine aa (wpAny_isOneOf_keyiter (s:={s with heap:=s.heap.update it (Obj.mapFields λz=>z.setIfInBounds 1 (rawInt ((i:Int)+1)))}) c.typeIs ?_);exact ag (ag ⟨_,rfl,ag (q _ c (cA ..))⟩)
theorem a8h{Q:Option Value->Shared->Prop}(h:A.handled=none)(I:s.heap.IsKeyIter it d i es.size ep)(D:DRaw s.heap d es ep)(hi:es.size<=i)
  (q:∀h',Heap.ExtBut it s.heap h'->Q none {s with heap:=h'}):wpAny (model prog w) A (pyNext (.ref it)) Q E s:=by
 obtain⟨k,f1,f2,g⟩:=id I;obtain⟨od,e,j,f⟩:=D;unfold pyNext;refine aa (dV (bK (name:=Str.ofString "__next__") I.typeIs PySem.F.slot_dict_keyiterator_next (bI PySem.F.slot_dict_keyiterator_next I.typeIs PySem.F.entry_dict_keyiterator_next ?body (PySem.F.args_dict_keyiterator_next_1 _))))
 case body =>
  refine aa (ag (aa (aa ?_)))
  first|refine aa (dj I.typeIs (ag ?_))|refine aa (dS I.typeIs (ag ?_))
  refine aa (wpAny_fieldsOf f1 g ?_);rw[show Builtin.Dict_items.ownsTuple "dict_keyiterator"=false by decide,ao a_];show wpAny _ _ (if (Value.ref d==Value.none)=true then _ else _) _ _ _;have c:¬((Value.ref d==Value.none)=true):=a_;rw[ao c];refine aa (ag (aa (fD e f ?_)));rw[ao (by simp)];refine aa (ag (aa (wpAny_dictEpoch e f ?_)));rw[ao (by simp)];refine ag ?_;dsimp only;rw[show(if (i:Int)<0 then(none:Option DictEntry)else es[(i:Int).toNat]?)=none by rw[ao (by omega),bw,dq hi]];dsimp only;refine aa ?_
  first|refine aa (dj I.typeIs (ag ?_))|refine aa (dS I.typeIs (ag ?_))
  show wpAny _ _ (setField (.ref it) 0 .none>>=λ_=>_) _ _ _;refine aa (dP f1 g (by simp) ?_);show wpAny _ _ (newExc (.type "StopIteration") []>>=λ_=>_) _ _ _;refine aa ?_;simp only[newExc,newTuple];refine aa (bX ?_ (by size_fits));refine aa (m:=firstArgMember _ _) (wpAny_of_eq (a:=Value.none) (by first|rfl | (simp only[firstArgMember];rfl)) ?_);refine bX ?_ (by size_fits);simp only[raiseNew];refine aa (wpAny_handled ?_);rw[show A.in1.handled=none from h];refine aa (ag (wpAny_throw ?_));refine aa (fM (T:="StopIteration") (b:=true) ⟨_,aG _ rfl,rfl⟩ isSubtype_stop ?_);exact ag (q _ (((cA ..).extBut.push _).push _))
theorem a9k(m:A.handled=none)(J d:Addr)(f:d≠J)(es:Array DictEntry)(ep:Nat) :
  Walks prog w A J [J,d] [J] es.size (λi v=>∃e,es[i]?=some e/\v=e.key) (λi h=>h.IsKeyIter J d i es.size ep/\DRaw h d es ep) where
 sub:=λb c=>by rw[aD.mp c];exact ar
 frame:=λi h h' st g=>⟨st.1.at λo e=>g J ar o e,st.2.to λo e=>g d (av _ ar) o e⟩
 item:=λi s Q E hi st a=>a5L st.1 st.2 hi λh' k j=>a _ h' s.toks ⟨es[i],by simp[hi],rfl⟩ ⟨k,st.2.to λo e=>j.extBut d o f e⟩ λb o c e=>j.extBut b o (λz=>c (by rw[z];exact ar)) e
 done:=λs Q E st a=>a8h m st.1 st.2 (aj _) λh' l=>a h' s.toks λb o c e=>l b o (λz=>c (by rw[z];exact ar)) e
 self:=λ_ _ _ _ st a=>wpAny_pyIter_keyiter st.1 a
theorem b3t(hs:(d==sysModules)=false)(es:Array DictEntry)(ep:Nat):KdlSrc prog w "dict" d d es.size (λi v=>∃e,es[i]?=some e/\v=e.key) (λh=>DRaw h d es ep) where
 type:=λ_ D=>D.typ
 there:=λ_ D=>⟨D.lt,D.lt⟩
 keep:=λ_ _ D b=>D.to λo e=>b d (.inl rfl) o e
 notList:=by decide
 notTuple:=by decide
 hint:=λ_ _ _ _ D q=>kdl_hint_dict D.typ q
 iter:=λ_ _ a D=>⟨_,_,λ_ _ q=>a5K hs D q,a9k a _ d (aM D.lt) es ep,⟨⟨_,aG _ rfl,rfl,rfl⟩,D.to λo e=>ae _ e⟩⟩
end
section
variable {prog:Program}{w:World}{A:Around}{E:Value->Shared->Prop}{s:Shared}
theorem U9{x:Value}{vs:List Value}{rss:LLI}{Q:Value->Shared->Prop}(g:∀(q:Value->Shared->Prop) (l:List Value->Shared->Prop),(∀(h1:Heap) (tk:Nat),(∀b o,s.heap.get? b=some o->h1.get? b=some o)->l vs {s with heap:=h1,toks:=tk})->wpAny (model prog w) A.in1 (collect x) l q s)
  (T:TupsAre s.heap vs rss) (hw:∀r∈rss,0<r.length) (D:vs.length<=sizeLine)
  (h:∀(h1 h':Heap) (os:List Value) (c tk:Nat),(∀b o,s.heap.get? b=some o->h1.get? b=some o)->(∀b o,h1.get? b=some o->h'.get? b=some o)->h'.get? h1.objs.size=some (seqObj "list" os.toArray c)->os.Perm vs->os.Pairwise (λx y=>HT.lexLt (E7 s.heap y) (E7 s.heap x)=false)->Q (.ref h1.objs.size) {s with heap:=h',toks:=tk}) :
  wpAny (model prog w) A (call (.builtin "sorted") [x]) Q E s:=by
 refine eW kind_sorted plain_sorted entry_sorted (args_sorted1 _) ?_;unfold Builtin.«sorted»;refine aa (m:=checkCount "sorted" 1 1 _) (ag ?_);refine aa (g _ _ λh1 tk k1=>?_);refine aa (wpAny_newList ?_ (by omega));have f:(h1.push (seqObj "list" vs.toArray 0)).get? h1.objs.size=some (seqObj "list" vs.toArray 0):=aG _ rfl;have a:∀b its,IsTup s.heap b its->IsTup (h1.push (seqObj "list" vs.toArray 0)) b its:=λb its ⟨o,F,G⟩=>⟨o,ae _ (k1 _ _ F),G⟩;have T2:=T.keeps a;have d:∀v∈vs,E7 (h1.push (seqObj "list" vs.toArray 0)) v=E7 s.heap v:=λv z=>by
  obtain⟨i,hi⟩:=cm.mp z;obtain⟨r,b,its,_,t,n,p⟩:=T.2 i v hi;rw[t,C7 n p,C7 (a b its n) p]
 show wpAny _ _ _ _ _ {s with heap:=h1.push (seqObj "list" vs.toArray 0),toks:=tk};refine aa (cc (bI slot_list_sort ⟨_,f,rfl⟩ entry_list_sort (a0a (s:={s with heap:=h1.push (seqObj "list" vs.toArray 0),toks:=tk}) f T2 hw D λos j hs=>⟨_,rfl,?_⟩) (args_list_sort _)));obtain⟨c,u⟩:=Z8 (out:=os.toArray) f;refine ag ⟨_,rfl,h h1 _ os c tk k1 (λb o e=>?_) u j (hs.imp_of_mem λ{x y} B C k=>?_)⟩
 .exact U5 b o (aM (aI e)) (ae _ e)
 .rw[<-d _ (j.mem_iff.mp B),<-d _ (j.mem_iff.mp C)];exact k
end
noncomputable def IK(rss:LLI):List (List Key):=rss.map λr=>r.map Sum.inl
def a6X:RL:=λxs H Q=>∃(d:Addr) (kvs:List (List Key×V)) (rss:LLI),xs=[.ref d]/\H d=some (.dT kvs)/\kvs.map (·.1)=IK rss/\(∀r∈rss,0<r.length) /\
 ∀l zs tss,H l=none->Its H zs tss->tss.Perm rss->C9 tss->Q (.ref l) (upd H l (.lst zs))
theorem b4m{H:Hp}:∀{kvs:List (List Key×V)}{xs:List (List Key×Addr×Value)}{rss:LLI},KT H kvs xs->kvs.map (·.1)=IK rss->Its H (xs.map λx=>V.ref x.2.1) rss/\xs.length=rss.length:=by
 intro kvs xs rss r e;induction r generalizing rss with
 |nil =>
  cases rss with
  |nil=>exact⟨⟨rfl,λi v z=>by simp at z⟩,rfl⟩
  |cons _ _=>cases e
 |@cons p q ps qs h _ d =>
  cases rss with
  |nil=>cases e
  |cons r rss =>
   injection e with a e2
   obtain⟨h1,h2⟩:=d e2;refine⟨⟨by rw[ai,aT,aT,h2],λi v c=>?_⟩,by rw[aT,aT,h2]⟩;cases i with
   |zero =>
    cases c;refine⟨r,rfl,q.2.1,rfl,?_⟩;have b:=h.2.1;have a:p.1=r.map Sum.inl:=a;rw[a,dy]at b;exact b
   |succ i=>exact h1.2 i v c
theorem a0O{α:Type}(f:α->Addr):∀xs:List α,Vals (xs.map λx=>V.ref (f x)) (xs.map λx=>Value.ref (f x))
 |[]=>.nil
 |x::xs=>.cons rfl (a0O f xs)
section
variable {X:Cx}
theorem a7z(hc:X.calm=true):D0 X (.builtin "sorted") a6X:=by
 intro pins s σ H xs us Q I rv h;obtain⟨d,kvs,a2,rfl,hd,hk,hw,q⟩:=h;obtain⟨u,rfl,ru⟩:=rv.one;cases ru;obtain⟨hz,A,j,W,ob,es,ep,e1,p,e3,O,P⟩:=I.hok _ _ hd;obtain⟨F,S⟩:=b4m W hk;have a0:kvs.length=j.length:=Paired.length W;have w:es.size=j.length:=by rw[<-ax,O,ai]
 have D:DRaw s.heap d es ep:=⟨ob,e1,p,e3⟩;have L:Vals (j.map λx=>V.ref x.2.1) (j.map λx=>Value.ref x.2.1):=a0O (λx:List Key×Addr×Value=>x.2.1) j;have z:∀(M:Value->Shared->Prop) (E:List Value->Shared->Prop),(∀(h1:Heap) (tk:Nat),(∀b o,s.heap.get? b=some o->h1.get? b=some o)->E (j.map λx=>Value.ref x.2.1) {s with heap:=h1,toks:=tk})->wpAny (model X.prog X.w) X.A.in1 (collect (.ref d)) E M s:=λM E k=>by
  refine kdu_collect (b3t A es ep) (show X.A.in1.handled=none from I.ok.hd hc) D (by omega) λh' tk l kp m=>?_;have:l.toList=j.map λx=>Value.ref x.2.1:=by
   refine fC λi=>?_;rw[au,aP];by_cases hi:i<j.length
   .have hia:i<l.size:=by rw[m.1,w];exact hi
    obtain⟨e,he,J⟩:=m.2 i l[i] (by simp[hia]);have g:es.toList[i]?=some e:=by rw[au];exact he
    rw[O,aP,ak hi]at g;injection g with g
    rw[bL hia,ak hi,J,<-g];rfl
   .rw[dq (by rw[m.1,w];omega),cM (by omega)];rfl
  rw[this];exact k h' tk kp
 have hl:=L.length;have TT:=a2T I F L;obtain⟨T,t1,t2,t3,t4⟩:=W8 L F.1;refine U9 z TT hw (by rw[ai];omega) λh1 h' os c tk k1 k2 e hp hs=>?_;obtain⟨n,p1,p2⟩:=L9 (f:=λt:Value×V×List Int=>t.1) hp t1.symm;have N:=I.kept (t':=tk) k1;have C:∀t∈n,RelV t.2.1 t.1/\IT H t.2.1 t.2.2/\E7 s.heap t.1=t.2.2:=λt G=>by
  obtain⟨i,hi⟩:=cm.mp (p1.mem_iff.mp G);obtain⟨r1,r2,Z⟩:=t4 i t hi;obtain⟨a1,Y,q2⟩:=F.2 i _ r2;rw[Z]at Y;cases Y;have P:(j.map λx=>Value.ref x.2.1)[i]?=some t.1:=by rw[<-t1,aP,hi];rfl
  obtain⟨r',b,U,f1,f2,f3,f4⟩:=TT.2 i _ P;rw[Z]at f1;cases f1;exact⟨r1,q2,by rw[f2];exact C7 f3 f4⟩
 have K:(n.map (·.2.1)).length<=sizeLine:=by
  have R:=(p1.map (λt:Value×V×List Int=>t.2.1)).length_eq;rw[t2]at R;simp only[ai]at R⊢;omega
 have J:Vals (n.map (·.2.1)) os:=by rw[<-p2];exact N2 λt G=>(C t G).1
 have I2:=N.laid (h':=h') (a:=h1.objs.size) (o:=.lst (n.map (·.2.1))) (t':=tk) k2 (aj _) ⟨K,os,c,J,e⟩;refine⟨.ref h1.objs.size,_,I2,rfl,q _ _ (n.map (·.2.2)) (N.hok.fresh (aj _)) ⟨by rw[ai,ai],λi v r=>?_⟩ (by rw[<-t3];exact p1.map _) ?_⟩
 .rw[aP]at r⊢;cases p:n[i]? with
  |none=>rw[p]at r;cases r
  |some t =>
   rw[p]at r;cases r;exact⟨t.2.2,rfl,(C t (aF p)).2.1⟩
 .unfold C9;rw[cn];rw[<-p2,cn]at hs;refine hs.imp_of_mem λ{x y} hx hy B=>?_;rw[(C x hx).2.2,(C y hy).2.2]at B;exact B
end
end L2
namespace L2
open PySem PySem.Spec PyProof.Rows
variable {X:Cx}
end L2
namespace L2
open PySem PySem.Spec PyProof.Rows PySem.W
section
variable {prog:Program}{w:World}{A:Around}{E:Value->Shared->Prop}{s:Shared}{d:Addr}{ep:Nat}{es:Array DictEntry}
theorem b3u{Q:Value->Shared->Prop}(hs:(d==sysModules)=false)(D:DRaw s.heap d es ep)(c:(es.size:Int)<2 ^ 63)
  (q:Q (.int es.size (s.toks+1)) {s with toks:=s.toks+1+1}):wpAny (model prog w) A (call (.builtin "len") [.ref d]) Q E s:=by
 refine eW kind_len plain_len entry_len (args_len1 _) ?_;have ty:=D.typ;obtain⟨e,a,_,b⟩:=D;unfold Builtin.«len»;refine aa (m:=oneArg "len" _) (ag ?_);refine aa (m:=callSpecial? (.ref d) (Str.ofString "__len__")) (bK (name:=Str.ofString "__len__") ty PySem.F.slot_dict_len (bI PySem.F.slot_dict_len ty PySem.F.entry_dict_len ?body (PySem.F.args_dict_len_1 _)))
 case body =>
  show wpAny _ _ (dictSize d>>=λn=>_) _ _ _;unfold dictSize;refine aa (aa (fD a b (ag ?_)));show wpAny _ _ (Builtin.Dict.pendingCount d>>=λn=>_) _ _ _;refine aa (wpAny_pendingCount_other hs (wpAny_ret_mkInt ?_));show wpAny _ _ _ _ _ {s with toks:=s.toks+1};rw[show((es.size:Nat):Int)+((0:Nat):Int)=(es.size:Int) by simp];refine aa (cc (ag (aa (wpAny_letGo ?_))));show wpAny _ _ (if ((es.size:Nat):Int)<0 then _ else _) _ _ _;rw[ao (by omega)];show wpAny _ _ (if ((es.size:Nat):Int) ≥ 2 ^ 63 then _ else _) _ _ _;rw[ao (by omega)];exact aa (wpAny_mkInt (ag ⟨_,rfl,q⟩))
end
def b5f:RL:=λxs H Q=>∃(a:Addr) (kvs:List (List Key×V)),xs=[V.ref a]/\H a=some (.dT kvs)/\Q (.int kvs.length) H
section
variable {X:Cx}
theorem b0d:D0 X (.builtin "len") b5f:=by
 intro pins s σ H xs v Q I r h;obtain⟨a,kvs,rfl,l,q⟩:=h;obtain⟨u,rfl,p⟩:=r.one;cases p;obtain⟨m,b,f,n,o,es,ep,g,i,j,k,t⟩:=I.hok _ _ l;have d:kvs.length=f.length:=Paired.length n;have c:es.size=f.length:=by rw[<-ax,k,ai]
 have e:=m;rw[aV]at e;refine b3u b ⟨o,g,i,j⟩ (by omega) ?_;rw[c,<-d];exact⟨.int kvs.length,H,I.tok _,⟨_,rfl⟩,q⟩
variable {a b c e o i value:Expr}{es rest:List Expr}{ta tb tc te to td ty tv:TE}{t:TA}{pos p apos cpos p2 pos' tpos:Pos}
theorem b4q(d:Gl X "len")(f:X.mg "len"=none)(b:JA X [e] t)(c:starEach [e] X.env=(false,eval e X.env)::starEach [] X.env:=by rfl)(a:(backTo pos (starEach [] X.env)).any (·.1)=false:=by rfl):JE X (.Call (.Name "len" p) [e] [] pos) (tCB b5f t):=⟨E8 b0d d f b2L b.h (by decide) (by decide) c a⟩
theorem b2g(f:Gl X "sorted")(g:X.mg "sorted"=none)(b:JA X [e] t)(c:X.calm=true:=by rfl)(d:starEach [e] X.env=(false,eval e X.env)::starEach [] X.env:=by rfl)(a:(backTo pos (starEach [] X.env)).any (·.1)=false:=by rfl):JE X (.Call (.Name "sorted" p) [e] [] pos) (tCB a6X t):=⟨E8 (a7z c) f g a1g b.h (by decide) (by decide) d a⟩
theorem a8x:JE X (.Dict [] [] pos) b0C:=⟨b1B⟩
theorem b6I(c:X.A.units+60<cLine)(hi:JE X i ty)(b:JE X o td)(a:behindInMarks .In o=false):JE X (.Compare i [.In] [o] pos) (b7v ty td):=⟨b6g (b6i (by omega) hi.h b.h) a⟩
theorem a9J(c:X.A.units+60<cLine)(hi:JE X i ty)(b:JE X o td)(a:behindInMarks .NotIn o=false):JT X (.Compare i [.NotIn] [o] pos) (tB (a7S ty td)):=⟨b5O (a9u (by omega) hi.h b.h) a⟩
theorem b4o(c:X.A.units+60<cLine)(a:JE X o td)(hi:JE X i ty)(b:JE X value tv)(hs:swapsWith value (some (.Subscript o i pos')) pos.line X.env=pure false:=by rfl):JS X (.Assign [.Subscript o i pos'] value pos) (b5a td ty tv):=⟨b3C (by omega) a.h hi.h b.h hs⟩
theorem L1(K:PySem.W.Frag){f:Str}(c:JE X e ta)(a:X.K=K:=by rfl)(b:attributeBase e f X.env (eval e X.env)=eval e X.env:=by rfl):JE X (.Attribute e f pos) (b7u K ta f):=by
 subst a;exact⟨b6f c.h b⟩
theorem T0(K:PySem.W.Frag){f:Str}(b:JE X o ta)(c:JE X value tv)(a:X.K=K:=by rfl)(hs:swapsWith value (some (.Attribute o f pos')) pos.line X.env=pure false:=by rfl):JS X (.Assign [.Attribute o f pos'] value pos) (b7w K ta tv f):=by
 subst a;exact⟨b5S b.h c.h hs⟩
end
structure MethOk(P:Program)(w:World)(K:PySem.W.Frag)(mg:Str->Option Value)(base:Heap)(C:Addr)(m:Str)(k:Nat)(ps:List Str)(sp:Sp):Prop where
 ex:∃f fd,Meth K C m f/\Binds K fd ps []/\FnOk P w K mg base CX0 k f fd ps sp
structure MethAt(K:PySem.W.Frag)(C:Addr)(m qual:Str)(st:Stmt)(ps:List Str):Prop where
 ex:∃f fd,Meth K C m f/\Fun K m qual st f fd/\Binds K fd ps []
structure MakeOk(P:Program)(w:World)(K:PySem.W.Frag)(mg:Str->Option Value)(base:Heap)(x:Str)(C:Addr)(k:Nat)(ps:List Str)(sp:Sp):Prop where
 ex:∃f fd,mg x=some (.ref C)/\Mk K C f/\Binds K fd ps []/\FnOk P w K mg base CX0 k f fd ps sp
section
variable {P:Program}{w:World}{K:PySem.W.Frag}{mg:Str->Option Value}{base:Heap}{C:Addr}{m qual:Str}{st:Stmt}{N ps:List Str}{k:Nat}{sp:Sp}
theorem MethAt.fnJ(F:MethAt K C m qual st ps)(S:FnScope N ps (A3 st))(c:∀vs H Q E,sp vs H Q E->vs.length=ps.length)
  (b:∀(a:Value) (f:Addr) (A:Around) (outer:List Env) (s:Shared) (H:Hp) (vs:List V) (Q:VK) (E:XK),Room k (A.deeper (envOfC qual (A3 st) s.heap.objs.size f a))->sp vs H Q E ->
   ∃t,JB (V1 CX0 P w K mg base N qual (A3 st) f a A outer s H E).nox (E2 st) t/\t {nx:=λ_ H'=>Q .non H',rt:=Q} (start N vs) H):MethOk P w K mg base C m (k+1) ps sp:=by
 obtain⟨f,fd,h1,h2,d⟩:=F.ex;exact⟨f,fd,h1,d,h2.okJ S c λa=>b a f⟩
theorem MethOk.make{x:Str}(O:MethOk P w K mg base C "__init__" k ps sp)(d:mg x=some (.ref C))(c:PySem.W.makesIn K C=true)(b:PySem.W.keepIn K (.ref C)=true):MakeOk P w K mg base x C k ps sp:=by
 obtain⟨f,fd,h1,h2,a⟩:=O.ex;exact⟨f,fd,d,⟨c,h1.at_,h1.fn,b⟩,h2,a⟩
end
section
variable {X:Cx}{C:Addr}{m x:Str}{k:Nat}{ps:List Str}{sp:Sp}{o e:Expr}{es:List Expr}{ta:TE}{t:TA}{pos apos p:Pos}
theorem b6M{pl:Sem Bool}(O:MethOk X.prog X.w X.K X.mg X.base C m k ps sp)(c:Cls X.K C)(j:Room k X.A)(i:JE X o ta)(h:JA X (e::es) t)
  (b:starEach (e::es) X.env=(false,eval e X.env)::starEach es X.env:=by rfl) (a:(backTo pos (starEach es X.env)).any (·.1)=false:=by rfl)
  (l:eval (.Call (.Attribute o m apos) (e::es) [] pos) X.env=(eval o X.env>>=λd=>standAt apos.atName>>=λ_=>holding [d] (getMethod d m pl)>>=λp=>match p with | (f,first)=>callWith pos f first (backTo pos (starEach (e::es) X.env)) (backToKw pos (keywordEach [] X.env))):=by rfl) :
  JE X (.Call (.Attribute o m apos) (e::es) [] pos) (a1o C m sp [] E0 ta t):=by
 obtain⟨f,fd,h1,h2,g⟩:=O.ex;exact⟨b3Q (pl:=pl) i.h c h1 g j h2 .nil a8n h.h b a l⟩
theorem a4X{pl:Sem Bool}(O:MethOk X.prog X.w X.K X.mg X.base C m k ps sp)(c:Cls X.K C)(e:Room k X.A)(d:JE X o ta)
  (g:eval (.Call (.Attribute o m apos) [] [] pos) X.env=(eval o X.env>>=λa=>standAt apos.atName>>=λ_=>holding [a] (getMethod a m pl)>>=λp=>match p with | (f,first)=>callWith pos f first (backTo pos (starEach [] X.env)) (backToKw pos (keywordEach [] X.env))):=by rfl) :
  JE X (.Call (.Attribute o m apos) [] [] pos) (a1o C m sp [] E0 ta P5):=by
 obtain⟨f,fd,h1,h2,b⟩:=O.ex;exact⟨b1z (pl:=pl) d.h c h1 b e h2 .nil a8n g⟩
theorem b6N(O:MakeOk X.prog X.w X.K X.mg X.base x C k ps sp)(j:Room (k+1) X.A)(i:Gl X x)(g:JA X (e::es) t)(a:(x==("__debug__" : Str))=false:=by decide)
  (h:starEach (e::es) X.env=(false,eval e X.env)::starEach es X.env:=by rfl) (b:(backTo pos (starEach es X.env)).any (·.1)=false:=by rfl) :
  JE X (.Call (.Name x p) (e::es) [] pos) (b4U C sp [] E0 t):=by
 obtain⟨f,fd,c,h1,h2,d⟩:=O.ex;exact⟨b3R h1 d j i c h2 .nil a8n g.h a h b⟩
end
end L2
namespace L2
open PySem PySem.Spec PyProof.Rows
theorem a2G{K:PySem.W.Frag}{src:List (Option Nat)}{σ caps:St}{Q:VK}{a:Addr}{vs:List V}{rss:LLI}{H:Hp}{l:TT}(t:List Int->Bool)(o:vs.length<=sizeLine)(b:∀H',Same H H'->SqL K H' a vs)(k:Its H vs rss)(d:B1 src σ=none::caps)
  (g:∀v r H1 j,r∈rss->IT H1 v r->Same H H1->(∀H2,Same H1 H2->j (t r) H2)->l (some v::caps) H1 j) (hd:∀H1 p m,Same H H1->H1 p=none->Its H1 m (rss.filter t)->Q (.ref p) (upd H1 p (.lst m))):E6 src (B0 0) l (P0 0) σ Q (Itl K a) H:=by
 refine Z3 (xs:=vs) (by omega) (λi ys H'=>Same H H'/\Its H' ys ((rss.take i).filter t)) ⟨Same.refl H,by simpa using Its.nil⟩ (λi ys H' _ h=>⟨b H' h.1,by rw[h.2.1];exact bb (bB _ _) (bD _ _)⟩) ?_ ?_
 .rintro i x ys H' hx ⟨s,hy⟩;obtain⟨r,n,f,c⟩:=k.mem hx;show Sub _ ((B1 src σ).set 0 (some x))/\_;rw[d];refine⟨Sub.one,g x r H' _ n (c.same s) s λH2 s2=>?_⟩;rw[bf,f];cases e:t r with
  |true=>exact⟨_,rfl,s.trans s2,by simpa[e]using(hy.same s2).snoc ((c.same s).same s2)⟩
  |false=>exact⟨s.trans s2,by simpa[e]using hy.same s2⟩
 .rintro ys H' ⟨s,hy⟩ p hp;rw[k.1,bg]at hy;exact hd H' p ys s hp hy
def Prs(H:Hp)(ps:List V)(f:Nat->List Int)(js:List Nat):Prop:=ps.length=js.length/\∀(i:Nat) (q:V),ps[i]?=some q->∃(j:Nat) (b:Addr) (v:V),js[i]?=some j/\q=.ref b/\H b=some (.tup [.int j,v])/\IT H v (f j)
theorem Prs.same{H H':Hp}{ps:List V}{f:Nat->List Int}{a:List Nat}(h:Prs H ps f a)(s:Same H H'):Prs H' ps f a :=
 ⟨h.1,λi q e=>let ⟨j,b,v,e1,e2,e3,e4⟩:=h.2 i q e;⟨j,b,v,e1,e2,s _ _ e3,e4.same s⟩⟩
theorem Prs.nil{H:Hp}{f:Nat->List Int}:Prs H [] f []:=⟨rfl,λi q e=>by simp at e⟩
theorem Prs.snoc{H:Hp}{ps:List V}{f:Nat->List Int}{c:List Nat}{j:Nat}{b:Addr}{v:V}(h:Prs H ps f c)(k:H b=some (.tup [.int j,v]))(l:IT H v (f j)):Prs H (ps++[.ref b]) f (c++[j]):=by
 refine⟨by rw[aq,aq,h.1];rfl,λi q e=>?_⟩;rcases Nat.lt_or_ge i ps.length with hi|hi
 .rw[br hi]at e;obtain⟨m,b',n,d,g⟩:=h.2 i q e;exact⟨m,b',n,by rw[br (by rw[<-h.1];exact hi)];exact d,g⟩
 .rw[aZ hi]at e;have a:i-ps.length=0:=by
   rcases Nat.eq_zero_or_pos (i-ps.length)with z|z
   .exact z
   .rw[cM (by simp;omega)]at e;cases e
  rw[a]at e;cases e;exact⟨j,b,v,by rw[aZ (by rw[<-h.1];exact hi),<-h.1,a];rfl,rfl,k,l⟩
section
variable {X:Cx}{k:Nat}{ps:List Str}{sp:Sp}{x y:Str}{p pos cpos pos' ip sp':Pos}{e:Expr}{es:List Expr}{t:TA}{i:Nat}{z:Int}{jj:Nat}
end
end L2
namespace L2
open PySem PySem.Spec PyProof.Rows PySem.W
def Itd(d:Addr)(ob:Obj)(kvs:List (List Key×V)):It:=⟨λi H=>H d=some (.frz ob (.dT kvs))/\i<kvs.length,λi H v H'=>H'=H/\∃p a,kvs[i]?=some p/\v=.ref a/\H a=some (.tup (p.1.map kV)),λi H=>H d=some (.frz ob (.dT kvs))/\kvs.length<=i⟩
theorem a9v{α β:Type}{F:α->β->Prop}{c:List α}{d:List β}(r:Paired F c d):∀{i:Nat}{a:α},c[i]?=some a->∃b,d[i]?=some b/\F a b:=by
 induction r with
 |nil=>intro i a e;simp at e
 |cons h _ f =>
  intro i a e;cases i with
  |zero=>cases e;exact⟨_,rfl,h⟩
  |succ i=>exact f e
theorem a6G{P:Program}{w:World}{K:PySem.W.Frag}{tg:Expr}(d it:Addr)(a:Obj)(es:Array DictEntry)(ep:Nat)(kvs:List (List Key×V))(F:a.ExactDict)(hd:a.data=.dict es ep)(Y:es.size=kvs.length):Turn P w K tg (Itd d a kvs) [it] it (λi h=>h.IsKeyIter it d i es.size ep) where
 mem:=by simp
 obj:=λi h st b f=>by
  have e:b=it:=by simpa using f
  subst e;obtain⟨o,e,c,d⟩:=st;exact⟨o,e,λv z=>by rw[d]at z;cases z⟩
 keep:=λi h h' st k=>st.at λo e=>k it (by simp) o e
 item:=by
  intro X y hw x C i pins s σ H E I m st A;subst y hw x;obtain⟨g,hi⟩:=A;obtain⟨l,Z,D,ts,S,B,O,N,T,q2,n,G,q5⟩:=(show ObjOk X.prog X.w H s.heap d (.frz a (.dT kvs))from I.hok d _ g);have M:B=a:=bx (T.symm.trans l);rw[M,hd]at n;injection n with n _
  obtain⟨p,f1,f2,r,t,u⟩:=m it (by simp);have j:i<es.size:=by omega
  refine a5L st ⟨a,l,F,hd⟩ j λh' st' W=>?_;have J:Inv X pins σ H {s with heap:=h'}:=I.turned (t':=s.toks) (λb o f e=>W.extBut b o f e) p f1 r t u;obtain⟨o,e,c,dd⟩:=id st';obtain⟨q,R,r1,U,r3⟩:=a9v S (ak hi);have Q:es[i].key=.ref q.2.1:=by
   have h1:es.toList[i]?=some es[i]:=by simp[j]
   rw[<-n]at G;rw[G,aP,R]at h1;injection h1 with h1
   rw[<-h1];rfl
  exact⟨_,rfl,a8z (s:={s with heap:=h'}) e c dd (by decide) ⟨.ref q.2.1,H,J,by rw[Q];rfl,⟨rfl,_,_,ak hi,rfl,U⟩,st',λb f=>(m b f).1⟩⟩
 done:=by
  intro X y hw x C i pins s σ H E I m st A;subst y hw x;obtain⟨g,hi⟩:=A;obtain⟨l,_⟩:=(show ObjOk X.prog X.w H s.heap d (.frz a (.dT kvs))from I.hok d _ g);obtain⟨p,f1,f2,r,t,u⟩:=m it (by simp);exact a8h (I.ok.hd C) st ⟨a,l,F,hd⟩ (by omega) λh' L=>⟨rfl,I.turned (t':=s.toks) (λb o f e=>L b o f e) p f1 r t u⟩
 self:=λ_ _ _ _ _ st h=>wpAny_pyIter_keyiter st h
def b5r(tl:TE):TI:=λσ H R=>tl σ H λx H1=>∃d kvs,x=.ref d/\H1 d=some (.dT kvs)/\∀ob,R (Itd d ob kvs) (upd H1 d (.frz ob (.dT kvs)))
section
variable {X:Cx}{tg:Expr}
theorem b3M{l:Expr}{tl:TE}(B:PE X l tl):PI X tg l (b5r tl):=by
 intro pins s σ H R I h;refine thn (B pins s σ H _ I h) λv s1 ⟨x,H1,r,F,E⟩=>?_;obtain⟨d,kvs,rfl,hd,q⟩:=E;cases F;obtain⟨D,c,p,u,f,es,ep,g,j,k,t,y⟩:=(show ObjOk X.prog X.w H1 s1.heap d (.dT kvs)from r.hok _ _ hd);have m:kvs.length=p.length:=Paired.length u;have C:es.size=kvs.length:=by rw[m,<-ax,t,ai]
 have n:KT (upd H1 d (.frz f (.dT kvs))) kvs p:=Paired.imp' (λa b ⟨G,w,J⟩=>⟨G,by rw[A1 (G4 w hd (by intro z;cases z))];exact w,J⟩) u;have i:Inv X pins σ (upd H1 d (.frz f (.dT kvs))) s1:=r.write (x:=d) (e:=d) (t':=s1.toks) (by rw[hd];trivial) (.inl rfl) (λ_ _ _ q=>q) ⟨_,g⟩ ⟨g,D,c,p,n,f,es,ep,g,j,k,t,y⟩;refine a5K c ⟨f,g,j,k⟩ ?_;refine⟨s1.heap.objs.size,[s1.heap.objs.size],_,_,_,rfl,i.kept (t':=s1.toks) λb o e=>ae _ e,a6G d _ f es ep kvs j k C,⟨_,aG _ rfl,rfl,rfl⟩,λb A=>?_,q f⟩;have e:b=s1.heap.objs.size:=by simpa using A
 subst e;exact i.fpOk (aj _) (i.hok.fresh (aj _))
theorem a8u{l:Expr}{tl:TE}(a:JE X l tl):JI X tg l (b5r tl):=⟨b3M a.h⟩
end
theorem a9W{src:List (Option Nat)}{g:TG}{l:TT}{te:TE}{σ:St}{Q:VK}{d:Addr}{k:Obj}{kvs:List (List Key×V)}{H1:Hp}(t:kvs.length<=sizeLine)(c:Nat->List V->Hp->Prop)(h0:c 0 [] H1)
  (j:∀i ys H,i<=kvs.length->c i ys H->H d=some (.frz k (.dT kvs))/\ys.length<=i)
  (hs:∀i p a ys H,kvs[i]?=some p->H a=some (.tup (p.1.map kV))->c i ys H->g (.ref a) (B1 src σ) H λσ2 H2=>Sub (B1 src σ) σ2/\l σ2 H2 λb h=>if b=true then te σ2 h λv m=>c (i+1) (ys++[v]) m else c (i+1) ys h)
  (hd:∀ys H,c kvs.length ys H->∀p,H p=none->Q (.ref p) (upd H p (.lst ys))):E6 src g l te σ Q (Itd d k kvs) H1 :=
 a0G kvs.length c h0 (λi ys H hi p=>by
   obtain⟨f,o⟩:=j i ys H (cH hi) p;refine⟨⟨f,hi⟩,by omega,λx H' y=>?_⟩;obtain⟨e,n,a,q,r,s⟩:=y;subst e r;exact hs i n a ys _ q s p)
  λys H p=>by
   obtain⟨f,o⟩:=j _ ys H (aj _) p;exact⟨⟨f,aj _⟩,by omega,hd ys H p⟩
theorem b7W{kvs:List (List Key×V)}{rss:LLI}{i:Nat}{p:List Key×V}(b:kvs.map (·.1)=IK rss)(e:kvs[i]?=some p):∃r,rss[i]?=some r/\p.1=r.map Sum.inl:=by
 have h1:(kvs.map (·.1))[i]?=some p.1:=by rw[aP,e];rfl
 rw[b,IK,aP]at h1;cases a:rss[i]? with
 |none=>rw[a]at h1;cases h1
 |some r=>rw[a]at h1;injection h1 with h1;exact⟨r,rfl,h1.symm⟩
theorem b2k{kvs:List (List Key×V)}{rss:LLI}(a:kvs.map (·.1)=IK rss):kvs.length=rss.length:=by
 have:=aQ List.length a;simpa[IK]using this
theorem a9T{src:List (Option Nat)}{σ caps:St}{Q:VK}{d:Addr}{o:Obj}{kvs:List (List Key×V)}{rss:LLI}{H:Hp}{te:TE}(f:List Int->V)(t:kvs.length<=sizeLine)(g:H d=some (.frz o (.dT kvs)))(n:kvs.map (·.1)=IK rss)(c:B1 src σ=none::caps)
  (l:∀v r H1 m,r∈rss->IT H1 v r->Same H H1->(∀H2,Same H1 H2->m (f r) H2)->te (some v::caps) H1 m) (hd:∀H1 p,Same H H1->H1 p=none->Q (.ref p) (upd H1 p (.lst (rss.map f)))):E6 src (B0 0) J3 te σ Q (Itd d o kvs) H:=by
 have j:=b2k n;refine a9W (by omega) (λi ys H'=>Same H H'/\ys=(rss.take i).map f) ⟨Same.refl H,by simp⟩ (λi ys H' _ h=>⟨h.1 _ _ g,by rw[h.2,ai];exact bD _ _⟩) ?_ ?_
 .rintro i p a ys H' hx ha ⟨s,rfl⟩;obtain⟨r,b,k⟩:=b7W n hx;have q:=aF b;have e:IT H' (.ref a) r:=⟨a,rfl,by rw[ha,k,dy];rfl⟩;show Sub _ ((B1 src σ).set 0 (some (.ref a)))/\_;rw[c];refine⟨Sub.one,(l _ r H' _ q e s λH2 s2=>⟨s.trans s2,?_⟩)⟩;rw[bf,b,b_];rfl
 .rintro ys H' ⟨s,rfl⟩ p hp;rw[j,bg];exact hd H' p s hp
section
variable {X:Cx}
end
section
variable {X:Cx}{o e:Expr}{es:List Expr}{to:TE}{t:TA}{apos cpos:Pos}
end
theorem a9p{κ:Type}[DecidableEq κ]{kvs:List (κ×V)}{k:κ}(v:V)(h:k∈kvs.map (·.1)):(Z6 kvs k v).map (·.1)=kvs.map (·.1):=by
 unfold Z6;obtain⟨p,a,rfl⟩:=aW.mp h;rw[ay (bE.mpr ⟨p,a,bu rfl⟩),dy];refine List.map_congr_left λq _=>?_;show(if q.1=p.1 then(q.1,v)else q).1=q.1;split<;>rfl
section
variable {X:Cx}{k:Nat}{ps:List Str}{sp:Sp}{x:Str}{p pos cpos:Pos}{e:Expr}{es:List Expr}{t:TA}
end
end L2
namespace L2
open PySem PySem.Spec PyProof.Rows
section
variable {prog:Program}{w:World}{A:Around}{E:Value->Shared->Prop}{s:Shared}
end
section
variable {X:Cx}{pos:Pos}
end
section
variable {X:Cx}{es:List Expr}{pos:Pos}
end
end L2
namespace L2
open PySem PySem.Spec PyProof.Rows PySem.W
section
variable {X:Cx}
end
section
variable {X:Cx}{e:Expr}{es:List Expr}{t:TA}{p pos:Pos}
end
section
variable {X:Cx}{k v:Expr}{tk tv:TE}{pos:Pos}
end
end L2
section
open PySem PyProof.Rows
end
namespace L2
open PySem PySem.Spec PyProof.Rows
section
variable {X:Cx}
variable {o e:Expr}{es:List Expr}{to:TE}{t:TA}{pos apos cpos:Pos}
end
end L2
namespace L2
theorem b8d{α:Type}{us:List α}(h:us.length=0):us=[]:=ft.mp h
theorem a2H{α:Type}{us:List α}(h:us.length=1):∃a,us=[a]:=by
 cases us with
 |nil=>cases h
 |cons a us=>exact⟨a,by rw[b8d (us:=us) (fZ h)]⟩
theorem S7{α:Type}{us:List α}(h:us.length=2):∃a b,us=[a,b]:=by
 cases us with
 |nil=>cases h
 |cons a us=>obtain⟨b,e⟩:=a2H (us:=us) (fZ h);exact⟨a,b,by rw[e]⟩
theorem a4U{α:Type}{us:List α}(h:us.length=3):∃a b c,us=[a,b,c]:=by
 cases us with
 |nil=>cases h
 |cons a us=>obtain⟨b,c,e⟩:=S7 (us:=us) (fZ h);exact⟨a,b,c,by rw[e]⟩
theorem b7O{α:Type}{us:List α}(h:us.length=4):∃a b c d,us=[a,b,c,d]:=by
 cases us with
 |nil=>cases h
 |cons a us=>obtain⟨b,c,d,e⟩:=a4U (us:=us) (fZ h);exact⟨a,b,c,d,by rw[e]⟩
theorem b7N{α:Type}{us:List α}(h:us.length=5):∃a b c d e,us=[a,b,c,d,e]:=by
 cases us with
 |nil=>cases h
 |cons a us=>obtain⟨b,c,d,e,q⟩:=b7O (us:=us) (fZ h);exact⟨a,b,c,d,e,by rw[q]⟩
section
open PySem PySem.Spec PyProof.Rows PySem.W
abbrev FnL(K:PySem.W.Frag)(f:Addr)(nm qn:Str)(st:Stmt)(oc:Value)(od:Option Addr)(sl:Array (Option Value))(kV dc pm:Value)(an:Option Addr)(cd ct:Value):Prop:=K.lookup f=some ⟨oc,od,.func (PySem.W.fnOf nm qn (O8 st) (E2 st) (A3 st) .none kV dc pm an cd ct),sl⟩
variable {K:PySem.W.Frag}{h:Heap}{mg:Str->Option Value}{x qn:Str}{st:Stmt}{f:Addr}{od an:Option Addr}{sl:Array (Option Value)}{oc kV dc pm cd ct:Value}{C:Addr}{m:Str}
theorem B9(X:K.In h)(G:h.Ns mainGlobals mg)(a:nsIn K mainGlobals x=some (some (.ref f)))(l:FnL K f x x st oc od sl kV dc pm an cd ct)(c:codeIn K cd x=true)(k:keepIn K (.ref f)=true){ps:List Str}
  (e:∀(kV d pm:Value) (an:Option Addr) (b ct:Value) (us:List Value),us.length=ps.length->bindArgs (fnOf x x (O8 st) (E2 st) (A3 st) .none kV d pm an b ct) ⟨us,[]⟩=pure (ps.zip us)):FunAt K mg x st ps:=⟨f,_,mg_of X G a,a2X (st:=st) l c k,(a2X (st:=st) l c k).binds e⟩
theorem a2F(a:findIn K (.ref C) m=some (some (.ref f)))(i:isFn K (.ref f)=true)(l:FnL K f m qn st oc od sl kV dc pm an cd ct)(c:codeIn K cd qn=true)(k:keepIn K (.ref f)=true){ps:List Str}
  (e:∀(kV d pm:Value) (an:Option Addr) (b ct:Value) (us:List Value),us.length=ps.length->bindArgs (fnOf m qn (O8 st) (E2 st) (A3 st) .none kV d pm an b ct) ⟨us,[]⟩=pure (ps.zip us)):MethAt K C m qn st ps:=⟨f,_,⟨a,i,k⟩,a2X (st:=st) l c k,(a2X (st:=st) l c k).binds e⟩
end
section
open PySem PySem.Spec PyProof.Rows PySem.W
variable {K:PySem.W.Frag}{h:Heap}{mg:Str->Option Value}{x nm qn:Str}{C N:Addr}{bs bm sub bmB above:List Value}{hd ab:Bool}{sn:List Str}{col:Option Bool}{dd:Option Addr}{k0 k1 k2 k3 k5:Option Value}{newId:String}
theorem b6k(X:K.In h)(b:mg x=some (.ref C))(c:K.lookup C=some (excClassObj nm qn C N bs bm hd sn sub ab col dd k0 k1 k2 k3 k5 newId))(tx:tailIn K bmB bm=true)(ok:nsOkIn K N=true)(a:nsIn K N "__init__"=some none):OwnCls x C bmB newId mg h :=
 ⟨b,bm,N,nm,qn,bs,hd,sn,sub,ab,col,dd,k0,k1,k2,k3,k5,_,X _ _ c,.of_isNs (isNs_of_in X ok),nsMap_none_of_in X ok a,tail_of_in X tx⟩
theorem b4F(b:K.lookup C=some (excClassObj nm qn C N bs bm hd sn sub ab col dd k0 k1 k2 k3 k5 newId))(a:bm.contains (.type "BaseException")=true):ClsX K C [] :=
 ⟨nm,qn,N,bs,bm,hd,sn,sub,ab,col,dd,k0,k1,k2,k3,k5,newId,b,a,λ_ z=>nomatch z⟩
end
inductive Ex1{α0:Type}(p:α0->Prop):Prop
 |mk (a0:α0) (h:p a0):Ex1 p
inductive Ex2{α0 α1:Type}(p:α0->α1->Prop):Prop
 |mk (a0:α0) (a1:α1) (h:p a0 a1):Ex2 p
inductive Ex3{α0 α1 α2:Type}(p:α0->α1->α2->Prop):Prop
 |mk (a0:α0) (a1:α1) (a2:α2) (h:p a0 a1 a2):Ex3 p
inductive Ex4{α0 α1 α2 α3:Type}(p:α0->α1->α2->α3->Prop):Prop
 |mk (a0:α0) (a1:α1) (a2:α2) (a3:α3) (h:p a0 a1 a2 a3):Ex4 p
inductive Ex5{α0 α1 α2 α3 α4:Type}(p:α0->α1->α2->α3->α4->Prop):Prop
 |mk (a0:α0) (a1:α1) (a2:α2) (a3:α3) (a4:α4) (h:p a0 a1 a2 a3 a4):Ex5 p
inductive An3(a0 a1 a2:Prop):Prop
 |mk (h0:a0) (h1:a1) (h2:a2):An3 a0 a1 a2
inductive An4(a0 a1 a2 a3:Prop):Prop
 |mk (h0:a0) (h1:a1) (h2:a2) (h3:a3):An4 a0 a1 a2 a3
inductive An5(a0 a1 a2 a3 a4:Prop):Prop
 |mk (h0:a0) (h1:a1) (h2:a2) (h3:a3) (h4:a4):An5 a0 a1 a2 a3 a4
inductive An6(a0 a1 a2 a3 a4 a5:Prop):Prop
 |mk (h0:a0) (h1:a1) (h2:a2) (h3:a3) (h4:a4) (h5:a5):An6 a0 a1 a2 a3 a4 a5
inductive An7(a0 a1 a2 a3 a4 a5 a6:Prop):Prop
 |mk (h0:a0) (h1:a1) (h2:a2) (h3:a3) (h4:a4) (h5:a5) (h6:a6):An7 a0 a1 a2 a3 a4 a5 a6
inductive An8(a0 a1 a2 a3 a4 a5 a6 a7:Prop):Prop
 |mk (h0:a0) (h1:a1) (h2:a2) (h3:a3) (h4:a4) (h5:a5) (h6:a6) (h7:a7):An8 a0 a1 a2 a3 a4 a5 a6 a7
inductive An9(a0 a1 a2 a3 a4 a5 a6 a7 a8:Prop):Prop
 |mk (h0:a0) (h1:a1) (h2:a2) (h3:a3) (h4:a4) (h5:a5) (h6:a6) (h7:a7) (h8:a8):An9 a0 a1 a2 a3 a4 a5 a6 a7 a8
inductive An10(a0 a1 a2 a3 a4 a5 a6 a7 a8 a9:Prop):Prop
 |mk (h0:a0) (h1:a1) (h2:a2) (h3:a3) (h4:a4) (h5:a5) (h6:a6) (h7:a7) (h8:a8) (h9:a9):An10 a0 a1 a2 a3 a4 a5 a6 a7 a8 a9
end L2
namespace L2
namespace Tab
open PySem
def gI:Nat->Nat->Nat
 |0,x=>x
 |n+1,x=>5*gI n x+1
def gS:Nat->Nat
 |0=>0
 |n+1=>5*gS n+1
theorem b5s:∀n x,gI n x=5 ^ n*x+gS n
 |0,x=>by simp[gI,gS]
 |n+1,x=>by
  rw[gI,b5s n x,gS,df,Nat.mul_add,<-Nat.mul_assoc,eY 5 (5 ^ n)];omega
theorem a8B:∀n,4*gS n+1=5 ^ n
 |0=>rfl
 |n+1=>by
  have:=a8B n;rw[gS,df];omega
theorem a3a:∀k,∃u,5 ^ (2 ^ k)=1+2 ^ (k+2)*(2*u+1)
 |0=>⟨0,rfl⟩
 |k+1=>by
  obtain⟨u,h⟩:=a3a k;refine⟨u+2 ^ k*(2*u+1)*(2*u+1),?_⟩;rw[df 2 k,Nat.pow_mul,h,Nat.pow_two];have a:2 ^ (k+1+2)=8*2 ^ k:=by rw[Nat.pow_add,df];omega
  have c:2 ^ (k+2)=4*2 ^ k:=by rw[Nat.pow_add,eY]
  rw[a,c];generalize 2 ^ k=b
  grind
theorem b6U(k:Nat):∃u,gS (2 ^ k)=2 ^ k*(2*u+1):=by
 obtain⟨u,h⟩:=a3a k;refine⟨u,?_⟩;have:=a8B (2 ^ k);have a:2 ^ (k+2)=4*2 ^ k:=by rw[Nat.pow_add,eY]
 rw[h,a,Nat.mul_assoc]at this;omega
theorem b4w(k y:Nat):gI (2 ^ k) y % 2 ^ (k+1)=(y+2 ^ k) % 2 ^ (k+1):=by
 obtain⟨u,h⟩:=a3a k;obtain⟨v,h2⟩:=b6U k;rw[b5s,h,h2];have e:(1+2 ^ (k+2)*(2*u+1))*y+2 ^ k*(2*v+1)=(y+2 ^ k)+2 ^ (k+1)*(2*(2*u+1)*y+v):=by
  have a:2 ^ (k+1)=2*2 ^ k:=by rw[df];omega
  have c:2 ^ (k+2)=4*2 ^ k:=by rw[Nat.pow_add,eY]
  rw[a,c];generalize 2 ^ k=b
  grind
 rw[e,Nat.add_mul_mod_self_left]
def fI(M:Nat):Nat->Nat->Nat
 |0,x=>x
 |n+1,x=>(fI M n x*5+1) % M
theorem b2u(M:Nat)(x:Nat)(a:x<M):∀n,fI M n x=gI n x % M
 |0=>(cP a).symm
 |n+1=>by
  rw[fI,b2u M x a n,gI,eY,Nat.add_mod,Nat.mul_mod,Nat.mod_mod,<-Nat.mul_mod,<-Nat.add_mod]
theorem b2s(m:Nat):∀n x,gI (n+m) x=gI n (gI m x)
 |0,x=>by rw[dv];rfl
 |n+1,x=>by rw[Nat.add_right_comm,gI,b2s m n x,gI]
theorem b2r:∀(k x s:Nat),∃n,n<2 ^ k/\gI n x % 2 ^ k=s % 2 ^ k
 |0,x,s=>⟨0,by decide,by rw[Nat.pow_zero,Nat.mod_one,Nat.mod_one]⟩
 |k+1,x,s=>by
  obtain⟨n,l,h⟩:=b2r k x s;have f:2 ^ (k+1)=2*2 ^ k:=by rw[df];omega
  have m:0<2 ^ k:=Nat.pow_pos (by decide);by_cases a:gI n x % 2 ^ (k+1)=s % 2 ^ (k+1)
  .exact⟨n,by omega,a⟩
  .refine⟨2 ^ k+n,by omega,?_⟩;rw[b2s,b4w];generalize gI n x=y at *;rw[f]at a⊢;generalize 2 ^ k=M at *;have a1:=Nat.mod_add_div y (2*M);have g:=Nat.mod_add_div s (2*M);have i:=fq y (show 0<2*M by omega);have j:=fq s (show 0<2*M by omega);have b:y % M=y % (2*M) % M:=(Nat.mod_mul_left_mod y 2 M).symm;have c:s % M=s % (2*M) % M:=(Nat.mod_mul_left_mod s 2 M).symm;rw[Nat.add_mod,cP (show M<2*M by omega)];generalize y % (2*M)=p at *;generalize s % (2*M)=q at *;rw[b,c]at h;have d:p % M=if p<M then p else p-M:=by
    split
    .exact cP (by assumption)
    .rw[Nat.mod_eq_sub_mod (by omega)];exact cP (by omega)
   have e:q % M=if q<M then q else q-M:=by
    split
    .exact cP (by assumption)
    .rw[Nat.mod_eq_sub_mod (by omega)];exact cP (by omega)
   rw[d,e]at h;split at h<;>split at h
   .omega
   .rw[cP (by omega)];omega
   .rw[show p+M=p-M+2*M by omega,Nat.add_mod_right,cP (by omega)];omega
   .omega
abbrev Pr:=SetTable.Probe
noncomputable def adv(mask:Nat)(p:Pr):Pr :=
 if p.more > 0 then {p with j:=p.j+1,more:=p.more-1} else
 {p with j:=(SetTable.leap mask p.i p.perturb).1,more:=SetTable.runEnd mask (SetTable.leap mask p.i p.perturb).1-(SetTable.leap mask p.i p.perturb).1,i:=(SetTable.leap mask p.i p.perturb).1,perturb:=(SetTable.leap mask p.i p.perturb).2}
theorem b7i(t:SetTable)(p:Pr):t.advance p=adv t.mask p:=rfl
noncomputable def B7(mask:Nat)(p:Pr):Nat->Pr
 |0=>p
 |n+1=>adv mask (B7 mask p n)
theorem G6(mask:Nat)(p:Pr):∀n,B7 mask p (n+1)=B7 mask (adv mask p) n
 |0=>rfl
 |n+1=>by rw[B7,G6 mask p n];rfl
theorem a0l(mask:Nat)(p:Pr)(m:Nat):∀n,B7 mask p (m+n)=B7 mask (B7 mask p m) n
 |0=>rfl
 |n+1=>by rw[<-dW,B7,a0l mask p m n];rfl
theorem a0N(mask:Nat)(p:Pr):∀n,(B7 mask p n).dummy=p.dummy
 |0=>rfl
 |n+1=>by
  rw[B7,<-a0N mask p n];unfold adv;split<;>rfl
noncomputable def a0P(mask i pt:Nat):Pr:={j:=i,more:=SetTable.runEnd mask i-i,i,perturb:=pt,dummy:=none}
noncomputable def st0(mask:Nat)(h:Int):Pr:=a0P mask (SetTable.bits h % (mask+1)) (SetTable.bits h)
theorem a1a(mask i pt:Nat):∀c,c<=SetTable.runEnd mask i-i->B7 mask (a0P mask i pt) c={j:=i+c,more:=SetTable.runEnd mask i-i-c,i,perturb:=pt,dummy:=none}
 |0,_=>rfl
 |c+1,h=>by
  rw[B7,a1a mask i pt c (by omega)];unfold adv;rw[ay (show SetTable.runEnd mask i-i-c > 0 by omega)];simp only[SetTable.Probe.mk.injEq,and_true];omega
theorem b3o(mask i:Nat):SetTable.runEnd mask i-i<=9:=by
 unfold SetTable.runEnd;split<;>omega
theorem a5V(mask i pt:Nat):B7 mask (a0P mask i pt) (SetTable.runEnd mask i-i+1)=a0P mask (SetTable.leap mask i pt).1 (SetTable.leap mask i pt).2:=by
 rw[B7,a1a mask i pt _ (aj _)];unfold adv;rw[ao (by show ¬SetTable.runEnd mask i-i-(SetTable.runEnd mask i-i) > 0;omega)];rfl
def L8(mask:Nat)(i pt:Nat):Nat->Nat×Nat
 |0=>(i,pt)
 |k+1=>SetTable.leap mask (L8 mask i pt k).1 (L8 mask i pt k).2
theorem b0W(mask i pt:Nat):∀k,∃n,n<=10*k/\B7 mask (a0P mask i pt) n=a0P mask (L8 mask i pt k).1 (L8 mask i pt k).2
 |0=>⟨0,aj _,rfl⟩
 |k+1=>by
  obtain⟨n,h1,h2⟩:=b0W mask i pt k;have:=b3o mask (L8 mask i pt k).1;refine⟨n+(SetTable.runEnd mask (L8 mask i pt k).1-(L8 mask i pt k).1+1),by omega,?_⟩;rw[a0l,h2,a5V];rfl
theorem b0U(mask i pt:Nat):∀k,(L8 mask i pt k).2=pt / 32 ^ k
 |0=>by simp[L8]
 |k+1=>by
  rw[L8,df,<-Nat.div_div_eq_div_mul,<-b0U mask i pt k];rfl
theorem a2u(mask i pt a:Nat):∀b,L8 mask i pt (a+b)=L8 mask (L8 mask i pt a).1 (L8 mask i pt a).2 b
 |0=>rfl
 |b+1=>by rw[<-dW,L8,a2u mask i pt a b];rfl
theorem a5H(mask i:Nat):∀k,L8 mask i 0 k=(fI (mask+1) k i,0)
 |0=>rfl
 |k+1=>by
  rw[L8,a5H mask i k];show((fI (mask+1) k i*5+1+0 / 32) % (mask+1),0 / 32)=_;rw[Nat.zero_div,Nat.add_zero];rfl
theorem b4H(h:Int):SetTable.bits h<2 ^ 64:=by
 unfold SetTable.bits;have h1:=dF h (show(2:Int) ^ 64≠0 by decide);have h2:=cX h (show(0:Int)<2 ^ 64 by decide);omega
theorem b3p(mask i pt:Nat)(hi:i<=mask):∀k,(L8 mask i pt k).1<=mask
 |0=>hi
 |k+1=>by
  rw[L8];exact el (fq _ (fg _))
theorem a5I{mask k:Nat}(c:mask+1=2 ^ k)(h:Int)(s:Nat)(hs:s<=mask):∃r,r<mask+14/\(L8 mask (SetTable.bits h % (mask+1)) (SetTable.bits h) r).1=s:=by
 have b:=b4H h;have hi:=b3p mask (SetTable.bits h % (mask+1)) (SetTable.bits h) (el (fq _ (fg _))) 13;have a:=b0U mask (SetTable.bits h % (mask+1)) (SetTable.bits h) 13;rw[Nat.div_eq_of_lt (aK b (by decide))]at a;obtain⟨n,d,e⟩:=b2r k (L8 mask (SetTable.bits h % (mask+1)) (SetTable.bits h) 13).1 s;refine⟨13+n,by omega,?_⟩;rw[<-c]at e;rw[a2u,a,a5H];show fI _ _ _=s;rw[b2u _ _ (by omega),e];exact cP (by omega)
noncomputable def pos(mask:Nat)(h:Int)(n:Nat):Nat:=(B7 mask (st0 mask h) n).j
theorem b1t{mask k:Nat}(b:mask+1=2 ^ k)(h:Int)(s:Nat)(hs:s<=mask):∃n,n<10*SetTable.turns mask/\pos mask h n=s:=by
 obtain⟨r,d,e⟩:=a5I b h s hs;obtain⟨n,c,a⟩:=b0W mask (SetTable.bits h % (mask+1)) (SetTable.bits h) r;refine⟨n,by unfold SetTable.turns;omega,?_⟩;unfold pos st0;rw[a,<-e];rfl
theorem a3h(xs:Array Nat)(j:Nat)(k:∀a b:Nat,a<b->b<xs.size->xs.getD a 0<xs.getD b 0):∀(fuel lo hi:Nat),hi-lo<=fuel->lo<=hi->hi<=xs.size->(∀i,i<lo->xs.getD i 0<j)->(∀i,hi<=i->i<xs.size->j<=xs.getD i 0) ->
  SetTable.below.go xs j fuel lo hi<=xs.size/\(∀i,i<SetTable.below.go xs j fuel lo hi->xs.getD i 0<j)/\∀i,SetTable.below.go xs j fuel lo hi<=i->i<xs.size->j<=xs.getD i 0
 |0,lo,hi,h1,h2,c,d,f=>by
  have:hi=lo:=by omega
  subst this;exact⟨c,d,f⟩
 |fuel+1,lo,hi,h1,h2,c,d,f=>by
  unfold SetTable.below.go;by_cases h:lo<hi
  .rw[ay h];have n:(lo+hi) / 2<hi/\lo<=(lo+hi) / 2:=by omega
   have m:xs.getD ((lo+hi) / 2) j=xs.getD ((lo+hi) / 2) 0:=by
    have:(lo+hi) / 2<xs.size:=by omega
    simp[Array.getD,this]
   dsimp only;rw[m];by_cases g:xs.getD ((lo+hi) / 2) 0<j
   .rw[ay g];refine a3h xs j k fuel _ _ (by omega) (by omega) c (λi l=>?_) f;by_cases e:i=(lo+hi) / 2
    .rw[e];exact g
    .exact fX (k i _ (by omega) (by omega)) g
   .rw[ao g];refine a3h xs j k fuel _ _ (by omega) (by omega) (by omega) d (λi l hs=>?_);by_cases e:i=(lo+hi) / 2
    .rw[e];omega
    .have:=k ((lo+hi) / 2) i (by omega) hs;omega
  .rw[ao h];have:hi=lo:=by omega
   subst this;exact⟨c,d,f⟩
def Ris(xs:Array Nat):Prop:=∀a b:Nat,a<b->b<xs.size->xs.getD a 0<xs.getD b 0
theorem G3{xs:Array Nat}(a:Ris xs)(j:Nat):SetTable.below xs j<=xs.size/\(∀i,i<SetTable.below xs j->xs.getD i 0<j)/\∀i,SetTable.below xs j<=i->i<xs.size->j<=xs.getD i 0 :=
 a3h xs j a xs.size 0 xs.size (by omega) (by omega) (aj _) (λi h=>absurd h (by omega)) (λi h1 h2=>absurd h2 (by omega))
theorem a0E{xs:Array Nat}{i:Nat}(h:i<xs.size):xs[i]?=some (xs.getD i 0):=by simp[Array.getD,h]
theorem a0I{xs:Array Nat}(a:Ris xs){i j:Nat}(h:xs[i]?=some j):SetTable.below xs j=i:=by
 obtain⟨d,b,c⟩:=G3 a j;have hi:i<xs.size:=(cU.mp h).1;have e:xs.getD i 0=j:=by have:=a0E hi;rw[h]at this;injection this with this;exact this.symm
 rcases dh (SetTable.below xs j) i with z|z|z
 .have h1:=c _ (aj _) (by omega);have h2:=a _ _ z hi;omega
 .exact z
 .have:=b i z;omega
theorem a1f{xs:Array Nat}(a:Ris xs)(j:Nat):xs[SetTable.below xs j]?=some j↔j∈xs:=by
 constructor
 .intro h;exact Array.mem_of_getElem? h
 .intro h;obtain⟨i,hi⟩:=Array.mem_iff_getElem?.mp h;rw[a0I a hi];exact hi
theorem a8e{t:SetTable}(a:Ris t.place)(hd:t.dummies=#[])(j:Nat):t.slot j=if j∈t.place then .live (SetTable.below t.place j)else .empty:=by
 unfold SetTable.slot;dsimp only;by_cases h:j∈t.place
 .rw[ay h,ay];rw[(a1f a j).mpr h];simp
 .rw[ao h,ao,hd]
  .rw[ao];unfold SetTable.has;simp
  .intro z;exact h ((a1f a j).mp (by simpa using z))
theorem a5Q{t:SetTable}(i:Ris t.place)(hd:t.dummies=#[])(a:Nat->Int)(h:Int):∀(fuel:Nat) (p:Pr),p.dummy=none->(∃n,n<fuel/\(B7 t.mask p n).j∉t.place) ->
  (∃n,(B7 t.mask p n).j∉t.place/\(∀m,m<n->(B7 t.mask p m).j∈t.place/\a (SetTable.below t.place (B7 t.mask p m).j)≠h)/\SetTable.probe.go t a h fuel p=some (.empty (B7 t.mask p n).j none)) ∨
  ∃n,(B7 t.mask p n).j∈t.place/\a (SetTable.below t.place (B7 t.mask p n).j)=h/\(∀m,m<n->(B7 t.mask p m).j∈t.place/\a (SetTable.below t.place (B7 t.mask p m).j)≠h)/\SetTable.probe.go t a h fuel p=some (.candidate (B7 t.mask p n).j (SetTable.below t.place (B7 t.mask p n).j) (B7 t.mask p (n+1)))
 |0,p,_,⟨n,g,_⟩=>absurd g (by omega)
 |fuel+1,p,c,⟨n,g,f⟩=>by
  unfold SetTable.probe.go;rw[a8e i hd];by_cases b:p.j∈t.place
  .rw[ay b];dsimp only;by_cases d:a (SetTable.below t.place p.j)=h
   .right;refine⟨0,b,d,λm e=>absurd e (by omega),?_⟩;rw[ay (by simpa using d)];rfl
   .have hn0:n≠0:=λz=>f (by rw[z];exact b);obtain⟨n,rfl⟩:∃k,n=k+1:=⟨n-1,by omega⟩;rw[G6]at f;rw[ao (by simpa using d),b7i];have first:∀N,(∀m,m<N->(B7 t.mask (adv t.mask p) m).j∈t.place/\a (SetTable.below t.place (B7 t.mask (adv t.mask p) m).j)≠h)->∀m,m<N+1->(B7 t.mask p m).j∈t.place/\a (SetTable.below t.place (B7 t.mask p m).j)≠h:=λN j m e=>by
     cases m with
     |zero=>exact⟨b,d⟩
     |succ m=>rw[G6];exact j m (by omega)
    rcases a5Q i hd a h fuel (adv t.mask p) (by rw[<-c];exact a0N t.mask p 1) ⟨n,by omega,f⟩with⟨N,h1,h2,h3⟩|⟨N,h1,h2,h3,h4⟩
    .left;exact⟨N+1,by rw[G6];exact h1,first N h2,by rw[G6];exact h3⟩
    .right;exact⟨N+1,by rw[G6];exact h1,by rw[G6];exact h2,first N h3,by rw[G6,G6];exact h4⟩
  .rw[ao b];left;refine⟨0,b,λm e=>absurd e (by omega),?_⟩;show some (SetTable.Met.empty p.j p.dummy)=_;rw[c];rfl
theorem W1{α:Type}(xs:Array α)(p:Nat)(x:α)(hp:p<=xs.size):(SetTable.insertAt xs p x).toList=xs.toList.take p++x::xs.toList.drop p:=by
 unfold SetTable.insertAt;simp only[bR,cT,eJ,List.extract_eq_take_drop,cW,Nat.sub_zero,aH,List.singleton_append];rw[bN (l:=List.drop p xs.toList) (by simp)]
theorem ris_list{xs:Array Nat}:Ris xs↔xs.toList.Pairwise (· < ·):=by
 rw[eV];unfold Ris;constructor
 .intro h i j hi hj hij;have:=h i j hij (by simpa using hj);simpa[Array.getD,show i<xs.size by simpa using hi,show j<xs.size by simpa using hj]using this
 .intro h a b hab hb;have:=h a b (by simp;omega) (by simpa using hb) hab;simpa[Array.getD,show a<xs.size by omega,hb]using this
theorem a3W{xs:Array Nat}{i:Nat}(h:i<xs.toList.length):xs.getD i 0=xs.toList[i]:=by
 have h':i<xs.size:=by simpa using h
 simp[Array.getD,h']
theorem b3b{xs:Array Nat}(b:Ris xs){j x:Nat}(h:x∈xs.toList.take (SetTable.below xs j)):x<j:=by
 obtain⟨c,a,d⟩:=G3 b j;obtain⟨i,hi,rfl⟩:=cx.mp h;rw[aY]at hi;rw[fA,<-a3W];exact a i (by omega)
theorem a8F{xs:Array Nat}(d:Ris xs){j x:Nat}(c:j∉xs)(h:x∈xs.toList.drop (SetTable.below xs j)):j<x:=by
 obtain⟨e,f,b⟩:=G3 d j;have a:x∈xs:=by simpa using cG h
 obtain⟨i,hi,rfl⟩:=cx.mp h;rw[bV]at hi;rw[fB,<-a3W]at a⊢;have:=b (SetTable.below xs j+i) (by omega) (by simp at hi;omega);rcases Nat.lt_or_eq_of_le this with z|z
 .exact z
 .exact absurd (z ▸ a) c
theorem b3q{xs:Array Nat}(a:Ris xs){j:Nat}(c:j∉xs):Ris (SetTable.insertAt xs (SetTable.below xs j) j):=by
 rw[ris_list,W1 _ _ _ (G3 a j).1];have d:=ris_list.mp a;rw[bz,cO];refine⟨d.take,⟨λy b=>a8F a c b,d.drop⟩,λx e y b=>?_⟩;have h1:=b3b a e;rcases aE.mp b with z|z
 .rw[z];exact h1
 .exact fX h1 (a8F a c z)
theorem a4S{xs:Array Nat}{p j x:Nat}(hp:p<=xs.size):x∈SetTable.insertAt xs p j↔x=j∨x∈xs:=by
 rw[<-eF,W1 _ _ _ hp,aC,aE,<-eF];constructor
 .rintro(h|h|h)
  .exact .inr (bZ h)
  .exact .inl h
  .exact .inr (cG h)
 .rintro(h|h)
  .exact .inr (.inl h)
  .rw[<-bp p xs.toList]at h;rcases aC.mp h with z|z
   .exact .inl z
   .exact .inr (.inr z)
theorem nodup_le{α:Type}[DecidableEq α]:∀(a b:List α),a.Nodup->(∀x∈a,x∈b)->a.length<=b.length
 |[],b,_,_=>bo _
 |x::a,b,e,h=>by
  obtain⟨h1,h2⟩:=cw.mp e;have c:=h x ar;have:=nodup_le a (b.erase x) h2 λy d=>(List.mem_erase_of_ne (λz:y=x=>h1 (z ▸ d))).mpr (h y (av _ d));rw[List.length_erase_of_mem c]at this;have:=List.length_pos_of_mem c;rw[aT];omega
structure TabOk{α:Type}(t:SetTable)(es:Array (Int×α)):Prop where
 size:t.place.size=es.size
 dum:t.dummies=#[]
 ris:Ris t.place
 le:∀j∈t.place,j<=t.mask
 pow:∃k,3<=k/\t.mask+1=2 ^ k
 room:es.size<=t.mask
 reach:∀(i j:Nat) (e:Int×α),t.place[i]?=some j->es[i]?=some e->∃n,pos t.mask e.1 n=j/\∀m,m<n->pos t.mask e.1 m∈t.place
theorem TabOk.free{α:Type}{t:SetTable}{es:Array (Int×α)}(h:TabOk t es)(x:Int):∃n,n<10*SetTable.turns t.mask/\pos t.mask x n∉t.place:=by
 obtain⟨k,_,e⟩:=h.pow;have:∃s,s<=t.mask/\s∉t.place:=by
  refine bT λd=>?_;have a:∀s,s<t.mask+1->s∈t.place.toList:=λs hs=>by
   refine bT λz=>d ⟨s,by omega,λq=>z (by simpa using q)⟩
  have:=nodup_le (List.range (t.mask+1)) t.place.toList fO λs hs=>a s (ba.mp hs);rw[fE,ax,h.size]at this;have:=h.room;omega
 obtain⟨s,hs,f⟩:=this;obtain⟨n,b,c⟩:=b1t e x s hs;exact⟨n,b,by rw[c];exact f⟩
theorem TabOk.first{α:Type}{t:SetTable}{es:Array (Int×α)}(h:TabOk t es)(x:Int):∃N,N<10*SetTable.turns t.mask/\pos t.mask x N∉t.place/\∀m,m<N->pos t.mask x m∈t.place:=by
 obtain⟨n,d,c⟩:=h.free x;induction n using Nat.strongRecOn with
 |ind n e =>
  by_cases b:∃m,m<n/\pos t.mask x m∉t.place
  .obtain⟨m,a,hm2⟩:=b;exact e m a (by omega) hm2
  .exact⟨n,d,c,λm a=>bT λz=>b ⟨m,a,z⟩⟩
theorem a8A{α:Type}{xs:Array α}{p:Nat}{x:α}(hp:p<=xs.size)(i:Nat):(SetTable.insertAt xs p x)[i]?=if i<p then xs[i]? else if i=p then some x else xs[i-1]?:=by
 rw[<-au,W1 _ _ _ hp];by_cases h1:i<p
 .rw[ay h1,br (by rw[aY,ax];omega),cZ h1,au]
 .rw[ao h1,aZ (by rw[aY,ax];omega),aY,ax,dE hp];by_cases h2:i=p
  .rw[ay h2,h2,Nat.sub_self];rfl
  .rw[ao h2];obtain⟨c,a⟩:∃c,i-p=c+1:=⟨i-p-1,by omega⟩;rw[a,dk,eZ,au];congr 1;omega
theorem TabOk.add{α:Type}{t:SetTable}{es:Array (Int×α)}(h:TabOk t es){x:Int}{v:α}{N:Nat}(h1:pos t.mask x N∉t.place)(h2:∀m,m<N->pos t.mask x m∈t.place)(l:pos t.mask x N<=t.mask)(d:es.size<t.mask) :
  TabOk (t.put (pos t.mask x N)).1 (SetTable.insertAt es (t.put (pos t.mask x N)).2 (x,v)):=by
 have g:=(G3 h.ris (pos t.mask x N)).1;have hd:(t.put (pos t.mask x N)).1.dummies=#[]:=by
  show(if SetTable.has t.dummies (pos t.mask x N)=true then _ else t.dummies)=#[];rw[h.dum,ao];unfold SetTable.has;simp
 have c:SetTable.below t.place (pos t.mask x N)<=es.size:=by rw[<-h.size];exact g
 have f:∀{β:Type}(xs:Array β) (p:Nat) (y:β),p<=xs.size->(SetTable.insertAt xs p y).size=xs.size+1:=λxs p y u=>by
  rw[<-ax,W1 _ _ _ u,aq,aT,aY,bV,ax];omega
 refine⟨?_,hd,b3q h.ris h1,λj s=>?_,h.pow,?_,λi j e b a=>?_⟩
 .show(SetTable.insertAt t.place (SetTable.below t.place (pos t.mask x N)) _).size=(SetTable.insertAt es (SetTable.below t.place (pos t.mask x N)) _).size;rw[f _ _ _ g,f _ _ _ c,h.size]
 .rcases(a4S g).mp s with z|z
  .rw[z];exact l
  .exact h.le j z
 .show(SetTable.insertAt es (SetTable.below t.place (pos t.mask x N)) _).size<=t.mask;rw[f _ _ _ c];exact d
 .change (SetTable.insertAt t.place (SetTable.below t.place (pos t.mask x N)) (pos t.mask x N))[i]?=some j at b;change (SetTable.insertAt es (SetTable.below t.place (pos t.mask x N)) (x,v))[i]?=some e at a;rw[a8A g]at b;rw[a8A c]at a;show ∃n,pos t.mask e.1 n=j/\∀m,m<n->pos t.mask e.1 m∈SetTable.insertAt t.place (SetTable.below t.place (pos t.mask x N)) (pos t.mask x N);have old:∀k,t.place[k]?=some j->es[k]?=some e->∃n,pos t.mask e.1 n=j/\∀m,m<n->pos t.mask e.1 m∈SetTable.insertAt t.place (SetTable.below t.place (pos t.mask x N)) (pos t.mask x N):=λk B C=>by
   obtain⟨n,w,A⟩:=h.reach k j e B C;exact⟨n,w,λm o=>(a4S g).mpr (.inr (A m o))⟩
  by_cases q:i<SetTable.below t.place (pos t.mask x N)
  .rw[ay q]at b a;exact old i b a
  .rw[ao q]at b a;by_cases r:i=SetTable.below t.place (pos t.mask x N)
   .rw[ay r]at b a;cases b;cases a;exact⟨N,rfl,λm o=>(a4S g).mpr (.inr (h2 m o))⟩
   .rw[ao r]at b a;exact old _ b a
theorem a3J{mask i:Nat}(hi:i<=mask):SetTable.runEnd mask i<=mask:=by
 unfold SetTable.runEnd;split<;>omega
theorem b0t(mask:Nat)(p:Pr)(h:p.j+p.more<=mask):∀n,(B7 mask p n).j+(B7 mask p n).more<=mask
 |0=>h
 |n+1=>by
  have b:=b0t mask p h n;rw[B7];unfold adv;split
  .dsimp only;omega
  .dsimp only;have h1:(SetTable.leap mask (B7 mask p n).i (B7 mask p n).perturb).1<=mask:=el (fq _ (fg _));have h2:=a3J h1;have a:(SetTable.leap mask (B7 mask p n).i (B7 mask p n).perturb).1<=SetTable.runEnd mask (SetTable.leap mask (B7 mask p n).i (B7 mask p n).perturb).1:=by
    unfold SetTable.runEnd;split<;>omega
   omega
theorem a0Q(mask:Nat)(h:Int)(n:Nat):pos mask h n<=mask:=by
 have h1:SetTable.bits h % (mask+1)<=mask:=el (fq _ (fg _));have h2:=a3J h1;have a:SetTable.bits h % (mask+1)<=SetTable.runEnd mask (SetTable.bits h % (mask+1)):=by
  unfold SetTable.runEnd;split<;>omega
 have:=b0t mask (st0 mask h) (by show SetTable.bits h % (mask+1)+(SetTable.runEnd mask (SetTable.bits h % (mask+1))-SetTable.bits h % (mask+1))<=mask;omega) n;unfold pos;omega
noncomputable def fr(owner:Array (Option Nat))(j:Nat):Bool:=(owner.getD j (some 0)).isNone
theorem a8C(mask:Nat)(owner:Array (Option Nat)):∀(fuel i pt:Nat),(∃r,r<fuel/\fr owner (L8 mask i pt r).1=true) ->
  ∃n,fr owner (B7 mask (a0P mask i pt) n).j=true/\(∀m,m<n->fr owner (B7 mask (a0P mask i pt) m).j=false)/\SetTable.layClean.free mask owner fuel i pt=some (B7 mask (a0P mask i pt) n).j
 |0,_,_,⟨r,h,_⟩=>absurd h (by omega)
 |fuel+1,i,pt,⟨r,h,b⟩=>by
  unfold SetTable.layClean.free;have q:i<=SetTable.runEnd mask i:=by
   unfold SetTable.runEnd;split<;>omega
  cases e:(List.range (SetTable.runEnd mask i+1-i)).find? (λk=>(owner.getD (i+k) (some 0)).isNone)with
  |some k =>
   dsimp only;rw[List.find?_range_eq_some]at e;obtain⟨j,l,o⟩:=e;have s:=ba.mp l;refine⟨k,?_,λm d=>?_,?_⟩
   .rw[a1a mask i pt k (by omega)];exact j
   .rw[a1a mask i pt m (by omega)];have:=o m d;simpa[fr]using this
   .rw[a1a mask i pt k (by omega)]
  |none =>
   dsimp only;rw[List.find?_range_eq_none]at e;have a:∀m,m<SetTable.runEnd mask i-i+1->fr owner (B7 mask (a0P mask i pt) m).j=false:=λm d=>by
    rw[a1a mask i pt m (by omega)];have:=e m (by omega);simpa[fr]using this
   cases r with
   |zero =>
    have:=a 0 (by omega);rw[show(B7 mask (a0P mask i pt) 0).j=(L8 mask i pt 0).1 from rfl,b]at this;cases this
   |succ r =>
    have c:fr owner (L8 mask (SetTable.leap mask i pt).1 (SetTable.leap mask i pt).2 r).1=true:=by
     rw[Nat.add_comm,a2u]at b;exact b
    obtain⟨n,h1,h2,p⟩:=a8C mask owner fuel (SetTable.leap mask i pt).1 (SetTable.leap mask i pt).2 ⟨r,by omega,c⟩;have key:∀m,B7 mask (a0P mask i pt) (SetTable.runEnd mask i-i+1+m)=B7 mask (a0P mask (SetTable.leap mask i pt).1 (SetTable.leap mask i pt).2) m:=λm=>by
     rw[a0l,a5V]
    refine⟨SetTable.runEnd mask i-i+1+n,by rw[key];exact h1,λm d=>?_,by rw[key];exact p⟩;by_cases f:m<SetTable.runEnd mask i-i+1
    .exact a m f
    .obtain⟨g,rfl⟩:∃g,m=SetTable.runEnd mask i-i+1+g:=⟨m-(SetTable.runEnd mask i-i+1),by omega⟩;rw[key];exact h2 g (by omega)
structure Lay(mask:Nat)(owner:Array (Option Nat))(hs:List Int):Prop where
 size:owner.size=mask+1
 val:∀j q:Nat,owner[j]?=some (some q)->∃h,hs[q]?=some h/\∃n,pos mask h n=j/\∀m,m<n->fr owner (pos mask h m)=false
 ex:∀q,q<hs.length->∃j:Nat,owner[j]?=some (some q)
 uniq:∀j j' q:Nat,owner[j]?=some (some q)->owner[j']?=some (some q)->j=j'
theorem W2{owner:Array (Option Nat)}{mask j:Nat}(hs:owner.size=mask+1)(a:j<=mask):fr owner j=false↔∃q,owner[j]?=some (some q):=by
 have h:j<owner.size:=by omega
 unfold fr;rw[bL h,show owner.getD j (some 0)=owner[j] by simp[Array.getD,h]];cases owner[j]with
 |none=>simp
 |some q=>simp
theorem Lay.start(mask:Nat):Lay mask (Array.replicate (mask+1) none) []:=by
 refine⟨by simp,λj q h=>?_,λq h=>absurd h (by simp),λj a q h=>?_⟩<;>
 .rw[Array.getElem?_replicate]at h;split at h
  .cases h
  .cases h
theorem Lay.free{mask k:Nat}(z:mask+1=2 ^ k){owner:Array (Option Nat)}{hs:List Int}(L:Lay mask owner hs)(A:hs.length<=mask)(h:Int):∃n,fr owner (pos mask h n)=true/\(∀m,m<n->fr owner (pos mask h m)=false)/\SetTable.layClean.free mask owner (SetTable.turns mask) (SetTable.bits h % (mask+1)) (SetTable.bits h)=some (pos mask h n):=by
 have:∃s,s<=mask/\fr owner s=true:=by
  refine bT λl=>?_;have c:∀s:Nat,s<=mask->∃q,owner[s]?=some (some q):=λs hs=>by
   rw[<-W2 L.size hs];cases e:fr owner s with
   |false=>rfl
   |true=>exact absurd ⟨s,hs,e⟩ l
  have:=nodup_le ((List.range (mask+1)).map λj=>(owner.getD j none).getD 0) (List.range hs.length) ?_ ?_
  .rw[ai,fE,fE]at this;omega
  .rw[eQ,cn];refine(eQ.mp fO).imp_of_mem λ{a b} v w i e=>i ?_;obtain⟨q,d⟩:=c a (by have:=ba.mp v;omega);obtain⟨t,f⟩:=c b (by have:=ba.mp w;omega);have g:owner.getD a none=some q:=by rw[bM,d];rfl
   have u:owner.getD b none=some t:=by rw[bM,f];rfl
   rw[g,u]at e;change q=t at e;exact L.uniq a b q d (e ▸ f)
  .intro x hx;obtain⟨j,y,rfl⟩:=aW.mp hx;obtain⟨q,d⟩:=c j (by have:=ba.mp y;omega);obtain⟨h',h1,_⟩:=L.val j q d;have g:owner.getD j none=some q:=by rw[bM,d];rfl
   rw[g];exact ba.mpr (aN.mp h1).1
 obtain⟨s,o,p⟩:=this;obtain⟨r,B,e⟩:=a5I z h s o;exact a8C mask owner _ _ _ ⟨r,by unfold SetTable.turns;omega,by rw[e];exact p⟩
theorem Lay.put{mask:Nat}{owner:Array (Option Nat)}{hs:List Int}(L:Lay mask owner hs){h:Int}{n:Nat}(h1:fr owner (pos mask h n)=true)(h2:∀m,m<n->fr owner (pos mask h m)=false):Lay mask (owner.setIfInBounds (pos mask h n) (some hs.length)) (hs++[h]):=by
 have p:pos mask h n<owner.size:=by have:=a0Q mask h n;rw[L.size];omega
 have i:∀q,owner[pos mask h n]?≠some (some q):=λq z=>by
  have:=(W2 L.size (a0Q mask h n)).mpr ⟨q,z⟩;rw[h1]at this;cases this
 have get:∀j:Nat,(owner.setIfInBounds (pos mask h n) (some hs.length))[j]?=if j=pos mask h n then some (some hs.length)else owner[j]?:=λj=>by
  rw[Array.getElem?_setIfInBounds];by_cases e:pos mask h n=j
  .rw[ay e,ay e.symm,ay p]
  .rw[ao e,ao λz=>e z.symm]
 have d:(owner.setIfInBounds (pos mask h n) (some hs.length)).size=mask+1:=by rw[fe,L.size]
 have keep:∀j,j<=mask->fr owner j=false->fr (owner.setIfInBounds (pos mask h n) (some hs.length)) j=false:=λj b e=>by
  rw[W2 d b,get];split
  .exact⟨_,rfl⟩
  .exact(W2 L.size b).mp e
 refine⟨d,λj q e=>?_,λq r=>?_,λj k q e a=>?_⟩
 .rw[get]at e;by_cases c:j=pos mask h n
  .rw[ay c]at e;cases e;exact⟨h,by rw[aZ (aj _),Nat.sub_self];rfl,n,c.symm,λm g=>keep _ (a0Q mask h m) (h2 m g)⟩
  .rw[ao c]at e;obtain⟨h',f,s,l,o⟩:=L.val j q e;exact⟨h',by rw[br (aN.mp f).1];exact f,s,l,λm g=>keep _ (a0Q mask h' m) (o m g)⟩
 .by_cases c:q=hs.length
  .exact⟨pos mask h n,by rw[get,ay rfl,c]⟩
  .rw[aq,fR]at r;obtain⟨j,b⟩:=L.ex q (by omega);refine⟨j,?_⟩;rw[get,ao]
   .exact b
   .intro z;exact i q (z ▸ b)
 .rw[get]at e a;have lt:∀j:Nat,owner[j]?=some (some q)->q<hs.length:=λj z=>by
   obtain⟨_,f,_⟩:=L.val j q z;exact(aN.mp f).1
  by_cases c:j=pos mask h n
  .by_cases c':k=pos mask h n
   .rw[c,c']
   .rw[ay c]at e;rw[ao c']at a;cases e;exact absurd (lt _ a) (by omega)
  .by_cases c':k=pos mask h n
   .rw[ao c]at e;rw[ay c']at a;cases a;exact absurd (lt _ e) (by omega)
   .rw[ao c]at e;rw[ao c']at a;exact L.uniq j k q e a
theorem a6d{mask k:Nat}(e:mask+1=2 ^ k):∀(rest done:List Int) (owner:Array (Option Nat)),Lay mask owner done->done.length+rest.length<=mask ->
  ∃a,rest.foldl (λb h=>do
   let (owner,k) <-b
   let j <-SetTable.layClean.free mask owner (SetTable.turns mask) (SetTable.bits h % (mask+1)) (SetTable.bits h)
   pure (owner.setIfInBounds j (some k),k+1)) (some (owner,done.length))=some (a,(done++rest).length)/\Lay mask a (done++rest)
 |[],done,owner,L,_=>⟨owner,by simp,by simpa using L⟩
 |h::rest,done,owner,L,g=>by
  rw[aT]at g;obtain⟨n,h1,h2,f⟩:=L.free e (by omega) h;obtain⟨a,c,d⟩:=a6d e rest (done++[h]) _ (L.put h1 h2) (by rw[aq,fR];omega);refine⟨a,?_,by rw[aH]at d;exact d⟩;rw[c_];rw[aH]at c;refine Eq.trans (aQ (λz=>List.foldl _ z rest) ?_) c;show(Option.bind (SetTable.layClean.free mask owner (SetTable.turns mask) (SetTable.bits h % (mask+1)) (SetTable.bits h)) λj=>some (owner.setIfInBounds j (some done.length),done.length+1))=_;rw[f,aq];rfl
theorem a6e{mask k:Nat}(d:mask+1=2 ^ k)(a:Array Int)(e:a.size<=mask):∃owner,SetTable.layClean mask a=some owner/\Lay mask owner a.toList:=by
 obtain⟨owner,b,c⟩:=a6d d a.toList [] _ (Lay.start mask) (by simpa using e);refine⟨owner,?_,c⟩;unfold SetTable.layClean;rw[<-Array.foldl_toList];exact aQ (Option.map (·.1)) b
theorem a7v{α β:Type}(f:α->Option β):∀l:List α,(∀x∈l,(f x).isSome=true)->(l.filterMap f).map some=l.map f
 |[],_=>rfl
 |x::l,h=>by
  have c:=a7v f l λy b=>h y (av _ b);have a:=h x ar;cases e:f x with
  |none=>rw[e]at a;cases a
  |some y=>rw[List.filterMap_cons_some e,aU,aU,c,e]
theorem b1c{α:Type}(es:Array α):(List.range es.size).filterMap (es[·]?)=es.toList:=by
 have h1:((List.range es.size).filterMap (es[·]?)).map some=(List.range es.size).map (es[·]?):=a7v _ _ λq a=>by
  have:=ba.mp a;simp[this]
 have h2:es.toList.map some=(List.range es.size).map (es[·]?):=by
  refine fN (by simp) λi h1 h2=>?_;simp at h1;simp[h1]
 exact(List.map_inj_right (λ_ _ h=>bx h)).mp (h1.trans h2.symm)
def C8(mask:Nat)(owner:Array (Option Nat)):List (Nat×Nat):=(List.range (mask+1)).filterMap λj=>(owner.getD j none).map (j,·)
theorem M7{mask:Nat}{owner:Array (Option Nat)}(hs:owner.size=mask+1)(j q:Nat):(j,q)∈C8 mask owner↔owner[j]?=some (some q):=by
 unfold C8;rw[cF];constructor
 .rintro⟨j',a,e⟩;have a:=ba.mp a;rw[fK]at e;obtain⟨f,b,c⟩:=e;cases c;rw[bM,bL (by omega)]at b;rw[bL (by omega)];exact aQ some b
 .intro e;have d:j<owner.size:=(cU.mp e).1;exact⟨j,ba.mpr (by omega),by rw[bM,e];rfl⟩
theorem b1U(mask:Nat)(owner:Array (Option Nat)):(C8 mask owner).Pairwise λa b=>a.1<b.1:=by
 unfold C8;refine List.Pairwise.filterMap _ (λa b c p d q e=>?_) List.pairwise_lt_range;rw[fK]at d e;obtain⟨_,_,rfl⟩:=d;obtain⟨_,_,rfl⟩:=e;exact c
theorem b4l{α:Type}{mask k:Nat}(F:mask+1=2 ^ k)(J:3<=k)(es:Array (Int×α))(G:es.size<=mask)(finger moves:Nat)(led plain:Bool) :
  ∃t' d,SetTable.laid mask finger moves led plain (es.map (·.1))=some (t',d)/\t'.mask=mask/\t'.led=led/\t'.plain=plain/\TabOk t' (d.filterMap (es[·]?))/\(d.filterMap (es[·]?)).toList.Perm es.toList:=by
 obtain⟨c,e,L⟩:=a6e F (es.map (·.1)) (by simpa using G);refine⟨{mask,place:=((C8 mask c).map (·.1)).toArray,dummies:=#[],finger,led,moves,plain},((C8 mask c).map (·.2)).toArray,?_,rfl,rfl,rfl,?_⟩
 .unfold SetTable.laid;rw[e];rfl
 have B:∀p∈C8 mask c,p.2<es.size:=λp o=>by
  obtain⟨h,h1,_⟩:=L.val p.1 p.2 ((M7 L.size p.1 p.2).mp o);have:=(aN.mp h1).1;simpa using this
 have w:=b1U mask c;have nd:((C8 mask c).map (·.2)).Nodup:=by
  rw[eQ,cn];refine w.imp_of_mem λ{a b} K N M z=>?_;have h1:=(M7 L.size a.1 a.2).mp K;have h2:=(M7 L.size b.1 b.2).mp N;rw[z]at h1;have:=L.uniq _ _ _ h1 h2;omega
 have g:∀q,q∈(C8 mask c).map (·.2)↔q∈List.range es.size:=λq=>by
  rw[ba];constructor
  .intro u;obtain⟨p,o,rfl⟩:=aW.mp u;exact B p o
  .intro u;obtain⟨j,s⟩:=L.ex q (by simpa using u);exact aW.mpr ⟨(j,q),(M7 L.size j q).mpr s,rfl⟩
 have perm:((C8 mask c).map (·.2)).Perm (List.range es.size):=(List.perm_ext_iff_of_nodup nd fO).mpr g;have r:∀l:List Nat,(l.toArray.filterMap (es[·]?)).toList=l.filterMap (es[·]?):=λl=>by simp
 have f:(((C8 mask c).map (·.2)).filterMap (es[·]?)).map some=((C8 mask c).map (·.2)).map (es[·]?):=a7v _ _ λq u=>by
  have:=ba.mp ((g q).mp u);simp[this]
 have v:(((C8 mask c).map (·.2)).toArray.filterMap (es[·]?)).size=(C8 mask c).length:=by
  have:=aQ List.length f;rw[ai,ai,ai]at this;rw[<-ax,r];exact this
 have t:(C8 mask c).length=es.size:=by
  have:=perm.length_eq;rw[ai,fE]at this;exact this
 refine⟨⟨?_,rfl,?_,λj s=>?_,⟨k,J,F⟩,by rw[v,t];exact G,λi j A x E=>?_⟩,?_⟩
 .rw[v];simp
 .rw[ris_list];show((C8 mask c).map (·.1)).Pairwise (· < ·);rw[cn];exact w
 .have s:j∈(C8 mask c).map (·.1):=by simpa using s
  obtain⟨p,o,rfl⟩:=aW.mp s;have:=(cU.mp ((M7 L.size p.1 p.2).mp o)).1;rw[L.size]at this;show p.1<=mask;omega
 .have x:((C8 mask c).map (·.1))[i]?=some j:=by simpa using x
  rw[<-au,r]at E;rw[aP,fK]at x;obtain⟨p,o,rfl⟩:=x;have h1:=aQ (λl=>l[i]?) f;simp only[aP,E,o,Option.map_some]at h1;injection h1 with h1
  have C:=(M7 L.size p.1 p.2).mp (aF o);obtain⟨h,y,n,H,I⟩:=L.val p.1 p.2 C;have O:h=A.1:=by
   rw[au,Array.getElem?_map,<-h1]at y;injection y with y
   exact y.symm
  rw[O]at H I;refine⟨n,H,λm P=>?_⟩;obtain⟨Q,D⟩:=(W2 L.size (a0Q mask _ m)).mp (I m P);have:pos mask A.1 m∈(C8 mask c).map (·.1):=aW.mpr ⟨_,(M7 L.size _ Q).mpr D,rfl⟩;show pos mask A.1 m∈((C8 mask c).map (·.1)).toArray;simpa using this
 .rw[r];refine(perm.filterMap _).trans (List.Perm.of_eq ?_);exact b1c es
theorem a8f(n:Nat):∀(fuel a:Nat),3<=a->n<2 ^ (a+fuel)->∃b,3<=b/\SetTable.sizeAbove.go n fuel (2 ^ a)=2 ^ b/\n<2 ^ b/\(b=a∨2 ^ b<=2*n)
 |0,a,c,h=>⟨a,c,rfl,h,.inl rfl⟩
 |fuel+1,a,c,h=>by
  unfold SetTable.sizeAbove.go;by_cases d:2 ^ a<=n
  .rw[ay d,<-df];obtain⟨b,e,f,g,i⟩:=a8f n fuel (a+1) (by omega) (by rw[dW,Nat.add_comm 1];exact h);refine⟨b,e,f,g,.inr ?_⟩;rcases i with z|z
   .rw[z,df];omega
   .exact z
  .rw[ao d];exact⟨a,c,rfl,by omega,.inl rfl⟩
theorem a0q(n:Nat)(h:n<2 ^ 60):∃b,3<=b/\SetTable.sizeAbove n=2 ^ b/\n<2 ^ b/\(b=3∨2 ^ b<=2*n) :=
 a8f n 64 3 (aj _) (aK h (by decide))
theorem a9j{α:Type}(t:SetTable)(es:Array (Int×α))(a:Nat)(hw:a<2 ^ 60)(m:es.size<a) :
  ∃t' c,t.relaid (es.map (·.1)) a=some (t',c)/\a<=t'.mask/\t'.mask<=2*a+7/\t'.led=t.led/\t'.plain=t.plain/\TabOk t' (c.filterMap (es[·]?))/\(c.filterMap (es[·]?)).toList.Perm es.toList:=by
 obtain⟨b,d,e,l,f⟩:=a0q a hw;have n:0<2 ^ b:=Nat.pow_pos (by decide);unfold SetTable.relaid;rw[e];obtain⟨t',c,h1,h2,g,h,i,j⟩:=b4l (mask:=2 ^ b-1) (k:=b) (by omega) d es (by omega) t.finger (t.movedTo (2 ^ b-1)) t.led t.plain;refine⟨t',c,h1,by rw[h2];omega,?_,g,h,i,j⟩;rw[h2];rcases f with z|z
 .rw[z];omega
 .omega
end Tab
end L2
namespace L2
namespace Tab
open PySem
section
variable {prog:Program}{w:World}{A:Around}{E:Value->Shared->Prop}{s:Shared}
abbrev TK(prog:Program)(w:World)(h:Heap)(r:List Int)(a:Addr):Prop:=IsTupleKey (intKind prog w) h r a
theorem TK.keep{h h':Heap}{r:List Int}{a:Addr}(x:TK prog w h r a)(k:∀b o,h.get? b=some o->h'.get? b=some o):TK prog w h' r a:=by
 obtain⟨o,its,n,h1,h2⟩:=x;exact⟨o,its,n,k _ _ h1,h2⟩
theorem items_int{r:List Int}{vs:List Value}(h:ItemsAre (intKind prog w) r vs):∀v∈vs,∃i t,v=.int i t:=by
 induction h with
 |nil=>intro v b;cases b
 |@cons k v ks vs h1 _ c =>
  intro u a;rcases aE.mp a with e|a
  .obtain⟨t,ht⟩:=Value.isInt_shape h1;exact⟨k,t,e.trans ht⟩
  .exact c u a
theorem a5U{r:List Int}{a:Addr}{Q:Bool->Shared->Prop}(e:TK prog w s.heap r a)(h:Q false s):wpAny (model prog w) A (ofAClassStatement 8 (.ref a)) Q E s:=by
 have f:=e.typeIs;obtain⟨o,d,n,g,_,hd,hi⟩:=e;have c:=items_int hi;unfold ofAClassStatement;refine aa (ez f ?_);dsimp only;rw[ay (by decide)];refine aa (ag ?_);rw[ao (by decide)];refine aa (cI g hd ?_);dsimp only;refine aa ?_;rw[<-Array.forIn_toList];refine wpAny_forIn_list _ (λrest b s'=>s'=s/\b.1=none/\∀v∈rest,∃i t,v=Value.int i t) _ ?_ ?_ _ _ ⟨rfl,rfl,c⟩
 .rintro x rest b s' ⟨rfl,hb,hr⟩;obtain⟨i,t,rfl⟩:=hr x ar;refine aa (m:=ofAClassStatement 7 (.int i t)) (ag ?_);rw[ao (by decide)];exact ag ⟨rfl,rfl,λv j=>hr v (av _ j)⟩
 .rintro b s' ⟨rfl,hb,_⟩;rw[hb];exact ag h
theorem b2I{r:List Int}{a:Addr}{Q:Bool->Shared->Prop}(e:TK prog w s.heap r a)(h:Q true s):wpAny (model prog w) A (hashByValue 8 (.ref a)) Q E s:=by
 have f:=e.typeIs;obtain⟨o,c,n,g,_,hd,hi⟩:=e;have d:=items_int hi;unfold hashByValue;refine aa (wpAny_specialOf f F.slot_tuple_hash.lookup ?_);dsimp only;refine aa (cI g hd ?_);refine aa ?_;show wpAny _ _ (forIn c _ _) _ _ _;rw[<-Array.forIn_toList];refine wpAny_forIn_list _ (λrest b s'=>s'=s/\b.1=none/\∀v∈rest,∃i t,v=Value.int i t) _ ?_ ?_ _ _ ⟨rfl,rfl,d⟩
 .rintro x rest b s' ⟨rfl,hb,hr⟩;obtain⟨i,t,rfl⟩:=hr x ar;refine aa (m:=hashByValue 7 (.int i t)) (ag ?_);rw[ao (by decide)];exact ag ⟨rfl,rfl,λv j=>hr v (av _ j)⟩
 .rintro b s' ⟨rfl,hb,_⟩;rw[hb];exact ag h
theorem b1R{r:List Int}{b:Addr}{l:List Value}{Q:Bool->Shared->Prop}(f:TK prog w s.heap r b)(g:∀y∈l,∃a b',y=.ref b'/\TK prog w s.heap a b')(h:Q false s):wpAny (model prog w) A (searchCouldBeSeen (.ref b) l) Q E s:=by
 unfold searchCouldBeSeen;refine aa ?_;refine wpAny_forIn_list _ (λrest c s'=>s'=s/\c.1=none/\∀y∈rest,∃a b',y=.ref b'/\TK prog w s.heap a b') _ ?_ ?_ _ _ ⟨rfl,rfl,g⟩
 .rintro x rest c s' ⟨rfl,hc,hr⟩;obtain⟨a,b',rfl,d⟩:=hr x ar;have e:∀y∈rest,∃a b',y=.ref b'/\TK prog w s'.heap a b':=λv i=>hr v (av _ i);dsimp only;split
  .exact ag ⟨rfl,rfl,e⟩
  .refine aa ((tupleKind (intKind prog w)).quiet f ?_);rw[ao (by decide)];refine aa ((tupleKind (intKind prog w)).quiet d ?_);rw[ao (by decide)];refine aa (a5U f ?_);rw[ao (by decide)];refine aa (a5U d ?_);rw[ao (by decide)];exact ag ⟨rfl,rfl,e⟩
 .rintro c s' ⟨rfl,hc,_⟩;dsimp only;rw[hc];exact ag h
noncomputable def hsh(prog:Program)(w:World)(r:List Int):Int:=tupleKeyHash (intKind prog w) r
noncomputable def ent(prog:Program)(w:World)(x:List Int×Addr):Int×Value:=(hsh prog w x.1,Value.ref x.2)
theorem F0{α:Type}{t:SetTable}{es:Array (Int×α)}(ok:TabOk t es):t.fits es.size=true:=by
 unfold SetTable.fits SetTable.fill;have:=ok.room;simp[ok.size,ok.dum,this]
theorem b6A{α:Type}{t:SetTable}{es:Array (Int×α)}(ok:TabOk t es):t.gaveWay=false:=by
 obtain⟨k,b,a⟩:=ok.pow;obtain⟨c,rfl⟩:∃c,k=c+1:=⟨k-1,by omega⟩;rw[df]at a;unfold SetTable.gaveWay;have:t.mask % 2=1:=by omega
 rw[this];rfl
theorem b1V{c:Bool}{m:Sem Bool}{X Y:Sem SetFound}{Q:SetFound->Shared->Prop}(b:∀a:Bool->Shared->Prop,a false s->wpAny (model prog w) A m a E s)(h:wpAny (model prog w) A Y Q E s):wpAny (model prog w) A (if c=true then m>>=λz=>if z=true then X else Y else Y) Q E s:=by
 split
 .refine aa (b _ ?_);rw[ao (by decide)];exact h
 .exact h
theorem a3G{a b:Addr}{r:List Int}{o:Obj}{es:Array (Int×Value)}{ep:Nat}{t:SetTable}{xs:List (List Int×Addr)}{Q:SetFound->Shared->Prop}(S:s.heap.get? a=some o)(hd:o.data=.set es ep t)(ok:TabOk t es)
  (F:∀e∈es.toList,∃x∈xs,e=ent prog w x) (M:∀x∈xs,ent prog w x∈es.toList) (g:∀x∈xs,TK prog w s.heap x.1 x.2) (R:TK prog w s.heap r b) (X:A.units<cLine) {N:Nat}(hN:N<10*SetTable.turns t.mask) (j:pos t.mask (hsh prog w r) N∉t.place) (q:∀m,m<N->pos t.mask (hsh prog w r) m∈t.place)
  (J:r∈xs.map (·.1)->Q (.there none) s) (B:r∉xs.map (·.1)->Q (.free (pos t.mask (hsh prog w r) N) false) s) :
  ∀(fuel d:Nat) (st:Option SetTable.Probe),N-d<fuel->d<=N->st.getD (t.probeStart (hsh prog w r))=B7 t.mask (st0 t.mask (hsh prog w r)) d->(∀m,m<d->∀(i:Nat) (x:List Int×Addr),x∈xs->t.place[i]?=some (pos t.mask (hsh prog w r) m)->es[i]?=some (ent prog w x)->x.1≠r) ->
   wpAny (model prog w) A (setSearchFrom a (.ref b) (hsh prog w r) true fuel st) Q E s
 |0,d,st,h,_,_,_=>absurd h (by omega)
 |fuel+1,d,st,hf,a2,U,L=>by
  unfold setSearchFrom;refine aa (cq S hd (F0 ok) ?_);dsimp only;rw[b6A ok,ao (by decide),U];have f:∀m,(B7 t.mask (B7 t.mask (st0 t.mask (hsh prog w r)) d) m).j=pos t.mask (hsh prog w r) (d+m):=λm=>by rw[<-a0l];rfl
  have W:∀(i:Nat) (e:Int×Value),es[i]?=some e->(es[i]?.map (·.1)).getD 0=e.1:=λi e z=>by rw[z];rfl
  have O:∀n,d+n<N↔pos t.mask (hsh prog w r) (d+n)∈t.place/\∀m,m<n->pos t.mask (hsh prog w r) (d+m)∈t.place:=λn=>by
   constructor
   .intro h;exact⟨q _ h,λm K=>q _ (by omega)⟩
   .rintro⟨h1,h2⟩;rcases dh (d+n) N with z|z|z
    .exact z
    .rw[z]at h1;exact absurd h1 j
    .have:=h2 (N-d) (by omega);rw[show d+(N-d)=N by omega]at this;exact absurd this j
  rcases a5Q ok.ris ok.dum (λi=>(es[i]?.map (·.1)).getD 0) (hsh prog w r) (10*SetTable.turns t.mask) (B7 t.mask (st0 t.mask (hsh prog w r)) d) (by rw[a0N];rfl) ⟨N-d,by omega,by rw[f,show d+(N-d)=N by omega];exact j⟩with⟨n,h1,h2,h3⟩|⟨n,h1,h2,h3,h4⟩
  .have h3:t.probe (λi=>(es[i]?.map (·.1)).getD 0) (hsh prog w r) (B7 t.mask (st0 t.mask (hsh prog w r)) d)=_:=h3;erw [h3];dsimp only;rw[f]at h1⊢;have e:d+n=N:=by
    rcases dh (d+n) N with z|z|z
    .exact absurd (q _ z) h1
    .exact z
    .have:=(h2 (N-d) (by omega)).1;rw[f,show d+(N-d)=N by omega]at this;exact absurd this j
   rw[e];refine ag (B λK=>?_);obtain⟨x,H,rfl⟩:=aW.mp K;obtain⟨i,hi⟩:=cm.mp (M x H);rw[au]at hi;have u:i<t.place.size:=by rw[ok.size];exact(cU.mp hi).1
   obtain⟨p,Y,Z⟩:=ok.reach i _ _ (a0E u) hi;change pos t.mask (hsh prog w x.1) p=_ at Y;change ∀m,m<p->pos t.mask (hsh prog w x.1) m∈t.place at Z;have k:t.place[i]?=some (pos t.mask (hsh prog w x.1) p):=by rw[Y];exact a0E u
   have a1:p<N:=by
    rcases dh p N with z|z|z
    .exact z
    .rw[z]at k;exact absurd (Array.mem_of_getElem? k) j
    .exact absurd (Z N z) j
   by_cases c:p<d
   .exact L p c i x H k hi rfl
   .have C:=(h2 (p-d) (by omega)).2;rw[f,show d+(p-d)=p by omega,a0I ok.ris k,W i _ hi]at C;exact C rfl
  .have h4:t.probe (λi=>(es[i]?.map (·.1)).getD 0) (hsh prog w r) (B7 t.mask (st0 t.mask (hsh prog w r)) d)=_:=h4;erw [h4];dsimp only;rw[f]at h1 h2⊢;have a0:d+n<N:=(O n).mpr ⟨h1,λm K=>by have:=(h3 m K).1;rw[f]at this;exact this⟩;have k:=(a1f ok.ris _).mpr h1;generalize I:SetTable.below t.place (pos t.mask (hsh prog w r) (d+n))=ib at h2 k⊢;have u:ib<es.size:=by rw[<-ok.size];exact(cU.mp k).1
   obtain⟨x,H,ex⟩:=F es[ib] (by simp);have D:es[ib]?=some (ent prog w x):=by rw[bL u,ex]
   rw[D];dsimp only;refine b1V (λQ' hq=>b1R R (λy hy=>?_) hq) ?_
   .obtain⟨e,P,rfl⟩:=aW.mp hy;have P:e∈es:=by
     have:=eF.mp P;exact(Array.mem_filter.mp this).1
    obtain⟨G,v,ex'⟩:=F e (by simpa using P);exact⟨G.1,G.2,by rw[ex'];rfl,g G v⟩
   refine aa (cc ((tupleKind (intKind prog w)).eqBool X (g x H) R ?_));refine aa (cq S hd (F0 ok) ?_);dsimp only;by_cases l:x.1=r
   .rw[ay (by rw[bu l];rfl)];exact ag (J (aW.mpr ⟨x,H,l⟩))
   .rw[ao (by rw[bq l];decide)];have sm:t.sameMemory t.moves t.mask=some true:=by unfold SetTable.sameMemory;simp
    rw[sm];dsimp only;rw[ay rfl,a8e ok.ris ok.dum,ay h1];dsimp only;rw[I,D];dsimp only;refine aa (wpAny_isSame_ref_self ?_);rw[ay rfl];refine aa (ag ?_);dsimp only;rw[ao (by rw[bq l];decide)];refine a3G S hd ok F M g R X hN j q J B fuel (d+n+1) _ (by omega) (by omega) (by rw[<-a0l];rfl) λm K i G v T hi=>?_;by_cases c:m<d
    .exact L m c i G v T hi
    .by_cases c2:m=d+n
     .subst c2;have:ib=i:=by rw[<-I];exact a0I ok.ris T
      subst this;rw[D]at hi;injection hi with hi
      have C:x.2=G.2:=by
       have:=aQ Prod.snd hi;injection this
      intro z;have V:=g x H;rw[C]at V;exact l ((V.inj (g G v)).trans z)
     .have C:=(h3 (m-d) (by omega)).2;rw[f,show d+(m-d)=m by omega,a0I ok.ris T,W i _ hi]at C;intro z;exact C (by rw[<-z];rfl)
def W7(prog:Program)(w:World)(ld:Bool)(h:Heap)(a:Addr)(xs:List (List Int×Addr)):Prop :=
 ∃o es ep t,h.get? a=some o/\o.ExactSet/\o.data=.set es ep t/\es.toList.Perm (xs.map (ent prog w))/\TabOk t es/\t.plain=true/\es.size*5<t.mask*3/\t.mask<=8*xs.length+7/\t.led=ld
theorem b7j{ld:Bool}{a b:Addr}{r:List Int}{xs:List (List Int×Addr)}{Q:Bool->Shared->Prop}(hS:W7 prog w ld s.heap a xs)(L:∀x∈xs,TK prog w s.heap x.1 x.2)(hk:TK prog w s.heap r b)(hu:A.units<cLine)(hl:xs.length<1000)
  (h:∀h' H c,Heap.SameBut a s.heap h'->W7 prog w ld h' a H->((r∈xs.map (·.1)/\H=xs)∨(r∉xs.map (·.1)/\H=(r,b)::xs))->Q c {s with heap:=h',toks:=s.toks+(r.length+1)}):wpAny (model prog w) A (setAdd a (.ref b)) Q E s:=by
 obtain⟨o,es,ep,t,I,C,hd,q,ok,F,a1,a0,P⟩:=hS;have a2:es.size=xs.length:=by rw[<-ax,q.length_eq,ai]
 unfold setAdd;refine cc (aa (wpAny_pyHash_tuple hu hk ?_));unfold setAddHashed;refine cc ?_;unfold setAddHashedIn;refine aa (cq (s:={s with toks:=s.toks+(r.length+1)}) I hd (F0 ok) ?_);dsimp only;rw[show byScan (.ref b) es=false from rfl,ao (by decide)];unfold setSearch;obtain⟨N,hN,J,K⟩:=ok.first (hsh prog w r);have a6:N<100000:=by unfold SetTable.turns at hN;omega
 refine aa (a3G (s:={s with toks:=s.toks+(r.length+1)}) (xs:=xs) I hd ok (λe he=>?_) (λx hx=>q.mem_iff.mpr (aW.mpr ⟨x,hx,rfl⟩)) L hk hu hN J K (λZ=>?_) (λB=>?_) 100000 0 none (by omega) (bo _) rfl (λm hm=>absurd hm (by omega)))
 .obtain⟨x,hx,rfl⟩:=aW.mp (q.mem_iff.mp he);exact⟨x,hx,rfl⟩
 .refine ag ?_;exact h s.heap xs false (Heap.SameBut.refl a s.heap) ⟨o,es,ep,t,I,C,hd,q,ok,F,a1,a0,P⟩ (.inl ⟨Z,rfl⟩)
 .dsimp only;refine aa (cq (s:={s with toks:=s.toks+(r.length+1)}) I hd (F0 ok) ?_);dsimp only;rw[ay (show(t.put (pos t.mask (hsh prog w r) N)).1.plain=true from F)];refine aa (b2I (s:={s with toks:=s.toks+(r.length+1)}) hk ?_);simp only[↓reduceIte,Bool.not_false,Bool.true_and];have k:=ok.add (v:=Value.ref b) J K (a0Q _ _ _) (by omega);have R:(t.put (pos t.mask (hsh prog w r) N)).1.mask=t.mask:=rfl;have p:(t.put (pos t.mask (hsh prog w r) N)).1.plain=true:=F;have n:(t.put (pos t.mask (hsh prog w r) N)).1.led=ld:=P;have W:(t.put (pos t.mask (hsh prog w r) N)).2<=es.size:=by
   have:=(G3 ok.ris (pos t.mask (hsh prog w r) N)).1;rw[ok.size]at this;exact this
  have O:=W1 es (t.put (pos t.mask (hsh prog w r) N)).2 (hsh prog w r,Value.ref b) W;change wpAny _ _ (storeSet a (SetTable.insertAt es (t.put (pos t.mask (hsh prog w r) N)).2 (hsh prog w r,Value.ref b)) _>>=_) _ _ _;generalize (t.put (pos t.mask (hsh prog w r) N)).1=l at k R p n⊢;generalize SetTable.insertAt es (t.put (pos t.mask (hsh prog w r) N)).2 (hsh prog w r,Value.ref b)=d at k O⊢;have u:d.toList.Perm (((r,b)::xs).map (ent prog w)):=by
   rw[O];refine List.perm_middle.trans ?_;rw[bp,aU];exact List.Perm.cons _ q
  have S:d.size=xs.length+1:=by rw[<-ax,u.length_eq,ai,aT]
  have T:d.size<=sizeLine:=by rw[aV];omega
  refine aa (wpAny_storeSet_of (s:={s with toks:=s.toks+(r.length+1)}) I hd ?_ T);have y:(s.heap.update a (Obj.putSet d l)).get? a=some {o with data:=.set d (ep+1) l}:=by
   have:=cL (Obj.putSet d l) I (by rw[putSet_of d l hd];rfl);rw[putSet_of d l hd]at this;exact this
  have V:=cA s.heap a (Obj.putSet d l);have M:l.fill=d.size:=by unfold SetTable.fill;rw[k.size,k.dum];rfl
  by_cases f:l.tooFull=true
  .rw[ay f];unfold SetTable.tooFull at f;rw[M,bC]at f;refine aa ?_;unfold setRelay;refine aa (cq (s:={s with heap:=s.heap.update a (Obj.putSet d l),toks:=s.toks+(r.length+1)}) y rfl (F0 k) ?_);dsimp only;have Y:SetTable.grown (es.size+1)=4*(xs.length+1):=by
    unfold SetTable.grown;rw[ao (by omega),a2];omega
   rw[Y];obtain⟨sb,a5,a3,a8,a4⟩:=a0q (4*(xs.length+1)) (by omega);have a7:SetTable.sizeAbove (4*(xs.length+1))<=16000:=by
    rw[a3];rcases a4 with z|z
    .rw[z];decide
    .omega
   rw[ao (by rw[aV];omega)];obtain⟨G,g,r1,r2,r3,r4,r5,U,D⟩:=a9j l d (4*(xs.length+1)) (by omega) (by omega);rw[r1];have i:(g.filterMap (d[·]?)).size=d.size:=by rw[<-ax,D.length_eq,ax]
   refine aa ?_;show wpAny _ _ (if ((g.filterMap (d[·]?)).size != d.size)=true then _ else pure (g.filterMap (d[·]?),G)) _ _ _;rw[ao (by rw[i];simp)];refine ag ?_;dsimp only;generalize g.filterMap (d[·]?)=j at U D i⊢;refine wpAny_storeSet_of (s:={s with heap:=s.heap.update a (Obj.putSet d l),toks:=s.toks+(r.length+1)}) y rfl ?_ (by rw[i];exact T);have X:((s.heap.update a (Obj.putSet d l)).update a (Obj.putSet j G)).get? a=some {o with data:=.set j (ep+1+1) G}:=by
    have:=cL (Obj.putSet j G) y (by rw[putSet_of j G rfl];rfl);rw[putSet_of j G rfl]at this;exact this
   refine ag (h _ ((r,b)::xs) true (V.trans (cA _ a _)) ⟨_,j,_,G,X,C,rfl,D.trans u,U,by rw[r5];exact p,?_,?_,by rw[r4];exact n⟩ (.inr ⟨B,rfl⟩))
   .rw[i,S];omega
   .rw[aT];omega
  .rw[ao f];unfold SetTable.tooFull at f;rw[M,bC]at f;refine ag (h _ ((r,b)::xs) true V ⟨_,d,_,l,y,C,rfl,u,k,p,by omega,?_,n⟩ (.inr ⟨B,rfl⟩));rw[aT,R];omega
end
end Tab
end L2
namespace L2
namespace Tab
open PySem
structure Came(rows:Nat->List Int×Addr)(i:Nat)(xs:List (List Int×Addr)):Prop where
 len:xs.length<=i
 nd:(xs.map (·.1)).Nodup
 from_:∀x∈xs,∃j,j<i/\x=rows j
 all:∀j,j<i->(rows j).1∈xs.map (·.1)
section
variable {prog:Program}{w:World}{A:Around}{R:Result->Shared->Prop}{I:Addr}{fp wr:List Addr}{G:Array GenState->Array GenState->Prop}{n:Nat}{P:Nat->Value->Prop}{St:Nat->Shared->Prop}
theorem a5w(W:WalksS prog w A.in1 I fp wr G n P St)(S:Addr)(D:S∉fp){ld:Bool}{h0:Heap}(L:∀b o,h0.get? b=some o->b∉wr/\b≠S)(a:Nat->List Int×Addr)
  (K:∀i v,i<n->P i v->v=.ref (a i).2) (l:∀i,i<n->TK prog w h0 (a i).1 (a i).2) (hn:n<=1000) (hu:A.units+10<cLine) :
  ∀(k i:Nat) (s:Shared) (xs:List (List Int×Addr)),n-i=k->i<=n->St i s->(∀b o,h0.get? b=some o->s.heap.get? b=some o)->W7 prog w ld s.heap S xs->Came a i xs ->
   (∀s' f,Moved (S::wr) G s s'->W7 prog w ld s'.heap S f->Came a n f->R (.ok (.ret .none)) s') ->
   codeAny (model prog w) A (.builtin "set.update.loop" ⟨[.ref S,.ref I],[]⟩) R s:=by
 have E:S∉wr:=λh=>D (W.sub _ h);have m:∀b∈wr,b∈S::wr:=λb F=>av _ F;intro k;induction k with
 |zero =>
  intro i s xs hk hi r y T d hR;have X:i=n:=by omega
  subst X;refine dG PyProof.Rows.F.entry_set_update_loop ?_;rw[dJ dz _];show wpAny _ A.in1 (pyNext (.ref I)>>=_) _ _ s;refine aa (W.done s _ _ r λs' u=>?_);show wpAny _ A.in1 (ret Value.none) _ _ s';refine ag (hR s' xs (u.mono m) ?_ d);obtain⟨o,es,ep,t,Y,rest⟩:=T;exact⟨o,es,ep,t,u.heap S _ E Y,rest⟩
 |succ k ih =>
  intro i s xs hk hi r y T d hR;have g:i<n:=by omega
  refine dG PyProof.Rows.F.entry_set_update_loop ?_;rw[dJ dz _];show wpAny _ A.in1 (pyNext (.ref I)>>=_) _ _ s;refine aa (W.item i s _ _ g r λv s' hP J u=>?_);obtain rfl:=K i v g hP;have U:W7 prog w ld s'.heap S xs:=by
   obtain⟨o,es,ep,tb,Y,rest⟩:=T;exact⟨o,es,ep,tb,u.heap S _ E Y,rest⟩
  have p:∀b o,h0.get? b=some o->s'.heap.get? b=some o:=λb o e=>u.heap b o (L b o e).1 (y b o e);show wpAny _ A.in1 (holding [Value.ref (a i).2] (setAdd S (.ref (a i).2))>>=_) _ _ s';refine aa (cc (b7j U (λx M=>?_) ((l i g).keep p) (show A.units+1<cLine by omega) (by have:=d.len;omega) λh' f c q V Z=>?_))
  .obtain⟨j,O,rfl⟩:=d.from_ x M;exact(l j (by omega)).keep p
  have Q:Came a (i+1) f:=by
   rcases Z with⟨h1,rfl⟩|⟨h1,rfl⟩
   .refine⟨by have:=d.len;omega,d.nd,λx M=>?_,λj O=>?_⟩
    .obtain⟨j,O,e⟩:=d.from_ x M;exact⟨j,by omega,e⟩
    .by_cases c:j=i
     .rw[c];exact h1
     .exact d.all j (by omega)
   .refine⟨by have:=d.len;rw[aT];omega,by rw[aU,cw];exact⟨h1,d.nd⟩,λx M=>?_,λj O=>?_⟩
    .rcases aE.mp M with z|z
     .exact⟨i,by omega,z⟩
     .obtain⟨j,O,e⟩:=d.from_ x z;exact⟨j,by omega,e⟩
    .rw[aU];by_cases c:j=i
     .rw[c];exact ar
     .exact av _ (d.all j (by omega))
  refine ag ⟨plainId_quiet dz _,ih (i+1) _ f (by omega) g (W.frame _ s' _ _ J (cf _ _) λb F o e=>?_) (λb o e=>?_) V Q λa0 N H C B=>?_⟩
  .rw[q.2 b (λh:b=S=>D (by rw[<-h];exact F))];exact e
  .show h'.get? b=some o;rw[q.2 b (L b o e).2];exact p b o e
  .refine hR a0 N (Moved.trans W.gtrans ((u.mono m).then_heap (cf _ _) λb o F e=>?_) H) C B;rw[q.2 b (λh:b=S=>F (by rw[h];exact ar))];exact e
end
section
variable {prog:Program}{w:World}{A:Around}{E:Value->Shared->Prop}{s:Shared}
theorem a0c(a:Value){Q₁:Value->Shared->Prop}
  (h:Q₁ (.ref s.heap.objs.size) {s with heap:=s.heap.push {cls:=.type "set",dict:=none,data:=.set #[] 0 (.fresh 0 0 (!w.params.followText "set-order"))}}) :
  codeAny (model prog w) A (.call (.builtin "set.__new__") ⟨[.type "set",a],[]⟩) (wants Q₁ E) s:=by
 refine codeAny_of_tree ?_;show wpAny _ A.in1 (do checkBuiltinCall "set.__new__" ⟨[.type "set",a],[]⟩;again (.builtin "set.__new__" ⟨[.type "set",a],[]⟩)) _ _ s;refine aa (wpAny_of_eq (PySem.F.newCall_set_1 a) (ag ⟨plainId_quiet PySem.F.plain_set_new _,dG PySem.F.entry_set_new ?_⟩));rw[dJ PySem.F.plain_set_new _];unfold Builtin.«set.__new__» Builtin.Frozenset.newClass;have b:=sub_set_self;obtain⟨c,g,d,tk,os⟩:=s;dsimp only
 wp_walk
 refine eM (ag ?_);dsimp only;simp only[newObj];refine aa (wpAny_alloc (ag ?_));exact ag h
theorem a3F{c:Bool}{h:Heap}{a:Addr}(e:h.get? a=some {cls:=.type "set",dict:=none,data:=.set #[] 0 (.fresh 0 0 c)}):W7 prog w c h a [] :=
 ⟨_,#[],0,_,e,⟨rfl,rfl,rfl⟩,rfl,List.Perm.nil,⟨rfl,rfl,λa b h1 h2=>absurd h2 (by simp[SetTable.fresh]),λj d=>by simp[SetTable.fresh]at d,⟨3,aj _,rfl⟩,bo _,λi j e h1 h2=>by simp at h2⟩,rfl,by show 0*5<7*3;decide,by show 7<=8*0+7;decide,rfl⟩
theorem a4q:isSubtype (.type "list") (.type "set")=pure false:=by rw[dQ];kernel_rfl
theorem a0e:isSubtype (.type "list") (.type "frozenset")=pure false:=by rw[dQ];kernel_rfl
theorem a3v{l:Addr}{items:Array Value}{d:Nat->List Int×Addr}{Q:Value->Shared->Prop}
  (hh:A.handled=none) (hl:s.heap.IsList l items) (z:∀i v,i<items.size->items[i]?=some v->v=.ref (d i).2) (y:∀i,i<items.size->TK prog w s.heap (d i).1 (d i).2) (hn:items.size<=1000) (hu:A.units+20<cLine)
  (h:∀(h':Heap) (tk:Nat) (xs:List (List Int×Addr)),W7 prog w (!w.params.followText "set-order") h' s.heap.objs.size xs->Came d items.size xs ->
   (∀b o,b<s.heap.objs.size->s.heap.get? b=some o->h'.get? b=some o)->Q (.ref s.heap.objs.size) {s with heap:=h',toks:=tk}) :
  wpAny (model prog w) A (call (.type "set") [.ref l]) Q E s:=by
 obtain⟨c,tl,T⟩:=PySem.F.called_set.mro;have J:=PySem.F.called_set.made;have W:=PySem.F.called_set.sub;refine wpAny_call (codeAny_of_tree ?_);show wpAny _ _ (callAny (.type "set") _) _ _ _;refine ag ⟨Code.quiet_builtin _ (by decide +kernel),dG PySem.F.entry_type_call ?_⟩;rw[Around.under_plain (weight_type_call_type "set" [.ref l] []) rfl];have h1:=PySem.F.called_set.notType;have h2:=PySem.F.called_set.canCreate;have a1:=PySem.F.typeCall_set_1 (.ref l)
 repeat (any_goals (first|assumption|wp_step))
 refine dt (a0c (.ref l) (E:=E) (Q₁:=λobj s₁=>obj=.ref s.heap.objs.size/\s₁={s with heap:=s.heap.push {cls:=.type "set",dict:=none,data:=.set #[] 0 (.fresh 0 0 (!w.params.followText "set-order"))}}) ⟨rfl,rfl⟩) λr s₁ K=>?_;cases r with
 |error e=>exact K
 |ok fl =>
  cases fl with
  |ret obj =>
   obtain⟨rfl,rfl⟩:=K;generalize a2:(!w.params.followText "set-order")=a at h;have P:(s.heap.push {cls:=.type "set",dict:=none,data:=.set #[] 0 (.fresh 0 0 a)}).get? s.heap.objs.size=some {cls:=.type "set",dict:=none,data:=.set #[] 0 (.fresh 0 0 a)}:=aG _ rfl;have hT:Shared.TypeIs {s with heap:=s.heap.push {cls:=.type "set",dict:=none,data:=.set #[] 0 (.fresh 0 0 a)}} (.ref s.heap.objs.size) "set":=⟨_,P,rfl⟩;have a3:=PySem.F.called_set.init.lookup;have a0:=PySem.F.called_set.init.bind (.ref s.heap.objs.size)
   repeat (any_goals (first|assumption|wp_step))
   refine dt (codeAny_call_builtin (R:=wants (λr s₂=>r=.none/\∃h' tk xs,s₂={s with heap:=h',toks:=tk}/\W7 prog w a h' s.heap.objs.size xs/\Came d items.size xs /\
     (∀b o,b<s.heap.objs.size->s.heap.get? b=some o->h'.get? b=some o)) E) PySem.F.called_set.init.plain PySem.F.entry_set_init (check_set_init_1 hT ?_)) λr₂ s₂ hr₂=>?_
   .obtain⟨ol,hol,hcl,nl,hdl⟩:=hl;obtain⟨X,m,L,f⟩:=ol;simp only at hcl hdl;subst hcl;subst hdl;have u:(s.heap.push {cls:=.type "set",dict:=none,data:=.set #[] 0 (.fresh 0 0 a)}).get? l=some {cls:=.type "list",dict:=m,data:=.seq items nl,slots:=f}:=ae _ hol;have V:=a4q;have U:=a0e;have a4:(Value.type "list"==Value.type "dict")=false:=by decide
    have p:(s.heap.push {cls:=.type "set",dict:=none,data:=.set #[] 0 (.fresh 0 0 a)}).IsList l items:=⟨_,u,rfl,nl,rfl⟩;unfold Builtin.«set.__init__» noKeywords Builtin.Frozenset.updateFrom;generalize C:pyIter=PI
    wp_walk
    subst C;refine fu p ?_;refine aa (wpAny_runValue ?_);have q:l<s.heap.objs.size:=aI hol;have H:A.in1.in1.in1.handled=none:=by simp[hh]
    have t:l≠(s.heap.push {cls:=.type "set",dict:=none,data:=.set #[] 0 (.fresh 0 0 a)}).objs.size:=by
     rw[bt];exact aM (bY q)
    have D:s.heap.objs.size∉[(s.heap.push {cls:=.type "set",dict:=none,data:=.set #[] 0 (.fresh 0 0 a)}).objs.size,l]:=by
     rw[bt];simp only[aE,aD,bF,cS,not_or];exact⟨aM (bU _),dr q⟩
    have n:((s.heap.push {cls:=.type "set",dict:=none,data:=.set #[] 0 (.fresh 0 0 a)}).push {cls:=.type "list_iterator",data:=.fields #[.ref l,.int 0 0]}).get? s.heap.objs.size
       = some {cls:=.type "set",dict:=none,data:=.set #[] 0 (.fresh 0 0 a)}:=ae _ P
    refine a5w (ld:=a) (h0:=s.heap) ((Walks.list H _ l t items).toS) s.heap.objs.size D (λb o e=>?_) d z y hn (show A.units+2+10<cLine by omega) (items.size-0) 0 _ [] (by omega) (bo _)
     ⟨⟨_,aG _ rfl,rfl,rfl⟩,(p.push _)⟩ (λb o e=>ae _ (ae _ e)) (a3F n) ⟨aj _,fm,(λx hx=>nomatch hx),λj hj=>absurd hj (Nat.not_lt_zero j)⟩ ?hR
    .have:=aI e;rw[bt];simp only[aE,bF,cS];exact⟨aM (bY this),aM this⟩
    case hR =>
     intro s' O B k g;obtain⟨h',g',Y,N,M⟩:=s';have eg:g'=s.gens:=B.gens;have Z:Y=s.drawn:=B.drawn;have eo:M=s.os:=B.os;subst eg;subst Z;subst eo;show wpAny _ _ _ _ _ _;refine ag ?_;show wpAny _ _ (ret Value.none) _ _ _;refine ag ⟨rfl,h',N,O,rfl,k,g,λb o S e=>?_⟩;have F:b≠s.heap.objs.size:=aM S;have G:b≠(s.heap.push {cls:=.type "set",dict:=none,data:=.set #[] 0 (.fresh 0 0 a)}).objs.size:=by
      rw[bt];exact aM (bY S)
     exact B.heap b o (by simp only[aE,aD,bF,cS,not_or];exact⟨F,G⟩) (ae _ (ae _ e))
   .cases r₂ with
    |error e=>exact hr₂
    |ok fl₂ =>
     cases fl₂ with
     |ret r =>
      obtain⟨rfl,h',tk,xs,rfl,k,g,I⟩:=hr₂
      repeat (any_goals (first|assumption|wp_step))
      exact h _ _ _ k g I
     |_=>exact hr₂.elim
  |_=>exact K.elim
theorem a3o:isSubtype (.type "tuple") (.type "set")=pure false:=by rw[dQ];kernel_rfl
theorem Z5:isSubtype (.type "tuple") (.type "frozenset")=pure false:=by rw[dQ];kernel_rfl
theorem a3g{l:Addr}{items:Array Value}{d:Nat->List Int×Addr}{Q:Value->Shared->Prop}
  (hh:A.handled=none) (hl:s.heap.IsTuple l items) (z:∀i v,i<items.size->items[i]?=some v->v=.ref (d i).2) (y:∀i,i<items.size->TK prog w s.heap (d i).1 (d i).2) (hn:items.size<=1000) (hu:A.units+20<cLine)
  (h:∀(h':Heap) (tk:Nat) (xs:List (List Int×Addr)),W7 prog w (!w.params.followText "set-order") h' s.heap.objs.size xs->Came d items.size xs ->
   (∀b o,b<s.heap.objs.size->s.heap.get? b=some o->h'.get? b=some o)->Q (.ref s.heap.objs.size) {s with heap:=h',toks:=tk}) :
  wpAny (model prog w) A (call (.type "set") [.ref l]) Q E s:=by
 obtain⟨c,tl,T⟩:=PySem.F.called_set.mro;have J:=PySem.F.called_set.made;have W:=PySem.F.called_set.sub;refine wpAny_call (codeAny_of_tree ?_);show wpAny _ _ (callAny (.type "set") _) _ _ _;refine ag ⟨Code.quiet_builtin _ (by decide +kernel),dG PySem.F.entry_type_call ?_⟩;rw[Around.under_plain (weight_type_call_type "set" [.ref l] []) rfl];have h1:=PySem.F.called_set.notType;have h2:=PySem.F.called_set.canCreate;have a1:=PySem.F.typeCall_set_1 (.ref l)
 repeat (any_goals (first|assumption|wp_step))
 refine dt (a0c (.ref l) (E:=E) (Q₁:=λobj s₁=>obj=.ref s.heap.objs.size/\s₁={s with heap:=s.heap.push {cls:=.type "set",dict:=none,data:=.set #[] 0 (.fresh 0 0 (!w.params.followText "set-order"))}}) ⟨rfl,rfl⟩) λr s₁ K=>?_;cases r with
 |error e=>exact K
 |ok fl =>
  cases fl with
  |ret obj =>
   obtain⟨rfl,rfl⟩:=K;generalize a2:(!w.params.followText "set-order")=a at h;have P:(s.heap.push {cls:=.type "set",dict:=none,data:=.set #[] 0 (.fresh 0 0 a)}).get? s.heap.objs.size=some {cls:=.type "set",dict:=none,data:=.set #[] 0 (.fresh 0 0 a)}:=aG _ rfl;have hT:Shared.TypeIs {s with heap:=s.heap.push {cls:=.type "set",dict:=none,data:=.set #[] 0 (.fresh 0 0 a)}} (.ref s.heap.objs.size) "set":=⟨_,P,rfl⟩;have a3:=PySem.F.called_set.init.lookup;have a0:=PySem.F.called_set.init.bind (.ref s.heap.objs.size)
   repeat (any_goals (first|assumption|wp_step))
   refine dt (codeAny_call_builtin (R:=wants (λr s₂=>r=.none/\∃h' tk xs,s₂={s with heap:=h',toks:=tk}/\W7 prog w a h' s.heap.objs.size xs/\Came d items.size xs /\
     (∀b o,b<s.heap.objs.size->s.heap.get? b=some o->h'.get? b=some o)) E) PySem.F.called_set.init.plain PySem.F.entry_set_init (check_set_init_1 hT ?_)) λr₂ s₂ hr₂=>?_
   .obtain⟨ol,hol,hcl,nl,hdl⟩:=hl;obtain⟨X,m,L,f⟩:=ol;simp only at hcl hdl;subst hcl;subst hdl;have u:(s.heap.push {cls:=.type "set",dict:=none,data:=.set #[] 0 (.fresh 0 0 a)}).get? l=some {cls:=.type "tuple",dict:=m,data:=.seq items nl,slots:=f}:=ae _ hol;have V:=a3o;have U:=Z5;have a4:(Value.type "tuple"==Value.type "dict")=false:=by decide
    have p:(s.heap.push {cls:=.type "set",dict:=none,data:=.set #[] 0 (.fresh 0 0 a)}).IsTuple l items:=⟨_,u,rfl,nl,rfl⟩;unfold Builtin.«set.__init__» noKeywords Builtin.Frozenset.updateFrom;generalize C:pyIter=PI
    wp_walk
    subst C;refine wpAny_pyIter_tuple p ?_;refine aa (wpAny_runValue ?_);have q:l<s.heap.objs.size:=aI hol;have H:A.in1.in1.in1.handled=none:=by simp[hh]
    have t:l≠(s.heap.push {cls:=.type "set",dict:=none,data:=.set #[] 0 (.fresh 0 0 a)}).objs.size:=by
     rw[bt];exact aM (bY q)
    have D:s.heap.objs.size∉[(s.heap.push {cls:=.type "set",dict:=none,data:=.set #[] 0 (.fresh 0 0 a)}).objs.size,l]:=by
     rw[bt];simp only[aE,aD,bF,cS,not_or];exact⟨aM (bU _),dr q⟩
    have n:((s.heap.push {cls:=.type "set",dict:=none,data:=.set #[] 0 (.fresh 0 0 a)}).push {cls:=.type "tuple_iterator",data:=.fields #[.ref l,.int 0 0]}).get? s.heap.objs.size
       = some {cls:=.type "set",dict:=none,data:=.set #[] 0 (.fresh 0 0 a)}:=ae _ P
    refine a5w (ld:=a) (h0:=s.heap) ((Walks.tuple H _ l t items).toS) s.heap.objs.size D (λb o e=>?_) d z y hn (show A.units+2+10<cLine by omega) (items.size-0) 0 _ [] (by omega) (bo _)
     ⟨⟨_,aG _ rfl,rfl,rfl⟩,(p.push _)⟩ (λb o e=>ae _ (ae _ e)) (a3F n) ⟨aj _,fm,(λx hx=>nomatch hx),λj hj=>absurd hj (Nat.not_lt_zero j)⟩ ?hR
    .have:=aI e;rw[bt];simp only[aE,bF,cS];exact⟨aM (bY this),aM this⟩
    case hR =>
     intro s' O B k g;obtain⟨h',g',Y,N,M⟩:=s';have eg:g'=s.gens:=B.gens;have Z:Y=s.drawn:=B.drawn;have eo:M=s.os:=B.os;subst eg;subst Z;subst eo;show wpAny _ _ _ _ _ _;refine ag ?_;show wpAny _ _ (ret Value.none) _ _ _;refine ag ⟨rfl,h',N,O,rfl,k,g,λb o S e=>?_⟩;have F:b≠s.heap.objs.size:=aM S;have G:b≠(s.heap.push {cls:=.type "set",dict:=none,data:=.set #[] 0 (.fresh 0 0 a)}).objs.size:=by
      rw[bt];exact aM (bY S)
     exact B.heap b o (by simp only[aE,aD,bF,cS,not_or];exact⟨F,G⟩) (ae _ (ae _ e))
   .cases r₂ with
    |error e=>exact hr₂
    |ok fl₂ =>
     cases fl₂ with
     |ret r =>
      obtain⟨rfl,h',tk,xs,rfl,k,g,I⟩:=hr₂
      repeat (any_goals (first|assumption|wp_step))
      exact h _ _ _ k g I
     |_=>exact hr₂.elim
  |_=>exact K.elim
end
end Tab
end L2
namespace L2
namespace Tab
open PySem PySem.W
theorem a3d{α:Type}:∀(l:List α) (i:Nat) (h:i<l.length),([l[i]]++l.eraseIdx i).Perm l
 |x::l,0,_=>by simp
 |x::l,i+1,h=>by
  have a:=a3d l i (by simpa using h);simp only[List.getElem_cons_succ,List.eraseIdx_cons_succ,List.singleton_append];exact(List.Perm.swap x (l[i]'(by simpa using h)) _).trans (List.Perm.cons x a)
theorem a8m{α:Type}(next:Nat->Nat):∀(fuel k:Nat) (left:List α) (out:Array α),left.length=fuel->(pickOrder.go next fuel k left out).toList.Perm (out.toList++left)
 |0,k,left,out,h=>by
  rw[ft.mp h,cY];exact List.Perm.refl _
 |fuel+1,k,left,out,h=>by
  unfold pickOrder.go;have hi:next k % left.length<left.length:=fq _ (by omega)
  rw[ak hi];dsimp only;refine(a8m next fuel (k+1) _ _ (by rw[List.length_eraseIdx_of_lt hi];omega)).trans ?_;rw[cT,aH];exact ck _ (a3d left _ hi)
theorem a9s{α:Type}(next:Nat->Nat)(xs:Array α):(pickOrder next xs).toList.Perm xs.toList:=by
 have:=a8m next xs.size 0 xs.toList #[] (by simp)
 rw[show(#[]:Array α).toList=[] from rfl,bS]at this;exact this
theorem slot_seti_next:Slot "set_iterator" "__next__" "set_iterator.__next__" :=
 .of (owner:="set_iterator") (n:="__next__") (by rw[typeLookup_type,fS];kernel_rfl) (by decide +kernel) (by decide +kernel) (by decide +kernel)
  (by first|exact .inl (by decide +kernel)|exact .inr (by decide +kernel)) (by rw[dQ];kernel_rfl)
theorem U8:entryFor table "set_iterator.__next__"=some Builtin.«set_iterator.__next__»:=entryFor_of_tree (by kernel_rfl)
theorem W6(a:Value):argsOk "set_iterator.__next__" ⟨[a],[]⟩:=by
 unfold argsOk;kernel_rfl
theorem V4:Slot "set_iterator" "__iter__" "set_iterator.__iter__" :=
 .of (owner:="set_iterator") (n:="__iter__") (by rw[typeLookup_type,fS];kernel_rfl) (by decide +kernel) (by decide +kernel) (by decide +kernel)
  (by first|exact .inl (by decide +kernel)|exact .inr (by decide +kernel)) (by rw[dQ];kernel_rfl)
theorem a3e:entryFor table "set.__iter__"=some Builtin.«frozenset.__iter__» :=
 entryFor_alias (id':="frozenset.__iter__") (by kernel_rfl) rfl (by decide +kernel) (by kernel_rfl)
structure SRaw(h:Heap)(a:Addr)(es:Array (Int×Value))(ep:Nat)(t:SetTable):Prop where
 ex:∃o,h.get? a=some o/\o.ExactSet/\o.data=.set es ep t
 ok:TabOk t es
 plain:t.plain=true
section
variable {prog:Program}{w:World}{A:Around}{E:Value->Shared->Prop}{s:Shared}{a it:Addr}{es:Array (Int×Value)}{ep i:Nat}{t:SetTable}
theorem SRaw.typ(x:SRaw s.heap a es ep t):s.TypeIs (.ref a) "set":=let ⟨o,h1,h2,_⟩:=x.ex;⟨o,h1,h2.1⟩
theorem b2m{Q:Bool->Shared->Prop}(e:s.TypeIs (.ref a) "set")(h:Q false s):wpAny (model prog w) A (Builtin.List.listLengthHint (.ref a)) Q E s:=by
 unfold Builtin.List.listLengthHint;refine aa (wpAny_specialOf e PySem.F.slot_set_len.lookup ?_);generalize d:("set.__len__" : String)=f
 wp_delta
 rw[show splitId f=some ("set","__len__")from by subst d;decide +kernel];subst d;refine aa (fM (T:="set") (b:=true) e (by rw[dQ];kernel_rfl) ?_);refine wpAny_ite_split (λc=>absurd c (by decide)) (λ_=>?_);refine wpAny_ite_split (λ_=>?_) (λc=>absurd (by decide +kernel) c);refine aa (ez e ?_);exact ag h
def V6(w:World)(a:Addr)(ep:Nat)(es:Array (Int×Value)):Array (Int×Value):=if w.params.followText "set-order"=true then pickOrder (w.params.setOrder a ep) es else es
theorem ord_perm:(V6 w a ep es).toList.Perm es.toList:=by
 unfold V6;split
 .exact a9s _ _
 .exact List.Perm.refl _
def a1z(w:World)(t:SetTable):Nat->Nat
 |0=>0
 |i+1=>if w.params.followText "set-order"=true then 0 else t.place.getD i 0+1
def SetIt(w:World)(h:Heap)(it a:Addr)(i n ep:Nat)(t:SetTable):Prop:=∃o,h.get? it=some o/\o.cls=.type "set_iterator"/\o.data=.fields #[rawInt (a1z w t i),rawInt i,.ref a,rawInt n,rawInt ep]
theorem b0S{Q:Value->Shared->Prop}(D:SRaw s.heap a es ep t)
  (q:Q (.ref s.heap.objs.size) {s with heap:=s.heap.push {cls:=.type "set_iterator",data:=.fields #[rawInt 0,rawInt 0,.ref a,rawInt es.size,rawInt ep]}}):wpAny (model prog w) A (pyIter (.ref a)) Q E s:=by
 have ty:=D.typ;obtain⟨o,b,_,c⟩:=D.ex;refine wpAny_pyIter_slot ty PySem.F.slot_set_iter (bI PySem.F.slot_set_iter ty a3e ?body (PySem.F.args_set_iter_1 _))
 case body =>
  unfold Builtin.«frozenset.__iter__» Builtin.Frozenset.slot0;refine aa (aa (ag (ag ?_)));unfold Builtin.Frozenset.sizeOf setEntries;refine aa (aa (aa (cq b c (F0 D.ok) (ag (ag ?_)))));unfold setDrawn setsByText;refine aa (aa (cq b c (F0 D.ok) ?_));dsimp only;refine aa (aa (eM (ag (ag ?_))));dsimp only;rw[ao (λz=>by
   have d:=(aL _ _ ▸ z).2;change (!t.plain && decide (es.size > 1))=true at d;rw[D.plain]at d;cases d)]
  refine aa (ag ?_);refine aa (wpAny_setEpoch_of b c (F0 D.ok) ?_);refine aa (bX (ag ⟨_,rfl,"set_iterator",_,⟨_,aG _ rfl,rfl⟩,slot_seti_next.lookup,?_⟩));exact q
theorem SetIt.typ{it a:Addr}{i n ep:Nat}{t:SetTable}(x:SetIt w s.heap it a i n ep t):s.TypeIs (.ref it) "set_iterator":=let ⟨o,h1,h2,_⟩:=x;⟨o,h1,h2⟩
theorem b0P(D:SRaw s.heap a es ep t)(e:w.params.followText "set-order"=false){i:Nat}(hi:i<=es.size):SetTable.below t.place (a1z w t i)=i:=by
 obtain⟨d,b,c⟩:=G3 D.ok.ris (a1z w t i);have f:=D.ok.size;cases i with
 |zero =>
  rcases Nat.eq_zero_or_pos (SetTable.below t.place (a1z w t 0))with z|z
  .exact z
  .have:=b 0 z;exact absurd this (Nat.not_lt_zero _)
 |succ i =>
  have hs:a1z w t (i+1)=t.place.getD i 0+1:=by
   show(if w.params.followText "set-order"=true then 0 else t.place.getD i 0+1)=_;rw[e,ao (by decide)]
  rw[hs]at d b c⊢;rcases dh (SetTable.below t.place (t.place.getD i 0+1)) (i+1)with z|z|z
  .have:=c i (by omega) (by omega);omega
  .exact z
  .have h1:=b (i+1) z;have h2:=D.ok.ris i (i+1) (by omega) (by omega);omega
theorem a5E(D:SRaw s.heap a es ep t)(d:t.led=!w.params.followText "set-order"){i:Nat}{Q:Option (Value×Nat)->Shared->Prop}(hi:i<=es.size)
  (h:Q ((V6 w a ep es)[i]?.map λe=>(e.2,a1z w t (i+1))) s):wpAny (model prog w) A (setNext a (a1z w t i) i ep) Q E s:=by
 obtain⟨o,f,_,g⟩:=D.ex;unfold setNext setsByText;refine aa (cq f g (F0 D.ok) ?_);dsimp only;refine aa (aa (eM (ag ?_)));dsimp only;by_cases b:w.params.followText "set-order"=true
 .rw[ay (show(model prog w).w.params.followText "set-order"=true from b),ao (by simp)];unfold setWalk setsByText;refine aa (aa (cq f g (F0 D.ok) ?_));dsimp only;refine aa (aa (eM (ag ?_)));rw[ay (show(model prog w).w.params.followText "set-order"=true from b)];refine aa (eM (ag (ag ?_)));have k:∀j,a1z w t j=0:=λj=>by
   cases j with
   |zero=>rfl
   |succ j=>show(if w.params.followText "set-order"=true then 0 else _)=0;rw[ay b]
  rw[k]at h⊢;unfold V6 at h;rw[ay b]at h;exact h
 .have hf':w.params.followText "set-order"=false:=by simpa using b
  rw[ao (show ¬(model prog w).w.params.followText "set-order"=true from b)];rw[ao (λz=>by
   change (!t.plain && decide (es.size > 1))=true at z;rw[D.plain]at z;cases z)]
  refine aa ?_;show wpAny _ _ (if (!t.led && !es.isEmpty)=true then _ else pure ()) _ _ _;rw[ao (by rw[d,hf'];simp)];refine ag (ag ?_);rw[b0P D hf' hi];unfold V6 at h;rw[ao b]at h;by_cases c:i<es.size
  .have hp:=a0E (xs:=t.place) (i:=i) (by rw[D.ok.size];exact c);rw[hp];have hs:a1z w t (i+1)=t.place.getD i 0+1:=by
    show(if w.params.followText "set-order"=true then 0 else t.place.getD i 0+1)=_;rw[hf',ao (by decide)]
   rw[hs]at h;rw[bL c]at h⊢;exact h
  .rw[dq (by omega)]at h⊢;exact h
theorem a9c{it:Addr}{i:Nat}{Q:Option Value->Shared->Prop}(I:SetIt w s.heap it a i es.size ep t)(D:SRaw s.heap a es ep t)(d:t.led=!w.params.followText "set-order")(hi:i<es.size){v:Int×Value}(h:(V6 w a ep es)[i]?=some v)
  (q:∀h',SetIt w h' it a (i+1) es.size ep t->Heap.SameBut it s.heap h'->Q (some v.2) {s with heap:=h'}):wpAny (model prog w) A (pyNext (.ref it)) Q E s:=by
 obtain⟨j,f1,f2,b⟩:=id I;obtain⟨od,f,k,g⟩:=D.ex;unfold pyNext;refine aa (dV (bK (name:=Str.ofString "__next__") I.typ slot_seti_next (bI slot_seti_next I.typ U8 ?body (W6 _))))
 case body =>
  unfold Builtin.«set_iterator.__next__»;refine aa (ag (aa (wpAny_fieldsOf f1 b ?_)));dsimp only[rawInt];unfold setEntries;refine aa (aa (cq f g (F0 D.ok) (ag ?_)));rw[ao (by simp)];simp only[bw];refine aa (a5E D d (cH hi) ?_);rw[h];dsimp only[Option.map];have e:(s.heap.update it (Obj.mapFields λz=>z.setIfInBounds 0 (.int (a1z w t (i+1)) 0))).get? it=some (Obj.mapFields (λz=>z.setIfInBounds 0 (.int (a1z w t (i+1)) 0)) j):=cL _ f1 (eC (cN b _));have c:=cN b (λz=>z.setIfInBounds 0 (.int (a1z w t (i+1)) 0));refine aa (dP f1 b (by simp) ?_);refine aa (dP (s:={s with heap:=_}) e c (by simp) ?_);refine ag ⟨_,rfl,ag (q _ ⟨_,cL _ e (eC (cN c _)),?_,?_⟩ ((cA ..).trans (cA ..)))⟩
  .rw[fz,fz];exact f2
  .rw[cN c];simp[rawInt]
theorem b0R{it:Addr}{Q:Option Value->Shared->Prop}(g:A.handled=none)(I:SetIt w s.heap it a es.size es.size ep t)(D:SRaw s.heap a es ep t)(c:t.led=!w.params.followText "set-order")
  (q:∀h',Heap.ExtBut it s.heap h'->Q none {s with heap:=h'}):wpAny (model prog w) A (pyNext (.ref it)) Q E s:=by
 obtain⟨j,f1,f2,d⟩:=id I;obtain⟨od,e,i,f⟩:=D.ex;unfold pyNext;refine aa (dV (bK (name:=Str.ofString "__next__") I.typ slot_seti_next (bI slot_seti_next I.typ U8 ?body (W6 _))))
 case body =>
  unfold Builtin.«set_iterator.__next__»;refine aa (ag (aa (wpAny_fieldsOf f1 d ?_)));dsimp only[rawInt];unfold setEntries;refine aa (aa (cq e f (F0 D.ok) (ag ?_)));rw[ao (by simp)];simp only[bw];refine aa (a5E D c (aj _) ?_);have h:(V6 w a ep es).size=es.size:=by rw[<-ax,ord_perm.length_eq,ax]
  rw[dq (by omega)];dsimp only[Option.map];refine aa (dP f1 d (by simp) ?_);show wpAny _ _ (newExc (.type "StopIteration") []>>=λ_=>_) _ _ _;refine aa ?_;simp only[newExc,newTuple];refine aa (bX ?_ (by size_fits));refine aa (m:=firstArgMember _ _) (wpAny_of_eq (a:=Value.none) (by first|rfl | (simp only[firstArgMember];rfl)) ?_);refine bX ?_ (by size_fits);simp only[raiseNew];refine aa (wpAny_handled ?_);rw[show A.in1.handled=none from g];refine aa (ag (wpAny_throw ?_));refine aa (fM (T:="StopIteration") (b:=true) ⟨_,aG _ rfl,rfl⟩ isSubtype_stop ?_);exact ag (q _ (((cA ..).extBut.push _).push _))
theorem SetIt.at{h h':Heap}{it a:Addr}{i n ep:Nat}{t:SetTable}(x:SetIt w h it a i n ep t)(k:∀o,h.get? it=some o->h'.get? it=some o):SetIt w h' it a i n ep t:=let ⟨o,h1,h2⟩:=x;⟨o,k o h1,h2⟩
theorem SRaw.to{h h':Heap}(x:SRaw h a es ep t)(k:∀o,h.get? a=some o->h'.get? a=some o):SRaw h' a es ep t:=⟨let ⟨o,h1,h2⟩:=x.ex;⟨o,k o h1,h2⟩,x.ok,x.plain⟩
theorem a1I:entryFor table "set_iterator.__iter__"=some Builtin.«dict_keyiterator.__iter__» :=
 entryFor_alias (id':="dict_keyiterator.__iter__") (by kernel_rfl) rfl (by decide +kernel) (by kernel_rfl)
theorem a3l(a:Value):argsOk "set_iterator.__iter__" ⟨[a],[]⟩:=by
 unfold argsOk;kernel_rfl
theorem a9b{it:Addr}{i n:Nat}{Q:Value->Shared->Prop}(I:SetIt w s.heap it a i n ep t)(h:Q (.ref it) s):wpAny (model prog w) A (pyIter (.ref it)) Q E s:=by
 refine wpAny_pyIter_slot I.typ V4 (bI V4 I.typ a1I ?_ (a3l _));show wpAny _ _ (ret (.ref it)) _ _ s;exact ag ⟨_,rfl,"set_iterator",_,I.typ,slot_seti_next.lookup,h⟩
theorem b1D:(V6 w a ep es).size=es.size:=by rw[<-ax,ord_perm.length_eq,ax]
theorem a9d(p:A.handled=none)(J:Addr)(j:a≠J)(g:t.led=!w.params.followText "set-order") :
  Walks prog w A J [J,a] [J] es.size (λi v=>∃e,(V6 w a ep es)[i]?=some e/\v=e.2) (λi h=>SetIt w h J a i es.size ep t/\SRaw h a es ep t) where
 sub:=λb d=>by rw[aD.mp d];exact ar
 frame:=λi h h' st k=>⟨st.1.at λo e=>k J ar o e,st.2.to λo e=>k a (av _ ar) o e⟩
 item:=λi s Q E hi st c=>by
  have f:i<(V6 w a ep es).size:=by rw[b1D];exact hi
  exact a9c st.1 st.2 g hi (bL f) λh' m l=>c _ h' s.toks ⟨_,bL f,rfl⟩ ⟨m,st.2.to λo e=>l.extBut a o j e⟩ λb o d e=>l.extBut b o (λz=>d (by rw[z];exact ar)) e
 done:=λs Q E st c=>b0R p st.1 st.2 g λh' n=>c h' s.toks λb o d e=>n b o (λz=>d (by rw[z];exact ar)) e
 self:=λ_ _ _ _ st c=>a9b st.1 c
theorem SRaw.lt{h:Heap}(x:SRaw h a es ep t):a<h.objs.size:=let ⟨_,h1,_⟩:=x.ex;aI h1
theorem b3k(b:t.led=!w.params.followText "set-order"):KdlSrc prog w "set" a a es.size (λi v=>∃e,(V6 w a ep es)[i]?=some e/\v=e.2) (λh=>SRaw h a es ep t) where
 type:=λ_ D=>D.typ
 there:=λ_ D=>⟨D.lt,D.lt⟩
 keep:=λ_ _ D d=>D.to λo e=>d a (.inl rfl) o e
 notList:=by decide
 notTuple:=by decide
 hint:=λ_ _ _ _ D q=>b2m D.typ q
 iter:=λ_ _ c D=>⟨_,_,λ_ _ q=>b0S D q,a9d c _ (aM D.lt) b,⟨⟨_,aG _ rfl,rfl,rfl⟩,D.to λo e=>ae _ e⟩⟩
end
end Tab
end L2
namespace L2
open PySem PySem.Spec PyProof.Rows PySem.W Tab
def a4x(P:Program)(w:World)(a:Addr)(xs:List (List Int×Addr)):HO:=.ext λh=>∃es ep t,SRaw h a es ep t/\es.toList.Perm (xs.map (Tab.ent P w))/\t.led=!w.params.followText "set-order"
theorem b4S{P:Program}{w:World}{H:Hp}{h:Heap}(ok:HOk P w H h){r:List Int}{b:Addr}(x:IT H (.ref b) r):TK P w h r b:=by
 obtain⟨a,e,q⟩:=x;cases e;obtain⟨_,its,c,o,h1,h2,n,d⟩:=(show ObjOk P w H h b (.tup (r.map V.int))from ok b _ q);refine⟨o,its.toArray,n,h1,h2,d,?_⟩;have:∀{r:List Int}{its:List Value},Vals (r.map V.int) its->ItemsAre (intKind P w) r its:=by
  intro r;induction r with
  |nil=>intro its c;cases c;exact .nil
  |cons x r f =>
   intro its c;cases c with
   |cons h t =>
    obtain⟨tk,rfl⟩:=h;exact .cons (intKind_is _ _ _ _) (f t)
 simpa using this c
def b5c(K:PySem.W.Frag)(P:Program)(w:World):RL:=λys H Q=>∃(k:Bool) (p:Addr) (vs:List V) (rss:LLI),ys=[.ref p]/\SqK k K H p vs/\Its H vs rss/\vs.length<=1000 /\
 ∀a xs,H a=none->(xs.map (·.1)).Nodup->(∀r,r∈xs.map (·.1)↔r∈rss)->(∀x∈xs,IT H (.ref x.2) x.1)->Q (.ref a) (upd H a (a4x P w a xs))
def b1e(P:Program)(w:World):RL:=λys H Q=>∃(a:Addr) (xs:List (List Int×Addr)),ys=[.ref a]/\H a=some (a4x P w a xs)/\(∀x∈xs,IT H (.ref x.2) x.1)/\(∀x∈xs,0<x.1.length)/\xs.length<=1000 /\
 ∀l zs tss,H l=none->Its H zs tss->tss.Perm (xs.map (·.1))->C9 tss->Q (.ref l) (upd H l (.lst zs))
section
variable {X:Cx}
theorem b0a(K:PySem.W.Frag)(P:Program)(w:World)(hu:X.A.units+60<cLine)(hc:X.calm=true)(hK:X.K=K:=by rfl)(hP:X.prog=P:=by rfl)(hw:X.w=w:=by rfl):D0 X (.type "set") (b5c K P w):=by
 subst hK hP hw;intro pins s σ H ys us Q I rv h;obtain⟨k,p,O,l,rfl,U,S,hn,q⟩:=h;obtain⟨u,rfl,E⟩:=rv.one;cases E;have T:X.A.handled=none:=I.ok.hd hc;have step:∀(its:List Value),Vals O its->∀(h':Heap) (tk:Nat) (xs:List (List Int×Addr)) (c:Nat->List Int×Addr),(∀i,i<its.toArray.size->l[i]?=some (c i).1/\IT H (.ref (c i).2) (c i).1) ->
   W7 X.prog X.w (!X.w.params.followText "set-order") h' s.heap.objs.size xs->Came c its.toArray.size xs->(∀b o,b<s.heap.objs.size->s.heap.get? b=some o->h'.get? b=some o)->EP X pins σ Q (.ref s.heap.objs.size) {s with heap:=h',toks:=tk}:=by
  intro its r h' tk xs c d y m B;obtain⟨o,es,ep,t,R,V,W,Y,Z,e6,e7,e8,e9⟩:=y;have C:its.toArray.size=l.length:=by rw[<-S.1,r.length];simp
  have G:H s.heap.objs.size=none:=I.hok.fresh (aj _);have F:∀x∈xs,IT H (.ref x.2) x.1:=λx L=>by
   obtain⟨j,n,rfl⟩:=m.from_ x L;exact(d j n).2
  refine⟨.ref s.heap.objs.size,_,I.laid (h':=h') (a:=s.heap.objs.size) (o:=a4x X.prog X.w s.heap.objs.size xs) (t':=tk) (λb o e=>B b o (aI e) e) (aj _) ⟨⟨es,ep,t,⟨⟨o,R,V,W⟩,Z,e6⟩,Y,e9⟩,⟨o,R⟩,λh1 h2 ⟨es,ep,t,q1,q2⟩ kk=>⟨es,ep,t,q1.to kk,q2⟩⟩,rfl,q _ xs G m.nd (λr=>?_) F⟩;constructor
  .intro hr;obtain⟨x,L,rfl⟩:=aW.mp hr;obtain⟨j,n,rfl⟩:=m.from_ x L;exact aF (d j n).1
  .intro hr;obtain⟨j,n⟩:=cm.mp hr;have A:j<its.toArray.size:=by rw[C];exact(aN.mp n).1
   have h1:=(d j A).1;rw[n]at h1;injection h1 with h1
   rw[h1];exact m.all j A
 have f:∀(its:List Value),Vals O its->∃c:Nat->List Int×Addr,(∀i v,i<its.toArray.size->its.toArray[i]?=some v->v=.ref (c i).2)/\∀i,i<its.toArray.size->l[i]?=some (c i).1/\IT H (.ref (c i).2) (c i).1:=by
  intro its r;have g:∀i,∃x:List Int×Addr,i<its.toArray.size->(∀v,its.toArray[i]?=some v->v=.ref x.2)/\l[i]?=some x.1/\IT H (.ref x.2) x.1:=λi=>by
   by_cases hi:i<its.toArray.size
   .have hi':i<O.length:=by rw[r.length];simpa using hi
    obtain⟨u,eu,E⟩:=r.get (ak hi');obtain⟨N,er,b,eb,hb⟩:=S.2 i _ (ak hi');rw[eb]at E;cases E;refine⟨(N,b),λ_=>⟨λv J=>?_,er,b,rfl,hb⟩⟩;have:its[i]?=some v:=by simpa using J
    rw[eu]at this;injection this with this
    exact this.symm
   .exact⟨([],0),λz=>absurd z hi⟩
  exact⟨λi=>Classical.choose (g i),λi v hi J=>(Classical.choose_spec (g i) hi).1 v J,λi hi=>(Classical.choose_spec (g i) hi).2⟩
 cases k
 .obtain⟨its,r,pl,hz⟩:=I.list U;obtain⟨c,M,D⟩:=f its r;exact a3v T pl.isList M (λi hi=>b4S I.hok (D i hi).2) (by have:=r.length;simp;omega) (by omega) λh' tk xs y m B=>step its r h' tk xs c D y m B
 .obtain⟨its,r,pl,hz⟩:=I.tuple U;obtain⟨c,M,D⟩:=f its r;exact a3g T pl M (λi hi=>b4S I.hok (D i hi).2) (by have:=r.length;simp;omega) (by omega) λh' tk xs y m B=>step its r h' tk xs c D y m B
theorem a7y(P:Program)(w:World)(hc:X.calm=true)(hP:X.prog=P:=by rfl)(hw:X.w=w:=by rfl):D0 X (.builtin "sorted") (b1e P w):=by
 subst hP hw;intro pins s σ H ys us Q I rv h;obtain⟨a,xs,rfl,ha,M,S,hn,q⟩:=h;obtain⟨u,rfl,ru⟩:=rv.one;cases ru;obtain⟨⟨es,ep,t,D,A,N⟩,_⟩:=(show ObjOk X.prog X.w H s.heap a (a4x X.prog X.w a xs)from I.hok _ _ ha);obtain⟨d,J,te⟩:=L9 (f:=Tab.ent X.prog X.w) ((ord_perm (w:=X.w) (a:=a) (ep:=ep)).trans A) rfl;have B:∀x∈d,x∈xs:=λx C=>J.mem_iff.mp C;have g:es.size=d.length:=by rw[<-ax,A.length_eq,ai,J.length_eq]
 have L:Its H (d.map λx=>V.ref x.2) (d.map (·.1)):=⟨by rw[ai,ai],λi v e=>by
  rw[aP]at e⊢;cases l:d[i]? with
  |none=>rw[l]at e;cases e
  |some x =>
   rw[l]at e;cases e;exact⟨x.1,rfl,M x (B x (aF l))⟩⟩
 have W:Vals (d.map λx=>V.ref x.2) (d.map λx=>Value.ref x.2):=a0O (λx:List Int×Addr=>x.2) d;have hz:(1000:Nat)<=sizeLine:=by rw[aV];decide
 have a1:d.length<=1000:=by rw[J.length_eq];exact hn
 have z:∀(Y:Value->Shared->Prop) (K:List Value->Shared->Prop),(∀(h1:Heap) (tk:Nat),(∀b o,s.heap.get? b=some o->h1.get? b=some o)->K (d.map λx=>Value.ref x.2) {s with heap:=h1,toks:=tk})->wpAny (model X.prog X.w) X.A.in1 (collect (.ref a)) K Y s:=λY K k=>by
  refine kdu_collect (b3k N) (show X.A.in1.handled=none from I.ok.hd hc) D (by omega) λh' tk j kp m=>?_;have:j.toList=d.map λx=>Value.ref x.2:=by
   refine fC λi=>?_;rw[au,aP];by_cases hi:i<d.length
   .have hia:i<j.size:=by rw[m.1,g];exact hi
    obtain⟨e,G,R⟩:=m.2 i j[i] (by simp[hia]);rw[<-au,<-te,aP,ak hi]at G;injection G with G
    rw[bL hia,ak hi,R,<-G];rfl
   .rw[dq (by rw[m.1,g];omega),cM (by omega)];rfl
  rw[this];exact k h' tk kp
 have hl:=W.length;have TT:=a2T I L W;obtain⟨T,t1,t2,t3,t4⟩:=W8 W L.1;refine U9 z TT (λr hr=>by obtain⟨x,C,rfl⟩:=aW.mp hr;exact S x (B x C)) (by rw[ai];omega) λh1 h' os c tk k1 k2 e hp hs=>?_;obtain⟨n,p1,p2⟩:=L9 (f:=λt:Value×V×List Int=>t.1) hp t1.symm;have Z:=I.kept (t':=tk) k1;have F:∀t∈n,RelV t.2.1 t.1/\IT H t.2.1 t.2.2/\E7 s.heap t.1=t.2.2:=λt O=>by
  obtain⟨i,hi⟩:=cm.mp (p1.mem_iff.mp O);obtain⟨r1,r2,r3⟩:=t4 i t hi;obtain⟨a2,q1,q2⟩:=L.2 i _ r2;rw[r3]at q1;cases q1;have e5:(d.map λx=>Value.ref x.2)[i]?=some t.1:=by rw[<-t1,aP,hi];rfl
  obtain⟨r',b,a0,f1,f2,f3,f4⟩:=TT.2 i _ e5;rw[r3]at f1;cases f1;exact⟨r1,q2,by rw[f2];exact C7 f3 f4⟩
 have U:(n.map (·.2.1)).length<=sizeLine:=by
  have e6:=(p1.map (λt:Value×V×List Int=>t.2.1)).length_eq;rw[t2]at e6;simp only[ai]at e6⊢;omega
 have R:Vals (n.map (·.2.1)) os:=by rw[<-p2];exact N2 λt O=>(F t O).1
 have I2:=Z.laid (h':=h') (a:=h1.objs.size) (o:=.lst (n.map (·.2.1))) (t':=tk) k2 (aj _) ⟨U,os,c,R,e⟩;refine⟨.ref h1.objs.size,_,I2,rfl,q _ _ (n.map (·.2.2)) (Z.hok.fresh (aj _)) ⟨by rw[ai,ai],λi v p=>?_⟩ (by have:=p1.map (λt:Value×V×List Int=>t.2.2);rw[t3]at this;exact this.trans (J.map _)) ?_⟩
 .rw[aP]at p⊢;cases l:n[i]? with
  |none=>rw[l]at p;cases p
  |some t =>
   rw[l]at p;cases p;exact⟨t.2.2,rfl,(F t (aF l)).2.1⟩
 .unfold C9;rw[cn];rw[<-p2,cn]at hs;refine hs.imp_of_mem λ{x y} C hy E=>?_;rw[(F x C).2.2,(F y hy).2.2]at E;exact E
variable {e:Expr}{es:List Expr}{t:TA}{p pos:Pos}
theorem b4p(K:PySem.W.Frag)(P:Program)(w:World)(j:X.A.units+60<cLine)(h:Gl X "set")(i:X.mg "set"=none)(d:JA X (e::es) t)(f:X.calm=true:=by rfl)(b:X.K=K:=by rfl)(c:X.prog=P:=by rfl)(hw:X.w=w:=by rfl)(g:starEach (e::es) X.env=(false,eval e X.env)::starEach es X.env:=by rfl)(a:(backTo pos (starEach es X.env)).any (·.1)=false:=by rfl):JE X (.Call (.Name "set" p) (e::es) [] pos) (tCB (b5c K P w) t):=⟨Q9 (b0a K P w j f b c hw) h i b7d d.h (by decide) (by decide) g a⟩
theorem b2f(P:Program)(w:World)(g:Gl X "sorted")(h:X.mg "sorted"=none)(c:JA X (e::es) t)(d:X.calm=true:=by rfl)(b:X.prog=P:=by rfl)(hw:X.w=w:=by rfl)(f:starEach (e::es) X.env=(false,eval e X.env)::starEach es X.env:=by rfl)(a:(backTo pos (starEach es X.env)).any (·.1)=false:=by rfl):JE X (.Call (.Name "sorted" p) (e::es) [] pos) (tCB (b1e P w) t):=⟨E8 (a7y P w d b hw) g h a1g c.h (by decide) (by decide) f a⟩
end
end L2
namespace L2
open PySem PySem.Spec PyProof.Rows
theorem a2K:typeLookup (.type "list") "keys"=pure none:=by rw[typeLookup_type,fS];kernel_rfl
theorem a4a:entryFor table "dict.update.loop"=some Builtin.«dict.update.loop»:=entryFor_of_tree (by kernel_rfl)
theorem X7:plainId "dict.update.loop"=true:=by decide +kernel
section
variable {prog:Program}{w:World}{A:Around}{E:Value->Shared->Prop}{s:Shared}
theorem b4i{a:Addr}{o:Obj}{xs:Array Value}{k:Nat}{Q:Option Value->Shared->Prop}
  (q:s.heap.get? a=some o) (p:o.cls=.type "list") (f:o.data=.seq xs k) (hd:o.dict=none) (v:A.handled=none)
  (h:∀h' tk,(∀b r,s.heap.get? b=some r->h'.get? b=some r)->Q none {s with heap:=h',toks:=tk}):wpAny (model prog w) A (getAttr? (.ref a) "keys") Q E s:=by
 obtain⟨c,u,t,sl⟩:=o;simp only at p f hd;subst p f hd;obtain⟨x,g,d,tk,os⟩:=s;have n:∀l,(⟨x,g,d,l,os⟩:Shared).TypeIs (.ref a) "list":=λ_=>⟨_,q,rfl⟩;have f1:=sub_AttributeError;have y:=PySem.F.slot_list_getattribute.lookup;have z:=PySem.F.slot_list_getattribute.bind (.ref a);have B:=am_list_getattr_none;have m:(Str.ofString "keys").length+100<=sizeLine:=by rw[aV];decide
 have i:(["__module__","__name__","__qualname__","__doc__","__annotations__"]:List Str).contains "keys"=false:=by decide +kernel
 unfold getAttr? getAttrBy? getAttrBy
 repeat (any_goals (first|assumption|exact n _ | ((with_reducible show wpAny _ _ (call (Value.builtin "list.__getattribute__") _ _) _ _ _);refine de PySem.F.slot_list_getattribute (n _) am_entry_list_getattribute (PySem.F.args_list_getattribute_2 _ _) (meets_getattribute_miss_list a xs k sl "keys" _ a2K i m) ⟨q,v,λh' l e j=>?_⟩)|wp_step))
 obtain⟨t',D,C⟩:=j.there;show wpAny _ _ (getattributeRaised _ _ _ _ _ _ _) _ _ _;unfold getattributeRaised
 repeat (any_goals (first|assumption|wp_step))
 exact h _ _ j.keeps
theorem a6h{h h':Heap}{ks:List Key}{a:Addr}(k:∀b o,h.get? b=some o->h'.get? b=some o)(x:(tupleKind (B5 prog w)).is h ks a):(tupleKind (B5 prog w)).is h' ks a:=by
 obtain⟨o,its,n,h1,r⟩:=x;exact⟨o,its,n,k _ _ h1,r⟩
def b5u(prog:Program)(w:World)(h:Heap)(d:Addr)(xs:List (List Key×Addr×Value)):Prop :=
 ∃o es ep,h.get? d=some o/\o.ExactDict/\o.data=.dict es ep/\es.toList=xs.map (entryOfKey (tupleKind (B5 prog w)))/\(xs.map (·.1)).Nodup
theorem b2x{R:Result->Shared->Prop}{s0:Heap}{d it l:Addr}{items:Array Value}(h:d≠it)(K:s0.get? d=none)(m:s0.get? it=none)(W:s0.IsList l items)(hh:A.handled=none)(S:A.units+10<cLine)(hz:items.size<=sizeLine)
  (J:Nat->List (List Key×Addr×Value)->Prop)
  (M:∀i,i<items.size->∃p k a v,items[i]?=some (.ref p)/\IsTup s0 p #[.ref a,v]/\(tupleKind (B5 prog w)).is s0 k a/\∀xs,J i xs->xs.length<=i/\(∀x∈xs,(tupleKind (B5 prog w)).is s0 x.1 x.2.1)/\J (i+1) (storedH xs k a v)) :
  ∀(n i:Nat) (s:Shared) (xs:List (List Key×Addr×Value)),items.size-i=n->i<=items.size->(∀b o,s0.get? b=some o->s.heap.get? b=some o)->s.heap.IsListIter it l i->b5u prog w s.heap d xs->J i xs ->
  (∀h' tk g,(∀b o,s0.get? b=some o->h'.get? b=some o)->b5u prog w h' d g->J items.size g->R (.ok (.ret .none)) {s with heap:=h',toks:=tk}) ->
  codeAny (model prog w) A (.builtin "dict.update.loop" ⟨[.ref d,.ref it,rawInt i,.none],[]⟩) R s:=by
 intro n;induction n with
 |zero =>
  intro i s xs hn hi q c F N hR;have L:i=items.size:=by omega
  subst L;refine dG a4a ?_;rw[dJ X7 _];show wpAny _ A.in1 (pyNext (.ref it)>>=_) _ _ s;have j:s.heap.IsList l items:=let ⟨o,h1,h2⟩:=W;⟨o,q _ _ h1,h2⟩
  refine aa (wpAny_pyNext_list_end hh c j (by simp) λh' V=>?_);show wpAny _ _ (Builtin.Dict.addKeywords d []>>=_) _ _ _;refine aa (ag (ag ?_));obtain⟨o,es,ep,D,E⟩:=F;exact hR h' s.toks xs (λb X e=>V b X (λz=>by rw[z,m]at e;cases e) (q b X e)) ⟨o,es,ep,V _ _ h D,E⟩ N
 |succ n ih =>
  intro i s xs hn hi q c F N hR;have r:i<items.size:=by omega
  obtain⟨p,k,a,v,hp,hT,hK,I⟩:=M i r;obtain⟨a0,T,I⟩:=I xs N;refine dG a4a ?_;rw[dJ X7 _];show wpAny _ A.in1 (pyNext (.ref it)>>=_) _ _ s;have j:s.heap.IsList l items:=let ⟨o,h1,h2⟩:=W;⟨o,q _ _ h1,h2⟩
  refine aa (wpAny_pyNext_list_item c j hp λh1 U u=>?_);have f:∀b o,s0.get? b=some o->h1.get? b=some o:=λb o e=>u.extBut b o (λz=>by rw[z,m]at e;cases e) (q b o e);obtain⟨o,es,ep,D,E,g3,g4,g5⟩:=F;have G:h1.DictOfH (tupleKind (B5 prog w)) d xs:=⟨o,es,ep,u.extBut _ _ h D,E,g3,g4,λx hx=>a6h f (T x hx),g5⟩;obtain⟨op,t,P,np,Q⟩:=hT;show wpAny _ A.in1 (holding [.ref p] _>>=_) _ _ _;refine aa (cc (aa (wpAny_tryCatch ?_)));unfold Builtin.Dict.pairItems;refine aa (ez (s:={s with heap:=h1}) ⟨op,f _ _ t,P⟩ ?_);rw[ay (by decide)];refine aa (cI (s:={s with heap:=h1}) (f _ _ t) Q (ag ?_));show wpAny _ _ (holding [.ref a,v] (dictSet d (.ref a) v)) _ _ _;refine cc (wpAny_dictSet_heap (s:={s with heap:=h1}) (knd:=tupleKind (B5 prog w)) (hsz:=by omega) (show A.units+1<cLine by omega) (a6h f hK) G λh2 H y=>?_);refine ag ⟨plainId_quiet X7 _,?_⟩;have O:∀b o,s0.get? b=some o->h2.get? b=some o:=λb o e=>y.extBut b o (λz=>by rw[z,K]at e;cases e) (f b o e);obtain⟨o',C,B,q1,q2,q3,q4,_,q5⟩:=H;exact ih (i+1) _ _ (by omega) r O (U.extBut y.extBut (dC h)) ⟨o',C,B,q1,q2,q3,q4,q5⟩ I λh' tk g Y Z e3=>hR h' tk g Y Z e3
end
def PrT(H:Hp)(ps:List V)(rss:LLI):Prop:=ps.length=rss.length/\∀(i:Nat) (q:V),ps[i]?=some q->∃(r:List Int) (b:Addr) (v y:V),rss[i]?=some r/\q=.ref b/\H b=some (.tup [v,y])/\IT H v r
theorem PrT.same{H H':Hp}{ps:List V}{rss:LLI}(h:PrT H ps rss)(s:Same H H'):PrT H' ps rss :=
 ⟨h.1,λi q e=>let ⟨r,b,v,y,e1,e2,e3,e4⟩:=h.2 i q e;⟨r,b,v,y,e1,e2,s _ _ e3,e4.same s⟩⟩
theorem PrT.nil{H:Hp}:PrT H [] []:=⟨rfl,λi q e=>by simp at e⟩
theorem PrT.snoc{H:Hp}{ps:List V}{rss:LLI}{r:List Int}{b:Addr}{v y:V}(h:PrT H ps rss)(c:H b=some (.tup [v,y]))(d:IT H v r):PrT H (ps++[.ref b]) (rss++[r]):=by
 refine⟨by simp[h.1],λi q e=>?_⟩;rw[List.getElem?_append]at e;rw[List.getElem?_append,<-h.1];split at e
 .rename_i hi;rw[ay hi];exact h.2 i q e
 .rename_i hi;rw[ao hi];cases a:i-ps.length with
  |zero =>
   rw[a]at e;cases e;exact⟨r,b,v,y,rfl,rfl,c,d⟩
  |succ j=>rw[a]at e;simp at e
theorem a1U(r:List Int):(r.map (Sum.inl:Int->Key)).map kV=r.map V.int:=by
 rw[dy];rfl
theorem b6R{kvs:List (List Key×V)}{rss:LLI}{r:List Int}(f:kvs.map (·.1)=IK rss)(g:r∉rss):Q6 kvs (r.map Sum.inl)=none:=by
 rw[<-Option.not_isSome_iff_eq_none,Bool.not_eq_true,<-Q5,ek];intro d c e;have e:=bJ e;have:d.1∈IK rss:=by rw[<-f];exact aW.mpr ⟨d,c,rfl⟩
 obtain⟨h,h1,h2⟩:=aW.mp this;rw[e]at h2;have inj:∀{a b:List Int},a.map (Sum.inl:Int->Key)=b.map Sum.inl->a=b:=λ{a b} z=>by
  have:=aQ (List.map kV) z;rw[a1U,a1U]at this;exact map_int_inj.mp this
 exact g (inj h2 ▸ h1)
section
variable {X:Cx}
variable {e:Expr}{es:List Expr}{t:TA}{p pos:Pos}
end
structure Onc(mss rss:LLI):Prop where
 nd:mss.Nodup
 mem:∀r,r∈mss↔r∈rss
 le:mss.length<=rss.length
theorem Onc.new{c rss:LLI}{r:List Int}(h:Onc c rss)(g:r∉c):Onc (c++[r]) (rss++[r]):=by
 refine⟨fF.mpr ⟨h.nd,by simp,λa d b f e=>?_⟩,λq=>?_,?_⟩
 .rw[aD.mp f]at e;rw[e]at d;exact g d
 .rw[aC,aC,h.mem]
 .rw[aq,aq];have:=h.le;show _+1<=_+1;omega
theorem Onc.old{a rss:LLI}{r:List Int}(h:Onc a rss)(b:r∈a):Onc a (rss++[r]):=by
 refine⟨h.nd,λq=>?_,?_⟩
 .rw[aC,aD,h.mem];exact⟨.inl,λz=>z.elim id λe=>by rw[e];exact(h.mem r).mp b⟩
 .rw[aq];have:=h.le;omega
def b1l:RL:=λxs H Q=>∃(l:Addr) (ps:List V) (rss:LLI),xs=[.ref l]/\H l=some (.lst ps)/\PrT H ps rss/\∀d kvs mss,H d=none->kvs.map (·.1)=IK mss->Onc mss rss->Q (.ref d) (upd H d (.dT kvs))
section
variable {X:Cx}
theorem a7C(hu:X.A.units+60<cLine)(hc:X.calm=true):D0 X (.type "dict") b1l:=by
 intro pins s σ H xs us Q I rv h;obtain⟨l,ps,g,rfl,hl,hP,q⟩:=h;obtain⟨u,rfl,M⟩:=rv.one;cases M;obtain⟨hz,its,n,r,e⟩:=(show ObjOk X.prog X.w H s.heap l (.lst ps)from I.hok _ _ hl);have hh:X.A.handled=none:=I.ok.hd hc;have J:its.toArray.size=ps.length:=by simpa using r.length.symm
 have D:sysModules<s.heap.objs.size:=fX (by decide) (I.mod.glob.keeps I.bk).lt;refine callType_codes (Q₁:=λobj s₁=>obj=.ref s.heap.objs.size/\s₁={s with heap:=s.heap.push {cls:=.type "dict",data:=.dict #[]}}) PySem.F.kt_called_dict (PySem.F.kt_typeCall_dict_1 _) PySem.F.entry_dict_init (kt_code_dict_new _ ⟨rfl,rfl⟩) ?_;rintro obj s₁ ⟨rfl,rfl⟩;have L:(s.heap.push {cls:=.type "dict",data:=.dict #[]}).get? s.heap.objs.size=some {cls:=.type "dict",data:=.dict #[]}:=aG _ rfl;have k0:∀b o,s.heap.get? b=some o->(s.heap.push {cls:=.type "dict",data:=.dict #[]}).get? b=some o:=λb o e=>ae _ e;generalize s.heap.push {cls:=.type "dict",data:=.dict #[]}=h0 at L k0;refine⟨⟨_,L,rfl⟩,PySem.F.args_dict_init_2 _ _,?_⟩;unfold Builtin.«dict.__init__»;refine aa ?_;unfold Builtin.Dict.selfAndRest;refine aa (wpAny_notOrdered_dict ⟨_,L,rfl⟩ ?_);show wpAny _ _ (pure (s.heap.objs.size,[Value.ref l])) _ _ _;refine ag ?_;show wpAny _ _ (Builtin.Dict.updateFrom "dict.__init__" s.heap.objs.size (.ref l) [] .none) _ _ _;unfold Builtin.Dict.updateFrom;refine aa (ez (s:={s with heap:=h0}) ⟨_,k0 _ _ e,rfl⟩ ?_);rw[ay (by decide)];refine aa (b4i (s:={s with heap:=h0}) (k0 _ _ e) rfl rfl rfl hh λh1 K k1=>?_);rw[ay (show(none:Option Value).isNone=true from rfl)];refine aa (fU ?_);have B:∀b o,s.heap.get? b=some o->h1.get? b=some o:=λb o e=>k1 _ _ (k0 _ _ e);refine aa (fu (s:={s with heap:=h1,toks:=K}) ⟨_,B _ _ e,rfl,n,rfl⟩ ?_);have O:(h1.push {cls:=.type "list_iterator",data:=.fields #[.ref l,.int 0 0]}).IsListIter h1.objs.size l 0:=⟨_,aG _ rfl,rfl,rfl⟩;have k2:∀b o,h1.get? b=some o->(h1.push {cls:=.type "list_iterator",data:=.fields #[.ref l,.int 0 0]}).get? b=some o:=λb o e=>ae _ e;have W:=k1 _ _ L;refine ag ⟨plainId_quiet X7 _,?_⟩;refine b2x (prog:=X.prog) (w:=X.w) (A:=X.A.in1) (s0:=s.heap) (l:=l) (items:=its.toArray) (aM (aI W)) ?_ ?_ ⟨_,e,rfl,n,rfl⟩ hh (show X.A.units+1+10<cLine by omega) (by omega)
  (λi xs=>∃kvs d,KT H kvs xs/\kvs.map (·.1)=IK d/\Onc d (g.take i)) (λi hi=>?_) _ 0 {s with heap:=h1.push {cls:=.type "list_iterator",data:=.fields #[.ref l,.int 0 0]},toks:=K} [] rfl (bo _) (λb o e=>k2 _ _ (B _ _ e)) O ⟨{cls:=.type "dict",data:=.dict #[]},#[],0,k2 _ _ W,⟨rfl,rfl,rfl⟩,rfl,rfl,fm⟩ ⟨[],[],.nil,rfl,⟨.nil,λ_=>Iff.rfl,aj _⟩⟩ λh' tk U e1 e2 ⟨kvs,d,e3,Y,N⟩=>?_
 .cases z:s.heap.get? s.heap.objs.size with
  |none=>rfl
  |some o=>exact absurd (aI z) (bQ _)
 .cases z:s.heap.get? h1.objs.size with
  |none=>rfl
  |some o=>exact absurd (aI (B _ _ z)) (bQ _)
 .have hi':i<ps.length:=by omega
  obtain⟨u,eu,M⟩:=r.get (ak hi');obtain⟨f,b,v,y,er,eb,hb,a,rfl,ha⟩:=hP.2 i _ (ak hi');rw[eb]at M;cases M;obtain⟨_,a0,r2,P⟩:=(show ObjOk X.prog X.w H s.heap b (.tup [.ref a,y])from I.hok _ _ hb);obtain⟨u1,u2,rfl,S,T⟩:=r2.two;cases S;refine⟨b,f.map Sum.inl,a,u2,by simpa using eu,P,a0W I.hok (by rw[a1U];exact ha),?_⟩;rintro xs ⟨kvs,d,R,F,j⟩;have G:xs.length=d.length:=by
   have h1:=Paired.length R;have h2:=aQ List.length F;rw[IK,ai,ai]at h2;omega
  refine⟨by rw[G];exact bb j.le (bD _ _),λx k=>?_,Z6 kvs (f.map Sum.inl) y,if f∈d then d else d++[f],R.put _ (by rw[a1U];exact ha) T,?_⟩
  .have all:∀{l:List (List Key×V)}{m:List (List Key×Addr×Value)},KT H l m->∀x∈m,(tupleKind (B5 X.prog X.w)).is s.heap x.1 x.2.1:=by
    intro l m q;induction q with
    |nil=>intro x k;exact nomatch k
    |@cons p q ps qs hq t ih =>
     intro x k;rcases aE.mp k with e|k
     .subst e;exact a0W I.hok (by rw[<-hq.1];exact hq.2.1)
     .exact ih x k
   exact all R x k
  .have et:g.take (i+1)=g.take i++[f]:=by rw[bf,er];rfl
   rw[et];by_cases C:f∈d
   .rw[ay C,a9p _ (by rw[F];exact aW.mpr ⟨f,C,rfl⟩)];exact⟨F,j.old C⟩
   .rw[ao C,a5P _ (b6R F C),b_,F];refine⟨?_,j.new C⟩;unfold IK;rw[b_];rfl
 .have hil:ps.length=g.length:=hP.1;rw[J,hil,bg]at N;obtain⟨o,es,ep,g1,g2,g3,g4,g5⟩:=e2;have E:H s.heap.objs.size=none:=I.hok.fresh (aj _);have G:kvs.length<=g.length:=by
   have h2:=aQ List.length Y;rw[IK,ai,ai]at h2;rw[h2];exact N.le
  refine⟨rfl,.ref s.heap.objs.size,_,I.laid (h':=h') (a:=s.heap.objs.size) (o:=.dT kvs) (t':=tk) e1 (aj _) ⟨by omega,cJ.mpr (dC (aM D)),U,e3.keeps λc ys Z=>?_,o,es,ep,g1,g2,g3,g4,g5⟩,rfl,q _ kvs d E Y N⟩;rw[A1 (A6 Z E)];exact Z
variable {e:Expr}{es:List Expr}{t:TA}{p pos:Pos}
theorem a6l(h:X.A.units+60<cLine)(f:Gl X "dict")(g:X.mg "dict"=none)(b:JA X (e::es) t)(c:X.calm=true:=by rfl)(d:starEach (e::es) X.env=(false,eval e X.env)::starEach es X.env:=by rfl)(a:(backTo pos (starEach es X.env)).any (·.1)=false:=by rfl):JE X (.Call (.Name "dict" p) (e::es) [] pos) (tCB b1l t):=⟨Q9 (a7C h c) f g b4K b.h (by decide) (by decide) d a⟩
end
end L2
namespace L2
open PySem PySem.Spec PyProof.Rows PySem.W
section
variable {prog:Program}{w:World}{κ:Type} [DecidableEq κ] {knd:HeapKind prog w κ}{A:Around}{E:Value->Shared->Prop}{s:Shared}
end
section
variable {prog:Program}{w:World}{κ:Type} [DecidableEq κ] (knd:HeapKind prog w κ)
end
section
variable {X:Cx}{pins:List (Addr×Obj)}{σ:St}{H:Hp}{s:Shared}{a b:Addr}{z:V}{r:Value}{kvs:List (List Key×V)}{k:List Key}{A:Around}{E:Value->Shared->Prop}
end
section
variable {X:Cx}{o e f:Expr}{apos cpos:Pos}{td ty tx:TE}
end
section
variable {X:Cx}
variable {e:Expr}{es:List Expr}{t:TA}{p pos:Pos}
end
end L2
namespace L2
open PySem PySem.Spec PyProof.Rows
section
variable {X:Cx}
def b5d:R2:=λx y H Q=>∃(z:Str) (n:Int),x=.str z/\y=.int n/\z.length<=10/\0<=n/\n<=1000/\∀z',Q (.str z') H
theorem b3W:OpR X (binaryOp .Mult) b5d:=by
 intro pins s σ H x y v u Q I b c h;obtain⟨z,n,rfl,rfl,a,d,h1,q⟩:=h;obtain⟨t,rfl⟩:=b;obtain⟨t',rfl⟩:=c;refine PySem.SB.mul ⟨?_,λ_ _=>?_,λ_ _=>?_⟩ λe k=>⟨.str _,H,?_,⟨_,rfl⟩,q _⟩
 .rw[bq (by omega),bq (by omega)];rfl
 .rename_i hn _;have h2:(1000:Int)<=(2 ^ 63-1) / n:=Int.le_ediv_of_mul_le (by omega) (by omega);omega
 .have hm:z.length*n.toNat<=10*1000:=Nat.mul_le_mul a (by omega);show decide (_ > sizeLine)=false;exact bq (by rw[aV];omega)
 .exact I.tok _
theorem b6L{a b:Expr}{ta tb:TE}{pos:Pos}(c:JE X a ta)(d:JE X b tb):JE X (.BinOp a .Mult b pos) (tOp b5d ta tb):=⟨U6 b3W c.h d.h⟩
end
end L2
namespace K18
open PySem PySem.Spec PyProof.Rows L2
noncomputable def top(i:Nat):Stmt:=PySem.Challenge.pw_leastlays_k18_of_anything.main.body.getD i (.Pass ⟨0,0,0,0⟩)
noncomputable abbrev a0s:Stmt:=top 1
noncomputable abbrev N5:Stmt:=top 3
noncomputable abbrev N4:Stmt:=top 4
noncomputable abbrev K1:Stmt:=top 5
noncomputable abbrev X1:Stmt:=top 7
noncomputable abbrev a4F:Stmt:=top 8
noncomputable abbrev N7:Stmt:=top 9
noncomputable abbrev X2:Stmt:=top 10
noncomputable abbrev a1R:Stmt:=top 11
noncomputable abbrev a1S:Stmt:=top 13
noncomputable abbrev a4E:Stmt:=top 14
noncomputable abbrev R8:Stmt:=top 15
noncomputable abbrev K6:Stmt:=top 16
noncomputable abbrev K0:Stmt:=top 18
noncomputable abbrev a0t:Stmt:=top 19
noncomputable abbrev a1O:Stmt:=top 20
noncomputable abbrev X5:Stmt:=top 22
noncomputable abbrev N8:Stmt:=top 23
noncomputable abbrev a0u:Stmt:=top 24
noncomputable abbrev X4:Stmt:=top 25
noncomputable abbrev a1P:Stmt:=top 26
noncomputable abbrev N6:Stmt:=top 31
noncomputable abbrev L5:Stmt:=top 32
noncomputable abbrev a1Q:Stmt:=top 34
noncomputable abbrev R9:Stmt:=top 36
noncomputable abbrev N9:Stmt:=top 37
noncomputable abbrev L6:Stmt:=top 38
noncomputable abbrev O0:Stmt:=top 39
noncomputable abbrev O1:Stmt:=top 40
noncomputable abbrev L7:Stmt:=top 41
noncomputable abbrev K2:Stmt:=top 42
noncomputable abbrev S0:Stmt:=top 43
noncomputable abbrev a2s:Stmt:=top 44
noncomputable abbrev D8:Stmt:=T5 (top 33) 0
noncomputable abbrev Z9:Stmt:=T5 (top 33) 1
noncomputable abbrev C3:Stmt:=T5 (top 33) 2
noncomputable abbrev V5:Stmt:=T5 (top 33) 3
noncomputable abbrev K3:Stmt:=T5 (top 33) 4
noncomputable abbrev G7:Stmt:=T5 (top 33) 5
noncomputable abbrev G8:Stmt:=T5 (top 33) 6
structure Tx(mg:Str->Option Value):Prop where
 b_ValueError:mg "ValueError"=none
 b_all:mg "all"=none
 b_any:mg "any"=none
 b_bool:mg "bool"=none
 b_dict:mg "dict"=none
 b_int:mg "int"=none
 b_isinstance:mg "isinstance"=none
 b_len:mg "len"=none
 b_list:mg "list"=none
 b_min:mg "min"=none
 b_range:mg "range"=none
 b_set:mg "set"=none
 b_sorted:mg "sorted"=none
 b_sum:mg "sum"=none
 b_tuple:mg "tuple"=none
 b_zip:mg "zip"=none
structure PotAt(H:Hp)(a b:Addr)(n:Nat):Prop where
 ne:a≠b
 ex:∃(cs:List Int) (t k:Int),H a=some (.lst [.ref b,.int t,.int k])/\H b=some (.lst (cs.map V.int))/\cs.length<=63/\(∀c∈cs,0<=c)/\0<=t/\t<2 ^ 61/\0<=k/\k<=n
theorem PotAt.same{H H':Hp}{a b:Addr}{n:Nat}(h:PotAt H a b n)(s:Same H H'):PotAt H' a b n:=by
 obtain⟨ne,c,t,k,h1,h2,d⟩:=h;exact⟨ne,c,t,k,s _ _ h1,s _ _ h2,d⟩
theorem PotAt.mono{H:Hp}{a b:Addr}{n m:Nat}(h:PotAt H a b n)(l:n<=m):PotAt H a b m:=by
 obtain⟨ne,c,t,k,h1,h2,d,e,f,g,i,j⟩:=h;exact⟨ne,c,t,k,h1,h2,d,e,f,g,i,by omega⟩
theorem a8I{ns:List Int}{hi:Option Int}{i:Nat}{x:V}(h:(K9 (ns.map V.int) none hi)[i]?=some x):∃z,x=V.int z:=by
 unfold K9 at h;have b:=aF h;have a:=cG (bZ b);obtain⟨z,_,e⟩:=aW.mp a;exact⟨z,e.symm⟩
theorem b4D{ns:List Int}{hi:Option Int}:(K9 (ns.map V.int) none hi).length<=ns.length:=by
 have:=W4 (ns.map V.int) none hi;rwa[ai]at this
section
variable {P:Program}{w:World}{K:PySem.W.Frag}{mg:Str->Option Value}{base:Heap}
inductive IspPot(K:PySem.W.Frag)(vs:List V)(H:Hp)(Q:VK)(E:XK):Prop
 |mk (a:Addr) (ns:List Int) (_:vs=[.ref a]) (_:SqL K H a (ns.map V.int)) (_:ns.length<=63) (_:∀p b H',H p=none->H b=none->PotAt H' p b 0->Same H H'->Q (.ref p) H'):IspPot K vs H Q E
def b4X(K:PySem.W.Frag):Sp:=λvs H Q E=>IspPot K vs H Q E
theorem sc__law_pot:FnScope ["_law_script","_law_total","_law_cell"] ["_law_script"] (A3 R9):=⟨rfl,rfl,rfl,by decide +kernel,rfl,by decide +kernel,by decide +kernel⟩
theorem b6x(F:FunAt K mg "_law_pot" R9 ["_law_script"])(T:Tx mg):Ok P w K mg base "_law_pot" 1 ["_law_script"] (b4X K):=by
 refine F.okJ sc__law_pot (λI H Q E h=>?_) (λB f A r s H I Q E J h=>?_)
 .obtain⟨a,ns,rfl,_⟩:=h;rfl
 .obtain⟨a,ns,rfl,hS,hl,k⟩:=h;refine⟨_,(A2 (B2 (i:=1) sc__law_pot.nd rfl (Or.inl rfl) A4)
 (A2 (P6 (J1 K (b5o K (jv 0) Y7 (Y0 A4))) (A8 (i:=2) sc__law_pot.nd rfl (Or.inl rfl))
 (A5 (B2 (i:=1) sc__law_pot.nd rfl (Or.inl rfl) (a0B (M8 (M8 (a0b (jv 1) A4) (a0B (jv 2) (a3U A4 A4))) A4) (a3T (a3U A4 A4) A4)))))
 (A5 (A9 (E1 (jaC (B8 (N:=["_law_cell"]) (src:=[none]) (J1 K (b5o K (jv 0) Y7 (Y0 A4))) (by show B6 _ _=true;rfl) (by rfl) (by rfl)
 (λ_ _ _ _ _=>(A8 (i:=0) (show(["_law_cell"]:List Str).Nodup by decide +kernel) rfl (Or.inl rfl))) (λ_ _ _ _ _=>(a0Z (b5l (jv 0) (a3U A4 A4)))) (λ_ _ _ _ _=>(jv 0))) (jaC (jv 1) (jaC A4 jaN)))))))),?_⟩
  refine⟨_,rfl,200,rfl,a,_,rfl,hS,λp D=>?_⟩;refine⟨p,rfl,⟨_,SqL.of A0⟩,?_⟩;refine R1 (K:=K) (a:=p) (xs:=K9 (ns.map V.int) none (some 200)) (λi σ H2=>Ex2 λ(t:Int) (v:Option V)=>An4 (σ=[some (.ref a),some (.int t),v]) (0<=t) (t<2 ^ 61) (H2=upd H p (.lst (K9 (ns.map V.int) none (some 200)))))
   ⟨7,none,rfl,by decide,by decide,rfl⟩ (λi σ H2 _ ⟨_,_,_,_,_,e⟩=>by rw[e];exact SqL.of A0) ?_ ?_
  .rintro i x σ H2 hx ⟨t,v,rfl,h0,h1,rfl⟩;obtain⟨z,rfl⟩:=a8I hx;simp only[a5u,a2g,B0,tOp,tUn,P0,tC,rI,rI0,rU,a8Z,N3,a6K,a7R,a3A,a3B,L0,P5,a2f,tCB,a2e,a4o,tSl,J9,a1n,J3,tB,a9a,tOr,a8Y,a3C,a8X,a3z,tIf,a8W,rEq,rNe,a1N,ipI,a9n,b3w,dw,ed,dU,dk,fG,V.int.injEq,V.bl.injEq,f',exists_eq_left,f_,true_and,and_true,B1,aU,eB,fP,eN,fQ,L2.start,aT,eU,Nat.reduceAdd,Nat.reduceSub,bG,eS,dR,bS];have g:(0:Int)<2 ^ Int.toNat 61-1:=by decide
   refine⟨.inr ⟨by decide,by decide⟩,⟨by decide,by decide,by decide⟩,by decide,⟨by decide,by decide,by decide⟩,g,_,_,rfl,dF _ (Int.ne_of_gt g),?_,trivial⟩;have:=cX (t*1000003+z % 10 ^ Int.toNat 40+11) g;have e:(2:Int) ^ Int.toNat 61=2 ^ 61:=rfl;omega
  .rintro σ H2 ⟨t,v,rfl,h0,h1,rfl⟩;have u:Same H (upd H p (.lst (K9 (ns.map V.int) none (some 200)))):=(Same.refl H).upd D;generalize upd H p (.lst (K9 (ns.map V.int) none (some 200)))=H1 at u;refine⟨_,rfl,63,rfl,a,_,rfl,u.seq hS,λp2 m=>?_⟩;have s2:Same H (upd H1 p2 (.lst (K9 (ns.map V.int) none (some 63)))):=u.upd m;refine⟨p2,rfl,⟨_,SqL.of A0⟩,?_⟩;have n:(1000:Nat)<=sizeLine:=by rw[aV];decide
   have hcl:=b4D (ns:=ns) (hi:=some 63);refine Z3 (K:=K) (a:=p2) (xs:=K9 (ns.map V.int) none (some 63)) (by omega) (λi ys j=>j=upd H1 p2 (.lst (K9 (ns.map V.int) none (some 63)))/\ys.length<=i/\∃b:List Int,ys=b.map V.int/\∀c∈b,0<=c)
    ⟨rfl,aj _,[],rfl,λ_ h=>nomatch h⟩ (λi ys j _ ⟨e,C,_⟩=>⟨by rw[e];exact SqL.of A0,C⟩) ?_ ?_
   .rintro i x ys j hx ⟨rfl,hy,b,rfl,hc⟩;obtain⟨z,rfl⟩:=a8I hx;refine⟨Sub.one,?_⟩;simp only[a5u,a2g,B0,tOp,tUn,P0,tC,rI,rI0,rU,a8Z,N3,a6K,a7R,a3A,a3B,L0,P5,a2f,tCB,a2e,a4o,tSl,J9,a1n,J3,tB,a9a,tOr,a8Y,a3C,a8X,a3z,tIf,a8W,rEq,rNe,a1N,ipI,a9n,b3w,dw,ed,dU,dk,fG,V.int.injEq,V.bl.injEq,f',exists_eq_left,f_,true_and,and_true,B1,aU,eB,fP,eN,fQ,L2.start,aT,eU,Nat.reduceAdd,Nat.reduceSub,bG,eS,dR,bS];refine⟨⟨by decide,by decide,by decide⟩,a5a (λn=>?_) (λn=>?_)⟩
    .have hz':(10:Int) ^ Int.toNat 18<=z:=by simpa using n
     refine⟨by rw[aq];simpa using hy,b++[z],by simp,λc l=>?_⟩;rcases aC.mp l with q|q
     .exact hc c q
     .rw[aD.mp q];have e:(10:Int) ^ Int.toNat 18=1000000000000000000:=rfl;omega
    .exact⟨by omega,b,rfl,hc⟩
   .rintro ys j ⟨rfl,hy,b,rfl,hc⟩ p3 hp3;simp only[a5u,a2g,B0,tOp,tUn,P0,tC,rI,rI0,rU,a8Z,N3,a6K,a7R,a3A,a3B,L0,P5,a2f,tCB,a2e,a4o,tSl,J9,a1n,J3,tB,a9a,tOr,a8Y,a3C,a8X,a3z,tIf,a8W,rEq,rNe,a1N,ipI,a9n,b3w,dw,ed,dU,dk,fG,V.int.injEq,V.bl.injEq,f',exists_eq_left,f_,true_and,and_true,B1,aU,eB,fP,eN,fQ,L2.start,aT,eU,Nat.reduceAdd,Nat.reduceSub,bG,eS,dR,bS];refine⟨by show 3<=sizeLine;omega,λG d=>?_⟩;have y:=s2.upd (o:=.lst (b.map V.int)) hp3;refine k G p3 _ (y.free d) (s2.free hp3) ⟨?_,b,t,0,A0,?_,?_,hc,h0,h1,by decide,by decide⟩ (y.upd d)
    .exact(A6 (o:=.lst (b.map V.int)) A0 d).symm
    .exact D5 A0 d
    .rw[ai]at hy;omega
theorem at0{x y z:V}:atI [x,y,z] 0=some x:=rfl
theorem at1{x y z:V}:atI [x,y,z] 1=some y:=rfl
theorem at2{x y z:V}:atI [x,y,z] 2=some z:=rfl
theorem atc{x:V}{xs:List V}:atI (x::xs) 0=some x:=a0J (j:=0) rfl
theorem b8f{x:Int}{xs:List Int}:ixN ((x::xs).map V.int).length 0=some 0:=by
 rw[ai,aT];unfold ixN;rw[ay (by decide),ay (by omega)];rfl
structure PotD(H:Hp)(a b:Addr)(cs:List Int)(t k:Int)(n:Nat):Prop where
 ha:H a=some (.lst [.ref b,.int t,.int k])
 hb:H b=some (.lst (cs.map V.int))
 len:cs.length<=63
 pos:∀c∈cs,0<=c
 t0:0<=t
 t1:t<2 ^ 61
 k0:0<=k
 k1:k<=n
theorem PotD.upd{H:Hp}{a b p:Addr}{cs:List Int}{t k:Int}{n:Nat}{o:HO}(h:PotD H a b cs t k n)(hp:H p=none):PotD (L2.upd H p o) a b cs t k n :=
 ⟨D5 h.ha hp,D5 h.hb hp,h.len,h.pos,h.t0,h.t1,h.k0,h.k1⟩
inductive IspTake(vs:List V)(H:Hp)(Q:VK)(E:XK):Prop
 |mk (a b:Addr) (n:Nat) (m:Int) (_:vs=[.ref a,.int m]) (_:PotAt H a b n) (_:n<2 ^ 60) (_:0<m) (_:m<2 ^ 30) (_:∀r H',0<=r->r<m->PotAt H' a b (n+1)->Off [a,b] H H'->Q (.int r) H'):IspTake  vs H Q E
def a2k:Sp:=λvs H Q E=>IspTake  vs H Q E
theorem sc__law_take:FnScope ["_law_pot_here","_law_many","_law_digit","_law_at","_law_number"] ["_law_pot_here","_law_many"] (A3 N9):=⟨rfl,rfl,rfl,by decide +kernel,rfl,by decide +kernel,by decide +kernel⟩
theorem b4d(F:FunAt K mg "_law_take" N9 ["_law_pot_here","_law_many"])(T:Tx mg):Ok P w K mg base "_law_take" 1 ["_law_pot_here","_law_many"] a2k:=by
 refine F.okJ sc__law_take (λvs H Q E h=>?_) (λU f A J s H vs Q E hr h=>?_)
 .obtain⟨a,b,n,m,rfl,_⟩:=h;rfl
 .obtain⟨a,b,n,m,rfl,⟨ne,cs0,t0,k0,hP1,hP2,hP3,hP4,hP5,hP6,hP7,hP8⟩,hn,hm0,hm1,kk⟩:=h;have N:=hr.u60;refine⟨_,(A2 (a6j (a2O (a2N (a7l K N (E9 K (jv 0) A4) (E1 jaN)) (a0A (a6i (E9 K (E9 K (jv 0) A4) A4) A4))))
 (A5 (M1 (b2d K (E9 K (jv 0) A4) (jaC A4 jaN)))))
 (A2 (D9 (a7l K N (E9 K (jv 0) A4) (E1 jaN))
 (A2 (B2 (i:=2) sc__law_take.nd rfl (Or.inl rfl) (a0B (E9 K (E9 K (jv 0) A4) A4) (jv 1)))
 (A2 (a2P (b2h (E9 K (E9 K (jv 0) A4) A4) (jv 1)) (a7n (E9 K (jv 0) A4) A4))
 (A5 (A9 (jv 2)))))
 C2)
 (A2 (a7m K (jv 0) A4 A4)
 (A2 (B2 (i:=3) sc__law_take.nd rfl (Or.inl rfl) (E9 K (jv 0) A4))
 (A2 (B2 (i:=4) sc__law_take.nd rfl (Or.inl rfl) (a0B (M8 (E9 K (jv 0) A4) (a0b A4 (jv 3))) A4))
 (A2 (B2 (i:=4) sc__law_take.nd rfl (Or.inl rfl) (a0B (a0b (jv 4) (M8 A4 (a0b (a0b A4 (jv 3)) (jv 3)))) A4))
 (A2 (B2 (i:=4) sc__law_take.nd rfl (Or.inl rfl) (M8 (a0B (a0b (jv 4) (jv 4)) A4) (jv 3)))
 (A5 (A9 (a0B (b2h (a0B (a0b (jv 4) (M8 (a0B (jv 4) A4) A4)) A4) A4) (jv 1))))))))))),?_⟩
  refine a0r (λσ H2=>Ex3 λ(j:List Int) (t k:Int)=>An3 (PotD H2 a b j t k n) (σ=[some (.ref a),some (.int m),none,none,none]) (Off [a,b] H H2)) ?fin λfin=>?_
  case fin =>
   rintro σ H2 ⟨j,t,k,D,rfl,off⟩;refine b4T (b:=b) (cs:=j) (λM q=>ixL (var rfl) con D.ha at0 q) D.hb λp l=>?_;have d:=D.upd (o:=.lst []) l;have g:=off.upd (o:=.lst []) l;generalize upd H2 p (.lst [])=G at d g;cases j with
   |nil =>
    refine C6 ?_;refine⟨_,rfl,a,_,2,_,rfl,rfl,SqL.of d.ha,at2,_,_,rfl,rfl,a,_,2,2,rfl,rfl,d.ha,rfl,?_⟩;have hP:PotAt (upd G a (.lst [.ref b,.int t,.int (k+1)])) a b (n+1) :=
     ⟨ne,[],t,k+1,A0,by rw[A1 ne.symm];exact d.hb,by decide,(λ_ z=>nomatch z),d.t0,d.t1,by have:=d.k0;omega,by have:=d.k1;omega⟩
    have B:Off [a,b] H (upd G a (.lst [.ref b,.int t,.int (k+1)])):=g.set (by simp);have a3:=d.k0;have a4:=d.k1;refine⟨_,rfl,a,_,2,_,rfl,rfl,SqL.of A0,at2,?_⟩;refine⟨_,rfl,a,_,1,_,rfl,rfl,SqL.of A0,at1,?_⟩;simp only[a5u,a2g,B0,tOp,tUn,P0,tC,rI,rI0,rU,a8Z,N3,a6K,a7R,a3A,a3B,L0,P5,a2f,tCB,a2e,a4o,tSl,J9,a1n,J3,tB,a9a,tOr,a8Y,a3C,a8X,a3z,tIf,a8W,rEq,rNe,a1N,ipI,a9n,b3w,dw,ed,dU,dk,fG,V.int.injEq,V.bl.injEq,f',exists_eq_left,f_,true_and,and_true,B1,aU,eB,fP,eN,fQ,L2.start,aT,eU,Nat.reduceAdd,Nat.reduceSub,bG,eS,dR,bS];generalize u:(t+104729*(k+1)) % 2147483629=L;have X:0<=L:=by rw[<-u];exact dF _ (by decide)
    have Y:L<2147483629:=by rw[<-u];exact cX _ (by decide)
    generalize v:L*(48271+2*(k+1)*(k+1)) % 2147483629=C;have Z:0<=C:=by rw[<-v];exact dF _ (by decide)
    have a0:C<2147483629:=by rw[<-v];exact cX _ (by decide)
    generalize y:C*C % 2147483587=R;have a1:0<=R:=by rw[<-y];exact dF _ (by decide)
    have a2:R<2147483587:=by rw[<-y];exact cX _ (by decide)
    refine⟨.inl ⟨by decide,by decide⟩,by decide,.inl ⟨by decide,by decide⟩,.inl ⟨by omega,by omega⟩,.inl ⟨by omega,by omega⟩,by decide,.inl ⟨by omega,by omega⟩,by decide,by decide,.inl ⟨by omega,by omega⟩,by decide,⟨by decide,by decide⟩,hm0,?_⟩;exact kk _ _ (dF _ (by omega)) (cX _ hm0) hP B
   |cons c j =>
    refine E3 ?_;have I:0<=c:=d.pos c ar;refine⟨_,rfl,a,_,0,_,rfl,rfl,SqL.of d.ha,at0,b,_,0,_,rfl,rfl,SqL.of d.hb,atc,?_⟩;refine⟨_,rfl,_,_,rfl,rfl,hm0,?_⟩;refine⟨_,rfl,a,_,0,_,rfl,rfl,SqL.of d.ha,at0,b,_,0,_,rfl,rfl,SqL.of d.hb,atc,?_⟩;refine⟨_,rfl,_,_,rfl,rfl,⟨hm0,hm1⟩,?_⟩;refine⟨_,rfl,a,_,0,_,rfl,rfl,SqL.of d.ha,at0,b,_,0,0,rfl,rfl,d.hb,b8f,_,rfl,?_⟩;refine kk _ _ (dF _ (by omega)) (cX _ hm0) ⟨ne,c / m::j,t,k,by rw[A1 ne];exact d.ha,A0,d.len,λx r=>?_,d.t0,d.t1,d.k0,by have:=d.k1;omega⟩ (g.set (by simp));rcases aE.mp r with rfl|r
    .exact Int.ediv_nonneg I (by omega)
    .exact d.pos x (av _ r)
  refine⟨λO σ H1=>∃(j:List Int) (t k:Int),PotD H1 a b j t k n/\O=j.length/\σ=[some (.ref a),some (.int m),none,none,none]/\Off [a,b] H H1,
   ⟨_,cs0,t0,k0,⟨hP1,hP2,hP3,hP4,hP5,hP6,hP7,hP8⟩,rfl,rfl,Off.refl _ _⟩,?_⟩
  rintro O σ H1 ⟨j,t,k,D,rfl,rfl,off⟩;refine b4T (b:=b) (cs:=j) (λM q=>ixL (var rfl) con D.ha at0 q) D.hb λp l=>?_;have d:=D.upd (o:=.lst []) l;have g:=off.upd (o:=.lst []) l;generalize upd H1 p (.lst [])=G at d g;cases j with
  |nil =>
   refine C6 (C6 ?_);exact fin _ _ ⟨[],t,k,d,rfl,g⟩
  |cons c j =>
   refine E3 ?_;refine ixL (λM q=>ixL (var rfl) con d.ha at0 q) con d.hb atc ⟨rfl,_,rfl,?_⟩;refine a5a (λe=>?_) (λe=>fin _ _ ⟨c::j,t,k,d,rfl,g⟩);refine⟨λσ' H'=>∃t k,PotD H' a b j t k n/\σ'=[some (.ref a),some (.int m),none,none,none]/\Off [a,b] H H',λσ' H' ⟨t,k,S,W,o'⟩=>⟨j.length,bU _,j,t,k,S,rfl,W,o'⟩,?_⟩;refine⟨_,rfl,a,_,0,_,rfl,rfl,SqL.of d.ha,at0,.inl ⟨rfl,_,SqL.of d.hb⟩,b,_,0,0,_,rfl,rfl,d.hb,by decide,by decide,?_,rfl,?_⟩
   .exact seqIndex_of (by decide) (by simp)
   .exact⟨t,k,⟨by rw[A1 ne];exact d.ha,A0,by have:=d.len;simp at this;omega,λx r=>d.pos x (av _ r),d.t0,d.t1,d.k0,d.k1⟩,rfl,g.set (by simp)⟩
end
theorem a3k{ns:List Int}{k:Nat}(h:k<ns.length):atI (ns.map V.int) (k:Int)=some (.int (ns.getD k 0)):=by
 refine a0J ?_;rw[aP,ak h];simp[az,h]
theorem b1s{H:Hp}{a b:Addr}{n:Nat}(h:PotAt H a b n){c:Addr}{xs:List V}(d:H c=some (.tup xs)):c∉[a,b]:=by
 obtain⟨_,e,t,k,h1,h2,_⟩:=h;simp only[aE,bF,cS,not_or];exact⟨G4 d h1 (by intro z;cases z),G4 d h2 (by intro z;cases z)⟩
theorem IT.off{H H':Hp}{v:V}{ns:List Int}{a b:Addr}{n:Nat}(h:IT H v ns)(d:PotAt H a b n)(o:Off [a,b] H H'):IT H' v ns:=by
 obtain⟨c,e,q⟩:=h;exact⟨c,e,o c _ (b1s d q) q⟩
theorem sqt{K:PySem.W.Frag}{H:Hp}{a:Addr}{xs:List V}(h:H a=some (.tup xs)):SqK true K H a xs:=SqT.of h
noncomputable def Bel(xs ys:List Int):Bool:=(List.zipWith (λa b=>decide (a<=b)) xs ys).all id
theorem b7p(xs ys:List Int):(List.zipWith (λa b=>V.bl (decide (a<=b))) xs ys).all trV=Bel xs ys:=by
 unfold Bel;induction xs generalizing ys with
 |nil=>rfl
 |cons x xs c =>
  cases ys with
  |nil=>rfl
  |cons y ys=>simp only[bj,cB,c ys];rfl
theorem a7F{γ:Type}(f:Int->Int->Int)(g:Int->γ):∀xs ys:List Int,List.zipWith (λa b=>g (f a b)) xs ys=(List.zipWith f xs ys).map g
 |[],_=>rfl
 |_::_,[]=>rfl
 |x::xs,y::ys=>by rw[bj,bj,aU,a7F f g xs ys]
section
variable {P:Program}{w:World}{K:PySem.W.Frag}{mg:Str->Option Value}{base:Heap}
end
noncomputable def dot(xs ys:List Int):Int:=(List.zipWith (λa b=>a*b) xs ys).sum
noncomputable def Ans(rss:LLI)(ys:List Int):Bool:=rss.all λr=>decide (dot r ys=0)
def Sm(ys:List Int):Prop:=∀z∈ys,-2 ^ 64<z/\z<2 ^ 64
section
variable {P:Program}{w:World}{K:PySem.W.Frag}{mg:Str->Option Value}{base:Heap}
inductive IspRowSum(vs:List V)(H:Hp)(Q:VK)(E:XK):Prop
 |mk (x:_) (y:_) (xs:_) (ys:_) (_:vs=[x,y]) (_:IT H x xs) (_:IT H y ys) (_:xs.length<=1000) (_:Sm ys) (_:∀H',Same H H'->Q (.int (dot xs ys)) H'):IspRowSum  vs H Q E
def a5y:Sp:=λvs H Q E=>IspRowSum  vs H Q E
theorem a6Q:FnScope ["row","one"] ["row","one"] (A3 X1):=⟨rfl,rfl,rfl,by decide +kernel,rfl,by decide +kernel,by decide +kernel⟩
theorem a7c(F:FunAt K mg "row_sum" X1 ["row","one"])(T:Tx mg):Ok P w K mg base "row_sum" 1 ["row","one"] a5y:=by
 refine F.okJ a6Q (λj H Q E h=>?_) (λd f A c s H j Q E m h=>?_)
 .obtain⟨x,y,xs,ys,rfl,_⟩:=h;rfl
 .obtain⟨_,_,xs,ys,rfl,⟨a,rfl,ha⟩,⟨b,rfl,hb⟩,hl,hs,k⟩:=h;refine⟨_,(A5 (A9 (b2e K rfl T.b_sum (jaC (B8 (N:=["a","b"]) (src:=[none,none]) (a2Q K rfl T.b_zip (jaC (jv 0) (jaC (jv 1) jaN))) (by show B6 _ _=true;rfl) (by rfl) (by rfl)
 (λ_ _ _ _ _=>(T3 K 2 (B4 (A8 (i:=0) (show(["a","b"]:List Str).Nodup by decide +kernel) rfl (Or.inl rfl)) (B4 (A8 (i:=1) (show(["a","b"]:List Str).Nodup by decide +kernel) rfl (Or.inl rfl)) M2)))) (λ_ _ _ _ _=>C0) (λ_ _ _ _ _=>(a0b (jv 0) (jv 1)))) jaN)))),?_⟩
  refine⟨_,rfl,_,rfl,true,true,a,b,rfl,⟨_,SqT.of ha⟩,⟨_,SqT.of hb⟩,?_⟩;refine a8O (caps:=[]) (λx y=>V.int (x*y)) hl (λH' s=>⟨sqt (s _ _ ha),sqt (s _ _ hb)⟩) rfl (λx y H1 l _ g _ q=>⟨_,rfl,_,rfl,_,_,rfl,rfl,.inr (hs y g),q⟩) λH1 p s e=>?_;rw[a7F (λx y=>x*y) V.int];exact⟨false,p,_,rfl,SqL.of A0,k _ (s.upd e)⟩
inductive IspSums(vs:List V)(H:Hp)(Q:VK)(E:XK):Prop
 |mk (a:Addr) (y:V) (us:List V) (rss:LLI) (ys:List Int) (_:vs=[.ref a,y]) (_:H a=some (.tup us)) (_:Its H us rss) (_:IT H y ys) (_:us.length<=1000) (_:(∀r∈rss,r.length<=1000)) (_:Sm ys) (_:∀v H',Same H H'->IT H' v (rss.map λr=>dot r ys)->Q v H'):IspSums  vs H Q E
def a6N:Sp:=λvs H Q E=>IspSums  vs H Q E
theorem b3n:FnScope ["rows","one"] ["rows","one"] (A3 a4F):=⟨rfl,rfl,rfl,by decide +kernel,rfl,by decide +kernel,by decide +kernel⟩
theorem b4e(F:FunAt K mg "sums" a4F ["rows","one"])(T:Tx mg)(b:Ok P w K mg base "row_sum" 1 ["row","one"] a5y):Ok P w K mg base "sums" 2 ["rows","one"] a6N:=by
 refine F.okJ b3n (λn H Q E h=>?_) (λg f A e s H n Q E d h=>?_)
 .obtain⟨a,y,us,rss,ys,rfl,_⟩:=h;rfl
 .obtain⟨a,y,us,rss,ys,rfl,ha,hI,hy,c,hl2,hs,k⟩:=h;refine⟨_,(A5 (A9 (D6 K rfl T.b_tuple (jaC (B8 (N:=["row","one"]) (src:=[none,some 1]) (J0 K (jv 0)) (by show B6 _ _=true;rfl) (by rfl) (by rfl)
 (λ_ _ _ _ _=>(A8 (i:=0) (show(["row","one"]:List Str).Nodup by decide +kernel) rfl (Or.inl rfl))) (λ_ _ _ _ _=>C0) (λ_ _ _ _ _=>(A7 b (d.mono (by omega)) rfl (jaC (jv 0) (jaC (jv 1) jaN))))) jaN)))),?_⟩
  refine⟨_,rfl,a,rfl,⟨_,SqT.of ha⟩,?_⟩;refine b3a (caps:=[some y]) (λr=>V.int (dot r ys)) c (λH' s=>SqT.of (s _ _ ha)) hI rfl (λv r H1 o d m s1 q=>⟨_,rfl,_,rfl,v,y,r,ys,rfl,m,hy.same s1,hl2 r d,hs,q⟩) λH1 p s j=>?_;rw[show(rss.map λr=>V.int (dot r ys))=(rss.map λr=>dot r ys).map V.int by rw[dy];rfl];refine⟨p,_,rfl,.inl ⟨SqL.of A0,λl c=>?_⟩⟩;exact k _ _ ((s.upd j).upd c) ⟨l,rfl,A0⟩
inductive IspIsAns(vs:List V)(H:Hp)(Q:VK)(E:XK):Prop
 |mk (a:Addr) (y:V) (us:List V) (rss:LLI) (ys:List Int) (_:vs=[.ref a,y]) (_:H a=some (.tup us)) (_:Its H us rss) (_:IT H y ys) (_:us.length<=1000) (_:(∀r∈rss,r.length<=1000)) (_:Sm ys) (_:∀H',Same H H'->Q (.bl (Ans rss ys)) H'):IspIsAns  vs H Q E
def a1L:Sp:=λvs H Q E=>IspIsAns  vs H Q E
theorem a4B:FnScope ["rows","one"] ["rows","one"] (A3 N7):=⟨rfl,rfl,rfl,by decide +kernel,rfl,by decide +kernel,by decide +kernel⟩
theorem a4L(F:FunAt K mg "is_answer" N7 ["rows","one"])(T:Tx mg)(b:Ok P w K mg base "sums" 2 ["rows","one"] a6N):Ok P w K mg base "is_answer" 3 ["rows","one"] a1L:=by
 refine F.okJ a4B (λn H Q E h=>?_) (λj f A d s H n Q E m h=>?_)
 .obtain⟨a,y,us,rss,ys,rfl,_⟩:=h;rfl
 .obtain⟨a,y,us,rss,ys,rfl,ha,hI,hy,hl,hl2,hs,k⟩:=h;refine⟨_,(A5 (A9 (K8 K rfl T.b_all (jaC (B8 (N:=["total"]) (src:=[none]) (J0 K (A7 b (m.mono (by omega)) rfl (jaC (jv 0) (jaC (jv 1) jaN)))) (by show B6 _ _=true;rfl) (by rfl) (by rfl)
 (λ_ _ _ _ _=>(A8 (i:=0) (show(["total"]:List Str).Nodup by decide +kernel) rfl (Or.inl rfl))) (λ_ _ _ _ _=>C0) (λ_ _ _ _ _=>(a3R (jv 0) A4))) jaN)))),?_⟩
  refine⟨_,rfl,_,rfl,a,y,us,rss,ys,rfl,ha,hI,hy,hl,hl2,hs,λv H1 s1 c=>?_⟩;obtain⟨q,rfl,g⟩:=c;refine⟨q,rfl,⟨_,SqT.of g⟩,?_⟩;refine b0y (caps:=[]) (λx=>V.bl (decide (V.int x=V.int 0))) (by rw[ai,<-hI.1];exact hl) (λH' s=>SqT.of (s _ _ g)) rfl (λx H2 o _ _ q=>⟨_,rfl,rfl,q⟩) λH2 p s2 l=>?_;refine⟨false,p,_,rfl,SqL.of A0,?_,?_⟩
  .rw[aR];intro v c;obtain⟨x,_,rfl⟩:=aW.mp c;rfl
  .have e:((rss.map λr=>dot r ys).map λx=>V.bl (decide (V.int x=V.int 0))).all trV=Ans rss ys:=by
    rw[fh,fh];unfold Ans;congr 1;funext r;show decide (V.int (dot r ys)=V.int 0)=decide (dot r ys=0);simp
   rw[e];exact k _ (s1.trans (s2.upd l))
end
theorem a5l{α β γ:Type}(f:α->β->Int)(g:Int->γ):∀(xs:List α) (ys:List β),List.zipWith (λa b=>g (f a b)) xs ys=(List.zipWith f xs ys).map g
 |[],_=>rfl
 |_::_,[]=>rfl
 |x::xs,y::ys=>by rw[bj,bj,aU,a5l f g xs ys]
noncomputable def O2(rss:LLI)(ts:List Int)(j:Nat):Int:=(List.zipWith (λt r=>t*r.getD j 0) ts rss).sum
noncomputable def a1h(rss:LLI)(ys:List Int)(j:Nat):Int:=O2 rss (rss.map λr=>dot r ys) j
def Rs(n:Nat)(rss:LLI):Prop:=∀r∈rss,r.length=n/\Sm r
theorem Sm.at{r:List Int}(h:Sm r){j:Nat}(a:j<r.length) : -2 ^ 64<r.getD j 0/\r.getD j 0<2 ^ 64:=by
 refine h _ ?_;rw[az,ak a];exact dm _
section
variable {P:Program}{w:World}{K:PySem.W.Frag}{mg:Str->Option Value}{base:Heap}
inductive IspPullOf(vs:List V)(H:Hp)(Q:VK)(E:XK):Prop
 |mk (a:Addr) (y:V) (us:List V) (rss:LLI) (ts:List Int) (j n:Nat) (_:vs=[.ref a,y,.int j]) (_:H a=some (.tup us)) (_:Its H us rss) (_:IT H y ts) (_:ts.length<=1000) (_:j<n) (_:n<=1000) (_:Rs n rss) (_:∀H',Same H H'->Q (.int (O2 rss ts j)) H'):IspPullOf  vs H Q E
def a5A:Sp:=λvs H Q E=>IspPullOf  vs H Q E
theorem a6R:FnScope ["rows","totals","j"] ["rows","totals","j"] (A3 X2):=⟨rfl,rfl,rfl,by decide +kernel,rfl,by decide +kernel,by decide +kernel⟩
theorem a7d(F:FunAt K mg "pull_of" X2 ["rows","totals","j"])(T:Tx mg):Ok P w K mg base "pull_of" 1 ["rows","totals","j"] a5A:=by
 refine F.okJ a6R (λo H Q E h=>?_) (λe f A c s H o Q E d h=>?_)
 .obtain⟨a,y,us,rss,ts,j,n,rfl,_⟩:=h;rfl
 .obtain⟨a,_,us,rss,ts,j,n,rfl,ha,hI,⟨b,rfl,hb⟩,hl,hj,hn,hR,k⟩:=h;refine⟨_,(A5 (A9 (b2e K rfl T.b_sum (jaC (B8 (N:=["total","row","j"]) (src:=[none,none,some 2]) (a2Q K rfl T.b_zip (jaC (jv 1) (jaC (jv 0) jaN))) (by show B6 _ _=true;rfl) (by rfl) (by rfl)
 (λ_ _ _ _ _=>(T3 K 2 (B4 (A8 (i:=0) (show(["total","row","j"]:List Str).Nodup by decide +kernel) rfl (Or.inl rfl)) (B4 (A8 (i:=1) (show(["total","row","j"]:List Str).Nodup by decide +kernel) rfl (Or.inl rfl)) M2)))) (λ_ _ _ _ _=>C0) (λ_ _ _ _ _=>(a0b (jv 0) (a2S K (jv 1) (jv 2))))) jaN)))),?_⟩
  refine⟨_,rfl,_,rfl,true,true,b,a,rfl,⟨_,SqT.of hb⟩,⟨_,SqT.of ha⟩,?_⟩;refine b0n (caps:=[some (.int j)]) (λt r=>V.int (t*r.getD j 0)) hl (λH' s=>⟨sqt (s _ _ hb),sqt (s _ _ ha)⟩) hI rfl (λx v r H1 u _ d m _ q=>?_) λH1 p s l=>?_
  .obtain⟨va,rfl,hva⟩:=m;obtain⟨z,g⟩:=hR r d;exact⟨_,rfl,_,rfl,_,rfl,va,_,_,_,rfl,rfl,SqT.of hva,a3k (by omega),_,_,rfl,rfl,.inr (g.at (by omega)),q⟩
  .rw[a5l (λt r=>t*List.getD r j 0) V.int];exact⟨false,p,_,rfl,SqL.of A0,k _ (s.upd l)⟩
inductive IspFalls(vs:List V)(H:Hp)(Q:VK)(E:XK):Prop
 |mk (a:Addr) (y:V) (us:List V) (rss:LLI) (ys:List Int) (_:vs=[.ref a,y]) (_:H a=some (.tup us)) (_:Its H us rss) (_:IT H y ys) (_:us.length<=1000) (_:ys.length<=1000) (_:Rs ys.length rss) (_:Sm ys) (_:∀v H',Same H H'->IT H' v (((List.range ys.length).filter λj=>decide (a1h rss ys j<0)).map λ(i:Nat)=>(i:Int))->Q v H'):IspFalls  vs H Q E
def a8c:Sp:=λvs H Q E=>IspFalls  vs H Q E
theorem sc_falls:FnScope ["rows","one","totals"] ["rows","one"] (A3 a1R):=⟨rfl,rfl,rfl,by decide +kernel,rfl,by decide +kernel,by decide +kernel⟩
theorem b1N(F:FunAt K mg "falls" a1R ["rows","one"])(T:Tx mg)(b:Ok P w K mg base "pull_of" 1 ["rows","totals","j"] a5A)(c:Ok P w K mg base "sums" 2 ["rows","one"] a6N):Ok P w K mg base "falls" 3 ["rows","one"] a8c:=by
 refine F.okJ sc_falls (λx H Q E h=>?_) (λn f A m s H x Q E e h=>?_)
 .obtain⟨a,y,us,rss,ts,rfl,_⟩:=h;rfl
 .obtain⟨a,y,us,rss,ys,rfl,ha,hI,hy,d,hn,hR,hs,k⟩:=h;refine⟨_,(A2 (B2 (i:=2) sc_falls.nd rfl (Or.inr rfl) (A7 c (e.mono (by omega)) rfl (jaC (jv 0) (jaC (jv 1) jaN))))
 (A5 (A9 (D6 K rfl T.b_tuple (jaC (B8 (N:=["j","rows","totals"]) (src:=[none,some 0,some 2]) (J7 rfl T.b_range (jaC (G1 K rfl T.b_len (jaC (jv 1) jaN)) jaN)) (by show B6 _ _=true;rfl) (by rfl) (by rfl)
 (λ_ _ _ _ _=>(A8 (i:=0) (show(["j","rows","totals"]:List Str).Nodup by decide +kernel) rfl (Or.inl rfl))) (λ_ _ _ _ _=>(a0Z (b1Y (A7 b (e.mono (by omega)) rfl (jaC (jv 1) (jaC (jv 2) (jaC (jv 0) jaN)))) A4))) (λ_ _ _ _ _=>(jv 0))) jaN))))),?_⟩
  refine⟨_,rfl,_,rfl,a,y,us,rss,ys,rfl,ha,hI,hy,d,λr e=>by rw[(hR r e).1];exact hn,hs,λv H1 s1 t=>?_⟩;dsimp only[B0];obtain⟨z,rfl,g⟩:=hy.same s1;refine⟨_,rfl,z,_,rfl,.inr (SqT.of g),_,rfl,by omega,by rw[ai];omega,?_⟩;rw[bw,ai];refine a6W (caps:=[some (.ref a),some v]) (λj=>decide (a1h rss ys j<0)) hn rfl (λi H2 C hi s2 q=>?_) λH2 p s2 o=>?_
  .refine⟨_,rfl,_,rfl,_,rfl,a,v,us,rss,_,i,ys.length,rfl,(s1.trans s2) _ _ ha,hI.same (s1.trans s2),t.same s2,by rw[ai,<-hI.1];exact d,hi,hn,hR,λB u=>?_⟩;exact⟨_,_,rfl,rfl,_,rfl,q _ u⟩
  .refine⟨p,_,rfl,.inl ⟨SqL.of A0,λl d=>?_⟩⟩;exact k _ _ (s1.trans ((s2.upd o).upd d)) ⟨l,rfl,A0⟩
end
theorem b2A(x y:Int)(xs ys:List Int):dot (x::xs) (y::ys)=x*y+dot xs ys:=by unfold dot;rw[bj,bH]
theorem a4b:∀(xs ys:List Int),xs.length=ys.length->dot xs ys=((List.range ys.length).map λj=>xs.getD j 0*ys.getD j 0).sum
 |[],[],_=>rfl
 |x::xs,y::ys,h=>by
  rw[b2A,a4b xs ys (by simpa using h),aT,List.range_succ_eq_map,aU,bH,dy];rfl
theorem a7V(l:List Nat)(f g:Nat->Int):(l.map λj=>f j+g j).sum=(l.map f).sum+(l.map g).sum:=by
 induction l with
 |nil=>rfl
 |cons x l a=>simp only[aU,bH,a];omega
theorem a4p(l:List Nat)(c:Int)(f:Nat->Int):(l.map λj=>c*f j).sum=c*(l.map f).sum:=by
 induction l with
 |nil=>simp
 |cons x l a=>simp only[aU,bH,a,Int.mul_add]
noncomputable def bump(now:List Int)(j:Nat):List Int:=now.set j (now.getD j 0+1)
noncomputable def Pl(rss:LLI)(now xs:List Int):List Nat:=(List.range xs.length).filter λj=>decide (now.getD j 0<xs.getD j 0) && (Ans rss now || decide (a1h rss now j<0))
def Under(now xs:List Int):Prop:=now.length=xs.length/\∀j,j<xs.length->now.getD j 0<=xs.getD j 0
theorem E5(a:List Int)(j:Nat):(bump a j).length=a.length:=List.length_set
theorem b1u{rss:LLI}{a xs:List Int}{j:Nat}(h:j∈Pl rss a xs):j<xs.length/\a.getD j 0<xs.getD j 0:=by
 unfold Pl at h;rw[aX,ba,aL,bC]at h;exact⟨h.1,h.2.1⟩
theorem a0H(a:List Int)(j k:Nat)(b:j<a.length):(bump a j).getD k 0=if k=j then a.getD j 0+1 else a.getD k 0:=by
 unfold bump;rw[az,List.getElem?_set];by_cases e:j=k
 .subst e;rw[ay rfl,ay b,ay rfl];rfl
 .rw[ao e,ao (dC e),az]
theorem Under.bump{rss:LLI}{a xs:List Int}{j:Nat}(h:Under a xs)(b:j∈Pl rss a xs):Under (bump a j) xs:=by
 obtain⟨h1,h2⟩:=b1u b;refine⟨by rw[E5];exact h.1,λk c=>?_⟩;rw[a0H _ _ _ (by rw[h.1];exact h1)];by_cases e:k=j
 .rw[ay e,e];omega
 .rw[ao e];exact h.2 k c
theorem a7T:∀(xs:List Int) (k:Nat) (z:Int),k<xs.length->(xs.set k z).sum=xs.sum-xs.getD k 0+z
 |[],_,_,h=>by simp at h
 |x::xs,0,z,_=>by rw[dw,bH,bH,List.getD_cons_zero];omega
 |x::xs,k+1,z,h=>by rw[ed,bH,bH,List.getD_cons_succ,a7T xs k z (by simpa using h)];omega
theorem a6y(a:List Int)(j:Nat)(h:j<a.length):(bump a j).sum=a.sum+1:=by
 unfold bump;rw[a7T _ _ _ h];omega
theorem Under.tail{x y:Int}{xs ys:List Int}(h:Under (x::xs) (y::ys)):x<=y/\Under xs ys :=
 ⟨by simpa using h.2 0 (by simp),by simpa using h.1,λj a=>by simpa using h.2 (j+1) (by simpa using a)⟩
theorem Under.sum:∀{xs ys:List Int},Under xs ys->xs.sum<=ys.sum/\(xs≠ys->xs.sum<ys.sum)
 |[],[],_=>⟨fL _,λh=>absurd rfl h⟩
 |[],_::_,h=>by have:=h.1;simp at this
 |_::_,[],h=>by have:=h.1;simp at this
 |x::xs,y::ys,h=>by
  obtain⟨h1,h2⟩:=h.tail;obtain⟨b,a⟩:=Under.sum h2;rw[bH,bH];refine⟨by omega,λne=>?_⟩;by_cases e:xs=ys
  .subst e;have:x≠y:=λq=>ne (by rw[q]);omega
  .have:=a e;omega
theorem Under.ne:∀{xs ys:List Int},Under xs ys->xs≠ys->∃j,j<ys.length/\xs.getD j 0<ys.getD j 0
 |[],[],_,h=>absurd rfl h
 |[],_::_,h,_=>by have:=h.1;simp at this
 |_::_,[],h,_=>by have:=h.1;simp at this
 |x::xs,y::ys,h,ne=>by
  obtain⟨h1,h2⟩:=h.tail;by_cases e:xs=ys
  .subst e;have:x≠y:=λq=>ne (by rw[q]);exact⟨0,by simp,by simp;omega⟩
  .obtain⟨j,q1,q2⟩:=Under.ne h2 e;exact⟨j+1,by simpa using q1,by simpa using q2⟩
theorem b0E(l:List Int)(h:∀x∈l,0<=x):0<=l.sum:=by
 induction l with
 |nil=>exact fL _
 |cons x l b =>
  rw[bH];have:=h x (ar ..);have:=b λy a=>h y (av _ a);omega
theorem a7U(l:List Int)(h:∀x∈l,0<=x)(y:Int)(b:y∈l)(hp:0<y):0<l.sum:=by
 induction l with
 |nil=>cases b
 |cons x l c =>
  rw[bH];have e:=h x (ar ..);have d:=b0E l λz a=>h z (av _ a);rcases aE.mp b with q|q
  .omega
  .have:=c (λz a=>h z (av _ a)) q;omega
theorem a1q(t:Int):0<=t*t:=by
 rcases Int.le_total 0 t with h|h
 .exact Int.mul_nonneg h h
 .have:=Int.mul_nonneg (a := -t) (b := -t) (by omega) (by omega);rwa[Int.neg_mul_neg]at this
theorem a2d(ys:List Int):∀(rss:LLI) (a:List Int),(∀r∈rss,r.length=ys.length)->a.length=rss.length ->
  ((List.range ys.length).map λj=>O2 rss a j*ys.getD j 0).sum=(List.zipWith (λt r=>t*dot r ys) a rss).sum
 |[],[],_,_=>by
  have e:((List.range ys.length).map λj=>O2 [] [] j*ys.getD j 0)=(List.range ys.length).map λj=>0*ys.getD j 0:=rfl;rw[e,a4p,Int.zero_mul];rfl
 |[],_::_,_,h=>by simp at h
 |_::_,[],_,h=>by simp at h
 |r::rss,t::a,h,b=>by
  have d:=a2d ys rss a (λq c=>h q (av _ c)) (by simpa using b);rw[bj,bH,<-d];have e:(λj=>O2 (r::rss) (t::a) j*ys.getD j 0)=λj=>t*(r.getD j 0*ys.getD j 0)+O2 rss a j*ys.getD j 0:=by
   funext j;unfold O2;rw[bj,bH,Int.add_mul,Int.mul_assoc]
  rw[e,a7V,a4p,<-a4b r ys (h r (ar ..))]
theorem a7X:∀(rss:LLI) (a xs:List Int),Ans rss xs=true->(List.zipWith (λt r=>t*dot r xs) (rss.map λr=>dot r a) rss).sum=0
 |[],_,_,_=>rfl
 |r::rss,a,xs,h=>by
  unfold Ans at h;rw[cB,aL,bC]at h;rw[aU,bj,bH,h.1,a7X rss a xs h.2];omega
theorem b5z(rss:LLI)(a:List Int)(h:Ans rss a=false):0<(List.zipWith (λt r=>t*dot r a) (rss.map λr=>dot r a) rss).sum:=by
 have e:List.zipWith (λt r=>t*dot r a) (rss.map λr=>dot r a) rss=rss.map λr=>dot r a*dot r a:=by
  clear h;induction rss with
  |nil=>rfl
  |cons r rss f=>rw[aU,bj,aU,f]
 rw[e];have:∃r∈rss,dot r a≠0:=by
  refine bT λq=>?_;have:Ans rss a=true:=by
   unfold Ans;rw[aR];intro r c;rw[bC];exact bT λz=>q ⟨r,c,z⟩
  rw[this]at h;cases h
 obtain⟨r,c,b⟩:=this;refine a7U _ (λx d=>?_) (dot r a*dot r a) (aW.mpr ⟨r,c,rfl⟩) ?_
 .obtain⟨q,_,rfl⟩:=aW.mp d;exact a1q _
 .have h1:=a1q (dot r a);have h2:dot r a*dot r a≠0:=λz=>by
   rcases Int.mul_eq_zero.mp z with q|q<;>exact b q
  omega
theorem b7D(rss:LLI)(a xs:List Int)(hR:∀r∈rss,r.length=xs.length)(c:Under a xs)(h:a≠xs)(m:Ans rss xs=true):Pl rss a xs≠[]:=by
 intro b;unfold Pl at b;rw[List.filter_eq_nil_iff]at b;cases d:Ans rss a with
 |true =>
  obtain⟨j,h1,h2⟩:=c.ne h;refine b j (ba.mpr h1) ?_;rw[d,aL,bC];exact⟨h2,rfl⟩
 |false =>
  have p1:=a2d a rss (rss.map λr=>dot r a) (λr o=>by rw[hR r o,c.1]) (by simp);have p2:=a2d xs rss (rss.map λr=>dot r a) hR (by simp);have w:=b5z rss a d;have u:=a7X rss a xs m;rw[c.1]at p1;have v:((List.range xs.length).map λj=>O2 rss (rss.map λr=>dot r a) j*a.getD j 0+(-1)*(O2 rss (rss.map λr=>dot r a) j*xs.getD j 0)).sum<=0:=by
   have hs:∀(l:List Int),(∀x∈l,x<=0)->l.sum<=0:=λl k=>by
    induction l with
    |nil=>exact fL _
    |cons x l t =>
     rw[bH];have:=k x (ar ..);have:=t λy s=>k y (av _ s);omega
   refine hs _ λx p=>?_;obtain⟨j,i,rfl⟩:=aW.mp p;have f:=ba.mp i;have n:=c.2 j f;have e:O2 rss (rss.map λr=>dot r a) j*a.getD j 0+(-1)*(O2 rss (rss.map λr=>dot r a) j*xs.getD j 0) = -(O2 rss (rss.map λr=>dot r a) j*(xs.getD j 0-a.getD j 0)):=by
    rw[Int.mul_sub];omega
   rw[e];by_cases g:a.getD j 0<xs.getD j 0
   .have hp:0<=O2 rss (rss.map λr=>dot r a) j:=by
     have q:=b j i;rw[d]at q;have A:¬a1h rss a j<0:=λz=>q (by simp only[eO,aL,bC];exact⟨g,z⟩);show 0<=a1h rss a j;omega
    have:=Int.mul_nonneg hp (show 0<=xs.getD j 0-a.getD j 0 by omega);omega
   .have:xs.getD j 0-a.getD j 0=0:=by omega
    rw[this,Int.mul_zero];exact fL _
  rw[a7V,a4p,p1,p2,u]at v;omega
section
variable {P:Program}{w:World}{K:PySem.W.Frag}{mg:Str->Option Value}{base:Heap}
inductive IspBelow(vs:List V)(H:Hp)(Q:VK)(E:XK):Prop
 |mk (x:_) (y:_) (xs:_) (ys:_) (_:vs=[x,y]) (_:IT H x xs) (_:IT H y ys) (_:xs.length<=1000) (_:∀H',Same H H'->Q (.bl (Bel xs ys)) H'):IspBelow  vs H Q E
def a1M:Sp:=λvs H Q E=>IspBelow  vs H Q E
theorem b0T:FnScope ["one","other"] ["one","other"] (A3 a1S):=⟨rfl,rfl,rfl,by decide +kernel,rfl,by decide +kernel,by decide +kernel⟩
theorem b1P(F:FunAt K mg "below" a1S ["one","other"])(T:Tx mg):Ok P w K mg base "below" 1 ["one","other"] a1M:=by
 refine F.okJ b0T (λj H Q E h=>?_) (λd f A c s H j Q E m h=>?_)
 .obtain⟨x,y,xs,ys,rfl,_⟩:=h;rfl
 .obtain⟨_,_,xs,ys,rfl,⟨a,rfl,ha⟩,⟨b,rfl,hb⟩,hl,k⟩:=h;refine⟨_,(A5 (A9 (K8 K rfl T.b_all (jaC (B8 (N:=["a","b"]) (src:=[none,none]) (a2Q K rfl T.b_zip (jaC (jv 0) (jaC (jv 1) jaN))) (by show B6 _ _=true;rfl) (by rfl) (by rfl)
 (λ_ _ _ _ _=>(T3 K 2 (B4 (A8 (i:=0) (show(["a","b"]:List Str).Nodup by decide +kernel) rfl (Or.inl rfl)) (B4 (A8 (i:=1) (show(["a","b"]:List Str).Nodup by decide +kernel) rfl (Or.inl rfl)) M2)))) (λ_ _ _ _ _=>C0) (λ_ _ _ _ _=>(b5k (jv 0) (jv 1)))) jaN)))),?_⟩
  refine⟨_,rfl,_,rfl,true,true,a,b,rfl,⟨_,SqT.of ha⟩,⟨_,SqT.of hb⟩,?_⟩;refine b0p (caps:=[]) (λx y=>V.bl (decide (x<=y))) (sqt ha) (sqt hb) hl (λH' s=>⟨sqt (s _ _ ha),sqt (s _ _ hb)⟩) rfl (λx y H1 l _ q=>⟨_,rfl,_,rfl,_,_,rfl,rfl,q⟩) λH1 p s e=>?_;refine⟨false,p,_,rfl,SqL.of A0,?_,?_⟩
  .rw[aR];intro v g;obtain⟨i,hi,rfl⟩:=cx.mp g;rw[List.getElem_zipWith];rfl
  .rw[b7p];exact k _ (s.upd e)
inductive IspUnit(vs:List V)(H:Hp)(Q:VK)(E:XK):Prop
 |mk (wd:Int) (n j:Nat) (_:vs=[.int wd,.int j]) (_:wd=n) (_:n<=1000) (_:j<n) (_:∀v H',Same H H'->IT H' v ((List.range n).map λi=>if i=j then 1 else 0)->Q v H'):IspUnit  vs H Q E
def b0G:Sp:=λvs H Q E=>IspUnit  vs H Q E
theorem b3m:FnScope ["width","j"] ["width","j"] (A3 a4E):=⟨rfl,rfl,rfl,by decide +kernel,rfl,by decide +kernel,by decide +kernel⟩
theorem b4b(F:FunAt K mg "unit" a4E ["width","j"])(T:Tx mg):Ok P w K mg base "unit" 1 ["width","j"] b0G:=by
 refine F.okJ b3m (λm H Q E h=>?_) (λc f A b s H m Q E r h=>?_)
 .obtain⟨_,n,j,rfl,_⟩:=h;rfl
 .obtain⟨_,n,j,rfl,rfl,hn,hj,k⟩:=h;refine⟨_,(A5 (A9 (D6 K rfl T.b_tuple (jaC (B8 (N:=["k","j"]) (src:=[none,some 1]) (J7 rfl T.b_range (jaC (jv 0) jaN)) (by show B6 _ _=true;rfl) (by rfl) (by rfl)
 (λ_ _ _ _ _=>(A8 (i:=0) (show(["k","j"]:List Str).Nodup by decide +kernel) rfl (Or.inl rfl))) (λ_ _ _ _ _=>C0) (λ_ _ _ _ _=>(b7U (a6i (jv 0) (jv 1)) A4 A4))) jaN)))),?_⟩
  refine⟨_,rfl,n,rfl,by omega,by omega,?_⟩;rw[bw];refine a6V (caps:=[some (.int j)]) (λi=>V.int (if i=j then 1 else 0)) hn rfl (λi H1 o hi _ q=>?_) λH1 p s g=>?_
  .refine⟨_,rfl,_,rfl,rfl,_,rfl,a5a (λe=>?_) (λe=>?_)⟩
   .have e1:(i:Int)=(j:Int):=by simpa using e
    have a:i=j:=by omega
    rw[ay a]at q;exact q
   .have e1:¬(i:Int)=(j:Int):=by simpa using e
    have a:i≠j:=by omega
    rw[ao a]at q;exact q
  .rw[show((List.range n).map λi=>V.int (if i=j then 1 else 0))=((List.range n).map λi=>if i=j then(1:Int)else 0).map V.int by rw[dy];rfl];refine⟨p,_,rfl,.inl ⟨SqL.of A0,λl d=>?_⟩⟩;exact k _ _ ((s.upd g).upd d) ⟨l,rfl,A0⟩
noncomputable def cV:Option Int->V
 |none=>.non
 |some c=>.int c
noncomputable def a9Y(c:Option Int)(x:Int):Bool:=match c with|none=>true|some c=>decide (x<=c)
noncomputable def Wi(cs:List (Option Int))(xs:List Int):Bool:=(List.zipWith a9Y cs xs).all id
theorem b7q(cs:List (Option Int))(xs:List Int):(List.zipWith (λc x=>V.bl (a9Y c x)) cs xs).all trV=Wi cs xs:=by
 unfold Wi;induction cs generalizing xs with
 |nil=>rfl
 |cons c cs a =>
  cases xs with
  |nil=>rfl
  |cons x xs=>rw[bj,bj,cB,cB,a];rfl
inductive IspWithin(vs:List V)(H:Hp)(Q:VK)(E:XK):Prop
 |mk (a b:Addr) (cs:List (Option Int)) (xs:List Int) (_:vs=[.ref a,.ref b]) (_:H a=some (.tup (cs.map cV))) (_:H b=some (.tup (xs.map V.int))) (_:cs.length<=1000) (_:∀H',Same H H'->Q (.bl (Wi cs xs)) H'):IspWithin  vs H Q E
def a2j:Sp:=λvs H Q E=>IspWithin  vs H Q E
theorem a9g:FnScope ["caps","one"] ["caps","one"] (A3 a0s):=⟨rfl,rfl,rfl,by decide +kernel,rfl,by decide +kernel,by decide +kernel⟩
theorem a3M(F:FunAt K mg "within" a0s ["caps","one"])(T:Tx mg):Ok P w K mg base "within" 1 ["caps","one"] a2j:=by
 refine F.okJ a9g (λl H Q E h=>?_) (λe f A d s H l Q E n h=>?_)
 .obtain⟨a,b,cs,xs,rfl,_⟩:=h;rfl
 .obtain⟨a,b,cs,xs,rfl,ha,hb,hl,k⟩:=h;refine⟨_,(A5 (A9 (K8 K rfl T.b_all (jaC (B8 (N:=["cap","number"]) (src:=[none,none]) (a2Q K rfl T.b_zip (jaC (jv 0) (jaC (jv 1) jaN))) (by show B6 _ _=true;rfl) (by rfl) (by rfl)
 (λ_ _ _ _ _=>(T3 K 2 (B4 (A8 (i:=0) (show(["cap","number"]:List Str).Nodup by decide +kernel) rfl (Or.inl rfl)) (B4 (A8 (i:=1) (show(["cap","number"]:List Str).Nodup by decide +kernel) rfl (Or.inl rfl)) M2)))) (λ_ _ _ _ _=>C0) (λ_ _ _ _ _=>(b7S (b1X (jv 0) O6) (a1v (b5k (jv 1) (jv 0)))))) jaN)))),?_⟩
  refine⟨_,rfl,_,rfl,true,true,a,b,rfl,⟨_,SqT.of ha⟩,⟨_,SqT.of hb⟩,?_⟩;refine b2T (caps:=[]) cV V.int (λc x=>V.bl (a9Y c x)) hl (λH' s=>⟨sqt (s _ _ ha),sqt (s _ _ hb)⟩) rfl (λc x H1 m _ _ _ q=>?_) λH1 p s g=>?_
  .cases c with
   |none=>exact⟨_,rfl,rfl,true,rfl,E3 (q _ (Same.refl _))⟩
   |some c=>exact⟨_,rfl,rfl,false,rfl,C6 ⟨_,rfl,_,rfl,_,_,rfl,rfl,q _ (Same.refl _)⟩⟩
  refine⟨false,p,_,rfl,SqL.of A0,?_,?_⟩
  .rw[aR];intro v j;obtain⟨i,hi,rfl⟩:=cx.mp j;rw[List.getElem_zipWith];rfl
  .rw[b7q];exact k _ (s.upd g)
end
noncomputable def M6(n j:Nat):List Int:=(List.range n).map λi=>if i=j then(1:Int)else 0
noncomputable def N1(cs:List (Option Int)):LLI:=((List.range cs.length).map (M6 cs.length)).filter λu=>Wi cs u
noncomputable def a8K(c:Option Int)(x:Int):Bool:=match c with|none=>true|some c=>decide (x<c)
noncomputable def StP(rss:LLI)(cs:List (Option Int))(ys:List Int):List Nat:=((List.range ys.length).filter λj=>decide (a1h rss ys j<0)).filter λj=>a8K (cs.getD j none) (ys.getD j 0)
section
variable {P:Program}{w:World}{K:PySem.W.Frag}{mg:Str->Option Value}{base:Heap}
inductive IspFirst(vs:List V)(H:Hp)(Q:VK)(E:XK):Prop
 |mk (a:Addr) (cs:List (Option Int)) (_:vs=[.ref a]) (_:H a=some (.tup (cs.map cV))) (_:1<=cs.length) (_:cs.length<=100) (_:∀p zs tss H',Same H H'->H' p=some (.tup zs)->Its H' zs tss->tss.Perm (N1 cs)->C9 tss->Q (.ref p) H'):IspFirst  vs H Q E
def a4u:Sp:=λvs H Q E=>IspFirst  vs H Q E
theorem sc_first_steps:FnScope ["caps","units"] ["caps"] (A3 K0):=⟨rfl,rfl,rfl,by decide +kernel,rfl,by decide +kernel,by decide +kernel⟩
theorem a2z(F:FunAt K mg "first_steps" K0 ["caps"])(T:Tx mg)(c:Ok P w K mg base "unit" 1 ["width","j"] b0G)(b:Ok P w K mg base "within" 1 ["caps","one"] a2j):Ok P w K mg base "first_steps" 2 ["caps"] a4u:=by
 refine F.okJ sc_first_steps (λX H Q E h=>?_) (λU f A L s H X Q E n h=>?_)
 .obtain⟨a,cs,rfl,_⟩:=h;rfl
 .obtain⟨a,cs,rfl,ha,h1,h2,k⟩:=h;have Z:(3000:Nat)<=sizeLine:=by rw[aV];decide
  refine⟨_,(A2 (a4V (i:=1) sc_first_steps.nd rfl (Or.inl rfl) (N:=["j","caps"]) (src:=[none,some 0]) (J7 rfl T.b_range (jaC (G1 K rfl T.b_len (jaC (jv 0) jaN)) jaN)) (by show B6 _ _=true;rfl) (by rfl) (by rfl)
 (λ_ _ _ _ _=>(A8 (i:=0) (show(["j","caps"]:List Str).Nodup by decide +kernel) rfl (Or.inl rfl))) (λ_ _ _ _ _=>C0) (λ_ _ _ _ _=>(A7 c (n.mono (by omega)) rfl (jaC (G1 K rfl T.b_len (jaC (jv 1) jaN)) (jaC (jv 0) jaN)))))
 (A5 (A9 (D6 K rfl T.b_tuple (jaC (a6k K rfl T.b_sorted (jaC (B8 (N:=["one","caps"]) (src:=[none,some 0]) (J1 K (jv 1)) (by show B6 _ _=true;rfl) (by rfl) (by rfl)
 (λ_ _ _ _ _=>(A8 (i:=0) (show(["one","caps"]:List Str).Nodup by decide +kernel) rfl (Or.inl rfl))) (λ_ _ _ _ _=>(a0Z (C1 K (A7 b (n.mono (by omega)) rfl (jaC (jv 1) (jaC (jv 0) jaN)))))) (λ_ _ _ _ _=>(jv 0))) jaN)) jaN))))),?_⟩
  refine⟨_,rfl,a,_,rfl,.inr (SqT.of ha),_,rfl,by rw[ai];omega,by rw[ai];omega,?_⟩;rw[bw,ai];refine a0w (caps:=[some (.ref a)]) (by omega) rfl (λi ys H'=>Same H H'/\Its H' ys ((List.range i).map (M6 cs.length))) ⟨Same.refl H,.nil⟩ (λi ys H' h=>by rw[h.2.1];simp) ?_ ?_
  .rintro i ys H' hi ⟨s',hI⟩;refine⟨_,rfl,a,_,rfl,.inr (SqT.of (s' _ _ ha)),_,rfl,_,cs.length,i,rfl,by rw[ai],by omega,hi,λv H2 s2 J=>⟨s'.trans s2,?_⟩⟩;rw[List.range_succ,b_];exact(hI.same s2).snoc J
  .rintro ys H' ⟨s',hI⟩ p hp;dsimp only[B0];have s1:=s'.upd (o:=.lst ys) hp;have e:=hI.same ((Same.refl H').upd (o:=.lst ys) hp);have y:upd H' p (.lst ys) p=some (.lst ys):=A0;generalize upd H' p (.lst ys)=H1 at s1 e y;refine⟨_,rfl,p,rfl,⟨_,SqL.of y⟩,?_⟩;have V:ys.length=cs.length:=by rw[hI.1];simp
   refine a2G (caps:=[some (.ref a)]) (λu=>Wi cs u) (by omega) (λH2 s2=>SqL.of (s2 _ _ y)) e rfl (λv r H2 Y n J s2 q=>?_) λH2 p2 d s2 m z=>?_
   .obtain⟨va,rfl,hva⟩:=J;exact⟨_,rfl,_,rfl,a,va,cs,r,rfl,(s1.trans s2) _ _ ha,hva,by omega,λt x=>⟨Wi cs r,rfl,q t x⟩⟩
   have x:=(s1.trans s2).upd (o:=.lst d) m;have g:=z.same ((Same.refl H2).upd (o:=.lst d) m);have O:upd H2 p2 (.lst d) p2=some (.lst d):=A0;generalize upd H2 p2 (.lst d)=t at x g O;refine⟨p2,d,_,rfl,.inl (SqL.of O),g,λr n=>?_,λl zs M C B G I _=>?_⟩
   .obtain⟨j,_,rfl⟩:=aW.mp (aX.mp n).1;simp[M6];omega
   refine⟨l,_,rfl,.inl ⟨SqL.of A0,λW D=>?_⟩⟩;have R:=(Same.refl t).upd (o:=.lst zs) C;have S:=(Same.refl (upd t l (.lst zs))).upd (o:=.tup zs) D;exact k W zs M _ ((x.trans R).trans S) A0 ((B.same R).same S) G I
inductive IspRaised(vs:List V)(H:Hp)(Q:VK)(E:XK):Prop
 |mk (y:V) (ys:List Int) (j:Nat) (_:vs=[y,.int j]) (_:IT H y ys) (_:j<ys.length) (_:ys.length<=1000) (_:∀v H',Same H H'->IT H' v (bump ys j)->Q v H'):IspRaised  vs H Q E
def a5z:Sp:=λvs H Q E=>IspRaised  vs H Q E
theorem a9h:FnScope ["one","j"] ["one","j"] (A3 a0t):=⟨rfl,rfl,rfl,by decide +kernel,rfl,by decide +kernel,by decide +kernel⟩
theorem a9A(F:FunAt K mg "raised" a0t ["one","j"]):Ok P w K mg base "raised" 1 ["one","j"] a5z:=by
 refine F.okJ a9h (λd H Q E h=>?_) (λc f A b s H d Q E e h=>?_)
 .obtain⟨y,ys,j,rfl,_⟩:=h;rfl
 .obtain⟨_,ys,j,rfl,⟨a,rfl,ha⟩,hj,hl,k⟩:=h;refine⟨_,(A5 (A9 (O5 (O5 (b5n K (jv 0) Y7 (Y0 (jv 1))) (D7 (jaC (M8 (a2S K (jv 0) (jv 1)) A4) jaN))) (b5n K (jv 0) (Y0 (M8 (jv 1) A4)) Y7)))),?_⟩;exact b5M (i:=0) (j:=1) (a:=a) (xs:=ys) (k:=j) (z:=ys.getD j 0+1) rfl rfl ha hj hl (λH' N s' q=>⟨_,rfl,_,rfl,a,_,_,_,rfl,rfl,SqT.of (s' _ _ ha),a3k hj,_,_,rfl,rfl,q⟩) k
inductive IspSteps(vs:List V)(H:Hp)(Q:VK)(E:XK):Prop
 |mk (a c:Addr) (y:V) (us:List V) (rss:LLI) (cs:List (Option Int)) (ys:List Int) (_:vs=[.ref a,.ref c,y]) (_:H a=some (.tup us)) (_:Its H us rss) (_:H c=some (.tup (cs.map cV))) (_:IT H y ys) (_:us.length<=1000) (_:ys.length<=100) (_:cs.length=ys.length) (_:Rs ys.length rss) (_:Sm ys) (_:∀p ps H',Same H H'->H' p=some (.lst ps)->Prs H' ps (bump ys) (StP rss cs ys)->Q (.ref p) H'):IspSteps  vs H Q E
def a4r:Sp:=λvs H Q E=>IspSteps  vs H Q E
theorem b2D{cs:List (Option Int)}{j:Nat}(h:j<cs.length):atI (cs.map cV) (j:Int)=some (cV (cs.getD j none)):=by
 refine a0J ?_;rw[aP,ak h];simp[az,h]
theorem sc_steps:FnScope ["rows","caps","one","places"] ["rows","caps","one"] (A3 a1O):=⟨rfl,rfl,rfl,by decide +kernel,rfl,by decide +kernel,by decide +kernel⟩
theorem b1I(F:FunAt K mg "steps" a1O ["rows","caps","one"])(T:Tx mg)(d:Ok P w K mg base "falls" 3 ["rows","one"] a8c)(b:Ok P w K mg base "raised" 1 ["one","j"] a5z):Ok P w K mg base "steps" 4 ["rows","caps","one"] a4r:=by
 refine F.okJ sc_steps (λX H Q E h=>?_) (λR f A G s H X Q E L h=>?_)
 .obtain⟨a,c,y,us,rss,cs,ys,rfl,_⟩:=h;rfl
 .obtain⟨a,c,_,us,rss,cs,ys,rfl,ha,hI,hc,⟨y,rfl,hy⟩,hl,hn,hcl,hR,hs,k⟩:=h;have Z:(3000:Nat)<=sizeLine:=by rw[aV];decide
  refine⟨_,(A2 (a4V (i:=3) sc_steps.nd rfl (Or.inl rfl) (N:=["j","caps","one"]) (src:=[none,some 1,some 2]) (J0 K (A7 d (L.mono (by omega)) rfl (jaC (jv 0) (jaC (jv 2) jaN)))) (by show B6 _ _=true;rfl) (by rfl) (by rfl)
 (λ_ _ _ _ _=>(A8 (i:=0) (show(["j","caps","one"]:List Str).Nodup by decide +kernel) rfl (Or.inl rfl))) (λ_ _ _ _ _=>(a0Z (a2O (a3Q (b1Z (a2S K (jv 1) (jv 0)) O6) (a0X (b1Y (a2S K (jv 2) (jv 0)) (a2S K (jv 1) (jv 0)))))))) (λ_ _ _ _ _=>(jv 0)))
 (A5 (A9 (B8 (N:=["j","one"]) (src:=[none,some 2]) (J1 K (jv 3)) (by show B6 _ _=true;rfl) (by rfl) (by rfl)
 (λ_ _ _ _ _=>(A8 (i:=0) (show(["j","one"]:List Str).Nodup by decide +kernel) rfl (Or.inl rfl))) (λ_ _ _ _ _=>C0) (λ_ _ _ _ _=>(D7 (jaC (jv 0) (jaC (A7 b (L.mono (by omega)) rfl (jaC (jv 1) (jaC (jv 0) jaN))) jaN)))))))),?_⟩
  refine⟨_,rfl,_,rfl,a,_,us,rss,ys,rfl,ha,hI,⟨y,rfl,hy⟩,hl,by omega,hR,hs,λv H1 s1 D=>?_⟩;obtain⟨W,rfl,l⟩:=D;refine⟨W,rfl,⟨_,SqT.of l⟩,?_⟩;rw[dy]at l;have n:∀j∈(List.range ys.length).filter (λj=>decide (a1h rss ys j<0)),j<ys.length:=λj g=>ba.mp (aX.mp g).1;have t:((List.range ys.length).filter (λj=>decide (a1h rss ys j<0))).length<=ys.length:=bb (bB _ _) (by simp);refine a8V (caps:=[some (.ref c),some (.ref y)]) (λ(j:Nat)=>V.int j) (λj=>a8K (cs.getD j none) (ys.getD j 0)) (by omega) (λH' s=>SqT.of (s _ _ l)) rfl (λj H2 Y g s2 q=>?_) λH2 p2 s2 u=>?_
  .have hj':=n j g;refine⟨_,rfl,_,rfl,c,_,_,_,rfl,rfl,SqT.of ((s1.trans s2) _ _ hc),b2D (by omega),rfl,_,rfl,?_⟩;cases e:cs.getD j none with
   |none =>
    rw[e]at q;exact E3 (q _ (Same.refl _))
   |some z =>
    rw[e]at q;refine C6 ⟨_,rfl,_,rfl,y,_,_,_,rfl,rfl,SqT.of ((s1.trans s2) _ _ hy),a3k hj',_,rfl,_,rfl,c,_,_,_,rfl,rfl,SqT.of ((s1.trans s2) _ _ hc),b2D (by omega),?_⟩;rw[e];exact⟨_,_,rfl,rfl,_,rfl,q _ (Same.refl _)⟩
  have I:=(s1.trans s2).upd (o:=.lst ((StP rss cs ys).map λ(j:Nat)=>V.int j)) u;have r:upd H2 p2 (.lst ((StP rss cs ys).map λ(j:Nat)=>V.int j)) p2=some (.lst ((StP rss cs ys).map λ(j:Nat)=>V.int j)):=A0;have C:∀j∈StP rss cs ys,j<ys.length:=λj g=>n j (aX.mp g).1;have U:(StP rss cs ys).length<=ys.length:=bb (bB _ _) t;have S:((List.range ys.length).filter λj=>decide (a1h rss ys j<0)).filter (λj=>a8K (cs.getD j none) (ys.getD j 0))=StP rss cs ys:=rfl;rw[S];dsimp only[B0];generalize upd H2 p2 (.lst ((StP rss cs ys).map λ(j:Nat)=>V.int j))=J at I r;refine⟨_,rfl,p2,rfl,⟨_,SqL.of r⟩,?_⟩;refine Z3 (xs:=(StP rss cs ys).map λ(j:Nat)=>V.int j) (by rw[ai];omega) (λi qs H'=>Same J H'/\Prs H' qs (bump ys) ((StP rss cs ys).take i)) ⟨Same.refl J,Prs.nil⟩ (λi qs H' _ h=>⟨SqL.of (h.1 _ _ r),by rw[h.2.1];exact bD _ _⟩) ?_ ?_
  .rintro i x qs H' hx ⟨s',hP⟩;rw[aP]at hx;cases p:(StP rss cs ys)[i]? with
   |none=>rw[p]at hx;cases hx
   |some j =>
    rw[p]at hx;cases hx;have g:=C j (aF p);refine⟨Sub.one,_,rfl,_,rfl,_,rfl,_,ys,j,rfl,⟨y,rfl,(I.trans s') _ _ hy⟩,g,by omega,λv O M D=>?_⟩;refine⟨by show 2<=sizeLine;omega,λp5 B=>?_⟩;have m:=(Same.refl O).upd (o:=.tup [.int j,v]) B;refine⟨(s'.trans M).trans m,?_⟩;rw[bf,p];exact((hP.same M).same m).snoc A0 (D.same m)
  .rintro qs H' ⟨s',hP⟩ p4 hp4;rw[ai,bg]at hP;have m:=(Same.refl H').upd (o:=.lst qs) hp4;exact k p4 qs _ ((I.trans s').trans m) A0 (hP.same m)
noncomputable def Bar(fss:LLI)(ys:List Int)(j:Nat):Bool:=fss.any λf=>decide (f.getD j 0=ys.getD j 0) && Bel f ys
inductive IspBarred(vs:List V)(H:Hp)(Q:VK)(E:XK):Prop
 |mk (l:Addr) (y:V) (fs:List V) (fss:LLI) (ys:List Int) (j:Nat) (_:vs=[.ref l,y,.int j]) (_:H l=some (.lst fs)) (_:Its H fs fss) (_:IT H y ys) (_:j<ys.length) (_:ys.length<=1000) (_:(∀f∈fss,f.length=ys.length)) (_:∀H',Same H H'->Q (.bl (Bar fss ys j)) H'):IspBarred  vs H Q E
def a5B:Sp:=λvs H Q E=>IspBarred  vs H Q E
theorem sc_is_barred:FnScope ["found","one","j","answer"] ["found","one","j"] (A3 N6):=⟨rfl,rfl,rfl,by decide +kernel,rfl,by decide +kernel,by decide +kernel⟩
theorem a4K(F:FunAt K mg "is_barred" N6 ["found","one","j"])(T:Tx mg)(b:Ok P w K mg base "below" 1 ["one","other"] a1M):Ok P w K mg base "is_barred" 2 ["found","one","j"] a5B:=by
 refine F.okJ sc_is_barred (λC H Q E h=>?_) (λv f A q s H C Q E m h=>?_)
 .obtain⟨l,y,fs,fss,ys,j,rfl,_⟩:=h;rfl
 .obtain⟨l,_,fs,fss,ys,j,rfl,hl,hI,⟨y,rfl,hy⟩,hj,hn,hL,k⟩:=h;refine⟨_,(A2 (P6 (J1 K (jv 0)) (A8 (i:=3) sc_is_barred.nd rfl (Or.inl rfl))
 (A5 (D9 (a2O (a2N (a6i (a2S K (jv 3) (jv 2)) (a2S K (jv 1) (jv 2))) (a0A (C1 K (A7 b (m.mono (by omega)) rfl (jaC (jv 3) (jaC (jv 1) jaN)))))))
 (A5 (A9 J2))
 C2)))
 (A5 (A9 J2))),?_⟩
  refine⟨_,rfl,l,rfl,⟨_,SqL.of hl⟩,?_⟩;refine R1 (K:=K) (a:=l) (xs:=fs) (λi σ H'=>Ex1 λo=>An3 (σ=[some (.ref l),some (.ref y),some (.int j),o]) (Same H H') (Bar (fss.take i) ys j=false)) ⟨none,rfl,Same.refl H,rfl⟩ (λi σ H' _ ⟨_,_,s',_⟩=>SqL.of (s' _ _ hl)) ?_ ?_
  .rintro i x σ H' hx ⟨o,rfl,s',hB⟩;obtain⟨r,m,n,p⟩:=hI.mem hx;obtain⟨u,rfl,g⟩:=p.same s';have B:=hL r m;have d:Bar (fss.take (i+1)) ys j=(decide (r.getD j 0=ys.getD j 0) && Bel r ys):=by
    unfold Bar at hB⊢;rw[bf,n,List.any_append,hB];simp
   have c:(decide (r.getD j 0=ys.getD j 0) && Bel r ys)=true->Bar fss ys j=true:=λe=>by
    unfold Bar;rw[bE];exact⟨r,m,e⟩
   dsimp only[B0];refine⟨_,rfl,_,rfl,u,_,_,_,rfl,rfl,SqT.of g,a3k (by omega),_,rfl,_,rfl,y,_,_,_,rfl,rfl,SqT.of (s' _ _ hy),a3k hj,rfl,_,rfl,?_⟩;have z:decide (V.int (r.getD j 0)=V.int (ys.getD j 0))=decide (r.getD j 0=ys.getD j 0):=by simp
   rw[z];cases e:decide (r.getD j 0=ys.getD j 0)with
   |false =>
    rw[e]at d;refine C6 (C6 ?_);exact⟨_,rfl,s',d⟩
   |true =>
    rw[e]at d c;refine E3 ⟨_,rfl,_,rfl,_,_,r,ys,rfl,⟨u,rfl,g⟩,⟨y,rfl,s' _ _ hy⟩,by omega,λH2 s2=>⟨_,rfl,?_⟩⟩;cases t:Bel r ys with
    |false =>
     rw[t]at d;exact C6 ⟨_,rfl,s'.trans s2,d⟩
    |true =>
     rw[t]at c;refine E3 ?_;have:=k H2 (s'.trans s2);rw[c rfl]at this;exact this
  .rintro σ H' ⟨o,rfl,s',hB⟩;rw[hI.1,bg]at hB;have:=k H' s';rw[hB]at this;exact this
end
def a0L(rss:LLI)(cs:List (Option Int))(F:LLI)(u v:List Int):Prop:=∃j,j∈StP rss cs u/\v=bump u j/\Bar F v j=false
theorem b4u{a b:List Int}(h:a.map (Sum.inl:Int->Key)=b.map Sum.inl):a=b:=by
 induction a generalizing b with
 |nil=>cases b with|nil=>rfl|cons _ _=>cases h
 |cons x a c =>
  cases b with
  |nil=>cases h
  |cons y b =>
   injection h with h1 h2
   injection h1 with h1
   rw[h1,c h2]
theorem a2L{kvs:List (List Key×V)}{a:LLI}{r:List Int}(e:kvs.map (·.1)=IK a):Q6 kvs (r.map Sum.inl)=none↔r∉a:=by
 constructor
 .intro h hm;refine b0v h ?_;rw[e];exact aW.mpr ⟨r,hm,rfl⟩
 .intro h;cases d:Q6 kvs (r.map Sum.inl)with
  |none=>rfl
  |some v =>
   have:=b2Z d;rw[e]at this;obtain⟨q,c,b⟩:=aW.mp this;exact absurd (b4u b ▸ c) h
theorem a6g{kvs:List (List Key×V)}{a:LLI}{r:List Int}(e:kvs.map (·.1)=IK a):(Q6 kvs (r.map Sum.inl)).isSome=decide (r∈a):=by
 by_cases h:r∈a
 .rw[bu h];cases b:Q6 kvs (r.map Sum.inl)with
  |none=>exact absurd h ((a2L e).mp b)
  |some v=>rfl
 .rw[bq h,(a2L e).mpr h];rfl
theorem a7k(r:List Int):(r.map (Sum.inl:Int->Key)).map kV=r.map V.int:=by rw[dy];rfl
theorem b4t{H H':Hp}{vs:List V}{rss:LLI}{d:Addr}{kvs:List (List Key×V)}(h:Its H vs rss)(hd:H d=some (.dT kvs))(o:Off [d] H H'):Its H' vs rss :=
 ⟨h.1,λi v e=>let ⟨r,e1,a,e2,q⟩:=h.2 i v e;⟨r,e1,a,e2,o _ _ (by simpa using G4 q hd (by intro z;cases z)) q⟩⟩
theorem a2r{H H1 H2:Hp}{a:Addr}(s:Same H H1)(c:H a=none)(o:Off [a] H1 H2):Same H H2:=λb u e=>o b u (by simpa using A6 e c) (s b u e)
structure NxPre(H:Hp)(a c f l:Addr)(us:List V)(rss:LLI)(cs:List (Option Int))(fs:List V)(F:LLI)(ls:List V)(L:LLI):Prop where
 ha:H a=some (.tup us)
 hI:Its H us rss
 hc:H c=some (.tup (cs.map cV))
 hf:H f=some (.lst fs)
 hF:Its H fs F
 hl:H l=some (.lst ls)
 hL:Its H ls L
 us1:us.length<=1000
 n1:1<=cs.length
 n2:cs.length<=100
 hR:Rs cs.length rss
 fw:∀v∈F,v.length=cs.length
 lw:∀v∈L,v.length=cs.length/\Sm v
 big:L.length*cs.length+100<=100000
section
variable {P:Program}{w:World}{K:PySem.W.Frag}{mg:Str->Option Value}{base:Heap}
inductive IspNext(vs:List V)(H:Hp)(Q:VK)(E:XK):Prop
 |mk (a c f l:Addr) (r:V) (us:List V) (rss:LLI) (cs:List (Option Int)) (fs:List V) (F:LLI) (ls:List V) (L:LLI) (_:vs=[.ref a,.ref c,.ref f,.ref l,r]) (_:NxPre H a c f l us rss cs fs F ls L) (_:(r=.non∨∃m:Int,r=.int m/\0<=m)) (_:∀p zs tss H',Same H H'->H p=none->H' p=some (.lst zs)->Its H' zs tss->C9 tss->tss.Nodup->(∀v∈tss,∃u∈L,a0L rss cs F u v)->((∀u∈L,∀v,a0L rss cs F u v->v∈tss)∨∃m:Int,r=.int m/\m<tss.length)->tss.length<=L.length*cs.length->(∀m:Int,r=.int m->(tss.length:Int)<=m+cs.length)->Q (.ref p) H'):IspNext  vs H Q E
def b0J:Sp:=λvs H Q E=>IspNext  vs H Q E
theorem sc_next_level:FnScope ["rows","caps","found","level","room","met","one","j","more"] ["rows","caps","found","level","room"] (A3 L5):=⟨rfl,rfl,rfl,by decide +kernel,rfl,by decide +kernel,by decide +kernel⟩
theorem a3r(F':FunAt K mg "next_level" L5 ["rows","caps","found","level","room"])(T:Tx mg)(I:Ok P w K mg base "steps" 4 ["rows","caps","one"] a4r)(n:Ok P w K mg base "is_barred" 2 ["found","one","j"] a5B):Ok P w K mg base "next_level" 5 ["rows","caps","found","level","room"] b0J:=by
 refine F'.okJ sc_next_level (λvs H Q E h=>?_) (λc8 f A c3 s H vs Q E hr h=>?_)
 .obtain⟨a,c,f,l,r,us,rss,cs,fs,F,ls,L,rfl,_⟩:=h;rfl
 .obtain⟨a,c,f,l,r,us,rss,cs,fs,F,ls,L,rfl,N,hroom,k⟩:=h;have O:=hr.u60;have hz:(100000:Nat)<=sizeLine:=by rw[aV];decide
  have c6:=N.big;refine⟨_,(A2 (B2 (i:=5) sc_next_level.nd rfl (Or.inl rfl) a8x)
 (A2 (P6 (J1 K (jv 3)) (A8 (i:=6) sc_next_level.nd rfl (Or.inl rfl))
 (A2 (P6 (J1 K (A7 I (hr.mono (by omega)) rfl (jaC (jv 0) (jaC (jv 1) (jaC (jv 6) jaN))))) (T3 K 2 (B4 (A8 (i:=7) sc_next_level.nd rfl (Or.inl rfl)) (B4 (A8 (i:=8) sc_next_level.nd rfl (Or.inl rfl)) M2)))
 (A5 (D9 (a2O (a2N (a9J O (jv 8) (jv 5) (by with_unfolding_all rfl)) (a0A (J6 (C1 K (A7 n (hr.mono (by omega)) rfl (jaC (jv 2) (jaC (jv 8) (jaC (jv 7) jaN)))))))))
 (A5 (b4o O (jv 5) (jv 8) J2))
 C2)))
 (A5 (D9 (a2O (a2N (a8s (jv 4) O6) (a0A (b7Q (b4q rfl T.b_len (jaC (jv 5) jaN)) (jv 4)))))
 (A5 b2c)
 C2))))
 (A5 (A9 (b2g rfl T.b_sorted (jaC (jv 5) jaN)))))),?_⟩
  intro d hd;dsimp only[B0];have s0:=(Same.refl H).upd (o:=.dT []) hd;have e0:upd H d (.dT []) d=some (.dT []):=A0;generalize upd H d (.dT [])=H0 at s0 e0;have fin:∀(kvs:List (List Key×V)) (g:LLI) (σ:L2.St) (H':Hp),σ[5]?=some (some (.ref d))->Same H H'->H' d=some (.dT kvs)->kvs.map (·.1)=IK g->g.Nodup->(∀v∈g,∃u∈L,a0L rss cs F u v)->((∀u∈L,∀v,a0L rss cs F u v->v∈g)∨∃m:Int,r=.int m/\m<g.length)->g.length<=L.length*cs.length->(∀m:Int,r=.int m->(g.length:Int)<=m+cs.length) ->
    a6K (tCB a6X (L0 (P0 5) P5)) {nx:=λx H'=>Q V.non H',rt:=Q} σ H':=by
   intro kvs g σ H' hσ s' M y D h1 h2 S J;refine⟨_,hσ,d,kvs,g,rfl,M,y,λv t=>?_,λp zs c4 hp hI G c0=>?_⟩
   .obtain⟨u,O,j,_,rfl,_⟩:=h1 v t;rw[E5,(N.lw u O).1];exact N.n1
   refine k p zs c4 _ (s'.upd hp) (s'.free hp) A0 (hI.same ((Same.refl H').upd hp)) c0 (G.symm.nodup D) (λv t=>h1 v (G.mem_iff.mp t)) ?_ (by rw[G.length_eq];exact S) λm e=>by rw[G.length_eq];exact J m e
   rcases h2 with h2|⟨m,e,h2⟩
   .exact .inl λu O v t=>G.mem_iff.mpr (h2 u O v t)
   .exact .inr ⟨m,e,by rw[G.length_eq];exact h2⟩
  refine⟨_,rfl,l,rfl,⟨_,SqL.of (s0 _ _ N.hl)⟩,?_⟩;refine R1 (K:=K) (a:=l) (xs:=ls) (λi σ H'=>Ex5 λo6 W X kvs g=>An9 (σ=[some (.ref a),some (.ref c),some (.ref f),some (.ref l),some r,some (.ref d),o6,W,X]) (Same H H') (H' d=some (.dT kvs)) (kvs.map (·.1)=IK g) (g.Nodup) ((∀v∈g,∃u∈L,a0L rss cs F u v)) ((∀u∈L.take i,∀v,a0L rss cs F u v->v∈g)) (g.length<=i*cs.length) (∀m:Int,r=.int m->(g.length:Int)<=m))
   ⟨none,none,none,[],[],rfl,s0,e0,rfl,fm,(λ_ z=>nomatch z),(λ_ z=>by simp at z),by simp,λm e=>?_⟩ (λi σ H' _ h=>by obtain⟨_,_,_,_,_,_,s',_⟩:=h;exact SqL.of (s' _ _ N.hl)) ?_ ?_
  .rcases hroom with e'|⟨m',e',hm'⟩
   .rw[e']at e;cases e
   .rw[e']at e;cases e;simpa using hm'
  .rintro i x σ H' hx ⟨o6,W,X,kvs,g,rfl,s',M,y,D,h1,h2,S,J⟩;obtain⟨ys,b0,b1,c2⟩:=N.hL.mem hx;obtain⟨yw,c5⟩:=N.lw ys b0;have b7:i<L.length:=(aN.mp b1).1;have d1:(i+1)*cs.length<=L.length*cs.length:=Nat.mul_le_mul_right _ b7;have c7:(i+1)*cs.length=i*cs.length+cs.length:=by rw[Nat.add_mul,Nat.one_mul]
   dsimp only[B0];have b3:Rs ys.length rss:=by rw[yw];exact N.hR
   refine⟨_,rfl,_,rfl,_,rfl,a,c,x,us,rss,cs,ys,rfl,s' _ _ N.ha,N.hI.same s',s' _ _ N.hc,c2.same s',N.us1,by rw[yw];exact N.n2,yw.symm,b3,c5,λp1 ps H1 s1 a0 Z=>?_⟩;have C:=s1 _ _ M;have a1:=s'.trans s1;refine⟨p1,rfl,⟨_,SqL.of a0⟩,?_⟩;have c1:∀j∈StP rss cs ys,j<ys.length:=λj hj=>ba.mp (aX.mp (aX.mp hj).1).1;have d4:(StP rss cs ys).length<=cs.length:=by rw[<-yw];exact bb (bB _ _) (bb (bB _ _) (by simp))
   have b5:d≠p1:=G4 C a0 (by intro z;cases z);refine R1 (K:=K) (a:=p1) (xs:=ps) (λU σ H2=>Ex4 λW X kvs g=>An10 (σ=[some (.ref a),some (.ref c),some (.ref f),some (.ref l),some r,some (.ref d),some x,W,X]) (Off [d] H1 H2) (H2 d=some (.dT kvs)) (kvs.map (·.1)=IK g) (g.Nodup) ((∀v∈g,∃u∈L,a0L rss cs F u v)) ((∀u∈L.take i,∀v,a0L rss cs F u v->v∈g)) ((∀j∈(StP rss cs ys).take U,Bar F (bump ys j) j=false->bump ys j∈g)) (g.length<=i*cs.length+U) (∀m:Int,r=.int m->(g.length:Int)<=m+U))
    ⟨W,X,kvs,g,rfl,Off.refl _ _,C,y,D,h1,h2,(λ_ z=>by simp at z),S,λm e=>by have:=J m e;omega⟩ (λU σ H2 _ h=>by obtain⟨_,_,_,_,_,o2,_⟩:=h;exact SqL.of (o2 _ _ (by simpa using b5.symm) a0)) ?_ ?_
   .rintro U q σ H2 hq ⟨W,X,kvs,g,rfl,off2,hd2,y,D,h1,h2,h5,S,J⟩;obtain⟨j,b,v,ej,rfl,hb,t⟩:=Z.2 U q hq;obtain⟨va,rfl,a9⟩:=t;have a7:=aF ej;have hj:=c1 j a7;have b4:=off2 _ _ (by simpa using G4 hb C (by intro z;cases z)) hb;have R:=off2 _ _ (by simpa using G4 a9 C (by intro z;cases z)) a9;have a5:=a1 _ _ N.hf;have b6:=off2 _ _ (by simpa using G4 a5 C (by intro z;cases z)) a5;have b2:=b4t (N.hF.same a1) C off2;have d0:U<(StP rss cs ys).length:=(aN.mp ej).1;have b9:kvs.length=g.length:=by
     have:=aQ List.length y;simpa[IK]using this
    have Y:∀B:LLI,(∀v∈g,v∈B)->(Bar F (bump ys j) j=false->bump ys j∈B)->∀j'∈(StP rss cs ys).take (U+1),Bar F (bump ys j') j'=false->bump ys j'∈B:=λB a8 b8 j' a6 a3=>by
     rw[bf,ej]at a6;rcases aC.mp a6 with z|z
     .exact a8 _ (h5 j' z a3)
     .have:j'=j:=by simpa using z
      subst this;exact b8 a3
    refine⟨b,[.int j,.ref va],rfl,SqT.of b4,rfl,.int j,[.ref va],rfl,.ref va,[],rfl,rfl,?_⟩;refine⟨_,rfl,_,rfl,d,_,rfl,DGet.t hd2 (by rw[a7k];exact R),_,rfl,?_⟩;rw[a6g y];by_cases hm:bump ys j∈g
    .rw[bu hm];refine C6 (C6 ?_);exact⟨_,_,kvs,g,rfl,off2,hd2,y,D,h1,h2,Y g (λ_ z=>z) (λ_=>hm),by omega,λm e=>by have:=J m e;omega⟩
    .rw[bq hm];refine E3 ⟨_,rfl,_,rfl,_,rfl,f,.ref va,fs,F,bump ys j,j,rfl,b6,b2,⟨va,rfl,R⟩,by rw[E5];exact hj,by rw[E5,yw];have:=N.n2;omega,λv t=>by rw[E5,yw];exact N.fw v t,λH3 s3=>⟨_,rfl,?_⟩⟩;have a4:=s3 _ _ hd2;cases e:Bar F (bump ys j) j with
     |true =>
      refine C6 ?_;exact⟨_,_,kvs,g,rfl,off2.trans s3.off,a4,y,D,h1,h2,Y g (λ_ z=>z) (λz=>by rw[e]at z;cases z),by omega,λm e=>by have:=J m e;omega⟩
     |false =>
      refine E3 ?_;refine⟨_,rfl,_,rfl,d,_,rfl,DPut.t a4 (by rw[a7k];exact s3 _ _ R) (by omega),?_⟩;rw[a5P _ ((a2L y).mpr hm)];refine⟨_,_,_,g++[bump ys j],rfl,(off2.trans s3.off).set (by simp),A0,by rw[b_,y];simp[IK],a8q D hm,λv t=>?_,λu O v t=>aS _ (h2 u O v t),Y _ (λv t=>aS _ t) (λ_=>by simp),by rw[aq];simp;omega,λm e=>by have:=J m e;rw[aq];simp;omega⟩;rcases aC.mp t with z|z
      .exact h1 v z
      .rw[aD.mp z];exact⟨ys,b0,j,a7,rfl,e⟩
   .rintro σ H2 ⟨W,X,kvs,g,rfl,off2,hd2,y,D,h1,h2,h5,S,J⟩;rw[Z.1,bg]at h5;have b9:kvs.length=g.length:=by
     have:=aQ List.length y;simpa[IK]using this
    have d3:=Z.1;have s2:Same H H2:=a2r a1 hd off2;have a2:∀u∈L.take (i+1),∀v,a0L rss cs F u v->v∈g:=λu O v t=>by
     rw[bf,b1]at O;rcases aC.mp O with z|z
     .exact h2 u z v t
     .have:u=ys:=by simpa using z
      subst this;obtain⟨j,hj,rfl,hb⟩:=t;exact h5 j hj hb
    rcases hroom with rfl|⟨m,rfl,d2⟩
    .refine⟨_,rfl,rfl,_,rfl,C6 (C6 ?_)⟩;exact⟨_,_,_,kvs,g,rfl,s2,hd2,y,D,h1,a2,by omega,λm e=>by cases e⟩
    .refine⟨_,rfl,rfl,_,rfl,E3 ?_⟩;refine⟨_,rfl,d,kvs,rfl,hd2,_,rfl,_,_,rfl,rfl,_,rfl,a5a (λe=>?_) (λe=>?_)⟩
     .have e':m<(kvs.length:Int):=bJ e;have c9:=J m rfl;exact fin kvs g _ H2 rfl s2 hd2 y D h1 (.inr ⟨m,rfl,by omega⟩) (by omega) λm' e2=>by cases e2;omega
     .have e':¬m<(kvs.length:Int):=λz=>e (bu z);exact⟨_,_,_,kvs,g,rfl,s2,hd2,y,D,h1,a2,by omega,λm' e2=>by cases e2;omega⟩
  .rintro σ H' ⟨o6,W,X,kvs,g,rfl,s',M,y,D,h1,h2,S,J⟩;rw[N.hL.1,bg]at h2;exact fin kvs g _ H' rfl s' M y D h1 (.inl h2) (by rw[N.hL.1]at S;exact S) λm e=>by have:=J m e;omega
end
noncomputable def ffl(ra ca:Addr)(b:Bool)(ah af aw:Addr):List (Str×V):=[("rows",.ref ra),("caps",.ref ca),("begun",.bl b),("here",.ref ah),("found",.ref af),("walked",.ref aw)]
section
variable (ra ca ah ah' af aw:Addr) (b b':Bool)
theorem a6q:(ffl ra ca b ah af aw).lookup ("rows" : Str)=some (.ref ra):=by with_unfolding_all rfl
theorem a6r:(ffl ra ca b ah af aw).lookup ("caps" : Str)=some (.ref ca):=by with_unfolding_all rfl
theorem a3Z:(ffl ra ca b ah af aw).lookup ("begun" : Str)=some (.bl b):=by with_unfolding_all rfl
theorem W3:(ffl ra ca b ah af aw).lookup ("here" : Str)=some (.ref ah):=by with_unfolding_all rfl
theorem a1d:(ffl ra ca b ah af aw).lookup ("found" : Str)=some (.ref af):=by with_unfolding_all rfl
theorem a3b:(ffl ra ca b ah af aw).lookup ("walked" : Str)=some (.ref aw):=by with_unfolding_all rfl
theorem a5O:G9 "here" (.ref ah') (ffl ra ca b ah af aw)=ffl ra ca b ah' af aw:=by with_unfolding_all rfl
theorem a9o:G9 "begun" (.bl b') (ffl ra ca b ah af aw)=ffl ra ca b' ah af aw:=by with_unfolding_all rfl
theorem a5N:G9 "walked" (.ref aw) (G9 "found" (.ref af) (G9 "here" (.ref ah) (G9 "begun" (.bl b) (G9 "caps" (.ref ca) (G9 "rows" (.ref ra) [])))))=ffl ra ca b ah af aw:=by with_unfolding_all rfl
theorem b2t:(ffl ra ca b ah af aw).lookup ("told" : Str)=none:=by with_unfolding_all rfl
theorem a9R:(ffl ra ca b ah af aw).lookup ("paper" : Str)=none:=by with_unfolding_all rfl
theorem a9S:(ffl ra ca b ah af aw).lookup ("ended" : Str)=none:=by with_unfolding_all rfl
theorem a1G:(ffl ra ca b ah af aw).lookup ("step_within" : Str)=none:=by with_unfolding_all rfl
end
structure FiTx(K:PySem.W.Frag)(C:Addr):Prop where
 cl:Cls K C
 n1:NoAttr K C "rows"
 n2:NoAttr K C "caps"
 n3:NoAttr K C "begun"
 n4:NoAttr K C "here"
 n5:NoAttr K C "found"
 n6:NoAttr K C "walked"
structure FAt(C:Addr)(H:Hp)(p ra ca af aw:Addr)(b:Bool)(L F W:LLI):Prop where
 ob:∃dx ah hs,H p=some (.ins C dx (ffl ra ca b ah af aw))/\H ah=some (.lst hs)/\Its H hs L/\ah≠af/\ah≠aw
 hf:∃fs,H af=some (.lst fs)/\Its H fs F
 hw:∃ws,H aw=some (.lst ws)/\Its H ws W
 ne:af≠aw
theorem FAt.same{C:Addr}{H H':Hp}{p ra ca af aw:Addr}{b:Bool}{L F W:LLI}(h:FAt C H p ra ca af aw b L F W)(s:Same H H'):FAt C H' p ra ca af aw b L F W:=by
 obtain⟨⟨dx,ah,hs,h1,h2,a,c,d⟩,⟨fs,f1,f2⟩,⟨g,e,f⟩,ne⟩:=h;exact⟨⟨dx,ah,hs,s _ _ h1,s _ _ h2,a.same s,c,d⟩,⟨fs,s _ _ f1,f2.same s⟩,⟨g,s _ _ e,f.same s⟩,ne⟩
structure SyAt(H:Hp)(a c:Addr)(rss:LLI)(cs:List (Option Int)):Prop where
 ex:∃us,H a=some (.tup us)/\Its H us rss/\us.length<=1000
 hc:H c=some (.tup (cs.map cV))
 n1:1<=cs.length
 n2:cs.length<=100
 hR:Rs cs.length rss
theorem SyAt.same{H H':Hp}{a c:Addr}{rss:LLI}{cs:List (Option Int)}(h:SyAt H a c rss cs)(s:Same H H'):SyAt H' a c rss cs:=by
 obtain⟨⟨g,h1,h2,b⟩,d,e,f,hR⟩:=h;exact⟨⟨g,s _ _ h1,h2.same s,b⟩,s _ _ d,e,f,hR⟩
structure StR(rss:LLI)(cs:List (Option Int))(b:Bool)(L F:LLI)(r:V)(L':LLI):Prop where
 ri:C9 L'
 nd:L'.Nodup
 fst:b=false->∀v,v∈L'↔v∈N1 cs
 snd:b=true->∀v∈L',∃u∈L,a0L rss cs F u v
 all:b=true->(∀u∈L,∀v,a0L rss cs F u v->v∈L')∨∃m:Int,r=.int m/\m<L'.length
 len:L'.length<=cs.length+L.length*cs.length
 few:∀m:Int,r=.int m->(L'.length:Int)<=m+cs.length
theorem W9(n j i:Nat)(hi:i<n):(M6 n j).getD i 0=if i=j then 1 else 0:=by
 unfold M6;simp[az,hi]
theorem M3(n j:Nat):(M6 n j).length=n:=by simp[M6]
theorem a9Q(cs:List (Option Int)):(N1 cs).Nodup:=by
 unfold N1;refine List.Nodup.sublist (List.filter_sublist) ?_;unfold List.Nodup;rw[cn];refine(fO (n:=cs.length)).imp_of_mem λ{i j} hi b a e=>?_;have h1:(M6 cs.length i).getD i 0=(M6 cs.length j).getD i 0:=aQ (λl:List Int=>l.getD i 0) e;rw[W9 _ _ _ (ba.mp hi),W9 _ _ _ (ba.mp hi),ay rfl,ao a]at h1;omega
theorem lp{f:Str}{v:V}{fs:List (Str×V)}{k:Nat}(h:fs.length<=k):(G9 f v fs).length<=k+1:=by
 refine bb ?_ (Nat.succ_le_succ h);clear h;induction fs with
 |nil=>exact aj _
 |cons p r a =>
  obtain⟨g,x⟩:=p;show(if g=f then(g,v)::r else(g,x)::G9 f v r).length<=_;split
  .simp
  .simpa using a
section
variable {P:Program}{w:World}{K:PySem.W.Frag}{mg:Str->Option Value}{base:Heap}{C:Addr}
inductive IspFInit(C:Addr)(vs:List V)(H:Hp)(Q:VK)(E:XK):Prop
 |mk (p dx ra ca:Addr) (_:vs=[.ref p,.ref ra,.ref ca]) (_:H p=some (.ins C dx [])) (_:∀(af aw:Addr) (H':Hp),H af=none->H aw=none->FAt C H' p ra ca af aw false [] [] []->(∃dx ah,H' p=some (.ins C dx (ffl ra ca false ah af aw))/\H ah=none)->(∀b o,H b=some o->b≠p->H' b=some o)->Q .non H'):IspFInit C vs H Q E
def a8d(C:Addr):Sp:=λvs H Q E=>IspFInit C vs H Q E
theorem a0f:FnScope ["self","rows","caps"] ["self","rows","caps"] (A3 D8):=⟨rfl,rfl,rfl,by decide +kernel,rfl,by decide +kernel,by decide +kernel⟩
theorem b1M(J:MethAt K C "__init__" "Finder.__init__" D8 ["self","rows","caps"])(U:FiTx K C):MethOk P w K mg base C "__init__" 1 ["self","rows","caps"] (a8d C):=by
 refine J.fnJ a0f (λM H Q E h=>?_) (λL f A G s H M Q E N h=>?_)
 .obtain⟨p,dx,ra,ca,rfl,_⟩:=h;rfl
 .obtain⟨p,dx,ra,ca,rfl,hp,k⟩:=h;refine⟨_,(A2 (T0 K (jv 0) (jv 1))
 (A2 (T0 K (jv 0) (jv 2))
 (A2 (T0 K (jv 0) J2)
 (A2 (T0 K (jv 0) (E1 jaN))
 (A2 (T0 K (jv 0) (E1 jaN))
 (A5 (T0 K (jv 0) (E1 jaN)))))))),?_⟩
  have t:([]:List (Str×V)).length<=0:=aj _;refine⟨_,rfl,_,rfl,p,C,dx,_,rfl,hp,U.cl,U.n1,ff t (by decide),?_⟩;refine⟨_,rfl,_,rfl,p,C,dx,_,rfl,A0,U.cl,U.n2,ff (lp t) (by decide),?_⟩;rw[a4n];refine⟨_,rfl,p,C,dx,_,rfl,A0,U.cl,U.n3,ff (lp (lp t)) (by decide),?_⟩;rw[a4n];generalize F:G9 "begun" (V.bl false) (G9 "caps" (.ref ca) (G9 "rows" (.ref ra) []))=r;have I:r.length<=3:=by rw[<-F];exact lp (lp (lp t))
  have k1:∀b o,H b=some o->b≠p->upd H p (.ins C dx r) b=some o:=λb o e c=>by rw[A1 c];exact e
  have D:upd H p (.ins C dx r) p=some (.ins C dx r):=A0;have u:∀b,upd H p (.ins C dx r) b=none->H b=none:=λb e=>by
   by_cases c:b=p
   .subst c;rw[A0]at e;cases e
   .rwa[A1 c]at e
  generalize upd H p (.ins C dx r)=H1 at k1 D u;refine⟨bo _,λah n=>?_⟩;have x:p≠ah:=A6 D n;refine⟨_,rfl,p,C,dx,_,rfl,by rw[A1 x];exact D,U.cl,U.n4,by omega,?_⟩;refine⟨bo _,λaf m=>?_⟩;have y:p≠af:=λz=>by subst z;rw[A0]at m;cases m
  have g:upd H1 ah (.lst []) af=none:=by rwa[A1 y.symm]at m
  have j:ah≠af:=A6 (o:=.lst []) A0 g;have d:H1 af=none:=by rwa[A1 j.symm]at g
  refine⟨_,rfl,p,C,dx,_,rfl,by rw[A1 y];exact A0,U.cl,U.n5,by have:=lp (f:="here") (v:=.ref ah) I;omega,?_⟩;refine⟨bo _,λaw q=>?_⟩;have B:p≠aw:=λz=>by subst z;rw[A0]at q;cases q
  have a:=q;rw[A1 B.symm]at a;have i:af≠aw:=A6 (o:=.lst []) A0 a;rw[A1 i.symm,A1 B.symm]at a;have l:ah≠aw:=A6 (o:=.lst []) A0 a;rw[A1 l.symm]at a;refine⟨_,rfl,p,C,dx,_,rfl,by rw[A1 B];exact A0,U.cl,U.n6,by have:=lp (f:="found") (v:=.ref af) (lp (f:="here") (v:=.ref ah) I);omega,?_⟩;refine k af aw _ (u _ d) (u _ a) ⟨⟨dx,ah,[],?_,?_,.nil,j,l⟩,⟨[],?_,.nil⟩,⟨[],?_,.nil⟩,i⟩ ⟨dx,ah,by rw[A0,<-F,<-a5N],u _ n⟩ λb o e c=>?_
  .rw[A0,<-F,<-a5N]
  .rw[A1 x.symm,A1 l,A1 x.symm,A1 j,A1 x.symm,A0]
  .rw[A1 y.symm,A1 i,A1 y.symm,A0]
  .rw[A1 B.symm,A0]
  .have e2:=k1 b o e c;rw[A1 c,A1 (A6 e2 a),A1 c,A1 (A6 e2 d),A1 c,A1 (A6 e2 n)];exact e2
theorem a4Z{H:Hp}:∀{vs c:List V}{rss tss:LLI},Its H vs rss->Its H c tss->Its H (vs++c) (rss++tss):=by
 intro vs c rss tss h g;refine⟨by rw[aq,aq,h.1,g.1],λi v e=>?_⟩;rcases Nat.lt_or_ge i vs.length with hi|hi
 .rw[br hi]at e;obtain⟨r,a,b⟩:=h.2 i v e;exact⟨r,by rw[br (by rw[<-h.1];exact hi)];exact a,b⟩
 .rw[aZ hi]at e;obtain⟨r,a,b⟩:=g.2 _ v e;exact⟨r,by rw[aZ (by rw[<-h.1];exact hi),<-h.1];exact a,b⟩
theorem Y8{H:Hp}{vs:List V}{rss:LLI}{c:Addr}{o o':HO}(h:Its H vs rss)(b:H c=some o)(d:∀xs,HO.tup xs≠o):Its (upd H c o') vs rss :=
 ⟨h.1,λi v e=>let ⟨r,e1,a,e2,q⟩:=h.2 i v e;⟨r,e1,a,e2,by rw[A1 (G4 q b (d _))];exact q⟩⟩
theorem a2U{H H':Hp}{vs:List V}{rss:LLI}{c:Addr}{o:HO}(h:Its H vs rss)(b:H c=some o)(d:∀xs,HO.tup xs≠o)(off:Off [c] H H'):Its H' vs rss :=
 ⟨h.1,λi v e=>let ⟨r,e1,a,e2,q⟩:=h.2 i v e;⟨r,e1,a,e2,off _ _ (by simpa using G4 q b (d _)) q⟩⟩
theorem b3c{H H':Hp}{a c:Addr}{rss:LLI}{cs:List (Option Int)}{b:Addr}{o:HO}(h:SyAt H a c rss cs)(d:H b=some o)(e:∀xs,HO.tup xs≠o)(off:Off [b] H H'):SyAt H' a c rss cs:=by
 obtain⟨⟨k,h1,h2,g⟩,f,i,j,hR⟩:=h;exact⟨⟨k,off _ _ (by simpa using G4 h1 d (e _)) h1,a2U h2 d e off,g⟩,off _ _ (by simpa using G4 f d (e _)) f,i,j,hR⟩
theorem b3f{u:List Int}{B:Int}{j:Nat}(h:∀x∈u,0<=x/\x<=B)(b:B<=2 ^ 60):∀x∈bump u j,0<=x/\x<=2 ^ 60+1:=by
 intro x a;unfold bump at a;rcases eX a with z|z
 .have:=h x z;omega
 .by_cases hj:j<u.length
  .have:=h _ (dm (h:=hj));rw[az,ak hj]at z;simp at z;omega
  .rw[az,cM (by omega)]at z;simp at z;omega
inductive IspStepW(C:Addr)(vs:List V)(H:Hp)(Q:VK)(E:XK):Prop
 |mk (p ra ca af aw:Addr) (b:Bool) (L F W rss:LLI) (cs:List (Option Int)) (r:V) (B:Int) (_:vs=[.ref p,r]) (_:FAt C H p ra ca af aw b L F W) (_:SyAt H ra ca rss cs) (_:(r=.non∨∃m:Int,r=.int m/\0<=m)) (_:(∀v∈L,v.length=cs.length/\∀x∈v,0<=x/\x<=B)) (_:B<=2 ^ 60) (_:(∀v∈F,v.length=cs.length)) (_:L.length*cs.length+100<=100000) (_:F.length<=100000) (_:W.length<=100000) (_:∀L' H',StR rss cs b L F r L'->FAt C H' p ra ca af aw true L' (F++L'.filter λv=>Ans rss v) (W++L')->(∃dx ah,H' p=some (.ins C dx (ffl ra ca true ah af aw))/\H ah=none)->Off [p,af,aw] H H'->Q (.int L'.length) H'):IspStepW C vs H Q E
def a4s(C:Addr):Sp:=λvs H Q E=>IspStepW C vs H Q E
theorem b0Y{σ:L2.St}{i j:Nat}{C p ra ca af aw:Addr}{b:Bool}{L F W rss:LLI}{cs:List (Option Int)}{r:V}{B:Int}{H:Hp}{Q:VK}(hi:σ[i]?=some (some (.ref p)))(h:σ[j]?=some (some r))(D:FAt C H p ra ca af aw b L F W)(Y:SyAt H ra ca rss cs)(h1:r=.non∨∃m:Int,r=.int m/\0<=m)(h2:∀v∈L,v.length=cs.length/\∀x∈v,0<=x/\x<=B)(c:B<=2 ^ 60)(d:∀v∈F,v.length=cs.length)(e:L.length*cs.length+100<=100000)(f:F.length<=100000)(g:W.length<=100000)
  (k:∀L' H',StR rss cs b L F r L'->FAt C H' p ra ca af aw true L' (F++L'.filter λv=>Ans rss v) (W++L')->(∃dx ah,H' p=some (.ins C dx (ffl ra ca true ah af aw))/\H ah=none)->Off [p,af,aw] H H'->Q (.int L'.length) H'):a1o C "step_within" (a4s C) [] E0 (P0 i) (L0 (P0 j) P5) σ H Q:=by
 obtain⟨⟨dx,ah,hs,a,_⟩,_,_,_⟩:=id D;exact⟨_,hi,p,dx,_,rfl,a,a1G _ _ _ _ _ _,_,h,p,ra,ca,af,aw,b,L,F,W,rss,cs,r,B,rfl,D,Y,h1,h2,c,d,e,f,g,k⟩
theorem V0:FnScope ["self","room"] ["self","room"] (A3 C3):=⟨rfl,rfl,rfl,by decide +kernel,rfl,by decide +kernel,by decide +kernel⟩
theorem b1H(FM:MethAt K C "step_within" "Finder.step_within" C3 ["self","room"])(U:FiTx K C)(T:Tx mg)(d:Ok P w K mg base "next_level" 5 ["rows","caps","found","level","room"] b0J)(a:Ok P w K mg base "first_steps" 2 ["caps"] a4u)(n:Ok P w K mg base "is_answer" 3 ["rows","one"] a1L) :
  MethOk P w K mg base C "step_within" 6 ["self","room"] (a4s C):=by
 refine FM.fnJ V0 (λvs H Q E h=>?_) (λc9 f A c5 s H vs Q E hr h=>?_)
 .obtain⟨p,ra,ca,af,aw,b,L,F,W,t,cs,r,B,rfl,_⟩:=h;rfl
 .obtain⟨p,ra,ca,af,aw,b,L,F,W,t,cs,r,B,rfl,D,Y,hroom,hL,hB,hF,hbig,hF1,hW1,k⟩:=h;have hz:(300000:Nat)<=sizeLine:=by rw[aV];decide
  obtain⟨⟨dx,ah,hs,h1,h2,h3,h4,h5⟩,⟨fs,f1,f2⟩,⟨ws,w1,w2⟩,ne⟩:=id D;have b5:p≠af:=G4 h1 f1 (by intro z;cases z);have b6:p≠aw:=G4 h1 w1 (by intro z;cases z);refine⟨_,(A2 (D9 (C1 K (L1 K (jv 0)))
 (A5 (T0 K (jv 0) (A7 d (hr.mono (by omega)) rfl (jaC (L1 K (jv 0)) (jaC (L1 K (jv 0)) (jaC (L1 K (jv 0)) (jaC (L1 K (jv 0)) (jaC (jv 1) jaN))))))))
 (A2 (T0 K (jv 0) (a8v K rfl T.b_list (jaC (A7 a (hr.mono (by omega)) rfl (jaC (L1 K (jv 0)) jaN)) jaN)))
 (A5 (T0 K (jv 0) J2))))
 (A2 (M1 (a3S K (L1 K (jv 0)) (jaC (B8 (N:=["one","self"]) (src:=[none,some 0]) (J1 K (L1 K (jv 0))) (by show B6 _ _=true;rfl) (by rfl) (by rfl)
 (λ_ _ _ _ _=>(A8 (i:=0) (show(["one","self"]:List Str).Nodup by decide +kernel) rfl (Or.inl rfl))) (λ_ _ _ _ _=>(a0Z (C1 K (A7 n (hr.mono (by omega)) rfl (jaC (L1 K (jv 1)) (jaC (jv 0) jaN)))))) (λ_ _ _ _ _=>(jv 0))) jaN)))
 (A2 (M1 (a3S K (L1 K (jv 0)) (jaC (L1 K (jv 0)) jaN)))
 (A5 (A9 (G1 K rfl T.b_len (jaC (L1 K (jv 0)) jaN))))))),?_⟩
  refine a0r (λσ H'=>σ=[some (.ref p),some r]/\∃ah' c L',H' p=some (.ins C dx (ffl ra ca true ah' af aw))/\H' ah'=some (.lst c)/\Its H' c L'/\H ah'=none/\StR t cs b L F r L'/\Off [p] H H'/\∀v∈L',v.length=cs.length/\Sm v) ?fin λfin=>?_
  case fin =>
   rintro σ H1 ⟨rfl,ah',c,L',p1,a1,i1,a0,R,g,c0⟩;have c2:=Y.n2;have b3:L'.length<=100000:=by have:=R.len;omega
   have a8:=g _ _ (by simpa using b5.symm) f1;have c7:=g _ _ (by simpa using b6.symm) w1;have b8:=a2U f2 h1 (λ_ z=>by cases z) g;have c8:=a2U w2 h1 (λ_ z=>by cases z) g;have Y1:=b3c Y h1 (λ_ z=>by cases z) g;have a9:ah'≠af:=(A6 f1 a0).symm;have b1:ah'≠aw:=(A6 w1 a0).symm;have d0:p≠ah':=A6 h1 a0;refine⟨_,rfl,p,C,dx,_,_,rfl,p1,U.cl,U.n5,a1d _ _ _ _ _ _,.inl ⟨rfl,_,SqL.of a8⟩,?_⟩;refine⟨_,rfl,p,C,dx,_,_,rfl,p1,U.cl,U.n4,W3 _ _ _ _ _ _,ah',rfl,⟨_,SqL.of a1⟩,?_⟩;refine a2G (caps:=[some (.ref p)]) (λv=>Ans t v) (by rw[i1.1];omega) (λH2 s2=>SqL.of (s2 _ _ a1)) i1 rfl (λv r' H2 Q2 c4 Z s2 q=>?_) λH2 p2 zs s2 b4 O=>?_
   .obtain⟨⟨us,u1,u2,u3⟩,_,_,_,hR⟩:=Y1.same s2;refine⟨_,rfl,p,C,dx,_,_,rfl,s2 _ _ p1,U.cl,U.n1,a6q _ _ _ _ _ _,_,rfl,ra,v,us,t,r',rfl,u1,u2,Z,u3,λr hr=>by rw[(hR r hr).1];omega,(c0 r' c4).2,λM y=>⟨_,rfl,q M y⟩⟩
   have c1:(L'.filter λv=>Ans t v).length<=L'.length:=bB _ _;have y:=s2.upd (o:=.lst zs) b4;have c6:=(Same.refl H2).upd (o:=.lst zs) b4;have e3:upd H2 p2 (.lst zs) p2=some (.lst zs):=A0;have G:=O.same c6;generalize upd H2 p2 (.lst zs)=M at y e3 G;have f3:=y _ _ a8;refine⟨af,p2,fs,zs,rfl,rfl,f3,e3,by rw[f2.1,O.1];omega,?_⟩;have p4:upd M af (.lst (fs++zs)) p=some (.ins C dx (ffl ra ca true ah' af aw)):=by rw[A1 b5];exact y _ _ p1
   have w4:upd M af (.lst (fs++zs)) aw=some (.lst ws):=by rw[A1 ne.symm];exact y _ _ c7
   have a4:upd M af (.lst (fs++zs)) ah'=some (.lst c):=by rw[A1 a9];exact y _ _ a1
   refine⟨_,rfl,p,C,dx,_,_,rfl,p4,U.cl,U.n6,a3b _ _ _ _ _ _,.inl ⟨rfl,_,SqL.of w4⟩,?_⟩;refine⟨_,rfl,p,C,dx,_,_,rfl,p4,U.cl,U.n4,W3 _ _ _ _ _ _,aw,ah',ws,c,rfl,rfl,w4,a4,by rw[w2.1,i1.1];omega,?_⟩;have p5:upd (upd M af (.lst (fs++zs))) aw (.lst (ws++c)) p=some (.ins C dx (ffl ra ca true ah' af aw)):=by rw[A1 b6];exact p4
   have a5:upd (upd M af (.lst (fs++zs))) aw (.lst (ws++c)) ah'=some (.lst c):=by rw[A1 b1];exact a4
   refine⟨_,rfl,p,C,dx,_,_,rfl,p5,U.cl,U.n4,W3 _ _ _ _ _ _,ah',_,rfl,.inl (SqL.of a5),?_⟩;rw[i1.1];have J:∀{vs:List V}{t:LLI},Its M vs t->Its (upd (upd M af (.lst (fs++zs))) aw (.lst (ws++c))) vs t:=λh=>Y8 (Y8 h f3 (λ_ z=>by cases z)) w4 (λ_ z=>by cases z);refine k L' _ R ⟨⟨dx,ah',c,p5,a5,J (i1.same y),a9,b1⟩,⟨fs++zs,by rw[A1 ne];exact A0,J (a4Z (b8.same y) G)⟩,⟨ws++c,A0,J (a4Z (c8.same y) (i1.same y))⟩,ne⟩ ⟨dx,ah',p5,a0⟩ λb o hb e=>?_;have a2:b≠p/\b≠af/\b≠aw:=by simpa using hb
   rw[A1 a2.2.2,A1 a2.2.1];exact y _ _ (g _ _ (by simpa using a2.1) e)
  refine⟨_,rfl,p,C,dx,_,_,rfl,h1,U.cl,U.n3,a3Z _ _ _ _ _ _,b,rfl,?_⟩;obtain⟨us,u1,u2,u3⟩:=Y.ex;have c2:=Y.n2;cases b with
  |true =>
   refine E3 ?_;refine⟨_,rfl,p,C,dx,_,_,rfl,h1,U.cl,U.n1,a6q _ _ _ _ _ _,_,rfl,p,C,dx,_,_,rfl,h1,U.cl,U.n2,a6r _ _ _ _ _ _,_,rfl,p,C,dx,_,_,rfl,h1,U.cl,U.n5,a1d _ _ _ _ _ _,_,rfl,p,C,dx,_,_,rfl,h1,U.cl,U.n4,W3 _ _ _ _ _ _,_,rfl,?_⟩;refine⟨ra,ca,af,ah,r,us,t,cs,fs,F,hs,L,rfl,⟨u1,u2,Y.hc,f1,f2,h2,h3,u3,Y.n1,Y.n2,Y.hR,hF,λv Z=>⟨(hL v Z).1,λx hx=>by have:=(hL v Z).2 x hx;omega⟩,hbig⟩,hroom,λp9 zs a7 H9 s9 I h9 b9 a6 c3 X b0 b3 b2=>?_⟩;have b7:=s9 _ _ h1;have a3:p≠p9:=A6 h1 I;refine⟨_,rfl,p,C,dx,_,rfl,b7,U.cl,U.n4,by show 6<1000;decide,?_⟩;rw[a5O];refine fin _ _ ⟨rfl,p9,zs,a7,A0,by rw[A1 a3.symm];exact h9,Y8 b9 b7 (λ_ z=>by cases z),I,⟨a6,c3,(λz=>by cases z),λ_=>X,λ_=>b0,by omega,b2⟩,s9.off.set (by simp),λv Z=>?_⟩;obtain⟨u,hu,j,_,rfl,_⟩:=X v Z;have:=b3f (j:=j) (hL u hu).2 hB;exact⟨by rw[E5];exact(hL u hu).1,λx hx=>by have:=this x hx;omega⟩
  |false =>
   refine C6 ?_;refine⟨_,rfl,p,C,dx,_,_,rfl,h1,U.cl,U.n2,a6r _ _ _ _ _ _,ca,cs,rfl,Y.hc,Y.n1,Y.n2,λq zs a7 H2 s2 hq O S a6=>?_⟩;refine⟨q,zs,rfl,.inr (SqT.of hq),λl hl=>?_⟩;have p3:=D5 (o:=.lst zs) (s2 _ _ h1) hl;have y:=s2.upd (o:=.lst zs) hl;have G:=O.same ((Same.refl H2).upd (o:=.lst zs) hl);have e3:upd H2 l (.lst zs) l=some (.lst zs):=A0;have I:=s2.free hl;generalize upd H2 l (.lst zs)=M at p3 y G e3;refine⟨_,rfl,p,C,dx,_,rfl,p3,U.cl,U.n4,by show 6<1000;decide,?_⟩;rw[a5O];refine⟨_,rfl,p,C,dx,_,rfl,A0,U.cl,U.n3,by show 6<1000;decide,?_⟩;rw[a4n,a9o];have a3:p≠l:=A6 h1 I;have c1:(N1 cs).length<=cs.length:=bb (bB _ _) (by simp);have d1:=S.length_eq;refine fin _ _ ⟨rfl,l,zs,a7,A0,by rw[A1 a3.symm];exact e3,Y8 G p3 (λ_ z=>by cases z),I,⟨a6,S.symm.nodup (a9Q cs),λ_ v=>S.mem_iff,(λz=>by cases z),(λz=>by cases z),by omega,λm e=>?_⟩,y.off.set (by simp),λv Z=>?_⟩
   .rcases hroom with z|⟨m',z,hm'⟩
    .rw[z]at e;cases e
    .rw[z]at e;cases e;omega
   .obtain⟨j,_,rfl⟩:=aW.mp (aX.mp (S.mem_iff.mp Z)).1;refine⟨M3 _ _,λx hx=>?_⟩;unfold M6 at hx;obtain⟨i,_,rfl⟩:=aW.mp hx;split<;>omega
inductive IspEnded(C:Addr)(vs:List V)(H:Hp)(Q:VK)(E:XK):Prop
 |mk (p ra ca af aw:Addr) (b:Bool) (L F W:LLI) (_:vs=[.ref p]) (_:FAt C H p ra ca af aw b L F W) (_:Q (.bl (b && decide (L=[]))) H):IspEnded C vs H Q E
def a4v(C:Addr):Sp:=λvs H Q E=>IspEnded C vs H Q E
theorem b1a{σ:L2.St}{i:Nat}{C p ra ca af aw:Addr}{b:Bool}{L F W:LLI}{H:Hp}{Q:VK}(hi:σ[i]?=some (some (.ref p)))(D:FAt C H p ra ca af aw b L F W)(k:Q (.bl (b && decide (L=[]))) H):a1o C "ended" (a4v C) [] E0 (P0 i) P5 σ H Q:=by
 obtain⟨⟨dx,ah,hs,a,_⟩,_,_,_⟩:=id D;exact⟨_,hi,p,dx,_,rfl,a,a9S _ _ _ _ _ _,p,ra,ca,af,aw,b,L,F,W,rfl,D,k⟩
theorem a1B:FnScope ["self"] ["self"] (A3 G8):=⟨rfl,rfl,rfl,by decide +kernel,rfl,by decide +kernel,by decide +kernel⟩
theorem b1O(c:MethAt K C "ended" "Finder.ended" G8 ["self"])(U:FiTx K C)(T:Tx mg):MethOk P w K mg base C "ended" 1 ["self"] (a4v C):=by
 refine c.fnJ a1B (λi H Q E h=>?_) (λd f A a s H i Q E m h=>?_)
 .obtain⟨p,ra,ca,af,aw,b,L,F,W,rfl,_⟩:=h;rfl
 .obtain⟨p,ra,ca,af,aw,b,L,F,W,rfl,D,k⟩:=h;obtain⟨⟨dx,ah,hs,h1,h2,g,j,l⟩,⟨fs,f1,f2⟩,⟨q,n,o⟩,ne⟩:=id D;refine⟨_,(A5 (A9 (a1w (L1 K (jv 0)) (a1v (a3R (G1 K rfl T.b_len (jaC (L1 K (jv 0)) jaN)) A4))))),?_⟩;refine⟨_,rfl,p,C,dx,_,_,rfl,h1,U.cl,U.n3,a3Z _ _ _ _ _ _,?_⟩;refine⟨b,rfl,?_⟩;cases b with
  |false=>exact C6 k
  |true =>
   refine E3 ⟨_,rfl,p,C,dx,_,_,rfl,h1,U.cl,U.n4,W3 _ _ _ _ _ _,ah,_,rfl,.inl (SqL.of h2),rfl,?_⟩;have e:decide (V.int (hs.length:Int)=V.int 0)=decide (L=[]):=by
    rw[g.1];cases L with
    |nil=>simp
    |cons x L=>simp;omega
   rw[e];exact k
inductive IspTold(C:Addr)(vs:List V)(H:Hp)(Q:VK)(E:XK):Prop
 |mk (p ra ca af aw:Addr) (b:Bool) (L F W:LLI) (_:vs=[.ref p]) (_:FAt C H p ra ca af aw b L F W) (_:(∀v∈F,0<v.length)) (_:∀q zs tss H',Same H H'->H' q=some (.tup zs)->Its H' zs tss->tss.Perm F->C9 tss->Q (.ref q) H'):IspTold C vs H Q E
def a6M(C:Addr):Sp:=λvs H Q E=>IspTold C vs H Q E
theorem b3r{σ:L2.St}{i:Nat}{C p ra ca af aw:Addr}{b:Bool}{L F W:LLI}{H:Hp}{Q:VK}(hi:σ[i]?=some (some (.ref p)))(D:FAt C H p ra ca af aw b L F W)(h:∀v∈F,0<v.length)(k:∀q zs tss H',Same H H'->H' q=some (.tup zs)->Its H' zs tss->tss.Perm F->C9 tss->Q (.ref q) H'):a1o C "told" (a6M C) [] E0 (P0 i) P5 σ H Q:=by
 obtain⟨⟨dx,ah,hs,a,_⟩,_,_,_⟩:=id D;exact⟨_,hi,p,dx,_,rfl,a,b2t _ _ _ _ _ _,p,ra,ca,af,aw,b,L,F,W,rfl,D,h,k⟩
theorem a2q:FnScope ["self"] ["self"] (A3 K3):=⟨rfl,rfl,rfl,by decide +kernel,rfl,by decide +kernel,by decide +kernel⟩
theorem b4c(g:MethAt K C "told" "Finder.told" K3 ["self"])(U:FiTx K C)(T:Tx mg):MethOk P w K mg base C "told" 1 ["self"] (a6M C):=by
 refine g.fnJ a2q (λr H Q E h=>?_) (λi f A d s H r Q E x h=>?_)
 .obtain⟨p,ra,ca,af,aw,b,L,F,W,rfl,_⟩:=h;rfl
 .obtain⟨p,ra,ca,af,aw,b,L,F,W,rfl,D,hF,k⟩:=h;obtain⟨⟨dx,ah,hs,h1,h2,t,u,v⟩,⟨fs,f1,f2⟩,⟨B,y,z⟩,ne⟩:=id D;refine⟨_,(A5 (A9 (D6 K rfl T.b_tuple (jaC (a6k K rfl T.b_sorted (jaC (L1 K (jv 0)) jaN)) jaN)))),?_⟩;refine⟨_,rfl,p,C,dx,_,_,rfl,h1,U.cl,U.n5,a1d _ _ _ _ _ _,af,fs,F,rfl,.inl (SqL.of f1),f2,hF,λl zs e m j a c _=>?_⟩;refine⟨l,_,rfl,.inl ⟨SqL.of A0,λq n=>?_⟩⟩;have s2:=((Same.refl H).upd (o:=.lst zs) m).upd (o:=.tup zs) n;exact k q zs e _ s2 A0 (j.same s2) a c
inductive IspPaper(C:Addr)(vs:List V)(H:Hp)(Q:VK)(E:XK):Prop
 |mk (p ra ca af aw:Addr) (b:Bool) (L F W:LLI) (_:vs=[.ref p]) (_:FAt C H p ra ca af aw b L F W) (_:∀q zs H',Same H H'->H' q=some (.tup zs)->Its H' zs W->Q (.ref q) H'):IspPaper C vs H Q E
def a4t(C:Addr):Sp:=λvs H Q E=>IspPaper C vs H Q E
theorem b0Z{σ:L2.St}{i:Nat}{C p ra ca af aw:Addr}{b:Bool}{L F W:LLI}{H:Hp}{Q:VK}(hi:σ[i]?=some (some (.ref p)))(D:FAt C H p ra ca af aw b L F W)(k:∀q zs H',Same H H'->H' q=some (.tup zs)->Its H' zs W->Q (.ref q) H'):a1o C "paper" (a4t C) [] E0 (P0 i) P5 σ H Q:=by
 obtain⟨⟨dx,ah,hs,a,_⟩,_,_,_⟩:=id D;exact⟨_,hi,p,dx,_,rfl,a,a9R _ _ _ _ _ _,p,ra,ca,af,aw,b,L,F,W,rfl,D,k⟩
theorem a1A:FnScope ["self"] ["self"] (A3 G7):=⟨rfl,rfl,rfl,by decide +kernel,rfl,by decide +kernel,by decide +kernel⟩
theorem b1J(d:MethAt K C "paper" "Finder.paper" G7 ["self"])(U:FiTx K C)(T:Tx mg):MethOk P w K mg base C "paper" 1 ["self"] (a4t C):=by
 refine d.fnJ a1A (λi H Q E h=>?_) (λe f A a s H i Q E t h=>?_)
 .obtain⟨p,ra,ca,af,aw,b,L,F,W,rfl,_⟩:=h;rfl
 .obtain⟨p,ra,ca,af,aw,b,L,F,W,rfl,D,k⟩:=h;obtain⟨⟨dx,ah,hs,h1,h2,m,n,r⟩,⟨fs,f1,f2⟩,⟨c,j,l⟩,ne⟩:=id D;refine⟨_,(A5 (A9 (D6 K rfl T.b_tuple (jaC (L1 K (jv 0)) jaN)))),?_⟩;refine⟨_,rfl,p,C,dx,_,_,rfl,h1,U.cl,U.n6,a3b _ _ _ _ _ _,aw,_,rfl,.inl ⟨SqL.of j,λq g=>?_⟩⟩;have s2:=(Same.refl H).upd (o:=.tup c) g;exact k q c _ s2 A0 (l.same s2)
end
inductive Wk(rss:LLI)(cs:List (Option Int)):LLI->LLI->LLI->Nat->Prop
 |one {L:LLI}(ri:C9 L) (nd:L.Nodup) (h:∀v,v∈L↔v∈N1 cs):Wk rss cs (L.filter λv=>Ans rss v) L L 1
 |more {F W L L':LLI}{k:Nat}(h:Wk rss cs F W L k) (ne:L≠[]) (ri:C9 L') (nd:L'.Nodup) (hm:∀v,v∈L'↔∃u∈L,a0L rss cs F u v):Wk rss cs (F++L'.filter λv=>Ans rss v) (W++L') L' (k+1)
def b7n(rss:LLI)(cs:List (Option Int))(most:Int):Prop:=∃F W L k,Wk rss cs F W L k/\(most<W.length∨(L≠[]/\∃L':LLI,L'.Nodup/\(∀v∈L',∃u∈L,a0L rss cs F u v)/\most<W.length+L'.length))
theorem b5j{v:List Int}(h:∀x∈v,0<=x):∀x∈v,x<=v.sum:=by
 induction v with
 |nil=>intro x a;cases a
 |cons y v c =>
  intro x a;have h1:=h y ar;have h2:=b0E v λz b=>h z (av _ b);rw[bH];rcases aE.mp a with rfl|a
  .omega
  .have:=c (λz b=>h z (av _ b)) x a;omega
theorem b4G{u:List Int}{j:Nat}(h:∀x∈u,0<=x):∀x∈bump u j,0<=x:=by
 intro x a;unfold bump at a;rcases eX a with z|z
 .exact h x z
 .by_cases hj:j<u.length
  .have:=h _ (dm (h:=hj));rw[az,ak hj]at z;simp at z;omega
  .rw[az,cM (by omega)]at z;simp at z;omega
theorem b0w(n j:Nat):∀x∈M6 n j,0<=x:=by
 intro x a;unfold M6 at a;obtain⟨i,_,rfl⟩:=aW.mp a;split<;>omega
theorem a6D(n j:Nat)(c:j<n):M6 n j=bump (List.replicate n 0) j:=by
 refine fN (by rw[M3,E5,bA]) λi h1 h2=>?_;rw[M3]at h1;have a:=W9 n j i h1;have b:=a0H (List.replicate n 0) j i (by simpa using c);rw[az,ak (by rw[M3];exact h1)]at a;rw[az,ak h2]at b;simp only[Option.getD_some]at a b;rw[a,b];simp only[az,List.getElem?_replicate,c,h1,fj];by_cases e:i=j<;>simp[e]
theorem b0X(n:Nat):(List.replicate n (0:Int)).sum=0:=by
 induction n with
 |zero=>rfl
 |succ n a=>rw[bG,bH,a];rfl
theorem a8S(n j:Nat)(a:j<n):(M6 n j).sum=1:=by
 rw[a6D n j a,a6y _ _ (by simpa using a),b0X];rfl
theorem a6L{rss:LLI}{cs:List (Option Int)}{u:List Int}{j:Nat}(h:j∈StP rss cs u):j<u.length/\a1h rss u j<0/\a8K (cs.getD j none) (u.getD j 0)=true:=by
 unfold StP at h;rw[aX,aX,ba,bC]at h;exact⟨h.1.1,h.1.2,h.2⟩
structure LvF(n k:Nat)(v:List Int):Prop where
 len:v.length=n
 nn:∀x∈v,0<=x
 sum:v.sum=k
theorem a1c{cs:List (Option Int)}{v:List Int}(h:v∈N1 cs):LvF cs.length 1 v:=by
 obtain⟨j,a,rfl⟩:=aW.mp (aX.mp h).1;exact⟨M3 _ _,b0w _ _,a8S _ _ (ba.mp a)⟩
theorem b1Q{rss:LLI}{cs:List (Option Int)}{F:LLI}{u v:List Int}{n k:Nat}(a:LvF n k u)(h:a0L rss cs F u v):LvF n (k+1) v:=by
 obtain⟨j,b,rfl,_⟩:=h;have:=(a6L b).1;exact⟨by rw[E5];exact a.len,b4G a.nn,by rw[a6y _ _ this,a.sum];omega⟩
theorem Wk.lv{rss:LLI}{cs:List (Option Int)}{F W L:LLI}{k:Nat}(h:Wk rss cs F W L k):(∀v∈L,LvF cs.length k v)/\(∀v∈W,∃i,1<=i/\i<=k/\LvF cs.length i v)/\(∀v∈F,v∈W/\Ans rss v=true)/\F.length<=W.length/\L.length<=W.length/\1<=k/\k<=W.length+1/\(L≠[]->k<=W.length):=by
 induction h with
 |@one L ri nd h =>
  refine⟨λv a=>a1c ((h v).mp a),λv a=>⟨1,by omega,by omega,a1c ((h v).mp a)⟩,λv a=>aX.mp a,bB _ _,aj _,by omega,by omega,λne=>?_⟩;cases L with
  |nil=>exact absurd rfl ne
  |cons x L=>simp
 |@more F W L L' k h ne ri nd e n =>
  obtain⟨j,l,d,o,p,q,r,m⟩:=n;have b:∀v∈L',LvF cs.length (k+1) v:=λv a=>by
   obtain⟨u,f,g⟩:=(e v).mp a;exact b1Q (j u f) g
  have:=bB (λv=>Ans rss v) L';have s:=m ne;refine⟨b,λv a=>?_,λv a=>?_,by rw[aq,aq];omega,by rw[aq];omega,by omega,by rw[aq];omega,λc=>?_⟩
  .rcases aC.mp a with z|z
   .obtain⟨i,q1,q2,q3⟩:=l v z;exact⟨i,q1,by omega,q3⟩
   .exact⟨k+1,by omega,by omega,b v z⟩
  .rcases aC.mp a with z|z
   .exact⟨aS _ (d v z).1,(d v z).2⟩
   .exact⟨aO _ (aX.mp z).1,(aX.mp z).2⟩
  .rw[aq];have:0<L'.length:=List.length_pos_iff.mpr c;omega
section
variable {P:Program}{w:World}{K:PySem.W.Frag}{mg:Str->Option Value}{base:Heap}{C:Addr}
inductive IspLeast(D:Addr)(vs:List V)(H:Hp)(Q:VK)(E:XK):Prop
 |mk (ra ca:Addr) (rss:LLI) (cs:List (Option Int)) (most:Nat) (mi:Int) (_:vs=[.ref ra,.ref ca,.int mi]) (_:mi=most) (_:SyAt H ra ca rss cs) (_:(most+1)*cs.length+200<=100000) (_:(∀q t pp zs tss ws F W k H',Same H H'->H' q=some (.tup [.ref t,.ref pp])->H' t=some (.tup zs)->Its H' zs tss->tss.Perm F->C9 tss->H' pp=some (.tup ws)->Its H' ws W->Wk rss cs F W [] k->W.length<=most->Q (.ref q) H')) (_:(∀H',Same H H'->b7n rss cs most->E (.ref D) none H')):IspLeast D vs H Q E
def a7Z(D:Addr):Sp:=λvs H Q E=>IspLeast D vs H Q E
theorem sc_least:FnScope ["rows","caps","most","finder","room"] ["rows","caps","most"] (A3 a1Q):=⟨rfl,rfl,rfl,by decide +kernel,rfl,by decide +kernel,by decide +kernel⟩
theorem b1K{r:Addr}(V:FunAt K mg "least" a1Q ["rows","caps","most"])(T:Tx mg)(U:FiTx K C)(a:Cls K C)(G:MakeOk P w K mg base "Finder" C 1 ["self","rows","caps"] (a8d C))(g:MethOk P w K mg base C "step_within" 6 ["self","room"] (a4s C))(n:MethOk P w K mg base C "ended" 1 ["self"] (a4v C))(t:MethOk P w K mg base C "told" 1 ["self"] (a6M C))(p:MethOk P w K mg base C "paper" 1 ["self"] (a4t C))
  (D:OwnCls "TooMany" r [.type "ValueError",.type "Exception",.type "BaseException",.type "object"] "ValueError.__new__" mg base):OkE P w K mg base "least" 7 ["rows","caps","most"] (a7Z r):=by
 refine V.okE sc_least (λvs H Q E h=>?_) (λc0 f A b7 s H vs Q E hr h=>?_)
 .obtain⟨ra,ca,rss,cs,most,mi,rfl,_⟩:=h;rfl
 .obtain⟨ra,ca,rss,cs,most,_,rfl,rfl,Y,hbig,kq,ke⟩:=h;refine⟨_,(A2 (B2 (i:=3) sc_least.nd rfl (Or.inl rfl) (b6N G (hr.mono (by omega)) rfl (jaC (jv 0) (jaC (jv 1) jaN))))
 (A2 (B2 (i:=4) sc_least.nd rfl (Or.inl rfl) (jv 2))
 (A2 (a6j (J6 (C1 K (a4X n a (hr.mono (by omega)) (jv 3))))
 (A2 (B2 (i:=4) sc_least.nd rfl (Or.inl rfl) (a3T (jv 4) (b6M g a (hr.mono (by omega)) (jv 3) (jaC (jv 4) jaN))))
 (A5 (D9 (b1Y (jv 4) A4)
 (A5 (b2b D PySem.F.excBase_ValueError rfl PySem.F.excBase_ValueError rfl (jaC a6m jaN)))
 C2))) (hp:=PassesOwn.leaving))
 (A5 (A9 (D7 (jaC (a4X t a (hr.mono (by omega)) (jv 3)) (jaC (a4X p a (hr.mono (by omega)) (jv 3)) jaN)))))))),?_⟩
  refine⟨_,rfl,_,rfl,λx dx hx a9 M=>?_⟩;have b6:upd H dx (.own x) x=none:=by rw[A1 M.symm];exact hx
  have s0:Same H (upd (upd H dx (.own x)) x (.ins C dx [])):=((Same.refl H).upd a9).upd b6;refine⟨x,dx,ra,ca,rfl,A0,λaf aw H1 a7 a8 D1 _ kp=>⟨rfl,?_⟩⟩;have Z:H af=none:=s0.free a7;have a0:H aw=none:=s0.free a8;have s1:Same H H1:=λb o e=>kp b o (s0 b o e) (A6 e hx);dsimp only[B0];refine⟨_,rfl,?_⟩;dsimp only[B0];have hz:(300000:Nat)<=sizeLine:=by rw[aV];decide
  refine a0r (λσ H'=>σ=[some (.ref ra),some (.ref ca),some (.int most),some (.ref x),σ.getD 4 none]/\Same H H'/\∃F W k,FAt C H' x ra ca af aw true [] F W/\Wk rss cs F W [] k/\W.length<=most) ?fin λfin=>?_
  case fin =>
   rintro σ H2 ⟨hσ,s2,F,W,k,N,I,O⟩;obtain⟨⟨a3,ah,hs,h1,h2,h3,h4,h5⟩,_,_,_⟩:=id N;have a1:=I.lv;rw[hσ];refine b3r rfl N (λv J=>?_) λq1 zs b8 H3 s3 b3 a4 b2 b5=>?_
   .obtain⟨i,_,_,lv⟩:=a1.2.1 v (a1.2.2.1 v J).1;rw[lv.len];exact Y.n1
   have D3:=N.same s3;obtain⟨⟨c1,b9,c7,g1,_⟩,_,_,_⟩:=id D3;refine b0Z rfl D3 λq2 ws H4 s4 b4 a5=>?_;refine⟨by show 2<=sizeLine;omega,λq hq=>?_⟩;have s5:=(Same.refl H4).upd (o:=.tup [.ref q1,.ref q2]) hq;exact kq q q1 q2 zs b8 ws F W k _ (((s2.trans s3).trans s4).trans s5) A0 (s5 _ _ (s4 _ _ b3)) ((a4.same s4).same s5) b2 b5 (s5 _ _ b4) (a5.same s5) I O
  refine⟨λm σ H'=>∃(b:Bool) (L F W:LLI) (d:Int),σ=[some (.ref ra),some (.ref ca),some (.int most),some (.ref x),some (.int d)]/\Same H H'/\FAt C H' x ra ca af aw b L F W/\0<=d/\m=d.toNat+(if b=true/\L=[] then 0 else 1)/\((b=false/\L=[]/\F=[]/\W=[]/\d=most)∨(b=true/\∃k,Wk rss cs F W L k/\d=most-W.length)),
   ⟨_,false,[],[],[],_,rfl,s1,D1,by omega,rfl,.inl ⟨rfl,rfl,rfl,rfl,rfl⟩⟩,?_⟩
  rintro m σ H2 ⟨b,L,F,W,d,rfl,s2,N,r0,rfl,S⟩;obtain⟨⟨a3,ah,hs,h1,h2,h3,h4,h5⟩,_,_,_⟩:=id N;refine b1a rfl N ⟨_,rfl,?_⟩;have b1:=Y.n1;have c5:most+1<=(most+1)*cs.length:=Nat.le_mul_of_pos_right _ b1;by_cases he:b=true/\L=[]
  .obtain⟨rfl,rfl⟩:=he;refine C6 ?_;rcases S with⟨z,_⟩|⟨_,k,I,j⟩
   .cases z
   .exact fin _ _ ⟨rfl,s2,F,W,k,N,I,by omega⟩
  .have hb:(b && decide (L=[]))=false:=by
    cases b with
    |false=>rfl
    |true =>
     have:L≠[]:=λz=>he ⟨rfl,z⟩;simpa using this
   rw[hb,ao he];refine E3 ⟨λσ' H'=>∃(L' V X:LLI) (k:Nat) (l:Int),σ'=[some (.ref ra),some (.ref ca),some (.int most),some (.ref x),some (.int l)]/\Same H H'/\FAt C H' x ra ca af aw true L' V X/\0<=l/\Wk rss cs V X L' k/\l=most-X.length/\l.toNat+(if L'=[] then 0 else 1)<d.toNat+1,λσ' H' ⟨L',V,X,k,l,e1,e2,e3,e4,e5,e6,e7⟩=>⟨_,e7,true,L',V,X,l,e1,e2,e3,e4,by simp,.inr ⟨rfl,k,e5,e6⟩⟩,?_⟩;obtain⟨B,hB,hL,hF,c4,a6,c2⟩:∃B:Int,B<=2 ^ 60/\(∀v∈L,v.length=cs.length/\∀y∈v,0<=y/\y<=B)/\(∀v∈F,v.length=cs.length)/\W.length<=most/\L.length<=most/\F.length<=most:=by
    rcases S with⟨rfl,rfl,rfl,rfl,_⟩|⟨rfl,k,I,j⟩
    .exact⟨0,by omega,(λ_ z=>nomatch z),(λ_ z=>nomatch z),by simp,by simp,by simp⟩
    .obtain⟨i1,i2,i3,i4,i5,i6,i7,i8⟩:=I.lv;refine⟨k,by omega,λv J=>⟨(i1 v J).len,λy hy=>⟨(i1 v J).nn y hy,?_⟩⟩,λv J=>?_,by omega,by omega,by omega⟩
     .have:=b5j (i1 v J).nn y hy;rw[(i1 v J).sum]at this;exact this
     .obtain⟨i,_,_,lv⟩:=i2 v (i3 v J).1;exact lv.len
   have c3:L.length*cs.length<=most*cs.length:=Nat.mul_le_mul_right _ a6;have c6:(most+1)*cs.length=most*cs.length+cs.length:=by rw[Nat.add_mul,Nat.one_mul]
   refine⟨_,rfl,b0Y rfl rfl N (Y.same s2) (.inr ⟨d,rfl,r0⟩) hL hB hF (by omega) (by omega) (by omega) λL' H3 R D3 _ a2=>?_⟩;refine⟨_,_,rfl,rfl,?_⟩;dsimp only[B0];have s3:Same H H3:=λc o e=>a2 c o (by simpa using⟨A6 e hx,A6 e Z,A6 e a0⟩) (s2 c o e);have key:(∃k,Wk rss cs (F++L'.filter λv=>Ans rss v) (W++L') L' k/\d=most-W.length)∨(d<L'.length/\b7n rss cs most):=by
    rcases S with⟨rfl,rfl,rfl,rfl,j⟩|⟨rfl,k,I,j⟩
    .exact .inl ⟨1,by simpa using Wk.one R.ri R.nd (R.fst rfl),by simpa using j⟩
    .have M:L≠[]:=λz=>he ⟨rfl,z⟩;rcases R.all rfl with ha|⟨m',e',hm'⟩
     .exact .inl ⟨k+1,.more I M R.ri R.nd λv=>⟨R.snd rfl v,λ⟨u,hu,J⟩=>ha u hu v J⟩,j⟩
     .cases e';exact .inr ⟨hm',F,W,L,k,I,.inr ⟨M,L',R.nd,R.snd rfl,by omega⟩⟩
   refine⟨_,rfl,_,_,rfl,rfl,_,rfl,a5a (λe=>?_) (λe=>?_)⟩
   .have e':d-(L'.length:Int)<0:=bJ e;refine⟨by rw[aV];decide,ke _ s3 ?_⟩;rcases key with⟨k,I,j⟩|⟨_,ho⟩
    .exact⟨_,_,_,k,I,.inl (by rw[aq];omega)⟩
    .exact ho
   .have e':¬d-(L'.length:Int)<0:=λz=>e (bu z);rcases key with⟨k,I,j⟩|⟨b0,_⟩
    .refine⟨L',_,_,k,_,rfl,s3,D3,by omega,I,by rw[aq];omega,?_⟩;cases L' with
     |nil=>simp
     |cons y L'=>simp only[aT]at e'⊢;rw[ao (by simp)];omega
    .exact absurd b0 (by omega)
end
structure Answer(rss:LLI)(n:Nat)(v:List Int):Prop where
 len:v.length=n
 nn:∀x∈v,0<=x
 ans:Ans rss v=true
 pos:0<v.sum
structure Least(rss:LLI)(cs:List (Option Int))(v:List Int):Prop where
 an:Answer rss cs.length v
 wi:Wi cs v=true
 min:∀u,Answer rss cs.length u->Under u v->u=v
theorem Under.refl(v:List Int):Under v v:=⟨rfl,λ_ _=>fL _⟩
theorem Under.trans{a b c:List Int}(h:Under a b)(g:Under b c):Under a c :=
 ⟨h.1.trans g.1,λj d=>Int.le_trans (h.2 j (by rw[g.1];exact d)) (g.2 j d)⟩
theorem Under.eq{a b:List Int}(h:Under a b)(hs:b.sum<=a.sum):a=b:=by
 refine bT λne=>?_;have:=h.sum.2 ne;omega
theorem a0M{cs:List (Option Int)}{v:List Int}(h:v.length=cs.length):Wi cs v=true↔∀j,j<cs.length->a9Y (cs.getD j none) (v.getD j 0)=true:=by
 unfold Wi;induction cs generalizing v with
 |nil=>simp
 |cons c cs b =>
  cases v with
  |nil=>cases h
  |cons x v =>
   rw[bj,cB,aL,b (by simpa using h)];constructor
   .rintro⟨h1,h2⟩ j a;cases j with
    |zero=>exact h1
    |succ j=>exact h2 j (by simpa using a)
   .intro h1;exact⟨h1 0 (by simp),λj a=>h1 (j+1) (by simpa using a)⟩
theorem a9X{c:Option Int}{x y:Int}(h:a9Y c y=true)(a:x<=y):a9Y c x=true:=by
 cases c with
 |none=>rfl
 |some c =>
  have:y<=c:=bJ h;exact bu (by omega)
theorem a4m{cs:List (Option Int)}{u v:List Int}(a:v.length=cs.length)(h:Wi cs v=true)(c:Under u v):Wi cs u=true:=by
 rw[a0M a]at h;rw[a0M (by rw[c.1];exact a)];intro j b;exact a9X (h j b) (c.2 j (by rw[a];exact b))
theorem b2P{rss:LLI}{v:List Int}(h:Ans rss v=true)(j:Nat):a1h rss v j=0:=by
 unfold a1h O2;unfold Ans at h;induction rss with
 |nil=>rfl
 |cons r rss a =>
  rw[cB,aL,bC]at h;rw[aU,bj,bH,a h.2,h.1];omega
theorem G5{f v:List Int}(a:f.length=v.length):Bel f v=true↔Under f v:=by
 constructor
 .intro h;refine⟨a,?_⟩;unfold Bel at h;induction f generalizing v with
  |nil =>
   intro j b;rw[<-a]at b;simp at b
  |cons x f c =>
   cases v with
   |nil=>cases a
   |cons y v =>
    rw[bj,cB,aL]at h;intro j b;cases j with
    |zero=>exact bJ h.1
    |succ j=>exact c (by simpa using a) h.2 j (by simpa using b)
 .intro h;unfold Bel;induction f generalizing v with
  |nil=>rfl
  |cons x f c =>
   cases v with
   |nil=>cases a
   |cons y v =>
    obtain⟨h1,h2⟩:=h.tail;rw[bj,cB,c (by simpa using a) h2,Bool.and_true];exact bu h1
theorem U0{rss:LLI}{cs:List (Option Int)}:∀(m:Nat) {u:List Int},u.sum<=m->Answer rss cs.length u->Wi cs u=true->∃a,Least rss cs a/\Under a u
 |0,u,e,h,_=>absurd h.pos (by omega)
 |m+1,u,e,h,hw=>by
  by_cases c:∃t,Answer rss cs.length t/\Under t u/\t≠u
  .obtain⟨t,h1,h2,h3⟩:=c;have:=h2.sum.2 h3;obtain⟨a,d,b⟩:=U0 m (u:=t) (by omega) h1 (a4m h.len hw h2);exact⟨a,d,b.trans h2⟩
  .exact⟨u,⟨h,hw,λt f b=>bT λne=>c ⟨t,f,b,ne⟩⟩,Under.refl u⟩
theorem a6Z:∀{v:List Int},(∀x∈v,0<=x)->0<v.sum->∃j,j<v.length/\1<=v.getD j 0
 |[],_,h=>by simp at h
 |x::v,a,h=>by
  by_cases b:1<=x
  .exact⟨0,by simp,by simpa using b⟩
  .have h0:=a x ar;rw[bH]at h;obtain⟨j,h1,h2⟩:=a6Z (v:=v) (λy c=>a y (av _ c)) (by omega);exact⟨j+1,by simpa using h1,by simpa using h2⟩
theorem b7M{v:List Int}(h:∀x∈v,0<=x)(j:Nat):0<=v.getD j 0:=by
 rw[az];cases e:v[j]? with
 |none=>simp
 |some x=>simpa using h x (aF e)
structure WkOk(rss:LLI)(cs:List (Option Int))(F L:LLI)(k:Nat):Prop where
 wi:∀v∈L,Wi cs v=true
 bar:∀v∈L,∀f∈F,Under f v->f=v
 snd:∀f∈F,Least rss cs f
 all:∀a,Least rss cs a->a.sum<=k->a∈F
 up:∀a,Least rss cs a->k<=a.sum->∃v∈L,Under v a
theorem Wk.ok{rss:LLI}{cs:List (Option Int)}{F W L:LLI}{k:Nat}(hR:∀r∈rss,r.length=cs.length)(h:Wk rss cs F W L k):WkOk rss cs F L k:=by
 induction h with
 |@one L ri nd h =>
  have l:∀v∈L,LvF cs.length 1 v:=λv g=>a1c ((h v).mp g);have o:∀v∈L,Wi cs v=true:=λv g=>(aX.mp ((h v).mp g)).2;have s:∀a,Least rss cs a->((1:Nat):Int)<=a.sum->∃v∈L,Under v a:=λa b _=>by
   obtain⟨j,h1,h2⟩:=a6Z b.an.nn b.an.pos;rw[b.an.len]at h1;have d:Under (M6 cs.length j) a:=⟨by rw[M3,b.an.len],λi hi=>by
    rw[b.an.len]at hi;rw[W9 _ _ _ hi];by_cases e:i=j
    .rw[ay e,e];exact h2
    .rw[ao e];exact b7M b.an.nn i⟩
   exact⟨_,(h _).mpr (aX.mpr ⟨aW.mpr ⟨j,ba.mpr h1,rfl⟩,a4m b.an.len b.wi d⟩),d⟩
  refine⟨o,λv g f m d=>?_,λf m=>?_,λa b hs=>?_,s⟩
  .have h1:=(l v g).sum;have h2:=(l f (aX.mp m).1).sum;exact d.eq (by omega)
  .obtain⟨hf1,n⟩:=aX.mp m;have lv:=l f hf1;refine⟨⟨lv.len,lv.nn,n,by rw[lv.sum];decide⟩,o f hf1,λu p d=>d.eq ?_⟩;have:=p.pos;rw[lv.sum];omega
  .obtain⟨v,g,d⟩:=s a b (by have:=b.an.pos;omega);have h1:=(l v g).sum;have:v=a:=d.eq (by omega);subst this;exact aX.mpr ⟨g,b.an.ans⟩
 |@more F W L L' k h ne ri nd K C =>
  obtain⟨M,Z,T,i4,i5,i6,i7,i8⟩:=h.lv;have l:∀v∈L',LvF cs.length (k+1) v:=λv g=>by
   obtain⟨u,p,Y⟩:=(K v).mp g;exact b1Q (M u p) Y
  have y:∀f∈F,f.length=cs.length/\f.sum<=k:=λf m=>by
   obtain⟨i,q1,q2,lv⟩:=Z f (T f m).1;exact⟨lv.len,by rw[lv.sum];omega⟩
  have s:∀a,Least rss cs a->((k+1:Nat):Int)<=a.sum->∃v∈L',Under v a:=λa b hs=>by
   obtain⟨v,g,d⟩:=C.up a b (by omega);have lv:=M v g;have I:v≠a:=λz=>by rw[<-z,lv.sum]at hs;omega
   have Q:Ans rss v=false:=by
    cases e:Ans rss v with
    |false=>rfl
    |true=>exact absurd (b.min v ⟨lv.len,lv.nn,e,by rw[lv.sum];omega⟩ d) I
   have V:=b7D rss v a (λr X=>by rw[hR r X,b.an.len]) d I b.an.ans;obtain⟨j,t⟩:=List.exists_mem_of_ne_nil _ V;have H:=b1u t;have O:a1h rss v j<0:=by
    unfold Pl at t;rw[aX,Q,eO,aL]at t;exact bJ t.2.2
   have D:Under (bump v j) a:=d.bump t;have hw:=(a0M b.an.len).mp b.wi j (by rw[<-b.an.len];exact H.1);refine⟨bump v j,(K _).mpr ⟨v,g,j,?_,rfl,?_⟩,D⟩
   .unfold StP;rw[aX,aX,ba,bC];refine⟨⟨by rw[d.1];exact H.1,O⟩,?_⟩;cases e:cs.getD j none with
    |none=>rfl
    |some c =>
     rw[e]at hw;have:a.getD j 0<=c:=bJ hw;exact bu (by omega)
   .cases e:Bar F (bump v j) j with
    |false=>rfl
    |true =>
     unfold Bar at e;obtain⟨f,m,n⟩:=bE.mp e;rw[aL]at n;have A:=(y f m).1;have B:Under f a:=((G5 (by rw[A,E5,lv.len])).mp n.2).trans D;have:=b.min f (C.snd f m).an B;have h2:=(y f m).2;rw[this]at h2;omega
  have o:∀v∈L',Wi cs v=true:=λv g=>by
   obtain⟨u,p,j,t,rfl,_⟩:=(K v).mp g;have w:=(M u p).len;have q:=a6L t;have hw:=C.wi u p;rw[a0M w]at hw;rw[a0M (by rw[E5];exact w)];intro i hi;rw[a0H _ _ _ q.1];by_cases e:i=j
   .rw[ay e,e];have J:=q.2.2;cases U:cs.getD j none with
    |none=>rfl
    |some c =>
     rw[U]at J;have:u.getD j 0<c:=bJ J;exact bu (by omega)
   .rw[ao e];exact hw i hi
  have x:∀v∈L',∀f∈F++L'.filter (λv=>Ans rss v),Under f v->f=v:=λv g f m d=>by
   rcases aC.mp m with z|z
   .obtain⟨u,p,j,t,rfl,hb⟩:=(K v).mp g;have w:=(M u p).len;have q:=a6L t;have A:=(y f z).1;exfalso;by_cases e:f.getD j 0=(bump u j).getD j 0
    .have:Bar F (bump u j) j=true:=by
      unfold Bar;exact bE.mpr ⟨f,z,by rw[aL];exact⟨bu e,(G5 d.1).mpr d⟩⟩
     rw[this]at hb;cases hb
    .have B:Under f u:=⟨by rw[A,w],λi hi=>by
      have h1:=d.2 i (by rw[E5];exact hi);rw[a0H _ _ _ q.1]at h1;by_cases S:i=j
      .subst S;rw[a0H _ _ _ q.1,ay rfl]at e;rw[ay rfl]at h1;omega
      .rw[ao S]at h1;exact h1⟩
     have h2:=C.bar u p f z B;have J:=b2P (T f z).2 j;rw[h2]at J;omega
   .have h1:=(l v g).sum;have h2:=(l f (aX.mp z).1).sum;exact d.eq (by omega)
  have E:∀a,Least rss cs a->a.sum<=((k+1:Nat):Int)->a∈F++L'.filter (λv=>Ans rss v):=λa b hs=>by
   by_cases h1:a.sum<=(k:Int)
   .exact aS _ (C.all a b h1)
   .obtain⟨v,g,d⟩:=s a b (by omega);have h2:=(l v g).sum;have:v=a:=d.eq (by omega);subst this;exact aO _ (aX.mpr ⟨g,b.an.ans⟩)
  refine⟨o,x,λf m=>?_,E,s⟩;rcases aC.mp m with z|z
  .exact C.snd f z
  .obtain⟨hf1,n⟩:=aX.mp z;have lv:=l f hf1;refine⟨⟨lv.len,lv.nn,n,by rw[lv.sum];omega⟩,o f hf1,λu p d=>?_⟩;refine bT λR=>?_;have P:=d.sum.2 R;rw[lv.sum]at P;obtain⟨a,b,G⟩:=U0 (rss:=rss) (cs:=cs) u.sum.toNat (by have:=p.pos;omega) p (a4m lv.len (o f hf1) d);have hs:=G.sum.1;have N:=C.all a b (by omega);have:=x f hf1 a (aS _ N) (G.trans d);rw[this,lv.sum]at hs;omega
theorem Wk.least{rss:LLI}{cs:List (Option Int)}{F W:LLI}{k:Nat}(hR:∀r∈rss,r.length=cs.length)(h:Wk rss cs F W [] k)(v:List Int):v∈F↔Least rss cs v:=by
 have o:=h.ok hR;refine⟨o.snd v,λa=>?_⟩;by_cases hs:v.sum<=(k:Int)
 .exact o.all v a hs
 .obtain⟨u,hu,_⟩:=o.up v a (by omega);cases hu
theorem Wk.nd{rss:LLI}{cs:List (Option Int)}{F W L:LLI}{k:Nat}(h:Wk rss cs F W L k):W.Nodup/\F.Nodup:=by
 induction h with
 |@one L ri nd h=>exact⟨nd,nd.sublist List.filter_sublist⟩
 |@more F W L L' k h ne ri nd f d =>
  obtain⟨l,m,n,o,p,q,r,s⟩:=h.lv;have a:∀v∈W,∀u∈L',v≠u:=λv c u b e=>by
   obtain⟨i,w,x,lv⟩:=m v c;obtain⟨t,g,j⟩:=(f u).mp b;have:=(b1Q (l t g) j).sum;rw[<-e,lv.sum]at this;omega
  refine⟨fF.mpr ⟨d.1,nd,a⟩,fF.mpr ⟨d.2,nd.sublist List.filter_sublist,λv c u b=>a v (n v c).1 u (aX.mp b).1⟩⟩
theorem a5J:∀{a b:LLI},C9 a->C9 b->a.Nodup->b.Nodup->(∀v,v∈a↔v∈b)->a=b
 |[],[],_,_,_,_,_=>rfl
 |[],y::b,_,_,_,_,h=>by have:=(h y).mpr ar;cases this
 |x::a,[],_,_,_,_,h=>by have:=(h x).mp ar;cases this
 |x::a,y::b,ra,rb,na,nb,h=>by
  obtain⟨k,l⟩:=cO.mp ra;obtain⟨i,j⟩:=cO.mp rb;obtain⟨f,g⟩:=cw.mp na;obtain⟨c,d⟩:=cw.mp nb;have e:x=y:=by
   refine M4 x y ?_ ?_
   .rcases aE.mp ((h x).mp ar)with z|z
    .rw[z];exact J5 y
    .exact i x z
   .rcases aE.mp ((h y).mpr ar)with z|z
    .rw[z];exact J5 x
    .exact k y z
  subst e;rw[a5J l j g d λv=>?_];constructor
  .intro hv;rcases aE.mp ((h v).mp (av _ hv))with z|z
   .exact absurd (z ▸ hv) f
   .exact z
  .intro hv;rcases aE.mp ((h v).mpr (av _ hv))with z|z
   .exact absurd (z ▸ hv) c
   .exact z
theorem I0{H:Hp}{a b:Addr}{n:Nat}(h:PotAt H a b n){c:Addr}(d:H c=none):c∉[a,b]:=by
 obtain⟨_,e,t,k,h1,h2,_⟩:=h;simp only[aE,bF,cS,not_or];exact⟨(A6 h1 d).symm,(A6 h2 d).symm⟩
theorem X6{H:Hp}{a b:Addr}{n:Nat}(h:PotAt H a b n){c:Addr}{o:HO}(d:c∉[a,b]):PotAt (upd H c o) a b n:=by
 simp only[aE,bF,cS,not_or]at d;obtain⟨ne,e,t,j,f,g,i⟩:=h;exact⟨ne,e,t,j,by rw[A1 (dC d.1)];exact f,by rw[A1 (dC d.2)];exact g,i⟩
section
variable {P:Program}{w:World}{K:PySem.W.Frag}{mg:Str->Option Value}{base:Heap}
theorem two_at(x y:Int)(c:Bool):∃m:Int,atI [V.int x,.int y] (if c=true then 1 else 0)=some (.int m)/\(m=x∨m=y):=by
 cases c
 .exact⟨x,rfl,.inl rfl⟩
 .exact⟨y,rfl,.inr rfl⟩
theorem two_at'(x y r:Int)(h0:0<=r)(h1:r<2):∃m:Int,atI [V.int x,.int y] r=some (.int m)/\(m=x∨m=y):=by
 have:r=0∨r=1:=by omega
 rcases this with rfl|rfl
 .exact⟨x,rfl,.inl rfl⟩
 .exact⟨y,rfl,.inr rfl⟩
theorem b7V{n k:Nat}(h:k<n):ixN n (k:Int)=some k:=by
 unfold ixN;rw[ay (by omega),ay (by omega)];rfl
theorem a9l{src:List (Option Nat)}{σ caps:L2.St}{Q:VK}{n f c:Nat}{H:Hp}{a b:Addr}{te:TE}(R:Int->Prop)(s:n<=1000)(k:B1 src σ=none::caps)(o:PotAt H a b f)
  (m:∀(i:Nat) (H':Hp) (N:VK),i<n->PotAt H' a b (f+c*i)->(∀r d,R r->PotAt d a b (f+c*i+c)->Off [a,b] H' d->N (.int r) d)->te (some (.int i)::caps) H' N)
  (hd:∀H' p (xs:List Int),xs.length=n->(∀x∈xs,R x)->PotAt H' a b (f+c*n)->Off [a,b] H H'->H' p=none->Q (.ref p) (upd H' p (.lst (xs.map V.int)))):E6 src (B0 0) J3 te σ Q (Itr 0 n) H:=by
 refine a0w s k (λi ys H'=>Ex1 λ(xs:List Int)=>An5 (ys=xs.map V.int) (xs.length=i) ((∀x∈xs,R x)) (PotAt H' a b (f+c*i)) (Off [a,b] H H')) ⟨[],rfl,rfl,(λ_ z=>nomatch z),o,Off.refl _ _⟩ (λi ys H' h=>by obtain⟨xs,e,g,_⟩:=h;rw[e,ai,g];exact aj _) ?_ ?_
 .rintro i ys H' hi ⟨xs,rfl,g,hR,hP',off⟩;refine m i H' _ hi hP' λr d t j l=>⟨xs++[r],by simp,by simp[g],λx u=>?_,?_,off.trans l⟩
  .rcases aC.mp u with q|q
   .exact hR x q
   .rw[aD.mp q];exact t
  .have:f+c*(i+1)=f+c*i+c:=by rw[Nat.mul_add,Nat.mul_one,dW]
   rw[this];exact j
 .rintro ys H' ⟨xs,rfl,g,hR,hP',off⟩ p hp;exact hd H' p xs g hR hP' off hp
theorem S5{l:List Addr}{H H':Hp}{p:Addr}{o:HO}(s:Off l H H')(hp:H p=none):Off l H (upd H' p o):=λb u a e=>by
 rw[A1 (A6 e hp)];exact s b u a e
theorem a0y{H H':Hp}{a b:Addr}{n:Nat}{p:Addr}(o:Off [a,b] H H')(c:PotAt H' a b n)(hp:H' p=none):H p=none:=by
 rcases e:H p with _|u
 .rfl
 .have:=o _ _ (I0 c hp) e;rw[hp]at this;cases this
theorem T4{H H':Hp}{vs:List V}{rss:LLI}{a b:Addr}{n:Nat}(h:Its H vs rss)(c:PotAt H a b n)(o:Off [a,b] H H'):Its H' vs rss:=⟨h.1,λi v e=>let ⟨r,e1,e2⟩:=h.2 i v e;⟨r,e1,IT.off e2 c o⟩⟩
theorem a7g{xs:List Int}{j:Nat}{z x:Int}(h:x∈xs.set j z):x∈xs∨x=z:=by
 exact eX h
theorem b5D(r:Int)(h0:0<=r)(h1:r<6):∃z:Int,atI [V.int 0,.int 1,.int 1,.int 2,.int 2,.int 1] r=some (.int z)/\0<=z/\z<=2:=by
 have:r=0∨r=1∨r=2∨r=3∨r=4∨r=5:=by omega
 rcases this with rfl|rfl|rfl|rfl|rfl|rfl
 .exact⟨0,rfl,by decide,by decide⟩
 .exact⟨1,rfl,by decide,by decide⟩
 .exact⟨1,rfl,by decide,by decide⟩
 .exact⟨2,rfl,by decide,by decide⟩
 .exact⟨2,rfl,by decide,by decide⟩
 .exact⟨1,rfl,by decide,by decide⟩
inductive IspWidth(vs:List V)(H:Hp)(Q:VK)(E:XK):Prop
 |mk (a b:Addr) (n:Nat) (_:vs=[.ref a]) (_:PotAt H a b n) (_:n+100<2 ^ 60) (_:∀(m:Nat) H',1<=m->m<=8->PotAt H' a b (n+2)->Off [a,b] H H'->Q (.int m) H'):IspWidth  vs H Q E
def a7Y:Sp:=λvs H Q E=>IspWidth  vs H Q E
theorem a3q:FnScope ["_law_pot_here"] ["_law_pot_here"] (A3 L6):=⟨rfl,rfl,rfl,by decide +kernel,rfl,by decide +kernel,by decide +kernel⟩
theorem b1G(F:FunAt K mg "_law_width" L6 ["_law_pot_here"])(T:Tx mg)(c:Ok P w K mg base "_law_take" 1 ["_law_pot_here","_law_many"] a2k):Ok P w K mg base "_law_width" 2 ["_law_pot_here"] a7Y:=by
 refine F.okJ a3q (λM H Q E h=>?_) (λB f A v s H M Q E y h=>?_)
 .obtain⟨a,b,n,rfl,_⟩:=h;rfl
 .obtain⟨a,b,n,rfl,hP,hn,k⟩:=h;have N:(3000:Nat)<=sizeLine:=by rw[aV];decide
  refine⟨_,(A5 (A9 (M8 A4 (A7 c (y.mono (by omega)) rfl (jaC (jv 0) (jaC (E9 K (E1 (jaC A4 (jaC A4 jaN))) (a4W rfl T.b_int (jaC (a3R (A7 c (y.mono (by omega)) rfl (jaC (jv 0) (jaC A4 jaN))) A4) jaN))) jaN)))))),?_⟩;refine⟨_,rfl,by show 2<=sizeLine;omega,λp x=>?_⟩;have s1:=(Same.refl H).upd (o:=.lst [V.int 4,.int 8]) x;have u:=I0 hP x;refine⟨_,rfl,a,b,_,8,rfl,hP.same s1,by omega,by decide,by decide,λL H1 C D l d=>?_⟩;refine⟨rfl,.inr ⟨_,rfl,?_⟩⟩;obtain⟨m,r,J⟩:=two_at 4 8 (decide (V.int L=V.int 7));refine⟨p,_,_,_,rfl,rfl,SqL.of (d _ _ u A0),r,?_⟩;refine⟨a,b,_,m,rfl,l,by omega,by omega,by omega,λz H2 G I q g=>?_⟩;refine⟨_,_,rfl,rfl,?_⟩;obtain⟨t,rfl⟩:∃t:Nat,z=t:=⟨z.toNat,by omega⟩;have e:(1:Int)+(t:Int)=((t+1:Nat):Int):=by omega
  rw[show(λi j=>V.int (i+j)) (1:Int) (t:Int)=V.int ((t+1:Nat):Int) by simp;omega];exact k (t+1) H2 (by omega) (by omega) q ((s1.off.trans d).trans g)
inductive IspRows(vs:List V)(H:Hp)(Q:VK)(E:XK):Prop
 |mk (a b:Addr) (n m:Nat) (mi:Int) (_:vs=[.ref a,.int mi]) (_:mi=m) (_:1<=m) (_:m<=8) (_:PotAt H a b n) (_:n+1000<2 ^ 60) (_:∀q us rss H',H' q=some (.tup us)->Its H' us rss->us.length<=6->Rs m rss->PotAt H' a b (n+100)->Off [a,b] H H'->Q (.ref q) H'):IspRows  vs H Q E
def b0I:Sp:=λvs H Q E=>IspRows  vs H Q E
theorem sc__law_rows:FnScope ["_law_pot_here","_law_width_here","_law_many","_law_far","_law_rows_here","_law_k","_law_row","_law_great"] ["_law_pot_here","_law_width_here"] (A3 O0):=⟨rfl,rfl,rfl,by decide +kernel,rfl,by decide +kernel,by decide +kernel⟩
theorem b4f(F:FunAt K mg "_law_rows" O0 ["_law_pot_here","_law_width_here"])(T:Tx mg)(d:Ok P w K mg base "_law_take" 1 ["_law_pot_here","_law_many"] a2k):Ok P w K mg base "_law_rows" 2 ["_law_pot_here","_law_width_here"] b0I:=by
 refine F.okJ sc__law_rows (λvs H Q E h=>?_) (λk9 f A j6 s H vs Q E W h=>?_)
 .obtain⟨a,b,n,m,mi,rfl,_⟩:=h;rfl
 .obtain⟨a,b,n,m,_,rfl,rfl,hm1,hm8,hP,hn,k⟩:=h;have hz:(3000:Nat)<=sizeLine:=by rw[aV];decide
  refine⟨_,(A2 (B2 (i:=2) sc__law_rows.nd rfl (Or.inl rfl) (E9 K (E1 (jaC (E9 K (E1 (jaC A4 (jaC A4 (jaC A4 (jaC A4 (jaC A4 (jaC A4 jaN))))))) (A7 d (W.mono (by omega)) rfl (jaC (jv 0) (jaC A4 jaN)))) (jaC (A7 d (W.mono (by omega)) rfl (jaC (jv 0) (jaC A4 jaN))) jaN))) (a4W rfl T.b_int (jaC (a3R (A7 d (W.mono (by omega)) rfl (jaC (jv 0) (jaC A4 jaN))) A4) jaN))))
 (A2 (B2 (i:=3) sc__law_rows.nd rfl (Or.inl rfl) (a3R (A7 d (W.mono (by omega)) rfl (jaC (jv 0) (jaC A4 jaN))) A4))
 (A2 (B2 (i:=4) sc__law_rows.nd rfl (Or.inl rfl) (E1 jaN))
 (A2 (P6 (J7 rfl T.b_range (jaC (jv 2) jaN)) (A8 (i:=5) sc__law_rows.nd rfl (Or.inl rfl))
 (A2 (a4V (i:=6) sc__law_rows.nd rfl (Or.inl rfl) (N:=["_law_j","_law_pot_here"]) (src:=[none,some 0]) (J7 rfl T.b_range (jaC (jv 1) jaN)) (by show B6 _ _=true;rfl) (by rfl) (by rfl)
 (λ_ _ _ _ _=>(A8 (i:=0) (show(["_law_j","_law_pot_here"]:List Str).Nodup by decide +kernel) rfl (Or.inl rfl))) (λ_ _ _ _ _=>C0) (λ_ _ _ _ _=>(a3T (A7 d (W.mono (by omega)) rfl (jaC (jv 1) (jaC A4 jaN))) A4)))
 (A2 (D9 (a2O (a2N (C1 K (jv 3)) (a0A (a6i (A7 d (W.mono (by omega)) rfl (jaC (jv 0) (jaC A4 jaN))) A4))))
 (A2 (B2 (i:=7) sc__law_rows.nd rfl (Or.inl rfl) (M8 (M8 (a0b (A7 d (W.mono (by omega)) rfl (jaC (jv 0) (jaC (a3U A4 A4) jaN))) (a3U A4 A4)) (A7 d (W.mono (by omega)) rfl (jaC (jv 0) (jaC (a3U A4 A4) jaN)))) A4))
 (A5 (a2P (E9 K (E1 (jaC (jv 7) (jaC (a8w (jv 7)) jaN))) (A7 d (W.mono (by omega)) rfl (jaC (jv 0) (jaC A4 jaN)))) (a7n (jv 6) (A7 d (W.mono (by omega)) rfl (jaC (jv 0) (jaC (jv 1) jaN)))))))
 C2)
 (A5 (M1 (M5 K (jv 4) (jaC (D6 K rfl T.b_tuple (jaC (jv 6) jaN)) jaN)))))))
 (A5 (A9 (D6 K rfl T.b_tuple (jaC (jv 4) jaN)))))))),?_⟩
  refine⟨by show 6<=sizeLine;omega,λp1 h5=>?_⟩;have s1:=(Same.refl H).upd (o:=.lst [V.int 0,.int 1,.int 1,.int 2,.int 2,.int 1]) h5;have e1:upd H p1 (.lst [V.int 0,.int 1,.int 1,.int 2,.int 2,.int 1]) p1=some (.lst [V.int 0,.int 1,.int 1,.int 2,.int 2,.int 1]):=A0;have d2:=hP.same s1;have h7:=I0 hP h5;generalize upd H p1 (.lst [V.int 0,.int 1,.int 1,.int 2,.int 2,.int 1])=H1 at s1 e1 d2;refine⟨_,rfl,a,b,_,6,rfl,d2,by omega,by decide,by decide,λr2 H2 d0 d1 g8 c4=>?_⟩;obtain⟨z,h9,i0,i1⟩:=b5D r2 d0 d1;refine⟨p1,_,_,_,rfl,rfl,SqL.of (c4 _ _ h7 e1),h9,?_⟩;refine⟨_,rfl,a,b,_,7,rfl,g8,by omega,by decide,by decide,λr3 H3 f7 f8 d3 i2=>?_⟩;refine⟨by show 2<=sizeLine;omega,λp4 h6=>?_⟩;have s4:=(Same.refl H3).upd (o:=.lst [V.int z,.int r3]) h6;have e4:upd H3 p4 (.lst [V.int z,.int r3]) p4=some (.lst [V.int z,.int r3]):=A0;have d4:=d3.same s4;have h8:=I0 d3 h6;have c5:=((s1.off.trans c4).trans i2).trans (s4.off (l:=[a,b]));generalize upd H3 p4 (.lst [V.int z,.int r3])=H4 at s4 e4 d4 c5;refine⟨_,rfl,a,b,_,8,rfl,d4,by omega,by decide,by decide,λr5 H5 f9 g0 g9 M=>?_⟩;refine⟨rfl,.inr ⟨_,rfl,?_⟩⟩;obtain⟨c3,d7,h4⟩:=two_at z r3 (decide (V.int r5=V.int 7));refine⟨p4,_,_,_,rfl,rfl,SqL.of (M _ _ h8 e4),d7,?_⟩;have M:=c5.trans M;dsimp only[B0];refine⟨_,rfl,a,b,_,8,rfl,g9,by omega,by decide,by decide,λr6 H6 g1 g2 a8 O=>?_⟩;refine⟨rfl,?_⟩;generalize decide (V.int r6=V.int 7)=a7;have O:=M.trans O;dsimp only[B0];refine⟨bo _,λpr e0=>?_⟩;have y:=I0 a8 e0;have h2:=a0y O a8 e0;have s7:=(Same.refl H6).upd (o:=.lst []) e0;have e7:upd H6 pr (.lst []) pr=some (.lst []):=A0;have d5:=a8.same s7;have c6:=S5 (o:=.lst []) O h2;generalize upd H6 pr (.lst [])=H7 at s7 e7 d5 c6;dsimp only[B0];obtain⟨N,rfl⟩:∃N:Nat,c3=N:=⟨c3.toNat,by omega⟩;have hN:N<=6:=by omega
  refine⟨_,rfl,_,rfl,by omega,by omega,?_⟩;rw[bw];refine a1b (lo:=0) (n:=N) (λi σ H'=>Ex5 λo5 o6 o7 us I=>An7 (σ=[some (.ref a),some (.int m),some (.int N),some (.bl a7),some (.ref pr),o5,o6,o7]) (PotAt H' a b (n+4+13*i)) (Off [a,b] H H') (H' pr=some (.lst us)) (Its H' us I) (us.length=i) (Rs m I)) ⟨none,none,none,[],[],rfl,d5.mono (by omega),c6,e7,.nil,rfl,λ_ z=>nomatch z⟩ ?_ ?_
  .rintro i σ H8 hi ⟨o5,o6,o7,us,I,rfl,hP8,off8,e8,hI8,b0,hR8⟩;obtain⟨nn,d8⟩:∃nn,nn=n+4+13*i:=⟨_,rfl⟩;rw[<-d8]at hP8;have hb:nn+50<2 ^ 60:=by clear hz i0 i1 d0 d1 f7 f8 f9 g0 g1 g2 d7 h4;omega
   have en:HEq (nn+13) (n+4+13*(i+1)):=eE (by rw[d8,Nat.mul_add];rfl);have l2:us.length+5<sizeLine:=by clear hn hb en;omega
   replace b0:=eE b0;clear d8 hn hP d2 g8 d3 d4 g9 a8 d5 d0 d1 f7 f8 f9 g0 g1 g2 h9 i0 i1 d7 h4;refine⟨_,rfl,_,rfl,by omega,by omega,?_⟩;rw[bw];refine a9l (caps:=[some (.ref a)]) (c:=1) (λz => -3<=z/\z<=3) (by omega) rfl hP8 (λi' H' N l1 hP' q=>⟨_,rfl,a,b,_,7,rfl,hP',by omega,by decide,by decide,λr i4 h0 h1 g6 j5=>⟨_,_,rfl,rfl,q (r-3) i4 ⟨by omega,by omega⟩ g6 j5⟩⟩) ?_;intro H9 pw xs S j1 d6 a4 a9;replace S:=eE S;dsimp only[B0];have R:=I0 d6 a9;have e2:pr∉[a,b]:=y;have e9:=a4 _ _ e2 e8;have i8:=T4 hI8 hP8 a4;have j4:pr≠pw:=A6 e9 a9;have a5:=off8.trans a4;have h3:=a0y a5 d6 a9;have b2:=(Same.refl H9).upd (o:=.lst (xs.map V.int)) a9;have Z:upd H9 pw (.lst (xs.map V.int)) pw=some (.lst (xs.map V.int)):=A0;have c8:=b2 _ _ e9;have a0:=i8.same b2;have L:=d6.same b2;have D:=S5 (o:=.lst (xs.map V.int)) a5 h3;generalize upd H9 pw (.lst (xs.map V.int))=i5 at b2 Z c8 a0 L D;refine a0r (λσ H'=>Ex2 λo7 ys=>An8 (σ=[some (.ref a),some (.int m),some (.int N),some (.bl a7),some (.ref pr),some (.int (0+(i:Int))),some (.ref pw),o7]) (ys.length=m) (Sm ys) (H' pw=some (.lst (ys.map V.int))) (PotAt H' a b (nn+13)) (Off [a,b] H H') (H' pr=some (.lst us)) (Its H' us I)) ?fin λfin=>?_
   case fin =>
    clear hb hN hi hm1 hm8;rintro σ X ⟨o7,ys,rfl,j2,j3,ew,B,j,Y,J⟩;refine⟨_,rfl,.inl ⟨rfl,_,SqL.of Y⟩,_,rfl,pw,_,rfl,.inl ⟨SqL.of ew,λq hq=>?_⟩⟩;have a6:=(Same.refl X).upd (o:=.tup (ys.map V.int)) hq;have c9:=a6 _ _ Y;have b3:upd X q (.tup (ys.map V.int)) q=some (.tup (ys.map V.int)):=A0;have C:=B.same a6;have b8:=J.same a6;have p:=j.trans (a6.off (l:=[a,b]));generalize upd X q (.tup (ys.map V.int))=i6 at a6 c9 b3 C b8 p;refine⟨pr,_,_,rfl,rfl,c9,by omega,?_⟩;refine⟨_,_,_,us++[.ref q],I++[ys],rfl,cg en ▸ X6 C y,S5 p h2,A0,Y8 (b8.snoc ⟨q,rfl,b3⟩) c9 (λ_ z=>by cases z),by simp[cg b0],λr W=>?_⟩;rcases aC.mp W with z|z
    .exact hR8 r z
    .rw[aD.mp z];exact⟨j2,j3⟩
   have a2:Sm xs:=λz hz=>by have:=j1 z hz;omega
   have stay:=fin _ i5 ⟨o7,xs,rfl,cg S,a2,Z,L.mono (by omega),D,c8,a0⟩;refine⟨_,rfl,a7,rfl,?_⟩;cases a7 with
   |false=>exact C6 (C6 stay)
   |true =>
    refine E3 ⟨_,rfl,a,b,_,2,rfl,L,by omega,by decide,by decide,λl3 X k0 k1 B j=>⟨rfl,_,rfl,?_⟩⟩;have b5:=j _ _ R Z;have Y:=j _ _ y c8;have J:=T4 a0 L j;have j:=D.trans j;refine a5a (λe=>?_) (λe=>fin _ X ⟨_,xs,rfl,cg S,a2,b5,B.mono (by omega),j,Y,J⟩);refine⟨_,rfl,_,_,rfl,rfl,⟨by decide,by decide,by decide⟩,a,b,_,_,rfl,B,by omega,by decide,by decide,λj7 i6 k2 f3 C p=>?_⟩;refine⟨_,_,rfl,rfl,⟨by decide,by decide,by decide⟩,_,_,rfl,rfl,.inr ⟨by decide,by decide⟩,?_⟩;refine⟨_,rfl,_,_,rfl,rfl,⟨by decide,by decide,by decide⟩,a,b,_,_,rfl,C,by omega,by decide,by decide,λj8 c7 k3 f4 c0 v=>?_⟩;refine⟨_,_,rfl,rfl,_,_,rfl,rfl,?_⟩;have e6:(10:Int) ^ Int.toNat 6=1000000:=by decide
    rw[e6]at f3 f4;dsimp only[B0];rw[e6];generalize hG:j7*1000000+j8+1=G;have l0:0<=G/\G<2 ^ 62:=by omega
    have f1:=v _ _ R (p _ _ R b5);have i7:=v _ _ y (p _ _ y Y);have g3:=T4 (T4 J B p) C v;have v:=(j.trans p).trans v;refine⟨_,rfl,_,rfl,_,rfl,by show 2<=sizeLine;omega,λb1 c2=>?_⟩;have d9:=I0 c0 c2;have U:=(Same.refl c7).upd (o:=.lst [V.int G,.int (-G)]) c2;have e3:upd c7 b1 (.lst [V.int G,.int (-G)]) b1=some (.lst [V.int G,.int (-G)]):=A0;have a1:=c0.same U;have b6:=U _ _ f1;have b4:=U _ _ i7;have b9:=g3.same U;have a3:=v.trans (U.off (l:=[a,b]));dsimp only;generalize upd c7 b1 (.lst [V.int G,.int (-G)])=k6 at U e3 a1 b6 b4 b9 a3;refine⟨_,rfl,a,b,_,2,rfl,a1,by omega,by decide,by decide,λj9 k7 f5 f6 c1 u=>?_⟩;obtain⟨g,i9,j0⟩:=two_at' G (-G) j9 f5 f6;refine⟨b1,_,_,_,rfl,rfl,SqL.of (u _ _ d9 e3),i9,?_⟩;have f2:=u _ _ R b6;have e5:=u _ _ y b4;have g4:=T4 b9 a1 u;have u:=a3.trans u;refine⟨_,rfl,_,rfl,_,rfl,a,b,_,_,rfl,c1,by omega,by omega,by omega,λi3 k8 k4 k5 g7 x=>?_⟩;obtain⟨t,rfl⟩:∃t:Nat,i3=t:=⟨i3.toNat,by omega⟩;have b7:=x _ _ R f2;have f0:=x _ _ y e5;have g5:=T4 g4 c1 x;have x:=u.trans x;refine⟨pw,_,_,t,rfl,rfl,b7,b7V (by rw[ai,cg S];omega),?_⟩;refine fin _ _ ⟨_,xs.set t g,rfl,by rw[List.length_set];exact cg S,λz hz=>?_,by rw[A0,List.map_set],(X6 g7 R).mono (by omega),S5 x h3,by rw[A1 j4];exact f0,Y8 g5 b7 (λ_ z=>by cases z)⟩;rcases a7g hz with q|q
    .exact a2 z q
    .rw[q];rcases j0 with rfl|rfl<;>omega
  .rintro σ H8 ⟨o5,o6,o7,us,I,rfl,hP8,off8,e8,hI8,b0,hR8⟩;refine⟨_,rfl,pr,_,rfl,.inl ⟨SqL.of e8,λq hq=>?_⟩⟩;have s9:=(Same.refl H8).upd (o:=.tup us) hq;exact k q us I _ A0 (hI8.same s9) (by omega) hR8 ((hP8.same s9).mono (by omega)) (off8.trans s9.off)
def a3n(cs:List (Option Int)):Prop:=∀c∈cs,∀z,c=some z->0<=z/\z<=5
inductive IspCaps(vs:List V)(H:Hp)(Q:VK)(E:XK):Prop
 |mk (a b:Addr) (n m:Nat) (mi:Int) (_:vs=[.ref a,.int mi]) (_:mi=m) (_:1<=m) (_:m<=8) (_:PotAt H a b n) (_:n+1000<2 ^ 60) (_:∀q cs H',H' q=some (.tup (cs.map cV))->cs.length=m->a3n cs->PotAt H' a b (n+25)->Off [a,b] H H'->Q (.ref q) H'):IspCaps  vs H Q E
def b0M:Sp:=λvs H Q E=>IspCaps  vs H Q E
theorem sc__law_caps:FnScope ["_law_pot_here","_law_width_here","_law_open_here","_law_caps_here","_law_j","_law_cap"] ["_law_pot_here","_law_width_here"] (A3 O1):=⟨rfl,rfl,rfl,by decide +kernel,rfl,by decide +kernel,by decide +kernel⟩
theorem b4g(F:FunAt K mg "_law_caps" O1 ["_law_pot_here","_law_width_here"])(T:Tx mg)(d:Ok P w K mg base "_law_take" 1 ["_law_pot_here","_law_many"] a2k):Ok P w K mg base "_law_caps" 2 ["_law_pot_here","_law_width_here"] b0M:=by
 refine F.okJ sc__law_caps (λvs H Q E h=>?_) (λa8 f A a7 s H vs Q E U h=>?_)
 .obtain⟨a,b,n,m,mi,rfl,_⟩:=h;rfl
 .obtain⟨a,b,n,m,_,rfl,rfl,hm1,hm8,hP,hn,k⟩:=h;have hz:(3000:Nat)<=sizeLine:=by rw[aV];decide
  refine⟨_,(A2 (B2 (i:=2) sc__law_caps.nd rfl (Or.inl rfl) (A7 d (U.mono (by omega)) rfl (jaC (jv 0) (jaC A4 jaN))))
 (A2 (B2 (i:=3) sc__law_caps.nd rfl (Or.inl rfl) (E1 jaN))
 (A2 (P6 (J7 rfl T.b_range (jaC (jv 1) jaN)) (A8 (i:=4) sc__law_caps.nd rfl (Or.inl rfl))
 (A2 (B2 (i:=5) sc__law_caps.nd rfl (Or.inl rfl) (A7 d (U.mono (by omega)) rfl (jaC (jv 0) (jaC (E9 K (E1 (jaC A4 (jaC A4 jaN))) (A7 d (U.mono (by omega)) rfl (jaC (jv 0) (jaC A4 jaN)))) jaN))))
 (A5 (D9 (b5l (A7 d (U.mono (by omega)) rfl (jaC (jv 0) (jaC A4 jaN))) (jv 2))
 (A5 (M1 (M5 K (jv 3) (jaC O6 jaN))))
 (A5 (M1 (M5 K (jv 3) (jaC (jv 5) jaN))))))))
 (A5 (A9 (D6 K rfl T.b_tuple (jaC (jv 3) jaN))))))),?_⟩
  refine⟨_,rfl,a,b,_,3,rfl,hP,by omega,by decide,by decide,λr1 H1 a9 b0 D x=>?_⟩;dsimp only[B0];refine⟨bo _,λr G=>?_⟩;have g:=I0 D G;have M:=a0y x D G;have s2:=(Same.refl H1).upd (o:=.lst []) G;have e2:upd H1 r (.lst []) r=some (.lst []):=A0;have J:=D.same s2;have y:=S5 (o:=.lst []) x M;generalize upd H1 r (.lst [])=H2 at s2 e2 J y;dsimp only[B0];refine⟨_,rfl,_,rfl,by omega,by omega,?_⟩;rw[bw];refine a1b (lo:=0) (n:=m) (λi σ H'=>Ex3 λR S u=>An6 (σ=[some (.ref a),some (.int m),some (.int r1),some (.ref r),R,S]) (PotAt H' a b (n+1+3*i)) (Off [a,b] H H') (H' r=some (.lst (u.map cV))) (u.length=i) (a3n u)) ⟨none,none,[],rfl,J,y,e2,rfl,λ_ z=>nomatch z⟩ ?_ ?_
  .rintro i σ H3 hi ⟨R,S,u,rfl,hP3,off3,e3,hcl,hok⟩;refine⟨_,rfl,by show 2<=sizeLine;omega,λW N=>?_⟩;have X:=(Same.refl H3).upd (o:=.lst [V.int 6,.int 2]) N;have e4:upd H3 W (.lst [V.int 6,.int 2]) W=some (.lst [V.int 6,.int 2]):=A0;have L:=hP3.same X;have O:=I0 hP3 N;have I:=X _ _ e3;have B:=off3.trans (X.off (l:=[a,b]));generalize upd H3 W (.lst [V.int 6,.int 2])=H4 at X e4 L I B;refine⟨_,rfl,a,b,_,2,rfl,L,by omega,by decide,by decide,λr5 H5 Z a0 a2 t=>?_⟩;obtain⟨z,a6,b4⟩:=two_at' 6 2 r5 Z a0;refine⟨W,_,_,_,rfl,rfl,SqL.of (t _ _ O e4),a6,?_⟩;refine⟨a,b,_,z,rfl,a2,by omega,by omega,by omega,λr6 H6 a1 b1 a3 j=>?_⟩;have Y:=j _ _ g (t _ _ g I);have j:=(B.trans t).trans j;dsimp only[B0];refine⟨_,rfl,a,b,_,3,rfl,a3,by omega,by decide,by decide,λr7 H7 b2 b3 a4 p=>?_⟩;have v:=p _ _ g Y;have p:=j.trans p;have put:∀c:Option Int,(∀z,c=some z->0<=z/\z<=5)->(λσ H'=>Ex3 λR S C=>An6 (σ=[some (V.ref a),some (.int m),some (.int r1),some (.ref r),R,S]) (PotAt H' a b (n+1+3*(i+1))) (Off [a,b] H H') (H' r=some (.lst (C.map cV))) (C.length=i+1) (a3n C)) [some (V.ref a),some (.int m),some (.int r1),some (.ref r),some (.int (0+(i:Int))),some (.int r6)] (upd H7 r (.lst (u.map cV++[cV c]))):=λc hc=>by
    refine⟨_,_,u++[c],rfl,(X6 a4 g).mono (by omega),S5 p M,by rw[A0,b_];rfl,by simp[hcl],λc' a5=>?_⟩;rcases aC.mp a5 with q|q
    .exact hok c' q
    .rw[aD.mp q];exact hc
   refine⟨_,rfl,_,_,rfl,rfl,_,rfl,a5a (λe=>?_) (λe=>?_)⟩
   .refine⟨_,rfl,.inl ⟨rfl,_,SqL.of v⟩,r,_,_,rfl,rfl,v,by rw[ai];omega,?_⟩;exact put none (λ_ z=>nomatch z)
   .refine⟨_,rfl,.inl ⟨rfl,_,SqL.of v⟩,_,rfl,r,_,_,rfl,rfl,v,by rw[ai];omega,?_⟩;exact put (some r6) (λz e=>by cases e;exact⟨a1,by omega⟩)
  .rintro σ H3 ⟨R,S,u,rfl,hP3,off3,e3,hcl,hok⟩;refine⟨_,rfl,r,_,rfl,.inl ⟨SqL.of e3,λq hq=>?_⟩⟩;have s9:=(Same.refl H3).upd (o:=.tup (u.map cV)) hq;exact k q u _ A0 hcl hok ((hP3.same s9).mono (by omega)) (off3.trans s9.off)
inductive IspFound(vs:List V)(H:Hp)(Q:VK)(E:XK):Prop
 |mk (ra ca:Addr) (rss:LLI) (cs:List (Option Int)) (most:Nat) (mi:Int) (_:vs=[.ref ra,.ref ca,.int mi]) (_:mi=most) (_:SyAt H ra ca rss cs) (_:(most+1)*cs.length+200<=100000) (_:(∀H',Same H H'->b7n rss cs most->Q .non H')) (_:∀q t pp zs tss ws F W k H',Same H H'->H' q=some (.tup [.ref t,.ref pp])->H' t=some (.tup zs)->Its H' zs tss->tss.Perm F->C9 tss->H' pp=some (.tup ws)->Its H' ws W->Wk rss cs F W [] k->W.length<=most->Q (.ref q) H'):IspFound  vs H Q E
def a8b:Sp:=λvs H Q E=>IspFound  vs H Q E
theorem sc__law_found:FnScope ["_law_rows_here","_law_caps_here","_law_most","_law_found_here"] ["_law_rows_here","_law_caps_here","_law_most"] (A3 L7):=⟨rfl,rfl,rfl,by decide +kernel,rfl,by decide +kernel,by decide +kernel⟩
theorem b1L{a:Addr}(r:FunAt K mg "_law_found" L7 ["_law_rows_here","_law_caps_here","_law_most"])(T:Tx mg)(d:OkE P w K mg base "least" 7 ["rows","caps","most"] (a7Z a))(b:mg "TooMany"=some (.ref a))(c:ClsX K a []):Ok P w K mg base "_law_found" 8 ["_law_rows_here","_law_caps_here","_law_most"] a8b:=by
 refine r.okJ sc__law_found (λI H Q E h=>?_) (λv f A n s H I Q E D h=>?_)
 .obtain⟨ra,ca,rss,cs,most,mi,rfl,_⟩:=h;rfl
 .obtain⟨ra,ca,rss,cs,most,_,rfl,rfl,Y,hbig,kn,kq⟩:=h;refine⟨_,(A2 (B2 (i:=3) sc__law_found.nd rfl (Or.inl rfl) O6)
 (A2 (b2a K (b6F (i:=3) d (D.mono (by omega)) rfl sc__law_found.nd rfl (Or.inl rfl) (jaC (jv 0) (jaC (jv 1) (jaC (jv 2) jaN)))) rfl b c (λ_=>(A5 (B2 (i:=3) sc__law_found.nd rfl (Or.inl rfl) O6))))
 (A5 (A9 (jv 3))))),?_⟩
  refine⟨_,rfl,_,rfl,_,rfl,ra,ca,rss,cs,most,_,rfl,rfl,Y,hbig,λq t G zs o J u W k H' s' C F x j m l g y e=>?_,λH' s' z=>⟨a,rfl,rfl,λp B=>?_⟩⟩
  .exact⟨_,rfl,kq q t G zs o J u W k H' s' C F x j m l g y e⟩
  .exact⟨_,rfl,kn _ (s'.upd B) z⟩
end
structure Pap(rss:LLI)(cs:List (Option Int))(F W L:LLI):Prop where
 wi:∀v∈W,Wi cs v=true
 fst:∀u∈N1 cs,u∈W
 an:∀v∈W,Ans rss v=true->v∈F
 nx:∀v∈W,v∉L->∀j∈StP rss cs v,bump v j∈W∨∃f∈F,Bel f (bump v j)=true
theorem Wk.pap{rss:LLI}{cs:List (Option Int)}{F W L:LLI}{k:Nat}(hR:∀r∈rss,r.length=cs.length)(h:Wk rss cs F W L k):Pap rss cs F W L:=by
 induction h with
 |@one L ri nd h=>exact⟨(Wk.one ri nd h).ok hR |>.wi,λu i=>(h u).mpr i,λv a e=>aX.mpr ⟨a,e⟩,λv a g=>absurd a g⟩
 |@more F W L L' k h ne ri nd n c =>
  have o:=(Wk.more h ne ri nd n).ok hR;refine⟨λv a=>?_,λu i=>aS _ (c.fst u i),λv a e=>?_,λv a g j m=>?_⟩
  .rcases aC.mp a with z|z
   .exact c.wi v z
   .exact o.wi v z
  .rcases aC.mp a with z|z
   .exact aS _ (c.an v z e)
   .exact aO _ (aX.mpr ⟨z,e⟩)
  .have hvW:v∈W:=(aC.mp a).resolve_right g;by_cases l:v∈L
   .cases e:Bar F (bump v j) j with
    |true =>
     unfold Bar at e;obtain⟨f,d,b⟩:=bE.mp e;rw[aL]at b;exact .inr ⟨f,aS _ d,b.2⟩
    |false=>exact .inl (aO _ ((n _).mpr ⟨v,l,j,m,rfl,e⟩))
   .rcases c.nx v hvW l j m with z|⟨f,d,hb⟩
    .exact .inl (aS _ z)
    .exact .inr ⟨f,aS _ d,hb⟩
noncomputable def Lst(rss:LLI)(v:List Int):Bool:=!(rss.any λu=>!decide (u=v) && Bel u v)
structure Srt(rss srt:LLI):Prop where
 ri:C9 srt
 nd:srt.Nodup
 mem:∀r,r∈srt↔r∈rss
theorem Srt.eq{rss a b:LLI}(h:Srt rss a)(g:Srt rss b):a=b:=a5J h.ri g.ri h.nd g.nd λv=>(h.mem v).trans (g.mem v).symm
theorem a9F{rss a:LLI}(h:∀r,r∈rss↔r∈a)(v:List Int):Lst rss v=Lst a v:=by
 unfold Lst;congr 1;rw[cv,bE,bE];exact⟨λ⟨u,b,e⟩=>⟨u,(h u).mp b,e⟩,λ⟨u,b,e⟩=>⟨u,(h u).mpr b,e⟩⟩
theorem a8L:∀{u v:List Int},u.length=v.length->Bel u v=true->u≠v->HT.lexLt v u=false
 |[],[],_,_,ne=>absurd rfl ne
 |[],_::_,h,_,_=>by cases h
 |_::_,[],h,_,_=>by cases h
 |x::u,y::v,h,a,ne=>by
  unfold Bel at a;rw[bj,cB,aL]at a;have h1:x<=y:=bJ a.1;by_cases e:x=y
  .subst e;have c:=a8L (u:=u) (v:=v) (by simpa using h) a.2 λz=>ne (by rw[z]);simp[HT.lexLt,c]
  .have:¬y<x:=by omega
   have b:¬y=x:=λz=>e z.symm;simp[HT.lexLt,this,b]
theorem a8g{α:Type}{m:List α->Prop}(l:List α)(nil:m [])(snoc:∀(l:List α) (v:α),m l->m (l++[v])):m l:=by
 have:∀r:List α,m r.reverse:=λr=>by
  induction r with
  |nil=>exact nil
  |cons x r a=>rw[List.reverse_cons];exact snoc _ x a
 have:=this l.reverse;rwa[List.reverse_reverse]at this
noncomputable def LO(l:LLI):LLI:=l.foldl (λacc v=>if acc.any (λu=>Bel u v)then acc else acc++[v]) []
theorem a5k(l:LLI)(v:List Int):LO (l++[v])=if (LO l).any (λu=>Bel u v)then LO l else LO l++[v]:=by
 unfold LO;rw[List.foldl_append];rfl
theorem b2K(v:List Int):Bel v v=true:=(G5 rfl).mpr (Under.refl v)
theorem b0l{a b c:List Int}(h1:a.length=b.length)(h2:b.length=c.length)(d:Bel a b=true)(e:Bel b c=true):Bel a c=true :=
 (G5 (h1.trans h2)).mpr (((G5 h1).mp d).trans ((G5 h2).mp e))
theorem a8N{n:Nat}:∀(l:LLI),(∀r∈l,r.length=n)->(∀x∈LO l,x∈l)/\∀u∈l,∃x∈LO l,Bel x u=true:=by
 intro l;induction l using a8g with
 |nil=>intro _;exact⟨λ_ z=>z,λ_ z=>nomatch z⟩
 |snoc l v h =>
  intro f;obtain⟨c,d⟩:=h λr g=>f r (aS _ g);rw[a5k];cases e:(LO l).any (λu=>Bel u v)with
  |true =>
   rw[ay rfl];refine⟨λx b=>aS _ (c x b),λu a=>?_⟩;rcases aC.mp a with z|z
   .exact d u z
   .rw[aD.mp z];exact bE.mp e
  |false =>
   rw[ao (by decide)];refine⟨λx b=>?_,λu a=>?_⟩
   .rcases aC.mp b with z|z
    .exact aS _ (c x z)
    .exact aO _ z
   .rcases aC.mp a with z|z
    .obtain⟨x,h1,h2⟩:=d u z;exact⟨x,aS _ h1,h2⟩
    .rw[aD.mp z];exact⟨v,aO _ ar,b2K v⟩
theorem b0m{n:Nat}(a:LLI)(f:∀r∈a,r.length=n)(m:C9 a)(nd:a.Nodup):∀(l rest:LLI),a=l++rest->LO l=l.filter (λv=>Lst a v):=by
 intro l;induction l using a8g with
 |nil=>intro _ _;rfl
 |snoc l v t =>
  intro rest e;have c:a=l++(v::rest):=by rw[e,aH];rfl
  have k:v∈a:=by rw[c];simp
  have b:∀r∈l,r.length=n:=λr o=>f r (by rw[c];exact aS _ o);obtain⟨i,s⟩:=a8N l b;rw[a5k,List.filter_append,<-t _ c];have key:(LO l).any (λu=>Bel u v)=!Lst a v:=by
   rw[cv];unfold Lst;rw[Bool.not_not,bE,bE];constructor
   .rintro⟨u,hu,hb⟩;refine⟨u,by rw[c];exact aS _ (i u hu),?_⟩;have g:u≠v:=λz=>by
     rw[c]at nd;exact(fF.mp nd).2.2 u (i u hu) v ar z
    rw[hb,bq g];rfl
   .rintro⟨u,hu,hb⟩;rw[aL,Bool.not_eq_true',decide_eq_false_iff_not]at hb;have d:u∈l:=by
     rw[c]at hu;rcases aC.mp hu with z|z
     .exact z
     .rcases aE.mp z with q|q
      .exact absurd q hb.1
      .exfalso;have h:HT.lexLt u v=false:=by
        rw[c]at m;have:=(bz.mp m).2.1;exact(cO.mp this).1 u q
       have h2:=a8L (by rw[f u (by rw[c];exact aO _ z),f v k]) hb.2 hb.1;exact hb.1 (M4 u v h h2)
    obtain⟨x,h1,h2⟩:=s u d;exact⟨x,h1,b0l (by rw[b x (i x h1),b u d]) (by rw[b u d,f v k]) h2 hb.2⟩
  rw[key];cases j:Lst a v with
  |true=>rw[ao (by decide),List.filter_cons_of_pos (p:=λv=>Lst a v) j];rfl
  |false=>rw[ay (by decide),List.filter_cons_of_neg (p:=λv=>Lst a v) (by rw[j];decide)];simp
section
variable {P:Program}{w:World}{K:PySem.W.Frag}{mg:Str->Option Value}{base:Heap}
inductive IspAboveL(vs:List V)(H:Hp)(Q:VK)(E:XK):Prop
 |mk (l:Addr) (y:V) (fs:List V) (fss:LLI) (ys:List Int) (_:vs=[.ref l,y]) (_:H l=some (.lst fs)) (_:Its H fs fss) (_:IT H y ys) (_:(∀f∈fss,f.length<=1000)) (_:∀H',Same H H'->Q (.bl (fss.any λf=>Bel f ys)) H'):IspAboveL  vs H Q E
def a5D:Sp:=λvs H Q E=>IspAboveL  vs H Q E
inductive IspAboveT(vs:List V)(H:Hp)(Q:VK)(E:XK):Prop
 |mk (l:Addr) (y:V) (fs:List V) (fss:LLI) (ys:List Int) (_:vs=[.ref l,y]) (_:H l=some (.tup fs)) (_:Its H fs fss) (_:IT H y ys) (_:(∀f∈fss,f.length<=1000)) (_:∀H',Same H H'->Q (.bl (fss.any λf=>Bel f ys)) H'):IspAboveT  vs H Q E
def a2n:Sp:=λvs H Q E=>IspAboveT  vs H Q E
theorem sc_above_any:FnScope ["some","one","other"] ["some","one"] (A3 K6):=⟨rfl,rfl,rfl,by decide +kernel,rfl,by decide +kernel,by decide +kernel⟩
theorem a3t(F:FunAt K mg "above_any" K6 ["some","one"])(T:Tx mg)(b:Ok P w K mg base "below" 1 ["one","other"] a1M):Ok P w K mg base "above_any" 2 ["some","one"] a5D:=by
 refine F.okJ sc_above_any (λp H Q E h=>?_) (λn f A j s H p Q E c h=>?_)
 .obtain⟨l,y,fs,fss,ys,rfl,_⟩:=h;rfl
 .obtain⟨l,y,fs,fss,ys,rfl,hl,hI,hy,hL,k⟩:=h;refine⟨_,(A2 (P6 (J1 K (jv 0)) (A8 (i:=2) sc_above_any.nd rfl (Or.inl rfl))
 (A5 (D9 (C1 K (A7 b (c.mono (by omega)) rfl (jaC (jv 2) (jaC (jv 1) jaN))))
 (A5 (A9 J2))
 C2)))
 (A5 (A9 J2))),?_⟩
  refine⟨_,rfl,l,rfl,⟨_,SqL.of hl⟩,?_⟩;refine R1 (K:=K) (a:=l) (xs:=fs) (λi σ H'=>Ex1 λo=>An3 (σ=[some (.ref l),some y,o]) (Same H H') (((fss.take i).any λf=>Bel f ys)=false)) ⟨none,rfl,Same.refl H,rfl⟩ (λi σ H' _ h=>by obtain⟨_,_,s',_⟩:=h;exact SqL.of (s' _ _ hl)) ?_ ?_
  .rintro i x σ H' hx ⟨o,rfl,s',hB⟩;obtain⟨r,c,d,g⟩:=hI.mem hx;have m:((fss.take (i+1)).any λf=>Bel f ys)=Bel r ys:=by
    rw[bf,d,List.any_append,hB];simp
   dsimp only[B0];refine⟨_,rfl,_,rfl,x,y,r,ys,rfl,g.same s',hy.same s',hL r c,λH2 s2=>⟨_,rfl,?_⟩⟩;cases e:Bel r ys with
   |false =>
    rw[e]at m;exact C6 ⟨_,rfl,s'.trans s2,m⟩
   |true =>
    refine E3 ?_;have:=k H2 (s'.trans s2);rw[show(fss.any λf=>Bel f ys)=true from bE.mpr ⟨r,c,e⟩]at this;exact this
  .rintro σ H' ⟨o,rfl,s',hB⟩;rw[hI.1,bg]at hB;have:=k H' s';rw[hB]at this;exact this
theorem a3s(F:FunAt K mg "above_any" K6 ["some","one"])(T:Tx mg)(b:Ok P w K mg base "below" 1 ["one","other"] a1M):Ok P w K mg base "above_any" 2 ["some","one"] a2n:=by
 refine F.okJ sc_above_any (λp H Q E h=>?_) (λn f A j s H p Q E c h=>?_)
 .obtain⟨l,y,fs,fss,ys,rfl,_⟩:=h;rfl
 .obtain⟨l,y,fs,fss,ys,rfl,hl,hI,hy,hL,k⟩:=h;refine⟨_,(A2 (P6 (J0 K (jv 0)) (A8 (i:=2) sc_above_any.nd rfl (Or.inl rfl))
 (A5 (D9 (C1 K (A7 b (c.mono (by omega)) rfl (jaC (jv 2) (jaC (jv 1) jaN))))
 (A5 (A9 J2))
 C2)))
 (A5 (A9 J2))),?_⟩
  refine⟨_,rfl,l,rfl,⟨_,SqT.of hl⟩,?_⟩;refine b4x (K:=K) (a:=l) (xs:=fs) (λi σ H'=>Ex1 λo=>An3 (σ=[some (.ref l),some y,o]) (Same H H') (((fss.take i).any λf=>Bel f ys)=false)) ⟨none,rfl,Same.refl H,rfl⟩ (λi σ H' _ h=>by obtain⟨_,_,s',_⟩:=h;exact SqT.of (s' _ _ hl)) ?_ ?_
  .rintro i x σ H' hx ⟨o,rfl,s',hB⟩;obtain⟨r,c,d,g⟩:=hI.mem hx;have m:((fss.take (i+1)).any λf=>Bel f ys)=Bel r ys:=by
    rw[bf,d,List.any_append,hB];simp
   dsimp only[B0];refine⟨_,rfl,_,rfl,x,y,r,ys,rfl,g.same s',hy.same s',hL r c,λH2 s2=>⟨_,rfl,?_⟩⟩;cases e:Bel r ys with
   |false =>
    rw[e]at m;exact C6 ⟨_,rfl,s'.trans s2,m⟩
   |true =>
    refine E3 ?_;have:=k H2 (s'.trans s2);rw[show(fss.any λf=>Bel f ys)=true from bE.mpr ⟨r,c,e⟩]at this;exact this
  .rintro σ H' ⟨o,rfl,s',hB⟩;rw[hI.1,bg]at hB;have:=k H' s';rw[hB]at this;exact this
inductive IspLeastOf(vs:List V)(H:Hp)(Q:VK)(E:XK):Prop
 |mk (p:Addr) (us:List V) (rss:LLI) (n:Nat) (_:vs=[.ref p]) (_:H p=some (.tup us)) (_:Its H us rss) (_:us.length<=1000) (_:1<=n) (_:n<=1000) (_:(∀r∈rss,r.length=n)) (_:∀q zs srt H',Same H H'->Srt rss srt->H' q=some (.tup zs)->Its H' zs (srt.filter λv=>Lst rss v)->Q (.ref q) H'):IspLeastOf  vs H Q E
def a3E:Sp:=λvs H Q E=>IspLeastOf  vs H Q E
theorem sc_least_of:FnScope ["some","found","one"] ["some"] (A3 R8):=⟨rfl,rfl,rfl,by decide +kernel,rfl,by decide +kernel,by decide +kernel⟩
theorem a5R(F:FunAt K mg "least_of" R8 ["some"])(T:Tx mg)(c:Ok P w K mg base "above_any" 2 ["some","one"] a5D):Ok P w K mg base "least_of" 3 ["some"] a3E:=by
 refine F.okJ sc_least_of (λvs H Q E h=>?_) (λa6 f A a5 s H vs Q E m h=>?_)
 .obtain⟨p,us,rss,n,rfl,_⟩:=h;rfl
 .obtain⟨p,us,rss,n,rfl,hp,hI,hl,hn1,hn2,hR,k⟩:=h;have hu:=m.u60;have hz:(3000:Nat)<=sizeLine:=by rw[aV];decide
  refine⟨_,(A2 (B2 (i:=1) sc_least_of.nd rfl (Or.inl rfl) (E1 jaN))
 (A2 (P6 (J1 K (b2f P w rfl T.b_sorted (jaC (b4p K P w hu rfl T.b_set (jaC (jv 0) jaN)) jaN))) (A8 (i:=2) sc_least_of.nd rfl (Or.inl rfl))
 (A5 (D9 (J6 (C1 K (A7 c (m.mono (by omega)) rfl (jaC (jv 1) (jaC (jv 2) jaN)))))
 (A5 (M1 (M5 K (jv 1) (jaC (jv 2) jaN))))
 C2)))
 (A5 (A9 (D6 K rfl T.b_tuple (jaC (jv 1) jaN)))))),?_⟩
  refine⟨bo _,λg M=>?_⟩;have s1:=(Same.refl H).upd (o:=.lst []) M;have V:upd H g (.lst []) g=some (.lst []):=A0;generalize upd H g (.lst [])=H1 at s1 V;dsimp only[B0];refine⟨_,rfl,true,p,us,rss,rfl,SqT.of (s1 _ _ hp),hI.same s1,hl,λa xs ha L j X=>?_⟩;have s2:=s1.upd (o:=a4x P w a xs) ha;have B:=(Same.refl H1).upd (o:=a4x P w a xs) ha;have U:upd H1 a (a4x P w a xs) a=some (a4x P w a xs):=A0;generalize upd H1 a (a4x P w a xs)=H2 at s2 B U;have a3:xs.length<=1000:=by
   have:=Tab.nodup_le (xs.map (·.1)) rss L λr m=>(j r).mp m;rw[ai,<-hI.1]at this;omega
  refine⟨a,xs,rfl,U,λx J=>(X x J).same B,λx J=>by rw[hR x.1 ((j x.1).mp (aW.mpr ⟨x,J,rfl⟩))];exact hn1,a3,λl zs b y d N a2=>?_⟩;have S:Srt rss b:=⟨a2,N.symm.nodup L,λr=>(N.mem_iff).trans (j r)⟩;have s3:=s2.upd (o:=.lst zs) y;have W:upd H2 l (.lst zs) l=some (.lst zs):=A0;have C:upd H2 l (.lst zs) g=some (.lst []):=D5 (B _ _ V) y;have d:=d.same ((Same.refl H2).upd (o:=.lst zs) y);have a4:l≠g:=(A6 (B _ _ V) y).symm;generalize upd H2 l (.lst zs)=H3 at s3 W C d;have I:∀r∈b,r.length=n:=λr m=>hR r ((S.mem r).mp m);have a8:zs.length<=1000:=by
   have:=Tab.nodup_le b rss S.nd λr m=>(S.mem r).mp m;rw[d.1];rw[<-hI.1]at this;omega
  have Z:H g=none:=M;refine⟨l,rfl,⟨_,SqL.of W⟩,?_⟩;refine R1 (K:=K) (a:=l) (xs:=zs) (λi σ H'=>Ex2 λo2 fs=>An5 (σ=[some (.ref p),some (.ref g),o2]) (Off [g] H3 H') (H' g=some (.lst fs)) (Its H' fs (LO (b.take i))) (fs.length<=i)) ⟨none,[],rfl,Off.refl _ _,C,.nil,aj _⟩ (λi σ H' _ h=>by obtain⟨_,_,_,o',_⟩:=h;exact SqL.of (o' _ _ (by simpa using a4) W)) ?_ ?_
  .rintro i x σ H' J ⟨o2,fs,rfl,off,D,hIf,hfl⟩;obtain⟨r,m,a0,a1⟩:=d.mem J;have a7:i<zs.length:=(aN.mp J).1;have O:IT H' x r:=by
    obtain⟨xa,rfl,R⟩:=a1;exact⟨xa,rfl,off _ _ (by simpa using G4 R C (by intro z;cases z)) R⟩
   have Y:∀f∈LO (b.take i),f.length<=1000:=λf D=>by
    have:=(a8N (n:=n) (b.take i) λr m=>I r (bZ m)).1 f D;rw[I f (bZ this)];exact hn2
   have t:LO (b.take (i+1))=if (LO (b.take i)).any (λu=>Bel u r)then LO (b.take i)else LO (b.take i)++[r]:=by
    rw[bf,a0];exact a5k _ _
   dsimp only[B0];refine⟨_,rfl,_,rfl,g,x,fs,_,r,rfl,D,hIf,O,Y,λH2 s2=>⟨_,rfl,?_⟩⟩;cases e:(LO (b.take i)).any (λu=>Bel u r)with
   |true =>
    rw[e,ay rfl]at t;refine C6 ⟨_,fs,rfl,off.trans s2.off,s2 _ _ D,?_,by omega⟩;rw[t];exact hIf.same s2
   |false =>
    rw[e,ao (by decide)]at t;have G:=s2 _ _ D;refine E3 ⟨_,rfl,.inl ⟨rfl,_,SqL.of G⟩,_,rfl,g,_,_,rfl,rfl,G,by omega,?_⟩;refine⟨_,fs++[x],rfl,(off.trans s2.off).set (by simp),A0,?_,by simp;omega⟩;rw[t];exact Its.put ((hIf.same s2).snoc (O.same s2)) G
  .rintro σ H' ⟨o2,fs,rfl,off,D,hIf,_⟩;rw[d.1,bg]at hIf;refine⟨_,rfl,g,fs,rfl,.inl ⟨SqL.of D,λq hq=>?_⟩⟩;have s4:=(Same.refl H').upd (o:=.tup fs) hq;refine k q fs b _ ((a2r s3 Z off).trans s4) S A0 ?_;have e:=b0m (n:=n) b I S.ri S.nd b [] (by simp);rw[e]at hIf;have U:(b.filter λv=>Lst b v)=b.filter λv=>Lst rss v:=by
    congr 1;funext v;exact a9F S.mem v
   rw[U]at hIf;exact hIf.same s4
end
end K18
namespace K18
open PySem PySem.Spec PyProof.Rows L2
section
variable {P:Program}{w:World}{K:PySem.W.Frag}{mg:Str->Option Value}{base:Heap}
def FoW(rss:LLI)(cs:List (Option Int))(most:Nat)(H:Hp)(fv:V):Prop:=fv=.non∨∃q t pp zs tss ws F W k,fv=.ref q/\H q=some (.tup [.ref t,.ref pp])/\H t=some (.tup zs)/\Its H zs tss/\tss.Perm F/\C9 tss/\H pp=some (.tup ws)/\Its H ws W/\Wk rss cs F W [] k/\W.length<=most
inductive IspSystem(vs:List V)(H:Hp)(Q:VK)(E:XK):Prop
 |mk (a b:Addr) (n:Nat) (most:Nat) (mi:Int) (_:vs=[.ref a,.int mi]) (_:mi=most) (_:most<=2000) (_:PotAt H a b n) (_:n+2000<2 ^ 60) (_:∀q ra ca fv rss cs H',H' q=some (.tup [.ref ra,.ref ca,fv])->SyAt H' ra ca rss cs->cs.length<=8->rss.length<=6->a3n cs->FoW rss cs most H' fv->PotAt H' a b (n+200)->Off [a,b] H H'->Q (.ref q) H'):IspSystem  vs H Q E
def a5x:Sp:=λvs H Q E=>IspSystem  vs H Q E
theorem sc__law_system:FnScope ["_law_pot_here","_law_most","_law_width_here","_law_rows_here","_law_caps_here"] ["_law_pot_here","_law_most"] (A3 K2):=⟨rfl,rfl,rfl,by decide +kernel,rfl,by decide +kernel,by decide +kernel⟩
theorem a9y(F':FunAt K mg "_law_system" K2 ["_law_pot_here","_law_most"])(T:Tx mg)(d:Ok P w K mg base "_law_width" 2 ["_law_pot_here"] a7Y)(g:Ok P w K mg base "_law_rows" 2 ["_law_pot_here","_law_width_here"] b0I)(e:Ok P w K mg base "_law_caps" 2 ["_law_pot_here","_law_width_here"] b0M)(c:Ok P w K mg base "_law_found" 8 ["_law_rows_here","_law_caps_here","_law_most"] a8b):Ok P w K mg base "_law_system" 9 ["_law_pot_here","_law_most"] a5x:=by
 refine F'.okJ sc__law_system (λvs H Q E h=>?_) (λa1 f A S s H vs Q E J h=>?_)
 .obtain⟨a,b,n,most,mi,rfl,_⟩:=h;rfl
 .obtain⟨a,b,n,most,_,rfl,rfl,hmost,hP,hn,k⟩:=h;have hz:(3000:Nat)<=sizeLine:=by rw[aV];decide
  refine⟨_,(A2 (B2 (i:=2) sc__law_system.nd rfl (Or.inl rfl) (A7 d (J.mono (by omega)) rfl (jaC (jv 0) jaN)))
 (A2 (B2 (i:=3) sc__law_system.nd rfl (Or.inl rfl) (A7 g (J.mono (by omega)) rfl (jaC (jv 0) (jaC (jv 2) jaN))))
 (A2 (B2 (i:=4) sc__law_system.nd rfl (Or.inl rfl) (A7 e (J.mono (by omega)) rfl (jaC (jv 0) (jaC (jv 2) jaN))))
 (A5 (A9 (D7 (jaC (jv 3) (jaC (jv 4) (jaC (A7 c (J.mono (by omega)) rfl (jaC (jv 3) (jaC (jv 4) (jaC (jv 1) jaN)))) jaN))))))))),?_⟩
  refine⟨_,rfl,a,b,_,rfl,hP,by omega,λm H2 D hm8 M G=>?_⟩;dsimp only[B0];refine⟨_,rfl,_,rfl,a,b,_,m,_,rfl,rfl,D,hm8,M,by omega,λq us j H3 hq hI R hR u I=>?_⟩;dsimp only[B0];refine⟨_,rfl,_,rfl,a,b,_,m,_,rfl,rfl,D,hm8,u,by omega,λy z Z O hcl C B p=>?_⟩;have r:=(G.trans I).trans p;have N:=p _ _ (b1s u hq) hq;have L:Its Z us j:=T4 hI u p;have Y4:SyAt Z q y j z:=⟨⟨us,N,L,by omega⟩,O,by omega,by omega,by rw[hcl];exact hR⟩;have F:j.length<=6:=by rw[<-hI.1];exact R
  have a0:(most+1)*z.length<=(most+1)*8:=Nat.mul_le_mul_left _ (by omega);dsimp only[B0];refine⟨_,rfl,_,rfl,_,rfl,_,rfl,_,rfl,q,y,j,z,most,_,rfl,rfl,Y4,by omega,λH5 X _=>?_,λU t pp zs Y ws Fl W kk H5 X h1 h2 h3 h4 h5 h6 h7 h8 h9=>?_⟩
  .refine⟨by show 3<=sizeLine;omega,λV v=>?_⟩;have x:=X.upd (o:=.tup [.ref q,.ref y,.non]) v;exact k V q y .non j z _ A0 (Y4.same x) (by omega) F C (.inl rfl) ((B.same x).mono (by omega)) (r.trans x.off)
  .refine⟨by show 3<=sizeLine;omega,λV v=>?_⟩;have l:=(Same.refl H5).upd (o:=.tup [.ref q,.ref y,.ref U]) v;have x:=X.trans l;exact k V q y (.ref U) j z _ A0 (Y4.same x) (by omega) F C (.inr ⟨U,t,pp,zs,Y,ws,Fl,W,kk,rfl,l _ _ h1,l _ _ h2,h3.same l,h4,h5,l _ _ h6,h7.same l,h8,h9⟩) ((B.same x).mono (by omega)) (r.trans x.off)
end
noncomputable def a1Z(n:Nat)(v:List Int):Bool:=decide (v.length=n) && v.all λx=>decide (0<=x)
noncomputable def a1F(cs:List (Option Int))(v:List Int):Bool:=(v.any λx=>!decide (x=0)) && Wi cs v
noncomputable def V7(tss mss:LLI)(v:List Int):Bool:=decide (v∈mss) || tss.any λt=>Bel t v
noncomputable def goI(rss:LLI)(cs:List (Option Int))(tss mss:LLI)(v:List Int):Bool:=(tss.any λt=>Bel t v) || (!Ans rss v && (StP rss cs v).all λj=>V7 tss mss (bump v j))
structure Anti(rss tss:LLI):Prop where
 ri:C9 tss
 nd:tss.Nodup
 lst:∀v∈tss,Lst tss v=true
 ans:∀v∈tss,Ans rss v=true
theorem a3m{α:Type}(l:List α)(f:α->Bool):(l.map λx=>V.bl (f x)).all trV=l.all f:=by rw[fh];rfl
theorem a0F{α:Type}(l:List α)(f:α->Bool):(l.map λx=>V.bl (f x)).all a6p=true:=by
 rw[aR];intro v a;obtain⟨_,_,rfl⟩:=aW.mp a;rfl
theorem a9P(l:List Int):(l.map V.int).all a6p=true:=by
 rw[aR];intro v a;obtain⟨_,_,rfl⟩:=aW.mp a;rfl
theorem b7h(l:List Int):(l.map V.int).any trV=l.any λx=>!decide (x=0):=by
 rw[List.any_map];rfl
section
variable {P:Program}{w:World}{K:PySem.W.Frag}{mg:Str->Option Value}{base:Heap}
theorem a4A:FnScope ["value"] ["value"] (A3 N5):=⟨rfl,rfl,rfl,by decide +kernel,rfl,by decide +kernel,by decide +kernel⟩
theorem a4z:FnScope ["value","width"] ["value","width"] (A3 N4):=⟨rfl,rfl,rfl,by decide +kernel,rfl,by decide +kernel,by decide +kernel⟩
theorem a2p:FnScope ["value","width"] ["value","width"] (A3 K1):=⟨rfl,rfl,rfl,by decide +kernel,rfl,by decide +kernel,by decide +kernel⟩
inductive IspAllFit(vs:List V)(H:Hp)(Q:VK)(E:XK):Prop
 |mk (c a:Addr) (us:List V) (rss:LLI) (cs:List (Option Int)) (_:vs=[.ref c,.ref a]) (_:H c=some (.tup (cs.map cV))) (_:cs.length<=1000) (_:H a=some (.tup us)) (_:Its H us rss) (_:us.length<=200000) (_:∀H',Same H H'->Q (.bl (rss.all (a1F cs))) H'):IspAllFit  vs H Q E
def a5C:Sp:=λvs H Q E=>IspAllFit  vs H Q E
theorem a6T:FnScope ["caps","some"] ["caps","some"] (A3 X5):=⟨rfl,rfl,rfl,by decide +kernel,rfl,by decide +kernel,by decide +kernel⟩
theorem a7f(F:FunAt K mg "all_fit" X5 ["caps","some"])(T:Tx mg)(b:Ok P w K mg base "within" 1 ["caps","one"] a2j):Ok P w K mg base "all_fit" 2 ["caps","some"] a5C:=by
 refine F.okJ a6T (λn H Q E h=>?_) (λj f A d s H n Q E g h=>?_)
 .obtain⟨c,a,us,rss,cs,rfl,_⟩:=h;rfl
 .obtain⟨c,a,us,rss,cs,rfl,hc,hcl,ha,hI,hl,k⟩:=h;have t:(300000:Nat)<=sizeLine:=by rw[aV];decide
  refine⟨_,(A5 (A9 (K8 K rfl T.b_all (jaC (B8 (N:=["one","caps"]) (src:=[none,some 0]) (J0 K (jv 1)) (by show B6 _ _=true;rfl) (by rfl) (by rfl)
 (λ_ _ _ _ _=>(A8 (i:=0) (show(["one","caps"]:List Str).Nodup by decide +kernel) rfl (Or.inl rfl))) (λ_ _ _ _ _=>C0) (λ_ _ _ _ _=>(a1w (b6K K rfl T.b_any (jaC (jv 0) jaN)) (a1v (A7 b (g.mono (by omega)) rfl (jaC (jv 1) (jaC (jv 0) jaN))))))) jaN)))),?_⟩
  refine⟨_,rfl,a,rfl,⟨_,SqT.of ha⟩,?_⟩;refine a2c (caps:=[some (.ref c)]) (λr=>V.bl (a1F cs r)) (by omega) (λH' s=>SqT.of (s _ _ ha)) hI rfl (λv r H1 o g m s1 q=>?_) λH1 p s1 l=>?_
  .obtain⟨va,rfl,hva⟩:=id m;refine⟨_,rfl,true,va,_,rfl,SqT.of hva,a9P _,_,rfl,?_⟩;rw[b7h];unfold a1F at q;cases e:r.any λx=>!decide (x=0)with
   |false =>
    rw[e,dN]at q;exact C6 (q _ (Same.refl _))
   |true =>
    rw[e,Bool.true_and]at q;exact E3 ⟨_,rfl,_,rfl,c,va,cs,r,rfl,s1 _ _ hc,hva,hcl,q⟩
  .refine⟨false,p,_,rfl,SqL.of A0,a0F _ _,?_⟩;rw[a3m];exact k _ (s1.upd l)
end
theorem b3E{K:PySem.W.Frag}{src:List (Option Nat)}{σ caps:L2.St}{Q:VK}{a:Addr}{ps:List V}{f:Nat->List Int}{d:List Nat}{H:Hp}{te:TE}(g:Nat->Bool)(t:ps.length<=1000)(o:H a=some (.lst ps))(n:Prs H ps f d)(c:B1 src σ=none::none::caps)
  (l:∀(j:Nat) v H1 Q1,j∈d->IT H1 v (f j)->Same H H1->(∀H2,Same H1 H2->Q1 (.bl (g j)) H2)->te (some (.int j)::some v::caps) H1 Q1)
  (hd:∀H1 p,Same H H1->H1 p=none->Q (.ref p) (upd H1 p (.lst (d.map λj=>V.bl (g j))))) :
  E6 src (a6n K 2 (U7 (B0 0) (U7 (B0 1) a7u))) J3 te σ Q (Itl K a) H:=by
 have w:(3000:Nat)<=sizeLine:=by rw[aV];decide
 refine Z3 (xs:=ps) (by omega) (λi ys H'=>Same H H'/\ys=(d.take i).map λj=>V.bl (g j)) ⟨Same.refl H,by simp⟩ (λi ys H' _ h=>⟨SqL.of (h.1 _ _ o),by rw[h.2,ai];exact bD _ _⟩) ?_ ?_
 .rintro i x ys H' hx ⟨s,rfl⟩;obtain⟨j,b,v,m,rfl,q,r⟩:=n.2 i x hx;refine⟨b,[.int j,v],rfl,SqT.of (s _ _ q),rfl,.int j,[v],rfl,v,[],rfl,rfl,?_⟩;rw[c];show Sub _ (some (.int j)::some v::caps)/\_;refine⟨⟨rfl,λk u e=>?_⟩,?_⟩
  .match k,e with
   |0,e=>cases e
   |1,e=>cases e
   |k+2,e=>exact e
  .refine l j v H' _ (aF m) (r.same s) s λH2 s2=>⟨s.trans s2,?_⟩;rw[bf,m,b_];rfl
 .rintro ys H' ⟨s,rfl⟩ p hp;rw[n.1,bg];exact hd H' p s hp
theorem b3s{H H':Hp}{d:Addr}{o:HO}(h:Rd H d o)(s:Same H H'):Rd H' d o:=by
 rcases h with h|⟨a,h⟩
 .exact .inl (s _ _ h)
 .exact .inr ⟨a,s _ _ h⟩
theorem DGet.rd{H:Hp}{a b:Addr}{kvs:List (List Key×V)}{k:List Key}(e:Rd H a (.dT kvs))(c:H b=some (.tup (k.map kV))):DGet H a (.ref b) (Q6 kvs k):=.inr ⟨kvs,k,b,e,rfl,c,rfl⟩
section
variable {P:Program}{w:World}{K:PySem.W.Frag}{mg:Str->Option Value}{base:Heap}
inductive IspAreLeast(vs:List V)(H:Hp)(Q:VK)(E:XK):Prop
 |mk (ra t:Addr) (us zs:List V) (rss tss:LLI) (n:Nat) (_:vs=[.ref ra,.ref t]) (_:H ra=some (.tup us)) (_:Its H us rss) (_:us.length<=1000) (_:(∀r∈rss,r.length<=1000)) (_:H t=some (.tup zs)) (_:Its H zs tss) (_:zs.length<=1000) (_:1<=n) (_:n<=1000) (_:(∀v∈tss,v.length=n/\Sm v)) (_:∀b H',Same H H'->(b=true↔Anti rss tss)->Q (.bl b) H'):IspAreLeast  vs H Q E
def a2m:Sp:=λvs H Q E=>IspAreLeast  vs H Q E
theorem a4C:FnScope ["rows","told"] ["rows","told"] (A3 N8):=⟨rfl,rfl,rfl,by decide +kernel,rfl,by decide +kernel,by decide +kernel⟩
theorem a4M(F:FunAt K mg "are_least" N8 ["rows","told"])(T:Tx mg)(b:Ok P w K mg base "least_of" 3 ["some"] a3E)(a:Ok P w K mg base "is_answer" 3 ["rows","one"] a1L):Ok P w K mg base "are_least" 4 ["rows","told"] a2m:=by
 refine F.okJ a4C (λD H Q E h=>?_) (λo f A m s H D Q E d h=>?_)
 .obtain⟨ra,t,us,zs,rss,tss,n,rfl,_⟩:=h;rfl
 .obtain⟨ra,t,us,zs,rss,tss,n,rfl,hra,hI,hul,hRl,ht,hJ,hzl,n1,n2,hT,k⟩:=h;have I:(3000:Nat)<=sizeLine:=by rw[aV];decide
  have B:=d.u60;refine⟨_,(A5 (A9 (a1w (b6H K B (A7 b (d.mono (by omega)) rfl (jaC (jv 1) jaN)) (jv 1)) (a1v (K8 K rfl T.b_all (jaC (B8 (N:=["one","rows"]) (src:=[none,some 0]) (J0 K (jv 1)) (by show B6 _ _=true;rfl) (by rfl) (by rfl)
 (λ_ _ _ _ _=>(A8 (i:=0) (show(["one","rows"]:List Str).Nodup by decide +kernel) rfl (Or.inl rfl))) (λ_ _ _ _ _=>C0) (λ_ _ _ _ _=>(A7 a (d.mono (by omega)) rfl (jaC (jv 1) (jaC (jv 0) jaN))))) jaN)))))),?_⟩
  refine⟨_,rfl,t,zs,tss,n,rfl,ht,hJ,hzl,n1,n2,λr d=>(hT r d).1,λq J g H1 s1 S y j=>?_⟩;have u:C9 tss->tss.Nodup->g=tss:=λh1 h2=>S.eq ⟨h1,h2,λ_=>Iff.rfl⟩;refine⟨_,rfl,2,_,by decide,EqV.its (k:=true) (SqT.of y) (SqT.of (s1 _ _ ht)) j (hJ.same s1),⟨_,_,rfl,rfl⟩,_,rfl,?_⟩;by_cases e:(g.filter λv=>Lst tss v)=tss
  .rw[bu e];refine E3 ⟨_,rfl,t,rfl,⟨_,SqT.of (s1 _ _ ht)⟩,?_⟩;refine a2c (caps:=[some (.ref ra)]) (λr=>V.bl (Ans rss r)) (by omega) (λH' s=>SqT.of (s _ _ (s1 _ _ ht))) (hJ.same s1) rfl (λv r H2 G l c s2 C=>?_) λH2 p s2 x=>?_
   .have s12:=s1.trans s2;exact⟨_,rfl,_,rfl,ra,v,us,rss,r,rfl,s12 _ _ hra,hI.same s12,c,hul,hRl,(hT r l).2,C⟩
   .refine⟨false,p,_,rfl,SqL.of A0,a0F _ _,?_⟩;rw[a3m];refine k _ _ (s1.trans (s2.upd x)) ?_;rw[aR];refine⟨λh=>⟨?_,?_,λv c=>?_,h⟩,λh=>h.ans⟩
    .rw[<-e];exact List.Pairwise.filter _ S.ri
    .rw[<-e];exact S.nd.filter _
    .rw[<-e]at c;exact(aX.mp c).2
  .rw[bq e];refine C6 (k _ _ s1 ⟨(λz=>nomatch z),λh=>absurd ?_ e⟩);rw[u h.ri h.nd];exact List.filter_eq_self.mpr λv c=>h.lst v c
inductive IspMet(vs:List V)(H:Hp)(Q:VK)(E:XK):Prop
 |mk (t d:Addr) (y:V) (zs:List V) (tss:LLI) (kvs:List (List Key×V)) (mss:LLI) (ys:List Int) (_:vs=[.ref t,.ref d,y]) (_:H t=some (.tup zs)) (_:Its H zs tss) (_:Rd H d (.dT kvs)) (_:kvs.map (·.1)=IK mss) (_:IT H y ys) (_:(∀f∈tss,f.length<=1000)) (_:∀H',Same H H'->Q (.bl (V7 tss mss ys)) H'):IspMet  vs H Q E
def b0K:Sp:=λvs H Q E=>IspMet  vs H Q E
theorem a9i:FnScope ["told","listed","one"] ["told","listed","one"] (A3 a0u):=⟨rfl,rfl,rfl,by decide +kernel,rfl,by decide +kernel,by decide +kernel⟩
theorem a9B(F:FunAt K mg "is_met" a0u ["told","listed","one"])(T:Tx mg)(a:Ok P w K mg base "above_any" 2 ["some","one"] a2n):Ok P w K mg base "is_met" 3 ["told","listed","one"] b0K:=by
 refine F.okJ a9i (λj H Q E h=>?_) (λg f A c s H j Q E e h=>?_)
 .obtain⟨t,d,y,zs,tss,kvs,mss,ys,rfl,_⟩:=h;rfl
 .obtain⟨t,d,_,zs,tss,kvs,mss,ys,rfl,ht,hI,hd,hk,⟨y,rfl,hy⟩,hL,k⟩:=h;have i:=e.u60;refine⟨_,(A5 (A9 (b7S (b6I i (jv 2) (jv 1) (by with_unfolding_all rfl)) (a1v (A7 a (e.mono (by omega)) rfl (jaC (jv 0) (jaC (jv 2) jaN))))))),?_⟩;refine⟨_,rfl,_,rfl,d,_,rfl,DGet.rd hd (by rw[a7k];exact hy),_,rfl,?_⟩;rw[a6g hk];unfold V7 at k;by_cases b:ys∈mss
  .rw[bu b]at k⊢;exact E3 (k _ (Same.refl _))
  .rw[bq b,eO]at k;rw[bq b];exact C6 ⟨_,rfl,_,rfl,t,_,zs,tss,ys,rfl,ht,hI,⟨y,rfl,hy⟩,hL,k⟩
structure Ps(H:Hp)(ra c t d:Addr)(us zs:List V)(kvs:List (List Key×V))(rss tss mss:LLI)(cs:List (Option Int)):Prop where
 r:H ra=some (.tup us)
 I:Its H us rss
 c:H c=some (.tup (cs.map cV))
 t:H t=some (.tup zs)
 J:Its H zs tss
 d:Rd H d (.dT kvs)
theorem Ps.same{H H':Hp}{ra c t d:Addr}{us zs:List V}{kvs:List (List Key×V)}{rss tss a:LLI}{cs:List (Option Int)}(h:Ps H ra c t d us zs kvs rss tss a cs)(s:Same H H'):Ps H' ra c t d us zs kvs rss tss a cs:=⟨s _ _ h.r,h.I.same s,s _ _ h.c,s _ _ h.t,h.J.same s,b3s h.d s⟩
structure Pk(us:List V)(kvs:List (List Key×V))(rss tss mss:LLI)(cs:List (Option Int)):Prop where
 ul:us.length<=1000
 R:Rs cs.length rss
 n1:1<=cs.length
 n2:cs.length<=100
 k:kvs.map (·.1)=IK mss
 T:∀v∈tss,v.length=cs.length
 M:∀v∈mss,v.length=cs.length/\Sm v
inductive IspGoes(vs:List V)(H:Hp)(Q:VK)(E:XK):Prop
 |mk (ra c t d:Addr) (y:V) (us zs:List V) (kvs:List (List Key×V)) (rss tss mss:LLI) (cs:List (Option Int)) (ys:List Int) (_:vs=[.ref ra,.ref c,.ref t,.ref d,y]) (_:Ps H ra c t d us zs kvs rss tss mss cs) (_:Pk us kvs rss tss mss cs) (_:IT H y ys) (_:ys∈mss) (_:∀H',Same H H'->Q (.bl (goI rss cs tss mss ys)) H'):IspGoes  vs H Q E
def b0L:Sp:=λvs H Q E=>IspGoes  vs H Q E
theorem a6S:FnScope ["rows","caps","told","listed","one"] ["rows","caps","told","listed","one"] (A3 X4):=⟨rfl,rfl,rfl,by decide +kernel,rfl,by decide +kernel,by decide +kernel⟩
theorem a7e(F:FunAt K mg "goes_on" X4 ["rows","caps","told","listed","one"])(T:Tx mg)(a:Ok P w K mg base "above_any" 2 ["some","one"] a2n)(b:Ok P w K mg base "is_answer" 3 ["rows","one"] a1L)(l:Ok P w K mg base "steps" 4 ["rows","caps","one"] a4r)(g:Ok P w K mg base "is_met" 3 ["told","listed","one"] b0K):Ok P w K mg base "goes_on" 5 ["rows","caps","told","listed","one"] b0L:=by
 refine F.okJ a6S (λvs H Q E h=>?_) (λU f A D s H vs Q E x h=>?_)
 .obtain⟨ra,c,t,d,y,us,zs,kvs,rss,tss,mss,cs,ys,rfl,_⟩:=h;rfl
 .obtain⟨ra,c,t,d,y,us,zs,kvs,rss,tss,mss,cs,ys,rfl,S,W,hy,hm,k⟩:=h;have n:∀f∈tss,f.length<=1000:=λf V=>by rw[W.T f V];have:=W.n2;omega
  obtain⟨o,u⟩:=W.M ys hm;have X:=W.n2;refine⟨_,(A2 (D9 (C1 K (A7 a (x.mono (by omega)) rfl (jaC (jv 2) (jaC (jv 4) jaN))))
 (A5 (A9 J2))
 C2)
 (A2 (D9 (C1 K (A7 b (x.mono (by omega)) rfl (jaC (jv 0) (jaC (jv 4) jaN))))
 (A5 (A9 J2))
 C2)
 (A5 (A9 (K8 K rfl T.b_all (jaC (B8 (N:=["j","more","told","listed"]) (src:=[none,none,some 2,some 3]) (J1 K (A7 l (x.mono (by omega)) rfl (jaC (jv 0) (jaC (jv 1) (jaC (jv 4) jaN))))) (by show B6 _ _=true;rfl) (by rfl) (by rfl)
 (λ_ _ _ _ _=>(T3 K 2 (B4 (A8 (i:=0) (show(["j","more","told","listed"]:List Str).Nodup by decide +kernel) rfl (Or.inl rfl)) (B4 (A8 (i:=1) (show(["j","more","told","listed"]:List Str).Nodup by decide +kernel) rfl (Or.inl rfl)) M2)))) (λ_ _ _ _ _=>C0) (λ_ _ _ _ _=>(A7 g (x.mono (by omega)) rfl (jaC (jv 2) (jaC (jv 3) (jaC (jv 1) jaN)))))) jaN)))))),?_⟩
  refine⟨_,rfl,_,rfl,t,y,zs,tss,ys,rfl,S.t,S.J,hy,n,λH1 s1=>⟨_,rfl,?_⟩⟩;unfold goI at k;cases e:tss.any λt=>Bel t ys with
  |true =>
   rw[e,Bool.true_or]at k;exact E3 (k _ s1)
  |false =>
   rw[e,eO]at k;have I:=S.same s1;refine C6 ⟨_,rfl,_,rfl,ra,y,us,rss,ys,rfl,I.r,I.I,hy.same s1,W.ul,λr C=>by rw[(W.R r C).1];omega,u,λH2 s2=>⟨_,rfl,?_⟩⟩;have m:=s1.trans s2;cases J:Ans rss ys with
   |true =>
    rw[J]at k;exact E3 (k _ m)
   |false =>
    rw[J,Bool.not_false,Bool.true_and]at k;have z:=S.same m;refine C6 ⟨_,rfl,_,rfl,_,rfl,ra,c,y,us,rss,cs,ys,rfl,z.r,z.I,z.c,hy.same m,W.ul,by omega,o.symm,by rw[o];exact W.R,u,λp ps H3 O M L=>?_⟩;refine⟨p,rfl,⟨_,SqL.of M⟩,?_⟩;have Y:(StP rss cs ys).length<=ys.length:=bb (bB _ _) (bb (bB _ _) (by simp));refine b3E (caps:=[some (.ref t),some (.ref d)]) (λj=>V7 tss mss (bump ys j)) (by rw[L.1];omega) M L rfl (λj v R Q4 hj Z G q=>?_) λR p4 G B=>?_
    .have S4:=S.same (m.trans (O.trans G));exact⟨_,rfl,_,rfl,_,rfl,t,d,v,zs,tss,kvs,mss,bump ys j,rfl,S4.t,S4.J,S4.d,W.k,Z,n,q⟩
    .refine⟨false,p4,_,rfl,SqL.of A0,a0F _ _,?_⟩;rw[a3m];exact k _ (m.trans (O.trans (G.upd B)))
structure Shw(rss:LLI)(cs:List (Option Int))(tss pss:LLI):Prop where
 tv:tss.all (a1Z cs.length)=true
 pv:pss.all (a1Z cs.length)=true
 fit:(tss++pss).all (a1F cs)=true
 an:Anti rss tss
 fst:(N1 cs).all (V7 tss pss)=true
 go:pss.all (goI rss cs tss pss)=true
theorem a3N{tss a b:LLI}(h:∀r,r∈a↔r∈b):V7 tss a=V7 tss b:=by
 funext v;unfold V7;congr 1;rw[cv,bC,bC];exact h v
theorem b2o{rss tss a b:LLI}{cs:List (Option Int)}(h:∀r,r∈a↔r∈b):goI rss cs tss a=goI rss cs tss b:=by
 funext v;unfold goI;rw[a3N h]
theorem a7O{n:Nat}{l:LLI}(h:l.all (a1Z n)=true):∀v∈l,v.length=n:=λv a=>by
 have:=aR.mp h v a;unfold a1Z at this;rw[aL]at this;exact bJ this.1
theorem sc_shows:FnScope ["rows","caps","told","paper","listed"] ["rows","caps","told","paper"] (A3 a1P):=⟨rfl,rfl,rfl,by decide +kernel,rfl,by decide +kernel,by decide +kernel⟩
end
theorem a8E{cs:List (Option Int)}{v:List Int}(a:∀x∈v,0<=x):a1F cs v=true↔0<v.sum/\Wi cs v=true:=by
 unfold a1F;rw[aL];refine and_congr_left λ_=>?_;rw[bE];constructor
 .rintro⟨x,hx,h⟩;have h1:¬x=0:=by simpa using h
  have h2:=a x hx;exact a7U v a x hx (by omega)
 .intro h;obtain⟨j,b,h1⟩:=a6Z a h;rw[az,ak b]at h1;have h1:1<=v[j]:=h1;exact⟨v[j],dm _,by simp;omega⟩
theorem vecI_iff{n:Nat}{v:List Int}:a1Z n v=true↔v.length=n/\∀x∈v,0<=x:=by
 unfold a1Z;rw[aL,bC,aR];exact and_congr_right λ_=>⟨λh x a=>bJ (h x a),λh x a=>bu (h x a)⟩
theorem b3j{rss:LLI}{cs:List (Option Int)}{F W tss c:LLI}{k:Nat}(hR:∀r∈rss,r.length=cs.length)(h:Wk rss cs F W [] k)(g:tss.Perm F)(o:C9 tss)(l:∀v∈c,v.length=cs.length/\(∀x∈v,0<=x)/\0<v.sum/\Wi cs v=true)(n:∀v∈c,v∈W∨(tss.any λt=>Bel t v)=true)(q:∀v∈W,v∈c∨(tss.any λt=>Bel t v)=true):Shw rss cs tss c:=by
 have d:∀v,v∈tss↔Least rss cs v:=λv=>g.mem_iff.trans (h.least hR v);have m:tss.Nodup:=g.symm.nodup h.nd.2;have pap:=h.pap hR;have met:∀v,v∈W->V7 tss c v=true:=λv b=>by
  unfold V7;rcases q v b with z|z
  .rw[bu z,Bool.true_or]
  .rw[z,Bool.or_true]
 refine⟨aR.mpr λv b=>?_,aR.mpr λv b=>?_,aR.mpr λv b=>?_,⟨o,m,λv b=>?_,λv b=>((d v).mp b).an.ans⟩,aR.mpr λv b=>met v (pap.fst v b),aR.mpr λv b=>?_⟩
 .exact vecI_iff.mpr ⟨((d v).mp b).an.len,((d v).mp b).an.nn⟩
 .exact vecI_iff.mpr ⟨(l v b).1,(l v b).2.1⟩
 .rcases aC.mp b with z|z
  .have:=(d v).mp z;exact(a8E this.an.nn).mpr ⟨this.an.pos,this.wi⟩
  .have:=l v z;exact(a8E this.2.1).mpr this.2.2
 .unfold Lst;rw[Bool.not_eq_true',ek];intro u C i;rw[aL]at i;have h1:=(d u).mp C;have h2:=(d v).mp b;have:=h2.min u h1.an ((G5 (by rw[h1.an.len,h2.an.len])).mp i.2);rw[this]at i;simp at i
 .obtain⟨h1,h2,h3,h4⟩:=l v b;unfold goI;cases s:tss.any λt=>Bel t v with
  |true=>rfl
  |false =>
   have p:v∈W:=(n v b).resolve_right (by rw[s];decide);rw[eO,aL,Bool.not_eq_true'];constructor
   .cases e:Ans rss v with
    |false=>rfl
    |true =>
     obtain⟨a,w,y⟩:=U0 v.sum.toNat (by omega) ⟨h1,h2,e,h3⟩ h4;have:=ek.mp s a ((d a).mpr w);rw[(G5 (by rw[w.an.len,h1])).mpr y]at this;exact absurd rfl this
   .rw[aR];intro j B;rcases pap.nx v p (by simp) j B with z|⟨f,A,i⟩
    .exact met _ z
    .unfold V7;rw[bE.mpr ⟨f,g.mem_iff.mpr A,i⟩,Bool.or_true]
end K18
namespace L2
open PySem PySem.Spec PyProof.Rows
section
variable {X:Cx}{a b:Expr}{ta tb:TE}{pos:Pos}
end
theorem Its.take{H:Hp}{vs:List V}{rss:LLI}(h:Its H vs rss)(n:Nat):Its H (vs.take n) (rss.take n):=by
 refine⟨by rw[aY,aY,h.1],λi v e=>?_⟩;rw[List.getElem?_take]at e;split at e
 .rename_i hi;obtain⟨r,a,b⟩:=h.2 i v e;exact⟨r,by rw[List.getElem?_take,ay hi];exact a,b⟩
 .cases e
theorem Its.drop{H:Hp}{vs:List V}{rss:LLI}(h:Its H vs rss)(n:Nat):Its H (vs.drop n) (rss.drop n):=by
 refine⟨by rw[bV,bV,h.1],λi v e=>?_⟩;rw[eZ]at e⊢;exact h.2 _ v e
theorem Its.app{H:Hp}{vs b:List V}{rss a:LLI}(h:Its H vs rss)(g:Its H b a):Its H (vs++b) (rss++a):=by
 refine⟨by rw[aq,aq,h.1,g.1],λi v e=>?_⟩;rcases Nat.lt_or_ge i vs.length with hi|hi
 .rw[br hi]at e;rw[br (by rw[<-h.1];exact hi)];exact h.2 i v e
 .rw[aZ hi]at e;rw[aZ (by rw[<-h.1];exact hi),<-h.1];exact g.2 _ v e
theorem Its.one{H:Hp}{v:V}{r:List Int}(h:IT H v r):Its H [v] [r]:=Its.nil.snoc h
theorem a3K:∀{a b:LLI},C9 a->C9 b->a.Nodup->b.Nodup->(∀v,v∈a↔v∈b)->a=b
 |[],[],_,_,_,_,_=>rfl
 |[],y::b,_,_,_,_,h=>by have:=(h y).mpr ar;cases this
 |x::a,[],_,_,_,_,h=>by have:=(h x).mp ar;cases this
 |x::a,y::b,ra,rb,na,nb,h=>by
  obtain⟨k,l⟩:=cO.mp ra;obtain⟨i,j⟩:=cO.mp rb;obtain⟨f,g⟩:=cw.mp na;obtain⟨c,d⟩:=cw.mp nb;have e:x=y:=by
   refine M4 x y ?_ ?_
   .rcases aE.mp ((h x).mp ar)with z|z
    .rw[z];exact J5 y
    .exact i x z
   .rcases aE.mp ((h y).mpr ar)with z|z
    .rw[z];exact J5 x
    .exact k y z
  subst e;rw[a3K l j g d λv=>?_];constructor
  .intro hv;rcases aE.mp ((h v).mp (av _ hv))with z|z
   .exact absurd (z ▸ hv) f
   .exact z
  .intro hv;rcases aE.mp ((h v).mpr (av _ hv))with z|z
   .exact absurd (z ▸ hv) c
   .exact z
structure Srt(rss srt:LLI):Prop where
 ri:C9 srt
 nd:srt.Nodup
 mem:∀r,r∈srt↔r∈rss
theorem Srt.eq{rss a b:LLI}(h:Srt rss a)(g:Srt rss b):a=b:=a3K h.ri g.ri h.nd g.nd λv=>(h.mem v).trans (g.mem v).symm
end L2
namespace K18
open PySem PySem.Spec PyProof.Rows L2
inductive Ki(H:Hp):V->Prop
 |non:Ki H .non
 |bl (b:Bool):Ki H (.bl b)
 |int (z:Int):Ki H (.int z)
 |str (x:Str):Ki H (.str x)
 |lst {a:Addr}{xs:List V}(e:H a=some (.lst xs)):Ki H (.ref a)
 |tup {a:Addr}{xs:List V}(e:H a=some (.tup xs)):Ki H (.ref a)
 |dT {a:Addr}{kvs:List (List Key×V)}(e:H a=some (.dT kvs)):Ki H (.ref a)
def Deep(H:Hp)(v:V):Prop:=Ki H v/\∀a ts,v=.ref a->H a=some (.tup ts)->ts.length<=1000/\∀t∈ts,Ki H t
structure Keep(H H':Hp):Prop where
 t:∀a xs,H a=some (.tup xs)->H' a=some (.tup xs)
 l:∀a xs,H a=some (.lst xs)->∃ys,H' a=some (.lst ys)
 d:∀a kvs,H a=some (.dT kvs)->H' a=some (.dT kvs)
theorem Keep.same{H H':Hp}(s:Same H H'):Keep H H':=⟨λa xs e=>s _ _ e,λa xs e=>⟨xs,s _ _ e⟩,λa xs e=>s _ _ e⟩
theorem Keep.trans{H H' b:Hp}(k:Keep H H')(c:Keep H' b):Keep H b:=⟨λa xs e=>c.t _ _ (k.t _ _ e),λa xs e=>let ⟨ys,e'⟩:=k.l _ _ e;c.l _ _ e',λa xs e=>c.d _ _ (k.d _ _ e)⟩
theorem Keep.put{H:Hp}{p:Addr}{xs ys:List V}(e:H p=some (.lst xs)):Keep H (upd H p (.lst ys)) :=
 ⟨λa zs q=>by rw[A1 (G4 q e (by intro z;cases z))];exact q,λa zs q=>by
  by_cases h:a=p
  .subst h;exact⟨ys,A0⟩
  .exact⟨zs,by rw[A1 h];exact q⟩,λa zs q=>by rw[A1 (G4 q e (by intro z;cases z))];exact q⟩
theorem Keep.pot{H H':Hp}{p q:Addr}{n m:Nat}(h:PotAt H p q n)(h':PotAt H' p q m)(o:Off [p,q] H H'):Keep H H':=by
 obtain⟨_,_,_,d,f,_⟩:=h.ex;obtain⟨_,_,_,f1,f2,_⟩:=h'.ex;have b:∀{a:Addr}{c:HO},H a=some c->(∀xs,c≠.lst xs)->a∉[p,q]:=λe k=>by
  simp only[aE,bF,cS,not_or];exact⟨λz=>by rw[z,d]at e;cases e;exact k _ rfl,λz=>by rw[z,f]at e;cases e;exact k _ rfl⟩
 refine⟨λa xs e=>o _ _ (b e (by intro _ z;cases z)) e,λa xs e=>?_,λa xs e=>o _ _ (b e (by intro _ z;cases z)) e⟩;by_cases h1:a=p
 .subst h1;exact⟨_,f1⟩
 by_cases h2:a=q
 .subst h2;exact⟨_,f2⟩
 exact⟨xs,o _ _ (by simp[h1,h2]) e⟩
theorem Ki.keep{H H':Hp}{v:V}(h:Ki H v)(k:Keep H H'):Ki H' v:=by
 cases h with
 |non=>exact .non
 |bl b=>exact .bl b
 |int z=>exact .int z
 |str x=>exact .str x
 |lst e=>obtain⟨ys,q⟩:=k.l _ _ e;exact .lst q
 |tup e=>exact .tup (k.t _ _ e)
 |dT e=>exact .dT (k.d _ _ e)
theorem Deep.keep{H H':Hp}{v:V}(h:Deep H v)(k:Keep H H'):Deep H' v:=by
 refine⟨h.1.keep k,λa d e q=>?_⟩;subst e;cases h.1 with
 |lst e=>obtain⟨ys,b⟩:=k.l _ _ e;rw[q]at b;cases b
 |tup e =>
  have:=k.t _ _ e;rw[q]at this;cases this;obtain⟨h1,h2⟩:=h.2 _ _ rfl e;exact⟨h1,λt c=>(h2 t c).keep k⟩
 |dT e=>have:=k.d _ _ e;rw[q]at this;cases this
theorem Ki.ty{K:PySem.W.Frag}{H:Hp}{v:V}(h:Ki H v):∃t c d f,TyOf K H v (.type t)/\PySem.W.kitOne K (.type t) (.type "int")=some c/\PySem.W.kitOne K (.type t) (.type "bool")=some d/\PySem.W.kitOne K (.type t) (.type "tuple")=some f /\
  (c=true->(∃z,v=.int z)∨∃b,v=.bl b)/\((∃z,v=.int z)->c=true/\d=false)/\((∃b,v=.bl b)->c=true/\d=true)/\(f=true↔∃a xs,v=.ref a/\H a=some (.tup xs)):=by
 cases h with
 |non=>exact⟨_,false,false,false,.non,by with_unfolding_all rfl,by with_unfolding_all rfl,by with_unfolding_all rfl,(λz=>nomatch z),(λ⟨_,z⟩=>nomatch z),(λ⟨_,z⟩=>nomatch z),⟨(λz=>nomatch z),λ⟨_,_,z,_⟩=>nomatch z⟩⟩
 |bl b=>exact⟨_,true,true,false,.bl b,by with_unfolding_all rfl,by with_unfolding_all rfl,by with_unfolding_all rfl,(λ_=>.inr ⟨b,rfl⟩),(λ⟨_,z⟩=>nomatch z),(λ_=>⟨rfl,rfl⟩),⟨(λz=>nomatch z),λ⟨_,_,z,_⟩=>nomatch z⟩⟩
 |int z=>exact⟨_,true,false,false,.int z,by with_unfolding_all rfl,by with_unfolding_all rfl,by with_unfolding_all rfl,(λ_=>.inl ⟨z,rfl⟩),(λ_=>⟨rfl,rfl⟩),(λ⟨_,z⟩=>nomatch z),⟨(λz=>nomatch z),λ⟨_,_,z,_⟩=>nomatch z⟩⟩
 |str x=>exact⟨_,false,false,false,.str x,by with_unfolding_all rfl,by with_unfolding_all rfl,by with_unfolding_all rfl,(λz=>nomatch z),(λ⟨_,z⟩=>nomatch z),(λ⟨_,z⟩=>nomatch z),⟨(λz=>nomatch z),λ⟨_,_,z,_⟩=>nomatch z⟩⟩
 |lst e=>exact⟨_,false,false,false,.lst e,by with_unfolding_all rfl,by with_unfolding_all rfl,by with_unfolding_all rfl,(λz=>nomatch z),(λ⟨_,z⟩=>nomatch z),(λ⟨_,z⟩=>nomatch z),⟨(λz=>nomatch z),λ⟨_,_,z,q⟩=>by cases z;rw[e]at q;cases q⟩⟩
 |tup e=>exact⟨_,false,false,true,.tup e,by with_unfolding_all rfl,by with_unfolding_all rfl,by with_unfolding_all rfl,(λz=>nomatch z),(λ⟨_,z⟩=>nomatch z),(λ⟨_,z⟩=>nomatch z),⟨(λ_=>⟨_,_,rfl,e⟩),λ_=>rfl⟩⟩
 |dT e=>exact⟨_,false,false,false,.dT e,by with_unfolding_all rfl,by with_unfolding_all rfl,by with_unfolding_all rfl,(λz=>nomatch z),(λ⟨_,z⟩=>nomatch z),(λ⟨_,z⟩=>nomatch z),⟨(λz=>nomatch z),λ⟨_,_,z,q⟩=>by cases z;rw[e]at q;cases q⟩⟩
def a0C:V->Bool
 |.int z=>decide (0<=z)
 |_=>false
def Tup(H:Hp):V->Option (List V)
 |.ref a=>match H a with|some (.tup ts)=>some ts|_=>none
 |_=>none
theorem J8{H:Hp}{a:Addr}{b:List V}(e:H a=some (.tup b)):Tup H (.ref a)=some b:=by
 show(match H a with|some (.tup b)=>some b|_=>none)=_;rw[e]
theorem P7{H:Hp}{v:V}(h:¬∃a xs,v=.ref a/\H a=some (.tup xs)):Tup H v=none:=by
 cases v with
 |ref a =>
  show(match H a with|some (.tup ts)=>some ts|_=>none)=_;split
  .rename_i ts e;exact absurd ⟨a,ts,rfl,e⟩ h
  .rfl
 |_=>rfl
def a0m(n:Nat):Option (List V)->Bool
 |none=>false
 |some ts=>decide (ts.length=n) && ts.all a0C
theorem Q0(n:Nat)(a:List V):a0m n (some a)=(decide (a.length=n) && a.all a0C):=rfl
section
variable {P:Program}{w:World}{K:PySem.W.Frag}{mg:Str->Option Value}{base:Heap}
inductive IspNum(vs:List V)(H:Hp)(Q:VK)(E:XK):Prop
 |mk (x:_) (_:vs=[x]) (_:Ki H x) (_:Q (.bl (a0C x)) H):IspNum  vs H Q E
def b4Z:Sp:=λvs H Q E=>IspNum  vs H Q E
theorem a4J(F:FunAt K mg "is_number" N5 ["value"])(T:Tx mg):Ok P w K mg base "is_number" 1 ["value"] b4Z:=by
 refine F.okJ a4A (λj H Q E h=>?_) (λg f A c s H j Q E n h=>?_)
 .obtain⟨x,rfl,_⟩:=h;rfl
 .obtain⟨x,rfl,hk,k⟩:=h;refine⟨_,(A5 (A9 (a1w (K5 K rfl T.b_isinstance (jaC (jv 0) (jaC (a4Y (v:=.ty "int") rfl T.b_int b2M rfl) jaN))) (a1w (b7T (K5 K rfl T.b_isinstance (jaC (jv 0) (jaC (a4Y (v:=.ty "bool") rfl T.b_bool b4L rfl) jaN)))) (a1v (b7P (jv 0) A4)))))),?_⟩;obtain⟨t,a,d,l,ty,k1,k2,k3,h1,h2,i,m⟩:=hk.ty (K:=K);refine⟨_,rfl,x,"int",_,a,rfl,ty,k1,a,rfl,?_⟩;cases a with
  |false =>
   refine C6 ?_;have e:a0C x=false:=by
    cases x with
    |int z=>have:=(h2 ⟨z,rfl⟩).1;cases this
    |_=>rfl
   rw[e]at k;exact k
  |true =>
   refine E3 ⟨_,rfl,x,"bool",_,d,rfl,ty,k2,d,rfl,_,rfl,?_⟩;rcases h1 rfl with⟨z,rfl⟩|⟨b,rfl⟩
   .rw[(h2 ⟨z,rfl⟩).2];exact E3 ⟨_,rfl,_,_,rfl,rfl,k⟩
   .rw[(i ⟨b,rfl⟩).2];exact C6 k
inductive IspVec(vs:List V)(H:Hp)(Q:VK)(E:XK):Prop
 |mk (v:V) (n:Nat) (_:vs=[v,.int n]) (_:Deep H v) (_:∀H',Same H H'->Q (.bl (a0m n (Tup H v))) H'):IspVec  vs H Q E
def b4W:Sp:=λvs H Q E=>IspVec  vs H Q E
theorem a4I(F:FunAt K mg "is_vector" N4 ["value","width"])(T:Tx mg)(b:Ok P w K mg base "is_number" 1 ["value"] b4Z):Ok P w K mg base "is_vector" 2 ["value","width"] b4W:=by
 refine F.okJ a4z (λD H Q E h=>?_) (λm f A j s H D Q E u h=>?_)
 .obtain⟨v,n,rfl,_⟩:=h;rfl
 .obtain⟨v,n,rfl,hd,k⟩:=h;have M:(3000:Nat)<=sizeLine:=by rw[aV];decide
  refine⟨_,(A5 (A9 (a1w (K5 K rfl T.b_isinstance (jaC (jv 0) (jaC (a4Y (v:=.ty "tuple") rfl T.b_tuple a3i rfl) jaN))) (a1w (a3R (G1 K rfl T.b_len (jaC (jv 0) jaN)) (jv 1)) (a1v (K8 K rfl T.b_all (jaC (B8 (N:=["part"]) (src:=[none]) (J0 K (jv 0)) (by show B6 _ _=true;rfl) (by rfl) (by rfl)
 (λ_ _ _ _ _=>(A8 (i:=0) (show(["part"]:List Str).Nodup by decide +kernel) rfl (Or.inl rfl))) (λ_ _ _ _ _=>C0) (λ_ _ _ _ _=>(A7 b (u.mono (by omega)) rfl (jaC (jv 0) jaN)))) jaN))))))),?_⟩
  obtain⟨t,I,J,g,ty,k1,k2,k3,h1,h2,L,l⟩:=hd.1.ty (K:=K);refine⟨_,rfl,v,"tuple",_,g,rfl,ty,k3,g,rfl,?_⟩;cases g with
  |false =>
   refine C6 ?_;have e:Tup H v=none:=P7 λz=>by have:=l.mpr z;cases this
   have:=k H (Same.refl H);rw[e]at this;exact this
  |true =>
   obtain⟨a,c,rfl,d⟩:=l.mp rfl;rw[J8 d]at k;obtain⟨q,hi⟩:=hd.2 a c rfl d;refine E3 ⟨_,rfl,a,_,rfl,.inr (SqT.of d),_,rfl,rfl,_,rfl,?_⟩;by_cases e:c.length=n
   .rw[show decide (V.int (c.length:Int)=V.int (n:Int))=true by rw[e];simp];refine E3 ⟨_,rfl,a,rfl,⟨_,SqT.of d⟩,?_⟩;refine a7Q (K:=K) (a:=a) (caps:=[]) (λx=>x) (xs:=c) (λx=>V.bl (a0C x)) q (λH' s=>by rw[List.map_id'];exact SqT.of (s _ _ d)) rfl (λx H1 G B s1 C=>?_) λH1 p s1 r=>?_
    .exact⟨_,rfl,x,rfl,(hi x B).keep (.same s1),C _ (Same.refl _)⟩
    .refine⟨false,p,_,rfl,SqL.of A0,?_,?_⟩
     .rw[aR];intro v y;obtain⟨_,_,rfl⟩:=aW.mp y;rfl
     .have e2:(c.map λx=>V.bl (a0C x)).all trV=c.all a0C:=by rw[fh];rfl
      rw[e2];have:=k _ (s1.upd (o:=.lst (c.map λx=>V.bl (a0C x))) r);rw[Q0]at this;rw[bu e,Bool.true_and]at this;exact this
   .rw[show decide (V.int (c.length:Int)=V.int (n:Int))=false by rw[decide_eq_false_iff_not];intro z;injection z with z;exact e (by omega)];refine C6 ?_;have:=k H (Same.refl H);rw[Q0]at this;rw[bq e,dN]at this;exact this
theorem a0K{H H':Hp}{v:V}(h:Ki H v)(k:Keep H H'):Tup H' v=Tup H v:=by
 cases h with
 |lst e=>obtain⟨ys,q⟩:=k.l _ _ e;rw[P7 (by rintro⟨a,xs,z,g⟩;cases z;rw[q]at g;cases g),P7 (by rintro⟨a,xs,z,g⟩;cases z;rw[e]at g;cases g)]
 |tup e=>rw[J8 e,J8 (k.t _ _ e)]
 |dT e=>rw[P7 (by rintro⟨a,xs,z,g⟩;cases z;rw[k.d _ _ e]at g;cases g),P7 (by rintro⟨a,xs,z,g⟩;cases z;rw[e]at g;cases g)]
 |_=>rfl
def Dp3(H:Hp)(v:V):Prop:=Ki H v/\∀a ts,v=.ref a->H a=some (.tup ts)->ts.length<=1000/\∀t∈ts,Deep H t
theorem Dp3.keep{H H':Hp}{v:V}(h:Dp3 H v)(k:Keep H H'):Dp3 H' v:=by
 refine⟨h.1.keep k,λa d e q=>?_⟩;subst e;cases h.1 with
 |lst e=>obtain⟨ys,b⟩:=k.l _ _ e;rw[q]at b;cases b
 |tup e =>
  have:=k.t _ _ e;rw[q]at this;cases this;obtain⟨h1,h2⟩:=h.2 _ _ rfl e;exact⟨h1,λt c=>(h2 t c).keep k⟩
 |dT e=>have:=k.d _ _ e;rw[q]at this;cases this
def vcs(n:Nat)(H:Hp)(v:V):Bool:=match Tup H v with
 |none=>false
 |some ts=>ts.all λt=>a0m n (Tup H t)
theorem a0n{n:Nat}{H:Hp}{v:V}(e:Tup H v=none):vcs n H v=false:=by unfold vcs;rw[e]
theorem Q3{n:Nat}{H:Hp}{v:V}{a:List V}(e:Tup H v=some a):vcs n H v=a.all λt=>a0m n (Tup H t):=by unfold vcs;rw[e]
theorem a0o{n:Nat}{H H':Hp}{v:V}(h:Dp3 H v)(k:Keep H H'):vcs n H' v=vcs n H v:=by
 have e:=a0K h.1 k;cases b:Tup H v with
 |none=>rw[a0n b,a0n (e.trans b)]
 |some ts =>
  rw[Q3 b,Q3 (e.trans b)];cases h.1 with
  |@tup a xs ea =>
   rw[J8 ea]at b;cases b;have hd:=(h.2 _ _ rfl ea).2;have:∀(l:List V),(∀t∈l,Deep H t)->(l.all λt=>a0m n (Tup H' t))=l.all λt=>a0m n (Tup H t):=λl=>by
    induction l with
    |nil=>intro _;rfl
    |cons x l f=>intro c;rw[cB,cB,a0K (c x ar).1 k,f λt d=>c t (av _ d)]
   exact this _ hd
  |lst e'=>rw[P7 (by rintro⟨a,xs,z,g⟩;cases z;rw[e']at g;cases g)]at b;cases b
  |dT e'=>rw[P7 (by rintro⟨a,xs,z,g⟩;cases z;rw[e']at g;cases g)]at b;cases b
  |_=>cases b
inductive IspVcs(vs:List V)(H:Hp)(Q:VK)(E:XK):Prop
 |mk (v:V) (n:Nat) (wi:Int) (_:vs=[v,.int wi]) (_:wi=n) (_:Dp3 H v) (_:∀H',Same H H'->Q (.bl (vcs n H v)) H'):IspVcs  vs H Q E
def b0F:Sp:=λvs H Q E=>IspVcs  vs H Q E
theorem a2A(F:FunAt K mg "are_vectors" K1 ["value","width"])(T:Tx mg)(b:Ok P w K mg base "is_vector" 2 ["value","width"] b4W):Ok P w K mg base "are_vectors" 3 ["value","width"] b0F:=by
 refine F.okJ a2p (λD H Q E h=>?_) (λq f A j s H D Q E y h=>?_)
 .obtain⟨v,n,wi,rfl,_⟩:=h;rfl
 .obtain⟨v,n,_,rfl,rfl,hd,k⟩:=h;have M:(3000:Nat)<=sizeLine:=by rw[aV];decide
  refine⟨_,(A5 (A9 (a1w (K5 K rfl T.b_isinstance (jaC (jv 0) (jaC (a4Y (v:=.ty "tuple") rfl T.b_tuple a3i rfl) jaN))) (a1v (K8 K rfl T.b_all (jaC (B8 (N:=["part","width"]) (src:=[none,some 1]) (J0 K (jv 0)) (by show B6 _ _=true;rfl) (by rfl) (by rfl)
 (λ_ _ _ _ _=>(A8 (i:=0) (show(["part","width"]:List Str).Nodup by decide +kernel) rfl (Or.inl rfl))) (λ_ _ _ _ _=>C0) (λ_ _ _ _ _=>(A7 b (y.mono (by omega)) rfl (jaC (jv 0) (jaC (jv 1) jaN))))) jaN)))))),?_⟩
  obtain⟨t,I,J,g,ty,k1,k2,k3,h1,h2,L,l⟩:=hd.1.ty (K:=K);refine⟨_,rfl,v,"tuple",_,g,rfl,ty,k3,g,rfl,?_⟩;cases g with
  |false =>
   refine C6 ?_;have e:Tup H v=none:=P7 λz=>by have:=l.mpr z;cases this
   have:=k H (Same.refl H);rw[a0n e]at this;exact this
  |true =>
   obtain⟨a,c,rfl,d⟩:=l.mp rfl;rw[Q3 (J8 d)]at k;obtain⟨r,hi⟩:=hd.2 a c rfl d;refine E3 ⟨_,rfl,a,rfl,⟨_,SqT.of d⟩,?_⟩;refine a7Q (K:=K) (a:=a) (caps:=[some (.int n)]) (λx=>x) (xs:=c) (λx=>V.bl (a0m n (Tup H x))) r (λH' s=>by rw[List.map_id'];exact SqT.of (s _ _ d)) rfl (λx H1 G m s1 C=>?_) λH1 p s1 u=>?_
   .refine⟨_,rfl,_,rfl,x,n,rfl,(hi x m).keep (.same s1),λH2 s2=>?_⟩;rw[a0K (hi x m).1 (.same s1)];exact C _ s2
   .refine⟨false,p,_,rfl,SqL.of A0,?_,?_⟩
    .rw[aR];intro v B;obtain⟨_,_,rfl⟩:=aW.mp B;rfl
    .have e2:(c.map λx=>V.bl (a0m n (Tup H x))).all trV=c.all λt=>a0m n (Tup H t):=by rw[fh];rfl
     rw[e2];exact k _ (s1.upd (o:=.lst (c.map λx=>V.bl (a0m n (Tup H x)))) u)
inductive IspShN(vs:List V)(H:Hp)(Q:VK)(E:XK):Prop
 |mk (ra c:Addr) (x y:V) (cs:List (Option Int)) (_:vs=[.ref ra,.ref c,x,y]) (_:H c=some (.tup (cs.map cV))) (_:Dp3 H x) (_:Dp3 H y) (_:(vcs cs.length H x=false∨vcs cs.length H y=false)) (_:∀H',Same H H'->Q (.bl false) H'):IspShN  vs H Q E
def b0H:Sp:=λvs H Q E=>IspShN  vs H Q E
theorem a8R(n:Nat)(xs:List Int):a0m n (some (xs.map V.int))=a1Z n xs:=by
 rw[Q0,ai,fh];rfl
theorem Deep.ints{H:Hp}{v:V}{xs:List Int}(h:IT H v xs)(d:xs.length<=1000):Deep H v:=by
 obtain⟨a,rfl,c⟩:=h;refine⟨.tup c,λb g e q=>?_⟩;cases e;rw[c]at q;cases q;refine⟨by rw[ai];exact d,λt f=>?_⟩;obtain⟨z,_,rfl⟩:=aW.mp f;exact .int z
theorem Dp3.its{H:Hp}{a:Addr}{us:List V}{rss:LLI}(c:H a=some (.tup us))(f:Its H us rss)(g:us.length<=1000)(h:∀r∈rss,r.length<=1000):Dp3 H (.ref a):=by
 refine⟨.tup c,λb k e q=>?_⟩;cases e;rw[c]at q;cases q;refine⟨g,λt j=>?_⟩;obtain⟨i,hi⟩:=gb j;obtain⟨r,h1,h2,d⟩:=f.mem hi;exact Deep.ints d (h r h1)
theorem a7P{H:Hp}{a:Addr}{n:Nat}:∀{us:List V}{rss:LLI},Its H us rss->(us.all λt=>a0m n (Tup H t))=rss.all (a1Z n)
 |[],[],_=>rfl
 |[],_::_,h=>by cases h.1
 |_::_,[],h=>by cases h.1
 |v::us,r::rss,h=>by
  obtain⟨d,b,e,rfl,c⟩:=h.2 0 v rfl;have b:r=d:=by injection b
  rw[cB,cB,J8 c,a8R,<-b,a7P (a:=a) (us:=us) (rss:=rss) (h.drop 1)]
inductive IspVecsJ(vs:List V)(H:Hp)(Q:VK)(E:XK):Prop
 |mk (a:Addr) (us:List V) (rss:LLI) (n:Nat) (wi:Int) (_:vs=[.ref a,.int wi]) (_:wi=n) (_:H a=some (.tup us)) (_:Its H us rss) (_:us.length<=1000) (_:(∀r∈rss,r.length<=1000)) (_:∀H',Same H H'->Q (.bl (rss.all (a1Z n))) H'):IspVecsJ  vs H Q E
def b3d:Sp:=λvs H Q E=>IspVecsJ  vs H Q E
theorem b2Y(O:Ok P w K mg base "are_vectors" 3 ["value","width"] b0F):Ok P w K mg base "are_vectors" 3 ["value","width"] b3d:=O.imp λj H Q E h=>by
 obtain⟨a,i,f,n,g,h1,h2,c,b,d,e,k⟩:=h;refine⟨.ref a,n,g,h1,h2,Dp3.its c b d e,λH' s=>?_⟩;rw[Q3 (J8 c),a7P (a:=a) b];exact k H' s
inductive IspShows1(vs:List V)(H:Hp)(Q:VK)(E:XK):Prop
 |mk (ra c t p:Addr) (us zs ws:List V) (rss tss pss:LLI) (cs:List (Option Int)) (_:vs=[.ref ra,.ref c,.ref t,.ref p]) (_:H ra=some (.tup us)) (_:Its H us rss) (_:us.length<=1000) (_:H c=some (.tup (cs.map cV))) (_:1<=cs.length) (_:cs.length<=100) (_:Rs cs.length rss) (_:H t=some (.tup zs)) (_:Its H zs tss) (_:zs.length<=1000) (_:H p=some (.tup ws)) (_:Its H ws pss) (_:ws.length<=1000) (_:(∀v∈tss++pss,v.length<=1000/\Sm v)) (_:∀b H',Same H H'->(b=true↔Shw rss cs tss pss)->Q (.bl b) H'):IspShows1  vs H Q E
def a2l:Sp:=λvs H Q E=>IspShows1  vs H Q E
theorem a9z(F:FunAt K mg "shows" a1P ["rows","caps","told","paper"])(T:Tx mg)(a:Ok P w K mg base "are_vectors" 3 ["value","width"] b0F)(u:Ok P w K mg base "all_fit" 2 ["caps","some"] a5C)(j:Ok P w K mg base "are_least" 4 ["rows","told"] a2m)(I:Ok P w K mg base "is_met" 3 ["told","listed","one"] b0K)(g:Ok P w K mg base "first_steps" 2 ["caps"] a4u)(B:Ok P w K mg base "goes_on" 5 ["rows","caps","told","listed","one"] b0L):Ok P w K mg base "shows" 6 ["rows","caps","told","paper"] (λvs H Q E=>a2l vs H Q E∨b0H vs H Q E):=by
 refine F.okJ sc_shows (λvs H Q E h=>?_) (λf1 f A d6 s H vs Q E J h=>?_)
 .rcases h with h|h
  .obtain⟨ra,c,t,p,us,zs,ws,G,b,m,n,rfl,_⟩:=h;rfl
  .obtain⟨ra,c,x,y,n,rfl,_⟩:=h;rfl
 .rcases h with h|h
  .have a:=b2Y a;obtain⟨ra,c,t,p,us,zs,ws,G,b,m,n,rfl,a6,hI,b9,hc,n1,n2,hR,ht,hJ,d5,hp,hM,f6,hV,k⟩:=h;have hu:=J.u60;have hz:(300000:Nat)<=sizeLine:=by rw[aV];decide
   have a4:∀v∈b,v.length<=1000/\Sm v:=λv C=>hV v (aS _ C);have b1:∀v∈m,v.length<=1000/\Sm v:=λv C=>hV v (aO _ C);refine⟨_,(A2 (D9 (a2O (a3Q (J6 (C1 K (A7 a (J.mono (by omega)) rfl (jaC (jv 2) (jaC (G1 K rfl T.b_len (jaC (jv 1) jaN)) jaN))))) (a0X (J6 (C1 K (A7 a (J.mono (by omega)) rfl (jaC (jv 3) (jaC (G1 K rfl T.b_len (jaC (jv 1) jaN)) jaN))))))))
 (A5 (A9 J2))
 C2)
 (A2 (D9 (a2O (a3Q (J6 (C1 K (A7 u (J.mono (by omega)) rfl (jaC (jv 1) (jaC (O5 (jv 2) (jv 3)) jaN))))) (a0X (J6 (C1 K (A7 j (J.mono (by omega)) rfl (jaC (jv 0) (jaC (jv 2) jaN))))))))
 (A5 (A9 J2))
 C2)
 (A2 (B2 (i:=4) sc_shows.nd rfl (Or.inr rfl) (a6l hu rfl T.b_dict (jaC (B8 (N:=["one"]) (src:=[none]) (J0 K (jv 3)) (by show B6 _ _=true;rfl) (by rfl) (by rfl)
 (λ_ _ _ _ _=>(A8 (i:=0) (show(["one"]:List Str).Nodup by decide +kernel) rfl (Or.inl rfl))) (λ_ _ _ _ _=>C0) (λ_ _ _ _ _=>(D7 (jaC (jv 0) (jaC J2 jaN))))) jaN)))
 (A2 (D9 (J6 (C1 K (K8 K rfl T.b_all (jaC (B8 (N:=["one","told","listed"]) (src:=[none,some 2,some 4]) (J0 K (A7 g (J.mono (by omega)) rfl (jaC (jv 1) jaN))) (by show B6 _ _=true;rfl) (by rfl) (by rfl)
 (λ_ _ _ _ _=>(A8 (i:=0) (show(["one","told","listed"]:List Str).Nodup by decide +kernel) rfl (Or.inl rfl))) (λ_ _ _ _ _=>C0) (λ_ _ _ _ _=>(A7 I (J.mono (by omega)) rfl (jaC (jv 1) (jaC (jv 2) (jaC (jv 0) jaN)))))) jaN))))
 (A5 (A9 J2))
 C2)
 (A5 (A9 (K8 K rfl T.b_all (jaC (B8 (N:=["one","rows","caps","told","listed"]) (src:=[none,some 0,some 1,some 2,some 4]) (a8u (jv 4)) (by show B6 _ _=true;rfl) (by rfl) (by rfl)
 (λ_ _ _ _ _=>(A8 (i:=0) (show(["one","rows","caps","told","listed"]:List Str).Nodup by decide +kernel) rfl (Or.inl rfl))) (λ_ _ _ _ _=>C0) (λ_ _ _ _ _=>(A7 B (J.mono (by omega)) rfl (jaC (jv 1) (jaC (jv 2) (jaC (jv 3) (jaC (jv 4) (jaC (jv 0) jaN)))))))) jaN)))))))),?_⟩
   refine⟨_,rfl,_,rfl,c,_,rfl,.inr (SqT.of hc),t,zs,b,n.length,_,rfl,by rw[ai],ht,hJ,by omega,λr R=>(a4 r R).1,λH1 s1=>⟨_,rfl,?_⟩⟩;cases e1:b.all (a1Z n.length)with
   |false=>exact E3 (k _ _ s1 ⟨(λz=>nomatch z),λh=>by rw[h.tv]at e1;cases e1⟩)
   |true =>
   refine C6 ⟨_,rfl,_,rfl,c,_,rfl,.inr (SqT.of (s1 _ _ hc)),p,ws,m,n.length,_,rfl,by rw[ai],s1 _ _ hp,hM.same s1,by omega,λr R=>(b1 r R).1,λH2 s2=>⟨_,rfl,?_⟩⟩;have Z:=s1.trans s2;cases e2:m.all (a1Z n.length)with
   |false=>exact E3 (k _ _ Z ⟨(λz=>nomatch z),λh=>by rw[h.pv]at e2;cases e2⟩)
   |true =>
   have b0:=a7O e1;have c9:=a7O e2;refine C6 ?_;refine⟨_,rfl,_,rfl,_,rfl,t,p,zs,ws,rfl,rfl,Z _ _ ht,Z _ _ hp,by omega,λq H3 s3 hq=>?_⟩;have a0:=Z.trans s3;have c7:Its H3 (zs++ws) (b++m):=a4Z (hJ.same a0) (hM.same a0);refine⟨c,q,_,_,n,rfl,a0 _ _ hc,by omega,hq,c7,by rw[aq];omega,λH4 s4=>⟨_,rfl,?_⟩⟩;have M:=a0.trans s4;cases e3:(b++m).all (a1F n)with
   |false=>exact E3 (k _ _ M ⟨(λz=>nomatch z),λh=>by rw[h.fit]at e3;cases e3⟩)
   |true =>
   refine C6 ⟨_,rfl,_,rfl,ra,t,us,zs,G,b,n.length,rfl,M _ _ a6,hI.same M,b9,λr R=>by rw[(hR r R).1];omega,M _ _ ht,hJ.same M,d5,n1,by omega,λv C=>⟨b0 v C,(a4 v C).2⟩,λb5 H5 s5 h5=>⟨_,rfl,?_⟩⟩;have U:=M.trans s5;cases b5 with
   |false=>exact E3 (k _ _ U ⟨(λz=>nomatch z),λh=>by have:=h5.mpr h.an;cases this⟩)
   |true =>
   have c6:=h5.mp rfl;refine C6 ?_;have b4:=U _ _ hp;have c8:=hM.same U;refine⟨_,rfl,p,rfl,⟨_,SqT.of b4⟩,?_⟩;refine K7 (K:=K) (xs:=ws) (by omega) (λi qs H'=>Same H5 H'/\PrT H' qs (m.take i)) ⟨Same.refl H5,PrT.nil⟩ (λi qs H' _ h=>⟨SqT.of (h.1 _ _ b4),by rw[h.2.1];exact bD _ _⟩) ?_ ?_
   .rintro i x qs H' hx ⟨s',hP'⟩;obtain⟨r,f5,d2,d3⟩:=c8.mem hx;refine⟨Sub.one,_,rfl,by show 2<=sizeLine;omega,λp8 d1=>?_⟩;have X:=(Same.refl H').upd (o:=.tup [x,.bl true]) d1;refine⟨s'.trans X,?_⟩;rw[bf,d2];exact(hP'.same X).snoc A0 ((d3.same s').same X)
   rintro qs H6 ⟨s6,a3⟩ p6 b6;rw[hM.1,bg]at a3;have s7:=(Same.refl H6).upd (o:=.lst qs) b6;refine⟨p6,qs,m,rfl,A0,a3.same s7,λd kvs l hd hk L=>?_⟩;have X:=U.trans ((s6.trans s7).upd (o:=.dT kvs) hd);have e8:upd (upd H6 p6 (.lst qs)) d (.dT kvs) d=some (.dT kvs):=A0;have d0:H d=none:=U.free ((s6.trans s7).free hd);generalize upd (upd H6 p6 (.lst qs)) d (.dT kvs)=H8 at X e8;clear hd s7 a3 s6 b6;dsimp only[B0];have em:=a3N (tss:=b) L.mem;have c5:=b2o (rss:=G) (tss:=b) (cs:=n) L.mem;have W:Pk us kvs G b l n:=⟨b9,hR,n1,n2,hk,b0,λv C=>⟨c9 v ((L.mem v).mp C),(b1 v ((L.mem v).mp C)).2⟩⟩;have S8:Ps H8 ra c t d us zs kvs G b l n:=⟨X _ _ a6,hI.same X,X _ _ hc,X _ _ ht,hJ.same X,.inl e8⟩;refine⟨_,rfl,c,n,rfl,S8.c,n1,n2,λq9 e0 fss H9 s9 b7 a9 a5 e6=>?_⟩;have f2:e0.length<=100:=by
    rw[a9.1,a5.length_eq];exact bb (bB _ _) (by simp;omega)
   refine⟨q9,rfl,⟨_,SqT.of b7⟩,?_⟩;refine a2c (caps:=[some (.ref t),some (.ref d)]) (λr=>V.bl (V7 b l r)) (by omega) (λH' s=>SqT.of (s _ _ b7)) a9 rfl (λv r a8 e7 e5 C a7 d8=>?_) λa8 c0 a7 b2=>?_
   .have S10:=S8.same (s9.trans a7);exact⟨_,rfl,_,rfl,_,rfl,t,d,v,zs,b,kvs,l,r,rfl,S10.t,S10.J,S10.d,hk,C,λf hf=>(a4 f hf).1,d8⟩
   have Y:=(s9.trans a7).upd (o:=.lst (fss.map λr=>V.bl (V7 b l r))) b2;refine⟨false,c0,_,rfl,SqL.of A0,a0F _ _,?_⟩;rw[a3m];have ef:fss.all (V7 b l)=(N1 n).all (V7 b m):=by
    rw[em];rw[cv,aR,aR];exact⟨λh v C=>h v (a5.mem_iff.mpr C),λh v C=>h v (a5.mem_iff.mp C)⟩
   rw[ef];generalize upd a8 c0 (.lst (fss.map λr=>V.bl (V7 b l r)))=O at Y;have a1:=X.trans Y;refine⟨_,rfl,?_⟩;cases e4:(N1 n).all (V7 b m)with
   |false=>exact E3 (k _ _ a1 ⟨(λz=>nomatch z),λh=>by rw[h.fst]at e4;cases e4⟩)
   |true =>
   refine C6 ?_;have c4:=Y _ _ e8;have f0:=S8.same Y;refine⟨_,rfl,d,kvs,rfl,c4,λob=>?_⟩;have off:Off [d] O (upd O d (.frz ob (.dT kvs))):=(Off.refl _ _).set (by simp);have a2:upd O d (.frz ob (.dT kvs)) d=some (.frz ob (.dT kvs)):=A0;have D:Same H (upd O d (.frz ob (.dT kvs))):=a2r a1 d0 off;generalize upd O d (.frz ob (.dT kvs))=c1 at D a2;have c3:Ps c1 ra c t d us zs kvs G b l n:=⟨D _ _ a6,hI.same D,D _ _ hc,D _ _ ht,hJ.same D,.inr ⟨ob,a2⟩⟩;have f3:=b2k hk;have f4:l.length<=100000:=by have:=L.le;rw[<-hM.1]at this;omega
   refine a9T (caps:=[some (.ref ra),some (.ref c),some (.ref t),some (.ref d)]) (λr=>V.bl (goI G n b l r)) (by omega) a2 hk rfl (λv r c2 e9 b8 C S d9=>?_) λc2 d7 S b3=>?_
   .have S13:=c3.same S;exact⟨_,rfl,_,rfl,_,rfl,_,rfl,_,rfl,ra,c,t,d,v,us,zs,kvs,G,b,l,n,r,rfl,S13,W,C,b8,d9⟩
   .refine⟨false,d7,_,rfl,SqL.of A0,a0F _ _,?_⟩;rw[a3m];have ea:l.all (goI G n b l)=m.all (goI G n b m):=by
     rw[c5];rw[cv,aR,aR];exact⟨λh v C=>h v ((L.mem v).mpr C),λh v C=>h v ((L.mem v).mp C)⟩
    rw[ea];refine k _ _ (D.trans (S.upd b3)) ⟨λh=>⟨e1,e2,e3,c6,e4,h⟩,λh=>h.go⟩
  .obtain⟨ra,c,x,y,n,rfl,hc,hx,hy,C,k⟩:=h;have hu:=J.u60;refine⟨_,(A2 (D9 (a2O (a3Q (J6 (C1 K (A7 a (J.mono (by omega)) rfl (jaC (jv 2) (jaC (G1 K rfl T.b_len (jaC (jv 1) jaN)) jaN))))) (a0X (J6 (C1 K (A7 a (J.mono (by omega)) rfl (jaC (jv 3) (jaC (G1 K rfl T.b_len (jaC (jv 1) jaN)) jaN))))))))
 (A5 (A9 J2))
 C2)
 (A2 (D9 (a2O (a3Q (J6 (C1 K (A7 u (J.mono (by omega)) rfl (jaC (jv 1) (jaC (O5 (jv 2) (jv 3)) jaN))))) (a0X (J6 (C1 K (A7 j (J.mono (by omega)) rfl (jaC (jv 0) (jaC (jv 2) jaN))))))))
 (A5 (A9 J2))
 C2)
 (A2 (B2 (i:=4) sc_shows.nd rfl (Or.inr rfl) (a6l hu rfl T.b_dict (jaC (B8 (N:=["one"]) (src:=[none]) (J0 K (jv 3)) (by show B6 _ _=true;rfl) (by rfl) (by rfl)
 (λ_ _ _ _ _=>(A8 (i:=0) (show(["one"]:List Str).Nodup by decide +kernel) rfl (Or.inl rfl))) (λ_ _ _ _ _=>C0) (λ_ _ _ _ _=>(D7 (jaC (jv 0) (jaC J2 jaN))))) jaN)))
 (A2 (D9 (J6 (C1 K (K8 K rfl T.b_all (jaC (B8 (N:=["one","told","listed"]) (src:=[none,some 2,some 4]) (J0 K (A7 g (J.mono (by omega)) rfl (jaC (jv 1) jaN))) (by show B6 _ _=true;rfl) (by rfl) (by rfl)
 (λ_ _ _ _ _=>(A8 (i:=0) (show(["one","told","listed"]:List Str).Nodup by decide +kernel) rfl (Or.inl rfl))) (λ_ _ _ _ _=>C0) (λ_ _ _ _ _=>(A7 I (J.mono (by omega)) rfl (jaC (jv 1) (jaC (jv 2) (jaC (jv 0) jaN)))))) jaN))))
 (A5 (A9 J2))
 C2)
 (A5 (A9 (K8 K rfl T.b_all (jaC (B8 (N:=["one","rows","caps","told","listed"]) (src:=[none,some 0,some 1,some 2,some 4]) (a8u (jv 4)) (by show B6 _ _=true;rfl) (by rfl) (by rfl)
 (λ_ _ _ _ _=>(A8 (i:=0) (show(["one","rows","caps","told","listed"]:List Str).Nodup by decide +kernel) rfl (Or.inl rfl))) (λ_ _ _ _ _=>C0) (λ_ _ _ _ _=>(A7 B (J.mono (by omega)) rfl (jaC (jv 1) (jaC (jv 2) (jaC (jv 3) (jaC (jv 4) (jaC (jv 0) jaN)))))))) jaN)))))))),?_⟩
   refine⟨_,rfl,_,rfl,c,_,rfl,.inr (SqT.of hc),x,n.length,_,rfl,by rw[ai],hx,λH1 s1=>?_⟩;cases e:vcs n.length H x with
   |false=>exact⟨false,rfl,E3 (k H1 s1)⟩
   |true =>
    refine⟨true,rfl,C6 ?_⟩;have d4:=C.resolve_left (by rw[e];decide);refine⟨_,rfl,_,rfl,c,_,rfl,.inr (SqT.of (s1 _ _ hc)),y,n.length,_,rfl,by rw[ai],hy.keep (.same s1),λH2 s2=>?_⟩;rw[a0o hy (.same s1),d4];exact⟨false,rfl,E3 (k H2 (s1.trans s2))⟩
end
end K18
namespace K18
open PySem PySem.Spec PyProof.Rows L2
def Tk(H H':Hp):Prop:=∀c xs,H c=some (HO.tup xs)->H' c=some (.tup xs)
theorem Tk.trans{H H' a:Hp}(h:Tk H H')(g:Tk H' a):Tk H a:=λc xs e=>g c xs (h c xs e)
theorem Tk.same{H H':Hp}(s:Same H H'):Tk H H':=λc xs e=>s c _ e
theorem Tk.pot{H H':Hp}{a b:Addr}{n:Nat}(d:PotAt H a b n)(o:Off [a,b] H H'):Tk H H':=λc xs e=>o c _ (b1s d e) e
theorem Tk.put{H:Hp}{c:Addr}{xs:List V}{o:HO}(e:H c=some (.lst xs)):Tk H (upd H c o):=λd ys q=>by rw[A1 (G4 q e (by intro z;cases z))];exact q
theorem Tk.it{H H':Hp}(h:Tk H H'){v:V}{r:List Int}(g:IT H v r):IT H' v r:=let ⟨a,e,q⟩:=g;⟨a,e,h _ _ q⟩
theorem Tk.its{H H':Hp}(h:Tk H H'){vs:List V}{rss:LLI}(g:Its H vs rss):Its H' vs rss:=⟨g.1,λi v e=>let ⟨r,e1,e2⟩:=g.2 i v e;⟨r,e1,h.it e2⟩⟩
section
variable {P:Program}{w:World}{K:PySem.W.Frag}{mg:Str->Option Value}{base:Heap}
theorem b4N{xs:List V}{v:V}(h:xs[xs.length-1]?=some v):atI xs (-1)=some v:=by
 have a:0<xs.length:=by
  have:=(aN.mp h).1;omega
 unfold atI ixN;rw[ao (by decide),ay (by omega),eN,show((-1:Int)+(xs.length:Int)).toNat=xs.length-1 by omega];exact h
theorem b8c{caps:L2.St}{u v:V}:Sub (none::none::caps) (some u::some v::caps):=⟨rfl,λj x e=>by
 match j,e with
 |0,e=>cases e
 |1,e=>cases e
 |j+2,e=>exact e⟩
theorem b4C{xs:List V}{k:Nat}(a:k<=xs.length):K9 xs none (some (k:Int))=xs.take k:=by
 unfold K9;rw[HT.sIx_none,HT.sIx_nat,dE a,cW,Nat.sub_zero]
theorem b4E{xs:List V}{k:Nat}(a:k<=xs.length):K9 xs (some (k:Int)) none=xs.drop k:=by
 unfold K9;rw[HT.sIx_none,HT.sIx_nat,dE a,bN (by simp)]
theorem b5B{H:Hp}{Q:VK}{t:Addr}{zs:List V}{k:Nat}(a:H t=some (.tup zs))(q:∀p H',Same H H'->H' p=some (.tup (zs.take k))->Q (.ref p) H'):b3v K (.ref t) none (some (k:Int)) H Q:=by
 refine⟨t,zs,rfl,SqT.of a,λh=>?_,λh p b=>?_⟩
 .have h1:=h.2;rw[HT.sIx_nat]at h1;exact q t H (Same.refl _) (by rw[bN (by omega)];exact a)
 .rw[HT.sIx_none,HT.sIx_nat]at h;refine q p _ ((Same.refl H).upd b) ?_;rw[A0,b4C (by omega)]
theorem b5C{H:Hp}{Q:VK}{t:Addr}{zs:List V}{k:Nat}(a:H t=some (.tup zs))(b:k<=zs.length)(q:∀p H',Same H H'->H' p=some (.tup (zs.drop k))->Q (.ref p) H'):b3v K (.ref t) (some (k:Int)) none H Q:=by
 refine⟨t,zs,rfl,SqT.of a,λh=>?_,λ_ p c=>?_⟩
 .have h1:=h.1;rw[HT.sIx_nat]at h1;have:zs.drop k=zs:=by
   by_cases e:k=0
   .rw[e];rfl
   .have:zs.length=0:=by omega
    rw[ft.mp this];simp
  exact q t H (Same.refl _) (by rw[this];exact a)
 .refine q p _ ((Same.refl H).upd c) ?_;rw[A0,b4E b]
def BadI(H:Hp)(cs:List (Option Int))(t:V):Prop:=Deep H t/\(a0m cs.length (Tup H t)=false∨∃xs,IT H t xs/\xs.length=cs.length/\(∀x∈xs,0<=x/\x<=1000)/\a1F cs xs=false)
theorem BadI.keep{H H':Hp}{cs:List (Option Int)}{t:V}(h:BadI H cs t)(k:Keep H H'):BadI H' cs t:=by
 refine⟨h.1.keep k,h.2.imp (λe=>by rw[a0K h.1.1 k];exact e) λ⟨xs,⟨a,e,q⟩,r⟩=>⟨xs,⟨a,e,k.t _ _ q⟩,r⟩⟩
def BadT(H:Hp)(cs:List (Option Int))(v:V):Prop:=Dp3 H v/\(vcs cs.length H v=false∨∃a zs tss,v=.ref a/\H a=some (.tup zs)/\Its H zs tss/\zs.length<=1000/\(∀t∈tss,t.length<=1000/\Sm t)/\tss.all (a1F cs)=false)
theorem BadT.keep{H H':Hp}{cs:List (Option Int)}{t:V}(h:BadT H cs t)(k:Keep H H')(tk:∀a xs,H a=some (.tup xs)->H' a=some (.tup xs)):BadT H' cs t :=
 ⟨h.1.keep k,h.2.imp (λe=>by rw[a0o h.1 k];exact e) λ⟨a,zs,b,e,q,c,r⟩=>⟨a,zs,b,e,tk _ _ q,⟨c.1,λi v e=>let ⟨r,e1,a',e2,e3⟩:=c.2 i v e;⟨r,e1,a',e2,tk _ _ e3⟩⟩,r⟩⟩
def Mk(B:Hp->Prop)(R:Hp->V->Prop)(σ:L2.St)(te:TE):Prop:=∀(H:Hp) (Q:VK),B H->(∀v H',Same H H'->R H' v->Q v H')->te σ H Q
def MkA(B:Hp->Prop)(R:Hp->V->Prop)(σ:L2.St)(n:Nat)(ta:TA):Prop:=∀(H:Hp) (Q:List V->Hp->Prop),B H->(∀vs H',Same H H'->vs.length=n->(∀v∈vs,R H' v)->Q vs H')->ta σ H Q
theorem a4Q{B:Hp->Prop}{R:Hp->V->Prop}{σ:L2.St}:MkA B R σ 0 P5:=λH Q _ q=>q [] H (Same.refl _) rfl λ_ z=>nomatch z
theorem a5W{B:Hp->Prop}{R:Hp->V->Prop}{σ:L2.St}{n:Nat}{te:TE}{ta:TA}(c:∀{H H'},B H->Same H H'->B H')(hR:∀{H H' v},R H v->Same H H'->R H' v)(h:Mk B R σ te)(g:MkA B R σ n ta):MkA B R σ (n+1) (L0 te ta):=λH Q b q =>
 h H _ b λv H' s r=>g H' _ (c b s) λi a s' e f=>q (v::i) a (s.trans s') (by simp[e]) λu d=>by
  rcases aE.mp d with z|z
  .rw[z];exact hR r s'
  .exact f u z
theorem a4R{B:Hp->Prop}{R:Hp->V->Prop}{σ:L2.St}{n:Nat}{ta:TA}{H:Hp}{Q:VK}(h:MkA B R σ n ta)(c:n<=100)(b:B H)(q:∀vs H' p,Same H H'->vs.length=n->(∀v∈vs,R H' v)->H' p=none->Q (.ref p) (upd H' p (.lst vs))):a4o ta σ H Q :=
 h H _ b λvs H' s e r=>⟨by rw[e,aV];omega,λp a=>q vs H' p s e r a⟩
theorem a4y{te:TE}{g:TG}{u:TS}{D:Ends}{σ:L2.St}{H:Hp}(h:te σ H λx H1=>g x σ H1 (u D)):a5u (a2g te g) u D σ H:=h
theorem a8D(x:V):∀n:Nat,(List.replicate n [x]).flatten=List.replicate n x
 |0=>rfl
 |n+1=>by rw[bG,cR,a8D x n,bG];rfl
theorem a4N{σ:L2.St}{x:V}{H:Hp}{Q:VK}(q:∀p H',Same H H'->H' p=some (.tup [x])->Q (.ref p) H'):a2e (L0 (tC x) P5) σ H Q :=
 ⟨by show 1<=sizeLine;rw[aV];decide,λp a=>q p _ ((Same.refl H).upd a) A0⟩
theorem a4P{σ:L2.St}{te:TE}{x:V}{k:Nat}{H:Hp}{Q:VK}(h:∀H' (a:VK),a (.int k) H'->te σ H' a)(k1:1<=k)(f:k<=9)(q:∀p H',Same H H'->H' p=some (.tup (List.replicate k x))->Q (.ref p) H'):tOp b1i (a2e (L0 (tC x) P5)) te σ H Q:=by
 have e:(3000:Nat)<=sizeLine:=by rw[aV];decide
 refine a4N λp H1 s1 c=>h H1 _ ⟨p,[x],k,rfl,rfl,c,by simp,by omega,?_,λd H2 s2 b=>?_⟩
 .show(1:Int)*k<=_;omega
 rw[a8D,bw]at b;exact q d H2 (s1.trans s2) b
theorem a4O{σ:L2.St}{te:TE}{x:V}{k:Nat}{H:Hp}{Q:VK}(h:∀H' (a:VK),a (.int k) H'->te σ H' a)(f:k<=9)(q:∀p H',Same H H'->H' p=some (.tup (List.replicate k x))->Q (.ref p) H'):tOp b1j (a2e (L0 (tC x) P5)) te σ H Q:=by
 have e:(3000:Nat)<=sizeLine:=by rw[aV];decide
 refine a4N λp H1 s1 c=>h H1 _ ⟨p,[x],k,rfl,rfl,c,by simp,by omega,?_,λd H2 s2 b=>?_⟩
 .show(1:Int)*k<=_;omega
 rw[a8D,bw]at b;exact q d H2 (s1.trans s2) b
theorem Ki.flat{H:Hp}{v:V}(h:Ki H v)(e:Tup H v=none):Deep H v:=⟨h,λa b z q=>by subst z;rw[J8 q]at e;cases e⟩
def PlB(n:Nat)(H:Hp)(v:V):Prop:=Dp3 H v/\vcs n H v=false
theorem PlB.keep{n:Nat}{H H':Hp}{v:V}(h:PlB n H v)(k:Keep H H'):PlB n H' v:=⟨h.1.keep k,by rw[a0o h.1 k];exact h.2⟩
theorem Q8{n:Nat}{H:Hp}{v:V}(h:Ki H v)(e:Tup H v=none):PlB n H v:=⟨⟨h,λa b z q=>by subst z;rw[J8 q]at e;cases e⟩,a0n e⟩
theorem a0p{H:Hp}{a:Addr}{xs:List V}(e:H a=some (.lst xs)):Tup H (.ref a)=none:=P7 (by rintro⟨b,ys,z,q⟩;cases z;rw[e]at q;cases q)
theorem b5x{H:Hp}{a:Addr}{xs:List (List Key×V)}(e:H a=some (.dT xs)):Tup H (.ref a)=none:=P7 (by rintro⟨b,ys,z,q⟩;cases z;rw[e]at q;cases q)
theorem a8l{n:Nat}{H:Hp}{p:Addr}{b:List V}(e:H p=some (.tup b))(c:b.length<=1000)(hd:∀t∈b,Deep H t)(t:V)(d:t∈b)(f:a0m n (Tup H t)=false):PlB n H (.ref p) :=
 ⟨⟨.tup e,λa g z q=>by cases z;rw[e]at q;cases q;exact⟨c,hd⟩⟩,by rw[Q3 (J8 e)];exact fH.mpr ⟨t,d,by rw[f];decide⟩⟩
theorem a6u{H:Hp}{p:Addr}{b:List V}(e:H p=some (.tup b))(d:b.length<=1000)(c:∀t∈b,Ki H t):Deep H (.ref p):=⟨.tup e,λa f z q=>by cases z;rw[e]at q;cases q;exact⟨d,c⟩⟩
theorem U4{H:Hp}{cs:List (Option Int)}{p:Addr}{a:List V}(e:H p=some (.tup a))(d:a.length<=1000)(c:∀t∈a,Ki H t)(b:a.length≠cs.length∨∃t∈a,a0C t=false):BadI H cs (.ref p):=by
 refine⟨a6u e d c,.inl ?_⟩;rw[J8 e,Q0];rcases b with h|⟨t,f,h⟩
 .rw[bq h,dN]
 .rw[fH.mpr ⟨t,f,by rw[h];decide⟩,dO]
theorem a3j{H:Hp}{cs:List (Option Int)}{v:V}(h:Ki H v)(e:Tup H v=none):BadI H cs v:=⟨h.flat e,.inl (by rw[e];rfl)⟩
inductive IspOdd(vs:List V)(H:Hp)(Q:VK)(E:XK):Prop
 |mk (a b c t:Addr) (m:Nat) (cs:List (Option Int)) (zs:List V) (tss:LLI) (_:vs=[.ref a,.ref c,.ref t]) (_:PotAt H a b m) (_:m+100<2 ^ 60) (_:H c=some (.tup (cs.map cV))) (_:1<=cs.length) (_:cs.length<=8) (_:a3n cs) (_:H t=some (.tup zs)) (_:Its H zs tss) (_:zs.length<=200) (_:(∀v∈tss,v.length=cs.length/\Sm v)) (_:∀v H',BadT H' cs v->PotAt H' a b (m+10)->Off [a,b] H H'->Q v H'):IspOdd  vs H Q E
def b4Y:Sp:=λvs H Q E=>IspOdd  vs H Q E
theorem sc__law_odd:FnScope ["_law_pot_here","_law_caps_here","_law_some","_law_width_here","_law_plain","_law_bad","_law_at","_law_one"] ["_law_pot_here","_law_caps_here","_law_some"] (A3 S0):=⟨rfl,rfl,rfl,by decide +kernel,rfl,by decide +kernel,by decide +kernel⟩
theorem b6y(F:FunAt K mg "_law_odd" S0 ["_law_pot_here","_law_caps_here","_law_some"])(T:Tx mg)(d:Ok P w K mg base "_law_take" 1 ["_law_pot_here","_law_many"] a2k):Ok P w K mg base "_law_odd" 2 ["_law_pot_here","_law_caps_here","_law_some"] b4Y:=by
 refine F.okJ sc__law_odd (λvs H Q E h=>?_) (λr5 f A p6 s H vs Q E hr h=>?_)
 .obtain⟨a,b,c,t,m,cs,zs,tss,rfl,_⟩:=h;rfl
 .obtain⟨a,b,c,t,m,cs,zs,tss,rfl,hP,hm,hc,n1,n8,hco,ht,hI,hzl,hV,kk⟩:=h;have hu:=hr.u60;have hz:(3000:Nat)<=sizeLine:=by rw[aV];decide
  refine⟨_,(A2 (B2 (i:=3) sc__law_odd.nd rfl (Or.inl rfl) (G1 K rfl T.b_len (jaC (jv 1) jaN)))
 (A2 (B2 (i:=4) sc__law_odd.nd rfl (Or.inl rfl) (E1 (jaC O6 (jaC A4 (jaC J2 (jaC J2 (jaC a6m (jaC a6m (jaC (E1 jaN) (jaC a8x (jaC (E1 (jaC (D7 jaN) jaN)) (jaC (D7 (jaC (D7 jaN) jaN)) (jaC (D7 (jaC O6 jaN)) (jaC (D7 (jaC A4 jaN)) (jaC (D7 (jaC a6m jaN)) (jaC (b5p (a8v K rfl T.b_list (jaC (jv 2) jaN)) (E1 (jaC A4 jaN))) jaN))))))))))))))))
 (A2 (M1 (M5 K (jv 4) (jaC (E1 (jaC (a2R (D7 (jaC A4 jaN)) (jv 3)) jaN)) jaN)))
 (A2 (B2 (i:=5) sc__law_odd.nd rfl (Or.inl rfl) (E1 (jaC (a2R (D7 (jaC J2 jaN)) (jv 3)) (jaC (a2R (D7 (jaC A4 jaN)) (jv 3)) (jaC (a2R (D7 (jaC A4 jaN)) (M8 (jv 3) A4)) (jaC (a7o (D7 (jaC A4 jaN)) (a3T (jv 3) A4)) (jaC (b7R (E1 (jaC A4 jaN)) (jv 3)) (jaC (b6L a6m (jv 3)) jaN))))))))
 (A2 (B2 (i:=5) sc__law_odd.nd rfl (Or.inl rfl) (b5p (jv 5) (E1 (jaC (O5 (D7 (jaC (a8w A4) jaN)) (a7o (D7 (jaC A4 jaN)) (a3T (jv 3) A4))) (jaC (O5 (a7o (D7 (jaC A4 jaN)) (a3T (jv 3) A4)) (D7 (jaC O6 jaN))) (jaC (a2R (D7 (jaC (D7 (jaC A4 jaN)) jaN)) (jv 3)) (jaC O6 (jaC A4 (jaC (D7 jaN) jaN)))))))))
 (A2 (D9 (a7l K hu (B8 (N:=["_law_cap"]) (src:=[none]) (J0 K (jv 1)) (by show B6 _ _=true;rfl) (by rfl) (by rfl)
 (λ_ _ _ _ _=>(A8 (i:=0) (show(["_law_cap"]:List Str).Nodup by decide +kernel) rfl (Or.inl rfl))) (λ_ _ _ _ _=>(a0Z (a8s (jv 0) O6))) (λ_ _ _ _ _=>(jv 0))) (E1 jaN))
 (A2 (M1 (M5 K (jv 5) (jaC (D6 K rfl T.b_tuple (jaC (B8 (N:=["_law_cap"]) (src:=[none]) (J0 K (jv 1)) (by show B6 _ _=true;rfl) (by rfl) (by rfl)
 (λ_ _ _ _ _=>(A8 (i:=0) (show(["_law_cap"]:List Str).Nodup by decide +kernel) rfl (Or.inl rfl))) (λ_ _ _ _ _=>C0) (λ_ _ _ _ _=>(E9 K (E1 (jaC (jv 0) (jaC A4 jaN))) (a4W rfl T.b_int (jaC (b1X (jv 0) O6) jaN))))) jaN)) jaN)))
 (A5 (a2P (D6 K rfl T.b_tuple (jaC (B8 (N:=["_law_number","_law_cap"]) (src:=[none,none]) (a2Q K rfl T.b_zip (jaC (E9 K (jv 5) (a8w A4)) (jaC (jv 1) jaN))) (by show B6 _ _=true;rfl) (by rfl) (by rfl)
 (λ_ _ _ _ _=>(T3 K 2 (B4 (A8 (i:=0) (show(["_law_number","_law_cap"]:List Str).Nodup by decide +kernel) rfl (Or.inl rfl)) (B4 (A8 (i:=1) (show(["_law_number","_law_cap"]:List Str).Nodup by decide +kernel) rfl (Or.inl rfl)) M2)))) (λ_ _ _ _ _=>C0) (λ_ _ _ _ _=>(M8 (jv 0) (a4W rfl T.b_int (jaC (b4n (jv 1) O6) jaN))))) jaN)) (a7n (jv 5) (a8w A4)))))
 C2)
 (A2 (B2 (i:=6) sc__law_odd.nd rfl (Or.inl rfl) (A7 d (hr.mono (by omega)) rfl (jaC (jv 0) (jaC (M8 (G1 K rfl T.b_len (jaC (jv 2) jaN)) A4) jaN))))
 (A2 (B2 (i:=7) sc__law_odd.nd rfl (Or.inl rfl) (E9 K (jv 5) (A7 d (hr.mono (by omega)) rfl (jaC (jv 0) (jaC (G1 K rfl T.b_len (jaC (jv 5) jaN)) jaN)))))
 (A2 (D9 (a6i (A7 d (hr.mono (by omega)) rfl (jaC (jv 0) (jaC A4 jaN))) A4)
 (A5 (A9 (E9 K (jv 4) (A7 d (hr.mono (by omega)) rfl (jaC (jv 0) (jaC (G1 K rfl T.b_len (jaC (jv 4) jaN)) jaN))))))
 C2)
 (A5 (A9 (O5 (O5 (b5m K (jv 2) Y7 (Y0 (jv 6))) (D7 (jaC (jv 7) jaN))) (b5m K (jv 2) (Y0 (jv 6)) Y7))))))))))))),?_⟩
  refine⟨_,rfl,c,_,rfl,.inr (SqT.of hc),?_⟩;rw[ai]
  try dsimp only[B0,List.set]
  have BS:∀{H1 H2:Hp},H1 t=some (.tup zs)->Same H1 H2->H2 t=some (.tup zs):=λe s=>s _ _ e;have RS:∀{H1 H2:Hp}{v:V},PlB cs.length H1 v->Same H1 H2->PlB cs.length H2 v:=λh s=>h.keep (.same s);have RB:∀{H1 H2:Hp}{v:V},BadI H1 cs v->Same H1 H2->BadI H2 cs v:=λh s=>h.keep (.same s);have X:∀{σ:L2.St}(v:V),(∀H',Ki H' v)->(∀H',Tup H' v=none)->Mk (λH'=>H' t=some (.tup zs)) (PlB cs.length) σ (tC v):=λv hk he H' J _ q=>q v H' (Same.refl _) (Q8 (hk H') (he H'));have f3:∀{σ:L2.St}(v:V),(∀H',Ki H' v)->(∀H',Tup H' v=none)->Mk (λH'=>H' t=some (.tup zs)) (PlB cs.length) σ (a2e (L0 (tC v) P5)):=λv hk he H' J _ q=>a4N λp c7 s e=>q _ _ s (a8l e (by show 1<=1000;decide) (λu hu=>by rw[aD.mp hu];exact(hk _).flat (he _)) v (cQ _) (by rw[he];rfl));have cp:∀{σ:L2.St}{n:Nat}{te:TE}{ta:TA},Mk (λH'=>H' t=some (.tup zs)) (PlB cs.length) σ te->MkA (λH'=>H' t=some (.tup zs)) (PlB cs.length) σ n ta->MkA (λH'=>H' t=some (.tup zs)) (PlB cs.length) σ (n+1) (L0 te ta):=λh g=>a5W BS RS h g;have cb:∀{σ:L2.St}{n:Nat}{te:TE}{ta:TA},Mk (λ_=>True) (λH' v=>BadI H' cs v) σ te->MkA (λ_=>True) (λH' v=>BadI H' cs v) σ n ta->MkA (λ_=>True) (λH' v=>BadI H' cs v) σ (n+1) (L0 te ta):=λh g=>a5W (λ_ _=>trivial) RB h g;refine a4y ?_;refine a4R (n:=14) (B:=λH'=>H' t=some (.tup zs)) (R:=PlB cs.length) ?ms (by decide) ht λpl H1 p4 s1 p0 n2 d9=>?_
  case ms =>
   refine(cp (X _ (λ_=>.non) λ_=>rfl) (cp (X _ (λ_=>.int _) λ_=>rfl) (cp (X _ (λ_=>.bl _) λ_=>rfl) (cp (X _ (λ_=>.bl _) λ_=>rfl) (cp (X _ (λ_=>.str _) λ_=>rfl) (cp (X _ (λ_=>.str _) λ_=>rfl)
    (cp (λH' J _ q=>⟨bo _,λp hp=>q _ _ ((Same.refl H').upd hp) (Q8 (.lst A0) (a0p A0))⟩)
    (cp (λH' J _ q p hp=>q _ _ ((Same.refl H').upd hp) (Q8 (.dT A0) (b5x A0)))
    (cp (λH' J _ q=>⟨bo _,λp hp=>⟨by show 1<=sizeLine;omega,λp2 b4=>q _ _ (((Same.refl H').upd hp).upd b4) (Q8 (.lst A0) (a0p A0))⟩⟩)
    (cp (λH' J _ q=>⟨bo _,λp hp=>⟨by show 1<=sizeLine;omega,λp2 b4=>q _ _ (((Same.refl H').upd hp).upd b4) ?emp⟩⟩)
    (cp (f3 _ (λ_=>.non) λ_=>rfl) (cp (f3 _ (λ_=>.int _) λ_=>rfl) (cp (f3 _ (λ_=>.str _) λ_=>rfl)
    (cp (λH' J hb q=>?cat) a4Q))))))))))))))
   case emp =>
    have e1:upd (upd H' p (.tup [])) p2 (.tup [.ref p]) p=some (.tup []):=D5 A0 b4;refine a8l (t:=.ref p) A0 (by show 1<=1000;decide) (λu hu=>by rw[aD.mp hu];exact a6u e1 (bo _) λ_ z=>nomatch z) (cQ _) ?_;rw[J8 e1,Q0,bq (by show ¬0=cs.length;omega),dN]
   case cat =>
    refine⟨_,rfl,t,zs,rfl,.inr (SqT.of hb),λl2 g6=>⟨by show 1<=sizeLine;omega,λl3 m4=>?_⟩⟩;refine⟨l2,l3,zs,[.int 7],rfl,rfl,D5 A0 m4,A0,by show _+1<=_;omega,λl4 o8=>?_⟩;exact q _ _ ((((Same.refl H').upd g6).upd m4).upd o8) (Q8 (.lst A0) (a0p A0))
  have a8:=I0 (hP.same s1) d9;have s4:=s1.upd (o:=.lst pl) d9;have e4:upd H1 p4 (.lst pl) p4=some (.lst pl):=A0;have e0:∀v∈pl,PlB cs.length (upd H1 p4 (.lst pl)) v:=λv M=>RS (n2 v M) ((Same.refl H1).upd d9);generalize upd H1 p4 (.lst pl)=H4 at s4 e4 e0;have m2:H p4=none:=s1.free d9;clear n2 s1 d9
  try dsimp only[B0,List.set]
  refine⟨_,rfl,.inl ⟨rfl,_,SqL.of e4⟩,a4P (k:=cs.length) (λH' J q=>⟨_,rfl,q⟩) n1 (by omega) λp5 H5 s5 e5=>⟨by show 1<=sizeLine;omega,λl6 m5=>?_⟩⟩;have s6:=s5.upd (o:=.lst [.ref p5]) m5;have e6:upd H5 l6 (.lst [.ref p5]) l6=some (.lst [.ref p5]):=A0;generalize upd H5 l6 (.lst [.ref p5])=H6 at s6 e6;refine⟨p4,pl,_,rfl,rfl,s6 _ _ e4,by omega,?_⟩;have n5:Keep H6 (upd H6 p4 (.lst (pl++[.ref l6]))):=.put (s6 _ _ e4);have c1:∀v∈pl++[.ref l6],PlB cs.length (upd H6 p4 (.lst (pl++[.ref l6]))) v:=λv M=>by
   refine PlB.keep ?_ n5;rcases aC.mp M with g|g
   .exact RS (e0 v g) s6
   .rw[aD.mp g];exact Q8 (.lst e6) (a0p e6)
  have d3:=X6 (o:=.lst (pl++[.ref l6])) ((hP.same s4).same s6) a8;have c4:=S5 (o:=.lst (pl++[.ref l6])) ((s4.trans s6).off (l:=[a,b])) m2;have e7:upd H6 p4 (.lst (pl++[.ref l6])) p4=some (.lst (pl++[.ref l6])):=A0;have m6:(pl++[V.ref l6]).length=15:=by rw[aq,p0];rfl
  generalize upd H6 p4 (.lst (pl++[.ref l6]))=H7 at c1 d3 c4 e7;generalize pl++[.ref l6]=W at c1 m6 e7;clear n5 s6 e6 s5 e5 e0 e4 s4 m5;have h7:∀{σ:L2.St}(v:V),(∀H',Ki H' v)->(∀H',Tup H' v=none)->Mk (λ_=>True) (λH' v=>BadI H' cs v) σ (tC v):=λv hk he H' J _ q=>q v H' (Same.refl _) (a3j (hk H') (he H'));have c5:∀{H':Hp}{k:Nat}{x:V},Ki H' x->∀u∈List.replicate k x,Ki H' u:=λh u hu=>by rw[fi hu];exact h
  dsimp only;refine a4y ?_;refine a4R (n:=6) (B:=λ_=>True) (R:=λH' v=>BadI H' cs v) ?ms1 (by decide) trivial λb1 H8 p8 s8 r6 l8 k1=>?_
  case ms1 =>
   refine cb (λH' J _ q=>a4P (k:=cs.length) (λH' J q=>⟨_,rfl,q⟩) n1 (by omega) λp c7 s e=>q _ _ s (U4 e (by rw[bA];omega) (c5 (.bl true)) (.inr ⟨.bl true,List.mem_replicate.mpr ⟨by omega,rfl⟩,rfl⟩)))
    (cb (λH' J _ q=>a4P (k:=cs.length) (λH' J q=>⟨_,rfl,q⟩) n1 (by omega) λp c7 s e=>q _ _ s ?z)
    (cb (λH' J _ q=>a4P (k:=cs.length+1) (λH' J q=>⟨_,rfl,_,_,rfl,rfl,q⟩) (by omega) (by omega) λp c7 s e=>q _ _ s (U4 e (by rw[bA];omega) (c5 (.int 1)) (.inl (by rw[bA];omega))))
    (cb (λH' J _ q=>a4O (k:=cs.length-1) (λH' J q=>⟨_,rfl,_,_,rfl,rfl,by show J (.int ((cs.length:Int)-1)) H';rw[show((cs.length:Int)-1)=((cs.length-1:Nat):Int) by omega];exact q⟩) (by omega) λp c7 s e=>q _ _ s (U4 e (by rw[bA];omega) (c5 (.int 1)) (.inl (by rw[bA];omega))))
    (cb (λH' J _ q=>⟨by show 1<=sizeLine;omega,λl hl=>⟨_,rfl,l,cs.length,[.int 1],rfl,rfl,A0,by omega,by omega,by rw[bw];show 1*_<=_;omega,λp hp=>q _ _ (((Same.refl H').upd hl).upd hp) (a3j (.lst A0) (a0p A0))⟩⟩)
    (cb (λH' J _ q=>⟨_,rfl,_,cs.length,rfl,rfl,by decide,by omega,by omega,λz'=>q _ _ (Same.refl _) (a3j (.str _) rfl)⟩) a4Q)))))
   have eI:IT c7 (.ref p) (List.replicate cs.length 0):=⟨p,rfl,by rw[e,List.map_replicate]⟩;refine⟨Deep.ints eI (by rw[bA];omega),.inr ⟨_,eI,bA,λx L=>by rw[fi L];decide,?_⟩⟩;unfold a1F;rw[ek.mpr (λx L=>by rw[fi L];decide),dN]
  have c6:=s8.upd (o:=.lst b1) k1;have e8:upd H8 p8 (.lst b1) p8=some (.lst b1):=A0;have j5:∀v∈b1,BadI (upd H8 p8 (.lst b1)) cs v:=λv M=>RB (l8 v M) ((Same.refl H8).upd k1);generalize upd H8 p8 (.lst b1)=H9 at c6 e8 j5;clear l8 s8 k1
  try dsimp only[B0,List.set]
  refine a4y ?_;refine⟨_,rfl,?_⟩;refine a4R (n:=6) (B:=λ_=>True) (R:=λH' v=>BadI H' cs v) ?ms2 (by decide) trivial λb2 a5 g9 b7 r7 l9 Y=>?_
  case ms2 =>
   refine cb (λH' J _ q=>⟨_,rfl,by show 1<=sizeLine;omega,λp hp=>a4O (k:=cs.length-1) (λH' J q=>⟨_,rfl,_,_,rfl,rfl,by show J (.int ((cs.length:Int)-1)) H';rw[show((cs.length:Int)-1)=((cs.length-1:Nat):Int) by omega];exact q⟩) (by omega) λp2 H2 s2 e2=>⟨p,p2,_,_,rfl,rfl,s2 _ _ A0,e2,by rw[bA];show 1+_<=_;omega,λp3 H3 s3 e3=>q _ _ ((((Same.refl H').upd hp).trans s2).trans s3) (U4 e3 (by rw[aq,bA];show 1+_<=_;omega) (λu hu=>(aC.mp hu).elim (λg=>by rw[aD.mp g];exact .int _) λg=>c5 (.int 2) u g) (.inr ⟨_,aS _ (cQ _),rfl⟩))⟩⟩)
    (cb (λH' J _ q=>a4O (k:=cs.length-1) (λH' J q=>⟨_,rfl,_,_,rfl,rfl,by show J (.int ((cs.length:Int)-1)) H';rw[show((cs.length:Int)-1)=((cs.length-1:Nat):Int) by omega];exact q⟩) (by omega) λp2 H2 s2 e2=>⟨by show 1<=sizeLine;omega,λp hp=>⟨p2,p,_,_,rfl,rfl,D5 e2 hp,A0,by rw[bA];show _+1<=_;omega,λp3 H3 s3 e3=>q _ _ ((s2.upd hp).trans s3) (U4 e3 (by rw[aq,bA];show _+1<=_;omega) (λu hu=>(aC.mp hu).elim (λg=>c5 (.int 1) u g) λg=>by rw[aD.mp g];exact .non) (.inr ⟨.non,aO _ (cQ _),rfl⟩))⟩⟩)
    (cb (λH' J _ q=>⟨by show 1<=sizeLine;omega,λp1 o9=>⟨by show 1<=sizeLine;omega,λp2 b4=>⟨_,rfl,p2,[.ref p1],cs.length,rfl,rfl,A0,by simp,by omega,by show(1:Int)*_<=_;omega,λq' H3 s3 e3=>?rr⟩⟩⟩)
    (cb (h7 _ (λ_=>.non) λ_=>rfl) (cb (h7 _ (λ_=>.int _) λ_=>rfl)
    (cb (λH' J _ q=>⟨bo _,λp hp=>q _ _ ((Same.refl H').upd hp) (U4 A0 (bo _) (λ_ z=>nomatch z) (.inl (by show ¬0=cs.length;omega)))⟩) a4Q)))))
   rw[a8D,bw]at e3;have g3:H3 p1=some (.tup [.int 1]):=s3 _ _ (D5 A0 b4);exact q _ _ ((((Same.refl H').upd o9).upd b4).trans s3) (U4 e3 (by rw[bA];omega) (c5 (.tup g3)) (.inr ⟨.ref p1,List.mem_replicate.mpr ⟨by omega,rfl⟩,rfl⟩))
  have l5:upd a5 g9 (.lst b2) p8=some (.lst b1):=D5 (b7 _ _ e8) Y;refine⟨p8,g9,b1,b2,rfl,rfl,l5,A0,by omega,λy a7=>?_⟩;have f6:=((Same.refl a5).upd (o:=.lst b2) Y).upd (o:=.lst (b1++b2)) a7;have g2:upd (upd a5 g9 (.lst b2)) y (.lst (b1++b2)) y=some (.lst (b1++b2)):=A0;have a0:=I0 (((d3.same c6).same b7).same ((Same.refl a5).upd (o:=.lst b2) Y)) a7;generalize upd (upd a5 g9 (.lst b2)) y (.lst (b1++b2))=f8 at f6 g2;have a9:=(c6.trans b7).trans f6;have j6:∀v∈b1++b2,BadI f8 cs v:=λv M=>(aC.mp M).elim (λg=>RB (RB (j5 v g) b7) f6) λg=>RB (l9 v g) f6;have g5:(b1++b2).length=12:=by rw[aq];omega
  have i1:=d3.same a9;have b5:=c4.trans a9.off;have h8:=a9 _ _ e7;have e9:∀v∈W,PlB cs.length f8 v:=λv M=>RS (c1 v M) a9;have d8:H y=none:=by
   have h1:a5 y=none:=((Same.refl a5).upd (o:=.lst b2) Y).free a7;exact a0y c4 d3 ((c6.trans b7).free h1)
  have b9:p4≠y:=A6 (((Same.refl a5).upd (o:=.lst b2) Y) _ _ ((c6.trans b7) _ _ e7)) a7;generalize b1++b2=C at j6 g5 g2;clear c1 d3 c4 e7 j5 e8 c6 b7 f6 l9 Y a7 l5 a9
  try dsimp only[B0,List.set]
  have n9:Tk H f8:=Tk.pot hP b5;refine a0r (λσ H'=>Ex1 λ(bs:List V)=>An9 (σ=[some (.ref a),some (.ref c),some (.ref t),some (.int cs.length),some (.ref p4),some (.ref y),none,none]) (PotAt H' a b m) (Off [a,b] H H') (H' p4=some (.lst W)) ((∀v∈W,PlB cs.length H' v)) (H' y=some (.lst bs)) ((∀v∈bs,BadI H' cs v)) (1<=bs.length) (bs.length<=20)) ?fin λfin=>?_
  case fin =>
   rintro σ f9 ⟨bs,rfl,i2,f1,l0,k2,o3,j8,r3,r4⟩;have o0:Tk H f9:=Tk.pot hP f1;refine⟨_,rfl,_,rfl,t,zs,rfl,.inr (SqT.of (o0 _ _ ht)),_,_,rfl,rfl,a,b,_,_,rfl,i2,by omega,by omega,by omega,λn6 k6 q6 q7 d2 a1=>?_⟩;obtain⟨k,rfl⟩:∃k:Nat,n6=k:=⟨n6.toNat,by omega⟩;have hk:k<=zs.length:=by omega
   have i0:=a1 _ _ a0 o3
   try dsimp only[B0,List.set]
   refine⟨_,rfl,_,rfl,_,rfl,y,bs,rfl,.inl (SqL.of i0),a,b,_,_,rfl,d2,by omega,by omega,by omega,λh4 g0 q8 q9 b8 a2=>?_⟩;obtain⟨one,i6⟩:∃x,bs[h4.toNat]?=some x:=⟨bs[h4.toNat],ak (by omega)⟩;refine⟨y,bs,_,one,rfl,rfl,SqL.of (a2 _ _ a0 i0),by rw[show h4=((h4.toNat:Nat):Int) by omega];exact a0J i6,?_⟩;have j0:=(Keep.pot i2 d2 a1).trans (Keep.pot d2 b8 a2);have g7:BadI g0 cs one:=(j8 one (aF i6)).keep j0;have l1:=a2 _ _ a8 (a1 _ _ a8 l0);have k3:∀v∈W,PlB cs.length g0 v:=λv M=>(k2 v M).keep j0;have c2:=(f1.trans a1).trans a2
   try dsimp only[B0,List.set]
   refine⟨_,rfl,a,b,_,3,rfl,b8,by omega,by decide,by decide,λr8 g1 _ _ a6 O=>⟨rfl,_,rfl,a5a (λe=>?_) (λe=>?_)⟩⟩
   .have e415:=O _ _ a8 l1;refine⟨_,rfl,_,rfl,_,rfl,p4,W,rfl,.inl (SqL.of e415),a,b,_,_,rfl,a6,by omega,by omega,by omega,λh5 c8 r0 r1 i3 b6=>?_⟩;obtain⟨x,L⟩:∃x,W[h5.toNat]?=some x:=⟨W[h5.toNat],ak (by omega)⟩;refine⟨p4,W,_,x,rfl,rfl,SqL.of (b6 _ _ a8 e415),by rw[show h5=((h5.toNat:Nat):Int) by omega];exact a0J L,?_⟩;have i9:=(k3 x (aF L)).keep ((Keep.pot b8 a6 O).trans (Keep.pot a6 i3 b6));exact kk x c8 ⟨i9.1,.inl i9.2⟩ (i3.mono (by omega)) ((c2.trans O).trans b6)
   have g8:=g7.keep (Keep.pot b8 a6 O);have c3:=c2.trans O;have j3:Tk H g1:=Tk.pot hP c3;have i8:=j3 _ _ ht;have m1:=j3.its hI;refine⟨_,rfl,?_⟩
   try dsimp only[J9]
   refine⟨_,rfl,(k:Int),rfl,b5B i8 λf4 c8 q3 o4=>?_⟩;refine⟨_,rfl,by show 1<=sizeLine;omega,λh0 m9=>?_⟩;have I:=(Same.refl c8).upd (o:=.tup [one]) m9;have d0:upd c8 h0 (.tup [one]) h0=some (.tup [one]):=A0;generalize upd c8 h0 (.tup [one])=U at I d0;have j9:(zs.take k).length=k:=by rw[aY];omega
   have g6:(zs.drop k).length=zs.length-k:=bV;refine⟨f4,h0,_,_,rfl,rfl,I _ _ o4,d0,by rw[j9];show k+1<=_;omega,λp9 k7 q4 b3=>?_⟩;have f7:=(q3.trans I).trans q4;refine⟨_,rfl,_,rfl,(k:Int),rfl,?_⟩;dsimp only[J9];refine b5C (f7 _ _ i8) hk λq0 j4 h6 o5=>?_;refine⟨p9,q0,_,_,rfl,rfl,h6 _ _ b3,o5,by rw[aq,j9,g6];show k+1+_<=_;omega,λf5 k8 q5 g4=>?_⟩;have a3:=(f7.trans h6).trans q5;have c0:=RB g8 a3;have d1:=m1.same a3;have m0:∀u∈zs,Deep k8 u:=λu hu=>by
    obtain⟨i,hi⟩:=gb hu;obtain⟨r,h1,h2,h3⟩:=d1.mem hi;exact Deep.ints h3 (by rw[(hV r h1).1];omega)
   have i5:(zs.take k++[one]++zs.drop k).length<=1000:=by rw[aq,aq,j9,g6];show k+1+_<=_;omega
   refine kk _ k8 ⟨⟨.tup g4,λa' ts z q=>?_⟩,?_⟩ ((a6.same a3).mono (by omega)) (c3.trans a3.off)
   .cases z;rw[g4]at q;cases q;refine⟨i5,λu hu=>?_⟩;rcases aC.mp hu with g|g
    .rcases aC.mp g with g|g
     .exact m0 u (bZ g)
     .rw[aD.mp g];exact c0.1
    .exact m0 u (cG g)
   .rcases c0.2 with h|⟨xs,hx1,hx2,hx3,hx4⟩
    .refine .inl ?_;rw[Q3 (J8 g4)];exact fH.mpr ⟨one,aS _ (aO _ (cQ _)),by rw[h];decide⟩
    .refine .inr ⟨f5,_,tss.take k++[xs]++tss.drop k,rfl,g4,((d1.take k).app (Its.one hx1)).app (d1.drop k),i5,λu hu=>?_,?_⟩
     .rcases aC.mp hu with g|g
      .rcases aC.mp g with g|g
       .have:=hV u (bZ g);exact⟨by omega,this.2⟩
       .rw[aD.mp g];exact⟨by omega,λz hz=>by have:=hx3 z hz;omega⟩
      .have:=hV u (cG g);exact⟨by omega,this.2⟩
     .exact fH.mpr ⟨xs,aS _ (aO _ (cQ _)),by rw[hx4];decide⟩
  have d5:=n9 _ _ hc;refine⟨_,rfl,c,rfl,⟨_,SqT.of d5⟩,?_⟩;refine K7 (K:=K) (xs:=cs.map cV) (by rw[ai];omega) (λi ys H'=>Same f8 H'/\ys=((cs.take i).filterMap id).map V.int/\ys.length<=i) ⟨Same.refl _,rfl,aj _⟩ (λi ys H' _ h=>⟨SqT.of (h.1 _ _ d5),h.2.2⟩) ?_ ?_
  .rintro i x ys H' L ⟨s',hys,hyl⟩;obtain⟨o,ho,rfl⟩:∃o,cs[i]?=some o/\x=cV o:=by
    rw[aP]at L;cases ho:cs[i]? with
    |none=>rw[ho]at L;cases L
    |some o=>rw[ho]at L;cases L;exact⟨o,rfl,rfl⟩
   have et:(cs.take (i+1)).filterMap id=(cs.take i).filterMap id++o.toList:=by rw[bf,ho,List.filterMap_append];cases o<;>rfl
   refine⟨Sub.one,?_⟩;cases o with
   |none=>exact⟨_,rfl,rfl,false,rfl,C6 ⟨s',by rw[et,hys];simp,by omega⟩⟩
   |some z=>exact⟨_,rfl,rfl,true,rfl,E3 ⟨_,rfl,s',by rw[et,hys];simp;rfl,by rw[aq];show _+1<=_;omega⟩⟩
  rintro ys f9 ⟨q1,rfl,_⟩ k5 m7;rw[ai,bg];have g3:upd f9 k5 (.lst ((cs.filterMap id).map V.int)) k5=some (.lst ((cs.filterMap id).map V.int)):=A0;have n7:=q1.upd (o:=.lst ((cs.filterMap id).map V.int)) m7;generalize upd f9 k5 (.lst ((cs.filterMap id).map V.int))=k6 at g3 n7;refine⟨bo _,λp7 i7=>?_⟩;have G:=n7.upd (o:=.lst []) i7;refine⟨1,_,by decide,EqV.ints (k:=false) (ms:=[]) (SqL.of (D5 g3 i7)) (SqL.of A0),⟨_,_,rfl,rfl⟩,_,rfl,a5a (λew=>?_) (λew=>?_)⟩
  .have hne:cs.filterMap id≠[]:=by simpa using ew
   have o6:∃(j:Nat) (z:Int),j<cs.length/\cs[j]?=some (some z):=by
    cases hf:cs.filterMap id with
    |nil=>exact absurd hf hne
    |cons z l =>
     have k4:z∈cs.filterMap id:=by rw[hf];exact ar
     obtain⟨o,ho,e⟩:=cF.mp k4;obtain⟨j,hj⟩:=gb ho;have e:o=some z:=e;exact⟨j,z,(aN.mp hj).1,by rw[hj,e]⟩
   generalize r2:upd k6 p7 (.lst [])=g0 at G;have d6:=G _ _ d5;have Z:=G _ _ g2;have m3:∀{i:Nat}{x:V},(cs.map cV)[i]?=some x->∃o,cs[i]?=some o/\x=cV o:=λ{i x} L=>by
    rw[aP]at L;cases ho:cs[i]? with
    |none=>rw[ho]at L;cases L
    |some o=>rw[ho]at L;cases L;exact⟨o,rfl,rfl⟩
   try dsimp only[B0,List.set]
   refine⟨_,rfl,.inl ⟨rfl,_,SqL.of Z⟩,_,rfl,c,rfl,⟨_,SqT.of d6⟩,?_⟩;refine K7 (K:=K) (xs:=cs.map cV) (by rw[ai];omega) (λi ys H'=>Same g0 H'/\ys=((cs.take i).map λo=>o.getD 0).map V.int/\ys.length<=i) ⟨Same.refl _,rfl,aj _⟩ (λi ys H' _ h=>⟨SqT.of (h.1 _ _ d6),h.2.2⟩) ?_ ?_
   .rintro i x ys H' L ⟨s',hys,hyl⟩;obtain⟨o,ho,rfl⟩:=m3 L;have et:(cs.take (i+1)).map (λo=>o.getD 0)=(cs.take i).map (λo=>o.getD (0:Int))++[o.getD 0]:=by rw[bf,ho,b_];rfl
    refine⟨Sub.one,?_⟩;refine⟨_,rfl,by show 2<=sizeLine;omega,λl hl=>⟨_,rfl,rfl,.inr ⟨_,rfl,l,[cV o,.int 0],_,.int (o.getD 0),rfl,rfl,SqL.of A0,?_,s'.upd hl,by rw[et,hys,b_];rfl,by rw[aq];show _+1<=_;omega⟩⟩⟩;cases o<;>rfl
   rintro ys g1 ⟨q2,rfl,_⟩ f4 m8;rw[ai,bg];refine⟨f4,_,rfl,.inl ⟨SqL.of A0,λD n3=>?_⟩⟩;have I:=(q2.upd (o:=.lst ((cs.map λo=>o.getD 0).map V.int)) m8).upd (o:=.tup ((cs.map λo=>o.getD 0).map V.int)) n3;have d0:upd (upd g1 f4 (.lst ((cs.map λo=>o.getD 0).map V.int))) D (.tup ((cs.map λo=>o.getD 0).map V.int)) D=some (.tup ((cs.map λo=>o.getD 0).map V.int)):=A0;generalize upd (upd g1 f4 (.lst ((cs.map λo=>o.getD 0).map V.int))) D (.tup ((cs.map λo=>o.getD 0).map V.int))=U at I d0;refine⟨y,C,_,rfl,rfl,I _ _ Z,by omega,?_⟩;have o1:Tk U (upd U y (.lst (C++[.ref D]))):=Tk.put (I _ _ Z);have j1:Keep U (upd U y (.lst (C++[.ref D]))):=.put (I _ _ Z);have b3:upd U y (.lst (C++[.ref D])) y=some (.lst (C++[.ref D])):=A0;have h9:upd U y (.lst (C++[.ref D])) p4=some (.lst W):=by rw[A1 b9];exact I _ _ (G _ _ h8)
   have i4:=X6 (o:=.lst (C++[.ref D])) ((i1.same G).same I) a0;have f2:=S5 (o:=.lst (C++[.ref D])) ((b5.trans G.off).trans I.off) d8;have b0:=o1 _ _ d0;have d7:=o1 _ _ (I _ _ d6);have f0:∀v∈W,PlB cs.length (upd U y (.lst (C++[.ref D]))) v:=λv M=>(RS (RS (e9 v M) G) I).keep j1;have d4:∀v∈C,BadI (upd U y (.lst (C++[.ref D]))) cs v:=λv M=>(RB (RB (j6 v M) G) I).keep j1;generalize upd U y (.lst (C++[.ref D]))=k7 at b3 h9 i4 f2 b0 d7 f0 d4;have k0:atI (C++[V.ref D]) (-1)=some (.ref D):=b4N (by rw[aq,aZ (by simp)];simp);refine⟨_,rfl,_,rfl,y,_,_,.ref D,rfl,rfl,SqL.of b3,k0,_,rfl,true,true,D,c,rfl,⟨_,SqT.of b0⟩,⟨_,SqT.of d7⟩,?_⟩;refine W5 (K:=K) (xs:=(cs.map λo=>o.getD 0).map V.int) (zs:=cs.map cV) (by rw[ai,ai];omega) (λi ys H'=>Same k7 H'/\ys=((cs.take i).map λo=>match o with|none=>0|some z=>z+1).map V.int/\ys.length<=i) ⟨Same.refl _,rfl,aj _⟩ (λi ys H' _ _ h=>⟨SqT.of (h.1 _ _ b0),SqT.of (h.1 _ _ d7),h.2.2⟩) ?_ ?_
   .rintro i x z ys H' pz L k4 ⟨s',hys,hyl⟩ hpz;obtain⟨o,ho,rfl⟩:=m3 k4;obtain rfl:x=.int (o.getD 0):=by
     rw[aP,aP,ho]at L;cases L;rfl
    have et:(cs.take (i+1)).map (λo=>match o with|none=>(0:Int)|some z=>z+1)=(cs.take i).map (λo=>match o with|none=>0|some z=>z+1)++[match o with|none=>0|some z=>z+1]:=by rw[bf,ho,b_];rfl
    refine⟨pz,[.int (o.getD 0),cV o],rfl,SqT.of A0,rfl,.int (o.getD 0),[cV o],rfl,cV o,[],rfl,rfl,b8c,?_⟩;refine⟨_,rfl,_,rfl,rfl,.inr ⟨_,rfl,_,_,rfl,rfl,s'.upd hpz,?_,by rw[aq];show _+1<=_;omega⟩⟩;rw[et,hys,b_];cases o with
    |none=>rfl
    |some z=>rfl
   rintro ys j4 ⟨h6,rfl,_⟩ f5 n0;rw[ai,ai,ai,Nat.min_self,bg];refine⟨f5,_,rfl,.inl ⟨SqL.of A0,λS n4=>?_⟩⟩;have a4:=(h6.upd (o:=.lst ((cs.map λo=>match o with|none=>0|some z=>z+1).map V.int)) n0).upd (o:=.tup ((cs.map λo=>match o with|none=>0|some z=>z+1).map V.int)) n4;have k9:upd (upd j4 f5 (.lst ((cs.map λo=>match o with|none=>0|some z=>z+1).map V.int))) S (.tup ((cs.map λo=>match o with|none=>0|some z=>z+1).map V.int)) S=some (.tup ((cs.map λo=>match o with|none=>0|some z=>z+1).map V.int)):=A0;generalize upd (upd j4 f5 (.lst ((cs.map λo=>match o with|none=>0|some z=>z+1).map V.int))) S (.tup ((cs.map λo=>match o with|none=>0|some z=>z+1).map V.int))=c9 at a4 k9;have j7:(C++[V.ref D]).length=13:=by rw[aq,g5];rfl
   refine⟨_,rfl,_,rfl,y,C++[.ref D],-1,12,rfl,rfl,a4 _ _ b3,by rw[j7];rfl,?_⟩;have l7:(C++[V.ref D]).set 12 (.ref S)=C++[.ref S]:=by rw[List.set_append,ao (by omega),g5];rfl
   rw[l7];have j2:Keep c9 (upd c9 y (.lst (C++[.ref S]))):=.put (a4 _ _ b3);have o2:Tk c9 (upd c9 y (.lst (C++[.ref S]))):=Tk.put (a4 _ _ b3);refine fin _ _ ⟨C++[.ref S],rfl,X6 (i4.same a4) a0,S5 (f2.trans a4.off) d8,by rw[A1 b9];exact a4 _ _ h9,(λv M=>(RS (f0 v M) a4).keep j2),A0,(λv M=>?_),by rw[aq];show 1<=_+1;omega,by rw[aq,g5];show 12+1<=20;decide⟩;rcases aC.mp M with g|g
   .exact(RB (d4 v g) a4).keep j2
   rw[aD.mp g];have eI:IT (upd c9 y (.lst (C++[.ref S]))) (.ref S) (cs.map λo=>match o with|none=>0|some z=>z+1):=⟨S,rfl,o2 _ _ k9⟩;refine⟨Deep.ints eI (by rw[ai];omega),.inr ⟨_,eI,ai _,λx L=>?_,?_⟩⟩
   .obtain⟨o,ho,rfl⟩:=aW.mp L;cases o with
    |none=>exact⟨fL _,by decide⟩
    |some z=>have:=hco _ ho z rfl;show 0<=z+1/\z+1<=1000;omega
   .unfold a1F;have hw:Wi cs (cs.map λo=>match o with|none=>0|some z=>z+1)=false:=by
     cases e:Wi cs (cs.map λo=>match o with|none=>0|some z=>z+1)with
     |false=>rfl
     |true =>
      obtain⟨j,z,hj,o7⟩:=o6;have:=(a0M (ai _)).mp e j hj;rw[az,az,aP,o7]at this;have:=bJ (show decide (z+1<=z)=true from this);omega
    rw[hw,dO]
  .exact fin _ _ ⟨C,rfl,i1.same G,b5.trans G.off,G _ _ h8,(λv M=>RS (e9 v M) G),G _ _ g2,(λv M=>RB (j6 v M) G),by omega,by omega⟩
end
end K18
namespace K18
open PySem PySem.Spec PyProof.Rows L2
theorem b5A{K:PySem.W.Frag}{H H1 H':Hp}{a p b:Addr}{xs:List V}(h:SqL K H a xs)(hp:H p=none)(d:H b=none)(s:Same H H1)(o:Off [p,b] H1 H'):SqL K H' a xs:=by
 rcases h with h|h
 .left;have c:∀{ob},H a=some ob->a∉[p,b]:=λe=>by
   simp only[aE,bF,cS,not_or];exact⟨A6 e hp,A6 e d⟩
  rcases h with e|⟨ob,e⟩
  .exact .inl (o _ _ (c e) (s _ _ e))
  .exact .inr ⟨ob,o _ _ (c e) (s _ _ e)⟩
 .exact .inr h
def Vy(H:Hp)(cs:List (Option Int))(f:Prop)(v:V):Prop:=Dp3 H v/\(vcs cs.length H v=false∨∃a zs tss,v=.ref a/\H a=some (.tup zs)/\Its H zs tss/\zs.length<=1000/\(∀t∈tss,t.length<=1000/\Sm t)/\(f->tss.all (a1F cs)=false))
theorem BadT.vy{H:Hp}{cs:List (Option Int)}{v:V}(h:BadT H cs v):Vy H cs True v:=⟨h.1,h.2.imp id λ⟨a,zs,b,c,d,e,f,g,i⟩=>⟨a,zs,b,c,d,e,f,g,λ_=>i⟩⟩
theorem Vy.same{H H':Hp}{cs:List (Option Int)}{f:Prop}{v:V}(h:Vy H cs f v)(s:Same H H'):Vy H' cs f v:=⟨h.1.keep (.same s),h.2.imp (λe=>by rw[a0o h.1 (.same s)];exact e) λ⟨a,zs,b,c,d,g,i⟩=>⟨a,zs,b,c,s _ _ d,g.same s,i⟩⟩
theorem b0u{H:Hp}{cs:List (Option Int)}{a:Addr}{zs:List V}{tss:LLI}(c:H a=some (.tup zs))(b:Its H zs tss)(d:zs.length<=1000)(e:∀t∈tss,t.length<=1000/\Sm t):Vy H cs False (.ref a):=⟨Dp3.its c b d λr f=>(e r f).1,.inr ⟨a,zs,tss,rfl,c,b,d,e,False.elim⟩⟩
theorem b0Q{H:Hp}{Q:VK}{E:XK}{ra c:Addr}{rss:LLI}{cs:List (Option Int)}{f g:Prop}{x y:V}(Y:SyAt H ra c rss cs)(m:Vy H cs f x)(e:Vy H cs g y)(j:f∨g)(q:∀H',Same H H'->Q (.bl false) H'):a2l [.ref ra,.ref c,x,y] H Q E∨b0H [.ref ra,.ref c,x,y] H Q E:=by
 obtain⟨F,I,J,K⟩:=Y.ex;rcases m with⟨dx,m|⟨a,zs,o,rfl,u,r,B,C,z⟩⟩
 .exact .inr ⟨ra,c,x,y,cs,rfl,Y.hc,dx,e.1,.inl m,q⟩
 rcases e with⟨p,e|⟨b,G,n,rfl,w,t,k,l,A⟩⟩
 .exact .inr ⟨ra,c,_,y,cs,rfl,Y.hc,dx,p,.inr e,q⟩
 refine .inl ⟨ra,c,a,b,F,zs,G,rss,o,n,cs,rfl,I,J,K,Y.hc,Y.n1,Y.n2,Y.hR,u,r,B,w,t,k,λv D=>(aC.mp D).elim (C v) (l v),λb' H' s i=>?_⟩;cases b' with
 |false=>exact q H' s
 |true =>
  have d:=(i.mp rfl).fit;rw[List.all_append,aL]at d;rcases j with h|h
  .rw[z h]at d;cases d.1
  .rw[A h]at d;cases d.2
theorem a8Q{rss:LLI}{cs:List (Option Int)}{F W:LLI}{k:Nat}(h:Wk rss cs F W [] k)(d:W.length<=150):∀v∈W,v.length=cs.length/\(∀x∈v,0<=x/\x<=1000)/\0<v.sum:=λv b=>by
 obtain⟨e,c,f,g,j,l,m,n⟩:=h.lv;obtain⟨i,o,p,lv⟩:=c v b;refine⟨lv.len,λx a=>⟨lv.nn x a,?_⟩,by rw[lv.sum];omega⟩;have:=b5j lv.nn x a;rw[lv.sum]at this;omega
theorem SyAt.tk{H H':Hp}{a c:Addr}{rss:LLI}{cs:List (Option Int)}(h:SyAt H a c rss cs)(s:Tk H H'):SyAt H' a c rss cs:=by
 obtain⟨⟨g,h1,h2,b⟩,d,e,f,hR⟩:=h;exact⟨⟨g,s _ _ h1,s.its h2,b⟩,s _ _ d,e,f,hR⟩
section
variable {P:Program}{w:World}{K:PySem.W.Frag}{mg:Str->Option Value}{base:Heap}
theorem sc_law:FnScope ["_law_script","_law_pot_here","_law_rows_here","_law_caps_here","_law_found_here","_law_told","_law_paper","_law_k","_law_odd_here","_law_other"] ["_law_script"] (A3 a2s):=⟨rfl,rfl,rfl,by decide +kernel,rfl,by decide +kernel,by decide +kernel⟩
theorem b6z{f:Addr}{fd:FuncData}(F':Fun K "law" "law" a2s f fd)(T:Tx mg)(o:Ok P w K mg base "_law_pot" 1 ["_law_script"] (b4X K))(j:Ok P w K mg base "_law_system" 9 ["_law_pot_here","_law_most"] a5x)(d:Ok P w K mg base "_law_odd" 2 ["_law_pot_here","_law_caps_here","_law_some"] b4Y)(c:Ok P w K mg base "shows" 6 ["rows","caps","told","paper"] (λvs H Q E=>a2l vs H Q E∨b0H vs H Q E)) :
  FnOk P w K mg base CX0 10 f fd ["_law_script"] (a8a K):=by
 refine F'.okJ sc_law (λvs H Q E h=>?_) (λb8 A b5 s H vs Q E D h=>?_)
 .obtain⟨a,ns,rfl,_⟩:=h;rfl
 .obtain⟨a,ns,rfl,hS,hl,kk⟩:=h;have hu:=D.u60;refine⟨_,(A2 (B2 (i:=1) sc_law.nd rfl (Or.inl rfl) (A7 o (D.mono (by omega)) rfl (jaC (jv 0) jaN)))
 (A2 (a2P (A7 j (D.mono (by omega)) rfl (jaC (jv 1) (jaC A4 jaN))) (T3 K 3 (B4 (A8 (i:=2) sc_law.nd rfl (Or.inl rfl)) (B4 (A8 (i:=3) sc_law.nd rfl (Or.inl rfl)) (B4 (A8 (i:=4) sc_law.nd rfl (Or.inl rfl)) M2)))))
 (A2 (D9 (b1Z (jv 4) O6)
 (A5 (A9 J2))
 C2)
 (A2 (a2P (jv 4) (T3 K 2 (B4 (A8 (i:=5) sc_law.nd rfl (Or.inl rfl)) (B4 (A8 (i:=6) sc_law.nd rfl (Or.inl rfl)) M2))))
 (A2 (P6 (J7 rfl T.b_range (jaC (M8 A4 (b6J rfl T.b_min (jaC A4 (jaC (G1 K rfl T.b_len (jaC (jv 0) jaN)) jaN)))) jaN)) (A8 (i:=7) sc_law.nd rfl (Or.inl rfl))
 (A2 (B2 (i:=8) sc_law.nd rfl (Or.inl rfl) (A7 d (D.mono (by omega)) rfl (jaC (jv 1) (jaC (jv 3) (jaC (jv 5) jaN)))))
 (A2 (D9 (a0Y false (A7 c (D.mono (by omega)) rfl (jaC (jv 2) (jaC (jv 3) (jaC (jv 8) (jaC (jv 6) jaN))))) J2)
 (A5 (A9 J2))
 C2)
 (A2 (B2 (i:=9) sc_law.nd rfl (Or.inl rfl) (A7 d (D.mono (by omega)) rfl (jaC (jv 1) (jaC (jv 3) (jaC (jv 6) jaN)))))
 (A5 (D9 (a2O (a3Q (a0Y false (A7 c (D.mono (by omega)) rfl (jaC (jv 2) (jaC (jv 3) (jaC (jv 5) (jaC (jv 9) jaN))))) J2) (a0X (a0Y false (A7 c (D.mono (by omega)) rfl (jaC (jv 2) (jaC (jv 3) (jaC (jv 8) (jaC (jv 9) jaN))))) J2))))
 (A5 (A9 J2))
 C2))))))
 (A5 (A9 (b6G true (A7 c (D.mono (by omega)) rfl (jaC (jv 2) (jaC (jv 3) (jaC (jv 5) (jaC (jv 6) jaN))))) J2)))))))),?_⟩
  have hz:(3000:Nat)<=sizeLine:=by rw[aV];decide
  refine⟨_,rfl,a,ns,rfl,hS,hl,λp b H1 fp fb a8 s1=>?_⟩
  try dsimp only[B0,List.set]
  refine⟨_,rfl,p,b,_,150,_,rfl,rfl,by decide,a8,by decide,λq3 ra ca fv a5 I M a6 Y3 n8 b9 a3 a7 R a4=>?_⟩;refine⟨q3,_,rfl,SqT.of a6,rfl,.ref ra,[.ref ca,fv],rfl,.ref ca,[fv],rfl,fv,[],rfl,rfl,?_⟩
  try dsimp only[B0,List.set]
  have a2:∀r∈a5,r.length=I.length:=λr b2=>(Y3.hR r b2).1;rcases a7 with rfl|⟨q,t,pp,zs,a0,ws,F,W,k,rfl,eq,et,hI,U,b3,O,hW,wk,b1⟩
  .exact⟨_,rfl,rfl,_,rfl,E3 (kk _)⟩
  refine⟨_,rfl,rfl,_,rfl,C6 ?_⟩;refine⟨_,rfl,q,_,rfl,SqT.of eq,rfl,.ref t,[.ref pp],rfl,.ref pp,[],rfl,rfl,?_⟩
  try dsimp only[B0,List.set]
  have z:=a8Q wk (by omega);have C:∀v∈a0,v∈W:=λv l=>(wk.lv.2.2.1 v (U.mem_iff.mp l)).1;have c1:zs.length<=150:=by
   rw[hI.1,U.length_eq];have:=wk.lv.2.2.2;omega
  have c0:ws.length<=150:=by rw[hW.1];omega
  have pap:=wk.pap a2;have u:∀v∈W,v.length=I.length/\Sm v:=λv l=>⟨(z v l).1,λx hx=>by have:=(z v l).2.1 x hx;omega⟩;have a9:SqL K M a (ns.map V.int):=b5A hS fp fb s1 a4;refine⟨_,rfl,a,_,rfl,.inl a9,_,_,rfl,_,_,rfl,rfl,?_⟩;rw[ai];obtain⟨N,hN,b7⟩:∃N:Nat,(6:Int)+(if (ns.length:Int)<34 then(ns.length:Int)else 34)=N/\N<=40:=by
   by_cases h:(ns.length:Int)<34
   .exact⟨6+ns.length,by rw[ay h];push_cast;rfl,by omega⟩
   .exact⟨40,by rw[ao h];rfl,by omega⟩
  refine⟨(N:Int),aQ (λt=>[V.int t]) hN,by omega,by omega,?_⟩;rw[bw];refine a1b (lo:=0) (n:=N) (λi σ H'=>Ex3 λo7 o8 o9=>An3 (σ=[some (.ref a),some (.ref p),some (.ref ra),some (.ref ca),some (.ref q),some (.ref t),some (.ref pp),o7,o8,o9]) (PotAt H' p b (200+20*i)) (Off [p,b] M H')) ⟨none,none,none,rfl,R,Off.refl _ _⟩ ?_ ?_
  .rintro i σ H4 hi ⟨o7,o8,o9,rfl,hP4,off4⟩
   try dsimp only[B0,List.set]
   have m:Tk M H4:=Tk.pot R off4;have Y4:=Y3.tk m;refine⟨_,rfl,_,rfl,_,rfl,p,b,ca,t,_,I,zs,a0,rfl,hP4,by omega,Y4.hc,Y4.n1,n8,a3,m _ _ et,m.its hI,by omega,λv l=>u v (C v l),λx H5 hx S J=>?_⟩;have Y:Tk M H5:=m.trans (Tk.pot hP4 J);have Y5:=Y3.tk Y
   try dsimp only[B0,List.set]
   have vp:∀{H':Hp},Tk M H'->Vy H' I False (.ref pp):=λk=>b0u (k _ _ O) (k.its hW) (by omega) λv l=>⟨by rw[(u v l).1];omega,(u v l).2⟩;have vt:∀{H':Hp},Tk M H'->Vy H' I False (.ref t):=λk=>b0u (k _ _ et) (k.its hI) (by omega) λv l=>⟨by rw[(u v (C v l)).1];omega,(u v (C v l)).2⟩;refine⟨_,rfl,_,rfl,_,rfl,_,rfl,b0Q Y5 hx.vy (vp Y) (.inl trivial) λH6 X=>⟨rfl,_,rfl,C6 ?_⟩⟩;have G:=Y.trans (Tk.same X);have Y6:=Y3.tk G;refine⟨_,rfl,_,rfl,_,rfl,p,b,ca,pp,_,I,ws,W,rfl,S.same X,by omega,Y6.hc,Y6.n1,n8,a3,G _ _ O,G.its hW,by omega,u,λy H7 hy a1 B=>?_⟩;have L:Tk H6 H7:=Tk.pot (S.same X) B;have Z:=G.trans L;have b4:BadT H7 I x:=(hx.keep (.same X) λa xs e=>X _ _ e).keep (Keep.pot (S.same X) a1 B) L
   try dsimp only[B0,List.set]
   refine⟨_,rfl,_,rfl,_,rfl,_,rfl,b0Q (Y3.tk Z) (vt Z) hy.vy (.inr trivial) λH8 s8=>⟨rfl,_,rfl,C6 ?_⟩⟩;have b6:=Z.trans (Tk.same s8);refine⟨_,rfl,_,rfl,_,rfl,_,rfl,b0Q (Y3.tk b6) (b4.vy.same s8) (hy.vy.same s8) (.inl trivial) λH9 s9=>⟨rfl,_,rfl,C6 ?_⟩⟩;exact⟨_,_,_,rfl,((a1.same s8).same s9).mono (by omega),(((off4.trans J).trans (X.off.trans B)).trans s8.off).trans s9.off⟩
  .rintro σ H4 ⟨o7,o8,o9,rfl,hP4,off4⟩;have m:Tk M H4:=Tk.pot R off4;have Y4:=Y3.tk m;obtain⟨us,y1,y2,y3⟩:=Y4.ex;refine⟨_,rfl,_,rfl,_,rfl,_,rfl,.inl ⟨ra,ca,t,pp,us,zs,ws,a5,a0,W,I,rfl,y1,y2,y3,Y4.hc,Y4.n1,Y4.n2,Y4.hR,m _ _ et,m.its hI,by omega,m _ _ O,m.its hW,by omega,(λv l=>?_),λb' H5 s5 b0=>?_⟩⟩
   .have:=(aC.mp l).elim (λg=>u v (C v g)) (u v);exact⟨by rw[this.1];omega,this.2⟩
   .obtain rfl:b'=true:=b0.mpr (b3j a2 wk U b3 (λv l=>⟨(z v l).1,λx hx=>((z v l).2.1 x hx).1,(z v l).2.2,pap.wi v l⟩) (λv l=>.inl l) λv l=>.inl l);exact⟨rfl,kk _⟩
end
end K18
namespace K18
open PySem PySem.Spec PyProof.Rows L2
open PySem.W
theorem all_mk{l:PySem.W.OpenLaw}{w:World}{K:PySem.W.Frag}{h:Heap}{mg:Str->Option Value}{fa:Addr}(X:K.In h)(G:h.Ns mainGlobals mg)(w9:mg "law"=some (.ref fa))
 (a1:nsIn K mainGlobals "within"=some (some (.ref f1))) (l1:FnL K f1 "within" "within" a0s o1 d1 s1 v1 x1 p1 n1 c1 t1) (w0:codeIn K c1 "within"=true) (k1:keepIn K (.ref f1)=true)
 (a2:nsIn K mainGlobals "is_number"=some (some (.ref f2))) (l2:FnL K f2 "is_number" "is_number" N5 o2 d2 s2 v2 x2 p2 n2 c2 t2) (w1:codeIn K c2 "is_number"=true) (k2:keepIn K (.ref f2)=true)
 (a3:nsIn K mainGlobals "is_vector"=some (some (.ref f3))) (l3:FnL K f3 "is_vector" "is_vector" N4 o3 d3 s3 v3 x3 p3 n3 c3 t3) (w2:codeIn K c3 "is_vector"=true) (k3:keepIn K (.ref f3)=true)
 (a4:nsIn K mainGlobals "are_vectors"=some (some (.ref f4))) (l4:FnL K f4 "are_vectors" "are_vectors" K1 o4 d4 s4 v4 x4 p4 n4 c4 t4) (w3:codeIn K c4 "are_vectors"=true) (k4:keepIn K (.ref f4)=true)
 (a5:nsIn K mainGlobals "row_sum"=some (some (.ref f5))) (l5:FnL K f5 "row_sum" "row_sum" X1 o5 d5 s5 v5 x5 p5 n5 c5 t5) (w4:codeIn K c5 "row_sum"=true) (k5:keepIn K (.ref f5)=true)
 (a6:nsIn K mainGlobals "sums"=some (some (.ref f6))) (l6:FnL K f6 "sums" "sums" a4F o6 d6 s6 v6 x6 p6 n6 c6 t6) (w5:codeIn K c6 "sums"=true) (k6:keepIn K (.ref f6)=true)
 (a7:nsIn K mainGlobals "is_answer"=some (some (.ref f7))) (l7:FnL K f7 "is_answer" "is_answer" N7 o7 d7 s7 v7 x7 p7 n7 c7 t7) (w6:codeIn K c7 "is_answer"=true) (k7:keepIn K (.ref f7)=true)
 (a8:nsIn K mainGlobals "pull_of"=some (some (.ref f8))) (l8:FnL K f8 "pull_of" "pull_of" X2 o8 d8 s8 v8 x8 p8 n8 c8 t8) (w7:codeIn K c8 "pull_of"=true) (k8:keepIn K (.ref f8)=true)
 (a9:nsIn K mainGlobals "falls"=some (some (.ref f9))) (l9:FnL K f9 "falls" "falls" a1R o9 d9 s9 v9 x9 p9 n9 c9 t9) (w8:codeIn K c9 "falls"=true) (k9:keepIn K (.ref f9)=true)
 (q9:nsIn K mainGlobals "below"=some (some (.ref f10))) (H9:FnL K f10 "below" "below" a1S o10 d10 s10 v10 x10 p10 n10 c10 t10) (h8:codeIn K c10 "below"=true) (x0:keepIn K (.ref f10)=true)
 (r0:nsIn K mainGlobals "unit"=some (some (.ref f11))) (I1:FnL K f11 "unit" "unit" a4E o11 d11 s11 v11 x11 p11 n11 c11 t11) (h9:codeIn K c11 "unit"=true) (y0:keepIn K (.ref f11)=true)
 (r1:nsIn K mainGlobals "least_of"=some (some (.ref f12))) (I2:FnL K f12 "least_of" "least_of" R8 o12 d12 s12 v12 x12 p12 n12 c12 t12) (i0:codeIn K c12 "least_of"=true) (y1:keepIn K (.ref f12)=true)
 (r2:nsIn K mainGlobals "above_any"=some (some (.ref f13))) (I3:FnL K f13 "above_any" "above_any" K6 o13 d13 s13 v13 x13 p13 n13 c13 t13) (i1:codeIn K c13 "above_any"=true) (y2:keepIn K (.ref f13)=true)
 (r3:nsIn K mainGlobals "first_steps"=some (some (.ref f14))) (I4:FnL K f14 "first_steps" "first_steps" K0 o14 d14 s14 v14 x14 p14 n14 c14 t14) (i2:codeIn K c14 "first_steps"=true) (y3:keepIn K (.ref f14)=true)
 (r4:nsIn K mainGlobals "raised"=some (some (.ref f15))) (I5:FnL K f15 "raised" "raised" a0t o15 d15 s15 v15 x15 p15 n15 c15 t15) (i3:codeIn K c15 "raised"=true) (y4:keepIn K (.ref f15)=true)
 (r5:nsIn K mainGlobals "steps"=some (some (.ref f16))) (I6:FnL K f16 "steps" "steps" a1O o16 d16 s16 v16 x16 p16 n16 c16 t16) (i4:codeIn K c16 "steps"=true) (y5:keepIn K (.ref f16)=true)
 (r6:nsIn K mainGlobals "all_fit"=some (some (.ref f17))) (I7:FnL K f17 "all_fit" "all_fit" X5 o17 d17 s17 v17 x17 p17 n17 c17 t17) (i5:codeIn K c17 "all_fit"=true) (y6:keepIn K (.ref f17)=true)
 (r7:nsIn K mainGlobals "are_least"=some (some (.ref f18))) (I8:FnL K f18 "are_least" "are_least" N8 o18 d18 s18 v18 x18 p18 n18 c18 t18) (i6:codeIn K c18 "are_least"=true) (y7:keepIn K (.ref f18)=true)
 (r8:nsIn K mainGlobals "is_met"=some (some (.ref f19))) (L2:FnL K f19 "is_met" "is_met" a0u o19 d19 s19 v19 x19 p19 n19 c19 t19) (i7:codeIn K c19 "is_met"=true) (y8:keepIn K (.ref f19)=true)
 (r9:nsIn K mainGlobals "goes_on"=some (some (.ref f20))) (Q1:FnL K f20 "goes_on" "goes_on" X4 o20 d20 s20 v20 x20 p20 n20 c20 t20) (i8:codeIn K c20 "goes_on"=true) (y9:keepIn K (.ref f20)=true)
 (s0:nsIn K mainGlobals "shows"=some (some (.ref f21))) (Q2:FnL K f21 "shows" "shows" a1P o21 d21 s21 v21 x21 p21 n21 c21 t21) (i9:codeIn K c21 "shows"=true) (z0:keepIn K (.ref f21)=true)
 (t0:nsIn K mainGlobals "is_barred"=some (some (.ref f22))) (Q4:FnL K f22 "is_barred" "is_barred" N6 o22 d22 s22 v22 x22 p22 n22 c22 t22) (j0:codeIn K c22 "is_barred"=true) (D1:keepIn K (.ref f22)=true)
 (u0:nsIn K mainGlobals "next_level"=some (some (.ref f23))) (S1:FnL K f23 "next_level" "next_level" L5 o23 d23 s23 v23 x23 p23 n23 c23 t23) (j1:codeIn K c23 "next_level"=true) (D2:keepIn K (.ref f23)=true)
 (u1:nsIn K mainGlobals "least"=some (some (.ref f24))) (S2:FnL K f24 "least" "least" a1Q o24 d24 s24 v24 x24 p24 n24 c24 t24) (j2:codeIn K c24 "least"=true) (D3:keepIn K (.ref f24)=true)
 (u2:nsIn K mainGlobals "_law_pot"=some (some (.ref f25))) (S4:FnL K f25 "_law_pot" "_law_pot" R9 o25 d25 s25 v25 x25 p25 n25 c25 t25) (j3:codeIn K c25 "_law_pot"=true) (H0:keepIn K (.ref f25)=true)
 (u3:nsIn K mainGlobals "_law_take"=some (some (.ref f26))) (S8:FnL K f26 "_law_take" "_law_take" N9 o26 d26 s26 v26 x26 p26 n26 c26 t26) (j4:codeIn K c26 "_law_take"=true) (H1:keepIn K (.ref f26)=true)
 (u4:nsIn K mainGlobals "_law_width"=some (some (.ref f27))) (T6:FnL K f27 "_law_width" "_law_width" L6 o27 d27 s27 v27 x27 p27 n27 c27 t27) (j5:codeIn K c27 "_law_width"=true) (H2:keepIn K (.ref f27)=true)
 (u5:nsIn K mainGlobals "_law_rows"=some (some (.ref f28))) (U3:FnL K f28 "_law_rows" "_law_rows" O0 o28 d28 s28 v28 x28 p28 n28 c28 t28) (j6:codeIn K c28 "_law_rows"=true) (H3:keepIn K (.ref f28)=true)
 (u6:nsIn K mainGlobals "_law_caps"=some (some (.ref f29))) (X3:FnL K f29 "_law_caps" "_law_caps" O1 o29 d29 s29 v29 x29 p29 n29 c29 t29) (j7:codeIn K c29 "_law_caps"=true) (H4:keepIn K (.ref f29)=true)
 (u7:nsIn K mainGlobals "_law_found"=some (some (.ref f30))) (Y5:FnL K f30 "_law_found" "_law_found" L7 o30 d30 s30 v30 x30 p30 n30 c30 t30) (j8:codeIn K c30 "_law_found"=true) (H5:keepIn K (.ref f30)=true)
 (u8:nsIn K mainGlobals "_law_system"=some (some (.ref f31))) (Y6:FnL K f31 "_law_system" "_law_system" K2 o31 d31 s31 v31 x31 p31 n31 c31 t31) (j9:codeIn K c31 "_law_system"=true) (H6:keepIn K (.ref f31)=true)
 (u9:nsIn K mainGlobals "_law_odd"=some (some (.ref f32))) (l32:FnL K f32 "_law_odd" "_law_odd" S0 o32 d32 s32 v32 x32 p32 n32 c32 t32) (k0:codeIn K c32 "_law_odd"=true) (H7:keepIn K (.ref f32)=true)
 (v0:nsIn K mainGlobals "law"=some (some (.ref f33))) (l33:FnL K f33 "law" "law" a2s o33 d33 s33 v33 x33 p33 n33 c33 t33) (l0:codeIn K c33 "law"=true) (H8:keepIn K (.ref f33)=true)
  (z1:PySem.W.nsIn K mainGlobals "ValueError"=some none) (z2:PySem.W.nsIn K mainGlobals "all"=some none) (z3:PySem.W.nsIn K mainGlobals "any"=some none) (z4:PySem.W.nsIn K mainGlobals "bool"=some none) (z5:PySem.W.nsIn K mainGlobals "dict"=some none) (z6:PySem.W.nsIn K mainGlobals "int"=some none) (z7:PySem.W.nsIn K mainGlobals "isinstance"=some none) (z8:PySem.W.nsIn K mainGlobals "len"=some none) (z9:PySem.W.nsIn K mainGlobals "list"=some none) (z10:PySem.W.nsIn K mainGlobals "min"=some none) (z11:PySem.W.nsIn K mainGlobals "range"=some none) (z12:PySem.W.nsIn K mainGlobals "set"=some none) (z13:PySem.W.nsIn K mainGlobals "sorted"=some none) (z14:PySem.W.nsIn K mainGlobals "sum"=some none) (z15:PySem.W.nsIn K mainGlobals "tuple"=some none) (z16:PySem.W.nsIn K mainGlobals "zip"=some none)
  {o:Addr}(e2:PySem.W.nsIn K mainGlobals "TooMany"=some (some (.ref o))) {a:Addr}(g8:PySem.W.nsIn K mainGlobals "Finder"=some (some (.ref a))) {g3 g5:Str}{p:Addr}{e5 m e1:List Value}{e7 e3:Bool}{g6:List Str}{e0:Option Bool}{e6:Option Addr}{e9 f0 g0 g1 g2:Option Value}(lx_TooMany:K.lookup o=some (excClassObj g3 g5 o p e5 m e7 g6 e1 e3 e0 e6 e9 f0 g0 g1 g2 "ValueError.__new__")) (g7:PySem.W.tailIn K [.type "ValueError",.type "Exception",.type "BaseException",.type "object"] m=true) (g4:PySem.W.nsOkIn K p=true) (e8:PySem.W.nsIn K p "__init__"=some none) (e4:m.contains (.type "BaseException")=true) (pg_Finder:PySem.W.plainGet K a Str.empty=true) (g9:PySem.W.hasDictIn K a=true) (h2:PySem.W.plainOver K a=true) (h3:PySem.W.findIn K (.ref a) "__setattr__"=some (some (.builtin "object.__setattr__"))) (h1:PySem.W.makesIn K a=true) (h0:PySem.W.keepIn K (.ref a)=true) (d0:PySem.W.findIn K (.ref a) "rows"=some none) (b9:PySem.W.findIn K (.ref a) "caps"=some none) (V:PySem.W.findIn K (.ref a) "begun"=some none) (c0:PySem.W.findIn K (.ref a) "here"=some none) (W:PySem.W.findIn K (.ref a) "found"=some none) (A:PySem.W.findIn K (.ref a) "walked"=some none) (q:findIn K (.ref a) "__init__"=some (some (.ref f_Finder___init__))) (t:isFn K (.ref f_Finder___init__)=true) (x:FnL K f_Finder___init__ "__init__" "Finder.__init__" D8 o_Finder___init__ d_Finder___init__ s0_Finder___init__ v_Finder___init__ x_Finder___init__ p_Finder___init__ n0_Finder___init__ c0_Finder___init__ t_Finder___init__) (r:codeIn K c0_Finder___init__ "Finder.__init__"=true) (u:keepIn K (.ref f_Finder___init__)=true) (a0:findIn K (.ref a) "step"=some (some (.ref f_Finder_step))) (b3:isFn K (.ref f_Finder_step)=true) (b7:FnL K f_Finder_step "step" "Finder.step" Z9 o_Finder_step d_Finder_step s0_Finder_step v_Finder_step x_Finder_step p_Finder_step n0_Finder_step c0_Finder_step t_Finder_step) (b1:codeIn K c0_Finder_step "Finder.step"=true) (b5:keepIn K (.ref f_Finder_step)=true) (f:findIn K (.ref a) "step_within"=some (some (.ref f_Finder_step_within))) (i:isFn K (.ref f_Finder_step_within)=true) (k:FnL K f_Finder_step_within "step_within" "Finder.step_within" C3 o_Finder_step_within d_Finder_step_within s0_Finder_step_within v_Finder_step_within x_Finder_step_within p_Finder_step_within n0_Finder_step_within c0_Finder_step_within t_Finder_step_within) (g:codeIn K c0_Finder_step_within "Finder.step_within"=true) (j:keepIn K (.ref f_Finder_step_within)=true) (D:findIn K (.ref a) "level"=some (some (.ref f_Finder_level))) (L:isFn K (.ref f_Finder_level)=true) (S:FnL K f_Finder_level "level" "Finder.level" V5 o_Finder_level d_Finder_level s0_Finder_level v_Finder_level x_Finder_level p_Finder_level n0_Finder_level c0_Finder_level t_Finder_level) (H:codeIn K c0_Finder_level "Finder.level"=true) (O:keepIn K (.ref f_Finder_level)=true) (b0:findIn K (.ref a) "told"=some (some (.ref f_Finder_told))) (b4:isFn K (.ref f_Finder_told)=true) (b8:FnL K f_Finder_told "told" "Finder.told" K3 o_Finder_told d_Finder_told s0_Finder_told v_Finder_told x_Finder_told p_Finder_told n0_Finder_told c0_Finder_told t_Finder_told) (b2:codeIn K c0_Finder_told "Finder.told"=true) (b6:keepIn K (.ref f_Finder_told)=true) (E:findIn K (.ref a) "paper"=some (some (.ref f_Finder_paper))) (M:isFn K (.ref f_Finder_paper)=true) (U:FnL K f_Finder_paper "paper" "Finder.paper" G7 o_Finder_paper d_Finder_paper s0_Finder_paper v_Finder_paper x_Finder_paper p_Finder_paper n0_Finder_paper c0_Finder_paper t_Finder_paper) (I:codeIn K c0_Finder_paper "Finder.paper"=true) (Q:keepIn K (.ref f_Finder_paper)=true) (C:findIn K (.ref a) "ended"=some (some (.ref f_Finder_ended))) (J:isFn K (.ref f_Finder_ended)=true) (R:FnL K f_Finder_ended "ended" "Finder.ended" G8 o_Finder_ended d_Finder_ended s0_Finder_ended v_Finder_ended x_Finder_ended p_Finder_ended n0_Finder_ended c0_Finder_ended t_Finder_ended) (F:codeIn K c0_Finder_ended "Finder.ended"=true) (N:keepIn K (.ref f_Finder_ended)=true) :
  ∃fd:FuncData,(∀(s:Shared) (v:Value),BindsTo s fd ⟨[v],[]⟩ [("_law_script",v)])/\∀base:Heap,K.In base->base.Ns mainGlobals mg->FnOk l.prog w K mg base CX0 10 fa fd ["_law_script"] (a8a K):=by
 have e:=w9.symm.trans (PySem.W.mg_of X G v0);cases e;have T:Tx mg:=⟨PySem.W.mg_none_of X G z1,PySem.W.mg_none_of X G z2,PySem.W.mg_none_of X G z3,PySem.W.mg_none_of X G z4,PySem.W.mg_none_of X G z5,PySem.W.mg_none_of X G z6,PySem.W.mg_none_of X G z7,PySem.W.mg_none_of X G z8,PySem.W.mg_none_of X G z9,PySem.W.mg_none_of X G z10,PySem.W.mg_none_of X G z11,PySem.W.mg_none_of X G z12,PySem.W.mg_none_of X G z13,PySem.W.mg_none_of X G z14,PySem.W.mg_none_of X G z15,PySem.W.mg_none_of X G z16⟩;have F1:FunAt K mg "within" a0s ["caps","one"]:=B9 X G a1 l1 w0 k1 λ_ _ _ _ _ _ d b=>by obtain⟨_,_,rfl⟩:=S7 b;rfl
 have F2:FunAt K mg "is_number" N5 ["value"]:=B9 X G a2 l2 w1 k2 λ_ _ _ _ _ _ d b=>by obtain⟨_,rfl⟩:=a2H b;rfl
 have F3:FunAt K mg "is_vector" N4 ["value","width"]:=B9 X G a3 l3 w2 k3 λ_ _ _ _ _ _ d b=>by obtain⟨_,_,rfl⟩:=S7 b;rfl
 have F4:FunAt K mg "are_vectors" K1 ["value","width"]:=B9 X G a4 l4 w3 k4 λ_ _ _ _ _ _ d b=>by obtain⟨_,_,rfl⟩:=S7 b;rfl
 have F5:FunAt K mg "row_sum" X1 ["row","one"]:=B9 X G a5 l5 w4 k5 λ_ _ _ _ _ _ d b=>by obtain⟨_,_,rfl⟩:=S7 b;rfl
 have F6:FunAt K mg "sums" a4F ["rows","one"]:=B9 X G a6 l6 w5 k6 λ_ _ _ _ _ _ d b=>by obtain⟨_,_,rfl⟩:=S7 b;rfl
 have F7:FunAt K mg "is_answer" N7 ["rows","one"]:=B9 X G a7 l7 w6 k7 λ_ _ _ _ _ _ d b=>by obtain⟨_,_,rfl⟩:=S7 b;rfl
 have F8:FunAt K mg "pull_of" X2 ["rows","totals","j"]:=B9 X G a8 l8 w7 k8 λ_ _ _ _ _ _ d b=>by obtain⟨_,_,_,rfl⟩:=a4U b;rfl
 have F9:FunAt K mg "falls" a1R ["rows","one"]:=B9 X G a9 l9 w8 k9 λ_ _ _ _ _ _ d b=>by obtain⟨_,_,rfl⟩:=S7 b;rfl
 have m0:FunAt K mg "below" a1S ["one","other"]:=B9 X G q9 H9 h8 x0 λ_ _ _ _ _ _ d b=>by obtain⟨_,_,rfl⟩:=S7 b;rfl
 have m1:FunAt K mg "unit" a4E ["width","j"]:=B9 X G r0 I1 h9 y0 λ_ _ _ _ _ _ d b=>by obtain⟨_,_,rfl⟩:=S7 b;rfl
 have m2:FunAt K mg "least_of" R8 ["some"]:=B9 X G r1 I2 i0 y1 λ_ _ _ _ _ _ d b=>by obtain⟨_,rfl⟩:=a2H b;rfl
 have h7:FunAt K mg "above_any" K6 ["some","one"]:=B9 X G r2 I3 i1 y2 λ_ _ _ _ _ _ d b=>by obtain⟨_,_,rfl⟩:=S7 b;rfl
 have m3:FunAt K mg "first_steps" K0 ["caps"]:=B9 X G r3 I4 i2 y3 λ_ _ _ _ _ _ d b=>by obtain⟨_,rfl⟩:=a2H b;rfl
 have m4:FunAt K mg "raised" a0t ["one","j"]:=B9 X G r4 I5 i3 y4 λ_ _ _ _ _ _ d b=>by obtain⟨_,_,rfl⟩:=S7 b;rfl
 have m5:FunAt K mg "steps" a1O ["rows","caps","one"]:=B9 X G r5 I6 i4 y5 λ_ _ _ _ _ _ d b=>by obtain⟨_,_,_,rfl⟩:=a4U b;rfl
 have m6:FunAt K mg "all_fit" X5 ["caps","some"]:=B9 X G r6 I7 i5 y6 λ_ _ _ _ _ _ d b=>by obtain⟨_,_,rfl⟩:=S7 b;rfl
 have m7:FunAt K mg "are_least" N8 ["rows","told"]:=B9 X G r7 I8 i6 y7 λ_ _ _ _ _ _ d b=>by obtain⟨_,_,rfl⟩:=S7 b;rfl
 have m8:FunAt K mg "is_met" a0u ["told","listed","one"]:=B9 X G r8 L2 i7 y8 λ_ _ _ _ _ _ d b=>by obtain⟨_,_,_,rfl⟩:=a4U b;rfl
 have m9:FunAt K mg "goes_on" X4 ["rows","caps","told","listed","one"]:=B9 X G r9 Q1 i8 y9 λ_ _ _ _ _ _ d b=>by obtain⟨_,_,_,_,_,rfl⟩:=b7N b;rfl
 have n0:FunAt K mg "shows" a1P ["rows","caps","told","paper"]:=B9 X G s0 Q2 i9 z0 λ_ _ _ _ _ _ d b=>by obtain⟨_,_,_,_,rfl⟩:=b7O b;rfl
 have o0:FunAt K mg "is_barred" N6 ["found","one","j"]:=B9 X G t0 Q4 j0 D1 λ_ _ _ _ _ _ d b=>by obtain⟨_,_,_,rfl⟩:=a4U b;rfl
 have p0:FunAt K mg "next_level" L5 ["rows","caps","found","level","room"]:=B9 X G u0 S1 j1 D2 λ_ _ _ _ _ _ d b=>by obtain⟨_,_,_,_,_,rfl⟩:=b7N b;rfl
 have q0:FunAt K mg "least" a1Q ["rows","caps","most"]:=B9 X G u1 S2 j2 D3 λ_ _ _ _ _ _ d b=>by obtain⟨_,_,_,rfl⟩:=a4U b;rfl
 have q1:FunAt K mg "_law_pot" R9 ["_law_script"]:=B9 X G u2 S4 j3 H0 λ_ _ _ _ _ _ d b=>by obtain⟨_,rfl⟩:=a2H b;rfl
 have q2:FunAt K mg "_law_take" N9 ["_law_pot_here","_law_many"]:=B9 X G u3 S8 j4 H1 λ_ _ _ _ _ _ d b=>by obtain⟨_,_,rfl⟩:=S7 b;rfl
 have q3:FunAt K mg "_law_width" L6 ["_law_pot_here"]:=B9 X G u4 T6 j5 H2 λ_ _ _ _ _ _ d b=>by obtain⟨_,rfl⟩:=a2H b;rfl
 have q4:FunAt K mg "_law_rows" O0 ["_law_pot_here","_law_width_here"]:=B9 X G u5 U3 j6 H3 λ_ _ _ _ _ _ d b=>by obtain⟨_,_,rfl⟩:=S7 b;rfl
 have q5:FunAt K mg "_law_caps" O1 ["_law_pot_here","_law_width_here"]:=B9 X G u6 X3 j7 H4 λ_ _ _ _ _ _ d b=>by obtain⟨_,_,rfl⟩:=S7 b;rfl
 have q6:FunAt K mg "_law_found" L7 ["_law_rows_here","_law_caps_here","_law_most"]:=B9 X G u7 Y5 j8 H5 λ_ _ _ _ _ _ d b=>by obtain⟨_,_,_,rfl⟩:=a4U b;rfl
 have q7:FunAt K mg "_law_system" K2 ["_law_pot_here","_law_most"]:=B9 X G u8 Y6 j9 H6 λ_ _ _ _ _ _ d b=>by obtain⟨_,_,rfl⟩:=S7 b;rfl
 have q8:FunAt K mg "_law_odd" S0 ["_law_pot_here","_law_caps_here","_law_some"]:=B9 X G u9 l32 k0 H7 λ_ _ _ _ _ _ d b=>by obtain⟨_,_,_,rfl⟩:=a4U b;rfl
 refine⟨fnOf "law" "law" (O8 a2s) (E2 a2s) (A3 a2s) .none v33 x33 p33 n33 c33 t33,λs v=>.of_eq rfl,λbase XB GB=>?_⟩;have Z:=PySem.W.mg_of X G e2;have h5:=PySem.W.mg_of X G g8;have Y:Cls K a:=⟨pg_Finder,g9,h2,h3⟩;have n:MethAt K a "__init__" "Finder.__init__" D8 ["self","rows","caps"]:=a2F q t x r u λ_ _ _ _ _ _ d b=>by obtain⟨_,_,_,rfl⟩:=a4U b;rfl
 have h6:MethAt K a "step" "Finder.step" Z9 ["self"]:=a2F a0 b3 b7 b1 b5 λ_ _ _ _ _ _ d b=>by obtain⟨_,rfl⟩:=a2H b;rfl
 have c:MethAt K a "step_within" "Finder.step_within" C3 ["self","room"]:=a2F f i k g j λ_ _ _ _ _ _ d b=>by obtain⟨_,_,rfl⟩:=S7 b;rfl
 have h4:MethAt K a "level" "Finder.level" V5 ["self"]:=a2F D L S H O λ_ _ _ _ _ _ d b=>by obtain⟨_,rfl⟩:=a2H b;rfl
 have B:MethAt K a "told" "Finder.told" K3 ["self"]:=a2F b0 b4 b8 b2 b6 λ_ _ _ _ _ _ d b=>by obtain⟨_,rfl⟩:=a2H b;rfl
 have z:MethAt K a "paper" "Finder.paper" G7 ["self"]:=a2F E M U I Q λ_ _ _ _ _ _ d b=>by obtain⟨_,rfl⟩:=a2H b;rfl
 have y:MethAt K a "ended" "Finder.ended" G8 ["self"]:=a2F C J R F N λ_ _ _ _ _ _ d b=>by obtain⟨_,rfl⟩:=a2H b;rfl
 have FL:=a2X (st:=a2s) l33 l0 H8;have RS:=a7c (base:=base) (P:=l.prog) (w:=w) F5 T;have SU:=b4e F6 T RS;have IA:=a4L F7 T SU;have FA:=b1N F9 T (a7d F8 T) SU;have BE:=b1P (base:=base) (P:=l.prog) (w:=w) m0 T;have ST:=b1I m5 T FA (a9A m4);have NX:=a3r p0 T ST (a4K o0 T BE);have FS:=a2z (base:=base) (P:=l.prog) (w:=w) m3 T (b4b m1 T) (a3M F1 T);have UF:FiTx K a:=⟨Y,d0,b9,V,c0,W,A⟩;have MI:=(b1M (base:=base) (P:=l.prog) (w:=w) (mg:=mg) n UF).make h5 h1 h0;have MS:=b1H c UF T NX FS IA;have ME:=b1O (base:=base) (P:=l.prog) (w:=w) y UF T;have MT:=b4c (base:=base) (P:=l.prog) (w:=w) B UF T;have MP:=b1J (base:=base) (P:=l.prog) (w:=w) z UF T;have LE:=b1K q0 T UF Y MI MS ME MT MP (b6k XB Z lx_TooMany g7 g4 e8);have TK:=b4d (base:=base) (P:=l.prog) (w:=w) q2 T;have FD:=b1L q6 T LE Z (b4F lx_TooMany e4);have SY:=a9y q7 T (b1G q3 T TK) (b4f q4 T TK) (b4g q5 T TK) FD;have AT:=a3s h7 T BE;have LO:=a5R m2 T (a3t h7 T BE);have AV:=a2A F4 T (a4I F3 T (a4J (base:=base) (P:=l.prog) (w:=w) F2 T));have AF:=a7f m6 T (a3M (base:=base) (P:=l.prog) (w:=w) F1 T);have AL:=a4M m7 T LO IA;have MM:=a9B m8 T AT;have GO:=a7e m9 T AT IA ST MM;have SH:=a9z n0 T AV AF AL MM FS GO;exact b6z FL T (b6x q1 T) SY (b6y q8 T TK) SH
end K18
namespace PySem.W.Fast
theorem tw1108982487081571580:True:=⟨⟩
theorem tw4256049887544778463:True:=⟨⟩
theorem tw2931972793310392096:True:=⟨⟩
theorem tw12289562012619499905:True:=⟨⟩
theorem tw5343392959424008519:True:=⟨⟩
theorem tw6716828864844895636:True:=⟨⟩
theorem tw1361172011282206385:True:=⟨⟩
theorem tw1269752486805820216:True:=⟨⟩
theorem tw1124883172640274046:True:=⟨⟩
theorem tw3346958099936090429:True:=⟨⟩
theorem tw5599852943107764510:True:=⟨⟩
theorem tw716729460496626726:True:=⟨⟩
theorem tw13673494906519926051:True:=⟨⟩
theorem tw7273804552632136211:True:=⟨⟩
theorem tw11767312812732958860:True:=⟨⟩
theorem tw15128921753604631806:True:=⟨⟩
theorem tw5834561301811470757:True:=⟨⟩
theorem tw649998862871055260:True:=⟨⟩
theorem tw9301938982736026923:True:=⟨⟩
theorem tw14486031877175882620:True:=⟨⟩
theorem tw3692581081987218468:True:=⟨⟩
theorem tw16453096155084562661:True:=⟨⟩
theorem tw5970460920322862847:True:=⟨⟩
theorem tw6798412398809333322:True:=⟨⟩
theorem tw4805760524848323717:True:=⟨⟩
theorem tw1647565360111609366:True:=⟨⟩
theorem tw14469386575790538393:True:=⟨⟩
theorem tw16181455801284541508:True:=⟨⟩
theorem tw2971486651892499729:True:=⟨⟩
theorem tw10515950341582196690:True:=⟨⟩
theorem tw9211015286265623815:True:=⟨⟩
theorem tw17660864023883191753:True:=⟨⟩
theorem tw11319072997923823476:True:=⟨⟩
theorem tw708298710348065656:True:=⟨⟩
theorem tw18181835428082396191:True:=⟨⟩
theorem tw2177230459609365598:True:=⟨⟩
theorem tw10213209512386203791:True:=⟨⟩
theorem tw8042754933181519985:True:=⟨⟩
theorem tw14927680997080112893:True:=⟨⟩
theorem tw9966941068816090615:True:=⟨⟩
theorem tw15197581629769766521:True:=⟨⟩
theorem tw18431738205104276041:True:=⟨⟩
theorem tw4671547419023169355:True:=⟨⟩
theorem tw1505376674773363584:True:=⟨⟩
theorem tw8747631000929989815:True:=⟨⟩
theorem tw2700028883304174223:True:=⟨⟩
theorem tw4356402265042126062:True:=⟨⟩
theorem tw1050097473003444846:True:=⟨⟩
theorem tw8026220480148321800:True:=⟨⟩
theorem tw8607548916258484018:True:=⟨⟩
theorem tw10889427416490975603:True:=⟨⟩
theorem tw15876362847846658213:True:=⟨⟩
theorem tw12366699182987888091:True:=⟨⟩
theorem tw481774792479931028:True:=⟨⟩
theorem tw6889230425257562225:True:=⟨⟩
theorem tw17203078634627981629:True:=⟨⟩
theorem tw8590606732208436864:True:=⟨⟩
theorem tw10448867883797933208:True:=⟨⟩
theorem tw9703095236198709968:True:=⟨⟩
theorem tw1494869030040358764:True:=⟨⟩
theorem tw608403221731286816:True:=⟨⟩
theorem tw10006715272205566850:True:=⟨⟩
theorem tw17306764050028109864:True:=⟨⟩
theorem tw17136536713252342472:True:=⟨⟩
theorem tw9020636178456228176:True:=⟨⟩
theorem tw4475186676959065213:True:=⟨⟩
theorem tw15775717518472887920:True:=⟨⟩
theorem tw5392017397365449367:True:=⟨⟩
theorem tw1443065147981202795:True:=⟨⟩
theorem tw17254447488857825782:True:=⟨⟩
theorem tw459122458623420829:True:=⟨⟩
theorem tw14117896048654692735:True:=⟨⟩
theorem tw12462449904809280247:True:=⟨⟩
theorem tw1830396800457648985:True:=⟨⟩
theorem tw9669018200323977479:True:=⟨⟩
theorem tw16975266720002988699:True:=⟨⟩
theorem tw3765779252160512590:True:=⟨⟩
theorem tw13756306934370381576:True:=⟨⟩
theorem tw14743702626413434423:True:=⟨⟩
theorem tw14546957611024576370:True:=⟨⟩
theorem tw6355634350670263181:True:=⟨⟩
theorem tw1474231829316058304:True:=⟨⟩
theorem tw8604226063894472505:True:=⟨⟩
theorem tw5703927128048644958:True:=⟨⟩
theorem tw17572485294124322539:True:=⟨⟩
theorem tw3858665651247065237:True:=⟨⟩
theorem tw4753973281982482225:True:=⟨⟩
theorem tw8337704121963644778:True:=⟨⟩
theorem tw10626564676041045626:True:=⟨⟩
end PySem.W.Fast
open PySem PySem.W PyProof.Rows
set_option maxRecDepth 100000 in
set_option maxHeartbeats 0 in
theorem PySem.Challenge.cw_leastlays_k18_of_anything_holds : PySem.Challenge.rw_leastlays_k18_of_anything.Holds := by
 w_on;o_law;k_head;(case hw=>w_witness2)
 k_fill
 refine L2.law_walk (l:=PySem.Challenge.rw_leastlays_k18_of_anything) 10 rfl rfl ⟨rfl,by decide,by decide⟩ (λw h Y=>PySem.W.kIn_of Y) ?F
 case F =>
  intro w mg fa h KX G hmg
  refine' K18.all_mk KX G hmg ?a1 ?l1 ?c_1 ?k1 ?a2 ?l2 ?c_2 ?k2 ?a3 ?l3 ?c_3 ?k3 ?a4 ?l4 ?c_4 ?k4 ?a5 ?l5 ?c_5 ?k5 ?a6 ?l6 ?c_6 ?k6 ?a7 ?l7 ?c_7 ?k7 ?a8 ?l8 ?c_8 ?k8 ?a9 ?l9 ?c_9 ?k9 ?a10 ?l10 ?c_10 ?k10 ?a11 ?l11 ?c_11 ?k11 ?a12 ?l12 ?c_12 ?k12 ?a13 ?l13 ?c_13 ?k13 ?a14 ?l14 ?c_14 ?k14 ?a15 ?l15 ?c_15 ?k15 ?a16 ?l16 ?c_16 ?k16 ?a17 ?l17 ?c_17 ?k17 ?a18 ?l18 ?c_18 ?k18 ?a19 ?l19 ?c_19 ?k19 ?a20 ?l20 ?c_20 ?k20 ?a21 ?l21 ?c_21 ?k21 ?a22 ?l22 ?c_22 ?k22 ?a23 ?l23 ?c_23 ?k23 ?a24 ?l24 ?c_24 ?k24 ?a25 ?l25 ?c_25 ?k25 ?a26 ?l26 ?c_26 ?k26 ?a27 ?l27 ?c_27 ?k27 ?a28 ?l28 ?c_28 ?k28 ?a29 ?l29 ?c_29 ?k29 ?a30 ?l30 ?c_30 ?k30 ?a31 ?l31 ?c_31 ?k31 ?a32 ?l32 ?c_32 ?k32 ?a33 ?l33 ?c_33 ?k33 ?z1 ?z2 ?z3 ?z4 ?z5 ?z6 ?z7 ?z8 ?z9 ?z10 ?z11 ?z12 ?z13 ?z14 ?z15 ?z16 ?aD_TooMany ?aD_Finder ?lx_TooMany ?tx_TooMany ?ok_TooMany ?in_TooMany ?be_TooMany ?pg_Finder ?hd_Finder ?po_Finder ?sa_Finder ?mk_Finder ?kc_Finder ?n_Finder_rows ?n_Finder_caps ?n_Finder_begun ?n_Finder_here ?n_Finder_found ?n_Finder_walked ?a_Finder___init__ ?i_Finder___init__ ?l_Finder___init__ ?c_Finder___init__ ?k_Finder___init__ ?a_Finder_step ?i_Finder_step ?l_Finder_step ?c_Finder_step ?k_Finder_step ?a_Finder_step_within ?i_Finder_step_within ?l_Finder_step_within ?c_Finder_step_within ?k_Finder_step_within ?a_Finder_level ?i_Finder_level ?l_Finder_level ?c_Finder_level ?k_Finder_level ?a_Finder_told ?i_Finder_told ?l_Finder_told ?c_Finder_told ?k_Finder_told ?a_Finder_paper ?i_Finder_paper ?l_Finder_paper ?c_Finder_paper ?k_Finder_paper ?a_Finder_ended ?i_Finder_ended ?l_Finder_ended ?c_Finder_ended ?k_Finder_ended
  (case a1|l1|c_1|k1|a2|l2|c_2|k2|a3|l3|c_3|k3|a4|l4|c_4|k4|a5|l5|c_5|k5|a6|l6|c_6|k6|a7|l7|c_7|k7|a8|l8|c_8|k8|a9|l9|c_9|k9|a10|l10|c_10|k10|a11|l11|c_11|k11|a12|l12|c_12|k12|a13|l13|c_13|k13|a14|l14|c_14|k14|a15|l15|c_15|k15|a16|l16|c_16|k16|a17|l17|c_17|k17|a18|l18|c_18|k18|a19|l19|c_19|k19|a20|l20|c_20|k20|a21|l21|c_21|k21|a22|l22|c_22|k22|a23|l23|c_23|k23|a24|l24|c_24|k24|a25|l25|c_25|k25|a26|l26|c_26|k26|a27|l27|c_27|k27|a28|l28|c_28|k28|a29|l29|c_29|k29|a30|l30|c_30|k30|a31|l31|c_31|k31|a32|l32|c_32|k32|a33|l33|c_33|k33|z1|z2|z3|z4|z5|z6|z7|z8|z9|z10|z11|z12|z13|z14|z15|z16|aD_TooMany|aD_Finder=>(try unfold L2.FnL);k_is)
  (case lx_TooMany|tx_TooMany|ok_TooMany|in_TooMany|be_TooMany=>first|k_is|kernel_rfl|rfl)
  (case pg_Finder|hd_Finder|po_Finder|sa_Finder|mk_Finder|kc_Finder|n_Finder_rows|n_Finder_caps|n_Finder_begun|n_Finder_here|n_Finder_found|n_Finder_walked|a_Finder___init__|i_Finder___init__|l_Finder___init__|c_Finder___init__|k_Finder___init__|a_Finder_step|i_Finder_step|l_Finder_step|c_Finder_step|k_Finder_step|a_Finder_step_within|i_Finder_step_within|l_Finder_step_within|c_Finder_step_within|k_Finder_step_within|a_Finder_level|i_Finder_level|l_Finder_level|c_Finder_level|k_Finder_level|a_Finder_told|i_Finder_told|l_Finder_told|c_Finder_told|k_Finder_told|a_Finder_paper|i_Finder_paper|l_Finder_paper|c_Finder_paper|k_Finder_paper|a_Finder_ended|i_Finder_ended|l_Finder_ended|c_Finder_ended|k_Finder_ended=>(try unfold L2.FnL);k_is)
#print axioms PySem.Challenge.cw_leastlays_k18_of_anything_holds
