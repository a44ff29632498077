import PyProof.Rows.All
import Wide.All
import OpenK.AllK
import Wide.FinOn
import Lean
import PyProof.EqAt
import PyProof.EqKinds
import PyProof.TupleCall
import PyProof.ZipIter
import PyProof.ExcArgsOwn
import PyProof.ExcAttrAll.ValueError
import KE.KSortTup
import PyProof.AutoSeq1
import PySem.SetTable
import PyProof.SetNew
import PyProof.TupleKey
import PyProof.DictRoadsH
import PyProof.DictKinds
import PyProof.IsRules
import PyProof.Rows.SetFrom
import PyProof.WalksMore
import KE.KDictSum
import KE.KDictOf
import PyProof.AttrMissHeap
import PyProof.TupleOfSeq
import PyProof.Rows.CallKwBuiltin
import PyProof.MinMaxWalk
import PyProof.ListRange
import PySem.Challenge.RW_leastlays_k39_whole_two_systems
set_option compiler.extract_closed false
set_option bootstrap.genMatcherCode false
set_option genSizeOf false
set_option Elab.async false
set_option linter.all false
set_option maxRecDepth 100000
set_option maxHeartbeats 4000000
def aa:=@PySem.wpAny_bind
def ae:=@List.length_map
def ag:=@PySem.Heap.get?_push_of_some
def ai:=@PySem.wpAny_pure
def aj:=@List.getElem?_eq_getElem
def ak:=@List.length_append
def ao:=@Nat.le_refl
def aq:=@List.getD_eq_getElem?_getD
def ar:=@if_neg
def au:=@List.mem_cons_self
def av:=@List.mem_cons_of_mem
def ax:=@Array.getElem?_toList
def ay:=@Array.length_toList
def az:=@if_pos
def aA:=@List.mem_append
def aB:=@PyProof.Rows.wpS_bind
def aC:=@List.append_assoc
def aD:=@List.mem_cons
def aE:=@List.mem_filter
def aF:=@List.size_toArray
def aG:=@Bool.and_eq_true
def aH:=@PySem.Heap.get?_push_size
def aI:=@List.mem_of_getElem?
def aJ:=@List.all_eq_true
def aK:=@PySem.Heap.lt_size
def aL:=@List.mem_map
def aM:=@PyProof.Rows.wpS_pure
def aN:=@congrArg
def aO:=@Nat.lt_of_lt_of_le
def aP:=@List.length_take
def aQ:=@List.mem_singleton
def aR:=@Nat.ne_of_lt
def aS:=@List.mem_append_left
def aT:=@List.getElem?_eq_some_iff
def aU:=@List.mem_append_right
def aV:=@List.length_replicate
def aW:=@List.getElem?_append_right
def aX:=@List.mem_range
def aY:=@Bool.false_ne_true
def aZ:=@List.map_cons
def a':=@List.length_cons
def a_:=@PySem.sizeLine_eq
def ba:=@List.getElem?_map
def bf:=@decide_eq_true_eq
def bg:=@decide_eq_true
def bh:=@List.zipWith_cons_cons
def bj:=@Nat.le_trans
def bp:=@beq_iff_eq
def bq:=@List.getElem?_append_left
def br:=@List.take_append_drop
def bt:=@List.sum_cons
def bu:=@List.take_add_one
def bw:=@of_decide_eq_true
def bx:=@List.take_length
def bz:=@List.map_append
def bA:=@Int.toNat_natCast
def bB:=@List.length_filter_le
def bC:=@PySem.Heap.size_push
def bD:=@List.any_eq_true
def bE:=@List.length_drop
def bF:=@List.pairwise_append
def bG:=@Nat.zero_le
def bH:=@Option.some.inj
def bI:=@List.length_take_le
def bJ:=@Array.getElem?_eq_getElem
def bK:=@PySem.wpAny_call_entry
def bL:=@decide_eq_false
def bM:=@PySem.wpAny_callSpecial?_slot
def bN:=@Classical.byContradiction
def bO:=@Array.getD_eq_getD_getElem?
def bP:=@List.take_of_length_le
def bQ:=@Bool.eq_iff_iff
def bR:=@List.nodup_cons
def bS:=@List.not_mem_nil
def bT:=@PyProof.Rows.KeyOrd.kle_trans
def bU:=@List.mem_of_mem_take
def bV:=@PySem.wpAny_newObj_type
def bW:=@PyProof.Rows.KeyOrd.kle_of_klt
def bX:=@List.Perm.append_left
def bY:=@Array.toList_append
def bZ:=@List.lookup_cons
def b_:=@Nat.lt_irrefl
def cc:=@Nat.lt_succ_of_lt
def cf:=@List.pairwise_map
def cg:=@List.perm_append_comm
def cj:=@PySem.wpAny_holding
def ck:=@Nat.lt_succ_self
def cm:=@Nat.le_add_right
def cn:=@List.mem_iff_getElem
def cp:=@List.pairwise_cons
def cq:=@List.nil_append
def cu:=@PyProof.Rows.wpS_forRange
def cv:=@List.replicate_succ
def cw:=@List.mem_iff_getElem?
def cx:=@PySem.wpAny_setState_of
def cy:=@PyProof.Rows.slot_tuple_getitem
def cz:=@List.append_nil
def cA:=@Nat.min_eq_left
def cB:=@PyProof.Rows.KeyOrd.kle_refl
def cC:=@List.drop_eq_nil_of_le
def cD:=@List.drop_eq_getElem_cons
def cE:=@PySem.Heap.SameBut.update
def cF:=@PyProof.Rows.wpS_mono
def cG:=@PySem.wpAny_field
def cH:=@Nat.le_of_lt
def cI:=@PySem.wpAny_seqItems
def cJ:=@List.drop_zero
def cK:=@beq_eq_false_iff_ne
def cL:=@PySem.Heap.get?_update_self
def cM:=@List.getElem?_eq_none
def cN:=@List.mem_filterMap
def cO:=@PySem.Obj.data_mapFields
def cP:=@Nat.zero_add
def cQ:=@eq_of_heq
def cR:=@Nat.mod_eq_of_lt
def cS:=@List.mem_of_mem_drop
def cT:=@Array.toList_push
def cU:=@List.map_map
def cW:=@Array.getElem?_eq_some_iff
def cX:=@List.all_cons
def cY:=@List.getElem_mem
def cZ:=@List.getElem?_take_of_lt
def c_:=@or_false
def de:=@Nat.pow_succ
def df:=@PySem.wpAny_truthy_bool
def dg:=@List.flatten_cons
def dh:=@Bool.not_eq_true'
def di:=@Nat.lt_trichotomy
def dj:=@Bool.false_or
def dk:=@List.drop_append_of_le_length
def dm:=@List.take_append_of_le_length
def dn:=@PySem.wpAny_typeNameOfWhole_keyiter
def dq:=@Ne.symm
def dr:=@PySem.wpAny_mono
def dt:=@Array.getElem?_eq_none
def du:=@List.drop_of_length_le
def dv:=@Nat.ne_of_gt
def dw:=@PySem.codeAny_mono
def dy:=@PySem.wpAny_setField_rec
def dz:=@Int.emod_lt_of_pos
def dC:=@PyProof.Rows.F.plain_set_update_loop
def dD:=@PySem.wpAny_passesOwn
def dE:=@List.foldl_cons
def dF:=@PySem.codeAny_builtin
def dG:=@PySem.F.slot_tuple_iterator_next
def dH:=@Array.perm_iff_toList_perm
def dI:=@PySem.Around.under_plainId
def dJ:=@List.exists_mem_of_ne_nil
def dM:=@ite_congr
def dN:=@PySem.wpAny_setField
def dO:=@PySem.isSubtype_type
def dP:=@List.ext_getElem
def dQ:=@PySem.wpAny_typeNameOf_keyiter
def dR:=@Nat.succ.inj
def dS:=@List.filterMap_cons
def dU:=@List.map_congr_left
def dV:=@List.eraseIdx_eq_take_drop_succ
def dW:=@List.getElem?_replicate
def dX:=@PySem.wpAny_attempt
def dY:=@Nat.add_assoc
def dZ:=@PySem.wpAny_execs_nil
def d_:=@PySem.wpAny_Call_Name_kw
def ed:=@List.find?_cons
def eh:=@List.getElem?_drop
def ei:=@Int.emod_nonneg
def ek:=@Nat.le_succ
def ez:=@List.eq_nil_of_length_eq_zero
def eB:=@List.any_eq_false
def eC:=@List.reverse_cons
def eD:=@Nat.le_of_lt_succ
def eE:=@List.nodup_append
def eF:=@PySem.wpAny_typeOf
def eG:=@PySem.Obj.isFreed_of_fields
def eH:=@List.take_zero
def eI:=@PyProof.Rows.callWith_type1
def eJ:=@Array.mem_toList_iff
def eM:=@PySem.call_meets
def eN:=@beq_self_eq_true
def eO:=@Array.toList_extract
def eQ:=@PySem.wpAny_askSetting
def eR:=@List.nodup_iff_pairwise_ne
def eS:=@List.perm_ext_iff_of_nodup
def eT:=@Int.le_refl
def eU:=@List.length_zipWith
def eV:=@List.length_set
def eW:=@List.pairwise_iff_getElem
def eX:=@PySem.Calls.call_function_entry
def eY:=@Nat.not_lt_zero
def eZ:=@List.mem_or_eq_of_mem_set
def e_:=@PyProof.Rows.KeyOrd.klt_of_kle_of_klt
def fc:=@Nat.add_sub_cancel
def fe:=@Array.size_setIfInBounds
def ff:=@Nat.lt_of_le_of_lt
def fg:=@Nat.succ_pos
def fh:=@PySem.wpAny_rule
def fi:=@Bool.and_false
def fj:=@if_true
def fk:=@List.nodup_nil
def fm:=@PyProof.Rows.wpS_get
def fo:=@Nat.mod_lt
def fq:=@List.pairwise_singleton
def ft:=@List.filter_cons_of_pos
def fu:=@PySem.wpAny_pyIter_list
def fv:=@PySem.Obj.cls_mapFields
def fz:=@List.getElem_take
def fA:=@List.getElem_drop
def fB:=@List.ext_getElem?
def fC:=@PySem.wpAny_dictEntries
def fD:=@List.length_range
def fE:=@List.getElem?_set
def fF:=@PySem.Heap.get?_update_other
def fG:=@List.Perm.append_right
def fH:=@Option.map_eq_some_iff
def fJ:=@PySem.wpAny_isInstance
def fK:=@PySem.F.slot_tuple_mul
def fL:=@List.cons_append
def fM:=@List.nodup_range
def fN:=@Nat.min_eq_right
def fO:=@List.length_singleton
def fP:=@PySem.builtinLookup_eq_fast
def fQ:=@PySem.pushCells_keeps
def fR:=@PySem.wpAny_updateSeq_pair
def fS:=@PySem.F.slot_zip_next
def fT:=@Nat.lt_trans
def fU:=@Array.toList_reverse
def fV:=@Nat.lt_or_ge
def fW:=@Nat.mul_comm
abbrev LLI:=List (List Int)
namespace L2
open PySem PySem.Spec PyProof.Rows
abbrev Key:=Sum Int Str
noncomputable def a3X:Key->Value->Bool
 |.inl k,v=>Value.isInt k v
 |.inr x,v=>Value.isStrOf x v
noncomputable def b8G(w:World):Key->Int
 |.inl k=>hashInt k
 |.inr x=>hashStr w x
theorem C8:∀{k:Key}{v:Value},a3X k v=true->(∃i t,k=Sum.inl i/\v=Value.int i t)∨(∃x t,k=Sum.inr x/\v=Value.str x t)
 |.inl i,v,h=>by
  obtain⟨t,e⟩:=Value.isInt_shape (k:=i) (v:=v) h;exact .inl ⟨i,t,rfl,e⟩
 |.inr x,v,h=>by
  obtain⟨t,e⟩:=Value.isStrOf_shape (x:=x) (v:=v) h;exact .inr ⟨x,t,rfl,e⟩
theorem a9V(i:Int)(t:Tok):a3X (.inl i) (.int i t)=true:=by simp[a3X,Value.isInt]
theorem a9U(x:Str)(t:Tok):a3X (.inr x) (.str x t)=true:=by simp[a3X,Value.isStrOf]
theorem b6Y(a b:Int):decide ((Sum.inl a:Key)=Sum.inl b)=(a==b):=by
 by_cases e:a=b
 .subst e;simp
 .have h:¬(Sum.inl a:Key)=Sum.inl b:=λq=>e (Sum.inl.inj q);rw[bL h];exact(cK.mpr e).symm
theorem b6V(a b:Str):decide ((Sum.inr a:Key)=Sum.inr b)=decide (a=b):=by
 by_cases e:a=b
 .subst e;simp
 .have h:¬(Sum.inr a:Key)=Sum.inr b:=λq=>e (Sum.inr.inj q);rw[bL h,bL e]
theorem b6X(a:Int)(b:Str):decide ((Sum.inl a:Key)=Sum.inr b)=false:=bL (λq=>nomatch q)
theorem b6W(a:Str)(b:Int):decide ((Sum.inr a:Key)=Sum.inl b)=false:=bL (λq=>nomatch q)
noncomputable def B9(prog:Program)(w:World):PySem.KeyKind prog w Key where
 is:=a3X
 hash:=b8G w
 inj:=λv a b ha hb=>by
  rcases C8 ha with⟨i,t,rfl,rfl⟩|⟨x,t,rfl,rfl⟩
  .rcases C8 hb with⟨j,u,rfl,e⟩|⟨y,u,rfl,e⟩
   .injection e with e1 _;rw[e1]
   .exact nomatch e
  .rcases C8 hb with⟨j,u,rfl,e⟩|⟨y,u,rfl,e⟩
   .exact nomatch e
   .injection e with e1 _;rw[e1]
 byValue:=λk v h=>by
  rcases C8 h with⟨i,t,rfl,rfl⟩|⟨x,t,rfl,rfl⟩<;>rfl
 pyHash:=λhv h=>by
  rcases C8 hv with⟨i,t,rfl,rfl⟩|⟨x,t,rfl,rfl⟩
  .exact wpAny_pyHash_int h
  .exact wpAny_pyHash_str h
 eqBool:=λhu hv h=>by
  rcases C8 hu with⟨i,t,rfl,rfl⟩|⟨x,t,rfl,rfl⟩
  .rcases C8 hv with⟨j,u,rfl,rfl⟩|⟨y,u,rfl,rfl⟩
   .rw[b6Y]at h;exact wpAny_eqBool_int h
   .rw[b6X]at h;exact SeqAt.EqAt.int_str i t y u _ _ _ _ h
  .rcases C8 hv with⟨j,u,rfl,rfl⟩|⟨y,u,rfl,rfl⟩
   .rw[b6W]at h;exact SeqAt.EqAt.str_int x t j u _ _ _ _ h
   .rw[b6V]at h;exact wpAny_eqBool_str h
 «strs»:=λk x t v h=>by
  rcases C8 h with⟨i,u,rfl,e⟩|⟨y,u,rfl,e⟩
  .exact nomatch e
  .injection e with e1 _
   subst e1;cases v<;>rfl
theorem a6a(prog:Program)(w:World)(i:Int)(t:Tok):(B9 prog w).is (.inl i) (.int i t)=true:=a9V i t
theorem a5Z(prog:Program)(w:World)(x:Str)(t:Tok):(B9 prog w).is (.inr x) (.str x t)=true:=a9U x t
inductive V where
 |non|bl (b:Bool)|int (i:Int)|str (x:Str)|byt (b:Array UInt8)|flt (b:UInt64)|ref (a:Addr)|ty (n:String)
 deriving DecidableEq
def RelV:V->Value->Prop
 |.non,u=>u=Value.none
 |.bl b,u=>u=Value.bool b
 |.int i,u=>∃t,u=Value.int i t
 |.str x,u=>∃t,u=Value.str x t
 |.byt b,u=>∃t,u=Value.bytes b t
 |.flt b,u=>∃t,u=Value.float b t
 |.ref a,u=>u=Value.ref a
 |.ty n,u=>u=Value.type n
abbrev Vals:List V->List Value->Prop:=Paired RelV
theorem Vals.length{xs:List V}{us:List Value}(r:Vals xs us):xs.length=us.length:=Paired.length r
theorem Vals.get:∀{xs:List V}{us:List Value}{i:Nat}{x:V},Vals xs us->xs[i]?=some x->∃u,us[i]?=some u/\RelV x u
 |_,_,_,_,.nil,e=>by simp at e
 |_,_,0,_,.cons r _,e=>by simp at e;subst e;exact⟨_,rfl,r⟩
 |_,_,i+1,x,.cons _ t,e=>by
  obtain⟨u,h1,h2⟩:=Vals.get (i:=i) (x:=x) t (by simpa using e);exact⟨u,by simpa using h1,h2⟩
theorem Vals.set{x:V}{u:Value}(r:RelV x u):∀{xs:List V}{us:List Value}(i:Nat),Vals xs us->Vals (xs.set i x) (us.set i u)
 |_,_,_,.nil=>.nil
 |_,_,0,.cons _ t=>.cons r t
 |_,_,i+1,.cons q t=>.cons q (Vals.set r i t)
theorem Vals.append:∀{xs ys:List V}{us a:List Value},Vals xs us->Vals ys a->Vals (xs++ys) (us++a)
 |_,_,_,_,.nil,s=>s
 |_,_,_,_,.cons r t,s=>.cons r (Vals.append t s)
theorem Vals.take:∀{xs:List V}{us:List Value}(n:Nat),Vals xs us->Vals (xs.take n) (us.take n)
 |_,_,0,_=>.nil
 |_,_,_+1,.nil=>.nil
 |_,_,n+1,.cons r t=>.cons r (Vals.take n t)
theorem Vals.drop:∀{xs:List V}{us:List Value}(n:Nat),Vals xs us->Vals (xs.drop n) (us.drop n)
 |_,_,0,r=>r
 |_,_,_+1,.nil=>.nil
 |_,_,n+1,.cons _ t=>Vals.drop n t
def RelO:Option V->Option Value->Prop
 |some v,some u=>RelV v u
 |none,none=>True
 |_,_=>False
def KV{κ:Type}:List (κ×V)->List (κ×Value)->Prop:=Paired λ(p:κ×V) (q:κ×Value)=>p.1=q.1/\RelV p.2 q.2
noncomputable def kV:Key->V
 |.inl i=>.int i
 |.inr x=>.str x
inductive HO where
 |lst (xs:List V)
 |tup (xs:List V)
 |dK (kvs:List (Key×V))|dT (kvs:List (List Key×V))
 |set (S:Int->Bool) (n:Nat)
 |ins (C dx:Addr) (fs:List (Str×V))
 |own (x:Addr)
 |xd (fs:List (Str×V))
 |met (f x:Addr)
 |rng (lo hi:Int)
 |frz (o:Obj) (u:HO)
 |tbl (ps:Array Value)
 |ext (φ:Heap->Prop)
abbrev Hp:=Addr->Option HO
noncomputable def upd(H:Hp)(a:Addr)(o:HO):Hp:=λb=>if b=a then some o else H b
theorem A0{H:Hp}{a:Addr}{o:HO}:upd H a o a=some o:=by unfold upd;rw[az rfl]
theorem A3{H:Hp}{a b:Addr}{o:HO}(h:b≠a):upd H a o b=H b:=by unfold upd;rw[ar h]
theorem a4t{H:Hp}{a:Addr}{o u:HO}:upd (upd H a o) a u=upd H a u:=by
 funext b;unfold upd;split<;>rfl
theorem K0{H:Hp}{a b:Addr}{o u:HO}(h:H a=some o)(h':H b=some u)(d:o≠u):a≠b:=by
 intro e;subst e;rw[h]at h';exact d (bH h')
theorem A7{H:Hp}{a b:Addr}{o:HO}(h:H a=some o)(h':H b=none):a≠b:=by
 intro e;subst e;rw[h]at h';cases h'
def IsTp(h:Heap)(a:Addr)(items:Array Value):Prop:=∃o:Obj,h.get? a=some o/\(o.cls,o.dict)=(.type "tuple",none)/\∃n,o.data=.seq items n
theorem IsTp.tup{h:Heap}{a:Addr}{items:Array Value}(x:IsTp h a items):IsTup h a items:=let ⟨o,e,c,d⟩:=x;⟨o,e,aN Prod.fst c,d⟩
theorem IsTp.new(h:Heap)(items:Array Value):IsTp (h.push {cls:=.type "tuple",data:=.seq items}) h.objs.size items:=⟨_,aH _ rfl,rfl,_,rfl⟩
section
variable (P:Program) (w:World)
def ObjOk(H:Hp)(h:Heap)(a:Addr):HO->Prop
 |.lst xs=>xs.length<=sizeLine/\∃(its:List Value) (n:Nat),Vals xs its/\h.get? a=some {cls:=.type "list",data:=.seq its.toArray n}
 |.tup xs=>xs.length<=sizeLine/\∃its:List Value,Vals xs its/\IsTp h a its.toArray
 |.dK kvs=>kvs.length<=sizeLine/\(a==sysModules)=false/\∃vs,KV kvs vs/\h.DictOf (B9 P w) a vs
 |.dT kvs=>kvs.length<=sizeLine/\(a==sysModules)=false/\∃xs:List (List Key×Addr×Value),
   Paired (λ(p:List Key×V) (q:List Key×Addr×Value)=>p.1=q.1/\H q.2.1=some (.tup (p.1.map kV))/\RelV p.2 q.2.2) kvs xs /\
   ∃o es ep,h.get? a=some o/\o.ExactDict/\o.data=.dict es ep/\es.toList=xs.map (entryOfKey (tupleKind (B9 P w)))/\(xs.map (·.1)).Nodup
 |.set S n=>h.SetOf (intKind P w) a S n
 |.ins C dx fs=>H dx=some (.own a)/\fs.length<=1000/\dx≠a/\h.get? a=some (PySem.W.instObj C dx) /\
   ∃mA,h.Ns1 dx mA/\(∀f,RelO (fs.lookup f) (mA f))/\PySem.Within mA (fs.map (·.1))
 |.own _=>∃o,h.get? a=some o
 |.xd fs=>∃mA,h.Ns1 a mA/\∀f,RelO (fs.lookup f) (mA f)
 |.rng lo hi=>∃t u v,h.get? a=some {cls:=.type "range",data:=.fields #[.int lo t,.int hi u,.int 1 v]}
 |.frz o u=>h.get? a=some o/\ObjOk H h a u
 |.tbl ps=>h.get? a=some {cls:=.none,data:=.fields ps}
 |.met f x=>h.get? a=some (PySem.W.methodObj (.ref f) (.ref x))
 |.ext φ=>φ h/\(∃o,h.get? a=some o)/\∀h1 h2:Heap,φ h1->(∀o,h1.get? a=some o->h2.get? a=some o)->φ h2
def HOk(H:Hp)(h:Heap):Prop:=∀a o,H a=some o->ObjOk P w H h a o
end
section
variable {P:Program}{w:World}{H H':Hp}{h h':Heap}{a:Addr}{o:HO}
theorem ObjOk.lt(x:ObjOk P w H h a o):a<h.objs.size:=by
 cases o with
 |lst xs=>obtain⟨_,_,_,_,e⟩:=x;exact aK e
 |tup xs=>obtain⟨_,_,_,p⟩:=x;exact p.tup.lt
 |dK kvs=>obtain⟨_,_,_,_,o,_,_,e,_⟩:=x;exact aK e
 |dT kvs=>obtain⟨_,_,_,_,o,_,_,e,_⟩:=x;exact aK e
 |set S n=>obtain⟨o,_,_,_,e,_⟩:=x;exact aK e
 |ins C dx fs=>obtain⟨_,_,_,e,_⟩:=x;exact aK e
 |own y=>obtain⟨_,e⟩:=x;exact aK e
 |xd fs=>obtain⟨_,⟨_,_,_,e,_⟩,_⟩:=x;exact aK e
 |rng lo hi=>obtain⟨_,_,_,e⟩:=x;exact aK e
 |frz ob u=>obtain⟨e,_⟩:=x;exact aK e
 |tbl ps=>exact aK (show h.get? a=some _ from x)
 |met f y=>exact aK (show h.get? a=some _ from x)
 |ext φ=>obtain⟨_,⟨_,e⟩,_⟩:=x;exact aK e
theorem Paired.mapP{α β:Type}{F G:α->β->Prop}:∀{l₁:List α}{l₂:List β},Paired F l₁ l₂->(∀a b,F a b->G a b)->Paired G l₁ l₂
 |_,_,.nil,_=>.nil
 |_,_,.cons r t,f=>.cons (f _ _ r) (Paired.mapP t f)
theorem Paired.imp'{α β:Type}{F G:α->β->Prop}(f:∀a b,F a b->G a b){l₁:List α}{l₂:List β}(r:Paired F l₁ l₂):Paired G l₁ l₂:=Paired.mapP r f
theorem ObjOk.stay(x:ObjOk P w H h a o)(k:∀b u,(b=a∨H b=some (.own a))->h.get? b=some u->h'.get? b=some u)
  (i:∀b,H b=some (.own a)->H' b=some (.own a)) (j:∀b xs,H b=some (.tup xs)->H' b=some (.tup xs)):ObjOk P w H' h' a o:=by
 induction o with
 |lst xs=>obtain⟨z,its,n,r,e⟩:=x;exact⟨z,its,n,r,k _ _ (.inl rfl) e⟩
 |tup xs=>obtain⟨z,its,r,g,e,c⟩:=x;exact⟨z,its,r,g,k _ _ (.inl rfl) e,c⟩
 |dK kvs=>obtain⟨z,y,vs,r,g,es,ep,e,c⟩:=x;exact⟨z,y,vs,r,g,es,ep,k _ _ (.inl rfl) e,c⟩
 |dT kvs =>
  obtain⟨z,y,xs,r,g,es,ep,e,c⟩:=x;exact⟨z,y,xs,Paired.mapP r λp q z=>⟨z.1,j _ _ z.2.1,z.2.2⟩,g,es,ep,k _ _ (.inl rfl) e,c⟩
 |set S n=>obtain⟨g,es,ep,t,e,c⟩:=x;exact⟨g,es,ep,t,k _ _ (.inl rfl) e,c⟩
 |ins C dx fs =>
  obtain⟨d,z,ne,e,mA,⟨od,es,ep,e2,c⟩,r⟩:=x;exact⟨i _ d,z,ne,k _ _ (.inl rfl) e,mA,⟨od,es,ep,k _ _ (.inr d) e2,c⟩,r⟩
 |own y=>obtain⟨g,e⟩:=x;exact⟨g,k _ _ (.inl rfl) e⟩
 |xd fs=>obtain⟨mA,⟨od,es,ep,e,c⟩,r⟩:=x;exact⟨mA,⟨od,es,ep,k _ _ (.inl rfl) e,c⟩,r⟩
 |rng lo hi=>obtain⟨t,u,v,e⟩:=x;exact⟨t,u,v,k _ _ (.inl rfl) e⟩
 |frz g u l=>obtain⟨e,q⟩:=x;exact⟨k _ _ (.inl rfl) e,l q⟩
 |tbl ps =>
  have e:h.get? a=some {cls:=.none,data:=.fields ps}:=x;show h'.get? a=some {cls:=.none,data:=.fields ps};exact k a _ (.inl rfl) e
 |met f y =>
  have e:h.get? a=some (PySem.W.methodObj (.ref f) (.ref y)):=x;show h'.get? a=some (PySem.W.methodObj (.ref f) (.ref y));exact k a _ (.inl rfl) e
 |ext φ=>obtain⟨p,⟨o,e⟩,st⟩:=x;exact⟨st _ _ p λo q=>k _ _ (.inl rfl) q,⟨o,k _ _ (.inl rfl) e⟩,st⟩
theorem HOk.lt(x:HOk P w H h)(e:H a=some o):a<h.objs.size:=(x a o e).lt
theorem HOk.fresh(x:HOk P w H h)(e:h.objs.size<=a):H a=none:=by
 cases q:H a with
 |none=>rfl
 |some u=>exact absurd (aO (x.lt q) e) (b_ _)
theorem HOk.kept(x:HOk P w H h)(k:∀b u,h.get? b=some u->h'.get? b=some u):HOk P w H h':=λa o e =>
 (x a o e).stay (λb u _ q=>k b u q) (λ_ q=>q) λ_ _ q=>q
theorem HOk.laid(x:HOk P w H h)(k:∀b u,h.get? b=some u->h'.get? b=some u)(hp:h.objs.size<=a)(new:ObjOk P w (upd H a o) h' a o):HOk P w (upd H a o) h':=λb u e=>by
 have f:=x.fresh hp;by_cases d:b=a
 .subst d;rw[A0]at e;cases e;exact new
 .rw[A3 d]at e;exact(x b u e).stay (λc v _ q=>k c v q) (λc q=>by rw[A3 (A7 q f)];exact q) λc xs q=>by rw[A3 (A7 q f)];exact q
end
def Rd(H:Hp)(a:Addr)(u:HO):Prop:=H a=some u∨∃o,H a=some (.frz o u)
theorem Rd.ok{P:Program}{w:World}{H:Hp}{h:Heap}{a:Addr}{u:HO}(r:Rd H a u)(x:HOk P w H h):ObjOk P w H h a u:=by
 rcases r with r|⟨o,r⟩
 .exact x a u r
 .obtain⟨_,q⟩:=x a _ r;exact q
def Mut:Option HO->Prop
 |some (.lst _)=>True
 |some (.dK _)=>True
 |some (.dT _)=>True
 |some (.set _ _)=>True
 |some (.ins _ _ _)=>True
 |some (.ext _)=>True
 |_=>False
section
variable {P:Program}{w:World}{H:Hp}{h h':Heap}{x e:Addr}{o':HO}
theorem HOk.write(ok:HOk P w H h)(j:Mut (H x))(m:e=x∨H e=some (.own x))(k:∀b u,b≠e->h.get? b=some u->h'.get? b=some u)(l:∃u,h'.get? e=some u)
  (new:ObjOk P w (upd H x o') h' x o'):HOk P w (upd H x o') h':=λb u q=>by
 have d:∀c y,H c=some (.own y)->c≠x:=λc y r z=>by subst z;rw[r]at j;exact j
 have f:∀c xs,H c=some (.tup xs)->c≠x:=λc xs r z=>by subst z;rw[r]at j;exact j
 by_cases g:b=x
 .subst g;rw[A0]at q;cases q;exact new
 .rw[A3 g]at q;by_cases a:b=e
  .have q':H b=some (.own x):=by
    rcases m with z|z
    .exact absurd (a.trans z) g
    .rw[a];exact z
   rw[q]at q';cases q';obtain⟨v,n⟩:=l;exact⟨v,by rw[a];exact n⟩
  .refine(ok b u q).stay (λc v i r=>k c v ?_ r) (λc r=>by rw[A3 (d c b r)];exact r) λc xs r=>by rw[A3 (f c xs r)];exact r
   rcases i with rfl|i
   .exact a
   .rintro rfl;rcases m with z|z
    .exact d c b i z
    .rw[i]at z;cases z;exact g rfl
end
structure Un(fs ex:List Addr)(H H':Hp)(h h':Heap):Prop where
 keep:∀b o,h.get? b=some o->H b=none->b∉fs->b∉ex->h'.get? b=some o
 slot:∀b o,h.get? b=some o->H b=none->b∈fs->b∉ex->∃sl,h'.get? b=some {o with slots:=sl}
 free:∀b o,h.get? b=some o->H b=none->b∉ex->H' b=none
 there:∀b o,h.get? b=some o->b∉ex->∃o',h'.get? b=some o'
 tups:∀b xs,H b=some (.tup xs)->H' b=some (.tup xs)
 frzs:∀b o u,H b=some (.frz o u)->H' b=some (.frz o u)
 tbls:∀b ps,H b=some (.tbl ps)->∃more,H' b=some (.tbl (ps++more))
section
variable {fs fs' ex ex':List Addr}{H H1 H2:Hp}{h h1 h2 h':Heap}{a x e:Addr}{o:HO}
theorem Un.any(u:Un fs ex H H1 h h1){b:Addr}{a:Obj}(q:h.get? b=some a)(n:H b=none)(d:b∉ex):∃sl,h1.get? b=some {a with slots:=sl}:=by
 by_cases c:b∈fs
 .exact u.slot b a q n c d
 .exact⟨a.slots,u.keep b a q n c d⟩
theorem Un.kept(k:∀b u,h.get? b=some u->h'.get? b=some u):Un fs ex H H h h' :=
 ⟨λb a q _ _ _=>k b a q,λb a q _ _ _=>⟨a.slots,k b a q⟩,λ_ _ _ n _=>n,λb a q _=>⟨a,k b a q⟩,λ_ _ q=>q,λ_ _ _ q=>q,λ_ ps q=>⟨#[],by rw[q];simp⟩⟩
theorem Un.refl:Un fs ex H H h h:=Un.kept λ_ _ q=>q
theorem Un.laid(k:∀b u,h.get? b=some u->h'.get? b=some u)(hp:h.objs.size<=a)(c:H a=none):Un fs ex H (upd H a o) h h' where
 keep:=λb u q _ _ _=>k b u q
 slot:=λb u q _ _ _=>⟨u.slots,k b u q⟩
 free:=λb u q n _=>by rw[A3 (aR (aO (aK q) hp))];exact n
 there:=λb u q _=>⟨u,k b u q⟩
 tups:=λb xs q=>by rw[A3 (A7 q c)];exact q
 frzs:=λb u xs q=>by rw[A3 (A7 q c)];exact q
 tbls:=λb ps q=>⟨#[],by rw[A3 (A7 q c),q];simp⟩
theorem Un.write(c:Mut (H x))(j:e=x∨H e=some (.own x))(k:∀b u,b≠e->h.get? b=some u->h'.get? b=some u)(d:∃u,h'.get? e=some u):Un fs ex H (upd H x o) h h':=by
 have i:∀b,H b=none->b≠x:=λb n z=>by subst z;rw[n]at c;exact c
 have g:∀b,H b=none->b≠e:=λb n z=>by
  subst z;rcases j with r|r
  .exact i b n r
  .rw[n]at r;cases r
 have f:∀b u,H b=some u->¬Mut (some u)->b≠x:=λb u q nm z=>by subst z;rw[q]at c;exact nm c
 refine⟨λb u q n _ _=>k b u (g b n) q,λb u q n _ _=>⟨u.slots,k b u (g b n) q⟩,λb u q n _=>by rw[A3 (i b n)];exact n,λb u q _=>?_,
  λb xs q=>by rw[A3 (f b _ q λz=>z)];exact q,λb u xs q=>by rw[A3 (f b _ q λz=>z)];exact q,λb ps q=>⟨#[],by rw[A3 (f b _ q λz=>z),q];simp⟩⟩
 by_cases a:b=e
 .subst a;exact d
 .exact⟨u,k b u a q⟩
end
noncomputable def trk(h:Heap)(H:Hp):List Addr:=(List.range h.objs.size).filter λa=>(H a).isSome
noncomputable def a4Z(h:Heap)(H:Hp):Heap:=PySem.W.hideAll h (trk h H)
theorem b0a(h:Heap)(H:Hp):(a4Z h H).objs.size=h.objs.size:=PySem.W.hideAll_size _ _
theorem b2B{h:Heap}{H:Hp}{b:Addr}{o:Obj}(e:h.get? b=some o)(n:H b=none):(a4Z h H).get? b=some o :=
 PySem.W.hideAll_get _ e λa=>by
  have q:(H b).isSome=true:=(aE.mp a).2;rw[n]at q;simp at q
theorem b4B{h:Heap}{H:Hp}{b:Addr}{o:Obj}(e:(a4Z h H).get? b=some o):h.get? b=some o/\H b=none:=by
 have a:h.get? b=some o:=PySem.W.of_hideAll (trk h H) e;refine⟨a,?_⟩;cases q:H b with
 |none=>rfl
 |some x =>
  have c:b∈trk h H:=aE.mpr ⟨aX.mpr (aK a),by simp[q]⟩;have z:(a4Z h H).get? b=none:=PySem.W.hideAll_none (trk h H) c;rw[z]at e;cases e
noncomputable def b5e(g h:Heap)(L:Addr):List (Addr×Obj):=(List.range h.objs.size).filterMap λa=>if a=L∨(g.get? a).isSome=true then none else(h.get? a).map λo=>(a,o)
noncomputable def rest(g h:Heap)(L d:Addr):List (Addr×Obj):=(b5e g h L).filter λp=>decide (p.1≠d)
structure Mod(K:PySem.W.Frag)(mg:Str->Option Value)(base:Heap):Prop where
 kin:K.In base
 glob:base.Ns mainGlobals mg
 blt:∃mb,base.Ns builtinsNs mb/\∀x:Str,x≠"__name__"->mb x=bootBuiltins x
 nolimit:base.NoLimit
structure Cx where
 prog:Program
 w:World
 K:PySem.W.Frag
 mg:Str->Option Value
 base:Heap
 A:Around
 N:List Str
 s₀:Shared
 H₀:Hp
 env:Env
 outer:List Env
 stack:List Env
 ex:List Addr
 fn:Str->Bool
 calm:Bool
 pn:List (Addr×Obj)
 xe:Value->Shared->Prop
noncomputable def frs(l:List Env):List Addr:=l.filterMap (·.frame)
noncomputable abbrev Cx.fs(X:Cx):List Addr:=frs X.outer
def Vis(sc:Scope)(x:Str):Prop:=sc.names.lookup x=some .local∨sc.names.lookup x=some .cell∨sc.names.lookup x=some .free
def Loc(sc:Scope)(x:Str):Prop:=sc.names.lookup x=some .local∨sc.names.lookup x=some .cell
def b8M(env:Env)(h:Heap)(m:Str->Option Value)(x:Str)(u:Value):Prop :=
 (env.kindOf x=some .local/\m x=some u)∨((env.kindOf x=some .cell∨env.kindOf x=some .free)/\∃c,env.cells.lookup x=some c/\h.IsCell c (some u))
structure Cx.Ok(X:Cx):Prop where
 mod:Mod X.K X.mg X.base
 kind:X.env.scope.kind=.function
 glob:X.env.globals=mainGlobals
 blt:X.env.builtins=builtinsNs
 above:X.s₀.heap.objs.size<=X.env.locals
 inj:∀x y c,X.env.cells.lookup x=some c->X.env.cells.lookup y=some c->x=y
 has:∀x,(X.env.kindOf x=some .cell∨X.env.kindOf x=some .free)->∃c,X.env.cells.lookup x=some c
 cab:∀x c,X.fn x=true->X.env.cells.lookup x=some c->X.s₀.heap.objs.size<=c
 hd:X.calm=true->X.A.handled=none
 frames:X.A.frames=some X.stack
 stk:X.stack=X.outer∨(X.stack=X.env::X.outer/\X.env.frame=some X.env.locals)
 exf:∀b∈X.ex,b≠X.env.locals/\∀x c,X.env.cells.lookup x=some c->c≠b
 bs:∀b o,X.base.get? b=some o->X.s₀.heap.get? b=some o/\X.H₀ b=none
 bsz:X.base.objs.size<=X.s₀.heap.objs.size
 noex:∀b o,X.base.get? b=some o->b∉X.ex
 exfs:∀b∈X.ex,b∉X.fs
 funs:X.s₀.heap.FunFrames X.base X.outer
 frf:∀b∈X.fs,X.H₀ b=none
structure Inv(X:Cx)(pins:List (Addr×Obj))(σ:List (Option V))(H:Hp)(s:Shared):Prop where
 ok:X.Ok
 os:s.os=X.s₀.os
 bare:AllBare s.gens
 base:Un X.fs X.ex X.H₀ H X.s₀.heap s.heap
 loc:∃m,s.heap.Ns X.env.locals m/\∀(i:Nat) (x:Str) (v:V),X.N[i]?=some x->σ[i]?=some (some v)->Vis X.env.scope x->∃u,RelV v u/\b8M X.env s.heap m x u
 cell:∀x c,X.env.cells.lookup x=some c->∃v,s.heap.IsCell c v
 free:H X.env.locals=none
 freeC:∀x c,X.env.cells.lookup x=some c->H c=none
 pin:∀p∈X.pn++pins,s.heap.get? p.1=some p.2/\H p.1=none/\p.1≠X.env.locals/\p.1∉X.fs/\∀v,p.2.data≠.cell v
 hok:HOk X.prog X.w H s.heap
 len:σ.length=X.N.length
section
variable {X:Cx}{pins:List (Addr×Obj)}{σ:List (Option V)}{H H':Hp}{s:Shared}{h':Heap}
theorem Cx.Ok.nofr(ok:X.Ok){b:Addr}{o:Obj}(e:X.base.get? b=some o):b∉X.fs:=λa=>by
 have:=(ok.funs.mem a).1;rw[e]at this;cases this
theorem Inv.bs(I:Inv X pins σ H s):∀b o,X.base.get? b=some o->s.heap.get? b=some o/\H b=none:=λb o e =>
 ⟨I.base.keep b o (I.ok.bs b o e).1 (I.ok.bs b o e).2 (I.ok.nofr e) (I.ok.noex b o e),I.base.free b o (I.ok.bs b o e).1 (I.ok.bs b o e).2 (I.ok.noex b o e)⟩
theorem Inv.bk(I:Inv X pins σ H s):∀b o,X.base.get? b=some o->s.heap.get? b=some o:=λb o e=>(I.bs b o e).1
theorem Inv.mod(I:Inv X pins σ H s):Mod X.K X.mg X.base:=I.ok.mod
theorem Inv.kIn(I:Inv X pins σ H s):X.K.In s.heap:=I.ok.mod.kin.keeps I.bk
theorem Inv.lt(I:Inv X pins σ H s):X.env.locals<s.heap.objs.size:=let ⟨_,hn,_⟩:=I.loc;hn.lt
theorem Inv.sz(I:Inv X pins σ H s):X.s₀.heap.objs.size<=s.heap.objs.size:=bj I.ok.above (cH I.lt)
theorem Inv.nofs(I:Inv X pins σ H s){a:Addr}(h:s.heap.objs.size<=a):a∉X.fs:=λb=>by
 obtain⟨_,o,c,_⟩:=I.ok.funs.mem b;exact absurd (aO (aK c) (bj I.sz h)) (b_ _)
theorem Inv.cne(I:Inv X pins σ H s):∀x c,X.env.cells.lookup x=some c->c≠X.env.locals:=λx c e z=>by
 obtain⟨v,o,d,hd⟩:=I.cell x c e;obtain⟨m,⟨o',es,ep,b,a,_⟩,_⟩:=I.loc;rw[z,b]at d;cases d;rw[a]at hd;cases hd
theorem Inv.funs(I:Inv X pins σ H s):s.heap.FunFrames X.base X.outer:=by
 have all:∀(l:List Env),(∀b∈frs l,b∈X.fs)->X.s₀.heap.FunFrames X.base l->s.heap.FunFrames X.base l:=by
  intro l;induction l with
  |nil=>intro _ _;trivial
  |cons env r k =>
   intro hs g;obtain⟨f,⟨L,o,d,h,i,hd⟩,j⟩:=g;have a:L∈X.fs:=hs L (by unfold frs;rw[dS,d];exact au);obtain⟨sl,e⟩:=I.base.slot L o i (I.ok.frf L a) a λz=>I.ok.exfs L z a;exact⟨f,⟨L,_,d,h,e,hd⟩,k (λb c=>hs b (by unfold frs;rw[dS,d];exact av _ c)) j⟩
 exact all X.outer (λ_ c=>c) I.ok.funs
theorem Inv.stack(I:Inv X pins σ H s):s.heap.FunFrames X.base X.stack:=by
 rcases I.ok.stk with e|⟨e,a⟩
 .rw[e];exact I.funs
 .rw[e];obtain⟨m,b,_⟩:=I.loc;refine .cons (by rw[I.ok.kind];decide) a b ?_ I.funs;exact Heap.get?_none_of_le (bj I.ok.bsz I.ok.above)
theorem Inv.stkSub(I:Inv X pins σ H s):∀b∈frs X.stack,b∈X.env.locals::X.fs:=λb a=>by
 rcases I.ok.stk with e|⟨e,c⟩
 .rw[e]at a;exact av _ a
 .rw[e]at a;unfold frs at a;rw[dS,c]at a;exact a
theorem Inv.stkFree(I:Inv X pins σ H s):∀b∈frs X.stack,H b=none:=λb a=>by
 rcases aD.mp (I.stkSub b a)with e|a
 .rw[e];exact I.free
 .obtain⟨_,o,ho,_⟩:=I.ok.funs.mem a;exact I.base.free b o ho (I.ok.frf b a) λz=>I.ok.exfs b z a
theorem Inv.step{g':Array GenState}{t':Nat}{d':Drawn}{ch:List Addr}(I:Inv X pins σ H s)
  (g:∀b∈ch,(b∈X.ex∨X.s₀.heap.objs.size<=b)/\b≠X.env.locals/\(∀x c,X.env.cells.lookup x=some c->c≠b)/\∀p∈X.pn++pins,p.1≠b)
  (keep:∀b o,b≠X.env.locals->b∉X.fs->b∉ch->s.heap.get? b=some o->H b=none->h'.get? b=some o)
  (t:∀b o,b≠X.env.locals->b∈X.fs->b∉ch->s.heap.get? b=some o->H b=none->∃sl,h'.get? b=some {o with slots:=sl}) (free:∀b o,b∉ch->s.heap.get? b=some o->H b=none->H' b=none)
  (there:∀b o,b∉ch->s.heap.get? b=some o->∃o',h'.get? b=some o')
  (D:∀b xs,H b=some (.tup xs)->H' b=some (.tup xs)) (A:∀b o u,H b=some (.frz o u)->H' b=some (.frz o u)) (C:∀b ps,H b=some (.tbl ps)->∃more,H' b=some (.tbl (ps++more)))
  (N:∀m,s.heap.Ns X.env.locals m->h'.Ns X.env.locals m) (E:HOk X.prog X.w H' h') (L:AllBare g') :
  Inv X pins σ H' {s with heap:=h',gens:=g',drawn:=d',toks:=t'}:=by
 have B:∀b o,X.s₀.heap.get? b=some o->b≠X.env.locals:=λb o e=>aR (aO (aK e) I.ok.above);have j:∀b o,X.s₀.heap.get? b=some o->b∉X.ex->b∉ch:=λb o e a w=>by
  rcases(g b w).1 with z|z
  .exact a z
  .exact absurd (aO (aK e) z) (b_ _)
 have f:∀x c,X.env.cells.lookup x=some c->∀v,s.heap.IsCell c v->h'.IsCell c v:=λx c e v ⟨o,y,hd⟩=>by
  have h:c∉ch:=λz=>(g c z).2.2.1 x c e rfl;by_cases G:c∈X.fs
  .obtain⟨sl,q⟩:=t c o (I.cne x c e) G h y (I.freeC x c e);exact⟨_,q,hd⟩
  .exact⟨o,keep c o (I.cne x c e) G h y (I.freeC x c e),hd⟩
 refine⟨I.ok,I.os,L,⟨λb o e n w a=>?_,λb o e n w a=>?_,λb o e n a=>?_,λb o e a=>?_,λb xs e=>D b xs (I.base.tups b xs e),λb o xs e=>A b o xs (I.base.frzs b o xs e),λb ps e=>?_⟩,?_,λx c e=>?_,?_,λx c e=>?_,λp J=>?_,E,I.len⟩
 .exact keep b o (B b o e) w (j b o e a) (I.base.keep b o e n w a) (I.base.free b o e n a)
 .obtain⟨sl,e1⟩:=I.base.slot b o e n w a;obtain⟨F,e2⟩:=t b _ (B b o e) w (j b o e a) e1 (I.base.free b o e n a);exact⟨F,e2⟩
 .obtain⟨o',e1⟩:=I.base.there b o e a;exact free b o' (j b o e a) e1 (I.base.free b o e n a)
 .obtain⟨o',e1⟩:=I.base.there b o e a;exact there b o' (j b o e a) e1
 .obtain⟨m1,e1⟩:=I.base.tbls b ps e;obtain⟨M,e2⟩:=C b _ e1;exact⟨m1++M,by rw[e2,Array.append_assoc]⟩
 .obtain⟨m,hn,hl⟩:=I.loc;refine⟨m,N m hn,λi x v e1 e2 K=>?_⟩;obtain⟨u,r,l⟩:=hl i x v e1 e2 K;refine⟨u,r,?_⟩;rcases l with l|⟨k,c,e,z⟩
  .exact .inl l
  .exact .inr ⟨k,c,e,f x c e _ z⟩
 .obtain⟨v,z⟩:=I.cell x c e;exact⟨v,f x c e v z⟩
 .obtain⟨m,⟨o,_,_,y,_⟩,_⟩:=I.loc;exact free _ o (λz=>(g _ z).2.1 rfl) y I.free
 .obtain⟨v,o,y,hd⟩:=I.cell x c e;exact free c o (λz=>(g c z).2.2.1 x c e rfl) y (I.freeC x c e)
 .obtain⟨e,n,ne,nf,d⟩:=I.pin p J;have h:p.1∉ch:=λz=>(g p.1 z).2.2.2 p J rfl;exact⟨keep p.1 p.2 ne nf h e n,free p.1 p.2 h e n,ne,nf,d⟩
theorem Inv.un{t':Nat}(I:Inv X pins σ H s)(u:Un X.fs [] H H' s.heap h')(g:HOk X.prog X.w H' h'):Inv X pins σ H' {s with heap:=h',toks:=t'}:=by
 obtain⟨m,⟨o,es,ep,h,r⟩,_⟩:=id I.loc;obtain⟨sl,i⟩:=u.any h I.free (by simp);exact I.step (g':=s.gens) (d':=s.drawn) (ch:=[]) (λ_ z=>nomatch z) (λb o _ f _ e n=>u.keep b o e n f (by simp)) (λb o _ f _ e n=>u.slot b o e n f (by simp)) (λb o _ e n=>u.free b o e n (by simp)) (λb o _ e=>u.there b o e (by simp)) u.tups u.frzs u.tbls (λl j=>by
  obtain⟨o',d,c,a,k⟩:=j;rw[h]at a;cases a;exact⟨_,d,c,i,k⟩) g I.bare
theorem Inv.call{g':Array GenState}{t':Nat}{d':Drawn}{ch:List Addr}(I:Inv X pins σ H s)(u:Un (frs X.stack) ch H H' s.heap h')(j:HOk X.prog X.w H' h')(q:AllBare g')
  (d:∀b∈ch,(b∈X.ex∨X.s₀.heap.objs.size<=b)/\b≠X.env.locals/\(∀x c,X.env.cells.lookup x=some c->c≠b)/\∀p∈X.pn++pins,p.1≠b) :
  Inv X pins σ H' {s with heap:=h',gens:=g',drawn:=d',toks:=t'}:=by
 obtain⟨m,⟨o,es,ep,k,r⟩,_⟩:=id I.loc;obtain⟨sl,i⟩:=u.any k I.free λz=>(d _ z).2.1 rfl;exact I.step (ch:=ch) d (λb o i l a e n=>u.keep b o e n (λz=>(aD.mp (I.stkSub b z)).elim i l) a) (λb o _ _ a e n=>u.any e n a) (λb o a e n=>u.free b o e n a) (λb o a e=>u.there b o e a) u.tups u.frzs u.tbls (λw t=>by
  obtain⟨o',h,g,f,v⟩:=t;rw[k]at f;cases f;exact⟨_,h,g,i,v⟩) j q
theorem Inv.turned{t':Nat}{it:Addr}(I:Inv X pins σ H s)(k:∀b o,b≠it->s.heap.get? b=some o->h'.get? b=some o)(j:H it=none)(f:it≠X.env.locals)
  (h1:it∈X.ex∨X.s₀.heap.objs.size<=it) (h2:∀x c,X.env.cells.lookup x=some c->c≠it) (g:∀p∈X.pn++pins,p.1≠it):Inv X pins σ H {s with heap:=h',toks:=t'}:=by
 have d:∀b u,H b=some u->b≠it:=λb u e z=>by rw[z,j]at e;cases e
 refine I.step (g':=s.gens) (d':=s.drawn) (ch:=[it]) (λb h=>?_) (λb o _ _ a e _=>k b o (λz=>a (by simp[z])) e) (λb o _ _ a e _=>⟨o.slots,k b o (λz=>a (by simp[z])) e⟩) (λ_ _ _ _ n=>n)
  (λb o a e=>⟨o,k b o (λz=>a (by simp[z])) e⟩) (λ_ _ e=>e) (λ_ _ _ e=>e) (λb ps e=>⟨#[],by rw[e];simp⟩) (λm i=>?_) (λb u e=>?_) I.bare
 .have e:b=it:=by simpa using h
  subst e;exact⟨h1,f,h2,g⟩
 .obtain⟨o,es,ep,ho,r⟩:=i;exact⟨o,es,ep,k _ o (dq f) ho,r⟩
 .refine(I.hok b u e).stay (λc v a q=>k c v ?_ q) (λ_ q=>q) λ_ _ q=>q;rcases a with z|z
  .rw[z];exact d b u e
  .exact d c _ z
theorem Inv.tok(I:Inv X pins σ H s)(t:Nat):Inv X pins σ H {s with toks:=t}:=I.un (h':=s.heap) (t':=t) Un.refl I.hok
theorem Inv.kept{t':Nat}(I:Inv X pins σ H s)(k:∀b u,s.heap.get? b=some u->h'.get? b=some u):Inv X pins σ H {s with heap:=h',toks:=t'}:=I.un (Un.kept k) (I.hok.kept k)
theorem Inv.laid{a:Addr}{o:HO}{t':Nat}(I:Inv X pins σ H s)(k:∀b u,s.heap.get? b=some u->h'.get? b=some u)(hp:s.heap.objs.size<=a)(new:ObjOk X.prog X.w (upd H a o) h' a o) :
  Inv X pins σ (upd H a o) {s with heap:=h',toks:=t'}:=I.un (Un.laid k hp (I.hok.fresh hp)) (I.hok.laid k hp new)
theorem Inv.write{x e:Addr}{o:HO}{t':Nat}(I:Inv X pins σ H s)(d:Mut (H x))(c:e=x∨H e=some (.own x))(k:∀b u,b≠e->s.heap.get? b=some u->h'.get? b=some u)(a:∃u,h'.get? e=some u)
  (new:ObjOk X.prog X.w (upd H x o) h' x o):Inv X pins σ (upd H x o) {s with heap:=h',toks:=t'}:=I.un (Un.write d c k a) (I.hok.write d c k a new)
theorem Inv.weak{σ':List (Option V)}(I:Inv X pins σ H s)(b:σ'.length=σ.length)(w:∀(i:Nat) v,σ'[i]?=some (some v)->σ[i]?=some (some v)):Inv X pins σ' H s :=
 ⟨I.ok,I.os,I.bare,I.base,let ⟨m,hn,hl'⟩:=I.loc;⟨m,hn,λi x v e1 e2 a=>hl' i x v e1 (w i v e2) a⟩,I.cell,I.free,I.freeC,I.pin,I.hok,b.trans I.len⟩
theorem Inv.pins_of{pins':List (Addr×Obj)}(I:Inv X pins σ H s)(h:∀p∈pins',s.heap.get? p.1=some p.2/\H p.1=none/\p.1≠X.env.locals/\p.1∉X.fs/\∀v,p.2.data≠.cell v):Inv X pins' σ H s :=
 ⟨I.ok,I.os,I.bare,I.base,I.loc,I.cell,I.free,I.freeC,λp a=>(aA.mp a).elim (λz=>I.pin p (aS _ z)) (h p),I.hok,I.len⟩
theorem a5W{N:List Str}(c:N.Nodup){i j:Nat}{x:Str}(a:N[i]?=some x)(b:N[j]?=some x):i=j:=by
 obtain⟨h1,e1⟩:=aT.mp a;obtain⟨h2,e2⟩:=aT.mp b;exact(List.getElem_inj c).mp (e1.trans e2.symm)
theorem a3L{M:Model}{A:Around}{E:Value->Shared->Prop}{i:Nat}{x:Str}{v:V}{u:Value}{Q:Unit->Shared->Prop}(I:Inv X pins σ H s)(U:X.N.Nodup)(hi:X.N[i]?=some x)(l:Loc X.env.scope x)(r:RelV v u)
  (h:∀s',Inv X pins (σ.set i (some v)) H s'->(∃a,Heap.SameBut a s.heap s'.heap/\(a=X.env.locals∨X.env.cells.lookup x=some a))->Q () s') (Z:X.fn x=true∨X.env.scope.names.lookup x=some .local:=by first|exact .inl rfl|exact .inr rfl|assumption):wpAny M A (storeName X.env x u) Q E s:=by
 obtain⟨m,L,W⟩:=id I.loc;have D:(X.env.scope.kind==.class || (X.env.scope.kind==.module && X.env.locals != X.env.globals))=false:=by rw[I.ok.kind];rfl
 have hiσ:i<σ.length:=by rw[I.len];exact(aT.mp hi).1
 have cne:=I.cne;have f:∀{a:Addr}{h':Heap},(∃o,s.heap.get? a=some o/\H a=none)->Heap.SameBut a s.heap h'->HOk X.prog X.w H h':=λ{a h'} Y hs b ob e=>by
  obtain⟨_,_,t⟩:=Y;refine(I.hok b ob e).stay (λc J g q=>(hs.2 c ?_).trans q) (λ_ q=>q) λ_ _ q=>q;rintro rfl;rcases g with rfl|g
  .rw[t]at e;cases e
  .rw[t]at g;cases g
 rcases l with w|w
 .refine wpAny_storeName_local w L (λh' N hs=>?_) D;obtain⟨oL,_,_,O,_⟩:=id L;refine h _ ⟨I.ok,I.os,I.bare,⟨λb o e n B l=>?_,λb o e n B l=>?_,I.base.free,λb o e l=>?_,I.base.tups,I.base.frzs,I.base.tbls⟩,⟨_,N,λj y T e1 e2 K=>?_⟩,λy c e=>?_,I.free,I.freeC,λp P=>?_,f ⟨oL,O,I.free⟩ hs,by simpa using I.len⟩ ⟨_,hs,.inl rfl⟩
  .exact(hs.2 b (aR (aO (aK e) I.ok.above))).trans (I.base.keep b o e n B l)
  .obtain⟨sl,e1⟩:=I.base.slot b o e n B l;exact⟨sl,(hs.2 b (aR (aO (aK e) I.ok.above))).trans e1⟩
  .obtain⟨o',e1⟩:=I.base.there b o e l;exact⟨o',(hs.2 b (aR (aO (aK e) I.ok.above))).trans e1⟩
  .by_cases hj:j=i
   .subst hj;rw[hi]at e1;cases e1;rw[List.getElem?_set_self hiσ]at e2;cases e2;exact⟨u,r,.inl ⟨w,by simp⟩⟩
   .rw[List.getElem?_set_ne (dq hj)]at e2;obtain⟨S,R,q⟩:=W j y T e1 e2 K;refine⟨S,R,?_⟩;rcases q with⟨k,e⟩|⟨k,c,e,z⟩
    .refine .inl ⟨k,?_⟩;have:y≠x:=λe=>hj (a5W U e1 (e ▸ hi));simp[this,e]
    .exact .inr ⟨k,c,e,z.sameBut hs (cne y c e)⟩
  .obtain⟨J,z⟩:=I.cell y c e;exact⟨J,z.sameBut hs (cne y c e)⟩
  .obtain⟨e,n,ne,nf,d⟩:=I.pin p P;exact⟨(hs.2 p.1 ne).trans e,n,ne,nf,d⟩
 .have hfn:X.fn x=true:=by
   rcases Z with z|z
   .exact z
   .rw[z]at w;cases w
  obtain⟨c,g⟩:=I.ok.has x (.inl w);obtain⟨J,z⟩:=I.cell x c g;refine wpAny_storeName_cell I.ok.kind w g z (λh' C hs=>?_);obtain⟨oc,F,G⟩:=id z;refine h {s with heap:=h'} ⟨I.ok,I.os,I.bare,⟨λb o e n B l=>?_,λb o e n B l=>?_,I.base.free,λb o e l=>?_,I.base.tups,I.base.frzs,I.base.tbls⟩,⟨m,L.sameBut hs (dq (cne x c g)),λj y T e1 e2 K=>?_⟩,λy c' e=>?_,I.free,I.freeC,λp P=>?_,f ⟨oc,F,I.freeC x c g⟩ hs,by simpa using I.len⟩ ⟨c,hs,.inr g⟩
  .exact(hs.2 b (aR (aO (aK e) (I.ok.cab x c hfn g)))).trans (I.base.keep b o e n B l)
  .obtain⟨sl,e1⟩:=I.base.slot b o e n B l;exact⟨sl,(hs.2 b (aR (aO (aK e) (I.ok.cab x c hfn g)))).trans e1⟩
  .obtain⟨o',e1⟩:=I.base.there b o e l;exact⟨o',(hs.2 b (aR (aO (aK e) (I.ok.cab x c hfn g)))).trans e1⟩
  .by_cases hj:j=i
   .subst hj;rw[hi]at e1;cases e1;rw[List.getElem?_set_self hiσ]at e2;cases e2;exact⟨u,r,.inr ⟨.inl w,c,g,C⟩⟩
   .rw[List.getElem?_set_ne (dq hj)]at e2;obtain⟨S,R,q⟩:=W j y T e1 e2 K;refine⟨S,R,?_⟩;rcases q with q|⟨k,c',e,z'⟩
    .exact .inl q
    .refine .inr ⟨k,c',e,z'.sameBut hs ?_⟩;rintro rfl;exact hj (a5W U e1 (I.ok.inj _ _ _ e g ▸ hi))
  .by_cases hcc:c'=c
   .subst hcc;exact⟨_,C⟩
   .obtain⟨w2,z2⟩:=I.cell y c' e;exact⟨w2,z2.sameBut hs hcc⟩
  .obtain⟨e,n,ne,nf,d⟩:=I.pin p P;refine⟨(hs.2 p.1 ?_).trans e,n,ne,nf,d⟩;intro q;rw[q,F]at e;have q':oc=p.2:=bH e;exact d J (by rw[<-q'];exact G)
theorem W3{M:Model}{A:Around}{E:Value->Shared->Prop}{i:Nat}{x:Str}{v:V}{u:Value}{Q:Unit->Shared->Prop}(I:Inv X pins σ H s)(b:X.N.Nodup)(hi:X.N[i]?=some x)(d:Loc X.env.scope x)(r:RelV v u)
  (h:∀s',Inv X pins (σ.set i (some v)) H s'->Q () s') (c:X.fn x=true∨X.env.scope.names.lookup x=some .local:=by first|exact .inl rfl|exact .inr rfl|assumption):wpAny M A (storeName X.env x u) Q E s :=
 a3L I b hi d r (λs' a _=>h s' a) c
theorem Inv.call'{s':Shared}{ch:List Addr}(I:Inv X pins σ H s)(i:s'.os=s.os)(u:Un (frs X.stack) ch H H' s.heap s'.heap)(d:HOk X.prog X.w H' s'.heap)(h:AllBare s'.gens)
  (a:∀b∈ch,(b∈X.ex∨X.s₀.heap.objs.size<=b)/\b≠X.env.locals/\(∀x c,X.env.cells.lookup x=some c->c≠b)/\∀p∈X.pn++pins,p.1≠b):Inv X pins σ H' s':=by
 obtain⟨h',g,f,t',o'⟩:=s';have e:o'=s.os:=i;subst e;exact I.call (g':=g) (t':=t') (d':=f) u d h a
end
abbrev XK:=Value->Option Addr->Hp->Prop
abbrev St:=List (Option V)
abbrev VK:=V->Hp->Prop
abbrev TE:=St->Hp->VK->Prop
abbrev TT:=St->Hp->(Bool->Hp->Prop)->Prop
abbrev TA:=St->Hp->(List V->Hp->Prop)->Prop
structure Ends where
 nx:St->Hp->Prop
 rt:VK
 bk:St->Hp->Prop:=λ_ _=>False
 ct:St->Hp->Prop:=λ_ _=>False
abbrev TS:=Ends->St->Hp->Prop
def EP(X:Cx)(pins:List (Addr×Obj))(σ:St)(Q:VK)(u:Value)(s':Shared):Prop:=∃v H',Inv X pins σ H' s'/\RelV v u/\Q v H'
def TP(X:Cx)(pins:List (Addr×Obj))(σ:St)(Q:Bool->Hp->Prop)(b:Bool)(s':Shared):Prop:=∃H',Inv X pins σ H' s'/\Q b H'
def AP(X:Cx)(pins:List (Addr×Obj))(σ:St)(Q:List V->Hp->Prop)(us:List Value)(s':Shared):Prop:=∃vs H',Inv X pins σ H' s'/\Vals vs us/\Q vs H'
def SP(X:Cx)(pins:List (Addr×Obj))(D:Ends)(f:Flow)(s':Shared):Prop :=
 match f with
 |.next=>∃σ' H',Inv X pins σ' H' s'/\D.nx σ' H'
 |.brk=>∃σ' H',Inv X pins σ' H' s'/\D.bk σ' H'
 |.cont=>∃σ' H',Inv X pins σ' H' s'/\D.ct σ' H'
 |.ret u=>∃v σ' H',Inv X pins σ' H' s'/\RelV v u/\D.rt v H'
def PE(X:Cx)(e:Expr)(t:TE):Prop :=
 ∀(pins:List (Addr×Obj)) (s:Shared) (σ:St) (H:Hp) (Q:VK),Inv X pins σ H s->t σ H Q->wpAny (model X.prog X.w) X.A (eval e X.env) (EP X pins σ Q) X.xe s
def PT(X:Cx)(e:Expr)(t:TT):Prop :=
 ∀(pins:List (Addr×Obj)) (s:Shared) (σ:St) (H:Hp) (Q:Bool->Hp->Prop),Inv X pins σ H s->t σ H Q->wpAny (model X.prog X.w) X.A (isTrue e X.env (eval e X.env)) (TP X pins σ Q) X.xe s
def PW(X:Cx)(e:Expr)(t:TT):Prop :=
 ∀(whole:Sem Value) (pins:List (Addr×Obj)) (s:Shared) (σ:St) (H:Hp) (Q:Bool->Hp->Prop),Inv X pins σ H s->t σ H Q->wpAny (model X.prog X.w) X.A (isTrue e X.env whole) (TP X pins σ Q) X.xe s
theorem PW.pt{X:Cx}{e:Expr}{t:TT}(h:PW X e t):PT X e t:=h _
def PA(X:Cx)(es:List Expr)(t:TA):Prop :=
 ∀(pos:Pos) (pins:List (Addr×Obj)) (s:Shared) (σ:St) (H:Hp) (Q:List V->Hp->Prop),Inv X pins σ H s->t σ H Q->wpAny (model X.prog X.w) X.A (spliced (backTo pos (starEach es X.env))) (AP X pins σ Q) X.xe s
def PS(X:Cx)(st:Stmt)(t:TS):Prop :=
 ∀(pins:List (Addr×Obj)) (s:Shared) (σ:St) (H:Hp) (D:Ends),Inv X pins σ H s->t D σ H->wpAny (model X.prog X.w) X.A (exec st X.env) (SP X pins D) X.xe s
def PSs(X:Cx)(st:List Stmt)(t:TS):Prop :=
 ∀(pins:List (Addr×Obj)) (s:Shared) (σ:St) (H:Hp) (D:Ends),Inv X pins σ H s->t D σ H->wpAny (model X.prog X.w) X.A (execs st X.env) (SP X pins D) X.xe s
theorem thn{α:Type}{t:Sem α}{Q b:α->Shared->Prop}{M:Model}{A:Around}{E:Value->Shared->Prop}{s:Shared}(h:wpAny M A t Q E s)(c:∀a s,Q a s->b a s):wpAny M A t b E s:=dr h c λ_ _ x=>x
section
variable {X:Cx}
def N5(i:Nat):TE:=λσ H Q=>∃v,σ[i]?=some (some v)/\Q v H
def tC(v:V):TE:=λ_ H Q=>Q v H
theorem b1J{i:Nat}{x:Str}{pos:Pos}(g:X.N[i]?=some x)(o:Vis X.env.scope x)(hd:(x==("__debug__" : Str))=false:=by decide)(d:(x==("__classdict__" : Str))=false:=by decide):PE X (.Name x pos) (N5 i):=by
 intro pins s σ H Q I h;obtain⟨v,e,h⟩:=h;obtain⟨m,n,j⟩:=I.loc;obtain⟨u,r,l⟩:=j i x v g e o;have fin:EP X pins σ Q u s:=⟨v,H,I,r,h⟩;rcases l with⟨b,k⟩|⟨b,c,f,a⟩
 .exact wpAny_Name (wpAny_loadName_local I.ok.kind b n k fin) hd
 .rcases b with b|b
  .exact wpAny_Name (wpAny_loadName_cell I.ok.kind b f a fin) hd
  .exact wpAny_Name (wpAny_loadName_free I.ok.kind b f a fin d) hd
theorem b6y{i j pos}:PE X (.Constant (.int i) j pos) (tC (.int i)):=λ_ _ _ H _ I h=>wpAny_Constant_int ⟨.int i,H,I.tok _,⟨_,rfl⟩,h⟩
theorem b8f{b j pos}:PE X (.Constant (.bool b) j pos) (tC (.bl b)):=λ_ _ _ H _ I h=>Constant_bool ⟨.bl b,H,I,rfl,h⟩
theorem b6w{j pos}:PE X (.Constant .none j pos) (tC .non):=λ_ _ _ H _ I h=>Constant_none ⟨.non,H,I,rfl,h⟩
theorem b6t{x j pos}:PE X (.Constant (.str x) j pos) (tC (.str x)):=λ_ _ _ H _ I h=>Calls.Constant_str ⟨.str x,H,I.tok _,⟨_,rfl⟩,h⟩
def Gl(X:Cx)(x:Str):Prop:=X.env.kindOf x=some .globalImplicit
theorem a0Q{E:Value->Shared->Prop}{pins:List (Addr×Obj)}{s:Shared}{σ:St}{H:Hp}{x:Str}{u:Value}{pos:Pos}{Q:Value->Shared->Prop}(I:Inv X pins σ H s)(a:Gl X x)(b:X.mg x=some u)(h:Q u s)
  (hd:(x==("__debug__" : Str))=false:=by decide):wpAny (model X.prog X.w) X.A (eval (.Name x pos) X.env) Q E s :=
 Calls.Name_function_global I.ok.kind a (Calls.loadGlobal_global (by rw[I.ok.glob];exact I.mod.glob.keeps I.bk) b h) hd
theorem a2R{E:Value->Shared->Prop}{pins:List (Addr×Obj)}{s:Shared}{σ:St}{H:Hp}{x:Str}{u:Value}{pos:Pos}{Q:Value->Shared->Prop}(I:Inv X pins σ H s)(a:Gl X x)(b:X.mg x=none)(d:bootBuiltins x=some u)(h:Q u s)
  (c:x≠"__name__":=by decide) (hd:(x==("__debug__" : Str))=false:=by decide):wpAny (model X.prog X.w) X.A (eval (.Name x pos) X.env) Q E s:=by
 obtain⟨e,h1,h2⟩:=I.mod.blt;exact Calls.Name_function_global I.ok.kind a (Calls.loadGlobal_builtin (by rw[I.ok.glob];exact I.mod.glob.keeps I.bk) b (by rw[I.ok.blt];exact h1.keeps I.bk) ((h2 x c).trans d) h) hd
theorem b4o{x:Str}{v:V}{u:Value}{pos:Pos}(a:Gl X x)(b:X.mg x=none)(d:bootBuiltins x=some u)(r:RelV v u)(c:x≠"__name__":=by decide)(hd:(x==("__debug__" : Str))=false:=by decide):PE X (.Name x pos) (tC v) :=
 λ_ _ _ H _ I h=>a2R I a b d ⟨v,H,I,r,h⟩ c hd
variable {a b:Expr}{ta tb:TE}{pos:Pos}
def PC(X:Cx)(op:CmpOp)(a b:Expr)(t:TE):Prop :=
 ∀(pins:List (Addr×Obj)) (s:Shared) (σ:St) (H:Hp) (Q:VK),Inv X pins σ H s->t σ H Q ->
  wpAny (model X.prog X.w) X.A (eval a X.env) (λv s₁=>wpAny (model X.prog X.w) X.A (eval b X.env) (λu s₂=>wpAny (model X.prog X.w) X.A (compareOp op v u) (EP X pins σ Q) X.xe s₂) X.xe s₁) X.xe s
def tB(t:TE):TT:=λσ H Q=>t σ H λx H1=>∃c,x=.bl c/\Q c H1
theorem b6A{c:CmpOp}{t:TE}(h:PC X c a b t)(h1:behindInMarks c b=false:=by first|exact nobehind _ (by decide) (by decide)|rfl):PE X (.Compare a [c] [b] pos) t:=λpins s σ H Q I hw=>wpAny_Compare1 (h pins s σ H Q I hw) h1
theorem b6h{e:CmpOp}{t:TE}(h:PC X e a b t)(h1:behindInMarks e b=false:=by first|exact nobehind _ (by decide) (by decide)|rfl):PT X (.Compare a [e] [b] pos) (tB t):=by
 intro pins s σ H Q I hw;refine wpAny_isTrue_Compare1 (thn (h pins s σ H _ I hw) λv s1 h1=>thn h1 λu s2 h2=>thn h2 λc i ⟨x,H1,f,g,q1⟩=>?_) h1;obtain⟨d,rfl,q⟩:=q1;cases g;exact df ⟨H1,f,q⟩
variable {tA tB':TT}{rest:List Expr}
def b7S(t u:TT):TT:=λσ H Q=>t σ H λc H1=>if c=true then u σ H1 Q else Q false H1
def tOr(t u:TT):TT:=λσ H Q=>t σ H λc H1=>if c=true then Q true H1 else u σ H1 Q
def b7N(t:TT):TT:=λσ H Q=>t σ H λc H1=>Q (!c) H1
theorem pw_and1(b:PT X a tA):PW X (.BoolOp .And [a] pos) tA:=by
 intro d pins s σ H Q I h;refine isTrue_and (thn (b pins s σ H Q I h) λc s1 e=>?_);cases c with
 |true=>exact isTrue_and_nil e
 |false=>exact e
theorem pw_or1(b:PT X a tA):PW X (.BoolOp .Or [a] pos) tA:=by
 intro d pins s σ H Q I h;refine isTrue_or (thn (b pins s σ H Q I h) λc s1 e=>?_);cases c with
 |false=>exact isTrue_or_nil e
 |true=>exact e
theorem pw_and(e:PT X a tA)(f:PW X (.BoolOp .And (b::rest) pos) tB'):PW X (.BoolOp .And (a::b::rest) pos) (b7S tA tB'):=by
 intro g pins s σ H Q I h;refine isTrue_and (thn (e pins s σ H _ I h) λc s1 ⟨H1,d,q1⟩=>?_);cases c with
 |true=>exact f g pins s1 σ H1 Q d q1
 |false=>exact⟨H1,d,q1⟩
theorem pw_or(e:PT X a tA)(f:PW X (.BoolOp .Or (b::rest) pos) tB'):PW X (.BoolOp .Or (a::b::rest) pos) (tOr tA tB'):=by
 intro g pins s σ H Q I h;refine isTrue_or (thn (e pins s σ H _ I h) λc s1 ⟨H1,d,q1⟩=>?_);cases c with
 |true=>exact⟨H1,d,q1⟩
 |false=>exact f g pins s1 σ H1 Q d q1
theorem b6g(b:PT X a tA):PT X (.UnaryOp .Not a pos) (b7N tA):=by
 intro pins s σ H Q I h;exact isTrue_not (b pins s σ H (λc H1=>Q (!c) H1) I h)
def b5m(ta tb:TE):TE:=λσ H Q=>ta σ H λx H1=>∃c,x=.bl c/\if c=true then tb σ H1 Q else Q (.bl false) H1
def b7M(ta tb:TE):TE:=λσ H Q=>ta σ H λx H1=>∃c,x=.bl c/\if c=true then Q (.bl true) H1 else tb σ H1 Q
def b5i(ta:TE):TE:=λσ H Q=>ta σ H λx H1=>∃c,x=.bl c/\Q (.bl (!c)) H1
theorem b6u{op}{t:TE}(h:PE X a t):PE X (.BoolOp op [a] pos) t:=λpins s σ H Q I hw=>BoolOp_one (h pins s σ H Q I hw)
theorem b6B(e:PE X a ta)(f:PE X (.BoolOp .And (b::rest) pos) tb):PE X (.BoolOp .And (a::b::rest) pos) (b5m ta tb):=by
 intro pins s σ H Q I h;refine BoolOp_and (thn (e pins s σ H _ I h) λv s1 ⟨x,H1,d,g,q1⟩=>?_);obtain⟨c,rfl,q1⟩:=q1;cases g;refine df ?_;cases c with
 |true=>exact f pins s1 σ H1 Q d q1
 |false=>exact⟨.bl false,H1,d,rfl,q1⟩
theorem b8d(e:PE X a ta)(f:PE X (.BoolOp .Or (b::rest) pos) tb):PE X (.BoolOp .Or (a::b::rest) pos) (b7M ta tb):=by
 intro pins s σ H Q I h;refine BoolOp_or (thn (e pins s σ H _ I h) λv s1 ⟨x,H1,d,g,q1⟩=>?_);obtain⟨c,rfl,q1⟩:=q1;cases g;refine df ?_;cases c with
 |false=>exact f pins s1 σ H1 Q d q1
 |true=>exact⟨.bl true,H1,d,rfl,q1⟩
theorem b6v(d:PE X a ta):PE X (.UnaryOp .Not a pos) (b5i ta):=by
 intro pins s σ H Q I h;refine UnaryOp_ (thn (d pins s σ H _ I h) λv s1 ⟨x,H1,b,e,q1⟩=>?_);obtain⟨c,rfl,q1⟩:=q1;cases e;exact not_of (df ⟨.bl (!c),H1,b,rfl,q1⟩)
def tIf(t:TT)(ta tb:TE):TE:=λσ H Q=>t σ H λc H1=>if c=true then ta σ H1 Q else tb σ H1 Q
theorem b1L{c:Expr}(i:PT X c tA)(f:PE X a ta)(g:PE X b tb):PE X (.IfExp c a b pos) (tIf tA ta tb):=by
 intro pins s σ H Q I h;refine wpAny_IfExp (thn (i pins s σ H _ I h) λd s1 ⟨H1,e,q1⟩=>?_);cases d with
 |true=>exact f pins s1 σ H1 Q e q1
 |false=>exact g pins s1 σ H1 Q e q1
end
def SqL(K:PySem.W.Frag)(H:Hp)(a:Addr)(xs:List V):Prop :=
 Rd H a (.lst xs) ∨
  ∃(o:Obj) (its:Array Value) (n:Nat),K.lookup a=some o/\o.cls=.type "list"/\o.dict=none/\o.data=.seq its n/\its.size<=sizeLine/\Vals xs its.toList
def SqT(K:PySem.W.Frag)(H:Hp)(a:Addr)(xs:List V):Prop :=
 Rd H a (.tup xs) ∨
  ∃(o:Obj) (its:Array Value) (n:Nat),K.lookup a=some o/\o.cls=.type "tuple"/\o.data=.seq its n/\its.size<=sizeLine/\Vals xs its.toList
noncomputable def b8K:Value->Option V
 |.none=>some .non
 |.bool b=>some (.bl b)
 |.int i _=>some (.int i)
 |.str x _=>some (.str x)
 |.bytes b _=>some (.byt b)
 |.float b _=>some (.flt b)
 |.ref a=>some (.ref a)
 |.type n=>some (.ty n)
 |_=>none
theorem RelV.abs{x:V}{u:Value}(r:RelV x u):b8K u=some x:=by
 cases x with
 |non=>cases r;rfl
 |bl _=>cases r;rfl
 |int _=>obtain⟨t,rfl⟩:=r;rfl
 |str _=>obtain⟨t,rfl⟩:=r;rfl
 |byt _=>obtain⟨t,rfl⟩:=r;rfl
 |flt _=>obtain⟨t,rfl⟩:=r;rfl
 |ref _=>cases r;rfl
 |ty _=>cases r;rfl
theorem RelV.inj{x y:V}{u:Value}(r:RelV x u)(q:RelV y u):x=y:=bH (r.abs.symm.trans q.abs)
theorem Vals.inj:∀{xs ys:List V}{us:List Value},Vals xs us->Vals ys us->xs=ys
 |_,_,_,.nil,.nil=>rfl
 |_,_,_,.cons r t,.cons r' t'=>by rw[r.inj r',Vals.inj t t']
section
variable {X:Cx}{pins:List (Addr×Obj)}{σ:St}{H:Hp}{s:Shared}{a:Addr}{xs ys:List V}
theorem SqL.of{K:PySem.W.Frag}(h:H a=some (.lst xs)):SqL K H a xs:=.inl (.inl h)
theorem SqT.of{K:PySem.W.Frag}(h:H a=some (.tup xs)):SqT K H a xs:=.inl (.inl h)
theorem Inv.list(I:Inv X pins σ H s)(h:SqL X.K H a xs):∃its:List Value,Vals xs its/\PlainL s.heap a its.toArray/\xs.length<=sizeLine:=by
 rcases h with h|⟨o,its,n,c,b,hd,hs,d,r⟩
 .obtain⟨z,its,n,r,e⟩:=h.ok I.hok;exact⟨its,r,⟨_,n,e,rfl,rfl,rfl⟩,z⟩
 .refine⟨its.toList,r,⟨o,n,I.kIn a o c,b,hd,by simpa using hs⟩,?_⟩;have e:=r.length;simp only[ay]at e;omega
theorem Inv.tuple(I:Inv X pins σ H s)(h:SqT X.K H a xs):∃its:List Value,Vals xs its/\IsTup s.heap a its.toArray/\xs.length<=sizeLine:=by
 rcases h with h|⟨o,its,n,c,b,hs,d,r⟩
 .obtain⟨z,its,r,p⟩:=h.ok I.hok;exact⟨its,r,p.tup,z⟩
 .refine⟨its.toList,r,⟨o,I.kIn a o c,b,n,by simpa using hs⟩,?_⟩;have e:=r.length;simp only[ay]at e;omega
theorem Inv.list_inj(I:Inv X pins σ H s)(h:SqL X.K H a xs)(h':SqL X.K H a ys):xs=ys:=by
 obtain⟨its,r,⟨o,n,e,_,_,d⟩,_⟩:=I.list h;obtain⟨b,g,⟨o',i,f,_,_,c⟩,_⟩:=I.list h';rw[e]at f;cases f;rw[d]at c;injection c with d1 _
 have:its=b:=by simpa using aN Array.toList d1
 subst this;exact r.inj g
theorem Inv.tuple_inj(I:Inv X pins σ H s)(h:SqT X.K H a xs)(h':SqT X.K H a ys):xs=ys:=by
 obtain⟨its,r,⟨o,e,_,n,d⟩,_⟩:=I.tuple h;obtain⟨b,g,⟨o',f,_,i,c⟩,_⟩:=I.tuple h';rw[e]at f;cases f;rw[d]at c;injection c with d1 _
 have:its=b:=by simpa using aN Array.toList d1
 subst this;exact r.inj g
end
noncomputable abbrev Cx.wish(X:Cx)(E:Value->Shared->Prop):Cx:={X with xe:=E}
noncomputable abbrev Cx.nox(X:Cx):Cx:=X.wish λ_ _=>False
theorem Cx.Ok.wish{X:Cx}(ok:X.Ok)(E:Value->Shared->Prop):(X.wish E).Ok :=
 ⟨ok.mod,ok.kind,ok.glob,ok.blt,ok.above,ok.inj,ok.has,ok.cab,ok.hd,ok.frames,ok.stk,ok.exf,ok.bs,ok.bsz,ok.noex,ok.exfs,ok.funs,ok.frf⟩
theorem Cx.Ok.unwish{X:Cx}{E:Value->Shared->Prop}(ok:(X.wish E).Ok):X.Ok :=
 ⟨ok.mod,ok.kind,ok.glob,ok.blt,ok.above,ok.inj,ok.has,ok.cab,ok.hd,ok.frames,ok.stk,ok.exf,ok.bs,ok.bsz,ok.noex,ok.exfs,ok.funs,ok.frf⟩
section
variable {X:Cx}{pins:List (Addr×Obj)}{σ:St}{H:Hp}{s:Shared}{E:Value->Shared->Prop}
theorem Inv.wish(I:Inv X pins σ H s)(E:Value->Shared->Prop):Inv (X.wish E) pins σ H s:=⟨I.ok.wish E,I.os,I.bare,I.base,I.loc,I.cell,I.free,I.freeC,I.pin,I.hok,I.len⟩
theorem Inv.unwish(I:Inv (X.wish E) pins σ H s):Inv X pins σ H s:=⟨I.ok.unwish,I.os,I.bare,I.base,I.loc,I.cell,I.free,I.freeC,I.pin,I.hok,I.len⟩
theorem SP.unwish{D:Ends}{f:Flow}{s':Shared}(h:SP (X.wish E) pins D f s'):SP X pins D f s':=by
 cases f with
 |next=>obtain⟨σ',H',I,q⟩:=h;exact⟨σ',H',I.unwish,q⟩
 |brk=>obtain⟨σ',H',I,q⟩:=h;exact⟨σ',H',I.unwish,q⟩
 |cont=>obtain⟨σ',H',I,q⟩:=h;exact⟨σ',H',I.unwish,q⟩
 |ret u=>obtain⟨v,σ',H',I,r,q⟩:=h;exact⟨v,σ',H',I.unwish,r,q⟩
theorem PSs.nox{st:List Stmt}{t:TS}(h:PSs X.nox st t):PSs X st t:=λpins s σ H D I hw =>
 dr (h pins s σ H D (I.wish _) hw) (λ_ _ q=>q.unwish) λ_ _ z=>False.elim z
end
section
variable {X:Cx}{st:Stmt}{rest:List Stmt}{t u:TS}{e:Expr}{te:TE}{pos:Pos}
def b5j:TS:=λD σ H=>D.nx σ H
def b5V(t u:TS):TS:=λD σ H=>t {D with nx:=u D} σ H
theorem b3U:PSs X [] b5j:=λ_ _ σ H _ I h=>dZ ⟨σ,H,I,h⟩
theorem b1z(h1:PS X st t)(h2:PSs X rest u):PSs X (st::rest) (b5V t u):=by
 intro pins s σ H D I h;refine wpAny_execs_cons (thn (h1 pins s σ H {D with nx:=u D} I h) λf s1 q=>?_);cases f with
 |next =>
  obtain⟨σ',H',a,q⟩:=q;exact h2 pins s1 σ' H' D a q
 |ret v=>exact q
 |brk=>exact q
 |cont=>exact q
theorem b3T(h1:PS X st t):PSs X [st] t:=by
 intro pins s σ H D I h;refine wpAny_execs_cons (thn (h1 pins s σ H D I h) λf s1 q=>?_);cases f with
 |next=>exact dZ q
 |ret v=>exact q
 |brk=>exact q
 |cont=>exact q
def b0Q:TS:=λD σ H=>D.bk σ H
theorem b1D:PS X (.Break pos) b0Q:=λ_ _ σ H _ I h=>wpAny_Break ⟨σ,H,I,h⟩
theorem Inv.quiet{pins:List (Addr×Obj)}{σ:St}{H:Hp}{s:Shared}(I:Inv X pins σ H s):interactive X.env=false:=by simp[interactive,I.ok.kind]
def b5l(te:TE):TS:=λD σ H=>te σ H λ_ H1=>D.nx σ H1
theorem b3W(b:PE X e te)(hs:swapsWith e none pos.line X.env=pure false:=by rfl):PS X (.Expr e pos) (b5l te):=by
 intro pins s σ H D I h;exact wpAny_Expr_any (thn (b pins s σ H _ I h) λv s1 ⟨x,H1,a,c,q1⟩=>⟨σ,H1,a,q1⟩) I.quiet hs
def b5W(te:TE):TS:=λD σ H=>te σ H D.rt
theorem b6j(b:PE X e te):PS X (.Return (some e) pos) (b5W te):=by
 intro pins s σ H D I h;exact wpAny_Return_some (thn (b pins s σ H _ I h) λv s1 ⟨x,H1,a,c,q1⟩=>⟨x,σ,H1,a,c,q1⟩)
def b8N:TS:=λD _ H=>D.rt .non H
def b7O(c:TT)(t u:TS):TS:=λD σ H=>c σ H λb H1=>if b=true then t D σ H1 else u D σ H1
theorem b8b{c:Expr}{a b:List Stmt}{tc:TT}(i:PT X c tc)(f:PSs X a t)(g:PSs X b u):PS X (.If c a b pos) (b7O tc t u):=by
 intro pins s σ H D I h;refine wpAny_If (thn (i pins s σ H _ I h) λd s1 ⟨H1,e,q1⟩=>?_);cases d with
 |true=>exact f pins s1 σ H1 D e q1
 |false=>exact g pins s1 σ H1 D e q1
end
abbrev TG:=V->St->Hp->(St->Hp->Prop)->Prop
abbrev TGs:=List V->St->Hp->(St->Hp->Prop)->Prop
def PG(X:Cx)(target:Expr)(t:TG):Prop :=
 ∀(pins:List (Addr×Obj)) (s:Shared) (σ:St) (H:Hp) (v:V) (u:Value) (Q:St->Hp->Prop),Inv X pins σ H s->RelV v u->t v σ H Q ->
  wpAny (model X.prog X.w) X.A (assign target X.env u) (λ_ s'=>∃σ' H',Inv X pins σ' H' s'/\Q σ' H') X.xe s
def PGs(X:Cx)(ts:List Expr)(t:TGs):Prop :=
 ∀(pins:List (Addr×Obj)) (s:Shared) (σ:St) (H:Hp) (vs:List V) (us:List Value) (Q:St->Hp->Prop),Inv X pins σ H s->Vals vs us->t vs σ H Q ->
  wpAny (model X.prog X.w) X.A (assignInOrder ((assignEach ts X.env).map (·.2)) us) (λ_ s'=>∃σ' H',Inv X pins σ' H' s'/\Q σ' H') X.xe s
abbrev b7C:=V->V->V->Hp->(Hp->Prop)->Prop
def b8z(X:Cx)(t:b7C):Prop :=
 ∀(pins:List (Addr×Obj)) (s:Shared) (σ:St) (H:Hp) (o i v:V) (ov iv u:Value) (Q:Hp->Prop),Inv X pins σ H s->RelV o ov->RelV i iv->RelV v u->t o i v H Q ->
  wpAny (model X.prog X.w) X.A (setItem ov iv u) (λ_ s'=>∃H',Inv X pins σ H' s'/\Q H') X.xe s
abbrev TIp:=V->V->Hp->VK->Prop
section
variable {X:Cx}{pos:Pos}
def B0(i:Nat):TG:=λv σ H Q=>Q (σ.set i (some v)) H
theorem b4j{i:Nat}{x:Str}(b:X.N.Nodup)(hi:X.N[i]?=some x)(d:Loc X.env.scope x)(c:X.fn x=true∨X.env.scope.names.lookup x=some .local:=by first|exact .inl rfl|exact .inr rfl|assumption):PG X (.Name x pos) (B0 i):=by
 intro pins s σ H v u Q I r h;exact wpAny_assign_Name (W3 I b hi d r (λs' a=>⟨_,H,a,h⟩) c)
def a7z:TGs:=λvs σ H Q=>vs=[]/\Q σ H
def V5(t:TG)(u:TGs):TGs:=λvs σ H Q=>∃v r,vs=v::r/\t v σ H λσ' H'=>u r σ' H' Q
theorem b4h:PGs X [] a7z:=by
 intro pins s σ H vs a Q I r h;obtain⟨e,h⟩:=h;subst e;cases r;exact assignInOrder_nil ⟨σ,H,I,h⟩
theorem b1I{e:Expr}{es:List Expr}{t:TG}{u:TGs}(h1:PG X e t)(h2:PGs X es u)
  (hs:(assignEach (e::es) X.env).map (·.2)=assign e X.env::(assignEach es X.env).map (·.2):=by rfl):PGs X (e::es) (V5 t u):=by
 intro pins s σ H vs b Q I r h;obtain⟨v,c,e1,h⟩:=h;subst e1;cases r with
 |cons r rr =>
  rw[hs];refine assignInOrder_cons (thn (h1 pins s σ H _ _ _ I r h) λ_ s1 ⟨σ1,H1,a,q1⟩=>?_);exact h2 pins s1 σ1 H1 _ _ Q a rr q1
def a6q(K:PySem.W.Frag)(n:Nat)(t:TGs):TG:=λv σ H Q=>∃a xs,v=.ref a/\SqT K H a xs/\xs.length=n/\t xs σ H Q
theorem b6q{es:List Expr}{k:Nat}{t:TGs}{n:Nat}(g:X.calm=true)(h:PGs X es t)
  (j:(assignEach es X.env).length=n:=by rfl) (c:(assignEach es X.env).findIdx? (·.1)=none:=by rfl):PG X (.Tuple es k pos) (a6q X.K n t):=by
 intro pins s σ H v u Q I r hw;obtain⟨a,xs,e1,l,i,hw⟩:=hw;subst e1;cases r;obtain⟨its,d,m,q⟩:=I.tuple l;refine assign_Tuple_tuple (I.ok.hd g) m (by simp[j,<-i,d.length]) c λh' p=>?_;have f:Inv X pins σ H {s with heap:=h'}:=I.kept (t':=s.toks) λb o e=>p b o (aR (aK e)) e;exact h pins _ σ H xs _ Q f (by simpa using d) hw
def b8s(to ti:TE)(t:b7C):TG:=λv σ H Q=>to σ H λo H1=>ti σ H1 λi H2=>t o i v H2 λH3=>Q σ H3
theorem b6r{o i:Expr}{to c:TE}{t:b7C}(k:PE X o to)(hi:PE X i c)(hs:b8z X t)
  (j:∀v,assign (.Subscript o i pos) X.env v=(do
   let a <-holding [v] (eval o X.env)
   let b <-holding [v,a] (eval i X.env)
   standAt pos
   holding [v,a,b] (setItem a b v)
   release [v,a,b] []):=by intro _;rfl):PG X (.Subscript o i pos) (b8s to c t):=by
 intro pins s σ H v u Q I r h;rw[j];refine aa (cj (thn (k pins s σ H _ I h) λa s1 ⟨x,H1,e,n,q1⟩=>?_));refine aa (cj (thn (hi pins s1 σ H1 _ e q1) λb s2 ⟨y,H2,f,p,l⟩=>?_));refine aa (wpAny_standAt (aa (cj (thn (hs pins s2 σ H2 x y v a b u _ f n p r l) λ_ q ⟨d,g,m⟩=>?_))));exact wpAny_release ⟨σ,d,g,m⟩
def a9i(te:TE)(g:TG):TS:=λD σ H=>te σ H λx H1=>g x σ H1 D.nx
theorem b6n{tg e:Expr}{te:TE}{g:TG}(b:PE X e te)(c:PG X tg g)(hs:swapsWithSole [tg] e pos.line X.env=pure false:=by rfl)(hw:swappedStores [tg] e X.env=pure none:=by rfl)
  (h1:(assignEach [tg] X.env).map (·.2)=[assign tg X.env]:=by rfl):PS X (.Assign [tg] e pos) (a9i te g):=by
 intro pins s σ H D I h;refine wpAny_Assign_stores (thn (b pins s σ H _ I h) λv s1 ⟨x,H1,a,d,q1⟩=>?_) hs hw;rw[h1];exact thn (c pins s1 σ H1 x v _ a d q1) λ_ s2 q=>q
theorem b6i{i:Nat}{x:Str}{e:Expr}{te:TE}{pos':Pos}(c:X.N.Nodup)(hi:X.N[i]?=some x)(g:Loc X.env.scope x)(d:PE X e te)(hs:swapsWith e (some (.Name x pos')) pos.line X.env=pure false:=by rfl)(f:X.fn x=true∨X.env.scope.names.lookup x=some .local:=by first|exact .inl rfl|exact .inr rfl|assumption) :
  PS X (.Assign [.Name x pos'] e pos) (a9i te (B0 i)):=by
 intro pins s σ H D I h;refine wpAny_Assign_Name (thn (d pins s σ H _ I h) λv s1 ⟨y,H1,a,j,q1⟩=>?_) hs;exact W3 a c hi g j (λs2 b=>⟨_,H1,b,q1⟩) f
def b7L(i j:Nat)(ta:TA):TS:=λD σ H=>ta σ H λvs H1=>∃v w,vs=[v,w]/\D.nx ((σ.set i (some v)).set j (some w)) H1
theorem b6k{i j:Nat}{x y:Str}{a b:Expr}{ta:TA}{k l pt:Pos}{kt k2 pt2}(F:X.calm=true)(r:X.N.Nodup)(hi:X.N[i]?=some x)(G:X.N[j]?=some y)(f:i≠j)
  (t:X.env.scope.names.lookup x=some .local) (u:X.env.scope.names.lookup y=some .local) (E:PA X [a,b] ta)
  (hw:swappedStores [.Tuple [.Name x k,.Name y l] kt pt] (.Tuple [a,b] k2 pt2) X.env=pure (some [x,y]))
  (hs:swapsWithSole [.Tuple [.Name x k,.Name y l] kt pt] (.Tuple [a,b] k2 pt2) pos.line X.env=pure false:=by rfl) :
  PS X (.Assign [.Tuple [.Name x k,.Name y l] kt pt] (.Tuple [a,b] k2 pt2) pos) (b7L i j ta):=by
 intro pins s σ H D I h;rw[exec_Assign_arm];refine aa (wpAny_standAt ?_);rw[hs];refine aa (ai ?_);rw[ar (by decide)];refine aa (Tuple_ (thn (E _ pins s σ H _ I h) λL s1 ⟨vs,H1,z,J,q1⟩=>?_));obtain⟨v,w,e1,q1⟩:=q1;subst e1;obtain⟨c,d,rfl,K,m⟩:∃c d,L=[c,d]/\RelV v c/\RelV w d:=by
  cases J with
  |cons p q =>
   cases q with
   |cons p' q' =>
    cases q';exact⟨_,_,rfl,p,p'⟩
 refine bV ?_ (by show 2<=sizeLine;decide);have A:Inv X pins σ H1 {s1 with heap:=s1.heap.push {cls:=.type "tuple",data:=.seq [c,d].toArray}}:=z.kept (t':=s1.toks) λb o e=>ag _ e;rw[hw];refine aa (ai ?_);show wpAny (model X.prog X.w) X.A (do rule "assign.swapped-stores";let items <-unpackItems (.ref s1.heap.objs.size) 2 none;assignInOrder [λv=>bindName X.env y v,λv=>bindName X.env x v] items.reverse;pure Flow.next) _ _ _;refine aa (fh (aa (unpackItems_tuple (items:=#[c,d]) (I.ok.hd F) (IsTup.new s1.heap _) λh' g=>?_)));have B:=A.kept (h':=h') (t':=s1.toks) λb o e=>g b o (aR (aK e)) e;show wpAny _ _ (assignInOrder [λv=>bindName X.env y v,λv=>bindName X.env x v] [d,c]>>=λ_=>pure Flow.next) _ _ _;refine aa (assignInOrder_cons (wpAny_bindName (W3 B r G (.inl u) m (λs2 C=>?_) (.inr u))));refine assignInOrder_cons (wpAny_bindName (W3 C r hi (.inl t) K (λM n=>assignInOrder_nil (ai ?_)) (.inr t)));rw[List.set_comm _ _ (dq f)]at n;exact⟨_,H1,n,q1⟩
def ipI(f:Int->Int->Int):TIp:=λx y H Q=>∃i j,x=.int i/\y=.int j/\Q (.int (f i j)) H
def b0L(c:TT)(tb:TS):TS:=λD σ H=>∃W:Nat->St->Hp->Prop,(∃m,W m σ H)/\∀m σ H,W m σ H ->
 c σ H λb H1=>if b=true then ∃N:St->Hp->Prop,(∀σ' H',N σ' H'->∃m',m'<m/\W m' σ' H')/\tb {D with nx:=N,ct:=N,bk:=D.nx} σ H1 else D.nx σ H1
theorem b1A{c:Expr}{body:List Stmt}{tc:TT}{tb:TS}(hp:PassesOwn (model X.prog X.w) X.A X.env X.xe)(t:PT X c tc)(r:PSs X body tb):PS X (.While c body [] pos) (b0L tc tb):=by
 intro pins s σ H D I h;obtain⟨W,⟨u,w⟩,d⟩:=h;refine wpAny_While (codeAny_whileLoop (λn s'=>∃σ' H',Inv X pins σ' H' s'/\W n σ' H') ?_ u ⟨σ,H,I,w⟩);rintro n s1 ⟨σ1,H1,q,x⟩;refine dD hp (thn (t pins s1 σ1 H1 _ q (d n σ1 H1 x)) λb s2 ⟨H2,o,e⟩=>?_);cases b with
 |true =>
  obtain⟨N,p,e⟩:=e;rw[az rfl];refine dD hp (thn (r pins s2 σ1 H2 _ o e) λf y g=>?_);cases f with
  |next =>
   obtain⟨σ3,a,i,l⟩:=g;obtain⟨k,j,m⟩:=p σ3 a l;exact⟨k,j,σ3,a,i,m⟩
  |cont =>
   obtain⟨σ3,a,i,l⟩:=g;obtain⟨k,j,m⟩:=p σ3 a l;exact⟨k,j,σ3,a,i,m⟩
  |brk=>exact g
  |ret v=>exact g
 |false =>
  rw[ar aY];exact dZ ⟨σ1,H2,o,e⟩
end
structure It where
 go:Nat->Hp->Prop
 yld:Nat->Hp->V->Hp->Prop
 stop:Nat->Hp->Prop
def a1w(X:Cx)(pins:List (Addr×Obj))(H:Hp)(b:Addr):Prop :=
 H b=none/\b≠X.env.locals/\b∉X.fs/\(b∈X.ex∨X.s₀.heap.objs.size<=b)/\(∀x c,X.env.cells.lookup x=some c->c≠b)/\∀p∈X.pn++pins,p.1≠b
theorem Inv.fpOk{X:Cx}{pins:List (Addr×Obj)}{σ:St}{H H':Hp}{s:Shared}{b:Addr}(I:Inv X pins σ H s)(a:s.heap.objs.size<=b)(d:H' b=none):a1w X pins H' b:=by
 refine⟨d,dv (aO I.lt a),I.nofs a,.inr (bj I.sz a),λx c e z=>?_,λp f z=>?_⟩
 .obtain⟨v,q⟩:=I.cell x c e;exact absurd (aO q.lt (by rw[z];exact a)) (b_ _)
 .exact absurd (aO (aK (I.pin p f).1) (by rw[z];exact a)) (b_ _)
structure Turn(P:Program)(w:World)(K:PySem.W.Frag)(tg:Expr)(J:It)(fp:List Addr)(it:Addr)(tn:Nat->Heap->Prop):Prop where
 mem:it∈fp
 obj:∀i h,tn i h->∀b∈fp,∃o,h.get? b=some o/\∀v,o.data≠.cell v
 keep:∀i h h',tn i h->(∀b∈fp,∀o,h.get? b=some o->h'.get? b=some o)->tn i h'
 item:∀(X:Cx),X.prog=P->X.w=w->X.K=K->X.calm=true->∀(i:Nat) (pins:List (Addr×Obj)) (s:Shared) (σ:St) (H:Hp) (E:Value->Shared->Prop),Inv X pins σ H s->(∀b∈fp,a1w X pins H b)->tn i s.heap->J.go i H ->
  wpAny (model P w) X.A (pyNext (.ref it)) (λr s1=>∃u,r=some u /\
   wpAny (model P w) X.A (letOwnedTupleGo tg (.ref it) u) (λ_ s2=>∃x H',Inv X pins σ H' s2/\RelV x u/\J.yld i H x H'/\tn (i+1) s2.heap/\∀b∈fp,H' b=none) E s1) E s
 done:∀(X:Cx),X.prog=P->X.w=w->X.K=K->X.calm=true->∀(i:Nat) (pins:List (Addr×Obj)) (s:Shared) (σ:St) (H:Hp) (E:Value->Shared->Prop),Inv X pins σ H s->(∀b∈fp,a1w X pins H b)->tn i s.heap->J.stop i H ->
  wpAny (model P w) X.A (pyNext (.ref it)) (λr s1=>r=none/\Inv X pins σ H s1) E s
 self:∀(A:Around) (i:Nat) (s:Shared) (Q:Value->Shared->Prop) (E:Value->Shared->Prop),tn i s.heap->Q (.ref it) s->wpAny (model P w) A (pyIter (.ref it)) Q E s
abbrev TI:=St->Hp->(It->Hp->Prop)->Prop
def PIE(X:Cx)(pins:List (Addr×Obj))(σ:St)(tg:Expr)(R:It->Hp->Prop)(itv:Value)(s2:Shared):Prop :=
 ∃(it:Addr) (fp:List Addr) (tn:Nat->Heap->Prop) (J:It) (H':Hp),itv=.ref it/\Inv X pins σ H' s2/\Turn X.prog X.w X.K tg J fp it tn/\tn 0 s2.heap/\(∀b∈fp,a1w X pins H' b)/\R J H'
def PI(X:Cx)(tg iter:Expr)(wi:TI):Prop :=
 ∀(pins:List (Addr×Obj)) (s:Shared) (σ:St) (H:Hp) (R:It->Hp->Prop),Inv X pins σ H s->wi σ H R ->
  wpAny (model X.prog X.w) X.A (eval iter X.env) (λv s1=>wpAny (model X.prog X.w) X.A (pyIter v) (PIE X pins σ tg R) X.xe s1) X.xe s
theorem a8K{M:Model}{A:Around}{E:Value->Shared->Prop}{s:Shared}{tg:Expr}{it:Addr}{u:Value}{o:Obj}{n:String}{vs:Array Value}{Q:Unit->Shared->Prop}(d:s.heap.get? it=some o)(b:o.cls=.type n)(hd:o.data=.fields vs)
  (c:["enumerate","zip","dict_itemiterator","dict_reverseitemiterator","odict_iterator","itertools.zip_longest","itertools.pairwise"].contains n=false) (a:Q () s):wpAny M A (letOwnedTupleGo tg (.ref it) u) Q E s:=by
 unfold letOwnedTupleGo;cases tg<;>first
  |exact ai a
  | (cases u <;> first
    |exact ai a
    | (refine aa (wpAny_load d ?_)
       rw[b,hd];show wpAny M A (if (["enumerate","zip","dict_itemiterator","dict_reverseitemiterator","odict_iterator","itertools.zip_longest","itertools.pairwise"].contains n && vs[0]? == some (rawInt _))=true then _ else _) Q E s;rw[ar (by intro h;rw[c,Bool.false_and]at h;cases h)];exact ai a))
noncomputable def Itl(K:PySem.W.Frag)(a:Addr):It :=
 ⟨λi H=>∃xs x,SqL K H a xs/\xs[i]?=some x,λi H x H'=>H'=H/\∀xs,SqL K H a xs->xs[i]?=some x,λi H=>∃xs,SqL K H a xs/\xs.length<=i⟩
noncomputable def Itt(K:PySem.W.Frag)(a:Addr):It :=
 ⟨λi H=>∃xs x,SqT K H a xs/\xs[i]?=some x,λi H x H'=>H'=H/\∀xs,SqT K H a xs->xs[i]?=some x,λi H=>∃xs,SqT K H a xs/\xs.length<=i⟩
noncomputable def Itr(lo:Int)(n:Nat):It:=⟨λi _=>i<n,λi H x H'=>H'=H/\x=.int (lo+i),λi _=>n<=i⟩
theorem a9f{P:Program}{w:World}{K:PySem.W.Frag}{tg:Expr}(a it:Addr):Turn P w K tg (Itl K a) [it] it (λi h=>h.IsListIter it a i) where
 mem:=by simp
 obj:=λi h st b f=>by
  have e:b=it:=by simpa using f
  subst e;obtain⟨o,e,c,d⟩:=st;exact⟨o,e,λv z=>by rw[d]at z;cases z⟩
 keep:=λi h h' st k=>st.at λo e=>k it (by simp) o e
 item:=by
  intro X t hw r C i pins s σ H E I g st y;subst t hw r;obtain⟨xs,x,j,A⟩:=y;obtain⟨its,B,p,L⟩:=I.list j;obtain⟨u,G,M⟩:=B.get A;obtain⟨l,f1,f2,m,n,q⟩:=g it (by simp);refine wpAny_pyNext_list_item st p.isList (x:=u) (by simpa using G) λh' st' N=>?_;have D:Inv X pins σ H {s with heap:=h'}:=I.turned (t':=s.toks) (λb o f e=>(N.2 b f).trans e) l f1 m n q;obtain⟨o,e,c,d⟩:=id st';exact⟨u,rfl,a8K (s:={s with heap:=h'}) e c d (by decide) ⟨x,H,D,M,⟨rfl,λys J=>by rw[I.list_inj J j];exact A⟩,st',λb f=>(g b f).1⟩⟩
 done:=by
  intro X t hw r C i pins s σ H E I g st y;subst t hw r;obtain⟨xs,j,A⟩:=y;obtain⟨its,B,p,L⟩:=I.list j;obtain⟨l,f1,f2,m,n,q⟩:=g it (by simp);have O:=B.length;exact wpAny_pyNext_list_end (I.ok.hd C) st p.isList (by simp;omega) λh' F=>⟨rfl,I.turned (t':=s.toks) (λb o f e=>F b o f e) l f1 m n q⟩
 self:=λ_ _ _ _ _ st h=>wpAny_pyIter_listiter st h
theorem a6I{P:Program}{w:World}{K:PySem.W.Frag}{tg:Expr}(a it:Addr):Turn P w K tg (Itt K a) [it] it (λi h=>h.IsTupleIter it a i) where
 mem:=by simp
 obj:=λi h st b f=>by
  have e:b=it:=by simpa using f
  subst e;obtain⟨o,e,c,d⟩:=st;exact⟨o,e,λv z=>by rw[d]at z;cases z⟩
 keep:=λi h h' st k=>st.at λo e=>k it (by simp) o e
 item:=by
  intro X t hw r C i pins s σ H E I g st y;subst t hw r;obtain⟨xs,x,j,A⟩:=y;obtain⟨its,B,p,L⟩:=I.tuple j;obtain⟨u,G,M⟩:=B.get A;obtain⟨l,f1,f2,m,n,q⟩:=g it (by simp);refine wpAny_pyNext_tuple_item st (show s.heap.IsTuple a its.toArray from p) (x:=u) (by simpa using G) λh' st' N=>?_;have D:Inv X pins σ H {s with heap:=h'}:=I.turned (t':=s.toks) (λb o f e=>(N.2 b f).trans e) l f1 m n q;obtain⟨o,e,c,d⟩:=id st';exact⟨u,rfl,a8K (s:={s with heap:=h'}) e c d (by decide) ⟨x,H,D,M,⟨rfl,λys J=>by rw[I.tuple_inj J j];exact A⟩,st',λb f=>(g b f).1⟩⟩
 done:=by
  intro X t hw r C i pins s σ H E I g st y;subst t hw r;obtain⟨xs,j,A⟩:=y;obtain⟨its,B,p,L⟩:=I.tuple j;obtain⟨l,f1,f2,m,n,q⟩:=g it (by simp);have O:=B.length;exact wpAny_pyNext_tuple_end (I.ok.hd C) st (show s.heap.IsTuple a its.toArray from p) (by simp;omega) λh' F=>⟨rfl,I.turned (t':=s.toks) (λb o f e=>F b o f e) l f1 m n q⟩
 self:=λ_ _ _ _ _ st h=>wpAny_pyIter_tupleiter st h
theorem a6J{P:Program}{w:World}{K:PySem.W.Frag}{tg:Expr}(it:Addr)(lo:Int)(n:Nat):Turn P w K tg (Itr lo n) [it] it (λi h=>IsRangeIter h it (lo+(i:Nat)*1) ((n:Int)-(i:Nat)) 1) where
 mem:=by simp
 obj:=λi h st b a=>by
  have e:b=it:=by simpa using a
  subst e;exact⟨_,st,λv z=>by
   have y:Data.fields _=Data.cell v:=z;cases y⟩
 keep:=λi h h' st k=>k it (by simp) _ st
 item:=by
  intro X m hw l p i pins s σ H E I c st q;subst m hw l;obtain⟨d,f1,f2,f,g,j⟩:=c it (by simp);have W:=Walks.range (prog:=X.prog) (w:=X.w) (I.ok.hd p) it lo 1 n;refine W.item i s _ _ q st λv h' tk x st' kk=>?_;obtain⟨t,rfl⟩:=x;have r:Inv X pins σ H {s with heap:=h',toks:=tk}:=I.turned (λb o a e=>kk b o (by simpa using a) e) d f1 f g j;refine⟨_,rfl,a8K (s:={s with heap:=h',toks:=tk}) (n:="range_iterator") st' rfl rfl (by decide) ⟨.int (lo+i),H,r,⟨t,?_⟩,⟨rfl,rfl⟩,st',λb a=>(c b a).1⟩⟩;rw[Int.mul_one]
 done:=by
  intro X m hw l p i pins s σ H E I c st q;subst m hw l;obtain⟨d,f1,f2,f,g,j⟩:=c it (by simp);exact wpAny_pyNext_range_end (I.ok.hd p) st (by have:n<=i:=q;omega) λh' u=>⟨rfl,I.turned (t':=s.toks) (λb o a e=>u b o a e) d f1 f g j⟩
 self:=λ_ _ _ _ _ st h=>wpAny_pyIter_rangeiter st h
section
variable {X:Cx}{tg:Expr}
def b2z(K:PySem.W.Frag)(tl:TE):TI:=λσ H R=>tl σ H λx H1=>∃a,x=.ref a/\(∃xs,SqL K H1 a xs)/\R (Itl K a) H1
def b7m(K:PySem.W.Frag)(tl:TE):TI:=λσ H R=>tl σ H λx H1=>∃a,x=.ref a/\(∃xs,SqT K H1 a xs)/\R (Itt K a) H1
theorem b4f{l:Expr}{tl:TE}(f:PE X l tl):PI X tg l (b2z X.K tl):=by
 intro pins s σ H R I h;refine thn (f pins s σ H _ I h) λv s1 ⟨x,H1,c,i,q1⟩=>?_;obtain⟨a,e,⟨xs,g⟩,q⟩:=q1;subst e;cases i;obtain⟨its,k,p,j⟩:=c.list g;refine fu p.isList ?_;refine⟨s1.heap.objs.size,[s1.heap.objs.size],_,_,H1,rfl,c.kept (t':=s1.toks) λb o e=>ag _ e,a9f a _,⟨_,aH _ rfl,rfl,rfl⟩,λb d=>?_,q⟩;have e:b=s1.heap.objs.size:=by simpa using d
 subst e;exact c.fpOk (ao _) (c.hok.fresh (ao _))
theorem b6p{l:Expr}{tl:TE}(f:PE X l tl):PI X tg l (b7m X.K tl):=by
 intro pins s σ H R I h;refine thn (f pins s σ H _ I h) λv s1 ⟨x,H1,c,i,q1⟩=>?_;obtain⟨a,e,⟨xs,g⟩,q⟩:=q1;subst e;cases i;obtain⟨its,k,p,j⟩:=c.tuple g;refine wpAny_pyIter_tuple (show s1.heap.IsTuple a its.toArray from p) ?_;refine⟨s1.heap.objs.size,[s1.heap.objs.size],_,_,H1,rfl,c.kept (t':=s1.toks) λb o e=>ag _ e,a6I a _,⟨_,aH _ rfl,rfl,rfl⟩,λb d=>?_,q⟩;have e:b=s1.heap.objs.size:=by simpa using d
 subst e;exact c.fpOk (ao _) (c.hok.fresh (ao _))
theorem b1r{pins:List (Addr×Obj)}{σ:St}{H:Hp}{s:Shared}{R:It->Hp->Prop}{E:Value->Shared->Prop}{lo hi:Int}{t u v:Tok}{tk:Nat}(I:Inv X pins σ H s)(h1 : -(2 ^ 62)<=lo)(h2:lo<2 ^ 62)(c : -(2 ^ 62)<=hi)(d:hi<2 ^ 62)
  (q:R (Itr lo (hi-lo).toNat) H):wpAny (model X.prog X.w) X.A (pyIter (.ref s.heap.objs.size)) (PIE X pins σ tg R) E {s with heap:=s.heap.push {cls:=.type "range",data:=.fields #[.int lo t,.int hi u,.int 1 v]},toks:=tk}:=by
 refine wpAny_pyIter_range (IsRange.new ..) (small_one h1 h2 c d) ?_;have a:Inv X pins σ H {s with heap:=s.heap.push {cls:=.type "range",data:=.fields #[.int lo t,.int hi u,.int 1 v]},toks:=tk}:=I.kept λb o e=>ag _ e;refine⟨(s.heap.push {cls:=.type "range",data:=.fields #[.int lo t,.int hi u,.int 1 v]}).objs.size,[(s.heap.push {cls:=.type "range",data:=.fields #[.int lo t,.int hi u,.int 1 v]}).objs.size],_,_,H,rfl,
  a.kept (t':=tk) λb o e=>ag _ e,a6J _ lo (hi-lo).toNat,?_,λb f=>?_,q⟩
 .have e1:lo+((0:Nat):Int)*1=lo:=by simp
  have e2:(((hi-lo).toNat:Nat):Int)-((0:Nat):Int)=Builtin.Range.rangeSize lo hi 1:=by rw[rangeSize_one];split<;>omega
  show IsRangeIter _ _ (lo+((0:Nat):Int)*1) ((((hi-lo).toNat:Nat):Int)-((0:Nat):Int)) 1;rw[e1,e2];exact aH _ rfl
 .have e:b=(s.heap.push {cls:=.type "range",data:=.fields #[.int lo t,.int hi u,.int 1 v]}).objs.size:=by simpa using f
  subst e;exact a.fpOk (ao _) (a.hok.fresh (ao _))
def b5J(ta:TA):TI:=λσ H R=>ta σ H λvs H1=>∃j:Int,vs=[.int j] /\ -(2 ^ 62)<=j/\j<2 ^ 62/\R (Itr 0 j.toNat) H1
theorem a9D{a:Expr}{ta:TA}{p pos:Pos}(d:Gl X "range")(f:X.mg "range"=none)(c:PA X [a] ta)(hs:starEach [a] X.env=[(false,eval a X.env)]:=by rfl):PI X tg (.Call (.Name "range" p) [a] [] pos) (b5J ta):=by
 intro pins s σ H R I h;refine Call_ (a2R I d f boot_range (eI (thn (c pos pins s σ H _ I h) λk s1 ⟨vs,H1,b,i,q1⟩=>?_) hs rfl));obtain⟨j,e,q1,g,q⟩:=q1;subst e;cases i with
 |cons r rr =>
  cases rr;obtain⟨t,rfl⟩:=r;exact call_range_1 (b1r b (by omega) (by omega) q1 g (by simpa using q))
def b7P(wi:TI)(g:TG)(tb:TS):TS:=λD σ H=>wi σ H λJ H1=>∃W:Nat->Nat->St->Hp->Prop,(∃m,W 0 m σ H1)/\∀i m σ H,W i m σ H ->
 (J.stop i H/\D.nx σ H)∨(J.go i H/\∃N:St->Hp->Prop,(∀σ' H',N σ' H'->∃m',m'<m/\W (i+1) m' σ' H')/\∀x H',J.yld i H x H'->g x σ H' λσ2 H2=>tb {D with nx:=N,ct:=N,bk:=D.nx} σ2 H2)
noncomputable def a2H(fp:List Addr)(h:Heap):List (Addr×Obj):=fp.filterMap λb=>(h.get? b).map λo=>(b,o)
theorem T5{fp:List Addr}{h:Heap}{b:Addr}{o:Obj}(a:b∈fp)(e:h.get? b=some o):(b,o)∈a2H fp h:=cN.mpr ⟨b,a,by rw[e];rfl⟩
theorem a9O{fp:List Addr}{h:Heap}{p:Addr×Obj}(hp:p∈a2H fp h):p.1∈fp/\h.get? p.1=some p.2:=by
 obtain⟨b,c,e⟩:=cN.mp hp;cases q:h.get? b with
 |none=>rw[q]at e;cases e
 |some o =>
  rw[q]at e;have a:(b,o)=p:=bH e;subst a;exact⟨c,q⟩
theorem Inv.pinned{pins:List (Addr×Obj)}{σ:St}{H:Hp}{s:Shared}{fp:List Addr}(I:Inv X pins σ H s)(g:∀b∈fp,a1w X pins H b)(h:∀b∈fp,∃o,s.heap.get? b=some o/\∀v,o.data≠.cell v):Inv X (pins++a2H fp s.heap) σ H s :=
 I.pins_of λp i=>(aA.mp i).elim (λz=>I.pin p (aU _ z)) λz=>by
  obtain⟨c,e⟩:=a9O z;obtain⟨f,f1,f2,_⟩:=g p.1 c;obtain⟨o,a,d⟩:=h p.1 c;rw[e]at a;cases a;exact⟨e,f,f1,f2,d⟩
theorem Inv.unpinned{pins pl:List (Addr×Obj)}{σ:St}{H:Hp}{s:Shared}(I:Inv X (pins++pl) σ H s):Inv X pins σ H s:=I.pins_of λp a=>I.pin p (aU _ (aS _ a))
theorem b6l{l:Expr}{body:List Stmt}{wi:TI}{g:TG}{tb:TS}{pos:Pos}(hp:PassesOwn (model X.prog X.w) X.A X.env X.xe)(O:X.calm=true)(hi:PI X tg l wi)(hg:PG X tg g)(k:PSs X body tb)
  (hs:∀x,foldedSetIterable l X.env x=pure x:=by intro _;rfl):PS X (.For tg l body [] pos) (b7P wi g tb):=by
 intro pins s σ H D I h;refine wpAny_For (thn (hi pins s σ H _ I h) λv s1 h1=>thn h1 λa0 s2 h2=>?_) hs;obtain⟨it,fp,R,J,H2,e,U,T,K,f2,W,⟨m0,w0⟩,A⟩:=h2;subst e;have p:∀{H':Hp},(∀b∈fp,H' b=none)->∀b∈fp,a1w X pins H' b:=λhn b k=>⟨hn b k,(f2 b k).2⟩;refine codeAny_forLoop_any (λn s'=>∃i σ' H',Inv X pins σ' H' s'/\R i s'.heap/\(∀b∈fp,H' b=none)/\W i n σ' H') ?_ m0 ⟨0,σ,H2,U,K,λb k=>(f2 b k).1,w0⟩;rintro n P ⟨i,σ3,B,M,z,w,w3⟩;rcases A i n σ3 B w3 with⟨stop,qn⟩|⟨go,N,hN,step⟩
 .refine dD hp (thn (T.done X rfl rfl rfl O i pins P σ3 B X.xe M (p w) z stop) λr s4 ⟨F,V⟩=>?_);subst F;exact dZ ⟨σ3,B,V,qn⟩
 .refine dD hp (thn (T.item X rfl rfl rfl O i pins P σ3 B X.xe M (p w) z go) λr s4 ⟨u,F,h4⟩=>?_);subst F;refine dD hp (thn h4 λ_ Q ⟨x,L,Y,r5,y5,t,E⟩=>?_);have C:=Y.pinned (p E) (T.obj _ _ t);refine dD hp (thn (hg _ Q σ3 L x u _ C r5 (step x L y5)) λ_ s6 ⟨σ6,S,Z,q6⟩=>?_);refine dD hp (thn (k _ s6 σ6 S _ Z q6) λf G q=>?_);have j:∀{σ7:St}{a:Hp},Inv X (pins++a2H fp Q.heap) σ7 a G->N σ7 a->∃m,m<n/\∃i σ' H',Inv X pins σ' H' G/\R i G.heap/\(∀b∈fp,H' b=none)/\W i m σ' H':=λ{σ7 a} c y=>by
   obtain⟨m',hm,w7⟩:=hN σ7 a y;refine⟨m',hm,i+1,σ7,a,c.unpinned,T.keep _ _ _ t λb k o e=>(c.pin (b,o) (aU _ (aU _ (T5 k e)))).1,λb k=>?_,w7⟩;obtain⟨o,e,d⟩:=T.obj _ _ t b k;exact(c.pin (b,o) (aU _ (aU _ (T5 k e)))).2.1
  cases f with
  |next=>obtain⟨σ7,a,c,y⟩:=q;exact j c y
  |cont=>obtain⟨σ7,a,c,y⟩:=q;exact j c y
  |brk=>obtain⟨σ7,a,c,q⟩:=q;exact⟨σ7,a,c.unpinned,q⟩
  |ret v=>obtain⟨x7,σ7,a,c,r7,q⟩:=q;exact⟨x7,σ7,a,c.unpinned,r7,q⟩
end
theorem S5{K:PySem.W.Frag}{a:Addr}{xs:List V}{g:TG}{tb:TS}{D:Ends}{σ:St}{H:Hp}(b:Nat->St->Hp->Prop)(h0:b 0 σ H)(f:∀i σ H,i<=xs.length->b i σ H->SqL K H a xs)
  (hs:∀i x σ H,xs[i]?=some x->b i σ H->g x σ H λσ2 H2=>tb {D with nx:=b (i+1),ct:=b (i+1),bk:=D.nx} σ2 H2) (hd:∀σ H,b xs.length σ H->D.nx σ H) :
  ∃W:Nat->Nat->St->Hp->Prop,(∃m,W 0 m σ H)/\∀i m σ H,W i m σ H ->
   ((Itl K a).stop i H/\D.nx σ H)∨((Itl K a).go i H/\∃N:St->Hp->Prop,(∀σ' H',N σ' H'->∃d,d<m/\W (i+1) d σ' H')/\∀x H',(Itl K a).yld i H x H'->g x σ H' λσ2 H2=>tb {D with nx:=N,ct:=N,bk:=D.nx} σ2 H2):=by
 refine⟨λi m σ H=>m=xs.length-i/\i<=xs.length/\b i σ H,⟨xs.length,by simp,bG _,h0⟩,?_⟩;rintro i m σ H ⟨rfl,hi,p⟩;have q:=f i σ H hi p;by_cases c:i<xs.length
 .refine .inr ⟨⟨xs,xs[i],q,by simp[c]⟩,b (i+1),λσ' H' h=>⟨xs.length-(i+1),by omega,rfl,c,h⟩,λx H' y=>?_⟩;obtain⟨e,y⟩:=y;subst e;exact hs i x σ _ (y xs q) p
 .have e:i=xs.length:=by omega
  subst e;exact .inl ⟨⟨xs,q,ao _⟩,hd σ H p⟩
theorem a8O{K:PySem.W.Frag}{a:Addr}{xs:List V}{g:TG}{tb:TS}{D:Ends}{σ:St}{H:Hp}(b:Nat->St->Hp->Prop)(h0:b 0 σ H)(f:∀i σ H,i<=xs.length->b i σ H->SqT K H a xs)
  (hs:∀i x σ H,xs[i]?=some x->b i σ H->g x σ H λσ2 H2=>tb {D with nx:=b (i+1),ct:=b (i+1),bk:=D.nx} σ2 H2) (hd:∀σ H,b xs.length σ H->D.nx σ H) :
  ∃W:Nat->Nat->St->Hp->Prop,(∃m,W 0 m σ H)/\∀i m σ H,W i m σ H ->
   ((Itt K a).stop i H/\D.nx σ H)∨((Itt K a).go i H/\∃N:St->Hp->Prop,(∀σ' H',N σ' H'->∃d,d<m/\W (i+1) d σ' H')/\∀x H',(Itt K a).yld i H x H'->g x σ H' λσ2 H2=>tb {D with nx:=N,ct:=N,bk:=D.nx} σ2 H2):=by
 refine⟨λi m σ H=>m=xs.length-i/\i<=xs.length/\b i σ H,⟨xs.length,by simp,bG _,h0⟩,?_⟩;rintro i m σ H ⟨rfl,hi,p⟩;have q:=f i σ H hi p;by_cases c:i<xs.length
 .refine .inr ⟨⟨xs,xs[i],q,by simp[c]⟩,b (i+1),λσ' H' h=>⟨xs.length-(i+1),by omega,rfl,c,h⟩,λx H' y=>?_⟩;obtain⟨e,y⟩:=y;subst e;exact hs i x σ _ (y xs q) p
 .have e:i=xs.length:=by omega
  subst e;exact .inl ⟨⟨xs,q,ao _⟩,hd σ H p⟩
theorem a1o{lo:Int}{n:Nat}{g:TG}{tb:TS}{D:Ends}{σ:St}{H:Hp}(a:Nat->St->Hp->Prop)(h0:a 0 σ H)
  (hs:∀i σ H,i<n->a i σ H->g (.int (lo+i)) σ H λσ2 H2=>tb {D with nx:=a (i+1),ct:=a (i+1),bk:=D.nx} σ2 H2) (hd:∀σ H,a n σ H->D.nx σ H) :
  ∃W:Nat->Nat->St->Hp->Prop,(∃m,W 0 m σ H)/\∀i m σ H,W i m σ H ->
   ((Itr lo n).stop i H/\D.nx σ H)∨((Itr lo n).go i H/\∃N:St->Hp->Prop,(∀σ' H',N σ' H'->∃c,c<m/\W (i+1) c σ' H')/\∀x H',(Itr lo n).yld i H x H'->g x σ H' λσ2 H2=>tb {D with nx:=N,ct:=N,bk:=D.nx} σ2 H2):=by
 refine⟨λi m σ H=>m=n-i/\i<=n/\a i σ H,⟨n,by simp,bG _,h0⟩,?_⟩;rintro i m σ H ⟨rfl,hi,p⟩;by_cases b:i<n
 .refine .inr ⟨b,a (i+1),λσ' H' d=>⟨n-(i+1),by omega,rfl,b,d⟩,λx H' y=>?_⟩;obtain⟨e,y⟩:=y;subst e y;exact hs i σ _ b p
 .have e:i=n:=by omega
  subst e;exact .inl ⟨ao _,hd σ H p⟩
abbrev R2:=V->V->Hp->VK->Prop
def OpR(X:Cx)(f:Value->Value->Sem Value)(r:R2):Prop :=
 ∀(pins:List (Addr×Obj)) (s:Shared) (σ:St) (H:Hp) (x y:V) (v u:Value) (Q:VK),Inv X pins σ H s->RelV x v->RelV y u->r x y H Q ->
  wpAny (model X.prog X.w) X.A (f v u) (EP X pins σ Q) X.xe s
def UnR(X:Cx)(f:Value->Sem Value)(r:V->Hp->VK->Prop):Prop :=
 ∀(pins:List (Addr×Obj)) (s:Shared) (σ:St) (H:Hp) (x:V) (v:Value) (Q:VK),Inv X pins σ H s->RelV x v->r x H Q ->
  wpAny (model X.prog X.w) X.A (f v) (EP X pins σ Q) X.xe s
def E3(X:Cx)(f:Value)(r:List V->Hp->VK->Prop):Prop :=
 ∀(pins:List (Addr×Obj)) (s:Shared) (σ:St) (H:Hp) (xs:List V) (us:List Value) (Q:VK),Inv X pins σ H s->Vals xs us->r xs H Q ->
  wpAny (model X.prog X.w) X.A (call f us) (EP X pins σ Q) X.xe s
def b8L(X:Cx)(r:V->Hp->(Bool->Hp->Prop)->Prop):Prop :=
 ∀(pins:List (Addr×Obj)) (s:Shared) (σ:St) (H:Hp) (x:V) (v:Value) (Q:Bool->Hp->Prop),Inv X pins σ H s->RelV x v->r x H Q ->
  wpAny (model X.prog X.w) X.A (truthy v) (TP X pins σ Q) X.xe s
def tOp(r:R2)(ta tb:TE):TE:=λσ H Q=>ta σ H λx H1=>tb σ H1 λy H2=>r x y H2 Q
def tUn(r:V->Hp->VK->Prop)(ta:TE):TE:=λσ H Q=>ta σ H λx H1=>r x H1 Q
def rI(C:Int->Int->Prop)(g:Int->Int->V):R2:=λx y H Q=>∃i j,x=.int i/\y=.int j/\C i j/\Q (g i j) H
def rI0(g:Int->Int->V):R2:=λx y H Q=>∃i j,x=.int i/\y=.int j/\Q (g i j) H
def rU(g:Int->V):V->Hp->VK->Prop:=λx H Q=>∃i,x=.int i/\Q (g i) H
section
variable {X:Cx}{a b c:Expr}{ta tb tc:TE}{pos:Pos}
theorem b7r(e:PE X a ta)(g:PE X b tb){pins:List (Addr×Obj)}{s:Shared}{σ:St}{H:Hp}{R:V->V->Hp->Prop}(I:Inv X pins σ H s)
  (h:ta σ H λx H1=>tb σ H1 λy H2=>R x y H2) {Q:Value->Shared->Prop}{f:Value->Value->Sem Value}
  (i:∀v u s2 x y H2,Inv X pins σ H2 s2->RelV x v->RelV y u->R x y H2->wpAny (model X.prog X.w) X.A (f v u) Q X.xe s2) :
  wpAny (model X.prog X.w) X.A (eval a X.env) (λv s₁=>wpAny (model X.prog X.w) X.A (eval b X.env) (λu s₂=>wpAny (model X.prog X.w) X.A (f v u) Q X.xe s₂) X.xe s₁) X.xe s:=by
 refine thn (e pins s σ H _ I h) λv s1 ⟨x,H1,c,k,q1⟩=>?_;refine thn (g pins s1 σ H1 _ c q1) λu s2 ⟨y,H2,d,l,j⟩=>?_;exact i v u s2 x y H2 d k l j
theorem a0q{c:Operator}{r:R2}(g:OpR X (binaryOp c) r)(e:PE X a ta)(f:PE X b tb):PE X (.BinOp a c b pos) (tOp r ta tb):=by
 intro pins s σ H Q I h;exact wpAny_BinOp (b7r e f I h λv u s2 x y H2 d i j q=>g pins s2 σ H2 x y v u Q d i j q)
theorem b8c{b:UnaryOp}{r:V->Hp->VK->Prop}(e:UnR X (unaryOp b) r)(d:PE X a ta):PE X (.UnaryOp b a pos) (tUn r ta):=by
 intro pins s σ H Q I h;exact UnaryOp_ (thn (d pins s σ H _ I h) λv s1 ⟨x,H1,c,f,q1⟩=>e pins s1 σ H1 x v Q c f q1)
theorem opI{f:Value->Value->Sem Value}{C:Int->Int->Prop}{g:Int->Int->Int}
  (rule:∀(i j:Int) (t u:Tok) (s:Shared) (Q:Value->Shared->Prop) (E:Value->Shared->Prop),C i j->Q (.int (g i j) s.toks) {s with toks:=s.toks+1}->wpAny (model X.prog X.w) X.A (f (.int i t) (.int j u)) Q E s) :
  OpR X f (rI C λi j=>.int (g i j)):=by
 intro pins s σ H x y v u Q I b c h;obtain⟨i,j,rfl,rfl,a,q⟩:=h;obtain⟨t,rfl⟩:=b;obtain⟨t',rfl⟩:=c;exact rule i j t t' s _ _ a ⟨.int (g i j),H,I.tok _,⟨_,rfl⟩,q⟩
theorem b8k{f:Value->Value->Sem Value}{g:Int->Int->Int}
  (rule:∀(i j:Int) (t u:Tok) (s:Shared) (Q:Value->Shared->Prop) (E:Value->Shared->Prop),Q (.int (g i j) s.toks) {s with toks:=s.toks+1}->wpAny (model X.prog X.w) X.A (f (.int i t) (.int j u)) Q E s) :
  OpR X f (rI0 λi j=>.int (g i j)):=by
 intro pins s σ H x y v u Q I a b h;obtain⟨i,j,rfl,rfl,q⟩:=h;obtain⟨t,rfl⟩:=a;obtain⟨t',rfl⟩:=b;exact rule i j t t' s _ _ ⟨.int (g i j),H,I.tok _,⟨_,rfl⟩,q⟩
theorem b4u{f:Value->Value->Sem Value}{g:Int->Int->Bool}
  (rule:∀(i j:Int) (t u:Tok) (s:Shared) (Q:Value->Shared->Prop) (E:Value->Shared->Prop),Q (.bool (g i j)) s->wpAny (model X.prog X.w) X.A (f (.int i t) (.int j u)) Q E s) :
  OpR X f (rI0 λi j=>.bl (g i j)):=by
 intro pins s σ H x y v u Q I a b h;obtain⟨i,j,rfl,rfl,q⟩:=h;obtain⟨t,rfl⟩:=a;obtain⟨t',rfl⟩:=b;exact rule i j t t' s _ _ ⟨.bl (g i j),H,I,rfl,q⟩
def b8B(i j:Int):Prop:=0<j/\j<1073741824
def b8A(i j:Int):Prop:=0<=j/\j<=1000000/\i.natAbs<2 ^ 64
def CMul(i j:Int):Prop:=(-(2 ^ 64)<i/\i<2 ^ 64)∨(-(2 ^ 64)<j/\j<2 ^ 64)
theorem CMul.ok{i j:Int}(h:CMul i j):IntMulOk i j:=by
 rcases h with⟨h1,h2⟩|⟨h1,h2⟩
 .exact .of_left (intBits_le_64 h1 h2)
 .exact .of_right (intBits_le_64 h1 h2)
theorem b6O:OpR X (binaryOp .Add) (rI0 λi j=>.int (i+j)):=b8k λ_ _ _ _ _ _ _ q=>add_int q
theorem b6F:OpR X (binaryOp .Sub) (rI0 λi j=>.int (i-j)):=b8k λ_ _ _ _ _ _ _ q=>sub_int q
theorem b6J:OpR X (binaryOp .Mult) (rI CMul λi j=>.int (i*j)):=opI λ_ _ _ _ _ _ _ a q=>mul_int q a.ok
theorem b4s:OpR X (binaryOp .FloorDiv) (rI b8B λi j=>.int (i / j)):=opI λi j _ _ _ _ _ a q=>by
 have h1:(0:Int)<j:=a.1;have h2:j<1073741824:=a.2;exact floordiv_int (by omega) (by rw[Int.fdiv_eq_ediv_of_nonneg i (by omega)];exact q) (.inl (PyProof.noPylong_small (by omega)))
theorem b6K:OpR X (binaryOp .Mod) (rI (λ_ j=>0<j) λi j=>.int (i % j)):=opI λi j _ _ _ _ _ a q=>by
 have h1:(0:Int)<j:=a;exact mod_int' (by omega) (by rw[Int.fmod_eq_emod_of_nonneg i (by omega)];exact q)
theorem b6G:OpR X (binaryOp .Pow) (rI b8A λi j=>.int (i ^ j.toNat)):=opI λ_ _ _ _ _ _ _ a q=>pow_int_small a.1 a.2.1 a.2.2 q
theorem unI{f:Value->Sem Value}{g:Int->Int}
  (rule:∀(i:Int) (t:Tok) (s:Shared) (Q:Value->Shared->Prop) (E:Value->Shared->Prop),Q (.int (g i) s.toks) {s with toks:=s.toks+1}->wpAny (model X.prog X.w) X.A (f (.int i t)) Q E s) :
  UnR X f (rU λi=>.int (g i)):=by
 intro pins s σ H x v Q I a h;obtain⟨i,rfl,q⟩:=h;obtain⟨t,rfl⟩:=a;exact rule i t s _ _ ⟨.int (g i),H,I.tok _,⟨_,rfl⟩,q⟩
theorem b5R:UnR X (unaryOp .USub) (rU λi=>.int (-i)):=unI λ_ _ _ _ _ q=>neg_int q
end
noncomputable def b7U:V->V->Bool
 |.non,.non=>true | .non,.int _=>true | .int _,.non=>true | .non,.bl _=>true | .bl _,.non=>true | .non,.str _=>true | .str _,.non=>true
 |.int _,.int _=>true | .bl _,.bl _=>true | .str _,.str _=>true | .byt _,.byt _=>true
 |.int _,.str _=>true | .str _,.int _=>true | .bl _,.str _=>true | .str _,.bl _=>true
 |_,_=>false
def rEq:R2:=λx y H Q=>b7U x y=true/\Q (.bl (decide (x=y))) H
def rNe:R2:=λx y H Q=>b7U x y=true/\Q (.bl (!decide (x=y))) H
theorem a8S{i j:Int}:decide (V.int i=V.int j)=(i==j):=by
 rw[bQ];simp
theorem b2S{i j:Bool}:decide (V.bl i=V.bl j)=(i==j):=by
 rw[bQ];simp
theorem a8R{i j:Str}:decide (V.str i=V.str j)=(i==j):=by
 rw[bQ];simp
theorem a8T{i j:Array UInt8}:decide (V.byt i=V.byt j)=(i.toList==j.toList):=by
 rw[bQ];cases i;cases j;simp
section
variable {X:Cx}{a b c:Expr}{ta tb tc:TE}{pos:Pos}
theorem B4{pins:List (Addr×Obj)}{σ:St}{H:Hp}{s:Shared}{Q:VK}{k a:Bool}(I:Inv X pins σ H s)(q:Q (.bl k) H)(e:k=a):EP X pins σ Q (.bool a) s:=by
 subst e;exact⟨.bl k,H,I,rfl,q⟩
theorem b5A:OpR X (compareOp .Eq) rEq:=by
 intro pins s σ H x y v u Q I b a h;obtain⟨hs,q⟩:=h;cases x with
 |non =>
  cases b;cases y with
  |non=>cases a;exact PySem.EqNone.eq_none_none (B4 I q (by simp))
  |bl j=>cases a;exact PySem.EqNone.eq_none_bool (B4 I q (by simp))
  |int j=>obtain⟨t',rfl⟩:=a;exact PySem.EqNone.eq_none_int (B4 I q (by simp))
  |str j=>obtain⟨t',rfl⟩:=a;exact PySem.EqNone.eq_none_str (B4 I q (by simp))
  |_=>exact absurd (show false=true from hs) aY
 |bl i =>
  cases b;cases y with
  |non=>cases a;exact PySem.EqNone.eq_bool_none (B4 I q (by simp))
  |bl j=>cases a;exact eq_bool (B4 I q b2S)
  |str j=>obtain⟨t',rfl⟩:=a;exact PySem.EqMixed.eq_bool_str (B4 I q (by simp))
  |_=>exact absurd (show false=true from hs) aY
 |int i =>
  obtain⟨t,rfl⟩:=b;cases y with
  |non=>cases a;exact PySem.EqNone.eq_int_none (B4 I q (by simp))
  |int j=>obtain⟨t',rfl⟩:=a;exact eq_int (B4 I q a8S)
  |str j=>obtain⟨t',rfl⟩:=a;exact PySem.EqMixed.eq_int_str (B4 I q (by simp))
  |_=>exact absurd (show false=true from hs) aY
 |str i =>
  obtain⟨t,rfl⟩:=b;cases y with
  |non=>cases a;exact PySem.EqNone.eq_str_none (B4 I q (by simp))
  |bl j=>cases a;exact PySem.EqMixed.eq_str_bool (B4 I q (by simp))
  |int j=>obtain⟨t',rfl⟩:=a;exact PySem.EqMixed.eq_str_int (B4 I q (by simp))
  |str j=>obtain⟨t',rfl⟩:=a;exact eq_str (B4 I q a8R)
  |_=>exact absurd (show false=true from hs) aY
 |byt i =>
  obtain⟨t,rfl⟩:=b;cases y with
  |byt j=>obtain⟨t',rfl⟩:=a;exact PySem.W.eq_bytes (B4 I q a8T)
  |_=>exact absurd (show false=true from hs) aY
 |_=>cases y<;>exact absurd (show false=true from hs) aY
theorem b8g:OpR X (compareOp .NotEq) rNe:=by
 intro pins s σ H x y v u Q I b a h;obtain⟨hs,q⟩:=h;cases x with
 |non =>
  cases b;cases y with
  |non=>cases a;exact PySem.EqNone.ne_none_none (B4 I q (by simp))
  |bl j=>cases a;exact PySem.EqNone.ne_none_bool (B4 I q (by simp))
  |int j=>obtain⟨t',rfl⟩:=a;exact PySem.EqNone.ne_none_int (B4 I q (by simp))
  |str j=>obtain⟨t',rfl⟩:=a;exact PySem.EqNone.ne_none_str (B4 I q (by simp))
  |_=>exact absurd (show false=true from hs) aY
 |bl i =>
  cases b;cases y with
  |non=>cases a;exact PySem.EqNone.ne_bool_none (B4 I q (by simp))
  |bl j=>cases a;exact ne_bool (B4 I q (aN not b2S))
  |str j=>obtain⟨t',rfl⟩:=a;exact PySem.EqMixed.ne_bool_str (B4 I q (by simp))
  |_=>exact absurd (show false=true from hs) aY
 |int i =>
  obtain⟨t,rfl⟩:=b;cases y with
  |non=>cases a;exact PySem.EqNone.ne_int_none (B4 I q (by simp))
  |int j=>obtain⟨t',rfl⟩:=a;exact ne_int (B4 I q (aN not a8S))
  |str j=>obtain⟨t',rfl⟩:=a;exact PySem.EqMixed.ne_int_str (B4 I q (by simp))
  |_=>exact absurd (show false=true from hs) aY
 |str i =>
  obtain⟨t,rfl⟩:=b;cases y with
  |non=>cases a;exact PySem.EqNone.ne_str_none (B4 I q (by simp))
  |bl j=>cases a;exact PySem.EqMixed.ne_str_bool (B4 I q (by simp))
  |int j=>obtain⟨t',rfl⟩:=a;exact PySem.EqMixed.ne_str_int (B4 I q (by simp))
  |str j=>obtain⟨t',rfl⟩:=a;exact ne_str (B4 I q (aN not a8R))
  |_=>exact absurd (show false=true from hs) aY
 |byt i =>
  obtain⟨t,rfl⟩:=b;cases y with
  |byt j=>obtain⟨t',rfl⟩:=a;exact PySem.W.ne_bytes (B4 I q (aN not a8T))
  |_=>exact absurd (show false=true from hs) aY
 |_=>cases y<;>exact absurd (show false=true from hs) aY
theorem b8h:OpR X (compareOp .Lt) (rI0 λi j=>.bl (decide (i<j))):=b4u λ_ _ _ _ _ _ _ q=>lt_int q
theorem b8i:OpR X (compareOp .LtE) (rI0 λi j=>.bl (decide (i<=j))):=b4u λ_ _ _ _ _ _ _ q=>le_int q
theorem b8j:OpR X (compareOp .Gt) (rI0 λi j=>.bl (decide (j<i))):=b4u λ_ _ _ _ _ _ _ q=>gt_int q
theorem b5z:OpR X (compareOp .GtE) (rI0 λi j=>.bl (decide (j<=i))):=b4u λ_ _ _ _ _ _ _ q=>ge_int q
theorem b1Q:OpR X (compareOp .Is) (λx y H Q=>y=.non/\Q (.bl (decide (x=.non))) H):=by
 intro pins s σ H x y v u Q I a b h;obtain⟨rfl,q⟩:=h;cases b;refine is_none_gen (B4 I q ?_);cases x<;>first
  |(cases a;rfl)
  |(obtain⟨t,rfl⟩:=a;rfl)
theorem b4r:OpR X (compareOp .IsNot) (λx y H Q=>y=.non/\Q (.bl (!decide (x=.non))) H):=by
 intro pins s σ H x y v u Q I a b h;obtain⟨rfl,q⟩:=h;cases b;refine isnot_none_gen (B4 I q ?_);cases x<;>first
  |(cases a;rfl)
  |(obtain⟨t,rfl⟩:=a;rfl)
theorem J7(b:Expr){a:CmpOp}(h:a≠.In:=by decide)(h2:a≠.NotIn:=by decide):behindInMarks a b=false:=by
 have e1:(a==CmpOp.In)=false:=by cases a<;>first|rfl|exact absurd rfl h
 have e2:(a==CmpOp.NotIn)=false:=by cases a<;>first|rfl|exact absurd rfl h2
 cases b with
 |Set elts k p=>show(k==0 && (a==CmpOp.In || a==CmpOp.NotIn) && elts.all (constantsAlone 8))=false;rw[e1,e2,Bool.or_false,fi,Bool.false_and]
 |_=>rfl
theorem a0P{c:CmpOp}{r:R2}(i:OpR X (compareOp c) r)(e:PE X a ta)(f:PE X b tb)(g:behindInMarks c b=false):PE X (.Compare a [c] [b] pos) (tOp r ta tb):=by
 intro pins s σ H Q I h;exact wpAny_Compare1 (b7r e f I h λv u s2 x y H2 d j k q=>i pins s2 σ H2 x y v u Q d j k q) g
def V1(t:TE):TT:=λσ H Q=>t σ H λx H'=>∃k,x=.bl k/\Q k H'
theorem M9{d:CmpOp}{r:R2}(o:OpR X (compareOp d) r)(l:PE X a ta)(m:PE X b tb)(n:behindInMarks d b=false):PT X (.Compare a [d] [b] pos) (V1 (tOp r ta tb)):=by
 intro pins s σ H Q I h;refine wpAny_isTrue_Compare1 (thn (l pins s σ H _ I h) λv s1 ⟨x,H1,g,t,q1⟩=>thn (m pins s1 σ H1 _ g q1) λu s2 ⟨y,H2,i,w,p⟩ =>
  thn (o pins s2 σ H2 x y v u _ i t w p) λc B ⟨z,f,j,A,k,e,q⟩=>?_) n
 subst e;cases A;exact df ⟨f,j,q⟩
def b7B(K:PySem.W.Frag)(x:V)(H:Hp)(k:Bool):Prop :=
 match x with
 |.non=>k=false
 |.bl b=>k=b
 |.int i=>k=(i != 0)
 |.str y=>y.length<=sizeLine/\k=((y.length:Int) != 0)
 |.byt y=>y.size<=sizeLine/\k=((y.size:Int) != 0)
 |.ref p=>(∃xs,SqL K H p xs/\k=!xs.isEmpty)∨(∃xs,SqT K H p xs/\k=!xs.isEmpty)∨∃kvs,H p=some (.dK kvs)/\k=!kvs.isEmpty
 |_=>False
theorem a7v{κ:Type}{kvs:List (κ×V)}{vs:List (κ×Value)}(r:KV kvs vs):(!vs.isEmpty)=!kvs.isEmpty:=by
 cases r<;>rfl
theorem a3d{xs:List V}{its:List Value}(r:Vals xs its):(!its.toArray.isEmpty)=!xs.isEmpty:=by
 cases r<;>simp
theorem a2Q:(sizeLine:Nat)<2 ^ 63:=by rw[a_];decide
theorem b5T:b8L X (λx H Q=>∃k,b7B X.K x H k/\Q k H):=by
 intro pins s σ H x v Q I d h;obtain⟨k,e,q⟩:=h;have o:=a2Q;have hs:sizeLine=16777216:=a_;cases x with
 |non =>
  cases d;have a:k=false:=e;subst a;exact truthy_none ⟨H,I,q⟩
 |bl b =>
  cases d;have a:k=b:=e;subst a;exact df ⟨H,I,q⟩
 |int i =>
  obtain⟨t,rfl⟩:=d;have a:k=(i != 0):=e;subst a;exact PySem.P.truthy_int ⟨H,I,q⟩
 |str y =>
  obtain⟨t,rfl⟩:=d;obtain⟨n,a⟩:y.length<=sizeLine/\k=((y.length:Int) != 0):=e;subst a;exact PySem.P.truthy_str (by omega) ⟨H,I.tok _,q⟩
 |byt y =>
  obtain⟨t,rfl⟩:=d;obtain⟨n,a⟩:y.size<=sizeLine/\k=((y.size:Int) != 0):=e;subst a;exact PySem.W.truthy_bytes (by omega) ⟨H,I.tok _,q⟩
 |ref p =>
  cases d;have a:(∃xs,SqL X.K H p xs/\k=!xs.isEmpty)∨(∃xs,SqT X.K H p xs/\k=!xs.isEmpty)∨∃kvs,H p=some (.dK kvs)/\k=!kvs.isEmpty:=e;rcases a with⟨xs,f,a⟩|⟨xs,f,a⟩|⟨kvs,f,a⟩
  .subst a;obtain⟨its,r,g,j⟩:=I.list f;have c:=r.length;exact wpAny_truthy_list g.isList (by simp only[aF];omega) ⟨H,I.tok _,by rw[a3d r];exact q⟩
  .subst a;obtain⟨its,r,g,j⟩:=I.tuple f;have c:=r.length;exact truthy_tuple g (by simp only[aF];omega) ⟨H,I.tok _,by rw[a3d r];exact q⟩
  .subst a;obtain⟨j,l,vs,r,m⟩:kvs.length<=sizeLine/\(p==sysModules)=false/\∃vs,KV kvs vs/\s.heap.DictOf (B9 X.prog X.w) p vs:=I.hok p _ f;have c:kvs.length=vs.length:=Paired.length r;exact wpAny_truthy_dict l m (by omega) ⟨H,I.tok _,by rw[a7v r];exact q⟩
 |_=>exact(show False from e).elim
theorem b1y(d:PE X a ta)(e:∀b,isTrue a X.env b=(do let v <-b;standAt a.pos;holding [v] (truthy v))) :
  PT X a (λσ H Q=>ta σ H λx H'=>∃k,b7B X.K x H' k/\Q k H'):=by
 intro pins s σ H Q I h;exact isTrue_plain (thn (d pins s σ H _ I h) λv s1 ⟨x,H1,c,f,q1⟩=>b5T pins s1 σ H1 x v Q c f q1) (e _)
theorem a5t{x:V}{us:List Value}(r:Vals [x] us):∃u,us=[u]/\RelV x u:=by
 cases r with
 |cons r1 r2=>cases r2;exact⟨_,rfl,r1⟩
theorem b0t:E3 X (.type "int") (λxs H Q=>(∃i,xs=[.int i]/\Q (.int i) H)∨∃k,xs=[.bl k]/\Q (.int (if k then 1 else 0)) H):=by
 intro pins s σ H xs a Q I r h;rcases h with⟨i,rfl,q⟩|⟨k,rfl,q⟩
 .obtain⟨u,rfl,t,rfl⟩:=a5t r;exact call_int_int ⟨.int i,H,I,⟨_,rfl⟩,q⟩
 .obtain⟨u,rfl,r1⟩:=a5t r;cases r1;exact call_int_bool ⟨.int (if k then 1 else 0),H,I.tok _,⟨_,rfl⟩,q⟩
end
structure ObjM(h:Heap)(x dx C:Addr)(mA:Str->Option Value):Prop where
 obj:h.get? x=some (PySem.W.instObj C dx)
 ns:h.Ns1 dx mA
 ne:dx≠x
theorem a9T{h:Heap}{dx:Addr}{mA:Str->Option Value}(n:h.Ns1 dx mA):∃od,h.get? dx=some od/\∀name,PySem.W.lookIn name od=some (mA name):=by
 obtain⟨o,es,ep,g,hd,d,_,f⟩:=n;refine⟨o,g,λname=>?_⟩;have e:=f name;unfold nsFind findBy at e;rw[<-Array.find?_toList]at e;unfold PySem.W.lookIn;rw[hd];dsimp only;split
 .rename_i y q;rw[q]at e;exact aN some e
 .rename_i q;rw[q]at e;have a:es.toList.any (·.refKey)=false:=by
   rw[eB];intro y i;obtain⟨z,t,b⟩:=d y (eJ.mp i);simp[DictEntry.refKey,b]
  have c:¬es.toList.any (·.refKey)=true:=by rw[a];exact aY
  rw[ar c];exact aN some e
theorem ObjM.look{h:Heap}{x dx C:Addr}{mA:Str->Option Value}(I:ObjM h x dx C mA):∃od,PySem.W.InstAt h x (PySem.W.instObj C dx) C (some od)/\∀name,PySem.W.lookIn name od=some (mA name) :=
 let ⟨od,ho,hl⟩:=a9T I.ns
 ⟨od,⟨I.obj,rfl,rfl,ho⟩,hl⟩
section
variable {prog:Program}{w:World}{A:Around}{E:Value->Shared->Prop}{s:Shared}{K:PySem.W.Frag}{x dx C f:Addr}{mA:Str->Option Value}{name:Str}{v:Value}
theorem b4S{a:Bool}{Q:Value->Shared->Prop}(X:K.In s.heap)(I:ObjM s.heap x dx C mA)(d:PySem.W.plainGet K C name=true)(e:PySem.W.hasDictIn K C=true)
  (c:PySem.W.findIn K (.ref C) name=some none) (g:mA name=some v) (b:PySem.W.handedIn v=true) (h:Q v {s with toks:=s.toks+1}) :
  wpAny (model prog w) A (getAttr (.ref x) name a) Q E s:=by
 obtain⟨od,J,f⟩:=I.look;exact PySem.W.get_value X J (PySem.W.plainGet_of d).1 (PySem.W.findObj_own e c rfl (by rw[f,g])) b h
theorem b2D{pl:Sem Bool}{Q:Value×List Value->Shared->Prop}(X:K.In s.heap)(I:ObjM s.heap x dx C mA)(a:PySem.W.plainGet K C name=true)
  (b:PySem.W.findIn K (.ref C) name=some (some (.ref f))) (d:PySem.W.isFn K (.ref f)=true) (e:mA name=none) (h:Q (.ref f,[.ref x]) s) :
  wpAny (model prog w) A (getMethod (.ref x) name pl) Q E s:=by
 obtain⟨od,J,c⟩:=I.look;exact PySem.W.method_fn X J (PySem.W.plainGet_of a).1 (PySem.W.plainGet_of a).2 b (bp.mp d) (by show(PySem.W.lookIn name od).map (·.isSome)=some false;rw[c,e];rfl) h
theorem b3E{ns:List Str}{Q:Unit->Shared->Prop}(X:K.In s.heap)(I:ObjM s.heap x dx C mA)
  (hs:PySem.W.findIn K (.ref C) "__setattr__"=some (some (.builtin "object.__setattr__"))) (hp:PySem.W.plainOver K C=true) (n:PySem.W.takerIn K C name=some none) (m:PySem.W.hasDictIn K C=true)
  (hw:PySem.Within mA ns) (hsz:ns.length<=sizeLine)
  (h:∀h',ObjM h' x dx C (λy=>if y=name then some v else mA y)->Heap.SameBut dx s.heap h'->Q () {s with heap:=h',toks:=s.toks+2}) :
  wpAny (model prog w) A (setAttr (.ref x) name v) Q E s:=by
 obtain⟨od,J,p⟩:=I.look;refine PySem.W.set_plain X J hs (PySem.W.osa_open (s:={s with toks:=s.toks+1}) (r:=none) X J hp n λb=>?_);obtain⟨cd,l,f⟩:=PySem.W.any_some m;have o:s.heap.get? x=some ⟨.ref C,some dx,.plain,#[]⟩:=I.obj;refine aa (ai (aa (aa (wpAny_loadPart o (aa (PySem.W.Looks.here (s:={s with toks:=s.toks+1}) (PySem.W.looks_clsIn X l) ?_))))));rw[f];refine ai (a:=some dx) (aa (ai (aa ?_)));refine wpAny_nsSet1 (s:={s with toks:=s.toks+1}) I.ns λh' c d=>?_;obtain⟨q,k,j,i,g,e⟩:=c.count (PySem.Within.cons name v hw);refine aa (wpAny_lookBehind i (by rw[g];exact pastItsLine_dict (bj e (by rw[a'];omega))) ?_);exact ai (h _ ⟨(d.2 _ (dq I.ne)).trans I.obj,c,I.ne⟩ d)
theorem b2h{R:Result->Shared->Prop}{vs:List Value}{kw:List (Str×Value)}(X:K.In s.heap)(b:PySem.W.makesIn K C=true)
  (hi:PySem.W.findIn K (.ref C) "__init__"=some (some (.ref f))) (a:PySem.W.typeIn K (.ref f)=some (.type "function"))
  (h:codeAny (model prog w) (A.under (.builtin "type.__call__" ⟨.ref C::vs,kw⟩)) (.call (.ref f) ⟨.ref (s.heap.objs.size+1)::vs,kw⟩) (PySem.W.InitBack (s.heap.objs.size+1) R)
   {s with heap:=(s.heap.push PySem.W.emptyDict).push (PySem.W.instObj C s.heap.objs.size)}) :
  codeAny (model prog w) A (.call (.ref C) ⟨vs,kw⟩) R s:=by
 obtain⟨c,g,d,t,os⟩:=s;exact PySem.W.make_core (PySem.W.makes_of X b) (PySem.W.looks_findIn X hi) (λself=>PySem.W.bind_fn X self a) (.inl rfl) h
end
noncomputable def J6(f:Str)(v:V):List (Str×V)->List (Str×V)
 |[]=>[(f,v)]
 |(g,x)::r=>if g=f then(g,v)::r else(g,x)::J6 f v r
theorem a1D(f g:Str)(v:V):∀fs:List (Str×V),(J6 f v fs).lookup g=if g=f then some v else fs.lookup g
 |[]=>by
  show List.lookup g [(f,v)]=_;by_cases h:g=f
  .have hb:(g==f)=true:=bp.mpr h;simp only[List.lookup,hb,az h]
  .have hb:(g==f)=false:=cK.mpr h;simp only[List.lookup,hb,ar h]
 |(k,x)::r=>by
  have b:=a1D f g v r;rw[show J6 f v ((k,x)::r)=(if k=f then(k,v)::r else(k,x)::J6 f v r)from rfl];by_cases a:k=f
  .rw[az a];by_cases h:g=k
   .have hb:(g==k)=true:=bp.mpr h;simp only[List.lookup,hb,az (h.trans a)]
   .have hb:(g==k)=false:=cK.mpr h;simp only[List.lookup,hb,ar (λe:g=f=>h (e.trans a.symm))]
  .rw[ar a];by_cases h:g=k
   .have hb:(g==k)=true:=bp.mpr h;simp only[List.lookup,hb,ar (λe:g=f=>a (h.symm.trans e))]
   .have hb:(g==k)=false:=cK.mpr h;simp only[List.lookup,hb];exact b
theorem a1i(f:Str)(v:V):∀fs:List (Str×V),f∈(J6 f v fs).map (·.1)/\∀g,g∈fs.map (·.1)->g∈(J6 f v fs).map (·.1)
 |[]=>⟨by simp[J6],λg h=>by simp at h⟩
 |(k,x)::r=>by
  obtain⟨b,c⟩:=a1i f v r;rw[show J6 f v ((k,x)::r)=(if k=f then(k,v)::r else(k,x)::J6 f v r)from rfl];by_cases a:k=f
  .rw[az a];subst a;exact⟨by simp,λg h=>by simpa using h⟩
  .rw[ar a];refine⟨?_,λg h=>?_⟩
   .rw[aZ];exact av _ b
   .rw[aZ]at h⊢;rcases aD.mp h with e|e
    .exact aD.mpr (.inl e)
    .exact av _ (c g e)
theorem a1F(f:Str)(v:V):∀fs:List (Str×V),(J6 f v fs).length<=fs.length+1
 |[]=>by simp[J6]
 |(k,x)::r=>by
  have b:=a1F f v r;rw[show J6 f v ((k,x)::r)=(if k=f then(k,v)::r else(k,x)::J6 f v r)from rfl];by_cases a:k=f
  .rw[az a,a',a'];omega
  .rw[ar a,a',a'];omega
theorem RelO.some_of{v:V}{o:Option Value}(r:RelO (some v) o):∃u,o=some u/\RelV v u:=by
 cases o with
 |none=>exact(show False from r).elim
 |some u=>exact⟨u,rfl,r⟩
theorem RelO.none_of{o:Option Value}(r:RelO none o):o=none:=by
 cases o with
 |none=>rfl
 |some u=>exact(show False from r).elim
theorem b0b{v:V}{u:Value}(r:RelV v u):PySem.W.handedIn u=true:=by
 cases v with
 |non=>cases(show u=Value.none from r);rfl
 |bl b=>cases(show u=Value.bool b from r);rfl
 |int i=>obtain⟨t,e⟩:=(show ∃t,u=Value.int i t from r);cases e;rfl
 |str x=>obtain⟨t,e⟩:=(show ∃t,u=Value.str x t from r);cases e;rfl
 |byt b=>obtain⟨t,e⟩:=(show ∃t,u=Value.bytes b t from r);cases e;rfl
 |flt b=>obtain⟨t,e⟩:=(show ∃t,u=Value.float b t from r);cases e;rfl
 |ref a=>cases(show u=Value.ref a from r);rfl
 |ty n=>cases(show u=Value.type n from r);rfl
section
variable {P:Program}{w:World}{H H':Hp}{h h':Heap}{a C dx:Addr}{fs fs':List (Str×V)}
theorem a2k(b:HOk P w H h)(e:H a=some (.ins C dx fs)):∃mA,ObjM h a dx C mA/\(∀f,RelO (fs.lookup f) (mA f))/\PySem.Within mA (fs.map (·.1))/\fs.length<=1000/\H dx=some (.own a):=by
 obtain⟨d,z,ne,c,mA,n,r,q⟩:=(show ObjOk P w H h a (.ins C dx fs)from b a _ e);exact⟨mA,⟨c,n,ne⟩,r,q,z,d⟩
end
structure Cls(K:PySem.W.Frag)(C:Addr):Prop where
 pg:PySem.W.plainGet K C Str.empty=true
 hd:PySem.W.hasDictIn K C=true
 po:PySem.W.plainOver K C=true
 sa:PySem.W.findIn K (.ref C) "__setattr__"=some (some (.builtin "object.__setattr__"))
theorem Cls.get{K:PySem.W.Frag}{C:Addr}(c:Cls K C)(f:Str):PySem.W.plainGet K C f=true:=c.pg
def NoAttr(K:PySem.W.Frag)(C:Addr)(f:Str):Prop:=PySem.W.findIn K (.ref C) f=some none
theorem NoAttr.taker{K:PySem.W.Frag}{C:Addr}{f:Str}(n:NoAttr K C f):PySem.W.takerIn K C f=some none:=by
 unfold PySem.W.takerIn;rw[show PySem.W.findIn K (.ref C) f=some none from n];rfl
structure Meth(K:PySem.W.Frag)(C:Addr)(m:Str)(f:Addr):Prop where
 at_:PySem.W.findIn K (.ref C) m=some (some (.ref f))
 fn:PySem.W.isFn K (.ref f)=true
 kp:PySem.W.keepIn K (.ref f)=true
section
variable {X:Cx}{pins:List (Addr×Obj)}{σ:St}{H:Hp}{s:Shared}{a C dx:Addr}{fs:List (Str×V)}{f:Str}{v:V}{A:Around}{E:Value->Shared->Prop}
theorem a7x{b:Bool}{Q:Value->Shared->Prop}(I:Inv X pins σ H s)(e:H a=some (.ins C dx fs))(c:Cls X.K C)(n:NoAttr X.K C f)(l:fs.lookup f=some v)
  (h:∀u s',Inv X pins σ H s'->RelV v u->Q u s'):wpAny (model X.prog X.w) A (getAttr (.ref a) f b) Q E s:=by
 obtain⟨mA,O,r,_,_,_⟩:=a2k I.hok e;obtain⟨u,g,d⟩:=RelO.some_of (v:=v) (o:=mA f) (by rw[<-l];exact r f);exact b4S I.kIn O (c.get f) c.hd n g (b0b d) (h u _ (I.tok _) d)
theorem a3e{m:Str}{g:Addr}{pl:Sem Bool}{Q:Value×List Value->Shared->Prop}(I:Inv X pins σ H s)(e:H a=some (.ins C dx fs))(c:Cls X.K C)(k:Meth X.K C m g)(l:fs.lookup m=none)
  (h:Q (.ref g,[.ref a]) s):wpAny (model X.prog X.w) A (getMethod (.ref a) m pl) Q E s:=by
 obtain⟨mA,O,r,_,_,_⟩:=a2k I.hok e;have b:mA m=none:=RelO.none_of (by rw[<-l];exact r m);exact b2D I.kIn O (c.get m) k.at_ k.fn b h
theorem a6R{y:V}{u:Value}{Q:Unit->Shared->Prop}(I:Inv X pins σ H s)(e:H a=some (.ins C dx fs))(c:Cls X.K C)(n:NoAttr X.K C f)(t:fs.length<1000)(m:RelV y u)
  (h:∀s',Inv X pins σ (upd H a (.ins C dx (J6 f y fs))) s'->Q () s'):wpAny (model X.prog X.w) A (setAttr (.ref a) f u) Q E s:=by
 obtain⟨mA,O,r,wi,_,i⟩:=a2k I.hok e;have l:(fs.map (·.1)).length<=sizeLine:=by rw[ae,a_];omega
 refine b3E I.kIn O c.sa c.po n.taker c.hd wi l λh' d p=>h _ ?_;have hd:∃o,h'.get? dx=some o:=let ⟨o,_,_,e',_⟩:=d.ns;⟨o,e'⟩
 refine I.write (x:=a) (e:=dx) (by rw[e];exact True.intro) (.inr i) (λb q j z=>(p.2 b j).trans z) hd ?_;refine⟨by rw[A3 O.ne];exact i,?_,O.ne,d.obj,_,d.ns,λg=>?_,λg k=>?_⟩
 .have:=a1F f y fs;omega
 .show RelO ((J6 f y fs).lookup g) (if g=f then some u else mA g);rw[a1D];by_cases q:g=f
  .rw[az q,az q];exact m
  .rw[ar q,ar q];exact r g
 .by_cases q:g=f
  .rw[q];exact(a1i f y fs).1
  .refine(a1i f y fs).2 g (wi g λz=>k ?_);show(if g=f then some u else mA g)=none;rw[ar q];exact z
theorem Inv.made(I:Inv X pins σ H s):Inv X pins σ (upd (upd H s.heap.objs.size (.own (s.heap.objs.size+1))) (s.heap.objs.size+1) (.ins C s.heap.objs.size []))
  {s with heap:=(s.heap.push PySem.W.emptyDict).push (PySem.W.instObj C s.heap.objs.size)}:=by
 have e1:(s.heap.push PySem.W.emptyDict).get? s.heap.objs.size=some PySem.W.emptyDict:=aH s.heap rfl;have e2:((s.heap.push PySem.W.emptyDict).push (PySem.W.instObj C s.heap.objs.size)).get? (s.heap.objs.size+1)=some (PySem.W.instObj C s.heap.objs.size):=by
  have:=aH (s.heap.push PySem.W.emptyDict) (o:=PySem.W.instObj C s.heap.objs.size) rfl;rwa[bC]at this
 have d:(s.heap.push PySem.W.emptyDict).Ns s.heap.objs.size (λ_=>none):=⟨PySem.W.emptyDict,#[],_,e1,rfl,(λe f=>absurd f (by simp)),λ_=>rfl⟩;have c:=I.laid (a:=s.heap.objs.size) (o:=.own (s.heap.objs.size+1)) (h':=s.heap.push PySem.W.emptyDict) (t':=s.toks) (λb u q=>ag _ q) (ao _) ⟨_,e1⟩;refine c.laid (a:=s.heap.objs.size+1) (o:=.ins C s.heap.objs.size []) (t':=s.toks) (λb u q=>ag _ q) (Nat.le_of_eq (bC _ _)) ?_;have ne:s.heap.objs.size≠s.heap.objs.size+1:=aR (ck _);refine⟨by rw[A3 ne,A0],bG _,ne,e2,λ_=>none,(Heap.Ns1.of_empty d).at λo q=>ag _ q,λ_=>True.intro,λy g=>absurd rfl g⟩
theorem b5b{prog:Program}{w:World}{env:Env}{e:Expr}{f:Str}{pos:Pos}{s:Shared}{Q:Value->Shared->Prop}(a:attributeBase e f env (eval e env)=eval e env)
  (h:wpAny (model prog w) A (eval e env) (λo s₁=>wpAny (model prog w) A (getAttr o f true) Q E s₁) E s):wpAny (model prog w) A (eval (.Attribute e f pos) env) Q E s :=
 Attribute_any_ h (by rw[arm_eval_Attribute,a])
end
def b7Q(K:PySem.W.Frag)(ta:TE)(f:Str):TE:=λσ H Q=>ta σ H λx H1=>∃a C dx fs v,x=.ref a/\H1 a=some (.ins C dx fs)/\Cls K C/\NoAttr K C f/\fs.lookup f=some v/\Q v H1
def b7V(K:PySem.W.Frag)(ta tv:TE)(f:Str):TS:=λD σ H=>tv σ H λy H1=>ta σ H1 λx H2=>∃a C dx fs,x=.ref a/\H2 a=some (.ins C dx fs)/\Cls K C/\NoAttr K C f/\fs.length<1000 /\
 D.nx σ (upd H2 a (.ins C dx (J6 f y fs)))
section
variable {X:Cx}{o e value:Expr}{f:Str}{pos pos' tpos:Pos}{ta tv:TE}
theorem b6z(j:PE X e ta)(i:attributeBase e f X.env (eval e X.env)=eval e X.env):PE X (.Attribute e f pos) (b7Q X.K ta f):=by
 intro pins s σ H Q I h;refine b5b i (thn (j pins s σ H _ I h) λu s1 ⟨x,H1,b,m,a,C,dx,fs,v,ex,g,c,n,l,q⟩=>?_);subst ex;obtain rfl:u=Value.ref a:=m;exact a7x b g c n l λo s2 d k=>⟨v,H1,d,k,q⟩
theorem b6m(i:PE X o ta)(j:PE X value tv)(hs:swapsWith value (some (.Attribute o f pos')) pos.line X.env=pure false):PS X (.Assign [.Attribute o f pos'] value pos) (b7V X.K ta tv f):=by
 intro pins s σ H D I h;refine plainObj_wpAny_Assign_Attribute (thn (j pins s σ H _ I h) λu s1 ⟨y,H1,b,r,q⟩=>thn (i pins s1 σ H1 _ b q) λk s2 ⟨x,H2,d,p,a,C,dx,fs,ex,g,c,n,l,m⟩=>?_) hs;subst ex;obtain rfl:k=Value.ref a:=p;exact a6R d g c n l r λt e=>⟨σ,_,e,m⟩
end
section
variable {X:Cx}{pins:List (Addr×Obj)}{σ:St}{H:Hp}{s:Shared}{A:Around}{E:Value->Shared->Prop}{Q:Value->Shared->Prop}{c:Value}{b:Bool}
inductive TyOf(K:PySem.W.Frag)(H:Hp):V->Value->Prop where
 |non:TyOf K H .non (.type "NoneType")
 |bl (x:Bool):TyOf K H (.bl x) (.type "bool")
 |int (i:Int):TyOf K H (.int i) (.type "int")
 |str (x:Str):TyOf K H (.str x) (.type "str")
 |flt (x:UInt64):TyOf K H (.flt x) (.type "float")
 |lst {a:Addr}{xs:List V}(e:H a=some (.lst xs)):TyOf K H (.ref a) (.type "list")
 |frz {a:Addr}{o:Obj}{xs:List V}(e:H a=some (.frz o (.lst xs))):TyOf K H (.ref a) (.type "list")
 |tup {a:Addr}{xs:List V}(e:H a=some (.tup xs)):TyOf K H (.ref a) (.type "tuple")
 |dK {a:Addr}{kvs:List (Key×V)}(e:H a=some (.dK kvs)):TyOf K H (.ref a) (.type "dict")
 |dT {a:Addr}{kvs:List (List Key×V)}(e:H a=some (.dT kvs)):TyOf K H (.ref a) (.type "dict")
 |ins {a C dx:Addr}{fs:List (Str×V)}(e:H a=some (.ins C dx fs)) (cl:Cls K C) (ha:PySem.W.findIn K (.ref C) "__class__"=some (some (.builtin "object.__class__")))
   (hn:PySem.W.specialIn K (.builtin "object.__class__") "__get__"=some (some (.builtin "getset_descriptor.__get__"))) (htk:PySem.W.takesIn K (.builtin "object.__class__")=some true)
   (hm:PySem.W.mroIn K C (.type "object")=some true):TyOf K H (.ref a) (.ref C)
theorem a9Y{x:V}{u t:Value}(I:Inv X pins σ H s)(d:RelV x u)(ty:TyOf X.K H x t)(e:PySem.W.kitOne X.K t c=some b)(h:∀tk,Q (.bool b) {s with toks:=tk}) :
  wpAny (model X.prog X.w) A (call (.builtin "isinstance") [u,c]) Q E s:=by
 cases ty with
 |non=>cases(show u=Value.none from d);exact PySem.W.kia_one PySem.W.kitx_none I.kIn True.intro e (λz=>nomatch z) h
 |bl y=>cases(show u=Value.bool y from d);exact PySem.W.kia_one PySem.W.kitx_bool I.kIn True.intro e (λz=>nomatch z) h
 |int i=>obtain⟨t,q⟩:=(show ∃t,u=Value.int i t from d);cases q;exact PySem.W.kia_one PySem.W.kitx_int I.kIn True.intro e (λz=>nomatch z) h
 |str y=>obtain⟨t,q⟩:=(show ∃t,u=Value.str y t from d);cases q;exact PySem.W.kia_one PySem.W.kitx_str I.kIn True.intro e (λz=>nomatch z) h
 |flt y=>obtain⟨t,q⟩:=(show ∃t,u=Value.float y t from d);cases q;exact PySem.W.kia_one PySem.W.kitx_float I.kIn True.intro e (λz=>nomatch z) h
 |@lst a xs ea =>
  cases(show u=Value.ref a from d);obtain⟨_,_,n,_,h1⟩:=(show ObjOk X.prog X.w H s.heap a (.lst xs)from I.hok a _ ea);exact PySem.W.kia_one PySem.W.kitx_list I.kIn ⟨_,h1,rfl⟩ e (λz=>nomatch z) h
 |@frz a ob xs ea =>
  cases(show u=Value.ref a from d);obtain⟨_,_,_,n,_,h1⟩:=(show ObjOk X.prog X.w H s.heap a (.frz ob (.lst xs))from I.hok a _ ea);exact PySem.W.kia_one PySem.W.kitx_list I.kIn ⟨_,h1,rfl⟩ e (λz=>nomatch z) h
 |@tup a xs ea =>
  cases(show u=Value.ref a from d);obtain⟨_,_,_,p⟩:=(show ObjOk X.prog X.w H s.heap a (.tup xs)from I.hok a _ ea);obtain⟨o,h1,h2,_⟩:=p.tup;exact PySem.W.kia_one PySem.W.kitx_tuple I.kIn ⟨o,h1,h2⟩ e (λz=>nomatch z) h
 |@dK a kvs ea =>
  cases(show u=Value.ref a from d);obtain⟨_,_,vs,_,p⟩:=(show ObjOk X.prog X.w H s.heap a (.dK kvs)from I.hok a _ ea);obtain⟨o,es,ep,h1,h2,_⟩:=p;exact PySem.W.kia_one PySem.W.kitx_dict I.kIn ⟨o,h1,h2.1⟩ e (λz=>nomatch z) h
 |@dT a kvs ea =>
  cases(show u=Value.ref a from d);obtain⟨_,_,xs,_,o,es,ep,h1,h2,_⟩:=(show ObjOk X.prog X.w H s.heap a (.dT kvs)from I.hok a _ ea);exact PySem.W.kia_one PySem.W.kitx_dict I.kIn ⟨o,h1,h2.1⟩ e (λz=>nomatch z) h
 |@ins a C dx fs ea cl g k f j =>
  cases(show u=Value.ref a from d);obtain⟨mA,O,_⟩:=a2k I.hok ea;obtain⟨od,J,_⟩:=O.look;exact PySem.W.kia_one (PySem.W.kitx_own (cl.get _) cl.hd g k f j) I.kIn J e (λz=>nomatch z) h
end
structure Room(k:Nat)(A:Around):Prop where
 hd:A.handled=none
 dp:A.depth+3*k+5<recursionLimit
 un:A.units+16*k+200<cLine
theorem Room.mono{j k:Nat}{A:Around}(r:Room k A)(h:j<=k):Room j A:=⟨r.hd,by have:=r.dp;omega,by have:=r.un;omega⟩
theorem Room.deeper{k:Nat}{A:Around}(r:Room (k+1) A)(env:Env):Room k (A.deeper env) :=
 ⟨r.hd,by have:=r.dp;show A.depth+1+3*k+5<_;omega,by have:=r.un;show A.units+3+16*k+200<_;omega⟩
theorem a7q{A:Around}{C:Addr}{us:List Value}{kw:List (Str×Value)}:(A.under (.builtin "type.__call__" ⟨.ref C::us,kw⟩)).depth=A.depth+1:=by
 first|rfl|simp[Around.under,Code.weight,Code.isCreation,Code.isGuard,Code.isCaller,Code.frames,Code.isFrame,guardIds]
theorem a7p{A:Around}{C:Addr}{us:List Value}{kw:List (Str×Value)}:(A.under (.builtin "type.__call__" ⟨.ref C::us,kw⟩)).units=A.units+1:=by
 first|rfl|simp[Around.under,Code.cUnits,Code.frames,Code.isFrame]
theorem Room.make{k:Nat}{A:Around}(r:Room (k+1) A)(C:Addr)(us:List Value)(kw:List (Str×Value)):Room k (A.under (.builtin "type.__call__" ⟨.ref C::us,kw⟩)) :=
 ⟨r.hd,by have:=r.dp;rw[a7q];omega,by have:=r.un;rw[a7p];omega⟩
theorem Room.depth{k:Nat}{A:Around}(r:Room k A):A.depth<recursionLimit:=by have:=r.dp;omega
def a1K:TA:=λ_ H Q=>Q [] H
def a5w(ta:TE)(tr:TA):TA:=λσ H Q=>ta σ H λx H1=>tr σ H1 λxs H2=>Q (x::xs) H2
section
variable {X:Cx}{e:Expr}{es:List Expr}{te:TE}{t:TA}{pos:Pos}
theorem b6D:PA X [] a1K:=λ_ _ _ _ H Q I h=>Calls.spliced_nil ⟨[],H,I,.nil,h⟩
theorem b4p(c:PE X e te)(d:PA X es t)(hs:starEach (e::es) X.env=(false,eval e X.env)::starEach es X.env:=by rfl):PA X (e::es) (a5w te t):=by
 intro pos pins s σ H Q I h;rw[hs];show wpAny _ _ (spliced ((false,eval e X.env)::backTo pos (starEach es X.env))) _ _ s;refine Calls.spliced_cons (thn (c pins s σ H _ I h) λu s1 ⟨x,H1,a,g,q1⟩=>?_);exact thn (d pos pins s1 σ H1 _ a q1) λj s2 ⟨xs,H2,b,i,f⟩=>⟨x::xs,H2,b,.cons g i,f⟩
def b5U(t:TA):TE:=λσ H Q=>t σ H λxs H1=>xs.length<=sizeLine/\∀p,H1 p=none->Q (.ref p) (upd H1 p (.tup xs))
def b3u(t:TA):TE:=λσ H Q=>t σ H λxs H1=>xs.length<=sizeLine/\∀p,H1 p=none->Q (.ref p) (upd H1 p (.lst xs))
theorem b6s{x1}(h:PA X es t):PE X (.Tuple es x1 pos) (b5U t):=by
 intro pins s σ H Q I d;refine wpAny_Tuple_spliced (thn (h pos pins s σ H _ I d) λf s1 ⟨xs,H1,a,r,z,q⟩=>⟨by rw[<-r.length];exact z,?_⟩);have c:H1 s1.heap.objs.size=none:=a.hok.fresh (ao _);refine⟨.ref s1.heap.objs.size,upd H1 s1.heap.objs.size (.tup xs),a.laid (t':=s1.toks) (λb u e=>ag _ e) (ao _) ?_,rfl,q _ c⟩;exact⟨z,f,r,⟨_,aH _ rfl,rfl,_,rfl⟩⟩
theorem b6x(h:PA X es t):PE X (.List es pos) (b3u t):=by
 intro pins s σ H Q I d;refine wpAny_List_spliced (thn (h pos pins s σ H _ I d) λf s1 ⟨xs,H1,a,r,z,q⟩=>⟨by rw[<-r.length];exact z,?_⟩);have c:H1 s1.heap.objs.size=none:=a.hok.fresh (ao _);refine⟨.ref s1.heap.objs.size,upd H1 s1.heap.objs.size (.lst xs),a.laid (t':=s1.toks) (λb u e=>ag _ e) (ao _) ?_,rfl,q _ c⟩;exact⟨z,f,0,r,aH _ rfl⟩
end
abbrev Sp:=List V->Hp->VK->XK->Prop
abbrev CXT:=List Env->Hp->Shared->XK->Value->Shared->Prop
structure Env0(P:Program)(w:World)(K:PySem.W.Frag)(mg:Str->Option Value)(base:Heap)(A:Around)(outer:List Env)(s:Shared)(H:Hp):Prop where
 frames:A.frames=some outer
 mod:Mod K mg base
 bs:∀b o,base.get? b=some o->s.heap.get? b=some o/\H b=none
 bsz:base.objs.size<=s.heap.objs.size
 funs:s.heap.FunFrames base outer
 frf:∀b∈frs outer,H b=none
 hok:HOk P w H s.heap
 bare:AllBare s.gens
def CE(outer:List Env)(P:Program)(w:World)(H:Hp)(s:Shared)(Q:VK)(u:Value)(s':Shared):Prop :=
 ∃v H',s'.os=s.os/\AllBare s'.gens/\Un (frs outer) [] H H' s.heap s'.heap/\HOk P w H' s'.heap/\RelV v u/\Q v H'
def CR(CX:CXT)(outer:List Env)(P:Program)(w:World)(H:Hp)(s:Shared)(Q:VK)(E:XK)(r:Result)(s':Shared):Prop :=
 match r with
 |.ok (.ret u)=>CE outer P w H s Q u s'
 |.ok _=>False
 |.error e=>CX outer H s E e s'
structure FnOk(P:Program)(w:World)(K:PySem.W.Frag)(mg:Str->Option Value)(base:Heap)(CX:CXT)(k:Nat)(f:Addr)(fd:FuncData)(ps:List Str)(sp:Sp):Prop where
 len:∀vs H Q E,sp vs H Q E->vs.length=ps.length
 run:∀(A:Around) (outer:List Env) (s:Shared) (H:Hp) (args:Args) (us:List Value) (vs:List V) (Q:VK) (E:XK),Room k A->Env0 P w K mg base A outer s H->BindsTo s fd args (ps.zip us)->Vals vs us->sp vs H Q E ->
  codeAny (model P w) A (.call (.ref f) args) (CR CX outer P w H s Q E) s
theorem FnOk.imp{P:Program}{w:World}{K:PySem.W.Frag}{mg:Str->Option Value}{base:Heap}{CX:CXT}{k:Nat}{f:Addr}{fd:FuncData}{ps:List Str}{sp sp':Sp}(F:FnOk P w K mg base CX k f fd ps sp)
  (h:∀vs H Q E,sp' vs H Q E->sp vs H Q E):FnOk P w K mg base CX k f fd ps sp' :=
 ⟨λvs H Q E q=>F.len vs H Q E (h _ _ _ _ q),λA a s H b i vs Q E e d c g hs=>F.run A a s H b i vs Q E e d c g (h _ _ _ _ hs)⟩
theorem Env0.make{P:Program}{w:World}{K:PySem.W.Frag}{mg:Str->Option Value}{base:Heap}{A:Around}{outer:List Env}{s:Shared}{H:Hp}(e:Env0 P w K mg base A outer s H)(C:Addr)(us:List Value)(kw:List (Str×Value)) :
  Env0 P w K mg base (A.under (.builtin "type.__call__" ⟨.ref C::us,kw⟩)) outer s H:=⟨by first|exact e.frames | (simpa[Around.under,Code.envs,Code.isFrame,pushEnvs]using e.frames),e.mod,e.bs,e.bsz,e.funs,e.frf,e.hok,e.bare⟩
section
variable {X:Cx}{pins:List (Addr×Obj)}{σ:St}{H:Hp}{s s':Shared}
theorem Inv.env0(I:Inv X pins σ H s):Env0 X.prog X.w X.K X.mg X.base X.A X.stack s H :=
 ⟨I.ok.frames,I.ok.mod,I.bs,bj I.ok.bsz I.sz,I.stack,I.stkFree,I.hok,I.bare⟩
theorem Inv.after{Q:VK}{u:Value}(I:Inv X pins σ H s)(h:CE X.stack X.prog X.w H s Q u s'):EP X pins σ Q u s':=by
 obtain⟨v,H',os,a,un,c,r,q⟩:=h;obtain⟨f,g,d,t,e⟩:=s';obtain rfl:e=s.os:=os;exact⟨v,H',I.call (h':=f) (g':=g) (d':=d) (t':=t) (ch:=[]) un c a (λb z=>absurd z (by simp)),r,q⟩
end
def b0P(sp:Sp)(dvs:List V)(E:XK)(t:TA):TE:=λσ H Q=>t σ H λvs H1=>sp (vs++dvs) H1 Q E
def a1A(C:Addr)(m:Str)(sp:Sp)(dvs:List V)(E:XK)(ta:TE)(t:TA):TE:=λσ H Q=>ta σ H λx H1=>∃a dx fs,x=.ref a/\H1 a=some (.ins C dx fs)/\fs.lookup m=none /\
 t σ H1 λvs H2=>sp (x::(vs++dvs)) H2 Q E
def b5k(C:Addr)(sp:Sp)(dvs:List V)(E:XK)(t:TA):TE:=λσ H Q=>t σ H λvs H1=>∀x dx,H1 x=none->H1 dx=none->dx≠x ->
 sp (.ref x::(vs++dvs)) (upd (upd H1 dx (.own x)) x (.ins C dx [])) (λv H2=>v=.non/\Q (.ref x) H2) E
def Binds(K:PySem.W.Frag)(fd:FuncData)(ps:List Str)(ds:List Value):Prop :=
 ∀(s:Shared) (us:List Value),K.In s.heap->(us++ds).length=ps.length->BindsTo s fd ⟨us,[]⟩ (ps.zip (us++ds))
theorem Binds.all{K:PySem.W.Frag}{fd:FuncData}{ps:List Str}(h:∀us:List Value,us.length=ps.length->bindArgs fd ⟨us,[]⟩=pure (ps.zip us)):Binds K fd ps []:=λs us _ a=>by
 rw[cz]at a⊢;exact .of_eq (h us a)
def a0C(CX:CXT)(X:Cx)(E:XK):Prop:=∀(pins:List (Addr×Obj)) (σ:St) (H:Hp) (s:Shared) (e:Value) (s':Shared),Inv X pins σ H s->CX X.stack H s E e s'->X.xe e s'
section
variable {X:Cx}{CX:CXT}{k:Nat}{f C:Addr}{fd:FuncData}{ps:List Str}{sp:Sp}{dvs:List V}{ds:List Value}{E:XK}{x m:Str}{p pos apos:Pos}{e o:Expr}{es:List Expr}{ta:TE}{t:TA}
theorem a6Y{pins:List (Addr×Obj)}{σ:St}{H:Hp}{s:Shared}{Q:VK}{us:List Value}{vs:List V}(F:FnOk X.prog X.w X.K X.mg X.base CX k f fd ps sp)(g:Room k X.A)(c:Binds X.K fd ps ds)(hd:Vals dvs ds)(i:a0C CX X E)
  (I:Inv X pins σ H s) (r:Vals vs us) (h:sp (vs++dvs) H Q E):wpAny (model X.prog X.w) X.A (call (.ref f) us) (EP X pins σ Q) X.xe s:=by
 have b:Vals (vs++dvs) (us++ds):=r.append hd;have d:(us++ds).length=ps.length:=by rw[<-b.length];exact F.len _ _ _ _ h
 refine wpAny_call (dw (F.run X.A X.stack s H ⟨us,[]⟩ (us++ds) (vs++dvs) Q E g I.env0 (c s us I.kIn d) b h) λr s' a=>?_);cases r with
 |error e=>exact i pins σ H s e s' I a
 |ok fl =>
  cases fl with
  |ret u=>exact I.after a
  |next=>exact False.elim a
  |brk=>exact False.elim a
  |cont=>exact False.elim a
theorem b4n(F:FnOk X.prog X.w X.K X.mg X.base CX k f fd ps sp)(n:Room k X.A)(j:Gl X x)(m:X.mg x=some (.ref f))(l:PySem.W.keepIn X.K (.ref f)=true)(g:Binds X.K fd ps ds)(hd:Vals dvs ds)(o:a0C CX X E)
  (d:PA X (e::es) t) (a:(x==("__debug__" : Str))=false:=by decide) (i:starEach (e::es) X.env=(false,eval e X.env)::starEach es X.env:=by rfl) (b:(backTo pos (starEach es X.env)).any (·.1)=false:=by rfl) :
  PE X (.Call (.Name x p) (e::es) [] pos) (b0P sp dvs E t):=by
 intro pins s σ H Q I h;refine d_ (a0Q I j m ?_ a);refine PySem.W.callWith_K (h₀:=X.base) I.ok.mod.kin l (thn (d pos pins s σ H _ I h) λu s1 ⟨vs,H1,c,r,q⟩=>⟨c.kIn,?_⟩) i b;exact a6Y F n g hd o c r q
theorem b4k{pl:Sem Bool}(w:PE X o ta)(c:Cls X.K C)(j:Meth X.K C m f)(F:FnOk X.prog X.w X.K X.mg X.base CX k f fd ps sp)(y:Room k X.A)(v:Binds X.K fd ps ds)(hd:Vals dvs ds)(A:a0C CX X E)(p:PA X (e::es) t)
  (d:starEach (e::es) X.env=(false,eval e X.env)::starEach es X.env:=by rfl) (b:(backTo pos (starEach es X.env)).any (·.1)=false:=by rfl)
  (z:eval (.Call (.Attribute o m apos) (e::es) [] pos) X.env=(do
   let ov <-eval o X.env
   standAt apos.atName
   let (f,first) <-holding [ov] (getMethod ov m pl)
   callWith pos f first (backTo pos (starEach (e::es) X.env)) (backToKw pos (keywordEach [] X.env))):=by rfl) :
  PE X (.Call (.Attribute o m apos) (e::es) [] pos) (a1A C m sp dvs E ta t):=by
 intro pins s σ H Q I h;refine PySem.W.methodCall_KW (pl:=pl) (thn (w pins s σ H _ I h) λu s1 ⟨x,H1,g,D,a,dx,fs,ex,n,l,q⟩=>?_) z;subst ex;obtain rfl:u=Value.ref a:=D;refine a3e g n c j l ?_;refine PySem.W.callWith_K (first:=[.ref a]) (h₀:=X.base) I.ok.mod.kin j.kp (thn (p pos pins s1 σ H1 _ g q) λG s2 ⟨vs,H2,i,r,B⟩=>⟨i.kIn,?_⟩) d b;exact a6Y (us:=.ref a::G) (vs:=.ref a::vs) F y v hd A i (.cons rfl r) B
theorem b1K{pl:Sem Bool}(i:PE X o ta)(c:Cls X.K C)(d:Meth X.K C m f)(F:FnOk X.prog X.w X.K X.mg X.base CX k f fd ps sp)(j:Room k X.A)(g:Binds X.K fd ps ds)(hd:Vals dvs ds)(p:a0C CX X E)
  (n:eval (.Call (.Attribute o m apos) [] [] pos) X.env=(do
   let ov <-eval o X.env
   standAt apos.atName
   let (f,first) <-holding [ov] (getMethod ov m pl)
   callWith pos f first (backTo pos (starEach [] X.env)) (backToKw pos (keywordEach [] X.env))):=by rfl) :
  PE X (.Call (.Attribute o m apos) [] [] pos) (a1A C m sp dvs E ta a1K):=by
 intro pins s σ H Q I h;refine PySem.W.methodCall_KW (pl:=pl) (thn (i pins s σ H _ I h) λu s1 ⟨x,H1,b,r,a,dx,fs,ex,e,l,q⟩=>?_) n;subst ex;obtain rfl:u=Value.ref a:=r;refine a3e b e c d l ?_;exact PySem.W.callWith_K0 (first:=[.ref a]) b.kIn d.kp (a6Y (us:=[.ref a]) (vs:=[.ref a]) F j g hd p b (.cons rfl .nil) q)
structure Mk(K:PySem.W.Frag)(C f:Addr):Prop where
 makes:PySem.W.makesIn K C=true
 init:PySem.W.findIn K (.ref C) "__init__"=some (some (.ref f))
 fn:PySem.W.isFn K (.ref f)=true
 kp:PySem.W.keepIn K (.ref C)=true
theorem b1l{pins:List (Addr×Obj)}{σ:St}{H:Hp}{s:Shared}{Q:VK}{us:List Value}{vs:List V}(M:Mk X.K C f)(F:FnOk X.prog X.w X.K X.mg X.base CX k f fd ps sp)(m:Room (k+1) X.A)(j:Binds X.K fd ps ds)(hd:Vals dvs ds)
  (n:a0C CX X E) (I:Inv X pins σ H s) (r:Vals vs us)
  (h:∀x dx,H x=none->H dx=none->dx≠x->sp (.ref x::(vs++dvs)) (upd (upd H dx (.own x)) x (.ins C dx [])) (λv H2=>v=.non/\Q (.ref x) H2) E) :
  wpAny (model X.prog X.w) X.A (call (.ref C) us) (EP X pins σ Q) X.xe s:=by
 have c:=h (s.heap.objs.size+1) s.heap.objs.size (I.hok.fresh (ek _)) (I.hok.fresh (ao _)) (aR (ck _));have b:=Inv.made (C:=C) I;have d:Vals (V.ref (s.heap.objs.size+1)::(vs++dvs)) (Value.ref (s.heap.objs.size+1)::(us++ds)):=.cons rfl (r.append hd);have l:(Value.ref (s.heap.objs.size+1)::us++ds).length=ps.length:=by
  have e:=d.length;rw[F.len _ _ _ _ c]at e;exact e.symm
 refine wpAny_call (b2h (f:=f) I.kIn M.makes M.init (bp.mp M.fn) (dw (F.run _ X.stack _ _ ⟨Value.ref (s.heap.objs.size+1)::us,[]⟩ (Value.ref (s.heap.objs.size+1)::(us++ds)) _ _ E (m.make C us [])
  (b.env0.make C us []) (j _ (Value.ref (s.heap.objs.size+1)::us) b.kIn l) d c) λr s' a=>?_))
 cases r with
 |error e=>exact n pins σ _ _ e s' b a
 |ok fl =>
  cases fl with
  |ret u =>
   obtain⟨v,H',g,p,i,o⟩:=b.after a;subst i;exact⟨p,⟨V.ref (s.heap.objs.size+1),H',g,rfl,o⟩⟩
  |next=>exact False.elim a
  |brk=>exact False.elim a
  |cont=>exact False.elim a
theorem b4l(M:Mk X.K C f)(F:FnOk X.prog X.w X.K X.mg X.base CX k f fd ps sp)(m:Room (k+1) X.A)(j:Gl X x)(l:X.mg x=some (.ref C))(g:Binds X.K fd ps ds)(hd:Vals dvs ds)(n:a0C CX X E)
  (d:PA X (e::es) t) (a:(x==("__debug__" : Str))=false:=by decide) (i:starEach (e::es) X.env=(false,eval e X.env)::starEach es X.env:=by rfl) (b:(backTo pos (starEach es X.env)).any (·.1)=false:=by rfl) :
  PE X (.Call (.Name x p) (e::es) [] pos) (b5k C sp dvs E t):=by
 intro pins s σ H Q I h;refine d_ (a0Q I j l ?_ a);refine PySem.W.callWith_K (h₀:=X.base) I.ok.mod.kin M.kp (thn (d pos pins s σ H _ I h) λo s1 ⟨vs,H1,c,r,q⟩=>⟨c.kIn,?_⟩) i b;exact b1l M F m g hd n c r q
end
section
variable {X:Cx}{CX:CXT}{k:Nat}{f C:Addr}{fd:FuncData}{ps ks:List Str}{sp:Sp}{E:XK}{x m:Str}{p pos apos kpos:Pos}{e o:Expr}{es:List Expr}{kws:List Keyword}{te ta:TE}{t tk:TA}{nm:Option Str}
variable {g:List Value->List Value->List Value}{gV:List V->List V->List V}
end
structure FnScope(N P:List Str)(sc:Scope):Prop where
 kind:sc.kind=.function
 co:sc.isCoroutine=false
 gen:sc.isGenerator=false
 nd:N.Nodup
 pre:N.take P.length=P
 par:∀x∈P,sc.names.lookup x=some .local∨sc.names.lookup x=some .cell
 nofree:∀y∈sc.names,y.2≠.free
theorem a4n{kindOf:Str->Option NameKind}{x:Str}:∀{binds:List (Str×Value)}{m:Str->Option Value},(∀v,(x,v)∉binds)->bindL kindOf binds m x=m x
 |[],_,_=>rfl
 |(n,v)::r,m,h=>by
  unfold bindL;rw[a4n λw hw=>h w (av _ hw)];split
  .have:x≠n:=by rintro rfl;exact h v au
   simp[this]
  .rfl
theorem a4p{kindOf:Str->Option NameKind}{x:Str}:∀{binds:List (Str×Value)}{m:Str->Option Value},(∀v,(x,v)∉binds)->bindC kindOf binds m x=m x
 |[],_,_=>rfl
 |(n,v)::r,m,h=>by
  unfold bindC;rw[a4p λw hw=>h w (av _ hw)];split
  .rfl
  .have:x≠n:=by rintro rfl;exact h v au
   simp[this]
theorem a4o{kindOf:Str->Option NameKind}{x:Str}{v:Value}:∀{P:List Str}{vs:List Value}{i:Nat}{m:Str->Option Value},P.Nodup->P[i]?=some x->vs[i]?=some v->kindOf x=some .local ->
  bindL kindOf (P.zip vs) m x=some v
 |[],_,_,_,_,h,_,_=>by simp at h
 |_::_,[],_,_,_,_,h,_=>by simp at h
 |p::P,w::vs,0,m,nd,h1,h2,a=>by
  simp at h1 h2;subst h1;subst h2;show bindL kindOf ((p,w)::P.zip vs) m p=_;unfold bindL;rw[a4n λv b=>(bR.mp nd).1 (List.of_mem_zip b).1,az a];simp
 |p::P,w::vs,i+1,m,nd,h1,h2,a=>by
  show bindL kindOf ((p,w)::P.zip vs) m x=_;unfold bindL;exact a4o (i:=i) (bR.mp nd).2 (by simpa using h1) (by simpa using h2) a
theorem a4q{kindOf:Str->Option NameKind}{x:Str}{v:Value}:∀{P:List Str}{vs:List Value}{i:Nat}{m:Str->Option Value},P.Nodup->P[i]?=some x->vs[i]?=some v->kindOf x≠some .local ->
  bindC kindOf (P.zip vs) m x=some v
 |[],_,_,_,_,h,_,_=>by simp at h
 |_::_,[],_,_,_,_,h,_=>by simp at h
 |p::P,w::vs,0,m,nd,h1,h2,a=>by
  simp at h1 h2;subst h1;subst h2;show bindC kindOf ((p,w)::P.zip vs) m p=_;unfold bindC;rw[a4p λv b=>(bR.mp nd).1 (List.of_mem_zip b).1,ar a];simp
 |p::P,w::vs,i+1,m,nd,h1,h2,a=>by
  show bindC kindOf ((p,w)::P.zip vs) m x=_;unfold bindC;exact a4q (i:=i) (bR.mp nd).2 (by simpa using h1) (by simpa using h2) a
noncomputable def start(N:List Str)(vs:List V):St:=vs.map some++List.replicate (N.length-vs.length) none
noncomputable def V9(CX:CXT)(P:Program)(w:World)(K:PySem.W.Frag)(mg:Str->Option Value)(base:Heap)(N:List Str)(qual:Str)(scope:Scope)(f:Addr)(cd:Value)(A:Around)(outer:List Env)(s:Shared)(H:Hp)(E:XK):Cx where
 prog:=P
 w:=w
 K:=K
 mg:=mg
 base:=base
 A:=A.deeper (envOfC qual scope s.heap.objs.size f cd)
 N:=N
 s₀:=s
 H₀:=H
 env:=envOfC qual scope s.heap.objs.size f cd
 outer:=outer
 stack:=envOfC qual scope s.heap.objs.size f cd::outer
 ex:=[]
 calm:=true
 fn:=λ_=>true
 pn:=[]
 xe:=λe s'=>wpAny (model P w) (A.deeper (envOfC qual scope s.heap.objs.size f cd)) (leaving (envOfC qual scope s.heap.objs.size f cd) e) (λ_ s''=>CX outer H s E e s'') (λe' s''=>CX outer H s E e' s'') s'
theorem a6A{a:Scope}{n:Nat}{x:Str}(h:a.names.lookup x=some .cell):∃c,(cellsFrom n a.names []).lookup x=some c:=by
 have q:=PySem.W.cellsFrom_some a.names n [] (.inl h);exact Option.isSome_iff_exists.mp q
theorem a9Z{CX:CXT}{P:Program}{w:World}{K:PySem.W.Frag}{mg:Str->Option Value}{base:Heap}{N ps:List Str}{qual:Str}{scope:Scope}{f:Addr}{cd:Value}{A:Around}{outer:List Env}{s s1:Shared}{H:Hp}{E:XK}{us:List Value}{vs:List V}
  (S:FnScope N ps scope) (hd:A.handled=none) (d:Env0 P w K mg base A outer s H) (G:vs.length=ps.length) (r:Vals vs us)
  (x:InCallC s s.heap.objs.size (bindL (envOfC qual scope s.heap.objs.size f cd).kindOf (ps.zip us) λ_=>none) (cellsFrom (s.heap.objs.size+1) scope.names []) (bindC (envOfC qual scope s.heap.objs.size f cd).kindOf (ps.zip us) λ_=>none) s1) :
  Inv (V9 CX P w K mg base N qual scope f cd A outer s H E) [] (start N vs) H s1:=by
 have C:ps.length<=N.length:=by have:=aN List.length S.pre;rw[aP]at this;omega
 obtain⟨h1,tk,rfl,o⟩:=x.done;have j:∀b:Addr,b∉(V9 CX P w K mg base N qual scope f cd A outer s H E).ex:=λb z=>absurd (show b∈([]:List Addr)from z) (by simp);refine⟨⟨d.mod,S.kind,rfl,rfl,ao _,λy z c h1 h2=>?_,λy g=>?_,λy c _ h=>?_,λ_=>hd,Around.frames_deeper d.frames,.inr ⟨rfl,rfl⟩,λb z=>absurd z (j b),d.bs,d.bsz,λb _ _=>j b,λb z=>absurd z (j b),d.funs,d.frf⟩,
  rfl,d.bare,Un.kept o,⟨_,x.toInCall.ns,λi y v h1 h2 F=>?_⟩,λy c h=>⟨_,x.cell y c h⟩,d.hok.fresh (ao _),λy c h=>?_,λp l=>absurd (show p∈([]:List (Addr×Obj))from l) (by simp),d.hok.kept o,?_⟩
 .exact name_of_addr x.apart (PySem.mem_of_lookup h1) (PySem.mem_of_lookup h2)
 .have g:scope.names.lookup y=some .cell∨scope.names.lookup y=some .free:=g;rcases g with g|g
  .exact a6A g
  .exact absurd rfl (S.nofree _ (PySem.mem_of_lookup g))
 .exact cH (x.above y c (PySem.mem_of_lookup h))
 .have hi:i<vs.length:=by
   unfold start at h2;by_cases hi:i<vs.length
   .exact hi
   .rw[aW (by simpa using hi)]at h2;rw[dW]at h2;split at h2<;>cases h2
  have B:vs[i]?=some v:=by
   unfold start at h2;rw[bq (by simpa using hi),ba]at h2;cases e:vs[i]? with
   |none=>rw[e]at h2;cases h2
   |some a=>rw[e]at h2;cases h2;rfl
  obtain⟨u,t,D⟩:=r.get B;have l:ps[i]?=some y:=by
   rw[<-S.pre,cZ (by omega)];exact h1
  have m:ps.Nodup:=by rw[<-S.pre];exact S.nd.sublist (List.take_sublist _ _)
  refine⟨u,D,?_⟩;rcases S.par y (aI l)with k|k
  .exact .inl ⟨k,a4o m l t k⟩
  .obtain⟨c,e⟩:=a6A (n:=s.heap.objs.size+1) k;refine .inr ⟨.inl k,c,e,?_⟩;have q:=x.cell y c e;rw[a4q m l t (by show scope.names.lookup y≠_;rw[k];decide)]at q;exact q
 .exact d.hok.fresh (cH (x.above y c (PySem.mem_of_lookup h)))
 .unfold start;show _=N.length;rw[ak,ae,aV];omega
theorem b5M{CX:CXT}{P:Program}{w:World}{K:PySem.W.Frag}{mg:Str->Option Value}{base:Heap}{k:Nat}{f:Addr}{name qual:Str}{c:Arguments}{body:List Stmt}{scope:Scope}{F kV h pm a ct oc:Value}{an od:Option Addr}
  {z:Array (Option Value)}{N ps:List Str}{sp:Sp}(W:K.lookup f=some ⟨oc,od,.func (PySem.W.fnOf name qual c body scope F kV h pm an a ct),z⟩) (l:PySem.W.codeIn K a qual=true) (S:FnScope N ps scope)
  (len:∀vs H Q E,sp vs H Q E->vs.length=ps.length)
  (d:∀(A:Around) (outer:List Env) (s:Shared) (H:Hp) (vs:List V) (Q:VK) (E:XK),Room k (A.deeper (envOfC qual scope s.heap.objs.size f a))->sp vs H Q E ->
   ∃t,PSs (V9 CX P w K mg base N qual scope f a A outer s H E) body t/\t {nx:=λ_ H'=>Q .non H',rt:=Q} (start N vs) H) :
  FnOk P w K mg base CX (k+1) f (PySem.W.fnOf name qual c body scope F kV h pm an a ct) ps sp:=by
 refine⟨len,λA outer s H D X vs Q E m i L r j=>?_⟩;have O:=len _ _ _ _ j;have C:K.In s.heap:=i.mod.kin.keeps λb o e=>(i.bs b o e).1;have p:s.heap.NoLimit:=i.mod.nolimit.keeps λb o e=>(i.bs b o e).1;have g:∀y∈ps.zip X,scope.names.lookup y.1=some .local∨(scope.names.lookup y.1=some .cell/\((cellsFrom (s.heap.objs.size+1) scope.names []).lookup y.1).isSome=true):=λ⟨n,v⟩ U=>by
  rcases S.par n (List.of_mem_zip U).1 with q|q
  .exact .inl q
  .exact .inr ⟨q,PySem.W.cellsFrom_some _ _ _ (.inl q)⟩
 refine codeAny_call_function m.depth (C _ _ W) rfl S.co S.gen rfl (PySem.W.codeRec_of C l) (L _ _ _ _ ?_);refine wpAny_newFunctionEnv_cells S.kind g λG M s1 x=>?_;subst M;refine⟨p.keeps x.toInCall.keep,codeAny_func ?_⟩;obtain⟨t,T,R⟩:=d A outer s H vs Q E (m.deeper _) j;have I:Inv (V9 CX P w K mg base N qual scope f a A outer s H E) [] (start N vs) H s1:=a9Z S m.hd i O r x;refine dr (T [] s1 (start N vs) H _ I R) (λfl s' hs=>?_) λe s' hs=>hs;have fin:∀{σ':St}{H':Hp}{v:V}{u:Value},Inv (V9 CX P w K mg base N qual scope f a A outer s H E) [] σ' H' s'->RelV v u->Q v H'->CE outer P w H s Q u s' :=
  λ{σ' H' v u} J B q=>⟨v,H',J.os,J.bare,J.base,J.hok,B,q⟩
 cases fl with
 |ret u =>
  obtain⟨v,σ',H',J,B,q⟩:=hs;exact fin J B q
 |next =>
  obtain⟨σ',H',J,q⟩:=hs;exact fin (v:=V.non) (u:=Value.none) J rfl q
 |brk =>
  obtain⟨_,_,_,q⟩:=hs;exact False.elim q
 |cont =>
  obtain⟨_,_,_,q⟩:=hs;exact False.elim q
section
variable {X:Cx}{x:Str}{p pos:Pos}{e:Expr}{es:List Expr}{t:TA}{id T:String}{r:List V->Hp->VK->Prop}
def tCB(r:List V->Hp->VK->Prop)(t:TA):TE:=λσ H Q=>t σ H λvs H1=>r vs H1 Q
theorem G3(f:E3 X (.builtin id) r)(i:Gl X x)(j:X.mg x=none)(l:bootBuiltins x=some (.builtin id))(d:PA X (e::es) t)(k:x≠"__name__":=by decide)(a:(x==("__debug__" : Str))=false:=by decide)
  (g:starEach (e::es) X.env=(false,eval e X.env)::starEach es X.env:=by rfl) (b:(backTo pos (starEach es X.env)).any (·.1)=false:=by rfl):PE X (.Call (.Name x p) (e::es) [] pos) (tCB r t):=by
 intro pins s σ H Q I h;refine d_ (a2R I i j l ?_ k a);exact PyProof.Rows.callWith_builtin1 (thn (d pos pins s σ H _ I h) λn s1 ⟨vs,H1,c,m,q1⟩=>f pins s1 σ H1 vs n Q c m q1) g b
theorem R9(f:E3 X (.type T) r)(i:Gl X x)(j:X.mg x=none)(l:bootBuiltins x=some (.type T))(d:PA X (e::es) t)(k:x≠"__name__":=by decide)(a:(x==("__debug__" : Str))=false:=by decide)
  (g:starEach (e::es) X.env=(false,eval e X.env)::starEach es X.env:=by rfl) (b:(backTo pos (starEach es X.env)).any (·.1)=false:=by rfl):PE X (.Call (.Name x p) (e::es) [] pos) (tCB r t):=by
 intro pins s σ H Q I h;refine d_ (a2R I i j l ?_ k a);exact eI (thn (d pos pins s σ H _ I h) λn s1 ⟨vs,H1,c,m,q1⟩=>f pins s1 σ H1 vs n Q c m q1) g b
end
end L2
namespace HT
open PySem PyProof.Rows
noncomputable def lexLt:List Int->List Int->Bool
 |[],[]=>false
 |[],_::_=>true
 |_::_,[]=>false
 |x::xs,y::ys=>if x=y then lexLt xs ys else decide (x<y)
theorem lexLt_cons(x y:Int)(xs ys:List Int):lexLt (x::xs) (y::ys)=if x=y then lexLt xs ys else decide (x<y):=rfl
section
open PySem.SeqAt
open PySem.AutoSeq1 (wpAny_loadPart')
open PySem.MeetsSeq PySem.MeetsSeq2 PySem.MeetsSeq3
end
section
variable {prog:Program}{w:World}{A:Around}{E:Value->Shared->Prop}{s:Shared}
theorem cat_tup{t b:Addr}{vs a:List Value}{Q:Value->Shared->Prop}(r:IsTup s.heap t vs.toArray)(q:IsTup s.heap b a.toArray)(o:vs≠[])
  (h1:a=[]->Q (.ref t) s) (h2:a≠[]->Q (.ref s.heap.objs.size) {s with heap:=s.heap.push {cls:=.type "tuple",data:=.seq (vs++a).toArray}})
  (k:vs.length+a.length<=sizeLine):wpAny (model prog w) A (binaryOp .Add (.ref t) (.ref b)) Q E s:=by
 obtain⟨⟨cls,dd,data,sl⟩,i,m,n,hd⟩:=id r;obtain⟨⟨l,d,j,h⟩,c,f,p,g⟩:=id q;simp only at m hd f g;subst m hd f g;have e:vs.toArray++a.toArray=(vs++a).toArray:=by simp
 by_cases hw:a=[]
 .exact concat_meets ⟨_,i,rfl⟩ ⟨_,c,rfl⟩ noFill_tuple_add seq_tuple_add PySem.F.slot_tuple_add PySem.F.entry_tuple_add (PySem.F.args_tuple_add_2 _ _)
   (tuple_addW1 t b vs.toArray a.toArray n p dd d sl h (by simpa using o) (by simp[hw])) ⟨i,c,h1 hw⟩
 .refine concat_meets ⟨_,i,rfl⟩ ⟨_,c,rfl⟩ noFill_tuple_add seq_tuple_add PySem.F.slot_tuple_add PySem.F.entry_tuple_add (PySem.F.args_tuple_add_2 _ _)
   (tuple_addW2 t b vs.toArray a.toArray n p dd d sl h (by simpa using o) (by simpa using hw) (by rw[aF,aF];exact k)) ⟨i,c,?_⟩
  rw[e];exact h2 hw
noncomputable def sIx(n d:Nat):Option Int->Nat
 |none=>d
 |some v=>if v<0 then(v+(n:Int)).toNat else min v.toNat n
theorem sIx_none(n d:Nat):sIx n d none=d:=rfl
theorem sIx_nat(n d k:Nat):sIx n d (some (k:Int))=min k n:=by
 show(if (k:Int)<0 then((k:Int)+(n:Int)).toNat else min (k:Int).toNat n)=min k n;rw[ar (by omega),bA]
theorem b5Z(n d:Nat)(hd:d<=n)(o:Option Int):sIx n d o<=n:=by
 cases o with
 |none=>exact hd
 |some v =>
  show(if v<0 then(v+(n:Int)).toNat else min v.toNat n)<=n;by_cases a:v<0
  .rw[az a];omega
  .rw[ar a];exact Nat.min_le_right _ _
theorem a8W(v:Int)(n d:Nat):(if v<0 then max (v+(n:Int)) 0 else min v (n:Int))=((sIx n d (some v):Nat):Int):=by
 show(if v<0 then max (v+(n:Int)) 0 else min v (n:Int))=(((if v<0 then(v+(n:Int)).toNat else min v.toNat n):Nat):Int);by_cases a:v<0
 .simp only[az a];omega
 .simp only[ar a];omega
theorem a7M(lo hi:Option Int)(n:Nat):Builtin.Slice.sliceAdjust lo hi 1 (n:Int)=(((sIx n 0 lo:Nat):Int),((sIx n n hi:Nat):Int)):=by
 have h1:¬((1:Int)<0):=by omega
 unfold Builtin.Slice.sliceAdjust;simp only[h1,if_false];refine Prod.ext ?_ ?_
 .cases lo with
  |none=>rfl
  |some v=>exact a8W v n 0
 .cases hi with
  |none=>rfl
  |some v=>exact a8W v n n
theorem a7e(i j:Nat):Builtin.Slice.slicePlaces (i:Int) (j:Int) 1=j-i:=by
 unfold Builtin.Slice.slicePlaces;have h1:(1:Int) > 0:=by omega
 simp only[h1,fj,Int.ediv_one];split<;>omega
theorem a2w{v:Value}{o:Option Int}{Q:Option Int->Shared->Prop}(p:IsPart v o)(h:Q o s):wpAny (model prog w) A (Builtin.Slice.slicePartIndex v) Q E s:=by
 cases p with
 |none=>exact slicePart_none h
 |int i t=>exact slicePart_int h
theorem R8{sl:Addr}{c d:Value}{lo hi:Option Int}{n:Nat}{Q:Int×Int×Nat->Shared->Prop}(hs:s.heap.IsSliceOf sl c d .none)(pl:IsPart c lo)(f:IsPart d hi)
  (h:Q (((sIx n 0 lo:Nat):Int),1,sIx n n hi-sIx n 0 lo) s):wpAny (model prog w) A (Builtin.Slice.sliceApplied (.ref sl) (pure (n:Int))) Q E s:=by
 obtain⟨os,b,e,a⟩:=id hs;unfold Builtin.Slice.sliceApplied Builtin.Slice.sliceFields;refine aa (aa (cG b a (x:=c) rfl (aa (cG b a (x:=d) rfl (aa (cG b a (x:=.none) rfl (ai ?_)))))));refine aa (slicePart_none ?_);show wpAny _ _ (if ((1:Int)==0)=true then _ else _) _ _ s;rw[ar (by decide)];refine aa (a2w pl (aa (a2w f (aa (ai ?_)))));show wpAny _ _ (match Builtin.Slice.sliceAdjust lo hi 1 (n:Int)with | (lo,hi)=>pure (lo,(1:Int),Builtin.Slice.slicePlaces lo hi 1)) _ _ s;rw[a7M lo hi n];show wpAny _ _ (pure (((sIx n 0 lo:Nat):Int),(1:Int),Builtin.Slice.slicePlaces ((sIx n 0 lo:Nat):Int) ((sIx n n hi:Nat):Int) 1)) _ _ s;rw[a7e];exact ai h
theorem b1G(xs:Array Value)(i k:Nat):((List.range k).filterMap λ(m:Nat)=>xs[((i:Int)+(m:Int)*1).toNat]?).toArray=((xs.toList.drop i).take k).toArray:=by
 have e:(λ(m:Nat)=>xs[((i:Int)+(m:Int)*1).toNat]?)=λm=>xs[i+m]?:=by
  funext m;have:((i:Int)+(m:Int)*1).toNat=i+m:=by omega
  rw[this]
 rw[e];have:=pick_run xs i k;rw[List.filterMap_map]at this;have e2:((λx=>xs[x]?) ∘ λx=>i+x)=λm=>xs[i+m]?:=rfl;rw[e2]at this;rw[this]
theorem getItem_tuple_cut{t sl:Addr}{items:Array Value}{g i:Value}{lo hi:Option Int}{Q:Value->Shared->Prop}(b:IsTup s.heap t items)(hs:s.heap.IsSliceOf sl g i .none)(pl:IsPart g lo)(l:IsPart i hi)
  (hw:¬(sIx items.size 0 lo=0/\sIx items.size items.size hi=items.size))
  (h:Q (.ref s.heap.objs.size) {s with heap:=s.heap.push {cls:=.type "tuple",data:=.seq ((items.toList.drop (sIx items.size 0 lo)).take (sIx items.size items.size hi-sIx items.size 0 lo)).toArray}})
  (k:items.size<=sizeLine):wpAny (model prog w) A (getItem (.ref t) (.ref sl)) Q E s:=by
 have a:sizeOk (.seq ((items.toList.drop (sIx items.size 0 lo)).take (sIx items.size items.size hi-sIx items.size 0 lo)).toArray):=by
  show((items.toList.drop (sIx items.size 0 lo)).take (sIx items.size items.size hi-sIx items.size 0 lo)).toArray.size<=sizeLine;rw[aF,aP,bE,ay];omega
 have n:sIx items.size items.size hi<=items.size:=b5Z _ _ (ao _) hi;obtain⟨os,f,d,j⟩:=id hs;have c:s.TypeIs (.ref sl) "slice":=⟨os,f,d⟩;unfold getItem
 try with_reducible refine cj ?_
 first|refine aa (ai ?_)|skip
 refine aa (wpAny_sequenceKey b.typeIs (by decide) ?_);refine aa (bM (name:=Str.ofString "__getitem__") b.typeIs cy
  (bK cy b.typeIs entry_tuple_getitem ?_ (args_tuple_getitem _ _)))
 show wpAny _ _ (Builtin.Tuple.tupleItemsOf (.ref t)>>=_) _ _ s;refine aa (tupleItemsOf_ b ?_);refine aa (eF c ?_);rw[az (by decide)];refine aa (R8 hs pl l ?_);have e:¬((((sIx items.size 0 lo:Nat):Int)==0 && (1:Int)==1 && (sIx items.size items.size hi-sIx items.size 0 lo)==items.size)=true):=by
  intro q;rw[aG,aG]at q;have q1:((sIx items.size 0 lo:Nat):Int)=0:=eq_of_beq q.1.1;have o:sIx items.size items.size hi-sIx items.size 0 lo=items.size:=eq_of_beq q.2;exact hw ⟨by omega,by omega⟩
 show wpAny _ _ (if (((sIx items.size 0 lo:Nat):Int)==0 && (1:Int)==1 && (sIx items.size items.size hi-sIx items.size 0 lo)==items.size)=true then _ else _) _ _ s;rw[ar e,b1G]
 first
  |exact aa (m:=Builtin.Tuple.tupleExact _) (bV (ai ⟨_,rfl,ai h⟩) a)
  |exact aa (m:=Builtin.Tuple.tupleExact _) (bV (aa (ai (ai ⟨_,rfl,ai h⟩))) a)
  |exact aa (aa (m:=Builtin.Tuple.tupleExact _) (bV (ai (ai ⟨_,rfl,ai h⟩)) a))
  |exact aa (aa (m:=Builtin.Tuple.tupleExact _) (bV (ai ⟨_,rfl,ai h⟩) a))
end
end HT
namespace L2
open PySem PySem.Spec PyProof.Rows
abbrev TO:=St->Hp->(Option Int->Hp->Prop)->Prop
def PO(X:Cx)(e:Option Expr)(t:TO):Prop :=
 ∀(pins:List (Addr×Obj)) (s:Shared) (σ:St) (H:Hp) (Q:Option Int->Hp->Prop),Inv X pins σ H s->t σ H Q ->
  wpAny (model X.prog X.w) X.A (evalPart e X.env) (λu s'=>∃o H',Inv X pins σ H' s'/\IsPart u o/\Q o H') X.xe s
def O6:TO:=λ_ H Q=>Q none H
def a3K(t:TE):TO:=λσ H Q=>t σ H λx H1=>∃i,x=.int i/\Q (some i) H1
theorem a7w{ns:List Int}:∀{us:List Value},Vals (ns.map V.int) us->IntsAre us ns:=by
 induction ns with
 |nil=>intro us r;rw[List.map_nil]at r;cases r;exact .nil
 |cons n ns a =>
  intro us r;rw[aZ]at r;cases r with
  |cons r1 r2 =>
   obtain⟨t,e⟩:=r1;subst e;exact .cons n t (a r2)
section
variable {X:Cx}{e:Expr}{te:TE}{lo hi:Option Expr}{tl th:TO}{pos p2:Pos}
theorem b4a:PO X none O6:=by
 intro pins s σ H Q I h;rw[evalPart_none];exact ai ⟨none,H,I,.none,h⟩
theorem b3Z(h:PE X e te):PO X (some e) (a3K te):=by
 intro pins s σ H Q I hw;rw[evalPart_some];refine thn (h pins s σ H _ I hw) λu s1 ⟨x,H1,a,b,q1⟩=>?_;obtain⟨i,rfl,q⟩:=q1;obtain⟨t,rfl⟩:=b;exact⟨some i,H1,a,.int i t,q⟩
def SlR(X:Cx)(r:V->Option Int->Option Int->Hp->VK->Prop):Prop :=
 ∀(pins:List (Addr×Obj)) (s:Shared) (σ:St) (H:Hp) (x:V) (v vl vu:Value) (lo hi:Option Int) (sl:Addr) (Q:VK),Inv X pins σ H s->RelV x v->s.heap.IsSliceOf sl vl vu .none->IsPart vl lo->IsPart vu hi->r x lo hi H Q ->
  ∃T id,typeLookup (.type T) "__getitem__"=pure (some (.builtin id))/\s.TypeIs v T/\wpAny (model X.prog X.w) X.A (getItem v (.ref sl)) (EP X pins σ Q) X.xe s
def tSl(r:V->Option Int->Option Int->Hp->VK->Prop)(te:TE)(tl th:TO):TE:=λσ H Q=>te σ H λx H1=>tl σ H1 λl H2=>th σ H2 λu H3=>r x l u H3 Q
theorem a2I{r:V->Option Int->Option Int->Hp->VK->Prop}(p:SlR X r)(m:PE X e te)(o:PO X lo tl)(w:PO X hi th):PE X (.Subscript e (.Slice lo hi none p2) pos) (tSl r te tl th):=by
 intro pins s σ H Q I h;refine Subscript_ (thn (m pins s σ H _ I h) λv s1 ⟨x,H1,f,C,q1⟩=>?_);refine wpAny_Slice (thn (o pins s1 σ H1 _ f q1) λc s2 ⟨l,H2,g,y,A⟩=>thn (w pins s2 σ H2 _ g A) λvu a ⟨u,d,i,z,B⟩=>?_);rw[evalPart_none];refine ai ?_;have j:Inv X pins σ d {a with heap:=a.heap.push {cls:=.type "slice",data:=.fields #[c,vu,.none]}}:=i.kept (t':=a.toks) λb D q=>ag _ q;obtain⟨T,id,k,t,n⟩:=p pins {a with heap:=a.heap.push {cls:=.type "slice",data:=.fields #[c,vu,.none]}} σ d x v c vu l u a.heap.objs.size Q j C (Heap.IsSliceOf.new ..) y z B;show wpAny (model X.prog X.w) X.A (subscriptTail e (.Slice lo hi none p2) v (.ref a.heap.objs.size)) (EP X pins σ Q) X.xe {a with heap:=a.heap.push {cls:=.type "slice",data:=.fields #[c,vu,.none]}};exact tail_any (ops:=[.ref a.heap.objs.size,v]) t k n (by with_unfolding_all rfl)
noncomputable def K5(xs:List V)(lo hi:Option Int):List V:=(xs.drop (HT.sIx xs.length 0 lo)).take (HT.sIx xs.length xs.length hi-HT.sIx xs.length 0 lo)
theorem Y0(xs:List V)(lo hi:Option Int):(K5 xs lo hi).length<=xs.length:=by
 unfold K5;rw[aP,bE];omega
def a7d(K:PySem.W.Frag):V->Option Int->Option Int->Hp->VK->Prop:=λx lo hi H Q=>∃a xs,x=.ref a/\SqT K H a xs /\
 ¬(HT.sIx xs.length 0 lo=0/\HT.sIx xs.length xs.length hi=xs.length)/\∀p,H p=none->Q (.ref p) (upd H p (.tup (K5 xs lo hi)))
theorem b1c:SlR X (a7d X.K):=by
 intro pins s σ H x v l m lo hi sl Q I j hs g i h;obtain⟨a,xs,rfl,f,hw,q⟩:=h;cases j;obtain⟨its,r,d,e⟩:=I.tuple f;have c:its.toArray.size=xs.length:=by rw[aF];exact r.length.symm
 refine⟨"tuple",_,cy.lookup,d.typeIs,?_⟩;refine HT.getItem_tuple_cut d hs g i (by rw[c];exact hw) ?_ (by rw[c];exact e);rw[c];refine⟨.ref s.heap.objs.size,_,I.laid (t':=s.toks) (o:=.tup (K5 xs lo hi)) (λb k q=>ag _ q) (ao _) ?_,rfl,q _ (I.hok.fresh (ao _))⟩;exact⟨bj (Y0 xs lo hi) e,_,(r.drop (HT.sIx xs.length 0 lo)).take (HT.sIx xs.length xs.length hi-HT.sIx xs.length 0 lo),IsTp.new _ _⟩
def b7Y(K:PySem.W.Frag):R2:=λx y H Q=>∃a b xs ys,x=.ref a/\y=.ref b/\SqT K H a xs/\SqT K H b ys/\xs≠[]/\xs.length+ys.length<=sizeLine /\
 (ys=[]->Q (.ref a) H)/\(ys≠[]->∀p,H p=none->Q (.ref p) (upd H p (.tup (xs++ys))))
theorem Vals.nil_iff{xs:List V}{us:List Value}(r:Vals xs us):us=[]↔xs=[]:=by
 cases r with
 |nil=>simp
 |cons _ _=>simp
theorem b4t:OpR X (binaryOp .Add) (b7Y X.K):=by
 intro pins s σ H x y v u Q I l m h;obtain⟨a,b,xs,ys,rfl,rfl,g,i,j,e,q1,k⟩:=h;cases l;cases m;obtain⟨its,d,p1,_⟩:=I.tuple g;obtain⟨f,c,p2,_⟩:=I.tuple i;refine HT.cat_tup p1 p2 (λz=>j (d.nil_iff.mp z)) (λz=>⟨.ref a,H,I,rfl,q1 (c.nil_iff.mp z)⟩) (λz=>?_) (by rw[<-d.length,<-c.length];exact e);refine⟨.ref s.heap.objs.size,_,I.laid (t':=s.toks) (o:=.tup (xs++ys)) (λb n q=>ag _ q) (ao _) ?_,rfl,k (λw=>z (c.nil_iff.mpr w)) _ (I.hok.fresh (ao _))⟩;exact⟨by rw[ak];exact e,_,d.append c,IsTp.new _ _⟩
end
noncomputable def ixN(n:Nat)(i:Int):Option Nat:=if 0<=i then(if i<n then some i.toNat else none)else if -(n:Int)<=i then some (i+n).toNat else none
noncomputable def atI{α:Type}(xs:List α)(i:Int):Option α:=(ixN xs.length i).bind λj=>xs[j]?
theorem a4X{n:Nat}{i:Int}{j:Nat}(h:ixN n i=some j):seqIndex? i n=some j/\j<n /\ -(n:Int)<=i/\i<n:=by
 unfold ixN at h;by_cases a:0<=i
 .rw[az a]at h;by_cases h1:i<n
  .rw[az h1]at h;have e:i.toNat=j:=bH h;exact⟨by rw[seqIndex_of a h1,e],by omega,by omega,h1⟩
  .rw[ar h1]at h;cases h
 .rw[ar a]at h;by_cases h1 : -(n:Int)<=i
  .rw[az h1]at h;have e:(i+n).toNat=j:=bH h;exact⟨by rw[seqIndex_neg (by omega) h1,e],by omega,h1,by omega⟩
  .rw[ar h1]at h;cases h
theorem a8Z{α:Type}{xs:List α}{i:Int}{v:α}(h:atI xs i=some v):∃j,seqIndex? i xs.length=some j/\xs[j]?=some v/\j<xs.length /\ -(xs.length:Int)<=i/\i<xs.length:=by
 unfold atI at h;cases e:ixN xs.length i with
 |none=>rw[e]at h;cases h
 |some j =>
  rw[e]at h;obtain⟨h1,h2,a,b⟩:=a4X e;exact⟨j,h1,h,h2,a,b⟩
theorem a2m{α:Type}{xs:List α}{j:Nat}{v:α}(h:xs[j]?=some v):atI xs (j:Int)=some v:=by
 have a:j<xs.length:=(aT.mp h).1;have e:ixN xs.length (j:Int)=some j:=by
  unfold ixN;rw[az (by omega),az (by omega)];simp
 unfold atI;rw[e];exact h
def a5j(b:Expr):Prop:=∀o i,subscripted b false o i=operate [o,i] (getItem o i)
def IxR(X:Cx)(r:R2):Prop :=
 ∀(value slice:Expr) (pins:List (Addr×Obj)) (s:Shared) (σ:St) (H:Hp) (x y:V) (v u:Value) (Q:VK),Inv X pins σ H s->RelV x v->RelV y u->r x y H Q ->
  subscripted slice false v u=operate [v,u] (getItem v u)->wpAny (model X.prog X.w) X.A (subscriptTail value slice v u) (EP X pins σ Q) X.xe s
def MtR(X:Cx)(id:String)(r:V->List V->Hp->VK->Prop):Prop :=
 ∀(pins:List (Addr×Obj)) (s:Shared) (σ:St) (H:Hp) (x:V) (xs:List V) (v:Value) (us:List Value) (Q:VK),Inv X pins σ H s->RelV x v->Vals xs us->r x xs H Q ->
  wpAny (model X.prog X.w) X.A (call (.builtin id) (v::us)) (EP X pins σ Q) X.xe s
section
variable {X:Cx}{a b:Expr}{ta tb:TE}{pos:Pos}
theorem b5y{r:R2}(f:IxR X r)(d:PE X a ta)(e:PE X b tb)(hs:a5j b):PE X (.Subscript a b pos) (tOp r ta tb):=by
 intro pins s σ H Q I h;exact Subscript_ (b7r d e I h λv u s2 x y H2 c g i q=>f a b pins s2 σ H2 x y v u Q c g i q (hs _ _))
def b3Q(K:PySem.W.Frag):R2:=λx y H Q=>∃p xs i v,x=.ref p/\y=.int i/\SqL K H p xs/\atI xs i=some v/\Q v H
def b3P(K:PySem.W.Frag):R2:=λx y H Q=>∃p xs i v,x=.ref p/\y=.int i/\SqT K H p xs/\atI xs i=some v/\Q v H
theorem b4P:IxR X (b3Q X.K):=by
 intro value c pins s σ H x y v u Q I n o h hs;obtain⟨p,xs,i,z,rfl,rfl,m,k,q⟩:=h;cases n;obtain⟨t,rfl⟩:=o;obtain⟨its,r,a,C⟩:=I.list m;obtain⟨j,h1,h2,A,f,g⟩:=a8Z k;obtain⟨w,d,b⟩:=r.get h2;have l:=r.length;have B:=a2Q;have fin:EP X pins σ Q w s:=⟨z,H,I,b,q⟩;by_cases e:0<=i
 .have hj:i.toNat=j:=by
   rw[seqIndex_of e g]at h1;exact bH h1
  exact item_listR a.isList e (by omega) (by rw[hj];simpa using d) fin hs
 .have hj:(i+(its.toArray.size:Int)).toNat=j:=by
   rw[seqIndex_neg (by omega) f]at h1;rw[aF,<-l];exact bH h1
  exact subscriptTail_builtinR (x:=w) a.isList.typeIs slot_list_getitem.lookup
   (wpAny_getItem_list_neg (Q:=λr s'=>r=w/\EP X pins σ Q r s') a.isList (by omega) (by rw[aF]<;>omega) (by omega) (by rw[hj];simpa using d) ⟨rfl,fin⟩) hs
theorem b7i:IxR X (b3P X.K):=by
 intro value b pins s σ H x y v u Q I k l h hs;obtain⟨p,xs,i,z,rfl,rfl,g,e,q⟩:=h;cases k;obtain⟨t,rfl⟩:=l;obtain⟨its,r,c,B⟩:=I.tuple g;obtain⟨j,h1,h2,m,n,o⟩:=a8Z e;obtain⟨w,d,a⟩:=r.get h2;have f:=r.length;have A:=a2Q;have fin:EP X pins σ Q w s:=⟨z,H,I,a,q⟩;exact subscriptTail_builtinR (x:=w) c.typeIs slot_tuple_getitem.lookup
  (getItem_tuple (j:=j) (Q:=λr s'=>r=w/\EP X pins σ Q r s') c (by omega) (by omega) (by rw[aF,<-f];exact h1) (by simpa using d) ⟨rfl,fin⟩) hs
theorem a7o(its:List Value)(n j:Nat)(u:Value):Obj.mapSeq (·.setIfInBounds j u) {cls:=.type "list",data:=.seq its.toArray n}={cls:=.type "list",data:=.seq (its.set j u).toArray n}:=by
 simp[Obj.mapSeq]
theorem Inv.lst{pins:List (Addr×Obj)}{σ:St}{H:Hp}{s:Shared}{p:Addr}{xs:List V}(I:Inv X pins σ H s)(h:H p=some (.lst xs)) :
  ∃(its:List Value) (n:Nat),Vals xs its/\s.heap.get? p=some {cls:=.type "list",data:=.seq its.toArray n}/\xs.length<=sizeLine:=by
 obtain⟨z,its,n,r,e⟩:=I.hok p _ h;exact⟨its,n,r,e,z⟩
theorem Inv.lstUpd{pins:List (Addr×Obj)}{σ:St}{H:Hp}{s:Shared}{p:Addr}{xs ys:List V}{its its':List Value}{n a:Nat}{f:Obj->Obj}(I:Inv X pins σ H s)(h:H p=some (.lst xs))
  (g:s.heap.get? p=some {cls:=.type "list",data:=.seq its.toArray n}) (c:f {cls:=.type "list",data:=.seq its.toArray n}={cls:=.type "list",data:=.seq its'.toArray a}) (r:Vals ys its') (i:ys.length<=sizeLine) (t:Nat) :
  Inv X pins σ (upd H p (.lst ys)) {s with heap:=s.heap.update p f,toks:=t}:=by
 have e:(s.heap.update p f).get? p=some {cls:=.type "list",data:=.seq its'.toArray a}:=by
  rw[cL f g (by rw[c]<;>rfl),c]
 refine I.write (x:=p) (e:=p) (by rw[h];trivial) (.inl rfl) (λb u d q=>(fF _ _ (dq d)).trans q) ⟨_,e⟩ ?_;exact⟨i,its',a,r,e⟩
def b5s:V->V->V->Hp->(Hp->Prop)->Prop:=λo i v H Q=>∃p xs k j,o=.ref p/\i=.int k/\H p=some (.lst xs)/\ixN xs.length k=some j/\Q (upd H p (.lst (xs.set j v)))
theorem b1g:b8z X b5s:=by
 intro pins s σ H o i v B A u Q I x w y h;obtain⟨p,xs,k,j,rfl,rfl,g,l,q⟩:=h;cases x;obtain⟨t,rfl⟩:=w;obtain⟨its,n,r,b,m⟩:=I.lst g;obtain⟨h1,h2,e,f⟩:=a4X l;have a:=r.length;have z:=a2Q;have c:Inv X pins σ (upd H p (.lst (xs.set j v))) {s with heap:=s.heap.update p (Obj.mapSeq (·.setIfInBounds j u))} :=
  I.lstUpd g b (a7o its n j u) (r.set y j) (by rw[eV];exact m) s.toks
 by_cases d:0<=k
 .have hk:k.toNat=j:=by
   rw[seqIndex_of d f]at h1;exact bH h1
  exact PySem.W.ki_setAt b d (by omega) (by rw[aF,<-a];exact f) (by rw[hk];exact⟨_,c,q⟩)
 .have hk:(k+(its.toArray.size:Int)).toNat=j:=by
   rw[seqIndex_neg (by omega) e]at h1;rw[aF,<-a];exact bH h1
  exact PySem.W.ki_setBack b (by omega) (by rw[aF,<-a];exact e) (by omega) (by rw[hk];exact⟨_,c,q⟩)
theorem a4D(lo hi:Option Int)(n:Nat):(sliceBounds lo hi none n).1=((HT.sIx n 0 lo:Nat):Int)/\(sliceBounds lo hi none n).2.1=((HT.sIx n n hi:Nat):Int)/\(sliceBounds lo hi none n).2.2=1:=by
 refine⟨?_,?_,rfl⟩
 .cases lo with
  |none=>simp[sliceBounds,HT.sIx]
  |some i =>
   simp only[sliceBounds,HT.sIx,Option.getD_none,show(1:Int) > 0 by decide,fj];by_cases h:i<0
   .simp only[h,fj]<;>omega
   .simp only[h,if_false]<;>omega
 .cases hi with
  |none=>simp[sliceBounds,HT.sIx]
  |some i =>
   simp only[sliceBounds,HT.sIx,Option.getD_none,show(1:Int) > 0 by decide,fj];by_cases h:i<0
   .simp only[h,fj]<;>omega
   .simp only[h,if_false]<;>omega
theorem a3w(its:List Value)(lo hi:Option Int):slicePick its.toArray lo hi none=((its.drop (HT.sIx its.length 0 lo)).take (HT.sIx its.length its.length hi-HT.sIx its.length 0 lo)).toArray:=by
 obtain⟨h1,h2,a⟩:=a4D lo hi its.toArray.size;unfold slicePick;rw[h1,h2,a];simp only[sliceRange_one,pick_run,aF]<;>rfl
def b6b(K:PySem.W.Frag):V->Option Int->Option Int->Hp->VK->Prop:=λx lo hi H Q=>∃a xs,x=.ref a/\SqL K H a xs/\∀p,H p=none->Q (.ref p) (upd H p (.lst (K5 xs lo hi)))
theorem b3A:SlR X (b6b X.K):=by
 intro pins s σ H x v l m lo hi sl Q I j hs g i h;obtain⟨a,xs,rfl,e,q⟩:=h;cases j;obtain⟨its,r,d,f⟩:=I.list e;have c:=r.length;refine⟨"list",_,slot_list_getitem.lookup,d.isList.typeIs,?_⟩;refine wpAny_getItem_list_slice d.isList hs g i .none (by simp) ?_ (by rw[aF]<;>omega);rw[a3w,<-c];refine⟨.ref s.heap.objs.size,_,I.laid (t':=s.toks) (o:=.lst (K5 xs lo hi)) (λb k q=>ag _ q) (ao _) ?_,rfl,q _ (I.hok.fresh (ao _))⟩;exact⟨bj (Y0 xs lo hi) f,_,0,(r.drop (HT.sIx xs.length 0 lo)).take (HT.sIx xs.length xs.length hi-HT.sIx xs.length 0 lo),aH _ rfl⟩
noncomputable def a6s:V->Bool
 |.non=>true
 |.bl _=>true
 |.int _=>true
 |.str _=>true
 |_=>false
noncomputable def eqV:V->V->Bool
 |.non,.non=>true
 |.bl a,.bl b=>a==b
 |.bl a,.int b=>(if a then 1 else 0)==b
 |.int a,.bl b=>a==(if b then 1 else 0)
 |.int a,.int b=>a==b
 |.str a,.str b=>a==b
 |_,_=>false
theorem b7o{A:Around}{s:Shared}{y x:V}{u v:Value}(d:RelV y u)(c:RelV x v)(fy:a6s y=true)(fx:a6s x=true):SeqAt.EqAt A s u v (eqV y x):=by
 cases y with
 |non =>
  cases d;cases x with
  |non=>cases c;exact SeqAt.EqAt.same _
  |bl b=>cases c;exact SeqAt.EqAt.none_bool b
  |int b=>obtain⟨t,rfl⟩:=c;exact SeqAt.EqAt.none_int b t
  |str b=>obtain⟨t,rfl⟩:=c;exact SeqAt.EqAt.none_str b t
  |_=>exact absurd (show false=true from fx) aY
 |bl a =>
  cases d;cases x with
  |non=>cases c;exact SeqAt.EqAt.bool_none a
  |bl b=>cases c;exact SeqAt.EqAt.bool_bool a b
  |int b=>obtain⟨t,rfl⟩:=c;exact SeqAt.EqAt.bool_int a b t
  |str b=>obtain⟨t,rfl⟩:=c;exact SeqAt.EqAt.bool_str a b t
  |_=>exact absurd (show false=true from fx) aY
 |int a =>
  obtain⟨t',rfl⟩:=d;cases x with
  |non=>cases c;exact SeqAt.EqAt.int_none a t'
  |bl b=>cases c;exact SeqAt.EqAt.int_bool a t' b
  |int b=>obtain⟨t,rfl⟩:=c;exact SeqAt.EqAt.int_int a t' b t
  |str b=>obtain⟨t,rfl⟩:=c;exact SeqAt.EqAt.int_str a t' b t
  |_=>exact absurd (show false=true from fx) aY
 |str a =>
  obtain⟨t',rfl⟩:=d;cases x with
  |non=>cases c;exact SeqAt.EqAt.str_none a t'
  |bl b=>cases c;exact SeqAt.EqAt.str_bool a t' b
  |int b=>obtain⟨t,rfl⟩:=c;exact SeqAt.EqAt.str_int a t' b t
  |str b=>obtain⟨t,rfl⟩:=c;exact SeqAt.EqAt.str_str a t' b t
  |_=>exact absurd (show false=true from fx) aY
 |_=>exact absurd (show false=true from fy) aY
theorem a5g:E3 X (.builtin "len") (λxs H Q=>∃p ys,xs=[.ref p]/\(SqL X.K H p ys∨SqT X.K H p ys)/\Q (.int ys.length) H):=by
 intro pins s σ H xs e Q I r h;obtain⟨p,ys,rfl,b,q⟩:=h;obtain⟨u,rfl,c⟩:=a5t r;cases c;have d:=a2Q;rcases b with b|b
 .obtain⟨its,r',pl,hz⟩:=I.list b;have a:=r'.length;exact Calls.call_len_list pl.isList (by simp only[aF]<;>omega) ⟨.int ys.length,H,I.tok _,⟨s.toks+1,by rw[aF,a]⟩,q⟩
 .obtain⟨its,r',pl,hz⟩:=I.tuple b;have a:=r'.length;exact len_tuple pl (by simp only[aF]<;>omega) ⟨.int ys.length,H,I.tok _,⟨s.toks+1,by rw[aF,a]⟩,q⟩
theorem a5f:E3 X (.type "list") (λxs H Q=>∃p ys,xs=[.ref p]/\(SqL X.K H p ys∨SqT X.K H p ys)/\∀l,H l=none->Q (.ref l) (upd H l (.lst ys))):=by
 intro pins s σ H xs k Q I r h;obtain⟨p,ys,rfl,d,q⟩:=h;obtain⟨u,rfl,j⟩:=a5t r;cases j;have fin:∀(its:List Value),Vals ys its->ys.length<=sizeLine->∀(h':Heap) (c':Nat),(∀b o',s.heap.get? b=some o'->h'.get? b=some o') ->
   h'.get? s.heap.objs.size=some {cls:=.type "list",dict:=none,data:=.seq its.toArray c',slots:=#[]}->EP X pins σ Q (.ref s.heap.objs.size) {s with heap:=h'}:=λits a f h' c' kp e =>
  ⟨.ref s.heap.objs.size,_,I.laid (t':=s.toks) kp (ao _) (show ObjOk X.prog X.w _ h' _ (.lst ys)from⟨f,its,c',a,e⟩),rfl,q _ (I.hok.fresh (ao _))⟩
 rcases d with d|d
 .obtain⟨its,a,pl,f⟩:=I.list d;have c:=a.length;obtain⟨o,i,g,n,hd⟩:=pl.isList;exact call_list_seq p (.inl rfl) i g hd (λh' c' kp e=>fin its a f h' c' kp e) (by simp only[aF]<;>omega)
 .obtain⟨its,a,pl,f⟩:=I.tuple d;have c:=a.length;obtain⟨o,i,g,n,hd⟩:=pl;exact call_list_seq p (.inr rfl) i g hd (λh' c' kp e=>fin its a f h' c' kp e) (by simp only[aF]<;>omega)
theorem a3F:E3 X (.type "tuple") (λxs H Q=>∃p ys,xs=[.ref p]/\((SqL X.K H p ys/\∀l,H l=none->Q (.ref l) (upd H l (.tup ys)))∨(SqT X.K H p ys/\Q (.ref p) H))):=by
 intro pins s σ H xs i Q I r h;obtain⟨p,ys,rfl,h⟩:=h;obtain⟨u,rfl,g⟩:=a5t r;cases g;rcases h with⟨a,q⟩|⟨a,q⟩
 .obtain⟨its,r',pl,hz⟩:=I.list a;have d:=r'.length;refine call_tuple_list pl.isList (λh' kp=>?_) (by simp only[aF]<;>omega);have c:Inv X pins σ H {s with heap:=h'}:=I.kept (t':=s.toks) kp;have f:Inv X pins σ (upd H h'.objs.size (.tup ys)) {s with heap:=h'.push {cls:=.type "tuple",data:=.seq its.toArray}} :=
   c.laid (t':=s.toks) (λb o e=>ag _ e) (ao _) (show ObjOk X.prog X.w _ _ _ (.tup ys)from⟨hz,its,r',IsTp.new _ _⟩)
  exact⟨.ref h'.objs.size,_,f,rfl,q _ (c.hok.fresh (ao _))⟩
 .obtain⟨its,r',pl,hz⟩:=I.tuple a;exact call_tuple_same pl ⟨.ref p,H,I,rfl,q⟩
def tyV(K:PySem.W.Frag)(T:String)(x:V)(H:Hp):Prop:=match x with
 |.str _=>T="str"
 |.int _=>T="int"
 |.ref p=>(T="list" /\ ∃xs,SqL K H p xs)∨(T="tuple" /\ ∃o,K.lookup p=some o/\o.cls=.type "tuple"/\o.dict=none) ∨
   (T="dict"/\((∃kvs,H p=some (.dK kvs))∨∃kvs,H p=some (.dT kvs)))∨(T="set" /\ ∃S n,H p=some (.set S n))
 |_=>False
theorem b5S{pins:List (Addr×Obj)}{σ:St}{H:Hp}{s:Shared}{T:String}{x:V}{v:Value}(I:Inv X pins σ H s)(r:RelV x v)(ty:tyV X.K T x H) :
  s.TypeIs v T/\∀a,v=.ref a->∃d,s.heap.get? a=some d/\d.dict=none:=by
 cases x with
 |str z =>
  obtain⟨t,rfl⟩:=r;cases(show T="str" from ty);exact⟨typeIs_str s z t,λ_ e=>nomatch e⟩
 |int i =>
  obtain⟨t,rfl⟩:=r;cases(show T="int" from ty);exact⟨typeIs_int s i t,λ_ e=>nomatch e⟩
 |ref p =>
  cases r;rcases ty with⟨rfl,xs,g⟩|⟨rfl,o,b,f,hd⟩|⟨rfl,b⟩|⟨rfl,S,n,b⟩
  .obtain⟨its,_,pl,_⟩:=I.list g;refine⟨pl.isList.typeIs,λa e=>?_⟩;cases e;obtain⟨o,n,e,c,hd,_⟩:=pl;exact⟨o,e,hd⟩
  .refine⟨⟨o,I.kIn p o b,f⟩,λa e=>?_⟩;cases e;exact⟨o,I.kIn _ o b,hd⟩
  .have z:∃o,s.heap.get? p=some o/\o.ExactDict:=by
    rcases b with⟨kvs,b⟩|⟨kvs,b⟩
    .obtain⟨_,_,_,_,o,_,_,e,ex,_⟩:=I.hok p _ b;exact⟨o,e,ex⟩
    .obtain⟨_,_,_,_,o,_,_,e,ex,_⟩:=I.hok p _ b;exact⟨o,e,ex⟩
   obtain⟨o,e,ex⟩:=z;refine⟨⟨o,e,ex.1⟩,λa e2=>?_⟩;cases e2;exact⟨o,e,ex.2.1⟩
  .obtain⟨o,_,_,_,e,ex,_⟩:=I.hok p _ b;refine⟨⟨o,e,ex.1⟩,λa e2=>?_⟩;cases e2;exact⟨o,e,ex.2.1⟩
 |_=>exact False.elim ty
def tBM(K:PySem.W.Frag)(T:String)(r:V->List V->Hp->VK->Prop)(to:TE)(t:TA):TE:=λσ H Q=>to σ H λx H1=>tyV K T x H1/\t σ H1 λxs H2=>r x xs H2 Q
variable {o e:Expr}{es:List Expr}{to:TE}{t:TA}{name:Str}{apos cpos:Pos}{T id:String}{r:V->List V->Hp->VK->Prop}
theorem b8e(q:PlainAttrs T)(f:Slot T name id)(g:typeOf (.builtin id)=pure (.type "method_descriptor"))(n:MtR X id r)(p:PE X o to)(m:PA X (e::es) t)
  (b:attributeBase o name X.env (eval o X.env)=eval o X.env:=by rfl)
  (d:((backTo cpos (starEach (e::es) X.env)).all (λx=>!x.1) && (backToKw cpos (keywordEach [] X.env)).all (λx=>x.1.isSome)
   && decide ((e::es).length+([]:List Keyword).length+(if ([]:List Keyword).isEmpty then 0 else 1)<30))=true:=by rfl)
  (c:(apos.endLine==cpos.line)=true:=by rfl) (hs:starEach (e::es) X.env=(false,eval e X.env)::starEach es X.env:=by rfl) (a:(backTo cpos (starEach es X.env)).any (·.1)=false:=by rfl) :
  PE X (.Call (.Attribute o name apos) (e::es) [] cpos) (tBM X.K T r to t):=by
 intro pins s σ H Q I h;refine wpAny_Call_method_late b d c rfl (thn (p pins s σ H _ I h) λv s1 ⟨x,H1,i,k,ty,q1⟩=>?_);obtain⟨h1,h2⟩:=b5S i k ty;refine⟨T,id,q,f,g,h1,h2,?_⟩;have j:=m cpos pins s1 σ H1 _ i q1;rw[hs]at j⊢;refine Calls.callWith_builtin (by show(false || (backTo cpos (starEach es X.env)).any (·.1))=false;rw[a]<;>rfl) (Calls.evalArgs_plain ?_);exact thn j λy s2 ⟨vs,H2,l,w,u⟩=>n pins s2 σ H2 x vs v y Q l k w u
end
def MtM(X:Cx)(id:String)(r:V->List V->Hp->VK->Prop):Prop :=
 ∀(pins:List (Addr×Obj)) (s:Shared) (σ:St) (H:Hp) (x:V) (xs:List V) (v:Value) (us:List Value) (Q:VK),Inv X pins σ H s->RelV x v->Vals xs us->r x xs H Q ->
  wpAny (model X.prog X.w) X.A (call (.builtin id) (v::us)) (EP X pins σ Q) X.xe s
theorem Vals.one{x:V}{us:List Value}(h:Vals [x] us):∃u,us=[u]/\RelV x u:=by
 cases h with
 |cons r q=>cases q;exact⟨_,rfl,r⟩
theorem Vals.two{x y:V}{us:List Value}(h:Vals [x,y] us):∃u v,us=[u,v]/\RelV x u/\RelV y v:=by
 cases h with
 |cons r h=>obtain⟨v,rfl,q⟩:=Vals.one (x:=y) h;exact⟨_,_,rfl,r,q⟩
theorem Vals.eraseIdx:∀{xs:List V}{us:List Value}(i:Nat),Vals xs us->Vals (xs.eraseIdx i) (us.eraseIdx i)
 |_,_,_,.nil=>.nil
 |_,_,0,.cons _ t=>t
 |_,_,i+1,.cons r t=>.cons r (Vals.eraseIdx i t)
theorem Vals.reverse{xs:List V}{us:List Value}(h:Vals xs us):Vals xs.reverse us.reverse:=by
 induction h with
 |nil=>exact .nil
 |cons r t a=>rw[eC,eC];exact Vals.append a (.cons r .nil)
theorem Vals.rep{xs:List V}{us:List Value}(h:Vals xs us):∀k:Nat,Vals (List.replicate k xs).flatten (List.replicate k us).flatten
 |0=>.nil
 |k+1=>by
  rw[cv,cv,dg,dg];exact Vals.append h (Vals.rep h k)
theorem a3W{α:Type}:∀(l:List α) (i:Nat),(l.eraseIdx i).length<=l.length
 |[],_=>ao _
 |_::_,0=>ek _
 |_::r,i+1=>Nat.succ_le_succ (a3W r i)
section
variable {X:Cx}{pins:List (Addr×Obj)}{σ:St}{H:Hp}{s:Shared}{l b:Addr}{xs ys zs:List V}
theorem Inv.lset{its its':List Value}{n:Nat}{f:Array Value->Array Value}{t':Nat}(I:Inv X pins σ H s)(a:H l=some (.lst xs))
  (e:s.heap.get? l=some {cls:=.type "list",data:=.seq its.toArray n}) (c:f its.toArray=its'.toArray) (g:Vals ys its') (h:ys.length<=sizeLine) :
  Inv X pins σ (upd H l (.lst ys)) {s with heap:=s.heap.update l (Obj.mapSeq f),toks:=t'}:=by
 have q:=PySem.IsL.update e f;rw[c]at q;refine I.write (x:=l) (e:=l) (by rw[a];exact trivial) (.inl rfl) (λb' u b d=>(fF s.heap (Obj.mapSeq f) (dq b)).trans d) ⟨_,q⟩ ?_;exact⟨h,its',_,g,q⟩
theorem Inv.lnew{its:List Value}{t':Nat}(I:Inv X pins σ H s)(a:Vals ys its)(b:ys.length<=sizeLine) :
  Inv X pins σ (upd H s.heap.objs.size (.lst ys)) {s with heap:=s.heap.push {cls:=.type "list",data:=.seq its.toArray},toks:=t'} :=
 I.laid (λ_ _ q=>ag _ q) (ao _) ⟨b,its,0,a,aH _ rfl⟩
theorem Inv.fresh(I:Inv X pins σ H s):H s.heap.objs.size=none:=I.hok.fresh (ao _)
theorem Inv.lstM(I:Inv X pins σ H s)(a:H l=some (.lst xs)):xs.length<=sizeLine/\∃(its:List Value) (n:Nat),Vals xs its/\xs.length=its.length/\s.heap.get? l=some {cls:=.type "list",data:=.seq its.toArray n}:=by
 obtain⟨z,its,n,r,e⟩:=I.hok l _ a;exact⟨z,its,n,r,r.length,e⟩
theorem b2f{n:Nat}(h:n<=sizeLine):Builtin.List.listTooLong n=false:=by
 unfold Builtin.List.listTooLong;exact bL (by omega)
end
section
variable {X:Cx}
def a8s:V->List V->Hp->VK->Prop:=λx vs H Q=>∃l xs y,x=.ref l/\vs=[y]/\H l=some (.lst xs)/\xs.length<sizeLine/\Q .non (upd H l (.lst (xs++[y])))
theorem a9R:MtM X "list.append" a8s:=by
 intro pins s σ H x vs v i Q I d c h;obtain⟨l,xs,y,rfl,rfl,a,g,q⟩:=h;cases d;obtain⟨u,rfl,b⟩:=c.one;obtain⟨z,its,n,r,f,e⟩:=I.lstM a;refine eM F.slot_list_append ⟨_,e,rfl⟩ F.entry_list_append (F.args_list_append_2 _ _) (PySem.list_append l its.toArray n u (by rw[aF];omega)) ⟨e,?_⟩;refine⟨.non,_,I.lset (its':=its++[u]) a e (by simp) (r.append (.cons b .nil)) ?_,rfl,q⟩;rw[ak,fO];omega
def a8r:V->List V->Hp->VK->Prop:=λx vs H Q=>∃l b xs zs,x=.ref l/\vs=[.ref b]/\H l=some (.lst xs)/\H b=some (.lst zs)/\xs.length+zs.length<=sizeLine/\Q .non (upd H l (.lst (xs++zs)))
theorem a9Q:MtM X "list.extend" a8r:=by
 intro pins s σ H x vs v y Q I p o h;obtain⟨l,b,xs,zs,rfl,rfl,f,g,w,q⟩:=h;cases p;obtain⟨u,rfl,m⟩:=o.one;cases m;obtain⟨z,its,n,r,t,e⟩:=I.lstM f;obtain⟨A,a,j,k,i,e2⟩:=I.lstM g;have d:its.toArray.size+a.toArray.size<=sizeLine:=by rw[aF,aF];omega
 have c:¬(!its.toArray.isEmpty && Builtin.List.listTooLong (its.toArray.size+a.toArray.size))=true:=by
  rw[b2f d,fi];exact aY
 refine eM F.slot_list_extend ⟨_,e,rfl⟩ F.entry_list_extend (F.args_list_extend_2 _ _)
  (AutoSeq1.list_extend_list_list_0 l its.toArray n b a.toArray j c (by rw[aF];omega) (by omega)) ⟨e,e2,?_⟩
 refine⟨.non,_,I.lset (its':=its++a) f e (by simp) (r.append k) ?_,rfl,q⟩;rw[ak];omega
def b1w:V->List V->Hp->VK->Prop:=λx vs H Q=>∃l xs i k y,x=.ref l/\vs=[.int i]/\H l=some (.lst xs) /\ -(2 ^ 63)<=i/\i<2 ^ 63/\seqIndex? i xs.length=some k/\xs[k]?=some y/\Q y (upd H l (.lst (xs.eraseIdx k)))
theorem b2g:MtM X "list.pop" b1w:=by
 intro pins s σ H x vs v o Q I m j h;obtain⟨l,xs,i,k,y,rfl,rfl,b,h1,h2,c,f,q⟩:=h;cases m;obtain⟨u,rfl,g⟩:=j.one;obtain⟨t,rfl⟩:=g;obtain⟨z,its,n,r,d,e⟩:=I.lstM b;obtain⟨w,hw,a⟩:=r.get f;refine eM F.slot_list_pop ⟨_,e,rfl⟩ F.entry_list_pop (F.args_list_pop_2 _ _)
  (MeetsSeq.list_pop_at l its.toArray n i t k w (fitsIndex_both h1 h2) (by rw[aF,<-d];exact c) (by rw[<-ax];exact hw) (by rw[aF];omega)) ⟨e,?_⟩
 refine⟨y,_,I.lset (its':=its.eraseIdx k) b e ?_ (r.eraseIdx k) ?_,a,q⟩
 .show its.toArray.eraseIdxIfInBounds k=(its.eraseIdx k).toArray;rw[List.eraseIdxIfInBounds_toArray]
 .have:=a3W xs k;omega
def b7Z:R2:=λx y H Q=>∃l b xs zs,x=.ref l/\y=.ref b/\H l=some (.lst xs)/\H b=some (.lst zs)/\xs.length+zs.length<=sizeLine/\∀p,H p=none->Q (.ref p) (upd H p (.lst (xs++zs)))
theorem b6N:OpR X (binaryOp .Add) b7Z:=by
 intro pins s σ H x y v u Q I j k h;obtain⟨l,b,xs,zs,rfl,rfl,f,d,o,q⟩:=h;cases j;cases k;obtain⟨z,its,n,r,m,e⟩:=I.lstM f;obtain⟨t,a,p,i,g,e2⟩:=I.lstM d;refine PySem.P.add_list e e2 ?_ (by rw[aF,aF];omega);have c:its.toArray++a.toArray=(its++a).toArray:=by simp
 rw[c];exact⟨.ref _,_,I.lnew (t':=s.toks) (r.append i) (by rw[ak];omega),rfl,q _ I.fresh⟩
theorem a8A{α:Type}(xs:List α)(k:Nat):(List.replicate k xs).flatten.length=k*xs.length:=by
 induction k with
 |zero=>simp
 |succ k a=>rw[cv,dg,ak,a,Nat.succ_mul,Nat.add_comm]
end
section
variable {prog:Program}{w:World}{A:Around}{E:Value->Shared->Prop}{s:Shared}
end
section
variable {X:Cx}
end
end L2
namespace Att
open PySem PySem.W PySem.Calls PyProof.Rows
theorem a1T{P:Params}{h:Heap}:∀(ns:List Int) (vs:List Value),WellAll P h vs (ns.map WData.int)->IntsAre vs ns:=by
 intro ns;induction ns with
 |nil =>
  intro vs w;rw[List.map_nil]at w;cases w;exact .nil
 |cons n ns c =>
  intro vs w;rw[aZ]at w;cases w with
  |cons a b =>
   cases a;exact .cons _ _ (c _ b)
theorem a9o{l:OpenLaw}{n:Nat}(o:l.most=some n){P:Params}{h:Heap}{args:List WData}{c:List Value}
  (b:l.row.toRowW.claim.pre args=true) (j:WellAll P h c args) :
  ∃a vs ns,c=[Value.ref a]/\args=[WData.list (ns.map WData.int)]/\h.get? a=some {cls:=.type "list",data:=.seq vs.toArray}/\IntsAre vs ns/\ns.length<=n:=by
 have hsh:WShape.hasAll [] args [.list .int]=true:=(pre_splitW b).1;have k:l.pre.holds [] {args:=args}=true:=(pre_splitW b).2;obtain⟨d,r,rfl,h1,h2⟩:=hasAllW_cons hsh;obtain rfl:=hasAllW_nil h2;obtain⟨xs,rfl,m⟩:=hasW_list h1;obtain⟨ns,rfl⟩:=items_int m;have f:ns.length<=n:=by
  unfold OpenLaw.pre at k;have g:(WTm.not (.lt (.lit (.int (n:Int))) (.len (.arg 0)))).holds [] {args:=[.list (ns.map .int)]}=true:=by
   have g:=(holds_andW k).1;rw[o]at g;exact g
  have i:=condW_of g (w_not (w_lt w_lit (w_len_list (w_arg rfl))));rw[ae]at i;refine Nat.le_of_not_lt λq=>?_;have s:(n:Int)<((ns.length:Nat):Int):=by omega
  first
   |(rw[bg s]at i;exact absurd i (by decide))
   |(simp at i;omega)
 cases j with
 |cons w1 w2 =>
  cases w2;cases w1 with
  |list p e=>exact⟨_,_,ns,rfl,rfl,p,a1T ns _ e,f⟩
theorem a9B(l:OpenLaw)(args:List WData):l.row.toRowW.claim.post args (.bool true) args=true :=
 postW_of (r:=l.row.toRowW) (X:=(true==true))
  (show WShape.has [] (.bool true) .bool=true by first|rfl|decide|simp[WShape.has,WShape.arms,WShape.armsAll])
  (show(WTm.eq .res (.lit (.bool true))).value [] {args:=args,res:=some (.bool true),after:=args}=some (.bool (true==true))from w_eq_bool (w_res rfl) w_lit) rfl
theorem attach_call{l:OpenLaw}{n:Nat}{q:Program}{b:List Str}{XP:(Str->Option Value)->Heap->Prop}{u:World->Heap->Prop}{d:DefRec}
  (H:l.most=some n) (m:d.params.defaults=[])
  (call:∀(w:World) (s₀ s₁:Shared) (mg t:Str->Option Value) (g:Addr) (o:Obj) (pm cd c:Value) (a:Addr) (vs:List Value) (ns:List Int),
   Ground q b [] XP w s₀ mg t s₁.heap->u w s₁.heap ->
   s₁.heap.get? g=some o->o.data=.func (docDef d.name d.params d.body d.scope pm cd c)->s₁.heap.CodeRec cd d.name->mg d.name=some (.ref g) ->
   s₁.heap.get? a=some {cls:=.type "list",data:=.seq vs.toArray}->IntsAre vs ns->ns.length<=n->s₁.gens=#[] ->
   codeAny (model l.prog w) callerA (.call (.ref g) ⟨[.ref a],[]⟩) (λr s'=>r=.ok (.ret (.bool true))/\OldK s₁.heap s'.heap/\s'.os=s₁.os/\AllBare s'.gens) s₁) :
  WalkO q b XP u l.row.toRowW d [] (λf vs=>PySem.call f vs):=by
 intro w s₀ s₁ mg t G Y g o pm cd c A kV I hd k x p D v z L j y K s E;obtain rfl:A=.none:=Dflts.none x m;obtain rfl:kV=.none:=Dflts.noKw x;obtain⟨a,vs,ns,rfl,rfl,i,e,h⟩:=a9o H j s;refine enter_call (dw (call w s₀ s₁ mg t g o pm cd c a vs ns G Y I (fd_plain hd) k p i e h D) λr s' J=>?_);obtain⟨rfl,h2,B,C⟩:=J;exact⟨.inl ⟨.bool true,.bool true,[],rfl,λ_=>rfl,.bool true,a9B l _,λ_=>⟨List.Pairwise.nil,λ_ F=>(nomatch F)⟩⟩,h2,B,C⟩
section
variable {prog:Program}{w:World}{A:Around}{E:Value->Shared->Prop}{s:Shared}{K:Frag}
end
end Att
namespace L2
open PySem PySem.Spec PyProof.Rows
theorem a3J:∀{vs:List Value}{ns:List Int},IntsAre vs ns->Vals (ns.map V.int) vs
 |_,_,.nil=>.nil
 |_,_,.cons n t h=>.cons ⟨t,rfl⟩ (a3J h)
def b7D(H:Hp):Prop:=∀b,H b=none∨∃o xs,H b=some (.frz o (.lst xs))
theorem b2k{P:Program}{w:World}{K:PySem.W.Frag}{mg O:Str->Option Value}{CX:CXT}{k:Nat}{I a:Addr}{fd:FuncData}{x:Str}{sp:Sp}{s₁:Shared}{vs:List Value}{ns:List Int}
  (R:K.In s₁.heap) (y:s₁.heap.Ns mainGlobals mg) (f:s₁.heap.Ns builtinsNs O) (L:∀x:Str,x≠"__name__"->O x=bootBuiltins x) (t:s₁.heap.NoLimit) (hg:s₁.gens=#[])
  (E:s₁.heap.get? a=some {cls:=.type "list",data:=.seq vs.toArray}) (hi:IntsAre vs ns) (U:ns.length<=sizeLine) (hr:Room k callerA)
  (F:∀base:Heap,K.In base->base.Ns mainGlobals mg->FnOk P w K mg base CX k I fd [x] sp) (j:∀(s:Shared) (u:Value),BindsTo s fd ⟨[u],[]⟩ [(x,u)])
  (N:∀H:Hp,b7D H->SqL K H a (ns.map V.int)->sp [.ref a] H (λv _=>v=.bl true) λ_ _ _=>False)
  (J:∀H e s',CX [] H s₁ (λ_ _ _=>False) e s'->False) :
  codeAny (model P w) callerA (.call (.ref I) ⟨[.ref a],[]⟩) (λr s'=>r=.ok (.ret (.bool true))/\OldK s₁.heap s'.heap/\s'.os=s₁.os/\AllBare s'.gens) s₁:=by
 have W:=a3J hi;have C:=hi.length;have i:∀H:Hp,b7D H->SqL K H a (ns.map V.int)->HOk P w H s₁.heap->(∀b,H b≠none->b=a)->(H a≠none->K.lookup a=none) ->
   codeAny (model P w) callerA (.call (.ref I) ⟨[.ref a],[]⟩) (λr s'=>r=.ok (.ret (.bool true))/\OldK s₁.heap s'.heap/\s'.os=s₁.os/\AllBare s'.gens) s₁:=by
  intro H T hS A S Z;have c:∀{b:Addr}{o:Obj},s₁.heap.get? b=some o->H b=none->(a4Z s₁.heap H).get? b=some o:=λe n=>b2B e n;have Q:∀{b:Addr}{o:Obj}{es:Array DictEntry}{ep:Nat},s₁.heap.get? b=some o->o.data=.dict es ep->H b=none:=λ{b o es ep} e d=>by
   cases q:H b with
   |none=>rfl
   |some u =>
    have G:b=a:=S b (by rw[q];simp);subst G;rw[E]at e;cases e;have X:Data.seq vs.toArray _=Data.dict es ep:=d;cases X
  have g:∀{b:Addr}{m:Str->Option Value},s₁.heap.Ns b m->(a4Z s₁.heap H).Ns b m:=λ{b m} ⟨o,es,ep,e,d,r⟩=>⟨o,es,ep,c e (Q e d),d,r⟩;have p:K.In (a4Z s₁.heap H):=λb o e=>c (R b o e) (by
   cases q:H b with
   |none=>rfl
   |some u =>
    have G:b=a:=S b (by rw[q];simp);subst G;rw[Z (by rw[q];simp)]at e;cases e)
  have hM:Mod K mg (a4Z s₁.heap H):=⟨p,g y,⟨O,g f,L⟩,let ⟨mc,h1,h2⟩:=t;⟨mc,g h1,h2⟩⟩;have Y:Env0 P w K mg (a4Z s₁.heap H) callerA [] s₁ H:=⟨rfl,hM,λb o e=>b4B e,Nat.le_of_eq (b0a _ _),trivial,λb f=>absurd (show b∈([]:List Addr)from f) (by simp),A,.of_eq hg⟩;refine dw ((F _ p (g y)).run callerA [] s₁ H ⟨[.ref a],[]⟩ [.ref a] [.ref a] _ _ hr Y (j s₁ (.ref a)) (.cons rfl .nil) (N H T hS)) λr s' h=>?_;cases r with
  |error e=>exact(J H e s' h).elim
  |ok fl =>
   cases fl with
   |next=>exact False.elim h
   |brk=>exact False.elim h
   |cont=>exact False.elim h
   |ret u =>
    obtain⟨v,H',os,l,un,B,r',q⟩:=h;have q':v=.bl true:=q;subst q';obtain rfl:u=Value.bool true:=r';refine⟨rfl,OldK.of_keep λb o e=>?_,os,l⟩;cases q:H b with
    |none=>exact un.keep b o e q (by intro z;exact absurd (show b∈([]:List Addr)from z) (by simp)) (by simp)
    |some u =>
     rcases T b with z|⟨ob,xs,z⟩
     .rw[q]at z;cases z
     .have z2:=un.frzs b ob _ z;obtain⟨e1,_⟩:=A b _ z;obtain⟨e2,_⟩:=B b _ z2;rw[e]at e1;cases e1;exact e2
 cases M:K.lookup a with
 |some o =>
  have e:=R a o M;rw[E]at e;cases e;refine i (λ_=>none) (λ_=>.inl rfl) (.inr ⟨_,vs.toArray,_,M,rfl,rfl,rfl,by rw[aF,C];exact U,by simpa using W⟩) (λb u z=>by have D:(none:Option HO)=some u:=z;cases D) (λb z=>absurd rfl z) λz=>absurd rfl z
 |none =>
  refine i (λb=>if b=a then some (.frz {cls:=.type "list",data:=.seq vs.toArray} (.lst (ns.map V.int)))else none) (λb=>?_) (.inl (.inr ⟨{cls:=.type "list",data:=.seq vs.toArray},az rfl⟩)) (λb u z=>?_) (λb z=>?_) λ_=>M
  .by_cases f:b=a
   .exact .inr ⟨_,_,az f⟩
   .exact .inl (ar f)
  .by_cases f:b=a
   .have D:=(az f).symm.trans z;cases D;subst f;exact⟨E,by rw[ae];exact U,vs,_,W,E⟩
   .have D:=(ar f).symm.trans z;cases D
  .by_cases f:b=a
   .exact f
   .exact absurd (ar f) z
theorem walk_of{l:PySem.W.OpenLaw}{n k:Nat}{q:Program}{g:List Str}{XP:(Str->Option Value)->Heap->Prop}{A:World->Heap->Prop}{d:DefRec}{K:Params->PySem.W.Frag}{CX:World->CXT}{sp:World->Sp}{x:Str}
  (N:l.most=some n) (t:n<=sizeLine) (p:d.params.defaults=[]) (O:Room k callerA)
  (I:∀(w:World) (h:Heap),A w h->(K w.params).In h)
  (F:∀(w:World) (mg:Str->Option Value) (j:Addr) (h:Heap),(K w.params).In h->h.Ns mainGlobals mg->mg d.name=some (.ref j) ->
   ∃fd:FuncData,(∀(s:Shared) (u:Value),BindsTo s fd ⟨[u],[]⟩ [(x,u)]) /\
    ∀base:Heap,(K w.params).In base->base.Ns mainGlobals mg->FnOk l.prog w (K w.params) mg base (CX w) k j fd [x] (sp w))
  (y:∀(w:World) (H:Hp) (a:Addr) (ns:List Int),ns.length<=n->b7D H->SqL (K w.params) H a (ns.map V.int)->sp w [.ref a] H (λv _=>v=.bl true) λ_ _ _=>False)
  (m:∀(w:World) (H:Hp) (s:Shared) (e:Value) (s':Shared),CX w [] H s (λ_ _ _=>False) e s'->False) :
  PySem.W.WalkO q g XP A l.row.toRowW d [] (λf vs=>PySem.call f vs):=by
 refine Att.attach_call N p λw s₀ s₁ mg Q j o pm cd B a vs ns G Y P hd L r i c b M=>?_;have z:=I w _ Y;obtain⟨fd,J,C⟩:=F w mg j _ z G.T.g r;exact b2k z G.T.g G.T.b G.T.builtins G.T.nolimit M i c (bj b t) O C J (λH D E=>y w H a ns b D E) λH e s'=>m w H s₁ e s'
end L2
namespace L2
open PySem PySem.Spec PyProof.Rows
noncomputable def U4(s:Stmt)(j:Nat):Stmt:=match s with
 |.ClassDef _ _ _ body _ _ _ _ _ _ _=>body.getD j (.Pass ⟨0,0,0,0⟩)
 |_=>.Pass ⟨0,0,0,0⟩
noncomputable def Q6(s:Stmt):Arguments:=match s with
 |.FunctionDef _ a _ _ _ _ _ _ _ _=>a
 |_=>{posonlyargs:=[],args:=[],vararg:=none,kwonlyargs:=[],kw_defaults:=[],kwarg:=none,defaults:=[]}
noncomputable def E8(s:Stmt):List Stmt:=match s with
 |.FunctionDef _ _ b _ _ _ _ _ _ _=>b
 |_=>[]
noncomputable def A1(s:Stmt):Scope:=match s with
 |.FunctionDef _ _ _ _ _ _ sc _ _ _=>sc
 |_=>{kind:=.function,names:=[],isGenerator:=false,isCoroutine:=false}
abbrev CX0:CXT:=λ_ _ _ _ _ _=>False
abbrev E0:XK:=λ_ _ _=>False
theorem a8v{X:Cx}:a0C CX0 X E0:=λ_ _ _ _ _ _ _ h=>h.elim
structure Fun(K:PySem.W.Frag)(x qual:Str)(st:Stmt)(f:Addr)(fd:FuncData):Prop where
 ex:∃(oc:Value) (od:Option Addr) (kV doc pm:Value) (an:Option Addr) (cdv ct:Value) (osl:Array (Option Value)),
  fd=PySem.W.fnOf x qual (Q6 st) (E8 st) (A1 st) .none kV doc pm an cdv ct/\K.lookup f=some ⟨oc,od,.func fd,osl⟩/\PySem.W.codeIn K cdv qual=true
 kp:PySem.W.keepIn K (.ref f)=true
section
variable {P:Program}{w:World}{K:PySem.W.Frag}{mg:Str->Option Value}{base:Heap}
theorem Fun.ok{x qual:Str}{st:Stmt}{f:Addr}{fd:FuncData}{N ps:List Str}{k:Nat}{sp:Sp}(F:Fun K x qual st f fd)(S:FnScope N ps (A1 st))(len:∀vs H Q E,sp vs H Q E->vs.length=ps.length)
  (b:∀(a:Value) (A:Around) (outer:List Env) (s:Shared) (H:Hp) (vs:List V) (Q:VK) (E:XK),Room k (A.deeper (envOfC qual (A1 st) s.heap.objs.size f a))->sp vs H Q E ->
   ∃t,PSs (V9 CX0 P w K mg base N qual (A1 st) f a A outer s H E).nox (E8 st) t/\t {nx:=λ_ H'=>Q .non H',rt:=Q} (start N vs) H):FnOk P w K mg base CX0 (k+1) f fd ps sp:=by
 obtain⟨oc,od,kV,e,pm,an,a,ct,j,rfl,i,c⟩:=F.ex;refine b5M i c S len λA outer s H vs Q E g d=>?_;obtain⟨t,h,q⟩:=b a A outer s H vs Q E g d;exact⟨t,h.nox,q⟩
theorem Fun.binds{x qual:Str}{st:Stmt}{f:Addr}{fd:FuncData}{ps:List Str}(F:Fun K x qual st f fd)
  (h:∀(kV b pm:Value) (an:Option Addr) (a ct:Value) (us:List Value),us.length=ps.length->bindArgs (PySem.W.fnOf x qual (Q6 st) (E8 st) (A1 st) .none kV b pm an a ct) ⟨us,[]⟩=pure (ps.zip us)):Binds K fd ps []:=by
 obtain⟨oc,od,kV,b,pm,an,a,ct,d,rfl,e,c⟩:=F.ex;exact .all (h kV b pm an a ct)
theorem a3g{x qual:Str}{st:Stmt}{f:Addr}{oc:Value}{od an:Option Addr}{d:Array (Option Value)}{kV b pm a ct:Value}(l:K.lookup f=some ⟨oc,od,.func (PySem.W.fnOf x qual (Q6 st) (E8 st) (A1 st) .none kV b pm an a ct),d⟩)
  (c:PySem.W.codeIn K a qual=true) (k:PySem.W.keepIn K (.ref f)=true):Fun K x qual st f (PySem.W.fnOf x qual (Q6 st) (E8 st) (A1 st) .none kV b pm an a ct):=⟨⟨oc,od,kV,b,pm,an,a,ct,d,rfl,l,c⟩,k⟩
end
section
variable {X:Cx}
theorem pv(i:Nat){x:Str}{pos:Pos}(b:X.N[i]?=some x:=by rfl)(c:Vis X.env.scope x:=by first|exact Or.inl rfl|exact Or.inr (Or.inl rfl)|exact Or.inr (Or.inr rfl))(hd:(x==("__debug__" : Str))=false:=by decide)
  (a:(x==("__classdict__" : Str))=false:=by decide):PE X (.Name x pos) (N5 i):=b1J b c hd a
end
theorem D6{A B:Prop}(h:B):if false=true then A else B:=by
 rw[ar aY];exact h
theorem G1{A B:Prop}(h:A):if true=true then A else B:=by
 rw[az rfl];exact h
theorem a0y{c A B:Prop}[Decidable c](h1:c->A)(h2:¬c->B):if c then A else B:=by
 by_cases h:c
 .rw[az h];exact h1 h
 .rw[ar h];exact h2 h
def Same(H H':Hp):Prop:=∀b o,H b=some o->H' b=some o
theorem Same.refl(H:Hp):Same H H:=λ_ _ h=>h
theorem Same.trans{H H1 H2:Hp}(a:Same H H1)(b:Same H1 H2):Same H H2:=λc o h=>b c o (a c o h)
theorem Same.free{H H':Hp}(e:Same H H'){l:Addr}(h:H' l=Option.none):H l=Option.none:=by
 cases q:H l with
 |none=>rfl
 |some o =>
  rw[e l o q]at h;cases h
theorem Same.seq{K:PySem.W.Frag}{H H':Hp}{a:Addr}{xs:List V}(e:Same H H')(h:SqL K H a xs):SqL K H' a xs:=by
 rcases h with(h|⟨o,h⟩)|h
 .exact .inl (.inl (e _ _ h))
 .exact .inl (.inr ⟨o,e _ _ h⟩)
 .exact .inr h
noncomputable def G8(env:Env)(cs:List (Str×Addr))(x:Str×NameKind):List (Str×Addr) :=
 if x.2==.free then(match env.cells.lookup x.1 with|some a=>(x.1,a)::cs|none=>cs)else cs
noncomputable def a1X(scope:Scope)(env:Env):List (Str×Addr):=scope.names.foldl (G8 env) []
theorem a3p{env:Env}(f:Str×NameKind->List (Str×Addr)->Sem (ForInStep (List (Str×Addr))))
  (b:∀n k r,f (n,k) r=if (k==NameKind.free)=true then(do let a <-cellOf env n;pure (ForInStep.yield ((n,a)::r)))else pure (ForInStep.yield r)) :
  ∀(names:List (Str×NameKind)) (cs:List (Str×Addr)),(∀x∈names,x.2=.free->∃a,env.cells.lookup x.1=some a)->forIn names cs f=pure (names.foldl (G8 env) cs)
 |[],cs,_=>rfl
 |(n,k)::r,cs,h=>by
  rw[List.forIn_cons,dE,b];have e:=λy g=>h y (av _ g);by_cases d:k=.free
  .subst d;obtain⟨a,c⟩:=h (n,NameKind.free) au rfl;have e1:cellOf env n=pure a:=by unfold cellOf;rw[c]
   have e2:G8 env cs (n,NameKind.free)=(n,a)::cs:=by unfold G8;rw[c];rfl
   rw[e2,<-a3p f b r _ e,e1];rfl
  .have hb:(k==NameKind.free)=false:=by simpa using d
   have e2:G8 env cs (n,k)=cs:=by unfold G8;rw[hb];rfl
   rw[e2,<-a3p f b r _ e,hb];rfl
theorem b2V{scope:Scope}{env:Env}(h:∀x∈scope.names,x.2=.free->∃a,env.cells.lookup x.1=some a):closureFor scope env=pure (a1X scope env):=by
 simp only[closureFor];rw[a3p (env:=env) _ (λn k r=>by cases b:k==NameKind.free<;>simp[b]) scope.names [] h];rfl
theorem a4j{env:Env}{x:Str}{c:Addr}:∀(names:List (Str×NameKind)) (cs:List (Str×Addr)),(names.foldl (G8 env) cs).lookup x=some c->env.cells.lookup x=some c∨cs.lookup x=some c
 |[],cs,h=>.inr h
 |y::r,cs,h=>by
  rw[dE]at h;rcases a4j r _ h with z|z
  .exact .inl z
  .unfold G8 at z;split at z
   .split at z
    .rename_i a ha;rw[bZ]at z;cases b:x==y.1 with
     |true =>
      rw[b]at z;rw[bp.mp b];exact .inl (ha.trans z)
     |false =>
      rw[b]at z;exact .inr z
    .exact .inr z
   .exact .inr z
theorem a0k{scope:Scope}{env:Env}{x:Str}{c:Addr}(h:(a1X scope env).lookup x=some c):env.cells.lookup x=some c :=
 (a4j scope.names [] h).elim id λz=>by cases z
theorem a0z{env:Env}{x:Str}{a:Addr}(d:env.cells.lookup x=some a):∀(names:List (Str×NameKind)) (cs:List (Str×Addr)),((x,NameKind.free)∈names∨cs.lookup x=some a)->(∀c,cs.lookup x=some c->c=a)->(names.foldl (G8 env) cs).lookup x=some a
 |[],cs,h,_=>h.elim (λz=>by cases z) id
 |y::r,cs,h,i=>by
  rw[dE];by_cases b:y.2=.free/\y.1=x
  .have e2:G8 env cs y=(x,a)::cs:=by unfold G8;rw[b.2,d,b.1];rfl
   rw[e2];have f:((x,a)::cs).lookup x=some a:=by rw[bZ];simp
   exact a0z d r _ (.inr f) λc z=>by rw[f]at z;exact(bH z).symm
  .have same:(G8 env cs y).lookup x=cs.lookup x:=by
    unfold G8;split
    .rename_i hk;split
     .have hne:(x==y.1)=false:=by
       cases g:x==y.1 with
       |false=>rfl
       |true=>exact absurd ⟨by simpa using hk,(bp.mp g).symm⟩ b
      rw[bZ,hne]
     .rfl
    .rfl
   refine a0z d r _ ?_ (by rw[same];exact i);rw[same];rcases h with z|z
   .rcases aD.mp z with e|z
    .exact absurd ⟨by rw[<-e],by rw[<-e]⟩ b
    .exact .inl z
   .exact .inr z
theorem a6z{scope:Scope}{env:Env}{x:Str}{a:Addr}(b:env.cells.lookup x=some a)(d:(x,NameKind.free)∈scope.names):(a1X scope env).lookup x=some a :=
 a0z b _ _ (.inl d) λc z=>by cases z
theorem S6{x:Str}{c:Addr}:∀(names:List (Str×NameKind)) (n:Nat) (a:List (Str×Addr)),(cellsFrom n names a).lookup x=some c->(n<=c/\(x,NameKind.cell)∈names)∨a.lookup x=some c
 |[],_,_,h=>.inr h
 |(y,k)::r,n,a,h=>by
  unfold cellsFrom at h;split at h
  .rename_i hk;have d:k=.cell:=by simpa using hk
   rcases S6 r _ _ h with⟨f,e⟩|z
   .exact .inl ⟨by omega,av _ e⟩
   .rw[bZ]at z;cases b:x==y with
    |true =>
     rw[b]at z;cases z;exact .inl ⟨ao _,by rw[d,bp.mp b];exact au⟩
    |false =>
     rw[b]at z;exact .inr z
  .rcases S6 r _ _ h with⟨f,e⟩|z
   .exact .inl ⟨f,av _ e⟩
   .exact .inr z
theorem a7E:∀(names:List (Str×NameKind)) (n:Nat) (a:List (Str×Addr)),(∀x c,a.lookup x=some c->c<n)->(∀x y c,a.lookup x=some c->a.lookup y=some c->x=y) ->
  ∀x y c,(cellsFrom n names a).lookup x=some c->(cellsFrom n names a).lookup y=some c->x=y
 |[],_,_,_,h2=>h2
 |(z,k)::r,n,a,h1,h2=>by
  unfold cellsFrom;split
  .have lk:∀x c,List.lookup x ((z,n)::a)=some c->(x=z/\c=n)∨a.lookup x=some c:=λx c e=>by
    rw[bZ]at e;cases b:x==z with
    |true=>rw[b]at e;cases e;exact .inl ⟨bp.mp b,rfl⟩
    |false=>rw[b]at e;exact .inr e
   refine a7E r (n+1) _ (λx c e=>?_) λx y c e d=>?_
   .rcases lk x c e with⟨_,q⟩|q
    .rw[q];exact ck _
    .exact cc (h1 x c q)
   .rcases lk x c e with⟨q1,q2⟩|q<;>rcases lk y c d with⟨p1,p2⟩|p
    .rw[q1,p1]
    .exact absurd (h1 y c p) (by rw[q2];exact b_ _)
    .exact absurd (h1 x c q) (by rw[p2];exact b_ _)
    .exact h2 x y c q p
  .exact a7E r n a h1 h2
theorem a5e{x:Str}:∀(names:List (Str×NameKind)) (n:Nat) (a:List (Str×Addr)),((x,NameKind.cell)∈names∨∃c,a.lookup x=some c)->∃c,(cellsFrom n names a).lookup x=some c
 |[],_,_,h=>h.elim (λz=>by cases z) id
 |(y,k)::r,n,a,h=>by
  unfold cellsFrom;split
  .rename_i hk;refine a5e r _ _ ?_;by_cases b:x=y
   .exact .inr ⟨n,by rw[bZ,b];simp⟩
   .have hb:(x==y)=false:=cK.mpr b;rcases h with z|⟨c,z⟩
    .rcases aD.mp z with e|z
     .exact absurd (Prod.mk.inj e).1 b
     .exact .inl z
    .exact .inr ⟨c,by rw[bZ,hb];exact z⟩
  .rename_i hk;refine a5e r _ _ ?_;rcases h with z|z
   .rcases aD.mp z with e|z
    .exact absurd (by rw[<-(Prod.mk.inj e).2];rfl) hk
    .exact .inl z
   .exact .inr z
theorem a4N{x:Str}{c:Addr}:∀(names:List (Str×NameKind)) (h:Heap) (a:List (Str×Addr)),(∀x c,a.lookup x=some c->∃v,h.IsCell c v)->(cellsFrom h.objs.size names a).lookup x=some c->∃v,(pushCells h names).IsCell c v
 |[],h,a,f,e=>f x c e
 |(y,k)::r,h,a,f,e=>by
  unfold cellsFrom at e;unfold pushCells;split at e
  .rename_i hk;rw[az hk];rw[show h.objs.size+1=(h.push {cls:=.type "cell",data:=.cell none}).objs.size from(bC ..).symm]at e;refine a4N r _ _ (λi c' d=>?_) e;rw[bZ]at d;cases g:i==y with
   |true=>rw[g]at d;cases d;exact⟨_,_,aH _ rfl,rfl⟩
   |false =>
    rw[g]at d;obtain⟨v,z⟩:=f i c' d;exact⟨v,z.keeps λb o q=>ag _ q⟩
  .rename_i hk;rw[ar hk];exact a4N r _ _ f e
section
variable {M:Model}{A:Around}{E:Value->Shared->Prop}{s:Shared}
theorem a6C{scope:Scope}{b:Addr}{a:List (Str×Addr)}{qual:Str}{outer:Env}{Q:Env->Shared->Prop}
  (f:Q (newEnv scope s.heap.objs.size b (cellsFrom (s.heap.objs.size+1) scope.names a) qual none .none (some outer) builtinsNs) {s with heap:=pushCells (s.heap.push {cls:=.type "dict",data:=.dict #[]}) scope.names}) :
  wpAny M A (newFunctionEnv scope b a [] qual none .none (some outer)) Q E s:=by
 simp only[newFunctionEnv,Option.isSome_some,fj];refine aa (wpAny_alloc ?_);refine aa (wpAny_layCells _ (λname c d=>by cases e:c==NameKind.cell<;>simp[e]) _ _ _ _ ?_);rw[show({s with heap:=s.heap.push {cls:=.type "dict",data:=.dict #[]}}:Shared).heap.objs.size=s.heap.objs.size+1 from bC ..];exact aa (ai (ai f))
end
section
variable {prog:Program}{w:World}{A:Around}{s:Shared}
abbrev NoX:Value->Shared->Prop:=λ_ _=>False
theorem toE{α:Type}{M:Model}{A:Around}{t:Sem α}{Q b:α->Shared->Prop}{E:Value->Shared->Prop}{s:Shared}(h:wpAny M A t Q NoX s)(c:∀a s,Q a s->b a s):wpAny M A t b E s :=
 dr h c λ_ _ z=>z.elim
theorem a5d{e a b:Expr}{f:List Expr}{scope:Scope}{pos:Pos}{it d:Value}{env:Env}{R:Result->Shared->Prop}(I:Nat->Shared->Prop)
  (g:∀n s,I n s->wpAny (model prog w) A (pyNext it) (λr s₁=>match r with
   |none=>R (.ok .next) s₁
   |some v=>wpAny (model prog w) A (letOwnedTupleGo a it v) (λ_ s₂=>wpAny (model prog w) A (assign a env v) (λ_ s₃ =>
     wpAny (model prog w) A (forIn f true λc r=>if r=true then do let ok <-isTrue c env (eval c env);pure (ForInStep.yield ok)else pure (ForInStep.yield r)) (λok s₄ =>
      if ok=true then wpAny (model prog w) A (eval e env) (λx s₅=>wpAny (model prog w) A (call (.builtin "list.append") [d,x]) (λ_ s₆=>∃m,m<n/\I m s₆) NoX s₅) NoX s₄
      else ∃m,m<n/\I m s₄) NoX s₃) NoX s₂) NoX s₁) NoX s)
  (n:Nat) (h:I n s):codeAny (model prog w) A (.compLoop (.ListComp e [⟨a,b,f,0⟩] scope pos) 0 it d env) R s:=by
 refine codeAny_loop rfl I (λn s hI=>?_) n h;show wpAny _ A ((compTurn (.ListComp e [⟨a,b,f,0⟩] scope pos) 0 it d env).onRaise (λx=>do noteFrame x env;theTreesLotGoes x)) _ _ s;refine wpAny_noted ?_;rw[compTurn_list];refine aa (wpAny_standAt (aa (toE (g n s hI) λr s₁ h₁=>?_)));cases r with
 |none=>exact ai h₁
 |some v =>
  refine aa (toE h₁ λ_ s₂ h₂=>aa (toE h₂ λ_ s₃ h₃=>aa (toE h₃ λok s₄ h₄=>?_)));cases ok with
  |false=>exact ai ⟨rfl,h₄⟩
  |true=>exact aa (aa (toE h₄ λx s₅ h₅=>aa (toE h₅ λ_ s₆ h₆=>ai (ai ⟨rfl,h₆⟩))))
end
noncomputable def Cx.blk(X:Cx)(N:List Str)(scope:Scope)(cells:List (Str×Addr))(C:Addr)(s:Shared)(H:Hp)(ex:List Addr):Cx :=
 {X with N:=N,s₀:=s,H₀:=H,env:=compEnvC scope cells C X.env,outer:=X.stack,stack:=X.stack,ex:=ex,fn:=λx=>scope.names.any λy=>y.1==x && y.2==.cell,pn:=[],xe:=NoX}
noncomputable def B1(src:List (Option Nat))(σ:St):St:=src.map λo=>o.bind λj=>(σ[j]?).join
noncomputable def B7(sc out:Scope):Bool:=sc.names.all λx=>x.2 != .free || (out.names.lookup x.1==some .cell || out.names.lookup x.1==some .free)
noncomputable def M4:List Str->List (Option Nat)->List Str->Scope->Bool
 |[],[],_,_=>true
 |x::N,o::src,M,sc=>(match o with|none=>true|some j=>M[j]? == some x && sc.names.lookup x==some .free) && M4 N src M sc
 |_,_,_,_=>false
noncomputable def a4J(sc:Scope):Bool:=sc.kind==.function && sc.names.all λx=>sc.names.lookup x.1==some x.2
theorem a4l:∀{N:List Str}{src:List (Option Nat)}{M:List Str}{a:Scope},M4 N src M a=true->src.length=N.length
 |[],[],_,_,_=>rfl
 |_::N,_::src,M,a,h=>by
  unfold M4 at h;rw[aG]at h;rw[a',a',a4l h.2]
 |[],_::_,_,_,h=>by simp[M4]at h
 |_::_,[],_,_,h=>by simp[M4]at h
theorem a4m:∀{N:List Str}{src:List (Option Nat)}{M:List Str}{a:Scope}{i:Nat}{x:Str}{j:Nat},M4 N src M a=true->N[i]?=some x->src[i]?=some (some j)->M[j]?=some x/\a.names.lookup x=some .free
 |[],[],_,_,_,_,_,_,h,_=>by simp at h
 |y::N,o::src,M,a,0,x,j,h,h1,h2=>by
  unfold M4 at h;rw[aG]at h;simp at h1 h2;subst h1 h2;have q:=h.1;rw[aG]at q;exact⟨bp.mp q.1,bp.mp q.2⟩
 |y::N,o::src,M,a,i+1,x,j,h,h1,h2=>by
  unfold M4 at h;rw[aG]at h;exact a4m h.2 (by simpa using h1) (by simpa using h2)
 |[],_::_,_,_,_,_,_,h,_,_=>by simp[M4]at h
 |_::_,[],_,_,_,_,_,h,_,_=>by simp[M4]at h
theorem b0x{src:List (Option Nat)}{σ:St}{i:Nat}{v:V}(h:(B1 src σ)[i]?=some (some v)):∃j,src[i]?=some (some j)/\σ[j]?=some (some v):=by
 unfold B1 at h;rw[ba]at h;cases e:src[i]? with
 |none=>rw[e]at h;cases h
 |some o =>
  rw[e]at h;cases o with
  |none=>cases h
  |some j =>
   refine⟨j,rfl,?_⟩;have h':(σ[j]?).join=some v:=bH h;cases q:σ[j]? with
   |none=>rw[q]at h';cases h'
   |some z=>rw[q]at h';rw[show z=some v from h']
theorem W9{env:Env}:∀{names:List (Str×NameKind)}{x:Str}{k:NameKind},
  (names.map λ(n,k)=>if (k==NameKind.free && env.scope.kind==.function && env.kindOf n==some .cell)then(n,NameKind.cell)else(n,k)).lookup x=some k ->
  ∃b,names.lookup x=some b/\(k=b∨(b=.free/\k=.cell))
 |[],_,_,h=>by cases h
 |(n,k0)::r,x,k,h=>by
  rw[aZ,bZ]at h;rw[bZ];dsimp only at h;split at h
  .rename_i h0;have a:x==n:=by
    split at h0<;>exact h0
   rw[a];refine⟨k0,rfl,?_⟩;split at h
   .rename_i hc;cases h;simp only[aG]at hc;exact .inr ⟨by simpa using hc.1.1,rfl⟩
   .cases h;exact .inl rfl
  .rename_i h0;have a:(x==n)=false:=by
    split at h0<;>exact h0
   rw[a];exact W9 h
theorem J8{env:Env}:∀{names:List (Str×NameKind)}{x:Str}{c:NameKind},names.lookup x=some c ->
  ∃k,(names.map λ(n,k)=>if (k==NameKind.free && env.scope.kind==.function && env.kindOf n==some .cell)then(n,NameKind.cell)else(n,k)).lookup x=some k/\(k=c∨(c=.free/\k=.cell))
 |[],_,_,h=>by cases h
 |(n,k0)::r,x,c,h=>by
  rw[bZ]at h;rw[aZ];by_cases b:(k0==NameKind.free && env.scope.kind==.function && env.kindOf n==some .cell)=true
  .simp only[b,fj];rw[bZ];cases a:x==n with
   |true =>
    rw[a]at h;cases h;simp only[aG]at b;exact⟨_,rfl,.inr ⟨by simpa using b.1.1,rfl⟩⟩
   |false=>rw[a]at h;exact J8 h
  .simp only[ar b];rw[bZ];cases a:x==n with
   |true=>rw[a]at h;cases h;exact⟨_,rfl,.inl rfl⟩
   |false=>rw[a]at h;exact J8 h
def PIf(X:Cx)(ifs:List Expr)(t:TT):Prop :=
 ∀(pins:List (Addr×Obj)) (s:Shared) (σ:St) (H:Hp) (Q:Bool->Hp->Prop),Inv X pins σ H s->t σ H Q ->
  wpAny (model X.prog X.w) X.A (forIn ifs true λc r=>if r=true then do let ok <-isTrue c X.env (eval c X.env);pure (ForInStep.yield ok)else pure (ForInStep.yield r)) (TP X pins σ Q) X.xe s
def O5:TT:=λ_ H Q=>Q true H
theorem b4c{X:Cx}:PIf X [] O5:=λpins s σ H Q I h=>wpAny_tests_nil ⟨H,I,h⟩
theorem b4b{X:Cx}{c:Expr}{t:TT}(h:PT X c t):PIf X [c] t:=λpins s σ H Q I q=>wpAny_tests_one (h pins s σ H Q I q)
def Sub(σ σ':St):Prop:=σ.length=σ'.length/\∀(i:Nat) (v:V),σ[i]?=some (some v)->σ'[i]?=some (some v)
def E9(src:List (Option Nat))(g:TG)(tt:TT)(te:TE)(σ:St)(Q:VK)(J:It)(H1:Hp):Prop :=
 ∃W:Nat->Nat->List V->Hp->Prop,(∃m,W 0 m [] H1)/\∀i m ys H,W i m ys H ->
  (J.stop i H/\ys.length<=sizeLine/\∀p,H p=none->Q (.ref p) (upd H p (.lst ys))) ∨
  (J.go i H/\ys.length<sizeLine/\∃N:List V->Hp->Prop,(∀zs H',N zs H'->∃m',m'<m/\W (i+1) m' zs H')/\∀x H',J.yld i H x H'->g x (B1 src σ) H' λσ2 H2=>Sub (B1 src σ) σ2/\tt σ2 H2 λb H3 =>
   if b=true then te σ2 H3 λv H4=>N (ys++[v]) H4 else N ys H3)
def a5x(src:List (Option Nat))(wi:TI)(g:TG)(tt:TT)(te:TE):TE:=λσ H Q=>wi σ H (E9 src g tt te σ Q)
section
variable {X:Cx}{pins:List (Addr×Obj)}{σ:St}{H:Hp}{s:Shared}
theorem Inv.block{N:List Str}{src:List (Option Nat)}{scope:Scope}{fp:List Addr}(I:Inv X pins σ H s)(O:∀b∈fp,a1w X pins H b)(U:∀b∈fp,∃o,s.heap.get? b=some o)
  (J:B7 scope X.env.scope=true) (D:M4 N src X.N scope=true) (C:a4J scope=true) {lo:Obj} :
  Inv (X.blk N scope (cellsFrom (s.heap.objs.size+2) scope.names (a1X scope X.env)) (s.heap.objs.size+1) s H fp) [] (B1 src σ) H
   {s with heap:=pushCells ((s.heap.push lo).push {cls:=.type "dict",data:=.dict #[]}) scope.names}:=by
 unfold a4J at C;rw[aG]at C;have E:scope.kind=.function:=by simpa using C.1
 have F:∀x∈scope.names,scope.names.lookup x.1=some x.2:=λx A=>by simpa using aJ.mp C.2 x A
 have t:∀x∈scope.names,x.2=.free->X.env.kindOf x.1=some .cell∨X.env.kindOf x.1=some .free:=λx A f=>by
  have q:=aJ.mp J x A;rw[f]at q;have R:(X.env.scope.names.lookup x.1==some .cell || X.env.scope.names.lookup x.1==some .free)=true:=by simpa using q
  rw[Bool.or_eq_true]at R;exact R.imp (λz=>bp.mp z) λz=>bp.mp z
 have keep:∀b o,s.heap.get? b=some o->(pushCells ((s.heap.push lo).push {cls:=.type "dict",data:=.dict #[]}) scope.names).get? b=some o:=λb o e =>
  fQ _ _ _ _ (ag _ (ag _ e))
 have P:∀x c,(a1X scope X.env).lookup x=some c->c<s.heap.objs.size:=λx c e=>by
  obtain⟨v,z⟩:=I.cell x c (a0k e);exact z.lt
 have d:∀x c,(cellsFrom (s.heap.objs.size+2) scope.names (a1X scope X.env)).lookup x=some c->(s.heap.objs.size+2<=c/\(x,NameKind.cell)∈scope.names)∨X.env.cells.lookup x=some c:=λx c e =>
  (S6 _ _ _ e).imp id a0k
 have K:∀x k,(compEnvC scope (cellsFrom (s.heap.objs.size+2) scope.names (a1X scope X.env)) (s.heap.objs.size+1) X.env).kindOf x=some k->∃g,scope.names.lookup x=some g/\(k=g∨(g=.free/\k=.cell)):=λx k e =>
  W9 (env:=X.env) e
 have mem:∀{x k},scope.names.lookup x=some k->(x,k)∈scope.names:=λe=>mem_of_lookup e;refine⟨⟨I.ok.mod,?_,I.ok.glob,I.ok.blt,?_,?_,?_,?_,I.ok.hd,I.ok.frames,.inl rfl,?_,I.bs,bj I.ok.bsz I.sz,?_,?_,I.stack,I.stkFree⟩,rfl,I.bare,Un.kept keep,?_,?_,?_,?_,?_,I.hok.kept keep,?_⟩
 .exact E
 .exact ek _
 .-- inj
  refine a7E _ _ _ (λx c e=>?_) λx y c e Q=>I.ok.inj x y c (a0k e) (a0k Q);exact aO (P x c e) (cm _ 2)
 .-- has
  intro x A;refine a5e _ _ _ ?_;have f:∃g,scope.names.lookup x=some g/\(g=.cell∨g=.free):=by
   rcases A with A|A
   .obtain⟨g,e,z⟩:=K x _ A;exact⟨g,e,z.elim (λz=>.inl z.symm) λz=>.inr z.1⟩
   .obtain⟨g,e,z⟩:=K x _ A;exact⟨g,e,z.elim (λz=>.inr z.symm) λz=>by cases z.2⟩
  obtain⟨g,e,rfl|rfl⟩:=f
  .exact .inl (mem e)
  .obtain⟨a,ha⟩:=I.ok.has x (t _ (mem e) rfl);exact .inr ⟨a,a6z ha (mem e)⟩
 .-- cab
  intro x c A e;rcases d x c e with z|z
  .exact bj (cm _ 2) z.1
  .-- x is the block's own cell, so it is not in the closure's part
   exfalso;obtain⟨y,W,G⟩:=bD.mp A;rw[aG]at G;have e1:y.1=x:=bp.mp G.1;have e2:y.2=.cell:=by simpa using G.2
   have Z:scope.names.lookup x=some .cell:=by rw[<-e1,<-e2];exact F y W
   rcases S6 _ _ _ e with q|q
   .obtain⟨v,z'⟩:=I.cell x c z;exact absurd (aO z'.lt (bj (cm _ 2) q.1)) (b_ _)
   .-- the closure holds free names alone
    have fr:∀(names:List (Str×NameKind)) (cs:List (Str×Addr)),(names.foldl (G8 X.env) cs).lookup x=some c->(x,NameKind.free)∈names∨cs.lookup x=some c:=by
     intro names;induction names with
     |nil=>intro cs h;exact .inr h
     |cons n r Y =>
      intro cs h;rw[dE]at h;rcases Y _ h with w|w
      .exact .inl (av _ w)
      .unfold G8 at w;split at w
       .rename_i f;split at w
        .rw[bZ]at w;cases B:x==n.1 with
         |true =>
          have:n=(x,NameKind.free):=Prod.ext (bp.mp B).symm (by simpa using f);exact .inl (by rw[this];exact au)
         |false=>rw[B]at w;exact .inr w
        .exact .inr w
       .exact .inr w
    rcases fr _ _ q with w|w
    .have:=F _ w;rw[Z]at this;cases this
    .cases w
 .-- exf
  intro b B;obtain⟨o,e⟩:=U b B;have lt:=aK e;refine⟨aR (cc lt),λx c M=>?_⟩;rcases d x c M with z|z
  .exact dv (aO lt (bj (cm _ 2) z.1))
  .exact(O b B).2.2.2.2.1 x c z
 .-- noex
  intro b o e B;rcases(O b B).2.2.2.1 with z|z
  .exact I.ok.noex b o e z
  .exact absurd (aO (aK (I.ok.bs b o e).1) z) (b_ _)
 .-- exfs
  intro b B z;rcases aD.mp (I.stkSub b z)with q|q
  .exact(O b B).2.1 q
  .exact(O b B).2.2.1 q
 .-- loc
  refine⟨λ_=>none,?_,λi x v e1 e2 e3=>?_⟩
  .have:=(Heap.Ns.new (s.heap.push lo) (.type "dict")).keeps (fQ scope.names _);rw[bC]at this;exact this
  .obtain⟨j,e4,e5⟩:=b0x e2;obtain⟨S,L⟩:=a4m D e1 e4;obtain⟨m,_,T⟩:=I.loc;have f:=t _ (mem L) rfl;have V:Vis X.env.scope x:=.inr (f.imp id id);obtain⟨u,r,l⟩:=T j x v S e5 V;refine⟨u,r,.inr ⟨?_,?_⟩⟩
   .obtain⟨k,q,z⟩:=J8 (env:=X.env) L;rcases z with z|z
    .exact .inr (by rw[<-z];exact q)
    .exact .inl (by rw[<-z.2];exact q)
   .rcases l with l|⟨_,c,M,z⟩
    .exfalso;rcases f with f|f<;>rw[l.1]at f<;>cases f
    .refine⟨c,?_,z.keeps keep⟩;have own:¬(x,NameKind.cell)∈scope.names:=λw=>by
      have:=F _ w;rw[L]at this;cases this
     obtain⟨c',q⟩:=a5e (x:=x) scope.names (s.heap.objs.size+2) (a1X scope X.env) (.inr ⟨c,a6z M (mem L)⟩);rcases d x c' q with w|w
     .exact absurd w.2 own
     .rw[M]at w;cases w;exact q
 .-- cell
  intro x c e;have Q:(cellsFrom ((s.heap.push lo).push {cls:=.type "dict",data:=.dict #[]}).objs.size scope.names (a1X scope X.env)).lookup x=some c:=by
   rw[bC,bC];exact e
  refine a4N _ _ _ (λx' c' q=>?_) Q;obtain⟨v,z⟩:=I.cell x' c' (a0k q);exact⟨v,z.keeps λb o q=>ag _ (ag _ q)⟩
 .exact I.hok.fresh (ek _)
 .intro x c e;rcases d x c e with z|z
  .exact I.hok.fresh (bj (cm _ 2) z.1)
  .exact I.freeC x c z
 .intro p hp;cases hp
 .show(B1 src σ).length=N.length;unfold B1;rw[ae];exact a4l D
theorem Inv.unblock{N:List Str}{scope:Scope}{d:List (Str×Addr)}{C a:Addr}{fp:List Addr}{pins':List (Addr×Obj)}{σ':St}{H':Hp}{s':Shared}{h':Heap}{ys:List V}{us:List Value}{n:Nat}
  (I:Inv X pins σ H s) (y:∀b∈fp,a1w X pins H b) (x:s.heap.objs.size<=C) (v:s.heap.objs.size<=a) (m:a≠C) (J:Inv (X.blk N scope d C s H fp) pins' σ' H' s')
  (w:H' a=none) (A:s'.heap.get? a=some {cls:=.type "list",data:=.seq us.toArray n}) (B:Vals ys us) (D:ys.length<=sizeLine) (l:Heap.SameBut C s'.heap h') :
  Inv X pins σ (upd H' a (.lst ys)) {s' with heap:=h'}:=by
 have base:Un (frs X.stack) fp H H' s.heap s'.heap:=J.base;have kp:∀b o,b≠C->s'.heap.get? b=some o->h'.get? b=some o:=λb o q e=>l.extBut b o q e;have old:∀b o,s.heap.get? b=some o->b≠C/\b≠a:=λb o e=>by
  have:=aK e;exact⟨aR (aO this x),aR (aO this v)⟩
 have g:H' C=none:=J.free;have h:H a=none:=I.hok.fresh v;have j:HOk X.prog X.w H' s'.heap:=J.hok;have p:HOk X.prog X.w (upd H' a (.lst ys)) h':=by
  intro b o e;by_cases i:b=a
  .subst i;rw[A0]at e;cases e;exact⟨D,us,n,B,kp _ _ m A⟩
  .rw[A3 i]at e;refine(j b o e).stay (λc u k q=>kp c u ?_ q) (λc q=>?_) λc xs q=>?_
   .rintro rfl;rcases k with rfl|k
    .rw[g]at e;cases e
    .rw[g]at k;cases k
   .rw[A3 (by rintro rfl;rw[w]at q;cases q)];exact q
   .rw[A3 (by rintro rfl;rw[w]at q;cases q)];exact q
 have f:∀b u,H b=some u->b≠a:=λb u e=>by rintro rfl;rw[h]at e;cases e
 refine I.call' (s':={s' with heap:=h'}) (ch:=fp) (J.os) ⟨λb o e q r t=>?_,λb o e q r t=>?_,λb o e q t=>?_,λb o e t=>?_,λb xs e=>?_,λb o u e=>?_,λb ps e=>?_⟩ p J.bare λb l=>?_
 .exact kp b o (old b o e).1 (base.keep b o e q r t)
 .obtain⟨sl,z⟩:=base.slot b o e q r t;exact⟨sl,kp b _ (old b o e).1 z⟩
 .rw[A3 (old b o e).2];exact base.free b o e q t
 .obtain⟨o',z⟩:=base.there b o e t;exact⟨o',kp b _ (old b o e).1 z⟩
 .rw[A3 (f b _ e)];exact base.tups b xs e
 .rw[A3 (f b _ e)];exact base.frzs b o u e
 .rw[A3 (f b _ e)];exact base.tbls b ps e
 .obtain⟨_,h1,_,h3,h4,h5⟩:=y b l;exact⟨h3,h1,h4,h5⟩
set_option maxHeartbeats 4000000 in
theorem a4i{tg t E:Expr}{K:List Expr}{scope:Scope}{pos:Pos}{N:List Str}{src:List (Option Nat)}{wi:TI}{g:TG}{tt:TT}{te:TE}{Q:VK}{RR:Value->Addr->Result->Shared->Prop}(hc:X.calm=true)(hi:PI X tg t wi)
  (b7:B7 scope X.env.scope=true) (b6:M4 N src X.N scope=true) (d4:a4J scope=true)
  (hg:∀a C s H ex,PG (X.blk N scope a C s H ex) tg g) (ht:∀a C s H ex,PIf (X.blk N scope a C s H ex) K tt) (he:∀a C s H ex,PE (X.blk N scope a C s H ex) E te)
  (I:Inv X pins σ H s) (h:a5x src wi g tt te σ H Q)
  (b8:∀(s2 s4:Shared) (H2 H4:Hp) (fp:List Addr) (a:List (Str×Addr)) (pl:List (Addr×Obj)) (σ4:St) (ys:List V) (us:List Value) (k:Nat),Inv X pins σ H2 s2->(∀b∈fp,a1w X pins H2 b) ->
   Inv (X.blk N scope a (s2.heap.objs.size+1) s2 H2 fp) pl σ4 H4 s4->H4 s2.heap.objs.size=none->s4.heap.get? s2.heap.objs.size=some {cls:=.type "list",data:=.seq us.toArray k}->Vals ys us->ys.length<=sizeLine ->
   Q (.ref s2.heap.objs.size) (upd H4 s2.heap.objs.size (.lst ys))->RR (.ref s2.heap.objs.size) (s2.heap.objs.size+1) (.ok .next) s4) :
  wpAny (model X.prog X.w) X.A (eval t X.env) (λx s₁=>wpAny (model X.prog X.w) X.A (pyIter x) (λit s₂=>wpAny (model X.prog X.w) X.A (newList []) (λa8 s₃ =>
   wpAny (model X.prog X.w) X.A (newFunctionEnv scope X.env.globals (a1X scope X.env) [] X.env.qual none .none (some X.env)) (λO s₄ =>
    codeAny (model X.prog X.w) X.A (.compStart (.ListComp E [⟨tg,t,K,0⟩] scope pos) 0 it a8 {O with scope:=relabel scope X.env}) (RR a8 O.locals) s₄) X.xe s₃) X.xe s₂) X.xe s₁) X.xe s:=by
 refine thn (hi pins s σ H _ I h) λv s1 h1=>thn h1 λd6 s2 h2=>?_;obtain⟨it,fp,tn,J,H2,e,U,T,c3,f2,W,⟨m0,w0⟩,c5⟩:=h2;subst e;have b9:∀b∈fp,∃o,s2.heap.get? b=some o:=λb l=>(T.obj _ _ c3 b l).imp λ_ q=>q.1;refine bV (a6C ?_);have hB:=U.block (lo:={cls:=.type "list",dict:=none,data:=.seq ([]:List Value).toArray}) f2 b9 b7 b6 d4;rw[show({s2 with heap:=s2.heap.push {cls:=.type "list",dict:=none,data:=.seq ([]:List Value).toArray}}:Shared).heap.objs.size=s2.heap.objs.size+1 from bC ..];generalize G:cellsFrom (s2.heap.objs.size+1+1) scope.names (a1X scope X.env)=a at hB⊢;generalize B:pushCells ((s2.heap.push {cls:=.type "list",dict:=none,data:=.seq ([]:List Value).toArray}).push {cls:=.type "dict",data:=.dict #[]}) scope.names=h4 at hB⊢;have a4:∀b o,s2.heap.get? b=some o->h4.get? b=some o:=λb o q=>by
  rw[<-B];exact fQ _ _ _ _ (ag _ (ag _ q))
 have a9:h4.get? s2.heap.objs.size=some {cls:=.type "list",data:=.seq ([]:List Value).toArray 0}:=by
  rw[<-B];exact fQ _ _ _ _ (ag _ (aH _ rfl))
 have c4:tn 0 h4:=T.keep _ _ _ c3 λb _ o q=>a4 b o q;generalize f:X.blk N scope a (s2.heap.objs.size+1) s2 H2 fp=j at hB;have eA:j.A=X.A:=by rw[<-f];rfl
 have eP:j.prog=X.prog:=by rw[<-f];rfl
 have ew:j.w=X.w:=by rw[<-f];rfl
 have eK:j.K=X.K:=by rw[<-f];rfl
 have ec:j.calm=true:=by rw[<-f];exact hc
 have ee:j.env=compEnvC scope a (s2.heap.objs.size+1) X.env:=by rw[<-f];rfl
 have ex:j.ex=fp:=by rw[<-f];rfl
 have b0:j.pn=[]:=by rw[<-f];rfl
 have c9:j.s₀=s2:=by rw[<-f];rfl
 have Z:j.xe=NoX:=by rw[<-f];rfl
 have eL:j.env.locals=s2.heap.objs.size+1:=by rw[ee];rfl
 have c8:j.fs=frs X.stack:=by rw[<-f];rfl
 have c2:=hB.ok;have cne:∀x c,j.env.cells.lookup x=some c->c≠s2.heap.objs.size:=λx c q=>by
  rw[ee]at q;have q':a.lookup x=some c:=q;rw[<-G]at q';rcases S6 _ _ _ q' with z|z
  .exact dv (aO (ck _) (bj (ek _) z.1))
  .obtain⟨v,z'⟩:=U.cell x c (a0k z);exact aR z'.lt
 have P:∀b∈fp,b≠s2.heap.objs.size:=λb l=>by
  obtain⟨o,q⟩:=b9 b l;exact aR (aK q)
 have A:s2.heap.objs.size∉j.fs:=by
  rw[c8];intro z;rcases aD.mp (U.stkSub _ z)with q|q
  .exact absurd U.lt (by rw[<-q];exact b_ _)
  .exact U.nofs (ao _) q
 have w:∀{H':Hp}{pl:List (Addr×Obj)},(∀b∈fp,H' b=none)->(∀p∈pl,p.1=s2.heap.objs.size)->∀b∈fp,a1w j pl H' b:=λ{H' pl} hn D b l=>by
  obtain⟨x1,x2⟩:=c2.exf b (by rw[ex];exact l);refine⟨hn b l,x1,c2.exfs b (by rw[ex];exact l),.inl (by rw[ex];exact l),x2,λp c0=>?_⟩;rw[b0,cq]at c0;rw[D p c0];exact(P b l).symm
 have c1:∀s5:Shared,s5={s2 with heap:=h4}->codeAny (model X.prog X.w) X.A (.compLoop (.ListComp E [⟨tg,t,K,0⟩] scope pos) 0 (.ref it) (.ref s2.heap.objs.size) j.env)
   (RR (.ref s2.heap.objs.size) (s2.heap.objs.size+1)) s5:=by
  rintro s5 rfl;refine a5d (λn s'=>∃i H' ys us k,Inv j [] (B1 src σ) H' s'/\tn i s'.heap/\(∀b∈fp,H' b=none)/\H' s2.heap.objs.size=none /\
   s'.heap.get? s2.heap.objs.size=some {cls:=.type "list",data:=.seq (us:List Value).toArray k}/\Vals ys us/\W i n ys H') ?_ m0
   ⟨0,H2,[],[],0,hB,c4,λb l=>(f2 b l).1,U.hok.fresh (ao _),a9,.nil,w0⟩
  rintro n s3 ⟨i,R,ys,us,k,I3,a5,a0,L,a7,r3,w3⟩;rcases c5 i n ys R w3 with⟨stop,hz,qn⟩|⟨go,hz,Nn,hN,step⟩
  .have d:=T.done j eP ew eK ec i [] s3 (B1 src σ) R NoX I3 (w a0 (λ_ z=>by cases z)) a5 stop;rw[eA]at d;have Y:Inv j [(s2.heap.objs.size,{cls:=.type "list",data:=.seq us.toArray k})] (B1 src σ) R s3:=I3.pins_of λp D=>by
    rw[aQ.mp D];exact⟨a7,L,by rw[eL];exact aR (ck _),A,λv z=>by cases z⟩
   have d:=T.done j eP ew eK ec i _ s3 (B1 src σ) R NoX Y (w a0 (λp z=>by rw[aQ.mp z])) a5 stop;rw[eA]at d;refine thn d λr s4 ⟨hr,I4⟩=>?_;subst hr;have c7:=(I4.pin (s2.heap.objs.size,{cls:=.type "list",data:=.seq us.toArray k}) (aU _ au)).1;rw[<-f]at I4;exact b8 s2 s4 H2 R fp a _ _ ys us k U f2 I4 L c7 r3 hz (qn _ L)
  .have Y:Inv j [(s2.heap.objs.size,{cls:=.type "list",data:=.seq us.toArray k})] (B1 src σ) R s3:=I3.pins_of λp D=>by
    rw[aQ.mp D];exact⟨a7,L,by rw[eL];exact aR (ck _),A,λv z=>by cases z⟩
   have d:=T.item j eP ew eK ec i _ s3 (B1 src σ) R NoX Y (w a0 (λp z=>by rw[aQ.mp z])) a5 go;rw[eA]at d;refine thn d λr s4 ⟨u,hr,d1⟩=>?_;subst hr;refine thn d1 λ_ s5 ⟨x,H5,I5,r5,y5,a6,d0⟩=>?_;have c6:=I5.pinned (w d0 (λp z=>by rw[aQ.mp z])) (T.obj _ _ a6);have d3:PG j tg g:=by rw[<-f];exact hg _ _ _ _ _
   have d5:PIf j K tt:=by rw[<-f];exact ht _ _ _ _ _
   have d2:PE j E te:=by rw[<-f];exact he _ _ _ _ _
   have a1:=d3 _ s5 _ H5 x u _ c6 r5 (step x H5 y5);rw[eP,ew,eA,Z]at a1;refine thn a1 λ_ s6 ⟨σ6,H6,I6,sb,q6⟩=>?_;have a2:=d5 _ s6 σ6 H6 _ I6 q6;rw[eP,ew,eA,Z]at a2;refine thn a2 λok s7 ⟨H7,I7,q7⟩=>?_;have back:∀{S:Hp}{M:Shared}{pl:List (Addr×Obj)},Inv j ([(s2.heap.objs.size,{cls:=.type "list",data:=.seq us.toArray k})]++a2H fp s5.heap) σ6 S M ->
     Inv j [] (B1 src σ) S M/\tn (i+1) M.heap/\(∀b∈fp,S b=none)/\S s2.heap.objs.size=none/\M.heap.get? s2.heap.objs.size=some {cls:=.type "list",data:=.seq us.toArray k}:=λ{S M pl} I8=>by
    have p0:=I8.pin (s2.heap.objs.size,{cls:=.type "list",data:=.seq us.toArray k}) (aU _ (aS _ au));refine⟨(I8.pins_of (pins':=[]) λp D=>by cases D).weak sb.1 sb.2,T.keep _ _ _ a6 λb l o e=>(I8.pin (b,o) (aU _ (aU _ (T5 l e)))).1,λb l=>?_,p0.2.1,p0.1⟩;obtain⟨o,e,_⟩:=T.obj _ _ a6 b l;exact(I8.pin (b,o) (aU _ (aU _ (T5 l e)))).2.1
   cases ok with
   |false =>
    obtain⟨m',hm,w7⟩:=hN _ _ q7;obtain⟨b1,b2,b3,b4,b5⟩:=back (pl:=[]) I7;exact⟨m',hm,i+1,H7,ys,us,k,b1,b2,b3,b4,b5,r3,w7⟩
   |true =>
    have a3:=d2 _ s7 σ6 H7 _ I7 q7;rw[eP,ew,eA,Z]at a3;refine thn a3 λy M ⟨vy,S,I8,ry,n8⟩=>?_;obtain⟨m',hm,w8⟩:=hN _ _ n8;obtain⟨b1,b2,b3,b4,b5⟩:=back (pl:=[]) I8;refine eM F.slot_list_append ⟨_,b5,rfl⟩ F.entry_list_append (F.args_list_append_2 _ _) (PySem.list_append s2.heap.objs.size us.toArray k y (by rw[aF,<-r3.length];omega)) ⟨b5,?_⟩;have q:=PySem.IsL.update b5 (λxs=>xs.push y);rw[show us.toArray.push y=(us++[y]).toArray by simp]at q;have nb:∀b o,b≠s2.heap.objs.size->M.heap.get? b=some o->(M.heap.update s2.heap.objs.size (Obj.mapSeq λxs=>xs.push y)).get? b=some o:=λb o l e =>
     (fF M.heap _ (dq l)).trans e
    refine⟨m',hm,i+1,S,ys++[vy],us++[y],_,?_,?_,b3,b4,q,r3.append (.cons ry .nil),w8⟩
    .exact b1.turned nb b4 (by rw[eL];exact aR (ck _)) (.inr (by rw[c9];exact ao _)) cne λp D=>by rw[b0]at D;cases D
    .exact T.keep _ _ _ b2 λb l o e=>nb b o (P b l) e
 have m:=c1 _ rfl;rw[ee]at m;exact codeAny_compStart_list m (T.self _ 0 _ _ _ c4 m)
theorem a3Q{scope:Scope}(a:a4J scope=true):scope.kind=.function/\∀x∈scope.names,scope.names.lookup x.1=some x.2:=by
 unfold a4J at a;rw[aG]at a;exact⟨by simpa using a.1,λx b=>by simpa using aJ.mp a.2 x b⟩
theorem Inv.clos{scope:Scope}(I:Inv X pins σ H s)(a:B7 scope X.env.scope=true):closureFor scope X.env=pure (a1X scope X.env):=b2V λx d c=>by
 have q:=aJ.mp a x d;rw[c]at q;have b:(X.env.scope.names.lookup x.1==some .cell || X.env.scope.names.lookup x.1==some .free)=true:=by simpa using q
 rw[Bool.or_eq_true]at b;exact I.ok.has x.1 (b.imp (λz=>bp.mp z) λz=>bp.mp z)
theorem b4m{tg b e:Expr}{j:List Expr}{scope:Scope}{pos:Pos}{N:List Str}{src:List (Option Nat)}{wi:TI}{g:TG}{t:TT}{te:TE}(w:X.calm=true)(hi:PI X tg b wi)
  (c:B7 scope X.env.scope=true) (f:M4 N src X.N scope=true) (i:a4J scope=true)
  (z:∀a C s H ex,PG (X.blk N scope a C s H ex) tg g) (B:∀a C s H ex,PIf (X.blk N scope a C s H ex) j t) (y:∀a C s H ex,PE (X.blk N scope a C s H ex) e te)
  (hs:∀x,foldedSetIterable b X.env x=pure x:=by intro _;rfl):PE X (.ListComp e [⟨tg,b,j,0⟩] scope pos) (a5x src wi g t te):=by
 intro pins s σ H Q I h;obtain⟨d,n⟩:=a3Q i;rw[eval_ListComp];refine wpAny_comprehension_free (use:=none) rfl hs (I.clos c) d (λx D A=>by rw[<-A];exact n x D) (a4i (RR:=compPost (model X.prog X.w) X.A X.xe none (EP X pins σ Q)) w hi c f i z B y I h ?_);intro s2 K H2 G fp a J σ4 ys L k u f2 r p l F E q;obtain⟨m,o,_⟩:=r.loc;exact⟨m,o,λh' v=>⟨.ref s2.heap.objs.size,_,Inv.unblock u f2 (ek _) (ao _) (aR (ck _)) r p l F E v,rfl,q⟩⟩
theorem b3V{i:Nat}{y:Str}{u r:Pos}{tg f j:Expr}{l:List Expr}{scope:Scope}{pos:Pos}{N:List Str}{src:List (Option Nat)}{wi:TI}{g:TG}{tt:TT}{te:TE}
  (hN:X.N.Nodup) (hy:X.N[i]?=some y) (Y:Loc X.env.scope y)
  (hc:X.calm=true) (hi:PI X tg f wi) (n:B7 scope X.env.scope=true) (B:M4 N src X.N scope=true) (F:a4J scope=true)
  (hg:∀d C s H ex,PG (X.blk N scope d C s H ex) tg g) (ht:∀d C s H ex,PIf (X.blk N scope d C s H ex) l tt) (S:∀d C s H ex,PE (X.blk N scope d C s H ex) j te)
  (W:swapsWith (.ListComp j [⟨tg,f,l,0⟩] scope pos) (some (.Name y u)) r.line X.env=pure true:=by rfl) (hs:∀x,foldedSetIterable f X.env x=pure x:=by intro _;rfl)
  (hf:X.fn y=true∨X.env.scope.names.lookup y=some .local:=by first|exact .inl rfl|exact .inr rfl|assumption) :
  PS X (.Assign [.Name y u] (.ListComp j [⟨tg,f,l,0⟩] scope pos) r) (a9i (a5x src wi g tt te) (B0 i)):=by
 intro pins s σ H D I h;obtain⟨t,T⟩:=a3Q F;rw[exec_Assign_Name_used _ _ _ _ W];refine aa (wpAny_standAt (aa ?_));show wpAny _ X.A (do let _ <-comprehension (.ListComp j [⟨tg,f,l,0⟩] scope pos) scope X.env _ (newList []) false (eval f X.env) (some (assign (.Name y u) X.env))) _ _ s;refine aa (dr (wpAny_comprehension_free (use:=some (assign (.Name y u) X.env)) (Q:=λ_ s'=>SP X pins D .next s') rfl hs (I.clos n) t (λx Y hk=>by rw[<-hk];exact T x Y)
  (a4i (RR:=compPost (model X.prog X.w) X.A X.xe (some (assign (.Name y u) X.env)) (λ_ s'=>SP X pins D .next s')) hc hi n B F hg ht S I h ?_)) (λ_ s' hq=>ai (ai hq)) λ_ _ e=>e)
 intro s2 s4 H2 H4 fp d pl σ4 ys us k w f2 L Z M r4 hz q;obtain⟨m,V,_⟩:=L.loc;have E:s4.heap.Ns (s2.heap.objs.size+1) m:=V;have O:H4 (s2.heap.objs.size+1)=none:=L.free;have J:=Inv.unblock w f2 (ek _) (ao _) (aR (ck _)) L Z M r4 hz (Heap.SameBut.refl _ _);have K:s2.heap.objs.size+1≠X.env.locals:=dv (cc w.lt);have G:∀x c,X.env.cells.lookup x=some c->c≠s2.heap.objs.size+1:=λx c e=>by
  obtain⟨v,z⟩:=w.cell x c e;exact aR (cc z.lt)
 show wpAny _ X.A (assign (.Name y u) X.env (.ref s2.heap.objs.size)) _ _ s4;refine wpAny_assign_Name (a3L (v:=.ref s2.heap.objs.size) J hN hy Y rfl (λs' I' hb=>?_) hf);obtain⟨a,sb,P⟩:=hb;have A:s2.heap.objs.size+1≠a:=by
  rcases P with rfl|P
  .exact K
  .exact(G _ _ P).symm
 refine⟨m,E.sameBut sb A,λh' R=>⟨_,_,I'.turned (t':=s'.toks) (it:=s2.heap.objs.size+1) (λb o U e=>R.extBut b o U e) ?_ K (.inr (bj w.sz (ek _))) G λp hp=>?_,q⟩⟩
 .rw[A3 (dv (ck _))];exact O
 .exact aR (cc (aK (w.pin p hp).1))
end
def SqAt(k:Bool)(h:Heap)(l:Addr)(xs:Array Value):Prop:=match k with|true=>h.IsTuple l xs|false=>h.IsList l xs
def ItAt(k:Bool)(h:Heap)(i l:Addr)(n:Nat):Prop:=match k with|true=>h.IsTupleIter i l n|false=>h.IsListIter i l n
noncomputable def b7j:Bool->String|true => "tuple_iterator" | false => "list_iterator"
noncomputable def a1J(k:Bool)(l:Addr):Obj:={cls:=.type (b7j k),data:=.fields #[.ref l,.int 0 0]}
theorem ItAt.extBut{k:Bool}{h h':Heap}{i l b:Addr}{n:Nat}(x:ItAt k h i l n)(hs:Heap.ExtBut b h h')(a:i≠b):ItAt k h' i l n:=by
 cases k
 .exact Heap.IsListIter.extBut x hs a
 .exact Heap.IsTupleIter.extBut x hs a
theorem ItAt.at{k:Bool}{h h':Heap}{i l:Addr}{n:Nat}(x:ItAt k h i l n)(e:∀o,h.get? i=some o->h'.get? i=some o):ItAt k h' i l n:=by
 cases k
 .exact Heap.IsListIter.at x e
 .exact Heap.IsTupleIter.at x e
theorem ItAt.get{k:Bool}{h:Heap}{i l:Addr}{n:Nat}(x:ItAt k h i l n):∃o,h.get? i=some o/\o.data=.fields #[.ref l,.int n 0]:=by
 cases k<;>obtain⟨o,e,c,d⟩:=x<;>exact⟨o,e,d⟩
theorem SqAt.extBut{k:Bool}{h h':Heap}{l b:Addr}{xs:Array Value}(x:SqAt k h l xs)(hs:Heap.ExtBut b h h')(a:l≠b):SqAt k h' l xs:=by
 cases k
 .exact Heap.IsList.extBut x hs a
 .exact Heap.IsTuple.extBut x hs a
theorem SqAt.at{k:Bool}{h h':Heap}{l:Addr}{xs:Array Value}(x:SqAt k h l xs)(e:∀o,h.get? l=some o->h'.get? l=some o):SqAt k h' l xs:=by
 cases k<;>obtain⟨o,q,r⟩:=x<;>exact⟨o,e o q,r⟩
theorem SqAt.get{k:Bool}{h:Heap}{l:Addr}{xs:Array Value}(x:SqAt k h l xs):∃o,h.get? l=some o:=by
 cases k<;>obtain⟨o,q,r⟩:=x<;>exact⟨o,q⟩
section
variable {prog:Program}{w:World}{A:Around}{E:Value->Shared->Prop}{s:Shared}
theorem a1Q{it t:Addr}{i:Nat}{items:Array Value}{x:Value}{Q:Value->Shared->Prop}(a:s.heap.IsTupleIter it t i)(g:s.heap.IsTuple t items)(h:items[i]?=some x)
  (e:∀h',h'.IsTupleIter it t (i+1)->Heap.SameBut it s.heap h'->Q x {s with heap:=h'}):wpAny (model prog w) A (Builtin.SmallTypes.nextOf (.ref it)) Q E s:=by
 obtain⟨o,b,f,hd⟩:=id a;obtain⟨k,d,_,j,c⟩:=g;unfold Builtin.SmallTypes.nextOf;refine aa (bM (name:=Str.ofString "__next__") a.typeIs dG
  (bK dG a.typeIs F.entry_tuple_iterator_next ?_ (F.args_tuple_iterator_next_1 _)))
 show wpAny _ _ (field (.ref it) 0>>=_) _ _ s;refine aa (cG b hd (x:=.ref t) rfl ?_);show wpAny _ _ (if (Value.ref t==Value.none)=true then _ else _) _ _ s;rw[ar (show ¬((Value.ref t==Value.none)=true)from aY)];show wpAny _ _ (field (.ref it) 1>>=_) _ _ s;refine aa (cG b hd (x:=.int i 0) rfl ?_);show wpAny _ _ (seqItems? (.ref t)>>=_) _ _ s;refine aa (cI d c ?_);simp only[bA,h];refine aa (dN b hd (by simp) (ai ⟨x,rfl,ai (e _ ?_ (cE ..))⟩));exact⟨_,cL _ b (eG (cO hd _)),(fv ..).trans f,by
  rw[cO hd];simp[rawInt]⟩
theorem a2L{it t:Addr}{i:Nat}{items:Array Value}{Q:Value->Shared->Prop}(g:A.handled=none)(b:s.heap.IsTupleIter it t i)(j:s.heap.IsTuple t items)(k:items[i]?=none)
  (h:∀h' e,Heap.ExtBut it s.heap h'->(∃o,h'.get? e=some o/\o.cls=.type "StopIteration")->E (.ref e) {s with heap:=h'}) :
  wpAny (model prog w) A (Builtin.SmallTypes.nextOf (.ref it)) Q E s:=by
 obtain⟨o,d,l,hd⟩:=id b;obtain⟨p,f,_,n,c⟩:=j;unfold Builtin.SmallTypes.nextOf;refine aa (bM (name:=Str.ofString "__next__") b.typeIs dG
  (bK dG b.typeIs F.entry_tuple_iterator_next ?_ (F.args_tuple_iterator_next_1 _)))
 show wpAny _ _ (field (.ref it) 0>>=_) _ _ s;refine aa (cG d hd (x:=.ref t) rfl ?_);show wpAny _ _ (if (Value.ref t==Value.none)=true then _ else _) _ _ s;rw[ar (show ¬((Value.ref t==Value.none)=true)from aY)];show wpAny _ _ (field (.ref it) 1>>=_) _ _ s;refine aa (cG d hd (x:=.int i 0) rfl ?_);show wpAny _ _ (seqItems? (.ref t)>>=_) _ _ s;refine aa (cI f c ?_);simp only[bA,k];refine aa (fh (aa (dN d hd (by simp) ?_)));show wpAny _ _ (newExc (.type "StopIteration") []>>=_) _ _ _;refine aa ?_;simp only[newExc,newTuple];refine aa (bV ?_ (by size_fits));refine aa (m:=firstArgMember _ _) (wpAny_of_eq (a:=Value.none) (by first|rfl | (simp only[firstArgMember];rfl)) ?_);refine bV ?_ (by size_fits);simp only[raiseNew];refine aa (wpAny_handled ?_)
 first|rw[show A.in1.handled=none from g]|rw[g]
 refine aa (ai (wpAny_throw ?_));exact h _ _ (((cE ..).extBut.push _).push _) ⟨_,aH _ rfl,rfl⟩
theorem a2s{k:Bool}{it l:Addr}{i:Nat}{items:Array Value}{x:Value}{Q:Value->Shared->Prop}(a:ItAt k s.heap it l i)(c:SqAt k s.heap l items)(d:items[i]?=some x)
  (b:∀h',ItAt k h' it l (i+1)->Heap.SameBut it s.heap h'->Q x {s with heap:=h'}):wpAny (model prog w) A (Builtin.SmallTypes.nextOf (.ref it)) Q E s:=by
 cases k
 .exact wpAny_nextOf_list_item a c d b
 .exact a1Q a c d b
theorem a8c{k:Bool}{it l:Addr}{i:Nat}{items:Array Value}{Q:Value->Shared->Prop}(c:A.handled=none)(a:ItAt k s.heap it l i)(d:SqAt k s.heap l items)(f:items[i]?=none)
  (b:∀h' e,Heap.ExtBut it s.heap h'->(∃o,h'.get? e=some o/\o.cls=.type "StopIteration")->E (.ref e) {s with heap:=h'}) :
  wpAny (model prog w) A (Builtin.SmallTypes.nextOf (.ref it)) Q E s:=by
 cases k
 .exact wpAny_nextOf_list_end c a d f b
 .exact a2L c a d f b
theorem W4{k:Bool}{l:Addr}{items:Array Value}{Q:Value->Shared->Prop}(b:SqAt k s.heap l items)(a:Q (.ref s.heap.objs.size) {s with heap:=s.heap.push (a1J k l)}):wpAny (model prog w) A (pyIter (.ref l)) Q E s:=by
 cases k
 .exact fu b a
 .exact wpAny_pyIter_tuple b a
end
section
variable {prog:Program}{w:World}{A:Around}{E:Value->Shared->Prop}{s:Shared}{k1 k2:Bool}
theorem b0B{z TI TO f g l m:Addr}{p q:Nat}{xs ys:Array Value}{x y a b:Value}{Q:Value->Shared->Prop}(D:ZipApart z TI TO f g l m)
  (j:IsZip s.heap z TI TO .none) (B:IsPair s.heap TI (.ref f) (.ref g)) (C:IsPair s.heap TO a b)
  (h1:ItAt k1 s.heap f l p) (h2:ItAt k2 s.heap g m q) (F:SqAt k1 s.heap l xs) (G:SqAt k2 s.heap m ys) (I:xs[p]?=some x) (J:ys[q]?=some y)
  (H:∀h',IsZip h' z TI TO (rawInt s.heap.objs.size)->IsPair h' TO x y->ItAt k1 h' f l (p+1)->ItAt k2 h' g m (q+1)->IsPair h' s.heap.objs.size x y->h'.objs.size=s.heap.objs.size+1 ->
   (∀c o,c≠z->c≠TO->c≠f->c≠g->s.heap.get? c=some o->h'.get? c=some o)->Q (.ref s.heap.objs.size) {s with heap:=h'}) :
  wpAny (model prog w) A (Builtin.«zip.__next__» ⟨[.ref z],[]⟩) (λfin s'=>∃v,fin=.done (.ret v)/\Q v s') E s:=by
 show wpAny _ _ (field (.ref z) 2>>=_) _ _ _;refine aa (cG j rfl (x:=.bool false) rfl ?_);show wpAny _ _ (field (.ref z) 3>>=_) _ _ _;refine aa (cG j rfl (x:=.ref TI) rfl ?_);refine aa (cI B rfl ?_);show wpAny _ _ (Builtin.SmallTypes.ownedTupleIsFree (.ref z)>>=_) _ _ _;refine aa ?_;unfold Builtin.SmallTypes.ownedTupleIsFree;refine aa (cG j rfl (x:=.none) rfl (ai ?_));simp only[fj];refine aa (fh ?_);refine aa (cG j rfl (x:=.ref TO) rfl ?_);refine aa (dy j (by simp) λh₁ hz₁ hs₁=>?_);replace hz₁:IsZip h₁ z TI TO .ellipsis:=hz₁;refine aa ?_;simp only[List.zipIdx_cons,List.zipIdx_nil,List.forIn_cons,List.forIn_nil];refine aa (aa (wpAny_onRaise ?_));show wpAny _ _ (Builtin.SmallTypes.nextOf (.ref f)>>=_) _ _ _;refine aa (a2s (h1.extBut hs₁.extBut D.i1z) (F.extBut hs₁.extBut D.l1z) I λh₂ h1₂ hs₂=>ai ?_);have hTO₂:IsPair h₂ TO a b:=hs₂.extBut _ _ D.TOi1 (hs₁.extBut _ _ D.TOz C);refine aa (cI hTO₂ rfl ?_);refine aa (fR hTO₂ λh₃ hTO₃ hs₃=>?_);replace hTO₃:IsPair h₃ TO x b:=hTO₃;refine aa (wpAny_letGo (ai ?_));refine aa (aa (wpAny_onRaise ?_));show wpAny _ _ (Builtin.SmallTypes.nextOf (.ref g)>>=_) _ _ _;refine aa (a2s (((h2.extBut hs₁.extBut D.i2z).extBut hs₂.extBut D.i12.symm).extBut hs₃.extBut D.TOi2.symm)
  (((G.extBut hs₁.extBut D.l2z).extBut hs₂.extBut D.l2i1).extBut hs₃.extBut D.l2TO) J λh₄ h2₄ hs₄=>ai ?_)
 have hTO₄:IsPair h₄ TO x b:=hs₄.extBut _ _ D.TOi2 hTO₃;refine aa (cI hTO₄ rfl ?_);refine aa (fR hTO₄ λh₅ hTO₅ hs₅=>?_);replace hTO₅:IsPair h₅ TO x y:=hTO₅;refine aa (wpAny_letGo (ai (ai ?_)));refine aa (cI hTO₅ rfl ?_);refine aa (wpAny_newTuple ?_);have i:h₅.objs.size=s.heap.objs.size:=by rw[hs₅.1,hs₄.1,hs₃.1,hs₂.1,hs₁.1]
 have hz₅:IsZip h₅ z TI TO .ellipsis:=hs₅.extBut _ _ D.TOz.symm (hs₄.extBut _ _ D.i2z.symm (hs₃.extBut _ _ D.TOz.symm (hs₂.extBut _ _ D.i1z.symm hz₁)));have hk₅:∀c o,c≠z->c≠TO->c≠f->c≠g->s.heap.get? c=some o->h₅.get? c=some o:=λc o h n t u e =>
  hs₅.extBut _ _ n (hs₄.extBut _ _ u (hs₃.extBut _ _ n (hs₂.extBut _ _ t (hs₁.extBut _ _ h e))))
 have h1₅:ItAt k1 h₅ f l (p+1):=((h1₂.extBut hs₃.extBut D.TOi1.symm).extBut hs₄.extBut D.i12).extBut hs₅.extBut D.TOi1.symm;have h2₅:ItAt k2 h₅ g m (q+1):=h2₄.extBut hs₅.extBut D.TOi2.symm;have d:z<h₅.objs.size:=aK hz₅;show wpAny _ _ (Builtin.SmallTypes.ownedTupleHandOut (.ref z) (.ref h₅.objs.size)>>=_) _ _ _;refine aa ?_;unfold Builtin.SmallTypes.ownedTupleHandOut;have hz₆:IsZip (h₅.push {cls:=.type "tuple",data:=.seq #[x,y]}) z TI TO .ellipsis:=ag _ hz₅;refine aa (dy hz₆ (by simp) λh₇ hz₇ hs₇=>?_);replace hz₇:IsZip h₇ z TI TO (rawInt h₅.objs.size):=hz₇;refine dy hz₇ (by simp) λh₈ hz₈ hs₈=>?_;replace hz₈:IsZip h₈ z TI TO (rawInt h₅.objs.size):=hz₈;have r:∀c o,c≠z->h₅.get? c=some o->h₈.get? c=some o:=λc o h e=>hs₈.extBut _ _ h (hs₇.extBut _ _ h (ag _ e));have hT₈:IsPair h₈ h₅.objs.size x y:=hs₈.extBut _ _ (dv d) (hs₇.extBut _ _ (dv d) (aH _ rfl));have k:h₈.objs.size=h₅.objs.size+1:=by rw[hs₈.1,hs₇.1,bC]
 rw[i]at hz₈ hT₈ k;refine ai ⟨_,rfl,?_⟩;show Q (.ref h₅.objs.size) _;rw[i];exact H h₈ hz₈ (r _ _ D.TOz hTO₅) (h1₅.at λo e=>r _ o D.i1z e) (h2₅.at λo e=>r _ o D.i2z e) hT₈ k λc o h n t u e=>r c o h (hk₅ c o h n t u e)
theorem b3n{z TI TO m n y B:Addr}{C F:Nat}{xs ys:Array Value}{a b:Value}{Q:Fin->Shared->Prop}(I:A.handled=none)(D:ZipApart z TI TO m n y B)
  (l:IsZip s.heap z TI TO .none) (q:IsPair s.heap TI (.ref m) (.ref n)) (r:IsPair s.heap TO a b)
  (h1:ItAt k1 s.heap m y C) (h2:ItAt k2 s.heap n B F) (k:SqAt k1 s.heap y xs) (u:SqAt k2 s.heap B ys) (j:xs[C]?=none∨ys[F]?=none)
  (H:∀h' e,(∀c o,c≠z->c≠TO->c≠m->c≠n->s.heap.get? c=some o->h'.get? c=some o)->(∃o,h'.get? e=some o/\o.cls=.type "StopIteration")->E (.ref e) {s with heap:=h'}) :
  wpAny (model prog w) A (Builtin.«zip.__next__» ⟨[.ref z],[]⟩) Q E s:=by
 show wpAny _ _ (field (.ref z) 2>>=_) _ _ _;refine aa (cG l rfl (x:=.bool false) rfl ?_);show wpAny _ _ (field (.ref z) 3>>=_) _ _ _;refine aa (cG l rfl (x:=.ref TI) rfl ?_);refine aa (cI q rfl ?_);show wpAny _ _ (Builtin.SmallTypes.ownedTupleIsFree (.ref z)>>=_) _ _ _;refine aa ?_;unfold Builtin.SmallTypes.ownedTupleIsFree;refine aa (cG l rfl (x:=.none) rfl (ai ?_));simp only[fj];refine aa (fh ?_);refine aa (cG l rfl (x:=.ref TO) rfl ?_);refine aa (dy l (by simp) λh₁ hz₁ hs₁=>?_);replace hz₁:IsZip h₁ z TI TO .ellipsis:=hz₁;refine aa ?_;simp only[List.zipIdx_cons,List.zipIdx_nil,List.forIn_cons,List.forIn_nil];refine aa (aa (wpAny_onRaise ?_));show wpAny _ _ (Builtin.SmallTypes.nextOf (.ref m)>>=_) _ _ _;cases v:xs[C]? with
 |none =>
  refine aa (a8c I (h1.extBut hs₁.extBut D.i1z) (k.extBut hs₁.extBut D.l1z) v λh₂ e hs₂ t=>?_);obtain⟨G,d,f⟩:=t;have hz₂:IsZip h₂ z TI TO .ellipsis:=hs₂ _ _ D.i1z.symm hz₁;have g:e≠z:=λx=>by subst x;rw[hz₂]at d;cases d;simp at f
  refine dy hz₂ (by simp) λh₃ _ hs₃=>H h₃ e (λc o i _ p _ x=>hs₃.extBut _ _ i (hs₂ _ _ p (hs₁.extBut _ _ i x))) ⟨G,hs₃.extBut _ _ g d,f⟩
 |some x =>
  have L:ys[F]?=none:=by rcases j with h|h;rw[v]at h;cases h;exact h
  refine aa (a2s (h1.extBut hs₁.extBut D.i1z) (k.extBut hs₁.extBut D.l1z) v λh₂ h1₂ hs₂=>ai ?_);have hTO₂:IsPair h₂ TO a b:=hs₂.extBut _ _ D.TOi1 (hs₁.extBut _ _ D.TOz r);refine aa (cI hTO₂ rfl ?_);refine aa (fR hTO₂ λh₃ hTO₃ hs₃=>?_);refine aa (wpAny_letGo (ai ?_));refine aa (aa (wpAny_onRaise ?_));show wpAny _ _ (Builtin.SmallTypes.nextOf (.ref n)>>=_) _ _ _;refine aa (a8c I (((h2.extBut hs₁.extBut D.i2z).extBut hs₂.extBut D.i12.symm).extBut hs₃.extBut D.TOi2.symm)
   (((u.extBut hs₁.extBut D.l2z).extBut hs₂.extBut D.l2i1).extBut hs₃.extBut D.l2TO) L λh₄ e hs₄ t=>?_)
  obtain⟨G,d,f⟩:=t;have hz₄:IsZip h₄ z TI TO .ellipsis:=hs₄ _ _ D.i2z.symm (hs₃.extBut _ _ D.TOz.symm (hs₂.extBut _ _ D.i1z.symm hz₁));have g:e≠z:=λx=>by subst x;rw[hz₄]at d;cases d;simp at f
  refine dy hz₄ (by simp) λh₅ _ hs₅=>H h₅ e (λc o i J p K x=>hs₅.extBut _ _ i (hs₄ _ _ K (hs₃.extBut _ _ J (hs₂.extBut _ _ p (hs₁.extBut _ _ i x))))) ⟨G,hs₅.extBut _ _ g d,f⟩
noncomputable abbrev zH1(k1:Bool)(h:Heap)(l1:Addr):Heap:=h.push (a1J k1 l1)
noncomputable abbrev zH2(k1 k2:Bool)(h:Heap)(l1 l2:Addr):Heap:=(zH1 k1 h l1).push (a1J k2 l2)
noncomputable abbrev zH3(k1 k2:Bool)(h:Heap)(l1 l2:Addr):Heap:=(zH2 k1 k2 h l1 l2).push {cls:=.type "tuple",data:=.seq #[.ref h.objs.size,.ref (zH1 k1 h l1).objs.size]}
noncomputable abbrev zH4(k1 k2:Bool)(h:Heap)(l1 l2:Addr):Heap:=(zH3 k1 k2 h l1 l2).push {cls:=.type "tuple",data:=.seq #[.none,.none]}
noncomputable abbrev zH5(k1 k2:Bool)(h:Heap)(l1 l2:Addr):Heap:=(zH4 k1 k2 h l1 l2).push {cls:=.type "zip",data:=.fields #[.none,.bool false,.bool false,.ref (zH2 k1 k2 h l1 l2).objs.size,.ref (zH3 k1 k2 h l1 l2).objs.size]}
theorem b3l(a b:Addr)(xs ys:Array Value) :
  Meets (Builtin.«zip.__new__» ⟨[.type "zip",.ref a,.ref b],[]⟩) (λ_ R s=>SqAt k1 s.heap a xs/\SqAt k2 s.heap b ys /\
   R (.ok (.ret (.ref (zH4 k1 k2 s.heap a b).objs.size))) {s with heap:=zH5 k1 k2 s.heap a b}) :=
 .of_wp λprog w A R s h=>by
  obtain⟨k,g,d,tk,os⟩:=s;obtain⟨i,j,h⟩:=h;have l:=sub_zip;have c:SqAt k1 (Shared.heap ⟨k,g,d,tk,os⟩) a xs:=i;have f:SqAt k2 (Shared.heap ⟨k.push (a1J k1 a),g,d,tk,os⟩) b ys:=j.at λo e=>ag _ e
  wp_walk using W4 c,W4 f
  exact⟨_,rfl,h⟩
theorem b0D{a b:Addr}{xs ys:Array Value}{Q:Value->Shared->Prop}(e:SqAt k1 s.heap a xs)(f:SqAt k2 s.heap b ys)
  (h:∀h',IsZip h' (s.heap.objs.size+4) (s.heap.objs.size+2) (s.heap.objs.size+3) .none->IsPair h' (s.heap.objs.size+2) (.ref s.heap.objs.size) (.ref (s.heap.objs.size+1)) ->
   IsPair h' (s.heap.objs.size+3) .none .none->ItAt k1 h' s.heap.objs.size a 0->ItAt k2 h' (s.heap.objs.size+1) b 0->h'.objs.size=s.heap.objs.size+5 ->
   (∀c o,s.heap.get? c=some o->h'.get? c=some o)->Q (.ref (s.heap.objs.size+4)) {s with heap:=h'}) :
  wpAny (model prog w) A (call (.type "zip") [.ref a,.ref b]) Q E s:=by
 refine callType_new F.called_zip (by decide) (F.typeCall_zip_2 _ _) (F.newCall_zip_2 _ _) (λobj=>F.args_object_init_3 obj _ _) F.entry_zip_new
  (b3l (k1:=k1) (k2:=k2) a b xs ys) ⟨e,f,?_⟩
 have g:(zH1 k1 s.heap a).objs.size=s.heap.objs.size+1:=bC ..;have i:(zH2 k1 k2 s.heap a b).objs.size=s.heap.objs.size+2:=by rw[bC,g]
 have j:(zH3 k1 k2 s.heap a b).objs.size=s.heap.objs.size+3:=by rw[bC,i]
 have k:(zH4 k1 k2 s.heap a b).objs.size=s.heap.objs.size+4:=by rw[bC,j]
 have q:(zH5 k1 k2 s.heap a b).objs.size=s.heap.objs.size+5:=by rw[bC,k]
 have d:(zH5 k1 k2 s.heap a b).get? (zH4 k1 k2 s.heap a b).objs.size=some _:=aH _ rfl;have n:(zH5 k1 k2 s.heap a b).get? (zH3 k1 k2 s.heap a b).objs.size=some _:=ag _ (aH _ rfl);have m:(zH5 k1 k2 s.heap a b).get? (zH2 k1 k2 s.heap a b).objs.size=some _:=ag _ (ag _ (aH _ rfl));have l:(zH5 k1 k2 s.heap a b).get? (zH1 k1 s.heap a).objs.size=some (a1J k2 b):=ag _ (ag _ (ag _ (aH _ rfl)));have p:(zH5 k1 k2 s.heap a b).get? s.heap.objs.size=some (a1J k1 a):=ag _ (ag _ (ag _ (ag _ (aH _ rfl))));show _/\_;rw[i,j,k]at d;rw[g,i]at m;rw[j]at n;rw[g]at l;rw[k];refine⟨⟨_,d,rfl⟩,h _ d m n ?_ ?_ q λc o x =>
  ag _ (ag _ (ag _ (ag _ (ag _ x))))⟩
 .cases k1<;>exact⟨_,p,rfl,rfl⟩
 .cases k2<;>exact⟨_,l,rfl,rfl⟩
end
def SqK(k:Bool)(K:PySem.W.Frag)(H:Hp)(a:Addr)(xs:List V):Prop:=match k with|true=>SqT K H a xs|false=>SqL K H a xs
theorem Inv.sqk{X:Cx}{pins:List (Addr×Obj)}{σ:St}{H:Hp}{s:Shared}{k:Bool}{a:Addr}{xs:List V}(I:Inv X pins σ H s)(h:SqK k X.K H a xs):∃its:List Value,Vals xs its/\SqAt k s.heap a its.toArray/\xs.length<=sizeLine:=by
 cases k
 .obtain⟨its,r,p,z⟩:=I.list h;exact⟨its,r,p.isList,z⟩
 .obtain⟨its,r,p,z⟩:=I.tuple h;exact⟨its,r,p,z⟩
theorem Inv.sqk_inj{X:Cx}{pins:List (Addr×Obj)}{σ:St}{H:Hp}{s:Shared}{k:Bool}{a:Addr}{xs ys:List V}(I:Inv X pins σ H s)(h:SqK k X.K H a xs)(h':SqK k X.K H a ys):xs=ys:=by
 cases k
 .exact I.list_inj h h'
 .exact I.tuple_inj h h'
noncomputable def Itz(K:PySem.W.Frag)(k1 k2:Bool)(a b:Addr):It :=
 ⟨λi H=>∃xs ys x y,SqK k1 K H a xs/\SqK k2 K H b ys/\xs[i]?=some x/\ys[i]?=some y,
  λi H v H'=>∃p x y,v=.ref p/\H p=none/\H'=upd H p (.tup [x,y])/\(∀xs,SqK k1 K H a xs->xs[i]?=some x)/\∀ys,SqK k2 K H b ys->ys[i]?=some y,
  λi H=>∃xs ys,SqK k1 K H a xs/\SqK k2 K H b ys/\(xs.length<=i∨ys.length<=i)⟩
structure ZTurn(k1 k2:Bool)(z TI TO i1 i2 a b:Addr)(i:Nat)(f0:Value)(h:Heap):Prop where
 zz:IsZip h z TI TO f0
 ti:IsPair h TI (.ref i1) (.ref i2)
 to:∃u v,IsPair h TO u v
 t1:ItAt k1 h i1 a i
 t2:ItAt k2 h i2 b i
structure ZNe(z TI TO i1 i2:Addr):Prop where
 TIz:TI≠z
 TOz:TO≠z
 i1z:i1≠z
 i2z:i2≠z
 TITO:TI≠TO
 TIi1:TI≠i1
 TIi2:TI≠i2
 TOi1:TO≠i1
 TOi2:TO≠i2
 i12:i1≠i2
section
variable {X:Cx}{pins:List (Addr×Obj)}{σ:St}{H:Hp}{s:Shared}
theorem Inv.turnedT{h':Heap}{ch:List Addr}{p:Addr}{o:HO}(I:Inv X pins σ H s)(h:∀b∈ch,a1w X pins H b)(hp:s.heap.objs.size=p)(k:∀b o,b∉ch->s.heap.get? b=some o->h'.get? b=some o)
  (new:ObjOk X.prog X.w (upd H p o) h' p o):Inv X pins σ (upd H p o) {s with heap:=h'}:=by
 have l:H p=none:=I.hok.fresh (Nat.le_of_eq hp);have f:∀b u,H b=some u->b∉ch:=λb u e z=>by rw[(h b z).1]at e;cases e
 have a:∀b u,H b=some u->b≠p:=λb u e z=>by rw[z,l]at e;cases e
 have i:∀b u,s.heap.get? b=some u->b≠p:=λb u e=>by
  rw[<-hp];exact aR (aK e)
 refine I.step (g':=s.gens) (d':=s.drawn) (t':=s.toks) (ch:=ch) (λb g=>?_) (λb o _ _ d e _=>k b o d e) (λb o _ _ d e _=>⟨o.slots,k b o d e⟩) (λb u _ e n=>by rw[A3 (i b u e)];exact n)
  (λb o d e=>⟨o,k b o d e⟩) (λb xs e=>by rw[A3 (a b _ e)];exact e) (λb u v e=>by rw[A3 (a b _ e)];exact e) (λb ps e=>⟨#[],by rw[A3 (a b _ e),e];simp⟩) (λm j=>?_) (λb u e=>?_) I.bare
 .obtain⟨_,h1,_,h3,h4,h5⟩:=h b g;exact⟨h3,h1,h4,h5⟩
 .obtain⟨o,es,ep,ho,r⟩:=j;exact⟨o,es,ep,k _ o (λz=>(h _ z).2.1 rfl) ho,r⟩
 .by_cases g:b=p
  .subst g;rw[A0]at e;cases e;exact new
  .rw[A3 g]at e;refine(I.hok b u e).stay (λc v d q=>k c v ?_ q) (λc q=>by rw[A3 (a c _ q)];exact q) λc xs q=>by rw[A3 (a c _ q)];exact q
   rcases d with z|z
   .rw[z];exact f b u e
   .exact f c _ z
theorem Inv.turnedL{h':Heap}{ch:List Addr}(I:Inv X pins σ H s)(f:∀b∈ch,a1w X pins H b)(k:∀b o,b∉ch->s.heap.get? b=some o->h'.get? b=some o):Inv X pins σ H {s with heap:=h'}:=by
 have d:∀b u,H b=some u->b∉ch:=λb u e z=>by rw[(f b z).1]at e;cases e
 refine I.step (g':=s.gens) (d':=s.drawn) (t':=s.toks) (ch:=ch) (λb g=>?_) (λb o _ _ a e _=>k b o a e) (λb o _ _ a e _=>⟨o.slots,k b o a e⟩) (λb u _ e n=>n)
  (λb o a e=>⟨o,k b o a e⟩) (λb xs e=>e) (λb u v e=>e) (λb ps e=>⟨#[],by rw[e];simp⟩) (λm h=>?_) (λb u e=>?_) I.bare
 .obtain⟨_,h1,_,h3,h4,h5⟩:=f b g;exact⟨h3,h1,h4,h5⟩
 .obtain⟨o,es,ep,ho,r⟩:=h;exact⟨o,es,ep,k _ o (λz=>(f _ z).2.1 rfl) ho,r⟩
 .refine(I.hok b u e).stay (λc v a q=>k c v ?_ q) (λc q=>q) λc xs q=>q;rcases a with z|z
  .rw[z];exact d b u e
  .exact d c _ z
theorem Inv.apart{k:Bool}{a:Addr}{xs:List V}{b:Addr}{o:Obj}(I:Inv X pins σ H s)(hs:SqK k X.K H a xs)(h:a1w X pins H b):a≠b:=by
 rintro rfl;have c:∀{u:HO},Rd H a u->False:=λr=>by
  rcases r with r|⟨o,r⟩<;>rw[h.1]at r<;>cases r
 have d:∀{f:Obj},X.K.lookup a=some f->False:=λe=>by
  have g:=I.mod.kin a _ e;rcases h.2.2.2.1 with z|z
  .exact I.ok.noex _ _ g z
  .exact absurd (aO (aK (I.ok.bs _ _ g).1) z) (b_ _)
 cases k
 .rcases hs with r|⟨f,_,_,e,_⟩
  .exact c r
  .exact d e
 .rcases hs with r|⟨f,_,_,e,_⟩
  .exact c r
  .exact d e
end
theorem b0K{P:Program}{w:World}{K:PySem.W.Frag}{es:List Expr}{kt:Nat}{tp:Pos}{k1 k2:Bool}{a b z TI TO j l:Addr}(D:ZNe z TI TO j l) :
  Turn P w K (.Tuple es kt tp) (Itz K k1 k2 a b) [z,TI,TO,j,l] z (λi h=>ZTurn k1 k2 z TI TO j l a b i .none h) where
 mem:=by simp
 obj:=λi h st c f=>by
  simp only[aD,bS,c_]at f;rcases f with rfl|rfl|rfl|rfl|rfl
  .exact⟨_,st.zz,λv z=>by cases z⟩
  .exact⟨_,st.ti,λv z=>by cases z⟩
  .obtain⟨u,v,q⟩:=st.to;exact⟨_,q,λv z=>by cases z⟩
  .obtain⟨o,e,d⟩:=st.t1.get;exact⟨o,e,λv z=>by rw[d]at z;cases z⟩
  .obtain⟨o,e,d⟩:=st.t2.get;exact⟨o,e,λv z=>by rw[d]at z;cases z⟩
 keep:=λi h h' st k=>⟨k z (by simp) _ st.zz,k TI (by simp) _ st.ti,let ⟨u,v,q⟩:=st.to;⟨u,v,k TO (by simp) _ q⟩,st.t1.at λo e=>k j (by simp) o e,st.t2.at λo e=>k l (by simp) o e⟩
 item:=by
  intro X N hw M f i pins s σ H E I t st O;subst N hw M;obtain⟨xs,ys,x,y,n,p,hx,hy⟩:=O;obtain⟨us,Y,V,zu⟩:=I.sqk n;obtain⟨ws,C,W,zw⟩:=I.sqk p;obtain⟨u,hu,Z⟩:=Y.get hx;obtain⟨v,hv,a0⟩:=C.get hy;have g:∀c∈[z,TI,TO,j,l],a≠c/\b≠c:=λc f=>⟨I.apart (o:=default) n (t c f),I.apart (o:=default) p (t c f)⟩;have L:ZipApart z TI TO j l a b:=⟨D.TIz,D.TOz,D.i1z,D.i2z,D.TITO,D.TIi1,D.TIi2,D.TOi1,D.TOi2,D.i12,(g z (by simp)).1,(g TO (by simp)).1,(g j (by simp)).1,(g l (by simp)).1,(g z (by simp)).2,(g TO (by simp)).2,(g j (by simp)).2,(g l (by simp)).2⟩;obtain⟨ua,ub,r⟩:=st.to;have G:s.TypeIs (.ref z) "zip":=⟨_,st.zz,rfl⟩;unfold pyNext;refine aa (dX (bM (name:=Str.ofString "__next__") G fS
   (bK fS G F.entry_zip_next
    (b0B L st.zz st.ti r st.t1 st.t2 V W (x:=u) (y:=v) (by simpa using hu) (by simpa using hv) λh' a1 a2 a3 a4 a5 a6 a7=>ai ?_) (F.args_zip_next_1 _))))
  refine⟨_,rfl,?_⟩;refine wpAny_letOwnedTupleGo_zip (s:={s with heap:=h'}) a1 λh2 S m=>?_;have ne:∀c∈[z,TI,TO,j,l],c≠s.heap.objs.size:=λc f e=>by
   have:∃o,s.heap.get? c=some o:=by
    simp only[aD,bS,c_]at f;rcases f with rfl|rfl|rfl|rfl|rfl
    .exact⟨_,st.zz⟩
    .exact⟨_,st.ti⟩
    .exact⟨_,r⟩
    .obtain⟨o,e,d⟩:=st.t1.get;exact⟨o,e⟩
    .obtain⟨o,e,d⟩:=st.t2.get;exact⟨o,e⟩
   obtain⟨o,q⟩:=this;exact absurd (aK q) (by rw[e];exact b_ _)
  have B:H s.heap.objs.size=none:=I.hok.fresh (ao _);have U:IsPair h2 s.heap.objs.size u v:=m.extBut _ _ (ne z (by simp)).symm a5;have kk:∀c o,c∉[z,TI,TO,j,l]->s.heap.get? c=some o->h2.get? c=some o:=λc o f e=>by
   simp only[aD,bS,c_,not_or]at f;exact m.extBut _ _ f.1 (a7 c o f.1 f.2.2.1 f.2.2.2.1 f.2.2.2.2 e)
  have I2:Inv X pins σ (upd H s.heap.objs.size (.tup [x,y])) {s with heap:=h2} :=
   I.turnedT (ch:=[z,TI,TO,j,l]) t rfl kk ⟨by show 2<=sizeLine;decide,[u,v],.cons Z (.cons a0 .nil),⟨_,U,rfl,0,rfl⟩⟩
  refine⟨.ref s.heap.objs.size,_,I2,rfl,⟨_,x,y,rfl,B,rfl,λzs R=>?_,λzs R=>?_⟩,⟨S,m.extBut _ _ D.TIz (a7 _ _ D.TIz D.TITO D.TIi1 D.TIi2 st.ti),⟨u,v,m.extBut _ _ D.TOz a2⟩,a3.extBut m.extBut D.i1z,a4.extBut m.extBut D.i2z⟩,λc f=>?_⟩
  .rw[I.sqk_inj R n];exact hx
  .rw[I.sqk_inj R p];exact hy
  .rw[A3 (ne c f)];exact(t c f).1
 done:=by
  intro X N hw M f i pins s σ H E I t st O;subst N hw M;obtain⟨xs,ys,n,p,J⟩:=O;obtain⟨us,Y,V,zu⟩:=I.sqk n;obtain⟨ws,C,W,zw⟩:=I.sqk p;have l1:=Y.length;have l2:=C.length;have g:∀c∈[z,TI,TO,j,l],a≠c/\b≠c:=λc f=>⟨I.apart (o:=default) n (t c f),I.apart (o:=default) p (t c f)⟩;have L:ZipApart z TI TO j l a b:=⟨D.TIz,D.TOz,D.i1z,D.i2z,D.TITO,D.TIi1,D.TIi2,D.TOi1,D.TOi2,D.i12,(g z (by simp)).1,(g TO (by simp)).1,(g j (by simp)).1,(g l (by simp)).1,(g z (by simp)).2,(g TO (by simp)).2,(g j (by simp)).2,(g l (by simp)).2⟩;obtain⟨ua,ub,r⟩:=st.to;have G:s.TypeIs (.ref z) "zip":=⟨_,st.zz,rfl⟩;unfold pyNext;refine aa (dX (bM (name:=Str.ofString "__next__") G fS
   (bK fS G F.entry_zip_next (b3n (I.ok.hd f) L st.zz st.ti r st.t1 st.t2 V W ?_ λh' e hk he=>?_) (F.args_zip_next_1 _))))
  .rcases J with q|q
   .exact .inl (by simp;omega)
   .exact .inr (by simp;omega)
  .obtain⟨o,ho,f⟩:=he;refine aa (fJ (T:="StopIteration") (b:=true) ⟨o,ho,f⟩ isSubtype_stop ?_);refine ai ⟨rfl,I.turnedL (ch:=[z,TI,TO,j,l]) t λc o f e=>?_⟩;simp only[aD,bS,c_,not_or]at f;exact hk c o f.1 f.2.2.1 f.2.2.2.1 f.2.2.2.2 e
 self:=λA i s Q E st h=>wpAny_pyIter_zip st.zz h
theorem nne{a b:Nat}(h:a≠b):@Ne Addr a b:=h
theorem zne(n:Nat):ZNe (n+4) (n+2) (n+3) n (n+1) :=
 ⟨nne (by omega),nne (by omega),nne (by omega),nne (by omega),nne (by omega),nne (by omega),nne (by omega),nne (by omega),nne (by omega),nne (by omega)⟩
def b7l(K:PySem.W.Frag)(ta:TA):TI:=λσ H R=>ta σ H λvs H1=>∃k1 k2 a b,vs=[.ref a,.ref b]/\(∃xs,SqK k1 K H1 a xs)/\(∃ys,SqK k2 K H1 b ys)/\R (Itz K k1 k2 a b) H1
section
variable {X:Cx}
theorem b6o{es:List Expr}{u:Nat}{z:Pos}{a b:Expr}{ta:TA}{p pos:Pos}(m:Gl X "zip")(n:X.mg "zip"=none)(l:PA X [a,b] ta)(i:bootBuiltins "zip"=some (.type "zip"))
  (hs:starEach [a,b] X.env=[(false,eval a X.env),(false,eval b X.env)]:=by rfl) (g:starEach [b] X.env=[(false,eval b X.env)]:=by rfl) :
  PI X (.Tuple es u z) (.Call (.Name "zip" p) [a,b] [] pos) (b7l X.K ta):=by
 intro pins s σ H R I h;refine Call_ (a2R I m n i (eI (thn (l pos pins s σ H _ I h) λA s1 ⟨vs,H1,d,x,q1⟩=>?_) (by rw[hs,g]) (by rw[g];rfl)));obtain⟨k1,k2,G,J,e,⟨xs,o⟩,⟨ys,t⟩,q⟩:=q1;subst e;cases x with
 |cons r rr =>
  cases rr with
  |cons r' rr =>
   cases rr;cases r;cases r';obtain⟨A,K,v,N⟩:=d.sqk o;obtain⟨L,y,w,O⟩:=d.sqk t;refine b0D v w λh' k B C D E M F=>?_;refine wpAny_pyIter_zip (s:={s1 with heap:=h'}) k ?_;refine⟨s1.heap.objs.size+4,[s1.heap.objs.size+4,s1.heap.objs.size+2,s1.heap.objs.size+3,s1.heap.objs.size,s1.heap.objs.size+1],_,_,H1,rfl,d.kept (t':=s1.toks) F,b0K (zne _),
    ⟨k,B,⟨_,_,C⟩,D,E⟩,λc j=>?_,q⟩
   have f:s1.heap.objs.size<=c:=by
    simp only[aD,bS,c_]at j;rcases j with rfl|rfl|rfl|rfl|rfl
    .exact cm _ _
    .exact cm _ _
    .exact cm _ _
    .exact ao _
    .exact cm _ _
   exact d.fpOk f (d.hok.fresh f)
end
theorem a2o{prog:Program}{w:World}{A:Around}{k:Bool}{I l:Addr}{items:Array Value}(b:A.handled=none)(a:l≠I) :
  Walks prog w A I [I,l] [I] items.size (λi v=>items[i]?=some v) (λi h=>ItAt k h I l i/\SqAt k h l items):=by
 cases k
 .exact Walks.list b I l a items
 .exact Walks.tuple b I l a items
noncomputable def trV:V->Bool
 |.bl b=>b
 |.int i=>i != 0
 |.non=>false
 |_=>true
noncomputable def a4d:V->Bool
 |.bl _=>true
 |.int _=>true
 |.non=>true
 |_=>false
theorem a1z{prog:Program}{w:World}{A:Around}{E:Value->Shared->Prop}{s:Shared}{x:V}{v:Value}{Q:Bool->Shared->Prop}(r:RelV x v)(f:a4d x=true)(h:Q (trV x) s):wpAny (model prog w) A (truthy v) Q E s:=by
 cases x with
 |non=>cases r;exact truthy_none h
 |bl b=>cases r;exact df h
 |int i=>obtain⟨t,rfl⟩:=r;exact PySem.P.truthy_int h
 |_=>cases f
theorem a3T{α:Type}(xs:List α)(p:α->Bool)(d:α):(List.range xs.length).all (λi=>p (xs.getD i d))=xs.all p:=by
 rw[bQ,aJ,aJ];constructor
 .intro h x hx;obtain⟨i,hi,rfl⟩:=cn.mp hx;have:=h i (aX.mpr hi);simpa[aq,hi]using this
 .intro h i hi;have a:=aX.mp hi;simpa[aq,a]using h xs[i] (cY a)
theorem a9x{α:Type}(xs:List α)(p:α->Bool)(d:α):(List.range xs.length).any (λi=>p (xs.getD i d))=xs.any p:=by
 have:=a3T xs (λx=>!p x) d;rw[<-List.not_any_eq_all_not,<-List.not_any_eq_all_not]at this;simpa using this
theorem a8t(xs:List Int):∀n,n<=xs.length->preSum (λi=>xs.getD i 0) n=(xs.take n).sum
 |0,_=>by simp[preSum]
 |n+1,h=>by
  have this:xs[n]?=some xs[n]:=aj (by omega);have e:xs.take (n+1)=xs.take n++[xs[n]]:=by rw[bu,this];rfl
  rw[preSum,a8t xs n (by omega),e,List.sum_append];simp[aq,this]
section
variable {X:Cx}
abbrev RL:=List V->Hp->VK->Prop
def b6e(K:PySem.W.Frag):RL:=λxs H Q=>∃(k:Bool) (p:Addr) (ys:List V),xs=[.ref p]/\SqK k K H p ys/\ys.all a4d=true/\Q (.bl (ys.all trV)) H
def b6d(K:PySem.W.Frag):RL:=λxs H Q=>∃(k:Bool) (p:Addr) (ys:List V),xs=[.ref p]/\SqK k K H p ys/\ys.all a4d=true/\Q (.bl (ys.any trV)) H
def b6a(K:PySem.W.Frag):RL:=λxs H Q=>∃(k:Bool) (p:Addr) (ns:List Int),xs=[.ref p]/\SqK k K H p (ns.map V.int)/\Q (.int ns.sum) H
theorem a7u{k:Bool}{l:Addr}{items:Array Value}{s:Shared}(h:SqAt k s.heap l items):ItAt k (s.heap.push (a1J k l)) s.heap.objs.size l 0/\SqAt k (s.heap.push (a1J k l)) l items:=by
 refine⟨?_,h.at λo e=>ag _ e⟩;cases k<;>exact⟨_,aH _ rfl,rfl,rfl⟩
theorem a2S{k:Bool}{l:Addr}{items:Array Value}{s:Shared}(h:SqAt k s.heap l items):l≠s.heap.objs.size:=by
 obtain⟨o,e⟩:=h.get;exact aR (aK e)
theorem a2V{s:Shared}{h':Heap}{c:Obj}(a:∀b o,b∉[s.heap.objs.size]->(s.heap.push c).get? b=some o->h'.get? b=some o):∀b o,s.heap.get? b=some o->h'.get? b=some o:=λb o e =>
 a b o (λz=>by have:=aK e;rw[aQ.mp z]at this;exact b_ _ this) (ag _ e)
theorem b3a(g:X.calm=true):E3 X (.builtin "all") (b6e X.K):=by
 intro pins s σ H xs w Q I r h;obtain⟨k,p,ys,rfl,hs,j,q⟩:=h;obtain⟨u,rfl,o⟩:=r.one;cases o;obtain⟨its,c,d,t⟩:=I.sqk hs;have m:X.A.in1.handled=none:=I.ok.hd g;refine call_all_walk (W4 d ?_);refine⟨s.heap.objs.size,_,_,_,_,_,λi=>trV (ys.getD i .non),rfl,a2o (k:=k) (l:=p) (items:=its.toArray) m (a2S d),a7u d,?_,λh' tk n=>?_⟩
 .intro i v s' Q' E' hv hq;have b:its[i]?=some v:=by simpa using hv
  obtain⟨hi,_⟩:=aT.mp b;have a:i<ys.length:=by rw[c.length];exact hi
  have f:ys[i]?=some ys[i]:=aj a;obtain⟨x,e1,e2⟩:=c.get f;rw[b]at e1;cases e1;refine a1z e2 (aJ.mp j _ (cY a)) ?_;simpa[aq,f]using hq
 .have e:(List.range its.toArray.size).all (λi=>trV (ys.getD i .non))=ys.all trV:=by
   rw[aF,<-c.length];exact a3T ys trV .non
  rw[e];exact⟨.bl _,H,I.kept (a2V n),rfl,q⟩
theorem b2Z(g:X.calm=true):E3 X (.builtin "any") (b6d X.K):=by
 intro pins s σ H xs w Q I r h;obtain⟨k,p,ys,rfl,hs,j,q⟩:=h;obtain⟨u,rfl,o⟩:=r.one;cases o;obtain⟨its,c,d,t⟩:=I.sqk hs;have m:X.A.in1.handled=none:=I.ok.hd g;refine call_any_walk (W4 d ?_);refine⟨s.heap.objs.size,_,_,_,_,_,λi=>trV (ys.getD i .non),rfl,a2o (k:=k) (l:=p) (items:=its.toArray) m (a2S d),a7u d,?_,λh' tk n=>?_⟩
 .intro i v s' Q' E' hv hq;have b:its[i]?=some v:=by simpa using hv
  obtain⟨hi,_⟩:=aT.mp b;have a:i<ys.length:=by rw[c.length];exact hi
  have f:ys[i]?=some ys[i]:=aj a;obtain⟨x,e1,e2⟩:=c.get f;rw[b]at e1;cases e1;refine a1z e2 (aJ.mp j _ (cY a)) ?_;simpa[aq,f]using hq
 .have e:(List.range its.toArray.size).any (λi=>trV (ys.getD i .non))=ys.any trV:=by
   rw[aF,<-c.length];exact a9x ys trV .non
  rw[e];exact⟨.bl _,H,I.kept (a2V n),rfl,q⟩
theorem b2X(n:X.calm=true):E3 X (.builtin "sum") (b6a X.K):=by
 intro pins s σ H xs B Q I z h;obtain⟨k,p,a,rfl,hs,q⟩:=h;obtain⟨u,rfl,y⟩:=z.one;cases y;obtain⟨its,m,d,A⟩:=I.sqk hs;have j:=m.length;rw[ae]at j;have r:X.A.in1.handled=none:=I.ok.hd n;refine call_sum_walkG (W4 d ?_);refine⟨s.heap.objs.size,_,_,_,_,_,λi=>a.getD i 0,rfl,a2o (k:=k) (l:=p) (items:=its.toArray) r (a2S d),a7u d,λb g=>?_,?_,λh' tk t' w=>?_⟩
 .rw[bC];obtain⟨o,e⟩:=d.get;have f:=aK e;simp only[aD,bS,c_]at g;rcases g with rfl|rfl
  .exact ck _
  .exact cc f
 .intro i v hv;have c:its[i]?=some v:=by simpa using hv
  obtain⟨hi,_⟩:=aT.mp c;have x:(a.map V.int)[i]?=some (.int a[i]):=by rw[ba,aj (by omega)];rfl
  obtain⟨C,e1,t,e2⟩:=m.get x;rw[c]at e1;cases e1;exact⟨t,by rw[e2];show _=Value.int (a.getD i 0) t;rw[aq,aj (by omega)];rfl⟩
 .have e:preSum (λi=>a.getD i 0) its.toArray.size=a.sum:=by
   rw[aF,<-j,a8t a _ (ao _),bx]
  rw[e];exact⟨.int a.sum,H,I.kept (a2V w),⟨t',rfl⟩,q⟩
def b6c(K:PySem.W.Frag):RL:=λxs H Q=>∃x n t b,xs=[x,.ty n]/\TyOf K H x t/\PySem.W.kitOne K t (.type n)=some b/\Q (.bl b) H
theorem b2Y:E3 X (.builtin "isinstance") (b6c X.K):=by
 intro pins s σ H xs f Q I d h;obtain⟨x,n,t,b,rfl,ty,e,q⟩:=h;obtain⟨u,v,rfl,c,a⟩:=d.two;cases a;exact a9Y I c ty e λtk=>⟨.bl b,H,I.tok tk,rfl,q⟩
def a8o(x:V)(b:Bool):Bool:=decide (x=.bl b)
theorem a6p{M:Model}{A:Around}{E:Value->Shared->Prop}{s:Shared}{x:V}{v:Value}{b:Bool}{Q:Bool->Shared->Prop}(r:RelV x v)(h:Q (a8o x b) s):wpAny M A (isSame v (.bool b)) Q E s:=by
 unfold isSame;cases x with
 |non=>cases r;exact ai h
 |bl c=>cases r;exact ai (by
   have e:a8o (.bl c) b=(Value.bool c==Value.bool b):=by cases c<;>cases b<;>rfl
   rw[e]at h;exact h)
 |int i=>obtain⟨t,rfl⟩:=r;exact ai h
 |str y=>obtain⟨t,rfl⟩:=r;exact ai h
 |byt y=>obtain⟨t,rfl⟩:=r;exact ai h
 |flt y=>obtain⟨t,rfl⟩:=r;exact ai h
 |ref p=>cases r;exact ai h
 |ty n=>cases r;exact ai h
theorem a9G{b:Bool}:OpR X (compareOp .IsNot) (λx y H Q=>y=.bl b/\Q (.bl (!a8o x b)) H):=by
 intro pins s σ H x y v u Q I a c h;obtain⟨rfl,q⟩:=h;cases c;unfold compareOp;exact aa (a6p a (ai ⟨.bl _,H,I,rfl,q⟩))
end
theorem b3g:bootBuiltins "len"=some (.builtin "len"):=boot_len
theorem b7s:bootBuiltins "zip"=some (.type "zip"):=by kernel_rfl
theorem b7w:bootBuiltins "all"=some (.builtin "all"):=by kernel_rfl
theorem b7v:bootBuiltins "any"=some (.builtin "any"):=by kernel_rfl
theorem b7t:bootBuiltins "sum"=some (.builtin "sum"):=by kernel_rfl
theorem b7x:bootBuiltins "abs"=some (.builtin "abs"):=by kernel_rfl
theorem a3H:bootBuiltins "isinstance"=some (.builtin "isinstance"):=by kernel_rfl
theorem a1t:bootBuiltins "sorted"=some (.builtin "sorted"):=by kernel_rfl
theorem Y7:bootBuiltins "tuple"=some (.type "tuple"):=by kernel_rfl
theorem b4Z:bootBuiltins "list"=some (.type "list"):=by kernel_rfl
theorem a7L:bootBuiltins "int"=some (.type "int"):=by kernel_rfl
theorem a8Y:bootBuiltins "bool"=some (.type "bool"):=by kernel_rfl
theorem b7u:bootBuiltins "set"=some (.type "set"):=by kernel_rfl
theorem b5a:bootBuiltins "dict"=some (.type "dict"):=by kernel_rfl
theorem a0U{src:List (Option Nat)}{g:TG}{f:TT}{te:TE}{σ:St}{Q:VK}{J:It}{H1:Hp}(n:Nat)(a:Nat->List V->Hp->Prop)(h0:a 0 [] H1)
  (hs:∀i ys H,i<n->a i ys H->J.go i H/\ys.length<sizeLine/\∀x H',J.yld i H x H'->g x (B1 src σ) H' λσ2 H2=>Sub (B1 src σ) σ2/\f σ2 H2 λb d=>if b=true then te σ2 d λv h=>a (i+1) (ys++[v]) h else a (i+1) ys d)
  (hd:∀ys H,a n ys H->J.stop n H/\ys.length<=sizeLine/\∀p,H p=none->Q (.ref p) (upd H p (.lst ys))):E9 src g f te σ Q J H1:=by
 refine⟨λi m ys H=>m=n-i/\i<=n/\a i ys H,⟨n,by omega,bG _,h0⟩,?_⟩;rintro i m ys H ⟨rfl,hi,p⟩;by_cases c:i<n
 .obtain⟨q1,q2,q3⟩:=hs i ys H c p;exact .inr ⟨q1,q2,a (i+1),λzs H' j=>⟨n-(i+1),by omega,rfl,c,j⟩,q3⟩
 .have e:i=n:=by omega
  subst e;exact .inl (hd ys H p)
theorem a7C{src:List (Option Nat)}{g:TG}{f:TT}{te:TE}{σ:St}{Q:VK}{lo:Int}{n:Nat}{H1:Hp}(j:n<=sizeLine)(a:Nat->List V->Hp->Prop)(h0:a 0 [] H1)
  (d:∀i ys H,a i ys H->ys.length<=i)
  (hs:∀i ys H,i<n->a i ys H->g (.int (lo+i)) (B1 src σ) H λσ2 H2=>Sub (B1 src σ) σ2/\f σ2 H2 λb c=>if b=true then te σ2 c λv h=>a (i+1) (ys++[v]) h else a (i+1) ys c)
  (hd:∀ys H,a n ys H->∀p,H p=none->Q (.ref p) (upd H p (.lst ys))):E9 src g f te σ Q (Itr lo n) H1 :=
 a0U n a h0 (λi ys H hi p=>⟨hi,by have:=d i ys H p;omega,λx H' y=>by obtain⟨e,y⟩:=y;subst e y;exact hs i ys _ hi p⟩)
  λys H p=>⟨ao _,bj (d n ys H p) j,hd ys H p⟩
theorem a0j{K:PySem.W.Frag}{src:List (Option Nat)}{g:TG}{h:TT}{te:TE}{σ:St}{Q:VK}{a:Addr}{xs:List V}{H1:Hp}(l:xs.length<=sizeLine)(c:Nat->List V->Hp->Prop)(h0:c 0 [] H1)
  (f:∀i ys H,i<=xs.length->c i ys H->SqL K H a xs/\ys.length<=i)
  (hs:∀i x ys H,xs[i]?=some x->c i ys H->g x (B1 src σ) H λσ2 H2=>Sub (B1 src σ) σ2/\h σ2 H2 λb d=>if b=true then te σ2 d λv j=>c (i+1) (ys++[v]) j else c (i+1) ys d)
  (hd:∀ys H,c xs.length ys H->∀p,H p=none->Q (.ref p) (upd H p (.lst ys))):E9 src g h te σ Q (Itl K a) H1 :=
 a0U xs.length c h0 (λi ys H hi p=>by
   obtain⟨q1,k⟩:=f i ys H (cH hi) p;refine⟨⟨xs,xs[i],q1,aj hi⟩,by omega,λx H' y=>?_⟩;obtain⟨e,y⟩:=y;subst e;exact hs i x ys _ (y xs q1) p)
  λys H p=>by
   obtain⟨q1,k⟩:=f _ ys H (ao _) p;exact⟨⟨xs,q1,ao _⟩,by omega,hd ys H p⟩
theorem O3{K:PySem.W.Frag}{src:List (Option Nat)}{g:TG}{h:TT}{te:TE}{σ:St}{Q:VK}{a:Addr}{xs:List V}{H1:Hp}(l:xs.length<=sizeLine)(c:Nat->List V->Hp->Prop)(h0:c 0 [] H1)
  (f:∀i ys H,i<=xs.length->c i ys H->SqT K H a xs/\ys.length<=i)
  (hs:∀i x ys H,xs[i]?=some x->c i ys H->g x (B1 src σ) H λσ2 H2=>Sub (B1 src σ) σ2/\h σ2 H2 λb d=>if b=true then te σ2 d λv j=>c (i+1) (ys++[v]) j else c (i+1) ys d)
  (hd:∀ys H,c xs.length ys H->∀p,H p=none->Q (.ref p) (upd H p (.lst ys))):E9 src g h te σ Q (Itt K a) H1 :=
 a0U xs.length c h0 (λi ys H hi p=>by
   obtain⟨q1,k⟩:=f i ys H (cH hi) p;refine⟨⟨xs,xs[i],q1,aj hi⟩,by omega,λx H' y=>?_⟩;obtain⟨e,y⟩:=y;subst e;exact hs i x ys _ (y xs q1) p)
  λys H p=>by
   obtain⟨q1,k⟩:=f _ ys H (ao _) p;exact⟨⟨xs,q1,ao _⟩,by omega,hd ys H p⟩
theorem Y5{K:PySem.W.Frag}{src:List (Option Nat)}{g:TG}{l:TT}{te:TE}{σ:St}{Q:VK}{k1 k2:Bool}{a b:Addr}{xs zs:List V}{H1:Hp}(w:xs.length<=sizeLine)(c:Nat->List V->Hp->Prop)(h0:c 0 [] H1)
  (k:∀i ys H,i<=xs.length->i<=zs.length->c i ys H->SqK k1 K H a xs/\SqK k2 K H b zs/\ys.length<=i)
  (hs:∀i x z ys H p,xs[i]?=some x->zs[i]?=some z->c i ys H->H p=none->g (.ref p) (B1 src σ) (upd H p (.tup [x,z])) λσ2 H2=>Sub (B1 src σ) σ2/\l σ2 H2 λb j=>if b=true then te σ2 j λv m=>c (i+1) (ys++[v]) m else c (i+1) ys j)
  (hd:∀ys H,c (min xs.length zs.length) ys H->∀p,H p=none->Q (.ref p) (upd H p (.lst ys))):E9 src g l te σ Q (Itz K k1 k2 a b) H1 :=
 a0U (min xs.length zs.length) c h0 (λi ys H hi p=>by
   have f:i<xs.length:=by omega
   have h:i<zs.length:=by omega
   obtain⟨q1,d,q⟩:=k i ys H (by omega) (by omega) p;refine⟨⟨xs,zs,xs[i],zs[i],q1,d,aj f,aj h⟩,by omega,λx H' y=>?_⟩;obtain⟨o,r,u,e,e2,n,s,t⟩:=y;subst e n;exact hs i r u ys _ o (s xs q1) (t zs d) p e2)
  λys H p=>by
   obtain⟨q1,d,q⟩:=k _ ys H (by omega) (by omega) p;exact⟨⟨xs,zs,q1,d,by omega⟩,by omega,hd ys H p⟩
structure Ok(P:Program)(w:World)(K:PySem.W.Frag)(mg:Str->Option Value)(base:Heap)(x:Str)(k:Nat)(ps:List Str)(sp:Sp):Prop where
 ex:∃f fd,mg x=some (.ref f)/\PySem.W.keepIn K (.ref f)=true/\Binds K fd ps []/\FnOk P w K mg base CX0 k f fd ps sp
structure FunAt(K:PySem.W.Frag)(mg:Str->Option Value)(x:Str)(st:Stmt)(ps:List Str):Prop where
 ex:∃f fd,mg x=some (.ref f)/\Fun K x x st f fd/\Binds K fd ps []
section
variable {P:Program}{w:World}{K:PySem.W.Frag}{mg:Str->Option Value}{base:Heap}
theorem Ok.imp{x:Str}{k:Nat}{ps:List Str}{sp sp':Sp}(O:Ok P w K mg base x k ps sp)(h:∀vs H Q E,sp' vs H Q E->sp vs H Q E):Ok P w K mg base x k ps sp':=by
 obtain⟨f,fd,h1,h2,a,b⟩:=O.ex;exact⟨f,fd,h1,h2,a,b.imp h⟩
theorem FunAt.ok{x:Str}{st:Stmt}{N ps:List Str}{k:Nat}{sp:Sp}(F:FunAt K mg x st ps)(S:FnScope N ps (A1 st))(len:∀vs H Q E,sp vs H Q E->vs.length=ps.length)
  (b:∀(a:Value) (f:Addr) (A:Around) (outer:List Env) (s:Shared) (H:Hp) (vs:List V) (Q:VK) (E:XK),Room k (A.deeper (envOfC x (A1 st) s.heap.objs.size f a))->sp vs H Q E ->
   ∃t,PSs (V9 CX0 P w K mg base N x (A1 st) f a A outer s H E).nox (E8 st) t/\t {nx:=λ_ H'=>Q .non H',rt:=Q} (start N vs) H):Ok P w K mg base x (k+1) ps sp:=by
 obtain⟨f,fd,h1,h2,c⟩:=F.ex;exact⟨f,fd,h1,h2.kp,c,h2.ok S len λa=>b a f⟩
end
section
variable {X:Cx}{k:Nat}{ps:List Str}{sp:Sp}{x:Str}{p pos:Pos}{e:Expr}{es:List Expr}{t:TA}
theorem b1N(O:Ok X.prog X.w X.K X.mg X.base x k ps sp)(j:Room k X.A)(i:Gl X x)(g:PA X (e::es) t)(a:(x==("__debug__" : Str))=false:=by decide)
  (h:starEach (e::es) X.env=(false,eval e X.env)::starEach es X.env:=by rfl) (b:(backTo pos (starEach es X.env)).any (·.1)=false:=by rfl):PE X (.Call (.Name x p) (e::es) [] pos) (b0P sp [] E0 t):=by
 obtain⟨f,fd,h1,h2,c,d⟩:=O.ex;exact b4n d j i h1 h2 c .nil a8v g a h b
end
inductive EqV(K:PySem.W.Frag)(H:Hp):Nat->V->V->Bool->Prop
 |flat {n:Nat}{x y:V}(fx:a6s x=true) (fy:a6s y=true):EqV K H n x y (eqV x y)
 |tup {n:Nat}{a b:Addr}{xs ys:List V}(e:Nat->Bool) (ha:SqT K H a xs) (hb:SqT K H b ys) (he:∀j x y,xs[j]?=some x->ys[j]?=some y->EqV K H n x y (e j)) :
   EqV K H (n+1) (.ref a) (.ref b) ((List.range (min xs.length ys.length)).all e && xs.length==ys.length)
 |lst {n:Nat}{a b:Addr}{xs ys:List V}(e:Nat->Bool) (ha:SqL K H a xs) (hb:SqL K H b ys) (he:∀j x y,xs[j]?=some x->ys[j]?=some y->EqV K H n x y (e j)) :
   EqV K H (n+1) (.ref a) (.ref b) ((List.range (min xs.length ys.length)).all e && xs.length==ys.length)
theorem b2J:∀{x:V},a6s x=true->eqV x x=true
 |.non,_=>rfl
 |.bl b,_=>eN b
 |.int i,_=>eN i
 |.str y,_=>eN y
 |.byt _,h=>by cases h
 |.flt _,h=>by cases h
 |.ref _,h=>by cases h
 |.ty _,h=>by cases h
section
variable {X:Cx}{pins:List (Addr×Obj)}{σ:St}{H:Hp}{s:Shared}
theorem EqV.same{n:Nat}{x y:V}{b:Bool}(I:Inv X pins σ H s)(h:EqV X.K H n x y b):x=y->b=true:=by
 induction h with
 |flat fx fy=>rintro rfl;exact b2J fx
 |tup e c d g f =>
  intro z;cases z;have q:=I.tuple_inj c d;subst q;simp only[Nat.min_self,aG,eN,and_true,aJ,aX];intro j a;exact f j _ _ (aj a) (aj a) rfl
 |lst e c d g f =>
  intro z;cases z;have q:=I.list_inj c d;subst q;simp only[Nat.min_self,aG,eN,and_true,aJ,aX];intro j a;exact f j _ _ (aj a) (aj a) rfl
theorem D9{xs:List V}{us:List Value}{j:Nat}{u:Value}(r:Vals xs us)(h:us[j]?=some u):∃x,xs[j]?=some x/\RelV x u:=by
 obtain⟨c,_⟩:=aT.mp h;have a:j<xs.length:=by rw[r.length];exact c
 have b:xs[j]?=some xs[j]:=aj a;obtain⟨d,e,q⟩:=r.get b;rw[h]at e;cases e;exact⟨_,b,q⟩
theorem EqV.at{n:Nat}{x y:V}{b:Bool}(I:Inv X pins σ H s)(h:EqV X.K H n x y b):∀{A:Around}{u v:Value},A.units+n<cLine->RelV x u->RelV y v->SeqAt.EqAt A s u v b:=by
 induction h with
 |flat fx fy=>intro A u v _ l m;exact b7o l m fx fy
 |@tup n a b xs ys e g i q r =>
  intro A u v B l m;cases l;cases m;by_cases c:a=b
  .have:=(EqV.tup e g i q).same I (by rw[c]);rw[this,c];exact SeqAt.EqAt.same _
  .obtain⟨us,r1,p1,_⟩:=I.tuple g;obtain⟨d,k,p2,_⟩:=I.tuple i;rw[r1.length,k.length];refine SeqAt.EqAt.of_refs c ?_;have:=SeqAt.RcAt.tuples (A:=A) (s:=s) (e:=e) (show s.heap.IsTuple a us.toArray from p1) (show s.heap.IsTuple b d.toArray from p2) (by omega) (λj h1 h2=>?_)
   .simpa using this
   .have h1':us[j]?=some us.toArray[j]:=by simp at h1⊢
    have f:d[j]?=some d.toArray[j]:=by simp at h2⊢
    obtain⟨x,ex,t⟩:=D9 r1 h1';obtain⟨y,p,w⟩:=D9 k f;exact r j x y ex p (by show A.units+1+n<cLine;omega) t w
 |@lst n a b xs ys e g i q r =>
  intro A u v B l m;cases l;cases m;by_cases c:a=b
  .have:=(EqV.lst e g i q).same I (by rw[c]);rw[this,c];exact SeqAt.EqAt.same _
  .obtain⟨us,r1,p1,_⟩:=I.list g;obtain⟨d,k,p2,_⟩:=I.list i;rw[r1.length,k.length];refine SeqAt.EqAt.of_refs c ?_;by_cases o:us.length=d.length
   .have:=SeqAt.RcAt.lists (A:=A) (s:=s) (e:=e) p1.isList p2.isList (by simpa using o) (by omega) (λj h1 h2=>?_)
    .simpa[o]using this
    .have h1':us[j]?=some us.toArray[j]:=by simp at h1⊢
     have f:d[j]?=some d.toArray[j]:=by simp at h2⊢
     obtain⟨x,ex,t⟩:=D9 r1 h1';obtain⟨y,p,w⟩:=D9 k f;exact r j x y ex p (by show A.units+1+n<cLine;omega) t w
   .have:=SeqAt.RcAt.lists_lengths (A:=A) (s:=s) p1.isList p2.isList (by simpa using o) (by omega);have z:(us.length==d.length)=false:=by simpa using o
    rw[z,fi];exact this
end
def a5O(K:PySem.W.Frag)(neg:Bool):R2:=λx y H Q=>∃n b,n<=50/\EqV K H n x y b/\(∃a c,x=.ref a/\y=.ref c)/\Q (.bl (if neg then !b else b)) H
section
variable {X:Cx}
theorem b6M(C:X.A.units+60<cLine):OpR X (compareOp .Eq) (a5O X.K false):=by
 intro pins s σ H x y v u Q I m o h;obtain⟨n,b,B,i,⟨a,c,rfl,rfl⟩,q⟩:=h;cases m;cases o;show wpAny _ _ (richCompare .Eq (.ref a) (.ref c)) _ _ s;have key:SeqAt.RcAt X.A s (.ref a) (.ref c) b:=by
  cases i with
  |flat fx fy=>cases fx
  |@tup n _ _ xs ys e t w i =>
   obtain⟨d,k,p1,_⟩:=I.tuple t;obtain⟨f,l,p2,_⟩:=I.tuple w;rw[k.length,l.length];have:=SeqAt.RcAt.tuples (A:=X.A) (s:=s) (e:=e) (show s.heap.IsTuple a d.toArray from p1) (show s.heap.IsTuple c f.toArray from p2) (by omega) (λj h1 h2=>?_)
   .simpa using this
   .have h1':d[j]?=some d.toArray[j]:=by simp at h1⊢
    have g:f[j]?=some f.toArray[j]:=by simp at h2⊢
    obtain⟨x,ex,m⟩:=D9 k h1';obtain⟨y,r,o⟩:=D9 l g;exact(i j x y ex r).at I (by show X.A.units+1+n<cLine;omega) m o
  |@lst n _ _ xs ys e t w i =>
   obtain⟨d,k,p1,_⟩:=I.list t;obtain⟨f,l,p2,_⟩:=I.list w;rw[k.length,l.length];by_cases p:d.length=f.length
   .have:=SeqAt.RcAt.lists (A:=X.A) (s:=s) (e:=e) p1.isList p2.isList (by simpa using p) (by omega) (λj h1 h2=>?_)
    .simpa[p]using this
    .have h1':d[j]?=some d.toArray[j]:=by simp at h1⊢
     have g:f[j]?=some f.toArray[j]:=by simp at h2⊢
     obtain⟨x,ex,m⟩:=D9 k h1';obtain⟨y,r,o⟩:=D9 l g;exact(i j x y ex r).at I (by show X.A.units+1+n<cLine;omega) m o
   .have:=SeqAt.RcAt.lists_lengths (A:=X.A) (s:=s) p1.isList p2.isList (by simpa using p) (by omega);have z:(d.length==f.length)=false:=by simpa using p
    rw[z,fi];exact this
 exact key _ _ _ _ ⟨.bl _,H,I,rfl,q⟩
theorem b6I(C:X.A.units+60<cLine):OpR X (compareOp .NotEq) (a5O X.K true):=by
 intro pins s σ H x y v u Q I m o h;obtain⟨n,b,B,i,⟨a,c,rfl,rfl⟩,q⟩:=h;cases m;cases o;show wpAny _ _ (richCompare .NotEq (.ref a) (.ref c)) _ _ s;have key:SeqAt.RcNeAt X.A s (.ref a) (.ref c) (!b):=by
  cases i with
  |flat fx fy=>cases fx
  |@tup n _ _ xs ys e t w i =>
   obtain⟨d,k,p1,_⟩:=I.tuple t;obtain⟨f,l,p2,_⟩:=I.tuple w;rw[k.length,l.length];have:=SeqAt.RcNeAt.tuples (A:=X.A) (s:=s) (e:=e) (show s.heap.IsTuple a d.toArray from p1) (show s.heap.IsTuple c f.toArray from p2) (by omega) (λj h1 h2=>?_)
   .simpa using this
   .have h1':d[j]?=some d.toArray[j]:=by simp at h1⊢
    have g:f[j]?=some f.toArray[j]:=by simp at h2⊢
    obtain⟨x,ex,m⟩:=D9 k h1';obtain⟨y,r,o⟩:=D9 l g;exact(i j x y ex r).at I (by show X.A.units+1+n<cLine;omega) m o
  |@lst n _ _ xs ys e t w i =>
   obtain⟨d,k,p1,_⟩:=I.list t;obtain⟨f,l,p2,_⟩:=I.list w;rw[k.length,l.length];by_cases p:d.length=f.length
   .have:=SeqAt.RcNeAt.lists (A:=X.A) (s:=s) (e:=e) p1.isList p2.isList (by simpa using p) (by omega) (λj h1 h2=>?_)
    .simpa[p]using this
    .have h1':d[j]?=some d.toArray[j]:=by simp at h1⊢
     have g:f[j]?=some f.toArray[j]:=by simp at h2⊢
     obtain⟨x,ex,m⟩:=D9 k h1';obtain⟨y,r,o⟩:=D9 l g;exact(i j x y ex r).at I (by show X.A.units+1+n<cLine;omega) m o
   .have:=SeqAt.RcNeAt.lists_lengths (A:=X.A) (s:=s) p1.isList p2.isList (by simpa using p) (by omega);have z:(d.length==f.length)=false:=by simpa using p
    rw[z,fi];exact this
 exact key _ _ _ _ ⟨.bl _,H,I,rfl,q⟩
theorem b5d{ns ms:List Int}:((List.range (min ns.length ms.length)).all (λj=>decide (ns.getD j 0=ms.getD j 0)) && ns.length==ms.length)=decide (ns=ms):=by
 rw[bQ];simp only[aG,aJ,aX,bf,bp];constructor
 .rintro⟨h1,h2⟩;refine dP h2 λi a b=>?_;have:=h1 i (by omega);simpa[aq,a,b]using this
 .rintro rfl;exact⟨λ_ _=>rfl,rfl⟩
theorem b2x{ns:List Int}{j:Nat}{x:V}(h:(ns.map V.int)[j]?=some x):x=.int (ns.getD j 0)/\j<ns.length:=by
 rw[ba]at h;cases e:ns[j]? with
 |none=>rw[e]at h;cases h
 |some z =>
  rw[e]at h;obtain⟨a,_⟩:=aT.mp e;exact⟨by rw[aq,e];exact(bH h).symm,a⟩
theorem EqV.ints{K:PySem.W.Frag}{H:Hp}{k:Bool}{a b:Addr}{ns ms:List Int}(c:SqK k K H a (ns.map V.int))(d:SqK k K H b (ms.map V.int)):EqV K H 1 (.ref a) (.ref b) (decide (ns=ms)):=by
 have step:∀j x y,(ns.map V.int)[j]?=some x->(ms.map V.int)[j]?=some y->EqV K H 0 x y (decide (ns.getD j 0=ms.getD j 0)):=λj x y e f=>by
  obtain⟨rfl,_⟩:=b2x e;obtain⟨rfl,_⟩:=b2x f;have:=EqV.flat (K:=K) (H:=H) (n:=0) (x:=.int (ns.getD j 0)) (y:=.int (ms.getD j 0)) rfl rfl;rw[show eqV (.int (ns.getD j 0)) (.int (ms.getD j 0))=decide (ns.getD j 0=ms.getD j 0)from rfl]at this;exact this
 rw[<-b5d];cases k
 .have:=EqV.lst (λj=>decide (ns.getD j 0=ms.getD j 0)) c d step;simpa using this
 .have:=EqV.tup (λj=>decide (ns.getD j 0=ms.getD j 0)) c d step;simpa using this
def a2E:R2:=λx y H Q=>∃a b xs ys,x=.ref a/\y=.ref b/\H a=some (.tup xs)/\H b=some (.tup ys)/\xs.length+ys.length<=sizeLine/\∀p H',Same H H'->H' p=some (.tup (xs++ys))->Q (.ref p) H'
theorem b1P:OpR X (binaryOp .Add) a2E:=by
 intro pins s σ H x y v u Q I B C h;obtain⟨a,b,xs,ys,rfl,rfl,k,l,E,q⟩:=h;by_cases z:xs=[]
 .subst z;cases B;cases C;obtain⟨its,G,p1,_⟩:=I.tuple (.inl (.inl k));obtain⟨A,J,p2,_⟩:=I.tuple (.inl (.inl l));cases G;obtain⟨⟨cls,dd,data,sl⟩,w,t,n,hd⟩:=id p1;obtain⟨⟨r,j,i,m⟩,g,d,F,f⟩:=id p2;simp only at t hd d f;subst t hd d f;exact concat_meets ⟨_,w,rfl⟩ ⟨_,g,rfl⟩ noFill_tuple_add seq_tuple_add PySem.F.slot_tuple_add PySem.F.entry_tuple_add (PySem.F.args_tuple_add_2 _ _)
   (tuple_addW0 a b _ _ n F dd j sl m (by simp)) ⟨w,g,⟨.ref b,H,I,rfl,q b H (Same.refl H) l⟩⟩
 .refine b4t pins s σ H _ _ v u Q I B C ⟨a,b,xs,ys,rfl,rfl,.inl (.inl k),.inl (.inl l),z,E,λe=>?_,λ_ p D=>?_⟩
  .subst e;exact q a H (Same.refl H) (by rw[cz];exact k)
  .exact q p _ (λc o e=>by rw[A3 (A7 e D)];exact e) A0
end
open PySem.AutoSeq1 (wpAny_loadPart')
theorem a1f:fillsNumberSlot (.type "tuple") "mul"=pure false :=
 PySem.fillsNumberSlot_seq (id:="tuple.__mul__") (r:=some (.builtin "tuple.__rmul__")) fK.lookup (by decide +kernel) F.slot_tuple_rmul.lookup (by decide +kernel)
theorem a4M:seqRepeat? (.type "tuple")=pure (some (.builtin "tuple.__mul__")):=by
 unfold seqRepeat?;rw[PySem.seqSlot_of (T:="tuple") (name:="__mul__") (id:="tuple.__mul__") fK.lookup (by decide +kernel),PySem.seqSlot_of (T:="tuple") (name:="__rmul__") (id:="tuple.__rmul__") F.slot_tuple_rmul.lookup (by decide +kernel)];rfl
theorem a6Z(a:Int)(t:Tok)(l:Addr)(items:Array Value)(n:Nat)(dd:Option Addr)(sl:Array (Option Value)) :
  Meets (Builtin.«int.__rmul__» ⟨[.int a t,.ref l],[]⟩) (λ_ R s=>s.heap.get? l=some {cls:=.type "tuple",dict:=dd,data:=.seq items n,slots:=sl}/\R (.ok (.ret Value.notImplemented)) s) :=
 .of_wp λprog w A R s h=>by obtain⟨c,g,d,tk,os⟩:=s;obtain⟨b,h⟩:=h;wp_walk;exact⟨_,rfl,h⟩
theorem a6M(l:Addr)(items:Array Value)(n:Nat)(dd:Option Addr)(sl:Array (Option Value))(u:Tok) :
  Meets (Builtin.«tuple.__mul__» ⟨[.ref l,.int 1 u],[]⟩) (λ_ R s=>s.heap.get? l=some {cls:=.type "tuple",dict:=dd,data:=.seq items n,slots:=sl}/\R (.ok (.ret (.ref l))) s) :=
 .of_wp λprog w A R s h=>by
  obtain⟨b,g,d,tk,os⟩:=s;obtain⟨a,h⟩:=h;have f1:=AutoSeq1.idx_int
  wp_walk using wpAny_loadPart' a
  exact⟨_,rfl,h⟩
theorem a6L(l:Addr)(items:Array Value)(n:Nat)(dd:Option Addr)(sl:Array (Option Value))(x:Int)(u:Tok)(e:items.isEmpty=false)(h1:1<x)(h2:¬(decide (x < -(2 ^ 63)) || decide (x ≥ 2 ^ 63))=true)
  (f:¬((items.size:Int)*x > (2 ^ 63-1) / 8)) (i:¬Builtin.Tuple.tupleTooMany ((items.size:Int)*x)=true) (hsz:(List.foldl (λb c=>b++c) #[] (List.replicate x.toNat items)).size<=sizeLine) :
  Meets (Builtin.«tuple.__mul__» ⟨[.ref l,.int x u],[]⟩) (λ_ R s=>s.heap.get? l=some {cls:=.type "tuple",dict:=dd,data:=.seq items n,slots:=sl} /\
   R (.ok (.ret (.ref s.heap.objs.size))) {s with heap:=s.heap.push {cls:=.type "tuple",data:=.seq (List.foldl (λb c=>b++c) #[] (List.replicate x.toNat items))}}) :=
 .of_wp λprog w A R s h=>by
  obtain⟨m,g,d,tk,os⟩:=s;obtain⟨a,h⟩:=h;have f1:=AutoSeq1.idx_int;have e1:(x==1)=false:=by simp;omega
  have e2:decide (x<=0)=false:=by simp;omega
  have j:¬((items.isEmpty || x==1)=true):=by rw[e,e1];decide
  have k:¬((decide (x<=0) || items.isEmpty)=true):=by rw[e,e2];decide
  wp_walk using wpAny_loadPart' a
  rw[ar h2]
  wp_walk using wpAny_loadPart' a
  rw[ar f]
  wp_walk using wpAny_loadPart' a
  first
   |exact⟨_,rfl,h⟩
   |(rw[ar i];wp_walk using wpAny_loadPart' a;exact⟨_,rfl,h⟩)
theorem a3h{α:Type}(its:List α):∀(k:Nat) (a:List α),List.foldl (λb c=>b++c) a.toArray (List.replicate k its.toArray)=(a++(List.replicate k its).flatten).toArray
 |0,a=>by simp
 |k+1,a=>by
  have e:a.toArray++its.toArray=(a++its).toArray:=by simp
  rw[cv,dE,e,a3h its k,cv,dg,aC]
section
variable {X:Cx}
def b5t:R2:=λx y H Q=>∃a xs n,x=.ref a/\y=.int n/\H a=some (.tup xs)/\xs≠[]/\1<=n/\(xs.length:Int)*n<=(sizeLine:Int)/\∀p H',Same H H'->H' p=some (.tup (List.replicate n.toNat xs).flatten)->Q (.ref p) H'
theorem b4q:OpR X (binaryOp .Mult) b5t:=by
 intro pins s σ H x y v u Q I J K h;obtain⟨a,xs,n,rfl,rfl,l,i,L,M,q⟩:=h;cases J;obtain⟨t,rfl⟩:=K;obtain⟨its,r,p1,G⟩:=I.tuple (.inl (.inl l));obtain⟨⟨cls,dd,data,sl⟩,g,w,m,hd⟩:=id p1;simp only at w hd;subst w hd;have d:=r.length;have f:0<its.length:=by rw[<-d];exact List.length_pos_iff.mpr i
 refine wpAny_binaryOp_repeat_ref (T:="tuple") (U:="int") (by decide) ⟨_,g,rfl⟩ (λs'=>typeIs_int s' n t) a1f F.fills_int_mul F.slot_int_rmul a4M F.slot_int_index.lookup
  (eM F.slot_int_rmul (typeIs_int s n t) F.entry_int_rmul (F.args_int_rmul_2 _ _) (a6Z n t a its.toArray m dd sl) ⟨g,rfl,⟨_,g,rfl⟩,?_⟩)
 by_cases h1:n=1
 .subst h1;refine eM fK ⟨_,g,rfl⟩ F.entry_tuple_mul (F.args_tuple_mul_2 _ _) (a6M a its.toArray m dd sl t) ⟨g,.ref a,H,I,rfl,q a H (Same.refl H) ?_⟩;rw[l];simp
 .have e0:=a3h its n.toNat [];rw[cq]at e0;have C:((List.replicate n.toNat its).flatten).length=n.toNat*its.length:=a8A its n.toNat;have p:n.toNat*its.length<=sizeLine:=by
   have e1:((n.toNat*its.length:Nat):Int)=(xs.length:Int)*n:=by
    rw[d];push_cast;rw[Int.toNat_of_nonneg (by omega),Int.mul_comm]
   omega
  have hs:sizeLine=16777216:=a_;have E:(its.toArray.size:Int)*n<=16777216:=by rw[aF,<-d];omega
  have D:n<=(its.toArray.size:Int)*n:=by
   have A:(1:Int)<=(its.toArray.size:Int):=by rw[aF];omega
   have:=Int.mul_le_mul_of_nonneg_right A (show(0:Int)<=n by omega);omega
  refine eM fK ⟨_,g,rfl⟩ F.entry_tuple_mul (F.args_tuple_mul_2 _ _) (a6L a its.toArray m dd sl n t (by simp;intro z;rw[z]at f;exact b_ _ f) (by omega) ?_ ?_ ?_ ?_) ⟨g,?_⟩
  .simp only[Bool.or_eq_true,bf,not_or];omega
  .omega
  .simp only[Builtin.Tuple.tupleTooMany,bf];omega
  .have e0':List.foldl (λj k=>j++k) #[] (List.replicate n.toNat its.toArray)=(List.replicate n.toNat its).flatten.toArray:=e0;rw[e0',aF,C];exact p
  .have e0':List.foldl (λj k=>j++k) #[] (List.replicate n.toNat its.toArray)=(List.replicate n.toNat its).flatten.toArray:=e0;rw[e0'];have B:H s.heap.objs.size=none:=I.hok.fresh (ao _);refine⟨.ref s.heap.objs.size,_,I.laid (t':=s.toks) (o:=.tup (List.replicate n.toNat xs).flatten) (λb N q=>ag _ q) (ao _) ?_,rfl,q _ _ (λc o e=>by rw[A3 (A7 e B)];exact e) A0⟩;exact⟨by rw[a8A,d];exact p,_,r.rep n.toNat,IsTp.new _ _⟩
end
end L2
namespace L2
open PySem PySem.Spec PyProof.Rows
section
variable {X:Cx}{pos:Pos}
theorem b4i(K:PySem.W.Frag){es:List Expr}{k:Nat}{t:TGs}{n:Nat}(c:X.calm=true)(h:PGs X es t)(b:X.K=K:=by rfl)
  (d:(assignEach es X.env).length=n:=by rfl) (a:(assignEach es X.env).findIdx? (·.1)=none:=by rfl):PG X (.Tuple es k pos) (a6q K n t):=by
 subst b;exact b6q c h d a
theorem b1H(K:PySem.W.Frag){tg l:Expr}{tl:TE}(b:PE X l tl)(a:X.K=K:=by rfl):PI X tg l (b2z K tl):=by subst a;exact b4f b
theorem b4e(K:PySem.W.Frag){tg l:Expr}{tl:TE}(b:PE X l tl)(a:X.K=K:=by rfl):PI X tg l (b7m K tl):=by subst a;exact b6p b
theorem b4d(K:PySem.W.Frag){es:List Expr}{h:Nat}{i:Pos}{a b:Expr}{ta:TA}{p pos:Pos}(f:Gl X "zip")(g:X.mg "zip"=none)(e:PA X [a,b] ta)(d:X.K=K:=by rfl)
  (hs:starEach [a,b] X.env=[(false,eval a X.env),(false,eval b X.env)]:=by rfl) (c:starEach [b] X.env=[(false,eval b X.env)]:=by rfl) :
  PI X (.Tuple es h i) (.Call (.Name "zip" p) [a,b] [] pos) (b7l K ta):=by subst d;exact b6o f g e b7s hs c
def b7J(K:PySem.W.Frag)(ta:TE):TT:=λσ H Q=>ta σ H λx H'=>∃k,b7B K x H' k/\Q k H'
theorem a9A(K:PySem.W.Frag){a:Expr}{ta:TE}(d:PE X a ta)(e:∀b,isTrue a X.env b=(do let v <-b;standAt a.pos;holding [v] (truthy v)))(c:X.K=K:=by rfl):PT X a (b7J K ta):=by
 subst c;exact b1y d e
theorem b2w(K:PySem.W.Frag)(a:X.K=K:=by rfl):IxR X (b3Q K):=by subst a;exact b4P
theorem b4O(K:PySem.W.Frag)(a:X.K=K:=by rfl):IxR X (b3P K):=by subst a;exact b7i
theorem b1d(K:PySem.W.Frag)(a:X.K=K:=by rfl):SlR X (b6b K):=by subst a;exact b3A
theorem b3z(K:PySem.W.Frag)(a:X.K=K:=by rfl):SlR X (a7d K):=by subst a;exact b1c
theorem b6L(K:PySem.W.Frag)(b:X.A.units+60<cLine)(a:X.K=K:=by rfl):OpR X (compareOp .Eq) (a5O K false):=by subst a;exact b6M b
theorem b6H(K:PySem.W.Frag)(b:X.A.units+60<cLine)(a:X.K=K:=by rfl):OpR X (compareOp .NotEq) (a5O K true):=by subst a;exact b6I b
theorem b0v(K:PySem.W.Frag)(b:X.calm=true)(a:X.K=K:=by rfl):E3 X (.builtin "all") (b6e K):=by subst a;exact b3a b
theorem b0u(K:PySem.W.Frag)(b:X.calm=true)(a:X.K=K:=by rfl):E3 X (.builtin "any") (b6d K):=by subst a;exact b2Z b
theorem b0n(K:PySem.W.Frag)(b:X.calm=true)(a:X.K=K:=by rfl):E3 X (.builtin "sum") (b6a K):=by subst a;exact b2X b
theorem b0r(K:PySem.W.Frag)(a:X.K=K:=by rfl):E3 X (.builtin "isinstance") (b6c K):=by subst a;exact b2Y
def b7W(K:PySem.W.Frag):RL:=λxs H Q=>∃p ys,xs=[.ref p]/\(SqL K H p ys∨SqT K H p ys)/\Q (.int ys.length) H
def b5u(K:PySem.W.Frag):RL:=λxs H Q=>∃p ys,xs=[.ref p]/\(SqL K H p ys∨SqT K H p ys)/\∀l,H l=none->Q (.ref l) (upd H l (.lst ys))
def b1t(K:PySem.W.Frag):RL:=λxs H Q=>∃p ys,xs=[.ref p]/\((SqL K H p ys/\∀l,H l=none->Q (.ref l) (upd H l (.tup ys)))∨(SqT K H p ys/\Q (.ref p) H))
theorem b0q(K:PySem.W.Frag)(a:X.K=K:=by rfl):E3 X (.builtin "len") (b7W K):=by subst a;exact a5g
theorem a7I(K:PySem.W.Frag)(a:X.K=K:=by rfl):E3 X (.type "list") (b5u K):=by subst a;exact a5f
theorem a6B(K:PySem.W.Frag)(a:X.K=K:=by rfl):E3 X (.type "tuple") (b1t K):=by subst a;exact a3F
def b8O:RL:=λxs H Q=>∃i j,xs=[.int i,.int j]/\Q (.int (if j<i then j else i)) H
def b8P:RL:=λxs H Q=>∃i j,xs=[.int i,.int j]/\Q (.int (if j > i then j else i)) H
def b7X:RL:=λxs H Q=>(∃i,xs=[.int i]/\Q (.int i) H)∨∃k,xs=[.bl k]/\Q (.int (if k then 1 else 0)) H
theorem b0s:E3 X (.type "int") b7X:=b0t
variable {o e:Expr}{es:List Expr}{to:TE}{t:TA}{name:Str}{apos cpos:Pos}{T id:String}{r:V->List V->Hp->VK->Prop}
theorem a7g(K:PySem.W.Frag)(l:PlainAttrs T)(f:Slot T name id)(g:typeOf (.builtin id)=pure (.type "method_descriptor"))(j:MtR X id r)(k:PE X o to)(i:PA X (e::es) t)(h:X.K=K:=by rfl)
  (b:attributeBase o name X.env (eval o X.env)=eval o X.env:=by rfl)
  (d:((backTo cpos (starEach (e::es) X.env)).all (λx=>!x.1) && (backToKw cpos (keywordEach [] X.env)).all (λx=>x.1.isSome)
   && decide ((e::es).length+([]:List Keyword).length+(if ([]:List Keyword).isEmpty then 0 else 1)<30))=true:=by rfl)
  (c:(apos.endLine==cpos.line)=true:=by rfl) (hs:starEach (e::es) X.env=(false,eval e X.env)::starEach es X.env:=by rfl) (a:(backTo cpos (starEach es X.env)).any (·.1)=false:=by rfl) :
  PE X (.Call (.Attribute o name apos) (e::es) [] cpos) (tBM K T r to t):=by subst h;exact b8e l f g j k i b d c hs a
end
def IT(H:Hp)(v:V)(ns:List Int):Prop:=∃a,v=.ref a/\H a=some (.tup (ns.map V.int))
theorem IT.same{H H':Hp}{v:V}{ns:List Int}(h:IT H v ns)(s:Same H H')   : IT H' v ns:=let ⟨a,e,q⟩:=h;⟨a,e,s a _ q⟩
theorem Same.upd{H H':Hp}{p:Addr}{o:HO}(s:Same H H')(hp:H' p=none):Same H (upd H' p o):=λb u e=>by
 rw[A3 (A7 (s b u e) hp)];exact s b u e
theorem R6{H:Hp}{p b:Addr}{o u:HO}(a:H b=some u)(hp:H p=none):upd H p o b=some u:=by rw[A3 (A7 a hp)];exact a
def Off(l:List Addr)(H H':Hp):Prop:=∀b o,b∉l->H b=some o->H' b=some o
theorem Off.refl(l:List Addr)(H:Hp):Off l H H:=λ_ _ _ e=>e
theorem Off.trans{l:List Addr}{H H1 H2:Hp}(a:Off l H H1)(b:Off l H1 H2):Off l H H2:=λc o d e=>b c o d (a c o d e)
theorem Same.off{l:List Addr}{H H':Hp}(s:Same H H'):Off l H H':=λb o _ e=>s b o e
theorem Off.upd{l:List Addr}{H H':Hp}{p:Addr}{o:HO}(s:Off l H H')(hp:H' p=none):Off l H (upd H' p o):=λb u a e=>by
 rw[A3 (A7 (s b u a e) hp)];exact s b u a e
theorem Off.set{l:List Addr}{H H':Hp}{p:Addr}{o:HO}(s:Off l H H')(hp:p∈l):Off l H (L2.upd H' p o):=λb u a e=>by
 rw[A3 (by rintro rfl;exact a hp)];exact s b u a e
theorem L5(ns:List Int):(ns.map V.int).length=ns.length:=ae _
theorem U6{ns:List Int}{i:Nat}{x:V}(h:(ns.map V.int)[i]?=some x):∃z,ns[i]?=some z/\x=.int z:=by
 rw[ba]at h;cases e:ns[i]? with
 |none=>rw[e]at h;cases h
 |some z=>rw[e]at h;exact⟨z,rfl,(bH h).symm⟩
theorem M5{α β γ:Type}(f:α->β->γ){xs:List α}{ys:List β}{i:Nat}{x:α}{y:β}(a:xs[i]?=some x)(b:ys[i]?=some y):(List.zipWith f xs ys).take (i+1)=(List.zipWith f xs ys).take i++[f x y]:=by
 have:(List.zipWith f xs ys)[i]?=some (f x y):=by rw[List.getElem?_zipWith,a,b]
 rw[bu,this];rfl
theorem b0C{K:PySem.W.Frag}{src:List (Option Nat)}{σ caps:St}{Q:VK}{k1 k2:Bool}{a b:Addr}{xs ys:List Int}{H:Hp}{te:TE}(f:Int->Int->V)(q:SqK k1 K H a (xs.map V.int))(r:SqK k2 K H b (ys.map V.int))(t:xs.length<=1000)
  (c:∀H',Same H H'->SqK k1 K H' a (xs.map V.int)/\SqK k2 K H' b (ys.map V.int))
  (g:B1 src σ=none::none::caps) (l:∀x y H1 o,Same H H1->o (f x y) H1->te (some (.int x)::some (.int y)::caps) H1 o)
  (hd:∀H1 p,Same H H1->H1 p=none->Q (.ref p) (upd H1 p (.lst (List.zipWith f xs ys)))) :
  E9 src (a6q K 2 (V5 (B0 0) (V5 (B0 1) a7z))) O5 te σ Q (Itz K k1 k2 a b) H:=by
 have u:(1000:Nat)<=sizeLine:=by rw[a_];decide
 refine Y5 (xs:=xs.map V.int) (zs:=ys.map V.int) (by rw[L5];omega) (λi zs H'=>Same H H'/\zs=(List.zipWith f xs ys).take i) ⟨Same.refl H,by simp⟩ (λi zs H' _ _ h=>⟨(c H' h.1).1,(c H' h.1).2,by rw[h.2];exact bI _ _⟩) ?_ ?_
 .rintro i x z zs H' p hx hy ⟨s,rfl⟩ hp;obtain⟨k,m,e1⟩:=U6 hx;obtain⟨d,n,e2⟩:=U6 hy;subst e1 e2;clear hx hy;have s':Same H (upd H' p (.tup [.int k,.int d])):=s.upd hp;refine⟨p,[.int k,.int d],rfl,SqT.of A0,rfl,.int k,[.int d],rfl,.int d,[],rfl,rfl,?_⟩;rw[g];show Sub _ (some (.int k)::some (.int d)::caps)/\_;refine⟨⟨rfl,λj v e=>?_⟩,?_⟩
  .match j,e with
   |0,e=>cases e
   |1,e=>cases e
   |j+2,e=>exact e
  .exact l k d _ _ s' ⟨s',(M5 f m n).symm⟩
 .rintro zs H' ⟨s,rfl⟩ p hp;have e:(List.zipWith f xs ys).take (min (xs.map V.int).length (ys.map V.int).length)=List.zipWith f xs ys:=by
   rw[L5,L5,bP];rw[eU];exact ao _
  rw[e];exact hd H' p s hp
theorem Sub.one{caps:St}{v:V}:Sub (none::caps) (some v::caps):=⟨rfl,λj u e=>by
 match j,e with
 |0,e=>cases e
 |j+1,e=>exact e⟩
theorem a0M{src:List (Option Nat)}{σ caps:St}{Q:VK}{n:Nat}{H:Hp}{e:TT}{te:TE}(h:n<=1000)(c:B1 src σ=none::caps)(a:Nat->List V->Hp->Prop)(h0:a 0 [] H)(g:∀i ys H,a i ys H->ys.length<=i)
  (hs:∀i ys H,i<n->a i ys H->e (some (.int i)::caps) H λb d=>if b=true then te (some (.int i)::caps) d λv f=>a (i+1) (ys++[v]) f else a (i+1) ys d)
  (hd:∀ys H,a n ys H->∀p,H p=none->Q (.ref p) (upd H p (.lst ys))):E9 src (B0 0) e te σ Q (Itr 0 n) H:=by
 have j:(1000:Nat)<=sizeLine:=by rw[a_];decide
 refine a7C (by omega) a h0 g (λi ys H hi p=>?_) hd;show Sub _ ((B1 src σ).set 0 (some (.int (0+(i:Int)))))/\_;rw[c,Int.zero_add];exact⟨Sub.one,hs i ys H hi p⟩
theorem a5v{K:PySem.W.Frag}{src:List (Option Nat)}{σ caps:St}{Q:VK}{a:Addr}{xs:List Int}{H:Hp}{te:TE}(f:Int->V)(j:xs.length<=1000)(b:∀H',Same H H'->SqT K H' a (xs.map V.int))(c:B1 src σ=none::caps)
  (e:∀x H1 g,x∈xs->Same H H1->g (f x) H1->te (some (.int x)::caps) H1 g) (hd:∀H1 p,Same H H1->H1 p=none->Q (.ref p) (upd H1 p (.lst (xs.map f)))):E9 src (B0 0) O5 te σ Q (Itt K a) H:=by
 have k:(1000:Nat)<=sizeLine:=by rw[a_];decide
 refine O3 (xs:=xs.map V.int) (by rw[L5];omega) (λi ys H'=>Same H H'/\ys=(xs.take i).map f) ⟨Same.refl H,by simp⟩ (λi ys H' _ h=>⟨b H' h.1,by rw[h.2,ae];exact bI _ _⟩) ?_ ?_
 .rintro i x ys H' hx ⟨s,rfl⟩;obtain⟨z,d,rfl⟩:=U6 hx;show Sub _ ((B1 src σ).set 0 (some (.int z)))/\_;rw[c];refine⟨Sub.one,e z H' _ (aI d) s ⟨s,?_⟩⟩;rw[bu,d];simp
 .rintro ys H' ⟨s,rfl⟩ p hp;rw[L5,bx];exact hd H' p s hp
theorem a7a{src:List (Option Nat)}{σ caps:St}{Q:VK}{n:Nat}{H:Hp}{te:TE}(f:Nat->V)(c:n<=1000)(a:B1 src σ=none::caps)(b:∀(i:Nat) H1 Q1,i<n->Same H H1->Q1 (f i) H1->te (some (.int i)::caps) H1 Q1)
  (hd:∀H1 p,Same H H1->H1 p=none->Q (.ref p) (upd H1 p (.lst ((List.range n).map f)))):E9 src (B0 0) O5 te σ Q (Itr 0 n) H:=by
 refine a0M c a (λi ys H'=>Same H H'/\ys=(List.range i).map f) ⟨Same.refl H,rfl⟩ (λi ys H' h=>by rw[h.2];simp) ?_ ?_
 .rintro i ys H' hi ⟨s,rfl⟩;refine b i H' _ hi s ⟨s,?_⟩;rw[List.range_succ,bz];rfl
 .rintro ys H' ⟨s,rfl⟩ p hp;exact hd H' p s hp
theorem Room.u60{k:Nat}{A:Around}(r:Room k A):A.units+60<cLine:=by have:=r.un;omega
theorem Z2{t u:TS}{D:Ends}{σ:St}{H:Hp}(a:St->Hp->Prop)(fin:∀σ H,a σ H->u D σ H)(h:(∀σ H,a σ H->u D σ H)->t {D with nx:=u D} σ H):b5V t u D σ H:=h fin
theorem b7H{K:PySem.W.Frag}{a:Bool}{te:TE}{σ:St}{H:Hp}{Q:VK}{b:Addr}{cs:List Int}(c:∀d:VK,d (.ref b) H->te σ H d)(f:H b=some (.lst (cs.map V.int)))
  (q:∀p,H p=none->Q (.bl (if a then !decide (cs=[])else decide (cs=[]))) (upd H p (.lst []))):tOp (a5O K a) te (b3u a1K) σ H Q :=
 c _ ⟨bG _,λp e=>⟨1,_,by decide,EqV.ints (k:=false) (ms:=[]) (SqL.of (R6 f e)) (SqL.of A0),⟨_,_,rfl,rfl⟩,q p e⟩⟩
theorem b7I{K:PySem.W.Frag}{a:Bool}{te:TE}{σ:St}{H:Hp}{Q:Bool->Hp->Prop}{b:Addr}{cs:List Int}(c:∀d:VK,d (.ref b) H->te σ H d)(e:H b=some (.lst (cs.map V.int)))
  (q:∀p,H p=none->Q (if a then !decide (cs=[])else decide (cs=[])) (upd H p (.lst []))):V1 (tOp (a5O K a) te (b3u a1K)) σ H Q :=
 b7H c e λp f=>⟨_,rfl,q p f⟩
theorem ixL{K:PySem.W.Frag}{ta tb:TE}{σ:St}{H:Hp}{Q:VK}{p:Addr}{xs:List V}{i:Int}{v:V}(b:∀a:VK,a (.ref p) H->ta σ H a)(c:∀a:VK,a (.int i) H->tb σ H a)(hp:H p=some (.lst xs))(e:atI xs i=some v)(q:Q v H):tOp (b3Q K) ta tb σ H Q :=
 b _ (c _ ⟨p,xs,i,v,rfl,rfl,SqL.of hp,e,q⟩)
theorem b2T(xs:List Int)(k:Nat)(a:k<=xs.length):K5 (xs.map V.int) none (some (k:Int))=(xs.take k).map V.int:=by
 unfold K5;rw[HT.sIx_none,HT.sIx_nat,ae,cA a,cJ,Nat.sub_zero,List.map_take]
theorem b2U(xs:List Int)(k:Nat)(a:k<=xs.length):K5 (xs.map V.int) (some (k:Int)) none=(xs.drop k).map V.int:=by
 unfold K5;rw[HT.sIx_none,HT.sIx_nat,ae,cA a,bP (by simp),List.map_drop]
theorem a9n(xs:List Int)(k:Nat)(z:Int)(a:k<xs.length):xs.take k++[z]++xs.drop (k+1)=xs.set k z:=by
 rw[List.set_eq_take_append_cons_drop,az a,aC];rfl
theorem b6f{K:PySem.W.Frag}{σ:St}{H:Hp}{Q:VK}{i j:Nat}{tx:TE}{a:Addr}{xs:List Int}{k:Nat}{z:Int}(hi:σ[i]?=some (some (.ref a)))(g:σ[j]?=some (some (.int k)))(f:H a=some (.tup (xs.map V.int)))(o:k<xs.length)(y:xs.length<=1000)
  (e:∀H' (N:VK),Same H H'->N (.int z) H'->tx σ H' N) (q:∀v H',Same H H'->IT H' v (xs.set k z)->Q v H') :
  tOp a2E (tOp a2E (tSl (a7d K) (N5 i) O6 (a3K (N5 j))) (b5U (a5w tx a1K))) (tSl (a7d K) (N5 i) (a3K (tOp (rI0 λi j=>.int (i+j)) (N5 j) (tC (.int 1)))) O6) σ H Q:=by
 have A:(3000:Nat)<=sizeLine:=by rw[a_];decide
 refine⟨_,hi,_,g,k,rfl,a,_,rfl,SqT.of f,?_,λp r=>?_⟩
 .rw[HT.sIx_none,HT.sIx_nat,ae];omega
 .rw[b2T xs k (by omega)];have s1:Same H (upd H p (.tup ((xs.take k).map V.int))):=(Same.refl H).upd r;have e1:upd H p (.tup ((xs.take k).map V.int)) p=some (.tup ((xs.take k).map V.int)):=A0;generalize upd H p (.tup ((xs.take k).map V.int))=H1 at s1 e1;refine e H1 _ s1 ⟨by show 1<=sizeLine;omega,λp2 c=>?_⟩;have s2:Same H1 (upd H1 p2 (.tup [.int z])):=(Same.refl H1).upd c;have e2:upd H1 p2 (.tup [.int z]) p2=some (.tup [.int z]):=A0;generalize upd H1 p2 (.tup [.int z])=H2 at s2 e2;refine⟨p,p2,_,_,rfl,rfl,s2 _ _ e1,e2,?_,λs b u m=>?_⟩
  .rw[ae,aP];show min k xs.length+1<=_;omega
  .have s13:Same H b:=(s1.trans s2).trans u;refine⟨_,hi,_,g,_,_,rfl,rfl,_,rfl,a,_,rfl,SqT.of (s13 _ _ f),?_,λh d=>?_⟩
   .rw[show((k:Int)+1)=((k+1:Nat):Int) by push_cast;rfl,HT.sIx_nat,ae];omega
   .rw[show((k:Int)+1)=((k+1:Nat):Int) by push_cast;rfl,b2U xs (k+1) (by omega)];have l:Same b (upd b h (.tup ((xs.drop (k+1)).map V.int))):=(Same.refl b).upd d;refine⟨s,h,_,_,rfl,rfl,l _ _ m,A0,?_,λt x w n=>?_⟩
    .rw[ak,ae,aP,ae,bE];show min k xs.length+1+_<=_;omega
    .refine q _ _ ((s13.trans l).trans w) ⟨t,rfl,?_⟩;rw[n,<-a9n xs k z o];simp
theorem var{i:Nat}{σ:St}{H:Hp}{v:V}(e:σ[i]?=some (some v)):∀Q:VK,Q v H->N5 i σ H Q:=λQ q=>⟨v,e,q⟩
theorem con{v:V}{σ:St}{H:Hp}:∀Q:VK,Q v H->tC v σ H Q:=λQ q=>q
structure JE(X:Cx)(e:Expr)(t:TE):Prop where
 h:PE X e t
structure JT(X:Cx)(e:Expr)(t:TT):Prop where
 h:PT X e t
structure JW(X:Cx)(e:Expr)(t:TT):Prop where
 h:PW X e t
structure JA(X:Cx)(es:List Expr)(t:TA):Prop where
 h:PA X es t
structure JS(X:Cx)(st:Stmt)(t:TS):Prop where
 h:PS X st t
structure JB(X:Cx)(st:List Stmt)(t:TS):Prop where
 h:PSs X st t
structure JG(X:Cx)(tg:Expr)(t:TG):Prop where
 h:PG X tg t
structure JGs(X:Cx)(ts:List Expr)(t:TGs):Prop where
 h:PGs X ts t
structure JI(X:Cx)(tg iter:Expr)(t:TI):Prop where
 h:PI X tg iter t
structure JF(X:Cx)(ifs:List Expr)(t:TT):Prop where
 h:PIf X ifs t
structure JO(X:Cx)(e:Option Expr)(t:TO):Prop where
 h:PO X e t
section
variable {X:Cx}{a b c e o:Expr}{es rest:List Expr}{ta tb tc te to:TE}{tA tB:TT}{t:TA}{pos p apos cpos p2:Pos}
theorem jv(i:Nat){x:Str}(b:X.N[i]?=some x:=by rfl)(c:Vis X.env.scope x:=by first|exact Or.inl rfl|exact Or.inr (Or.inl rfl)|exact Or.inr (Or.inr rfl))(hd:(x==("__debug__" : Str))=false:=by decide)
  (a:(x==("__classdict__" : Str))=false:=by decide):JE X (.Name x pos) (N5 i):=⟨b1J b c hd a⟩
theorem A5{i j}:JE X (.Constant (.int i) j pos) (tC (.int i)):=⟨b6y⟩
theorem M0{i j}:JE X (.Constant (.bool i) j pos) (tC (.bl i)):=⟨b8f⟩
theorem V3{j}:JE X (.Constant .none j pos) (tC .non):=⟨b6w⟩
theorem b8n{x j}:JE X (.Constant (.str x) j pos) (tC (.str x)):=⟨b6t⟩
theorem X4{x:Str}{v:V}{u:Value}(a:Gl X x)(b:X.mg x=none)(d:bootBuiltins x=some u)(r:RelV v u)(c:x≠"__name__":=by decide)(hd:(x==("__debug__" : Str))=false:=by decide):JE X (.Name x pos) (tC v):=⟨b4o a b d r c hd⟩
theorem Q0(c:JE X a ta)(d:JE X b tb):JE X (.BinOp a .Add b pos) (tOp (rI0 λi j=>.int (i+j)) ta tb):=⟨a0q b6O c.h d.h⟩
theorem a8F(c:JE X a ta)(d:JE X b tb):JE X (.BinOp a .Sub b pos) (tOp (rI0 λi j=>.int (i-j)) ta tb):=⟨a0q b6F c.h d.h⟩
theorem a3a(c:JE X a ta)(d:JE X b tb):JE X (.BinOp a .Mult b pos) (tOp (rI CMul λi j=>.int (i*j)) ta tb):=⟨a0q b6J c.h d.h⟩
theorem a1I(c:JE X a ta)(d:JE X b tb):JE X (.BinOp a .Mod b pos) (tOp (rI (λ_ j=>0<j) λi j=>.int (i % j)) ta tb):=⟨a0q b6K c.h d.h⟩
theorem b2u(c:JE X a ta)(d:JE X b tb):JE X (.BinOp a .FloorDiv b pos) (tOp (rI b8B λi j=>.int (i / j)) ta tb):=⟨a0q b4s c.h d.h⟩
theorem a6o(c:JE X a ta)(d:JE X b tb):JE X (.BinOp a .Pow b pos) (tOp (rI b8A λi j=>.int (i ^ j.toNat)) ta tb):=⟨a0q b6G c.h d.h⟩
theorem G5(c:JE X a ta)(d:JE X b tb):JE X (.BinOp a .Add b pos) (tOp (a2E) ta tb):=⟨a0q b1P c.h d.h⟩
theorem b2v(c:JE X a ta)(d:JE X b tb):JE X (.BinOp a .Add b pos) (tOp (b7Z) ta tb):=⟨a0q b6N c.h d.h⟩
theorem a2Z(c:JE X a ta)(d:JE X b tb):JE X (.BinOp a .Mult b pos) (tOp (b5t) ta tb):=⟨a0q b4q c.h d.h⟩
theorem b8p(b:JE X a ta):JE X (.UnaryOp .USub a pos) (tUn (rU λi=>.int (-i)) ta):=⟨b8c b5R b.h⟩
theorem b5H(b:JE X a ta):JE X (.UnaryOp .Not a pos) (b5i ta):=⟨b6v b.h⟩
theorem a0S{op}(h:JE X a ta):JE X (.BoolOp op [a] pos) ta:=⟨b6u h.h⟩
theorem a0s(c:JE X a ta)(d:JE X (.BoolOp .And (b::rest) pos) tb):JE X (.BoolOp .And (a::b::rest) pos) (b5m ta tb):=⟨b6B c.h d.h⟩
theorem b8o(c:JE X a ta)(d:JE X (.BoolOp .Or (b::rest) pos) tb):JE X (.BoolOp .Or (a::b::rest) pos) (b7M ta tb):=⟨b8d c.h d.h⟩
theorem b8q(f:JT X c tA)(d:JE X a ta)(e:JE X b tb):JE X (.IfExp c a b pos) (tIf tA ta tb):=⟨b1L f.h d.h e.h⟩
theorem a6k(c:JE X a ta)(d:JE X b tb):JE X (.Compare a [.Eq] [b] pos) (tOp (rEq) ta tb):=⟨a0P b5A c.h d.h (J7 _)⟩
theorem a1H(c:JE X a ta)(d:JE X b tb):JT X (.Compare a [.Eq] [b] pos) (V1 (tOp (rEq) ta tb)):=⟨M9 b5A c.h d.h (J7 _)⟩
theorem b5F(c:JE X a ta)(d:JE X b tb):JT X (.Compare a [.NotEq] [b] pos) (V1 (tOp (rNe) ta tb)):=⟨M9 b8g c.h d.h (J7 _)⟩
theorem a8C(c:JE X a ta)(d:JE X b tb):JT X (.Compare a [.Lt] [b] pos) (V1 (tOp (rI0 λi j=>.bl (decide (i<j))) ta tb)):=⟨M9 b8h c.h d.h (J7 _)⟩
theorem b5E(c:JE X a ta)(d:JE X b tb):JE X (.Compare a [.LtE] [b] pos) (tOp (rI0 λi j=>.bl (decide (i<=j))) ta tb):=⟨a0P b8i c.h d.h (J7 _)⟩
theorem b2l(c:JE X a ta)(d:JE X b tb):JT X (.Compare a [.Gt] [b] pos) (V1 (tOp (rI0 λi j=>.bl (decide (j<i))) ta tb)):=⟨M9 b8j c.h d.h (J7 _)⟩
theorem b8l(c:JE X a ta)(d:JE X b tb):JE X (.Compare a [.GtE] [b] pos) (tOp (rI0 λi j=>.bl (decide (j<=i))) ta tb):=⟨a0P b5z c.h d.h (J7 _)⟩
theorem b8m(c:JE X a ta)(d:JE X b tb):JT X (.Compare a [.GtE] [b] pos) (V1 (tOp (rI0 λi j=>.bl (decide (j<=i))) ta tb)):=⟨M9 b5z c.h d.h (J7 _)⟩
theorem b7b(K:PySem.W.Frag)(f:X.A.units+60<cLine)(d:JE X a ta)(e:JE X b tb)(c:X.K=K:=by rfl):JE X (.Compare a [.Eq] [b] pos) (tOp (a5O K false) ta tb):=⟨a0P (b6L K f c) d.h e.h (J7 _)⟩
theorem a7s(K:PySem.W.Frag)(f:X.A.units+60<cLine)(d:JE X a ta)(e:JE X b tb)(c:X.K=K:=by rfl):JT X (.Compare a [.NotEq] [b] pos) (V1 (tOp (a5O K true) ta tb)):=⟨M9 (b6H K f c) d.h e.h (J7 _)⟩
theorem b7a(c:JE X a ta)(d:JE X b tb):JE X (.Compare a [.Is] [b] pos) (tOp (λx y H Q=>y=.non/\Q (.bl (decide (x=.non))) H) ta tb):=⟨a0P b1Q c.h d.h (J7 _)⟩
theorem a4U(c:JE X a ta)(d:JE X b tb):JT X (.Compare a [.Is] [b] pos) (V1 (tOp (λx y H Q=>y=.non/\Q (.bl (decide (x=.non))) H) ta tb)):=⟨M9 b1Q c.h d.h (J7 _)⟩
theorem b4H(c:JE X a ta)(d:JE X b tb):JT X (.Compare a [.IsNot] [b] pos) (V1 (tOp (λx y H Q=>y=.non/\Q (.bl (!decide (x=.non))) H) ta tb)):=⟨M9 b4r c.h d.h (J7 _)⟩
theorem a3Y(k:Bool)(c:JE X a ta)(d:JE X b tb):JT X (.Compare a [.IsNot] [b] pos) (V1 (tOp (λx y H Q=>y=.bl k/\Q (.bl (!a8o x k)) H) ta tb)):=⟨M9 (a9G (b:=k)) c.h d.h (J7 _)⟩
theorem a1S(h:JW X e tA):JT X e tA:=⟨h.h.pt⟩
theorem a0d(b:JT X a tA):JW X (.BoolOp .And [a] pos) tA:=⟨pw_and1 b.h⟩
theorem a1k(b:JT X a tA):JW X (.BoolOp .Or [a] pos) tA:=⟨pw_or1 b.h⟩
theorem a1l(c:JT X a tA)(d:JW X (.BoolOp .And (b::rest) pos) tB):JW X (.BoolOp .And (a::b::rest) pos) (b7S tA tB):=⟨pw_and c.h d.h⟩
theorem a2W(c:JT X a tA)(d:JW X (.BoolOp .Or (b::rest) pos) tB):JW X (.BoolOp .Or (a::b::rest) pos) (tOr tA tB):=⟨pw_or c.h d.h⟩
theorem M1(b:JT X a tA):JT X (.UnaryOp .Not a pos) (b7N tA):=⟨b6g b.h⟩
theorem D4(K:PySem.W.Frag)(d:JE X a ta)(e:∀b,isTrue a X.env b=(do let v <-b;standAt a.pos;holding [v] (truthy v)):=by intro _;rfl)(c:X.K=K:=by rfl):JT X a (b7J K ta):=⟨a9A K d.h e c⟩
theorem jaN:JA X [] a1K:=⟨b6D⟩
theorem jaC(a:JE X e te)(b:JA X es t)(hs:starEach (e::es) X.env=(false,eval e X.env)::starEach es X.env:=by rfl):JA X (e::es) (a5w te t):=⟨b4p a.h b.h hs⟩
theorem X2{x1}(h:JA X es t):JE X (.Tuple es x1 pos) (b5U t):=⟨b6s h.h⟩
theorem V4(h:JA X es t):JE X (.List es pos) (b3u t):=⟨b6x h.h⟩
theorem M2(K:PySem.W.Frag)(d:JE X a ta)(e:JE X b tb)(hs:a5j b:=by intro _ _;rfl)(c:X.K=K:=by rfl):JE X (.Subscript a b pos) (tOp (b3Q K) ta tb):=⟨b5y (b2w K c) d.h e.h hs⟩
theorem L9(K:PySem.W.Frag)(d:JE X a ta)(e:JE X b tb)(hs:a5j b:=by intro _ _;rfl)(c:X.K=K:=by rfl):JE X (.Subscript a b pos) (tOp (b3P K) ta tb):=⟨b5y (b4O K c) d.h e.h hs⟩
theorem L7:JO X none O6:=⟨b4a⟩
theorem L6(h:JE X e te):JO X (some e) (a3K te):=⟨b3Z h.h⟩
theorem b5G(K:PySem.W.Frag){lo hi:Option Expr}{tl th:TO}(b:JE X e te)(c:JO X lo tl)(d:JO X hi th)(a:X.K=K:=by rfl):JE X (.Subscript e (.Slice lo hi none p2) pos) (tSl (b6b K) te tl th):=⟨a2I (b1d K a) b.h c.h d.h⟩
theorem a8H(K:PySem.W.Frag){lo hi:Option Expr}{tl th:TO}(b:JE X e te)(c:JO X lo tl)(d:JO X hi th)(a:X.K=K:=by rfl):JE X (.Subscript e (.Slice lo hi none p2) pos) (tSl (a7d K) te tl th):=⟨a2I (b3z K a) b.h c.h d.h⟩
theorem A6{k:Nat}{ps:List Str}{sp:Sp}{x:Str}(O:Ok X.prog X.w X.K X.mg X.base x k ps sp)(g:Room k X.A)(f:Gl X x)(c:JA X (e::es) t)(a:(x==("__debug__" : Str))=false:=by decide)
  (d:starEach (e::es) X.env=(false,eval e X.env)::starEach es X.env:=by rfl) (b:(backTo pos (starEach es X.env)).any (·.1)=false:=by rfl):JE X (.Call (.Name x p) (e::es) [] pos) (b0P sp [] E0 t):=⟨b1N O g f c.h a d b⟩
theorem G7(K:PySem.W.Frag)(f:Gl X "len")(g:X.mg "len"=none)(c:JA X (e::es) t)(b:X.K=K:=by rfl)(d:starEach (e::es) X.env=(false,eval e X.env)::starEach es X.env:=by rfl)(a:(backTo pos (starEach es X.env)).any (·.1)=false:=by rfl):JE X (.Call (.Name "len" p) (e::es) [] pos) (tCB (b7W K) t):=⟨G3 (b0q K b) f g b3g c.h (by decide) (by decide) d a⟩
theorem b2q(K:PySem.W.Frag)(g:Gl X "sum")(h:X.mg "sum"=none)(c:JA X (e::es) t)(d:X.calm=true:=by rfl)(b:X.K=K:=by rfl)(f:starEach (e::es) X.env=(false,eval e X.env)::starEach es X.env:=by rfl)(a:(backTo pos (starEach es X.env)).any (·.1)=false:=by rfl):JE X (.Call (.Name "sum" p) (e::es) [] pos) (tCB (b6a K) t):=⟨G3 (b0n K d b) g h b7t c.h (by decide) (by decide) f a⟩
theorem O0(K:PySem.W.Frag)(g:Gl X "all")(h:X.mg "all"=none)(c:JA X (e::es) t)(d:X.calm=true:=by rfl)(b:X.K=K:=by rfl)(f:starEach (e::es) X.env=(false,eval e X.env)::starEach es X.env:=by rfl)(a:(backTo pos (starEach es X.env)).any (·.1)=false:=by rfl):JE X (.Call (.Name "all" p) (e::es) [] pos) (tCB (b6e K) t):=⟨G3 (b0v K d b) g h b7w c.h (by decide) (by decide) f a⟩
theorem b7e(K:PySem.W.Frag)(g:Gl X "any")(h:X.mg "any"=none)(c:JA X (e::es) t)(d:X.calm=true:=by rfl)(b:X.K=K:=by rfl)(f:starEach (e::es) X.env=(false,eval e X.env)::starEach es X.env:=by rfl)(a:(backTo pos (starEach es X.env)).any (·.1)=false:=by rfl):JE X (.Call (.Name "any" p) (e::es) [] pos) (tCB (b6d K) t):=⟨G3 (b0u K d b) g h b7v c.h (by decide) (by decide) f a⟩
theorem C5(K:PySem.W.Frag)(f:Gl X "isinstance")(g:X.mg "isinstance"=none)(c:JA X (e::es) t)(b:X.K=K:=by rfl)(d:starEach (e::es) X.env=(false,eval e X.env)::starEach es X.env:=by rfl)(a:(backTo pos (starEach es X.env)).any (·.1)=false:=by rfl):JE X (.Call (.Name "isinstance" p) (e::es) [] pos) (tCB (b6c K) t):=⟨G3 (b0r K b) f g a3H c.h (by decide) (by decide) d a⟩
theorem C9(K:PySem.W.Frag)(f:Gl X "tuple")(g:X.mg "tuple"=none)(c:JA X (e::es) t)(b:X.K=K:=by rfl)(d:starEach (e::es) X.env=(false,eval e X.env)::starEach es X.env:=by rfl)(a:(backTo pos (starEach es X.env)).any (·.1)=false:=by rfl):JE X (.Call (.Name "tuple" p) (e::es) [] pos) (tCB (b1t K) t):=⟨R9 (a6B K b) f g Y7 c.h (by decide) (by decide) d a⟩
theorem b4K(K:PySem.W.Frag)(f:Gl X "list")(g:X.mg "list"=none)(c:JA X (e::es) t)(b:X.K=K:=by rfl)(d:starEach (e::es) X.env=(false,eval e X.env)::starEach es X.env:=by rfl)(a:(backTo pos (starEach es X.env)).any (·.1)=false:=by rfl):JE X (.Call (.Name "list" p) (e::es) [] pos) (tCB (b5u K) t):=⟨R9 (a7I K b) f g b4Z c.h (by decide) (by decide) d a⟩
theorem b7d(d:Gl X "int")(f:X.mg "int"=none)(b:JA X (e::es) t)(c:starEach (e::es) X.env=(false,eval e X.env)::starEach es X.env:=by rfl)(a:(backTo pos (starEach es X.env)).any (·.1)=false:=by rfl):JE X (.Call (.Name "int" p) (e::es) [] pos) (tCB (b7X) t):=⟨R9 b0s d f a7L b.h (by decide) (by decide) c a⟩
theorem a0e(K:PySem.W.Frag)(h:JE X o to)(g:JA X (e::es) t)(f:X.K=K:=by rfl)(b:attributeBase o "append" X.env (eval o X.env)=eval o X.env:=by rfl)
  (d:((backTo cpos (starEach (e::es) X.env)).all (λx=>!x.1) && (backToKw cpos (keywordEach [] X.env)).all (λx=>x.1.isSome) && decide ((e::es).length+([]:List Keyword).length+(if ([]:List Keyword).isEmpty then 0 else 1)<30))=true:=by rfl)
  (c:(apos.endLine==cpos.line)=true:=by rfl) (hs:starEach (e::es) X.env=(false,eval e X.env)::starEach es X.env:=by rfl) (a:(backTo cpos (starEach es X.env)).any (·.1)=false:=by rfl) :
  JE X (.Call (.Attribute o "append" apos) (e::es) [] cpos) (tBM K "list" a8s to t):=⟨a7g K PySem.F.plainAttrs_list PySem.F.slot_list_append PySem.F.type_list_append a9R h.h g.h f b d c hs a⟩
theorem a6m(K:PySem.W.Frag)(h:JE X o to)(g:JA X (e::es) t)(f:X.K=K:=by rfl)(b:attributeBase o "pop" X.env (eval o X.env)=eval o X.env:=by rfl)
  (d:((backTo cpos (starEach (e::es) X.env)).all (λx=>!x.1) && (backToKw cpos (keywordEach [] X.env)).all (λx=>x.1.isSome) && decide ((e::es).length+([]:List Keyword).length+(if ([]:List Keyword).isEmpty then 0 else 1)<30))=true:=by rfl)
  (c:(apos.endLine==cpos.line)=true:=by rfl) (hs:starEach (e::es) X.env=(false,eval e X.env)::starEach es X.env:=by rfl) (a:(backTo cpos (starEach es X.env)).any (·.1)=false:=by rfl) :
  JE X (.Call (.Attribute o "pop" apos) (e::es) [] cpos) (tBM K "list" b1w to t):=⟨a7g K PySem.F.plainAttrs_list PySem.F.slot_list_pop PySem.F.type_list_pop b2g h.h g.h f b d c hs a⟩
theorem a3Z(K:PySem.W.Frag)(h:JE X o to)(g:JA X (e::es) t)(f:X.K=K:=by rfl)(b:attributeBase o "extend" X.env (eval o X.env)=eval o X.env:=by rfl)
  (d:((backTo cpos (starEach (e::es) X.env)).all (λx=>!x.1) && (backToKw cpos (keywordEach [] X.env)).all (λx=>x.1.isSome) && decide ((e::es).length+([]:List Keyword).length+(if ([]:List Keyword).isEmpty then 0 else 1)<30))=true:=by rfl)
  (c:(apos.endLine==cpos.line)=true:=by rfl) (hs:starEach (e::es) X.env=(false,eval e X.env)::starEach es X.env:=by rfl) (a:(backTo cpos (starEach es X.env)).any (·.1)=false:=by rfl) :
  JE X (.Call (.Attribute o "extend" apos) (e::es) [] cpos) (tBM K "list" a8r to t):=⟨a7g K PySem.F.plainAttrs_list PySem.F.slot_list_extend PySem.F.type_list_extend a9Q h.h g.h f b d c hs a⟩
theorem A8{i:Nat}{x:Str}(a:X.N.Nodup)(hi:X.N[i]?=some x)(c:Loc X.env.scope x)(b:X.fn x=true∨X.env.scope.names.lookup x=some .local:=by first|exact .inl rfl|exact .inr rfl|assumption):JG X (.Name x pos) (B0 i):=⟨b4j a hi c b⟩
theorem N2:JGs X [] a7z:=⟨b4h⟩
theorem C0{g:TG}{u:TGs}(h1:JG X e g)(h2:JGs X es u)(hs:(assignEach (e::es) X.env).map (·.2)=assign e X.env::(assignEach es X.env).map (·.2):=by rfl):JGs X (e::es) (V5 g u):=⟨b1I h1.h h2.h hs⟩
theorem U0(K:PySem.W.Frag)(n:Nat){k:Nat}{u:TGs}(h:JGs X es u)(c:X.calm=true:=by rfl)(b:X.K=K:=by rfl)(d:(assignEach es X.env).length=n:=by rfl)(a:(assignEach es X.env).findIdx? (·.1)=none:=by rfl):JG X (.Tuple es k pos) (a6q K n u):=⟨b4i K c h.h b d a⟩
theorem a7t{i:Expr}{a:TE}(c:JE X o to)(hi:JE X i a)
  (b:∀v,assign (.Subscript o i pos) X.env v=(do
   let ov <-holding [v] (eval o X.env)
   let iv <-holding [v,ov] (eval i X.env)
   standAt pos
   holding [v,ov,iv] (setItem ov iv v)
   release [v,ov,iv] []):=by intro _;rfl):JG X (.Subscript o i pos) (b8s to a b5s):=⟨b6r c.h hi.h b1g b⟩
theorem J9(K:PySem.W.Frag){tg l:Expr}{tl:TE}(b:JE X l tl)(a:X.K=K:=by rfl):JI X tg l (b2z K tl):=⟨b1H K b.h a⟩
theorem E5(K:PySem.W.Frag){tg l:Expr}{tl:TE}(b:JE X l tl)(a:X.K=K:=by rfl):JI X tg l (b7m K tl):=⟨b4e K b.h a⟩
theorem a2Y(K:PySem.W.Frag){h:Nat}{i:Pos}(f:Gl X "zip")(g:X.mg "zip"=none)(e:JA X [a,b] t)(d:X.K=K:=by rfl)(hs:starEach [a,b] X.env=[(false,eval a X.env),(false,eval b X.env)]:=by rfl)(c:starEach [b] X.env=[(false,eval b X.env)]:=by rfl) :
  JI X (.Tuple es h i) (.Call (.Name "zip" p) [a,b] [] pos) (b7l K t):=⟨b4d K f g e.h d hs c⟩
theorem K4{tg:Expr}(c:Gl X "range")(d:X.mg "range"=none)(b:JA X [a] t)(hs:starEach [a] X.env=[(false,eval a X.env)]:=by rfl):JI X tg (.Call (.Name "range" p) [a] [] pos) (b5J t):=⟨a9D c d b.h hs⟩
theorem C4:JF X [] O5:=⟨b4c⟩
theorem a1m(h:JT X c tA):JF X [c] tA:=⟨b4b h.h⟩
theorem B8{tg b c:Expr}{f:List Expr}{scope:Scope}{N:List Str}{src:List (Option Nat)}{wi:TI}{g:TG}{i:TT}(hi:JI X tg b wi)(e:B7 scope X.env.scope=true)(d:M4 N src X.N scope=true)(h:a4J scope=true)
  (l:∀a C s H ex,JG (X.blk N scope a C s H ex) tg g) (m:∀a C s H ex,JF (X.blk N scope a C s H ex) f i) (k:∀a C s H ex,JE (X.blk N scope a C s H ex) c te)
  (j:X.calm=true:=by rfl) (hs:∀x,foldedSetIterable b X.env x=pure x:=by intro _;rfl):JE X (.ListComp c [⟨tg,b,f,0⟩] scope pos) (a5x src wi g i te) :=
 ⟨b4m j hi.h e d h (λ_ _ _ _ _=>(l _ _ _ _ _).h) (λ_ _ _ _ _=>(m _ _ _ _ _).h) (λ_ _ _ _ _=>(k _ _ _ _ _).h) hs⟩
variable {st:Stmt}{sts:List Stmt}{u v:TS}
theorem C1:JB X [] b5j:=⟨b3U⟩
theorem A2(h1:JS X st u)(h2:JB X sts v):JB X (st::sts) (b5V u v):=⟨b1z h1.h h2.h⟩
theorem A4(h1:JS X st u):JB X [st] u:=⟨b3T h1.h⟩
theorem b2p:JS X (.Break pos) b0Q:=⟨b1D⟩
theorem A9(a:JE X e te):JS X (.Return (some e) pos) (b5W te):=⟨b6j a.h⟩
theorem T9(a:JE X e te)(hs:swapsWith e none pos.line X.env=pure false:=by rfl):JS X (.Expr e pos) (b5l te):=⟨b3W a.h hs⟩
theorem D5{A B:List Stmt}(d:JT X c tA)(a:JB X A u)(b:JB X B v):JS X (.If c A B pos) (b7O tA u v):=⟨b8b d.h a.h b.h⟩
theorem a6l{B:List Stmt}(b:JT X c tA)(a:JB X B v)(hp:PassesOwn (model X.prog X.w) X.A X.env X.xe:=by exact PassesOwn.never):JS X (.While c B [] pos) (b0L tA v):=⟨b1A hp b.h a.h⟩
theorem N9{tg a:Expr}{B:List Stmt}{wi:TI}{g:TG}(hi:JI X tg a wi)(d:JG X tg g)(b:JB X B v)(hp:PassesOwn (model X.prog X.w) X.A X.env X.xe:=by exact PassesOwn.never)(c:X.calm=true:=by rfl)
  (hs:∀x,foldedSetIterable a X.env x=pure x:=by intro _;rfl):JS X (.For tg a B [] pos) (b7P wi g v):=⟨b6l hp c hi.h d.h b.h hs⟩
theorem B3{i:Nat}{x:Str}{pos':Pos}(a:X.N.Nodup)(hi:X.N[i]?=some x)(d:Loc X.env.scope x)(b:JE X e te)(hs:swapsWith e (some (.Name x pos')) pos.line X.env=pure false:=by rfl)
  (c:X.fn x=true∨X.env.scope.names.lookup x=some .local:=by first|exact .inl rfl|exact .inr rfl|assumption):JS X (.Assign [.Name x pos'] e pos) (a9i te (B0 i)):=⟨b6i a hi d b.h hs c⟩
theorem a4V{i:Nat}{y:Str}{m c:Pos}{tg b d:Expr}{e:List Expr}{scope:Scope}{N:List Str}{src:List (Option Nat)}{wi:TI}{g:TG}{n:TT}
  (o:X.N.Nodup) (v:X.N[i]?=some y) (u:Loc X.env.scope y) (hi:JI X tg b wi) (h:B7 scope X.env.scope=true) (f:M4 N src X.N scope=true) (k:a4J scope=true)
  (r:∀a C s H ex,JG (X.blk N scope a C s H ex) tg g) (t:∀a C s H ex,JF (X.blk N scope a C s H ex) e n) (j:∀a C s H ex,JE (X.blk N scope a C s H ex) d te)
  (p:X.calm=true:=by rfl) (l:swapsWith (.ListComp d [⟨tg,b,e,0⟩] scope pos) (some (.Name y m)) c.line X.env=pure true:=by rfl) (hs:∀x,foldedSetIterable b X.env x=pure x:=by intro _;rfl)
  (q:X.fn y=true∨X.env.scope.names.lookup y=some .local:=by first|exact .inl rfl|exact .inr rfl|assumption) :
  JS X (.Assign [.Name y m] (.ListComp d [⟨tg,b,e,0⟩] scope pos) c) (a9i (a5x src wi g n te) (B0 i)) :=
 ⟨b3V o v u p hi.h h f k (λ_ _ _ _ _=>(r _ _ _ _ _).h) (λ_ _ _ _ _=>(t _ _ _ _ _).h) (λ_ _ _ _ _=>(j _ _ _ _ _).h) l hs q⟩
theorem a2X{tg:Expr}{g:TG}(a:JE X e te)(b:JG X tg g)(hs:swapsWithSole [tg] e pos.line X.env=pure false:=by rfl)(hw:swappedStores [tg] e X.env=pure none:=by rfl)
  (h1:(assignEach [tg] X.env).map (·.2)=[assign tg X.env]:=by rfl):JS X (.Assign [tg] e pos) (a9i te g):=⟨b6n a.h b.h hs hw h1⟩
end
section
variable {P:Program}{w:World}{K:PySem.W.Frag}{mg:Str->Option Value}{base:Heap}
theorem FunAt.okJ{x:Str}{st:Stmt}{N ps:List Str}{k:Nat}{sp:Sp}(F:FunAt K mg x st ps)(S:FnScope N ps (A1 st))(len:∀vs H Q E,sp vs H Q E->vs.length=ps.length)
  (b:∀(a:Value) (f:Addr) (A:Around) (outer:List Env) (s:Shared) (H:Hp) (vs:List V) (Q:VK) (E:XK),Room k (A.deeper (envOfC x (A1 st) s.heap.objs.size f a))->sp vs H Q E ->
   ∃t,JB (V9 CX0 P w K mg base N x (A1 st) f a A outer s H E).nox (E8 st) t/\t {nx:=λ_ H'=>Q .non H',rt:=Q} (start N vs) H):Ok P w K mg base x (k+1) ps sp :=
 F.ok S len λa f A outer s H vs Q E c h=>let ⟨t,d,r⟩:=b a f A outer s H vs Q E c h;⟨t,d.h,r⟩
theorem Fun.okJ{x qual:Str}{st:Stmt}{f:Addr}{fd:FuncData}{N ps:List Str}{k:Nat}{sp:Sp}(F:Fun K x qual st f fd)(S:FnScope N ps (A1 st))(len:∀vs H Q E,sp vs H Q E->vs.length=ps.length)
  (b:∀(a:Value) (A:Around) (outer:List Env) (s:Shared) (H:Hp) (vs:List V) (Q:VK) (E:XK),Room k (A.deeper (envOfC qual (A1 st) s.heap.objs.size f a))->sp vs H Q E ->
   ∃t,JB (V9 CX0 P w K mg base N qual (A1 st) f a A outer s H E).nox (E8 st) t/\t {nx:=λ_ H'=>Q .non H',rt:=Q} (start N vs) H):FnOk P w K mg base CX0 (k+1) f fd ps sp :=
 F.ok S len λa A outer s H vs Q E c h=>let ⟨t,d,r⟩:=b a A outer s H vs Q E c h;⟨t,d.h,r⟩
end
def a8i(K:PySem.W.Frag):Sp:=λvs H Q _=>∃(a:Addr) (ns:List Int),vs=[.ref a]/\SqL K H a (ns.map V.int)/\ns.length<=63/\∀H',Q (.bl true) H'
theorem law_walk{l:PySem.W.OpenLaw}{q:Program}{b:List Str}{XP:(Str->Option Value)->Heap->Prop}{e:World->Heap->Prop}{d:DefRec}{K:Params->PySem.W.Frag}(k:Nat)(o:l.most=some 63)(c:d.params.defaults=[])(p:Room k callerA)
  (j:∀(w:World) (h:Heap),e w h->(K w.params).In h)
  (F:∀(w:World) (mg:Str->Option Value) (g:Addr) (h:Heap),(K w.params).In h->h.Ns mainGlobals mg->mg d.name=some (.ref g) ->
   ∃fd:FuncData,(∀(s:Shared) (u:Value),BindsTo s fd ⟨[u],[]⟩ [("_law_script",u)])/\∀base:Heap,(K w.params).In base->base.Ns mainGlobals mg->FnOk l.prog w (K w.params) mg base CX0 k g fd ["_law_script"] (a8i (K w.params))) :
  PySem.W.WalkO q b XP e l.row.toRowW d [] (λf vs=>PySem.call f vs) :=
 L2.walk_of (n:=63) (k:=k) (x:="_law_script") (CX:=λ_=>CX0) (sp:=λw=>a8i (K w.params)) o (by decide) c p j F (λ_ _ a r m _ i=>⟨a,r,rfl,i,m,λ_=>rfl⟩) λ_ _ _ _ _ z=>z
def Its(H:Hp)(vs:List V)(rss:LLI):Prop:=vs.length=rss.length/\∀(i:Nat) (v:V),vs[i]?=some v->∃r,rss[i]?=some r/\IT H v r
theorem Its.same{H H':Hp}{vs:List V}{rss:LLI}(h:Its H vs rss)(s:Same H H'):Its H' vs rss:=⟨h.1,λi v e=>let ⟨r,e1,e2⟩:=h.2 i v e;⟨r,e1,e2.same s⟩⟩
theorem Its.nil{H:Hp}:Its H [] []:=⟨rfl,λi v e=>by simp at e⟩
theorem Its.snoc{H:Hp}{vs:List V}{rss:LLI}{v:V}{r:List Int}(h:Its H vs rss)(b:IT H v r):Its H (vs++[v]) (rss++[r]):=by
 refine⟨by simp[h.1],λi u e=>?_⟩;by_cases hi:i<vs.length
 .rw[bq hi]at e;obtain⟨q,e1,e2⟩:=h.2 i u e;exact⟨q,by rw[bq (by rw[<-h.1];exact hi)];exact e1,e2⟩
 .rw[aW (by omega)]at e;have a:i-vs.length=0:=by
   have:=(aT.mp e).1;simp at this;omega
  rw[a]at e;simp at e;subst e;refine⟨r,?_,b⟩;rw[aW (by rw[<-h.1];omega),<-h.1,a];rfl
theorem Its.mem{H:Hp}{vs:List V}{rss:LLI}{v:V}{i:Nat}(h:Its H vs rss)(e:vs[i]?=some v):∃r,r∈rss/\rss[i]?=some r/\IT H v r :=
 let ⟨r,e1,e2⟩:=h.2 i v e
 ⟨r,aI e1,e1,e2⟩
theorem a9c{K:PySem.W.Frag}{src:List (Option Nat)}{σ caps:St}{Q:VK}{k1 k2:Bool}{a b:Addr}{xs ys:List Int}{H:Hp}{te:TE}(f:Int->Int->V)(q:xs.length<=1000)
  (c:∀H',Same H H'->SqK k1 K H' a (xs.map V.int)/\SqK k2 K H' b (ys.map V.int))
  (g:B1 src σ=none::none::caps) (n:∀x y H1 o,x∈xs->y∈ys->Same H H1->o (f x y) H1->te (some (.int x)::some (.int y)::caps) H1 o)
  (hd:∀H1 p,Same H H1->H1 p=none->Q (.ref p) (upd H1 p (.lst (List.zipWith f xs ys)))) :
  E9 src (a6q K 2 (V5 (B0 0) (V5 (B0 1) a7z))) O5 te σ Q (Itz K k1 k2 a b) H:=by
 have r:(1000:Nat)<=sizeLine:=by rw[a_];decide
 refine Y5 (xs:=xs.map V.int) (zs:=ys.map V.int) (by rw[L5];omega) (λi zs H'=>Same H H'/\zs=(List.zipWith f xs ys).take i) ⟨Same.refl H,by simp⟩ (λi zs H' _ _ h=>⟨(c H' h.1).1,(c H' h.1).2,by rw[h.2];exact bI _ _⟩) ?_ ?_
 .rintro i x z zs H' p hx hy ⟨s,rfl⟩ hp;obtain⟨m,k,e1⟩:=U6 hx;obtain⟨d,l,e2⟩:=U6 hy;subst e1 e2;clear hx hy;have s':Same H (upd H' p (.tup [.int m,.int d])):=s.upd hp;refine⟨p,[.int m,.int d],rfl,SqT.of A0,rfl,.int m,[.int d],rfl,.int d,[],rfl,rfl,?_⟩;rw[g];show Sub _ (some (.int m)::some (.int d)::caps)/\_;refine⟨⟨rfl,λj v e=>?_⟩,?_⟩
  .match j,e with
   |0,e=>cases e
   |1,e=>cases e
   |j+2,e=>exact e
  .exact n m d _ _ (aI k) (aI l) s' ⟨s',(M5 f k l).symm⟩
 .rintro zs H' ⟨s,rfl⟩ p hp;have e:(List.zipWith f xs ys).take (min (xs.map V.int).length (ys.map V.int).length)=List.zipWith f xs ys:=by
   rw[L5,L5,bP];rw[eU];exact ao _
  rw[e];exact hd H' p s hp
theorem b3s{K:PySem.W.Frag}{src:List (Option Nat)}{σ caps:St}{Q:VK}{a:Addr}{vs:List V}{rss:LLI}{H:Hp}{te:TE}(f:List Int->V)(l:vs.length<=1000)(b:∀H',Same H H'->SqT K H' a vs)(hI:Its H vs rss)(c:B1 src σ=none::caps)
  (g:∀v r H1 j,r∈rss->IT H1 v r->Same H H1->(∀H2,Same H1 H2->j (f r) H2)->te (some v::caps) H1 j) (hd:∀H1 p,Same H H1->H1 p=none->Q (.ref p) (upd H1 p (.lst (rss.map f)))):E9 src (B0 0) O5 te σ Q (Itt K a) H:=by
 have m:(1000:Nat)<=sizeLine:=by rw[a_];decide
 refine O3 (xs:=vs) (by omega) (λi ys H'=>Same H H'/\ys=(rss.take i).map f) ⟨Same.refl H,by simp⟩ (λi ys H' _ h=>⟨b H' h.1,by rw[h.2,ae];exact bI _ _⟩) ?_ ?_
 .rintro i x ys H' hx ⟨s,rfl⟩;obtain⟨r,k,d,e⟩:=hI.mem hx;show Sub _ ((B1 src σ).set 0 (some x))/\_;rw[c];refine⟨Sub.one,g x r H' _ k (e.same s) s λH2 s2=>⟨s.trans s2,?_⟩⟩;rw[bu,d];simp
 .rintro ys H' ⟨s,rfl⟩ p hp;rw[hI.1,bx];exact hd H' p s hp
theorem b0A{K:PySem.W.Frag}{src:List (Option Nat)}{σ caps:St}{Q:VK}{k1 k2:Bool}{a b:Addr}{xs:List Int}{us:List V}{rss:LLI}{H:Hp}{te:TE}(f:Int->List Int->V)(t:xs.length<=1000)
  (c:∀H',Same H H'->SqK k1 K H' a (xs.map V.int)/\SqK k2 K H' b us) (hI:Its H us rss)
  (d:B1 src σ=none::none::caps) (n:∀x v r H1 o,x∈xs->r∈rss->IT H1 v r->Same H H1->o (f x r) H1->te (some (.int x)::some v::caps) H1 o)
  (hd:∀H1 p,Same H H1->H1 p=none->Q (.ref p) (upd H1 p (.lst (List.zipWith f xs rss)))) :
  E9 src (a6q K 2 (V5 (B0 0) (V5 (B0 1) a7z))) O5 te σ Q (Itz K k1 k2 a b) H:=by
 have u:(1000:Nat)<=sizeLine:=by rw[a_];decide
 refine Y5 (xs:=xs.map V.int) (zs:=us) (by rw[L5];omega) (λi zs H'=>Same H H'/\zs=(List.zipWith f xs rss).take i) ⟨Same.refl H,by simp⟩ (λi zs H' _ _ h=>⟨(c H' h.1).1,(c H' h.1).2,by rw[h.2];exact bI _ _⟩) ?_ ?_
 .rintro i x z zs H' p hx hy ⟨s,rfl⟩ hp;obtain⟨k,g,e1⟩:=U6 hx;subst e1;obtain⟨r,q,l,m⟩:=hI.mem hy;have s':Same H (upd H' p (.tup [.int k,z])):=s.upd hp;refine⟨p,[.int k,z],rfl,SqT.of A0,rfl,.int k,[z],rfl,z,[],rfl,rfl,?_⟩;rw[d];show Sub _ (some (.int k)::some z::caps)/\_;refine⟨⟨rfl,λj v e=>?_⟩,?_⟩
  .match j,e with
   |0,e=>cases e
   |1,e=>cases e
   |j+2,e=>exact e
  .exact n k z r _ _ (aI g) q (m.same s') s' ⟨s',(M5 f g l).symm⟩
 .rintro zs H' ⟨s,rfl⟩ p hp;have e:(List.zipWith f xs rss).take (min (xs.map V.int).length us.length)=List.zipWith f xs rss:=by
   rw[L5,hI.1,bP];rw[eU];exact ao _
  rw[e];exact hd H' p s hp
theorem a7b{src:List (Option Nat)}{σ caps:St}{Q:VK}{n:Nat}{H:Hp}{d:TT}(t:Nat->Bool)(f:n<=1000)(a:B1 src σ=none::caps)(b:∀(i:Nat) H1 (c:Bool->Hp->Prop),i<n->Same H H1->(∀H2,Same H1 H2->c (t i) H2)->d (some (.int i)::caps) H1 c)
  (hd:∀H1 p,Same H H1->H1 p=none->Q (.ref p) (upd H1 p (.lst ((((List.range n).filter t).map λ(i:Nat)=>(i:Int)).map V.int)))):E9 src (B0 0) d (N5 0) σ Q (Itr 0 n) H:=by
 refine a0M f a (λi ys H'=>Same H H'/\ys=(((List.range i).filter t).map λ(i:Nat)=>(i:Int)).map V.int) ⟨Same.refl H,rfl⟩ (λi ys H' h=>by rw[h.2,ae,ae];exact bj (bB _ _) (by simp)) ?_ ?_
 .rintro i ys H' hi ⟨s,rfl⟩;refine b i H' _ hi s λH2 s2=>?_;rw[List.range_succ,List.filter_append];cases e:t i with
  |true=>exact⟨_,rfl,s.trans s2,by simp[e]⟩
  |false=>exact⟨s.trans s2,by simp[e]⟩
 .rintro ys H' ⟨s,rfl⟩ p hp;exact hd H' p s hp
end L2
namespace L2
open PySem PySem.Spec PyProof.Rows PySem.W
noncomputable def b2I(p C:Addr):HO:=.ext λh=>∃o,h.get? p=some o/\o.cls=.ref C
theorem ObjOk.there{P:Program}{w:World}{H:Hp}{h:Heap}{a:Addr}{o:HO}(x:ObjOk P w H h a o):∃u,h.get? a=some u:=by
 induction o with
 |lst xs=>obtain⟨_,_,_,_,e⟩:=x;exact⟨_,e⟩
 |tup xs=>obtain⟨_,_,_,b,e,_⟩:=x;exact⟨_,e⟩
 |dK kvs=>obtain⟨_,_,_,_,o,_,_,e,_⟩:=x;exact⟨_,e⟩
 |dT kvs=>obtain⟨_,_,_,_,o,_,_,e,_⟩:=x;exact⟨_,e⟩
 |set S n=>obtain⟨o,_,_,_,e,_⟩:=x;exact⟨_,e⟩
 |ins C dx fs=>obtain⟨_,_,_,e,_⟩:=x;exact⟨_,e⟩
 |own y=>obtain⟨_,e⟩:=x;exact⟨_,e⟩
 |xd fs=>obtain⟨_,⟨_,_,_,e,_⟩,_⟩:=x;exact⟨_,e⟩
 |rng lo hi=>obtain⟨_,_,_,e⟩:=x;exact⟨_,e⟩
 |frz b u c=>obtain⟨e,_⟩:=x;exact⟨_,e⟩
 |tbl ps=>exact⟨_,x⟩
 |met f y=>exact⟨_,x⟩
 |ext φ=>exact x.2.1
def Cov(l:List Env)(H:Hp)(h0 h B:Heap):Prop:=∀b o,h.get? b=some o->b∉frs l->(H b≠none∨∃o',h0.get? b=some o')->B.get? b=some o
theorem a3i{P:Program}{w:World}{l:List Env}{H H':Hp}{h0 h1 h2 B base:Heap}(f:Un (frs l) [] H H' h0 h1)(i:HOk P w H' h1)(d:Cov l H' h0 h1 B)(st:B.StaysIn h2)(s:h1.UpToSlots h2)(p:h1.FunFrames base l)(t:∀b∈frs l,H' b=none) :
  Un (frs l) [] H H' h0 h2/\HOk P w H' h2/\Cov l H' h0 h2 B:=by
 have x:∀b,H' b≠none->b∉frs l:=λb n c=>n (t b c);refine⟨⟨?_,?_,f.free,?_,f.tups,f.frzs,f.tbls⟩,?_,?_⟩
 .intro b o e n c hx;exact st b o (d b o (f.keep b o e n c hx) c (.inr ⟨o,e⟩))
 .intro b o e n c hx;obtain⟨sl,q⟩:=f.slot b o e n c hx;obtain⟨_,v,e2,m⟩:=p.mem c;rw[q]at e2;cases e2;obtain⟨j,h⟩:=s b _ q m;exact⟨j,h⟩
 .intro b o e hx;obtain⟨g,q⟩:=f.there b o e hx;by_cases c:b∈frs l
  .obtain⟨_,v,e2,m⟩:=p.mem c;rw[q]at e2;cases e2;obtain⟨j,h⟩:=s b _ q m;exact⟨_,h⟩
  .exact⟨g,st b g (d b g q c (.inr ⟨o,e⟩))⟩
 .intro a o e;refine(i a o e).stay (λb u c q=>?_) (λ_ q=>q) λ_ _ q=>q;have k:H' b≠none:=by
   rcases c with rfl|c
   .rw[e];intro z;cases z
   .rw[c];intro z;cases z
  exact st b u (d b u q (x b k) (.inl k))
 .intro b o e c ho;have ex:∃g,h1.get? b=some g:=by
   rcases ho with k|⟨o',q⟩
   .cases eq:H' b with
    |none=>exact absurd eq k
    |some u=>exact(i b u eq).there
   .exact f.there b o' q (by simp)
  obtain⟨g,q1⟩:=ex;have h:=d b g q1 c ho;have r:=st b g h;rw[e]at r;cases r;exact h
def CXE(P:Program)(w:World):CXT:=λouter H s E e s' =>
 ∃(p C:Addr) (H':Hp) (B:Heap) (a0:Value),e=.ref p/\s'.os=s.os/\AllBare s'.gens/\Un (frs outer) [] H H' s.heap s'.heap/\HOk P w H' s'.heap /\
  H' p=none/\Heap.FlyingW B outer p (.ref C) a0 s'.heap/\Cov outer H' s.heap s'.heap B/\E (.ref C) none H'
theorem b8C{K:PySem.W.Frag}{h:Heap}{mg:Str->Option Value}{x:Str}{C:Addr}{bmB:List Value}{newId:String}(X:K.In h)(f:mg x=some (.ref C))(q:excIn K C bmB newId=true):OwnCls x C bmB newId mg h:=by
 refine⟨f,?_⟩;unfold excIn at q;split at q
 .rename_i dd cd sl ho;split at q
  .rename_i C' bm k0 k1 k2 k3 n k5 hmro hs;simp only[aG,bp,dh]at q;obtain⟨⟨⟨⟨⟨rfl,rfl⟩,a⟩,g⟩,b⟩,c⟩:=q;obtain⟨nm,bs,i,j,qn,hd,sn,sub,ab,col,e⟩:=cd;dsimp only at hmro a b c;subst hmro a;have d:sl=#[k0,k1,k2,k3,some (.builtin n),k5]:=by
    obtain⟨l⟩:=sl;simp only at hs;rw[hs]
   subst d;exact⟨bm,j,nm,qn,bs,hd,sn,sub,ab,col,dd,k0,k1,k2,k3,k5,_,X _ _ ho,.of_isNs (isNs_of_in X b),nsMap_none_of_in X b c,tail_of_in X g⟩
  .cases q
 .cases q
def b0N(C:Addr)(E:XK)(t:TA):TS:=λ_ σ H=>t σ H λvs H1=>vs.length<=sizeLine/\E (.ref C) none H1
theorem b1C{P:Program}{w:World}{K:PySem.W.Frag}{mg:Str->Option Value}{base:Heap}{N:List Str}{qual:Str}{scope:Scope}{f:Addr}{cd:Value}{A:Around}{outer:List Env}{s0:Shared}{i:Hp}{E:XK}
  {x:Str}{C:Addr}{bmB F:List Value}{B X newId V g U:String}{e:Expr}{es:List Expr}{t:TA}{np cpos pos:Pos}
  (O:OwnCls x C bmB newId mg base) (Fn:ExcBaseFacts X newId U F) (J:bmB.contains (.type X)=true) (Y:ExcBaseFacts B V g bmB)
  (hg:Gl (V9 (CXE P w) P w K mg base N qual scope f cd A outer s0 i E) x)
  (ha:PA (V9 (CXE P w) P w K mg base N qual scope f cd A outer s0 i E) (e::es) t) (hd:(x==("__debug__" : Str))=false:=by decide)
  (y:starEach (e::es) (envOfC qual scope s0.heap.objs.size f cd)=(false,eval e (envOfC qual scope s0.heap.objs.size f cd))::starEach es (envOfC qual scope s0.heap.objs.size f cd):=by rfl)
  (S:(backTo cpos (starEach es (envOfC qual scope s0.heap.objs.size f cd))).any (·.1)=false:=by rfl) :
  PS (V9 (CXE P w) P w K mg base N qual scope f cd A outer s0 i E) (.Raise (some (.Call (.Name x np) (e::es) [] cpos)) none pos) (b0N C E t):=by
 intro pins s σ H D I h;obtain⟨tl,NC,nm,q,bs,m,sn,sub,ab,col,dd,k0,k1,k2,k3,k5,mN,hC,hN,R,T⟩:=O.obj;refine wpAny_Raise_call_subU (C:=C) (nm:=nm) (q:=q) (N:=NC) (bs:=bs) (bm:=tl) (hdct:=m) (sn:=sn) (sub:=sub) (ab:=ab) (col:=col) (dd:=dd) (k0:=k0) (k1:=k1) (k2:=k2) (k3:=k3) (k5:=k5)
  Fn J Y (mN:=mN) (T.hasType Y.hasBase) (I.ok.hd rfl) (by show(backTo cpos (starEach (e::es) (envOfC qual scope s0.heap.objs.size f cd))).any _=false;rw[y];show(false || (backTo cpos (starEach es (envOfC qual scope s0.heap.objs.size f cd))).any (·.1))=false;rw[S];rfl) R (a0Q I hg O.bound ⟨rfl,?_⟩ hd)
 have k:=ha cpos pins s σ H _ I h;have L:starEach (e::es) (V9 (CXE P w) P w K mg base N qual scope f cd A outer s0 i E).env=_:=y;rw[L]at k⊢;refine Calls.evalArgs_plain (dr k (λus s2 ⟨vs,H1,c,r,hl,q⟩=>⟨rfl,by rw[<-r.length];exact hl,c.bk _ _ hC,hN.keeps c.bk,T.keeps c.bk,λh' p Q=>?_⟩) λ_ _ z=>z);have M:∀a∈(envOfC qual scope s0.heap.objs.size f cd::outer),∀b,a.frame=some b->b∈frs (envOfC qual scope s0.heap.objs.size f cd::outer):=λa y b d=>cN.mpr ⟨a,y,d⟩;refine wpAny_leaves_madeW (base:=hideAll s2.heap (frs (envOfC qual scope s0.heap.objs.size f cd::outer))) (h:=s2.heap) c.ok.frames rfl (λb o q=>of_hideAll _ q) (funFrames_hide c.stack M) Q λh2 t x1 x2 x3 x4=>?_;have v:∀b∈frs outer,b∈frs (envOfC qual scope s0.heap.objs.size f cd::outer):=λb d=>by
  obtain⟨a,h1,h2⟩:=cN.mp d;exact cN.mpr ⟨a,av _ h1,h2⟩
 have n:∀b,b∉frs outer->b≠s0.heap.objs.size->b∉frs (envOfC qual scope s0.heap.objs.size f cd::outer):=λb h1 h2 h3=>by
  obtain⟨a,q1,q2⟩:=cN.mp h3;rcases aD.mp q1 with rfl|q1
  .exact h2 (bH q2).symm
  .exact h1 (cN.mpr ⟨a,q1,q2⟩)
 have G:Cov outer H1 s0.heap s2.heap (hideAll s2.heap (frs (envOfC qual scope s0.heap.objs.size f cd::outer))):=λb o eb nb d=>by
  refine hideAll_get _ eb (n b nb λz=>?_);subst z;rcases d with d|⟨o',d⟩
  .exact d c.free
  .exact absurd (aK d) (b_ _)
 have hp:H1 p=none:=by
  cases eq:H1 p with
  |none=>rfl
  |some u =>
   obtain⟨o,Z⟩:=(c.hok p u eq).there;rw[Q.new]at Z;cases Z
 obtain⟨U2,W,j⟩:=a3i (P:=P) (w:=w) (l:=outer) (H:=i) (H':=H1) (h0:=s0.heap) (h1:=s2.heap) (h2:=h2) c.base c.hok G x1.1 ((Heap.UpToSlots.of_keeps Q.keeps).trans x4) c.funs λb d=>c.stkFree b (v b d);exact⟨p,C,H1,_,.ref t,rfl,c.os,c.bare,U2,W,hp,x1,j,q⟩
def XP(X:Cx)(pins:List (Addr×Obj))(R:St->Addr->Hp->Prop)(e:Value)(s':Shared):Prop :=
 ∃(σ1:St) (H1:Hp) (s1:Shared) (p C:Addr) (H':Hp) (B:Heap) (a0:Value),e=.ref p/\Inv X pins σ1 H1 s1/\s'.os=s1.os/\AllBare s'.gens/\Un (frs X.stack) [] H1 H' s1.heap s'.heap/\HOk X.prog X.w H' s'.heap /\
  H' p=none/\Heap.FlyingW B X.stack p (.ref C) a0 s'.heap/\Cov X.stack H' s1.heap s'.heap B/\R σ1 C H'
abbrev TX:=Ends->(St->Addr->Hp->Prop)->St->Hp->Prop
def PSx(X:Cx)(sts:List Stmt)(t:TX):Prop :=
 ∀(pins:List (Addr×Obj)) (s:Shared) (σ:St) (H:Hp) (D:Ends) (R:St->Addr->Hp->Prop),Inv X pins σ H s->t D R σ H->wpAny (model X.prog X.w) X.A (execs sts X.env) (SP X pins D) (XP X pins R) s
structure OkE(P:Program)(w:World)(K:PySem.W.Frag)(mg:Str->Option Value)(base:Heap)(x:Str)(k:Nat)(ps:List Str)(sp:Sp):Prop where
 ex:∃f fd,mg x=some (.ref f)/\PySem.W.keepIn K (.ref f)=true/\Binds K fd ps []/\FnOk P w K mg base (CXE P w) k f fd ps sp
theorem FunAt.okE{P:Program}{w:World}{K:PySem.W.Frag}{mg:Str->Option Value}{base:Heap}{x:Str}{st:Stmt}{N ps:List Str}{k:Nat}{sp:Sp}(F:FunAt K mg x st ps)(S:FnScope N ps (A1 st))(len:∀vs H Q E,sp vs H Q E->vs.length=ps.length)
  (b:∀(a:Value) (f:Addr) (A:Around) (outer:List Env) (s:Shared) (H:Hp) (vs:List V) (Q:VK) (E:XK),Room k (A.deeper (envOfC x (A1 st) s.heap.objs.size f a))->sp vs H Q E ->
   ∃t,JB (V9 (CXE P w) P w K mg base N x (A1 st) f a A outer s H E) (E8 st) t/\t {nx:=λ_ H'=>Q .non H',rt:=Q} (start N vs) H):OkE P w K mg base x (k+1) ps sp:=by
 obtain⟨f,fd,h1,h2,g⟩:=F.ex;refine⟨f,fd,h1,h2.kp,g,?_⟩;obtain⟨oc,od,kV,e,pm,an,a,ct,l,rfl,j,c⟩:=h2.ex;refine b5M j c S len λA outer s H vs Q E i d=>?_;obtain⟨t,h,q⟩:=b a f A outer s H vs Q E i d;exact⟨t,h.h,q⟩
def b5g(i:Nat)(sp:Sp)(t:TA):TX:=λD R σ H=>t σ H λvs H1=>sp vs H1 (λv H2=>D.nx (σ.set i (some v)) H2) λc _ H'=>∃C,c=.ref C/\R σ C H'
theorem b3S{X:Cx}{k:Nat}{ps:List Str}{sp:Sp}{x y:Str}{p pos cpos pos':Pos}{e:Expr}{es:List Expr}{t:TA}{i:Nat}(m:∀e s,¬X.xe e s)(O:OkE X.prog X.w X.K X.mg X.base x k ps sp)(Y:Room k X.A)(T:Gl X x)
  (M:X.N.Nodup) (hi:X.N[i]?=some y) (Z:Loc X.env.scope y) (N:PA X (e::es) t) (j:(x==("__debug__" : Str))=false:=by decide)
  (Q:starEach (e::es) X.env=(false,eval e X.env)::starEach es X.env:=by rfl) (l:(backTo cpos (starEach es X.env)).any (·.1)=false:=by rfl)
  (hs:swapsWith (.Call (.Name x p) (e::es) [] cpos) (some (.Name y pos')) pos.line X.env=pure false:=by rfl) (S:X.fn y=true∨X.env.scope.names.lookup y=some .local:=by first|exact .inl rfl|exact .inr rfl|assumption) :
  PSx X [.Assign [.Name y pos'] (.Call (.Name x p) (e::es) [] cpos) pos] (b5g i sp t):=by
 intro pins s σ H D R I h;obtain⟨f,fd,W,U,P,F⟩:=O.ex;refine wpAny_execs_cons (wpAny_Assign_Name ?_ hs);refine d_ (a0Q I T W ?_ j);refine PySem.W.callWith_K (h₀:=X.base) I.ok.mod.kin U (dr (N cpos pins s σ H _ I h) (λd s1 ⟨vs,H1,a,r,q⟩=>⟨a.kIn,?_⟩) λe s z=>absurd z (m e s)) Q l;have V:d.length=ps.length:=by rw[<-r.length];exact F.len _ _ _ _ q
 have b:=P s1 d a.kIn (by rw[cz];exact V);rw[cz]at b;refine wpAny_call (dw (F.run X.A X.stack s1 H1 ⟨d,[]⟩ d vs _ _ Y a.env0 b r q) λr s' c=>?_);cases r with
 |error e =>
  obtain⟨p,C,H',B,a0,h1,h2,w,A,E,G,J,K,C',L,g⟩:=c;cases L;exact⟨σ,H1,s1,p,C,H',B,a0,h1,a,h2,w,A,E,G,J,K,g⟩
 |ok fl =>
  cases fl with
  |ret u =>
   obtain⟨v,H2,n,rv,q2⟩:=a.after c;exact W3 n M hi Z rv (λs2 o=>dZ ⟨_,H2,o,q2⟩) S
  |next=>exact False.elim c
  |brk=>exact False.elim c
  |cont=>exact False.elim c
section
variable {M:Model}{A:Around}{E:Value->Shared->Prop}
structure ClsX(K:PySem.W.Frag)(C:Addr)(above:List Value):Prop where
 ex:∃nm q N bs bm hdct sn sub ab col dd k0 k1 k2 k3 k5 newId,K.lookup C=some (excClassObj nm q C N bs bm hdct sn sub ab col dd k0 k1 k2 k3 k5 newId)/\bm.contains (.type "BaseException")=true/\∀v∈above,bm.contains v=true
end
section
variable {X:Cx}{pins:List (Addr×Obj)}{σ:St}{H1 H':Hp}{s1 s':Shared}{p C:Addr}{B:Heap}{a0:Value}{h2:Heap}
theorem Inv.land(a:Inv X pins σ H1 s1)(e:s'.os=s1.os)(k:AllBare s'.gens)(g:Un (frs X.stack) [] H1 H' s1.heap s'.heap)(d:HOk X.prog X.w H' s'.heap)(i:s'.heap.FunFrames B X.stack)(c:Cov X.stack H' s1.heap s'.heap B)(st:B.StaysIn h2)(m:s'.heap.UpToSlots h2) :
  Inv X pins σ H' {s' with heap:=h2}:=by
 have j:∀b∈frs X.stack,H' b=none:=λb h=>by
  obtain⟨_,o,l,_⟩:=a.stack.mem h;exact g.free b o l (a.stkFree b h) (by simp)
 obtain⟨U2,f,_⟩:=a3i g d c st m i j;exact a.call' (ch:=[]) e U2 f k (λb z=>absurd z (by simp))
theorem Inv.landX(i:Inv X pins σ H1 s1)(t:s'.os=s1.os)(H:AllBare s'.gens)(A:Un (frs X.stack) [] H1 H' s1.heap s'.heap)(s:HOk X.prog X.w H' s'.heap)(hp:H' p=none)(F:s'.heap.FunFrames B X.stack)(j:Cov X.stack H' s1.heap s'.heap B)(c:Heap.FlyingW B X.stack p (.ref C) a0 h2)(M:s'.heap.UpToSlots h2) :
  Inv X pins σ (upd H' p (b2I p C)) {s' with heap:=h2}:=by
 have G:∀b∈frs X.stack,H' b=none:=λb h=>by
  obtain⟨_,o,r,_⟩:=i.stack.mem h;exact A.free b o r (i.stkFree b h) (by simp)
 obtain⟨U2,x,f⟩:=a3i A s j c.1 M F G;obtain⟨w,d,hcl⟩:=c.there;have v:p∉frs X.stack:=λh=>by
  obtain⟨_,o,r,J⟩:=c.2.2.1.mem h;obtain⟨K,vs,_,_,_,g,_,l,_⟩:=c.2.2.2;rw[r]at g;cases g;exact J vs l
 have m:∀o,s1.heap.get? p≠some o:=λo e=>by
  have:=f p w d v (.inr ⟨o,e⟩);rw[c.2.1]at this;cases this
 have E:Un (frs X.stack) [] H1 (upd H' p (b2I p C)) s1.heap h2:=by
  refine⟨U2.keep,U2.slot,λb o e n I=>?_,U2.there,λb xs e=>?_,λb o u e=>?_,λb ps e=>?_⟩
  .rw[A3 (by rintro rfl;exact m o e)];exact U2.free b o e n I
  .have q:=U2.tups b xs e;rw[A3 (by rintro rfl;rw[hp]at q;cases q)];exact q
  .have q:=U2.frzs b o u e;rw[A3 (by rintro rfl;rw[hp]at q;cases q)];exact q
  .obtain⟨more,q⟩:=U2.tbls b ps e;exact⟨more,by rw[A3 (by rintro rfl;rw[hp]at q;cases q)];exact q⟩
 have y:HOk X.prog X.w (upd H' p (b2I p C)) h2:=λa o e=>by
  by_cases D:a=p
  .subst D;rw[A0]at e;cases e;exact⟨⟨w,d,hcl⟩,⟨w,d⟩,λN O ⟨o,q1,L⟩ k=>⟨o,k o q1,L⟩⟩
  .rw[A3 D]at e;refine(x a o e).stay (λb u _ q=>q) (λb q=>?_) λb xs q=>?_
   .rw[A3 (by rintro rfl;rw[hp]at q;cases q)];exact q
   .rw[A3 (by rintro rfl;rw[hp]at q;cases q)];exact q
 exact i.call' (ch:=[]) t E y H (λb z=>absurd z (by simp))
end
section
variable {X:Cx}{pins:List (Addr×Obj)}{σ:St}{H:Hp}{s:Shared}
noncomputable abbrev Cx.held(X:Cx)(p:Addr):Cx:={X with A:=X.A.mark (some (.ref p)),calm:=false,xe:=λ_ _=>False}
theorem Inv.held(I:Inv X pins σ H s)(p:Addr):Inv (X.held p) pins σ H s :=
 ⟨⟨I.ok.mod,I.ok.kind,I.ok.glob,I.ok.blt,I.ok.above,I.ok.inj,I.ok.has,I.ok.cab,(λz=>by cases z),I.ok.frames,I.ok.stk,I.ok.exf,I.ok.bs,I.ok.bsz,I.ok.noex,I.ok.exfs,I.ok.funs,I.ok.frf⟩,I.os,I.bare,I.base,I.loc,I.cell,I.free,I.freeC,I.pin,I.hok,I.len⟩
theorem Inv.unheld{p:Addr}(J:X.Ok)(I:Inv (X.held p) pins σ H s):Inv X pins σ H s :=
 ⟨J,I.os,I.bare,I.base,I.loc,I.cell,I.free,I.freeC,I.pin,I.hok,I.len⟩
end
def a7D(K:PySem.W.Frag)(C:Addr)(above:List Value):Bool:=match K.lookup C with
 |some ⟨.type "type",_,.cls cd,sl⟩=>(match cd.mro,sl.toList with
  |.ref C'::bm,[_,_,_,_,some (.builtin _),_]=>C'==C && !cd.hasDel && bm.contains (.type "BaseException") && above.all λv=>bm.contains v
  |_,_=>false)
 |_=>false
theorem b4W{K:PySem.W.Frag}{C:Addr}{above:List Value}(q:a7D K C above=true):ClsX K C above:=by
 unfold a7D at q;split at q
 .rename_i dd cd sl ho;split at q
  .rename_i C' bm k0 k1 k2 k3 n k5 hmro hs;simp only[aG,bp,dh,aJ]at q;obtain⟨⟨⟨rfl,a⟩,e⟩,d⟩:=q;obtain⟨nm,bs,g,h,qn,hd,sn,sub,ab,col,c⟩:=cd;dsimp only at hmro a;subst hmro a;have b:sl=#[k0,k1,k2,k3,some (.builtin n),k5]:=by
    obtain⟨l⟩:=sl;simp only at hs;rw[hs]
   subst b;exact⟨nm,qn,h,bs,bm,hd,sn,sub,ab,col,dd,k0,k1,k2,k3,k5,n,ho,e,λv f=>d v f⟩
  .cases q
 .cases q
structure JX(X:Cx)(sts:List Stmt)(t:TX):Prop where
 h:PSx X sts t
section
variable {X:Cx}{k:Nat}{ps:List Str}{sp:Sp}{x y:Str}{p pos cpos pos':Pos}{e:Expr}{es:List Expr}{t:TA}{i:Nat}
theorem b6Z(O:OkE X.prog X.w X.K X.mg X.base x k ps sp)(l:Room k X.A)(j:Gl X x)(d:X.N.Nodup)(hi:X.N[i]?=some y)(m:Loc X.env.scope y)(f:JA X (e::es) t)(c:∀e s,¬X.xe e s:=by exact λ_ _ z=>z)(a:(x==("__debug__" : Str))=false:=by decide)
  (g:starEach (e::es) X.env=(false,eval e X.env)::starEach es X.env:=by rfl) (b:(backTo cpos (starEach es X.env)).any (·.1)=false:=by rfl)
  (hs:swapsWith (.Call (.Name x p) (e::es) [] cpos) (some (.Name y pos')) pos.line X.env=pure false:=by rfl) (h:X.fn y=true∨X.env.scope.names.lookup y=some .local:=by first|exact .inl rfl|exact .inr rfl|assumption) :
  JX X [.Assign [.Name y pos'] (.Call (.Name x p) (e::es) [] cpos) pos] (b5g i sp t):=⟨b3S c O l j d hi m f.h a g b hs h⟩
end
theorem b2n{P:Program}{w:World}{K:PySem.W.Frag}{mg:Str->Option Value}{base:Heap}{N:List Str}{qual:Str}{scope:Scope}{f:Addr}{cd:Value}{A:Around}{outer:List Env}{s0:Shared}{b:Hp}{E:XK}
  {x:Str}{C:Addr}{bmB c:List Value}{B j newId i a h:String}{e:Expr}{es:List Expr}{t:TA}{np cpos pos:Pos}
  (O:OwnCls x C bmB newId mg base) (l:ExcBaseFacts j newId h c) (d:bmB.contains (.type j)=true) (k:ExcBaseFacts B i a bmB)
  (o:Gl (V9 (CXE P w) P w K mg base N qual scope f cd A outer s0 b E) x)
  (m:JA (V9 (CXE P w) P w K mg base N qual scope f cd A outer s0 b E) (e::es) t) (hd:(x==("__debug__" : Str))=false:=by decide)
  (n:starEach (e::es) (envOfC qual scope s0.heap.objs.size f cd)=(false,eval e (envOfC qual scope s0.heap.objs.size f cd))::starEach es (envOfC qual scope s0.heap.objs.size f cd):=by rfl)
  (g:(backTo cpos (starEach es (envOfC qual scope s0.heap.objs.size f cd))).any (·.1)=false:=by rfl) :
  JS (V9 (CXE P w) P w K mg base N qual scope f cd A outer s0 b E) (.Raise (some (.Call (.Name x np) (e::es) [] cpos)) none pos) (b0N C E t):=⟨b1C O l d k o m.h hd n g⟩
end L2
namespace L2
open PySem PySem.Spec PyProof.Rows PySem.W Builtin Builtin.ObjectAttr Builtin.Getset_descriptor
section
variable {K:PySem.W.Frag}{prog:Program}{w:World}{A:Around}{E:Value->Shared->Prop}{h:Heap}{g:Array GenState}{d:Drawn}{t:Nat}{os:OsState}{a:Addr}{o:Obj}
 {nm q:Str}{C N:Addr}{bs bm:List Value}{hdct:Bool}{sn:List Str}{sub:List Value}{ab:Bool}{col:Option Bool}{dd:Option Addr}{k0 k1 k2 k3 k5:Option Value}{newId:String}
end
section
variable {X:Cx}{es:List Expr}{e:Expr}{t:TA}{pos p:Pos}
end
end L2
namespace L2
open PySem PySem.Spec PyProof.Rows
theorem a3f{α:Type}{ca:α->V}{xs:List α}{i:Nat}{x:V}(h:(xs.map ca)[i]?=some x):∃z,xs[i]?=some z/\x=ca z:=by
 rw[ba]at h;cases e:xs[i]? with
 |none=>rw[e]at h;cases h
 |some z=>rw[e]at h;exact⟨z,rfl,(bH h).symm⟩
theorem b3m{α β:Type}{K:PySem.W.Frag}{src:List (Option Nat)}{σ caps:St}{Q:VK}{k1 k2:Bool}{a b:Addr}(ca:α->V)(d:β->V){xs:List α}{ys:List β}{H:Hp}{te:TE}(f:α->β->V)(r:xs.length<=1000)
  (c:∀H',Same H H'->SqK k1 K H' a (xs.map ca)/\SqK k2 K H' b (ys.map d))
  (k:B1 src σ=none::none::caps) (o:∀x y H1 q,x∈xs->y∈ys->Same H H1->(∀H2,Same H1 H2->q (f x y) H2)->te (some (ca x)::some (d y)::caps) H1 q)
  (hd:∀H1 p,Same H H1->H1 p=none->Q (.ref p) (upd H1 p (.lst (List.zipWith f xs ys)))) :
  E9 src (a6q K 2 (V5 (B0 0) (V5 (B0 1) a7z))) O5 te σ Q (Itz K k1 k2 a b) H:=by
 have t:(1000:Nat)<=sizeLine:=by rw[a_];decide
 refine Y5 (xs:=xs.map ca) (zs:=ys.map d) (by rw[ae];omega) (λi zs H'=>Same H H'/\zs=(List.zipWith f xs ys).take i) ⟨Same.refl H,by simp⟩ (λi zs H' _ _ h=>⟨(c H' h.1).1,(c H' h.1).2,by rw[h.2];exact bI _ _⟩) ?_ ?_
 .rintro i x z zs H' p hx hy ⟨s,rfl⟩ hp;obtain⟨n,l,e1⟩:=a3f hx;obtain⟨g,m,e2⟩:=a3f hy;subst e1 e2;clear hx hy;have s':Same H (upd H' p (.tup [ca n,d g])):=s.upd hp;refine⟨p,[ca n,d g],rfl,SqT.of A0,rfl,ca n,[d g],rfl,d g,[],rfl,rfl,?_⟩;rw[k];show Sub _ (some (ca n)::some (d g)::caps)/\_;refine⟨⟨rfl,λj v e=>?_⟩,?_⟩
  .match j,e with
   |0,e=>cases e
   |1,e=>cases e
   |j+2,e=>exact e
  .exact o n g _ _ (aI l) (aI m) s' λH2 s2=>⟨s'.trans s2,(M5 f l m).symm⟩
 .rintro zs H' ⟨s,rfl⟩ p hp;have e:(List.zipWith f xs ys).take (min (xs.map ca).length (ys.map d).length)=List.zipWith f xs ys:=by
   rw[ae,ae,bP];rw[eU];exact ao _
  rw[e];exact hd H' p s hp
theorem a9h{α:Type}{K:PySem.W.Frag}{src:List (Option Nat)}{σ caps:St}{Q:VK}{a:Addr}(ca:α->V){xs:List α}{H:Hp}{j:TT}(t:α->Bool)(k:xs.length<=1000)(b:∀H',Same H H'->SqT K H' a (xs.map ca))(c:B1 src σ=none::caps)
  (f:∀x H1 (g:Bool->Hp->Prop),x∈xs->Same H H1->(∀H2,Same H1 H2->g (t x) H2)->j (some (ca x)::caps) H1 g) (hd:∀H1 p,Same H H1->H1 p=none->Q (.ref p) (upd H1 p (.lst ((xs.filter t).map ca)))):E9 src (B0 0) j (N5 0) σ Q (Itt K a) H:=by
 have l:(1000:Nat)<=sizeLine:=by rw[a_];decide
 refine O3 (xs:=xs.map ca) (by rw[ae];omega) (λi ys H'=>Same H H'/\ys=((xs.take i).filter t).map ca) ⟨Same.refl H,by simp⟩ (λi ys H' _ h=>⟨b H' h.1,by rw[h.2,ae];exact bj (bB _ _) (bI _ _)⟩) ?_ ?_
 .rintro i x ys H' hx ⟨s,rfl⟩;obtain⟨z,d,rfl⟩:=a3f hx;show Sub _ ((B1 src σ).set 0 (some (ca z)))/\_;rw[c];refine⟨Sub.one,f z H' _ (aI d) s λH2 s2=>?_⟩;rw[bu,d];cases e:t z with
  |true=>exact⟨_,rfl,s.trans s2,by simp[e]⟩
  |false=>exact⟨s.trans s2,by simp[e]⟩
 .rintro ys H' ⟨s,rfl⟩ p hp;rw[ae,bx];exact hd H' p s hp
theorem b5c{rss c:LLI}:((List.range (min rss.length c.length)).all (λj=>decide (rss.getD j []=c.getD j [])) && rss.length==c.length)=decide (rss=c):=by
 rw[bQ];simp only[aG,aJ,aX,bf,bp];constructor
 .rintro⟨h1,h2⟩;refine dP h2 λi a b=>?_;have:=h1 i (by omega);simpa[aq,a,b]using this
 .rintro rfl;exact⟨λ_ _=>rfl,rfl⟩
theorem EqV.its{K:PySem.W.Frag}{H:Hp}{k:Bool}{a b:Addr}{vs d:List V}{rss c:LLI}(e:SqK k K H a vs)(f:SqK k K H b d)(h1:Its H vs rss)(h2:Its H d c):EqV K H 2 (.ref a) (.ref b) (decide (rss=c)):=by
 have step:∀j x y,vs[j]?=some x->d[j]?=some y->EqV K H 1 x y (decide (rss.getD j []=c.getD j [])):=λj x y l m=>by
  obtain⟨r,g,ra,rfl,i⟩:=h1.2 j x l;obtain⟨q,eq,n,rfl,h⟩:=h2.2 j y m;rw[aq,aq,g,eq];exact EqV.ints (k:=true) (SqT.of i) (SqT.of h)
 rw[<-b5c,<-h1.1,<-h2.1];cases k
 .exact EqV.lst (λj=>decide (rss.getD j []=c.getD j [])) e f step
 .exact EqV.tup (λj=>decide (rss.getD j []=c.getD j [])) e f step
theorem a0F{K:PySem.W.Frag}{src:List (Option Nat)}{σ caps:St}{Q:VK}{a:Addr}{vs:List V}{rss:LLI}{H:Hp}{te:TE}(f:List Int->V)(l:vs.length<=sizeLine)(b:∀H',Same H H'->SqT K H' a vs)(hI:Its H vs rss)(c:B1 src σ=none::caps)
  (g:∀v r H1 j,r∈rss->IT H1 v r->Same H H1->(∀H2,Same H1 H2->j (f r) H2)->te (some v::caps) H1 j) (hd:∀H1 p,Same H H1->H1 p=none->Q (.ref p) (upd H1 p (.lst (rss.map f)))):E9 src (B0 0) O5 te σ Q (Itt K a) H:=by
 refine O3 (xs:=vs) (by omega) (λi ys H'=>Same H H'/\ys=(rss.take i).map f) ⟨Same.refl H,by simp⟩ (λi ys H' _ h=>⟨b H' h.1,by rw[h.2,ae];exact bI _ _⟩) ?_ ?_
 .rintro i x ys H' hx ⟨s,rfl⟩;obtain⟨r,k,d,e⟩:=hI.mem hx;show Sub _ ((B1 src σ).set 0 (some x))/\_;rw[c];refine⟨Sub.one,g x r H' _ k (e.same s) s λH2 s2=>⟨s.trans s2,?_⟩⟩;rw[bu,d];simp
 .rintro ys H' ⟨s,rfl⟩ p hp;rw[hI.1,bx];exact hd H' p s hp
theorem Its.put{H:Hp}{vs:List V}{rss:LLI}{c:Addr}{xs:List V}{o:HO}(h:Its H vs rss)(b:H c=some (.lst xs)):Its (upd H c o) vs rss:=⟨h.1,λi v e=>let ⟨r,e1,a,e2,q⟩:=h.2 i v e;⟨r,e1,a,e2,by rw[A3 (K0 q b (by intro z;cases z))];exact q⟩⟩
open _root_.HT
section
variable {prog:Program}{w:World}{A:Around}{E:Value->Shared->Prop}{s:Shared}
theorem a6r{α β:Type}{f g:α->Option β}:∀(l:List α),(∀m∈l,f m=g m)->l.filterMap f=l.filterMap g
 |[],_=>rfl
 |a::l,h=>by
  rw[dS,dS,h a (au ..),a6r l λm b=>h m (av _ b)]
theorem b1F(xs:Array Value):((List.range xs.size).filterMap λ(m:Nat)=>xs[(((xs.size:Int)-1)+(m:Int)*(-1)).toNat]?).toArray=xs.toList.reverse.toArray:=by
 congr 1;have e:∀m∈List.range xs.size,xs[(((xs.size:Int)-1)+(m:Int)*(-1)).toNat]?=some (xs.toList.reverse.getD m .none):=λm b=>by
  have a:m<xs.size:=aX.mp b;have e1:(((xs.size:Int)-1)+(m:Int)*(-1)).toNat=xs.size-1-m:=by omega
  rw[e1,aq,List.getElem?_reverse (by simpa using a),ay,ax,bJ (by omega)];rfl
 rw[a6r _ e];rw[show(List.range xs.size).filterMap (λm=>some (xs.toList.reverse.getD m .none))=(List.range xs.size).map (λm=>xs.toList.reverse.getD m .none)from congrFun (List.filterMap_eq_map (f:=λm=>xs.toList.reverse.getD m .none)) _];refine dP (by simp) λi h1 h2=>?_;simp only[List.getElem_map,List.getElem_range];rw[aq,aj h2];rfl
theorem a0n{t sl:Addr}{items:Array Value}{e f:Value}{lo hi:Option Int}{Q:Value->Shared->Prop}(a:IsTup s.heap t items)(hs:s.heap.IsSliceOf sl e f .none)(pl:IsPart e lo)(i:IsPart f hi)
  (hw:sIx items.size 0 lo=0/\sIx items.size items.size hi=items.size) (h:Q (.ref t) s):wpAny (model prog w) A (getItem (.ref t) (.ref sl)) Q E s:=by
 obtain⟨os,d,c,g⟩:=id hs;have b:s.TypeIs (.ref sl) "slice":=⟨os,d,c⟩;unfold getItem
 try with_reducible refine cj ?_
 first|refine aa (ai ?_)|skip
 refine aa (wpAny_sequenceKey a.typeIs (by decide) ?_);refine aa (bM (name:=Str.ofString "__getitem__") a.typeIs cy
  (bK cy a.typeIs entry_tuple_getitem ?_ (args_tuple_getitem _ _)))
 show wpAny _ _ (Builtin.Tuple.tupleItemsOf (.ref t)>>=_) _ _ s;refine aa (tupleItemsOf_ a ?_);refine aa (eF b ?_);rw[az (by decide)];refine aa (R8 hs pl i ?_);rw[hw.1,hw.2];show wpAny _ _ (if ((((0:Nat):Int)==0 && (1:Int)==1 && (items.size-0)==items.size))=true then _ else _) _ _ s;rw[az (by simp)];refine aa (aa (eF a.typeIs (ai ?_)));rw[az (by decide)];exact aa (fh (ai ⟨_,rfl,ai h⟩))
end
section
variable {X:Cx}{e:Expr}{te:TE}{lo hi:Option Expr}{tl th:TO}{pos p2:Pos}
def b3O(K:PySem.W.Frag):V->Option Int->Option Int->Hp->VK->Prop:=λx lo hi H Q=>∃a xs,x=.ref a/\SqT K H a xs /\
 ((HT.sIx xs.length 0 lo=0/\HT.sIx xs.length xs.length hi=xs.length)->Q (.ref a) H)/\(¬(HT.sIx xs.length 0 lo=0/\HT.sIx xs.length xs.length hi=xs.length)->∀p,H p=none->Q (.ref p) (upd H p (.tup (K5 xs lo hi))))
theorem b3y(K:PySem.W.Frag)(i:X.K=K):SlR X (b3O K):=by
 subst i;intro pins s σ H x v k l lo hi sl Q I g hs e f h;obtain⟨a,xs,rfl,d,q1,j⟩:=h;by_cases hw:HT.sIx xs.length 0 lo=0/\HT.sIx xs.length xs.length hi=xs.length
 .cases g;obtain⟨its,r,c,m⟩:=I.tuple d;have b:its.toArray.size=xs.length:=by rw[aF];exact r.length.symm
  refine⟨"tuple",_,cy.lookup,c.typeIs,?_⟩;exact a0n c hs e f (by rw[b];exact hw) ⟨.ref a,H,I,rfl,q1 hw⟩
 .exact b1c pins s σ H (.ref a) v k l lo hi sl Q I g hs e f ⟨a,xs,rfl,d,hw,j hw⟩
theorem a8G(K:PySem.W.Frag)(b:JE X e te)(c:JO X lo tl)(d:JO X hi th)(a:X.K=K:=by rfl):JE X (.Subscript e (.Slice lo hi none p2) pos) (tSl (b3O K) te tl th):=⟨a2I (b3y K a) b.h c.h d.h⟩
theorem map_int_inj{a b:List Int}:a.map V.int=b.map V.int↔a=b:=by
 constructor
 .intro h;induction a generalizing b with
  |nil=>cases b with
   |nil=>rfl
   |cons _ _=>cases h
  |cons x a c=>cases b with
   |nil=>cases h
   |cons y b =>
    rw[aZ,aZ]at h;injection h with h1 h2
    injection h1 with h1
    rw[h1,c h2]
 .rintro rfl;rfl
end
end L2
namespace L2
open PySem PySem.Spec PyProof.Rows
section
variable {X:Cx}
end
section
variable {X:Cx}
def b8a:RL:=λxs H Q=>∃i:Int,xs=[.int i]/\Q (.int (if i<0 then -i else i)) H
theorem b0w:E3 X (.builtin "abs") b8a:=by
 intro pins s σ H xs c Q I b h;obtain⟨i,rfl,q⟩:=h;obtain⟨u,rfl,a⟩:=b.one;obtain⟨t,rfl⟩:=a;exact call_abs_int λu tk=>⟨.int _,H,I.tok tk,⟨u,rfl⟩,q⟩
theorem b2t{e:Expr}{es:List Expr}{t:TA}{p pos:Pos}(d:Gl X "abs")(f:X.mg "abs"=none)(b:JA X (e::es) t)(c:starEach (e::es) X.env=(false,eval e X.env)::starEach es X.env:=by rfl)(a:(backTo pos (starEach es X.env)).any (·.1)=false:=by rfl):JE X (.Call (.Name "abs" p) (e::es) [] pos) (tCB b8a t):=⟨G3 b0w d f b7x b.h (by decide) (by decide) c a⟩
end
section
variable {prog:Program}{w:World}{A:Around}{E:Value->Shared->Prop}{s:Shared}{k:Bool}
end
section
variable {X:Cx}
end
section
variable {M:Model}{A:Around}{E:Value->Shared->Prop}
theorem a1V{nm q:Str}{C N:Addr}{bs bm:List Value}{hdct:Bool}{sn:List Str}{sub:List Value}{ab:Bool}{col:Option Bool}{dd:Option Addr}{k0 k1 k2 k3 k5:Option Value}{newId:String}
  {h:Heap}{g:Array GenState}{d:Drawn}{t:Nat}{os:OsState}{e:Addr}{k:Obj}{Q:Bool->Shared->Prop}
  (j:h.get? C=some (excClassObj nm q C N bs bm hdct sn sub ab col dd k0 k1 k2 k3 k5 newId)) (l:h.get? e=some k) (b:k.cls=.ref C)
  (a:bm.contains (.type "BaseException")=true) (m:Q true ⟨h,g,d,t,os⟩):wpAny M A (excMatches (.ref e) (.ref C)) Q E ⟨h,g,d,t,os⟩:=by
 have c:(Value.ref C::bm).contains (.type "BaseException")=true:=by rw[List.contains_cons,a,Bool.or_true]
 have i:(Value.ref C::bm).contains (.ref C)=true:=by rw[List.contains_cons];simp
 have f:=tc_notTuple;unfold excMatches
 repeat (first | (with_reducible refine wpAny_loadPart_at l ?_;rw[b])|with_reducible refine wpAny_loadPart_at j ?_ | (with_reducible refine wpAny_isSubtype_exc j ?_;first|rw[c]|rw[i])|wp_step)
 exact m
end
def b0M(K:PySem.W.Frag)(D:Addr)(tx:TX)(ts:TS):TS:=λDe σ H=>tx De (λσ1 C H'=>C=D/\∀p,H' p=none->ts De σ1 (upd H' p (b2I p C))) σ H
theorem b1B{X:Cx}{body:List Stmt}{tx:TX}{P:TS}{n:Str}{np m pos:Pos}{K:Stmt}{b:List Stmt}{D:Addr}(j:X.stack=X.env::X.outer)(w:X.env.frame=some X.env.locals)(hx:PSx X body tx)
  (hg:Gl X n) (hm:X.mg n=some (.ref D)) (Z:ClsX X.K D [])
  (y:∀p,PSs (X.held p) (K::b) P) (hd:(n==("__debug__" : Str))=false:=by decide) :
  PS X (.Try body [.ExceptHandler (some (.Name n np)) none (K::b) m] [] [] pos) (b0M X.K D tx P):=by
 intro pins s σ H G I h;refine wpAny_Try_except (dr (hx pins s σ H G _ I h) (λf s1 q=>?_) λe s' q=>?_)
 .cases f with
  |next=>exact dZ q
  |brk=>exact q
  |cont=>exact q
  |ret v=>exact q
 .obtain⟨σ1,H1,s1,p,C,H',B,a0,rfl,I1,hos,hbare,hU,hok,hp,fl,cov,hC,k⟩:=q;subst hC;have N:=fl.2.2.1;have l:=fl;rw[j]at l;refine wpAny_looks_onW (L:=X.env.locals) (by rw[<-j];exact I1.ok.frames) w l λh4 i E=>?_;refine wpAny_landsW i λW c d=>?_;rw[<-j]at c;have d:=E.trans d;have J:Inv X pins σ1 H' {s' with heap:=W}:=I1.land hos hbare hU hok N cov c.1 d;refine wpAny_handleBy_cons (codeAny_handlers_test ?_) (by intro q;cases q);refine a0Q (X:=X.held p) (J.held p) hg hm ?_ hd;obtain⟨oe,x,hcl⟩:=c.there;obtain⟨a1,q',R,U,T,u,a2,O,S,M,V,j0,j1,j2,j3,j5,o,A,t,_⟩:=Z.ex;refine a1V (J.kIn _ _ A) x hcl t ?_;refine codeAny_handlers_suite ?_;refine lands_againW c λY r F=>?_;have Q:Inv X pins σ1 (upd H' p (b2I p C)) {s' with heap:=Y}:=I1.landX hos hbare hU hok hp N cov r (d.trans F);refine dr (y p pins _ _ _ G (Q.held p) (k p hp)) (λf s8 a=>?_) λ_ _ z=>False.elim z;cases f with
  |next=>obtain⟨σ2,H2,g,a⟩:=a;exact⟨σ2,H2,g.unheld I.ok,a⟩
  |brk=>obtain⟨σ2,H2,g,a⟩:=a;exact⟨σ2,H2,g.unheld I.ok,a⟩
  |cont=>obtain⟨σ2,H2,g,a⟩:=a;exact⟨σ2,H2,g.unheld I.ok,a⟩
  |ret v=>obtain⟨v',σ2,H2,g,rv,a⟩:=a;exact⟨v',σ2,H2,g.unheld I.ok,rv,a⟩
section
variable {X:Cx}{k:Nat}{ps:List Str}{sp:Sp}{x:Str}{p pos cpos:Pos}{e:Expr}{es:List Expr}{t:TA}
theorem b2m(K:PySem.W.Frag){body:List Stmt}{tx:TX}{h:TS}{c:Str}{np b pos:Pos}{g:Stmt}{a:List Stmt}{D:Addr}(m:JX X body tx)(k:Gl X c)(l:X.mg c=some (.ref D))(i:ClsX K D [])
  (f:∀p,JB (X.held p) (g::a) h) (j:X.K=K:=by rfl) (e:X.stack=X.env::X.outer:=by rfl) (d:X.env.frame=some X.env.locals:=by rfl) (hd:(c==("__debug__" : Str))=false:=by decide) :
  JS X (.Try body [.ExceptHandler (some (.Name c np)) none (g::a) b] [] [] pos) (b0M K D tx h):=by
 subst j;exact⟨b1B e d m.h k l i (λp=>(f p).h) hd⟩
end
section
variable (P:Program) (w:World)
end
section
variable {P:Program}{w:World}{H H':Hp}{h h':Heap}{a:Addr}{o:HO}
end
section
variable {P:Program}{w:World}{H:Hp}{h h':Heap}{x e:Addr}{o':HO}
end
section
variable {fs fs' ex ex':List Addr}{H H1 H2:Hp}{h h1 h2 h':Heap}{a x e:Addr}{o:HO}
end
section
variable {X:Cx}{pins:List (Addr×Obj)}{σ:List (Option V)}{H H':Hp}{s:Shared}{h':Heap}
end
section
variable {X:Cx}
variable {a b:Expr}{ta tb:TE}{pos:Pos}
variable {tA tB':TT}{rest:List Expr}
end
section
variable {X:Cx}{pins:List (Addr×Obj)}{σ:St}{H:Hp}{s:Shared}{a:Addr}{xs ys:List V}
end
section
variable {X:Cx}{pins:List (Addr×Obj)}{σ:St}{H:Hp}{s:Shared}{E:Value->Shared->Prop}
end
section
variable {X:Cx}{st:Stmt}{rest:List Stmt}{t u:TS}{e:Expr}{te:TE}{pos:Pos}
end
section
variable {X:Cx}{pos:Pos}
end
section
variable {X:Cx}{tg:Expr}
end
section
variable {X:Cx}{a b c:Expr}{ta tb tc:TE}{pos:Pos}
end
section
variable {prog:Program}{w:World}{A:Around}{E:Value->Shared->Prop}{s:Shared}{K:PySem.W.Frag}{x dx C f:Addr}{mA:Str->Option Value}{name:Str}{v:Value}
end
section
variable {P:Program}{w:World}{H H':Hp}{h h':Heap}{a C dx:Addr}{fs fs':List (Str×V)}
end
section
variable {X:Cx}{pins:List (Addr×Obj)}{σ:St}{H:Hp}{s:Shared}{a C dx:Addr}{fs:List (Str×V)}{f:Str}{v:V}{A:Around}{E:Value->Shared->Prop}
end
section
variable {X:Cx}{o e value:Expr}{f:Str}{pos pos' tpos:Pos}{ta tv:TE}
end
section
variable {X:Cx}{pins:List (Addr×Obj)}{σ:St}{H:Hp}{s:Shared}{A:Around}{E:Value->Shared->Prop}{Q:Value->Shared->Prop}{c:Value}{b:Bool}
end
section
variable {X:Cx}{e:Expr}{es:List Expr}{te:TE}{t:TA}{pos:Pos}
end
section
variable {X:Cx}{pins:List (Addr×Obj)}{σ:St}{H:Hp}{s s':Shared}
end
section
variable {X:Cx}{CX:CXT}{k:Nat}{f C:Addr}{fd:FuncData}{ps:List Str}{sp:Sp}{dvs:List V}{ds:List Value}{E:XK}{x m:Str}{p pos apos:Pos}{e o:Expr}{es:List Expr}{ta:TE}{t:TA}
end
section
variable {X:Cx}{CX:CXT}{k:Nat}{f C:Addr}{fd:FuncData}{ps ks:List Str}{sp:Sp}{E:XK}{x m:Str}{p pos apos kpos:Pos}{e o:Expr}{es:List Expr}{kws:List Keyword}{te ta:TE}{t tk:TA}{nm:Option Str}
variable {g:List Value->List Value->List Value}{gV:List V->List V->List V}
end
section
variable {X:Cx}{x:Str}{p pos:Pos}{e:Expr}{es:List Expr}{t:TA}{id T:String}{r:List V->Hp->VK->Prop}
end
section
variable {κ:Type} [DecidableEq κ]
noncomputable def R5(kvs:List (κ×V))(k:κ):Option V:=(kvs.find? λkv=>decide (kv.1=k)).map (·.2)
noncomputable def a0m(kvs:List (κ×V))(k:κ)(v:V):List (κ×V) :=
 if (kvs.any λkv=>decide (kv.1=k))=true then kvs.map (λkv=>if kv.1=k then(kv.1,v)else kv)else kvs++[(k,v)]
theorem a2p{p:κ×V}{r:List (κ×V)}{k:κ}(e:p.1=k):R5 (p::r) k=some p.2:=by simp[R5,ed,e]
theorem a2q{p:κ×V}{r:List (κ×V)}{k:κ}(e:¬p.1=k):R5 (p::r) k=R5 r k:=by simp[R5,ed,e]
theorem R1(k:κ):∀kvs:List (κ×V),(kvs.any λa=>decide (a.1=k))=(R5 kvs k).isSome
 |[]=>rfl
 |p::r=>by
  rw[List.any_cons];by_cases e:p.1=k
  .simp only[a2p e,bg e,Bool.true_or,Option.isSome_some]
  .rw[a2q e,bL e,dj];exact R1 k r
theorem a1E(kvs:List (κ×V))(k:κ)(v:V):(a0m kvs k v).length<=kvs.length+1:=by
 unfold a0m;split
 .rw[ae];omega
 .rw[ak,a',List.length_nil];omega
theorem a5S{kvs:List (κ×V)}{k:κ}(v:V)(h:R5 kvs k=none):a0m kvs k v=kvs++[(k,v)]:=by
 unfold a0m;rw[R1,h];exact ar (by decide)
theorem RelO.isSome_eq{o:Option V}{u:Option Value}(r:RelO o u):o.isSome=u.isSome:=by
 cases o with
 |none=>cases u with
  |none=>rfl
  |some _=>exact(show False from r).elim
 |some _=>cases u with
  |none=>exact(show False from r).elim
  |some _=>rfl
theorem KV.val{kvs:List (κ×V)}{vs:List (κ×Value)}(r:KV kvs vs)(k:κ):RelO (R5 kvs k) (valueAt vs k):=by
 unfold KV at r;induction r with
 |nil=>exact True.intro
 |@cons p q ps qs h t a =>
  obtain⟨h1,h2⟩:=h;by_cases e:p.1=k
  .have e':q.1=k:=h1.symm.trans e;have b:valueAt (q::qs) k=some q.2:=by simp[valueAt,ed,e']
   rw[a2p e,b];exact h2
  .have e':¬q.1=k:=λz=>e (h1.trans z);have b:valueAt (q::qs) k=valueAt qs k:=by simp[valueAt,ed,e']
   rw[a2q e,b];exact a
theorem KV.any{kvs:List (κ×V)}{vs:List (κ×Value)}(r:KV kvs vs)(k:κ):(kvs.any λa=>decide (a.1=k))=vs.any λa=>decide (a.1=k):=by
 unfold KV at r;induction r with
 |nil=>rfl
 |cons h t b=>rw[List.any_cons,List.any_cons,b,h.1]
theorem KV.repl{kvs:List (κ×V)}{vs:List (κ×Value)}(r:KV kvs vs)(k:κ){y:V}{u:Value}(c:RelV y u) :
  KV (kvs.map λa=>if a.1=k then(a.1,y)else a) (vs.map λa=>if a.1=k then(a.1,u)else a):=by
 unfold KV at r⊢;induction r with
 |nil=>exact .nil
 |@cons p q ps qs h t b =>
  rw[aZ,aZ];refine .cons ?_ b;obtain⟨h1,h2⟩:=h;by_cases e:p.1=k
  .rw[az e,az (h1.symm.trans e)];exact⟨h1,c⟩
  .rw[ar e,ar (λz=>e (h1.trans z))];exact⟨h1,h2⟩
theorem KV.put{kvs:List (κ×V)}{vs:List (κ×Value)}(r:KV kvs vs)(k:κ){y:V}{u:Value}(a:RelV y u):KV (a0m kvs k y) (stored vs k u):=by
 unfold a0m stored;rw[r.any k];by_cases e:(vs.any λb=>decide (b.1=k))=true
 .rw[az e,az e];exact r.repl k a
 .rw[ar e,ar e];exact Paired.snoc r ⟨rfl,a⟩
theorem KV.length{kvs:List (κ×V)}{vs:List (κ×Value)}(r:KV kvs vs):kvs.length=vs.length:=Paired.length r
end
theorem a8B{P:Program}{w:World}{k:Key}{u:Value}(r:RelV (kV k) u):(B9 P w).is k u=true:=by
 cases k with
 |inl i=>obtain⟨t,e⟩:=(show ∃t,u=Value.int i t from r);subst e;exact a6a P w i t
 |inr x=>obtain⟨t,e⟩:=(show ∃t,u=Value.str x t from r);subst e;exact a5Z P w x t
theorem a4a{P:Program}{w:World}:∀{ks:List Key}{us:List Value},Vals (ks.map kV) us->ItemsAre (B9 P w) ks us
 |[],_,r=>by rw[List.map_nil]at r;cases r;exact .nil
 |k::ks,_,r=>by
  rw[aZ]at r;cases r with
  |cons h t=>exact .cons (a8B h) (a4a t)
abbrev KT(H:Hp):List (List Key×V)->List (List Key×Addr×Value)->Prop:=Paired λp q=>p.1=q.1/\H q.2.1=some (.tup (p.1.map kV))/\RelV p.2 q.2.2
theorem KT.val{H:Hp}{kvs:List (List Key×V)}{xs:List (List Key×Addr×Value)}(r:KT H kvs xs)(k:List Key):RelO (R5 kvs k) ((atKey xs k).map (·.2)):=by
 induction r with
 |nil=>exact True.intro
 |@cons p q ps qs h t a =>
  obtain⟨h1,_,h2⟩:=h;by_cases e:p.1=k
  .have e':q.1=k:=h1.symm.trans e;have b:atKey (q::qs) k=some q.2:=by simp[atKey,ed,e']
   rw[a2p e,b];exact h2
  .have e':¬q.1=k:=λz=>e (h1.trans z);have b:atKey (q::qs) k=atKey qs k:=by simp[atKey,ed,e']
   rw[a2q e,b];exact a
theorem KT.repl{H:Hp}{kvs:List (List Key×V)}{xs:List (List Key×Addr×Value)}(r:KT H kvs xs)(k:List Key){y:V}{u:Value}(d:RelV y u) :
  KT H (kvs.map λa=>if a.1=k then(a.1,y)else a) (xs.map (putAt k u)):=by
 induction r with
 |nil=>exact .nil
 |@cons p q ps qs h t c =>
  rw[aZ,aZ];refine .cons ?_ c;obtain⟨h1,h2,b⟩:=h;unfold putAt;by_cases e:p.1=k
  .rw[az e,az (h1.symm.trans e)];exact⟨h1,h2,d⟩
  .rw[ar e,ar (λz=>e (h1.trans z))];exact⟨h1,h2,b⟩
theorem KT.put{H:Hp}{kvs:List (List Key×V)}{xs:List (List Key×Addr×Value)}(r:KT H kvs xs)(k:List Key){b:Addr}{y:V}{u:Value}(c:H b=some (.tup (k.map kV)))(a:RelV y u) :
  KT H (a0m kvs k y) (storedH xs k b u):=by
 have e:(kvs.any λd=>decide (d.1=k))=(atKey xs k).isSome:=by
  rw[R1,(r.val k).isSome_eq,Option.isSome_map]
 unfold a0m storedH;rw[e];by_cases q:(atKey xs k).isSome=true
 .rw[az q,az q];exact r.repl k a
 .rw[ar q,ar q];exact Paired.snoc r ⟨rfl,c,a⟩
theorem KT.keeps{H H':Hp}{kvs:List (List Key×V)}{xs:List (List Key×Addr×Value)}(r:KT H kvs xs)(a:∀b ys,H b=some (.tup ys)->H' b=some (.tup ys)):KT H' kvs xs :=
 Paired.mapP r λ_ _ z=>⟨z.1,a _ _ z.2.1,z.2.2⟩
section
variable {P:Program}{w:World}{H:Hp}{h:Heap}{a:Addr}
theorem b5q{u:HO}(ok:HOk P w H h)(e:Rd H a u):ObjOk P w H h a u:=e.ok ok
theorem b2R{kvs:List (Key×V)}(ok:HOk P w H h)(e:Rd H a (.dK kvs)):kvs.length<=sizeLine/\(a==sysModules)=false/\∃vs,KV kvs vs/\h.DictOf (B9 P w) a vs :=
 show ObjOk P w H h a (.dK kvs)from b5q ok e
theorem b8v{kvs:List (Key×V)}(ok:HOk P w H h)(e:H a=some (.dK kvs)):kvs.length<=sizeLine/\(a==sysModules)=false/\∃vs,KV kvs vs/\h.DictOf (B9 P w) a vs:=b2R ok (.inl e)
theorem a1j{ks:List Key}(ok:HOk P w H h)(e:H a=some (.tup (ks.map kV))):(tupleKind (B9 P w)).is h ks a:=by
 obtain⟨_,its,r,o,h1,h2,n,b⟩:=(show ObjOk P w H h a (.tup (ks.map kV))from ok a _ e);exact⟨o,its.toArray,n,h1,aN Prod.fst h2,b,by simpa using a4a r⟩
theorem b2N{kvs:List (List Key×V)}(ok:HOk P w H h)(e:Rd H a (.dT kvs)):kvs.length<=sizeLine/\(a==sysModules)=false /\
  ∃xs,KT H kvs xs/\h.DictOfH (tupleKind (B9 P w)) a xs:=by
 obtain⟨z,y,xs,r,o,es,ep,h1,h2,d,f,g⟩:=(show ObjOk P w H h a (.dT kvs)from b5q ok e);refine⟨z,y,xs,r,o,es,ep,h1,h2,d,f,λx b=>?_,g⟩;have all:∀{l:List (List Key×V)}{m:List (List Key×Addr×Value)},KT H l m->∀x∈m,(tupleKind (B9 P w)).is h x.1 x.2.1:=by
  intro l m q;induction q with
  |nil=>intro x b;exact nomatch b
  |@cons p q ps qs c t i =>
   intro x b;rcases aD.mp b with e|b
   .subst e;exact a1j ok (by rw[<-c.1];exact c.2.1)
   .exact i x b
 exact all r x b
theorem b8u{kvs:List (List Key×V)}(ok:HOk P w H h)(e:H a=some (.dT kvs)):kvs.length<=sizeLine/\(a==sysModules)=false /\
  ∃xs,KT H kvs xs/\h.DictOfH (tupleKind (B9 P w)) a xs:=b2N ok (.inl e)
end
def DGet(H:Hp)(a:Addr)(y:V)(r:Option V):Prop :=
 (∃kvs k,Rd H a (.dK kvs)/\y=kV k/\r=R5 kvs k)∨∃kvs k b,Rd H a (.dT kvs)/\y=.ref b/\H b=some (.tup (k.map kV))/\r=R5 kvs k
def DPut(H:Hp)(a:Addr)(y v:V)(H':Hp):Prop :=
 (∃kvs k,H a=some (.dK kvs)/\y=kV k/\kvs.length<sizeLine/\H'=upd H a (.dK (a0m kvs k v))) ∨
 ∃kvs k b,H a=some (.dT kvs)/\y=.ref b/\H b=some (.tup (k.map kV))/\kvs.length<sizeLine/\H'=upd H a (.dT (a0m kvs k v))
theorem DGet.t{H:Hp}{a b:Addr}{kvs:List (List Key×V)}{k:List Key}(e:H a=some (.dT kvs))(c:H b=some (.tup (k.map kV))):DGet H a (.ref b) (R5 kvs k):=.inr ⟨kvs,k,b,.inl e,rfl,c,rfl⟩
theorem DPut.t{H:Hp}{a b:Addr}{kvs:List (List Key×V)}{k:List Key}{v:V}(e:H a=some (.dT kvs))(c:H b=some (.tup (k.map kV)))(d:kvs.length<sizeLine) :
  DPut H a (.ref b) v (upd H a (.dT (a0m kvs k v))):=.inr ⟨kvs,k,b,e,rfl,c,d,rfl⟩
section
variable {X:Cx}{pins:List (Addr×Obj)}{σ:St}{H:Hp}{s:Shared}{a:Addr}{y v:V}{u r:Value}{o:Option V}{A:Around}{E:Value->Shared->Prop}
theorem Inv.big(I:Inv X pins σ H s):sysModules<s.heap.objs.size:=by
 have h:mainGlobals<s.heap.objs.size:=(I.mod.glob.keeps I.bk).lt;exact fT (by decide) h
theorem b8I{Q:Value->Shared->Prop}(j:A.units+1<cLine)(I:Inv X pins σ H s)(g:DGet H a y o)(f:RelV y u)(h:∀s',Inv X pins σ H s'->Q (.bool o.isSome) s') :
  wpAny (model X.prog X.w) A (compareOp .In u (.ref a)) Q E s:=by
 rcases g with⟨kvs,k,e,d,l⟩|⟨kvs,k,b,e,d,i,l⟩
 .subst d;obtain⟨z,hd,vs,c,dd⟩:=b2R I.hok e;refine wpAny_in_of (a8B f) hd dd.mapOf ?_;rw[<-(c.val k).isSome_eq,<-l];exact h _ (I.tok _)
 .subst d;cases(show u=Value.ref b from f);obtain⟨z,hd,xs,c,dd⟩:=b2N I.hok e;refine wpAny_in_heap (tupleKind_room_in1 j) (a1j I.hok i) hd dd ?_;have q:=(c.val k).isSome_eq;rw[Option.isSome_map]at q;rw[<-q,<-l];exact h _ (I.tok _)
theorem b4U{Q:Value->Shared->Prop}(j:A.units+1<cLine)(I:Inv X pins σ H s)(g:DGet H a y o)(f:RelV y u)(h:∀s',Inv X pins σ H s'->Q (.bool (!o.isSome)) s') :
  wpAny (model X.prog X.w) A (compareOp .NotIn u (.ref a)) Q E s:=by
 rcases g with⟨kvs,k,e,d,l⟩|⟨kvs,k,b,e,d,i,l⟩
 .subst d;obtain⟨z,hd,vs,c,dd⟩:=b2R I.hok e;refine wpAny_notIn_of (a8B f) hd dd.mapOf ?_;rw[<-(c.val k).isSome_eq,<-l];exact h _ (I.tok _)
 .subst d;cases(show u=Value.ref b from f);obtain⟨z,hd,xs,c,dd⟩:=b2N I.hok e;refine wpAny_notIn_heap (tupleKind_room_in1 j) (a1j I.hok i) hd dd ?_;have q:=(c.val k).isSome_eq;rw[Option.isSome_map]at q;rw[<-q,<-l];exact h _ (I.tok _)
theorem a8U{h':Heap}{t':Nat}{c:HO}(I:Inv X pins σ H s)(g:Mut (H a))(hs:Heap.SameBut a s.heap h')(f:∃q,h'.get? a=some q)(new:ObjOk X.prog X.w (upd H a c) h' a c) :
  Inv X pins σ (upd H a c) {s with heap:=h',toks:=t'} :=
 I.write (x:=a) (e:=a) g (.inl rfl) (λb q d z=>(hs.2 b d).trans z) f new
theorem b7p{P:Program}{w:World}{H':Hp}{h':Heap}{kvs:List (Key×V)}{vs:List (Key×Value)}(z:kvs.length<=sizeLine)(hd:(a==sysModules)=false)(b:KV kvs vs)(dd:h'.DictOf (B9 P w) a vs) :
  ObjOk P w H' h' a (.dK kvs):=⟨z,hd,vs,b,dd⟩
theorem b0i{H':Hp}{Q:Unit->Shared->Prop}(G:A.units+1<cLine)(I:Inv X pins σ H s)(g:DPut H a y v H')(x:RelV y u)(w:RelV v r)(h:∀s',Inv X pins σ H' s'->Q () s') :
  wpAny (model X.prog X.w) A (setItem (.ref a) u r) Q E s:=by
 rcases g with⟨kvs,k,e,m,l,j⟩|⟨kvs,k,b,e,m,p,l,j⟩
 .subst m j;obtain⟨z,hd,vs,d,dd⟩:=b8v I.hok e;have o:vs.length<=sizeLine:=by rw[<-d.length];exact z
  have n:(a0m kvs k v).length<=sizeLine:=by have:=a1E kvs k v;omega
  refine wpAny_setItem_pairs (hsz:=o) (a8B x) dd λh' f hs=>h _ ?_;have F:∃q,h'.get? a=some q:=let ⟨q,_,_,i,_⟩:=f;⟨q,i⟩
  exact a8U I (by rw[e];exact True.intro) hs F (b7p n hd (d.put k w) f)
 .subst m j;cases(show u=Value.ref b from x);obtain⟨z,hd,xs,d,dd⟩:=b8u I.hok e;have o:xs.length<=sizeLine:=by rw[<-Paired.length d];exact z
  have n:(a0m kvs k v).length<=sizeLine:=by have:=a1E kvs k v;omega
  refine wpAny_setItem_heap (hsz:=o) (tupleKind_room_in1 G) (a1j I.hok p) dd λh' f hs=>h _ ?_;obtain⟨q,es,ep,i,h2,B,C,_,D⟩:=f;refine a8U I (by rw[e];exact True.intro) hs ⟨q,i⟩ ⟨n,hd,_,(d.put k p w).keeps λc ys t=>?_,q,es,ep,i,h2,B,C,D⟩;rw[A3 (K0 t e (λz=>nomatch z))];exact t
end
section
variable {X:Cx}{pins:List (Addr×Obj)}{σ:St}{H:Hp}{s:Shared}{a:Addr}{kvs:List (Key×V)}{k:Key}{u:Value}{A:Around}{E:Value->Shared->Prop}
end
def b7R(ty td:TE):TE:=λσ H Q=>ty σ H λy H1=>td σ H1 λx H2=>∃a o,x=.ref a/\DGet H2 a y o/\Q (.bl o.isSome) H2
def a7X(ty td:TE):TE:=λσ H Q=>ty σ H λy H1=>td σ H1 λx H2=>∃a o,x=.ref a/\DGet H2 a y o/\Q (.bl (!o.isSome)) H2
def b5p(td ty tv:TE):TS:=λD σ H=>tv σ H λv H1=>td σ H1 λx H2=>ty σ H2 λy H3=>∃a H4,x=.ref a/\DPut H3 a y v H4/\D.nx σ H4
section
variable {X:Cx}{o i e value:Expr}{pos pos' tpos:Pos}{td ty tv:TE}
theorem b6C(f:X.A.units+1<cLine)(hi:PE X i ty)(e:PE X o td):PC X .In i o (b7R ty td):=by
 intro pins s σ H Q I h;refine thn (hi pins s σ H _ I h) λn s1 ⟨y,H1,b,m,q1⟩=>thn (e pins s1 σ H1 _ b q1) λu s2 ⟨x,H2,c,l,a,j,ex,g,k⟩=>?_;subst ex;obtain rfl:u=Value.ref a:=l;exact b8I f c g m λp d=>⟨.bl j.isSome,H2,d,rfl,k⟩
theorem a9E(f:X.A.units+1<cLine)(hi:PE X i ty)(e:PE X o td):PC X .NotIn i o (a7X ty td):=by
 intro pins s σ H Q I h;refine thn (hi pins s σ H _ I h) λn s1 ⟨y,H1,b,m,q1⟩=>thn (e pins s1 σ H1 _ b q1) λu s2 ⟨x,H2,c,l,a,j,ex,g,k⟩=>?_;subst ex;obtain rfl:u=Value.ref a:=l;exact b4U f c g m λp d=>⟨.bl (!j.isSome),H2,d,rfl,k⟩
theorem b3X(k:X.A.units+1<cLine)(j:PE X o td)(hi:PE X i ty)(l:PE X value tv)(hs:swapsWith value (some (.Subscript o i pos')) pos.line X.env=pure false) :
  PS X (.Assign [.Subscript o i pos'] value pos) (b5p td ty tv):=by
 intro pins s σ H D I h;refine wpAny_Assign_Subscript (thn (l pins s σ H _ I h) λr s1 ⟨v,H1,c,p,q1⟩=>thn (j pins s1 σ H1 _ c q1) λu s2 ⟨x,H2,d,q,m⟩=>thn (hi pins s2 σ H2 _ d m) λz A ⟨y,w,e,t,a,b,ex,g,n⟩=>?_) hs;subst ex;obtain rfl:u=Value.ref a:=q;exact b0i k e g t p λB f=>⟨σ,b,f,n⟩
end
theorem b2O{P:Program}{w:World}{H:Hp}(h:Heap)(a:sysModules<h.objs.size):ObjOk P w H (h.push {cls:=.type "dict",data:=.dict #[]}) h.objs.size (.dT []) :=
 ⟨bG _,cK.mpr (dq (aR a)),[],.nil,_,#[],0,aH _ rfl,⟨rfl,rfl,rfl⟩,rfl,rfl,fk⟩
def b0O:TE:=λ_ H Q=>∀p,H p=none->Q (.ref p) (upd H p (.dT []))
section
variable {X:Cx}{pos:Pos}
theorem b1M:PE X (.Dict [] [] pos) b0O:=λpins s σ H Q I h =>
 wpAny_Dict_empty ⟨.ref s.heap.objs.size,_,I.laid (a:=s.heap.objs.size) (o:=.dT []) (t':=s.toks) (λ_ _ q=>ag _ q) (ao _) (b2O s.heap I.big),rfl,h _ (I.hok.fresh (ao _))⟩
end
section
variable {X:Cx}{pins:List (Addr×Obj)}{σ:St}{H:Hp}{s:Shared}{a:Addr}{y d:V}{u r:Value}{o:Option V}{A:Around}{E:Value->Shared->Prop}
end
section
variable {X:Cx}{o e f:Expr}{apos cpos:Pos}{td ty tx:TE}
end
section
variable {X:Cx}{pins:List (Addr×Obj)}{σ:St}{H:Hp}{s:Shared}{a:Addr}{kvs:List (Key×V)}{A:Around}{E:Value->Shared->Prop}
end
section
variable {X:Cx}{pins:List (Addr×Obj)}{σ:St}{H:Hp}{s:Shared}{a:Addr}{y:V}{u:Value}{A:Around}{E:Value->Shared->Prop}
end
end L2
namespace Att
open PySem PySem.W PySem.Calls PyProof.Rows
section
variable {prog:Program}{w:World}{A:Around}{E:Value->Shared->Prop}{s:Shared}{K:Frag}
end
end Att
namespace L2
open PySem PySem.Spec PyProof.Rows
end L2
namespace L2
open PySem PySem.Spec PyProof.Rows
section
variable {P:Program}{w:World}{K:PySem.W.Frag}{mg:Str->Option Value}{base:Heap}
end
section
variable {X:Cx}
end
section
variable {κ:Type} [DecidableEq κ]
theorem b0I{kvs:List (κ×V)}{k:κ}(h:R5 kvs k=none):¬k∈kvs.map (·.1):=by
 intro m;obtain⟨p,a,e⟩:=aL.mp m;have q:(kvs.any λb=>decide (b.1=k))=true:=bD.mpr ⟨p,a,bg e⟩;rw[R1,h]at q;exact absurd q (by simp)
theorem b3r{kvs:List (κ×V)}{k:κ}{v:V}(h:R5 kvs k=some v):k∈kvs.map (·.1):=by
 have q:(kvs.any λb=>decide (b.1=k))=true:=by
  rw[R1,h]
  all_goals rfl
 obtain⟨p,a,e⟩:=bD.mp q;exact aL.mpr ⟨p,a,bw e⟩
theorem a8y:∀{l:List κ}{k:κ},l.Nodup->¬k∈l->(l++[k]).Nodup
 |[],k,_,_=>by simp
 |a::r,k,h,b=>by
  obtain⟨h1,h2⟩:=bR.mp h;show(a::(r++[k])).Nodup;refine bR.mpr ⟨λm=>?_,a8y h2 λm=>b (aD.mpr (Or.inr m))⟩;rcases aA.mp m with q|q
  .exact h1 q
  .exact b (aD.mpr (Or.inl (aQ.mp q).symm))
end
end L2
namespace L2
open PySem PySem.Spec PyProof.Rows PySem.W
section
variable {O:KeyOrd}{key:Nat->O.α}{N:Nat}{p:Array Nat}
noncomputable def kk(key:Nat->O.α)(p:Array Nat)(i:Nat):O.α:=key (p[i]?.getD 0)
end
theorem G0:∀a:List Int,HT.lexLt a a=false
 |[]=>rfl
 |x::xs=>by rw[HT.lexLt_cons,az rfl];exact G0 xs
theorem a0b:∀a b c:List Int,HT.lexLt a b=true->HT.lexLt b c=true->HT.lexLt a c=true
 |[],[],_,h,_=>by cases h
 |_::_,[],_,h,_=>by cases h
 |_,_::_,[],_,h=>by cases h
 |[],_::_,_::_,_,_=>rfl
 |x::xs,y::ys,z::zs,h1,h2=>by
  rw[HT.lexLt_cons]at h1 h2⊢;by_cases e1:x=y
  .rw[az e1]at h1;by_cases e2:y=z
   .rw[az e2]at h2;rw[az (e1.trans e2)];exact a0b xs ys zs h1 h2
   .rw[ar e2]at h2;rw[ar (by rw[e1];exact e2),e1];exact h2
  .rw[ar e1]at h1;have h1:=bw h1;by_cases e2:y=z
   .rw[ar (by rw[<-e2];exact e1),<-e2];exact bg h1
   .rw[ar e2]at h2;have h2:=bw h2;rw[ar (by omega)];exact bg (by omega)
theorem K3:∀a b:List Int,HT.lexLt a b=false->HT.lexLt b a=false->a=b
 |[],[],_,_=>rfl
 |[],_::_,h,_=>by cases h
 |_::_,[],_,h=>by cases h
 |x::xs,y::ys,h1,h2=>by
  rw[HT.lexLt_cons]at h1 h2;by_cases e:x=y
  .subst e;rw[az rfl]at h1 h2;rw[K3 xs ys h1 h2]
  .rw[ar e]at h1;rw[ar (dq e)]at h2;have h1:=of_decide_eq_false h1;have h2:=of_decide_eq_false h2;omega
theorem a8z(a b c:List Int)(h:HT.lexLt a c=true):HT.lexLt a b=true∨HT.lexLt b c=true:=by
 cases h1:HT.lexLt a b with
 |true=>exact .inl rfl
 |false =>
  refine .inr ?_;cases h2:HT.lexLt b a with
  |true=>exact a0b b a c h2 h
  |false=>rw[<-K3 a b h1 h2];exact h
noncomputable def OL:KeyOrd:=⟨List Int,HT.lexLt,G0,a0b,a8z,K3⟩
def C3(tss:LLI):Prop:=tss.Pairwise λa b=>HT.lexLt b a=false
section
variable {prog:Program}{w:World}{A:Around}{E:Value->Shared->Prop}{s:Shared}
noncomputable def b4D(fin:Bool):List Int->List Int->Bool
 |[],_=>fin
 |_::_,[]=>fin
 |x::xs,y::ys=>if x=y then b4D fin xs ys else decide (x<y)
theorem a6e:∀(xs ys:List Int),b4D (decide (xs.length<ys.length)) xs ys=HT.lexLt xs ys
 |[],[]=>rfl
 |[],y::ys=>by
  show decide (0<ys.length+1)=true;exact bg (by omega)
 |x::xs,[]=>by
  show decide (xs.length+1<0)=false;exact bL (by omega)
 |x::xs,y::ys=>by
  rw[HT.lexLt_cons];show(if x=y then _ else _)=_;split
  .rw[<-a6e xs ys];congr 1;simp only[a'];exact decide_eq_decide.mpr (by omega)
  .rfl
theorem a9H{c:Bool}{a b:Int}{t u:Tok}{Q:Bool->Shared->Prop}(h:Q (decide (a<b)) s):wpAny (model prog w) A (oneLt' c (.int a t) (.int b u)) Q E s:=by
 cases c with
 |true=>exact oneLt_int h
 |false=>exact kat_one _ _ (lt_int h)
theorem a1G{b fin:Bool}{Q:Bool->Shared->Prop}:∀{vs a:List Value}{ns ms:List Int}(i:Nat),IntsAre vs ns->IntsAre a ms->Q (b4D fin ns ms) s->KatLex prog w A b fin Q (vs.zip a) i s
 |_,_,_,_,i,.nil,_,h=>h
 |_,_,_,_,i,.cons _ _ _,.nil,h=>h
 |_,_,_,_,i,.cons x t c,.cons y u d,h=>by
  rw[List.zip_cons_cons];refine kat_cons (wpAny_eqBool_int ?_);have h:Q (if x=y then b4D fin _ _ else decide (x<y)) s:=h;by_cases e:x=y
  .rw[az e]at h;rw[show(x==y)=true from bp.mpr e];exact kat_yes (a1G (i+1) c d h)
  .rw[ar e]at h;rw[show(x==y)=false from cK.mpr e];exact kat_no (a9H h)
def TupsAre(h:Heap)(vs:List Value)(rss:LLI):Prop:=vs.length=rss.length/\∀(i:Nat) (v:Value),vs[i]?=some v->∃(r:List Int) (b:Addr) (its:Array Value),rss[i]?=some r/\v=Value.ref b/\IsTup h b its/\IntsAre its.toList r
theorem TupsAre.keeps{h h':Heap}{vs:List Value}{rss:LLI}(t:TupsAre h vs rss)(k:∀b its,IsTup h b its->IsTup h' b its):TupsAre h' vs rss :=
 ⟨t.1,λi v e=>let ⟨r,b,its,e1,e2,e3,e4⟩:=t.2 i v e;⟨r,b,its,e1,e2,k _ _ e3,e4⟩⟩
theorem a5u{h:Heap}:∀{vs:List Value}{rss:LLI},TupsAre h vs rss->(∀r∈rss,0<r.length)->∃fs,KatTups h vs fs/\fs.length=vs.length/\∀f∈fs,∃n t,f=Value.int n t
 |[],_,_,_=>⟨[],trivial,rfl,λ_ z=>nomatch z⟩
 |v::vs,[],T,_=>by cases T.1
 |v::vs,r::rss,T,hw=>by
  obtain⟨fs,h1,h2,k⟩:=a5u (vs:=vs) (rss:=rss) ⟨by have:=T.1;simpa using this,λi u e=>T.2 (i+1) u e⟩ λr c=>hw r (av _ c);obtain⟨q,b,its,e1,e2,⟨o,q1,m,n,p⟩,d⟩:=T.2 0 v rfl;cases e1;have c:=hw r au;obtain⟨x,t,g,j⟩:∃x t g,its.toList=Value.int x t::g:=by
   generalize its.toList=l at d;cases d with
   |nil=>simp at c
   |cons x t h=>exact⟨x,t,_,rfl⟩
  refine⟨.int x t::fs,⟨⟨b,o,its,n,e2,q1,m,p,?_⟩,h1⟩,by simp[h2],λf a=>?_⟩
  .rw[<-ax,j];rfl
  .rcases aD.mp a with rfl|a
   .exact⟨x,t,rfl⟩
   .exact k f a
theorem a9g{vs:List Value}{rss:LLI}{Q:SortKind->Shared->Prop}(T:TupsAre s.heap vs rss)(hw:∀r∈rss,0<r.length)(a:0<vs.length)(h:Q (tuples' true) s):wpAny (model prog w) A (keyKind' vs.toArray) Q E s:=by
 obtain⟨fs,h1,h2,b⟩:=a5u T hw;refine kat_kind (T:=.type "int") h1 (by omega) (λv a=>?_) rfl ?_
 .obtain⟨n,t,rfl⟩:=b v a;exact .now
 .rw[show(Value.type "int" != Value.type "tuple")=true from rfl];exact h
end
section
variable {prog:Program}{w:World}{A:Around}{E:Value->Shared->Prop}{s:Shared}
theorem V2{h:Heap}{a:Addr}{vs:List Value}{out:Array Value}:∀b o,b≠a->h.get? b=some o->(sortedHeap h a vs out).get? b=some o:=λb o c e=>by
 unfold sortedHeap;rw[Heap.get?_update_ne _ _ _ _ c];exact ag _ (ag _ (by rw[Heap.get?_update_ne _ _ _ _ c];exact e))
theorem a0o{h:Heap}{a:Addr}{vs:List Value}{out:Array Value}{n:Nat}(e:h.get? a=some (seqObj "list" vs.toArray n)):∃c,(sortedHeap h a vs out).get? a=some (seqObj "list" out c):=by
 unfold sortedHeap;have f:a<h.objs.size:=aK e;obtain⟨e1,b⟩:∃e1,(h.update a (Obj.mapSeq λ_=>#[])).get? a=some (seqObj "list" #[] e1):=⟨_,get?_update_seq e (λ_=>#[])⟩;have d:(((h.update a (Obj.mapSeq λ_=>#[])).push (seqObj "tuple" vs.toArray 0)).push (seqObj "list" #[] 0)).get? a=some (seqObj "list" #[] e1):=ag _ (ag _ b);exact⟨_,get?_update_seq d (λ_=>out)⟩
end
section
variable {X:Cx}
theorem a3b{pins:List (Addr×Obj)}{σ:St}{H:Hp}{s:Shared}(I:Inv X pins σ H s){ys:List V}{rss:LLI}{us:List Value}(h:Its H ys rss)(r:Vals ys us):TupsAre s.heap us rss:=by
 refine⟨by rw[<-r.length];exact h.1,λi v e=>?_⟩;have hi:i<ys.length:=by rw[r.length];exact(aT.mp e).1
 obtain⟨u,e1,e2⟩:=r.get (aj hi);rw[e]at e1;cases e1;obtain⟨b,q1,a,c,d⟩:=h.2 i _ (aj hi);rw[c]at e2;cases e2;obtain⟨its,f,g,_⟩:=I.tuple (SqT.of (K:=X.K) d);exact⟨b,a,its.toArray,q1,rfl,g,by simpa using a7w f⟩
end
noncomputable def Q5:Bool->Keyed->Array Keyed->Nat->Nat->Nat->StateT SortSt Sem (Option Nat):=sortPriv% PySem.Builtin.gallop
noncomputable def Q7(left:Bool)(key:Keyed)(arr:Array Keyed)(base:Nat)(i:Nat):StateT SortSt Sem (Option Bool):=do
 let x <-elem' arr (base+i)
 if left then lt' x key else return (<-lt' key x).map (!·)
noncomputable def b4Y(left:Bool)(key:Keyed)(arr:Array Keyed)(base n lo₀ hi₀:Nat):StateT SortSt Sem (Option Nat):=do
 let mut lo:=lo₀
 let mut hi:=hi₀
 for _ in [0:n] do
  if lo ≥ hi then break
  let m:=lo+(hi-lo) / 2
  let some more <-Q7 left key arr base m|return none
  if more then lo:=m+1 else hi:=m
 return some hi
theorem a7y(left:Bool)(key:Keyed)(arr:Array Keyed)(base n a:Nat):Q5 left key arr base n a=(Q7 left key arr base a>>=λr=>match r with
 |some right=>(if right=true then
   (forIn [:n] ((none,0,1):Option (Option Nat)×Nat×Nat) (λ_ c=>if c.2.2 ≥ n-a then pure (.done (none,c.2.1,c.2.2))else Q7 left key arr base (a+c.2.2)>>=λr=>match r with
     |some more=>(if (!more)=true then pure (.done (none,c.2.1,c.2.2))else pure (.yield (none,c.2.2,2*c.2.2+1)))
     |_=>pure (.done (some none,c.2.1,c.2.2)))>>=λc=>match c.1 with
    |some r=>pure r
    |none=>b4Y left key arr base n (a+c.2.1+1) (a+min c.2.2 (n-a)))
  else
   (forIn [:n] ((none,0,1):Option (Option Nat)×Nat×Nat) (λ_ c=>if c.2.2 ≥ a+1 then pure (.done (none,c.2.1,c.2.2))else Q7 left key arr base (a-c.2.2)>>=λr=>match r with
     |some found=>(if found=true then pure (.done (none,c.2.1,c.2.2))else pure (.yield (none,c.2.2,2*c.2.2+1)))
     |_=>pure (.done (some none,c.2.1,c.2.2)))>>=λc=>match c.1 with
    |some r=>pure r
    |none=>b4Y left key arr base n (a+1-min c.2.2 (a+1)) (a-c.2.1)))
 |_=>pure none):=by
 show(_>>=_)=(_>>=_);refine aN _ (funext λr=>?_);cases r with
 |none=>rfl
 |some right =>
  dsimp only;refine dM rfl (λ_=>?_) (λ_=>?_)
  .refine congr (aN _ (aN _ (funext λ_=>funext λc=>?_))) (funext λc=>?_)
   .rfl
   .rcases c with⟨_|q,c⟩<;>rfl
  .refine congr (aN _ (aN _ (funext λ_=>funext λc=>?_))) (funext λc=>?_)
   .rfl
   .rcases c with⟨_|q,c⟩<;>rfl
section
variable {prog:Program}{w:World}{A:Around}{E:Value->Shared->Prop}{s:Shared}
def Cmp(prog:Program)(w:World)(A:Around)(s:Shared)(κ:SortKind)(D:Keyed->Prop)(lt:Keyed->Keyed->Bool):Prop :=
 ∀x y (C:Bool->Shared->Prop),D x->D y->C (lt x y) s->wpAny (model prog w) A (keyLt' κ x.1 y.1) C (λ_ _=>False) s
variable {κ:SortKind}{D:Keyed->Prop}{lt:Keyed->Keyed->Bool}
theorem a0D{st:SortSt}{x y:Keyed}{Q:Option Bool->SortSt->Prop}(a:Cmp prog w A s κ D lt)(c:kindOf st=κ)(d:D x)(e:D y)(h:Q (some (lt x y)) st):wpS (model prog w) A E s (lt' x y) Q st:=by
 rw[lt'_eq];refine aB (fm ?_);rw[c];refine aB (wpS_lift (dX (dr (a x y (λb s'=>s'=s/\b=lt x y) d e ⟨rfl,rfl⟩) (λb s' ⟨e1,e2⟩=>?_) λ_ _ z=>z.elim)));rw[e1,e2];exact⟨rfl,aM h⟩
noncomputable def b3k(lt:Keyed->Keyed->Bool)(left:Bool)(key x:Keyed):Bool:=if left then lt x key else !(lt key x)
theorem a6E{st:SortSt}{left:Bool}{key x:Keyed}{arr:Array Keyed}{base i:Nat}{Q:Option Bool->SortSt->Prop}(b:Cmp prog w A s κ D lt)(c:kindOf st=κ)(a:D key)(d:D x)(e:arr[base+i]?=some x)(h:Q (some (b3k lt left key x)) st) :
  wpS (model prog w) A E s (Q7 left key arr base i) Q st:=by
 unfold Q7;rw[elem'_eq,e];refine aB (aM ?_);unfold b3k at h;cases left with
 |true=>exact a0D b c d a h
 |false=>exact aB (a0D b c a d (aM h))
theorem a7V{st:SortSt}{left:Bool}{key:Keyed}{arr:Array Keyed}{base n lo hi:Nat}{Q:Option Nat->SortSt->Prop}(a:Nat->Bool)
  (m:∀i,i<n->∀{R:Option Bool->SortSt->Prop},R (some (a i)) st->wpS (model prog w) A E s (Q7 left key arr base i) R st) (mono:∀i j,i<=j->j<n->a j=true->a i=true) (o:∀i j,i<=j->j<n->a i=false->a j=false)
  (h1:lo<=hi) (h2:hi<=n) (u:∀i,i<lo->a i=true) (v:∀i,hi<=i->i<n->a i=false)
  (h:∀k,k<=n->(∀i,i<k->a i=true)->(∀i,k<=i->i<n->a i=false)->Q (some k) st):wpS (model prog w) A E s (b4Y left key arr base n lo hi) Q st:=by
 unfold b4Y;dsimp only;refine aB (cF (cu (I:=λx c st'=>st'=st/\∃l r,c=(none,l,r)/\l<=r/\r<=n/\r-l<=n-x/\(∀i,i<l->a i=true)/\(∀i,r<=i->i<n->a i=false))
  (Q:=λc st'=>st'=st/\∃l,c=(none,l,l)/\l<=n/\(∀i,i<l->a i=true)/\(∀i,l<=i->i<n->a i=false)) ?step ?fin ⟨rfl,lo,hi,rfl,h1,h2,by omega,u,v⟩) ?post)
 case fin =>
  rintro c st' ⟨rfl,l,r,rfl,a1,b,t,d,f⟩;have e:l=r:=by omega
  subst e;exact⟨rfl,l,rfl,b,d,f⟩
 case step =>
  rintro x c st' _ y ⟨rfl,l,r,rfl,a1,b,t,d,f⟩;dsimp only;by_cases g:l ≥ r
  .rw[az g];have e:l=r:=by omega
   subst e;exact aM ⟨rfl,l,rfl,b,d,f⟩
  .rw[ar g];have q:l+(r-l) / 2<n:=by omega
   refine aB (m _ q ?_);dsimp only;cases p:a (l+(r-l) / 2)with
   |true =>
    rw[az rfl];exact aM ⟨rfl,_,r,rfl,by omega,b,by omega,λi hi=>mono i _ (by omega) q p,f⟩
   |false =>
    rw[ar (by simp)];exact aM ⟨rfl,l,_,rfl,by omega,by omega,by omega,d,λi h1 h2=>o _ i h1 h2 p⟩
 case post =>
  rintro c st' ⟨rfl,l,rfl,b,d,f⟩;exact aM (h l b d f)
theorem K1{st:SortSt}{left:Bool}{key:Keyed}{arr:Array Keyed}{base n a:Nat}{Q:Option Nat->SortSt->Prop}(B:Cmp prog w A s κ D lt)(G:kindOf st=κ)(u:D key)(b:Nat->Bool)
  (r:∀i,i<n->∃x,arr[base+i]?=some x/\D x/\b3k lt left key x=b i) (mono:∀i j,i<=j->j<n->b j=true->b i=true) (C:a<n)
  (h:∀k,k<=n->(∀i,i<k->b i=true)->(∀i,k<=i->i<n->b i=false)->Q (some k) st):wpS (model prog w) A E s (Q5 left key arr base n a) Q st:=by
 have m:∀i,i<n->∀{R:Option Bool->SortSt->Prop},R (some (b i)) st->wpS (model prog w) A E s (Q7 left key arr base i) R st:=λi hi R hR=>by
  obtain⟨x,e1,e2,z⟩:=r i hi;exact a6E B G u e2 e1 (by rw[z];exact hR)
 have q:∀i j,i<=j->j<n->b i=false->b j=false:=λi j y F e=>by
  cases e2:b j with
  |false=>rfl
  |true=>rw[mono i j y F e2]at e;cases e
 rw[a7y];refine aB (m a C ?_);dsimp only;cases t:b a with
 |true =>
  rw[az rfl];refine aB (cF (cu (I:=λx c st'=>st'=st/\∃l o,c=(none,l,o)/\l<o/\x+1<=o/\a+l<n/\b (a+l)=true)
   (Q:=λc st'=>st'=st/\∃l o,c=(none,l,o)/\l<o/\a+l<n/\b (a+l)=true/\(o ≥ n-a∨b (a+o)=false)) ?step ?fin ⟨rfl,0,1,rfl,by omega,by omega,by omega,t⟩) ?post)
  case fin =>
   rintro c st' ⟨rfl,l,o,rfl,a1,v,g,f⟩;exact⟨rfl,l,o,rfl,a1,g,f,.inl (by omega)⟩
  case step =>
   rintro x c st' _ H ⟨rfl,l,o,rfl,a1,v,g,f⟩;dsimp only;by_cases d:o ≥ n-a
   .rw[az d];exact aM ⟨rfl,l,o,rfl,a1,g,f,.inl d⟩
   .rw[ar d];refine aB (m _ (by omega) ?_);dsimp only;cases r:b (a+o)with
    |true =>
     rw[ar (by simp)];exact aM ⟨rfl,o,2*o+1,rfl,by omega,by omega,by omega,r⟩
    |false =>
     rw[az (by rfl)];exact aM ⟨rfl,l,o,rfl,a1,g,f,.inr r⟩
  case post =>
   rintro c st' ⟨rfl,l,o,rfl,a1,g,f,p⟩;dsimp only;refine a7V (lo:=a+l+1) (hi:=a+min o (n-a)) b m mono q (by omega) (by omega) (λi hi=>mono i (a+l) (by omega) g f) (λi h1 h2=>?_) h;rcases p with p|p
   .omega
   .exact q (a+o) i (by omega) h2 p
 |false =>
  rw[ar (by simp)];refine aB (cF (cu (I:=λx c st'=>st'=st/\∃l o,c=(none,l,o)/\l<o/\x+1<=o/\l<=a/\b (a-l)=false)
   (Q:=λc st'=>st'=st/\∃l o,c=(none,l,o)/\l<o/\l<=a/\b (a-l)=false/\(o ≥ a+1∨b (a-o)=true)) ?step ?fin ⟨rfl,0,1,rfl,by omega,by omega,by omega,t⟩) ?post)
  case fin =>
   rintro c st' ⟨rfl,l,o,rfl,a1,v,g,f⟩;exact⟨rfl,l,o,rfl,a1,g,f,.inl (by omega)⟩
  case step =>
   rintro x c st' _ H ⟨rfl,l,o,rfl,a1,v,g,f⟩;dsimp only;by_cases d:o ≥ a+1
   .rw[az d];exact aM ⟨rfl,l,o,rfl,a1,g,f,.inl d⟩
   .rw[ar d];refine aB (m _ (by omega) ?_);dsimp only;cases r:b (a-o)with
    |true =>
     rw[az rfl];exact aM ⟨rfl,l,o,rfl,a1,g,f,.inr r⟩
    |false =>
     rw[ar (by simp)];exact aM ⟨rfl,o,2*o+1,rfl,by omega,by omega,by omega,r⟩
  case post =>
   rintro c st' ⟨rfl,l,o,rfl,a1,g,f,p⟩;dsimp only;refine a7V (lo:=a+1-min o (a+1)) (hi:=a-l) b m mono q (by omega) (by omega) (λi hi=>?_) (λi h1 h2=>q (a-l) i h1 h2 f) h;rcases p with p|p
   .omega
   .exact mono i (a-o) (by omega) (by omega) p
end
section
variable {O:KeyOrd}{kf:Keyed->O.α}{la lb o:List Keyed}{ia ib:Nat}
def leK(kf:Keyed->O.α)(x y:Keyed):Prop:=O.kle (kf x) (kf y)
noncomputable def ltK(kf:Keyed->O.α)(x y:Keyed):Bool:=O.blt (kf x) (kf y)
structure MS(kf:Keyed->O.α)(la lb o:List Keyed)(ia ib:Nat):Prop where
 perm:o.Perm (la.take ia++lb.take ib)
 sorted:o.Pairwise (leK kf)
 ra:∀x∈o,∀y∈la.drop ia,leK kf x y
 rb:∀x∈o,∀y∈lb.drop ib,leK kf x y
theorem a0g{α:Type}{l:List α}{i:Nat}{x:α}(h:l[i]?=some x):l.drop i=x::l.drop (i+1):=by
 obtain⟨hi,e⟩:=aT.mp h;rw[cD hi,e]
theorem W5{l:List Keyed}{i:Nat}{x:Keyed}(hs:l.Pairwise (leK kf))(h:l[i]?=some x):∀y∈l.drop (i+1),leK kf x y:=by
 have:=hs.drop (i:=i);rw[a0g h]at this;exact(cp.mp this).1
theorem T0{α:Type}{l:List α}{i:Nat}{x:α}(h:l[i]?=some x):l.take (i+1)=l.take i++[x]:=by
 rw[bu,h];rfl
theorem MS.stepA{x:Keyed}(h:MS kf la lb o ia ib)(hs:la.Pairwise (leK kf))(e:la[ia]?=some x)(c:∀y∈lb.drop ib,leK kf x y):MS kf la lb (o++[x]) (ia+1) ib:=by
 have d:x∈la.drop ia:=by rw[a0g e];exact au
 refine⟨?_,?_,λz b y a=>?_,λz b y a=>?_⟩
 .rw[T0 e];have:=h.perm.append_right [x];refine this.trans ?_;rw[aC,aC];exact bX _ cg
 .rw[bF];exact⟨h.sorted,fq _ _,λz b y a=>by rw[aQ.mp a];exact h.ra z b x d⟩
 .have hy':y∈la.drop ia:=by rw[a0g e];exact av _ a
  rcases aA.mp b with q|q
  .exact h.ra z q y hy'
  .rw[aQ.mp q];exact W5 hs e y a
 .rcases aA.mp b with q|q
  .exact h.rb z q y a
  .rw[aQ.mp q];exact c y a
theorem MS.swap(h:MS kf la lb o ia ib):MS kf lb la o ib ia:=⟨h.perm.trans cg,h.sorted,h.rb,h.ra⟩
theorem MS.stepB{x:Keyed}(h:MS kf la lb o ia ib)(hs:lb.Pairwise (leK kf))(e:lb[ib]?=some x)(a:∀y∈la.drop ia,leK kf x y):MS kf la lb (o++[x]) ia (ib+1) :=
 (h.swap.stepA hs e a).swap
theorem MS.bulkA(hs:la.Pairwise (leK kf)):∀(k:Nat) {o:List Keyed}{ia:Nat},MS kf la lb o ia ib->ia+k<=la.length->(∀i x,i<k->la[ia+i]?=some x->∀y∈lb.drop ib,leK kf x y)->MS kf la lb (o++(la.drop ia).take k) (ia+k) ib
 |0,o,ia,h,_,_=>by rw[eH,cz];exact h
 |k+1,o,ia,h,c,b=>by
  obtain⟨x,a⟩:∃x,la[ia]?=some x:=⟨_,aj (by omega)⟩;have h1:=h.stepA hs a (b 0 x (by omega) a);have h2:=MS.bulkA hs k h1 (by omega) λi y hi e=>b (i+1) y (by omega) (by rw[<-e];congr 1;omega);rw[a0g a,List.take_succ_cons];rw[aC]at h2;rw[show ia+(k+1)=ia+1+k by omega];exact h2
theorem MS.bulkB(hs:lb.Pairwise (leK kf)){k:Nat}(h:MS kf la lb o ia ib)(b:ib+k<=lb.length)(a:∀i x,i<k->lb[ib+i]?=some x->∀y∈la.drop ia,leK kf x y):MS kf la lb (o++(lb.drop ib).take k) ia (ib+k) :=
 (MS.bulkA hs k h.swap b a).swap
def a1v(kf:Keyed->O.α)(la lb o:List Keyed):Prop:=o.Perm (la++lb)/\o.Pairwise (leK kf)
theorem MS.done(h:MS kf la lb o ia ib)(hs:la.Pairwise (leK kf))(b:ib=lb.length):a1v kf la lb (o++la.drop ia++lb.drop ib):=by
 subst b;rw[List.drop_length,cz];have a:=h.perm;rw[bx]at a;refine⟨?_,?_⟩
 .refine(a.append_right _).trans ?_;rw[aC];refine(bX _ cg).trans ?_;rw[<-aC,br]
 .rw[bF];exact⟨h.sorted,hs.drop,h.ra⟩
theorem MS.lastA(h:MS kf la lb o ia ib)(a:la.Pairwise (leK kf))(hs:lb.Pairwise (leK kf))(c:∀y∈lb.drop ib,∀x∈la.drop ia,leK kf y x):a1v kf la lb (o++lb.drop ib++la.drop ia):=by
 refine⟨?_,?_⟩
 .have hp:=(h.perm.append_right (lb.drop ib)).append_right (la.drop ia);refine hp.trans ?_;rw[aC (la.take ia),br,aC];refine(bX _ cg).trans ?_;rw[<-aC,br]
 .rw[bF];refine⟨?_,a.drop,λx d y b=>?_⟩
  .rw[bF];exact⟨h.sorted,hs.drop,h.rb⟩
  .rcases aA.mp d with q|q
   .exact h.ra x q y b
   .exact c x q y b
end
noncomputable def a2M:Array Keyed->Array Keyed->StateT SortSt Sem (Array Keyed):=sortPriv% PySem.Builtin.mergeLo
noncomputable def Z1(g:Nat):StateT SortSt Sem Unit:=modify λs=>SortSt.mk' (kindOf s) (arrOf s) (pendingOf s) g (failedOf s)
noncomputable def O1(a b out:Array Keyed)(ia ib:Nat):Array Keyed:=out++a.extract ia a.size++b.extract ib b.size
noncomputable def a0x(a b out:Array Keyed)(ia ib:Nat):Array Keyed:=out++b.extract ib b.size++a.extract ia a.size
abbrev T1:Type:=Option (Array Keyed)×Array Keyed×Nat×Nat×Nat×Nat
abbrev T2:Type:=Option (Array Keyed)×Array Keyed×Nat×Nat×Nat×Nat×Nat
noncomputable def loD(a b out:Array Keyed)(ia ib mg k k1:Nat):StateT SortSt Sem (ForInStep T2) :=
 elem' a ia>>=λx =>
 if (ia+1+1==a.size)=true then pure (.done (some (a0x a b (out.push x) (ia+1) ib),out.push x,ia+1,ib,mg,k,k1))
 else if (decide (k<7) && decide (k1<7))=true then pure (.done (none,out.push x,ia+1,ib,mg,k,k1))
 else pure (.yield (none,out.push x,ia+1,ib,mg,k,k1))
noncomputable def loC(a b out:Array Keyed)(ia ib mg k bc:Nat):StateT SortSt Sem (ForInStep T2) :=
 elem' b ib>>=λy =>
 if (ib+1==b.size)=true then pure (.done (some (O1 a b (out.push y) ia (ib+1)),out.push y,ia,ib+1,mg,k,bc))
 else elem' a ia>>=λx=>Q5 true x b (ib+1) (b.size-(ib+1)) 0>>=λr =>
  match r with
  |some k1=>(if k1 > 0 then
    (if (ib+1+k1==b.size)=true then pure (.done (some (O1 a b (out.push y++b.extract (ib+1) (ib+1+k1)) ia (ib+1+k1)),out.push y++b.extract (ib+1) (ib+1+k1),ia,ib+1+k1,mg,k,k1))
    else loD a b (out.push y++b.extract (ib+1) (ib+1+k1)) ia (ib+1+k1) mg k k1)
   else loD a b (out.push y) ia (ib+1) mg k k1)
  |_=>pure (.done (some (O1 a b (out.push y) ia (ib+1)),out.push y,ia,ib+1,mg,k,bc))
noncomputable def loB(a b out:Array Keyed)(ia ib mg ac bc:Nat):StateT SortSt Sem (ForInStep T2) :=
 Z1 mg>>=λ_=>elem' b ib>>=λy=>Q5 false y a ia (a.size-ia) 0>>=λr =>
 match r with
 |some k=>(if k > 0 then
   (if (ia+k+1==a.size)=true then pure (.done (some (a0x a b (out++a.extract ia (ia+k)) (ia+k) ib),out++a.extract ia (ia+k),ia+k,ib,mg,k,bc))
   else if (ia+k==a.size)=true then pure (.done (some (O1 a b (out++a.extract ia (ia+k)) (ia+k) ib),out++a.extract ia (ia+k),ia+k,ib,mg,k,bc))
   else loC a b (out++a.extract ia (ia+k)) (ia+k) ib mg k bc)
  else loC a b out ia ib mg k bc)
 |_=>pure (.done (some (O1 a b out ia ib),out,ia,ib,mg,ac,bc))
noncomputable def loA(a b out:Array Keyed)(ia ib ac bc mg:Nat):StateT SortSt Sem (ForInStep T1) :=
 elem' b ib>>=λy=>elem' a ia>>=λx=>lt' y x>>=λr =>
 match r with
 |some bWins=>(if bWins=true then elem' b ib>>=λy =>
   (if (ib+1==b.size)=true then pure (.done (some (O1 a b (out.push y) ia (ib+1)),out.push y,ia,ib+1,0,bc+1))
   else if bc+1 ≥ mg then pure (.done (none,out.push y,ia,ib+1,0,bc+1))
   else pure (.yield (none,out.push y,ia,ib+1,0,bc+1)))
  else elem' a ia>>=λx =>
   (if (ia+1+1==a.size)=true then pure (.done (some (a0x a b (out.push x) (ia+1) ib),out.push x,ia+1,ib,ac+1,0))
   else if ac+1 ≥ mg then pure (.done (none,out.push x,ia+1,ib,ac+1,0))
   else pure (.yield (none,out.push x,ia+1,ib,ac+1,0))))
 |_=>pure (.done (some (O1 a b out ia ib),out,ia,ib,ac,bc))
theorem a6b(a b:Array Keyed):a2M a b=(do
 rule "list.sort.merge-lo"
 let y <-elem' b 0
 if (1==b.size)=true then pure (O1 a b #[y] 0 1)
 else if (0+1==a.size)=true then pure (a0x a b #[y] 0 1)
 else do
  let g <-get
  let r <-forIn [:a.size+b.size] ((none,#[y],0,1,gallopOf g):Option (Array Keyed)×Array Keyed×Nat×Nat×Nat) λ_ c=>do
   let r <-forIn [:a.size+b.size] ((none,c.2.1,c.2.2.1,c.2.2.2.1,0,0):T1) λ_ d=>loA a b d.2.1 d.2.2.1 d.2.2.2.1 d.2.2.2.2.1 d.2.2.2.2.2 c.2.2.2.2
   match r.1 with
   |some q=>pure (ForInStep.done (some q,r.2.1,r.2.2.1,r.2.2.2.1,c.2.2.2.2))
   |none=>do
    rule "list.sort.gallop"
    let t <-forIn [:a.size+b.size] ((none,r.2.1,r.2.2.1,r.2.2.2.1,c.2.2.2.2+1,r.2.2.2.2.1,r.2.2.2.2.2):T2) λ_ d =>
     if d.2.2.2.2.1 > 1 then loB a b d.2.1 d.2.2.1 d.2.2.2.1 (d.2.2.2.2.1-1) d.2.2.2.2.2.1 d.2.2.2.2.2.2 else loB a b d.2.1 d.2.2.1 d.2.2.2.1 d.2.2.2.2.1 d.2.2.2.2.2.1 d.2.2.2.2.2.2
    match t.1 with
    |some q=>pure (ForInStep.done (some q,t.2.1,t.2.2.1,t.2.2.2.1,t.2.2.2.2.1))
    |none=>do
     Z1 (t.2.2.2.2.1+1)
     pure (ForInStep.yield (none,t.2.1,t.2.2.1,t.2.2.2.1,t.2.2.2.2.1+1))
  match r.1 with
  |some q=>pure q
  |none=>unsupported "internal:list.sort.merge-bound"):=by
 show(_>>=_)=(_>>=_);refine aN _ (funext λ_=>?_);dsimp only;refine aN _ (funext λy=>?_);refine dM rfl (λ_=>rfl) (λ_=>dM rfl (λ_=>rfl) λ_=>?_);refine aN _ (funext λg=>?_);refine congr (aN _ (aN _ (funext λ_=>funext λc=>?_))) (funext λr=>?_)
 .refine congr (aN _ (aN _ (funext λ_=>funext λd=>?_))) (funext λr=>?_)
  .rfl
  .rcases r with⟨_|q,r⟩
   .dsimp only;refine aN _ (funext λ_=>?_);refine congr (aN _ (aN _ (funext λ_=>funext λd=>?_))) (funext λr=>?_)
    .rfl
    .rcases r with⟨_|q,r⟩<;>rfl
   .rfl
 .rcases r with⟨_|q,r⟩
  .dsimp only
  .rfl
theorem a2l{α:Type}(a:Array α)(i:Nat):(a.extract i a.size).toList=a.toList.drop i:=by
 rw[eO];simp[List.extract_eq_drop_take'];rw[<-ay,bx]
theorem a3l{α:Type}(a:Array α)(i k:Nat):(a.extract i (i+k)).toList=(a.toList.drop i).take k:=by
 rw[eO];simp[List.extract_eq_drop_take]
theorem a6w(a b out:Array Keyed)(ia ib:Nat):(O1 a b out ia ib).toList=out.toList++a.toList.drop ia++b.toList.drop ib:=by
 unfold O1;rw[bY,bY,a2l,a2l]
theorem a6h(a b out:Array Keyed)(ia ib:Nat):(a0x a b out ia ib).toList=out.toList++b.toList.drop ib++a.toList.drop ia:=by
 unfold a0x;rw[bY,bY,a2l,a2l]
section
variable {prog:Program}{w:World}{A:Around}{E:Value->Shared->Prop}{s:Shared}{κ:SortKind}{D:Keyed->Prop}{O:KeyOrd}{kf:Keyed->O.α}{a b out:Array Keyed}{ia ib:Nat}{st:SortSt}
def Good(st st':SortSt):Prop:=kindOf st'=kindOf st/\arrOf st'=arrOf st/\pendingOf st'=pendingOf st/\failedOf st'=failedOf st
structure Two(D:Keyed->Prop)(kf:Keyed->O.α)(a b:Array Keyed):Prop where
 da:∀(i:Nat) x,a[i]?=some x->D x
 db:∀(i:Nat) x,b[i]?=some x->D x
 sa:a.toList.Pairwise (leK kf)
 sb:b.toList.Pairwise (leK kf)
 last:∀y∈b.toList,∀x,a[a.size-1]?=some x->ltK kf y x=true
theorem U5{l:List Keyed}{i:Nat}{x z:Keyed}(hs:l.Pairwise (leK kf))(e:l[i]?=some x)(h:leK kf z x):∀y∈l.drop i,leK kf z y:=λy a=>by
 rw[a0g e]at a;rcases aD.mp a with rfl|a
 .exact h
 .exact bT h (W5 hs e y a)
def MI(kf:Keyed->O.α)(a b out:Array Keyed)(ia ib:Nat):Prop:=MS kf a.toList b.toList out.toList ia ib/\ia+1<a.size/\ib<b.size
def D0(kf:Keyed->O.α)(a b r:Array Keyed):Prop:=a1v kf a.toList b.toList r.toList
theorem a0c(T:Two D kf a b)(h:MS kf a.toList b.toList out.toList ia ib)(hi:ia+1=a.size):D0 kf a b (a0x a b out ia ib):=by
 unfold D0;rw[a6h];refine h.lastA T.sa T.sb λy e x d=>?_;have c:ia<a.toList.length:=by rw[ay];omega
 rw[cD c,cC (by rw[ay];omega),aQ]at d;refine bW (T.last y (cS e) x ?_);rw[d,show a.size-1=ia by omega,<-ax,aj c]
theorem a0h(T:Two D kf a b)(h:MS kf a.toList b.toList out.toList ia ib)(hi:ib=b.size):D0 kf a b (O1 a b out ia ib):=by
 unfold D0;rw[a6w];exact h.done T.sa (by rw[ay];exact hi)
theorem B2{arr:Array Keyed}{i:Nat}(hi:i<arr.size){Q:Keyed->SortSt->Prop}(h:∀x,arr[i]?=some x->arr.toList[i]?=some x->Q x st):wpS (model prog w) A E s (elem' arr i) Q st:=by
 rw[elem'_eq];have e:arr[i]?=some arr[i]:=getElem?_pos arr i hi;rw[e];exact aM (h _ e (by rw[ax];exact e))
def P2(kf:Keyed->O.α)(st:SortSt)(a b:Array Keyed)(c0:Nat)(c:T2)(st':SortSt):Prop:=Good st st'/\((∃r,c.1=some r/\D0 kf a b r)∨(c.1=none/\MI kf a b c.2.1 c.2.2.1 c.2.2.2.1/\c0<=c.2.2.1+c.2.2.2.1))
def Y2(kf:Keyed->O.α)(st:SortSt)(a b:Array Keyed)(c0:Nat)(c:T2)(st':SortSt):Prop:=Good st st'/\c.1=none/\MI kf a b c.2.1 c.2.2.1 c.2.2.2.1/\c0<=c.2.2.1+c.2.2.2.1
def R2'(kf:Keyed->O.α)(st:SortSt)(a b:Array Keyed)(c0:Nat)(r:ForInStep T2)(st':SortSt):Prop:=match r with | .done c'=>P2 kf st a b c0 c' st' | .yield c'=>Y2 kf st a b c0 c' st'
variable {c0 mg k k1 bc ac:Nat}{st':SortSt}
theorem a7O(T:Two D kf a b)(g:Good st st')(h:MI kf a b out ia ib)(i:∀x,a.toList[ia]?=some x->∀y∈b.toList.drop ib,leK kf x y)(f:c0<=ia+ib):wpS (model prog w) A E s (loD a b out ia ib mg k k1) (R2' kf st a b c0) st':=by
 unfold loD;refine aB (B2 (by have:=h.2.1;omega) λx e1 e2=>?_);have c:=h.1.stepA T.sa e2 (i x e2);rw[<-cT]at c;split
 .rename_i e;exact aM ⟨g,.inl ⟨_,rfl,a0c T c (eq_of_beq e)⟩⟩
 .rename_i e;have e:¬ia+1+1=a.size:=λz=>e (bp.mpr z);have d:MI kf a b (out.push x) (ia+1) ib:=⟨c,by have:=h.2.1;omega,h.2.2⟩;split
  .exact aM ⟨g,.inr ⟨rfl,d,by show c0<=ia+1+ib;omega⟩⟩
  .exact aM ⟨g,rfl,d,by show c0<=ia+1+ib;omega⟩
theorem gdK(a:Array Keyed){i:Nat}(hi:i<a.size):a[i]?=some (a.getD i (Value.none,Value.none)):=by
 rw[bO,getElem?_pos a i hi];rfl
theorem a0a{l:List Keyed}(hs:l.Pairwise (leK kf)){i j:Nat}{x y:Keyed}(b:i<=j)(ex:l[i]?=some x)(a:l[j]?=some y):leK kf x y:=by
 by_cases e:i=j
 .subst e;rw[ex]at a;cases a;exact cB _
 .refine W5 hs ex y ?_;have:(l.drop (i+1))[j-(i+1)]?=some y:=by rw[eh,<-a];congr 1;omega
  exact aI this
theorem a7P(T:Two D kf a b)(o:Cmp prog w A s κ D (ltK kf))(C:kindOf st=κ)(g:Good st st')(h:MI kf a b out ia ib)(F:∀y,b.toList[ib]?=some y->∀x∈a.toList.drop ia,leK kf y x)(v:c0<=ia+ib):wpS (model prog w) A E s (loC a b out ia ib mg k bc) (R2' kf st a b c0) st':=by
 unfold loC;obtain⟨q,f,p⟩:=h;refine aB (B2 p λy e1 e2=>?_);have m:=q.stepB T.sb e2 (F y e2);rw[<-cT]at m;split
 .rename_i e;exact aM ⟨g,.inl ⟨_,rfl,a0h T m (eq_of_beq e)⟩⟩
 .rename_i e;have e:¬ib+1=b.size:=λz=>e (bp.mpr z);refine aB (B2 (by omega) λx f1 f2=>?_);refine aB (K1 o (g.1.trans C) (T.da _ _ f1) (λi=>ltK kf (b.getD (ib+1+i) (Value.none,Value.none)) x) (λi hi=>⟨_,gdK b (by omega),T.db _ _ (gdK b (by omega)),rfl⟩) (λi j B I u=>?_) (by omega) λk1 q1 G H=>?_)
  .refine e_ (a0a T.sb (i:=ib+1+i) (j:=ib+1+j) (by omega) ?_ ?_) u
   .rw[ax];exact gdK b (by omega)
   .rw[ax];exact gdK b (by omega)
  .dsimp only;have d:∀(c:Nat),c=ib+1+k1->c<b.size->∀r,a.toList[ia]?=some r->∀y∈b.toList.drop c,leK kf r y:=λc e1 e2 r ex'=>by
    rw[f2]at ex';cases ex';have n:b.toList[c]?=some (b.getD c (Value.none,Value.none)):=by rw[ax];exact gdK b e2
    refine U5 T.sb n ?_;have:=H k1 (ao _) (by omega);rw[<-e1]at this;exact this
   split
   .have hbk:=MS.bulkB T.sb (k:=k1) m (by rw[ay];omega) λi z hi t=>by
     refine U5 T.sa f2 ?_;have:=G i hi;rw[ax,gdK b (by omega)]at t;cases t;exact bW this
    rw[<-a3l,<-bY]at hbk;split
    .rename_i l;exact aM ⟨g,.inl ⟨_,rfl,a0h T hbk (eq_of_beq l)⟩⟩
    .rename_i l;have l:¬ib+1+k1=b.size:=λz=>l (bp.mpr z);exact a7O T g ⟨hbk,f,by omega⟩ (d _ rfl (by omega)) (by omega)
   .exact a7O T g ⟨m,f,by omega⟩ (d _ (by omega) (by omega)) (by omega)
theorem S9{Q:Unit->SortSt->Prop}(h:∀a,Good st' a->Q () a):wpS (model prog w) A E s (Z1 mg) Q st':=by
 unfold Z1;exact wpS_modify (h _ ⟨rfl,rfl,rfl,rfl⟩)
theorem Good.trans{st st' a:SortSt}(h:Good st st')(h2:Good st' a):Good st a:=⟨h2.1.trans h.1,h2.2.1.trans h.2.1,h2.2.2.1.trans h.2.2.1,h2.2.2.2.trans h.2.2.2⟩
theorem a7Q(T:Two D kf a b)(f:Cmp prog w A s κ D (ltK kf))(t:kindOf st=κ)(g:Good st st')(h:MI kf a b out ia ib)(q:c0<=ia+ib):wpS (model prog w) A E s (loB a b out ia ib mg ac bc) (R2' kf st a b c0) st':=by
 unfold loB;obtain⟨n,r,l⟩:=h;refine aB (S9 λM H=>?_);have g:=g.trans H;refine aB (B2 l λy e1 e2=>?_);refine aB (K1 f (g.1.trans t) (T.db _ _ e1) (λi=>!(ltK kf y (a.getD (ia+i) (Value.none,Value.none)))) (λi hi=>⟨_,gdK a (by omega),T.da _ _ (gdK a (by omega)),rfl⟩) (λi j J N F=>?_) (by omega) λk q1 G L=>?_)
 .have hle:leK kf (a.getD (ia+j) (Value.none,Value.none)) y:=by
   unfold leK KeyOrd.kle;unfold ltK at F;simpa using F
  have:=bT (a0a T.sa (i:=ia+i) (j:=ia+j) (by omega) (by rw[ax];exact gdK a (by omega)) (by rw[ax];exact gdK a (by omega))) hle;unfold KeyOrd.kle at this;unfold ltK;rw[this];rfl
 .dsimp only;have m:ltK kf y (a.getD (a.size-1) (Value.none,Value.none))=true:=T.last y (aI e2) _ (gdK a (by omega));have K:ia+k<a.size:=by
   refine Nat.lt_of_not_le λI=>?_;have:=G (a.size-1-ia) (by omega);rw[show ia+(a.size-1-ia)=a.size-1 by omega,m]at this;cases this
  have c:∀d,d=ia+k->∀u,b.toList[ib]?=some u->∀x∈a.toList.drop d,leK kf u x:=λd e u B=>by
   rw[e2]at B;cases B;have p:a.toList[d]?=some (a.getD d (Value.none,Value.none)):=by rw[ax];exact gdK a (by omega)
   refine U5 T.sa p ?_;have:=L k (ao _) (by omega);rw[<-e]at this;refine bW ?_;unfold KeyOrd.klt;unfold ltK at this;simpa using this
  split
  .have hbk:=MS.bulkA T.sa k n (by rw[ay];omega) λi z hi C=>by
    refine U5 T.sb e2 ?_;have:=G i hi;rw[ax,gdK a (by omega)]at C;cases C;unfold leK KeyOrd.kle;unfold ltK at this;simpa using this
   rw[<-a3l,<-bY]at hbk;split
   .rename_i o;exact aM ⟨g,.inl ⟨_,rfl,a0c T hbk (eq_of_beq o)⟩⟩
   .rename_i o;have o:¬ia+k+1=a.size:=λz=>o (bp.mpr z);split
    .rename_i v;have v:=eq_of_beq v;omega
    .exact a7P T f t g ⟨hbk,by omega,l⟩ (c _ rfl) (by omega)
  .exact a7P T f t g ⟨n,r,l⟩ (c _ (by omega)) q
def P1(kf:Keyed->O.α)(st:SortSt)(a b:Array Keyed)(c0:Nat)(c:T1)(st':SortSt):Prop:=Good st st'/\((∃r,c.1=some r/\D0 kf a b r)∨(c.1=none/\MI kf a b c.2.1 c.2.2.1 c.2.2.2.1/\c0<=c.2.2.1+c.2.2.2.1))
def Y1(kf:Keyed->O.α)(st:SortSt)(a b:Array Keyed)(c0:Nat)(c:T1)(st':SortSt):Prop:=Good st st'/\c.1=none/\MI kf a b c.2.1 c.2.2.1 c.2.2.2.1/\c0<=c.2.2.1+c.2.2.2.1
def R1'(kf:Keyed->O.α)(st:SortSt)(a b:Array Keyed)(c0:Nat)(r:ForInStep T1)(st':SortSt):Prop:=match r with | .done c'=>P1 kf st a b c0 c' st' | .yield c'=>Y1 kf st a b c0 c' st'
theorem b3p(T:Two D kf a b)(l:Cmp prog w A s κ D (ltK kf))(p:kindOf st=κ)(g:Good st st')(h:MI kf a b out ia ib)(o:c0<=ia+ib):wpS (model prog w) A E s (loA a b out ia ib ac bc mg) (R1' kf st a b (c0+1)) st':=by
 unfold loA;obtain⟨i,m,d⟩:=h;refine aB (B2 d λy e1 e2=>?_);refine aB (B2 (by omega) λx f1 f2=>?_);refine aB (a0D l (g.1.trans p) (T.db _ _ e1) (T.da _ _ f1) ?_);dsimp only;cases n:ltK kf y x with
 |true =>
  rw[az rfl];refine aB (B2 d λr k c=>?_);rw[e2]at c;cases c;have f:=i.stepB T.sb e2 (U5 T.sa f2 (bW n));rw[<-cT]at f;split
  .rename_i e;exact aM ⟨g,.inl ⟨_,rfl,a0h T f (eq_of_beq e)⟩⟩
  .rename_i e;have e:¬ib+1=b.size:=λz=>e (bp.mpr z);have j:MI kf a b (out.push y) ia (ib+1):=⟨f,m,by omega⟩;split
   .exact aM ⟨g,.inr ⟨rfl,j,by show c0+1<=ia+(ib+1);omega⟩⟩
   .exact aM ⟨g,rfl,j,by show c0+1<=ia+(ib+1);omega⟩
 |false =>
  rw[ar (by simp)];refine aB (B2 (by omega) λq k c=>?_);rw[f2]at c;cases c;have f:=i.stepA T.sa f2 (U5 T.sb e2 n);rw[<-cT]at f;split
  .rename_i e;exact aM ⟨g,.inl ⟨_,rfl,a0c T f (eq_of_beq e)⟩⟩
  .rename_i e;have e:¬ia+1+1=a.size:=λz=>e (bp.mpr z);have j:MI kf a b (out.push x) (ia+1) ib:=⟨f,by omega,d⟩;split
   .exact aM ⟨g,.inr ⟨rfl,j,by show c0+1<=ia+1+ib;omega⟩⟩
   .exact aM ⟨g,rfl,j,by show c0+1<=ia+1+ib;omega⟩
theorem Q9{n:String}{Q:Unit->SortSt->Prop}(h:Q () st):wpS (model prog w) A E s (liftM (rule n):StateT SortSt Sem Unit) Q st:=wpS_lift (fh ⟨rfl,h⟩)
theorem a5n(T:Two D kf a b)(i:Cmp prog w A s κ D (ltK kf))(o:kindOf st=κ)(M:0<a.size)(B:0<b.size)(h0:∀y,b.toList[0]?=some y->∀x∈a.toList,leK kf y x){Q:Array Keyed->SortSt->Prop}
  (q:∀r st',D0 kf a b r->Good st st'->Q r st'):wpS (model prog w) A E s (a2M a b) Q st:=by
 rw[a6b];refine aB (Q9 ?_);refine aB (B2 B λy e1 e2=>?_);have j:MS kf a.toList b.toList (#[y]:Array Keyed).toList 0 1:=by
  have z:MS kf a.toList b.toList [] 0 0:=⟨.nil,.nil,(λ_ h=>nomatch h),λ_ h=>nomatch h⟩;exact z.stepB T.sb e2 (λx p=>h0 y e2 x p)
 have m:Good st st:=⟨rfl,rfl,rfl,rfl⟩;split
 .rename_i e;exact aM (q _ _ (a0h T j (eq_of_beq e)) m)
 .rename_i e;have e:¬1=b.size:=λz=>e (bp.mpr z);split
  .rename_i l;exact aM (q _ _ (a0c T j (eq_of_beq l)) m)
  .rename_i l;have l:¬0+1=a.size:=λz=>l (bp.mpr z);refine aB (fm ?_);refine aB (cF (cu (I:=λx c st'=>Good st st'/\c.1=none/\MI kf a b c.2.1 c.2.2.1 c.2.2.2.1/\x+1<=c.2.2.1+c.2.2.2.1)
    (Q:=λc st'=>Good st st'/\∃r,c.1=some r/\D0 kf a b r) ?step ?fin ⟨m,rfl,⟨j,by show 0+1<a.size;omega,by show 1<b.size;omega⟩,ao _⟩) ?post)
   case post =>
    rintro c st' ⟨g,r,e1,e2⟩;obtain⟨J,K⟩:=c;dsimp only at e1;subst e1;exact aM (q _ _ e2 g)
   case fin =>
    rintro c st' ⟨g,e1,⟨_,h1,h2⟩,L⟩;exfalso;omega
   case step =>
    rintro x c G _ p ⟨g,e1,n,C⟩;refine aB (cF (cu (I:=λz d st'=>Y1 kf st a b (x+1+min z 1) d st') (Q:=λd st'=>P1 kf st a b (x+2) d st') ?s1 ?f1 ⟨g,rfl,n,by show x+1+min 0 1<=c.2.2.1+c.2.2.2.1;omega⟩) ?p1)
    case f1 =>
     rintro d st' ⟨g,e1,h1,h2⟩;exact⟨g,.inr ⟨e1,h1,by omega⟩⟩
    case s1 =>
     rintro z d st' _ F ⟨g,e1,h1,h2⟩;refine cF (b3p T i o g h1 (c0:=x+1) (by omega)) λr k f=>?_;cases r with
     |done c'=>exact f
     | «yield» c'=>exact⟨f.1,f.2.1,f.2.2.1,by have:=f.2.2.2;omega⟩
    case p1 =>
     rintro d st' ⟨g,hd⟩;obtain⟨t,u⟩:=d;rcases hd with⟨r,e1,e2⟩|⟨e1,h1,h2⟩
     .dsimp only at e1;subst e1;exact aM ⟨g,r,rfl,e2⟩
     .dsimp only at e1;subst e1;refine aB (Q9 ?_);refine aB (cF (cu (I:=λz d st'=>Y2 kf st a b (x+2) d st') (Q:=λd st'=>P2 kf st a b (x+2) d st') ?s2 ?f2 ⟨g,rfl,h1,h2⟩) ?p2)
      case f2 =>
       rintro d st' ⟨g,e1,h1,h2⟩;exact⟨g,.inr ⟨e1,h1,h2⟩⟩
      case s2 =>
       rintro z d st' _ F ⟨g,e1,h1,h2⟩;split
       .refine cF (a7Q T i o g h1 h2) λr k f=>?_;cases r<;>exact f
       .refine cF (a7Q T i o g h1 h2) λr k f=>?_;cases r<;>exact f
      case p2 =>
       rintro d st' ⟨g,hd⟩;obtain⟨t,u⟩:=d;rcases hd with⟨r,e1,e2⟩|⟨e1,h1,h2⟩
       .dsimp only at e1;subst e1;exact aM ⟨g,r,rfl,e2⟩
       .dsimp only at e1;subst e1;refine aB (S9 λH v=>?_);exact aM ⟨g.trans v,rfl,h1,h2⟩
end
section
variable {O:KeyOrd}{kf:Keyed->O.α}{la lb o:List Keyed}{na nb:Nat}
structure MH(kf:Keyed->O.α)(la lb o:List Keyed)(na nb:Nat):Prop where
 perm:o.Perm (la.drop na++lb.drop nb)
 sorted:o.Pairwise (leK kf)
 ra:∀x∈la.take na,∀y∈o,leK kf x y
 rb:∀x∈lb.take nb,∀y∈o,leK kf x y
theorem a1B{l:List Keyed}{i:Nat}{x:Keyed}(hs:l.Pairwise (leK kf))(h:l[i]?=some x):∀y∈l.take i,leK kf y x:=λy a=>by
 have:=hs.take (i:=i+1);rw[T0 h,bF]at this;exact this.2.2 y a x (aQ.mpr rfl)
theorem MH.stepA{x:Keyed}(h:MH kf la lb o (na+1) nb)(hs:la.Pairwise (leK kf))(e:la[na]?=some x)(c:∀y∈lb.take nb,leK kf y x):MH kf la lb (x::o) na nb:=by
 have d:x∈la.take (na+1):=by rw[T0 e];exact aU _ (aQ.mpr rfl)
 refine⟨?_,?_,λz b y a=>?_,λz b y a=>?_⟩
 .rw[a0g e,fL];exact h.perm.cons x
 .rw[cp];exact⟨λy a=>h.ra x d y a,h.sorted⟩
 .rcases aD.mp a with rfl|a
  .exact a1B hs e z b
  .exact h.ra z (by rw[T0 e];exact aS _ b) y a
 .rcases aD.mp a with rfl|a
  .exact c z b
  .exact h.rb z b y a
theorem MH.swap(h:MH kf la lb o na nb):MH kf lb la o nb na:=⟨h.perm.trans cg,h.sorted,h.rb,h.ra⟩
theorem MH.stepB{x:Keyed}(h:MH kf la lb o na (nb+1))(hs:lb.Pairwise (leK kf))(e:lb[nb]?=some x)(a:∀y∈la.take na,leK kf y x):MH kf la lb (x::o) na nb:=(h.swap.stepA hs e a).swap
theorem MH.bulkA(hs:la.Pairwise (leK kf)){a:Nat}:∀(k:Nat) {o:List Keyed},MH kf la lb o (a+k) nb->a+k<=la.length->(∀i x,a<=i->i<a+k->la[i]?=some x->∀y∈lb.take nb,leK kf y x)->MH kf la lb ((la.take (a+k)).drop a++o) a nb
 |0,o,h,d,_=>by
  rw[Nat.add_zero,cC (by rw[aP];omega),cq];exact h
 |k+1,o,h,d,c=>by
  obtain⟨x,b⟩:∃x,la[a+k]?=some x:=⟨_,aj (by omega)⟩;have h1:=MH.stepA (na:=a+k) h hs b (c _ x (by omega) (by omega) b);have h2:=MH.bulkA hs k h1 (by omega) λi y h1 h2 e=>c i y h1 (by omega) e;rw[show a+(k+1)=a+k+1 by omega,T0 b,dk (by rw[aP];omega),aC];exact h2
theorem MH.bulkB(hs:lb.Pairwise (leK kf)){a k:Nat}(h:MH kf la lb o na (a+k))(c:a+k<=lb.length)(b:∀i x,a<=i->i<a+k->lb[i]?=some x->∀y∈la.take na,leK kf y x):MH kf la lb ((lb.take (a+k)).drop a++o) na a :=
 (MH.bulkA hs k h.swap c b).swap
theorem MH.done(h:MH kf la lb o 0 nb)(hs:lb.Pairwise (leK kf)):a1v kf la lb (la.take 0++lb.take nb++o):=by
 rw[eH,cq];have a:=h.perm;rw[cJ]at a;refine⟨?_,?_⟩
 .refine(bX _ a).trans ?_;rw[<-aC];refine(fG _ cg).trans ?_;rw[aC,br]
 .rw[bF];exact⟨hs.take,h.sorted,h.rb⟩
theorem MH.firstB(h:MH kf la lb o na nb)(a:la.Pairwise (leK kf))(hs:lb.Pairwise (leK kf))(c:∀y∈lb.take nb,∀x∈la.take na,leK kf y x):a1v kf la lb (lb.take nb++la.take na++o):=by
 refine⟨?_,?_⟩
 .refine(bX _ h.perm).trans ?_;rw[aC,<-aC (la.take na),br];refine cg.trans ?_;rw[aC];refine bX _ (cg.trans ?_);rw[br]
 .rw[bF];refine⟨?_,h.sorted,λx d y b=>?_⟩
  .rw[bF];exact⟨hs.take,a.take,c⟩
  .rcases aA.mp d with q|q
   .exact h.rb x q y b
   .exact h.ra x q y b
end
noncomputable def a2N:Array Keyed->Array Keyed->StateT SortSt Sem (Array Keyed):=sortPriv% PySem.Builtin.mergeHi
noncomputable def O2(a b out:Array Keyed)(na nb:Nat):Array Keyed:=a.extract 0 na++b.extract 0 nb++out.reverse
noncomputable def U9(a b out:Array Keyed)(na nb:Nat):Array Keyed:=b.extract 0 nb++a.extract 0 na++out.reverse
abbrev U1:Type:=Option (Array Keyed)×Nat×Nat×Array Keyed×Nat×Nat
abbrev U2:Type:=Option (Array Keyed)×Nat×Nat×Array Keyed×Nat×Nat×Nat
noncomputable def hiD(a b:Array Keyed)(na nb:Nat)(out:Array Keyed)(mg k k1:Nat):StateT SortSt Sem (ForInStep U2) :=
 elem' a (na-1)>>=λx =>
 if (na-1==0)=true then pure (.done (some (O2 a b (out.push x) (na-1) nb),na-1,nb,out.push x,mg,k,k1))
 else if (decide (k<7) && decide (k1<7))=true then pure (.done (none,na-1,nb,out.push x,mg,k,k1))
 else pure (.yield (none,na-1,nb,out.push x,mg,k,k1))
noncomputable def hiC(a b:Array Keyed)(na nb:Nat)(out:Array Keyed)(mg k bc:Nat):StateT SortSt Sem (ForInStep U2) :=
 elem' b (nb-1)>>=λy =>
 if (nb-1==1)=true then pure (.done (some (U9 a b (out.push y) na (nb-1)),na,nb-1,out.push y,mg,k,bc))
 else elem' a (na-1)>>=λx=>Q5 true x b 0 (nb-1) (nb-1-1)>>=λr =>
  match r with
  |some at_=>(if nb-1-at_ > 0 then
    (if (at_==1)=true then pure (.done (some (U9 a b (out.push y++(b.extract at_ (nb-1)).reverse) na at_),na,at_,out.push y++(b.extract at_ (nb-1)).reverse,mg,k,nb-1-at_))
    else if (at_==0)=true then pure (.done (some (O2 a b (out.push y++(b.extract at_ (nb-1)).reverse) na at_),na,at_,out.push y++(b.extract at_ (nb-1)).reverse,mg,k,nb-1-at_))
    else hiD a b na at_ (out.push y++(b.extract at_ (nb-1)).reverse) mg k (nb-1-at_))
   else hiD a b na (nb-1) (out.push y) mg k (nb-1-at_))
  |_=>pure (.done (some (O2 a b (out.push y) na (nb-1)),na,nb-1,out.push y,mg,k,bc))
noncomputable def hiB(a b:Array Keyed)(na nb:Nat)(out:Array Keyed)(mg ac bc:Nat):StateT SortSt Sem (ForInStep U2) :=
 Z1 mg>>=λ_=>elem' b (nb-1)>>=λy=>Q5 false y a 0 na (na-1)>>=λr =>
 match r with
 |some at_=>(if na-at_ > 0 then
   (if (at_==0)=true then pure (.done (some (O2 a b (out++(a.extract at_ na).reverse) at_ nb),at_,nb,out++(a.extract at_ na).reverse,mg,na-at_,bc))
   else hiC a b at_ nb (out++(a.extract at_ na).reverse) mg (na-at_) bc)
  else hiC a b na nb out mg (na-at_) bc)
 |_=>pure (.done (some (O2 a b out na nb),na,nb,out,mg,ac,bc))
noncomputable def hiA(a b:Array Keyed)(na nb:Nat)(out:Array Keyed)(ac bc mg:Nat):StateT SortSt Sem (ForInStep U1) :=
 elem' b (nb-1)>>=λy=>elem' a (na-1)>>=λx=>lt' y x>>=λr =>
 match r with
 |some aWins=>(if aWins=true then elem' a (na-1)>>=λx =>
   (if (na-1==0)=true then pure (.done (some (O2 a b (out.push x) (na-1) nb),na-1,nb,out.push x,ac+1,0))
   else if ac+1 ≥ mg then pure (.done (none,na-1,nb,out.push x,ac+1,0))
   else pure (.yield (none,na-1,nb,out.push x,ac+1,0)))
  else elem' b (nb-1)>>=λy =>
   (if (nb-1==1)=true then pure (.done (some (U9 a b (out.push y) na (nb-1)),na,nb-1,out.push y,0,bc+1))
   else if bc+1 ≥ mg then pure (.done (none,na,nb-1,out.push y,0,bc+1))
   else pure (.yield (none,na,nb-1,out.push y,0,bc+1))))
 |_=>pure (.done (some (O2 a b out na nb),na,nb,out,ac,bc))
theorem a6c(a b:Array Keyed):a2N a b=(do
 rule "list.sort.merge-hi"
 let y <-elem' a (a.size-1)
 if (a.size-1==0)=true then pure (O2 a b #[y] (a.size-1) b.size)
 else if (b.size==1)=true then pure (U9 a b #[y] (a.size-1) b.size)
 else do
  let g <-get
  let r <-forIn [:a.size+b.size] ((none,a.size-1,b.size,#[y],gallopOf g):Option (Array Keyed)×Nat×Nat×Array Keyed×Nat) λ_ c=>do
   let r <-forIn [:a.size+b.size] ((none,c.2.1,c.2.2.1,c.2.2.2.1,0,0):U1) λ_ d=>hiA a b d.2.1 d.2.2.1 d.2.2.2.1 d.2.2.2.2.1 d.2.2.2.2.2 c.2.2.2.2
   match r.1 with
   |some q=>pure (ForInStep.done (some q,r.2.1,r.2.2.1,r.2.2.2.1,c.2.2.2.2))
   |none=>do
    rule "list.sort.gallop"
    let t <-forIn [:a.size+b.size] ((none,r.2.1,r.2.2.1,r.2.2.2.1,c.2.2.2.2+1,r.2.2.2.2.1,r.2.2.2.2.2):U2) λ_ d =>
     if d.2.2.2.2.1 > 1 then hiB a b d.2.1 d.2.2.1 d.2.2.2.1 (d.2.2.2.2.1-1) d.2.2.2.2.2.1 d.2.2.2.2.2.2 else hiB a b d.2.1 d.2.2.1 d.2.2.2.1 d.2.2.2.2.1 d.2.2.2.2.2.1 d.2.2.2.2.2.2
    match t.1 with
    |some q=>pure (ForInStep.done (some q,t.2.1,t.2.2.1,t.2.2.2.1,t.2.2.2.2.1))
    |none=>do
     Z1 (t.2.2.2.2.1+1)
     pure (ForInStep.yield (none,t.2.1,t.2.2.1,t.2.2.2.1,t.2.2.2.2.1+1))
  match r.1 with
  |some q=>pure q
  |none=>unsupported "internal:list.sort.merge-bound"):=by
 show(_>>=_)=(_>>=_);refine aN _ (funext λ_=>?_);dsimp only;refine aN _ (funext λy=>?_);refine dM rfl (λ_=>rfl) (λ_=>dM rfl (λ_=>rfl) λ_=>?_);refine aN _ (funext λg=>?_);refine congr (aN _ (aN _ (funext λ_=>funext λc=>?_))) (funext λr=>?_)
 .refine congr (aN _ (aN _ (funext λ_=>funext λd=>?_))) (funext λr=>?_)
  .rfl
  .rcases r with⟨_|q,r⟩
   .dsimp only;refine aN _ (funext λ_=>?_);refine congr (aN _ (aN _ (funext λ_=>funext λd=>?_))) (funext λr=>?_)
    .rfl
    .rcases r with⟨_|q,r⟩<;>rfl
   .rfl
 .rcases r with⟨_|q,r⟩
  .dsimp only
  .rfl
theorem a1r{α:Type}(a:Array α)(i n:Nat):(a.extract i n).toList=(a.toList.take n).drop i:=by
 rw[eO];simp[List.extract_eq_drop_take']
theorem a6x(a b out:Array Keyed)(na nb:Nat):(O2 a b out na nb).toList=a.toList.take na++b.toList.take nb++out.toList.reverse:=by
 unfold O2;rw[bY,bY,a1r,a1r,fU,cJ,cJ]
theorem a5b(a b out:Array Keyed)(na nb:Nat):(U9 a b out na nb).toList=b.toList.take nb++a.toList.take na++out.toList.reverse:=by
 unfold U9;rw[bY,bY,a1r,a1r,fU,cJ,cJ]
theorem a0N(out:Array Keyed)(x:Keyed):(out.push x).toList.reverse=x::out.toList.reverse:=by
 rw[cT,List.reverse_append];rfl
theorem a9a(out a:Array Keyed)(i n:Nat):(out++(a.extract i n).reverse).toList.reverse=(a.toList.take n).drop i++out.toList.reverse:=by
 rw[bY,List.reverse_append,fU,List.reverse_reverse,a1r]
section
variable {prog:Program}{w:World}{A:Around}{E:Value->Shared->Prop}{s:Shared}{κ:SortKind}{D:Keyed->Prop}{O:KeyOrd}{kf:Keyed->O.α}{a b out:Array Keyed}{na nb:Nat}{st:SortSt}
def a4r(kf:Keyed->O.α)(a b:Array Keyed):Prop:=∀y,b.toList[0]?=some y->∀x∈a.toList,ltK kf y x=true
theorem T7{l:List Keyed}{i:Nat}{x z:Keyed}(hs:l.Pairwise (leK kf))(e:l[i]?=some x)(h:leK kf x z):∀y∈l.take (i+1),leK kf y z:=λy a=>by
 rw[T0 e]at a;rcases aA.mp a with a|a
 .exact bT (a1B hs e y a) h
 .rw[aQ.mp a];exact h
def MJ(kf:Keyed->O.α)(a b out:Array Keyed)(na nb:Nat):Prop:=MH kf a.toList b.toList out.toList.reverse na nb/\1<=na/\2<=nb/\na<=a.size/\nb<=b.size
theorem a0i(T:Two D kf a b)(h:MH kf a.toList b.toList out.toList.reverse na nb)(hi:na=0):D0 kf a b (O2 a b out na nb):=by
 subst hi;unfold D0;rw[a6x];exact h.done T.sb
theorem U8(T:Two D kf a b)(F:a4r kf a b)(h:MH kf a.toList b.toList out.toList.reverse na nb)(hi:nb=1)(d:0<b.size):D0 kf a b (U9 a b out na nb):=by
 subst hi;unfold D0;rw[a5b];refine h.firstB T.sa T.sb λy c x f=>?_;have e:b.toList[0]?=some (b.getD 0 (Value.none,Value.none)):=by rw[ax];exact gdK b d
 rw[T0 e,eH,cq,aQ]at c;rw[c];exact bW (F _ e x (bU f))
def P4(kf:Keyed->O.α)(st:SortSt)(a b:Array Keyed)(c0:Nat)(c:U2)(st':SortSt):Prop:=Good st st'/\((∃r,c.1=some r/\D0 kf a b r)∨(c.1=none/\MJ kf a b c.2.2.2.1 c.2.1 c.2.2.1/\c.2.1+c.2.2.1+c0<=a.size+b.size))
def Y4(kf:Keyed->O.α)(st:SortSt)(a b:Array Keyed)(c0:Nat)(c:U2)(st':SortSt):Prop:=Good st st'/\c.1=none/\MJ kf a b c.2.2.2.1 c.2.1 c.2.2.1/\c.2.1+c.2.2.1+c0<=a.size+b.size
def R4(kf:Keyed->O.α)(st:SortSt)(a b:Array Keyed)(c0:Nat)(r:ForInStep U2)(st':SortSt):Prop:=match r with | .done c'=>P4 kf st a b c0 c' st' | .yield c'=>Y4 kf st a b c0 c' st'
variable {c0 mg k k1 bc ac:Nat}{st':SortSt}
theorem a7R(T:Two D kf a b)(g:Good st st')(h:MJ kf a b out na nb)(i:∀x,a.toList[na-1]?=some x->∀y∈b.toList.take nb,leK kf y x)(l:na+nb+c0<=a.size+b.size):wpS (model prog w) A E s (hiD a b na nb out mg k k1) (R4 kf st a b c0) st':=by
 unfold hiD;obtain⟨d,h1,h2,m,j⟩:=h;refine aB (B2 (by omega) λx e1 e2=>?_);obtain⟨n,rfl⟩:∃n,na=n+1:=⟨na-1,by omega⟩;rw[fc]at e1 e2 i⊢;have c:=d.stepA T.sa e2 (i x e2);rw[<-a0N]at c;split
 .rename_i e;exact aM ⟨g,.inl ⟨_,rfl,a0i T c (eq_of_beq e)⟩⟩
 .rename_i e;have e:¬n=0:=λz=>e (bp.mpr z);have f:MJ kf a b (out.push x) n nb:=⟨c,by omega,h2,by omega,j⟩;split
  .exact aM ⟨g,.inr ⟨rfl,f,by show n+nb+c0<=_;omega⟩⟩
  .exact aM ⟨g,rfl,f,by show n+nb+c0<=_;omega⟩
theorem a7S(T:Two D kf a b)(F:a4r kf a b)(t:Cmp prog w A s κ D (ltK kf))(P:kindOf st=κ)(g:Good st st')(h:MJ kf a b out na nb)(I:∀y,b.toList[nb-1]?=some y->∀x∈a.toList.take na,leK kf x y)(N:na+nb+c0<=a.size+b.size):wpS (model prog w) A E s (hiC a b na nb out mg k bc) (R4 kf st a b c0) st':=by
 unfold hiC;obtain⟨B,h1,h2,H,V⟩:=h;refine aB (B2 (by omega) λy e1 e2=>?_);obtain⟨m,rfl⟩:∃m,nb=m+1:=⟨nb-1,by omega⟩;rw[fc]at e1 e2 I⊢;have p:=B.stepB T.sb e2 (I y e2);rw[<-a0N]at p;split
 .rename_i e;exact aM ⟨g,.inl ⟨_,rfl,U8 T F p (eq_of_beq e) (by omega)⟩⟩
 .rename_i e;have e:¬m=1:=λz=>e (bp.mpr z);refine aB (B2 (by omega) λx f1 f2=>?_);refine aB (K1 t (g.1.trans P) (T.da _ _ f1) (λi=>ltK kf (b.getD (0+i) (Value.none,Value.none)) x) (λi hi=>⟨_,gdK b (by omega),T.db _ _ (gdK b (by omega)),rfl⟩) (λi j O u M=>?_) (by omega) λc q1 S J=>?_)
  .refine e_ (a0a T.sb (i:=0+i) (j:=0+j) (by omega) ?_ ?_) M
   .rw[ax];exact gdK b (by omega)
   .rw[ax];exact gdK b (by omega)
  .dsimp only;have L:1<=c:=by
    refine Nat.pos_of_ne_zero λz=>?_;have:=J 0 (by omega) (by omega);have K:=F (b.getD 0 (Value.none,Value.none)) (by rw[ax];exact gdK b (by omega)) x (aI f2);rw[cP]at this;rw[K]at this;cases this
   have d:∀o,a.toList[na-1]?=some o->∀f,f=c->∀y∈b.toList.take f,leK kf y o:=λo ex' f U=>by
    rw[f2]at ex';cases ex';obtain⟨n,Q⟩:∃n,f=n+1:=⟨f-1,by omega⟩;rw[Q];have r:b.toList[n]?=some (b.getD n (Value.none,Value.none)):=by rw[ax];exact gdK b (by omega)
    refine T7 T.sb r (bW ?_);have:=S n (by omega);rw[cP]at this;exact this
   split
   .obtain⟨j,u⟩:∃j,m=c+j:=⟨m-c,by omega⟩;have l:MH kf a.toList b.toList ((b.toList.take (c+j)).drop c++(out.push y).toList.reverse) na c:=by
     rw[u]at p;refine MH.bulkB T.sb p (by rw[ay];omega) λi z R W G=>?_;have:=J i R (by omega);rw[cP]at this;rw[ax,gdK b (by omega)]at G;cases G;have v:leK kf x (b.getD i (Value.none,Value.none)):=this;have:=T7 T.sa f2 v;rwa[show na-1+1=na by omega]at this
    rw[<-u,<-a9a]at l;split
    .rename_i q;exact aM ⟨g,.inl ⟨_,rfl,U8 T F l (eq_of_beq q) (by omega)⟩⟩
    .rename_i q;have q:¬c=1:=λz=>q (bp.mpr z);split
     .rename_i C;have C:=eq_of_beq C;omega
     .exact a7R T g ⟨l,h1,by omega,H,by omega⟩ (λo ex'=>d o ex' _ rfl) (by omega)
   .exact a7R T g ⟨p,h1,by omega,H,by omega⟩ (λo ex'=>d o ex' _ (by omega)) (by omega)
theorem a7T(T:Two D kf a b)(F:a4r kf a b)(l:Cmp prog w A s κ D (ltK kf))(t:kindOf st=κ)(g:Good st st')(h:MJ kf a b out na nb)(q:na+nb+c0<=a.size+b.size):wpS (model prog w) A E s (hiB a b na nb out mg ac bc) (R4 kf st a b c0) st':=by
 unfold hiB;obtain⟨m,h1,h2,J,G⟩:=h;refine aB (S9 λQ I=>?_);have g:=g.trans I;refine aB (B2 (by omega) λy e1 e2=>?_);refine aB (K1 l (g.1.trans t) (T.db _ _ e1) (λi=>!(ltK kf y (a.getD (0+i) (Value.none,Value.none)))) (λi hi=>⟨_,gdK a (by omega),T.da _ _ (gdK a (by omega)),rfl⟩) (λi j K r H=>?_) (by omega) λc q1 N P=>?_)
 .have hle:leK kf (a.getD (0+j) (Value.none,Value.none)) y:=by
   unfold leK KeyOrd.kle;unfold ltK at H;simpa using H
  have:=bT (a0a T.sa (i:=0+i) (j:=0+j) (by omega) (by rw[ax];exact gdK a (by omega)) (by rw[ax];exact gdK a (by omega))) hle;unfold KeyOrd.kle at this;unfold ltK;rw[this];rfl
 .dsimp only;have f:∀d,d=c->∀v,b.toList[nb-1]?=some v->∀x∈a.toList.take d,leK kf x v:=λd e v B=>by
   rw[e2]at B;cases B;subst e;by_cases L:d=0
   .rw[L,eH];exact λ_ z=>nomatch z
   obtain⟨n,rfl⟩:∃n,d=n+1:=⟨d-1,by omega⟩;have p:a.toList[n]?=some (a.getD n (Value.none,Value.none)):=by rw[ax];exact gdK a (by omega)
   refine T7 T.sa p ?_;have:=N n (by omega);rw[cP]at this;unfold leK KeyOrd.kle;unfold ltK at this;simpa using this
  split
  .obtain⟨j,r⟩:∃j,na=c+j:=⟨na-c,by omega⟩;have k:MH kf a.toList b.toList ((a.toList.take (c+j)).drop c++out.toList.reverse) c nb:=by
    rw[r]at m;refine MH.bulkA T.sa j m (by rw[ay];omega) λi z M R C=>?_;have:=P i M (by omega);rw[cP]at this;rw[ax,gdK a (by omega)]at C;cases C;have u:O.klt (kf y) (kf (a.getD i (Value.none,Value.none))):=by
     unfold KeyOrd.klt;unfold ltK at this;simpa using this
    have:=T7 T.sb e2 (bW u);rwa[show nb-1+1=nb by omega]at this
   rw[<-r,<-a9a]at k;split
   .rename_i o;exact aM ⟨g,.inl ⟨_,rfl,a0i T k (eq_of_beq o)⟩⟩
   .rename_i o;have o:¬c=0:=λz=>o (bp.mpr z);exact a7S T F l t g ⟨k,by omega,h2,by omega,G⟩ (f _ rfl) (by omega)
  .exact a7S T F l t g ⟨m,h1,h2,J,G⟩ (f _ (by omega)) q
def P3(kf:Keyed->O.α)(st:SortSt)(a b:Array Keyed)(c0:Nat)(c:U1)(st':SortSt):Prop:=Good st st'/\((∃r,c.1=some r/\D0 kf a b r)∨(c.1=none/\MJ kf a b c.2.2.2.1 c.2.1 c.2.2.1/\c.2.1+c.2.2.1+c0<=a.size+b.size))
def Y3(kf:Keyed->O.α)(st:SortSt)(a b:Array Keyed)(c0:Nat)(c:U1)(st':SortSt):Prop:=Good st st'/\c.1=none/\MJ kf a b c.2.2.2.1 c.2.1 c.2.2.1/\c.2.1+c.2.2.1+c0<=a.size+b.size
def R3(kf:Keyed->O.α)(st:SortSt)(a b:Array Keyed)(c0:Nat)(r:ForInStep U1)(st':SortSt):Prop:=match r with | .done c'=>P3 kf st a b c0 c' st' | .yield c'=>Y3 kf st a b c0 c' st'
theorem b3q(T:Two D kf a b)(F:a4r kf a b)(k:Cmp prog w A s κ D (ltK kf))(r:kindOf st=κ)(g:Good st st')(h:MJ kf a b out na nb)(q:na+nb+c0<=a.size+b.size):wpS (model prog w) A E s (hiA a b na nb out ac bc mg) (R3 kf st a b (c0+1)) st':=by
 unfold hiA;obtain⟨f,h1,h2,o,p⟩:=h;refine aB (B2 (by omega) λy e1 e2=>?_);refine aB (B2 (by omega) λx f1 f2=>?_);refine aB (a0D k (g.1.trans r) (T.db _ _ e1) (T.da _ _ f1) ?_);dsimp only;obtain⟨n,rfl⟩:∃n,na=n+1:=⟨na-1,by omega⟩;obtain⟨m,rfl⟩:∃m,nb=m+1:=⟨nb-1,by omega⟩;rw[fc]at e1 e2 f1 f2⊢;rw[fc];cases l:ltK kf y x with
 |true =>
  rw[az rfl];refine aB (B2 (by omega) λt j c=>?_);rw[f2]at c;cases c;have d:=f.stepA T.sa f2 (T7 T.sb e2 (bW l));rw[<-a0N]at d;split
  .rename_i e;exact aM ⟨g,.inl ⟨_,rfl,a0i T d (eq_of_beq e)⟩⟩
  .rename_i e;have e:¬n=0:=λz=>e (bp.mpr z);have i:MJ kf a b (out.push x) n (m+1):=⟨d,by omega,h2,by omega,p⟩;split
   .exact aM ⟨g,.inr ⟨rfl,i,by show n+(m+1)+(c0+1)<=_;omega⟩⟩
   .exact aM ⟨g,rfl,i,by show n+(m+1)+(c0+1)<=_;omega⟩
 |false =>
  rw[ar (by simp)];refine aB (B2 (by omega) λu j c=>?_);rw[e2]at c;cases c;have d:=f.stepB T.sb e2 (T7 T.sa f2 l);rw[<-a0N]at d;split
  .rename_i e;exact aM ⟨g,.inl ⟨_,rfl,U8 T F d (eq_of_beq e) (by omega)⟩⟩
  .rename_i e;have e:¬m=1:=λz=>e (bp.mpr z);have i:MJ kf a b (out.push y) (n+1) m:=⟨d,h1,by omega,o,by omega⟩;split
   .exact aM ⟨g,.inr ⟨rfl,i,by show n+1+m+(c0+1)<=_;omega⟩⟩
   .exact aM ⟨g,rfl,i,by show n+1+m+(c0+1)<=_;omega⟩
theorem a5o(T:Two D kf a b)(F:a4r kf a b)(i:Cmp prog w A s κ D (ltK kf))(o:kindOf st=κ)(N:0<a.size)(B:0<b.size){Q:Array Keyed->SortSt->Prop}
  (q:∀r st',D0 kf a b r->Good st st'->Q r st'):wpS (model prog w) A E s (a2N a b) Q st:=by
 rw[a6c];refine aB (Q9 ?_);refine aB (B2 (by omega) λy e1 e2=>?_);have j:MH kf a.toList b.toList (#[y]:Array Keyed).toList.reverse (a.size-1) b.size:=by
  have z:MH kf a.toList b.toList [] (a.size-1+1) b.size:=by
   refine⟨?_,.nil,(λ_ _ _ h=>nomatch h),λ_ _ _ h=>nomatch h⟩;rw[cC (by rw[ay];omega),cC (by rw[ay];omega)];exact .nil
  exact z.stepA T.sa e2 (λx p=>bW (T.last x (bU p) y e1))
 have m:Good st st:=⟨rfl,rfl,rfl,rfl⟩;split
 .rename_i e;exact aM (q _ _ (a0i T j (eq_of_beq e)) m)
 .rename_i e;have e:¬a.size-1=0:=λz=>e (bp.mpr z);split
  .rename_i l;exact aM (q _ _ (U8 T F j (eq_of_beq l) B) m)
  .rename_i l;have l:¬b.size=1:=λz=>l (bp.mpr z);refine aB (fm ?_);refine aB (cF (cu (I:=λx c st'=>Good st st'/\c.1=none/\MJ kf a b c.2.2.2.1 c.2.1 c.2.2.1/\c.2.1+c.2.2.1+(x+1)<=a.size+b.size)
    (Q:=λc st'=>Good st st'/\∃r,c.1=some r/\D0 kf a b r) ?step ?fin ⟨m,rfl,⟨j,by show 1<=a.size-1;omega,by show 2<=b.size;omega,by show a.size-1<=a.size;omega,ao _⟩,by show a.size-1+b.size+(0+1)<=_;omega⟩) ?post)
   case post =>
    rintro c st' ⟨g,r,e1,e2⟩;obtain⟨K,L⟩:=c;dsimp only at e1;subst e1;exact aM (q _ _ e2 g)
   case fin =>
    rintro c st' ⟨g,e1,⟨_,h1,h2,_⟩,M⟩;exfalso;omega
   case step =>
    rintro x c H _ p ⟨g,e1,n,C⟩;refine aB (cF (cu (I:=λz d st'=>Y3 kf st a b (x+1+min z 1) d st') (Q:=λd st'=>P3 kf st a b (x+2) d st') ?s1 ?f1 ⟨g,rfl,n,by show c.2.1+c.2.2.1+(x+1+min 0 1)<=_;omega⟩) ?p1)
    case f1 =>
     rintro d st' ⟨g,e1,h1,h2⟩;exact⟨g,.inr ⟨e1,h1,by omega⟩⟩
    case s1 =>
     rintro z d st' _ G ⟨g,e1,h1,h2⟩;refine cF (b3q T F i o g h1 (c0:=x+1) (by omega)) λr k f=>?_;cases r with
     |done c'=>exact f
     | «yield» c'=>exact⟨f.1,f.2.1,f.2.2.1,by have:=f.2.2.2;omega⟩
    case p1 =>
     rintro d st' ⟨g,hd⟩;obtain⟨t,u⟩:=d;rcases hd with⟨r,e1,e2⟩|⟨e1,h1,h2⟩
     .dsimp only at e1;subst e1;exact aM ⟨g,r,rfl,e2⟩
     .dsimp only at e1;subst e1;refine aB (Q9 ?_);refine aB (cF (cu (I:=λz d st'=>Y4 kf st a b (x+2) d st') (Q:=λd st'=>P4 kf st a b (x+2) d st') ?s2 ?f2 ⟨g,rfl,h1,h2⟩) ?p2)
      case f2 =>
       rintro d st' ⟨g,e1,h1,h2⟩;exact⟨g,.inr ⟨e1,h1,h2⟩⟩
      case s2 =>
       rintro z d st' _ G ⟨g,e1,h1,h2⟩;split
       .refine cF (a7T T F i o g h1 h2) λr k f=>?_;cases r<;>exact f
       .refine cF (a7T T F i o g h1 h2) λr k f=>?_;cases r<;>exact f
      case p2 =>
       rintro d st' ⟨g,hd⟩;obtain⟨t,u⟩:=d;rcases hd with⟨r,e1,e2⟩|⟨e1,h1,h2⟩
       .dsimp only at e1;subst e1;exact aM ⟨g,r,rfl,e2⟩
       .dsimp only at e1;subst e1;refine aB (S9 λJ v=>?_);exact aM ⟨g.trans v,rfl,h1,h2⟩
end
noncomputable def a6S(arr merged:Array Keyed)(sa:Nat):Array Keyed:=merged.toList.zipIdx.foldl (λa (p,j)=>a.setIfInBounds (sa+j) p) arr
noncomputable def mgC(sa:Nat)(merged:Array Keyed):StateT SortSt Sem Bool :=
 (modify λs=>SortSt.mk' (kindOf s) (a6S (arrOf s) merged sa) (pendingOf s) (gallopOf s) (failedOf s))>>=λ_=>get>>=λs=>pure (failedOf s).isNone
noncomputable def mgB(s:SortSt)(sa na sb nb:Nat):StateT SortSt Sem Bool :=
 elem' (arrOf s) (sa+na-1)>>=λx=>Q5 true x (arrOf s) sb nb (nb-1)>>=λr=>match r with
 |some n=>(if (n==0)=true then pure true
  else if na<=n then a2M ((arrOf s).extract sa sb) ((arrOf s).extract sb (sb+n))>>=mgC sa
  else a2N ((arrOf s).extract sa sb) ((arrOf s).extract sb (sb+n))>>=mgC sa)
 |_=>pure false
noncomputable def mgA(s:SortSt)(sa na sb nb:Nat):StateT SortSt Sem Bool :=
 elem' (arrOf s) sb>>=λy=>Q5 false y (arrOf s) sa na 0>>=λr=>match r with
 |some k=>(if (na-k==0)=true then pure true else mgB s (sa+k) (na-k) sb nb)
 |_=>pure false
theorem a6d(i:Nat):mergeAt' i=(get>>=λs=>match ((pendingOf s)[i]?,(pendingOf s)[i+1]?)with
 |(some (sa,na,pw),some (sb,nb,_))=>set (SortSt.mk' (kindOf s) (arrOf s) (((pendingOf s).setIfInBounds i (sa,na+nb,pw)).eraseIdxIfInBounds (i+1)) (gallopOf s) (failedOf s))>>=λ_=>mgA s sa na sb nb
 |_=>liftM (unsupported "internal:list.sort.pending" : Sem Bool)):=by
 show(_>>=_)=(_>>=_);refine aN _ (funext λs=>?_);dsimp only;rcases(pendingOf s)[i]? with _|⟨sa,na,pw⟩
 .rfl
 rcases(pendingOf s)[i+1]? with _|⟨sb,nb,pw2⟩
 .rfl
 dsimp only;refine aN _ (funext λ_=>?_);unfold mgA;refine aN _ (funext λy=>?_);refine aN _ (funext λr=>?_);rcases r with _|k
 .rfl
 dsimp only;refine dM rfl (λ_=>rfl) λ_=>?_;unfold mgB;refine aN _ (funext λx=>?_);refine aN _ (funext λr=>?_);rcases r with _|n
 .rfl
 rfl
theorem a4c:∀(l:List Keyed) (arr:Array Keyed) (b j:Nat),b+j+l.length<=arr.size ->
  ((l.zipIdx j).foldl (λa (p:Keyed×Nat)=>a.setIfInBounds (b+p.2) p.1) arr).toList=arr.toList.take (b+j)++l++arr.toList.drop (b+j+l.length)
 |[],arr,b,j,h=>by simp
 |x::l,arr,b,j,h=>by
  rw[a']at h;rw[List.zipIdx_cons,dE,a4c l _ b (j+1) (by rw[fe];omega)];rw[Array.toList_setIfInBounds];have c:b+j<arr.toList.length:=by rw[ay];omega
  rw[a',show b+(j+1)=b+j+1 by omega];rw[List.take_set,List.drop_set_of_lt (by omega)];rw[List.take_succ_eq_append_getElem c,List.set_append_right _ _ (by rw[aP];omega)];rw[aP,show b+j-min (b+j) arr.toList.length=0 by omega];simp[aC];congr 1;omega
theorem a5J(arr a:Array Keyed)(b:Nat)(h:b+a.size<=arr.size):(a6S arr a b).toList=arr.toList.take b++a.toList++arr.toList.drop (b+a.size):=by
 have:=a4c a.toList arr b 0 (by rw[ay];omega);rw[Nat.add_zero,ay]at this;exact this
theorem b3o{M:Model}{A:Around}{E:Value->Shared->Prop}{s:Shared}{σ:Type}{st a:σ}{Q:PUnit->σ->Prop}(h:Q ⟨⟩ a):wpS M A E s (set a:StateT σ Sem PUnit) Q st:=by
 unfold wpS;rw[StateT.run_set];exact ai ⟨rfl,h⟩
section
variable {prog:Program}{w:World}{A:Around}{E:Value->Shared->Prop}{s:Shared}{κ:SortKind}{D:Keyed->Prop}{O:KeyOrd}{kf:Keyed->O.α}{st:SortSt}
structure Runs2(kf:Keyed->O.α)(D:Keyed->Prop)(arr:Array Keyed)(P LA LB R:List Keyed):Prop where
 eq:arr.toList=P++LA++LB++R
 d:∀x∈arr.toList,D x
 sa:LA.Pairwise (leK kf)
 sb:LB.Pairwise (leK kf)
 na:0<LA.length
 nb:0<LB.length
variable {arr:Array Keyed}{P LA LB R:List Keyed}
theorem Runs2.atA(h:Runs2 kf D arr P LA LB R){i:Nat}(hi:i<LA.length):arr[P.length+i]?=LA[i]?:=by
 rw[<-ax,h.eq,aC,aC,aW (by omega),bq (by omega)];congr 1;omega
theorem Runs2.atB(h:Runs2 kf D arr P LA LB R){i:Nat}(hi:i<LB.length):arr[P.length+LA.length+i]?=LB[i]?:=by
 rw[<-ax,h.eq,aC,aW (by rw[ak];omega),bq (by rw[ak];omega)];congr 1;rw[ak];omega
theorem Runs2.dA(h:Runs2 kf D arr P LA LB R):∀x∈LA,D x:=λx a=>h.d x (by rw[h.eq];simp[a])
theorem Runs2.dB(h:Runs2 kf D arr P LA LB R):∀x∈LB,D x:=λx a=>h.d x (by rw[h.eq];simp[a])
theorem Runs2.size(h:Runs2 kf D arr P LA LB R):arr.size=P.length+LA.length+LB.length+R.length:=by
 rw[<-ay,h.eq];simp[dY]
theorem Runs2.extA(h:Runs2 kf D arr P LA LB R)(k:Nat):(arr.extract (P.length+k) (P.length+LA.length)).toList=LA.drop k:=by
 rw[a1r,h.eq,aC (P++LA),dm (by simp)];rw[bP (by simp),List.drop_append,cC (by omega),cq];congr 1;omega
theorem Runs2.extB(h:Runs2 kf D arr P LA LB R){k:Nat}(a:k<=LB.length):(arr.extract (P.length+LA.length) (P.length+LA.length+k)).toList=LB.take k:=by
 rw[a3l,h.eq,aC,dk (by simp),cC (by simp),cq,dm a]
theorem a5p{i pw a8:Nat}{Q:Bool->SortSt->Prop}(C:Cmp prog w A s κ D (ltK kf))(hk:kindOf st=κ)(h:Runs2 kf D (arrOf st) P LA LB R)(hp:(pendingOf st)[i]?=some (P.length,LA.length,pw))(a6:(pendingOf st)[i+1]?=some (P.length+LA.length,LB.length,a8))(hf:failedOf st=none)
  (q:∀(st':SortSt) (M:List Keyed),kindOf st'=κ->failedOf st'=none->pendingOf st'=((pendingOf st).setIfInBounds i (P.length,LA.length+LB.length,pw)).eraseIdxIfInBounds (i+1)->a1v kf LA LB M->(arrOf st').toList=P++M++R->Q true st'):wpS (model prog w) A E s (mergeAt' i) Q st:=by
 rw[a6d];refine aB (fm ?_);rw[hp,a6];dsimp only;refine aB (b3o ?_);unfold mgA;have l:=heq_of_eq h.size;have Z:=h.na;have O:=h.nb;generalize d:SortSt.mk' (kindOf st) (arrOf st) (((pendingOf st).setIfInBounds i (P.length,LA.length+LB.length,pw)).eraseIdxIfInBounds (i+1)) (gallopOf st) (failedOf st)=c;have k2:kindOf c=κ:=by rw[<-d];exact hk
 have a2:arrOf c=arrOf st:=by rw[<-d]
 have p2:pendingOf c=((pendingOf st).setIfInBounds i (P.length,LA.length+LB.length,pw)).eraseIdxIfInBounds (i+1):=by rw[<-d]
 have f2:failedOf c=none:=by rw[<-d];exact hf
 have t:LA++LB=LA++LB->(∀x∈LA,∀y∈LB,leK kf x y)->Q true c:=λ_ a5=>by
  refine q c (LA++LB) k2 f2 p2 ⟨.refl _,bF.mpr ⟨h.sa,h.sb,a5⟩⟩ ?_;rw[a2,h.eq];simp[aC]
 refine aB (B2 (by have:=cQ l;omega) λy e1 _=>?_);have ey:LB[0]?=some y:=by rw[<-h.atB O];exact e1
 have a1:∀z∈LB,leK kf y z:=U5 h.sb ey (cB _);have V:∀i,i<LA.length->(arrOf st)[P.length+i]?=some (LA.getD i (Value.none,Value.none))/\LA[i]?=some (LA.getD i (Value.none,Value.none)):=λi hi=>by
  have:LA[i]?=some (LA.getD i (Value.none,Value.none)):=by rw[aq,aj hi];rfl
  exact⟨by rw[h.atA hi];exact this,this⟩
 have W:∀i,i<LB.length->(arrOf st)[P.length+LA.length+i]?=some (LB.getD i (Value.none,Value.none))/\LB[i]?=some (LB.getD i (Value.none,Value.none)):=λi hi=>by
  have:LB[i]?=some (LB.getD i (Value.none,Value.none)):=by rw[aq,aj hi];rfl
  exact⟨by rw[h.atB hi];exact this,this⟩
 have p:∀{u v:Keyed},(!(ltK kf u v))=true->leK kf v u:=λ{u v} z=>by
  unfold leK KeyOrd.kle;unfold ltK at z;simpa using z
 refine aB (K1 C k2 (h.dB _ (aI ey)) (λi=>!(ltK kf y (LA.getD i (Value.none,Value.none)))) (λi hi=>⟨_,(V i hi).1,h.dA _ (aI (V i hi).2),rfl⟩) (λi j L b hb=>?_) Z λk q1 q2 q3=>?_)
 .have:=bT (a0a h.sa L (V i (by omega)).2 (V j b).2) (p hb);unfold KeyOrd.kle at this;unfold ltK;rw[this];rfl
 .dsimp only;have Y:∀x∈LA.take k,leK kf x y:=λx hx=>by
   obtain⟨j,b,e⟩:=cn.mp hx;rw[aP]at b;have m:=aO b (Nat.min_le_right _ _);have:=p (q2 j (aO b (Nat.min_le_left _ _)));have e2:=(V j m).2;rw[fz]at e;rw[aj m,e]at e2;injection e2 with e2
   rw[e2];exact this
  split
  .rename_i e;have e:=eq_of_beq e;refine aM (t rfl λx hx z f=>bT (Y x ?_) (a1 z f));rw[bP (by omega)];exact hx
  .rename_i e;replace e:k<LA.length:=Nat.lt_of_sub_ne_zero λz=>e (bp.mpr z);clear q1;have a3:∀x∈LA.drop k,ltK kf y x=true:=λx hx=>by
    obtain⟨j,b,e⟩:=cn.mp hx;rw[bE]at b;rw[fA]at e;clear l O;have N:k+j<LA.length:=by omega
    have:=q3 (k+j) (cm _ _) N;have e2:=(V (k+j) N).2;rw[aj N,e]at e2;injection e2 with e2
    rw[e2];simpa using this
   unfold mgB;refine aB (B2 (by have:=cQ l;omega) λx f1 _=>?_);rw[show P.length+k+(LA.length-k)-1=P.length+(LA.length-1) by omega]at f1;have ex:LA[LA.length-1]?=some x:=by rw[<-h.atA (by omega)];exact f1
   have U:∀z∈LA,leK kf z x:=λz f=>by
    have:=T7 h.sa ex (cB _) z;rw[show LA.length-1+1=LA.length by omega,bx]at this;exact this f
   refine aB (K1 C k2 (h.dA _ (aI ex)) (λi=>ltK kf (LB.getD i (Value.none,Value.none)) x) (λi hi=>⟨_,(W i hi).1,h.dB _ (aI (W i hi).2),rfl⟩) (λi j L b hb=>?_) (by omega) λn r1 r2 r3=>?_)
   .exact e_ (a0a h.sb L (W i (by omega)).2 (W j b).2) hb
   .dsimp only;have K:∀z∈LB.drop n,leK kf x z:=λz f=>by
     obtain⟨j,b,e⟩:=cn.mp f;rw[bE]at b;rw[fA]at e;have S:n+j<LB.length:=by clear l Z O;omega
     have:=r3 (n+j) (cm _ _) S;have e2:=(W (n+j) S).2;rw[aj S,e]at e2;injection e2 with e2
     rw[e2];exact this
    have a4:∀z∈LB.take n,ltK kf z x=true:=λz f=>by
     obtain⟨j,b,e⟩:=cn.mp f;rw[aP]at b;rw[fz]at e;have m:=aO b (Nat.min_le_right _ _);have:=r2 j (aO b (Nat.min_le_left _ _));have e2:=(W j m).2;rw[aj m,e]at e2;injection e2 with e2
     rw[e2];exact this
    split
    .rename_i e;have e:=eq_of_beq e;refine aM (t rfl λu o z f=>bT (U u o) (K z ?_));rw[e,cJ];exact f
    .rename_i X;replace X:0<n:=Nat.pos_of_ne_zero λz=>X (bp.mpr z);have I:=h.extA k;have J:=h.extB r1;generalize b0:(arrOf st).extract (P.length+k) (P.length+LA.length)=Xa at I;generalize b1:(arrOf st).extract (P.length+LA.length) (P.length+LA.length+n)=Ya at J;have sX:=heq_of_eq (show Xa.size=LA.length-k by rw[<-ay,I,bE]);have sY:=heq_of_eq (show Ya.size=n by rw[<-ay,J,aP,cA r1]);have T:Two D kf Xa Ya:=by
      refine⟨λi z B=>?_,λi z B=>?_,by rw[I];exact h.sa.drop,by rw[J];exact h.sb.take,λz f u eu=>?_⟩
      .refine h.dA z (cS (i:=k) ?_);rw[<-I];rw[<-ax]at B;exact aI B
      .refine h.dB z (bU (i:=n) ?_);rw[<-J];rw[<-ax]at B;exact aI B
      .rw[J]at f;rw[<-ax,I,eh,cQ sX,show k+(LA.length-k-1)=LA.length-1 by omega,ex]at eu;cases eu;exact a4 z f
     have F:a4r kf Xa Ya:=λz B u o=>by
      rw[J,cZ X,ey]at B;cases B;rw[I]at o;exact a3 u o
     have fin:∀(r:Array Keyed) (a:SortSt),D0 kf Xa Ya r->Good c a->wpS (model prog w) A E s (mgC (P.length+k) r) Q a:=λr a hr g=>by
      unfold mgC;obtain⟨G,a7⟩:=hr;rw[I,J]at G;have a0:=heq_of_eq (show r.size=LA.length-k+n by
       have:=G.length_eq;rw[ak,bE,aP,ay,cA r1]at this;exact this)
      refine aB (wpS_modify (aB (fm (aM ?_))));show Q (failedOf a).isNone _;rw[g.2.2.2,f2];have H:∀z∈r.toList,z∈LA.drop k∨z∈LB.take n:=λz f=>aA.mp (G.mem_iff.mp f);refine q _ (LA.take k++r.toList++LB.drop n) (g.1.trans k2) rfl (g.2.2.1.trans p2) ⟨?_,?_⟩ ?_
      .refine((bX _ G).append_right _).trans ?_;rw[<-aC (LA.take k),br,aC,br]
      .have sAk:∀u∈LA.take k,∀v∈LA.drop k,leK kf u v:=by
        have:=h.sa;rw[<-br k LA,bF]at this;exact this.2.2
       have a9:∀u∈LB.take n,∀v∈LB.drop n,leK kf u v:=by
        have:=h.sb;rw[<-br n LB,bF]at this;exact this.2.2
       rw[bF,bF];refine⟨⟨h.sa.take,a7,λu o v hv=>?_⟩,h.sb.drop,λu o v hv=>?_⟩
       .rcases H v hv with z|z
        .exact sAk u o v z
        .exact bT (Y u o) (a1 v (bU z))
       .rcases aA.mp o with z|z
        .exact bT (U u (bU z)) (K v hv)
        .rcases H u z with z|z
         .exact bT (U u (cS z)) (K v hv)
         .exact a9 u z v hv
      .show(a6S (arrOf a) r (P.length+k)).toList=_;rw[g.2.1,a2,a5J _ _ _ (by rw[cQ a0,cQ l];clear l;omega),h.eq,cQ a0];have e1:(P++LA++LB++R).take (P.length+k)=P++LA.take k:=by
        rw[aC,aC,List.take_append,bP (by omega),show P.length+k-P.length=k by omega,dm (by omega)]
       have e2:(P++LA++LB++R).drop (P.length+k+(LA.length-k+n))=LB.drop n++R:=by
        rw[aC (P++LA),List.drop_append,cC (by rw[ak];omega),cq,ak,show P.length+k+(LA.length-k+n)-(P.length+LA.length)=n by omega,dk r1]
       rw[e1,e2];simp[aC]
     split
     .exact aB (a5n T C k2 (by rw[cQ sX];omega) (by rw[cQ sY];exact X) (λz B u o=>bW (F z B u o)) λr a hr g=>fin r a hr g)
     .exact aB (a5o T F C k2 (by rw[cQ sX];omega) (by rw[cQ sY];exact X) λr a hr g=>fin r a hr g)
end
section
variable {prog:Program}{w:World}{A:Around}{E:Value->Shared->Prop}{s:Shared}{κ:SortKind}{D:Keyed->Prop}{O:KeyOrd}{kf:Keyed->O.α}{st:SortSt}
noncomputable def kx(kf:Keyed->O.α)(arr:Array Keyed)(i:Nat):O.α:=kf (arr.getD i (Value.none,Value.none))
def SoO(kf:Keyed->O.α)(arr:Array Keyed)(lo m:Nat):Prop:=∀i j,i<=j->j<m->O.kle (kx kf arr (lo+i)) (kx kf arr (lo+j))
def NiO(kf:Keyed->O.α)(arr:Array Keyed)(lo m:Nat):Prop:=∀i j,i<=j->j<m->O.kle (kx kf arr (lo+j)) (kx kf arr (lo+i))
def Kept(lo:Nat)(st st':SortSt):Prop:=kindOf st'=kindOf st/\pendingOf st'=pendingOf st/\failedOf st'=failedOf st/\(arrOf st').Perm (arrOf st)/\∀i,i<lo->(arrOf st')[i]?=(arrOf st)[i]?
theorem Kept.refl{lo:Nat}:Kept lo st st:=⟨rfl,rfl,rfl,.refl _,λ_ _=>rfl⟩
theorem Kept.trans{lo:Nat}{st' a:SortSt}(h:Kept lo st st')(h2:Kept lo st' a):Kept lo st a:=⟨h2.1.trans h.1,h2.2.1.trans h.2.1,h2.2.2.1.trans h.2.2.1,h2.2.2.2.1.trans h.2.2.2.1,λi hi=>(h2.2.2.2.2 i hi).trans (h.2.2.2.2 i hi)⟩
def AllD(D:Keyed->Prop)(arr:Array Keyed):Prop:=∀x∈arr.toList,D x
theorem AllD.perm{a b:Array Keyed}(h:AllD D a)(p:b.Perm a):AllD D b:=λx c=>h x ((dH.mp p).mem_iff.mp c)
theorem X0{a b:Array Keyed}{i j:Nat}(h:a[i]?=b[j]?):kx kf a i=kx kf b j:=by
 unfold kx;rw[bO,bO,h]
theorem R0{i j:Nat}{Q:Option Bool->SortSt->Prop}(a:Cmp prog w A s κ D (ltK kf))(d:kindOf st=κ)(b:AllD D (arrOf st))(hi:i<(arrOf st).size)(c:j<(arrOf st).size)(h:Q (some (O.blt (kx kf (arrOf st) i) (kx kf (arrOf st) j))) st):wpS (model prog w) A E s (ltAt' i j) Q st:=by
 rw[ltAt'_eq];refine aB (fm ?_);refine aB (B2 hi λx e1 f1=>aB (B2 c λy e2 f2=>?_));rw[gdK _ hi]at e1;rw[gdK _ c]at e2;cases e1;cases e2;exact a0D a d (b _ (aI f1)) (b _ (aI f2)) h
theorem b0E{src a:Nat}{Q:Unit->SortSt->Prop}(h:Q () (setArr st (bubble (arrOf st) src (src-a)))):wpS (model prog w) A E s (moveDown' src a) Q st:=by
 rw[moveDown'_eq];exact wpS_modify h
theorem a1h{arr:Array Keyed}{src a:Nat}(hs:src<arr.size)(hd:a<=src)(i:Nat):kx kf (bubble arr src (src-a)) i=if i=a then kx kf arr src else if a<i/\i<=src then kx kf arr (i-1)else kx kf arr i:=by
 have e:=getElem?_bubble hs (src-a) (by omega) i;rw[show src-(src-a)=a by omega]at e;split
 .rename_i c;rw[az c]at e;exact X0 e
 .rename_i c;rw[ar c]at e;split
  .rename_i c2;rw[az c2]at e;exact X0 e
  .rename_i c2;rw[ar c2]at e;exact X0 e
theorem a2F{l j k:Nat}(h:l<j)(h2:j<=k):j-1<k:=by omega
section
variable {arr:Array Keyed}{lo k l i:Nat}(hs:lo+k<arr.size) (hd:l<=k)
include hs hd
theorem b3c(h:i<l):kx kf (bubble arr (lo+k) (lo+k-(lo+l))) (lo+i)=kx kf arr (lo+i):=by
 rw[a1h hs (by omega),ar (by omega),ar (by omega)]
theorem a7K:kx kf (bubble arr (lo+k) (lo+k-(lo+l))) (lo+l)=kx kf arr (lo+k):=by
 rw[a1h hs (by omega),az rfl]
theorem a5i(h:l<i)(h2:i<=k):kx kf (bubble arr (lo+k) (lo+k-(lo+l))) (lo+i)=kx kf arr (lo+(i-1)):=by
 rw[a1h hs (by omega),ar (by omega),az (by omega),Nat.add_sub_assoc (by omega)]
end
theorem b0F{lo n ok:Nat}{Q:Bool->SortSt->Prop}(C:Cmp prog w A s κ D (ltK kf))(L:kindOf st=κ)(J:AllD D (arrOf st))(N:lo+n<=(arrOf st).size)(H:ok<=n)(hs:SoO kf (arrOf st) lo ok)
  (h:∀st',Kept lo st st'->SoO kf (arrOf st') lo n->Q true st'):wpS (model prog w) A E s (binarySort' lo n ok) Q st:=by
 rw[binarySort'_eq];refine aB (cF (cu (I:=λk c st'=>c=(none,())/\Kept lo st st'/\SoO kf (arrOf st') lo (min k n))
  (Q:=λc st'=>c=(none,())/\Kept lo st st'/\SoO kf (arrOf st') lo n) ?step ?fin ?init) ?post)
 case post =>
  rintro c st' ⟨rfl,f,e⟩;exact aM (h st' f e)
 case init =>
  refine⟨rfl,Kept.refl,λi j g q=>?_⟩;by_cases h1:ok=0
  .have:i=j:=by omega
   subst this;exact cB _
  .exact hs i j g (by omega)
 case fin =>
  rintro c st' ⟨K,f,e⟩;refine⟨K,f,?_⟩;rwa[show min (max (max ok 1) n) n=n by omega]at e
 case step =>
  rintro k c st' B F ⟨rfl,f,e⟩;rw[show min k n=k by omega]at e;have t:lo+k<(arrOf st').size:=by have:=f.2.2.2.1.size_eq;omega
  have z:=J.perm f.2.2.2.1;have u:min (k+1) n=k+1:=by omega
  clear N H B F;refine aB (cF (cu (I:=λx c a=>a=st'/\∃l r,c=(none,l,r)/\l<=r/\r<=k/\r-l<=k-x /\
    (∀i,i<l->O.kle (kx kf (arrOf st') (lo+i)) (kx kf (arrOf st') (lo+k)))/\(∀i,r<=i->i<k->O.kle (kx kf (arrOf st') (lo+k)) (kx kf (arrOf st') (lo+i))))
   (Q:=λc a=>a=st'/\∃l r,c=(none,l,r)/\l<=k /\
    (∀i,i<l->O.kle (kx kf (arrOf st') (lo+i)) (kx kf (arrOf st') (lo+k)))/\(∀i,l<=i->i<k->O.kle (kx kf (arrOf st') (lo+k)) (kx kf (arrOf st') (lo+i)))) ?istep ?ifin ?iinit) ?ipost)
  case iinit=>exact⟨rfl,0,k,rfl,by omega,by omega,by omega,λi hi=>by omega,λi h1 h2=>by omega⟩
  case ifin =>
   rintro c a ⟨rfl,l,r,rfl,G,v,M,o,m⟩;have:l=r:=by omega
   subst this;exact⟨rfl,l,l,rfl,v,o,m⟩
  case istep =>
   rintro x c a _ P ⟨rfl,l,r,rfl,G,v,M,o,m⟩;dsimp only;by_cases y:l ≥ r
   .rw[az y];have:l=r:=by omega
    subst this;exact aM ⟨rfl,l,l,rfl,v,o,m⟩
   .rw[ar y];refine aB (R0 C (f.1.trans L) z (by omega) (by omega) ?_);dsimp only;cases p:O.blt (kx kf (arrOf a) (lo+k)) (kx kf (arrOf a) (lo+(l+r) / 2))with
    |true =>
     rw[az rfl];refine aM ⟨rfl,l,(l+r) / 2,rfl,by omega,by omega,by omega,o,λi h1 h2=>?_⟩;exact bT (bW p) (e _ _ h1 h2)
    |false =>
     rw[ar (by simp)];refine aM ⟨rfl,(l+r) / 2+1,r,rfl,by omega,by omega,by omega,λi h1=>?_,m⟩;exact bT (e i ((l+r) / 2) (by omega) (by omega)) p
  case ipost =>
   rintro c a ⟨rfl,l,r,rfl,b,o,m⟩;refine aB (b0E (aM ⟨rfl,f.trans ⟨rfl,rfl,rfl,bubble_perm _ _ _,λi hi=>?_⟩,?_⟩))
   .show(bubble (arrOf a) (lo+k) (lo+k-(lo+l)))[i]?=_;rw[getElem?_bubble t _ (by omega),ar (by omega),ar (by omega)]
   rw[u];clear u;intro i j g q;replace q:j<=k:=eD q;show O.kle (kx kf (bubble (arrOf a) (lo+k) (lo+k-(lo+l))) (lo+i)) (kx kf (bubble (arrOf a) (lo+k) (lo+k-(lo+l))) (lo+j));rcases di i l with c|rfl|c
   .rw[b3c t b c];rcases di j l with d|rfl|d
    .rw[b3c t b d];exact e i j g (aO d b)
    .rw[a7K t b];exact o i c
    .rw[a5i t b d q];exact e i (j-1) (Nat.le_sub_one_of_lt (fT c d)) (a2F d q)
   .rw[a7K t b];rcases Nat.lt_or_eq_of_le g with d|rfl
    .rw[a5i t b d q];exact m (j-1) (Nat.le_sub_one_of_lt d) (a2F d q)
    .rw[a7K t b];exact cB _
   .have d:=aO c g;rw[a5i t b c (bj g q),a5i t b d q];exact e (i-1) (j-1) (Nat.sub_le_sub_right g 1) (a2F d q)
end
noncomputable def b3i(lo a nrem:Nat):StateT SortSt Sem AscSt:=forIn [a:nrem] ((none,a):AscSt) λ_ c=>ltAt' (lo+c.2) (lo+c.2-1)>>=λr=>match r with
 |some sm=>(if sm=true then pure (.done (none,c.2))else pure (.yield (none,c.2+1)))
 |_=>pure (.done (some none,c.2))
noncomputable def a0u(lo n nrem:Nat):StateT SortSt Sem (Option Nat):=reverseSlice' lo (lo+n)>>=λ_=>b3i lo n nrem>>=λc=>match c.1 with
 |some r=>pure r
 |none=>pure (some c.2)
noncomputable def a8Q(lo n nrem:Nat):StateT SortSt Sem DescSt:=forIn [n:nrem] ((none,n,0):DescSt) λ_ c=>ltAt' (lo+c.2.1) (lo+c.2.1-1)>>=λr=>match r with
 |some sm=>(if sm=true then(if c.2.2 > 0 then reverseSlice' (lo+c.2.1-(c.2.2+1)) (lo+c.2.1)>>=λ_=>pure (.yield (none,c.2.1+1,0))else pure (.yield (none,c.2.1+1,0)))
  else ltAt' (lo+c.2.1-1) (lo+c.2.1)>>=λr=>match r with
   |some lg=>(if lg=true then pure (.done (none,c.2.1,c.2.2))else pure (.yield (none,c.2.1+1,c.2.2+1)))
   |_=>pure (.done (some none,c.2.1,c.2.2)))
 |_=>pure (.done (some none,c.2.1,c.2.2))
noncomputable def dpO(lo n nrem:Nat):StateT SortSt Sem (Option Nat):=liftM (rule "list.sort.descending-run")>>=λ_=>a8Q lo (n+1) nrem>>=λc=>match c.1 with
 |some r=>pure r
 |none=>(if c.2.2 > 0 then reverseSlice' (lo+c.2.1-(c.2.2+1)) (lo+c.2.1)>>=λ_=>a0u lo c.2.1 nrem else a0u lo c.2.1 nrem)
theorem b0j(lo a:Nat):countRun' lo a=(b3i lo 1 a>>=λc=>match c.1 with
 |some r=>pure r
 |none=>(if (c.2==a)=true then pure (some c.2)else if c.2 > 1 then ltAt' lo (lo+c.2-1)>>=λr=>match r with
   |some rose=>(if rose=true then pure (some c.2)else reverseSlice' lo (lo+c.2)>>=λ_=>dpO lo c.2 a)
   |_=>pure none
  else dpO lo c.2 a)):=by
 have e:∀(n:Nat),(reverseSlice' lo (lo+n)>>=λ_=>b3i lo n a>>=λc=>match c.1 with|some r=>pure r|none=>pure (some c.2))=a0u lo n a:=λn=>rfl;rw[countRun'_eq];dsimp only;refine congr (aN _ ?_) (funext λc=>?_)
 .rfl
 rcases c with⟨_|q,n⟩
 .dsimp only;have d:∀n:Nat,(liftM (rule "list.sort.descending-run")>>=λ_=>a8Q lo (n+1) a>>=λc=>match c.1 with
    |some r=>pure r
    |none=>(if c.2.2 > 0 then reverseSlice' (lo+c.2.1-(c.2.2+1)) (lo+c.2.1)>>=λ_=>a0u lo c.2.1 a else a0u lo c.2.1 a))=dpO lo n a:=λn=>rfl
  have b:∀{β:Type}{m:StateT SortSt Sem β}{f g:β->StateT SortSt Sem (Option Nat)},(∀c,f c=g c)->(m>>=f)=(m>>=g):=λh=>aN _ (funext h);refine dM rfl (λ_=>rfl) λ_=>dM rfl (λ_=>?_) λ_=>?_
  .refine b λr=>?_;rcases r with _|r
   .rfl
   .dsimp only;refine dM rfl (λ_=>rfl) λ_=>?_;refine b λ_=>?_;rw[<-d];refine b λ_=>?_;refine congr (aN _ ?_) (funext λc=>?_)
    .rfl
    .rcases c with⟨_|q,n,z⟩
     .dsimp only;refine dM rfl (λ_=>?_) λ_=>?_
      .refine b λ_=>?_;refine b λ_=>?_;refine congr (aN _ ?_) (funext λc=>?_)
       .rfl
       .rcases c with⟨_|q,n⟩<;>rfl
      .refine b λ_=>?_;refine congr (aN _ ?_) (funext λc=>?_)
       .rfl
       .rcases c with⟨_|q,n⟩<;>rfl
     .rfl
  .rw[<-d];refine b λ_=>?_;refine congr (aN _ ?_) (funext λc=>?_)
   .rfl
   .rcases c with⟨_|q,n,z⟩
    .dsimp only;refine dM rfl (λ_=>?_) λ_=>?_
     .refine b λ_=>?_;refine b λ_=>?_;refine congr (aN _ ?_) (funext λc=>?_)
      .rfl
      .rcases c with⟨_|q,n⟩<;>rfl
     .refine b λ_=>?_;refine congr (aN _ ?_) (funext λc=>?_)
      .rfl
      .rcases c with⟨_|q,n⟩<;>rfl
    .rfl
 .rfl
section
variable {prog:Program}{w:World}{A:Around}{E:Value->Shared->Prop}{s:Shared}{κ:SortKind}{D:Keyed->Prop}{O:KeyOrd}{kf:Keyed->O.α}{st:SortSt}
theorem a1g{arr:Array Keyed}{i j:Nat}(a:j<=arr.size)(k:Nat):kx kf (mirror arr i j ((j-i) / 2)) k=if i<=k/\k<j then kx kf arr (i+j-1-k)else kx kf arr k:=by
 have e:=getElem?_mirror_all (i:=i) a k;split
 .rename_i c;rw[az c]at e;exact X0 e
 .rename_i c;rw[ar c]at e;exact X0 e
theorem N1{arr:Array Keyed}{i j:Nat}(b:j<=arr.size)(a:∀k,i<=k->k<j->kx kf arr k=kx kf arr (j-1))(k:Nat):kx kf (mirror arr i j ((j-i) / 2)) k=kx kf arr k:=by
 rw[a1g b];split
 .rw[a _ (by omega) (by omega),a k (by omega) (by omega)]
 .rfl
theorem Kept.rev{lo i j:Nat}(hi:lo<=i)(a:j<=(arrOf st).size):Kept lo st (setArr st (mirror (arrOf st) i j ((j-i) / 2))):=⟨rfl,rfl,rfl,mirror_perm _ _ _ _,λk b=>by
 show(mirror (arrOf st) i j ((j-i) / 2))[k]?=_;rw[getElem?_mirror_all a,ar (by omega)]⟩
theorem a5r{lo a b:Nat}{Q:AscSt->SortSt->Prop}(k:Cmp prog w A s κ D (ltK kf))(u:kindOf st=κ)(t:AllD D (arrOf st))(r:lo+b<=(arrOf st).size)(q:1<=a)(f:a<=b)(hs:SoO kf (arrOf st) lo a)
  (h:∀n,a<=n->n<=b->SoO kf (arrOf st) lo n->(n=b∨O.klt (kx kf (arrOf st) (lo+n)) (kx kf (arrOf st) (lo+(n-1))))->Q (none,n) st):wpS (model prog w) A E s (b3i lo a b) Q st:=by
 unfold b3i;refine cu (I:=λx c st'=>st'=st/\c=(none,x)/\SoO kf (arrOf st) lo x) ?step ?fin ⟨rfl,rfl,hs⟩
 case fin =>
  rintro c st' ⟨rfl,rfl,d⟩;rw[Nat.max_eq_right f]at d⊢;exact h b f (ao _) d (.inl rfl)
 case step =>
  rintro x c st' g p ⟨rfl,rfl,d⟩;dsimp only;replace q:1<=x:=bj q g;rw[show lo+x-1=lo+(x-1) by clear r f g p;omega];refine aB (R0 k u t (by omega) (by omega) ?_);clear r f;dsimp only;cases e:O.blt (kx kf (arrOf st') (lo+x)) (kx kf (arrOf st') (lo+(x-1)))with
  |true =>
   rw[az rfl];exact aM (h x g (by omega) d (.inr e))
  |false =>
   rw[ar (by simp)];refine aM ⟨rfl,rfl,λi j m v=>?_⟩;by_cases o:j<x
   .exact d i j m o
   .have hj':j=x:=by omega
    subst hj';by_cases l:i=j
    .subst l;exact cB _
    .exact bT (d i (j-1) (by omega) (by omega)) e
theorem a2n{lo n a:Nat}{Q:Option Nat->SortSt->Prop}(d:Cmp prog w A s κ D (ltK kf))(l:kindOf st=κ)(g:AllD D (arrOf st))(f:lo+a<=(arrOf st).size)(h1:1<=n)(b:n<=a)(hs:NiO kf (arrOf st) lo n)
  (h:∀m st',Kept lo st st'->1<=m->m<=a->SoO kf (arrOf st') lo m->Q (some m) st'):wpS (model prog w) A E s (a0u lo n a) Q st:=by
 unfold a0u;refine aB (wpS_reverse ?_);have c:Kept lo st (setArr st (mirror (arrOf st) lo (lo+n) ((lo+n-lo) / 2))):=Kept.rev (ao _) (by omega);refine aB (a5r d (c.1.trans l) (g.perm c.2.2.2.1) (by rw[c.2.2.2.1.size_eq];exact f) h1 b (λi j k q=>?_) λm q1 o p _=>aM (h m _ c (by omega) o p));show O.kle (kx kf (mirror (arrOf st) lo (lo+n) ((lo+n-lo) / 2)) (lo+i)) (kx kf (mirror (arrOf st) lo (lo+n) ((lo+n-lo) / 2)) (lo+j));have e:lo+n<=(arrOf st).size:=by omega
 rw[a1g e,a1g e];clear f h1 b e;rw[az (by omega),az (by omega),show lo+(lo+n)-1-(lo+i)=lo+(n-1-i) by omega,show lo+(lo+n)-1-(lo+j)=lo+(n-1-j) by omega];exact hs _ _ (by omega) (by omega)
theorem a9d{lo n d:Nat}{Q:DescSt->SortSt->Prop}(H:Cmp prog w A s κ D (ltK kf))(J:kindOf st=κ)(M:AllD D (arrOf st))(L:lo+d<=(arrOf st).size)(h1:1<=n)(u:n<=d)(hs:NiO kf (arrOf st) lo n)
  (h:∀m a st',Kept lo st st'->n<=m->m<=d->NiO kf (arrOf st') lo m->a+1<=m->(∀i,lo+m-(a+1)<=i->i<lo+m->kx kf (arrOf st') i=kx kf (arrOf st') (lo+m-1))->Q (none,m,a) st'):wpS (model prog w) A E s (a8Q lo n d) Q st:=by
 unfold a8Q;refine cu (I:=λx c st'=>∃a,c=(none,x,a)/\Kept lo st st'/\NiO kf (arrOf st') lo x/\a+1<=x /\
   (∀i,lo+x-(a+1)<=i->i<lo+x->kx kf (arrOf st') i=kx kf (arrOf st') (lo+x-1))) ?step ?fin ⟨0,rfl,Kept.refl,hs,by omega,λi h1 h2=>by congr 1;omega⟩
 case fin =>
  rintro c st' ⟨a,rfl,b,g,F,y⟩;rw[Nat.max_eq_right u]at g F y⊢;exact h d a st' b u (ao _) g F y
 case step =>
  rintro x c st' o e ⟨a,rfl,b,g,F,y⟩;dsimp only;have t:lo+x<(arrOf st').size:=by rw[b.2.2.2.1.size_eq];exact aO (Nat.add_lt_add_left e lo) L
  have G:=M.perm b.2.2.2.1;replace e:x<=d:=cH e;have ex:HEq (lo+x-1) (lo+(x-1)):=heq_of_eq (by clear L h1 u o e t;omega);have l:lo+x-1<(arrOf st').size:=ff (Nat.sub_le _ _) t;clear L h1 u;refine aB (R0 H (b.1.trans J) G t l ?_);dsimp only;rw[cQ ex]at y l⊢;cases q:O.blt (kx kf (arrOf st') (lo+x)) (kx kf (arrOf st') (lo+(x-1)))with
  |true =>
   rw[az rfl];have r:∀xs:Array Keyed,(∀k,kx kf xs k=kx kf (arrOf st') k)->NiO kf xs lo (x+1):=by
    intro xs J i j B N;rw[J,J];by_cases C:j<x
    .exact g i j B C
    .have hj':j=x:=by omega
     subst hj';by_cases z:i=j
     .subst z;exact cB _
     .exact bT (bW q) (g i (j-1) (by omega) (by omega))
   by_cases f:a > 0
   .rw[az f];refine aB (wpS_reverse (aM ⟨0,rfl,b.trans (Kept.rev (by clear t l ex o e f;omega) (cH t)),r _ (N1 (cH t) (λk q1 P=>by rw[cQ ex];exact y k q1 P)),fg _,λi h1 h2=>by clear t l ex o e f F;congr 1;omega⟩))
   .rw[ar f];exact aM ⟨0,rfl,b,r _ (λ_=>rfl),fg _,λi h1 h2=>by clear t l ex o e f F;congr 1;omega⟩
  |false =>
   rw[ar (by simp)];refine aB (R0 H (b.1.trans J) G l t ?_);dsimp only;clear t l;cases p:O.blt (kx kf (arrOf st') (lo+(x-1))) (kx kf (arrOf st') (lo+x))with
   |true =>
    rw[az rfl];exact aM (h x a st' b o e g F (by rw[cQ ex];exact y))
   |false =>
    rw[ar (by simp)];have v:kx kf (arrOf st') (lo+x)=kx kf (arrOf st') (lo+(x-1)):=KeyOrd.kle_antisymm p q;clear o e;refine aM ⟨a+1,rfl,b,λi j B N=>?_,by omega,λi h1 h2=>?_⟩
    .by_cases C:j<x
     .exact g i j B C
     .have hj':j=x:=by omega
      subst hj';by_cases z:i=j
      .subst z;exact cB _
      .rw[v];exact g i (j-1) (by omega) (by omega)
    .rw[show lo+(x+1)-1=lo+x by omega];by_cases K:i=lo+x
     .subst K;rfl
     .rw[v];exact y i (by omega) (by omega)
theorem a7U{lo n a:Nat}{Q:Option Nat->SortSt->Prop}(e:Cmp prog w A s κ D (ltK kf))(t:kindOf st=κ)(y:AllD D (arrOf st))(q:lo+a<=(arrOf st).size)(u:n+1<=a)(hs:NiO kf (arrOf st) lo (n+1))
  (h:∀m st',Kept lo st st'->1<=m->m<=a->SoO kf (arrOf st') lo m->Q (some m) st'):wpS (model prog w) A E s (dpO lo n a) Q st:=by
 unfold dpO;refine aB (Q9 ?_);refine aB (a9d e t y q (by omega) u hs λm k st' b C f p F z=>?_);dsimp only;have v:=heq_of_eq (b.2.2.2.1.size_eq:(arrOf st').size=(arrOf st).size);have g:lo+m<=(arrOf st').size:=by rw[cQ v];exact bj (Nat.add_le_add_left f lo) q
 have o:=y.perm b.2.2.2.1;by_cases d:k > 0
 .rw[az d];have c:Kept lo st' (setArr st' (mirror (arrOf st') (lo+m-(k+1)) (lo+m) ((lo+m-(lo+m-(k+1))) / 2))):=Kept.rev (by omega) g;refine aB (wpS_reverse (a2n e (c.1.trans (b.1.trans t)) (o.perm c.2.2.2.1) (by rw[c.2.2.2.1.size_eq,cQ v];exact q) (by omega) f (λi j r B=>?_) λx l k2=>h x l (b.trans (c.trans k2))));show O.kle (kx kf (mirror (arrOf st') _ _ _) _) (kx kf (mirror (arrOf st') _ _ _) _);rw[N1 g z,N1 g z];exact p i j r B
 .rw[ar d];exact a2n e (b.1.trans t) o (by rw[cQ v];exact q) (by omega) f p λx l k2=>h x l (b.trans k2)
theorem a6D{lo b:Nat}{Q:Option Nat->SortSt->Prop}(f:Cmp prog w A s κ D (ltK kf))(v:kindOf st=κ)(F:AllD D (arrOf st))(q:lo+b<=(arrOf st).size)(h1:1<=b)
  (h:∀m st',Kept lo st st'->1<=m->m<=b->SoO kf (arrOf st') lo m->Q (some m) st'):wpS (model prog w) A E s (countRun' lo b) Q st:=by
 rw[b0j];refine aB (a5r f v F q (ao 1) h1 (λi j x J=>by have:i=j:=(by omega);subst this;exact cB _) λn g c l C=>?_);dsimp only;by_cases a:n=b
 .rw[az (by simpa using a)];exact aM (h n st Kept.refl g c l)
 .rw[ar (by simpa using a)];have y:O.klt (kx kf (arrOf st) (lo+n)) (kx kf (arrOf st) (lo+(n-1))):=C.resolve_left a;replace a:n+1<=b:=by omega
  clear C c h1;replace c:=Nat.le_of_succ_le a;have u:lo+n<(arrOf st).size:=aO (Nat.add_lt_add_left a lo) q;by_cases o:n > 1
  .rw[az o];refine aB (R0 f v F (by omega) (by omega) ?_);dsimp only;have ex:lo+n-1=lo+(n-1):=by clear q a c u;omega
   rw[ex];cases t:O.blt (kx kf (arrOf st) lo) (kx kf (arrOf st) (lo+(n-1)))with
   |true =>
    rw[az rfl];exact aM (h n st Kept.refl g c l)
   |false =>
    rw[ar (by simp)];have r:=q;clear q;have d:∀k,k<n->kx kf (arrOf st) (lo+k)=kx kf (arrOf st) (lo+(n-1)):=by
     intro k v;clear u a c ex;have a1:=l 0 k (bG _) v;have K:=l k (n-1) (by omega) (by omega);exact KeyOrd.kle_antisymm K (bT t a1)
    have z:∀k,kx kf (mirror (arrOf st) lo (lo+n) ((lo+n-lo) / 2)) k=kx kf (arrOf st) k:=N1 (cH u) λk q1 M=>by
     rw[ex];clear u a c ex r;have:=d (k-lo) (by omega);rwa[show lo+(k-lo)=k by omega]at this
    have e:Kept lo st (setArr st (mirror (arrOf st) lo (lo+n) ((lo+n-lo) / 2))):=Kept.rev (ao _) (cH u);refine aB (wpS_reverse (a7U f (e.1.trans v) (F.perm e.2.2.2.1) (by rw[e.2.2.2.1.size_eq];exact r) a (λi j x J=>?_) λL I k2=>h L I (e.trans k2)));show O.kle (kx kf (mirror (arrOf st) _ _ _) _) (kx kf (mirror (arrOf st) _ _ _) _);rw[z,z];clear u a c ex r g;by_cases H:j<n
    .rw[d i (by omega),d j H];exact cB _
    .have hj':j=n:=by omega
     subst hj';by_cases p:i=j
     .subst p;exact cB _
     .rw[d i (by omega)];exact bW y
  .rw[ar o];have B:n=1:=by omega
   subst B;refine a7U f v F q a (λi j x J=>?_) h;clear u a c q g o;by_cases p:i=j
   .subst p;exact cB _
   .have hi0:i=0:=by omega
    have G:j=1:=by omega
    subst hi0;subst G;exact bW y
end
noncomputable def a1P:Nat->List (List Keyed)->List (Nat×Nat)
 |_,[]=>[]
 |o,r::rs=>(o,r.length)::a1P (o+r.length) rs
theorem P9:∀(o:Nat) (X Y:List (List Keyed)),a1P o (X++Y)=a1P o X++a1P (o+X.flatten.length) Y
 |o,[],Y=>by simp[a1P]
 |o,r::X,Y=>by
  simp only[fL,a1P,P9 (o+r.length) X Y,dg,ak,dY]
theorem a2K:∀(o:Nat) (X:List (List Keyed)),(a1P o X).length=X.length
 |_,[]=>rfl
 |o,r::X=>by simp only[a1P,a',a2K (o+r.length) X]
noncomputable abbrev ent(e:Nat×Nat×Nat):Nat×Nat:=(e.1,e.2.1)
section
variable {prog:Program}{w:World}{A:Around}{E:Value->Shared->Prop}{s:Shared}{κ:SortKind}{D:Keyed->Prop}{O:KeyOrd}{kf:Keyed->O.α}{st:SortSt}{a0:Array Keyed}
structure RI(kf:Keyed->O.α)(κ:SortKind)(a0:Array Keyed)(st:SortSt)(runs:List (List Keyed))(rest:List Keyed):Prop where
 kind:kindOf st=κ
 failed:failedOf st=none
 perm:(arrOf st).Perm a0
 eq:(arrOf st).toList=runs.flatten++rest
 sorted:∀r∈runs,r.Pairwise (leK kf)
 ne:∀r∈runs,0<r.length
 pend:(pendingOf st).toList.map ent=a1P 0 runs
theorem RI.size{runs:List (List Keyed)}{rest:List Keyed}(h:RI kf κ a0 st runs rest):(pendingOf st).size=runs.length:=by
 rw[<-ay,<-ae (f:=ent),h.pend,a2K]
theorem a1y{X Y:List (List Keyed)}{ra b rest:List Keyed}{Q:Bool->SortSt->Prop}(j:Cmp prog w A s κ D (ltK kf))(G:AllD D a0)(h:RI kf κ a0 st (X++ra::b::Y) rest)
  (q:∀(st':SortSt) (M:List Keyed),RI kf κ a0 st' (X++M::Y) rest->M.length=ra.length+b.length->Q true st'):wpS (model prog w) A E s (mergeAt' X.length) Q st:=by
 have o:=h.pend;rw[P9,a1P,a1P]at o;obtain⟨c,O,i,e1,e2⟩:=List.map_eq_append_iff.mp o;obtain⟨x,P,u,e,v⟩:=List.map_eq_cons_iff.mp e2;obtain⟨y,I,B,g,n⟩:=List.map_eq_cons_iff.mp v;subst u B;obtain⟨J,K,t⟩:=x;obtain⟨L,N,m⟩:=y;rw[cP]at e g n;have e:(J,K)=(X.flatten.length,ra.length):=e;have g:(L,N)=(X.flatten.length+ra.length,b.length):=g;cases e;cases g;have H:c.length=X.length:=by rw[<-ae (f:=ent),e1,a2K]
 have C:(pendingOf st)[X.length]?=some (X.flatten.length,ra.length,t):=by
  rw[<-ax,i,aW (by omega),show X.length-c.length=0 by omega];rfl
 have F:(pendingOf st)[X.length+1]?=some (X.flatten.length+ra.length,b.length,m):=by
  rw[<-ax,i,aW (by omega),show X.length+1-c.length=1 by omega];rfl
 have a:Runs2 kf D (arrOf st) X.flatten ra b (Y.flatten++rest):=by
  refine⟨?_,λz p=>(G.perm h.perm) z p,h.sorted _ (by simp),h.sorted _ (by simp),h.ne _ (by simp),h.ne _ (by simp)⟩;rw[h.eq];simp[aC]
 refine a5p j h.kind a C F h.failed λst' M k1 k2 k3 l k5=>?_;have d:M.length=ra.length+b.length:=by rw[l.1.length_eq,ak]
 refine q st' M ⟨k1,k2,?_,?_,λr k=>?_,λr k=>?_,?_⟩ d
 .refine dH.mpr ?_;refine List.Perm.trans ?_ (dH.mp h.perm);rw[k5,a.eq];refine fG _ ?_;rw[aC X.flatten];exact bX _ l.1
 .rw[k5];simp[aC]
 .rcases aA.mp k with z|z
  .exact h.sorted r (aS _ z)
  .rcases aD.mp z with rfl|z
   .exact l.2
   .exact h.sorted r (aU _ (av _ (av _ z)))
 .rcases aA.mp k with z|z
  .exact h.ne r (aS _ z)
  .rcases aD.mp z with rfl|z
   .have:=h.ne ra (by simp);omega
   .exact h.ne r (aU _ (av _ (av _ z)))
 .rw[k3,Array.eraseIdxIfInBounds];have p:(pendingOf st).size=X.length+(Y.length+2):=by rw[h.size];simp
  rw[dif_pos (by rw[fe];omega),Array.toList_eraseIdx,Array.toList_setIfInBounds,i];rw[List.set_append_right _ _ (by omega),show X.length-c.length=0 by omega,List.set_cons_zero];rw[List.eraseIdx_append_of_length_le (by omega),show X.length+1-c.length=1 by omega];show(c++(X.flatten.length,ra.length+b.length,t)::I).map ent=_;rw[bz,aZ,e1,n,P9,a1P,cP,d];show _++(X.flatten.length,ra.length+b.length)::_=_;rw[dY]
end
noncomputable def a2i(lo n:Nat):StateT SortSt Sem (ForInStep (Option Unit×Nat)) :=
 (modify λs=>setPending s ((pendingOf s).push (lo,n,0)))>>=λ_=>pure (.yield (none,lo+n))
noncomputable def X1(sz pw:Nat):StateT SortSt Sem (Option Unit×Unit) :=
 forIn [:sz] ((none,()):Option Unit×Unit) λ_ _=>get>>=λg=>match (if (pendingOf g).size > 1 then(pendingOf g)[(pendingOf g).size-2]? else none)with
  |some (_,_,older)=>(if older<=pw then pure (.done (none,()))else mergeAt' ((pendingOf g).size-2)>>=λb=>if (!b)=true then pure (.done (some (),()))else pure (.yield (none,())))
  |_=>pure (.done (none,()))
noncomputable def a0B(sz lo n:Nat):StateT SortSt Sem (ForInStep (Option Unit×Nat)):=get>>=λg=>match (pendingOf g).back? with
 |some (s1,n1,_)=>X1 sz (power' sz (2*s1+n1) (2*s1+n1+n1+n) sz)>>=λc=>match c.1 with
  |some r=>pure (.done (some r,lo))
  |none=>(modify λs=>setPending s ((pendingOf s).modify ((pendingOf s).size-1) λx=>(x.1,x.2.1,power' sz (2*s1+n1) (2*s1+n1+n1+n) sz)))>>=λ_=>a2i lo n
 |_=>a2i lo n
noncomputable def a8D(sz:Nat):StateT SortSt Sem (Option Unit×Unit) :=
 forIn [:sz] ((none,()):Option Unit×Unit) λ_ _=>get>>=λg=>if (pendingOf g).size<=1 then pure (.done (none,()))
  else mergeAt' (if Option.any (λx=>decide (x<(pendingOf g)[(pendingOf g).size-2+1]?.elim 0 λx=>x.2.1)) (if (pendingOf g).size-2 > 0 then Option.map (λx=>x.2.1) (pendingOf g)[(pendingOf g).size-2-1]? else none)=true then(pendingOf g).size-2-1 else(pendingOf g).size-2)>>=λb=>if (!b)=true then pure (.done (some (),()))else pure (.yield (none,()))
section
variable {prog:Program}{w:World}{A:Around}{E:Value->Shared->Prop}{s:Shared}{κ:SortKind}{D:Keyed->Prop}{O:KeyOrd}{kf:Keyed->O.α}{st:SortSt}{a0:Array Keyed}{runs:List (List Keyed)}{rest:List Keyed}
theorem two_last{α:Type}{l:List α}(h:2<=l.length):∃X a b,l=X++[a,b]/\X.length=l.length-2:=by
 refine⟨l.take (l.length-2),l[l.length-2],l[l.length-1],?_,by rw[aP];omega⟩;have e1:l.drop (l.length-2)=[l[l.length-2],l[l.length-1]]:=by
  rw[cD (by omega),cD (by omega),cC (by omega)];congr 2;congr 1;omega
 rw[<-e1,br]
theorem a4s{sz i:Nat}{Q:Option Unit×Unit->SortSt->Prop}(f:Cmp prog w A s κ D (ltK kf))(g:AllD D a0)(h:RI kf κ a0 st runs rest)
  (q:∀st' a,RI kf κ a0 st' a rest->a.flatten.length=runs.flatten.length->a.length<=runs.length->Q (none,()) st'):wpS (model prog w) A E s (X1 sz i) Q st:=by
 unfold X1;refine cu (I:=λ_ c st'=>c=(none,())/\∃a,RI kf κ a0 st' a rest/\a.flatten.length=runs.flatten.length/\a.length<=runs.length) ?step (λc st' ⟨e,d,h1,h2,b⟩=>by rw[e];exact q st' d h1 h2 b) ⟨rfl,runs,h,rfl,ao _⟩;rintro x c st' _ _ ⟨rfl,d,h1,h2,b⟩;refine aB (fm ?_);split
 .rename_i older heq;split
  .exact aM (q st' d h1 h2 b)
  .have hz:(pendingOf st').size > 1:=by
    refine Nat.lt_of_not_le λz=>?_;rw[ar (by omega)]at heq;cases heq
   have hs:=h1.size;obtain⟨X,ra,k,e1,e2⟩:=two_last (l:=d) (by omega);rw[e1]at h1;rw[show(pendingOf st').size-2=X.length by omega];refine aB (a1y f g h1 λj M k1 k2=>?_);rw[ar (by simp)];refine aM ⟨rfl,_,k1,?_,?_⟩
   .rw[<-h2,e1];simp[k2]
   .rw[e1]at b;simp at b⊢;omega
 .exact aM (q st' d h1 h2 b)
theorem a1x{lo n:Nat}{Q:ForInStep (Option Unit×Nat)->SortSt->Prop}{r:List Keyed}(h:RI kf κ a0 st runs (r++rest))(e:r.Pairwise (leK kf))(d:0<n)(c:r.length=n)(a:lo=runs.flatten.length)
  (q:∀st',RI kf κ a0 st' (runs++[r]) rest->Q (.yield (none,lo+n)) st'):wpS (model prog w) A E s (a2i lo n) Q st:=by
 unfold a2i;refine aB (wpS_modify (aM (q _ ⟨h.kind,h.failed,h.perm,?_,λz b=>?_,λz b=>?_,?_⟩)))
 .show(arrOf st).toList=_;rw[h.eq];simp
 .rcases aA.mp b with y|y
  .exact h.sorted z y
  .rw[aQ.mp y];exact e
 .rcases aA.mp b with y|y
  .exact h.ne z y
  .rw[aQ.mp y,c];exact d
 .show((pendingOf st).push (lo,n,0)).toList.map ent=_;rw[cT,bz,h.pend,P9,cP,a,<-c];rfl
theorem map_modify{p:Array (Nat×Nat×Nat)}{i a:Nat}:(p.modify i λx=>(x.1,x.2.1,a)).toList.map ent=p.toList.map ent:=by
 rw[Array.toList_modify];refine fB λj=>?_;rw[ba,ba,List.getElem?_modify];cases p.toList[j]? with
 |none=>rfl
 |some x =>
  by_cases e:i=j
  .simp[e]
  .simp[e]
theorem a6F{sz lo n:Nat}{Q:ForInStep (Option Unit×Nat)->SortSt->Prop}{r:List Keyed}(e:Cmp prog w A s κ D (ltK kf))(j:AllD D a0)(h:RI kf κ a0 st runs (r++rest))(i:r.Pairwise (leK kf))(g:0<n)(d:r.length=n)(b:lo=runs.flatten.length)
  (q:∀st' a,RI kf κ a0 st' a rest->a.flatten.length=lo+n->a.length<=runs.length+1->Q (.yield (none,lo+n)) st'):wpS (model prog w) A E s (a0B sz lo n) Q st:=by
 unfold a0B;refine aB (fm ?_);split
 .refine aB (a4s e j h λst' a k1 k2 k3=>?_);dsimp only;refine aB (wpS_modify ?_);refine a1x (runs:=a) (rest:=rest) ⟨k1.kind,k1.failed,k1.perm,k1.eq,k1.sorted,k1.ne,map_modify.trans k1.pend⟩ i g d (by rw[k2];exact b) λc f=>q c _ f ?_ ?_
  .simp[k2,d,b]
  .simp;omega
 .refine a1x h i g d b λc f=>q c _ f ?_ ?_
  .simp[d,b]
  .simp
end
section
variable {prog:Program}{w:World}{A:Around}{E:Value->Shared->Prop}{s:Shared}{κ:SortKind}{D:Keyed->Prop}{O:KeyOrd}{kf:Keyed->O.α}{st:SortSt}{a0:Array Keyed}{runs:List (List Keyed)}{rest:List Keyed}
theorem b3h{α:Type}{l:List α}{i:Nat}(h:i+1<l.length):∃X a b Y,l=X++a::b::Y/\X.length=i:=by
 refine⟨l.take i,l[i],l[i+1],l.drop (i+1+1),?_,by rw[aP];omega⟩;rw[<-cD (by omega),<-cD (by omega),br]
theorem a5q{sz:Nat}{Q:Option Unit×Unit->SortSt->Prop}(j:Cmp prog w A s κ D (ltK kf))(l:AllD D a0)(h:RI kf κ a0 st runs rest)(o:runs.length<=sz)
  (q:∀st' a,RI kf κ a0 st' a rest->a.length<=1->Q (none,()) st'):wpS (model prog w) A E s (a8D sz) Q st:=by
 unfold a8D;refine cu (I:=λx c st'=>c=(none,())/\∃a,RI kf κ a0 st' a rest/\a.length+x<=sz+1) ?step (λc st' ⟨e,g,h1,h2⟩=>by rw[e];exact q st' g h1 (by omega)) ⟨rfl,runs,h,by omega⟩;rintro x c st' _ _ ⟨rfl,g,h1,h2⟩;refine aB (fm ?_);have hs:=h1.size;split
 .exact aM (q st' g h1 (by omega))
 .rename_i hz;have k:∀i,i+1<g.length->wpS (model prog w) A E s ((mergeAt' i>>=λb=>if (!b)=true then pure (ForInStep.done (some (),()))else pure (ForInStep.yield (none,()))):StateT SortSt Sem (ForInStep (Option Unit×Unit))) (λr d=>match r with|ForInStep.done c'=>Q c' d|ForInStep.yield c'=>c'=(none,())/\∃a,RI kf κ a0 d a rest/\a.length+(x+1)<=sz+1) st':=λi hi=>by
   obtain⟨X,ra,p,Y,e1,e2⟩:=b3h hi;rw[e1]at h1 h2;rw[<-e2];refine aB (a1y j l h1 λn M k1 k2=>?_);rw[ar (by simp)];refine aM ⟨rfl,_,k1,?_⟩;simp at h2⊢;omega
  refine cF (k _ ?_) (λr d m=>by cases r<;>exact m);by_cases f:(pendingOf st').size-2 > 0
  .rw[az f];split<;>omega
  .rw[ar f,ar (by simp)];omega
theorem RI.kept{st':SortSt}(h:RI kf κ a0 st runs rest)(k:Kept runs.flatten.length st st'):RI kf κ a0 st' runs ((arrOf st').toList.drop runs.flatten.length):=by
 refine⟨k.1.trans h.kind,k.2.2.1.trans h.failed,k.2.2.2.1.trans h.perm,?_,h.sorted,h.ne,by rw[k.2.1];exact h.pend⟩;have e:(arrOf st').toList.take runs.flatten.length=runs.flatten:=by
  have a:(arrOf st).toList.take runs.flatten.length=runs.flatten:=by rw[h.eq,List.take_left'];rfl
  rw[<-a];refine fB λi=>?_;rw[aP];by_cases hi:i<runs.flatten.length
  .have hle:runs.flatten.length<=(arrOf st).toList.length:=by rw[h.eq,ak];omega
   rw[cZ (by omega),cZ hi,ax,ax];exact k.2.2.2.2 i hi
  .rw[cM (by rw[aP];omega),cM (by rw[aP];omega)]
 rw[<-br runs.flatten.length (arrOf st').toList,e];congr 1;rw[dk (ao _),List.drop_length,cq]
theorem b3w{arr:Array Keyed}{lo n:Nat}(h:SoO kf arr lo n)(c:lo+n<=arr.size):((arr.toList.drop lo).take n).Pairwise (leK kf):=by
 rw[eW];intro i j hi b a;rw[aP,bE,ay]at hi b;have q:=h i j (cH a) (by omega);unfold leK;have g:∀k,k<n->kx kf arr (lo+k)=kf (arr[lo+k]?.getD (Value.none,Value.none)):=λk _=>by unfold kx;rw[bO]
 rw[g i (by omega),g j (by omega),getElem?_pos arr _ (by omega),getElem?_pos arr _ (by omega)]at q;simp only[fz,fA,Array.getElem_toList];exact q
theorem a2C:∀{runs:List (List Keyed)},(∀r∈runs,0<r.length)->runs.length<=runs.flatten.length
 |[],_=>ao _
 |r::runs,h=>by
  have:=a2C (runs:=runs) λz a=>h z (av _ a);have:=h r au;simp only[a',dg,ak];omega
theorem a3I{α:Type}{m m':StateT SortSt Sem α}{Q:α->SortSt->Prop}(e:m=m')(h:wpS (model prog w) A E s m' Q st):wpS (model prog w) A E s m Q st:=by rw[e];exact h
theorem a5m{Q:Unit->SortSt->Prop}(f:Cmp prog w A s κ D (ltK kf))(O:kindOf st=κ)(v:AllD D (arrOf st))(hp:pendingOf st=#[])(N:failedOf st=none)
  (q:∀st':SortSt,(arrOf st').Perm (arrOf st)->failedOf st'=none->(arrOf st').toList.Pairwise (leK kf)->Q () st'):wpS (model prog w) A E s sortRuns' Q st:=by
 rw[sortRuns'_eq];refine aB (fm ?_);dsimp only;generalize C:(arrOf st).size=sz;have M:RI kf κ (arrOf st) st [] (arrOf st).toList:=⟨O,N,.refl _,rfl,(λ_ z=>nomatch z),(λ_ z=>nomatch z),by rw[hp];rfl⟩;have H:∀{st':SortSt}{runs:List (List Keyed)}{rest:List Keyed},RI kf κ (arrOf st) st' runs rest->(arrOf st').size=sz:=λh=>by rw[h.perm.size_eq];exact C
 have K:∀{st':SortSt}{runs:List (List Keyed)}{rest:List Keyed},RI kf κ (arrOf st) st' runs rest->runs.flatten.length+rest.length=sz:=λh=>by
  have:=aN List.length h.eq;rw[ay,H h,ak]at this;omega
 refine aB (cF (cu (I:=λx c st'=>c.1=none/\∃runs rest,RI kf κ (arrOf st) st' runs rest/\c.2=runs.flatten.length/\x<=c.2)
  (Q:=λc st'=>c.1=none/\∃runs,RI kf κ (arrOf st) st' runs []/\runs.length<=sz) ?step ?fin ⟨rfl,[],_,M,rfl,ao _⟩) ?post)
 case fin =>
  rintro c st' ⟨e1,runs,rest,h1,h2,J⟩;have:=K h1;have k:rest=[]:=ez (by omega);subst k;exact⟨e1,runs,h1,by have:=a2C h1.ne;omega⟩
 case step =>
  rintro x c st' _ W ⟨e1,runs,rest,h1,h2,J⟩;obtain⟨L,lo⟩:=c;dsimp only at e1 h2 J⊢;subst e1;have P:=K h1;have G:=H h1;by_cases p:lo ≥ sz
  .rw[az p];have k:rest=[]:=ez (by omega);subst k;exact aM ⟨rfl,runs,h1,by have:=a2C h1.ne;omega⟩
  .rw[ar p];have l:=v.perm h1.perm;have add:∀(n:Nat) (d:SortSt),Kept lo st' d->0<n->lo+n<=sz->SoO kf (arrOf d) lo n->wpS (model prog w) A E s (a0B sz lo n) (λr e=>match r with|ForInStep.done c'=>c'.1=none/\∃runs,RI kf κ (arrOf st) e runs []/\runs.length<=sz|ForInStep.yield c'=>c'.1=none/\∃runs rest,RI kf κ (arrOf st) e runs rest/\c'.2=runs.flatten.length/\x+1<=c'.2) d:=λn d j B T i=>by
    rw[h2]at j;have hR:=h1.kept j;rw[<-h2]at hR;have F:=H hR;rw[<-br n ((arrOf d).toList.drop lo)]at hR;refine a6F f v hR (b3w i (by omega)) B (by rw[aP,bE,ay];omega) h2 λu V k1 k2 k3=>⟨rfl,V,_,k1,k2.symm,by show x+1<=lo+n;omega⟩
   refine aB (a6D f h1.kind l (by omega) (by omega) λm d j R S i=>?_);dsimp only;split
   .refine aB (Q9 ?_);have F:(arrOf d).size=sz:=by rw[j.2.2.2.1.size_eq];exact G
    refine aB (b0F f (j.1.trans h1.kind) (l.perm j.2.2.2.1) (by omega) (by omega) i λu y t=>?_);rw[ar (by simp)];refine a3I (m':=a0B sz lo (min (sz-lo) (minRun' sz sz 0))) (by
     unfold a0B;refine aN _ (funext λg=>?_);rcases(pendingOf g).back? with _|⟨s1,n1,z⟩
     .rfl
     .dsimp only;refine congr (aN _ ?_) (funext λc=>?_)
      .unfold X1;refine aN _ (funext λ_=>funext λ_=>aN _ (funext λg=>?_));generalize (if (pendingOf g).size > 1 then(pendingOf g)[(pendingOf g).size-2]? else none)=o;rcases o with _|⟨a,b,o⟩<;>rfl
      .rcases c with⟨_|q,c⟩<;>rfl) (cF (add _ u (j.trans y) (by omega) (by omega) t) λr e k=>by cases r<;>exact k)
   .refine a3I (m':=a0B sz lo m) (by
     unfold a0B;refine aN _ (funext λg=>?_);rcases(pendingOf g).back? with _|⟨s1,n1,z⟩
     .rfl
     .dsimp only;refine congr (aN _ ?_) (funext λc=>?_)
      .unfold X1;refine aN _ (funext λ_=>funext λ_=>aN _ (funext λg=>?_));generalize (if (pendingOf g).size > 1 then(pendingOf g)[(pendingOf g).size-2]? else none)=o;rcases o with _|⟨a,b,o⟩<;>rfl
      .rcases c with⟨_|q,c⟩<;>rfl) (cF (add _ d j (by omega) (by omega) i) λr e k=>by cases r<;>exact k)
 case post =>
  rintro c st' ⟨e1,runs,h1,h2⟩;obtain⟨L,lo⟩:=c;dsimp only at e1;subst e1;dsimp only;refine aB (a5q (sz:=sz) f v h1 h2 λd U k1 k2=>?_);dsimp only;refine aM (q d k1.perm k1.failed ?_);rw[k1.eq,cz]
  match U,k2,k1.sorted with
  |[],_,_=>exact .nil
  |[r],_,hs=>simpa using hs r (by simp)
  |_::_::_,k2,_=>simp at k2
end
noncomputable def G2(h:Heap)(v:Value):List Int:=match v with
 |.ref b=>match h.get? b with
  |some o=>match o.data with
   |.seq xs _=>xs.toList.map numOf
   |_=>[]
  |none=>[]
 |_=>[]
theorem D7{h:Heap}{b:Addr}{its:Array Value}{r:List Int}(t:IsTup h b its)(i:IntsAre its.toList r):G2 h (.ref b)=r:=by
 obtain⟨o,h1,h2,n,a⟩:=t;unfold G2;simp only[h1,a];exact i.nums
theorem N0{α β:Type}{f:α->β}{os i:List β}(h:os.Perm i):∀{T:List α},i=T.map f->∃c:List α,c.Perm T/\c.map f=os:=by
 induction h with
 |nil=>intro T e;cases T with|nil=>exact⟨[],.nil,rfl⟩|cons _ _=>cases e
 |cons x _ m =>
  intro T e;cases T with
  |nil=>cases e
  |cons t T =>
   injection e with e1 e2
   obtain⟨c,h1,h2⟩:=m e2;exact⟨t::c,h1.cons t,by rw[aZ,h2,e1]⟩
 |swap x y l =>
  intro T e
  match T,e with
  |a::b::T,e =>
   injection e with e1 e2
   injection e2 with e2 e3
   exact⟨b::a::T,.swap a b T,by rw[aZ,aZ,e1,e2,e3]⟩
 |trans _ _ d g =>
  intro T e;obtain⟨c,h1,h2⟩:=g e;obtain⟨T2,j,k⟩:=d h2.symm;exact⟨T2,j.trans h1,k⟩
section
variable {prog:Program}{w:World}{A:Around}{E:Value->Shared->Prop}{s:Shared}
noncomputable def kfH(h:Heap):Keyed->OL.α:=λx=>(G2 h x.1:List Int)
def DH(h:Heap)(x:Keyed):Prop:=∃b its r,x.1=Value.ref b/\IsTup h b its/\IntsAre its.toList r
theorem b8J:Cmp prog w A s (tuples' true) (DH s.heap) (ltK (kfH s.heap)):=by
 rintro⟨x,u⟩ ⟨y,v⟩ C ⟨b,its,r,e1,h,d⟩ ⟨b',a,p,e2,i,e⟩ c;dsimp only at e1 e2;subst e1 e2;have c:C (HT.lexLt (G2 s.heap (.ref b)) (G2 s.heap (.ref b'))) s:=c;rw[D7 h d,D7 i e]at c;obtain⟨o,q1,t,n,m⟩:=h;obtain⟨o',f,l,q,g⟩:=i;refine kat_lt q1 m f g (a1G 0 d e ?_);have j:its.size=r.length:=by rw[<-ay];exact d.length
 have k:a.size=p.length:=by rw[<-ay];exact e.length
 rw[j,k,a6e];exact c
theorem a0r{a:Addr}{vs:List Value}{rss:LLI}{n:Nat}{P:Fin->Shared->Prop}(m:s.heap.get? a=some (seqObj "list" vs.toArray n))(T:TupsAre s.heap vs rss)(hw:∀r∈rss,0<r.length)(X:vs.length<=sizeLine)
  (h:∀os:List Value,os.Perm vs->os.Pairwise (λx y=>HT.lexLt (G2 s.heap y) (G2 s.heap x)=false)->P (.done (.ret .none)) {s with heap:=sortedHeap s.heap a vs os.toArray}) :
  wpAny (model prog w) A (Builtin.«list.sort» ⟨[.ref a],[]⟩) P E s:=by
 rw[list_sort_plain];have L:a<s.heap.objs.size:=aK m;refine aa (listItems_at m rfl ?_);refine aa (listUpdate_at m rfl ?_ (by rw[aF];omega) (bG _));obtain⟨e1,p⟩:∃e1,(s.heap.update a (Obj.mapSeq λ_=>#[])).get? a=some (seqObj "list" #[] e1):=⟨_,get?_update_seq m (λ_=>#[])⟩;refine aa (seqEpoch_at p rfl ?_);refine aa (wpAny_newTuple ?_ (by show vs.length<=_;omega));refine aa (wpAny_newList ?_ (bG _));refine cj ?_;have d:(((s.heap.update a (Obj.mapSeq λ_=>#[])).push (seqObj "tuple" vs.toArray 0)).push (seqObj "list" #[] 0)).get? a=some (seqObj "list" #[] e1):=by
  rw[Heap.get?_push_ne _ _ _ (by rw[size_push',Heap.size_update];exact aR (cc L)),Heap.get?_push_ne _ _ _ (by rw[Heap.size_update];exact aR L)];exact p
 have g:∀b its,IsTup s.heap b its->IsTup (((s.heap.update a (Obj.mapSeq λ_=>#[])).push (seqObj "tuple" vs.toArray 0)).push (seqObj "list" #[] 0)) b its:=λb its ⟨o,q1,l,K⟩=>by
  have O:b≠a:=λz=>by
   rw[z,m]at q1;cases q1;have l:Value.type "list"=Value.type "tuple":=l;injection l with l
   exact absurd l (by decide)
  refine⟨o,?_,l,K⟩;exact ag _ (ag _ (by rw[Heap.get?_update_ne _ _ _ _ O];exact q1))
 have F:=T.keeps g;show wpAny (model prog w) A _ P E {s with heap:=((s.heap.update a (Obj.mapSeq λ_=>#[])).push (seqObj "tuple" vs.toArray 0)).push (seqObj "list" #[] 0)};have c:∀v∈vs,G2 (((s.heap.update a (Obj.mapSeq λ_=>#[])).push (seqObj "tuple" vs.toArray 0)).push (seqObj "list" #[] 0)) v=G2 s.heap v:=λv U=>by
  obtain⟨i,hi⟩:=cw.mp U;obtain⟨r,b,its,_,e2,B,C⟩:=T.2 i v hi;rw[e2,D7 B C,D7 (g b its B) C]
 generalize H:((s.heap.update a (Obj.mapSeq λ_=>#[])).push (seqObj "tuple" vs.toArray 0)).push (seqObj "list" #[] 0)=k at d F c;dsimp only;have fin:∀os:List Value,os.Perm vs->os.Pairwise (λx y=>HT.lexLt (G2 s.heap y) (G2 s.heap x)=false)->P (.done (.ret .none)) {s with heap:=k.update a (Obj.mapSeq λ_=>os.toArray)}:=λos h1 h2=>by
  have:=h os h1 h2;unfold sortedHeap at this;rw[H]at this;exact this
 by_cases h2:vs.toArray.size<2
 .have h2':vs.length<2:=by simpa using h2
  rw[az h2,az h2];refine aa (ai ?_);rw[StateT.run_pure];refine aa (ai ?_);dsimp only;refine aa (seqEpoch_at d rfl ?_);refine aa (listUpdate_at d rfl ?_ (bG _) (by rw[Array.size_map];show(pairsOf vs).size<=_;rw[pairsOf_size];omega));simp only[bne_self_eq_false,Bool.false_eq_true,if_false];have e:((vs.toArray.zip vs.toArray).map (·.2))=vs.toArray:=by
   apply Array.toList_inj.mp;simp[List.map_snd_zip]
  show wpAny _ _ _ _ _ {s with heap:=k.update a (Obj.mapSeq λ_=>(vs.toArray.zip vs.toArray).map (·.2))};rw[e];refine ai (fin vs (.refl _) ?_);rw[eW];intro i j hi W R;omega
 .have h2':2<=vs.length:=by
   have:¬vs.length<2:=by simpa using h2
   omega
  rw[ar h2,ar h2];refine aa (a9g F hw (by omega) ?_);have G:AllD (DH k) (vs.toArray.zip vs.toArray):=λx u=>by
   have I:x∈vs.zip vs:=by simpa using u
   obtain⟨_,S⟩:=mem_zip_self I;obtain⟨i,hi⟩:=cw.mp S;obtain⟨r,b,its,_,e2,B,C⟩:=F.2 i _ hi;exact⟨b,its,r,e2,B,C⟩
  refine aa (dr (a5m (s:={s with heap:=k}) (st:=SortSt.mk' (tuples' true) (vs.toArray.zip vs.toArray) #[] 7 none) (kf:=kfH k) (D:=DH k) (b8J (s:={s with heap:=k})) rfl G rfl rfl
   (Q:=λ_ st'=>(arrOf st').Perm (vs.toArray.zip vs.toArray)/\failedOf st'=none/\(arrOf st').toList.Pairwise (leK (kfH k))) λst' q1 l K=>⟨q1,l,K⟩) ?_ λ_ _ e=>e)
  rintro⟨⟨⟩,st'⟩ s' ⟨rfl,N,M,hs⟩;dsimp only at N M hs⊢;have t:(arrOf st').toList.Perm (vs.zip vs):=by
   have:=dH.mp N;simpa using this
  have q:((arrOf st').toList.map (·.2)).Perm vs:=by
   have:=t.map Prod.snd;rwa[List.map_snd_zip (ao _)]at this
  have f:∀x∈(arrOf st').toList,x.1=x.2/\x.1∈vs:=λx u=>mem_zip_self (t.mem_iff.mp u);have e:(arrOf st').map (·.2)=((arrOf st').toList.map (·.2)).toArray:=by
   apply Array.toList_inj.mp;simp
  refine aa (seqEpoch_at d rfl ?_);rw[e];refine aa (listUpdate_at d rfl ?_ (bG _) (by rw[aF,q.length_eq];omega));rw[M];simp only[bne_self_eq_false,Bool.false_eq_true,if_false];refine ai (fin _ q ?_);rw[cf];refine hs.imp_of_mem λ{x y} u V J=>?_;have h1:=f x u;have h2:=f y V;rw[<-h1.1,<-h2.1,<-c _ h1.2,<-c _ h2.2];exact J
theorem a1Y{x:Value}{vs:List Value}{rss:LLI}{Q:Value->Shared->Prop}(g:∀(q:Around) (t:Value->Shared->Prop) (l:List Value->Shared->Prop),(∀h1:Heap,(∀b o,s.heap.get? b=some o->h1.get? b=some o)->l vs {s with heap:=h1})->wpAny (model prog w) q (collect x) l t s)
  (T:TupsAre s.heap vs rss) (hw:∀r∈rss,0<r.length) (D:vs.length<=sizeLine)
  (h:∀(h1 h':Heap) (os:List Value) (c:Nat),(∀b o,s.heap.get? b=some o->h1.get? b=some o)->(∀b o,h1.get? b=some o->h'.get? b=some o)->h'.get? h1.objs.size=some (seqObj "list" os.toArray c)->os.Perm vs->os.Pairwise (λx y=>HT.lexLt (G2 s.heap y) (G2 s.heap x)=false)->Q (.ref h1.objs.size) {s with heap:=h'}) :
  wpAny (model prog w) A (call (.builtin "sorted") [x]) Q E s:=by
 refine eX kind_sorted plain_sorted entry_sorted (args_sorted1 _) ?_;unfold Builtin.«sorted»;refine aa (m:=checkCount "sorted" 1 1 _) (ai ?_);refine aa (g _ _ _ λh1 k1=>?_);refine aa (wpAny_newList ?_ (by omega));have f:(h1.push (seqObj "list" vs.toArray 0)).get? h1.objs.size=some (seqObj "list" vs.toArray 0):=aH _ rfl;have a:∀b its,IsTup s.heap b its->IsTup (h1.push (seqObj "list" vs.toArray 0)) b its:=λb its ⟨o,q1,F⟩=>⟨o,ag _ (k1 _ _ q1),F⟩;have T2:=T.keeps a;have d:∀v∈vs,G2 (h1.push (seqObj "list" vs.toArray 0)) v=G2 s.heap v:=λv z=>by
  obtain⟨i,hi⟩:=cw.mp z;obtain⟨r,b,its,_,e2,n,p⟩:=T.2 i v hi;rw[e2,D7 n p,D7 (a b its n) p]
 show wpAny _ _ _ _ _ {s with heap:=h1.push (seqObj "list" vs.toArray 0)};refine aa (cj (bK slot_list_sort ⟨_,f,rfl⟩ entry_list_sort (a0r (s:={s with heap:=h1.push (seqObj "list" vs.toArray 0)}) f T2 hw D λos j hs=>⟨_,rfl,?_⟩) (args_list_sort _)));obtain⟨c,u⟩:=a0o (out:=os.toArray) f;refine ai ⟨_,rfl,h h1 _ os c k1 (λb o e=>?_) u j (hs.imp_of_mem λ{x y} B C k=>?_)⟩
 .exact V2 b o (aR (aK e)) (ag _ e)
 .rw[<-d _ (j.mem_iff.mp B),<-d _ (j.mem_iff.mp C)];exact k
end
def b1v(K:PySem.W.Frag):RL:=λxs H Q=>∃(p:Addr) (ys:List V) (rss:LLI),xs=[.ref p]/\(SqL K H p ys∨SqT K H p ys)/\Its H ys rss/\(∀r∈rss,0<r.length) /\
 ∀l zs tss,H l=none->Its H zs tss->tss.Perm rss->C3 tss->zs.Perm ys->Q (.ref l) (upd H l (.lst zs))
theorem Z0:∀{ys:List V}{us:List Value}{rss:LLI},Vals ys us->ys.length=rss.length->∃T:List (Value×V×List Int),T.map (·.1)=us/\T.map (·.2.1)=ys/\T.map (·.2.2)=rss/\∀(i:Nat) t,T[i]?=some t->RelV t.2.1 t.1/\ys[i]?=some t.2.1/\rss[i]?=some t.2.2
 |[],us,rss,r,e=>by
  cases r;cases rss with
  |nil=>exact⟨[],rfl,rfl,rfl,λi t h=>by simp at h⟩
  |cons _ _=>cases e
 |y::ys,us,rss,r,e=>by
  cases r with
  |cons h hs =>
   cases rss with
   |nil=>cases e
   |cons r rss =>
    obtain⟨T,e1,e2,b,c⟩:=Z0 hs (by simpa using e);refine⟨(_,y,r)::T,by rw[aZ,e1],by rw[aZ,e2],by rw[aZ,b],λi t a=>?_⟩;cases i with
    |zero=>cases a;exact⟨h,rfl,rfl⟩
    |succ i=>exact c i t a
theorem O4:∀{T:List (Value×V×List Int)},(∀t∈T,RelV t.2.1 t.1)->Vals (T.map (·.2.1)) (T.map (·.1))
 |[],_=>.nil
 |t::T,h=>.cons (h t au) (O4 λu a=>h u (av _ a))
section
variable {X:Cx}
theorem a7H(K:PySem.W.Frag)(Z:X.K=K:=by rfl):E3 X (.builtin "sorted") (b1v K):=by
 subst Z;intro pins s σ H xs us Q I rv h;obtain⟨p,ys,rss,rfl,r,hI,hw,q⟩:=h;obtain⟨u,rfl,ru⟩:=rv.one;cases ru;obtain⟨its,M,z,l⟩:∃its:List Value,Vals ys its/\ys.length<=sizeLine/\∀(D:Around) (E:Value->Shared->Prop) (B:List Value->Shared->Prop),(∀h1:Heap,(∀b o,s.heap.get? b=some o->h1.get? b=some o)->B its {s with heap:=h1})->wpAny (model X.prog X.w) D (collect (.ref p)) B E s:=by
  rcases r with r|r
  .obtain⟨its,g,pl,z⟩:=I.list r;obtain⟨o,G,F,n,hd⟩:=pl.isList;have m:=g.length;exact⟨its,g,z,λD E B k=>wpAny_collect_seq p (.inl rfl) G F hd (λh' L=>k h' L) (by simp only[aF];omega)⟩
  .obtain⟨its,g,pl,z⟩:=I.tuple r;obtain⟨o,G,F,n,hd⟩:=pl;have m:=g.length;exact⟨its,g,z,λD E B k=>wpAny_collect_seq p (.inr rfl) G F hd (λh' L=>k h' L) (by simp only[aF];omega)⟩
 have hl:=M.length;have TT:=a3b I hI M;obtain⟨T,R,t2,t3,t4⟩:=Z0 M hI.1;refine a1Y l TT hw (by omega) λh1 h' os c k1 k2 e hp hs=>?_;obtain⟨d,p1,p2⟩:=N0 (f:=λt:Value×V×List Int=>t.1) hp R.symm;have N:=I.kept (t':=s.toks) k1;have C:∀t∈d,RelV t.2.1 t.1/\IT H t.2.1 t.2.2/\G2 s.heap t.1=t.2.2:=λt J=>by
  obtain⟨i,hi⟩:=cw.mp (p1.mem_iff.mp J);obtain⟨r1,r2,P⟩:=t4 i t hi;obtain⟨a0,q1,q2⟩:=hI.2 i _ r2;rw[P]at q1;cases q1;have U:its[i]?=some t.1:=by rw[<-R,ba,hi];rfl
  obtain⟨g,b,O,f1,f2,W,Y⟩:=TT.2 i _ U;rw[P]at f1;cases f1;exact⟨r1,q2,by rw[f2];exact D7 W Y⟩
 have A:(d.map (·.2.1)).Perm ys:=by rw[<-t2];exact p1.map _
 have hv:Vals (d.map (·.2.1)) os:=by rw[<-p2];exact O4 λt J=>(C t J).1
 have S:=N.laid (h':=h') (a:=h1.objs.size) (o:=.lst (d.map (·.2.1))) (t':=s.toks) k2 (ao _) ⟨by rw[A.length_eq];exact z,os,c,hv,e⟩;refine⟨.ref h1.objs.size,_,S,rfl,q _ _ (d.map (·.2.2)) (N.hok.fresh (ao _)) ⟨by rw[ae,ae],λi v j=>?_⟩ (by rw[<-t3];exact p1.map _) ?_ A⟩
 .rw[ba]at j⊢;cases e2:d[i]? with
  |none=>rw[e2]at j;cases j
  |some t =>
   rw[e2]at j;cases j;exact⟨t.2.2,rfl,(C t (aI e2)).2.1⟩
 .unfold C3;rw[cf];rw[<-p2,cf]at hs;refine hs.imp_of_mem λ{x y} hx hy w=>?_;rw[(C x hx).2.2,(C y hy).2.2]at w;exact w
theorem a0R(K:PySem.W.Frag){e:Expr}{t:TA}{p pos:Pos}(f:Gl X "sorted")(g:X.mg "sorted"=none)(c:JA X [e] t)(b:X.K=K:=by rfl)(d:starEach [e] X.env=(false,eval e X.env)::starEach [] X.env:=by rfl)(a:(backTo pos (starEach [] X.env)).any (·.1)=false:=by rfl):JE X (.Call (.Name "sorted" p) [e] [] pos) (tCB (b1v K) t):=⟨G3 (a7H K b) f g a1t c.h (by decide) (by decide) d a⟩
end
def DRaw(h:Heap)(d:Addr)(es:Array DictEntry)(ep:Nat):Prop:=∃ob:Obj,h.get? d=some ob/\ob.ExactDict/\ob.data=.dict es ep
theorem DRaw.typ{s:Shared}{d:Addr}{es:Array DictEntry}{ep:Nat}(x:DRaw s.heap d es ep):s.TypeIs (.ref d) "dict":=by
 obtain⟨a,e1,e2,_⟩:=x;exact⟨a,e1,e2.1⟩
theorem DRaw.lt{h:Heap}{d:Addr}{es:Array DictEntry}{ep:Nat}(x:DRaw h d es ep):d<h.objs.size:=by
 obtain⟨a,e1,_⟩:=x;exact aK e1
theorem DRaw.to{h h':Heap}{d:Addr}{es:Array DictEntry}{ep:Nat}(x:DRaw h d es ep)(k:∀a,h.get? d=some a->h'.get? d=some a):DRaw h' d es ep:=by
 obtain⟨a,e1,q⟩:=x;exact⟨a,k _ e1,q⟩
section
variable {prog:Program}{w:World}{A:Around}{E:Value->Shared->Prop}{s:Shared}{it d:Addr}{i ep:Nat}{es:Array DictEntry}
theorem a5M{Q:Value->Shared->Prop}(hs:(d==sysModules)=false)(D:DRaw s.heap d es ep)
  (q:Q (.ref s.heap.objs.size) {s with heap:=s.heap.push {cls:=.type "dict_keyiterator",data:=.fields #[.ref d,.int 0 0,.int es.size 0,.int ep 0]}}):wpAny (model prog w) A (pyIter (.ref d)) Q E s:=by
 have ty:=D.typ;obtain⟨b,e1,_,a⟩:=D;refine wpAny_pyIter_slot ty PySem.F.slot_dict_iter (bK PySem.F.slot_dict_iter ty PySem.F.entry_dict_iter ?body (PySem.F.args_dict_iter_1 _))
 case body =>
  unfold Builtin.«dict.__iter__» Builtin.Dict.dictSlotNone;refine aa (aa (wpAny_notOrdered_dict ty (ai ?_)));show wpAny _ _ (Builtin.Dict.showsAll d>>=λ_=>_) _ _ _;unfold Builtin.Dict.showsAll;rw[ar (λz=>by rw[hs]at z;cases z)];refine aa (ai (aa (fC e1 a (aa (wpAny_dictEpoch e1 a ?_)))));refine aa (bV (ai ⟨_,rfl,"dict_keyiterator",_,⟨_,aH _ rfl,rfl⟩,PySem.F.slot_dict_keyiterator_next.lookup,?_⟩));exact q
theorem a5N{Q:Option Value->Shared->Prop}(I:s.heap.IsKeyIter it d i es.size ep)(D:DRaw s.heap d es ep)(hi:i<es.size)
  (q:∀h',h'.IsKeyIter it d (i+1) es.size ep->Heap.SameBut it s.heap h'->Q (some es[i].key) {s with heap:=h'}):wpAny (model prog w) A (pyNext (.ref it)) Q E s:=by
 obtain⟨f,f1,f2,a⟩:=id I;obtain⟨od,e1,e2,e⟩:=D;unfold pyNext;refine aa (dX (bM (name:=Str.ofString "__next__") I.typeIs PySem.F.slot_dict_keyiterator_next (bK PySem.F.slot_dict_keyiterator_next I.typeIs PySem.F.entry_dict_keyiterator_next ?body (PySem.F.args_dict_keyiterator_next_1 _))))
 case body =>
  refine aa (ai (aa (aa ?_)))
  first|refine aa (dn I.typeIs (ai ?_))|refine aa (dQ I.typeIs (ai ?_))
  refine aa (wpAny_fieldsOf f1 a ?_);rw[show Builtin.Dict_items.ownsTuple "dict_keyiterator"=false by decide,ar aY];show wpAny _ _ (if (Value.ref d==Value.none)=true then _ else _) _ _ _;have b:¬((Value.ref d==Value.none)=true):=aY;rw[ar b];refine aa (ai (aa (fC e1 e ?_)));rw[ar (by simp)];refine aa (ai (aa (wpAny_dictEpoch e1 e ?_)));rw[ar (by simp)];refine ai ?_;dsimp only;rw[show(if (i:Int)<0 then(none:Option DictEntry)else es[(i:Int).toNat]?)=some es[i] by rw[ar (by omega),bA,bJ hi]];dsimp only;refine aa ?_
  first|refine aa (dn I.typeIs (ai ?_))|refine aa (dQ I.typeIs (ai ?_))
  refine aa (wpAny_isOneOf_keyiter I.typeIs ?_);show wpAny _ _ (setField (.ref it) 1 (rawInt ((i:Int)+1))>>=λ_=>_) _ _ _;have c:(s.heap.update it (Obj.mapFields λz=>z.setIfInBounds 1 (rawInt ((i:Int)+1)))).IsKeyIter it d (i+1) es.size ep :=
   ⟨_,cL _ f1 (eG (cO a _)),(fv ..).trans f2,by rw[cO a];simp[rawInt]⟩
  refine aa (dN f1 a (by simp) (aa (cj ?_)));refine aa (wpAny_isOneOf_keyiter (s:={s with heap:=s.heap.update it (Obj.mapFields λz=>z.setIfInBounds 1 (rawInt ((i:Int)+1)))}) c.typeIs ?_);exact ai (ai ⟨_,rfl,ai (q _ c (cE ..))⟩)
theorem a8q{Q:Option Value->Shared->Prop}(g:A.handled=none)(I:s.heap.IsKeyIter it d i es.size ep)(D:DRaw s.heap d es ep)(hi:es.size<=i)
  (q:∀h',Heap.ExtBut it s.heap h'->Q none {s with heap:=h'}):wpAny (model prog w) A (pyNext (.ref it)) Q E s:=by
 obtain⟨h,f1,f2,f⟩:=id I;obtain⟨od,e1,e2,e⟩:=D;unfold pyNext;refine aa (dX (bM (name:=Str.ofString "__next__") I.typeIs PySem.F.slot_dict_keyiterator_next (bK PySem.F.slot_dict_keyiterator_next I.typeIs PySem.F.entry_dict_keyiterator_next ?body (PySem.F.args_dict_keyiterator_next_1 _))))
 case body =>
  refine aa (ai (aa (aa ?_)))
  first|refine aa (dn I.typeIs (ai ?_))|refine aa (dQ I.typeIs (ai ?_))
  refine aa (wpAny_fieldsOf f1 f ?_);rw[show Builtin.Dict_items.ownsTuple "dict_keyiterator"=false by decide,ar aY];show wpAny _ _ (if (Value.ref d==Value.none)=true then _ else _) _ _ _;have c:¬((Value.ref d==Value.none)=true):=aY;rw[ar c];refine aa (ai (aa (fC e1 e ?_)));rw[ar (by simp)];refine aa (ai (aa (wpAny_dictEpoch e1 e ?_)));rw[ar (by simp)];refine ai ?_;dsimp only;rw[show(if (i:Int)<0 then(none:Option DictEntry)else es[(i:Int).toNat]?)=none by rw[ar (by omega),bA,dt hi]];dsimp only;refine aa ?_
  first|refine aa (dn I.typeIs (ai ?_))|refine aa (dQ I.typeIs (ai ?_))
  show wpAny _ _ (setField (.ref it) 0 .none>>=λ_=>_) _ _ _;refine aa (dN f1 f (by simp) ?_);show wpAny _ _ (newExc (.type "StopIteration") []>>=λ_=>_) _ _ _;refine aa ?_;simp only[newExc,newTuple];refine aa (bV ?_ (by size_fits));refine aa (m:=firstArgMember _ _) (wpAny_of_eq (a:=Value.none) (by first|rfl | (simp only[firstArgMember];rfl)) ?_);refine bV ?_ (by size_fits);simp only[raiseNew];refine aa (wpAny_handled ?_);rw[show A.in1.handled=none from g];refine aa (ai (wpAny_throw ?_));refine aa (fJ (T:="StopIteration") (b:=true) ⟨_,aH _ rfl,rfl⟩ isSubtype_stop ?_);exact ai (q _ (((cE ..).extBut.push _).push _))
theorem a9v(m:A.handled=none)(J d:Addr)(f:d≠J)(es:Array DictEntry)(ep:Nat) :
  Walks prog w A J [J,d] [J] es.size (λi v=>∃e,es[i]?=some e/\v=e.key) (λi h=>h.IsKeyIter J d i es.size ep/\DRaw h d es ep) where
 sub:=λb c=>by rw[aQ.mp c];exact au
 frame:=λi h h' st g=>⟨st.1.at λo e=>g J au o e,st.2.to λo e=>g d (av _ au) o e⟩
 item:=λi s Q E hi st a=>a5N st.1 st.2 hi λh' k j=>a _ h' s.toks ⟨es[i],by simp[hi],rfl⟩ ⟨k,st.2.to λo e=>j.extBut d o f e⟩ λb o c e=>j.extBut b o (λz=>c (by rw[z];exact au)) e
 done:=λs Q E st a=>a8q m st.1 st.2 (ao _) λh' l=>a h' s.toks λb o c e=>l b o (λz=>c (by rw[z];exact au)) e
 self:=λ_ _ _ _ st a=>wpAny_pyIter_keyiter st.1 a
theorem b3M(hs:(d==sysModules)=false)(es:Array DictEntry)(ep:Nat):KdlSrc prog w "dict" d d es.size (λi v=>∃e,es[i]?=some e/\v=e.key) (λh=>DRaw h d es ep) where
 type:=λ_ D=>D.typ
 there:=λ_ D=>⟨D.lt,D.lt⟩
 keep:=λ_ _ D b=>D.to λo e=>b d (.inl rfl) o e
 notList:=by decide
 notTuple:=by decide
 hint:=λ_ _ _ _ D q=>kdl_hint_dict D.typ q
 iter:=λ_ _ a D=>⟨_,_,λ_ _ q=>a5M hs D q,a9v a _ d (aR D.lt) es ep,⟨⟨_,aH _ rfl,rfl,rfl⟩,D.to λo e=>ag _ e⟩⟩
end
section
variable {prog:Program}{w:World}{A:Around}{E:Value->Shared->Prop}{s:Shared}
theorem V7{x:Value}{vs:List Value}{rss:LLI}{Q:Value->Shared->Prop}(g:∀(q:Value->Shared->Prop) (l:List Value->Shared->Prop),(∀(h1:Heap) (tk:Nat),(∀b o,s.heap.get? b=some o->h1.get? b=some o)->l vs {s with heap:=h1,toks:=tk})->wpAny (model prog w) A.in1 (collect x) l q s)
  (T:TupsAre s.heap vs rss) (hw:∀r∈rss,0<r.length) (C:vs.length<=sizeLine)
  (h:∀(h1 h':Heap) (os:List Value) (c tk:Nat),(∀b o,s.heap.get? b=some o->h1.get? b=some o)->(∀b o,h1.get? b=some o->h'.get? b=some o)->h'.get? h1.objs.size=some (seqObj "list" os.toArray c)->os.Perm vs->os.Pairwise (λx y=>HT.lexLt (G2 s.heap y) (G2 s.heap x)=false)->Q (.ref h1.objs.size) {s with heap:=h',toks:=tk}) :
  wpAny (model prog w) A (call (.builtin "sorted") [x]) Q E s:=by
 refine eX kind_sorted plain_sorted entry_sorted (args_sorted1 _) ?_;unfold Builtin.«sorted»;refine aa (m:=checkCount "sorted" 1 1 _) (ai ?_);refine aa (g _ _ λh1 tk k1=>?_);refine aa (wpAny_newList ?_ (by omega));have f:(h1.push (seqObj "list" vs.toArray 0)).get? h1.objs.size=some (seqObj "list" vs.toArray 0):=aH _ rfl;have a:∀b its,IsTup s.heap b its->IsTup (h1.push (seqObj "list" vs.toArray 0)) b its:=λb its ⟨o,q1,D⟩=>⟨o,ag _ (k1 _ _ q1),D⟩;have T2:=T.keeps a;have d:∀v∈vs,G2 (h1.push (seqObj "list" vs.toArray 0)) v=G2 s.heap v:=λv u=>by
  obtain⟨i,hi⟩:=cw.mp u;obtain⟨r,b,its,_,e2,n,p⟩:=T.2 i v hi;rw[e2,D7 n p,D7 (a b its n) p]
 show wpAny _ _ _ _ _ {s with heap:=h1.push (seqObj "list" vs.toArray 0),toks:=tk};refine aa (cj (bK slot_list_sort ⟨_,f,rfl⟩ entry_list_sort (a0r (s:={s with heap:=h1.push (seqObj "list" vs.toArray 0),toks:=tk}) f T2 hw C λos j hs=>⟨_,rfl,?_⟩) (args_list_sort _)));obtain⟨c,t⟩:=a0o (out:=os.toArray) f;refine ai ⟨_,rfl,h h1 _ os c tk k1 (λb o e=>?_) t j (hs.imp_of_mem λ{x y} z B k=>?_)⟩
 .exact V2 b o (aR (aK e)) (ag _ e)
 .rw[<-d _ (j.mem_iff.mp z),<-d _ (j.mem_iff.mp B)];exact k
end
noncomputable def IK(rss:LLI):List (List Key):=rss.map λr=>r.map Sum.inl
def a7c:RL:=λxs H Q=>∃(d:Addr) (kvs:List (List Key×V)) (rss:LLI),xs=[.ref d]/\H d=some (.dT kvs)/\kvs.map (·.1)=IK rss/\(∀r∈rss,0<r.length) /\
 ∀l zs tss,H l=none->Its H zs tss->tss.Perm rss->C3 tss->Q (.ref l) (upd H l (.lst zs))
theorem b4G{H:Hp}:∀{kvs:List (List Key×V)}{xs:List (List Key×Addr×Value)}{rss:LLI},KT H kvs xs->kvs.map (·.1)=IK rss->Its H (xs.map λx=>V.ref x.2.1) rss/\xs.length=rss.length:=by
 intro kvs xs rss r e;induction r generalizing rss with
 |nil =>
  cases rss with
  |nil=>exact⟨⟨rfl,λi v z=>by simp at z⟩,rfl⟩
  |cons _ _=>cases e
 |@cons p q ps qs h _ c =>
  cases rss with
  |nil=>cases e
  |cons r rss =>
   injection e with e1 e2
   obtain⟨h1,h2⟩:=c e2;refine⟨⟨by rw[ae,a',a',h2],λi v b=>?_⟩,by rw[a',a',h2]⟩;cases i with
   |zero =>
    cases b;refine⟨r,rfl,q.2.1,rfl,?_⟩;have a:=h.2.1;have e1:p.1=r.map Sum.inl:=e1;rw[e1,cU]at a;exact a
   |succ i=>exact h1.2 i v b
theorem a0Z{α:Type}(f:α->Addr):∀xs:List α,Vals (xs.map λx=>V.ref (f x)) (xs.map λx=>Value.ref (f x))
 |[]=>.nil
 |x::xs=>.cons rfl (a0Z f xs)
section
variable {X:Cx}
theorem a7G(hc:X.calm=true):E3 X (.builtin "sorted") a7c:=by
 intro pins s σ H xs us Q I rv h;obtain⟨d,kvs,rss,rfl,hd,hk,hw,q⟩:=h;obtain⟨u,rfl,ru⟩:=rv.one;cases ru;obtain⟨hz,z,j,S,ob,es,ep,e1,e2,Z,M,N⟩:=I.hok _ _ hd;obtain⟨hI,P⟩:=b4G S hk;have a0:kvs.length=j.length:=Paired.length S;have r:es.size=j.length:=by rw[<-ay,M,ae]
 have D:DRaw s.heap d es ep:=⟨ob,e1,e2,Z⟩;have J:Vals (j.map λx=>V.ref x.2.1) (j.map λx=>Value.ref x.2.1):=a0Z (λx:List Key×Addr×Value=>x.2.1) j;have w:∀(K:Value->Shared->Prop) (C:List Value->Shared->Prop),(∀(h1:Heap) (tk:Nat),(∀b o,s.heap.get? b=some o->h1.get? b=some o)->C (j.map λx=>Value.ref x.2.1) {s with heap:=h1,toks:=tk})->wpAny (model X.prog X.w) X.A.in1 (collect (.ref d)) C K s:=λK C k=>by
  refine kdu_collect (b3M z es ep) (show X.A.in1.handled=none from I.ok.hd hc) D (by omega) λh' tk l kp m=>?_;have:l.toList=j.map λx=>Value.ref x.2.1:=by
   refine fB λi=>?_;rw[ax,ba];by_cases hi:i<j.length
   .have hia:i<l.size:=by rw[m.1,r];exact hi
    obtain⟨e,he,F⟩:=m.2 i l[i] (by simp[hia]);have g:es.toList[i]?=some e:=by rw[ax];exact he
    rw[M,ba,aj hi]at g;injection g with g
    rw[bJ hia,aj hi,F,<-g];rfl
   .rw[dt (by rw[m.1,r];omega),cM (by omega)];rfl
  rw[this];exact k h' tk kp
 have hl:=J.length;have TT:=a3b I hI J;obtain⟨T,W,t2,t3,t4⟩:=Z0 J hI.1;refine V7 w TT hw (by rw[ae];omega) λh1 h' os c tk k1 k2 e hp hs=>?_;obtain⟨n,p1,p2⟩:=N0 (f:=λt:Value×V×List Int=>t.1) hp W.symm;have L:=I.kept (t':=tk) k1;have B:∀t∈n,RelV t.2.1 t.1/\IT H t.2.1 t.2.2/\G2 s.heap t.1=t.2.2:=λt E=>by
  obtain⟨i,hi⟩:=cw.mp (p1.mem_iff.mp E);obtain⟨r1,r2,U⟩:=t4 i t hi;obtain⟨a1,q1,q2⟩:=hI.2 i _ r2;rw[U]at q1;cases q1;have N:(j.map λx=>Value.ref x.2.1)[i]?=some t.1:=by rw[<-W,ba,hi];rfl
  obtain⟨r',b,R,f1,f2,f3,f4⟩:=TT.2 i _ N;rw[U]at f1;cases f1;exact⟨r1,q2,by rw[f2];exact D7 f3 f4⟩
 have G:(n.map (·.2.1)).length<=sizeLine:=by
  have O:=(p1.map (λt:Value×V×List Int=>t.2.1)).length_eq;rw[t2]at O;simp only[ae]at O⊢;omega
 have F:Vals (n.map (·.2.1)) os:=by rw[<-p2];exact O4 λt E=>(B t E).1
 have Y:=L.laid (h':=h') (a:=h1.objs.size) (o:=.lst (n.map (·.2.1))) (t':=tk) k2 (ao _) ⟨G,os,c,F,e⟩;refine⟨.ref h1.objs.size,_,Y,rfl,q _ _ (n.map (·.2.2)) (L.hok.fresh (ao _)) ⟨by rw[ae,ae],λi v p=>?_⟩ (by rw[<-t3];exact p1.map _) ?_⟩
 .rw[ba]at p⊢;cases e2:n[i]? with
  |none=>rw[e2]at p;cases p
  |some t =>
   rw[e2]at p;cases p;exact⟨t.2.2,rfl,(B t (aI e2)).2.1⟩
 .unfold C3;rw[cf];rw[<-p2,cf]at hs;refine hs.imp_of_mem λ{x y} hx hy A=>?_;rw[(B x hx).2.2,(B y hy).2.2]at A;exact A
end
end L2
namespace L2
open PySem PySem.Spec PyProof.Rows
def b5O(i j:Int):Prop:=0<j/\j<2 ^ 64
variable {X:Cx}
theorem b1R:OpR X (binaryOp .FloorDiv) (rI b5O λi j=>.int (i / j)):=opI λi j _ _ _ _ _ a q=>by
 have h1:(0:Int)<j:=a.1;have h2:j<2 ^ 64:=a.2;refine floordiv_int (by omega) (by rw[Int.fdiv_eq_ediv_of_nonneg i (by omega)];exact q) (.inl (PyProof.noPylong_of_log2 ?_));have:j.natAbs.log2<64:=(Nat.log2_lt (by omega)).mpr (by omega);omega
theorem b4M{a b:Expr}{ta tb:TE}{pos:Pos}(c:JE X a ta)(d:JE X b tb):JE X (.BinOp a .FloorDiv b pos) (tOp (rI b5O λi j=>.int (i / j)) ta tb):=⟨a0q b1R c.h d.h⟩
end L2
namespace L2
open PySem PySem.Spec PyProof.Rows PySem.W
section
variable {prog:Program}{w:World}{A:Around}{E:Value->Shared->Prop}{s:Shared}{d:Addr}{ep:Nat}{es:Array DictEntry}
theorem b3N{Q:Value->Shared->Prop}(hs:(d==sysModules)=false)(D:DRaw s.heap d es ep)(b:(es.size:Int)<2 ^ 63)
  (q:Q (.int es.size (s.toks+1)) {s with toks:=s.toks+1+1}):wpAny (model prog w) A (call (.builtin "len") [.ref d]) Q E s:=by
 refine eX kind_len plain_len entry_len (args_len1 _) ?_;have ty:=D.typ;obtain⟨c,e1,_,a⟩:=D;unfold Builtin.«len»;refine aa (m:=oneArg "len" _) (ai ?_);refine aa (m:=callSpecial? (.ref d) (Str.ofString "__len__")) (bM (name:=Str.ofString "__len__") ty PySem.F.slot_dict_len (bK PySem.F.slot_dict_len ty PySem.F.entry_dict_len ?body (PySem.F.args_dict_len_1 _)))
 case body =>
  show wpAny _ _ (dictSize d>>=λn=>_) _ _ _;unfold dictSize;refine aa (aa (fC e1 a (ai ?_)));show wpAny _ _ (Builtin.Dict.pendingCount d>>=λn=>_) _ _ _;refine aa (wpAny_pendingCount_other hs (wpAny_ret_mkInt ?_));show wpAny _ _ _ _ _ {s with toks:=s.toks+1};rw[show((es.size:Nat):Int)+((0:Nat):Int)=(es.size:Int) by simp];refine aa (cj (ai (aa (wpAny_letGo ?_))));show wpAny _ _ (if ((es.size:Nat):Int)<0 then _ else _) _ _ _;rw[ar (by omega)];show wpAny _ _ (if ((es.size:Nat):Int) ≥ 2 ^ 63 then _ else _) _ _ _;rw[ar (by omega)];exact aa (wpAny_mkInt (ai ⟨_,rfl,q⟩))
end
def b5v:RL:=λxs H Q=>∃(a:Addr) (kvs:List (List Key×V)),xs=[V.ref a]/\H a=some (.dT kvs)/\Q (.int kvs.length) H
section
variable {X:Cx}
theorem b0p:E3 X (.builtin "len") b5v:=by
 intro pins s σ H xs p Q I r h;obtain⟨a,kvs,rfl,j,q⟩:=h;obtain⟨u,rfl,n⟩:=r.one;cases n;obtain⟨k,b,f,l,m,es,ep,e1,e2,g,i,o⟩:=I.hok _ _ j;have d:kvs.length=f.length:=Paired.length l;have c:es.size=f.length:=by rw[<-ay,i,ae]
 have e:=k;rw[a_]at e;refine b3N b ⟨m,e1,e2,g⟩ (by omega) ?_;rw[c,<-d];exact⟨.int kvs.length,H,I.tok _,⟨_,rfl⟩,q⟩
variable {a b c e o i value:Expr}{es rest:List Expr}{ta tb tc te to td ty tv:TE}{t:TA}{pos p apos cpos p2 pos' tpos:Pos}
theorem b4L(d:Gl X "len")(f:X.mg "len"=none)(b:JA X [e] t)(c:starEach [e] X.env=(false,eval e X.env)::starEach [] X.env:=by rfl)(a:(backTo pos (starEach [] X.env)).any (·.1)=false:=by rfl):JE X (.Call (.Name "len" p) [e] [] pos) (tCB b5v t):=⟨G3 b0p d f b3g b.h (by decide) (by decide) c a⟩
theorem b2r(f:Gl X "sorted")(g:X.mg "sorted"=none)(b:JA X [e] t)(c:X.calm=true:=by rfl)(d:starEach [e] X.env=(false,eval e X.env)::starEach [] X.env:=by rfl)(a:(backTo pos (starEach [] X.env)).any (·.1)=false:=by rfl):JE X (.Call (.Name "sorted" p) [e] [] pos) (tCB a7c t):=⟨G3 (a7G c) f g a1t b.h (by decide) (by decide) d a⟩
theorem b4N:JE X (.Dict [] [] pos) b0O:=⟨b1M⟩
theorem b7c(c:X.A.units+60<cLine)(hi:JE X i ty)(b:JE X o td)(a:behindInMarks .In o=false):JE X (.Compare i [.In] [o] pos) (b7R ty td):=⟨b6A (b6C (by omega) hi.h b.h) a⟩
theorem a9W(c:X.A.units+60<cLine)(hi:JE X i ty)(b:JE X o td)(a:behindInMarks .NotIn o=false):JT X (.Compare i [.NotIn] [o] pos) (tB (a7X ty td)):=⟨b6h (a9E (by omega) hi.h b.h) a⟩
theorem b4I(c:X.A.units+60<cLine)(a:JE X o td)(hi:JE X i ty)(b:JE X value tv)(hs:swapsWith value (some (.Subscript o i pos')) pos.line X.env=pure false:=by rfl):JS X (.Assign [.Subscript o i pos'] value pos) (b5p td ty tv):=⟨b3X (by omega) a.h hi.h b.h hs⟩
theorem M3(K:PySem.W.Frag){f:Str}(c:JE X e ta)(a:X.K=K:=by rfl)(b:attributeBase e f X.env (eval e X.env)=eval e X.env:=by rfl):JE X (.Attribute e f pos) (b7Q K ta f):=by
 subst a;exact⟨b6z c.h b⟩
theorem T8(K:PySem.W.Frag){f:Str}(b:JE X o ta)(c:JE X value tv)(a:X.K=K:=by rfl)(hs:swapsWith value (some (.Attribute o f pos')) pos.line X.env=pure false:=by rfl):JS X (.Assign [.Attribute o f pos'] value pos) (b7V K ta tv f):=by
 subst a;exact⟨b6m b.h c.h hs⟩
end
structure MethOk(P:Program)(w:World)(K:PySem.W.Frag)(mg:Str->Option Value)(base:Heap)(C:Addr)(m:Str)(k:Nat)(ps:List Str)(sp:Sp):Prop where
 ex:∃f fd,Meth K C m f/\Binds K fd ps []/\FnOk P w K mg base CX0 k f fd ps sp
structure MethAt(K:PySem.W.Frag)(C:Addr)(m qual:Str)(st:Stmt)(ps:List Str):Prop where
 ex:∃f fd,Meth K C m f/\Fun K m qual st f fd/\Binds K fd ps []
structure MakeOk(P:Program)(w:World)(K:PySem.W.Frag)(mg:Str->Option Value)(base:Heap)(x:Str)(C:Addr)(k:Nat)(ps:List Str)(sp:Sp):Prop where
 ex:∃f fd,mg x=some (.ref C)/\Mk K C f/\Binds K fd ps []/\FnOk P w K mg base CX0 k f fd ps sp
section
variable {P:Program}{w:World}{K:PySem.W.Frag}{mg:Str->Option Value}{base:Heap}{C:Addr}{m qual:Str}{st:Stmt}{N ps:List Str}{k:Nat}{sp:Sp}
theorem MethAt.fnJ(F:MethAt K C m qual st ps)(S:FnScope N ps (A1 st))(len:∀vs H Q E,sp vs H Q E->vs.length=ps.length)
  (b:∀(a:Value) (f:Addr) (A:Around) (outer:List Env) (s:Shared) (H:Hp) (vs:List V) (Q:VK) (E:XK),Room k (A.deeper (envOfC qual (A1 st) s.heap.objs.size f a))->sp vs H Q E ->
   ∃t,JB (V9 CX0 P w K mg base N qual (A1 st) f a A outer s H E).nox (E8 st) t/\t {nx:=λ_ H'=>Q .non H',rt:=Q} (start N vs) H):MethOk P w K mg base C m (k+1) ps sp:=by
 obtain⟨f,fd,h1,h2,c⟩:=F.ex;exact⟨f,fd,h1,c,h2.okJ S len λa=>b a f⟩
theorem MethOk.make{x:Str}(O:MethOk P w K mg base C "__init__" k ps sp)(d:mg x=some (.ref C))(c:PySem.W.makesIn K C=true)(b:PySem.W.keepIn K (.ref C)=true):MakeOk P w K mg base x C k ps sp:=by
 obtain⟨f,fd,h1,h2,a⟩:=O.ex;exact⟨f,fd,d,⟨c,h1.at_,h1.fn,b⟩,h2,a⟩
end
section
variable {X:Cx}{C:Addr}{m x:Str}{k:Nat}{ps:List Str}{sp:Sp}{o e:Expr}{es:List Expr}{ta:TE}{t:TA}{pos apos p:Pos}
theorem b7g{pl:Sem Bool}(O:MethOk X.prog X.w X.K X.mg X.base C m k ps sp)(c:Cls X.K C)(j:Room k X.A)(i:JE X o ta)(h:JA X (e::es) t)
  (b:starEach (e::es) X.env=(false,eval e X.env)::starEach es X.env:=by rfl) (a:(backTo pos (starEach es X.env)).any (·.1)=false:=by rfl)
  (l:eval (.Call (.Attribute o m apos) (e::es) [] pos) X.env=(eval o X.env>>=λd=>standAt apos.atName>>=λ_=>holding [d] (getMethod d m pl)>>=λp=>match p with | (f,first)=>callWith pos f first (backTo pos (starEach (e::es) X.env)) (backToKw pos (keywordEach [] X.env))):=by rfl) :
  JE X (.Call (.Attribute o m apos) (e::es) [] pos) (a1A C m sp [] E0 ta t):=by
 obtain⟨f,fd,h1,h2,g⟩:=O.ex;exact⟨b4k (pl:=pl) i.h c h1 g j h2 .nil a8v h.h b a l⟩
theorem a4W{pl:Sem Bool}(O:MethOk X.prog X.w X.K X.mg X.base C m k ps sp)(c:Cls X.K C)(e:Room k X.A)(d:JE X o ta)
  (g:eval (.Call (.Attribute o m apos) [] [] pos) X.env=(eval o X.env>>=λa=>standAt apos.atName>>=λ_=>holding [a] (getMethod a m pl)>>=λp=>match p with | (f,first)=>callWith pos f first (backTo pos (starEach [] X.env)) (backToKw pos (keywordEach [] X.env))):=by rfl) :
  JE X (.Call (.Attribute o m apos) [] [] pos) (a1A C m sp [] E0 ta a1K):=by
 obtain⟨f,fd,h1,h2,b⟩:=O.ex;exact⟨b1K (pl:=pl) d.h c h1 b e h2 .nil a8v g⟩
theorem b7h(O:MakeOk X.prog X.w X.K X.mg X.base x C k ps sp)(j:Room (k+1) X.A)(i:Gl X x)(g:JA X (e::es) t)(a:(x==("__debug__" : Str))=false:=by decide)
  (h:starEach (e::es) X.env=(false,eval e X.env)::starEach es X.env:=by rfl) (b:(backTo pos (starEach es X.env)).any (·.1)=false:=by rfl) :
  JE X (.Call (.Name x p) (e::es) [] pos) (b5k C sp [] E0 t):=by
 obtain⟨f,fd,c,h1,h2,d⟩:=O.ex;exact⟨b4l h1 d j i c h2 .nil a8v g.h a h b⟩
end
end L2
namespace L2
open PySem PySem.Spec PyProof.Rows
theorem a2P{K:PySem.W.Frag}{src:List (Option Nat)}{σ caps:St}{Q:VK}{a:Addr}{vs:List V}{rss:LLI}{H:Hp}{k:TT}(t:List Int->Bool)(n:vs.length<=sizeLine)(b:∀H',Same H H'->SqL K H' a vs)(hI:Its H vs rss)(d:B1 src σ=none::caps)
  (g:∀v r H1 j,r∈rss->IT H1 v r->Same H H1->(∀H2,Same H1 H2->j (t r) H2)->k (some v::caps) H1 j) (hd:∀H1 p l,Same H H1->H1 p=none->Its H1 l (rss.filter t)->Q (.ref p) (upd H1 p (.lst l))):E9 src (B0 0) k (N5 0) σ Q (Itl K a) H:=by
 refine a0j (xs:=vs) (by omega) (λi ys H'=>Same H H'/\Its H' ys ((rss.take i).filter t)) ⟨Same.refl H,by simpa using Its.nil⟩ (λi ys H' _ h=>⟨b H' h.1,by rw[h.2.1];exact bj (bB _ _) (bI _ _)⟩) ?_ ?_
 .rintro i x ys H' hx ⟨s,hy⟩;obtain⟨r,m,f,c⟩:=hI.mem hx;show Sub _ ((B1 src σ).set 0 (some x))/\_;rw[d];refine⟨Sub.one,g x r H' _ m (c.same s) s λH2 s2=>?_⟩;rw[bu,f];cases e:t r with
  |true=>exact⟨_,rfl,s.trans s2,by simpa[e]using(hy.same s2).snoc ((c.same s).same s2)⟩
  |false=>exact⟨s.trans s2,by simpa[e]using hy.same s2⟩
 .rintro ys H' ⟨s,hy⟩ p hp;rw[hI.1,bx]at hy;exact hd H' p ys s hp hy
def Prs(H:Hp)(ps:List V)(f:Nat->List Int)(js:List Nat):Prop:=ps.length=js.length/\∀(i:Nat) (q:V),ps[i]?=some q->∃(j:Nat) (b:Addr) (v:V),js[i]?=some j/\q=.ref b/\H b=some (.tup [.int j,v])/\IT H v (f j)
theorem Prs.same{H H':Hp}{ps:List V}{f:Nat->List Int}{a:List Nat}(h:Prs H ps f a)(s:Same H H'):Prs H' ps f a :=
 ⟨h.1,λi q e=>let ⟨j,b,v,e1,e2,e3,e4⟩:=h.2 i q e;⟨j,b,v,e1,e2,s _ _ e3,e4.same s⟩⟩
theorem Prs.nil{H:Hp}{f:Nat->List Int}:Prs H [] f []:=⟨rfl,λi q e=>by simp at e⟩
theorem Prs.snoc{H:Hp}{ps:List V}{f:Nat->List Int}{c:List Nat}{j:Nat}{b:Addr}{v:V}(h:Prs H ps f c)(d:H b=some (.tup [.int j,v]))(g:IT H v (f j)):Prs H (ps++[.ref b]) f (c++[j]):=by
 refine⟨by rw[ak,ak,h.1];rfl,λi q e=>?_⟩;rcases fV i ps.length with hi|hi
 .rw[bq hi]at e;obtain⟨k,b',l,e1,e2⟩:=h.2 i q e;exact⟨k,b',l,by rw[bq (by rw[<-h.1];exact hi)];exact e1,e2⟩
 .rw[aW hi]at e;have a:i-ps.length=0:=by
   rcases Nat.eq_zero_or_pos (i-ps.length)with z|z
   .exact z
   .rw[cM (by simp;omega)]at e;cases e
  rw[a]at e;cases e;exact⟨j,b,v,by rw[aW (by rw[<-h.1];exact hi),<-h.1,a];rfl,rfl,d,g⟩
section
variable {X:Cx}{k:Nat}{ps:List Str}{sp:Sp}{x y:Str}{p pos cpos pos' ip sp':Pos}{e:Expr}{es:List Expr}{t:TA}{i:Nat}{z:Int}{jj:Nat}
end
end L2
namespace L2
open PySem PySem.Spec PyProof.Rows PySem.W
def Itd(d:Addr)(ob:Obj)(kvs:List (List Key×V)):It:=⟨λi H=>H d=some (.frz ob (.dT kvs))/\i<kvs.length,λi H v H'=>H'=H/\∃p a,kvs[i]?=some p/\v=.ref a/\H a=some (.tup (p.1.map kV)),λi H=>H d=some (.frz ob (.dT kvs))/\kvs.length<=i⟩
theorem a9F{α β:Type}{F:α->β->Prop}{c:List α}{d:List β}(r:Paired F c d):∀{i:Nat}{a:α},c[i]?=some a->∃b,d[i]?=some b/\F a b:=by
 induction r with
 |nil=>intro i a e;simp at e
 |cons h _ f =>
  intro i a e;cases i with
  |zero=>cases e;exact⟨_,rfl,h⟩
  |succ i=>exact f e
theorem a6K{P:Program}{w:World}{K:PySem.W.Frag}{tg:Expr}(d it:Addr)(a:Obj)(es:Array DictEntry)(ep:Nat)(kvs:List (List Key×V))(D:a.ExactDict)(hd:a.data=.dict es ep)(U:es.size=kvs.length):Turn P w K tg (Itd d a kvs) [it] it (λi h=>h.IsKeyIter it d i es.size ep) where
 mem:=by simp
 obj:=λi h st b f=>by
  have e:b=it:=by simpa using f
  subst e;obtain⟨o,e,c,d⟩:=st;exact⟨o,e,λv z=>by rw[d]at z;cases z⟩
 keep:=λi h h' st k=>st.at λo e=>k it (by simp) o e
 item:=by
  intro X x hw u B i pins s σ H E I l st y;subst x hw u;obtain⟨g,hi⟩:=y;obtain⟨e1,W,C,ts,R,A,N,M,q1,Y,m,F,Z⟩:=(show ObjOk X.prog X.w H s.heap d (.frz a (.dT kvs))from I.hok d _ g);have L:A=a:=bH (q1.symm.trans e1);rw[L,hd]at m;injection m with m _
  obtain⟨n,f1,f2,p,r,t⟩:=l it (by simp);have j:i<es.size:=by omega
  refine a5N st ⟨a,e1,D,hd⟩ j λh' st' T=>?_;have G:Inv X pins σ H {s with heap:=h'}:=I.turned (t':=s.toks) (λb o f e=>T.extBut b o f e) n f1 p r t;obtain⟨o,e,c,dd⟩:=id st';obtain⟨q,Q,r1,S,r3⟩:=a9F R (aj hi);have O:es[i].key=.ref q.2.1:=by
   have h1:es.toList[i]?=some es[i]:=by simp[j]
   rw[<-m]at F;rw[F,ba,Q]at h1;injection h1 with h1
   rw[<-h1];rfl
  exact⟨_,rfl,a8K (s:={s with heap:=h'}) e c dd (by decide) ⟨.ref q.2.1,H,G,by rw[O];rfl,⟨rfl,_,_,aj hi,rfl,S⟩,st',λb f=>(l b f).1⟩⟩
 done:=by
  intro X x hw u B i pins s σ H E I l st y;subst x hw u;obtain⟨g,hi⟩:=y;obtain⟨e1,_⟩:=(show ObjOk X.prog X.w H s.heap d (.frz a (.dT kvs))from I.hok d _ g);obtain⟨n,f1,f2,p,r,t⟩:=l it (by simp);exact a8q (I.ok.hd B) st ⟨a,e1,D,hd⟩ (by omega) λh' J=>⟨rfl,I.turned (t':=s.toks) (λb o f e=>J b o f e) n f1 p r t⟩
 self:=λ_ _ _ _ _ st h=>wpAny_pyIter_keyiter st h
def b5K(tl:TE):TI:=λσ H R=>tl σ H λx H1=>∃d kvs,x=.ref d/\H1 d=some (.dT kvs)/\∀ob,R (Itd d ob kvs) (upd H1 d (.frz ob (.dT kvs)))
section
variable {X:Cx}{tg:Expr}
theorem b4g{l:Expr}{tl:TE}(y:PE X l tl):PI X tg l (b5K tl):=by
 intro pins s σ H R I h;refine thn (y pins s σ H _ I h) λv s1 ⟨x,H1,n,C,q1⟩=>?_;obtain⟨d,kvs,rfl,hd,q⟩:=q1;cases C;obtain⟨B,c,m,r,f,es,ep,e1,e2,i,p,u⟩:=(show ObjOk X.prog X.w H1 s1.heap d (.dT kvs)from n.hok _ _ hd);have j:kvs.length=m.length:=Paired.length r;have A:es.size=kvs.length:=by rw[j,<-ay,p,ae]
 have k:KT (upd H1 d (.frz f (.dT kvs))) kvs m:=Paired.imp' (λa b ⟨D,t,E⟩=>⟨D,by rw[A3 (K0 t hd (by intro z;cases z))];exact t,E⟩) r;have g:Inv X pins σ (upd H1 d (.frz f (.dT kvs))) s1:=n.write (x:=d) (e:=d) (t':=s1.toks) (by rw[hd];trivial) (.inl rfl) (λ_ _ _ q=>q) ⟨_,e1⟩ ⟨e1,B,c,m,k,f,es,ep,e1,e2,i,p,u⟩;refine a5M c ⟨f,e1,e2,i⟩ ?_;refine⟨s1.heap.objs.size,[s1.heap.objs.size],_,_,_,rfl,g.kept (t':=s1.toks) λb o e=>ag _ e,a6K d _ f es ep kvs e2 i A,⟨_,aH _ rfl,rfl,rfl⟩,λb w=>?_,q f⟩;have e:b=s1.heap.objs.size:=by simpa using w
 subst e;exact g.fpOk (ao _) (g.hok.fresh (ao _))
theorem b4J{l:Expr}{tl:TE}(a:JE X l tl):JI X tg l (b5K tl):=⟨b4g a.h⟩
end
theorem b0l{src:List (Option Nat)}{g:TG}{k:TT}{te:TE}{σ:St}{Q:VK}{d:Addr}{j:Obj}{kvs:List (List Key×V)}{H1:Hp}(s:kvs.length<=sizeLine)(c:Nat->List V->Hp->Prop)(h0:c 0 [] H1)
  (h:∀i ys H,i<=kvs.length->c i ys H->H d=some (.frz j (.dT kvs))/\ys.length<=i)
  (hs:∀i p a ys H,kvs[i]?=some p->H a=some (.tup (p.1.map kV))->c i ys H->g (.ref a) (B1 src σ) H λσ2 H2=>Sub (B1 src σ) σ2/\k σ2 H2 λb f=>if b=true then te σ2 f λv l=>c (i+1) (ys++[v]) l else c (i+1) ys f)
  (hd:∀ys H,c kvs.length ys H->∀p,H p=none->Q (.ref p) (upd H p (.lst ys))):E9 src g k te σ Q (Itd d j kvs) H1 :=
 a0U kvs.length c h0 (λi ys H hi p=>by
   obtain⟨q1,n⟩:=h i ys H (cH hi) p;refine⟨⟨q1,hi⟩,by omega,λx H' y=>?_⟩;obtain⟨e,m,a,o,q,r⟩:=y;subst e q;exact hs i m a ys _ o r p)
  λys H p=>by
   obtain⟨q1,n⟩:=h _ ys H (ao _) p;exact⟨⟨q1,ao _⟩,by omega,hd ys H p⟩
theorem b8r{kvs:List (List Key×V)}{rss:LLI}{i:Nat}{p:List Key×V}(a:kvs.map (·.1)=IK rss)(e:kvs[i]?=some p):∃r,rss[i]?=some r/\p.1=r.map Sum.inl:=by
 have h1:(kvs.map (·.1))[i]?=some p.1:=by rw[ba,e];rfl
 rw[a,IK,ba]at h1;cases e2:rss[i]? with
 |none=>rw[e2]at h1;cases h1
 |some r=>rw[e2]at h1;injection h1 with h1;exact⟨r,rfl,h1.symm⟩
theorem b2y{kvs:List (List Key×V)}{rss:LLI}(a:kvs.map (·.1)=IK rss):kvs.length=rss.length:=by
 have:=aN List.length a;simpa[IK]using this
theorem b0h{src:List (Option Nat)}{σ caps:St}{Q:VK}{d:Addr}{o:Obj}{kvs:List (List Key×V)}{rss:LLI}{H:Hp}{te:TE}(f:List Int->V)(t:kvs.length<=sizeLine)(g:H d=some (.frz o (.dT kvs)))(n:kvs.map (·.1)=IK rss)(c:B1 src σ=none::caps)
  (l:∀v r H1 m,r∈rss->IT H1 v r->Same H H1->(∀H2,Same H1 H2->m (f r) H2)->te (some v::caps) H1 m) (hd:∀H1 p,Same H H1->H1 p=none->Q (.ref p) (upd H1 p (.lst (rss.map f)))):E9 src (B0 0) O5 te σ Q (Itd d o kvs) H:=by
 have j:=b2y n;refine b0l (by omega) (λi ys H'=>Same H H'/\ys=(rss.take i).map f) ⟨Same.refl H,by simp⟩ (λi ys H' _ h=>⟨h.1 _ _ g,by rw[h.2,ae];exact bI _ _⟩) ?_ ?_
 .rintro i p a ys H' hx ha ⟨s,rfl⟩;obtain⟨r,b,k⟩:=b8r n hx;have q:=aI b;have e:IT H' (.ref a) r:=⟨a,rfl,by rw[ha,k,cU];rfl⟩;show Sub _ ((B1 src σ).set 0 (some (.ref a)))/\_;rw[c];refine⟨Sub.one,(l _ r H' _ q e s λH2 s2=>⟨s.trans s2,?_⟩)⟩;rw[bu,b,bz];rfl
 .rintro ys H' ⟨s,rfl⟩ p hp;rw[j,bx];exact hd H' p s hp
section
variable {X:Cx}
end
section
variable {X:Cx}{o e:Expr}{es:List Expr}{to:TE}{t:TA}{apos cpos:Pos}
end
theorem a9z{κ:Type}[DecidableEq κ]{kvs:List (κ×V)}{k:κ}(v:V)(h:k∈kvs.map (·.1)):(a0m kvs k v).map (·.1)=kvs.map (·.1):=by
 unfold a0m;obtain⟨p,a,rfl⟩:=aL.mp h;rw[az (bD.mpr ⟨p,a,bg rfl⟩),cU];refine dU λq _=>?_;show(if q.1=p.1 then(q.1,v)else q).1=q.1;split<;>rfl
section
variable {X:Cx}{k:Nat}{ps:List Str}{sp:Sp}{x:Str}{p pos cpos:Pos}{e:Expr}{es:List Expr}{t:TA}
end
end L2
namespace L2
open PySem PySem.Spec PyProof.Rows
section
variable {prog:Program}{w:World}{A:Around}{E:Value->Shared->Prop}{s:Shared}
end
section
variable {X:Cx}{pos:Pos}
end
section
variable {X:Cx}{es:List Expr}{pos:Pos}
end
end L2
namespace L2
open PySem PySem.Spec PyProof.Rows PySem.W
section
variable {X:Cx}
end
section
variable {X:Cx}{e:Expr}{es:List Expr}{t:TA}{p pos:Pos}
end
section
variable {X:Cx}{k v:Expr}{tk tv:TE}{pos:Pos}
end
end L2
section
open PySem PyProof.Rows
end
namespace L2
open PySem PySem.Spec PyProof.Rows
section
variable {X:Cx}
variable {o e:Expr}{es:List Expr}{to:TE}{t:TA}{pos apos cpos:Pos}
end
end L2
namespace L2
theorem b8F{α:Type}{us:List α}(h:us.length=0):us=[]:=List.length_eq_zero_iff.mp h
theorem a1R{α:Type}{us:List α}(h:us.length=1):∃a,us=[a]:=by
 cases us with
 |nil=>cases h
 |cons a us=>exact⟨a,by rw[b8F (us:=us) (dR h)]⟩
theorem S3{α:Type}{us:List α}(h:us.length=2):∃a b,us=[a,b]:=by
 cases us with
 |nil=>cases h
 |cons a us=>obtain⟨b,e⟩:=a1R (us:=us) (dR h);exact⟨a,b,by rw[e]⟩
theorem a3C{α:Type}{us:List α}(h:us.length=3):∃a b c,us=[a,b,c]:=by
 cases us with
 |nil=>cases h
 |cons a us=>obtain⟨b,c,e⟩:=S3 (us:=us) (dR h);exact⟨a,b,c,by rw[e]⟩
theorem b6U{α:Type}{us:List α}(h:us.length=4):∃a b c d,us=[a,b,c,d]:=by
 cases us with
 |nil=>cases h
 |cons a us=>obtain⟨b,c,d,e⟩:=a3C (us:=us) (dR h);exact⟨a,b,c,d,by rw[e]⟩
theorem b4E{α:Type}{us:List α}(h:us.length=5):∃a b c d e,us=[a,b,c,d,e]:=by
 cases us with
 |nil=>cases h
 |cons a us=>obtain⟨b,c,d,e,q⟩:=b6U (us:=us) (dR h);exact⟨a,b,c,d,e,by rw[q]⟩
theorem b8E{α:Type}{us:List α}(h:us.length=6):∃a b c d e f,us=[a,b,c,d,e,f]:=by
 cases us with
 |nil=>cases h
 |cons a us=>obtain⟨b,c,d,e,f,q⟩:=b4E (us:=us) (dR h);exact⟨a,b,c,d,e,f,by rw[q]⟩
section
open PySem PySem.Spec PyProof.Rows PySem.W
abbrev FnL(K:PySem.W.Frag)(f:Addr)(nm qn:Str)(st:Stmt)(oc:Value)(od:Option Addr)(sl:Array (Option Value))(kV dc pm:Value)(an:Option Addr)(cd ct:Value):Prop:=K.lookup f=some ⟨oc,od,.func (PySem.W.fnOf nm qn (Q6 st) (E8 st) (A1 st) .none kV dc pm an cd ct),sl⟩
variable {K:PySem.W.Frag}{h:Heap}{mg:Str->Option Value}{x qn:Str}{st:Stmt}{f:Addr}{od an:Option Addr}{sl:Array (Option Value)}{oc kV dc pm cd ct:Value}{C:Addr}{m:Str}
theorem B6(X:K.In h)(G:h.Ns mainGlobals mg)(a:nsIn K mainGlobals x=some (some (.ref f)))(l:FnL K f x x st oc od sl kV dc pm an cd ct)(c:codeIn K cd x=true)(k:keepIn K (.ref f)=true){ps:List Str}
  (e:∀(kV d pm:Value) (an:Option Addr) (b ct:Value) (us:List Value),us.length=ps.length->bindArgs (fnOf x x (Q6 st) (E8 st) (A1 st) .none kV d pm an b ct) ⟨us,[]⟩=pure (ps.zip us)):FunAt K mg x st ps:=⟨f,_,mg_of X G a,a3g (st:=st) l c k,(a3g (st:=st) l c k).binds e⟩
theorem a2O(a:findIn K (.ref C) m=some (some (.ref f)))(i:isFn K (.ref f)=true)(l:FnL K f m qn st oc od sl kV dc pm an cd ct)(c:codeIn K cd qn=true)(k:keepIn K (.ref f)=true){ps:List Str}
  (e:∀(kV d pm:Value) (an:Option Addr) (b ct:Value) (us:List Value),us.length=ps.length->bindArgs (fnOf m qn (Q6 st) (E8 st) (A1 st) .none kV d pm an b ct) ⟨us,[]⟩=pure (ps.zip us)):MethAt K C m qn st ps:=⟨f,_,⟨a,i,k⟩,a3g (st:=st) l c k,(a3g (st:=st) l c k).binds e⟩
end
section
open PySem PySem.Spec PyProof.Rows PySem.W
variable {K:PySem.W.Frag}{h:Heap}{mg:Str->Option Value}{x nm qn:Str}{C N:Addr}{bs bm sub bmB above:List Value}{hd ab:Bool}{sn:List Str}{col:Option Bool}{dd:Option Addr}{k0 k1 k2 k3 k5:Option Value}{newId:String}
theorem b6E(X:K.In h)(b:mg x=some (.ref C))(c:K.lookup C=some (excClassObj nm qn C N bs bm hd sn sub ab col dd k0 k1 k2 k3 k5 newId))(tx:tailIn K bmB bm=true)(ok:nsOkIn K N=true)(a:nsIn K N "__init__"=some none):OwnCls x C bmB newId mg h :=
 ⟨b,bm,N,nm,qn,bs,hd,sn,sub,ab,col,dd,k0,k1,k2,k3,k5,_,X _ _ c,.of_isNs (isNs_of_in X ok),nsMap_none_of_in X ok a,tail_of_in X tx⟩
end
inductive Ex1{α0:Type}(p:α0->Prop):Prop
 |mk (a0:α0) (h:p a0):Ex1 p
inductive Ex2{α0 α1:Type}(p:α0->α1->Prop):Prop
 |mk (a0:α0) (a1:α1) (h:p a0 a1):Ex2 p
inductive Ex3{α0 α1 α2:Type}(p:α0->α1->α2->Prop):Prop
 |mk (a0:α0) (a1:α1) (a2:α2) (h:p a0 a1 a2):Ex3 p
inductive Ex4{α0 α1 α2 α3:Type}(p:α0->α1->α2->α3->Prop):Prop
 |mk (a0:α0) (a1:α1) (a2:α2) (a3:α3) (h:p a0 a1 a2 a3):Ex4 p
inductive Ex5{α0 α1 α2 α3 α4:Type}(p:α0->α1->α2->α3->α4->Prop):Prop
 |mk (a0:α0) (a1:α1) (a2:α2) (a3:α3) (a4:α4) (h:p a0 a1 a2 a3 a4):Ex5 p
inductive An3(a0 a1 a2:Prop):Prop
 |mk (h0:a0) (h1:a1) (h2:a2):An3 a0 a1 a2
inductive An4(a0 a1 a2 a3:Prop):Prop
 |mk (h0:a0) (h1:a1) (h2:a2) (h3:a3):An4 a0 a1 a2 a3
inductive An5(a0 a1 a2 a3 a4:Prop):Prop
 |mk (h0:a0) (h1:a1) (h2:a2) (h3:a3) (h4:a4):An5 a0 a1 a2 a3 a4
inductive An6(a0 a1 a2 a3 a4 a5:Prop):Prop
 |mk (h0:a0) (h1:a1) (h2:a2) (h3:a3) (h4:a4) (h5:a5):An6 a0 a1 a2 a3 a4 a5
inductive An7(a0 a1 a2 a3 a4 a5 a6:Prop):Prop
 |mk (h0:a0) (h1:a1) (h2:a2) (h3:a3) (h4:a4) (h5:a5) (h6:a6):An7 a0 a1 a2 a3 a4 a5 a6
inductive An9(a0 a1 a2 a3 a4 a5 a6 a7 a8:Prop):Prop
 |mk (h0:a0) (h1:a1) (h2:a2) (h3:a3) (h4:a4) (h5:a5) (h6:a6) (h7:a7) (h8:a8):An9 a0 a1 a2 a3 a4 a5 a6 a7 a8
inductive An10(a0 a1 a2 a3 a4 a5 a6 a7 a8 a9:Prop):Prop
 |mk (h0:a0) (h1:a1) (h2:a2) (h3:a3) (h4:a4) (h5:a5) (h6:a6) (h7:a7) (h8:a8) (h9:a9):An10 a0 a1 a2 a3 a4 a5 a6 a7 a8 a9
end L2
namespace L2
namespace Tab
open PySem
def gI:Nat->Nat->Nat
 |0,x=>x
 |n+1,x=>5*gI n x+1
def gS:Nat->Nat
 |0=>0
 |n+1=>5*gS n+1
theorem b5L:∀n x,gI n x=5 ^ n*x+gS n
 |0,x=>by simp[gI,gS]
 |n+1,x=>by
  rw[gI,b5L n x,gS,de,Nat.mul_add,<-Nat.mul_assoc,fW 5 (5 ^ n)];omega
theorem a8M:∀n,4*gS n+1=5 ^ n
 |0=>rfl
 |n+1=>by
  have:=a8M n;rw[gS,de];omega
theorem a3j:∀k,∃u,5 ^ (2 ^ k)=1+2 ^ (k+2)*(2*u+1)
 |0=>⟨0,rfl⟩
 |k+1=>by
  obtain⟨u,h⟩:=a3j k;refine⟨u+2 ^ k*(2*u+1)*(2*u+1),?_⟩;rw[de 2 k,Nat.pow_mul,h,Nat.pow_two];have e1:2 ^ (k+1+2)=8*2 ^ k:=by rw[Nat.pow_add,de];omega
  have e2:2 ^ (k+2)=4*2 ^ k:=by rw[Nat.pow_add,fW]
  rw[e1,e2];generalize 2 ^ k=b
  grind
theorem b7n(k:Nat):∃u,gS (2 ^ k)=2 ^ k*(2*u+1):=by
 obtain⟨u,h⟩:=a3j k;refine⟨u,?_⟩;have:=a8M (2 ^ k);have e2:2 ^ (k+2)=4*2 ^ k:=by rw[Nat.pow_add,fW]
 rw[h,e2,Nat.mul_assoc]at this;omega
theorem b4T(k y:Nat):gI (2 ^ k) y % 2 ^ (k+1)=(y+2 ^ k) % 2 ^ (k+1):=by
 obtain⟨u,h⟩:=a3j k;obtain⟨v,h2⟩:=b7n k;rw[b5L,h,h2];have e:(1+2 ^ (k+2)*(2*u+1))*y+2 ^ k*(2*v+1)=(y+2 ^ k)+2 ^ (k+1)*(2*(2*u+1)*y+v):=by
  have e1:2 ^ (k+1)=2*2 ^ k:=by rw[de];omega
  have e2:2 ^ (k+2)=4*2 ^ k:=by rw[Nat.pow_add,fW]
  rw[e1,e2];generalize 2 ^ k=b
  grind
 rw[e,Nat.add_mul_mod_self_left]
def fI(M:Nat):Nat->Nat->Nat
 |0,x=>x
 |n+1,x=>(fI M n x*5+1) % M
theorem b2H(M:Nat)(x:Nat)(a:x<M):∀n,fI M n x=gI n x % M
 |0=>(cR a).symm
 |n+1=>by
  rw[fI,b2H M x a n,gI,fW,Nat.add_mod,Nat.mul_mod,Nat.mod_mod,<-Nat.mul_mod,<-Nat.add_mod]
theorem b2F(m:Nat):∀n x,gI (n+m) x=gI n (gI m x)
 |0,x=>by rw[cP];rfl
 |n+1,x=>by rw[Nat.add_right_comm,gI,b2F m n x,gI]
theorem b2E:∀(k x s:Nat),∃n,n<2 ^ k/\gI n x % 2 ^ k=s % 2 ^ k
 |0,x,s=>⟨0,by decide,by rw[Nat.pow_zero,Nat.mod_one,Nat.mod_one]⟩
 |k+1,x,s=>by
  obtain⟨n,j,h⟩:=b2E k x s;have e1:2 ^ (k+1)=2*2 ^ k:=by rw[de];omega
  have l:0<2 ^ k:=Nat.pow_pos (by decide);by_cases a:gI n x % 2 ^ (k+1)=s % 2 ^ (k+1)
  .exact⟨n,by omega,a⟩
  .refine⟨2 ^ k+n,by omega,?_⟩;rw[b2F,b4T];generalize gI n x=y at *;rw[e1]at a⊢;generalize 2 ^ k=M at *;have a1:=Nat.mod_add_div y (2*M);have f:=Nat.mod_add_div s (2*M);have g:=fo y (show 0<2*M by omega);have i:=fo s (show 0<2*M by omega);have b:y % M=y % (2*M) % M:=(Nat.mod_mul_left_mod y 2 M).symm;have c:s % M=s % (2*M) % M:=(Nat.mod_mul_left_mod s 2 M).symm;rw[Nat.add_mod,cR (show M<2*M by omega)];generalize y % (2*M)=p at *;generalize s % (2*M)=q at *;rw[b,c]at h;have d:p % M=if p<M then p else p-M:=by
    split
    .exact cR (by assumption)
    .rw[Nat.mod_eq_sub_mod (by omega)];exact cR (by omega)
   have e:q % M=if q<M then q else q-M:=by
    split
    .exact cR (by assumption)
    .rw[Nat.mod_eq_sub_mod (by omega)];exact cR (by omega)
   rw[d,e]at h;split at h<;>split at h
   .omega
   .rw[cR (by omega)];omega
   .rw[show p+M=p-M+2*M by omega,Nat.add_mod_right,cR (by omega)];omega
   .omega
abbrev Pr:=SetTable.Probe
noncomputable def adv(mask:Nat)(p:Pr):Pr :=
 if p.more > 0 then {p with j:=p.j+1,more:=p.more-1} else
 {p with j:=(SetTable.leap mask p.i p.perturb).1,more:=SetTable.runEnd mask (SetTable.leap mask p.i p.perturb).1-(SetTable.leap mask p.i p.perturb).1,i:=(SetTable.leap mask p.i p.perturb).1,perturb:=(SetTable.leap mask p.i p.perturb).2}
theorem b7z(t:SetTable)(p:Pr):t.advance p=adv t.mask p:=rfl
noncomputable def C2(mask:Nat)(p:Pr):Nat->Pr
 |0=>p
 |n+1=>adv mask (C2 mask p n)
theorem I9(mask:Nat)(p:Pr):∀n,C2 mask p (n+1)=C2 mask (adv mask p) n
 |0=>rfl
 |n+1=>by rw[C2,I9 mask p n];rfl
theorem a0E(mask:Nat)(p:Pr)(m:Nat):∀n,C2 mask p (m+n)=C2 mask (C2 mask p m) n
 |0=>rfl
 |n+1=>by rw[<-dY,C2,a0E mask p m n];rfl
theorem a0X(mask:Nat)(p:Pr):∀n,(C2 mask p n).dummy=p.dummy
 |0=>rfl
 |n+1=>by
  rw[C2,<-a0X mask p n];unfold adv;split<;>rfl
noncomputable def a1c(mask i pt:Nat):Pr:={j:=i,more:=SetTable.runEnd mask i-i,i,perturb:=pt,dummy:=none}
noncomputable def st0(mask:Nat)(h:Int):Pr:=a1c mask (SetTable.bits h % (mask+1)) (SetTable.bits h)
theorem a1n(mask i pt:Nat):∀c,c<=SetTable.runEnd mask i-i->C2 mask (a1c mask i pt) c={j:=i+c,more:=SetTable.runEnd mask i-i-c,i,perturb:=pt,dummy:=none}
 |0,_=>rfl
 |c+1,h=>by
  rw[C2,a1n mask i pt c (by omega)];unfold adv;rw[az (show SetTable.runEnd mask i-i-c > 0 by omega)];simp only[SetTable.Probe.mk.injEq,and_true];omega
theorem b3H(mask i:Nat):SetTable.runEnd mask i-i<=9:=by
 unfold SetTable.runEnd;split<;>omega
theorem a5Y(mask i pt:Nat):C2 mask (a1c mask i pt) (SetTable.runEnd mask i-i+1)=a1c mask (SetTable.leap mask i pt).1 (SetTable.leap mask i pt).2:=by
 rw[C2,a1n mask i pt _ (ao _)];unfold adv;rw[ar (by show ¬SetTable.runEnd mask i-i-(SetTable.runEnd mask i-i) > 0;omega)];rfl
def M8(mask:Nat)(i pt:Nat):Nat->Nat×Nat
 |0=>(i,pt)
 |k+1=>SetTable.leap mask (M8 mask i pt k).1 (M8 mask i pt k).2
theorem b1m(mask i pt:Nat):∀k,∃n,n<=10*k/\C2 mask (a1c mask i pt) n=a1c mask (M8 mask i pt k).1 (M8 mask i pt k).2
 |0=>⟨0,ao _,rfl⟩
 |k+1=>by
  obtain⟨n,h1,h2⟩:=b1m mask i pt k;have:=b3H mask (M8 mask i pt k).1;refine⟨n+(SetTable.runEnd mask (M8 mask i pt k).1-(M8 mask i pt k).1+1),by omega,?_⟩;rw[a0E,h2,a5Y];rfl
theorem b1k(mask i pt:Nat):∀k,(M8 mask i pt k).2=pt / 32 ^ k
 |0=>by simp[M8]
 |k+1=>by
  rw[M8,de,<-Nat.div_div_eq_div_mul,<-b1k mask i pt k];rfl
theorem a2D(mask i pt a:Nat):∀b,M8 mask i pt (a+b)=M8 mask (M8 mask i pt a).1 (M8 mask i pt a).2 b
 |0=>rfl
 |b+1=>by rw[<-dY,M8,a2D mask i pt a b];rfl
theorem a5K(mask i:Nat):∀k,M8 mask i 0 k=(fI (mask+1) k i,0)
 |0=>rfl
 |k+1=>by
  rw[M8,a5K mask i k];show((fI (mask+1) k i*5+1+0 / 32) % (mask+1),0 / 32)=_;rw[Nat.zero_div,Nat.add_zero];rfl
theorem b4X(h:Int):SetTable.bits h<2 ^ 64:=by
 unfold SetTable.bits;have h1:=ei h (show(2:Int) ^ 64≠0 by decide);have h2:=dz h (show(0:Int)<2 ^ 64 by decide);omega
theorem b3I(mask i pt:Nat)(hi:i<=mask):∀k,(M8 mask i pt k).1<=mask
 |0=>hi
 |k+1=>by
  rw[M8];exact eD (fo _ (fg _))
theorem a5L{mask k:Nat}(c:mask+1=2 ^ k)(h:Int)(s:Nat)(hs:s<=mask):∃r,r<mask+14/\(M8 mask (SetTable.bits h % (mask+1)) (SetTable.bits h) r).1=s:=by
 have b:=b4X h;have hi:=b3I mask (SetTable.bits h % (mask+1)) (SetTable.bits h) (eD (fo _ (fg _))) 13;have a:=b1k mask (SetTable.bits h % (mask+1)) (SetTable.bits h) 13;rw[Nat.div_eq_of_lt (aO b (by decide))]at a;obtain⟨n,d,e⟩:=b2E k (M8 mask (SetTable.bits h % (mask+1)) (SetTable.bits h) 13).1 s;refine⟨13+n,by omega,?_⟩;rw[<-c]at e;rw[a2D,a,a5K];show fI _ _ _=s;rw[b2H _ _ (by omega),e];exact cR (by omega)
noncomputable def pos(mask:Nat)(h:Int)(n:Nat):Nat:=(C2 mask (st0 mask h) n).j
theorem b1E{mask k:Nat}(a:mask+1=2 ^ k)(h:Int)(s:Nat)(hs:s<=mask):∃n,n<10*SetTable.turns mask/\pos mask h n=s:=by
 obtain⟨r,c,e⟩:=a5L a h s hs;obtain⟨n,b,e2⟩:=b1m mask (SetTable.bits h % (mask+1)) (SetTable.bits h) r;refine⟨n,by unfold SetTable.turns;omega,?_⟩;unfold pos st0;rw[e2,<-e];rfl
theorem a3s(xs:Array Nat)(j:Nat)(k:∀a b:Nat,a<b->b<xs.size->xs.getD a 0<xs.getD b 0):∀(fuel lo hi:Nat),hi-lo<=fuel->lo<=hi->hi<=xs.size->(∀i,i<lo->xs.getD i 0<j)->(∀i,hi<=i->i<xs.size->j<=xs.getD i 0) ->
  SetTable.below.go xs j fuel lo hi<=xs.size/\(∀i,i<SetTable.below.go xs j fuel lo hi->xs.getD i 0<j)/\∀i,SetTable.below.go xs j fuel lo hi<=i->i<xs.size->j<=xs.getD i 0
 |0,lo,hi,h1,h2,c,d,f=>by
  have:hi=lo:=by omega
  subst this;exact⟨c,d,f⟩
 |fuel+1,lo,hi,h1,h2,c,d,f=>by
  unfold SetTable.below.go;by_cases h:lo<hi
  .rw[az h];have n:(lo+hi) / 2<hi/\lo<=(lo+hi) / 2:=by omega
   have m:xs.getD ((lo+hi) / 2) j=xs.getD ((lo+hi) / 2) 0:=by
    have:(lo+hi) / 2<xs.size:=by omega
    simp[Array.getD,this]
   dsimp only;rw[m];by_cases g:xs.getD ((lo+hi) / 2) 0<j
   .rw[az g];refine a3s xs j k fuel _ _ (by omega) (by omega) c (λi l=>?_) f;by_cases e:i=(lo+hi) / 2
    .rw[e];exact g
    .exact fT (k i _ (by omega) (by omega)) g
   .rw[ar g];refine a3s xs j k fuel _ _ (by omega) (by omega) (by omega) d (λi l hs=>?_);by_cases e:i=(lo+hi) / 2
    .rw[e];omega
    .have:=k ((lo+hi) / 2) i (by omega) hs;omega
  .rw[ar h];have:hi=lo:=by omega
   subst this;exact⟨c,d,f⟩
def Ris(xs:Array Nat):Prop:=∀a b:Nat,a<b->b<xs.size->xs.getD a 0<xs.getD b 0
theorem G9{xs:Array Nat}(a:Ris xs)(j:Nat):SetTable.below xs j<=xs.size/\(∀i,i<SetTable.below xs j->xs.getD i 0<j)/\∀i,SetTable.below xs j<=i->i<xs.size->j<=xs.getD i 0 :=
 a3s xs j a xs.size 0 xs.size (by omega) (by omega) (ao _) (λi h=>absurd h (by omega)) (λi h1 h2=>absurd h2 (by omega))
theorem a0T{xs:Array Nat}{i:Nat}(h:i<xs.size):xs[i]?=some (xs.getD i 0):=by simp[Array.getD,h]
theorem a0V{xs:Array Nat}(a:Ris xs){i j:Nat}(h:xs[i]?=some j):SetTable.below xs j=i:=by
 obtain⟨d,b,c⟩:=G9 a j;have hi:i<xs.size:=(cW.mp h).1;have e:xs.getD i 0=j:=by have:=a0T hi;rw[h]at this;injection this with this;exact this.symm
 rcases di (SetTable.below xs j) i with z|z|z
 .have h1:=c _ (ao _) (by omega);have h2:=a _ _ z hi;omega
 .exact z
 .have:=b i z;omega
theorem a1s{xs:Array Nat}(a:Ris xs)(j:Nat):xs[SetTable.below xs j]?=some j↔j∈xs:=by
 constructor
 .intro h;exact Array.mem_of_getElem? h
 .intro h;obtain⟨i,hi⟩:=Array.mem_iff_getElem?.mp h;rw[a0V a hi];exact hi
theorem a8m{t:SetTable}(a:Ris t.place)(hd:t.dummies=#[])(j:Nat):t.slot j=if j∈t.place then .live (SetTable.below t.place j)else .empty:=by
 unfold SetTable.slot;dsimp only;by_cases h:j∈t.place
 .rw[az h,az];rw[(a1s a j).mpr h];simp
 .rw[ar h,ar,hd]
  .rw[ar];unfold SetTable.has;simp
  .intro z;exact h ((a1s a j).mp (by simpa using z))
theorem a5U{t:SetTable}(i:Ris t.place)(hd:t.dummies=#[])(a:Nat->Int)(h:Int):∀(fuel:Nat) (p:Pr),p.dummy=none->(∃n,n<fuel/\(C2 t.mask p n).j∉t.place) ->
  (∃n,(C2 t.mask p n).j∉t.place/\(∀m,m<n->(C2 t.mask p m).j∈t.place/\a (SetTable.below t.place (C2 t.mask p m).j)≠h)/\SetTable.probe.go t a h fuel p=some (.empty (C2 t.mask p n).j none)) ∨
  ∃n,(C2 t.mask p n).j∈t.place/\a (SetTable.below t.place (C2 t.mask p n).j)=h/\(∀m,m<n->(C2 t.mask p m).j∈t.place/\a (SetTable.below t.place (C2 t.mask p m).j)≠h)/\SetTable.probe.go t a h fuel p=some (.candidate (C2 t.mask p n).j (SetTable.below t.place (C2 t.mask p n).j) (C2 t.mask p (n+1)))
 |0,p,_,⟨n,g,_⟩=>absurd g (by omega)
 |fuel+1,p,c,⟨n,g,f⟩=>by
  unfold SetTable.probe.go;rw[a8m i hd];by_cases b:p.j∈t.place
  .rw[az b];dsimp only;by_cases d:a (SetTable.below t.place p.j)=h
   .right;refine⟨0,b,d,λm e=>absurd e (by omega),?_⟩;rw[az (by simpa using d)];rfl
   .have hn0:n≠0:=λz=>f (by rw[z];exact b);obtain⟨n,rfl⟩:∃k,n=k+1:=⟨n-1,by omega⟩;rw[I9]at f;rw[ar (by simpa using d),b7z];have first:∀N,(∀m,m<N->(C2 t.mask (adv t.mask p) m).j∈t.place/\a (SetTable.below t.place (C2 t.mask (adv t.mask p) m).j)≠h)->∀m,m<N+1->(C2 t.mask p m).j∈t.place/\a (SetTable.below t.place (C2 t.mask p m).j)≠h:=λN j m e=>by
     cases m with
     |zero=>exact⟨b,d⟩
     |succ m=>rw[I9];exact j m (by omega)
    rcases a5U i hd a h fuel (adv t.mask p) (by rw[<-c];exact a0X t.mask p 1) ⟨n,by omega,f⟩with⟨N,h1,h2,h3⟩|⟨N,h1,h2,h3,h4⟩
    .left;exact⟨N+1,by rw[I9];exact h1,first N h2,by rw[I9];exact h3⟩
    .right;exact⟨N+1,by rw[I9];exact h1,by rw[I9];exact h2,first N h3,by rw[I9,I9];exact h4⟩
  .rw[ar b];left;refine⟨0,b,λm e=>absurd e (by omega),?_⟩;show some (SetTable.Met.empty p.j p.dummy)=_;rw[c];rfl
theorem X5{α:Type}(xs:Array α)(p:Nat)(x:α)(hp:p<=xs.size):(SetTable.insertAt xs p x).toList=xs.toList.take p++x::xs.toList.drop p:=by
 unfold SetTable.insertAt;simp only[bY,cT,eO,List.extract_eq_take_drop,cJ,Nat.sub_zero,aC,List.singleton_append];rw[bP (l:=List.drop p xs.toList) (by simp)]
theorem ris_list{xs:Array Nat}:Ris xs↔xs.toList.Pairwise (· < ·):=by
 rw[eW];unfold Ris;constructor
 .intro h i j hi hj hij;have:=h i j hij (by simpa using hj);simpa[Array.getD,show i<xs.size by simpa using hi,show j<xs.size by simpa using hj]using this
 .intro h a b hab hb;have:=h a b (by simp;omega) (by simpa using hb) hab;simpa[Array.getD,show a<xs.size by omega,hb]using this
theorem a4b{xs:Array Nat}{i:Nat}(h:i<xs.toList.length):xs.getD i 0=xs.toList[i]:=by
 have h':i<xs.size:=by simpa using h
 simp[Array.getD,h']
theorem b3t{xs:Array Nat}(b:Ris xs){j x:Nat}(h:x∈xs.toList.take (SetTable.below xs j)):x<j:=by
 obtain⟨c,a,d⟩:=G9 b j;obtain⟨i,hi,rfl⟩:=cn.mp h;rw[aP]at hi;rw[fz,<-a4b];exact a i (by omega)
theorem a8P{xs:Array Nat}(d:Ris xs){j x:Nat}(c:j∉xs)(h:x∈xs.toList.drop (SetTable.below xs j)):j<x:=by
 obtain⟨e,f,b⟩:=G9 d j;have a:x∈xs:=by simpa using cS h
 obtain⟨i,hi,rfl⟩:=cn.mp h;rw[bE]at hi;rw[fA,<-a4b]at a⊢;have:=b (SetTable.below xs j+i) (by omega) (by simp at hi;omega);rcases Nat.lt_or_eq_of_le this with z|z
 .exact z
 .exact absurd (z ▸ a) c
theorem b3J{xs:Array Nat}(a:Ris xs){j:Nat}(c:j∉xs):Ris (SetTable.insertAt xs (SetTable.below xs j) j):=by
 rw[ris_list,X5 _ _ _ (G9 a j).1];have d:=ris_list.mp a;rw[bF,cp];refine⟨d.take,⟨λy b=>a8P a c b,d.drop⟩,λx e y b=>?_⟩;have h1:=b3t a e;rcases aD.mp b with z|z
 .rw[z];exact h1
 .exact fT h1 (a8P a c z)
theorem a4T{xs:Array Nat}{p j x:Nat}(hp:p<=xs.size):x∈SetTable.insertAt xs p j↔x=j∨x∈xs:=by
 rw[<-eJ,X5 _ _ _ hp,aA,aD,<-eJ];constructor
 .rintro(h|h|h)
  .exact .inr (bU h)
  .exact .inl h
  .exact .inr (cS h)
 .rintro(h|h)
  .exact .inr (.inl h)
  .rw[<-br p xs.toList]at h;rcases aA.mp h with z|z
   .exact .inl z
   .exact .inr (.inr z)
theorem nodup_le{α:Type}[DecidableEq α]:∀(a b:List α),a.Nodup->(∀x∈a,x∈b)->a.length<=b.length
 |[],b,_,_=>bG _
 |x::a,b,e,h=>by
  obtain⟨h1,h2⟩:=bR.mp e;have c:=h x au;have:=nodup_le a (b.erase x) h2 λy d=>(List.mem_erase_of_ne (λz:y=x=>h1 (z ▸ d))).mpr (h y (av _ d));rw[List.length_erase_of_mem c]at this;have:=List.length_pos_of_mem c;rw[a'];omega
structure TabOk{α:Type}(t:SetTable)(es:Array (Int×α)):Prop where
 size:t.place.size=es.size
 dum:t.dummies=#[]
 ris:Ris t.place
 le:∀j∈t.place,j<=t.mask
 pow:∃k,3<=k/\t.mask+1=2 ^ k
 room:es.size<=t.mask
 reach:∀(i j:Nat) (e:Int×α),t.place[i]?=some j->es[i]?=some e->∃n,pos t.mask e.1 n=j/\∀m,m<n->pos t.mask e.1 m∈t.place
theorem TabOk.free{α:Type}{t:SetTable}{es:Array (Int×α)}(h:TabOk t es)(x:Int):∃n,n<10*SetTable.turns t.mask/\pos t.mask x n∉t.place:=by
 obtain⟨k,_,e⟩:=h.pow;have:∃s,s<=t.mask/\s∉t.place:=by
  refine bN λd=>?_;have a:∀s,s<t.mask+1->s∈t.place.toList:=λs hs=>by
   refine bN λz=>d ⟨s,by omega,λq=>z (by simpa using q)⟩
  have:=nodup_le (List.range (t.mask+1)) t.place.toList fM λs hs=>a s (aX.mp hs);rw[fD,ay,h.size]at this;have:=h.room;omega
 obtain⟨s,hs,f⟩:=this;obtain⟨n,b,c⟩:=b1E e x s hs;exact⟨n,b,by rw[c];exact f⟩
theorem TabOk.first{α:Type}{t:SetTable}{es:Array (Int×α)}(h:TabOk t es)(x:Int):∃N,N<10*SetTable.turns t.mask/\pos t.mask x N∉t.place/\∀m,m<N->pos t.mask x m∈t.place:=by
 obtain⟨n,d,c⟩:=h.free x;induction n using Nat.strongRecOn with
 |ind n e =>
  by_cases b:∃m,m<n/\pos t.mask x m∉t.place
  .obtain⟨m,a,hm2⟩:=b;exact e m a (by omega) hm2
  .exact⟨n,d,c,λm a=>bN λz=>b ⟨m,a,z⟩⟩
theorem a8L{α:Type}{xs:Array α}{p:Nat}{x:α}(hp:p<=xs.size)(i:Nat):(SetTable.insertAt xs p x)[i]?=if i<p then xs[i]? else if i=p then some x else xs[i-1]?:=by
 rw[<-ax,X5 _ _ _ hp];by_cases h1:i<p
 .rw[az h1,bq (by rw[aP,ay];omega),cZ h1,ax]
 .rw[ar h1,aW (by rw[aP,ay];omega),aP,ay,cA hp];by_cases h2:i=p
  .rw[az h2,h2,Nat.sub_self];rfl
  .rw[ar h2];obtain⟨c,a⟩:∃c,i-p=c+1:=⟨i-p-1,by omega⟩;rw[a,List.getElem?_cons_succ,eh,ax];congr 1;omega
theorem TabOk.add{α:Type}{t:SetTable}{es:Array (Int×α)}(h:TabOk t es){x:Int}{v:α}{N:Nat}(h1:pos t.mask x N∉t.place)(h2:∀m,m<N->pos t.mask x m∈t.place)(l:pos t.mask x N<=t.mask)(d:es.size<t.mask) :
  TabOk (t.put (pos t.mask x N)).1 (SetTable.insertAt es (t.put (pos t.mask x N)).2 (x,v)):=by
 have g:=(G9 h.ris (pos t.mask x N)).1;have hd:(t.put (pos t.mask x N)).1.dummies=#[]:=by
  show(if SetTable.has t.dummies (pos t.mask x N)=true then _ else t.dummies)=#[];rw[h.dum,ar];unfold SetTable.has;simp
 have c:SetTable.below t.place (pos t.mask x N)<=es.size:=by rw[<-h.size];exact g
 have f:∀{β:Type}(xs:Array β) (p:Nat) (y:β),p<=xs.size->(SetTable.insertAt xs p y).size=xs.size+1:=λxs p y u=>by
  rw[<-ay,X5 _ _ _ u,ak,a',aP,bE,ay];omega
 refine⟨?_,hd,b3J h.ris h1,λj s=>?_,h.pow,?_,λi j e b a=>?_⟩
 .show(SetTable.insertAt t.place (SetTable.below t.place (pos t.mask x N)) _).size=(SetTable.insertAt es (SetTable.below t.place (pos t.mask x N)) _).size;rw[f _ _ _ g,f _ _ _ c,h.size]
 .rcases(a4T g).mp s with z|z
  .rw[z];exact l
  .exact h.le j z
 .show(SetTable.insertAt es (SetTable.below t.place (pos t.mask x N)) _).size<=t.mask;rw[f _ _ _ c];exact d
 .change (SetTable.insertAt t.place (SetTable.below t.place (pos t.mask x N)) (pos t.mask x N))[i]?=some j at b;change (SetTable.insertAt es (SetTable.below t.place (pos t.mask x N)) (x,v))[i]?=some e at a;rw[a8L g]at b;rw[a8L c]at a;show ∃n,pos t.mask e.1 n=j/\∀m,m<n->pos t.mask e.1 m∈SetTable.insertAt t.place (SetTable.below t.place (pos t.mask x N)) (pos t.mask x N);have old:∀k,t.place[k]?=some j->es[k]?=some e->∃n,pos t.mask e.1 n=j/\∀m,m<n->pos t.mask e.1 m∈SetTable.insertAt t.place (SetTable.below t.place (pos t.mask x N)) (pos t.mask x N):=λk q1 B=>by
   obtain⟨n,w,A⟩:=h.reach k j e q1 B;exact⟨n,w,λm o=>(a4T g).mpr (.inr (A m o))⟩
  by_cases q:i<SetTable.below t.place (pos t.mask x N)
  .rw[az q]at b a;exact old i b a
  .rw[ar q]at b a;by_cases r:i=SetTable.below t.place (pos t.mask x N)
   .rw[az r]at b a;cases b;cases a;exact⟨N,rfl,λm o=>(a4T g).mpr (.inr (h2 m o))⟩
   .rw[ar r]at b a;exact old _ b a
theorem a3R{mask i:Nat}(hi:i<=mask):SetTable.runEnd mask i<=mask:=by
 unfold SetTable.runEnd;split<;>omega
theorem b0H(mask:Nat)(p:Pr)(h:p.j+p.more<=mask):∀n,(C2 mask p n).j+(C2 mask p n).more<=mask
 |0=>h
 |n+1=>by
  have b:=b0H mask p h n;rw[C2];unfold adv;split
  .dsimp only;omega
  .dsimp only;have h1:(SetTable.leap mask (C2 mask p n).i (C2 mask p n).perturb).1<=mask:=eD (fo _ (fg _));have h2:=a3R h1;have a:(SetTable.leap mask (C2 mask p n).i (C2 mask p n).perturb).1<=SetTable.runEnd mask (SetTable.leap mask (C2 mask p n).i (C2 mask p n).perturb).1:=by
    unfold SetTable.runEnd;split<;>omega
   omega
theorem a1d(mask:Nat)(h:Int)(n:Nat):pos mask h n<=mask:=by
 have h1:SetTable.bits h % (mask+1)<=mask:=eD (fo _ (fg _));have h2:=a3R h1;have a:SetTable.bits h % (mask+1)<=SetTable.runEnd mask (SetTable.bits h % (mask+1)):=by
  unfold SetTable.runEnd;split<;>omega
 have:=b0H mask (st0 mask h) (by show SetTable.bits h % (mask+1)+(SetTable.runEnd mask (SetTable.bits h % (mask+1))-SetTable.bits h % (mask+1))<=mask;omega) n;unfold pos;omega
noncomputable def fr(owner:Array (Option Nat))(j:Nat):Bool:=(owner.getD j (some 0)).isNone
theorem a8N(mask:Nat)(owner:Array (Option Nat)):∀(fuel i pt:Nat),(∃r,r<fuel/\fr owner (M8 mask i pt r).1=true) ->
  ∃n,fr owner (C2 mask (a1c mask i pt) n).j=true/\(∀m,m<n->fr owner (C2 mask (a1c mask i pt) m).j=false)/\SetTable.layClean.free mask owner fuel i pt=some (C2 mask (a1c mask i pt) n).j
 |0,_,_,⟨r,h,_⟩=>absurd h (by omega)
 |fuel+1,i,pt,⟨r,h,b⟩=>by
  unfold SetTable.layClean.free;have o:i<=SetTable.runEnd mask i:=by
   unfold SetTable.runEnd;split<;>omega
  cases e:(List.range (SetTable.runEnd mask i+1-i)).find? (λk=>(owner.getD (i+k) (some 0)).isNone)with
  |some k =>
   dsimp only;rw[List.find?_range_eq_some]at e;obtain⟨e1,e2,j⟩:=e;have p:=aX.mp e2;refine⟨k,?_,λm d=>?_,?_⟩
   .rw[a1n mask i pt k (by omega)];exact e1
   .rw[a1n mask i pt m (by omega)];have:=j m d;simpa[fr]using this
   .rw[a1n mask i pt k (by omega)]
  |none =>
   dsimp only;rw[List.find?_range_eq_none]at e;have a:∀m,m<SetTable.runEnd mask i-i+1->fr owner (C2 mask (a1c mask i pt) m).j=false:=λm d=>by
    rw[a1n mask i pt m (by omega)];have:=e m (by omega);simpa[fr]using this
   cases r with
   |zero =>
    have:=a 0 (by omega);rw[show(C2 mask (a1c mask i pt) 0).j=(M8 mask i pt 0).1 from rfl,b]at this;cases this
   |succ r =>
    have c:fr owner (M8 mask (SetTable.leap mask i pt).1 (SetTable.leap mask i pt).2 r).1=true:=by
     rw[Nat.add_comm,a2D]at b;exact b
    obtain⟨n,h1,h2,l⟩:=a8N mask owner fuel (SetTable.leap mask i pt).1 (SetTable.leap mask i pt).2 ⟨r,by omega,c⟩;have key:∀m,C2 mask (a1c mask i pt) (SetTable.runEnd mask i-i+1+m)=C2 mask (a1c mask (SetTable.leap mask i pt).1 (SetTable.leap mask i pt).2) m:=λm=>by
     rw[a0E,a5Y]
    refine⟨SetTable.runEnd mask i-i+1+n,by rw[key];exact h1,λm d=>?_,by rw[key];exact l⟩;by_cases f:m<SetTable.runEnd mask i-i+1
    .exact a m f
    .obtain⟨g,rfl⟩:∃g,m=SetTable.runEnd mask i-i+1+g:=⟨m-(SetTable.runEnd mask i-i+1),by omega⟩;rw[key];exact h2 g (by omega)
structure Lay(mask:Nat)(owner:Array (Option Nat))(hs:List Int):Prop where
 size:owner.size=mask+1
 val:∀j q:Nat,owner[j]?=some (some q)->∃h,hs[q]?=some h/\∃n,pos mask h n=j/\∀m,m<n->fr owner (pos mask h m)=false
 ex:∀q,q<hs.length->∃j:Nat,owner[j]?=some (some q)
 uniq:∀j j' q:Nat,owner[j]?=some (some q)->owner[j']?=some (some q)->j=j'
theorem X6{owner:Array (Option Nat)}{mask j:Nat}(hs:owner.size=mask+1)(a:j<=mask):fr owner j=false↔∃q,owner[j]?=some (some q):=by
 have h:j<owner.size:=by omega
 unfold fr;rw[bJ h,show owner.getD j (some 0)=owner[j] by simp[Array.getD,h]];cases owner[j]with
 |none=>simp
 |some q=>simp
theorem Lay.start(mask:Nat):Lay mask (Array.replicate (mask+1) none) []:=by
 refine⟨by simp,λj q h=>?_,λq h=>absurd h (by simp),λj a q h=>?_⟩<;>
 .rw[Array.getElem?_replicate]at h;split at h
  .cases h
  .cases h
theorem Lay.free{mask k:Nat}(z:mask+1=2 ^ k){owner:Array (Option Nat)}{hs:List Int}(L:Lay mask owner hs)(A:hs.length<=mask)(h:Int):∃n,fr owner (pos mask h n)=true/\(∀m,m<n->fr owner (pos mask h m)=false)/\SetTable.layClean.free mask owner (SetTable.turns mask) (SetTable.bits h % (mask+1)) (SetTable.bits h)=some (pos mask h n):=by
 have:∃s,s<=mask/\fr owner s=true:=by
  refine bN λl=>?_;have c:∀s:Nat,s<=mask->∃q,owner[s]?=some (some q):=λs hs=>by
   rw[<-X6 L.size hs];cases e:fr owner s with
   |false=>rfl
   |true=>exact absurd ⟨s,hs,e⟩ l
  have:=nodup_le ((List.range (mask+1)).map λj=>(owner.getD j none).getD 0) (List.range hs.length) ?_ ?_
  .rw[ae,fD,fD]at this;omega
  .rw[eR,cf];refine(eR.mp fM).imp_of_mem λ{a b} v w i e=>i ?_;obtain⟨q,d⟩:=c a (by have:=aX.mp v;omega);obtain⟨t,f⟩:=c b (by have:=aX.mp w;omega);have g:owner.getD a none=some q:=by rw[bO,d];rfl
   have u:owner.getD b none=some t:=by rw[bO,f];rfl
   rw[g,u]at e;change q=t at e;exact L.uniq a b q d (e ▸ f)
  .intro x hx;obtain⟨j,y,rfl⟩:=aL.mp hx;obtain⟨q,d⟩:=c j (by have:=aX.mp y;omega);obtain⟨h',h1,_⟩:=L.val j q d;have g:owner.getD j none=some q:=by rw[bO,d];rfl
   rw[g];exact aX.mpr (aT.mp h1).1
 obtain⟨s,o,p⟩:=this;obtain⟨r,B,e⟩:=a5L z h s o;exact a8N mask owner _ _ _ ⟨r,by unfold SetTable.turns;omega,by rw[e];exact p⟩
theorem Lay.put{mask:Nat}{owner:Array (Option Nat)}{hs:List Int}(L:Lay mask owner hs){h:Int}{n:Nat}(h1:fr owner (pos mask h n)=true)(h2:∀m,m<n->fr owner (pos mask h m)=false):Lay mask (owner.setIfInBounds (pos mask h n) (some hs.length)) (hs++[h]):=by
 have l:pos mask h n<owner.size:=by have:=a1d mask h n;rw[L.size];omega
 have g:∀q,owner[pos mask h n]?≠some (some q):=λq z=>by
  have:=(X6 L.size (a1d mask h n)).mpr ⟨q,z⟩;rw[h1]at this;cases this
 have get:∀j:Nat,(owner.setIfInBounds (pos mask h n) (some hs.length))[j]?=if j=pos mask h n then some (some hs.length)else owner[j]?:=λj=>by
  rw[Array.getElem?_setIfInBounds];by_cases e:pos mask h n=j
  .rw[az e,az e.symm,az l]
  .rw[ar e,ar λz=>e z.symm]
 have d:(owner.setIfInBounds (pos mask h n) (some hs.length)).size=mask+1:=by rw[fe,L.size]
 have keep:∀j,j<=mask->fr owner j=false->fr (owner.setIfInBounds (pos mask h n) (some hs.length)) j=false:=λj b e=>by
  rw[X6 d b,get];split
  .exact⟨_,rfl⟩
  .exact(X6 L.size b).mp e
 refine⟨d,λj q e=>?_,λq o=>?_,λj i q e a=>?_⟩
 .rw[get]at e;by_cases c:j=pos mask h n
  .rw[az c]at e;cases e;exact⟨h,by rw[aW (ao _),Nat.sub_self];rfl,n,c.symm,λm f=>keep _ (a1d mask h m) (h2 m f)⟩
  .rw[ar c]at e;obtain⟨h',e1,p,e2,k⟩:=L.val j q e;exact⟨h',by rw[bq (aT.mp e1).1];exact e1,p,e2,λm f=>keep _ (a1d mask h' m) (k m f)⟩
 .by_cases c:q=hs.length
  .exact⟨pos mask h n,by rw[get,az rfl,c]⟩
  .rw[ak,fO]at o;obtain⟨j,b⟩:=L.ex q (by omega);refine⟨j,?_⟩;rw[get,ar]
   .exact b
   .intro z;exact g q (z ▸ b)
 .rw[get]at e a;have lt:∀j:Nat,owner[j]?=some (some q)->q<hs.length:=λj z=>by
   obtain⟨_,e1,_⟩:=L.val j q z;exact(aT.mp e1).1
  by_cases c:j=pos mask h n
  .by_cases c':i=pos mask h n
   .rw[c,c']
   .rw[az c]at e;rw[ar c']at a;cases e;exact absurd (lt _ a) (by omega)
  .by_cases c':i=pos mask h n
   .rw[ar c]at e;rw[az c']at a;cases a;exact absurd (lt _ e) (by omega)
   .rw[ar c]at e;rw[ar c']at a;exact L.uniq j i q e a
theorem a6f{mask k:Nat}(c:mask+1=2 ^ k):∀(rest done:List Int) (owner:Array (Option Nat)),Lay mask owner done->done.length+rest.length<=mask ->
  ∃a,rest.foldl (λb h=>do
   let (owner,k) <-b
   let j <-SetTable.layClean.free mask owner (SetTable.turns mask) (SetTable.bits h % (mask+1)) (SetTable.bits h)
   pure (owner.setIfInBounds j (some k),k+1)) (some (owner,done.length))=some (a,(done++rest).length)/\Lay mask a (done++rest)
 |[],done,owner,L,_=>⟨owner,by simp,by simpa using L⟩
 |h::rest,done,owner,L,e=>by
  rw[a']at e;obtain⟨n,h1,h2,d⟩:=L.free c (by omega) h;obtain⟨a,e1,e2⟩:=a6f c rest (done++[h]) _ (L.put h1 h2) (by rw[ak,fO];omega);refine⟨a,?_,by rw[aC]at e2;exact e2⟩;rw[dE];rw[aC]at e1;refine Eq.trans (aN (λz=>List.foldl _ z rest) ?_) e1;show(Option.bind (SetTable.layClean.free mask owner (SetTable.turns mask) (SetTable.bits h % (mask+1)) (SetTable.bits h)) λj=>some (owner.setIfInBounds j (some done.length),done.length+1))=_;rw[d,ak];rfl
theorem a6g{mask k:Nat}(b:mask+1=2 ^ k)(a:Array Int)(c:a.size<=mask):∃owner,SetTable.layClean mask a=some owner/\Lay mask owner a.toList:=by
 obtain⟨owner,e1,e2⟩:=a6f b a.toList [] _ (Lay.start mask) (by simpa using c);refine⟨owner,?_,e2⟩;unfold SetTable.layClean;rw[<-Array.foldl_toList];exact aN (Option.map (·.1)) e1
theorem a7A{α β:Type}(f:α->Option β):∀l:List α,(∀x∈l,(f x).isSome=true)->(l.filterMap f).map some=l.map f
 |[],_=>rfl
 |x::l,h=>by
  have c:=a7A f l λy b=>h y (av _ b);have a:=h x au;cases e:f x with
  |none=>rw[e]at a;cases a
  |some y=>rw[List.filterMap_cons_some e,aZ,aZ,c,e]
theorem b1s{α:Type}(es:Array α):(List.range es.size).filterMap (es[·]?)=es.toList:=by
 have h1:((List.range es.size).filterMap (es[·]?)).map some=(List.range es.size).map (es[·]?):=a7A _ _ λq a=>by
  have:=aX.mp a;simp[this]
 have h2:es.toList.map some=(List.range es.size).map (es[·]?):=by
  refine dP (by simp) λi h1 h2=>?_;simp at h1;simp[h1]
 exact(List.map_inj_right (λ_ _ h=>bH h)).mp (h1.trans h2.symm)
def D8(mask:Nat)(owner:Array (Option Nat)):List (Nat×Nat):=(List.range (mask+1)).filterMap λj=>(owner.getD j none).map (j,·)
theorem N8{mask:Nat}{owner:Array (Option Nat)}(hs:owner.size=mask+1)(j q:Nat):(j,q)∈D8 mask owner↔owner[j]?=some (some q):=by
 unfold D8;rw[cN];constructor
 .rintro⟨j',a,e⟩;have a:=aX.mp a;rw[fH]at e;obtain⟨c,e1,e2⟩:=e;cases e2;rw[bO,bJ (by omega)]at e1;rw[bJ (by omega)];exact aN some e1
 .intro e;have b:j<owner.size:=(cW.mp e).1;exact⟨j,aX.mpr (by omega),by rw[bO,e];rfl⟩
theorem b2i(mask:Nat)(owner:Array (Option Nat)):(D8 mask owner).Pairwise λa b=>a.1<b.1:=by
 unfold D8;refine List.Pairwise.filterMap _ (λa b c p d q e=>?_) List.pairwise_lt_range;rw[fH]at d e;obtain⟨_,_,rfl⟩:=d;obtain⟨_,_,rfl⟩:=e;exact c
theorem b4F{α:Type}{mask k:Nat}(E:mask+1=2 ^ k)(I:3<=k)(es:Array (Int×α))(F:es.size<=mask)(finger moves:Nat)(led plain:Bool) :
  ∃t' d,SetTable.laid mask finger moves led plain (es.map (·.1))=some (t',d)/\t'.mask=mask/\t'.led=led/\t'.plain=plain/\TabOk t' (d.filterMap (es[·]?))/\(d.filterMap (es[·]?)).toList.Perm es.toList:=by
 obtain⟨c,e,L⟩:=a6g E (es.map (·.1)) (by simpa using F);refine⟨{mask,place:=((D8 mask c).map (·.1)).toArray,dummies:=#[],finger,led,moves,plain},((D8 mask c).map (·.2)).toArray,?_,rfl,rfl,rfl,?_⟩
 .unfold SetTable.laid;rw[e];rfl
 have A:∀p∈D8 mask c,p.2<es.size:=λp o=>by
  obtain⟨h,h1,_⟩:=L.val p.1 p.2 ((N8 L.size p.1 p.2).mp o);have:=(aT.mp h1).1;simpa using this
 have w:=b2i mask c;have nd:((D8 mask c).map (·.2)).Nodup:=by
  rw[eR,cf];refine w.imp_of_mem λ{a b} J M K z=>?_;have h1:=(N8 L.size a.1 a.2).mp J;have h2:=(N8 L.size b.1 b.2).mp M;rw[z]at h1;have:=L.uniq _ _ _ h1 h2;omega
 have g:∀q,q∈(D8 mask c).map (·.2)↔q∈List.range es.size:=λq=>by
  rw[aX];constructor
  .intro u;obtain⟨p,o,rfl⟩:=aL.mp u;exact A p o
  .intro u;obtain⟨j,s⟩:=L.ex q (by simpa using u);exact aL.mpr ⟨(j,q),(N8 L.size j q).mpr s,rfl⟩
 have perm:((D8 mask c).map (·.2)).Perm (List.range es.size):=(eS nd fM).mpr g;have r:∀l:List Nat,(l.toArray.filterMap (es[·]?)).toList=l.filterMap (es[·]?):=λl=>by simp
 have f:(((D8 mask c).map (·.2)).filterMap (es[·]?)).map some=((D8 mask c).map (·.2)).map (es[·]?):=a7A _ _ λq u=>by
  have:=aX.mp ((g q).mp u);simp[this]
 have v:(((D8 mask c).map (·.2)).toArray.filterMap (es[·]?)).size=(D8 mask c).length:=by
  have:=aN List.length f;rw[ae,ae,ae]at this;rw[<-ay,r];exact this
 have t:(D8 mask c).length=es.size:=by
  have:=perm.length_eq;rw[ae,fD]at this;exact this
 refine⟨⟨?_,rfl,?_,λj s=>?_,⟨k,I,E⟩,by rw[v,t];exact F,λi j y x D=>?_⟩,?_⟩
 .rw[v];simp
 .rw[ris_list];show((D8 mask c).map (·.1)).Pairwise (· < ·);rw[cf];exact w
 .have s:j∈(D8 mask c).map (·.1):=by simpa using s
  obtain⟨p,o,rfl⟩:=aL.mp s;have:=(cW.mp ((N8 L.size p.1 p.2).mp o)).1;rw[L.size]at this;show p.1<=mask;omega
 .have x:((D8 mask c).map (·.1))[i]?=some j:=by simpa using x
  rw[<-ax,r]at D;rw[ba,fH]at x;obtain⟨p,o,rfl⟩:=x;have h1:=aN (λl=>l[i]?) f;simp only[ba,D,o,Option.map_some]at h1;injection h1 with h1
  have B:=(N8 L.size p.1 p.2).mp (aI o);obtain⟨h,q1,n,G,H⟩:=L.val p.1 p.2 B;have N:h=y.1:=by
   rw[ax,Array.getElem?_map,<-h1]at q1;injection q1 with q1
   exact q1.symm
  rw[N]at G H;refine⟨n,G,λm O=>?_⟩;obtain⟨P,C⟩:=(X6 L.size (a1d mask _ m)).mp (H m O);have:pos mask y.1 m∈(D8 mask c).map (·.1):=aL.mpr ⟨_,(N8 L.size _ P).mpr C,rfl⟩;show pos mask y.1 m∈((D8 mask c).map (·.1)).toArray;simpa using this
 .rw[r];refine(perm.filterMap _).trans (List.Perm.of_eq ?_);exact b1s es
theorem a8n(n:Nat):∀(fuel a:Nat),3<=a->n<2 ^ (a+fuel)->∃b,3<=b/\SetTable.sizeAbove.go n fuel (2 ^ a)=2 ^ b/\n<2 ^ b/\(b=a∨2 ^ b<=2*n)
 |0,a,c,h=>⟨a,c,rfl,h,.inl rfl⟩
 |fuel+1,a,c,h=>by
  unfold SetTable.sizeAbove.go;by_cases d:2 ^ a<=n
  .rw[az d,<-de];obtain⟨b,e,f,g,i⟩:=a8n n fuel (a+1) (by omega) (by rw[dY,Nat.add_comm 1];exact h);refine⟨b,e,f,g,.inr ?_⟩;rcases i with z|z
   .rw[z,de];omega
   .exact z
  .rw[ar d];exact⟨a,c,rfl,by omega,.inl rfl⟩
theorem a0G(n:Nat)(h:n<2 ^ 60):∃b,3<=b/\SetTable.sizeAbove n=2 ^ b/\n<2 ^ b/\(b=3∨2 ^ b<=2*n) :=
 a8n n 64 3 (ao _) (aO h (by decide))
theorem a9u{α:Type}(t:SetTable)(es:Array (Int×α))(a:Nat)(hw:a<2 ^ 60)(m:es.size<a) :
  ∃t' c,t.relaid (es.map (·.1)) a=some (t',c)/\a<=t'.mask/\t'.mask<=2*a+7/\t'.led=t.led/\t'.plain=t.plain/\TabOk t' (c.filterMap (es[·]?))/\(c.filterMap (es[·]?)).toList.Perm es.toList:=by
 obtain⟨b,d,e,l,f⟩:=a0G a hw;have n:0<2 ^ b:=Nat.pow_pos (by decide);unfold SetTable.relaid;rw[e];obtain⟨t',c,h1,h2,g,h,i,j⟩:=b4F (mask:=2 ^ b-1) (k:=b) (by omega) d es (by omega) t.finger (t.movedTo (2 ^ b-1)) t.led t.plain;refine⟨t',c,h1,by rw[h2];omega,?_,g,h,i,j⟩;rw[h2];rcases f with z|z
 .rw[z];omega
 .omega
end Tab
end L2
namespace L2
namespace Tab
open PySem
section
variable {prog:Program}{w:World}{A:Around}{E:Value->Shared->Prop}{s:Shared}
abbrev TK(prog:Program)(w:World)(h:Heap)(r:List Int)(a:Addr):Prop:=IsTupleKey (intKind prog w) h r a
theorem TK.keep{h h':Heap}{r:List Int}{a:Addr}(x:TK prog w h r a)(k:∀b o,h.get? b=some o->h'.get? b=some o):TK prog w h' r a:=by
 obtain⟨o,its,n,h1,h2⟩:=x;exact⟨o,its,n,k _ _ h1,h2⟩
theorem items_int{r:List Int}{vs:List Value}(h:ItemsAre (intKind prog w) r vs):∀v∈vs,∃i t,v=.int i t:=by
 induction h with
 |nil=>intro v b;cases b
 |@cons k v ks vs h1 _ c =>
  intro u a;rcases aD.mp a with e|a
  .obtain⟨t,ht⟩:=Value.isInt_shape h1;exact⟨k,t,e.trans ht⟩
  .exact c u a
theorem a5X{r:List Int}{a:Addr}{Q:Bool->Shared->Prop}(e:TK prog w s.heap r a)(h:Q false s):wpAny (model prog w) A (ofAClassStatement 8 (.ref a)) Q E s:=by
 have f:=e.typeIs;obtain⟨o,d,n,g,_,hd,hi⟩:=e;have c:=items_int hi;unfold ofAClassStatement;refine aa (eF f ?_);dsimp only;rw[az (by decide)];refine aa (ai ?_);rw[ar (by decide)];refine aa (cI g hd ?_);dsimp only;refine aa ?_;rw[<-Array.forIn_toList];refine wpAny_forIn_list _ (λrest b s'=>s'=s/\b.1=none/\∀v∈rest,∃i t,v=Value.int i t) _ ?_ ?_ _ _ ⟨rfl,rfl,c⟩
 .rintro x rest b s' ⟨rfl,hb,hr⟩;obtain⟨i,t,rfl⟩:=hr x au;refine aa (m:=ofAClassStatement 7 (.int i t)) (ai ?_);rw[ar (by decide)];exact ai ⟨rfl,rfl,λv j=>hr v (av _ j)⟩
 .rintro b s' ⟨rfl,hb,_⟩;rw[hb];exact ai h
theorem b3b{r:List Int}{a:Addr}{Q:Bool->Shared->Prop}(e:TK prog w s.heap r a)(h:Q true s):wpAny (model prog w) A (hashByValue 8 (.ref a)) Q E s:=by
 have f:=e.typeIs;obtain⟨o,c,n,g,_,hd,hi⟩:=e;have d:=items_int hi;unfold hashByValue;refine aa (wpAny_specialOf f F.slot_tuple_hash.lookup ?_);dsimp only;refine aa (cI g hd ?_);refine aa ?_;show wpAny _ _ (forIn c _ _) _ _ _;rw[<-Array.forIn_toList];refine wpAny_forIn_list _ (λrest b s'=>s'=s/\b.1=none/\∀v∈rest,∃i t,v=Value.int i t) _ ?_ ?_ _ _ ⟨rfl,rfl,d⟩
 .rintro x rest b s' ⟨rfl,hb,hr⟩;obtain⟨i,t,rfl⟩:=hr x au;refine aa (m:=hashByValue 7 (.int i t)) (ai ?_);rw[ar (by decide)];exact ai ⟨rfl,rfl,λv j=>hr v (av _ j)⟩
 .rintro b s' ⟨rfl,hb,_⟩;rw[hb];exact ai h
theorem b2e{r:List Int}{b:Addr}{l:List Value}{Q:Bool->Shared->Prop}(f:TK prog w s.heap r b)(g:∀y∈l,∃a b',y=.ref b'/\TK prog w s.heap a b')(h:Q false s):wpAny (model prog w) A (searchCouldBeSeen (.ref b) l) Q E s:=by
 unfold searchCouldBeSeen;refine aa ?_;refine wpAny_forIn_list _ (λrest c s'=>s'=s/\c.1=none/\∀y∈rest,∃a b',y=.ref b'/\TK prog w s.heap a b') _ ?_ ?_ _ _ ⟨rfl,rfl,g⟩
 .rintro x rest c s' ⟨rfl,hc,hr⟩;obtain⟨a,b',rfl,d⟩:=hr x au;have e:∀y∈rest,∃a b',y=.ref b'/\TK prog w s'.heap a b':=λv i=>hr v (av _ i);dsimp only;split
  .exact ai ⟨rfl,rfl,e⟩
  .refine aa ((tupleKind (intKind prog w)).quiet f ?_);rw[ar (by decide)];refine aa ((tupleKind (intKind prog w)).quiet d ?_);rw[ar (by decide)];refine aa (a5X f ?_);rw[ar (by decide)];refine aa (a5X d ?_);rw[ar (by decide)];exact ai ⟨rfl,rfl,e⟩
 .rintro c s' ⟨rfl,hc,_⟩;dsimp only;rw[hc];exact ai h
noncomputable def hsh(prog:Program)(w:World)(r:List Int):Int:=tupleKeyHash (intKind prog w) r
noncomputable def ent(prog:Program)(w:World)(x:List Int×Addr):Int×Value:=(hsh prog w x.1,Value.ref x.2)
theorem G6{α:Type}{t:SetTable}{es:Array (Int×α)}(ok:TabOk t es):t.fits es.size=true:=by
 unfold SetTable.fits SetTable.fill;have:=ok.room;simp[ok.size,ok.dum,this]
theorem b6T{α:Type}{t:SetTable}{es:Array (Int×α)}(ok:TabOk t es):t.gaveWay=false:=by
 obtain⟨k,b,a⟩:=ok.pow;obtain⟨c,rfl⟩:∃c,k=c+1:=⟨k-1,by omega⟩;rw[de]at a;unfold SetTable.gaveWay;have:t.mask % 2=1:=by omega
 rw[this];rfl
theorem b2j{c:Bool}{m:Sem Bool}{X Y:Sem SetFound}{Q:SetFound->Shared->Prop}(b:∀a:Bool->Shared->Prop,a false s->wpAny (model prog w) A m a E s)(h:wpAny (model prog w) A Y Q E s):wpAny (model prog w) A (if c=true then m>>=λz=>if z=true then X else Y else Y) Q E s:=by
 split
 .refine aa (b _ ?_);rw[ar (by decide)];exact h
 .exact h
theorem a3P{a b:Addr}{r:List Int}{o:Obj}{es:Array (Int×Value)}{ep:Nat}{t:SetTable}{xs:List (List Int×Addr)}{Q:SetFound->Shared->Prop}(S:s.heap.get? a=some o)(hd:o.data=.set es ep t)(ok:TabOk t es)
  (F:∀e∈es.toList,∃x∈xs,e=ent prog w x) (M:∀x∈xs,ent prog w x∈es.toList) (g:∀x∈xs,TK prog w s.heap x.1 x.2) (R:TK prog w s.heap r b) (X:A.units<cLine) {N:Nat}(Z:N<10*SetTable.turns t.mask) (j:pos t.mask (hsh prog w r) N∉t.place) (q:∀m,m<N->pos t.mask (hsh prog w r) m∈t.place)
  (J:r∈xs.map (·.1)->Q (.there none) s) (B:r∉xs.map (·.1)->Q (.free (pos t.mask (hsh prog w r) N) false) s) :
  ∀(fuel d:Nat) (st:Option SetTable.Probe),N-d<fuel->d<=N->st.getD (t.probeStart (hsh prog w r))=C2 t.mask (st0 t.mask (hsh prog w r)) d->(∀m,m<d->∀(i:Nat) (x:List Int×Addr),x∈xs->t.place[i]?=some (pos t.mask (hsh prog w r) m)->es[i]?=some (ent prog w x)->x.1≠r) ->
   wpAny (model prog w) A (setSearchFrom a (.ref b) (hsh prog w r) true fuel st) Q E s
 |0,d,st,h,_,_,_=>absurd h (by omega)
 |fuel+1,d,st,hf,a2,U,L=>by
  unfold setSearchFrom;refine aa (cx S hd (G6 ok) ?_);dsimp only;rw[b6T ok,ar (by decide),U];have f:∀m,(C2 t.mask (C2 t.mask (st0 t.mask (hsh prog w r)) d) m).j=pos t.mask (hsh prog w r) (d+m):=λm=>by rw[<-a0E];rfl
  have W:∀(i:Nat) (e:Int×Value),es[i]?=some e->(es[i]?.map (·.1)).getD 0=e.1:=λi e z=>by rw[z];rfl
  have O:∀n,d+n<N↔pos t.mask (hsh prog w r) (d+n)∈t.place/\∀m,m<n->pos t.mask (hsh prog w r) (d+m)∈t.place:=λn=>by
   constructor
   .intro h;exact⟨q _ h,λm K=>q _ (by omega)⟩
   .rintro⟨h1,h2⟩;rcases di (d+n) N with z|z|z
    .exact z
    .rw[z]at h1;exact absurd h1 j
    .have:=h2 (N-d) (by omega);rw[show d+(N-d)=N by omega]at this;exact absurd this j
  rcases a5U ok.ris ok.dum (λi=>(es[i]?.map (·.1)).getD 0) (hsh prog w r) (10*SetTable.turns t.mask) (C2 t.mask (st0 t.mask (hsh prog w r)) d) (by rw[a0X];rfl) ⟨N-d,by omega,by rw[f,show d+(N-d)=N by omega];exact j⟩with⟨n,h1,h2,h3⟩|⟨n,h1,h2,h3,h4⟩
  .have h3:t.probe (λi=>(es[i]?.map (·.1)).getD 0) (hsh prog w r) (C2 t.mask (st0 t.mask (hsh prog w r)) d)=_:=h3;erw [h3];dsimp only;rw[f]at h1⊢;have e:d+n=N:=by
    rcases di (d+n) N with z|z|z
    .exact absurd (q _ z) h1
    .exact z
    .have:=(h2 (N-d) (by omega)).1;rw[f,show d+(N-d)=N by omega]at this;exact absurd this j
   rw[e];refine ai (B λK=>?_);obtain⟨x,H,rfl⟩:=aL.mp K;obtain⟨i,hi⟩:=cw.mp (M x H);rw[ax]at hi;have u:i<t.place.size:=by rw[ok.size];exact(cW.mp hi).1
   obtain⟨p,q1,Y⟩:=ok.reach i _ _ (a0T u) hi;change pos t.mask (hsh prog w x.1) p=_ at q1;change ∀m,m<p->pos t.mask (hsh prog w x.1) m∈t.place at Y;have k:t.place[i]?=some (pos t.mask (hsh prog w x.1) p):=by rw[q1];exact a0T u
   have a1:p<N:=by
    rcases di p N with z|z|z
    .exact z
    .rw[z]at k;exact absurd (Array.mem_of_getElem? k) j
    .exact absurd (Y N z) j
   by_cases c:p<d
   .exact L p c i x H k hi rfl
   .have C:=(h2 (p-d) (by omega)).2;rw[f,show d+(p-d)=p by omega,a0V ok.ris k,W i _ hi]at C;exact C rfl
  .have h4:t.probe (λi=>(es[i]?.map (·.1)).getD 0) (hsh prog w r) (C2 t.mask (st0 t.mask (hsh prog w r)) d)=_:=h4;erw [h4];dsimp only;rw[f]at h1 h2⊢;have a0:d+n<N:=(O n).mpr ⟨h1,λm K=>by have:=(h3 m K).1;rw[f]at this;exact this⟩;have k:=(a1s ok.ris _).mpr h1;generalize I:SetTable.below t.place (pos t.mask (hsh prog w r) (d+n))=ib at h2 k⊢;have u:ib<es.size:=by rw[<-ok.size];exact(cW.mp k).1
   obtain⟨x,H,ex⟩:=F es[ib] (by simp);have D:es[ib]?=some (ent prog w x):=by rw[bJ u,ex]
   rw[D];dsimp only;refine b2j (λQ' hq=>b2e R (λy hy=>?_) hq) ?_
   .obtain⟨e,P,rfl⟩:=aL.mp hy;have P:e∈es:=by
     have:=eJ.mp P;exact(Array.mem_filter.mp this).1
    obtain⟨G,v,ex'⟩:=F e (by simpa using P);exact⟨G.1,G.2,by rw[ex'];rfl,g G v⟩
   refine aa (cj ((tupleKind (intKind prog w)).eqBool X (g x H) R ?_));refine aa (cx S hd (G6 ok) ?_);dsimp only;by_cases l:x.1=r
   .rw[az (by rw[bg l];rfl)];exact ai (J (aL.mpr ⟨x,H,l⟩))
   .rw[ar (by rw[bL l];decide)];have sm:t.sameMemory t.moves t.mask=some true:=by unfold SetTable.sameMemory;simp
    rw[sm];dsimp only;rw[az rfl,a8m ok.ris ok.dum,az h1];dsimp only;rw[I,D];dsimp only;refine aa (wpAny_isSame_ref_self ?_);rw[az rfl];refine aa (ai ?_);dsimp only;rw[ar (by rw[bL l];decide)];refine a3P S hd ok F M g R X Z j q J B fuel (d+n+1) _ (by omega) (by omega) (by rw[<-a0E];rfl) λm K i G v T hi=>?_;by_cases c:m<d
    .exact L m c i G v T hi
    .by_cases c2:m=d+n
     .subst c2;have:ib=i:=by rw[<-I];exact a0V ok.ris T
      subst this;rw[D]at hi;injection hi with hi
      have C:x.2=G.2:=by
       have:=aN Prod.snd hi;injection this
      intro z;have V:=g x H;rw[C]at V;exact l ((V.inj (g G v)).trans z)
     .have C:=(h3 (m-d) (by omega)).2;rw[f,show d+(m-d)=m by omega,a0V ok.ris T,W i _ hi]at C;intro z;exact C (by rw[<-z];rfl)
def Y9(prog:Program)(w:World)(ld:Bool)(h:Heap)(a:Addr)(xs:List (List Int×Addr)):Prop :=
 ∃o es ep t,h.get? a=some o/\o.ExactSet/\o.data=.set es ep t/\es.toList.Perm (xs.map (ent prog w))/\TabOk t es/\t.plain=true/\es.size*5<t.mask*3/\t.mask<=8*xs.length+7/\t.led=ld
theorem b7A{ld:Bool}{a b:Addr}{r:List Int}{xs:List (List Int×Addr)}{Q:Bool->Shared->Prop}(hS:Y9 prog w ld s.heap a xs)(L:∀x∈xs,TK prog w s.heap x.1 x.2)(Z:TK prog w s.heap r b)(hu:A.units<cLine)(hl:xs.length<1000)
  (h:∀h' H c,Heap.SameBut a s.heap h'->Y9 prog w ld h' a H->((r∈xs.map (·.1)/\H=xs)∨(r∉xs.map (·.1)/\H=(r,b)::xs))->Q c {s with heap:=h',toks:=s.toks+(r.length+1)}):wpAny (model prog w) A (setAdd a (.ref b)) Q E s:=by
 obtain⟨o,es,ep,t,I,C,hd,q,ok,F,a1,a0,O⟩:=hS;have a2:es.size=xs.length:=by rw[<-ay,q.length_eq,ae]
 unfold setAdd;refine cj (aa (wpAny_pyHash_tuple hu Z ?_));unfold setAddHashed;refine cj ?_;unfold setAddHashedIn;refine aa (cx (s:={s with toks:=s.toks+(r.length+1)}) I hd (G6 ok) ?_);dsimp only;rw[show byScan (.ref b) es=false from rfl,ar (by decide)];unfold setSearch;obtain⟨N,hN,J,K⟩:=ok.first (hsh prog w r);have a6:N<100000:=by unfold SetTable.turns at hN;omega
 refine aa (a3P (s:={s with toks:=s.toks+(r.length+1)}) (xs:=xs) I hd ok (λe he=>?_) (λx hx=>q.mem_iff.mpr (aL.mpr ⟨x,hx,rfl⟩)) L Z hu hN J K (λY=>?_) (λB=>?_) 100000 0 none (by omega) (bG _) rfl (λm hm=>absurd hm (by omega)))
 .obtain⟨x,hx,rfl⟩:=aL.mp (q.mem_iff.mp he);exact⟨x,hx,rfl⟩
 .refine ai ?_;exact h s.heap xs false (Heap.SameBut.refl a s.heap) ⟨o,es,ep,t,I,C,hd,q,ok,F,a1,a0,O⟩ (.inl ⟨Y,rfl⟩)
 .dsimp only;refine aa (cx (s:={s with toks:=s.toks+(r.length+1)}) I hd (G6 ok) ?_);dsimp only;rw[az (show(t.put (pos t.mask (hsh prog w r) N)).1.plain=true from F)];refine aa (b3b (s:={s with toks:=s.toks+(r.length+1)}) Z ?_);simp only[↓reduceIte,Bool.not_false,Bool.true_and];have k:=ok.add (v:=Value.ref b) J K (a1d _ _ _) (by omega);have P:(t.put (pos t.mask (hsh prog w r) N)).1.mask=t.mask:=rfl;have p:(t.put (pos t.mask (hsh prog w r) N)).1.plain=true:=F;have n:(t.put (pos t.mask (hsh prog w r) N)).1.led=ld:=O;have V:(t.put (pos t.mask (hsh prog w r) N)).2<=es.size:=by
   have:=(G9 ok.ris (pos t.mask (hsh prog w r) N)).1;rw[ok.size]at this;exact this
  have M:=X5 es (t.put (pos t.mask (hsh prog w r) N)).2 (hsh prog w r,Value.ref b) V;change wpAny _ _ (storeSet a (SetTable.insertAt es (t.put (pos t.mask (hsh prog w r) N)).2 (hsh prog w r,Value.ref b)) _>>=_) _ _ _;generalize (t.put (pos t.mask (hsh prog w r) N)).1=l at k P p n⊢;generalize SetTable.insertAt es (t.put (pos t.mask (hsh prog w r) N)).2 (hsh prog w r,Value.ref b)=d at k M⊢;have u:d.toList.Perm (((r,b)::xs).map (ent prog w)):=by
   rw[M];refine List.perm_middle.trans ?_;rw[br,aZ];exact List.Perm.cons _ q
  have R:d.size=xs.length+1:=by rw[<-ay,u.length_eq,ae,a']
  have S:d.size<=sizeLine:=by rw[a_];omega
  refine aa (wpAny_storeSet_of (s:={s with toks:=s.toks+(r.length+1)}) I hd ?_ S);have y:(s.heap.update a (Obj.putSet d l)).get? a=some {o with data:=.set d (ep+1) l}:=by
   have:=cL (Obj.putSet d l) I (by rw[putSet_of d l hd];rfl);rw[putSet_of d l hd]at this;exact this
  have U:=cE s.heap a (Obj.putSet d l);have hf1:l.fill=d.size:=by unfold SetTable.fill;rw[k.size,k.dum];rfl
  by_cases f:l.tooFull=true
  .rw[az f];unfold SetTable.tooFull at f;rw[hf1,bf]at f;refine aa ?_;unfold setRelay;refine aa (cx (s:={s with heap:=s.heap.update a (Obj.putSet d l),toks:=s.toks+(r.length+1)}) y rfl (G6 k) ?_);dsimp only;have X:SetTable.grown (es.size+1)=4*(xs.length+1):=by
    unfold SetTable.grown;rw[ar (by omega),a2];omega
   rw[X];obtain⟨sb,a5,a3,a8,a4⟩:=a0G (4*(xs.length+1)) (by omega);have a7:SetTable.sizeAbove (4*(xs.length+1))<=16000:=by
    rw[a3];rcases a4 with z|z
    .rw[z];decide
    .omega
   rw[ar (by rw[a_];omega)];obtain⟨G,g,r1,r2,r3,r4,r5,T,D⟩:=a9u l d (4*(xs.length+1)) (by omega) (by omega);rw[r1];have i:(g.filterMap (d[·]?)).size=d.size:=by rw[<-ay,D.length_eq,ay]
   refine aa ?_;show wpAny _ _ (if ((g.filterMap (d[·]?)).size != d.size)=true then _ else pure (g.filterMap (d[·]?),G)) _ _ _;rw[ar (by rw[i];simp)];refine ai ?_;dsimp only;generalize g.filterMap (d[·]?)=j at T D i⊢;refine wpAny_storeSet_of (s:={s with heap:=s.heap.update a (Obj.putSet d l),toks:=s.toks+(r.length+1)}) y rfl ?_ (by rw[i];exact S);have W:((s.heap.update a (Obj.putSet d l)).update a (Obj.putSet j G)).get? a=some {o with data:=.set j (ep+1+1) G}:=by
    have:=cL (Obj.putSet j G) y (by rw[putSet_of j G rfl];rfl);rw[putSet_of j G rfl]at this;exact this
   refine ai (h _ ((r,b)::xs) true (U.trans (cE _ a _)) ⟨_,j,_,G,W,C,rfl,D.trans u,T,by rw[r5];exact p,?_,?_,by rw[r4];exact n⟩ (.inr ⟨B,rfl⟩))
   .rw[i,R];omega
   .rw[a'];omega
  .rw[ar f];unfold SetTable.tooFull at f;rw[hf1,bf]at f;refine ai (h _ ((r,b)::xs) true U ⟨_,d,_,l,y,C,rfl,u,k,p,by omega,?_,n⟩ (.inr ⟨B,rfl⟩));rw[a',P];omega
end
end Tab
end L2
namespace L2
namespace Tab
open PySem
structure Came(rows:Nat->List Int×Addr)(i:Nat)(xs:List (List Int×Addr)):Prop where
 len:xs.length<=i
 nd:(xs.map (·.1)).Nodup
 from_:∀x∈xs,∃j,j<i/\x=rows j
 all:∀j,j<i->(rows j).1∈xs.map (·.1)
section
variable {prog:Program}{w:World}{A:Around}{R:Result->Shared->Prop}{I:Addr}{fp wr:List Addr}{G:Array GenState->Array GenState->Prop}{n:Nat}{P:Nat->Value->Prop}{St:Nat->Shared->Prop}
theorem a5y(W:WalksS prog w A.in1 I fp wr G n P St)(S:Addr)(D:S∉fp){ld:Bool}{h0:Heap}(L:∀b o,h0.get? b=some o->b∉wr/\b≠S)(a:Nat->List Int×Addr)
  (K:∀i v,i<n->P i v->v=.ref (a i).2) (l:∀i,i<n->TK prog w h0 (a i).1 (a i).2) (hn:n<=1000) (hu:A.units+10<cLine) :
  ∀(k i:Nat) (s:Shared) (xs:List (List Int×Addr)),n-i=k->i<=n->St i s->(∀b o,h0.get? b=some o->s.heap.get? b=some o)->Y9 prog w ld s.heap S xs->Came a i xs ->
   (∀s' f,Moved (S::wr) G s s'->Y9 prog w ld s'.heap S f->Came a n f->R (.ok (.ret .none)) s') ->
   codeAny (model prog w) A (.builtin "set.update.loop" ⟨[.ref S,.ref I],[]⟩) R s:=by
 have E:S∉wr:=λh=>D (W.sub _ h);have m:∀b∈wr,b∈S::wr:=λb F=>av _ F;intro k;induction k with
 |zero =>
  intro i s xs hk hi r y T d hR;have X:i=n:=by omega
  subst X;refine dF PyProof.Rows.F.entry_set_update_loop ?_;rw[dI dC _];show wpAny _ A.in1 (pyNext (.ref I)>>=_) _ _ s;refine aa (W.done s _ _ r λs' u=>?_);show wpAny _ A.in1 (ret Value.none) _ _ s';refine ai (hR s' xs (u.mono m) ?_ d);obtain⟨o,es,ep,t,Y,rest⟩:=T;exact⟨o,es,ep,t,u.heap S _ E Y,rest⟩
 |succ k ih =>
  intro i s xs hk hi r y T d hR;have g:i<n:=by omega
  refine dF PyProof.Rows.F.entry_set_update_loop ?_;rw[dI dC _];show wpAny _ A.in1 (pyNext (.ref I)>>=_) _ _ s;refine aa (W.item i s _ _ g r λv s' hP J u=>?_);obtain rfl:=K i v g hP;have U:Y9 prog w ld s'.heap S xs:=by
   obtain⟨o,es,ep,tb,Y,rest⟩:=T;exact⟨o,es,ep,tb,u.heap S _ E Y,rest⟩
  have p:∀b o,h0.get? b=some o->s'.heap.get? b=some o:=λb o e=>u.heap b o (L b o e).1 (y b o e);show wpAny _ A.in1 (holding [Value.ref (a i).2] (setAdd S (.ref (a i).2))>>=_) _ _ s';refine aa (cj (b7A U (λx M=>?_) ((l i g).keep p) (show A.units+1<cLine by omega) (by have:=d.len;omega) λh' f c q V Z=>?_))
  .obtain⟨j,O,rfl⟩:=d.from_ x M;exact(l j (by omega)).keep p
  have Q:Came a (i+1) f:=by
   rcases Z with⟨h1,rfl⟩|⟨h1,rfl⟩
   .refine⟨by have:=d.len;omega,d.nd,λx M=>?_,λj O=>?_⟩
    .obtain⟨j,O,e⟩:=d.from_ x M;exact⟨j,by omega,e⟩
    .by_cases c:j=i
     .rw[c];exact h1
     .exact d.all j (by omega)
   .refine⟨by have:=d.len;rw[a'];omega,by rw[aZ,bR];exact⟨h1,d.nd⟩,λx M=>?_,λj O=>?_⟩
    .rcases aD.mp M with z|z
     .exact⟨i,by omega,z⟩
     .obtain⟨j,O,e⟩:=d.from_ x z;exact⟨j,by omega,e⟩
    .rw[aZ];by_cases c:j=i
     .rw[c];exact au
     .exact av _ (d.all j (by omega))
  refine ai ⟨plainId_quiet dC _,ih (i+1) _ f (by omega) g (W.frame _ s' _ _ J (cm _ _) λb F o e=>?_) (λb o e=>?_) V Q λa0 N H C B=>?_⟩
  .rw[q.2 b (λh:b=S=>D (by rw[<-h];exact F))];exact e
  .show h'.get? b=some o;rw[q.2 b (L b o e).2];exact p b o e
  .refine hR a0 N (Moved.trans W.gtrans ((u.mono m).then_heap (cm _ _) λb o F e=>?_) H) C B;rw[q.2 b (λh:b=S=>F (by rw[h];exact au))];exact e
end
section
variable {prog:Program}{w:World}{A:Around}{E:Value->Shared->Prop}{s:Shared}
theorem a0t(a:Value){Q₁:Value->Shared->Prop}
  (h:Q₁ (.ref s.heap.objs.size) {s with heap:=s.heap.push {cls:=.type "set",dict:=none,data:=.set #[] 0 (.fresh 0 0 (!w.params.followText "set-order"))}}) :
  codeAny (model prog w) A (.call (.builtin "set.__new__") ⟨[.type "set",a],[]⟩) (wants Q₁ E) s:=by
 refine codeAny_of_tree ?_;show wpAny _ A.in1 (do checkBuiltinCall "set.__new__" ⟨[.type "set",a],[]⟩;again (.builtin "set.__new__" ⟨[.type "set",a],[]⟩)) _ _ s;refine aa (wpAny_of_eq (PySem.F.newCall_set_1 a) (ai ⟨plainId_quiet PySem.F.plain_set_new _,dF PySem.F.entry_set_new ?_⟩));rw[dI PySem.F.plain_set_new _];unfold Builtin.«set.__new__» Builtin.Frozenset.newClass;have b:=sub_set_self;obtain⟨c,g,d,tk,os⟩:=s;dsimp only
 wp_walk
 refine eQ (ai ?_);dsimp only;simp only[newObj];refine aa (wpAny_alloc (ai ?_));exact ai h
theorem a3O{c:Bool}{h:Heap}{a:Addr}(e:h.get? a=some {cls:=.type "set",dict:=none,data:=.set #[] 0 (.fresh 0 0 c)}):Y9 prog w c h a [] :=
 ⟨_,#[],0,_,e,⟨rfl,rfl,rfl⟩,rfl,List.Perm.nil,⟨rfl,rfl,λa b h1 h2=>absurd h2 (by simp[SetTable.fresh]),λj d=>by simp[SetTable.fresh]at d,⟨3,ao _,rfl⟩,bG _,λi j e h1 h2=>by simp at h2⟩,rfl,by show 0*5<7*3;decide,by show 7<=8*0+7;decide,rfl⟩
theorem a4v:isSubtype (.type "list") (.type "set")=pure false:=by rw[dO];kernel_rfl
theorem a0v:isSubtype (.type "list") (.type "frozenset")=pure false:=by rw[dO];kernel_rfl
theorem a3G{l:Addr}{items:Array Value}{d:Nat->List Int×Addr}{Q:Value->Shared->Prop}
  (hh:A.handled=none) (hl:s.heap.IsList l items) (z:∀i v,i<items.size->items[i]?=some v->v=.ref (d i).2) (y:∀i,i<items.size->TK prog w s.heap (d i).1 (d i).2) (hn:items.size<=1000) (hu:A.units+20<cLine)
  (h:∀(h':Heap) (tk:Nat) (xs:List (List Int×Addr)),Y9 prog w (!w.params.followText "set-order") h' s.heap.objs.size xs->Came d items.size xs ->
   (∀b o,b<s.heap.objs.size->s.heap.get? b=some o->h'.get? b=some o)->Q (.ref s.heap.objs.size) {s with heap:=h',toks:=tk}) :
  wpAny (model prog w) A (call (.type "set") [.ref l]) Q E s:=by
 obtain⟨c,tl,T⟩:=PySem.F.called_set.mro;have J:=PySem.F.called_set.made;have W:=PySem.F.called_set.sub;refine wpAny_call (codeAny_of_tree ?_);show wpAny _ _ (callAny (.type "set") _) _ _ _;refine ai ⟨Code.quiet_builtin _ (by decide +kernel),dF PySem.F.entry_type_call ?_⟩;rw[Around.under_plain (weight_type_call_type "set" [.ref l] []) rfl];have h1:=PySem.F.called_set.notType;have h2:=PySem.F.called_set.canCreate;have a1:=PySem.F.typeCall_set_1 (.ref l)
 repeat (any_goals (first|assumption|wp_step))
 refine dw (a0t (.ref l) (E:=E) (Q₁:=λobj s₁=>obj=.ref s.heap.objs.size/\s₁={s with heap:=s.heap.push {cls:=.type "set",dict:=none,data:=.set #[] 0 (.fresh 0 0 (!w.params.followText "set-order"))}}) ⟨rfl,rfl⟩) λr s₁ K=>?_;cases r with
 |error e=>exact K
 |ok fl =>
  cases fl with
  |ret obj =>
   obtain⟨rfl,rfl⟩:=K;generalize a2:(!w.params.followText "set-order")=a at h;have P:(s.heap.push {cls:=.type "set",dict:=none,data:=.set #[] 0 (.fresh 0 0 a)}).get? s.heap.objs.size=some {cls:=.type "set",dict:=none,data:=.set #[] 0 (.fresh 0 0 a)}:=aH _ rfl;have hT:Shared.TypeIs {s with heap:=s.heap.push {cls:=.type "set",dict:=none,data:=.set #[] 0 (.fresh 0 0 a)}} (.ref s.heap.objs.size) "set":=⟨_,P,rfl⟩;have a3:=PySem.F.called_set.init.lookup;have a0:=PySem.F.called_set.init.bind (.ref s.heap.objs.size)
   repeat (any_goals (first|assumption|wp_step))
   refine dw (codeAny_call_builtin (R:=wants (λr s₂=>r=.none/\∃h' tk xs,s₂={s with heap:=h',toks:=tk}/\Y9 prog w a h' s.heap.objs.size xs/\Came d items.size xs /\
     (∀b o,b<s.heap.objs.size->s.heap.get? b=some o->h'.get? b=some o)) E) PySem.F.called_set.init.plain PySem.F.entry_set_init (check_set_init_1 hT ?_)) λr₂ s₂ hr₂=>?_
   .obtain⟨ol,hol,hcl,nl,hdl⟩:=hl;obtain⟨X,m,L,f⟩:=ol;simp only at hcl hdl;subst hcl;subst hdl;have u:(s.heap.push {cls:=.type "set",dict:=none,data:=.set #[] 0 (.fresh 0 0 a)}).get? l=some {cls:=.type "list",dict:=m,data:=.seq items nl,slots:=f}:=ag _ hol;have V:=a4v;have U:=a0v;have a4:(Value.type "list"==Value.type "dict")=false:=by decide
    have p:(s.heap.push {cls:=.type "set",dict:=none,data:=.set #[] 0 (.fresh 0 0 a)}).IsList l items:=⟨_,u,rfl,nl,rfl⟩;unfold Builtin.«set.__init__» noKeywords Builtin.Frozenset.updateFrom;generalize C:pyIter=PI
    wp_walk
    subst C;refine fu p ?_;refine aa (wpAny_runValue ?_);have q:l<s.heap.objs.size:=aK hol;have H:A.in1.in1.in1.handled=none:=by simp[hh]
    have t:l≠(s.heap.push {cls:=.type "set",dict:=none,data:=.set #[] 0 (.fresh 0 0 a)}).objs.size:=by
     rw[bC];exact aR (cc q)
    have D:s.heap.objs.size∉[(s.heap.push {cls:=.type "set",dict:=none,data:=.set #[] 0 (.fresh 0 0 a)}).objs.size,l]:=by
     rw[bC];simp only[aD,aQ,bS,c_,not_or];exact⟨aR (ck _),dv q⟩
    have n:((s.heap.push {cls:=.type "set",dict:=none,data:=.set #[] 0 (.fresh 0 0 a)}).push {cls:=.type "list_iterator",data:=.fields #[.ref l,.int 0 0]}).get? s.heap.objs.size
       = some {cls:=.type "set",dict:=none,data:=.set #[] 0 (.fresh 0 0 a)}:=ag _ P
    refine a5y (ld:=a) (h0:=s.heap) ((Walks.list H _ l t items).toS) s.heap.objs.size D (λb o e=>?_) d z y hn (show A.units+2+10<cLine by omega) (items.size-0) 0 _ [] (by omega) (bG _)
     ⟨⟨_,aH _ rfl,rfl,rfl⟩,(p.push _)⟩ (λb o e=>ag _ (ag _ e)) (a3O n) ⟨ao _,fk,(λx hx=>nomatch hx),λj hj=>absurd hj (eY j)⟩ ?hR
    .have:=aK e;rw[bC];simp only[aD,bS,c_];exact⟨aR (cc this),aR this⟩
    case hR =>
     intro s' O B k g;obtain⟨h',g',Y,N,M⟩:=s';have eg:g'=s.gens:=B.gens;have Z:Y=s.drawn:=B.drawn;have eo:M=s.os:=B.os;subst eg;subst Z;subst eo;show wpAny _ _ _ _ _ _;refine ai ?_;show wpAny _ _ (ret Value.none) _ _ _;refine ai ⟨rfl,h',N,O,rfl,k,g,λb o S e=>?_⟩;have F:b≠s.heap.objs.size:=aR S;have G:b≠(s.heap.push {cls:=.type "set",dict:=none,data:=.set #[] 0 (.fresh 0 0 a)}).objs.size:=by
      rw[bC];exact aR (cc S)
     exact B.heap b o (by simp only[aD,aQ,bS,c_,not_or];exact⟨F,G⟩) (ag _ (ag _ e))
   .cases r₂ with
    |error e=>exact hr₂
    |ok fl₂ =>
     cases fl₂ with
     |ret r =>
      obtain⟨rfl,h',tk,xs,rfl,k,g,I⟩:=hr₂
      repeat (any_goals (first|assumption|wp_step))
      exact h _ _ _ k g I
     |_=>exact hr₂.elim
  |_=>exact K.elim
theorem a3u:isSubtype (.type "tuple") (.type "set")=pure false:=by rw[dO];kernel_rfl
theorem a0l:isSubtype (.type "tuple") (.type "frozenset")=pure false:=by rw[dO];kernel_rfl
theorem a3q{l:Addr}{items:Array Value}{d:Nat->List Int×Addr}{Q:Value->Shared->Prop}
  (hh:A.handled=none) (hl:s.heap.IsTuple l items) (z:∀i v,i<items.size->items[i]?=some v->v=.ref (d i).2) (y:∀i,i<items.size->TK prog w s.heap (d i).1 (d i).2) (hn:items.size<=1000) (hu:A.units+20<cLine)
  (h:∀(h':Heap) (tk:Nat) (xs:List (List Int×Addr)),Y9 prog w (!w.params.followText "set-order") h' s.heap.objs.size xs->Came d items.size xs ->
   (∀b o,b<s.heap.objs.size->s.heap.get? b=some o->h'.get? b=some o)->Q (.ref s.heap.objs.size) {s with heap:=h',toks:=tk}) :
  wpAny (model prog w) A (call (.type "set") [.ref l]) Q E s:=by
 obtain⟨c,tl,T⟩:=PySem.F.called_set.mro;have J:=PySem.F.called_set.made;have W:=PySem.F.called_set.sub;refine wpAny_call (codeAny_of_tree ?_);show wpAny _ _ (callAny (.type "set") _) _ _ _;refine ai ⟨Code.quiet_builtin _ (by decide +kernel),dF PySem.F.entry_type_call ?_⟩;rw[Around.under_plain (weight_type_call_type "set" [.ref l] []) rfl];have h1:=PySem.F.called_set.notType;have h2:=PySem.F.called_set.canCreate;have a1:=PySem.F.typeCall_set_1 (.ref l)
 repeat (any_goals (first|assumption|wp_step))
 refine dw (a0t (.ref l) (E:=E) (Q₁:=λobj s₁=>obj=.ref s.heap.objs.size/\s₁={s with heap:=s.heap.push {cls:=.type "set",dict:=none,data:=.set #[] 0 (.fresh 0 0 (!w.params.followText "set-order"))}}) ⟨rfl,rfl⟩) λr s₁ K=>?_;cases r with
 |error e=>exact K
 |ok fl =>
  cases fl with
  |ret obj =>
   obtain⟨rfl,rfl⟩:=K;generalize a2:(!w.params.followText "set-order")=a at h;have P:(s.heap.push {cls:=.type "set",dict:=none,data:=.set #[] 0 (.fresh 0 0 a)}).get? s.heap.objs.size=some {cls:=.type "set",dict:=none,data:=.set #[] 0 (.fresh 0 0 a)}:=aH _ rfl;have hT:Shared.TypeIs {s with heap:=s.heap.push {cls:=.type "set",dict:=none,data:=.set #[] 0 (.fresh 0 0 a)}} (.ref s.heap.objs.size) "set":=⟨_,P,rfl⟩;have a3:=PySem.F.called_set.init.lookup;have a0:=PySem.F.called_set.init.bind (.ref s.heap.objs.size)
   repeat (any_goals (first|assumption|wp_step))
   refine dw (codeAny_call_builtin (R:=wants (λr s₂=>r=.none/\∃h' tk xs,s₂={s with heap:=h',toks:=tk}/\Y9 prog w a h' s.heap.objs.size xs/\Came d items.size xs /\
     (∀b o,b<s.heap.objs.size->s.heap.get? b=some o->h'.get? b=some o)) E) PySem.F.called_set.init.plain PySem.F.entry_set_init (check_set_init_1 hT ?_)) λr₂ s₂ hr₂=>?_
   .obtain⟨ol,hol,hcl,nl,hdl⟩:=hl;obtain⟨X,m,L,f⟩:=ol;simp only at hcl hdl;subst hcl;subst hdl;have u:(s.heap.push {cls:=.type "set",dict:=none,data:=.set #[] 0 (.fresh 0 0 a)}).get? l=some {cls:=.type "tuple",dict:=m,data:=.seq items nl,slots:=f}:=ag _ hol;have V:=a3u;have U:=a0l;have a4:(Value.type "tuple"==Value.type "dict")=false:=by decide
    have p:(s.heap.push {cls:=.type "set",dict:=none,data:=.set #[] 0 (.fresh 0 0 a)}).IsTuple l items:=⟨_,u,rfl,nl,rfl⟩;unfold Builtin.«set.__init__» noKeywords Builtin.Frozenset.updateFrom;generalize C:pyIter=PI
    wp_walk
    subst C;refine wpAny_pyIter_tuple p ?_;refine aa (wpAny_runValue ?_);have q:l<s.heap.objs.size:=aK hol;have H:A.in1.in1.in1.handled=none:=by simp[hh]
    have t:l≠(s.heap.push {cls:=.type "set",dict:=none,data:=.set #[] 0 (.fresh 0 0 a)}).objs.size:=by
     rw[bC];exact aR (cc q)
    have D:s.heap.objs.size∉[(s.heap.push {cls:=.type "set",dict:=none,data:=.set #[] 0 (.fresh 0 0 a)}).objs.size,l]:=by
     rw[bC];simp only[aD,aQ,bS,c_,not_or];exact⟨aR (ck _),dv q⟩
    have n:((s.heap.push {cls:=.type "set",dict:=none,data:=.set #[] 0 (.fresh 0 0 a)}).push {cls:=.type "tuple_iterator",data:=.fields #[.ref l,.int 0 0]}).get? s.heap.objs.size
       = some {cls:=.type "set",dict:=none,data:=.set #[] 0 (.fresh 0 0 a)}:=ag _ P
    refine a5y (ld:=a) (h0:=s.heap) ((Walks.tuple H _ l t items).toS) s.heap.objs.size D (λb o e=>?_) d z y hn (show A.units+2+10<cLine by omega) (items.size-0) 0 _ [] (by omega) (bG _)
     ⟨⟨_,aH _ rfl,rfl,rfl⟩,(p.push _)⟩ (λb o e=>ag _ (ag _ e)) (a3O n) ⟨ao _,fk,(λx hx=>nomatch hx),λj hj=>absurd hj (eY j)⟩ ?hR
    .have:=aK e;rw[bC];simp only[aD,bS,c_];exact⟨aR (cc this),aR this⟩
    case hR =>
     intro s' O B k g;obtain⟨h',g',Y,N,M⟩:=s';have eg:g'=s.gens:=B.gens;have Z:Y=s.drawn:=B.drawn;have eo:M=s.os:=B.os;subst eg;subst Z;subst eo;show wpAny _ _ _ _ _ _;refine ai ?_;show wpAny _ _ (ret Value.none) _ _ _;refine ai ⟨rfl,h',N,O,rfl,k,g,λb o S e=>?_⟩;have F:b≠s.heap.objs.size:=aR S;have G:b≠(s.heap.push {cls:=.type "set",dict:=none,data:=.set #[] 0 (.fresh 0 0 a)}).objs.size:=by
      rw[bC];exact aR (cc S)
     exact B.heap b o (by simp only[aD,aQ,bS,c_,not_or];exact⟨F,G⟩) (ag _ (ag _ e))
   .cases r₂ with
    |error e=>exact hr₂
    |ok fl₂ =>
     cases fl₂ with
     |ret r =>
      obtain⟨rfl,h',tk,xs,rfl,k,g,I⟩:=hr₂
      repeat (any_goals (first|assumption|wp_step))
      exact h _ _ _ k g I
     |_=>exact hr₂.elim
  |_=>exact K.elim
end
end Tab
end L2
namespace L2
namespace Tab
open PySem PySem.W
theorem a3m{α:Type}:∀(l:List α) (i:Nat) (h:i<l.length),([l[i]]++l.eraseIdx i).Perm l
 |x::l,0,_=>by simp
 |x::l,i+1,h=>by
  have a:=a3m l i (by simpa using h);simp only[List.getElem_cons_succ,List.eraseIdx_cons_succ,List.singleton_append];exact(List.Perm.swap x (l[i]'(by simpa using h)) _).trans (List.Perm.cons x a)
theorem a8u{α:Type}(next:Nat->Nat):∀(fuel k:Nat) (left:List α) (out:Array α),left.length=fuel->(pickOrder.go next fuel k left out).toList.Perm (out.toList++left)
 |0,k,left,out,h=>by
  rw[List.length_eq_zero_iff.mp h,cz];exact List.Perm.refl _
 |fuel+1,k,left,out,h=>by
  unfold pickOrder.go;have hi:next k % left.length<left.length:=fo _ (by omega)
  rw[aj hi];dsimp only;refine(a8u next fuel (k+1) _ _ (by rw[List.length_eraseIdx_of_lt hi];omega)).trans ?_;rw[cT,aC];exact bX _ (a3m left _ hi)
theorem a9C{α:Type}(next:Nat->Nat)(xs:Array α):(pickOrder next xs).toList.Perm xs.toList:=by
 have:=a8u next xs.size 0 xs.toList #[] (by simp)
 rw[show(#[]:Array α).toList=[] from rfl,cq]at this;exact this
theorem slot_seti_next:Slot "set_iterator" "__next__" "set_iterator.__next__" :=
 .of (owner:="set_iterator") (n:="__next__") (by rw[typeLookup_type,fP];kernel_rfl) (by decide +kernel) (by decide +kernel) (by decide +kernel)
  (by first|exact .inl (by decide +kernel)|exact .inr (by decide +kernel)) (by rw[dO];kernel_rfl)
theorem V6:entryFor table "set_iterator.__next__"=some Builtin.«set_iterator.__next__»:=entryFor_of_tree (by kernel_rfl)
theorem Y8(a:Value):argsOk "set_iterator.__next__" ⟨[a],[]⟩:=by
 unfold argsOk;kernel_rfl
theorem W6:Slot "set_iterator" "__iter__" "set_iterator.__iter__" :=
 .of (owner:="set_iterator") (n:="__iter__") (by rw[typeLookup_type,fP];kernel_rfl) (by decide +kernel) (by decide +kernel) (by decide +kernel)
  (by first|exact .inl (by decide +kernel)|exact .inr (by decide +kernel)) (by rw[dO];kernel_rfl)
theorem a3n:entryFor table "set.__iter__"=some Builtin.«frozenset.__iter__» :=
 entryFor_alias (id':="frozenset.__iter__") (by kernel_rfl) rfl (by decide +kernel) (by kernel_rfl)
structure SRaw(h:Heap)(a:Addr)(es:Array (Int×Value))(ep:Nat)(t:SetTable):Prop where
 ex:∃o,h.get? a=some o/\o.ExactSet/\o.data=.set es ep t
 ok:TabOk t es
 plain:t.plain=true
section
variable {prog:Program}{w:World}{A:Around}{E:Value->Shared->Prop}{s:Shared}{a it:Addr}{es:Array (Int×Value)}{ep i:Nat}{t:SetTable}
theorem SRaw.typ(x:SRaw s.heap a es ep t):s.TypeIs (.ref a) "set":=let ⟨o,h1,h2,_⟩:=x.ex;⟨o,h1,h2.1⟩
theorem b2A{Q:Bool->Shared->Prop}(e:s.TypeIs (.ref a) "set")(h:Q false s):wpAny (model prog w) A (Builtin.List.listLengthHint (.ref a)) Q E s:=by
 unfold Builtin.List.listLengthHint;refine aa (wpAny_specialOf e PySem.F.slot_set_len.lookup ?_);generalize d:("set.__len__" : String)=f
 wp_delta
 rw[show splitId f=some ("set","__len__")from by subst d;decide +kernel];subst d;refine aa (fJ (T:="set") (b:=true) e (by rw[dO];kernel_rfl) ?_);refine wpAny_ite_split (λc=>absurd c (by decide)) (λ_=>?_);refine wpAny_ite_split (λ_=>?_) (λc=>absurd (by decide +kernel) c);refine aa (eF e ?_);exact ai h
def W8(w:World)(a:Addr)(ep:Nat)(es:Array (Int×Value)):Array (Int×Value):=if w.params.followText "set-order"=true then pickOrder (w.params.setOrder a ep) es else es
theorem ord_perm:(W8 w a ep es).toList.Perm es.toList:=by
 unfold W8;split
 .exact a9C _ _
 .exact List.Perm.refl _
def a1L(w:World)(t:SetTable):Nat->Nat
 |0=>0
 |i+1=>if w.params.followText "set-order"=true then 0 else t.place.getD i 0+1
def SetIt(w:World)(h:Heap)(it a:Addr)(i n ep:Nat)(t:SetTable):Prop:=∃o,h.get? it=some o/\o.cls=.type "set_iterator"/\o.data=.fields #[rawInt (a1L w t i),rawInt i,.ref a,rawInt n,rawInt ep]
theorem b1h{Q:Value->Shared->Prop}(D:SRaw s.heap a es ep t)
  (q:Q (.ref s.heap.objs.size) {s with heap:=s.heap.push {cls:=.type "set_iterator",data:=.fields #[rawInt 0,rawInt 0,.ref a,rawInt es.size,rawInt ep]}}):wpAny (model prog w) A (pyIter (.ref a)) Q E s:=by
 have ty:=D.typ;obtain⟨o,e1,_,b⟩:=D.ex;refine wpAny_pyIter_slot ty PySem.F.slot_set_iter (bK PySem.F.slot_set_iter ty a3n ?body (PySem.F.args_set_iter_1 _))
 case body =>
  unfold Builtin.«frozenset.__iter__» Builtin.Frozenset.slot0;refine aa (aa (ai (ai ?_)));unfold Builtin.Frozenset.sizeOf setEntries;refine aa (aa (aa (cx e1 b (G6 D.ok) (ai (ai ?_)))));unfold setDrawn setsByText;refine aa (aa (cx e1 b (G6 D.ok) ?_));dsimp only;refine aa (aa (eQ (ai (ai ?_))));dsimp only;rw[ar (λz=>by
   have c:=(aG _ _ ▸ z).2;change (!t.plain && decide (es.size > 1))=true at c;rw[D.plain]at c;cases c)]
  refine aa (ai ?_);refine aa (wpAny_setEpoch_of e1 b (G6 D.ok) ?_);refine aa (bV (ai ⟨_,rfl,"set_iterator",_,⟨_,aH _ rfl,rfl⟩,slot_seti_next.lookup,?_⟩));exact q
theorem SetIt.typ{it a:Addr}{i n ep:Nat}{t:SetTable}(x:SetIt w s.heap it a i n ep t):s.TypeIs (.ref it) "set_iterator":=let ⟨o,h1,h2,_⟩:=x;⟨o,h1,h2⟩
theorem b1e(D:SRaw s.heap a es ep t)(e:w.params.followText "set-order"=false){i:Nat}(hi:i<=es.size):SetTable.below t.place (a1L w t i)=i:=by
 obtain⟨d,b,c⟩:=G9 D.ok.ris (a1L w t i);have f:=D.ok.size;cases i with
 |zero =>
  rcases Nat.eq_zero_or_pos (SetTable.below t.place (a1L w t 0))with z|z
  .exact z
  .have:=b 0 z;exact absurd this (eY _)
 |succ i =>
  have hs:a1L w t (i+1)=t.place.getD i 0+1:=by
   show(if w.params.followText "set-order"=true then 0 else t.place.getD i 0+1)=_;rw[e,ar (by decide)]
  rw[hs]at d b c⊢;rcases di (SetTable.below t.place (t.place.getD i 0+1)) (i+1)with z|z|z
  .have:=c i (by omega) (by omega);omega
  .exact z
  .have h1:=b (i+1) z;have h2:=D.ok.ris i (i+1) (by omega) (by omega);omega
theorem a5I(D:SRaw s.heap a es ep t)(d:t.led=!w.params.followText "set-order"){i:Nat}{Q:Option (Value×Nat)->Shared->Prop}(hi:i<=es.size)
  (h:Q ((W8 w a ep es)[i]?.map λe=>(e.2,a1L w t (i+1))) s):wpAny (model prog w) A (setNext a (a1L w t i) i ep) Q E s:=by
 obtain⟨o,e1,_,f⟩:=D.ex;unfold setNext setsByText;refine aa (cx e1 f (G6 D.ok) ?_);dsimp only;refine aa (aa (eQ (ai ?_)));dsimp only;by_cases b:w.params.followText "set-order"=true
 .rw[az (show(model prog w).w.params.followText "set-order"=true from b),ar (by simp)];unfold setWalk setsByText;refine aa (aa (cx e1 f (G6 D.ok) ?_));dsimp only;refine aa (aa (eQ (ai ?_)));rw[az (show(model prog w).w.params.followText "set-order"=true from b)];refine aa (eQ (ai (ai ?_)));have g:∀j,a1L w t j=0:=λj=>by
   cases j with
   |zero=>rfl
   |succ j=>show(if w.params.followText "set-order"=true then 0 else _)=0;rw[az b]
  rw[g]at h⊢;unfold W8 at h;rw[az b]at h;exact h
 .have hf':w.params.followText "set-order"=false:=by simpa using b
  rw[ar (show ¬(model prog w).w.params.followText "set-order"=true from b)];rw[ar (λz=>by
   change (!t.plain && decide (es.size > 1))=true at z;rw[D.plain]at z;cases z)]
  refine aa ?_;show wpAny _ _ (if (!t.led && !es.isEmpty)=true then _ else pure ()) _ _ _;rw[ar (by rw[d,hf'];simp)];refine ai (ai ?_);rw[b1e D hf' hi];unfold W8 at h;rw[ar b]at h;by_cases c:i<es.size
  .have hp:=a0T (xs:=t.place) (i:=i) (by rw[D.ok.size];exact c);rw[hp];have hs:a1L w t (i+1)=t.place.getD i 0+1:=by
    show(if w.params.followText "set-order"=true then 0 else t.place.getD i 0+1)=_;rw[hf',ar (by decide)]
   rw[hs]at h;rw[bJ c]at h⊢;exact h
  .rw[dt (by omega)]at h⊢;exact h
theorem a9l{it:Addr}{i:Nat}{Q:Option Value->Shared->Prop}(I:SetIt w s.heap it a i es.size ep t)(D:SRaw s.heap a es ep t)(d:t.led=!w.params.followText "set-order")(hi:i<es.size){v:Int×Value}(g:(W8 w a ep es)[i]?=some v)
  (q:∀h',SetIt w h' it a (i+1) es.size ep t->Heap.SameBut it s.heap h'->Q (some v.2) {s with heap:=h'}):wpAny (model prog w) A (pyNext (.ref it)) Q E s:=by
 obtain⟨h,f1,f2,b⟩:=id I;obtain⟨od,e1,e2,f⟩:=D.ex;unfold pyNext;refine aa (dX (bM (name:=Str.ofString "__next__") I.typ slot_seti_next (bK slot_seti_next I.typ V6 ?body (Y8 _))))
 case body =>
  unfold Builtin.«set_iterator.__next__»;refine aa (ai (aa (wpAny_fieldsOf f1 b ?_)));dsimp only[rawInt];unfold setEntries;refine aa (aa (cx e1 f (G6 D.ok) (ai ?_)));rw[ar (by simp)];simp only[bA];refine aa (a5I D d (cH hi) ?_);rw[g];dsimp only[Option.map];have e:(s.heap.update it (Obj.mapFields λz=>z.setIfInBounds 0 (.int (a1L w t (i+1)) 0))).get? it=some (Obj.mapFields (λz=>z.setIfInBounds 0 (.int (a1L w t (i+1)) 0)) h):=cL _ f1 (eG (cO b _));have c:=cO b (λz=>z.setIfInBounds 0 (.int (a1L w t (i+1)) 0));refine aa (dN f1 b (by simp) ?_);refine aa (dN (s:={s with heap:=_}) e c (by simp) ?_);refine ai ⟨_,rfl,ai (q _ ⟨_,cL _ e (eG (cO c _)),?_,?_⟩ ((cE ..).trans (cE ..)))⟩
  .rw[fv,fv];exact f2
  .rw[cO c];simp[rawInt]
theorem b1f{it:Addr}{Q:Option Value->Shared->Prop}(f:A.handled=none)(I:SetIt w s.heap it a es.size es.size ep t)(D:SRaw s.heap a es ep t)(c:t.led=!w.params.followText "set-order")
  (q:∀h',Heap.ExtBut it s.heap h'->Q none {s with heap:=h'}):wpAny (model prog w) A (pyNext (.ref it)) Q E s:=by
 obtain⟨h,f1,f2,d⟩:=id I;obtain⟨od,e1,e2,e⟩:=D.ex;unfold pyNext;refine aa (dX (bM (name:=Str.ofString "__next__") I.typ slot_seti_next (bK slot_seti_next I.typ V6 ?body (Y8 _))))
 case body =>
  unfold Builtin.«set_iterator.__next__»;refine aa (ai (aa (wpAny_fieldsOf f1 d ?_)));dsimp only[rawInt];unfold setEntries;refine aa (aa (cx e1 e (G6 D.ok) (ai ?_)));rw[ar (by simp)];simp only[bA];refine aa (a5I D c (ao _) ?_);have g:(W8 w a ep es).size=es.size:=by rw[<-ay,ord_perm.length_eq,ay]
  rw[dt (by omega)];dsimp only[Option.map];refine aa (dN f1 d (by simp) ?_);show wpAny _ _ (newExc (.type "StopIteration") []>>=λ_=>_) _ _ _;refine aa ?_;simp only[newExc,newTuple];refine aa (bV ?_ (by size_fits));refine aa (m:=firstArgMember _ _) (wpAny_of_eq (a:=Value.none) (by first|rfl | (simp only[firstArgMember];rfl)) ?_);refine bV ?_ (by size_fits);simp only[raiseNew];refine aa (wpAny_handled ?_);rw[show A.in1.handled=none from f];refine aa (ai (wpAny_throw ?_));refine aa (fJ (T:="StopIteration") (b:=true) ⟨_,aH _ rfl,rfl⟩ isSubtype_stop ?_);exact ai (q _ (((cE ..).extBut.push _).push _))
theorem SetIt.at{h h':Heap}{it a:Addr}{i n ep:Nat}{t:SetTable}(x:SetIt w h it a i n ep t)(k:∀o,h.get? it=some o->h'.get? it=some o):SetIt w h' it a i n ep t:=let ⟨o,h1,h2⟩:=x;⟨o,k o h1,h2⟩
theorem SRaw.to{h h':Heap}(x:SRaw h a es ep t)(k:∀o,h.get? a=some o->h'.get? a=some o):SRaw h' a es ep t:=⟨let ⟨o,h1,h2⟩:=x.ex;⟨o,k o h1,h2⟩,x.ok,x.plain⟩
theorem a1W:entryFor table "set_iterator.__iter__"=some Builtin.«dict_keyiterator.__iter__» :=
 entryFor_alias (id':="dict_keyiterator.__iter__") (by kernel_rfl) rfl (by decide +kernel) (by kernel_rfl)
theorem a3t(a:Value):argsOk "set_iterator.__iter__" ⟨[a],[]⟩:=by
 unfold argsOk;kernel_rfl
theorem a9k{it:Addr}{i n:Nat}{Q:Value->Shared->Prop}(I:SetIt w s.heap it a i n ep t)(h:Q (.ref it) s):wpAny (model prog w) A (pyIter (.ref it)) Q E s:=by
 refine wpAny_pyIter_slot I.typ W6 (bK W6 I.typ a1W ?_ (a3t _));show wpAny _ _ (ret (.ref it)) _ _ s;exact ai ⟨_,rfl,"set_iterator",_,I.typ,slot_seti_next.lookup,h⟩
theorem b1O:(W8 w a ep es).size=es.size:=by rw[<-ay,ord_perm.length_eq,ay]
theorem a9m(p:A.handled=none)(J:Addr)(j:a≠J)(g:t.led=!w.params.followText "set-order") :
  Walks prog w A J [J,a] [J] es.size (λi v=>∃e,(W8 w a ep es)[i]?=some e/\v=e.2) (λi h=>SetIt w h J a i es.size ep t/\SRaw h a es ep t) where
 sub:=λb d=>by rw[aQ.mp d];exact au
 frame:=λi h h' st k=>⟨st.1.at λo e=>k J au o e,st.2.to λo e=>k a (av _ au) o e⟩
 item:=λi s Q E hi st c=>by
  have f:i<(W8 w a ep es).size:=by rw[b1O];exact hi
  exact a9l st.1 st.2 g hi (bJ f) λh' m l=>c _ h' s.toks ⟨_,bJ f,rfl⟩ ⟨m,st.2.to λo e=>l.extBut a o j e⟩ λb o d e=>l.extBut b o (λz=>d (by rw[z];exact au)) e
 done:=λs Q E st c=>b1f p st.1 st.2 g λh' n=>c h' s.toks λb o d e=>n b o (λz=>d (by rw[z];exact au)) e
 self:=λ_ _ _ _ st c=>a9k st.1 c
theorem SRaw.lt{h:Heap}(x:SRaw h a es ep t):a<h.objs.size:=let ⟨_,h1,_⟩:=x.ex;aK h1
theorem b3D(b:t.led=!w.params.followText "set-order"):KdlSrc prog w "set" a a es.size (λi v=>∃e,(W8 w a ep es)[i]?=some e/\v=e.2) (λh=>SRaw h a es ep t) where
 type:=λ_ D=>D.typ
 there:=λ_ D=>⟨D.lt,D.lt⟩
 keep:=λ_ _ D d=>D.to λo e=>d a (.inl rfl) o e
 notList:=by decide
 notTuple:=by decide
 hint:=λ_ _ _ _ D q=>b2A D.typ q
 iter:=λ_ _ c D=>⟨_,_,λ_ _ q=>b1h D q,a9m c _ (aR D.lt) b,⟨⟨_,aH _ rfl,rfl,rfl⟩,D.to λo e=>ag _ e⟩⟩
end
end Tab
end L2
namespace L2
open PySem PySem.Spec PyProof.Rows PySem.W Tab
def a1b(P:Program)(w:World)(a:Addr)(xs:List (List Int×Addr)):HO:=.ext λh=>∃es ep t,SRaw h a es ep t/\es.toList.Perm (xs.map (Tab.ent P w))/\t.led=!w.params.followText "set-order"
theorem b5h{P:Program}{w:World}{H:Hp}{h:Heap}(ok:HOk P w H h){r:List Int}{b:Addr}(x:IT H (.ref b) r):TK P w h r b:=by
 obtain⟨a,e,q⟩:=x;cases e;obtain⟨_,its,c,o,h1,h2,n,d⟩:=(show ObjOk P w H h b (.tup (r.map V.int))from ok b _ q);refine⟨o,its.toArray,n,h1,aN Prod.fst h2,d,?_⟩;have:∀{r:List Int}{its:List Value},Vals (r.map V.int) its->ItemsAre (intKind P w) r its:=by
  intro r;induction r with
  |nil=>intro its c;cases c;exact .nil
  |cons x r f =>
   intro its c;cases c with
   |cons h t =>
    obtain⟨tk,rfl⟩:=h;exact .cons (intKind_is _ _ _ _) (f t)
 simpa using this c
def b5r(K:PySem.W.Frag)(P:Program)(w:World):RL:=λys H Q=>∃(k:Bool) (p:Addr) (vs:List V) (rss:LLI),ys=[.ref p]/\SqK k K H p vs/\Its H vs rss/\vs.length<=1000 /\
 ∀a xs,H a=none->(xs.map (·.1)).Nodup->(∀r,r∈xs.map (·.1)↔r∈rss)->(∀x∈xs,IT H (.ref x.2) x.1)->Q (.ref a) (upd H a (a1b P w a xs))
def b1u(P:Program)(w:World):RL:=λys H Q=>∃(a:Addr) (xs:List (List Int×Addr)),ys=[.ref a]/\H a=some (a1b P w a xs)/\(∀x∈xs,IT H (.ref x.2) x.1)/\(∀x∈xs,0<x.1.length)/\xs.length<=1000 /\
 ∀l zs tss,H l=none->Its H zs tss->tss.Perm (xs.map (·.1))->C3 tss->Q (.ref l) (upd H l (.lst zs))
section
variable {X:Cx}
theorem b0o(K:PySem.W.Frag)(P:Program)(w:World)(hu:X.A.units+60<cLine)(hc:X.calm=true)(hK:X.K=K:=by rfl)(hP:X.prog=P:=by rfl)(hw:X.w=w:=by rfl):E3 X (.type "set") (b5r K P w):=by
 subst hK hP hw;intro pins s σ H ys us Q I rv h;obtain⟨k,p,vs,rss,rfl,O,hI,hn,q⟩:=h;obtain⟨u,rfl,D⟩:=rv.one;cases D;have N:X.A.handled=none:=I.ok.hd hc;have step:∀(its:List Value),Vals vs its->∀(h':Heap) (tk:Nat) (xs:List (List Int×Addr)) (c:Nat->List Int×Addr),(∀i,i<its.toArray.size->rss[i]?=some (c i).1/\IT H (.ref (c i).2) (c i).1) ->
   Y9 X.prog X.w (!X.w.params.followText "set-order") h' s.heap.objs.size xs->Came c its.toArray.size xs->(∀b o,b<s.heap.objs.size->s.heap.get? b=some o->h'.get? b=some o)->EP X pins σ Q (.ref s.heap.objs.size) {s with heap:=h',toks:=tk}:=by
  intro its r h' tk xs c d n l A;obtain⟨o,es,ep,t,e1,e2,R,S,T,U,e7,e8,V⟩:=n;have B:its.toArray.size=rss.length:=by rw[<-hI.1,r.length];simp
  have F:H s.heap.objs.size=none:=I.hok.fresh (ao _);have E:∀x∈xs,IT H (.ref x.2) x.1:=λx J=>by
   obtain⟨j,m,rfl⟩:=l.from_ x J;exact(d j m).2
  refine⟨.ref s.heap.objs.size,_,I.laid (h':=h') (a:=s.heap.objs.size) (o:=a1b X.prog X.w s.heap.objs.size xs) (t':=tk) (λb o e=>A b o (aK e) e) (ao _) ⟨⟨es,ep,t,⟨⟨o,e1,e2,R⟩,T,U⟩,S,V⟩,⟨o,e1⟩,λh1 h2 ⟨es,ep,t,q1,q2⟩ kk=>⟨es,ep,t,q1.to kk,q2⟩⟩,rfl,q _ xs F l.nd (λr=>?_) E⟩;constructor
  .intro hr;obtain⟨x,J,rfl⟩:=aL.mp hr;obtain⟨j,m,rfl⟩:=l.from_ x J;exact aI (d j m).1
  .intro hr;obtain⟨j,m⟩:=cw.mp hr;have y:j<its.toArray.size:=by rw[B];exact(aT.mp m).1
   have h1:=(d j y).1;rw[m]at h1;injection h1 with h1
   rw[h1];exact l.all j y
 have f:∀(its:List Value),Vals vs its->∃c:Nat->List Int×Addr,(∀i v,i<its.toArray.size->its.toArray[i]?=some v->v=.ref (c i).2)/\∀i,i<its.toArray.size->rss[i]?=some (c i).1/\IT H (.ref (c i).2) (c i).1:=by
  intro its r;have g:∀i,∃x:List Int×Addr,i<its.toArray.size->(∀v,its.toArray[i]?=some v->v=.ref x.2)/\rss[i]?=some x.1/\IT H (.ref x.2) x.1:=λi=>by
   by_cases hi:i<its.toArray.size
   .have hi':i<vs.length:=by rw[r.length];simpa using hi
    obtain⟨u,Z,D⟩:=r.get (aj hi');obtain⟨M,Y,b,W,hb⟩:=hI.2 i _ (aj hi');rw[W]at D;cases D;refine⟨(M,b),λ_=>⟨λv G=>?_,Y,b,rfl,hb⟩⟩;have:its[i]?=some v:=by simpa using G
    rw[Z]at this;injection this with this
    exact this.symm
   .exact⟨([],0),λz=>absurd z hi⟩
  exact⟨λi=>Classical.choose (g i),λi v hi G=>(Classical.choose_spec (g i) hi).1 v G,λi hi=>(Classical.choose_spec (g i) hi).2⟩
 cases k
 .obtain⟨its,r,pl,hz⟩:=I.list O;obtain⟨c,L,C⟩:=f its r;exact a3G N pl.isList L (λi hi=>b5h I.hok (C i hi).2) (by have:=r.length;simp;omega) (by omega) λh' tk xs n l A=>step its r h' tk xs c C n l A
 .obtain⟨its,r,pl,hz⟩:=I.tuple O;obtain⟨c,L,C⟩:=f its r;exact a3q N pl L (λi hi=>b5h I.hok (C i hi).2) (by have:=r.length;simp;omega) (by omega) λh' tk xs n l A=>step its r h' tk xs c C n l A
theorem a7F(P:Program)(w:World)(hc:X.calm=true)(hP:X.prog=P:=by rfl)(hw:X.w=w:=by rfl):E3 X (.builtin "sorted") (b1u P w):=by
 subst hP hw;intro pins s σ H ys us Q I rv h;obtain⟨a,xs,rfl,ha,K,O,hn,q⟩:=h;obtain⟨u,rfl,ru⟩:=rv.one;cases ru;obtain⟨⟨es,ep,t,D,z,L⟩,_⟩:=(show ObjOk X.prog X.w H s.heap a (a1b X.prog X.w a xs)from I.hok _ _ ha);obtain⟨d,G,te⟩:=N0 (f:=Tab.ent X.prog X.w) ((ord_perm (w:=X.w) (a:=a) (ep:=ep)).trans z) rfl;have A:∀x∈d,x∈xs:=λx B=>G.mem_iff.mp B;have g:es.size=d.length:=by rw[<-ay,z.length_eq,ae,G.length_eq]
 have hI:Its H (d.map λx=>V.ref x.2) (d.map (·.1)):=⟨by rw[ae,ae],λi v e=>by
  rw[ba]at e⊢;cases e2:d[i]? with
  |none=>rw[e2]at e;cases e
  |some x =>
   rw[e2]at e;cases e;exact⟨x.1,rfl,K x (A x (aI e2))⟩⟩
 have S:Vals (d.map λx=>V.ref x.2) (d.map λx=>Value.ref x.2):=a0Z (λx:List Int×Addr=>x.2) d;have hz:(1000:Nat)<=sizeLine:=by rw[a_];decide
 have a0:d.length<=1000:=by rw[G.length_eq];exact hn
 have p:∀(U:Value->Shared->Prop) (J:List Value->Shared->Prop),(∀(h1:Heap) (tk:Nat),(∀b o,s.heap.get? b=some o->h1.get? b=some o)->J (d.map λx=>Value.ref x.2) {s with heap:=h1,toks:=tk})->wpAny (model X.prog X.w) X.A.in1 (collect (.ref a)) J U s:=λU J k=>by
  refine kdu_collect (b3D L) (show X.A.in1.handled=none from I.ok.hd hc) D (by omega) λh' tk j kp l=>?_;have:j.toList=d.map λx=>Value.ref x.2:=by
   refine fB λi=>?_;rw[ax,ba];by_cases hi:i<d.length
   .have hia:i<j.size:=by rw[l.1,g];exact hi
    obtain⟨e,F,N⟩:=l.2 i j[i] (by simp[hia]);rw[<-ax,<-te,ba,aj hi]at F;injection F with F
    rw[bJ hia,aj hi,N,<-F];rfl
   .rw[dt (by rw[l.1,g];omega),cM (by omega)];rfl
  rw[this];exact k h' tk kp
 have hl:=S.length;have TT:=a3b I hI S;obtain⟨T,t1,t2,t3,t4⟩:=Z0 S hI.1;refine V7 p TT (λr hr=>by obtain⟨x,B,rfl⟩:=aL.mp hr;exact O x (A x B)) (by rw[ae];omega) λh1 h' os c tk k1 k2 e hp hs=>?_;obtain⟨m,p1,p2⟩:=N0 (f:=λt:Value×V×List Int=>t.1) hp t1.symm;have W:=I.kept (t':=tk) k1;have E:∀t∈m,RelV t.2.1 t.1/\IT H t.2.1 t.2.2/\G2 s.heap t.1=t.2.2:=λt M=>by
  obtain⟨i,hi⟩:=cw.mp (p1.mem_iff.mp M);obtain⟨r1,r2,r3⟩:=t4 i t hi;obtain⟨a1,q1,q2⟩:=hI.2 i _ r2;rw[r3]at q1;cases q1;have e5:(d.map λx=>Value.ref x.2)[i]?=some t.1:=by rw[<-t1,ba,hi];rfl
  obtain⟨r',b,Z,f1,f2,f3,f4⟩:=TT.2 i _ e5;rw[r3]at f1;cases f1;exact⟨r1,q2,by rw[f2];exact D7 f3 f4⟩
 have R:(m.map (·.2.1)).length<=sizeLine:=by
  have Y:=(p1.map (λt:Value×V×List Int=>t.2.1)).length_eq;rw[t2]at Y;simp only[ae]at Y⊢;omega
 have N:Vals (m.map (·.2.1)) os:=by rw[<-p2];exact O4 λt M=>(E t M).1
 have I2:=W.laid (h':=h') (a:=h1.objs.size) (o:=.lst (m.map (·.2.1))) (t':=tk) k2 (ao _) ⟨R,os,c,N,e⟩;refine⟨.ref h1.objs.size,_,I2,rfl,q _ _ (m.map (·.2.2)) (W.hok.fresh (ao _)) ⟨by rw[ae,ae],λi v n=>?_⟩ (by have:=p1.map (λt:Value×V×List Int=>t.2.2);rw[t3]at this;exact this.trans (G.map _)) ?_⟩
 .rw[ba]at n⊢;cases e2:m[i]? with
  |none=>rw[e2]at n;cases n
  |some t =>
   rw[e2]at n;cases n;exact⟨t.2.2,rfl,(E t (aI e2)).2.1⟩
 .unfold C3;rw[cf];rw[<-p2,cf]at hs;refine hs.imp_of_mem λ{x y} B hy C=>?_;rw[(E x B).2.2,(E y hy).2.2]at C;exact C
variable {e:Expr}{es:List Expr}{t:TA}{p pos:Pos}
theorem a8E(K:PySem.W.Frag)(P:Program)(w:World)(j:X.A.units+60<cLine)(h:Gl X "set")(i:X.mg "set"=none)(d:JA X (e::es) t)(f:X.calm=true:=by rfl)(b:X.K=K:=by rfl)(c:X.prog=P:=by rfl)(hw:X.w=w:=by rfl)(g:starEach (e::es) X.env=(false,eval e X.env)::starEach es X.env:=by rfl)(a:(backTo pos (starEach es X.env)).any (·.1)=false:=by rfl):JE X (.Call (.Name "set" p) (e::es) [] pos) (tCB (b5r K P w) t):=⟨R9 (b0o K P w j f b c hw) h i b7u d.h (by decide) (by decide) g a⟩
theorem a6n(P:Program)(w:World)(g:Gl X "sorted")(h:X.mg "sorted"=none)(c:JA X (e::es) t)(d:X.calm=true:=by rfl)(b:X.prog=P:=by rfl)(hw:X.w=w:=by rfl)(f:starEach (e::es) X.env=(false,eval e X.env)::starEach es X.env:=by rfl)(a:(backTo pos (starEach es X.env)).any (·.1)=false:=by rfl):JE X (.Call (.Name "sorted" p) (e::es) [] pos) (tCB (b1u P w) t):=⟨G3 (a7F P w d b hw) g h a1t c.h (by decide) (by decide) f a⟩
end
end L2
namespace L2
open PySem PySem.Spec PyProof.Rows
theorem a2T:typeLookup (.type "list") "keys"=pure none:=by rw[typeLookup_type,fP];kernel_rfl
theorem a4f:entryFor table "dict.update.loop"=some Builtin.«dict.update.loop»:=entryFor_of_tree (by kernel_rfl)
theorem Z9:plainId "dict.update.loop"=true:=by decide +kernel
section
variable {prog:Program}{w:World}{A:Around}{E:Value->Shared->Prop}{s:Shared}
theorem b4C{a:Addr}{o:Obj}{xs:Array Value}{k:Nat}{Q:Option Value->Shared->Prop}
  (q:s.heap.get? a=some o) (p:o.cls=.type "list") (f:o.data=.seq xs k) (hd:o.dict=none) (v:A.handled=none)
  (h:∀h' tk,(∀b r,s.heap.get? b=some r->h'.get? b=some r)->Q none {s with heap:=h',toks:=tk}):wpAny (model prog w) A (getAttr? (.ref a) "keys") Q E s:=by
 obtain⟨c,u,t,sl⟩:=o;simp only at p f hd;subst p f hd;obtain⟨x,g,d,tk,os⟩:=s;have n:∀l,(⟨x,g,d,l,os⟩:Shared).TypeIs (.ref a) "list":=λ_=>⟨_,q,rfl⟩;have f1:=sub_AttributeError;have y:=PySem.F.slot_list_getattribute.lookup;have z:=PySem.F.slot_list_getattribute.bind (.ref a);have B:=am_list_getattr_none;have m:(Str.ofString "keys").length+100<=sizeLine:=by rw[a_];decide
 have i:(["__module__","__name__","__qualname__","__doc__","__annotations__"]:List Str).contains "keys"=false:=by decide +kernel
 unfold getAttr? getAttrBy? getAttrBy
 repeat (any_goals (first|assumption|exact n _ | ((with_reducible show wpAny _ _ (call (Value.builtin "list.__getattribute__") _ _) _ _ _);refine eM PySem.F.slot_list_getattribute (n _) am_entry_list_getattribute (PySem.F.args_list_getattribute_2 _ _) (meets_getattribute_miss_list a xs k sl "keys" _ a2T i m) ⟨q,v,λh' l e j=>?_⟩)|wp_step))
 obtain⟨t',D,C⟩:=j.there;show wpAny _ _ (getattributeRaised _ _ _ _ _ _ _) _ _ _;unfold getattributeRaised
 repeat (any_goals (first|assumption|wp_step))
 exact h _ _ j.keeps
theorem a6j{h h':Heap}{ks:List Key}{a:Addr}(k:∀b o,h.get? b=some o->h'.get? b=some o)(x:(tupleKind (B9 prog w)).is h ks a):(tupleKind (B9 prog w)).is h' ks a:=by
 obtain⟨o,its,n,h1,r⟩:=x;exact⟨o,its,n,k _ _ h1,r⟩
def b5N(prog:Program)(w:World)(h:Heap)(d:Addr)(xs:List (List Key×Addr×Value)):Prop :=
 ∃o es ep,h.get? d=some o/\o.ExactDict/\o.data=.dict es ep/\es.toList=xs.map (entryOfKey (tupleKind (B9 prog w)))/\(xs.map (·.1)).Nodup
theorem b2M{R:Result->Shared->Prop}{s0:Heap}{d it l:Addr}{items:Array Value}(h:d≠it)(H:s0.get? d=none)(j:s0.get? it=none)(U:s0.IsList l items)(hh:A.handled=none)(P:A.units+10<cLine)(hz:items.size<=sizeLine)
  (J:Nat->List (List Key×Addr×Value)->Prop)
  (K:∀i,i<items.size->∃p k a v,items[i]?=some (.ref p)/\IsTup s0 p #[.ref a,v]/\(tupleKind (B9 prog w)).is s0 k a/\∀xs,J i xs->xs.length<=i/\(∀x∈xs,(tupleKind (B9 prog w)).is s0 x.1 x.2.1)/\J (i+1) (storedH xs k a v)) :
  ∀(n i:Nat) (s:Shared) (xs:List (List Key×Addr×Value)),items.size-i=n->i<=items.size->(∀b o,s0.get? b=some o->s.heap.get? b=some o)->s.heap.IsListIter it l i->b5N prog w s.heap d xs->J i xs ->
  (∀h' tk g,(∀b o,s0.get? b=some o->h'.get? b=some o)->b5N prog w h' d g->J items.size g->R (.ok (.ret .none)) {s with heap:=h',toks:=tk}) ->
  codeAny (model prog w) A (.builtin "dict.update.loop" ⟨[.ref d,.ref it,rawInt i,.none],[]⟩) R s:=by
 intro n;induction n with
 |zero =>
  intro i s xs hn hi m c E L hR;have I:i=items.size:=by omega
  subst I;refine dF a4f ?_;rw[dI Z9 _];show wpAny _ A.in1 (pyNext (.ref it)>>=_) _ _ s;have hl':s.heap.IsList l items:=let ⟨o,h1,h2⟩:=U;⟨o,m _ _ h1,h2⟩
  refine aa (wpAny_pyNext_list_end hh c hl' (by simp) λh' T=>?_);show wpAny _ _ (Builtin.Dict.addKeywords d []>>=_) _ _ _;refine aa (ai (ai ?_));obtain⟨o,es,ep,C,D⟩:=E;exact hR h' s.toks xs (λb V e=>T b V (λz=>by rw[z,j]at e;cases e) (m b V e)) ⟨o,es,ep,T _ _ h C,D⟩ L
 |succ n ih =>
  intro i s xs hn hi m c E L hR;have q:i<items.size:=by omega
  obtain⟨p,k,a,v,hp,hT,hK,hJ⟩:=K i q;obtain⟨a0,Q,hJ⟩:=hJ xs L;refine dF a4f ?_;rw[dI Z9 _];show wpAny _ A.in1 (pyNext (.ref it)>>=_) _ _ s;have hl':s.heap.IsList l items:=let ⟨o,h1,h2⟩:=U;⟨o,m _ _ h1,h2⟩
  refine aa (wpAny_pyNext_list_item c hl' hp λh1 S t=>?_);have f:∀b o,s0.get? b=some o->h1.get? b=some o:=λb o e=>t.extBut b o (λz=>by rw[z,j]at e;cases e) (m b o e);obtain⟨o,es,ep,C,D,X,Y,Z⟩:=E;have F:h1.DictOfH (tupleKind (B9 prog w)) d xs:=⟨o,es,ep,t.extBut _ _ h C,D,X,Y,λx hx=>a6j f (Q x hx),Z⟩;obtain⟨op,r,N,np,O⟩:=hT;show wpAny _ A.in1 (holding [.ref p] _>>=_) _ _ _;refine aa (cj (aa (wpAny_tryCatch ?_)));unfold Builtin.Dict.pairItems;refine aa (eF (s:={s with heap:=h1}) ⟨op,f _ _ r,N⟩ ?_);rw[az (by decide)];refine aa (cI (s:={s with heap:=h1}) (f _ _ r) O (ai ?_));show wpAny _ _ (holding [.ref a,v] (dictSet d (.ref a) v)) _ _ _;refine cj (wpAny_dictSet_heap (s:={s with heap:=h1}) (knd:=tupleKind (B9 prog w)) (hsz:=by omega) (show A.units+1<cLine by omega) (a6j f hK) F λh2 G u=>?_);refine ai ⟨plainId_quiet Z9 _,?_⟩;have M:∀b o,s0.get? b=some o->h2.get? b=some o:=λb o e=>u.extBut b o (λz=>by rw[z,H]at e;cases e) (f b o e);obtain⟨o',B,y,q1,q2,q3,q4,_,q5⟩:=G;exact ih (i+1) _ _ (by omega) q M (S.extBut u.extBut (dq h)) ⟨o',B,y,q1,q2,q3,q4,q5⟩ hJ λh' tk g e1 e2 W=>hR h' tk g e1 e2 W
end
def PrT(H:Hp)(ps:List V)(rss:LLI):Prop:=ps.length=rss.length/\∀(i:Nat) (q:V),ps[i]?=some q->∃(r:List Int) (b:Addr) (v y:V),rss[i]?=some r/\q=.ref b/\H b=some (.tup [v,y])/\IT H v r
theorem PrT.same{H H':Hp}{ps:List V}{rss:LLI}(h:PrT H ps rss)(s:Same H H'):PrT H' ps rss :=
 ⟨h.1,λi q e=>let ⟨r,b,v,y,e1,e2,e3,e4⟩:=h.2 i q e;⟨r,b,v,y,e1,e2,s _ _ e3,e4.same s⟩⟩
theorem PrT.nil{H:Hp}:PrT H [] []:=⟨rfl,λi q e=>by simp at e⟩
theorem PrT.snoc{H:Hp}{ps:List V}{rss:LLI}{r:List Int}{b:Addr}{v y:V}(h:PrT H ps rss)(c:H b=some (.tup [v,y]))(d:IT H v r):PrT H (ps++[.ref b]) (rss++[r]):=by
 refine⟨by simp[h.1],λi q e=>?_⟩;rw[List.getElem?_append]at e;rw[List.getElem?_append,<-h.1];split at e
 .rename_i hi;rw[az hi];exact h.2 i q e
 .rename_i hi;rw[ar hi];cases a:i-ps.length with
  |zero =>
   rw[a]at e;cases e;exact⟨r,b,v,y,rfl,rfl,c,d⟩
  |succ j=>rw[a]at e;simp at e
theorem a2j(r:List Int):(r.map (Sum.inl:Int->Key)).map kV=r.map V.int:=by
 rw[cU];rfl
theorem b7k{kvs:List (List Key×V)}{rss:LLI}{r:List Int}(f:kvs.map (·.1)=IK rss)(g:r∉rss):R5 kvs (r.map Sum.inl)=none:=by
 rw[<-Option.not_isSome_iff_eq_none,Bool.not_eq_true,<-R1,eB];intro d c e;have e:=bw e;have:d.1∈IK rss:=by rw[<-f];exact aL.mpr ⟨d,c,rfl⟩
 obtain⟨h,h1,h2⟩:=aL.mp this;rw[e]at h2;have inj:∀{a b:List Int},a.map (Sum.inl:Int->Key)=b.map Sum.inl->a=b:=λ{a b} z=>by
  have:=aN (List.map kV) z;rw[a2j,a2j]at this;exact map_int_inj.mp this
 exact g (inj h2 ▸ h1)
section
variable {X:Cx}
variable {e:Expr}{es:List Expr}{t:TA}{p pos:Pos}
end
structure Onc(mss rss:LLI):Prop where
 nd:mss.Nodup
 mem:∀r,r∈mss↔r∈rss
 le:mss.length<=rss.length
theorem Onc.new{c rss:LLI}{r:List Int}(h:Onc c rss)(g:r∉c):Onc (c++[r]) (rss++[r]):=by
 refine⟨eE.mpr ⟨h.nd,by simp,λa d b f e=>?_⟩,λq=>?_,?_⟩
 .rw[aQ.mp f]at e;rw[e]at d;exact g d
 .rw[aA,aA,h.mem]
 .rw[ak,ak];have:=h.le;show _+1<=_+1;omega
theorem Onc.old{a rss:LLI}{r:List Int}(h:Onc a rss)(b:r∈a):Onc a (rss++[r]):=by
 refine⟨h.nd,λq=>?_,?_⟩
 .rw[aA,aQ,h.mem];exact⟨.inl,λz=>z.elim id λe=>by rw[e];exact(h.mem r).mp b⟩
 .rw[ak];have:=h.le;omega
def b1x:RL:=λxs H Q=>∃(l:Addr) (ps:List V) (rss:LLI),xs=[.ref l]/\H l=some (.lst ps)/\PrT H ps rss/\∀d kvs mss,H d=none->kvs.map (·.1)=IK mss->Onc mss rss->Q (.ref d) (upd H d (.dT kvs))
section
variable {X:Cx}
theorem a7J(hu:X.A.units+60<cLine)(hc:X.calm=true):E3 X (.type "dict") b1x:=by
 intro pins s σ H xs us Q I rv h;obtain⟨l,ps,rss,rfl,hl,hP,q⟩:=h;obtain⟨u,rfl,L⟩:=rv.one;cases L;obtain⟨hz,its,n,r,e⟩:=(show ObjOk X.prog X.w H s.heap l (.lst ps)from I.hok _ _ hl);have hh:X.A.handled=none:=I.ok.hd hc;have G:its.toArray.size=ps.length:=by simpa using r.length.symm
 have C:sysModules<s.heap.objs.size:=fT (by decide) (I.mod.glob.keeps I.bk).lt;refine callType_codes (Q₁:=λobj s₁=>obj=.ref s.heap.objs.size/\s₁={s with heap:=s.heap.push {cls:=.type "dict",data:=.dict #[]}}) PySem.F.kt_called_dict (PySem.F.kt_typeCall_dict_1 _) PySem.F.entry_dict_init (kt_code_dict_new _ ⟨rfl,rfl⟩) ?_;rintro obj s₁ ⟨rfl,rfl⟩;have K:(s.heap.push {cls:=.type "dict",data:=.dict #[]}).get? s.heap.objs.size=some {cls:=.type "dict",data:=.dict #[]}:=aH _ rfl;have k0:∀b o,s.heap.get? b=some o->(s.heap.push {cls:=.type "dict",data:=.dict #[]}).get? b=some o:=λb o e=>ag _ e;generalize s.heap.push {cls:=.type "dict",data:=.dict #[]}=Z at K k0;refine⟨⟨_,K,rfl⟩,PySem.F.args_dict_init_2 _ _,?_⟩;unfold Builtin.«dict.__init__»;refine aa ?_;unfold Builtin.Dict.selfAndRest;refine aa (wpAny_notOrdered_dict ⟨_,K,rfl⟩ ?_);show wpAny _ _ (pure (s.heap.objs.size,[Value.ref l])) _ _ _;refine ai ?_;show wpAny _ _ (Builtin.Dict.updateFrom "dict.__init__" s.heap.objs.size (.ref l) [] .none) _ _ _;unfold Builtin.Dict.updateFrom;refine aa (eF (s:={s with heap:=Z}) ⟨_,k0 _ _ e,rfl⟩ ?_);rw[az (by decide)];refine aa (b4C (s:={s with heap:=Z}) (k0 _ _ e) rfl rfl rfl hh λh1 J k1=>?_);rw[az (show(none:Option Value).isNone=true from rfl)];refine aa (fh ?_);have k:∀b o,s.heap.get? b=some o->h1.get? b=some o:=λb o e=>k1 _ _ (k0 _ _ e);refine aa (fu (s:={s with heap:=h1,toks:=J}) ⟨_,k _ _ e,rfl,n,rfl⟩ ?_);have N:(h1.push {cls:=.type "list_iterator",data:=.fields #[.ref l,.int 0 0]}).IsListIter h1.objs.size l 0:=⟨_,aH _ rfl,rfl,rfl⟩;have k2:∀b o,h1.get? b=some o->(h1.push {cls:=.type "list_iterator",data:=.fields #[.ref l,.int 0 0]}).get? b=some o:=λb o e=>ag _ e;have U:=k1 _ _ K;refine ai ⟨plainId_quiet Z9 _,?_⟩;refine b2M (prog:=X.prog) (w:=X.w) (A:=X.A.in1) (s0:=s.heap) (l:=l) (items:=its.toArray) (aR (aK U)) ?_ ?_ ⟨_,e,rfl,n,rfl⟩ hh (show X.A.units+1+10<cLine by omega) (by omega)
  (λi xs=>∃kvs d,KT H kvs xs/\kvs.map (·.1)=IK d/\Onc d (rss.take i)) (λi hi=>?_) _ 0 {s with heap:=h1.push {cls:=.type "list_iterator",data:=.fields #[.ref l,.int 0 0]},toks:=J} [] rfl (bG _) (λb o e=>k2 _ _ (k _ _ e)) N ⟨{cls:=.type "dict",data:=.dict #[]},#[],0,k2 _ _ U,⟨rfl,rfl,rfl⟩,rfl,rfl,fk⟩ ⟨[],[],.nil,rfl,⟨.nil,λ_=>Iff.rfl,ao _⟩⟩ λh' tk T e1 e2 ⟨kvs,d,e3,W,M⟩=>?_
 .cases z:s.heap.get? s.heap.objs.size with
  |none=>rfl
  |some o=>exact absurd (aK z) (b_ _)
 .cases z:s.heap.get? h1.objs.size with
  |none=>rfl
  |some o=>exact absurd (aK (k _ _ z)) (b_ _)
 .have hi':i<ps.length:=by omega
  obtain⟨u,eu,L⟩:=r.get (aj hi');obtain⟨f,b,v,y,er,eb,hb,a,rfl,ha⟩:=hP.2 i _ (aj hi');rw[eb]at L;cases L;obtain⟨_,a0,r2,O⟩:=(show ObjOk X.prog X.w H s.heap b (.tup [.ref a,y])from I.hok _ _ hb);obtain⟨u1,u2,rfl,R,S⟩:=r2.two;cases R;refine⟨b,f.map Sum.inl,a,u2,by simpa using eu,O.tup,a1j I.hok (by rw[a2j];exact ha),?_⟩;rintro xs ⟨kvs,d,P,E,g⟩;have F:xs.length=d.length:=by
   have h1:=Paired.length P;have h2:=aN List.length E;rw[IK,ae,ae]at h2;omega
  refine⟨by rw[F];exact bj g.le (bI _ _),λx j=>?_,a0m kvs (f.map Sum.inl) y,if f∈d then d else d++[f],P.put _ (by rw[a2j];exact ha) S,?_⟩
  .have all:∀{l:List (List Key×V)}{m:List (List Key×Addr×Value)},KT H l m->∀x∈m,(tupleKind (B9 X.prog X.w)).is s.heap x.1 x.2.1:=by
    intro l m q;induction q with
    |nil=>intro x j;exact nomatch j
    |@cons p q ps qs hq t ih =>
     intro x j;rcases aD.mp j with e|j
     .subst e;exact a1j I.hok (by rw[<-hq.1];exact hq.2.1)
     .exact ih x j
   exact all P x j
  .have et:rss.take (i+1)=rss.take i++[f]:=by rw[bu,er];rfl
   rw[et];by_cases B:f∈d
   .rw[az B,a9z _ (by rw[E];exact aL.mpr ⟨f,B,rfl⟩)];exact⟨E,g.old B⟩
   .rw[ar B,a5S _ (b7k E B),bz,E];refine⟨?_,g.new B⟩;unfold IK;rw[bz];rfl
 .have hil:ps.length=rss.length:=hP.1;rw[G,hil,bx]at M;obtain⟨o,es,ep,g1,g2,g3,g4,g5⟩:=e2;have D:H s.heap.objs.size=none:=I.hok.fresh (ao _);have F:kvs.length<=rss.length:=by
   have h2:=aN List.length W;rw[IK,ae,ae]at h2;rw[h2];exact M.le
  refine⟨rfl,.ref s.heap.objs.size,_,I.laid (h':=h') (a:=s.heap.objs.size) (o:=.dT kvs) (t':=tk) e1 (ao _) ⟨by omega,cK.mpr (dq (aR C)),T,e3.keeps λc ys Y=>?_,o,es,ep,g1,g2,g3,g4,g5⟩,rfl,q _ kvs d D W M⟩;rw[A3 (A7 Y D)];exact Y
variable {e:Expr}{es:List Expr}{t:TA}{p pos:Pos}
theorem b2s(h:X.A.units+60<cLine)(f:Gl X "dict")(g:X.mg "dict"=none)(b:JA X (e::es) t)(c:X.calm=true:=by rfl)(d:starEach (e::es) X.env=(false,eval e X.env)::starEach es X.env:=by rfl)(a:(backTo pos (starEach es X.env)).any (·.1)=false:=by rfl):JE X (.Call (.Name "dict" p) (e::es) [] pos) (tCB b1x t):=⟨R9 (a7J h c) f g b5a b.h (by decide) (by decide) d a⟩
end
section
variable {X:Cx}{a b:Expr}{ta tb:TE}{pos:Pos}
theorem b2o{i j:Nat}{x y:Str}{ta:TA}{d e pt:Pos}{kt k2 pt2}(h:X.calm=true)(f:X.N.Nodup)(hi:X.N[i]?=some x)(k:X.N[j]?=some y)(c:i≠j)
  (l:X.env.scope.names.lookup x=some .local) (m:X.env.scope.names.lookup y=some .local) (g:JA X [a,b] ta)
  (hw:swappedStores [.Tuple [.Name x d,.Name y e] kt pt] (.Tuple [a,b] k2 pt2) X.env=pure (some [x,y]))
  (hs:swapsWithSole [.Tuple [.Name x d,.Name y e] kt pt] (.Tuple [a,b] k2 pt2) pos.line X.env=pure false:=by rfl) :
  JS X (.Assign [.Tuple [.Name x d,.Name y e] kt pt] (.Tuple [a,b] k2 pt2) pos) (b7L i j ta):=⟨b6k h f hi k c l m g.h hw hs⟩
end
theorem R7{K:PySem.W.Frag}{src:List (Option Nat)}{σ caps:St}{Q:VK}{a:Addr}{vs:List V}{rss:LLI}{H:Hp}{te:TE}(f:List Int->List Int)(n:vs.length<=sizeLine)(b:∀H',Same H H'->SqT K H' a vs)(hI:Its H vs rss)(c:B1 src σ=none::caps)
  (g:∀v r H1 (j:VK),r∈rss->IT H1 v r->Same H H1->(∀u H2,Same H1 H2->IT H2 u (f r)->j u H2)->te (some v::caps) H1 j) (hd:∀H1 p k,Same H H1->H1 p=none->Its H1 k (rss.map f)->Q (.ref p) (upd H1 p (.lst k))):E9 src (B0 0) O5 te σ Q (Itt K a) H:=by
 refine O3 (xs:=vs) (by omega) (λi ys H'=>Same H H'/\Its H' ys ((rss.take i).map f)) ⟨Same.refl H,by simpa using Its.nil⟩ (λi ys H' _ h=>⟨b H' h.1,by rw[h.2.1,ae];exact bI _ _⟩) ?_ ?_
 .rintro i x ys H' hx ⟨s,hy⟩;obtain⟨r,l,d,e⟩:=hI.mem hx;show Sub _ ((B1 src σ).set 0 (some x))/\_;rw[c];refine⟨Sub.one,g x r H' _ l (e.same s) s λu H2 s2 m=>?_⟩;rw[bu,d,bz];exact⟨s.trans s2,(hy.same s2).snoc m⟩
 .rintro ys H' ⟨s,hy⟩ p hp;rw[hI.1,bx]at hy;exact hd H' p ys s hp hy
theorem Its.take{H:Hp}{vs:List V}{rss:LLI}(h:Its H vs rss)(n:Nat):Its H (vs.take n) (rss.take n):=by
 refine⟨by rw[aP,aP,h.1],λi v e=>?_⟩;rw[List.getElem?_take]at e;split at e
 .rename_i hi;obtain⟨r,e1,e2⟩:=h.2 i v e;exact⟨r,by rw[List.getElem?_take,az hi];exact e1,e2⟩
 .cases e
theorem Its.drop{H:Hp}{vs:List V}{rss:LLI}(h:Its H vs rss)(n:Nat):Its H (vs.drop n) (rss.drop n):=by
 refine⟨by rw[bE,bE,h.1],λi v e=>?_⟩;rw[eh]at e⊢;exact h.2 _ v e
theorem Its.app{H:Hp}{vs b:List V}{rss a:LLI}(h:Its H vs rss)(g:Its H b a):Its H (vs++b) (rss++a):=by
 refine⟨by rw[ak,ak,h.1,g.1],λi v e=>?_⟩;rcases fV i vs.length with hi|hi
 .rw[bq hi]at e;rw[bq (by rw[<-h.1];exact hi)];exact h.2 i v e
 .rw[aW hi]at e;rw[aW (by rw[<-h.1];exact hi),<-h.1];exact g.2 _ v e
theorem Its.one{H:Hp}{v:V}{r:List Int}(h:IT H v r):Its H [v] [r]:=Its.nil.snoc h
theorem b8w{xs:List V}{n:Nat}(h:n<=xs.length):K5 xs none (some (n:Int))=xs.take n:=by
 unfold K5;rw[HT.sIx_none,HT.sIx_nat,cA h,cJ,Nat.sub_zero]
theorem b8x{xs:List V}{n:Nat}(h:n<=xs.length):K5 xs (some (n:Int)) none=xs.drop n:=by
 unfold K5;rw[HT.sIx_none,HT.sIx_nat,cA h,bP (by rw[bE];omega)]
theorem a3S:∀{a b:LLI},C3 a->C3 b->a.Nodup->b.Nodup->(∀v,v∈a↔v∈b)->a=b
 |[],[],_,_,_,_,_=>rfl
 |[],y::b,_,_,_,_,h=>by have:=(h y).mpr au;cases this
 |x::a,[],_,_,_,_,h=>by have:=(h x).mp au;cases this
 |x::a,y::b,ra,rb,na,nb,h=>by
  obtain⟨j,k⟩:=cp.mp ra;obtain⟨q1,i⟩:=cp.mp rb;obtain⟨f,g⟩:=bR.mp na;obtain⟨c,d⟩:=bR.mp nb;have e:x=y:=by
   refine K3 x y ?_ ?_
   .rcases aD.mp ((h x).mp au)with z|z
    .rw[z];exact G0 y
    .exact q1 x z
   .rcases aD.mp ((h y).mpr au)with z|z
    .rw[z];exact G0 x
    .exact j y z
  subst e;rw[a3S k i g d λv=>?_];constructor
  .intro hv;rcases aD.mp ((h v).mp (av _ hv))with z|z
   .exact absurd (z ▸ hv) f
   .exact z
  .intro hv;rcases aD.mp ((h v).mpr (av _ hv))with z|z
   .exact absurd (z ▸ hv) c
   .exact z
structure Srt(rss srt:LLI):Prop where
 ri:C3 srt
 nd:srt.Nodup
 mem:∀r,r∈srt↔r∈rss
theorem Srt.eq{rss a b:LLI}(h:Srt rss a)(g:Srt rss b):a=b:=a3S h.ri g.ri h.nd g.nd λv=>(h.mem v).trans (g.mem v).symm
noncomputable def a5R(fss:LLI)(r:List Int):LLI :=
 if (fss.drop (fss.filter λu=>HT.lexLt u r).length).take 1=[r] then fss else fss.take (fss.filter λu=>HT.lexLt u r).length++[r]++fss.drop (fss.filter λu=>HT.lexLt u r).length
theorem b3R{x r:List Int}{a:LLI}(e:HT.lexLt x r=true):a5R (x::a) r=x::a5R a r:=by
 unfold a5R;rw[ft (p:=λu=>HT.lexLt u r) e,a',List.drop_succ_cons,List.take_succ_cons];split<;>rfl
theorem putL_ok(r:List Int):∀a:LLI,C3 a->a.Nodup->C3 (a5R a r)/\(a5R a r).Nodup/\∀v,v∈a5R a r↔v=r∨v∈a
 |[],_,_=>by
  have:a5R [] r=[r]:=rfl;rw[this];exact⟨fq ..,fq ..,λv=>by simp⟩
 |x::a,ri,nd=>by
  obtain⟨f,m⟩:=cp.mp ri;obtain⟨k,l⟩:=bR.mp nd;cases e:HT.lexLt x r with
  |true =>
   obtain⟨i,j,d⟩:=putL_ok r a m l;rw[b3R e];refine⟨cp.mpr ⟨λy b=>?_,i⟩,bR.mpr ⟨λz=>?_,j⟩,λv=>?_⟩
   .rcases(d y).mp b with rfl|z
    .cases e2:HT.lexLt y x with
     |false=>rfl
     |true=>have:=a0b _ _ _ e e2;rw[G0]at this;cases this
    .exact f y z
   .rcases(d x).mp z with rfl|z
    .rw[G0]at e;cases e
    .exact k z
   .rw[aD,d,aD];constructor
    .rintro(h|h|h)
     .exact .inr (.inl h)
     .exact .inl h
     .exact .inr (.inr h)
    .rintro(h|h|h)
     .exact .inr (.inl h)
     .exact .inl h
     .exact .inr (.inr h)
  |false =>
   have all:∀y∈x::a,HT.lexLt y r=false:=λy b=>by
    rcases aD.mp b with rfl|z
    .exact e
    .cases e2:HT.lexLt y r with
     |false=>rfl
     |true =>
      rcases a8z y x r e2 with q|q
      .rw[f y z]at q;cases q
      .rw[e]at q;cases q
   have g:((x::a).filter λu=>HT.lexLt u r)=[]:=List.filter_eq_nil_iff.mpr λy b=>by rw[all y b];decide
   unfold a5R;rw[g,List.length_nil,cJ,eH,cq];show C3 (if [x]=[r] then _ else _)/\(if [x]=[r] then _ else _:LLI).Nodup/\∀v,v∈(if [x]=[r] then _ else _:LLI)↔_;by_cases c:x=r
   .subst c;rw[az rfl];exact⟨ri,nd,λv=>⟨.inr,λh=>h.elim (λz=>z ▸ au) id⟩⟩
   .rw[ar (by simpa using c)];refine⟨cp.mpr ⟨all,ri⟩,bR.mpr ⟨λz=>?_,nd⟩,λv=>aD⟩;rcases aD.mp z with q|q
    .exact c q.symm
    .exact c (K3 x r e (f r q))
theorem Srt.len{rss a:LLI}(h:Srt rss a):a.length<=rss.length:=Tab.nodup_le a rss h.nd λr b=>(h.mem r).mp b
end L2
namespace L2
open PySem PySem.Spec PyProof.Rows PySem.W
section
variable {prog:Program}{w:World}{κ:Type} [DecidableEq κ] {knd:HeapKind prog w κ}{A:Around}{E:Value->Shared->Prop}{s:Shared}
end
section
variable {prog:Program}{w:World}{κ:Type} [DecidableEq κ] (knd:HeapKind prog w κ)
end
section
variable {X:Cx}{pins:List (Addr×Obj)}{σ:St}{H:Hp}{s:Shared}{a b:Addr}{z:V}{r:Value}{kvs:List (List Key×V)}{k:List Key}{A:Around}{E:Value->Shared->Prop}
end
section
variable {X:Cx}{o e f:Expr}{apos cpos:Pos}{td ty tx:TE}
end
section
variable {X:Cx}
variable {e:Expr}{es:List Expr}{t:TA}{p pos:Pos}
end
end L2
namespace L2
open PySem PySem.Spec PyProof.Rows
section
open PySem.SeqAt
open PySem.AutoSeq1 (wpAny_loadPart')
open PySem.MeetsSeq PySem.MeetsSeq2 PySem.MeetsSeq3
end
section
variable {X:Cx}{pins:List (Addr×Obj)}{σ:St}{H:Hp}{s:Shared}
end
section
variable {prog:Program}{w:World}{A:Around}{I l S:Addr}{vs:List Value}{kw:List (Str×Value)}{R:Result->Shared->Prop}{h₀:Heap}{s:Shared}
end
section
variable {prog:Program}{w:World}{A:Around}{E:Value->Shared->Prop}{s:Shared}
end
section
variable {X:Cx}{e:Expr}{t:TA}{p pos kp np:Pos}{nk:Nat}
end
section
theorem a3v(xs:Array Value):slicePick xs none none (some (-1))=xs.toList.reverse.toArray:=by
 rw[<-b1F];unfold slicePick;have e:sliceRange ((xs.size:Int)-1) (-1) (-1)=(List.range xs.size).map λ(k:Nat)=>(((xs.size:Int)-1)+(k:Int)*(-1)).toNat:=by
  unfold sliceRange;have:(if (-1:Int) > 0 then(if ((xs.size:Int)-1) < -1 then((-1:Int)-((xs.size:Int)-1) + -1-1) / -1 else 0)else(if ((xs.size:Int)-1) > -1 then(((xs.size:Int)-1) - -1 - -1-1) / (- -1)else 0)).toNat=xs.size:=by
   rw[ar (by decide)];split
   .rw[show(- -1:Int)=1 from rfl,Int.ediv_one];omega
   .omega
  dsimp only;rw[this];refine dU λk _=>?_;rw[Int.mul_comm]
 show((sliceRange ((xs.size:Int)-1) (-1) (-1)).filterMap (xs[·]?)).toArray=_;rw[e,List.filterMap_map];rfl
variable {X:Cx}{e:Expr}{te:TE}{pos p2:Pos}
def b7K(K:PySem.W.Frag)(te ts:TE):TE:=λσ H Q=>te σ H λx H1=>ts σ H1 λy H2=>y=.int (-1)/\∃a xs,x=.ref a/\SqL K H2 a xs/\∀p,H2 p=none->Q (.ref p) (upd H2 p (.lst xs.reverse))
theorem b7f(K:PySem.W.Frag){st:Expr}{i:TE}(n:JE X e te)(hs:JE X st i)(m:X.K=K:=by rfl):JE X (.Subscript e (.Slice none none (some st) p2) pos) (b7K K te i):=by
 subst m;refine⟨λpins s σ H Q I h=>?_⟩;refine Subscript_ (thn (n.h pins s σ H _ I h) λv s1 ⟨x,H1,k,A,q1⟩=>?_);refine wpAny_Slice ?_;rw[evalPart_none];refine ai ?_;refine ai ?_;rw[evalPart_some];refine thn (hs.h pins s1 σ H1 _ k q1) λu c ⟨y,j,l,B,z⟩=>?_;obtain⟨rfl,a,xs,rfl,p,q⟩:=z;obtain⟨tk,rfl⟩:=B;cases A;have d:Inv X pins σ j {c with heap:=c.heap.push {cls:=.type "slice",data:=.fields #[.none,.none,.int (-1) tk]}}:=l.kept (t':=c.toks) λb w q=>ag _ q;obtain⟨its,r,g,t⟩:=d.list p;have f:=r.length;show wpAny (model X.prog X.w) X.A (subscriptTail e (.Slice none none (some st) p2) (.ref a) (.ref c.heap.objs.size)) (EP X pins σ Q) X.xe {c with heap:=c.heap.push {cls:=.type "slice",data:=.fields #[.none,.none,.int (-1) tk]}};refine tail_any (ops:=[.ref a,.ref c.heap.objs.size]) g.isList.typeIs slot_list_getitem.lookup ?_ (by with_unfolding_all rfl);refine wpAny_getItem_list_slice (st:=some (-1)) g.isList (Heap.IsSliceOf.new ..) .none .none (.int _ _) (by decide) ?_ (by rw[aF];omega);rw[a3v];refine⟨.ref _,_,d.laid (t':=c.toks) (o:=.lst xs.reverse) (λb w q=>ag _ q) (ao _) ?_,rfl,q _ (d.hok.fresh (ao _))⟩;exact⟨by rw[List.length_reverse];exact t,_,0,r.reverse,aH _ rfl⟩
end
section
variable {prog:Program}{w:World}{A:Around}{I l S:Addr}{vs:List Value}{kw:List (Str×Value)}{R:Result->Shared->Prop}{h₀:Heap}{s:Shared}
end
section
variable {prog:Program}{w:World}{A:Around}{E:Value->Shared->Prop}{s:Shared}
end
section
variable {X:Cx}{e:Expr}{t:TA}{p pos kp np:Pos}{nk:Nat}{d:Int}
end
open PySem.AutoSeq1 (wpAny_loadPart')
section
variable {prog:Program}{w:World}{A:Around}{E:Value->Shared->Prop}{s:Shared}
end
section
variable {X:Cx}{e:Expr}{es:List Expr}{t:TA}{p pos:Pos}
end
end L2
namespace L2
open PySem PySem.Spec PyProof.Rows
section
variable {X:Cx}
variable {o e:Expr}{es:List Expr}{to:TE}{t:TA}{name:Str}{apos cpos pos:Pos}{id:String}{r:V->List V->Hp->VK->Prop}
end
end L2
namespace K39
open PySem PySem.Spec PyProof.Rows L2
noncomputable def top(i:Nat):Stmt:=PySem.Challenge.pw_leastlays_k39_whole_two_systems.main.body.getD i (.Pass ⟨0,0,0,0⟩)
noncomputable abbrev a2h:Stmt:=top 1
noncomputable abbrev a0J:Stmt:=top 2
noncomputable abbrev a4K:Stmt:=top 3
noncomputable abbrev T3:Stmt:=top 4
noncomputable abbrev L8:Stmt:=top 5
noncomputable abbrev a2e:Stmt:=top 7
noncomputable abbrev a0L:Stmt:=top 8
noncomputable abbrev Z6:Stmt:=top 9
noncomputable abbrev a0H:Stmt:=top 14
noncomputable abbrev Z3:Stmt:=top 16
noncomputable abbrev a4L:Stmt:=top 17
noncomputable abbrev P0:Stmt:=top 18
noncomputable abbrev Z4:Stmt:=top 19
noncomputable abbrev a2g:Stmt:=top 20
noncomputable abbrev K6:Stmt:=top 22
noncomputable abbrev a0I:Stmt:=top 23
noncomputable abbrev a2c:Stmt:=top 24
noncomputable abbrev O9:Stmt:=top 26
noncomputable abbrev M6:Stmt:=top 27
noncomputable abbrev a2f:Stmt:=top 29
noncomputable abbrev O8:Stmt:=top 31
noncomputable abbrev O7:Stmt:=top 32
noncomputable abbrev K7:Stmt:=top 33
noncomputable abbrev Z7:Stmt:=top 35
noncomputable abbrev P5:Stmt:=top 36
noncomputable abbrev a0K:Stmt:=top 37
noncomputable abbrev Z5:Stmt:=top 38
noncomputable abbrev a2d:Stmt:=top 39
noncomputable abbrev T4:Stmt:=top 41
noncomputable abbrev P6:Stmt:=top 42
noncomputable abbrev K9:Stmt:=top 43
noncomputable abbrev K8:Stmt:=top 44
noncomputable abbrev P7:Stmt:=top 45
noncomputable abbrev P8:Stmt:=top 46
noncomputable abbrev G4:Stmt:=top 47
noncomputable abbrev L3:Stmt:=top 48
noncomputable abbrev J0:Stmt:=top 49
noncomputable abbrev M7:Stmt:=top 50
noncomputable abbrev a2B:Stmt:=top 51
noncomputable abbrev E7:Stmt:=U4 (top 28) 0
noncomputable abbrev a0p:Stmt:=U4 (top 28) 1
noncomputable abbrev C7:Stmt:=U4 (top 28) 2
noncomputable abbrev W7:Stmt:=U4 (top 28) 3
noncomputable abbrev L4:Stmt:=U4 (top 28) 4
noncomputable abbrev J3:Stmt:=U4 (top 28) 5
noncomputable abbrev J4:Stmt:=U4 (top 28) 6
structure Tx(mg:Str->Option Value):Prop where
 b_ValueError:mg "ValueError"=none
 b_abs:mg "abs"=none
 b_all:mg "all"=none
 b_any:mg "any"=none
 b_bool:mg "bool"=none
 b_dict:mg "dict"=none
 b_int:mg "int"=none
 b_isinstance:mg "isinstance"=none
 b_len:mg "len"=none
 b_list:mg "list"=none
 b_range:mg "range"=none
 b_set:mg "set"=none
 b_sorted:mg "sorted"=none
 b_sum:mg "sum"=none
 b_tuple:mg "tuple"=none
 b_zip:mg "zip"=none
structure PotAt(H:Hp)(a b:Addr)(n:Nat):Prop where
 ne:a≠b
 ex:∃(cs:List Int) (t k:Int),H a=some (.lst [.ref b,.int t])/\H b=some (.lst (cs.map V.int))/\cs.length<=63/\(∀c∈cs,0<=c)/\0<=t/\t<2 ^ 61/\0<=k/\k<=n
theorem PotAt.same{H H':Hp}{a b:Addr}{n:Nat}(h:PotAt H a b n)(s:Same H H'):PotAt H' a b n:=by
 obtain⟨ne,cs,t,k,h1,h2,c⟩:=h;exact⟨ne,cs,t,k,s _ _ h1,s _ _ h2,c⟩
theorem PotAt.mono{H:Hp}{a b:Addr}{n m:Nat}(h:PotAt H a b n)(j:n<=m):PotAt H a b m:=by
 obtain⟨ne,cs,t,k,h1,h2,c,d,e,f,g,i⟩:=h;exact⟨ne,cs,t,k,h1,h2,c,d,e,f,g,by omega⟩
theorem a8V{ns:List Int}{hi:Option Int}{i:Nat}{x:V}(h:(K5 (ns.map V.int) none hi)[i]?=some x):∃z,x=V.int z:=by
 unfold K5 at h;have b:=aI h;have a:=cS (bU b);obtain⟨z,_,e⟩:=aL.mp a;exact⟨z,e.symm⟩
theorem b4V{ns:List Int}{hi:Option Int}:(K5 (ns.map V.int) none hi).length<=ns.length:=by
 have:=Y0 (ns.map V.int) none hi;rwa[ae]at this
section
variable {P:Program}{w:World}{K:PySem.W.Frag}{mg:Str->Option Value}{base:Heap}
inductive IspPot(K:PySem.W.Frag)(vs:List V)(H:Hp)(Q:VK)(E:XK):Prop
 |mk (a:Addr) (ns:List Int) (_:vs=[.ref a]) (_:SqL K H a (ns.map V.int)) (_:ns.length<=63) (_:∀p b H',H p=none->H b=none->PotAt H' p b 0->Same H H'->Q (.ref p) H'):IspPot K vs H Q E
def b5o(K:PySem.W.Frag):Sp:=λvs H Q E=>IspPot K vs H Q E
theorem sc__law_pot:FnScope ["_law_script","_law_seed","_law_cell"] ["_law_script"] (A1 T4):=⟨rfl,rfl,rfl,by decide +kernel,rfl,by decide +kernel,by decide +kernel⟩
theorem b6Q(F:FunAt K mg "_law_pot" T4 ["_law_script"])(T:Tx mg):Ok P w K mg base "_law_pot" 1 ["_law_script"] (b5o K):=by
 refine F.okJ sc__law_pot (λvs H Q E h=>?_) (λu f A l s H vs Q E C h=>?_)
 .obtain⟨a,ns,rfl,_⟩:=h;rfl
 .obtain⟨a,ns,rfl,hS,hl,k⟩:=h;refine⟨_,(A2 (B3 (i:=1) sc__law_pot.nd rfl (Or.inl rfl) A5)
 (A2 (N9 (J9 K (b5G K (jv 0) L7 (L6 A5))) (A8 (i:=2) sc__law_pot.nd rfl (Or.inl rfl))
 (A4 (B3 (i:=1) sc__law_pot.nd rfl (Or.inl rfl) (a1I (Q0 (Q0 (a3a (jv 1) A5) (a1I (jv 2) (a6o A5 A5))) A5) A5))))
 (A4 (A9 (V4 (jaC (B8 (N:=["_law_cell"]) (src:=[none]) (J9 K (b5G K (jv 0) L7 (L6 A5))) (by show B7 _ _=true;rfl) (by rfl) (by rfl)
 (λ_ _ _ _ _=>(A8 (i:=0) (show(["_law_cell"]:List Str).Nodup by decide +kernel) rfl (Or.inl rfl))) (λ_ _ _ _ _=>(a1m (b8m (b2t rfl T.b_abs (jaC (jv 0) jaN)) (a6o A5 A5)))) (λ_ _ _ _ _=>(b2t rfl T.b_abs (jaC (jv 0) jaN)))) (jaC (jv 1) jaN))))))),?_⟩
  refine⟨_,rfl,63,rfl,a,_,rfl,hS,λp y=>?_⟩;refine⟨p,rfl,⟨_,SqL.of A0⟩,?_⟩;refine S5 (K:=K) (a:=p) (xs:=K5 (ns.map V.int) none (some 63)) (λi σ H2=>Ex2 λ(t:Int) (v:Option V)=>An4 (σ=[some (.ref a),some (.int t),v]) (0<=t) (t<2 ^ 61) (H2=upd H p (.lst (K5 (ns.map V.int) none (some 63)))))
   ⟨29,none,rfl,by decide,by decide,rfl⟩ (λi σ H2 _ ⟨_,_,_,_,_,e⟩=>by rw[e];exact SqL.of A0) ?_ ?_
  .rintro i x σ H2 hx ⟨t,v,rfl,h0,h1,rfl⟩;obtain⟨z,rfl⟩:=a8V hx;dsimp only[B0];refine⟨_,rfl,_,_,rfl,rfl,.inl ⟨by omega,by omega⟩,_,rfl,_,_,rfl,rfl,⟨by decide,by decide,by decide⟩,_,_,rfl,rfl,(show(0:Int)<10 ^ Int.toNat 30 by decide),_,_,rfl,rfl,_,_,rfl,rfl,_,_,rfl,rfl,(show(0:Int)<2305843009213693951 by decide),?_⟩;refine⟨_,_,rfl,ei _ (by decide),?_,rfl⟩;have:=dz (t*6364136223846793005+z % 10 ^ Int.toNat 30+1442695040888963407) (show(0:Int)<2305843009213693951 by decide);omega
  .rintro σ H2 ⟨t,v,rfl,h0,h1,rfl⟩;have m:Same H (upd H p (.lst (K5 (ns.map V.int) none (some 63)))):=(Same.refl H).upd y;generalize upd H p (.lst (K5 (ns.map V.int) none (some 63)))=H1 at m;refine⟨_,rfl,63,rfl,a,_,rfl,m.seq hS,λp2 j=>?_⟩;have s2:Same H (upd H1 p2 (.lst (K5 (ns.map V.int) none (some 63)))):=m.upd j;refine⟨p2,rfl,⟨_,SqL.of A0⟩,?_⟩;have n:(1000:Nat)<=sizeLine:=by rw[a_];decide
   have hcl:=b4V (ns:=ns) (hi:=some 63);refine a0j (K:=K) (a:=p2) (xs:=K5 (ns.map V.int) none (some 63)) (by omega) (λi ys d=>d=upd H1 p2 (.lst (K5 (ns.map V.int) none (some 63)))/\ys.length<=i/\∃cs:List Int,ys=cs.map V.int/\∀c∈cs,0<=c)
    ⟨rfl,ao _,[],rfl,λ_ h=>nomatch h⟩ (λi ys d _ ⟨e,e2,_⟩=>⟨by rw[e];exact SqL.of A0,e2⟩) ?_ ?_
   .rintro i x ys d hx ⟨rfl,hy,cs,rfl,hc⟩;obtain⟨z,rfl⟩:=a8V hx;refine⟨Sub.one,?_⟩;refine⟨_,rfl,z,rfl,_,_,rfl,rfl,⟨by decide,by decide,by decide⟩,_,_,rfl,rfl,_,rfl,a0y (λn=>?_) (λn=>?_)⟩
    .refine⟨_,rfl,z,rfl,rfl,by rw[ak];simpa using hy,cs++[if z<0 then -z else z],by simp,λc g=>?_⟩;rcases aA.mp g with q|q
     .exact hc c q
     .rw[aQ.mp q];split<;>omega
    .exact⟨rfl,by omega,cs,rfl,hc⟩
   .rintro ys d ⟨rfl,hy,cs,rfl,hc⟩ p3 hp3;refine⟨_,rfl,by show 2<=sizeLine;omega,λB b=>?_⟩;have r:=s2.upd (o:=.lst (cs.map V.int)) hp3;refine k B p3 _ (r.free b) (s2.free hp3) ⟨?_,cs,t,0,A0,?_,?_,hc,h0,h1,by decide,by decide⟩ (r.upd b)
    .exact(A7 (o:=.lst (cs.map V.int)) A0 b).symm
    .exact R6 A0 b
    .rw[ae]at hy;omega
theorem at0{x y:V}:atI [x,y] 0=some x:=rfl
theorem at1{x y:V}:atI [x,y] 1=some y:=rfl
theorem atc{x:V}{xs:List V}:atI (x::xs) 0=some x:=a2m (j:=0) rfl
theorem b8H{x:Int}{xs:List Int}:ixN ((x::xs).map V.int).length 0=some 0:=by
 rw[ae,a'];unfold ixN;rw[az (by decide),az (by omega)];rfl
inductive IspTake(vs:List V)(H:Hp)(Q:VK)(E:XK):Prop
 |mk (a b:Addr) (n:Nat) (m:Int) (_:vs=[.ref a,.int m]) (_:PotAt H a b n) (_:n<2 ^ 60) (_:0<m) (_:m<2 ^ 60) (_:∀r H',0<=r->r<m->PotAt H' a b (n+1)->Off [a,b] H H'->Q (.int r) H'):IspTake  vs H Q E
def a1a:Sp:=λvs H Q E=>IspTake  vs H Q E
theorem sc__law_take:FnScope ["_law_pot_here","_law_many","_law_number_here","_law_mixed"] ["_law_pot_here","_law_many"] (A1 P6):=⟨rfl,rfl,rfl,by decide +kernel,rfl,by decide +kernel,by decide +kernel⟩
theorem b4y(F:FunAt K mg "_law_take" P6 ["_law_pot_here","_law_many"])(T:Tx mg):Ok P w K mg base "_law_take" 1 ["_law_pot_here","_law_many"] a1a:=by
 refine F.okJ sc__law_take (λvs H Q E h=>?_) (λL f A J s H vs Q E N h=>?_)
 .obtain⟨a,b,n,m,rfl,_⟩:=h;rfl
 .obtain⟨a,b,n,m,rfl,⟨ne,cs,t,k,ha,hb,hlen,hpos,ht0,ht1,hk0,hk1⟩,hn,hm0,hm1,kk⟩:=h;have O:=N.u60;refine⟨_,(A2 (D5 (a7s K O (M2 K (jv 0) A5) (V4 jaN))
 (A2 (B3 (i:=2) sc__law_take.nd rfl (Or.inl rfl) (M2 K (M2 K (jv 0) A5) A5))
 (A2 (a2X (b4M (jv 2) (jv 1)) (a7t (M2 K (jv 0) A5) A5))
 (A2 (D5 (a1H (M2 K (M2 K (jv 0) A5) A5) A5)
 (A4 (T9 (a6m K (M2 K (jv 0) A5) (jaC A5 jaN))))
 C1)
 (A4 (A9 (a1I (jv 2) (jv 1)))))))
 C1)
 (A2 (a2X (a1I (Q0 (a3a (M2 K (jv 0) A5) A5) A5) A5) (a7t (jv 0) A5))
 (A2 (B3 (i:=3) sc__law_take.nd rfl (Or.inl rfl) (a1I (a3a (Q0 (a1I (M2 K (jv 0) A5) A5) A5) (Q0 (b2u (M2 K (jv 0) A5) A5) A5)) A5))
 (A4 (A9 (a1I (b2u (jv 3) A5) (jv 1))))))),?_⟩
  refine b7I (b:=b) (cs:=cs) (λS q=>ixL (var rfl) con ha at0 q) hb λp D=>?_;have j:=R6 (o:=.lst []) ha D;have r:=R6 (o:=.lst []) hb D;have l:Off [a,b] H (upd H p (.lst [])):=(Off.refl _ _).upd D;generalize upd H p (.lst [])=H1 at j r l;cases cs with
  |nil =>
   refine D6 ?_;refine⟨_,rfl,a,_,1,_,rfl,rfl,SqL.of j,at1,_,_,rfl,rfl,.inl ⟨by omega,by omega⟩,_,_,rfl,rfl,_,_,rfl,rfl,(show(0:Int)<2305843009213693951 by decide),?_⟩;dsimp only;generalize v:(t*3935559000370003845+2691343689449507681) % 2305843009213693951=x;have I:0<=x:=by rw[<-v];exact ei _ (by decide)
   have R:x<2305843009213693951:=by rw[<-v];exact dz _ (by decide)
   refine⟨_,rfl,a,_,1,1,rfl,rfl,j,rfl,?_⟩;have y:PotAt (upd H1 a (.lst [.ref b,.int x])) a b (n+1):=⟨ne,[],x,0,A0,by rw[A3 ne.symm];exact r,by decide,(λ_ z=>nomatch z),I,by omega,by decide,by omega⟩;have g:Off [a,b] H (upd H1 a (.lst [.ref b,.int x])):=l.set (by simp);have d:upd H1 a (.lst [.ref b,.int x]) a=some (.lst [.ref b,.int x]):=A0;dsimp only[List.set_cons_succ,List.set_cons_zero];generalize upd H1 a (.lst [.ref b,.int x])=H2 at y g d⊢;have U:0<=x % 1000000007:=ei _ (by decide);have q1:x % 1000000007<1000000007:=dz _ (by decide);refine⟨_,rfl,a,_,1,_,rfl,rfl,SqL.of d,at1,_,_,rfl,rfl,(show(0:Int)<1000000007 by decide),_,_,rfl,rfl,_,rfl,a,_,1,_,rfl,rfl,SqL.of d,at1,_,_,rfl,rfl,⟨by decide,by decide⟩,_,_,rfl,rfl,_,_,rfl,rfl,.inl ⟨by omega,by omega⟩,_,_,rfl,rfl,(show(0:Int)<2305843009213693921 by decide),?_⟩;dsimp only[B0];refine⟨_,rfl,_,_,rfl,rfl,⟨by decide,by decide⟩,_,rfl,_,_,rfl,rfl,hm0,?_⟩;exact kk _ _ (ei _ (by omega)) (dz _ hm0) y g
  |cons c cs =>
   refine G1 ?_;have C:0<=c:=hpos c au;have M:cs.length+1<=63:=hlen;refine⟨_,rfl,a,_,0,_,rfl,rfl,SqL.of j,at0,b,_,0,_,rfl,rfl,SqL.of r,atc,?_⟩;dsimp only[B0];refine⟨_,rfl,_,rfl,_,_,rfl,rfl,⟨hm0,by omega⟩,?_⟩;refine⟨_,rfl,a,_,0,_,rfl,rfl,SqL.of j,at0,b,_,0,0,rfl,rfl,r,b8H,?_⟩;have G:0<=c / m:=Int.ediv_nonneg C (by omega);dsimp only;generalize B:upd H1 b _=H2;have u:H2 b=some (.lst ((c / m::cs).map V.int)):=by rw[<-B];exact A0
   have d:H2 a=some (.lst [.ref b,.int t]):=by rw[<-B,A3 ne];exact j
   have g:Off [a,b] H H2:=by rw[<-B];exact l.set (by simp)
   refine Z2 (λσ H'=>Ex1 λo=>An3 (σ=[some (.ref a),some (.int m),some (.int c),o]) (PotAt H' a b (n+1)) (Off [a,b] H H')) ?fin λfin=>?_
   case fin =>
    rintro σ H' ⟨o,rfl,y,off⟩;refine⟨_,rfl,_,rfl,_,_,rfl,rfl,hm0,?_⟩;exact kk _ _ (ei _ (by omega)) (dz _ hm0) y off
   refine⟨_,rfl,a,_,0,_,rfl,rfl,SqL.of d,at0,b,_,0,_,rfl,rfl,SqL.of u,atc,rfl,_,rfl,a0y (λe=>?_) (λe=>?_)⟩
   .refine⟨_,rfl,a,_,0,_,rfl,rfl,SqL.of d,at0,.inl ⟨rfl,_,SqL.of u⟩,b,_,0,0,_,rfl,rfl,u,by decide,by decide,seqIndex_of (by decide) (by simp),rfl,?_⟩;exact fin _ _ ⟨none,rfl,⟨ne,cs,t,0,by rw[A3 ne];exact d,A0,by omega,λx v=>hpos x (av _ v),ht0,ht1,by decide,by omega⟩,g.set (by simp)⟩
   .refine fin _ _ ⟨none,rfl,⟨ne,c / m::cs,t,0,d,u,hlen,λx v=>?_,ht0,ht1,by decide,by omega⟩,g⟩;rcases aD.mp v with rfl|v
    .exact G
    .exact hpos x (av _ v)
end
theorem a1u{ns:List Int}{k:Nat}(h:k<ns.length):atI (ns.map V.int) (k:Int)=some (.int (ns.getD k 0)):=by
 refine a2m ?_;rw[ba,aj h];simp[aq,h]
theorem b5w{H:Hp}{a b:Addr}{n:Nat}(h:PotAt H a b n){c:Addr}{xs:List V}(d:H c=some (.tup xs)):c∉[a,b]:=by
 obtain⟨_,cs,t,k,h1,h2,_⟩:=h;simp only[aD,bS,c_,not_or];exact⟨K0 d h1 (by intro z;cases z),K0 d h2 (by intro z;cases z)⟩
theorem IT.off{H H':Hp}{v:V}{ns:List Int}{a b:Addr}{n:Nat}(h:IT H v ns)(d:PotAt H a b n)(o:Off [a,b] H H'):IT H' v ns:=by
 obtain⟨c,e,q⟩:=h;exact⟨c,e,o c _ (b5w d q) q⟩
theorem sqt{K:PySem.W.Frag}{H:Hp}{a:Addr}{xs:List V}(h:H a=some (.tup xs)):SqK true K H a xs:=SqT.of h
noncomputable def Bel(xs ys:List Int):Bool:=(List.zipWith (λa b=>decide (a<=b)) xs ys).all id
theorem b7E(xs ys:List Int):(List.zipWith (λa b=>V.bl (decide (a<=b))) xs ys).all trV=Bel xs ys:=by
 unfold Bel;induction xs generalizing ys with
 |nil=>rfl
 |cons x xs c =>
  cases ys with
  |nil=>rfl
  |cons y ys=>simp only[bh,cX,c ys];rfl
theorem a7N{γ:Type}(f:Int->Int->Int)(g:Int->γ):∀xs ys:List Int,List.zipWith (λa b=>g (f a b)) xs ys=(List.zipWith f xs ys).map g
 |[],_=>rfl
 |_::_,[]=>rfl
 |x::xs,y::ys=>by rw[bh,bh,aZ,a7N f g xs ys]
section
variable {P:Program}{w:World}{K:PySem.W.Frag}{mg:Str->Option Value}{base:Heap}
end
theorem X7(n:Nat):(List.replicate n [V.int 0]).flatten=(List.replicate n (0:Int)).map V.int:=by
 induction n with
 |zero=>rfl
 |succ n a=>rw[cv,dg,a,cv];rfl
noncomputable def dot(xs ys:List Int):Int:=(List.zipWith (λa b=>a*b) xs ys).sum
noncomputable def Ans(rss:LLI)(ys:List Int):Bool:=rss.all λr=>decide (dot r ys=0)
def Sm(ys:List Int):Prop:=∀z∈ys,-2 ^ 64<z/\z<2 ^ 64
section
variable {P:Program}{w:World}{K:PySem.W.Frag}{mg:Str->Option Value}{base:Heap}
inductive IspRowSum(vs:List V)(H:Hp)(Q:VK)(E:XK):Prop
 |mk (x:_) (y:_) (xs:_) (ys:_) (_:vs=[x,y]) (_:IT H x xs) (_:IT H y ys) (_:xs.length<=1000) (_:Sm ys) (_:∀H',Same H H'->Q (.int (dot xs ys)) H'):IspRowSum  vs H Q E
def a5z:Sp:=λvs H Q E=>IspRowSum  vs H Q E
theorem a6T:FnScope ["row","one"] ["row","one"] (A1 Z3):=⟨rfl,rfl,rfl,by decide +kernel,rfl,by decide +kernel,by decide +kernel⟩
theorem a7i(F:FunAt K mg "row_sum" Z3 ["row","one"])(T:Tx mg):Ok P w K mg base "row_sum" 1 ["row","one"] a5z:=by
 refine F.okJ a6T (λvs H Q E h=>?_) (λd f A c s H vs Q E l h=>?_)
 .obtain⟨x,y,xs,ys,rfl,_⟩:=h;rfl
 .obtain⟨_,_,xs,ys,rfl,⟨a,rfl,ha⟩,⟨b,rfl,hb⟩,hl,hs,k⟩:=h;refine⟨_,(A4 (A9 (b2q K rfl T.b_sum (jaC (B8 (N:=["a","b"]) (src:=[none,none]) (a2Y K rfl T.b_zip (jaC (jv 0) (jaC (jv 1) jaN))) (by show B7 _ _=true;rfl) (by rfl) (by rfl)
 (λ_ _ _ _ _=>(U0 K 2 (C0 (A8 (i:=0) (show(["a","b"]:List Str).Nodup by decide +kernel) rfl (Or.inl rfl)) (C0 (A8 (i:=1) (show(["a","b"]:List Str).Nodup by decide +kernel) rfl (Or.inl rfl)) N2)))) (λ_ _ _ _ _=>C4) (λ_ _ _ _ _=>(a3a (jv 0) (jv 1)))) jaN)))),?_⟩
  refine⟨_,rfl,_,rfl,true,true,a,b,rfl,⟨_,SqT.of ha⟩,⟨_,SqT.of hb⟩,?_⟩;refine a9c (caps:=[]) (λx y=>V.int (x*y)) hl (λH' s=>⟨sqt (s _ _ ha),sqt (s _ _ hb)⟩) rfl (λx y H1 j _ g _ q=>⟨_,rfl,_,rfl,_,_,rfl,rfl,.inr (hs y g),q⟩) λH1 p s e=>?_;rw[a7N (λx y=>x*y) V.int];exact⟨false,p,_,rfl,SqL.of A0,k _ (s.upd e)⟩
inductive IspSums(vs:List V)(H:Hp)(Q:VK)(E:XK):Prop
 |mk (a:Addr) (y:V) (us:List V) (rss:LLI) (ys:List Int) (_:vs=[.ref a,y]) (_:H a=some (.tup us)) (_:Its H us rss) (_:IT H y ys) (_:us.length<=1000) (_:(∀r∈rss,r.length<=1000)) (_:Sm ys) (_:∀v H',Same H H'->IT H' v (rss.map λr=>dot r ys)->Q v H'):IspSums  vs H Q E
def a6P:Sp:=λvs H Q E=>IspSums  vs H Q E
theorem b3G:FnScope ["rows","one"] ["rows","one"] (A1 a4L):=⟨rfl,rfl,rfl,by decide +kernel,rfl,by decide +kernel,by decide +kernel⟩
theorem b4z(F:FunAt K mg "sums" a4L ["rows","one"])(T:Tx mg)(b:Ok P w K mg base "row_sum" 1 ["row","one"] a5z):Ok P w K mg base "sums" 2 ["rows","one"] a6P:=by
 refine F.okJ b3G (λvs H Q E h=>?_) (λg f A e s H vs Q E d h=>?_)
 .obtain⟨a,y,us,rss,ys,rfl,_⟩:=h;rfl
 .obtain⟨a,y,us,rss,ys,rfl,ha,hI,hy,c,hl2,hs,k⟩:=h;refine⟨_,(A4 (A9 (C9 K rfl T.b_tuple (jaC (B8 (N:=["row","one"]) (src:=[none,some 1]) (E5 K (jv 0)) (by show B7 _ _=true;rfl) (by rfl) (by rfl)
 (λ_ _ _ _ _=>(A8 (i:=0) (show(["row","one"]:List Str).Nodup by decide +kernel) rfl (Or.inl rfl))) (λ_ _ _ _ _=>C4) (λ_ _ _ _ _=>(A6 b (d.mono (by omega)) rfl (jaC (jv 0) (jaC (jv 1) jaN))))) jaN)))),?_⟩
  refine⟨_,rfl,a,rfl,⟨_,SqT.of ha⟩,?_⟩;refine b3s (caps:=[some y]) (λr=>V.int (dot r ys)) c (λH' s=>SqT.of (s _ _ ha)) hI rfl (λv r H1 n d m s1 q=>⟨_,rfl,_,rfl,v,y,r,ys,rfl,m,hy.same s1,hl2 r d,hs,q⟩) λH1 p s j=>?_;rw[show(rss.map λr=>V.int (dot r ys))=(rss.map λr=>dot r ys).map V.int by rw[cU];rfl];refine⟨p,_,rfl,.inl ⟨SqL.of A0,λl c=>?_⟩⟩;exact k _ _ ((s.upd j).upd c) ⟨l,rfl,A0⟩
inductive IspIsAns(vs:List V)(H:Hp)(Q:VK)(E:XK):Prop
 |mk (a:Addr) (y:V) (us:List V) (rss:LLI) (ys:List Int) (_:vs=[.ref a,y]) (_:H a=some (.tup us)) (_:Its H us rss) (_:IT H y ys) (_:us.length<=1000) (_:(∀r∈rss,r.length<=1000)) (_:Sm ys) (_:∀H',Same H H'->Q (.bl (Ans rss ys)) H'):IspIsAns  vs H Q E
def a2a:Sp:=λvs H Q E=>IspIsAns  vs H Q E
theorem a4G:FnScope ["rows","one"] ["rows","one"] (A1 P0):=⟨rfl,rfl,rfl,by decide +kernel,rfl,by decide +kernel,by decide +kernel⟩
theorem a4R(F:FunAt K mg "is_answer" P0 ["rows","one"])(T:Tx mg)(b:Ok P w K mg base "sums" 2 ["rows","one"] a6P):Ok P w K mg base "is_answer" 3 ["rows","one"] a2a:=by
 refine F.okJ a4G (λvs H Q E h=>?_) (λj f A d s H vs Q E m h=>?_)
 .obtain⟨a,y,us,rss,ys,rfl,_⟩:=h;rfl
 .obtain⟨a,y,us,rss,ys,rfl,ha,hI,hy,hl,hl2,hs,k⟩:=h;refine⟨_,(A4 (A9 (O0 K rfl T.b_all (jaC (B8 (N:=["total"]) (src:=[none]) (E5 K (A6 b (m.mono (by omega)) rfl (jaC (jv 0) (jaC (jv 1) jaN)))) (by show B7 _ _=true;rfl) (by rfl) (by rfl)
 (λ_ _ _ _ _=>(A8 (i:=0) (show(["total"]:List Str).Nodup by decide +kernel) rfl (Or.inl rfl))) (λ_ _ _ _ _=>C4) (λ_ _ _ _ _=>(a6k (jv 0) A5))) jaN)))),?_⟩
  refine⟨_,rfl,_,rfl,a,y,us,rss,ys,rfl,ha,hI,hy,hl,hl2,hs,λv H1 s1 c=>?_⟩;obtain⟨q,rfl,g⟩:=c;refine⟨q,rfl,⟨_,SqT.of g⟩,?_⟩;refine a5v (caps:=[]) (λx=>V.bl (decide (V.int x=V.int 0))) (by rw[ae,<-hI.1];exact hl) (λH' s=>SqT.of (s _ _ g)) rfl (λx H2 n _ _ q=>⟨_,rfl,rfl,q⟩) λH2 p s2 l=>?_;refine⟨false,p,_,rfl,SqL.of A0,?_,?_⟩
  .rw[aJ];intro v c;obtain⟨x,_,rfl⟩:=aL.mp c;rfl
  .have e:((rss.map λr=>dot r ys).map λx=>V.bl (decide (V.int x=V.int 0))).all trV=Ans rss ys:=by
    rw[List.all_map,List.all_map];unfold Ans;congr 1;funext r;show decide (V.int (dot r ys)=V.int 0)=decide (dot r ys=0);simp
   rw[e];exact k _ (s1.trans (s2.upd l))
end
theorem a5l{α β γ:Type}(f:α->β->Int)(g:Int->γ):∀(xs:List α) (ys:List β),List.zipWith (λa b=>g (f a b)) xs ys=(List.zipWith f xs ys).map g
 |[],_=>rfl
 |_::_,[]=>rfl
 |x::xs,y::ys=>by rw[bh,bh,aZ,a5l f g xs ys]
noncomputable def N7(rss:LLI)(ts:List Int)(j:Nat):Int:=(List.zipWith (λt r=>t*r.getD j 0) ts rss).sum
noncomputable def Q8(rss:LLI)(ys:List Int)(j:Nat):Int:=N7 rss (rss.map λr=>dot r ys) j
def Rs(n:Nat)(rss:LLI):Prop:=∀r∈rss,r.length=n/\Sm r
theorem Sm.at{r:List Int}(h:Sm r){j:Nat}(a:j<r.length) : -2 ^ 64<r.getD j 0/\r.getD j 0<2 ^ 64:=by
 refine h _ ?_;rw[aq,aj a];exact cY _
section
variable {P:Program}{w:World}{K:PySem.W.Frag}{mg:Str->Option Value}{base:Heap}
inductive IspPullOf(vs:List V)(H:Hp)(Q:VK)(E:XK):Prop
 |mk (a:Addr) (y:V) (us:List V) (rss:LLI) (ts:List Int) (j n:Nat) (_:vs=[.ref a,y,.int j]) (_:H a=some (.tup us)) (_:Its H us rss) (_:IT H y ts) (_:ts.length<=1000) (_:j<n) (_:n<=1000) (_:Rs n rss) (_:∀H',Same H H'->Q (.int (N7 rss ts j)) H'):IspPullOf  vs H Q E
def a5B:Sp:=λvs H Q E=>IspPullOf  vs H Q E
theorem a6U:FnScope ["rows","totals","j"] ["rows","totals","j"] (A1 Z4):=⟨rfl,rfl,rfl,by decide +kernel,rfl,by decide +kernel,by decide +kernel⟩
theorem a7j(F:FunAt K mg "pull_of" Z4 ["rows","totals","j"])(T:Tx mg):Ok P w K mg base "pull_of" 1 ["rows","totals","j"] a5B:=by
 refine F.okJ a6U (λvs H Q E h=>?_) (λe f A c s H vs Q E d h=>?_)
 .obtain⟨a,y,us,rss,ts,j,n,rfl,_⟩:=h;rfl
 .obtain⟨a,_,us,rss,ts,j,n,rfl,ha,hI,⟨b,rfl,hb⟩,hl,hj,hn,hR,k⟩:=h;refine⟨_,(A4 (A9 (b2q K rfl T.b_sum (jaC (B8 (N:=["total","row","j"]) (src:=[none,none,some 2]) (a2Y K rfl T.b_zip (jaC (jv 1) (jaC (jv 0) jaN))) (by show B7 _ _=true;rfl) (by rfl) (by rfl)
 (λ_ _ _ _ _=>(U0 K 2 (C0 (A8 (i:=0) (show(["total","row","j"]:List Str).Nodup by decide +kernel) rfl (Or.inl rfl)) (C0 (A8 (i:=1) (show(["total","row","j"]:List Str).Nodup by decide +kernel) rfl (Or.inl rfl)) N2)))) (λ_ _ _ _ _=>C4) (λ_ _ _ _ _=>(a3a (jv 0) (L9 K (jv 1) (jv 2))))) jaN)))),?_⟩
  refine⟨_,rfl,_,rfl,true,true,b,a,rfl,⟨_,SqT.of hb⟩,⟨_,SqT.of ha⟩,?_⟩;refine b0A (caps:=[some (.int j)]) (λt r=>V.int (t*r.getD j 0)) hl (λH' s=>⟨sqt (s _ _ hb),sqt (s _ _ ha)⟩) hI rfl (λx v r H1 m _ d l _ q=>?_) λH1 p s g=>?_
  .obtain⟨va,rfl,hva⟩:=l;obtain⟨e1,e2⟩:=hR r d;exact⟨_,rfl,_,rfl,_,rfl,va,_,_,_,rfl,rfl,SqT.of hva,a1u (by omega),_,_,rfl,rfl,.inr (e2.at (by omega)),q⟩
  .rw[a5l (λt r=>t*List.getD r j 0) V.int];exact⟨false,p,_,rfl,SqL.of A0,k _ (s.upd g)⟩
inductive IspFalls(vs:List V)(H:Hp)(Q:VK)(E:XK):Prop
 |mk (a:Addr) (y:V) (us:List V) (rss:LLI) (ys:List Int) (_:vs=[.ref a,y]) (_:H a=some (.tup us)) (_:Its H us rss) (_:IT H y ys) (_:us.length<=1000) (_:ys.length<=1000) (_:Rs ys.length rss) (_:Sm ys) (_:∀v H',Same H H'->IT H' v (((List.range ys.length).filter λj=>decide (Q8 rss ys j<0)).map λ(i:Nat)=>(i:Int))->Q v H'):IspFalls  vs H Q E
def a8k:Sp:=λvs H Q E=>IspFalls  vs H Q E
theorem sc_falls:FnScope ["rows","one","totals"] ["rows","one"] (A1 a2g):=⟨rfl,rfl,rfl,by decide +kernel,rfl,by decide +kernel,by decide +kernel⟩
theorem b2a(F:FunAt K mg "falls" a2g ["rows","one"])(T:Tx mg)(b:Ok P w K mg base "pull_of" 1 ["rows","totals","j"] a5B)(c:Ok P w K mg base "sums" 2 ["rows","one"] a6P):Ok P w K mg base "falls" 3 ["rows","one"] a8k:=by
 refine F.okJ sc_falls (λvs H Q E h=>?_) (λn f A m s H vs Q E e h=>?_)
 .obtain⟨a,y,us,rss,ts,rfl,_⟩:=h;rfl
 .obtain⟨a,y,us,rss,ys,rfl,ha,hI,hy,d,hn,hR,hs,k⟩:=h;refine⟨_,(A2 (B3 (i:=2) sc_falls.nd rfl (Or.inr rfl) (A6 c (e.mono (by omega)) rfl (jaC (jv 0) (jaC (jv 1) jaN))))
 (A4 (A9 (C9 K rfl T.b_tuple (jaC (B8 (N:=["j","rows","totals"]) (src:=[none,some 0,some 2]) (K4 rfl T.b_range (jaC (G7 K rfl T.b_len (jaC (jv 1) jaN)) jaN)) (by show B7 _ _=true;rfl) (by rfl) (by rfl)
 (λ_ _ _ _ _=>(A8 (i:=0) (show(["j","rows","totals"]:List Str).Nodup by decide +kernel) rfl (Or.inl rfl))) (λ_ _ _ _ _=>(a1m (a8C (A6 b (e.mono (by omega)) rfl (jaC (jv 1) (jaC (jv 2) (jaC (jv 0) jaN)))) A5))) (λ_ _ _ _ _=>(jv 0))) jaN))))),?_⟩
  refine⟨_,rfl,_,rfl,a,y,us,rss,ys,rfl,ha,hI,hy,d,λr e=>by rw[(hR r e).1];exact hn,hs,λv H1 s1 t=>?_⟩;dsimp only[B0];obtain⟨x,rfl,g⟩:=hy.same s1;refine⟨_,rfl,x,_,rfl,.inr (SqT.of g),_,rfl,by omega,by rw[ae];omega,?_⟩;rw[bA,ae];refine a7b (caps:=[some (.ref a),some v]) (λj=>decide (Q8 rss ys j<0)) hn rfl (λi H2 B hi s2 q=>?_) λH2 p s2 o=>?_
  .refine⟨_,rfl,_,rfl,_,rfl,a,v,us,rss,_,i,ys.length,rfl,(s1.trans s2) _ _ ha,hI.same (s1.trans s2),t.same s2,by rw[ae,<-hI.1];exact d,hi,hn,hR,λz u=>?_⟩;exact⟨_,_,rfl,rfl,_,rfl,q _ u⟩
  .refine⟨p,_,rfl,.inl ⟨SqL.of A0,λl d=>?_⟩⟩;exact k _ _ (s1.trans ((s2.upd o).upd d)) ⟨l,rfl,A0⟩
end
theorem X9(x y:Int)(xs ys:List Int):dot (x::xs) (y::ys)=x*y+dot xs ys:=by unfold dot;rw[bh,bt]
theorem b2P(ys:List Int):dot [] ys=0:=rfl
theorem a3o:∀(xs:List Int) (n:Nat),dot xs (List.replicate n 0)=0
 |[],_=>rfl
 |_::_,0=>rfl
 |x::xs,n+1=>by rw[cv,X9,a3o xs n];omega
theorem a4h:∀(xs ys:List Int),xs.length=ys.length->dot xs ys=((List.range ys.length).map λj=>xs.getD j 0*ys.getD j 0).sum
 |[],[],_=>rfl
 |x::xs,y::ys,h=>by
  rw[X9,a4h xs ys (by simpa using h),a',List.range_succ_eq_map,aZ,bt,cU];rfl
theorem a8a(l:List Nat)(f g:Nat->Int):(l.map λj=>f j+g j).sum=(l.map f).sum+(l.map g).sum:=by
 induction l with
 |nil=>rfl
 |cons x l a=>simp only[aZ,bt,a];omega
theorem a4u(l:List Nat)(c:Int)(f:Nat->Int):(l.map λj=>c*f j).sum=c*(l.map f).sum:=by
 induction l with
 |nil=>simp
 |cons x l a=>simp only[aZ,bt,a,Int.mul_add]
noncomputable def bump(now:List Int)(j:Nat):List Int:=now.set j (now.getD j 0+1)
noncomputable def Pl(rss:LLI)(now xs:List Int):List Nat:=(List.range xs.length).filter λj=>decide (now.getD j 0<xs.getD j 0) && (Ans rss now || decide (Q8 rss now j<0))
def Under(now xs:List Int):Prop:=now.length=xs.length/\∀j,j<xs.length->now.getD j 0<=xs.getD j 0
theorem C6(a:List Int)(j:Nat):(bump a j).length=a.length:=eV
theorem a7f{rss:LLI}{a xs:List Int}{j:Nat}(h:j∈Pl rss a xs):j<xs.length/\a.getD j 0<xs.getD j 0:=by
 unfold Pl at h;rw[aE,aX,aG,bf]at h;exact⟨h.1,h.2.1⟩
theorem V0(a:List Int)(j k:Nat)(b:j<a.length):(bump a j).getD k 0=if k=j then a.getD j 0+1 else a.getD k 0:=by
 unfold bump;rw[aq,fE];by_cases e:j=k
 .subst e;rw[az rfl,az b,az rfl];rfl
 .rw[ar e,ar (dq e),aq]
theorem Under.bump{rss:LLI}{a xs:List Int}{j:Nat}(h:Under a xs)(b:j∈Pl rss a xs):Under (bump a j) xs:=by
 obtain⟨h1,h2⟩:=a7f b;refine⟨by rw[C6];exact h.1,λk c=>?_⟩;rw[V0 _ _ _ (by rw[h.1];exact h1)];by_cases e:k=j
 .rw[az e,e];omega
 .rw[ar e];exact h.2 k c
theorem a7Y:∀(xs:List Int) (k:Nat) (z:Int),k<xs.length->(xs.set k z).sum=xs.sum-xs.getD k 0+z
 |[],_,_,h=>by simp at h
 |x::xs,0,z,_=>by rw[List.set_cons_zero,bt,bt,List.getD_cons_zero];omega
 |x::xs,k+1,z,h=>by rw[List.set_cons_succ,bt,bt,List.getD_cons_succ,a7Y xs k z (by simpa using h)];omega
theorem a3r(a:List Int)(j:Nat)(h:j<a.length):(bump a j).sum=a.sum+1:=by
 unfold bump;rw[a7Y _ _ _ h];omega
theorem Under.tail{x y:Int}{xs ys:List Int}(h:Under (x::xs) (y::ys)):x<=y/\Under xs ys :=
 ⟨by simpa using h.2 0 (by simp),by simpa using h.1,λj a=>by simpa using h.2 (j+1) (by simpa using a)⟩
theorem Under.sum:∀{xs ys:List Int},Under xs ys->xs.sum<=ys.sum/\(xs≠ys->xs.sum<ys.sum)
 |[],[],_=>⟨eT _,λh=>absurd rfl h⟩
 |[],_::_,h=>by have:=h.1;simp at this
 |_::_,[],h=>by have:=h.1;simp at this
 |x::xs,y::ys,h=>by
  obtain⟨h1,h2⟩:=h.tail;obtain⟨b,a⟩:=Under.sum h2;rw[bt,bt];refine⟨by omega,λne=>?_⟩;by_cases e:xs=ys
  .subst e;have:x≠y:=λq=>ne (by rw[q]);omega
  .have:=a e;omega
theorem Under.ne:∀{xs ys:List Int},Under xs ys->xs≠ys->∃j,j<ys.length/\xs.getD j 0<ys.getD j 0
 |[],[],_,h=>absurd rfl h
 |[],_::_,h,_=>by have:=h.1;simp at this
 |_::_,[],h,_=>by have:=h.1;simp at this
 |x::xs,y::ys,h,ne=>by
  obtain⟨h1,h2⟩:=h.tail;by_cases e:xs=ys
  .subst e;have:x≠y:=λq=>ne (by rw[q]);exact⟨0,by simp,by simp;omega⟩
  .obtain⟨j,q1,q2⟩:=Under.ne h2 e;exact⟨j+1,by simpa using q1,by simpa using q2⟩
theorem b0R(l:List Int)(h:∀x∈l,0<=x):0<=l.sum:=by
 induction l with
 |nil=>exact eT _
 |cons x l b =>
  rw[bt];have:=h x (au ..);have:=b λy a=>h y (av _ a);omega
theorem a7Z(l:List Int)(h:∀x∈l,0<=x)(y:Int)(b:y∈l)(hp:0<y):0<l.sum:=by
 induction l with
 |nil=>cases b
 |cons x l c =>
  rw[bt];have e:=h x (au ..);have d:=b0R l λz a=>h z (av _ a);rcases aD.mp b with q|q
  .omega
  .have:=c (λz a=>h z (av _ a)) q;omega
theorem a1C(t:Int):0<=t*t:=by
 rcases Int.le_total 0 t with h|h
 .exact Int.mul_nonneg h h
 .have:=Int.mul_nonneg (a := -t) (b := -t) (by omega) (by omega);rwa[Int.neg_mul_neg]at this
theorem a2r(ys:List Int):∀(rss:LLI) (a:List Int),(∀r∈rss,r.length=ys.length)->a.length=rss.length ->
  ((List.range ys.length).map λj=>N7 rss a j*ys.getD j 0).sum=(List.zipWith (λt r=>t*dot r ys) a rss).sum
 |[],[],_,_=>by
  have e:((List.range ys.length).map λj=>N7 [] [] j*ys.getD j 0)=(List.range ys.length).map λj=>0*ys.getD j 0:=rfl;rw[e,a4u,Int.zero_mul];rfl
 |[],_::_,_,h=>by simp at h
 |_::_,[],_,h=>by simp at h
 |r::rss,t::a,h,b=>by
  have d:=a2r ys rss a (λq c=>h q (av _ c)) (by simpa using b);rw[bh,bt,<-d];have e:(λj=>N7 (r::rss) (t::a) j*ys.getD j 0)=λj=>t*(r.getD j 0*ys.getD j 0)+N7 rss a j*ys.getD j 0:=by
   funext j;unfold N7;rw[bh,bt,Int.add_mul,Int.mul_assoc]
  rw[e,a8a,a4u,<-a4h r ys (h r (au ..))]
theorem a8d:∀(rss:LLI) (a xs:List Int),Ans rss xs=true->(List.zipWith (λt r=>t*dot r xs) (rss.map λr=>dot r a) rss).sum=0
 |[],_,_,_=>rfl
 |r::rss,a,xs,h=>by
  unfold Ans at h;rw[cX,aG,bf]at h;rw[aZ,bh,bt,h.1,a8d rss a xs h.2];omega
theorem b5X(rss:LLI)(a:List Int)(h:Ans rss a=false):0<(List.zipWith (λt r=>t*dot r a) (rss.map λr=>dot r a) rss).sum:=by
 have e:List.zipWith (λt r=>t*dot r a) (rss.map λr=>dot r a) rss=rss.map λr=>dot r a*dot r a:=by
  clear h;induction rss with
  |nil=>rfl
  |cons r rss f=>rw[aZ,bh,aZ,f]
 rw[e];have:∃r∈rss,dot r a≠0:=by
  refine bN λq=>?_;have:Ans rss a=true:=by
   unfold Ans;rw[aJ];intro r c;rw[bf];exact bN λz=>q ⟨r,c,z⟩
  rw[this]at h;cases h
 obtain⟨r,c,b⟩:=this;refine a7Z _ (λx d=>?_) (dot r a*dot r a) (aL.mpr ⟨r,c,rfl⟩) ?_
 .obtain⟨q,_,rfl⟩:=aL.mp d;exact a1C _
 .have h1:=a1C (dot r a);have h2:dot r a*dot r a≠0:=λz=>by
   rcases Int.mul_eq_zero.mp z with q|q<;>exact b q
  omega
theorem b5x(rss:LLI)(a xs:List Int)(hR:∀r∈rss,r.length=xs.length)(c:Under a xs)(h:a≠xs)(m:Ans rss xs=true):Pl rss a xs≠[]:=by
 intro b;unfold Pl at b;rw[List.filter_eq_nil_iff]at b;cases d:Ans rss a with
 |true =>
  obtain⟨j,h1,h2⟩:=c.ne h;refine b j (aX.mpr h1) ?_;rw[d,aG,bf];exact⟨h2,rfl⟩
 |false =>
  have p1:=a2r a rss (rss.map λr=>dot r a) (λr o=>by rw[hR r o,c.1]) (by simp);have p2:=a2r xs rss (rss.map λr=>dot r a) hR (by simp);have w:=b5X rss a d;have u:=a8d rss a xs m;rw[c.1]at p1;have v:((List.range xs.length).map λj=>N7 rss (rss.map λr=>dot r a) j*a.getD j 0+(-1)*(N7 rss (rss.map λr=>dot r a) j*xs.getD j 0)).sum<=0:=by
   have hs:∀(l:List Int),(∀x∈l,x<=0)->l.sum<=0:=λl k=>by
    induction l with
    |nil=>exact eT _
    |cons x l t =>
     rw[bt];have:=k x (au ..);have:=t λy s=>k y (av _ s);omega
   refine hs _ λx p=>?_;obtain⟨j,i,rfl⟩:=aL.mp p;have f:=aX.mp i;have n:=c.2 j f;have e:N7 rss (rss.map λr=>dot r a) j*a.getD j 0+(-1)*(N7 rss (rss.map λr=>dot r a) j*xs.getD j 0) = -(N7 rss (rss.map λr=>dot r a) j*(xs.getD j 0-a.getD j 0)):=by
    rw[Int.mul_sub];omega
   rw[e];by_cases g:a.getD j 0<xs.getD j 0
   .have hp:0<=N7 rss (rss.map λr=>dot r a) j:=by
     have q:=b j i;rw[d]at q;have A:¬Q8 rss a j<0:=λz=>q (by simp only[dj,aG,bf];exact⟨g,z⟩);show 0<=Q8 rss a j;omega
    have:=Int.mul_nonneg hp (show 0<=xs.getD j 0-a.getD j 0 by omega);omega
   .have:xs.getD j 0-a.getD j 0=0:=by omega
    rw[this,Int.mul_zero];exact eT _
  rw[a8a,a4u,p1,p2,u]at v;omega
section
variable {P:Program}{w:World}{K:PySem.W.Frag}{mg:Str->Option Value}{base:Heap}
inductive IspBelow(vs:List V)(H:Hp)(Q:VK)(E:XK):Prop
 |mk (x:_) (y:_) (xs:_) (ys:_) (_:vs=[x,y]) (_:IT H x xs) (_:IT H y ys) (_:xs.length<=1000) (_:∀H',Same H H'->Q (.bl (Bel xs ys)) H'):IspBelow  vs H Q E
def a2b:Sp:=λvs H Q E=>IspBelow  vs H Q E
theorem b1j:FnScope ["one","other"] ["one","other"] (A1 a2h):=⟨rfl,rfl,rfl,by decide +kernel,rfl,by decide +kernel,by decide +kernel⟩
theorem b2c(F:FunAt K mg "below" a2h ["one","other"])(T:Tx mg):Ok P w K mg base "below" 1 ["one","other"] a2b:=by
 refine F.okJ b1j (λvs H Q E h=>?_) (λd f A c s H vs Q E l h=>?_)
 .obtain⟨x,y,xs,ys,rfl,_⟩:=h;rfl
 .obtain⟨_,_,xs,ys,rfl,⟨a,rfl,ha⟩,⟨b,rfl,hb⟩,hl,k⟩:=h;refine⟨_,(A4 (A9 (O0 K rfl T.b_all (jaC (B8 (N:=["a","b"]) (src:=[none,none]) (a2Y K rfl T.b_zip (jaC (jv 0) (jaC (jv 1) jaN))) (by show B7 _ _=true;rfl) (by rfl) (by rfl)
 (λ_ _ _ _ _=>(U0 K 2 (C0 (A8 (i:=0) (show(["a","b"]:List Str).Nodup by decide +kernel) rfl (Or.inl rfl)) (C0 (A8 (i:=1) (show(["a","b"]:List Str).Nodup by decide +kernel) rfl (Or.inl rfl)) N2)))) (λ_ _ _ _ _=>C4) (λ_ _ _ _ _=>(b5E (jv 0) (jv 1)))) jaN)))),?_⟩
  refine⟨_,rfl,_,rfl,true,true,a,b,rfl,⟨_,SqT.of ha⟩,⟨_,SqT.of hb⟩,?_⟩;refine b0C (caps:=[]) (λx y=>V.bl (decide (x<=y))) (sqt ha) (sqt hb) hl (λH' s=>⟨sqt (s _ _ ha),sqt (s _ _ hb)⟩) rfl (λx y H1 j _ q=>⟨_,rfl,_,rfl,_,_,rfl,rfl,q⟩) λH1 p s e=>?_;refine⟨false,p,_,rfl,SqL.of A0,?_,?_⟩
  .rw[aJ];intro v g;obtain⟨i,hi,rfl⟩:=cn.mp g;rw[List.getElem_zipWith];rfl
  .rw[b7E];exact k _ (s.upd e)
inductive IspUnit(vs:List V)(H:Hp)(Q:VK)(E:XK):Prop
 |mk (wd:Int) (n j:Nat) (_:vs=[.int wd,.int j]) (_:wd=n) (_:n<=1000) (_:j<n) (_:∀v H',Same H H'->IT H' v ((List.range n).map λi=>if i=j then 1 else 0)->Q v H'):IspUnit  vs H Q E
def b0T:Sp:=λvs H Q E=>IspUnit  vs H Q E
theorem b3F:FnScope ["width","j"] ["width","j"] (A1 a4K):=⟨rfl,rfl,rfl,by decide +kernel,rfl,by decide +kernel,by decide +kernel⟩
theorem b4w(F:FunAt K mg "unit" a4K ["width","j"])(T:Tx mg):Ok P w K mg base "unit" 1 ["width","j"] b0T:=by
 refine F.okJ b3F (λvs H Q E h=>?_) (λc f A b s H vs Q E o h=>?_)
 .obtain⟨_,n,j,rfl,_⟩:=h;rfl
 .obtain⟨_,n,j,rfl,rfl,hn,hj,k⟩:=h;refine⟨_,(A4 (A9 (C9 K rfl T.b_tuple (jaC (B8 (N:=["k","j"]) (src:=[none,some 1]) (K4 rfl T.b_range (jaC (jv 0) jaN)) (by show B7 _ _=true;rfl) (by rfl) (by rfl)
 (λ_ _ _ _ _=>(A8 (i:=0) (show(["k","j"]:List Str).Nodup by decide +kernel) rfl (Or.inl rfl))) (λ_ _ _ _ _=>C4) (λ_ _ _ _ _=>(b8q (a1H (jv 0) (jv 1)) A5 A5))) jaN)))),?_⟩
  refine⟨_,rfl,n,rfl,by omega,by omega,?_⟩;rw[bA];refine a7a (caps:=[some (.int j)]) (λi=>V.int (if i=j then 1 else 0)) hn rfl (λi H1 m hi _ q=>?_) λH1 p s g=>?_
  .refine⟨_,rfl,_,rfl,rfl,_,rfl,a0y (λe=>?_) (λe=>?_)⟩
   .have e1:(i:Int)=(j:Int):=by simpa using e
    have a:i=j:=by omega
    rw[az a]at q;exact q
   .have e1:¬(i:Int)=(j:Int):=by simpa using e
    have a:i≠j:=by omega
    rw[ar a]at q;exact q
  .rw[show((List.range n).map λi=>V.int (if i=j then 1 else 0))=((List.range n).map λi=>if i=j then(1:Int)else 0).map V.int by rw[cU];rfl];refine⟨p,_,rfl,.inl ⟨SqL.of A0,λl d=>?_⟩⟩;exact k _ _ ((s.upd g).upd d) ⟨l,rfl,A0⟩
noncomputable def cV:Option Int->V
 |none=>.non
 |some c=>.int c
noncomputable def a3E(c:Option Int)(x:Int):Bool:=match c with|none=>true|some c=>decide (x<=c)
noncomputable def Wi(cs:List (Option Int))(xs:List Int):Bool:=(List.zipWith a3E cs xs).all id
theorem b7G(cs:List (Option Int))(xs:List Int):(List.zipWith (λc x=>V.bl (a3E c x)) cs xs).all trV=Wi cs xs:=by
 unfold Wi;induction cs generalizing xs with
 |nil=>rfl
 |cons c cs a =>
  cases xs with
  |nil=>rfl
  |cons x xs=>rw[bh,bh,cX,cX,a];rfl
inductive IspWithin(vs:List V)(H:Hp)(Q:VK)(E:XK):Prop
 |mk (a b:Addr) (cs:List (Option Int)) (xs:List Int) (_:vs=[.ref a,.ref b]) (_:H a=some (.tup (cs.map cV))) (_:H b=some (.tup (xs.map V.int))) (_:cs.length<=1000) (_:∀H',Same H H'->Q (.bl (Wi cs xs)) H'):IspWithin  vs H Q E
def a2t:Sp:=λvs H Q E=>IspWithin  vs H Q E
theorem a9p:FnScope ["caps","one"] ["caps","one"] (A1 a0H):=⟨rfl,rfl,rfl,by decide +kernel,rfl,by decide +kernel,by decide +kernel⟩
theorem a3U(F:FunAt K mg "within" a0H ["caps","one"])(T:Tx mg):Ok P w K mg base "within" 1 ["caps","one"] a2t:=by
 refine F.okJ a9p (λvs H Q E h=>?_) (λe f A d s H vs Q E m h=>?_)
 .obtain⟨a,b,cs,xs,rfl,_⟩:=h;rfl
 .obtain⟨a,b,cs,xs,rfl,ha,hb,hl,k⟩:=h;refine⟨_,(A4 (A9 (O0 K rfl T.b_all (jaC (B8 (N:=["cap","number"]) (src:=[none,none]) (a2Y K rfl T.b_zip (jaC (jv 0) (jaC (jv 1) jaN))) (by show B7 _ _=true;rfl) (by rfl) (by rfl)
 (λ_ _ _ _ _=>(U0 K 2 (C0 (A8 (i:=0) (show(["cap","number"]:List Str).Nodup by decide +kernel) rfl (Or.inl rfl)) (C0 (A8 (i:=1) (show(["cap","number"]:List Str).Nodup by decide +kernel) rfl (Or.inl rfl)) N2)))) (λ_ _ _ _ _=>C4) (λ_ _ _ _ _=>(b8o (b7a (jv 0) V3) (a0S (b5E (jv 1) (jv 0)))))) jaN)))),?_⟩
  refine⟨_,rfl,_,rfl,true,true,a,b,rfl,⟨_,SqT.of ha⟩,⟨_,SqT.of hb⟩,?_⟩;refine b3m (caps:=[]) cV V.int (λc x=>V.bl (a3E c x)) hl (λH' s=>⟨sqt (s _ _ ha),sqt (s _ _ hb)⟩) rfl (λc x H1 l _ _ _ q=>?_) λH1 p s g=>?_
  .cases c with
   |none=>exact⟨_,rfl,rfl,true,rfl,G1 (q _ (Same.refl _))⟩
   |some c=>exact⟨_,rfl,rfl,false,rfl,D6 ⟨_,rfl,_,rfl,_,_,rfl,rfl,q _ (Same.refl _)⟩⟩
  refine⟨false,p,_,rfl,SqL.of A0,?_,?_⟩
  .rw[aJ];intro v j;obtain⟨i,hi,rfl⟩:=cn.mp j;rw[List.getElem_zipWith];rfl
  .rw[b7G];exact k _ (s.upd g)
end
noncomputable def I0(n j:Nat):List Int:=(List.range n).map λi=>if i=j then(1:Int)else 0
noncomputable def E6(cs:List (Option Int)):LLI:=((List.range cs.length).map (I0 cs.length)).filter λu=>Wi cs u
noncomputable def a4k(c:Option Int)(x:Int):Bool:=match c with|none=>true|some c=>decide (x<c)
noncomputable def StP(rss:LLI)(cs:List (Option Int))(ys:List Int):List Nat:=((List.range ys.length).filter λj=>decide (Q8 rss ys j<0)).filter λj=>a4k (cs.getD j none) (ys.getD j 0)
section
variable {P:Program}{w:World}{K:PySem.W.Frag}{mg:Str->Option Value}{base:Heap}
inductive IspFirst(vs:List V)(H:Hp)(Q:VK)(E:XK):Prop
 |mk (a:Addr) (cs:List (Option Int)) (_:vs=[.ref a]) (_:H a=some (.tup (cs.map cV))) (_:1<=cs.length) (_:cs.length<=100) (_:∀p zs tss H',Same H H'->H' p=some (.tup zs)->Its H' zs tss->tss.Perm (E6 cs)->C3 tss->Q (.ref p) H'):IspFirst  vs H Q E
def a4A:Sp:=λvs H Q E=>IspFirst  vs H Q E
theorem sc_first_steps:FnScope ["caps","units"] ["caps"] (A1 K6):=⟨rfl,rfl,rfl,by decide +kernel,rfl,by decide +kernel,by decide +kernel⟩
theorem a2J(F:FunAt K mg "first_steps" K6 ["caps"])(T:Tx mg)(c:Ok P w K mg base "unit" 1 ["width","j"] b0T)(b:Ok P w K mg base "within" 1 ["caps","one"] a2t):Ok P w K mg base "first_steps" 2 ["caps"] a4A:=by
 refine F.okJ sc_first_steps (λvs H Q E h=>?_) (λS f A J s H vs Q E n h=>?_)
 .obtain⟨a,cs,rfl,_⟩:=h;rfl
 .obtain⟨a,cs,rfl,ha,h1,h2,k⟩:=h;have X:(3000:Nat)<=sizeLine:=by rw[a_];decide
  refine⟨_,(A2 (a4V (i:=1) sc_first_steps.nd rfl (Or.inl rfl) (N:=["j","caps"]) (src:=[none,some 0]) (K4 rfl T.b_range (jaC (G7 K rfl T.b_len (jaC (jv 0) jaN)) jaN)) (by show B7 _ _=true;rfl) (by rfl) (by rfl)
 (λ_ _ _ _ _=>(A8 (i:=0) (show(["j","caps"]:List Str).Nodup by decide +kernel) rfl (Or.inl rfl))) (λ_ _ _ _ _=>C4) (λ_ _ _ _ _=>(A6 c (n.mono (by omega)) rfl (jaC (G7 K rfl T.b_len (jaC (jv 1) jaN)) (jaC (jv 0) jaN)))))
 (A4 (A9 (C9 K rfl T.b_tuple (jaC (a0R K rfl T.b_sorted (jaC (B8 (N:=["one","caps"]) (src:=[none,some 0]) (J9 K (jv 1)) (by show B7 _ _=true;rfl) (by rfl) (by rfl)
 (λ_ _ _ _ _=>(A8 (i:=0) (show(["one","caps"]:List Str).Nodup by decide +kernel) rfl (Or.inl rfl))) (λ_ _ _ _ _=>(a1m (D4 K (A6 b (n.mono (by omega)) rfl (jaC (jv 1) (jaC (jv 0) jaN)))))) (λ_ _ _ _ _=>(jv 0))) jaN)) jaN))))),?_⟩
  refine⟨_,rfl,a,_,rfl,.inr (SqT.of ha),_,rfl,by rw[ae];omega,by rw[ae];omega,?_⟩;rw[bA,ae];refine a0M (caps:=[some (.ref a)]) (by omega) rfl (λi ys H'=>Same H H'/\Its H' ys ((List.range i).map (I0 cs.length))) ⟨Same.refl H,.nil⟩ (λi ys H' h=>by rw[h.2.1];simp) ?_ ?_
  .rintro i ys H' hi ⟨s',hI⟩;refine⟨_,rfl,a,_,rfl,.inr (SqT.of (s' _ _ ha)),_,rfl,_,cs.length,i,rfl,by rw[ae],by omega,hi,λv H2 s2 I=>⟨s'.trans s2,?_⟩⟩;rw[List.range_succ,bz];exact(hI.same s2).snoc I
  .rintro ys H' ⟨s',hI⟩ p hp;dsimp only[B0];have s1:=s'.upd (o:=.lst ys) hp;have e:=hI.same ((Same.refl H').upd (o:=.lst ys) hp);have e1:upd H' p (.lst ys) p=some (.lst ys):=A0;generalize upd H' p (.lst ys)=H1 at s1 e e1;refine⟨_,rfl,p,rfl,⟨_,SqL.of e1⟩,?_⟩;have U:ys.length=cs.length:=by rw[hI.1];simp
   refine a2P (caps:=[some (.ref a)]) (λu=>Wi cs u) (by omega) (λH2 s2=>SqL.of (s2 _ _ e1)) e rfl (λv r H2 W n I s2 q=>?_) λH2 p2 d s2 m y=>?_
   .obtain⟨va,rfl,hva⟩:=I;exact⟨_,rfl,_,rfl,a,va,cs,r,rfl,(s1.trans s2) _ _ ha,hva,by omega,λt x=>⟨Wi cs r,rfl,q t x⟩⟩
   have x:=(s1.trans s2).upd (o:=.lst d) m;have g:=y.same ((Same.refl H2).upd (o:=.lst d) m);have M:upd H2 p2 (.lst d) p2=some (.lst d):=A0;generalize upd H2 p2 (.lst d)=t at x g M;refine⟨p2,d,_,rfl,.inl (SqL.of M),g,λr n=>?_,λl zs L B z D G _=>?_⟩
   .obtain⟨j,_,rfl⟩:=aL.mp (aE.mp n).1;simp[I0];omega
   refine⟨l,_,rfl,.inl ⟨SqL.of A0,λV C=>?_⟩⟩;have O:=(Same.refl t).upd (o:=.lst zs) B;have R:=(Same.refl (upd t l (.lst zs))).upd (o:=.tup zs) C;exact k V zs L _ ((x.trans O).trans R) A0 ((z.same O).same R) D G
inductive IspRaised(vs:List V)(H:Hp)(Q:VK)(E:XK):Prop
 |mk (y:V) (ys:List Int) (j:Nat) (_:vs=[y,.int j]) (_:IT H y ys) (_:j<ys.length) (_:ys.length<=1000) (_:∀v H',Same H H'->IT H' v (bump ys j)->Q v H'):IspRaised  vs H Q E
def a5A:Sp:=λvs H Q E=>IspRaised  vs H Q E
theorem a9q:FnScope ["one","j"] ["one","j"] (A1 a0I):=⟨rfl,rfl,rfl,by decide +kernel,rfl,by decide +kernel,by decide +kernel⟩
theorem a9I(F:FunAt K mg "raised" a0I ["one","j"]):Ok P w K mg base "raised" 1 ["one","j"] a5A:=by
 refine F.okJ a9q (λvs H Q E h=>?_) (λc f A b s H vs Q E d h=>?_)
 .obtain⟨y,ys,j,rfl,_⟩:=h;rfl
 .obtain⟨_,ys,j,rfl,⟨a,rfl,ha⟩,hj,hl,k⟩:=h;refine⟨_,(A4 (A9 (G5 (G5 (a8H K (jv 0) L7 (L6 (jv 1))) (X2 (jaC (Q0 (L9 K (jv 0) (jv 1)) A5) jaN))) (a8H K (jv 0) (L6 (Q0 (jv 1) A5)) L7)))),?_⟩;exact b6f (i:=0) (j:=1) (a:=a) (xs:=ys) (k:=j) (z:=ys.getD j 0+1) rfl rfl ha hj hl (λH' N s' q=>⟨_,rfl,_,rfl,a,_,_,_,rfl,rfl,SqT.of (s' _ _ ha),a1u hj,_,_,rfl,rfl,q⟩) k
inductive IspSteps(vs:List V)(H:Hp)(Q:VK)(E:XK):Prop
 |mk (a c:Addr) (y:V) (us:List V) (rss:LLI) (cs:List (Option Int)) (ys:List Int) (_:vs=[.ref a,.ref c,y]) (_:H a=some (.tup us)) (_:Its H us rss) (_:H c=some (.tup (cs.map cV))) (_:IT H y ys) (_:us.length<=1000) (_:ys.length<=100) (_:cs.length=ys.length) (_:Rs ys.length rss) (_:Sm ys) (_:∀p ps H',Same H H'->H' p=some (.lst ps)->Prs H' ps (bump ys) (StP rss cs ys)->Q (.ref p) H'):IspSteps  vs H Q E
def a4w:Sp:=λvs H Q E=>IspSteps  vs H Q E
theorem b2W{cs:List (Option Int)}{j:Nat}(h:j<cs.length):atI (cs.map cV) (j:Int)=some (cV (cs.getD j none)):=by
 refine a2m ?_;rw[ba,aj h];simp[aq,h]
theorem sc_steps:FnScope ["rows","caps","one","places"] ["rows","caps","one"] (A1 a2c):=⟨rfl,rfl,rfl,by decide +kernel,rfl,by decide +kernel,by decide +kernel⟩
theorem b1T(F:FunAt K mg "steps" a2c ["rows","caps","one"])(T:Tx mg)(d:Ok P w K mg base "falls" 3 ["rows","one"] a8k)(b:Ok P w K mg base "raised" 1 ["one","j"] a5A):Ok P w K mg base "steps" 4 ["rows","caps","one"] a4w:=by
 refine F.okJ sc_steps (λvs H Q E h=>?_) (λO f A D s H vs Q E J h=>?_)
 .obtain⟨a,c,y,us,rss,cs,ys,rfl,_⟩:=h;rfl
 .obtain⟨a,c,_,us,rss,cs,ys,rfl,ha,hI,hc,⟨y,rfl,hy⟩,hl,hn,hcl,hR,hs,k⟩:=h;have X:(3000:Nat)<=sizeLine:=by rw[a_];decide
  refine⟨_,(A2 (a4V (i:=3) sc_steps.nd rfl (Or.inl rfl) (N:=["j","caps","one"]) (src:=[none,some 1,some 2]) (E5 K (A6 d (J.mono (by omega)) rfl (jaC (jv 0) (jaC (jv 2) jaN)))) (by show B7 _ _=true;rfl) (by rfl) (by rfl)
 (λ_ _ _ _ _=>(A8 (i:=0) (show(["j","caps","one"]:List Str).Nodup by decide +kernel) rfl (Or.inl rfl))) (λ_ _ _ _ _=>(a1m (a1S (a2W (a4U (L9 K (jv 1) (jv 0)) V3) (a1k (a8C (L9 K (jv 2) (jv 0)) (L9 K (jv 1) (jv 0)))))))) (λ_ _ _ _ _=>(jv 0)))
 (A4 (A9 (B8 (N:=["j","one"]) (src:=[none,some 2]) (J9 K (jv 3)) (by show B7 _ _=true;rfl) (by rfl) (by rfl)
 (λ_ _ _ _ _=>(A8 (i:=0) (show(["j","one"]:List Str).Nodup by decide +kernel) rfl (Or.inl rfl))) (λ_ _ _ _ _=>C4) (λ_ _ _ _ _=>(X2 (jaC (jv 0) (jaC (A6 b (J.mono (by omega)) rfl (jaC (jv 1) (jaC (jv 0) jaN))) jaN)))))))),?_⟩
  refine⟨_,rfl,_,rfl,a,_,us,rss,ys,rfl,ha,hI,⟨y,rfl,hy⟩,hl,by omega,hR,hs,λv H1 s1 C=>?_⟩;obtain⟨U,rfl,hva⟩:=C;refine⟨U,rfl,⟨_,SqT.of hva⟩,?_⟩;rw[cU]at hva;have m:∀j∈(List.range ys.length).filter (λj=>decide (Q8 rss ys j<0)),j<ys.length:=λj g=>aX.mp (aE.mp g).1;have r:((List.range ys.length).filter (λj=>decide (Q8 rss ys j<0))).length<=ys.length:=bj (bB _ _) (by simp);refine a9h (caps:=[some (.ref c),some (.ref y)]) (λ(j:Nat)=>V.int j) (λj=>a4k (cs.getD j none) (ys.getD j 0)) (by omega) (λH' s=>SqT.of (s _ _ hva)) rfl (λj H2 W g s2 q=>?_) λH2 p2 s2 t=>?_
  .have hj':=m j g;refine⟨_,rfl,_,rfl,c,_,_,_,rfl,rfl,SqT.of ((s1.trans s2) _ _ hc),b2W (by omega),rfl,_,rfl,?_⟩;cases e:cs.getD j none with
   |none =>
    rw[e]at q;exact G1 (q _ (Same.refl _))
   |some z =>
    rw[e]at q;refine D6 ⟨_,rfl,_,rfl,y,_,_,_,rfl,rfl,SqT.of ((s1.trans s2) _ _ hy),a1u hj',_,rfl,_,rfl,c,_,_,_,rfl,rfl,SqT.of ((s1.trans s2) _ _ hc),b2W (by omega),?_⟩;rw[e];exact⟨_,_,rfl,rfl,_,rfl,q _ (Same.refl _)⟩
  have G:=(s1.trans s2).upd (o:=.lst ((StP rss cs ys).map λ(j:Nat)=>V.int j)) t;have p:upd H2 p2 (.lst ((StP rss cs ys).map λ(j:Nat)=>V.int j)) p2=some (.lst ((StP rss cs ys).map λ(j:Nat)=>V.int j)):=A0;have B:∀j∈StP rss cs ys,j<ys.length:=λj g=>m j (aE.mp g).1;have S:(StP rss cs ys).length<=ys.length:=bj (bB _ _) r;have R:((List.range ys.length).filter λj=>decide (Q8 rss ys j<0)).filter (λj=>a4k (cs.getD j none) (ys.getD j 0))=StP rss cs ys:=rfl;rw[R];dsimp only[B0];generalize upd H2 p2 (.lst ((StP rss cs ys).map λ(j:Nat)=>V.int j))=I at G p;refine⟨_,rfl,p2,rfl,⟨_,SqL.of p⟩,?_⟩;refine a0j (xs:=(StP rss cs ys).map λ(j:Nat)=>V.int j) (by rw[ae];omega) (λi qs H'=>Same I H'/\Prs H' qs (bump ys) ((StP rss cs ys).take i)) ⟨Same.refl I,Prs.nil⟩ (λi qs H' _ h=>⟨SqL.of (h.1 _ _ p),by rw[h.2.1];exact bI _ _⟩) ?_ ?_
  .rintro i x qs H' hx ⟨s',hP⟩;rw[ba]at hx;cases n:(StP rss cs ys)[i]? with
   |none=>rw[n]at hx;cases hx
   |some j =>
    rw[n]at hx;cases hx;have g:=B j (aI n);refine⟨Sub.one,_,rfl,_,rfl,_,rfl,_,ys,j,rfl,⟨y,rfl,(G.trans s') _ _ hy⟩,g,by omega,λv M L C=>?_⟩;refine⟨by show 2<=sizeLine;omega,λY u=>?_⟩;have l:=(Same.refl M).upd (o:=.tup [.int j,v]) u;refine⟨(s'.trans L).trans l,?_⟩;rw[bu,n];exact((hP.same L).same l).snoc A0 (C.same l)
  .rintro qs H' ⟨s',hP⟩ p4 hp4;rw[ae,bx]at hP;have l:=(Same.refl H').upd (o:=.lst qs) hp4;exact k p4 qs _ ((G.trans s').trans l) A0 (hP.same l)
noncomputable def Bar(fss:LLI)(ys:List Int)(j:Nat):Bool:=fss.any λf=>decide (f.getD j 0=ys.getD j 0) && Bel f ys
inductive IspBarred(vs:List V)(H:Hp)(Q:VK)(E:XK):Prop
 |mk (l:Addr) (y:V) (fs:List V) (fss:LLI) (ys:List Int) (j:Nat) (_:vs=[.ref l,y,.int j]) (_:H l=some (.lst fs)) (_:Its H fs fss) (_:IT H y ys) (_:j<ys.length) (_:ys.length<=1000) (_:(∀f∈fss,f.length=ys.length)) (_:∀H',Same H H'->Q (.bl (Bar fss ys j)) H'):IspBarred  vs H Q E
def a5F:Sp:=λvs H Q E=>IspBarred  vs H Q E
theorem sc_is_barred:FnScope ["found","one","j","answer"] ["found","one","j"] (A1 O9):=⟨rfl,rfl,rfl,by decide +kernel,rfl,by decide +kernel,by decide +kernel⟩
theorem a4Q(F:FunAt K mg "is_barred" O9 ["found","one","j"])(T:Tx mg)(b:Ok P w K mg base "below" 1 ["one","other"] a2b):Ok P w K mg base "is_barred" 2 ["found","one","j"] a5F:=by
 refine F.okJ sc_is_barred (λvs H Q E h=>?_) (λu f A q s H vs Q E m h=>?_)
 .obtain⟨l,y,fs,fss,ys,j,rfl,_⟩:=h;rfl
 .obtain⟨l,_,fs,fss,ys,j,rfl,hl,hI,⟨y,rfl,hy⟩,hj,hn,hL,k⟩:=h;refine⟨_,(A2 (N9 (J9 K (jv 0)) (A8 (i:=3) sc_is_barred.nd rfl (Or.inl rfl))
 (A4 (D5 (a1S (a1l (a1H (L9 K (jv 3) (jv 2)) (L9 K (jv 1) (jv 2))) (a0d (D4 K (A6 b (m.mono (by omega)) rfl (jaC (jv 3) (jaC (jv 1) jaN)))))))
 (A4 (A9 M0))
 C1)))
 (A4 (A9 M0))),?_⟩
  refine⟨_,rfl,l,rfl,⟨_,SqL.of hl⟩,?_⟩;refine S5 (K:=K) (a:=l) (xs:=fs) (λi σ H'=>Ex1 λo=>An3 (σ=[some (.ref l),some (.ref y),some (.int j),o]) (Same H H') (Bar (fss.take i) ys j=false)) ⟨none,rfl,Same.refl H,rfl⟩ (λi σ H' _ ⟨_,_,s',_⟩=>SqL.of (s' _ _ hl)) ?_ ?_
  .rintro i x σ H' hx ⟨o,rfl,s',hB⟩;obtain⟨r,m,n,p⟩:=hI.mem hx;obtain⟨t,rfl,g⟩:=p.same s';have z:=hL r m;have d:Bar (fss.take (i+1)) ys j=(decide (r.getD j 0=ys.getD j 0) && Bel r ys):=by
    unfold Bar at hB⊢;rw[bu,n,List.any_append,hB];simp
   have c:(decide (r.getD j 0=ys.getD j 0) && Bel r ys)=true->Bar fss ys j=true:=λe=>by
    unfold Bar;rw[bD];exact⟨r,m,e⟩
   dsimp only[B0];refine⟨_,rfl,_,rfl,t,_,_,_,rfl,rfl,SqT.of g,a1u (by omega),_,rfl,_,rfl,y,_,_,_,rfl,rfl,SqT.of (s' _ _ hy),a1u hj,rfl,_,rfl,?_⟩;have v:decide (V.int (r.getD j 0)=V.int (ys.getD j 0))=decide (r.getD j 0=ys.getD j 0):=by simp
   rw[v];cases e:decide (r.getD j 0=ys.getD j 0)with
   |false =>
    rw[e]at d;refine D6 (D6 ?_);exact⟨_,rfl,s',d⟩
   |true =>
    rw[e]at d c;refine G1 ⟨_,rfl,_,rfl,_,_,r,ys,rfl,⟨t,rfl,g⟩,⟨y,rfl,s' _ _ hy⟩,by omega,λH2 s2=>⟨_,rfl,?_⟩⟩;cases e2:Bel r ys with
    |false =>
     rw[e2]at d;exact D6 ⟨_,rfl,s'.trans s2,d⟩
    |true =>
     rw[e2]at c;refine G1 ?_;have:=k H2 (s'.trans s2);rw[c rfl]at this;exact this
  .rintro σ H' ⟨o,rfl,s',hB⟩;rw[hI.1,bx]at hB;have:=k H' s';rw[hB]at this;exact this
end
def S7(rss:LLI)(cs:List (Option Int))(F:LLI)(u v:List Int):Prop:=∃j,j∈StP rss cs u/\v=bump u j/\Bar F v j=false
theorem b4R{a b:List Int}(h:a.map (Sum.inl:Int->Key)=b.map Sum.inl):a=b:=by
 induction a generalizing b with
 |nil=>cases b with|nil=>rfl|cons _ _=>cases h
 |cons x a c =>
  cases b with
  |nil=>cases h
  |cons y b =>
   injection h with h1 h2
   injection h1 with h1
   rw[h1,c h2]
theorem a2U{kvs:List (List Key×V)}{a:LLI}{r:List Int}(e:kvs.map (·.1)=IK a):R5 kvs (r.map Sum.inl)=none↔r∉a:=by
 constructor
 .intro h hm;refine b0I h ?_;rw[e];exact aL.mpr ⟨r,hm,rfl⟩
 .intro h;cases c:R5 kvs (r.map Sum.inl)with
  |none=>rfl
  |some v =>
   have:=b3r c;rw[e]at this;obtain⟨q,b,e2⟩:=aL.mp this;exact absurd (b4R e2 ▸ b) h
theorem a6i{kvs:List (List Key×V)}{a:LLI}{r:List Int}(e:kvs.map (·.1)=IK a):(R5 kvs (r.map Sum.inl)).isSome=decide (r∈a):=by
 by_cases h:r∈a
 .rw[bg h];cases b:R5 kvs (r.map Sum.inl)with
  |none=>exact absurd h ((a2U e).mp b)
  |some v=>rfl
 .rw[bL h,(a2U e).mpr h];rfl
theorem a7r(r:List Int):(r.map (Sum.inl:Int->Key)).map kV=r.map V.int:=by rw[cU];rfl
theorem b4Q{H H':Hp}{vs:List V}{rss:LLI}{d:Addr}{kvs:List (List Key×V)}(h:Its H vs rss)(hd:H d=some (.dT kvs))(o:Off [d] H H'):Its H' vs rss :=
 ⟨h.1,λi v e=>let ⟨r,e1,a,e2,q⟩:=h.2 i v e;⟨r,e1,a,e2,o _ _ (by simpa using K0 q hd (by intro z;cases z)) q⟩⟩
theorem a2A{H H1 H2:Hp}{a:Addr}(s:Same H H1)(c:H a=none)(o:Off [a] H1 H2):Same H H2:=λb u e=>o b u (by simpa using A7 e c) (s b u e)
structure NxPre(H:Hp)(a c f l:Addr)(us:List V)(rss:LLI)(cs:List (Option Int))(fs:List V)(F:LLI)(ls:List V)(L:LLI):Prop where
 ha:H a=some (.tup us)
 hI:Its H us rss
 hc:H c=some (.tup (cs.map cV))
 hf:H f=some (.lst fs)
 hF:Its H fs F
 hl:H l=some (.lst ls)
 hL:Its H ls L
 us1:us.length<=1000
 n1:1<=cs.length
 n2:cs.length<=100
 hR:Rs cs.length rss
 fw:∀v∈F,v.length=cs.length
 lw:∀v∈L,v.length=cs.length/\Sm v
 big:L.length*cs.length+100<=100000
section
variable {P:Program}{w:World}{K:PySem.W.Frag}{mg:Str->Option Value}{base:Heap}
inductive IspNext(vs:List V)(H:Hp)(Q:VK)(E:XK):Prop
 |mk (a c f l:Addr) (r:V) (us:List V) (rss:LLI) (cs:List (Option Int)) (fs:List V) (F:LLI) (ls:List V) (L:LLI) (_:vs=[.ref a,.ref c,.ref f,.ref l,r]) (_:NxPre H a c f l us rss cs fs F ls L) (_:(r=.non∨∃m:Int,r=.int m/\0<=m)) (_:∀p zs tss H',Same H H'->H p=none->H' p=some (.lst zs)->Its H' zs tss->C3 tss->tss.Nodup->(∀v∈tss,∃u∈L,S7 rss cs F u v)->((∀u∈L,∀v,S7 rss cs F u v->v∈tss)∨∃m:Int,r=.int m/\m<tss.length)->tss.length<=L.length*cs.length->(∀m:Int,r=.int m->(tss.length:Int)<=m+cs.length)->Q (.ref p) H'):IspNext  vs H Q E
def b0W:Sp:=λvs H Q E=>IspNext  vs H Q E
theorem sc_next_level:FnScope ["rows","caps","found","level","room","met","one","j","more"] ["rows","caps","found","level","room"] (A1 M6):=⟨rfl,rfl,rfl,by decide +kernel,rfl,by decide +kernel,by decide +kernel⟩
theorem a3x(F':FunAt K mg "next_level" M6 ["rows","caps","found","level","room"])(T:Tx mg)(I:Ok P w K mg base "steps" 4 ["rows","caps","one"] a4w)(n:Ok P w K mg base "is_barred" 2 ["found","one","j"] a5F):Ok P w K mg base "next_level" 5 ["rows","caps","found","level","room"] b0W:=by
 refine F'.okJ sc_next_level (λvs H Q E h=>?_) (λc6 f A c1 s H vs Q E hr h=>?_)
 .obtain⟨a,c,f,l,r,us,rss,cs,fs,F,ls,L,rfl,_⟩:=h;rfl
 .obtain⟨a,c,f,l,r,us,rss,cs,fs,F,ls,L,rfl,N,hroom,k⟩:=h;have O:=hr.u60;have hz:(100000:Nat)<=sizeLine:=by rw[a_];decide
  have c4:=N.big;refine⟨_,(A2 (B3 (i:=5) sc_next_level.nd rfl (Or.inl rfl) b4N)
 (A2 (N9 (J9 K (jv 3)) (A8 (i:=6) sc_next_level.nd rfl (Or.inl rfl))
 (A2 (N9 (J9 K (A6 I (hr.mono (by omega)) rfl (jaC (jv 0) (jaC (jv 1) (jaC (jv 6) jaN))))) (U0 K 2 (C0 (A8 (i:=7) sc_next_level.nd rfl (Or.inl rfl)) (C0 (A8 (i:=8) sc_next_level.nd rfl (Or.inl rfl)) N2)))
 (A4 (D5 (a1S (a1l (a9W O (jv 8) (jv 5) (by with_unfolding_all rfl)) (a0d (M1 (D4 K (A6 n (hr.mono (by omega)) rfl (jaC (jv 2) (jaC (jv 8) (jaC (jv 7) jaN)))))))))
 (A4 (b4I O (jv 5) (jv 8) M0))
 C1)))
 (A4 (D5 (a1S (a1l (b4H (jv 4) V3) (a0d (b2l (b4L rfl T.b_len (jaC (jv 5) jaN)) (jv 4)))))
 (A4 b2p)
 C1))))
 (A4 (A9 (b2r rfl T.b_sorted (jaC (jv 5) jaN)))))),?_⟩
  intro d hd;dsimp only[B0];have s0:=(Same.refl H).upd (o:=.dT []) hd;have e0:upd H d (.dT []) d=some (.dT []):=A0;generalize upd H d (.dT [])=H0 at s0 e0;have fin:∀(kvs:List (List Key×V)) (g:LLI) (σ:L2.St) (H':Hp),σ[5]?=some (some (.ref d))->Same H H'->H' d=some (.dT kvs)->kvs.map (·.1)=IK g->g.Nodup->(∀v∈g,∃u∈L,S7 rss cs F u v)->((∀u∈L,∀v,S7 rss cs F u v->v∈g)∨∃m:Int,r=.int m/\m<g.length)->g.length<=L.length*cs.length->(∀m:Int,r=.int m->(g.length:Int)<=m+cs.length) ->
    b5W (tCB a7c (a5w (N5 5) a1K)) {nx:=λx H'=>Q V.non H',rt:=Q} σ H':=by
   intro kvs g σ H' hσ s' M y D h1 h2 S J;refine⟨_,hσ,d,kvs,g,rfl,M,y,λv t=>?_,λp zs c2 hp hI G b8=>?_⟩
   .obtain⟨u,O,j,_,rfl,_⟩:=h1 v t;rw[C6,(N.lw u O).1];exact N.n1
   refine k p zs c2 _ (s'.upd hp) (s'.free hp) A0 (hI.same ((Same.refl H').upd hp)) b8 (G.symm.nodup D) (λv t=>h1 v (G.mem_iff.mp t)) ?_ (by rw[G.length_eq];exact S) λm e=>by rw[G.length_eq];exact J m e
   rcases h2 with h2|⟨m,e,h2⟩
   .exact .inl λu O v t=>G.mem_iff.mpr (h2 u O v t)
   .exact .inr ⟨m,e,by rw[G.length_eq];exact h2⟩
  refine⟨_,rfl,l,rfl,⟨_,SqL.of (s0 _ _ N.hl)⟩,?_⟩;refine S5 (K:=K) (a:=l) (xs:=ls) (λi σ H'=>Ex5 λo6 W X kvs g=>An9 (σ=[some (.ref a),some (.ref c),some (.ref f),some (.ref l),some r,some (.ref d),o6,W,X]) (Same H H') (H' d=some (.dT kvs)) (kvs.map (·.1)=IK g) (g.Nodup) ((∀v∈g,∃u∈L,S7 rss cs F u v)) ((∀u∈L.take i,∀v,S7 rss cs F u v->v∈g)) (g.length<=i*cs.length) (∀m:Int,r=.int m->(g.length:Int)<=m))
   ⟨none,none,none,[],[],rfl,s0,e0,rfl,fk,(λ_ z=>nomatch z),(λ_ z=>by simp at z),by simp,λm e=>?_⟩ (λi σ H' _ h=>by obtain⟨_,_,_,_,_,_,s',_⟩:=h;exact SqL.of (s' _ _ N.hl)) ?_ ?_
  .rcases hroom with e'|⟨m',e',hm'⟩
   .rw[e']at e;cases e
   .rw[e']at e;cases e;simpa using hm'
  .rintro i x σ H' hx ⟨o6,W,X,kvs,g,rfl,s',M,y,D,h1,h2,S,J⟩;obtain⟨ys,a8,a9,c0⟩:=N.hL.mem hx;obtain⟨yw,c3⟩:=N.lw ys a8;have b5:i<L.length:=(aT.mp a9).1;have c9:(i+1)*cs.length<=L.length*cs.length:=Nat.mul_le_mul_right _ b5;have c5:(i+1)*cs.length=i*cs.length+cs.length:=by rw[Nat.add_mul,Nat.one_mul]
   dsimp only[B0];have b1:Rs ys.length rss:=by rw[yw];exact N.hR
   refine⟨_,rfl,_,rfl,_,rfl,a,c,x,us,rss,cs,ys,rfl,s' _ _ N.ha,N.hI.same s',s' _ _ N.hc,c0.same s',N.us1,by rw[yw];exact N.n2,yw.symm,b1,c3,λp1 ps H1 s1 a0 Z=>?_⟩;have C:=s1 _ _ M;have a1:=s'.trans s1;refine⟨p1,rfl,⟨_,SqL.of a0⟩,?_⟩;have b9:∀j∈StP rss cs ys,j<ys.length:=λj hj=>aX.mp (aE.mp (aE.mp hj).1).1;have d2:(StP rss cs ys).length<=cs.length:=by rw[<-yw];exact bj (bB _ _) (bj (bB _ _) (by simp))
   have b3:d≠p1:=K0 C a0 (by intro z;cases z);refine S5 (K:=K) (a:=p1) (xs:=ps) (λU σ H2=>Ex4 λW X kvs g=>An10 (σ=[some (.ref a),some (.ref c),some (.ref f),some (.ref l),some r,some (.ref d),some x,W,X]) (Off [d] H1 H2) (H2 d=some (.dT kvs)) (kvs.map (·.1)=IK g) (g.Nodup) ((∀v∈g,∃u∈L,S7 rss cs F u v)) ((∀u∈L.take i,∀v,S7 rss cs F u v->v∈g)) ((∀j∈(StP rss cs ys).take U,Bar F (bump ys j) j=false->bump ys j∈g)) (g.length<=i*cs.length+U) (∀m:Int,r=.int m->(g.length:Int)<=m+U))
    ⟨W,X,kvs,g,rfl,Off.refl _ _,C,y,D,h1,h2,(λ_ z=>by simp at z),S,λm e=>by have:=J m e;omega⟩ (λU σ H2 _ h=>by obtain⟨_,_,_,_,_,o2,_⟩:=h;exact SqL.of (o2 _ _ (by simpa using b3.symm) a0)) ?_ ?_
   .rintro U q σ H2 hq ⟨W,X,kvs,g,rfl,off2,hd2,y,D,h1,h2,h5,S,J⟩;obtain⟨j,b,v,ej,rfl,hb,t⟩:=Z.2 U q hq;obtain⟨va,rfl,hva⟩:=t;have a6:=aI ej;have hj:=b9 j a6;have b2:=off2 _ _ (by simpa using K0 hb C (by intro z;cases z)) hb;have R:=off2 _ _ (by simpa using K0 hva C (by intro z;cases z)) hva;have hf1:=a1 _ _ N.hf;have b4:=off2 _ _ (by simpa using K0 hf1 C (by intro z;cases z)) hf1;have b0:=b4Q (N.hF.same a1) C off2;have c8:U<(StP rss cs ys).length:=(aT.mp ej).1;have b7:kvs.length=g.length:=by
     have:=aN List.length y;simpa[IK]using this
    have Y:∀B:LLI,(∀v∈g,v∈B)->(Bar F (bump ys j) j=false->bump ys j∈B)->∀j'∈(StP rss cs ys).take (U+1),Bar F (bump ys j') j'=false->bump ys j'∈B:=λB a7 b6 j' a5 a3=>by
     rw[bu,ej]at a5;rcases aA.mp a5 with z|z
     .exact a7 _ (h5 j' z a3)
     .have:j'=j:=by simpa using z
      subst this;exact b6 a3
    refine⟨b,[.int j,.ref va],rfl,SqT.of b2,rfl,.int j,[.ref va],rfl,.ref va,[],rfl,rfl,?_⟩;refine⟨_,rfl,_,rfl,d,_,rfl,DGet.t hd2 (by rw[a7r];exact R),_,rfl,?_⟩;rw[a6i y];by_cases hm:bump ys j∈g
    .rw[bg hm];refine D6 (D6 ?_);exact⟨_,_,kvs,g,rfl,off2,hd2,y,D,h1,h2,Y g (λ_ z=>z) (λ_=>hm),by omega,λm e=>by have:=J m e;omega⟩
    .rw[bL hm];refine G1 ⟨_,rfl,_,rfl,_,rfl,f,.ref va,fs,F,bump ys j,j,rfl,b4,b0,⟨va,rfl,R⟩,by rw[C6];exact hj,by rw[C6,yw];have:=N.n2;omega,λv t=>by rw[C6,yw];exact N.fw v t,λH3 s3=>⟨_,rfl,?_⟩⟩;have a4:=s3 _ _ hd2;cases e:Bar F (bump ys j) j with
     |true =>
      refine D6 ?_;exact⟨_,_,kvs,g,rfl,off2.trans s3.off,a4,y,D,h1,h2,Y g (λ_ z=>z) (λz=>by rw[e]at z;cases z),by omega,λm e=>by have:=J m e;omega⟩
     |false =>
      refine G1 ?_;refine⟨_,rfl,_,rfl,d,_,rfl,DPut.t a4 (by rw[a7r];exact s3 _ _ R) (by omega),?_⟩;rw[a5S _ ((a2U y).mpr hm)];refine⟨_,_,_,g++[bump ys j],rfl,(off2.trans s3.off).set (by simp),A0,by rw[bz,y];simp[IK],a8y D hm,λv t=>?_,λu O v t=>aS _ (h2 u O v t),Y _ (λv t=>aS _ t) (λ_=>by simp),by rw[ak];simp;omega,λm e=>by have:=J m e;rw[ak];simp;omega⟩;rcases aA.mp t with z|z
      .exact h1 v z
      .rw[aQ.mp z];exact⟨ys,a8,j,a6,rfl,e⟩
   .rintro σ H2 ⟨W,X,kvs,g,rfl,off2,hd2,y,D,h1,h2,h5,S,J⟩;rw[Z.1,bx]at h5;have b7:kvs.length=g.length:=by
     have:=aN List.length y;simpa[IK]using this
    have d1:=Z.1;have s2:Same H H2:=a2A a1 hd off2;have a2:∀u∈L.take (i+1),∀v,S7 rss cs F u v->v∈g:=λu O v t=>by
     rw[bu,a9]at O;rcases aA.mp O with z|z
     .exact h2 u z v t
     .have:u=ys:=by simpa using z
      subst this;obtain⟨j,hj,rfl,hb⟩:=t;exact h5 j hj hb
    rcases hroom with rfl|⟨m,rfl,d0⟩
    .refine⟨_,rfl,rfl,_,rfl,D6 (D6 ?_)⟩;exact⟨_,_,_,kvs,g,rfl,s2,hd2,y,D,h1,a2,by omega,λm e=>by cases e⟩
    .refine⟨_,rfl,rfl,_,rfl,G1 ?_⟩;refine⟨_,rfl,d,kvs,rfl,hd2,_,rfl,_,_,rfl,rfl,_,rfl,a0y (λe=>?_) (λe=>?_)⟩
     .have e':m<(kvs.length:Int):=bw e;have c7:=J m rfl;exact fin kvs g _ H2 rfl s2 hd2 y D h1 (.inr ⟨m,rfl,by omega⟩) (by omega) λm' e2=>by cases e2;omega
     .have e':¬m<(kvs.length:Int):=λz=>e (bg z);exact⟨_,_,_,kvs,g,rfl,s2,hd2,y,D,h1,a2,by omega,λm' e2=>by cases e2;omega⟩
  .rintro σ H' ⟨o6,W,X,kvs,g,rfl,s',M,y,D,h1,h2,S,J⟩;rw[N.hL.1,bx]at h2;exact fin kvs g _ H' rfl s' M y D h1 (.inl h2) (by rw[N.hL.1]at S;exact S) λm e=>by have:=J m e;omega
end
noncomputable def ffl(ra ca:Addr)(b:Bool)(ah af aw:Addr):List (Str×V):=[("rows",.ref ra),("caps",.ref ca),("begun",.bl b),("here",.ref ah),("found",.ref af),("walked",.ref aw)]
section
variable (ra ca ah ah' af aw:Addr) (b b':Bool)
theorem a6t:(ffl ra ca b ah af aw).lookup ("rows" : Str)=some (.ref ra):=by with_unfolding_all rfl
theorem a6u:(ffl ra ca b ah af aw).lookup ("caps" : Str)=some (.ref ca):=by with_unfolding_all rfl
theorem a4e:(ffl ra ca b ah af aw).lookup ("begun" : Str)=some (.bl b):=by with_unfolding_all rfl
theorem X8:(ffl ra ca b ah af aw).lookup ("here" : Str)=some (.ref ah):=by with_unfolding_all rfl
theorem a1q:(ffl ra ca b ah af aw).lookup ("found" : Str)=some (.ref af):=by with_unfolding_all rfl
theorem a3k:(ffl ra ca b ah af aw).lookup ("walked" : Str)=some (.ref aw):=by with_unfolding_all rfl
theorem a5Q:J6 "here" (.ref ah') (ffl ra ca b ah af aw)=ffl ra ca b ah' af aw:=by with_unfolding_all rfl
theorem a9y:J6 "begun" (.bl b') (ffl ra ca b ah af aw)=ffl ra ca b' ah af aw:=by with_unfolding_all rfl
theorem a5P:J6 "walked" (.ref aw) (J6 "found" (.ref af) (J6 "here" (.ref ah) (J6 "begun" (.bl b) (J6 "caps" (.ref ca) (J6 "rows" (.ref ra) [])))))=ffl ra ca b ah af aw:=by with_unfolding_all rfl
theorem b2G:(ffl ra ca b ah af aw).lookup ("told" : Str)=none:=by with_unfolding_all rfl
theorem b0e:(ffl ra ca b ah af aw).lookup ("paper" : Str)=none:=by with_unfolding_all rfl
theorem b0f:(ffl ra ca b ah af aw).lookup ("ended" : Str)=none:=by with_unfolding_all rfl
theorem a1U:(ffl ra ca b ah af aw).lookup ("step_within" : Str)=none:=by with_unfolding_all rfl
end
structure FiTx(K:PySem.W.Frag)(C:Addr):Prop where
 cl:Cls K C
 n1:NoAttr K C "rows"
 n2:NoAttr K C "caps"
 n3:NoAttr K C "begun"
 n4:NoAttr K C "here"
 n5:NoAttr K C "found"
 n6:NoAttr K C "walked"
structure FAt(C:Addr)(H:Hp)(p ra ca af aw:Addr)(b:Bool)(L F W:LLI):Prop where
 ob:∃dx ah hs,H p=some (.ins C dx (ffl ra ca b ah af aw))/\H ah=some (.lst hs)/\Its H hs L/\ah≠af/\ah≠aw
 hf:∃fs,H af=some (.lst fs)/\Its H fs F
 hw:∃ws,H aw=some (.lst ws)/\Its H ws W
 ne:af≠aw
theorem FAt.same{C:Addr}{H H':Hp}{p ra ca af aw:Addr}{b:Bool}{L F W:LLI}(h:FAt C H p ra ca af aw b L F W)(s:Same H H'):FAt C H' p ra ca af aw b L F W:=by
 obtain⟨⟨dx,ah,hs,h1,h2,a,c,d⟩,⟨fs,f1,f2⟩,⟨g,e,f⟩,ne⟩:=h;exact⟨⟨dx,ah,hs,s _ _ h1,s _ _ h2,a.same s,c,d⟩,⟨fs,s _ _ f1,f2.same s⟩,⟨g,s _ _ e,f.same s⟩,ne⟩
structure SyAt(H:Hp)(a c:Addr)(rss:LLI)(cs:List (Option Int)):Prop where
 ex:∃us,H a=some (.tup us)/\Its H us rss/\us.length<=1000
 hc:H c=some (.tup (cs.map cV))
 n1:1<=cs.length
 n2:cs.length<=100
 hR:Rs cs.length rss
theorem SyAt.same{H H':Hp}{a c:Addr}{rss:LLI}{cs:List (Option Int)}(h:SyAt H a c rss cs)(s:Same H H'):SyAt H' a c rss cs:=by
 obtain⟨⟨g,h1,h2,b⟩,d,e,f,hR⟩:=h;exact⟨⟨g,s _ _ h1,h2.same s,b⟩,s _ _ d,e,f,hR⟩
structure StR(rss:LLI)(cs:List (Option Int))(b:Bool)(L F:LLI)(r:V)(L':LLI):Prop where
 ri:C3 L'
 nd:L'.Nodup
 fst:b=false->∀v,v∈L'↔v∈E6 cs
 snd:b=true->∀v∈L',∃u∈L,S7 rss cs F u v
 all:b=true->(∀u∈L,∀v,S7 rss cs F u v->v∈L')∨∃m:Int,r=.int m/\m<L'.length
 len:L'.length<=cs.length+L.length*cs.length
 few:∀m:Int,r=.int m->(L'.length:Int)<=m+cs.length
theorem K2(n j i:Nat)(hi:i<n):(I0 n j).getD i 0=if i=j then 1 else 0:=by
 unfold I0;simp[aq,hi]
theorem B5(n j:Nat):(I0 n j).length=n:=by simp[I0]
theorem b0d(cs:List (Option Int)):(E6 cs).Nodup:=by
 unfold E6;refine List.Nodup.sublist (List.filter_sublist) ?_;unfold List.Nodup;rw[cf];refine(fM (n:=cs.length)).imp_of_mem λ{i j} hi b a e=>?_;have h1:(I0 cs.length i).getD i 0=(I0 cs.length j).getD i 0:=aN (λl:List Int=>l.getD i 0) e;rw[K2 _ _ _ (aX.mp hi),K2 _ _ _ (aX.mp hi),az rfl,ar a]at h1;omega
theorem lp{f:Str}{v:V}{fs:List (Str×V)}{k:Nat}(h:fs.length<=k):(J6 f v fs).length<=k+1:=by
 refine bj ?_ (Nat.succ_le_succ h);clear h;induction fs with
 |nil=>exact ao _
 |cons p r a =>
  obtain⟨g,x⟩:=p;show(if g=f then(g,v)::r else(g,x)::J6 f v r).length<=_;split
  .simp
  .simpa using a
section
variable {P:Program}{w:World}{K:PySem.W.Frag}{mg:Str->Option Value}{base:Heap}{C:Addr}
inductive IspFInit(C:Addr)(vs:List V)(H:Hp)(Q:VK)(E:XK):Prop
 |mk (p dx ra ca:Addr) (_:vs=[.ref p,.ref ra,.ref ca]) (_:H p=some (.ins C dx [])) (_:∀(af aw:Addr) (H':Hp),H af=none->H aw=none->FAt C H' p ra ca af aw false [] [] []->(∃dx ah,H' p=some (.ins C dx (ffl ra ca false ah af aw))/\H ah=none)->(∀b o,H b=some o->b≠p->H' b=some o)->Q .non H'):IspFInit C vs H Q E
def a8l(C:Addr):Sp:=λvs H Q E=>IspFInit C vs H Q E
theorem a0w:FnScope ["self","rows","caps"] ["self","rows","caps"] (A1 E7):=⟨rfl,rfl,rfl,by decide +kernel,rfl,by decide +kernel,by decide +kernel⟩
theorem b1Z(I:MethAt K C "__init__" "Finder.__init__" E7 ["self","rows","caps"])(U:FiTx K C):MethOk P w K mg base C "__init__" 1 ["self","rows","caps"] (a8l C):=by
 refine I.fnJ a0w (λvs H Q E h=>?_) (λJ f A F s H vs Q E L h=>?_)
 .obtain⟨p,dx,ra,ca,rfl,_⟩:=h;rfl
 .obtain⟨p,dx,ra,ca,rfl,hp,k⟩:=h;refine⟨_,(A2 (T8 K (jv 0) (jv 1))
 (A2 (T8 K (jv 0) (jv 2))
 (A2 (T8 K (jv 0) M0)
 (A2 (T8 K (jv 0) (V4 jaN))
 (A2 (T8 K (jv 0) (V4 jaN))
 (A4 (T8 K (jv 0) (V4 jaN)))))))),?_⟩
  have t:([]:List (Str×V)).length<=0:=ao _;refine⟨_,rfl,_,rfl,p,C,dx,_,rfl,hp,U.cl,U.n1,ff t (by decide),?_⟩;refine⟨_,rfl,_,rfl,p,C,dx,_,rfl,A0,U.cl,U.n2,ff (lp t) (by decide),?_⟩;rw[a4t];refine⟨_,rfl,p,C,dx,_,rfl,A0,U.cl,U.n3,ff (lp (lp t)) (by decide),?_⟩;rw[a4t];generalize D:J6 "begun" (V.bl false) (J6 "caps" (.ref ca) (J6 "rows" (.ref ra) []))=r;have G:r.length<=3:=by rw[<-D];exact lp (lp (lp t))
  have k1:∀b o,H b=some o->b≠p->upd H p (.ins C dx r) b=some o:=λb o e c=>by rw[A3 c];exact e
  have e1:upd H p (.ins C dx r) p=some (.ins C dx r):=A0;have u:∀b,upd H p (.ins C dx r) b=none->H b=none:=λb e=>by
   by_cases c:b=p
   .subst c;rw[A0]at e;cases e
   .rwa[A3 c]at e
  generalize upd H p (.ins C dx r)=H1 at k1 e1 u;refine⟨bG _,λah n=>?_⟩;have x:p≠ah:=A7 e1 n;refine⟨_,rfl,p,C,dx,_,rfl,by rw[A3 x];exact e1,U.cl,U.n4,by omega,?_⟩;refine⟨bG _,λaf m=>?_⟩;have y:p≠af:=λz=>by subst z;rw[A0]at m;cases m
  have g:upd H1 ah (.lst []) af=none:=by rwa[A3 y.symm]at m
  have j:ah≠af:=A7 (o:=.lst []) A0 g;have d:H1 af=none:=by rwa[A3 j.symm]at g
  refine⟨_,rfl,p,C,dx,_,rfl,by rw[A3 y];exact A0,U.cl,U.n5,by have:=lp (f:="here") (v:=.ref ah) G;omega,?_⟩;refine⟨bG _,λaw q=>?_⟩;have B:p≠aw:=λz=>by subst z;rw[A0]at q;cases q
  have a:=q;rw[A3 B.symm]at a;have i:af≠aw:=A7 (o:=.lst []) A0 a;rw[A3 i.symm,A3 B.symm]at a;have l:ah≠aw:=A7 (o:=.lst []) A0 a;rw[A3 l.symm]at a;refine⟨_,rfl,p,C,dx,_,rfl,by rw[A3 B];exact A0,U.cl,U.n6,by have:=lp (f:="found") (v:=.ref af) (lp (f:="here") (v:=.ref ah) G);omega,?_⟩;refine k af aw _ (u _ d) (u _ a) ⟨⟨dx,ah,[],?_,?_,.nil,j,l⟩,⟨[],?_,.nil⟩,⟨[],?_,.nil⟩,i⟩ ⟨dx,ah,by rw[A0,<-D,<-a5P],u _ n⟩ λb o e c=>?_
  .rw[A0,<-D,<-a5P]
  .rw[A3 x.symm,A3 l,A3 x.symm,A3 j,A3 x.symm,A0]
  .rw[A3 y.symm,A3 i,A3 y.symm,A0]
  .rw[A3 B.symm,A0]
  .have e2:=k1 b o e c;rw[A3 c,A3 (A7 e2 a),A3 c,A3 (A7 e2 d),A3 c,A3 (A7 e2 n)];exact e2
theorem a4Y{H:Hp}:∀{vs a:List V}{rss tss:LLI},Its H vs rss->Its H a tss->Its H (vs++a) (rss++tss):=by
 intro vs a rss tss h g;refine⟨by rw[ak,ak,h.1,g.1],λi v e=>?_⟩;rcases fV i vs.length with hi|hi
 .rw[bq hi]at e;obtain⟨r,e1,e2⟩:=h.2 i v e;exact⟨r,by rw[bq (by rw[<-h.1];exact hi)];exact e1,e2⟩
 .rw[aW hi]at e;obtain⟨r,e1,e2⟩:=g.2 _ v e;exact⟨r,by rw[aW (by rw[<-h.1];exact hi),<-h.1];exact e1,e2⟩
theorem a0f{H:Hp}{vs:List V}{rss:LLI}{c:Addr}{o o':HO}(h:Its H vs rss)(b:H c=some o)(d:∀xs,HO.tup xs≠o):Its (upd H c o') vs rss :=
 ⟨h.1,λi v e=>let ⟨r,e1,a,e2,q⟩:=h.2 i v e;⟨r,e1,a,e2,by rw[A3 (K0 q b (d _))];exact q⟩⟩
theorem a3c{H H':Hp}{vs:List V}{rss:LLI}{c:Addr}{o:HO}(h:Its H vs rss)(b:H c=some o)(d:∀xs,HO.tup xs≠o)(off:Off [c] H H'):Its H' vs rss :=
 ⟨h.1,λi v e=>let ⟨r,e1,a,e2,q⟩:=h.2 i v e;⟨r,e1,a,e2,off _ _ (by simpa using K0 q b (d _)) q⟩⟩
theorem b3v{H H':Hp}{a c:Addr}{rss:LLI}{cs:List (Option Int)}{b:Addr}{o:HO}(h:SyAt H a c rss cs)(d:H b=some o)(e:∀xs,HO.tup xs≠o)(off:Off [b] H H'):SyAt H' a c rss cs:=by
 obtain⟨⟨k,h1,h2,g⟩,f,i,j,hR⟩:=h;exact⟨⟨k,off _ _ (by simpa using K0 h1 d (e _)) h1,a3c h2 d e off,g⟩,off _ _ (by simpa using K0 f d (e _)) f,i,j,hR⟩
theorem b3x{u:List Int}{B:Int}{j:Nat}(h:∀x∈u,0<=x/\x<=B)(b:B<=2 ^ 60):∀x∈bump u j,0<=x/\x<=2 ^ 60+1:=by
 intro x a;unfold bump at a;rcases eZ a with z|z
 .have:=h x z;omega
 .by_cases hj:j<u.length
  .have:=h _ (cY (h:=hj));rw[aq,aj hj]at z;simp at z;omega
  .rw[aq,cM (by omega)]at z;simp at z;omega
inductive IspStepW(C:Addr)(vs:List V)(H:Hp)(Q:VK)(E:XK):Prop
 |mk (p ra ca af aw:Addr) (b:Bool) (L F W rss:LLI) (cs:List (Option Int)) (r:V) (B:Int) (_:vs=[.ref p,r]) (_:FAt C H p ra ca af aw b L F W) (_:SyAt H ra ca rss cs) (_:(r=.non∨∃m:Int,r=.int m/\0<=m)) (_:(∀v∈L,v.length=cs.length/\∀x∈v,0<=x/\x<=B)) (_:B<=2 ^ 60) (_:(∀v∈F,v.length=cs.length)) (_:L.length*cs.length+100<=100000) (_:F.length<=100000) (_:W.length<=100000) (_:∀L' H',StR rss cs b L F r L'->FAt C H' p ra ca af aw true L' (F++L'.filter λv=>Ans rss v) (W++L')->(∃dx ah,H' p=some (.ins C dx (ffl ra ca true ah af aw))/\H ah=none)->Off [p,af,aw] H H'->Q (.int L'.length) H'):IspStepW C vs H Q E
def a4x(C:Addr):Sp:=λvs H Q E=>IspStepW C vs H Q E
theorem b1o{σ:L2.St}{i j:Nat}{C p ra ca af aw:Addr}{b:Bool}{L F W rss:LLI}{cs:List (Option Int)}{r:V}{B:Int}{H:Hp}{Q:VK}(hi:σ[i]?=some (some (.ref p)))(l:σ[j]?=some (some r))(D:FAt C H p ra ca af aw b L F W)(Y:SyAt H ra ca rss cs)(h1:r=.non∨∃m:Int,r=.int m/\0<=m)(h2:∀v∈L,v.length=cs.length/\∀x∈v,0<=x/\x<=B)(d:B<=2 ^ 60)(e:∀v∈F,v.length=cs.length)(f:L.length*cs.length+100<=100000)(g:F.length<=100000)(h:W.length<=100000)
  (k:∀a H',StR rss cs b L F r a->FAt C H' p ra ca af aw true a (F++a.filter λv=>Ans rss v) (W++a)->(∃dx ah,H' p=some (.ins C dx (ffl ra ca true ah af aw))/\H ah=none)->Off [p,af,aw] H H'->Q (.int a.length) H'):a1A C "step_within" (a4x C) [] E0 (N5 i) (a5w (N5 j) a1K) σ H Q:=by
 obtain⟨⟨dx,ah,hs,c,_⟩,_,_,_⟩:=id D;exact⟨_,hi,p,dx,_,rfl,c,a1U _ _ _ _ _ _,_,l,p,ra,ca,af,aw,b,L,F,W,rss,cs,r,B,rfl,D,Y,h1,h2,d,e,f,g,h,k⟩
theorem V8:FnScope ["self","room"] ["self","room"] (A1 C7):=⟨rfl,rfl,rfl,by decide +kernel,rfl,by decide +kernel,by decide +kernel⟩
theorem b1S(FM:MethAt K C "step_within" "Finder.step_within" C7 ["self","room"])(U:FiTx K C)(T:Tx mg)(d:Ok P w K mg base "next_level" 5 ["rows","caps","found","level","room"] b0W)(a:Ok P w K mg base "first_steps" 2 ["caps"] a4A)(n:Ok P w K mg base "is_answer" 3 ["rows","one"] a2a) :
  MethOk P w K mg base C "step_within" 6 ["self","room"] (a4x C):=by
 refine FM.fnJ V8 (λvs H Q E h=>?_) (λc9 f A c5 s H vs Q E hr h=>?_)
 .obtain⟨p,ra,ca,af,aw,b,L,F,W,rss,cs,r,B,rfl,_⟩:=h;rfl
 .obtain⟨p,ra,ca,af,aw,b,L,F,W,rss,cs,r,B,rfl,D,Y,hroom,hL,hB,hF,hbig,hF1,hW1,k⟩:=h;have hz:(300000:Nat)<=sizeLine:=by rw[a_];decide
  obtain⟨⟨dx,ah,hs,h1,h2,h3,h4,h5⟩,⟨fs,f1,f2⟩,⟨ws,w1,w2⟩,ne⟩:=id D;have b5:p≠af:=K0 h1 f1 (by intro z;cases z);have b6:p≠aw:=K0 h1 w1 (by intro z;cases z);refine⟨_,(A2 (D5 (D4 K (M3 K (jv 0)))
 (A4 (T8 K (jv 0) (A6 d (hr.mono (by omega)) rfl (jaC (M3 K (jv 0)) (jaC (M3 K (jv 0)) (jaC (M3 K (jv 0)) (jaC (M3 K (jv 0)) (jaC (jv 1) jaN))))))))
 (A2 (T8 K (jv 0) (b4K K rfl T.b_list (jaC (A6 a (hr.mono (by omega)) rfl (jaC (M3 K (jv 0)) jaN)) jaN)))
 (A4 (T8 K (jv 0) M0))))
 (A2 (T9 (a3Z K (M3 K (jv 0)) (jaC (B8 (N:=["one","self"]) (src:=[none,some 0]) (J9 K (M3 K (jv 0))) (by show B7 _ _=true;rfl) (by rfl) (by rfl)
 (λ_ _ _ _ _=>(A8 (i:=0) (show(["one","self"]:List Str).Nodup by decide +kernel) rfl (Or.inl rfl))) (λ_ _ _ _ _=>(a1m (D4 K (A6 n (hr.mono (by omega)) rfl (jaC (M3 K (jv 1)) (jaC (jv 0) jaN)))))) (λ_ _ _ _ _=>(jv 0))) jaN)))
 (A2 (T9 (a3Z K (M3 K (jv 0)) (jaC (M3 K (jv 0)) jaN)))
 (A4 (A9 (G7 K rfl T.b_len (jaC (M3 K (jv 0)) jaN))))))),?_⟩
  refine Z2 (λσ H'=>σ=[some (.ref p),some r]/\∃ah' c S,H' p=some (.ins C dx (ffl ra ca true ah' af aw))/\H' ah'=some (.lst c)/\Its H' c S/\H ah'=none/\StR rss cs b L F r S/\Off [p] H H'/\∀v∈S,v.length=cs.length/\Sm v) ?fin λfin=>?_
  case fin =>
   rintro σ H1 ⟨rfl,ah',c,S,p1,a1,i1,a0,R,g,c0⟩;have c2:=Y.n2;have b3:S.length<=100000:=by have:=R.len;omega
   have a8:=g _ _ (by simpa using b5.symm) f1;have c7:=g _ _ (by simpa using b6.symm) w1;have b8:=a3c f2 h1 (λ_ z=>by cases z) g;have c8:=a3c w2 h1 (λ_ z=>by cases z) g;have Y1:=b3v Y h1 (λ_ z=>by cases z) g;have a9:ah'≠af:=(A7 f1 a0).symm;have b1:ah'≠aw:=(A7 w1 a0).symm;have d0:p≠ah':=A7 h1 a0;refine⟨_,rfl,p,C,dx,_,_,rfl,p1,U.cl,U.n5,a1q _ _ _ _ _ _,.inl ⟨rfl,_,SqL.of a8⟩,?_⟩;refine⟨_,rfl,p,C,dx,_,_,rfl,p1,U.cl,U.n4,X8 _ _ _ _ _ _,ah',rfl,⟨_,SqL.of a1⟩,?_⟩;refine a2P (caps:=[some (.ref p)]) (λv=>Ans rss v) (by rw[i1.1];omega) (λH2 s2=>SqL.of (s2 _ _ a1)) i1 rfl (λv r' H2 Q2 c4 Z s2 q=>?_) λH2 p2 zs s2 b4 M=>?_
   .obtain⟨⟨us,u1,u2,u3⟩,_,_,_,hR⟩:=Y1.same s2;refine⟨_,rfl,p,C,dx,_,_,rfl,s2 _ _ p1,U.cl,U.n1,a6t _ _ _ _ _ _,_,rfl,ra,v,us,rss,r',rfl,u1,u2,Z,u3,λr hr=>by rw[(hR r hr).1];omega,(c0 r' c4).2,λJ t=>⟨_,rfl,q J t⟩⟩
   have c1:(S.filter λv=>Ans rss v).length<=S.length:=bB _ _;have t:=s2.upd (o:=.lst zs) b4;have c6:=(Same.refl H2).upd (o:=.lst zs) b4;have e3:upd H2 p2 (.lst zs) p2=some (.lst zs):=A0;have y:=M.same c6;generalize upd H2 p2 (.lst zs)=J at t e3 y;have f3:=t _ _ a8;refine⟨af,p2,fs,zs,rfl,rfl,f3,e3,by rw[f2.1,M.1];omega,?_⟩;have p4:upd J af (.lst (fs++zs)) p=some (.ins C dx (ffl ra ca true ah' af aw)):=by rw[A3 b5];exact t _ _ p1
   have w4:upd J af (.lst (fs++zs)) aw=some (.lst ws):=by rw[A3 ne.symm];exact t _ _ c7
   have a4:upd J af (.lst (fs++zs)) ah'=some (.lst c):=by rw[A3 a9];exact t _ _ a1
   refine⟨_,rfl,p,C,dx,_,_,rfl,p4,U.cl,U.n6,a3k _ _ _ _ _ _,.inl ⟨rfl,_,SqL.of w4⟩,?_⟩;refine⟨_,rfl,p,C,dx,_,_,rfl,p4,U.cl,U.n4,X8 _ _ _ _ _ _,aw,ah',ws,c,rfl,rfl,w4,a4,by rw[w2.1,i1.1];omega,?_⟩;have p5:upd (upd J af (.lst (fs++zs))) aw (.lst (ws++c)) p=some (.ins C dx (ffl ra ca true ah' af aw)):=by rw[A3 b6];exact p4
   have a5:upd (upd J af (.lst (fs++zs))) aw (.lst (ws++c)) ah'=some (.lst c):=by rw[A3 b1];exact a4
   refine⟨_,rfl,p,C,dx,_,_,rfl,p5,U.cl,U.n4,X8 _ _ _ _ _ _,ah',_,rfl,.inl (SqL.of a5),?_⟩;rw[i1.1];have I:∀{vs:List V}{rss:LLI},Its J vs rss->Its (upd (upd J af (.lst (fs++zs))) aw (.lst (ws++c))) vs rss:=λh=>a0f (a0f h f3 (λ_ z=>by cases z)) w4 (λ_ z=>by cases z);refine k S _ R ⟨⟨dx,ah',c,p5,a5,I (i1.same t),a9,b1⟩,⟨fs++zs,by rw[A3 ne];exact A0,I (a4Y (b8.same t) y)⟩,⟨ws++c,A0,I (a4Y (c8.same t) (i1.same t))⟩,ne⟩ ⟨dx,ah',p5,a0⟩ λb o hb e=>?_;have a2:b≠p/\b≠af/\b≠aw:=by simpa using hb
   rw[A3 a2.2.2,A3 a2.2.1];exact t _ _ (g _ _ (by simpa using a2.1) e)
  refine⟨_,rfl,p,C,dx,_,_,rfl,h1,U.cl,U.n3,a4e _ _ _ _ _ _,b,rfl,?_⟩;obtain⟨us,u1,u2,u3⟩:=Y.ex;have c2:=Y.n2;cases b with
  |true =>
   refine G1 ?_;refine⟨_,rfl,p,C,dx,_,_,rfl,h1,U.cl,U.n1,a6t _ _ _ _ _ _,_,rfl,p,C,dx,_,_,rfl,h1,U.cl,U.n2,a6u _ _ _ _ _ _,_,rfl,p,C,dx,_,_,rfl,h1,U.cl,U.n5,a1q _ _ _ _ _ _,_,rfl,p,C,dx,_,_,rfl,h1,U.cl,U.n4,X8 _ _ _ _ _ _,_,rfl,?_⟩;refine⟨ra,ca,af,ah,r,us,rss,cs,fs,F,hs,L,rfl,⟨u1,u2,Y.hc,f1,f2,h2,h3,u3,Y.n1,Y.n2,Y.hR,hF,λv Z=>⟨(hL v Z).1,λx hx=>by have:=(hL v Z).2 x hx;omega⟩,hbig⟩,hroom,λp9 zs a7 H9 s9 G h9 b9 a6 c3 X b0 b3 b2=>?_⟩;have b7:=s9 _ _ h1;have a3:p≠p9:=A7 h1 G;refine⟨_,rfl,p,C,dx,_,rfl,b7,U.cl,U.n4,by show 6<1000;decide,?_⟩;rw[a5Q];refine fin _ _ ⟨rfl,p9,zs,a7,A0,by rw[A3 a3.symm];exact h9,a0f b9 b7 (λ_ z=>by cases z),G,⟨a6,c3,(λz=>by cases z),λ_=>X,λ_=>b0,by omega,b2⟩,s9.off.set (by simp),λv Z=>?_⟩;obtain⟨u,hu,j,_,rfl,_⟩:=X v Z;have:=b3x (j:=j) (hL u hu).2 hB;exact⟨by rw[C6];exact(hL u hu).1,λx hx=>by have:=this x hx;omega⟩
  |false =>
   refine D6 ?_;refine⟨_,rfl,p,C,dx,_,_,rfl,h1,U.cl,U.n2,a6u _ _ _ _ _ _,ca,cs,rfl,Y.hc,Y.n1,Y.n2,λq zs a7 H2 s2 hq M O a6=>?_⟩;refine⟨q,zs,rfl,.inr (SqT.of hq),λl hl=>?_⟩;have p3:=R6 (o:=.lst zs) (s2 _ _ h1) hl;have t:=s2.upd (o:=.lst zs) hl;have y:=M.same ((Same.refl H2).upd (o:=.lst zs) hl);have e3:upd H2 l (.lst zs) l=some (.lst zs):=A0;have G:=s2.free hl;generalize upd H2 l (.lst zs)=J at p3 t y e3;refine⟨_,rfl,p,C,dx,_,rfl,p3,U.cl,U.n4,by show 6<1000;decide,?_⟩;rw[a5Q];refine⟨_,rfl,p,C,dx,_,rfl,A0,U.cl,U.n3,by show 6<1000;decide,?_⟩;rw[a4t,a9y];have a3:p≠l:=A7 h1 G;have c1:(E6 cs).length<=cs.length:=bj (bB _ _) (by simp);have d1:=O.length_eq;refine fin _ _ ⟨rfl,l,zs,a7,A0,by rw[A3 a3.symm];exact e3,a0f y p3 (λ_ z=>by cases z),G,⟨a6,O.symm.nodup (b0d cs),λ_ v=>O.mem_iff,(λz=>by cases z),(λz=>by cases z),by omega,λm e=>?_⟩,t.off.set (by simp),λv Z=>?_⟩
   .rcases hroom with z|⟨m',z,hm'⟩
    .rw[z]at e;cases e
    .rw[z]at e;cases e;omega
   .obtain⟨j,_,rfl⟩:=aL.mp (aE.mp (O.mem_iff.mp Z)).1;refine⟨B5 _ _,λx hx=>?_⟩;unfold I0 at hx;obtain⟨i,_,rfl⟩:=aL.mp hx;split<;>omega
inductive IspEnded(C:Addr)(vs:List V)(H:Hp)(Q:VK)(E:XK):Prop
 |mk (p ra ca af aw:Addr) (b:Bool) (L F W:LLI) (_:vs=[.ref p]) (_:FAt C H p ra ca af aw b L F W) (_:Q (.bl (b && decide (L=[]))) H):IspEnded C vs H Q E
def a4B(C:Addr):Sp:=λvs H Q E=>IspEnded C vs H Q E
theorem b1q{σ:L2.St}{i:Nat}{C p ra ca af aw:Addr}{b:Bool}{L F W:LLI}{H:Hp}{Q:VK}(hi:σ[i]?=some (some (.ref p)))(D:FAt C H p ra ca af aw b L F W)(k:Q (.bl (b && decide (L=[]))) H):a1A C "ended" (a4B C) [] E0 (N5 i) a1K σ H Q:=by
 obtain⟨⟨dx,ah,hs,a,_⟩,_,_,_⟩:=id D;exact⟨_,hi,p,dx,_,rfl,a,b0f _ _ _ _ _ _,p,ra,ca,af,aw,b,L,F,W,rfl,D,k⟩
theorem a1N:FnScope ["self"] ["self"] (A1 J4):=⟨rfl,rfl,rfl,by decide +kernel,rfl,by decide +kernel,by decide +kernel⟩
theorem b2b(c:MethAt K C "ended" "Finder.ended" J4 ["self"])(U:FiTx K C)(T:Tx mg):MethOk P w K mg base C "ended" 1 ["self"] (a4B C):=by
 refine c.fnJ a1N (λvs H Q E h=>?_) (λd f A a s H vs Q E l h=>?_)
 .obtain⟨p,ra,ca,af,aw,b,L,F,W,rfl,_⟩:=h;rfl
 .obtain⟨p,ra,ca,af,aw,b,L,F,W,rfl,D,k⟩:=h;obtain⟨⟨dx,ah,hs,h1,h2,g,i,j⟩,⟨fs,f1,f2⟩,⟨o,m,n⟩,ne⟩:=id D;refine⟨_,(A4 (A9 (a0s (M3 K (jv 0)) (a0S (a6k (G7 K rfl T.b_len (jaC (M3 K (jv 0)) jaN)) A5))))),?_⟩;refine⟨_,rfl,p,C,dx,_,_,rfl,h1,U.cl,U.n3,a4e _ _ _ _ _ _,?_⟩;refine⟨b,rfl,?_⟩;cases b with
  |false=>exact D6 k
  |true =>
   refine G1 ⟨_,rfl,p,C,dx,_,_,rfl,h1,U.cl,U.n4,X8 _ _ _ _ _ _,ah,_,rfl,.inl (SqL.of h2),rfl,?_⟩;have e:decide (V.int (hs.length:Int)=V.int 0)=decide (L=[]):=by
    rw[g.1];cases L with
    |nil=>simp
    |cons x L=>simp;omega
   rw[e];exact k
inductive IspTold(C:Addr)(vs:List V)(H:Hp)(Q:VK)(E:XK):Prop
 |mk (p ra ca af aw:Addr) (b:Bool) (L F W:LLI) (_:vs=[.ref p]) (_:FAt C H p ra ca af aw b L F W) (_:(∀v∈F,0<v.length)) (_:∀q zs tss H',Same H H'->H' q=some (.tup zs)->Its H' zs tss->tss.Perm F->C3 tss->Q (.ref q) H'):IspTold C vs H Q E
def a6O(C:Addr):Sp:=λvs H Q E=>IspTold C vs H Q E
theorem b3K{σ:L2.St}{i:Nat}{C p ra ca af aw:Addr}{b:Bool}{L F W:LLI}{H:Hp}{Q:VK}(hi:σ[i]?=some (some (.ref p)))(D:FAt C H p ra ca af aw b L F W)(h:∀v∈F,0<v.length)(k:∀q zs tss H',Same H H'->H' q=some (.tup zs)->Its H' zs tss->tss.Perm F->C3 tss->Q (.ref q) H'):a1A C "told" (a6O C) [] E0 (N5 i) a1K σ H Q:=by
 obtain⟨⟨dx,ah,hs,a,_⟩,_,_,_⟩:=id D;exact⟨_,hi,p,dx,_,rfl,a,b2G _ _ _ _ _ _,p,ra,ca,af,aw,b,L,F,W,rfl,D,h,k⟩
theorem a2z:FnScope ["self"] ["self"] (A1 L4):=⟨rfl,rfl,rfl,by decide +kernel,rfl,by decide +kernel,by decide +kernel⟩
theorem b4x(g:MethAt K C "told" "Finder.told" L4 ["self"])(U:FiTx K C)(T:Tx mg):MethOk P w K mg base C "told" 1 ["self"] (a6O C):=by
 refine g.fnJ a2z (λvs H Q E h=>?_) (λi f A d s H vs Q E u h=>?_)
 .obtain⟨p,ra,ca,af,aw,b,L,F,W,rfl,_⟩:=h;rfl
 .obtain⟨p,ra,ca,af,aw,b,L,F,W,rfl,D,hF,k⟩:=h;obtain⟨⟨dx,ah,hs,h1,h2,n,r,t⟩,⟨fs,f1,f2⟩,⟨y,v,x⟩,ne⟩:=id D;refine⟨_,(A4 (A9 (C9 K rfl T.b_tuple (jaC (a0R K rfl T.b_sorted (jaC (M3 K (jv 0)) jaN)) jaN)))),?_⟩;refine⟨_,rfl,p,C,dx,_,_,rfl,h1,U.cl,U.n5,a1q _ _ _ _ _ _,af,fs,F,rfl,.inl (SqL.of f1),f2,hF,λl zs e j hI a c _=>?_⟩;refine⟨l,_,rfl,.inl ⟨SqL.of A0,λq m=>?_⟩⟩;have s2:=((Same.refl H).upd (o:=.lst zs) j).upd (o:=.tup zs) m;exact k q zs e _ s2 A0 (hI.same s2) a c
inductive IspPaper(C:Addr)(vs:List V)(H:Hp)(Q:VK)(E:XK):Prop
 |mk (p ra ca af aw:Addr) (b:Bool) (L F W:LLI) (_:vs=[.ref p]) (_:FAt C H p ra ca af aw b L F W) (_:∀q zs H',Same H H'->H' q=some (.tup zs)->Its H' zs W->Q (.ref q) H'):IspPaper C vs H Q E
def a4z(C:Addr):Sp:=λvs H Q E=>IspPaper C vs H Q E
theorem b1p{σ:L2.St}{i:Nat}{C p ra ca af aw:Addr}{b:Bool}{L F W:LLI}{H:Hp}{Q:VK}(hi:σ[i]?=some (some (.ref p)))(D:FAt C H p ra ca af aw b L F W)(k:∀q zs H',Same H H'->H' q=some (.tup zs)->Its H' zs W->Q (.ref q) H'):a1A C "paper" (a4z C) [] E0 (N5 i) a1K σ H Q:=by
 obtain⟨⟨dx,ah,hs,a,_⟩,_,_,_⟩:=id D;exact⟨_,hi,p,dx,_,rfl,a,b0e _ _ _ _ _ _,p,ra,ca,af,aw,b,L,F,W,rfl,D,k⟩
theorem a1M:FnScope ["self"] ["self"] (A1 J3):=⟨rfl,rfl,rfl,by decide +kernel,rfl,by decide +kernel,by decide +kernel⟩
theorem b1X(d:MethAt K C "paper" "Finder.paper" J3 ["self"])(U:FiTx K C)(T:Tx mg):MethOk P w K mg base C "paper" 1 ["self"] (a4z C):=by
 refine d.fnJ a1M (λvs H Q E h=>?_) (λe f A a s H vs Q E r h=>?_)
 .obtain⟨p,ra,ca,af,aw,b,L,F,W,rfl,_⟩:=h;rfl
 .obtain⟨p,ra,ca,af,aw,b,L,F,W,rfl,D,k⟩:=h;obtain⟨⟨dx,ah,hs,h1,h2,l,m,n⟩,⟨fs,f1,f2⟩,⟨c,i,j⟩,ne⟩:=id D;refine⟨_,(A4 (A9 (C9 K rfl T.b_tuple (jaC (M3 K (jv 0)) jaN)))),?_⟩;refine⟨_,rfl,p,C,dx,_,_,rfl,h1,U.cl,U.n6,a3k _ _ _ _ _ _,aw,_,rfl,.inl ⟨SqL.of i,λq g=>?_⟩⟩;have s2:=(Same.refl H).upd (o:=.tup c) g;exact k q c _ s2 A0 (j.same s2)
end
inductive Wk(rss:LLI)(cs:List (Option Int)):LLI->LLI->LLI->Nat->Prop
 |one {L:LLI}(ri:C3 L) (nd:L.Nodup) (h:∀v,v∈L↔v∈E6 cs):Wk rss cs (L.filter λv=>Ans rss v) L L 1
 |more {F W L L':LLI}{k:Nat}(h:Wk rss cs F W L k) (ne:L≠[]) (ri:C3 L') (nd:L'.Nodup) (hm:∀v,v∈L'↔∃u∈L,S7 rss cs F u v):Wk rss cs (F++L'.filter λv=>Ans rss v) (W++L') L' (k+1)
def b5f(rss:LLI)(cs:List (Option Int))(most:Int):Prop:=∃F W L k,Wk rss cs F W L k/\(most<W.length∨(L≠[]/\∃L':LLI,L'.Nodup/\(∀v∈L',∃u∈L,S7 rss cs F u v)/\most<W.length+L'.length))
theorem b5B{v:List Int}(h:∀x∈v,0<=x):∀x∈v,x<=v.sum:=by
 induction v with
 |nil=>intro x a;cases a
 |cons y v c =>
  intro x a;have h1:=h y au;have h2:=b0R v λz b=>h z (av _ b);rw[bt];rcases aD.mp a with rfl|a
  .omega
  .have:=c (λz b=>h z (av _ b)) x a;omega
theorem a5h{u:List Int}{j:Nat}(h:∀x∈u,0<=x):∀x∈bump u j,0<=x:=by
 intro x a;unfold bump at a;rcases eZ a with z|z
 .exact h x z
 .by_cases hj:j<u.length
  .have:=h _ (cY (h:=hj));rw[aq,aj hj]at z;simp at z;omega
  .rw[aq,cM (by omega)]at z;simp at z;omega
theorem b0J(n j:Nat):∀x∈I0 n j,0<=x:=by
 intro x a;unfold I0 at a;obtain⟨i,_,rfl⟩:=aL.mp a;split<;>omega
theorem a6H(n j:Nat)(a:j<n):I0 n j=bump (List.replicate n 0) j:=by
 refine dP (by rw[B5,C6,aV]) λi h1 h2=>?_;rw[B5]at h1;have e1:=K2 n j i h1;have e2:=V0 (List.replicate n 0) j i (by simpa using a);rw[aq,aj (by rw[B5];exact h1)]at e1;rw[aq,aj h2]at e2;simp only[Option.getD_some]at e1 e2;rw[e1,e2];simp only[aq,dW,a,h1,fj];by_cases e:i=j<;>simp[e]
theorem b1n(n:Nat):(List.replicate n (0:Int)).sum=0:=by
 induction n with
 |zero=>rfl
 |succ n a=>rw[cv,bt,a];rfl
theorem a9e(n j:Nat)(a:j<n):(I0 n j).sum=1:=by
 rw[a6H n j a,a3r _ _ (by simpa using a),b1n];rfl
theorem a6N{rss:LLI}{cs:List (Option Int)}{u:List Int}{j:Nat}(h:j∈StP rss cs u):j<u.length/\Q8 rss u j<0/\a4k (cs.getD j none) (u.getD j 0)=true:=by
 unfold StP at h;rw[aE,aE,aX,bf]at h;exact⟨h.1.1,h.1.2,h.2⟩
structure LvF(n k:Nat)(v:List Int):Prop where
 len:v.length=n
 nn:∀x∈v,0<=x
 sum:v.sum=k
theorem a1p{cs:List (Option Int)}{v:List Int}(h:v∈E6 cs):LvF cs.length 1 v:=by
 obtain⟨j,a,rfl⟩:=aL.mp (aE.mp h).1;exact⟨B5 _ _,b0J _ _,a9e _ _ (aX.mp a)⟩
theorem a8x{rss:LLI}{cs:List (Option Int)}{F:LLI}{u v:List Int}{n k:Nat}(a:LvF n k u)(h:S7 rss cs F u v):LvF n (k+1) v:=by
 obtain⟨j,b,rfl,_⟩:=h;have:=(a6N b).1;exact⟨by rw[C6];exact a.len,a5h a.nn,by rw[a3r _ _ this,a.sum];omega⟩
theorem Wk.lv{rss:LLI}{cs:List (Option Int)}{F W L:LLI}{k:Nat}(h:Wk rss cs F W L k):(∀v∈L,LvF cs.length k v)/\(∀v∈W,∃i,1<=i/\i<=k/\LvF cs.length i v)/\(∀v∈F,v∈W/\Ans rss v=true)/\F.length<=W.length/\L.length<=W.length/\1<=k/\k<=W.length+1/\(L≠[]->k<=W.length):=by
 induction h with
 |@one L ri nd h =>
  refine⟨λv a=>a1p ((h v).mp a),λv a=>⟨1,by omega,by omega,a1p ((h v).mp a)⟩,λv a=>aE.mp a,bB _ _,ao _,by omega,by omega,λne=>?_⟩;cases L with
  |nil=>exact absurd rfl ne
  |cons x L=>simp
 |@more F W L L' k h ne ri nd e n =>
  obtain⟨j,l,d,o,p,q,r,m⟩:=n;have b:∀v∈L',LvF cs.length (k+1) v:=λv a=>by
   obtain⟨u,f,g⟩:=(e v).mp a;exact a8x (j u f) g
  have:=bB (λv=>Ans rss v) L';have s:=m ne;refine⟨b,λv a=>?_,λv a=>?_,by rw[ak,ak];omega,by rw[ak];omega,by omega,by rw[ak];omega,λc=>?_⟩
  .rcases aA.mp a with z|z
   .obtain⟨i,q1,q2,q3⟩:=l v z;exact⟨i,q1,by omega,q3⟩
   .exact⟨k+1,by omega,by omega,b v z⟩
  .rcases aA.mp a with z|z
   .exact⟨aS _ (d v z).1,(d v z).2⟩
   .exact⟨aU _ (aE.mp z).1,(aE.mp z).2⟩
  .rw[ak];have:0<L'.length:=List.length_pos_iff.mpr c;omega
section
variable {P:Program}{w:World}{K:PySem.W.Frag}{mg:Str->Option Value}{base:Heap}{C:Addr}
inductive IspLeast(D:Addr)(vs:List V)(H:Hp)(Q:VK)(E:XK):Prop
 |mk (ra ca:Addr) (rss:LLI) (cs:List (Option Int)) (most:Nat) (mi:Int) (_:vs=[.ref ra,.ref ca,.int mi]) (_:mi=most) (_:SyAt H ra ca rss cs) (_:(most+1)*cs.length+200<=100000) (_:(∀q t pp zs tss ws F W k H',Same H H'->H' q=some (.tup [.ref t,.ref pp])->H' t=some (.tup zs)->Its H' zs tss->tss.Perm F->C3 tss->H' pp=some (.tup ws)->Its H' ws W->Wk rss cs F W [] k->W.length<=most->Q (.ref q) H')) (_:(∀H',Same H H'->b5f rss cs most->E (.ref D) none H')):IspLeast D vs H Q E
def a8h(D:Addr):Sp:=λvs H Q E=>IspLeast D vs H Q E
theorem sc_least:FnScope ["rows","caps","most","finder","room"] ["rows","caps","most"] (A1 a2f):=⟨rfl,rfl,rfl,by decide +kernel,rfl,by decide +kernel,by decide +kernel⟩
theorem b1Y{r:Addr}(X:FunAt K mg "least" a2f ["rows","caps","most"])(T:Tx mg)(U:FiTx K C)(a:Cls K C)(I:MakeOk P w K mg base "Finder" C 1 ["self","rows","caps"] (a8l C))(g:MethOk P w K mg base C "step_within" 6 ["self","room"] (a4x C))(n:MethOk P w K mg base C "ended" 1 ["self"] (a4B C))(t:MethOk P w K mg base C "told" 1 ["self"] (a6O C))(p:MethOk P w K mg base C "paper" 1 ["self"] (a4z C))
  (D:OwnCls "TooMany" r [.type "ValueError",.type "Exception",.type "BaseException",.type "object"] "ValueError.__new__" mg base):OkE P w K mg base "least" 7 ["rows","caps","most"] (a8h r):=by
 refine X.okE sc_least (λvs H Q E h=>?_) (λc2 f A b9 s H vs Q E hr h=>?_)
 .obtain⟨ra,ca,rss,cs,most,mi,rfl,_⟩:=h;rfl
 .obtain⟨ra,ca,rss,cs,most,_,rfl,rfl,Y,hbig,kq,ke⟩:=h;refine⟨_,(A2 (B3 (i:=3) sc_least.nd rfl (Or.inl rfl) (b7h I (hr.mono (by omega)) rfl (jaC (jv 0) (jaC (jv 1) jaN))))
 (A2 (B3 (i:=4) sc_least.nd rfl (Or.inl rfl) (jv 2))
 (A2 (a6l (M1 (D4 K (a4W n a (hr.mono (by omega)) (jv 3))))
 (A2 (B3 (i:=4) sc_least.nd rfl (Or.inl rfl) (a8F (jv 4) (b7g g a (hr.mono (by omega)) (jv 3) (jaC (jv 4) jaN))))
 (A4 (D5 (a8C (jv 4) A5)
 (A4 (b2n D PySem.F.excBase_ValueError rfl PySem.F.excBase_ValueError rfl (jaC b8n jaN)))
 C1))) (hp:=PassesOwn.leaving))
 (A4 (A9 (X2 (jaC (a4W t a (hr.mono (by omega)) (jv 3)) (jaC (a4W p a (hr.mono (by omega)) (jv 3)) jaN)))))))),?_⟩
  refine⟨_,rfl,_,rfl,λx dx hx b0 N=>?_⟩;have b8:upd H dx (.own x) x=none:=by rw[A3 N.symm];exact hx
  have s0:Same H (upd (upd H dx (.own x)) x (.ins C dx [])):=((Same.refl H).upd b0).upd b8;refine⟨x,dx,ra,ca,rfl,A0,λaf aw H1 a8 a9 D1 _ kp=>⟨rfl,?_⟩⟩;have a0:H af=none:=s0.free a8;have a1:H aw=none:=s0.free a9;have s1:Same H H1:=λb o e=>kp b o (s0 b o e) (A7 e hx);dsimp only[B0];refine⟨_,rfl,?_⟩;dsimp only[B0];have hz:(300000:Nat)<=sizeLine:=by rw[a_];decide
  refine Z2 (λσ H'=>σ=[some (.ref ra),some (.ref ca),some (.int most),some (.ref x),σ.getD 4 none]/\Same H H'/\∃F W k,FAt C H' x ra ca af aw true [] F W/\Wk rss cs F W [] k/\W.length<=most) ?fin λfin=>?_
  case fin =>
   rintro σ H2 ⟨hσ,s2,F,W,k,O,J,S⟩;obtain⟨⟨a4,ah,hs,h1,h2,h3,h4,h5⟩,_,_,_⟩:=id O;have a2:=J.lv;rw[hσ];refine b3K rfl O (λv M=>?_) λq1 zs c0 H3 s3 b5 a5 b4 b7=>?_
   .obtain⟨i,_,_,lv⟩:=a2.2.1 v (a2.2.2.1 v M).1;rw[lv.len];exact Y.n1
   have D3:=O.same s3;obtain⟨⟨c3,c1,c9,g1,_⟩,_,_,_⟩:=id D3;refine b1p rfl D3 λq2 ws H4 s4 b6 a6=>?_;refine⟨by show 2<=sizeLine;omega,λq hq=>?_⟩;have s5:=(Same.refl H4).upd (o:=.tup [.ref q1,.ref q2]) hq;exact kq q q1 q2 zs c0 ws F W k _ (((s2.trans s3).trans s4).trans s5) A0 (s5 _ _ (s4 _ _ b5)) ((a5.same s4).same s5) b4 b7 (s5 _ _ b6) (a6.same s5) J S
  refine⟨λm σ H'=>∃(b:Bool) (L F W:LLI) (d:Int),σ=[some (.ref ra),some (.ref ca),some (.int most),some (.ref x),some (.int d)]/\Same H H'/\FAt C H' x ra ca af aw b L F W/\0<=d/\m=d.toNat+(if b=true/\L=[] then 0 else 1)/\((b=false/\L=[]/\F=[]/\W=[]/\d=most)∨(b=true/\∃k,Wk rss cs F W L k/\d=most-W.length)),
   ⟨_,false,[],[],[],_,rfl,s1,D1,by omega,rfl,.inl ⟨rfl,rfl,rfl,rfl,rfl⟩⟩,?_⟩
  rintro m σ H2 ⟨b,L,F,W,d,rfl,s2,O,r0,rfl,V⟩;obtain⟨⟨a4,ah,hs,h1,h2,h3,h4,h5⟩,_,_,_⟩:=id O;refine b1q rfl O ⟨_,rfl,?_⟩;have b3:=Y.n1;have c7:most+1<=(most+1)*cs.length:=Nat.le_mul_of_pos_right _ b3;by_cases he:b=true/\L=[]
  .obtain⟨rfl,rfl⟩:=he;refine D6 ?_;rcases V with⟨z,_⟩|⟨_,k,J,j⟩
   .cases z
   .exact fin _ _ ⟨rfl,s2,F,W,k,O,J,by omega⟩
  .have hb:(b && decide (L=[]))=false:=by
    cases b with
    |false=>rfl
    |true =>
     have:L≠[]:=λz=>he ⟨rfl,z⟩;simpa using this
   rw[hb,ar he];refine G1 ⟨λσ' H'=>∃(G X Z:LLI) (k:Nat) (l:Int),σ'=[some (.ref ra),some (.ref ca),some (.int most),some (.ref x),some (.int l)]/\Same H H'/\FAt C H' x ra ca af aw true G X Z/\0<=l/\Wk rss cs X Z G k/\l=most-Z.length/\l.toNat+(if G=[] then 0 else 1)<d.toNat+1,λσ' H' ⟨G,X,Z,k,l,e1,e2,e3,e4,e5,e6,e7⟩=>⟨_,e7,true,G,X,Z,l,e1,e2,e3,e4,by simp,.inr ⟨rfl,k,e5,e6⟩⟩,?_⟩;obtain⟨B,hB,hL,hF,c6,a7,c4⟩:∃B:Int,B<=2 ^ 60/\(∀v∈L,v.length=cs.length/\∀y∈v,0<=y/\y<=B)/\(∀v∈F,v.length=cs.length)/\W.length<=most/\L.length<=most/\F.length<=most:=by
    rcases V with⟨rfl,rfl,rfl,rfl,_⟩|⟨rfl,k,J,j⟩
    .exact⟨0,by omega,(λ_ z=>nomatch z),(λ_ z=>nomatch z),by simp,by simp,by simp⟩
    .obtain⟨i1,i2,i3,i4,i5,i6,i7,i8⟩:=J.lv;refine⟨k,by omega,λv M=>⟨(i1 v M).len,λy hy=>⟨(i1 v M).nn y hy,?_⟩⟩,λv M=>?_,by omega,by omega,by omega⟩
     .have:=b5B (i1 v M).nn y hy;rw[(i1 v M).sum]at this;exact this
     .obtain⟨i,_,_,lv⟩:=i2 v (i3 v M).1;exact lv.len
   have c5:L.length*cs.length<=most*cs.length:=Nat.mul_le_mul_right _ a7;have c8:(most+1)*cs.length=most*cs.length+cs.length:=by rw[Nat.add_mul,Nat.one_mul]
   refine⟨_,rfl,b1o rfl rfl O (Y.same s2) (.inr ⟨d,rfl,r0⟩) hL hB hF (by omega) (by omega) (by omega) λG H3 R D3 _ a3=>?_⟩;refine⟨_,_,rfl,rfl,?_⟩;dsimp only[B0];have s3:Same H H3:=λc o e=>a3 c o (by simpa using⟨A7 e hx,A7 e a0,A7 e a1⟩) (s2 c o e);have key:(∃k,Wk rss cs (F++G.filter λv=>Ans rss v) (W++G) G k/\d=most-W.length)∨(d<G.length/\b5f rss cs most):=by
    rcases V with⟨rfl,rfl,rfl,rfl,j⟩|⟨rfl,k,J,j⟩
    .exact .inl ⟨1,by simpa using Wk.one R.ri R.nd (R.fst rfl),by simpa using j⟩
    .have N:L≠[]:=λz=>he ⟨rfl,z⟩;rcases R.all rfl with ha|⟨m',e',b2⟩
     .exact .inl ⟨k+1,.more J N R.ri R.nd λv=>⟨R.snd rfl v,λ⟨u,hu,M⟩=>ha u hu v M⟩,j⟩
     .cases e';exact .inr ⟨b2,F,W,L,k,J,.inr ⟨N,G,R.nd,R.snd rfl,by omega⟩⟩
   refine⟨_,rfl,_,_,rfl,rfl,_,rfl,a0y (λe=>?_) (λe=>?_)⟩
   .have e':d-(G.length:Int)<0:=bw e;refine⟨by rw[a_];decide,ke _ s3 ?_⟩;rcases key with⟨k,J,j⟩|⟨_,ho⟩
    .exact⟨_,_,_,k,J,.inl (by rw[ak];omega)⟩
    .exact ho
   .have e':¬d-(G.length:Int)<0:=λz=>e (bg z);rcases key with⟨k,J,j⟩|⟨b1,_⟩
    .refine⟨G,_,_,k,_,rfl,s3,D3,by omega,J,by rw[ak];omega,?_⟩;cases G with
     |nil=>simp
     |cons y G=>simp only[a']at e'⊢;rw[ar (by simp)];omega
    .exact absurd b1 (by omega)
end
structure Answer(rss:LLI)(n:Nat)(v:List Int):Prop where
 len:v.length=n
 nn:∀x∈v,0<=x
 ans:Ans rss v=true
 pos:0<v.sum
structure Least(rss:LLI)(cs:List (Option Int))(v:List Int):Prop where
 an:Answer rss cs.length v
 wi:Wi cs v=true
 min:∀u,Answer rss cs.length u->Under u v->u=v
theorem Under.refl(v:List Int):Under v v:=⟨rfl,λ_ _=>eT _⟩
theorem Under.trans{a b c:List Int}(h:Under a b)(g:Under b c):Under a c :=
 ⟨h.1.trans g.1,λj d=>Int.le_trans (h.2 j (by rw[g.1];exact d)) (g.2 j d)⟩
theorem Under.eq{a b:List Int}(h:Under a b)(hs:b.sum<=a.sum):a=b:=by
 refine bN λne=>?_;have:=h.sum.2 ne;omega
theorem a0W{cs:List (Option Int)}{v:List Int}(h:v.length=cs.length):Wi cs v=true↔∀j,j<cs.length->a3E (cs.getD j none) (v.getD j 0)=true:=by
 unfold Wi;induction cs generalizing v with
 |nil=>simp
 |cons c cs b =>
  cases v with
  |nil=>cases h
  |cons x v =>
   rw[bh,cX,aG,b (by simpa using h)];constructor
   .rintro⟨h1,h2⟩ j a;cases j with
    |zero=>exact h1
    |succ j=>exact h2 j (by simpa using a)
   .intro h1;exact⟨h1 0 (by simp),λj a=>h1 (j+1) (by simpa using a)⟩
theorem b0m{c:Option Int}{x y:Int}(h:a3E c y=true)(a:x<=y):a3E c x=true:=by
 cases c with
 |none=>rfl
 |some c =>
  have:y<=c:=bw h;exact bg (by omega)
theorem a1Z{cs:List (Option Int)}{u v:List Int}(a:v.length=cs.length)(h:Wi cs v=true)(c:Under u v):Wi cs u=true:=by
 rw[a0W a]at h;rw[a0W (by rw[c.1];exact a)];intro j b;exact b0m (h j b) (c.2 j (by rw[a];exact b))
theorem b3j{rss:LLI}{v:List Int}(h:Ans rss v=true)(j:Nat):Q8 rss v j=0:=by
 unfold Q8 N7;unfold Ans at h;induction rss with
 |nil=>rfl
 |cons r rss a =>
  rw[cX,aG,bf]at h;rw[aZ,bh,bt,a h.2,h.1];omega
theorem E4{f v:List Int}(a:f.length=v.length):Bel f v=true↔Under f v:=by
 constructor
 .intro h;refine⟨a,?_⟩;unfold Bel at h;induction f generalizing v with
  |nil =>
   intro j b;rw[<-a]at b;simp at b
  |cons x f c =>
   cases v with
   |nil=>cases a
   |cons y v =>
    rw[bh,cX,aG]at h;intro j b;cases j with
    |zero=>exact bw h.1
    |succ j=>exact c (by simpa using a) h.2 j (by simpa using b)
 .intro h;unfold Bel;induction f generalizing v with
  |nil=>rfl
  |cons x f c =>
   cases v with
   |nil=>cases a
   |cons y v =>
    obtain⟨h1,h2⟩:=h.tail;rw[bh,cX,c (by simpa using a) h2,Bool.and_true];exact bg h1
theorem N3{rss:LLI}{cs:List (Option Int)}:∀(m:Nat) {u:List Int},u.sum<=m->Answer rss cs.length u->Wi cs u=true->∃a,Least rss cs a/\Under a u
 |0,u,e,h,_=>absurd h.pos (by omega)
 |m+1,u,e,h,hw=>by
  by_cases c:∃t,Answer rss cs.length t/\Under t u/\t≠u
  .obtain⟨t,h1,h2,h3⟩:=c;have:=h2.sum.2 h3;obtain⟨a,d,b⟩:=N3 m (u:=t) (by omega) h1 (a1Z h.len hw h2);exact⟨a,d,b.trans h2⟩
  .exact⟨u,⟨h,hw,λt f b=>bN λne=>c ⟨t,f,b,ne⟩⟩,Under.refl u⟩
theorem a2G:∀{v:List Int},(∀x∈v,0<=x)->0<v.sum->∃j,j<v.length/\1<=v.getD j 0
 |[],_,h=>by simp at h
 |x::v,a,h=>by
  by_cases b:1<=x
  .exact⟨0,by simp,by simpa using b⟩
  .have h0:=a x au;rw[bt]at h;obtain⟨j,h1,h2⟩:=a2G (v:=v) (λy c=>a y (av _ c)) (by omega);exact⟨j+1,by simpa using h1,by simpa using h2⟩
theorem b5C{v:List Int}(h:∀x∈v,0<=x)(j:Nat):0<=v.getD j 0:=by
 rw[aq];cases e:v[j]? with
 |none=>simp
 |some x=>simpa using h x (aI e)
structure WkOk(rss:LLI)(cs:List (Option Int))(F L:LLI)(k:Nat):Prop where
 wi:∀v∈L,Wi cs v=true
 bar:∀v∈L,∀f∈F,Under f v->f=v
 snd:∀f∈F,Least rss cs f
 all:∀a,Least rss cs a->a.sum<=k->a∈F
 up:∀a,Least rss cs a->k<=a.sum->∃v∈L,Under v a
theorem Wk.ok{rss:LLI}{cs:List (Option Int)}{F W L:LLI}{k:Nat}(hR:∀r∈rss,r.length=cs.length)(h:Wk rss cs F W L k):WkOk rss cs F L k:=by
 induction h with
 |@one L ri nd h =>
  have l:∀v∈L,LvF cs.length 1 v:=λv g=>a1p ((h v).mp g);have o:∀v∈L,Wi cs v=true:=λv g=>(aE.mp ((h v).mp g)).2;have s:∀a,Least rss cs a->((1:Nat):Int)<=a.sum->∃v∈L,Under v a:=λa b _=>by
   obtain⟨j,h1,h2⟩:=a2G b.an.nn b.an.pos;rw[b.an.len]at h1;have d:Under (I0 cs.length j) a:=⟨by rw[B5,b.an.len],λi hi=>by
    rw[b.an.len]at hi;rw[K2 _ _ _ hi];by_cases e:i=j
    .rw[az e,e];exact h2
    .rw[ar e];exact b5C b.an.nn i⟩
   exact⟨_,(h _).mpr (aE.mpr ⟨aL.mpr ⟨j,aX.mpr h1,rfl⟩,a1Z b.an.len b.wi d⟩),d⟩
  refine⟨o,λv g f m d=>?_,λf m=>?_,λa b hs=>?_,s⟩
  .have h1:=(l v g).sum;have h2:=(l f (aE.mp m).1).sum;exact d.eq (by omega)
  .obtain⟨hf1,n⟩:=aE.mp m;have lv:=l f hf1;refine⟨⟨lv.len,lv.nn,n,by rw[lv.sum];decide⟩,o f hf1,λu p d=>d.eq ?_⟩;have:=p.pos;rw[lv.sum];omega
  .obtain⟨v,g,d⟩:=s a b (by have:=b.an.pos;omega);have h1:=(l v g).sum;have:v=a:=d.eq (by omega);subst this;exact aE.mpr ⟨g,b.an.ans⟩
 |@more F W L L' k h ne ri nd J C =>
  obtain⟨K,Y,S,Z,i5,i6,i7,i8⟩:=h.lv;have l:∀v∈L',LvF cs.length (k+1) v:=λv g=>by
   obtain⟨u,p,X⟩:=(J v).mp g;exact a8x (K u p) X
  have y:∀f∈F,f.length=cs.length/\f.sum<=k:=λf m=>by
   obtain⟨i,q1,q2,lv⟩:=Y f (S f m).1;exact⟨lv.len,by rw[lv.sum];omega⟩
  have s:∀a,Least rss cs a->((k+1:Nat):Int)<=a.sum->∃v∈L',Under v a:=λa b hs=>by
   obtain⟨v,g,d⟩:=C.up a b (by omega);have lv:=K v g;have hva:v≠a:=λz=>by rw[<-z,lv.sum]at hs;omega
   have P:Ans rss v=false:=by
    cases e:Ans rss v with
    |false=>rfl
    |true=>exact absurd (b.min v ⟨lv.len,lv.nn,e,by rw[lv.sum];omega⟩ d) hva
   have U:=b5x rss v a (λr V=>by rw[hR r V,b.an.len]) d hva b.an.ans;obtain⟨j,t⟩:=dJ _ U;have H:=a7f t;have N:Q8 rss v j<0:=by
    unfold Pl at t;rw[aE,P,dj,aG]at t;exact bw t.2.2
   have D:Under (bump v j) a:=d.bump t;have hw:=(a0W b.an.len).mp b.wi j (by rw[<-b.an.len];exact H.1);refine⟨bump v j,(J _).mpr ⟨v,g,j,?_,rfl,?_⟩,D⟩
   .unfold StP;rw[aE,aE,aX,bf];refine⟨⟨by rw[d.1];exact H.1,N⟩,?_⟩;cases e:cs.getD j none with
    |none=>rfl
    |some c =>
     rw[e]at hw;have:a.getD j 0<=c:=bw hw;exact bg (by omega)
   .cases e:Bar F (bump v j) j with
    |false=>rfl
    |true =>
     unfold Bar at e;obtain⟨f,m,n⟩:=bD.mp e;rw[aG]at n;have A:=(y f m).1;have B:Under f a:=((E4 (by rw[A,C6,lv.len])).mp n.2).trans D;have:=b.min f (C.snd f m).an B;have h2:=(y f m).2;rw[this]at h2;omega
  have o:∀v∈L',Wi cs v=true:=λv g=>by
   obtain⟨u,p,j,t,rfl,_⟩:=(J v).mp g;have w:=(K u p).len;have q:=a6N t;have hw:=C.wi u p;rw[a0W w]at hw;rw[a0W (by rw[C6];exact w)];intro i hi;rw[V0 _ _ _ q.1];by_cases e:i=j
   .rw[az e,e];have I:=q.2.2;cases T:cs.getD j none with
    |none=>rfl
    |some c =>
     rw[T]at I;have:u.getD j 0<c:=bw I;exact bg (by omega)
   .rw[ar e];exact hw i hi
  have x:∀v∈L',∀f∈F++L'.filter (λv=>Ans rss v),Under f v->f=v:=λv g f m d=>by
   rcases aA.mp m with z|z
   .obtain⟨u,p,j,t,rfl,hb⟩:=(J v).mp g;have w:=(K u p).len;have q:=a6N t;have A:=(y f z).1;exfalso;by_cases e:f.getD j 0=(bump u j).getD j 0
    .have:Bar F (bump u j) j=true:=by
      unfold Bar;exact bD.mpr ⟨f,z,by rw[aG];exact⟨bg e,(E4 d.1).mpr d⟩⟩
     rw[this]at hb;cases hb
    .have B:Under f u:=⟨by rw[A,w],λi hi=>by
      have h1:=d.2 i (by rw[C6];exact hi);rw[V0 _ _ _ q.1]at h1;by_cases R:i=j
      .subst R;rw[V0 _ _ _ q.1,az rfl]at e;rw[az rfl]at h1;omega
      .rw[ar R]at h1;exact h1⟩
     have h2:=C.bar u p f z B;have I:=b3j (S f z).2 j;rw[h2]at I;omega
   .have h1:=(l v g).sum;have h2:=(l f (aE.mp z).1).sum;exact d.eq (by omega)
  have E:∀a,Least rss cs a->a.sum<=((k+1:Nat):Int)->a∈F++L'.filter (λv=>Ans rss v):=λa b hs=>by
   by_cases h1:a.sum<=(k:Int)
   .exact aS _ (C.all a b h1)
   .obtain⟨v,g,d⟩:=s a b (by omega);have h2:=(l v g).sum;have:v=a:=d.eq (by omega);subst this;exact aU _ (aE.mpr ⟨g,b.an.ans⟩)
  refine⟨o,x,λf m=>?_,E,s⟩;rcases aA.mp m with z|z
  .exact C.snd f z
  .obtain⟨hf1,n⟩:=aE.mp z;have lv:=l f hf1;refine⟨⟨lv.len,lv.nn,n,by rw[lv.sum];omega⟩,o f hf1,λu p d=>?_⟩;refine bN λQ=>?_;have O:=d.sum.2 Q;rw[lv.sum]at O;obtain⟨a,b,G⟩:=N3 (rss:=rss) (cs:=cs) u.sum.toNat (by have:=p.pos;omega) p (a1Z lv.len (o f hf1) d);have hs:=G.sum.1;have M:=C.all a b (by omega);have:=x f hf1 a (aS _ M) (G.trans d);rw[this,lv.sum]at hs;omega
theorem Wk.least{rss:LLI}{cs:List (Option Int)}{F W:LLI}{k:Nat}(hR:∀r∈rss,r.length=cs.length)(h:Wk rss cs F W [] k)(v:List Int):v∈F↔Least rss cs v:=by
 have o:=h.ok hR;refine⟨o.snd v,λa=>?_⟩;by_cases hs:v.sum<=(k:Int)
 .exact o.all v a hs
 .obtain⟨u,hu,_⟩:=o.up v a (by omega);cases hu
theorem Wk.nd{rss:LLI}{cs:List (Option Int)}{F W L:LLI}{k:Nat}(h:Wk rss cs F W L k):W.Nodup/\F.Nodup:=by
 induction h with
 |@one L ri nd h=>exact⟨nd,nd.sublist List.filter_sublist⟩
 |@more F W L L' k h ne ri nd f d =>
  obtain⟨l,m,n,o,p,q,r,s⟩:=h.lv;have a:∀v∈W,∀u∈L',v≠u:=λv c u b e=>by
   obtain⟨i,q1,w,lv⟩:=m v c;obtain⟨t,g,j⟩:=(f u).mp b;have:=(a8x (l t g) j).sum;rw[<-e,lv.sum]at this;omega
  refine⟨eE.mpr ⟨d.1,nd,a⟩,eE.mpr ⟨d.2,nd.sublist List.filter_sublist,λv c u b=>a v (n v c).1 u (aE.mp b).1⟩⟩
theorem J5:∀{a b:LLI},C3 a->C3 b->a.Nodup->b.Nodup->(∀v,v∈a↔v∈b)->a=b
 |[],[],_,_,_,_,_=>rfl
 |[],y::b,_,_,_,_,h=>by have:=(h y).mpr au;cases this
 |x::a,[],_,_,_,_,h=>by have:=(h x).mp au;cases this
 |x::a,y::b,ra,rb,na,nb,h=>by
  obtain⟨j,k⟩:=cp.mp ra;obtain⟨q1,i⟩:=cp.mp rb;obtain⟨f,g⟩:=bR.mp na;obtain⟨c,d⟩:=bR.mp nb;have e:x=y:=by
   refine K3 x y ?_ ?_
   .rcases aD.mp ((h x).mp au)with z|z
    .rw[z];exact G0 y
    .exact q1 x z
   .rcases aD.mp ((h y).mpr au)with z|z
    .rw[z];exact G0 x
    .exact j y z
  subst e;rw[J5 k i g d λv=>?_];constructor
  .intro hv;rcases aD.mp ((h v).mp (av _ hv))with z|z
   .exact absurd (z ▸ hv) f
   .exact z
  .intro hv;rcases aD.mp ((h v).mpr (av _ hv))with z|z
   .exact absurd (z ▸ hv) c
   .exact z
theorem Z8{H:Hp}{a b:Addr}{n:Nat}(h:PotAt H a b n){c:Addr}(d:H c=none):c∉[a,b]:=by
 obtain⟨_,cs,t,k,h1,h2,_⟩:=h;simp only[aD,bS,c_,not_or];exact⟨(A7 h1 d).symm,(A7 h2 d).symm⟩
theorem a0O{H:Hp}{a b:Addr}{n:Nat}(h:PotAt H a b n){c:Addr}{o:HO}(d:c∉[a,b]):PotAt (upd H c o) a b n:=by
 simp only[aD,bS,c_,not_or]at d;obtain⟨ne,cs,t,f,e1,e2,e⟩:=h;exact⟨ne,cs,t,f,by rw[A3 (dq d.1)];exact e1,by rw[A3 (dq d.2)];exact e2,e⟩
section
variable {P:Program}{w:World}{K:PySem.W.Frag}{mg:Str->Option Value}{base:Heap}
theorem b5I{n k:Nat}(h:k<n):ixN n (k:Int)=some k:=by
 unfold ixN;rw[az (by omega),az (by omega)];rfl
theorem a9w{src:List (Option Nat)}{σ caps:L2.St}{Q:VK}{n f c:Nat}{H:Hp}{a b:Addr}{te:TE}(R:Int->Prop)(o:n<=1000)(j:B1 src σ=none::caps)(m:PotAt H a b f)
  (l:∀(i:Nat) (H':Hp) (N:VK),i<n->PotAt H' a b (f+c*i)->(∀r d,R r->PotAt d a b (f+c*i+c)->Off [a,b] H' d->N (.int r) d)->te (some (.int i)::caps) H' N)
  (hd:∀H' p (xs:List Int),xs.length=n->(∀x∈xs,R x)->PotAt H' a b (f+c*n)->Off [a,b] H H'->H' p=none->Q (.ref p) (upd H' p (.lst (xs.map V.int)))):E9 src (B0 0) O5 te σ Q (Itr 0 n) H:=by
 refine a0M o j (λi ys H'=>Ex1 λ(xs:List Int)=>An5 (ys=xs.map V.int) (xs.length=i) ((∀x∈xs,R x)) (PotAt H' a b (f+c*i)) (Off [a,b] H H')) ⟨[],rfl,rfl,(λ_ z=>nomatch z),m,Off.refl _ _⟩ (λi ys H' h=>by obtain⟨xs,e,e2,_⟩:=h;rw[e,ae,e2];exact ao _) ?_ ?_
 .rintro i ys H' hi ⟨xs,rfl,e2,hR,hP',off⟩;refine l i H' _ hi hP' λr d s g k=>⟨xs++[r],by simp,by simp[e2],λx t=>?_,?_,off.trans k⟩
  .rcases aA.mp t with q|q
   .exact hR x q
   .rw[aQ.mp q];exact s
  .have:f+c*(i+1)=f+c*i+c:=by rw[Nat.mul_add,Nat.mul_one,dY]
   rw[this];exact g
 .rintro ys H' ⟨xs,rfl,e2,hR,hP',off⟩ p hp;exact hd H' p xs e2 hR hP' off hp
theorem a1e{l:List Addr}{H H':Hp}{p:Addr}{o:HO}(s:Off l H H')(hp:H p=none):Off l H (upd H' p o):=λb u a e=>by
 rw[A3 (A7 e hp)];exact s b u a e
theorem b2d{H H':Hp}{a b:Addr}{n:Nat}{p:Addr}(o:Off [a,b] H H')(c:PotAt H' a b n)(hp:H' p=none):H p=none:=by
 rcases e:H p with _|u
 .rfl
 .have:=o _ _ (Z8 c hp) e;rw[hp]at this;cases this
theorem a8J{H H':Hp}{vs:List V}{rss:LLI}{a b:Addr}{n:Nat}(h:Its H vs rss)(c:PotAt H a b n)(o:Off [a,b] H H'):Its H' vs rss:=⟨h.1,λi v e=>let ⟨r,e1,e2⟩:=h.2 i v e;⟨r,e1,IT.off e2 c o⟩⟩
end
def Bd(B:Int)(r:List Int):Prop:=∀z∈r,-B<=z/\z<=B
section
variable {P:Program}{w:World}{K:PySem.W.Frag}{mg:Str->Option Value}{base:Heap}
inductive IspNumber(vs:List V)(H:Hp)(Q:VK)(E:XK):Prop
 |mk (a b:Addr) (n:Nat) (far:Int) (_:vs=[.ref a,.int far]) (_:0<=far) (_:far<=1000000000000) (_:PotAt H a b n) (_:n+10<2 ^ 60) (_:∀r H',-(far+3)<=r->r<=far+3->PotAt H' a b (n+3)->Off [a,b] H H'->Q (.int r) H'):IspNumber  vs H Q E
def a5C:Sp:=λvs H Q E=>IspNumber  vs H Q E
theorem a2y:FnScope ["_law_pot_here","_law_far"] ["_law_pot_here","_law_far"] (A1 K9):=⟨rfl,rfl,rfl,by decide +kernel,rfl,by decide +kernel,by decide +kernel⟩
theorem a9J(F:FunAt K mg "_law_number" K9 ["_law_pot_here","_law_far"])(T:Tx mg)(c:Ok P w K mg base "_law_take" 1 ["_law_pot_here","_law_many"] a1a):Ok P w K mg base "_law_number" 2 ["_law_pot_here","_law_far"] a5C:=by
 refine F.okJ a2y (λvs H Q E h=>?_) (λp f A m s H vs Q E l h=>?_)
 .obtain⟨a,b,n,far,rfl,_⟩:=h;rfl
 .obtain⟨a,b,n,far,rfl,hf0,hf1,hP,hn,k⟩:=h;refine⟨_,(A2 (D5 (a1S (a1l (b2l (jv 1) A5) (a0d (a1H (A6 c (l.mono (by omega)) rfl (jaC (jv 0) (jaC A5 jaN))) A5))))
 (A4 (A9 (a8F (A6 c (l.mono (by omega)) rfl (jaC (jv 0) (jaC (Q0 (a3a A5 (jv 1)) A5) jaN))) (jv 1))))
 C1)
 (A4 (A9 (a8F (A6 c (l.mono (by omega)) rfl (jaC (jv 0) (jaC A5 jaN))) A5)))),?_⟩
  refine⟨_,rfl,_,_,rfl,rfl,_,rfl,a0y (λe=>?_) (λe=>?_)⟩
  .have e':0<far:=bw e;refine⟨_,rfl,a,b,_,4,rfl,hP,by omega,by decide,by decide,λy H1 t u j i=>?_⟩;refine⟨rfl,_,rfl,a0y (λe=>?_) (λe=>⟨_,rfl,a,b,_,7,rfl,j,by omega,by decide,by decide,λr H2 q h1 g d=>⟨_,_,rfl,rfl,k _ _ (by show _<=r-3;omega) (by show r-3<=_;omega) (g.mono (by omega)) (i.trans d)⟩⟩)⟩;refine⟨_,rfl,_,rfl,_,_,rfl,rfl,.inl ⟨by omega,by omega⟩,_,_,rfl,rfl,a,b,_,_,rfl,j,by omega,by omega,by omega,λo H2 v x g d=>?_⟩;exact⟨_,rfl,_,_,rfl,rfl,k _ _ (by show _<=o-far;omega) (by show o-far<=_;omega) (g.mono (by omega)) (i.trans d)⟩
  .exact D6 (⟨_,rfl,a,b,_,7,rfl,hP,by omega,by decide,by decide,λr H2 q h1 g d=>⟨_,_,rfl,rfl,k _ _ (by show _<=r-3;omega) (by show r-3<=_;omega) (g.mono (by omega)) ((Off.refl _ _).trans d)⟩⟩)
inductive IspSys(vs:List V)(H:Hp)(Q:VK)(E:XK):Prop
 |mk (a b:Addr) (n:Nat) (wide far:Int) (_:vs=[.ref a,.int wide,.int far]) (_:1<=wide) (_:wide<=8) (_:0<=far) (_:far<=1000000000000) (_:PotAt H a b n) (_:n+1000<2 ^ 60) (_:∀q qr us rss (m:Nat) H',H' q=some (.tup [.ref qr,.int m])->H' qr=some (.tup us)->Its H' us rss->us.length<=6->(∀r∈rss,r.length=m/\Bd (far+3) r)->1<=m->m<=8->(m:Int)<=max 4 wide->PotAt H' a b (n+200)->Off [a,b] H H'->Q (.ref q) H'):IspSys  vs H Q E
def b5n:Sp:=λvs H Q E=>IspSys  vs H Q E
theorem sc__law_system:FnScope ["_law_pot_here","_law_wide","_law_far","_law_width","_law_many","_law_great","_law_rows","_law_k"] ["_law_pot_here","_law_wide","_law_far"] (A1 K8):=⟨rfl,rfl,rfl,by decide +kernel,rfl,by decide +kernel,by decide +kernel⟩
theorem b6P(F:FunAt K mg "_law_system" K8 ["_law_pot_here","_law_wide","_law_far"])(T:Tx mg)(d:Ok P w K mg base "_law_take" 1 ["_law_pot_here","_law_many"] a1a)(p:Ok P w K mg base "_law_number" 2 ["_law_pot_here","_law_far"] a5C):Ok P w K mg base "_law_system" 3 ["_law_pot_here","_law_wide","_law_far"] b5n:=by
 refine F.okJ sc__law_system (λvs H Q E h=>?_) (λf6 f A f4 s H vs Q E S h=>?_)
 .obtain⟨a,b,n,wide,far,rfl,_⟩:=h;rfl
 .obtain⟨a,b,n,wide,far,rfl,hw1,hw8,hf0,hf1,hP,hn,k⟩:=h;have hz:(3000:Nat)<=sizeLine:=by rw[a_];decide
  refine⟨_,(A2 (B3 (i:=3) sc__law_system.nd rfl (Or.inl rfl) (Q0 A5 (A6 d (S.mono (by omega)) rfl (jaC (jv 0) (jaC A5 jaN)))))
 (A2 (D5 (a1H (A6 d (S.mono (by omega)) rfl (jaC (jv 0) (jaC A5 jaN))) A5)
 (A4 (B3 (i:=3) sc__law_system.nd rfl (Or.inl rfl) (Q0 A5 (A6 d (S.mono (by omega)) rfl (jaC (jv 0) (jaC (jv 1) jaN))))))
 C1)
 (A2 (B3 (i:=4) sc__law_system.nd rfl (Or.inl rfl) (A6 d (S.mono (by omega)) rfl (jaC (jv 0) (jaC A5 jaN))))
 (A2 (D5 (a1H (A6 d (S.mono (by omega)) rfl (jaC (jv 0) (jaC A5 jaN))) A5)
 (A4 (B3 (i:=4) sc__law_system.nd rfl (Or.inl rfl) (A6 d (S.mono (by omega)) rfl (jaC (jv 0) (jaC A5 jaN)))))
 C1)
 (A2 (B3 (i:=5) sc__law_system.nd rfl (Or.inr rfl) (a3a (jv 2) (b7d rfl T.b_int (jaC (a6k (A6 d (S.mono (by omega)) rfl (jaC (jv 0) (jaC A5 jaN))) A5) jaN))))
 (A2 (B3 (i:=6) sc__law_system.nd rfl (Or.inl rfl) (V4 jaN))
 (A2 (N9 (K4 rfl T.b_range (jaC (jv 4) jaN)) (A8 (i:=7) sc__law_system.nd rfl (Or.inl rfl))
 (A2 (T9 (a0e K (jv 6) (jaC (C9 K rfl T.b_tuple (jaC (B8 (N:=["_law_j","_law_pot_here","_law_great"]) (src:=[none,some 0,some 5]) (K4 rfl T.b_range (jaC (jv 3) jaN)) (by show B7 _ _=true;rfl) (by rfl) (by rfl)
 (λ_ _ _ _ _=>(A8 (i:=0) (show(["_law_j","_law_pot_here","_law_great"]:List Str).Nodup by decide +kernel) rfl (Or.inl rfl))) (λ_ _ _ _ _=>C4) (λ_ _ _ _ _=>(A6 p (S.mono (by omega)) rfl (jaC (jv 1) (jaC (jv 2) jaN))))) jaN)) jaN)))
 (A4 (D5 (a1S (a1l (b2l (jv 7) A5) (a0d (a1H (A6 d (S.mono (by omega)) rfl (jaC (jv 0) (jaC A5 jaN))) A5))))
 (A4 (a2X (M2 K (jv 6) (a8F (jv 7) A5)) (a7t (jv 6) (jv 7))))
 C1))))
 (A4 (A9 (X2 (jaC (C9 K rfl T.b_tuple (jaC (jv 6) jaN)) (jaC (jv 3) jaN)))))))))))),?_⟩
  refine⟨_,rfl,a,b,_,4,rfl,hP,by omega,by decide,by decide,λr1 H1 d5 d6 c9 Z=>?_⟩;refine⟨_,_,rfl,rfl,?_⟩;dsimp only[B0];refine Z2 (λσ H'=>Ex1 λ(m:Nat)=>An6 (σ=[some (.ref a),some (.int wide),some (.int far),some (.int m),none,none,none,none]) (1<=m) (m<=8) ((m:Int)<=max 4 wide) (PotAt H' a b (n+3)) (Off [a,b] H H')) ?fin λfin=>?_
  case fin =>
   rintro σ H3 ⟨m,rfl,e2,e3,e4,a6,G⟩;clear d5 d6 c9 Z hP;refine⟨_,rfl,a,b,_,3,rfl,a6,by omega,by decide,by decide,λr4 H4 d7 d8 d1 a2=>?_⟩;dsimp only[B0];refine Z2 (λσ H'=>Ex1 λ(N:Nat)=>An4 (σ=[some (.ref a),some (.int wide),some (.int far),some (.int m),some (.int N),none,none,none]) (N<=6) (PotAt H' a b (n+6)) (Off [a,b] H H')) ?fin2 λfin2=>?_
   case fin2 =>
    rintro σ H5 ⟨N,rfl,hN,X,I⟩;clear d7 d8 d1 a2 a6 G;refine⟨_,rfl,_,rfl,a,b,_,8,rfl,X,by omega,by decide,by decide,λr6 H6 _ _ R u=>?_⟩;refine⟨rfl,.inr ⟨_,rfl,?_⟩⟩;have u:=I.trans u;generalize decide (V.int r6=V.int 0)=cb;refine⟨_,_,rfl,rfl,.inr ⟨by cases cb<;>decide,by cases cb<;>decide⟩,?_⟩;obtain⟨g,hg,e1,g1⟩:∃g:Int,far*(if cb=true then 1 else 0)=g/\0<=g/\g<=far:=by
     cases cb
     .exact⟨0,by simp,by omega,by omega⟩
     .exact⟨far,by simp,by omega,by omega⟩
    dsimp only[B0];rw[hg];refine⟨bG _,λU c3=>?_⟩;have O:=Z8 R c3;have c1:=b2d u R c3;have s7:=(Same.refl H6).upd (o:=.lst []) c3;have e7:upd H6 U (.lst []) U=some (.lst []):=A0;have c0:=R.same s7;have b5:=a1e (o:=.lst []) u c1;generalize upd H6 U (.lst [])=H7 at s7 e7 c0 b5;dsimp only[B0];refine⟨_,rfl,_,rfl,by omega,by omega,?_⟩;rw[bA];refine a1o (lo:=0) (n:=N) (λi σ H'=>Ex3 λo7 y rss=>An7 (σ=[some (.ref a),some (.int wide),some (.int far),some (.int m),some (.int N),some (.int g),some (.ref U),o7]) (PotAt H' a b (n+7+30*i)) (Off [a,b] H H') (H' U=some (.lst y)) (Its H' y rss) (y.length=i) (∀r∈rss,r.length=m/\Bd (far+3) r)) ⟨none,[],[],rfl,c0.mono (by omega),b5,e7,.nil,rfl,λ_ z=>nomatch z⟩ ?_ ?_
    .rintro i σ H8 hi ⟨o7,y,rss,rfl,hP8,off8,e8,hI8,hul,hR8⟩;obtain⟨nn,d2⟩:∃nn,nn=n+7+30*i:=⟨_,rfl⟩;rw[<-d2]at hP8;have hb:nn+100<2 ^ 60:=by omega
     have en:nn+30=n+7+30*(i+1):=by omega
     clear d2 X I R c0 hn;dsimp only[B0];refine⟨_,rfl,.inl ⟨rfl,_,SqL.of e8⟩,?_⟩;refine⟨_,rfl,_,rfl,by omega,by omega,?_⟩;rw[bA];refine a9w (caps:=[some (.ref a),some (.int g)]) (c:=3) (λz => -(far+3)<=z/\z<=far+3) (by omega) rfl hP8 (λi' H' N' g2 hP' q=>⟨_,rfl,_,rfl,a,b,_,g,rfl,e1,by omega,hP',by omega,λr d3 h0 h1 c8 f3=>q r d3 ⟨by omega,by omega⟩ c8 f3⟩) ?_;intro H9 pw xs f0 f2 e0 a3 e5;have e9:=a3 _ _ O e8;have d9:=a8J hI8 hP8 a3;have c4:=off8.trans a3;have J:=(Same.refl H9).upd (o:=.lst (xs.map V.int)) e5;have a8:upd H9 pw (.lst (xs.map V.int)) pw=some (.lst (xs.map V.int)):=A0;have c6:=J _ _ e9;have a9:=d9.same J;have b1:=e0.same J;have a0:=c4.trans (J.off (l:=[a,b]));generalize upd H9 pw (.lst (xs.map V.int))=b6 at J a8 c6 a9 b1 a0;refine⟨pw,_,rfl,.inl ⟨SqL.of a8,λq hq=>?_⟩⟩;have a4:=(Same.refl b6).upd (o:=.tup (xs.map V.int)) hq;have b8:=a4 _ _ c6;have a7:upd b6 q (.tup (xs.map V.int)) q=some (.tup (xs.map V.int)):=A0;have b2:=b1.same a4;have b0:=a9.same a4;have a1:=a0.trans (a4.off (l:=[a,b]));generalize upd b6 q (.tup (xs.map V.int))=b7 at a4 b8 a7 b2 b0 a1;refine⟨U,_,_,rfl,rfl,b8,by omega,?_⟩;have W:Its (upd b7 U (.lst (y++[.ref q]))) (y++[.ref q]) (rss++[xs]):=a0f (b0.snoc ⟨q,rfl,a7⟩) b8 (λ_ z=>by cases z);have b9:upd b7 U (.lst (y++[.ref q])) U=some (.lst (y++[.ref q])):=A0;have L:=a0O (o:=.lst (y++[.ref q])) b2 O;have B:=a1e (o:=.lst (y++[.ref q])) a1 c1;generalize upd b7 U (.lst (y++[.ref q]))=f5 at W b9 L B;have M:∀r∈rss++[xs],r.length=m/\Bd (far+3) r:=λr S=>by
      rcases aA.mp S with z|z
      .exact hR8 r z
      .rw[aQ.mp z];exact⟨f0,f2⟩
     have Y:(y++[V.ref q]).length=i+1:=by simp[hul]
     refine⟨_,rfl,_,_,rfl,rfl,_,rfl,a0y (λe=>?_) (λe=>?_)⟩
     .have hi0:0<i:=by have:=bw e;omega
      refine⟨_,rfl,a,b,_,8,rfl,L,by omega,by decide,by decide,λg4 d4 _ _ b3 C=>?_⟩;have a5:=C _ _ O b9;have D:=a8J W L C;refine⟨rfl,_,rfl,a0y (λe=>?_) (λe=>?_)⟩
      .obtain⟨x,hx⟩:∃x,(y++[V.ref q])[i-1]?=some x:=⟨_,aj (by omega)⟩;obtain⟨r,S,g3,f1⟩:=D.mem hx;refine⟨_,rfl,_,rfl,_,_,rfl,rfl,U,_,_,x,rfl,rfl,SqL.of a5,?_,?_⟩
       .rw[show(0+(i:Int)-1)=((i-1:Nat):Int) by omega];exact a2m hx
       refine⟨_,rfl,_,rfl,U,_,_,i,rfl,rfl,a5,?_,?_⟩
       .rw[Int.zero_add];exact b5I (by omega)
       have c7:Its d4 ((y++[V.ref q]).set i x) ((rss++[xs]).set i r):=by
        refine⟨by rw[eV,eV,D.1],λj v ej=>?_⟩;rw[fE]at ej;by_cases c2:i=j
        .subst c2;rw[az rfl,az (by omega)]at ej;cases ej;exact⟨r,by rw[fE,az rfl,az (by rw[<-D.1];omega)],f1⟩
        .rw[ar c2]at ej;obtain⟨q,q1,q2⟩:=D.2 j v ej;exact⟨q,by rw[fE,ar c2];exact q1,q2⟩
       refine⟨_,_,_,rfl,en ▸ a0O (b3.mono (by omega)) O,a1e (B.trans C) c1,A0,a0f c7 a5 (λ_ z=>by cases z),by rw[eV];exact Y,λq hq=>?_⟩;rcases eZ hq with z|z
       .exact M q z
       .rw[z];exact M r S
      .exact⟨_,_,_,rfl,en ▸ b3.mono (by omega),B.trans C,a5,D,Y,M⟩
     .exact⟨_,_,_,rfl,en ▸ L.mono (by omega),B,b9,W,Y,M⟩
    .rintro σ H8 ⟨o7,y,rss,rfl,hP8,off8,e8,hI8,hul,hR8⟩;refine⟨_,rfl,U,_,rfl,.inl ⟨SqL.of e8,λq hq=>?_⟩⟩;have s9:=(Same.refl H8).upd (o:=.tup y) hq;have e9:upd H8 q (.tup y) q=some (.tup y):=A0;generalize upd H8 q (.tup y)=H9 at s9 e9;refine⟨_,rfl,by show 2<=sizeLine;omega,λq2 e6=>?_⟩;have J:=(Same.refl H9).upd (o:=.tup [.ref q,.int m]) e6;have c5:=s9.trans J;exact k q2 q y rss m _ A0 (J _ _ e9) (hI8.same c5) (by omega) hR8 e2 e3 e4 ((hP8.same c5).mono (by omega)) (off8.trans c5.off)
   obtain⟨N4,rfl⟩:∃t:Nat,r4=t:=⟨r4.toNat,by omega⟩;refine⟨_,rfl,a,b,_,8,rfl,d1,by omega,by decide,by decide,λr5 H5 _ _ X I=>?_⟩;refine⟨rfl,_,rfl,a0y (λe=>?_) (λe=>fin2 _ _ ⟨N4,rfl,by omega,X.mono (by omega),(G.trans a2).trans I⟩)⟩;refine⟨_,rfl,a,b,_,7,rfl,X,by omega,by decide,by decide,λr6 H6 f9 g0 R u=>?_⟩;obtain⟨N6,rfl⟩:∃t:Nat,r6=t:=⟨r6.toNat,by omega⟩;exact fin2 _ _ ⟨N6,rfl,by omega,R.mono (by omega),((G.trans a2).trans I).trans u⟩
  obtain⟨t1,rfl⟩:∃t:Nat,r1=t:=⟨r1.toNat,by omega⟩;refine⟨_,rfl,a,b,_,8,rfl,c9,by omega,by decide,by decide,λr2 H2 _ _ d0 b4=>?_⟩;refine⟨rfl,_,rfl,a0y (λe=>?_) (λe=>fin _ _ ⟨t1+1,?_,by omega,by omega,by omega,d0.mono (by omega),Z.trans b4⟩)⟩
  .refine⟨_,rfl,_,rfl,a,b,_,_,rfl,d0,by omega,by omega,by omega,λr3 H3 f7 f8 a6 G=>?_⟩;obtain⟨t3,rfl⟩:∃t:Nat,r3=t:=⟨r3.toNat,by omega⟩;refine⟨_,_,rfl,rfl,fin _ _ ⟨t3+1,?_,by omega,by omega,by omega,a6.mono (by omega),(Z.trans b4).trans G⟩⟩;rw[show((t3+1:Nat):Int)=1+(t3:Int) by omega];rfl
  .rw[show((t1+1:Nat):Int)=1+(t1:Int) by omega];rfl
end
end K39
namespace K39
open PySem PySem.Spec PyProof.Rows L2
theorem Wk.inv1{rss:LLI}{cs:List (Option Int)}{F W L:LLI}{k:Nat}(h:Wk rss cs F W L k)(e:k=1):C3 L/\L.Nodup/\(∀v,v∈L↔v∈E6 cs)/\(F=L.filter λv=>Ans rss v)/\W=L:=by
 induction h with
 |one ri nd h=>exact⟨ri,nd,h,rfl,rfl⟩
 |more h _ _ _ _ _=>have:=h.lv.2.2.2.2.2.1;omega
theorem Wk.inv2{rss:LLI}{cs:List (Option Int)}{F W L:LLI}{d:Nat}(h:Wk rss cs F W L d):∀k,d=k+1->1<=k->∃a c b,Wk rss cs a c b k/\b≠[]/\C3 L/\L.Nodup/\(∀v,v∈L↔∃u∈b,S7 rss cs a u v)/\(F=a++L.filter λv=>Ans rss v)/\W=c++L:=by
 cases h with
 |one ri nd h=>intro k e f;omega
 |more h ne ri nd g =>
  intro k e f;obtain rfl:_=k:=dR e;exact⟨_,_,_,h,ne,ri,nd,g,rfl,rfl⟩
theorem Wk.det{rss:LLI}{cs:List (Option Int)}:∀(k:Nat) {F W L b c a:LLI},Wk rss cs F W L k->Wk rss cs b c a k->F=b/\W=c/\L=a
 |0,_,_,_,_,_,_,h,_=>by have:=h.lv.2.2.2.2.2.1;omega
 |1,F,W,L,b,c,a,h,g=>by
  obtain⟨a1,d,e,f,i⟩:=h.inv1 rfl;obtain⟨j,l,m,n,o⟩:=g.inv1 rfl;have:L=a:=J5 a1 j d l λv=>(e v).trans (m v).symm;subst this;exact⟨f.trans n.symm,i.trans o.symm,rfl⟩
 |k+2,F,W,L,b,c,a,h,g=>by
  obtain⟨q,u,s,a0,_,a1,d,e,f,i⟩:=h.inv2 (k+1) rfl (by omega);obtain⟨r,w,t,p,_,j,l,m,n,o⟩:=g.inv2 (k+1) rfl (by omega);obtain⟨rfl,rfl,rfl⟩:=Wk.det (k+1) a0 p;have:L=a:=J5 a1 j d l λv=>(e v).trans (m v).symm;subst this;exact⟨f.trans n.symm,i.trans o.symm,rfl⟩
theorem Wk.back{rss:LLI}{cs:List (Option Int)}{F W L:LLI}{k:Nat}(h:Wk rss cs F W L k):∀st,1<=st->st<=k->∃a c b G R,Wk rss cs a c b st/\W=c++R/\F=a++G/\(∀v∈G,(st:Int)<v.sum)/\(st<k->b≠[]):=by
 induction h with
 |@one L ri nd h =>
  intro st h1 h2;have:st=1:=by omega
  subst this;exact⟨_,_,_,[],[],.one ri nd h,by simp,by simp,(λ_ z=>nomatch z),λz=>by omega⟩
 |@more F W L L' k h ne ri nd d i =>
  intro st h1 h2;by_cases e:st=k+1
  .subst e;exact⟨_,_,_,[],[],.more h ne ri nd d,by simp,by simp,(λ_ z=>nomatch z),λz=>by omega⟩
  .obtain⟨a,c,b,G,R,g1,g2,g3,g4,g5⟩:=i st h1 (by omega);refine⟨a,c,b,G++L'.filter (λv=>Ans rss v),R++L',g1,by rw[g2,aC],by rw[g3,aC],λv g=>?_,λ_=>?_⟩
   .rcases aA.mp g with z|z
    .exact g4 v z
    .obtain⟨u,hu,hx⟩:=(d v).mp (aE.mp z).1;have:=(a8x (h.lv.1 u hu) hx).sum;rw[this];omega
   .by_cases e2:st=k
    .subst e2;obtain⟨_,_,f⟩:=Wk.det _ h g1;rw[<-f];exact ne
    .exact g5 (by omega)
theorem Wk.stop{rss:LLI}{cs:List (Option Int)}{F W a c b:LLI}{k st:Nat}(h:Wk rss cs F W [] k)(g:Wk rss cs a c b st):st<=k:=by
 refine bN λl=>?_;obtain⟨i,j,L2,G,R,d,_,_,_,f⟩:=g.back k h.lv.2.2.2.2.2.1 (by omega);obtain⟨_,_,e⟩:=Wk.det _ h d;exact f (by omega) e.symm
theorem a5T(rss:LLI)(v:List Int)(j:Nat):Q8 rss v j=(rss.map λr=>dot r v*r.getD j 0).sum:=by
 unfold Q8 N7;induction rss with
 |nil=>rfl
 |cons r rss a=>rw[aZ,bh,bt,aZ,bt,a]
theorem b7F{rss:LLI}{cs:List (Option Int)}{F W b a c:LLI}{k st:Nat}(h:Wk rss cs F W [] k)(g:Wk rss cs b a c st):a.length<=W.length:=by
 obtain⟨i,j,L2,G,R,d,f,_,_,_⟩:=h.back st g.lv.2.2.2.2.2.1 (h.stop g);obtain⟨_,e,_⟩:=Wk.det _ d g;rw[f,e,ak];omega
theorem a6G{rss:LLI}{cs:List (Option Int)}{F W a b:LLI}{k st:Nat}(h:Wk rss cs F W [] k)(g:Wk rss cs a b [] st):F=a/\W=b:=by
 have e:k=st:=Nat.le_antisymm (g.stop h) (h.stop g);subst e;obtain⟨e1,e2,_⟩:=Wk.det _ h g;exact⟨e1,e2⟩
theorem b5D{α:Type}[DecidableEq α]:∀(a b:List α),a.Nodup->(∀x∈a,x∈b)->a.length<=b.length
 |[],b,_,_=>bG _
 |x::a,b,e,h=>by
  obtain⟨h1,h2⟩:=bR.mp e;have c:=h x au;have:=b5D a (b.erase x) h2 λy d=>(List.mem_erase_of_ne (λz:y=x=>h1 (z ▸ d))).mpr (h y (av _ d));rw[List.length_erase_of_mem c]at this;have:=List.length_pos_of_mem c;rw[a'];omega
theorem a9P{rss:LLI}{cs:List (Option Int)}{F W:LLI}{k:Nat}{most:Int}(h:Wk rss cs F W [] k)(B:(W.length:Int)<=most):¬b5f rss cs most:=by
 rintro⟨r,w,u,st,g,n⟩;have l:=b7F h g;rcases n with q|⟨ne,b,nd,m,q⟩
 .omega
 .have hst:=h.stop g;have a:st<k:=by
   rcases fV st k with z|z
   .exact z
   .have e:st=k:=Nat.le_antisymm hst z;subst e;obtain⟨_,_,e⟩:=Wk.det _ g h;exact absurd e ne
  obtain⟨s,x,L2,G,R,i,j,_,_,_⟩:=h.back (st+1) (by omega) a;obtain⟨p,c,t,a0,_,_,_,d,_,f⟩:=i.inv2 st rfl g.lv.2.2.2.2.2.1;obtain⟨rfl,rfl,rfl⟩:=Wk.det _ a0 g;have y:b.length<=L2.length:=b5D b L2 nd λv o=>(d v).mpr (m v o);have A:W.length=c.length+L2.length+R.length:=by rw[j,f,ak,ak]
  omega
structure Pap(rss:LLI)(cs:List (Option Int))(F W L:LLI):Prop where
 wi:∀v∈W,Wi cs v=true
 fst:∀u∈E6 cs,u∈W
 an:∀v∈W,Ans rss v=true->v∈F
 nx:∀v∈W,v∉L->∀j∈StP rss cs v,bump v j∈W∨∃f∈F,Bel f (bump v j)=true
theorem Wk.pap{rss:LLI}{cs:List (Option Int)}{F W L:LLI}{k:Nat}(hR:∀r∈rss,r.length=cs.length)(h:Wk rss cs F W L k):Pap rss cs F W L:=by
 induction h with
 |@one L ri nd h=>exact⟨(Wk.one ri nd h).ok hR |>.wi,λu i=>(h u).mpr i,λv a e=>aE.mpr ⟨a,e⟩,λv a g=>absurd a g⟩
 |@more F W L L' k h ne ri nd n c =>
  have o:=(Wk.more h ne ri nd n).ok hR;refine⟨λv a=>?_,λu i=>aS _ (c.fst u i),λv a e=>?_,λv a g j m=>?_⟩
  .rcases aA.mp a with z|z
   .exact c.wi v z
   .exact o.wi v z
  .rcases aA.mp a with z|z
   .exact aS _ (c.an v z e)
   .exact aU _ (aE.mpr ⟨z,e⟩)
  .have hvW:v∈W:=(aA.mp a).resolve_right g;by_cases l:v∈L
   .cases e:Bar F (bump v j) j with
    |true =>
     unfold Bar at e;obtain⟨f,d,b⟩:=bD.mp e;rw[aG]at b;exact .inr ⟨f,aS _ d,b.2⟩
    |false=>exact .inl (aU _ ((n _).mpr ⟨v,l,j,m,rfl,e⟩))
   .rcases c.nx v hvW l j m with z|⟨f,d,hb⟩
    .exact .inl (aS _ z)
    .exact .inr ⟨f,aS _ d,hb⟩
noncomputable def Lst(rss:LLI)(v:List Int):Bool:=!(rss.any λu=>!decide (u=v) && Bel u v)
structure Srt(rss srt:LLI):Prop where
 ri:C3 srt
 nd:srt.Nodup
 mem:∀r,r∈srt↔r∈rss
theorem Srt.eq{rss a b:LLI}(h:Srt rss a)(g:Srt rss b):a=b:=J5 h.ri g.ri h.nd g.nd λv=>(h.mem v).trans (g.mem v).symm
theorem a9S{rss a:LLI}(h:∀r,r∈rss↔r∈a)(v:List Int):Lst rss v=Lst a v:=by
 unfold Lst;congr 1;rw[bQ,bD,bD];exact⟨λ⟨u,b,e⟩=>⟨u,(h u).mp b,e⟩,λ⟨u,b,e⟩=>⟨u,(h u).mpr b,e⟩⟩
theorem a8X:∀{u v:List Int},u.length=v.length->Bel u v=true->u≠v->HT.lexLt v u=false
 |[],[],_,_,ne=>absurd rfl ne
 |[],_::_,h,_,_=>by cases h
 |_::_,[],h,_,_=>by cases h
 |x::u,y::v,h,a,ne=>by
  unfold Bel at a;rw[bh,cX,aG]at a;have h1:x<=y:=bw a.1;by_cases e:x=y
  .subst e;have c:=a8X (u:=u) (v:=v) (by simpa using h) a.2 λz=>ne (by rw[z]);simp[HT.lexLt,c]
  .have:¬y<x:=by omega
   have b:¬y=x:=λz=>e z.symm;simp[HT.lexLt,this,b]
theorem a8p{α:Type}{m:List α->Prop}(l:List α)(nil:m [])(snoc:∀(l:List α) (v:α),m l->m (l++[v])):m l:=by
 have:∀r:List α,m r.reverse:=λr=>by
  induction r with
  |nil=>exact nil
  |cons x r a=>rw[eC];exact snoc _ x a
 have:=this l.reverse;rwa[List.reverse_reverse]at this
noncomputable def LO(l:LLI):LLI:=l.foldl (λacc v=>if acc.any (λu=>Bel u v)then acc else acc++[v]) []
theorem a5k(l:LLI)(v:List Int):LO (l++[v])=if (LO l).any (λu=>Bel u v)then LO l else LO l++[v]:=by
 unfold LO;rw[List.foldl_append];rfl
theorem b3e(v:List Int):Bel v v=true:=(E4 rfl).mpr (Under.refl v)
theorem b0y{a b c:List Int}(h1:a.length=b.length)(h2:b.length=c.length)(d:Bel a b=true)(e:Bel b c=true):Bel a c=true :=
 (E4 (h1.trans h2)).mpr (((E4 h1).mp d).trans ((E4 h2).mp e))
theorem a9b{n:Nat}:∀(l:LLI),(∀r∈l,r.length=n)->(∀x∈LO l,x∈l)/\∀u∈l,∃x∈LO l,Bel x u=true:=by
 intro l;induction l using a8p with
 |nil=>intro _;exact⟨λ_ z=>z,λ_ z=>nomatch z⟩
 |snoc l v h =>
  intro f;obtain⟨c,d⟩:=h λr g=>f r (aS _ g);rw[a5k];cases e:(LO l).any (λu=>Bel u v)with
  |true =>
   rw[az rfl];refine⟨λx b=>aS _ (c x b),λu a=>?_⟩;rcases aA.mp a with z|z
   .exact d u z
   .rw[aQ.mp z];exact bD.mp e
  |false =>
   rw[ar (by decide)];refine⟨λx b=>?_,λu a=>?_⟩
   .rcases aA.mp b with z|z
    .exact aS _ (c x z)
    .exact aU _ z
   .rcases aA.mp a with z|z
    .obtain⟨x,h1,h2⟩:=d u z;exact⟨x,aS _ h1,h2⟩
    .rw[aQ.mp z];exact⟨v,aU _ au,b3e v⟩
theorem b0z{n:Nat}(a:LLI)(f:∀r∈a,r.length=n)(m:C3 a)(nd:a.Nodup):∀(l rest:LLI),a=l++rest->LO l=l.filter (λv=>Lst a v):=by
 intro l;induction l using a8p with
 |nil=>intro _ _;rfl
 |snoc l v t =>
  intro rest e;have c:a=l++(v::rest):=by rw[e,aC];rfl
  have k:v∈a:=by rw[c];simp
  have b:∀r∈l,r.length=n:=λr o=>f r (by rw[c];exact aS _ o);obtain⟨i,s⟩:=a9b l b;rw[a5k,List.filter_append,<-t _ c];have key:(LO l).any (λu=>Bel u v)=!Lst a v:=by
   rw[bQ];unfold Lst;rw[Bool.not_not,bD,bD];constructor
   .rintro⟨u,hu,hb⟩;refine⟨u,by rw[c];exact aS _ (i u hu),?_⟩;have g:u≠v:=λz=>by
     rw[c]at nd;exact(eE.mp nd).2.2 u (i u hu) v au z
    rw[hb,bL g];rfl
   .rintro⟨u,hu,hb⟩;rw[aG,dh,decide_eq_false_iff_not]at hb;have d:u∈l:=by
     rw[c]at hu;rcases aA.mp hu with z|z
     .exact z
     .rcases aD.mp z with q|q
      .exact absurd q hb.1
      .exfalso;have h:HT.lexLt u v=false:=by
        rw[c]at m;have:=(bF.mp m).2.1;exact(cp.mp this).1 u q
       have h2:=a8X (by rw[f u (by rw[c];exact aU _ z),f v k]) hb.2 hb.1;exact hb.1 (K3 u v h h2)
    obtain⟨x,h1,h2⟩:=s u d;exact⟨x,h1,b0y (by rw[b x (i x h1),b u d]) (by rw[b u d,f v k]) h2 hb.2⟩
  rw[key];cases j:Lst a v with
  |true=>rw[ar (by decide),ft (p:=λv=>Lst a v) j];rfl
  |false=>rw[az (by decide),List.filter_cons_of_neg (p:=λv=>Lst a v) (by rw[j];decide)];simp
section
variable {P:Program}{w:World}{K:PySem.W.Frag}{mg:Str->Option Value}{base:Heap}
inductive IspAboveL(vs:List V)(H:Hp)(Q:VK)(E:XK):Prop
 |mk (l:Addr) (y:V) (fs:List V) (fss:LLI) (ys:List Int) (_:vs=[.ref l,y]) (_:H l=some (.lst fs)) (_:Its H fs fss) (_:IT H y ys) (_:(∀f∈fss,f.length<=1000)) (_:∀H',Same H H'->Q (.bl (fss.any λf=>Bel f ys)) H'):IspAboveL  vs H Q E
def a5H:Sp:=λvs H Q E=>IspAboveL  vs H Q E
inductive IspAboveT(vs:List V)(H:Hp)(Q:VK)(E:XK):Prop
 |mk (l:Addr) (y:V) (fs:List V) (fss:LLI) (ys:List Int) (_:vs=[.ref l,y]) (_:H l=some (.tup fs)) (_:Its H fs fss) (_:IT H y ys) (_:(∀f∈fss,f.length<=1000)) (_:∀H',Same H H'->Q (.bl (fss.any λf=>Bel f ys)) H'):IspAboveT  vs H Q E
def a2v:Sp:=λvs H Q E=>IspAboveT  vs H Q E
theorem sc_above_any:FnScope ["some","one","other"] ["some","one"] (A1 L8):=⟨rfl,rfl,rfl,by decide +kernel,rfl,by decide +kernel,by decide +kernel⟩
theorem a3B(F:FunAt K mg "above_any" L8 ["some","one"])(T:Tx mg)(b:Ok P w K mg base "below" 1 ["one","other"] a2b):Ok P w K mg base "above_any" 2 ["some","one"] a5H:=by
 refine F.okJ sc_above_any (λvs H Q E h=>?_) (λn f A j s H vs Q E c h=>?_)
 .obtain⟨l,y,fs,fss,ys,rfl,_⟩:=h;rfl
 .obtain⟨l,y,fs,fss,ys,rfl,hl,hI,hy,hL,k⟩:=h;refine⟨_,(A2 (N9 (J9 K (jv 0)) (A8 (i:=2) sc_above_any.nd rfl (Or.inl rfl))
 (A4 (D5 (D4 K (A6 b (c.mono (by omega)) rfl (jaC (jv 2) (jaC (jv 1) jaN))))
 (A4 (A9 M0))
 C1)))
 (A4 (A9 M0))),?_⟩
  refine⟨_,rfl,l,rfl,⟨_,SqL.of hl⟩,?_⟩;refine S5 (K:=K) (a:=l) (xs:=fs) (λi σ H'=>Ex1 λo=>An3 (σ=[some (.ref l),some y,o]) (Same H H') (((fss.take i).any λf=>Bel f ys)=false)) ⟨none,rfl,Same.refl H,rfl⟩ (λi σ H' _ h=>by obtain⟨_,_,s',_⟩:=h;exact SqL.of (s' _ _ hl)) ?_ ?_
  .rintro i x σ H' hx ⟨o,rfl,s',hB⟩;obtain⟨r,c,d,g⟩:=hI.mem hx;have m:((fss.take (i+1)).any λf=>Bel f ys)=Bel r ys:=by
    rw[bu,d,List.any_append,hB];simp
   dsimp only[B0];refine⟨_,rfl,_,rfl,x,y,r,ys,rfl,g.same s',hy.same s',hL r c,λH2 s2=>⟨_,rfl,?_⟩⟩;cases e:Bel r ys with
   |false =>
    rw[e]at m;exact D6 ⟨_,rfl,s'.trans s2,m⟩
   |true =>
    refine G1 ?_;have:=k H2 (s'.trans s2);rw[show(fss.any λf=>Bel f ys)=true from bD.mpr ⟨r,c,e⟩]at this;exact this
  .rintro σ H' ⟨o,rfl,s',hB⟩;rw[hI.1,bx]at hB;have:=k H' s';rw[hB]at this;exact this
theorem a3A(F:FunAt K mg "above_any" L8 ["some","one"])(T:Tx mg)(b:Ok P w K mg base "below" 1 ["one","other"] a2b):Ok P w K mg base "above_any" 2 ["some","one"] a2v:=by
 refine F.okJ sc_above_any (λvs H Q E h=>?_) (λn f A j s H vs Q E c h=>?_)
 .obtain⟨l,y,fs,fss,ys,rfl,_⟩:=h;rfl
 .obtain⟨l,y,fs,fss,ys,rfl,hl,hI,hy,hL,k⟩:=h;refine⟨_,(A2 (N9 (E5 K (jv 0)) (A8 (i:=2) sc_above_any.nd rfl (Or.inl rfl))
 (A4 (D5 (D4 K (A6 b (c.mono (by omega)) rfl (jaC (jv 2) (jaC (jv 1) jaN))))
 (A4 (A9 M0))
 C1)))
 (A4 (A9 M0))),?_⟩
  refine⟨_,rfl,l,rfl,⟨_,SqT.of hl⟩,?_⟩;refine a8O (K:=K) (a:=l) (xs:=fs) (λi σ H'=>Ex1 λo=>An3 (σ=[some (.ref l),some y,o]) (Same H H') (((fss.take i).any λf=>Bel f ys)=false)) ⟨none,rfl,Same.refl H,rfl⟩ (λi σ H' _ h=>by obtain⟨_,_,s',_⟩:=h;exact SqT.of (s' _ _ hl)) ?_ ?_
  .rintro i x σ H' hx ⟨o,rfl,s',hB⟩;obtain⟨r,c,d,g⟩:=hI.mem hx;have m:((fss.take (i+1)).any λf=>Bel f ys)=Bel r ys:=by
    rw[bu,d,List.any_append,hB];simp
   dsimp only[B0];refine⟨_,rfl,_,rfl,x,y,r,ys,rfl,g.same s',hy.same s',hL r c,λH2 s2=>⟨_,rfl,?_⟩⟩;cases e:Bel r ys with
   |false =>
    rw[e]at m;exact D6 ⟨_,rfl,s'.trans s2,m⟩
   |true =>
    refine G1 ?_;have:=k H2 (s'.trans s2);rw[show(fss.any λf=>Bel f ys)=true from bD.mpr ⟨r,c,e⟩]at this;exact this
  .rintro σ H' ⟨o,rfl,s',hB⟩;rw[hI.1,bx]at hB;have:=k H' s';rw[hB]at this;exact this
inductive IspLeastOf(vs:List V)(H:Hp)(Q:VK)(E:XK):Prop
 |mk (p:Addr) (us:List V) (rss:LLI) (n:Nat) (_:vs=[.ref p]) (_:H p=some (.tup us)) (_:Its H us rss) (_:us.length<=1000) (_:1<=n) (_:n<=1000) (_:(∀r∈rss,r.length=n)) (_:∀q zs srt H',Same H H'->Srt rss srt->H' q=some (.tup zs)->Its H' zs (srt.filter λv=>Lst rss v)->Q (.ref q) H'):IspLeastOf  vs H Q E
def a3N:Sp:=λvs H Q E=>IspLeastOf  vs H Q E
theorem sc_least_of:FnScope ["some","found","one"] ["some"] (A1 T3):=⟨rfl,rfl,rfl,by decide +kernel,rfl,by decide +kernel,by decide +kernel⟩
theorem a5V(F:FunAt K mg "least_of" T3 ["some"])(T:Tx mg)(c:Ok P w K mg base "above_any" 2 ["some","one"] a5H):Ok P w K mg base "least_of" 3 ["some"] a3N:=by
 refine F.okJ sc_least_of (λvs H Q E h=>?_) (λa4 f A a3 s H vs Q E m h=>?_)
 .obtain⟨p,us,rss,n,rfl,_⟩:=h;rfl
 .obtain⟨p,us,rss,n,rfl,hp,hI,hl,hn1,hn2,hR,k⟩:=h;have hu:=m.u60;have hz:(3000:Nat)<=sizeLine:=by rw[a_];decide
  refine⟨_,(A2 (B3 (i:=1) sc_least_of.nd rfl (Or.inl rfl) (V4 jaN))
 (A2 (N9 (J9 K (a6n P w rfl T.b_sorted (jaC (a8E K P w hu rfl T.b_set (jaC (jv 0) jaN)) jaN))) (A8 (i:=2) sc_least_of.nd rfl (Or.inl rfl))
 (A4 (D5 (M1 (D4 K (A6 c (m.mono (by omega)) rfl (jaC (jv 1) (jaC (jv 2) jaN)))))
 (A4 (T9 (a0e K (jv 1) (jaC (jv 2) jaN))))
 C1)))
 (A4 (A9 (C9 K rfl T.b_tuple (jaC (jv 1) jaN)))))),?_⟩
  refine⟨bG _,λg M=>?_⟩;have s1:=(Same.refl H).upd (o:=.lst []) M;have e1:upd H g (.lst []) g=some (.lst []):=A0;generalize upd H g (.lst [])=H1 at s1 e1;dsimp only[B0];refine⟨_,rfl,true,p,us,rss,rfl,SqT.of (s1 _ _ hp),hI.same s1,hl,λa xs ha L j V=>?_⟩;have s2:=s1.upd (o:=a1b P w a xs) ha;have B:=(Same.refl H1).upd (o:=a1b P w a xs) ha;have e2:upd H1 a (a1b P w a xs) a=some (a1b P w a xs):=A0;generalize upd H1 a (a1b P w a xs)=H2 at s2 B e2;have a1:xs.length<=1000:=by
   have:=Tab.nodup_le (xs.map (·.1)) rss L λr m=>(j r).mp m;rw[ae,<-hI.1]at this;omega
  refine⟨a,xs,rfl,e2,λx J=>(V x J).same B,λx J=>by rw[hR x.1 ((j x.1).mp (aL.mpr ⟨x,J,rfl⟩))];exact hn1,a1,λl zs b y d N a0=>?_⟩;have S:Srt rss b:=⟨a0,N.symm.nodup L,λr=>(N.mem_iff).trans (j r)⟩;have s3:=s2.upd (o:=.lst zs) y;have U:upd H2 l (.lst zs) l=some (.lst zs):=A0;have C:upd H2 l (.lst zs) g=some (.lst []):=R6 (B _ _ e1) y;have d:=d.same ((Same.refl H2).upd (o:=.lst zs) y);have a2:l≠g:=(A7 (B _ _ e1) y).symm;generalize upd H2 l (.lst zs)=H3 at s3 U C d;have I:∀r∈b,r.length=n:=λr m=>hR r ((S.mem r).mp m);have a6:zs.length<=1000:=by
   have:=Tab.nodup_le b rss S.nd λr m=>(S.mem r).mp m;rw[d.1];rw[<-hI.1]at this;omega
  have X:H g=none:=M;refine⟨l,rfl,⟨_,SqL.of U⟩,?_⟩;refine S5 (K:=K) (a:=l) (xs:=zs) (λi σ H'=>Ex2 λo2 fs=>An5 (σ=[some (.ref p),some (.ref g),o2]) (Off [g] H3 H') (H' g=some (.lst fs)) (Its H' fs (LO (b.take i))) (fs.length<=i)) ⟨none,[],rfl,Off.refl _ _,C,.nil,ao _⟩ (λi σ H' _ h=>by obtain⟨_,_,_,o',_⟩:=h;exact SqL.of (o' _ _ (by simpa using a2) U)) ?_ ?_
  .rintro i x σ H' J ⟨o2,fs,rfl,off,D,hIf,hfl⟩;obtain⟨r,m,Y,Z⟩:=d.mem J;have a5:i<zs.length:=(aT.mp J).1;have O:IT H' x r:=by
    obtain⟨xa,rfl,R⟩:=Z;exact⟨xa,rfl,off _ _ (by simpa using K0 R C (by intro z;cases z)) R⟩
   have W:∀f∈LO (b.take i),f.length<=1000:=λf D=>by
    have:=(a9b (n:=n) (b.take i) λr m=>I r (bU m)).1 f D;rw[I f (bU this)];exact hn2
   have t:LO (b.take (i+1))=if (LO (b.take i)).any (λu=>Bel u r)then LO (b.take i)else LO (b.take i)++[r]:=by
    rw[bu,Y];exact a5k _ _
   dsimp only[B0];refine⟨_,rfl,_,rfl,g,x,fs,_,r,rfl,D,hIf,O,W,λH2 s2=>⟨_,rfl,?_⟩⟩;cases e:(LO (b.take i)).any (λu=>Bel u r)with
   |true =>
    rw[e,az rfl]at t;refine D6 ⟨_,fs,rfl,off.trans s2.off,s2 _ _ D,?_,by omega⟩;rw[t];exact hIf.same s2
   |false =>
    rw[e,ar (by decide)]at t;have G:=s2 _ _ D;refine G1 ⟨_,rfl,.inl ⟨rfl,_,SqL.of G⟩,_,rfl,g,_,_,rfl,rfl,G,by omega,?_⟩;refine⟨_,fs++[x],rfl,(off.trans s2.off).set (by simp),A0,?_,by simp;omega⟩;rw[t];exact Its.put ((hIf.same s2).snoc (O.same s2)) G
  .rintro σ H' ⟨o2,fs,rfl,off,D,hIf,_⟩;rw[d.1,bx]at hIf;refine⟨_,rfl,g,fs,rfl,.inl ⟨SqL.of D,λq hq=>?_⟩⟩;have s4:=(Same.refl H').upd (o:=.tup fs) hq;refine k q fs b _ ((a2A s3 X off).trans s4) S A0 ?_;have e:=b0z (n:=n) b I S.ri S.nd b [] (by simp);rw[e]at hIf;have e2:(b.filter λv=>Lst b v)=b.filter λv=>Lst rss v:=by
    congr 1;funext v;exact a9S S.mem v
   rw[e2]at hIf;exact hIf.same s4
end
noncomputable def a0Y(n:Nat)(v:List Int):Bool:=decide (v.length=n) && v.all λx=>decide (0<=x)
noncomputable def a7B(cs:List (Option Int))(v:List Int):Bool:=(v.any λx=>!decide (x=0)) && Wi cs v
noncomputable def S0(tss mss:LLI)(v:List Int):Bool:=decide (v∈mss) || tss.any λt=>Bel t v
noncomputable def goI(rss:LLI)(cs:List (Option Int))(tss mss:LLI)(v:List Int):Bool:=(tss.any λt=>Bel t v) || (!Ans rss v && (StP rss cs v).all λj=>S0 tss mss (bump v j))
structure Anti(rss tss:LLI):Prop where
 ri:C3 tss
 nd:tss.Nodup
 lst:∀v∈tss,Lst tss v=true
 ans:∀v∈tss,Ans rss v=true
theorem a0A{α:Type}(l:List α)(f:α->Bool):(l.map λx=>V.bl (f x)).all trV=l.all f:=by rw[List.all_map];rfl
theorem U7{α:Type}(l:List α)(f:α->Bool):(l.map λx=>V.bl (f x)).all a4d=true:=by
 rw[aJ];intro v a;obtain⟨_,_,rfl⟩:=aL.mp a;rfl
theorem b0c(l:List Int):(l.map V.int).all a4d=true:=by
 rw[aJ];intro v a;obtain⟨_,_,rfl⟩:=aL.mp a;rfl
theorem b7y(l:List Int):(l.map V.int).any trV=l.any λx=>!decide (x=0):=by
 rw[List.any_map];rfl
section
variable {P:Program}{w:World}{K:PySem.W.Frag}{mg:Str->Option Value}{base:Heap}
inductive IspNumI(vs:List V)(H:Hp)(Q:VK)(E:XK):Prop
 |mk (z:Int) (_:vs=[.int z]) (_:Q (.bl (decide (0<=z))) H):IspNumI  vs H Q E
def b0V:Sp:=λvs H Q E=>IspNumI  vs H Q E
theorem a4F:FnScope ["value"] ["value"] (A1 O8):=⟨rfl,rfl,rfl,by decide +kernel,rfl,by decide +kernel,by decide +kernel⟩
theorem a3z(F:FunAt K mg "is_number" O8 ["value"])(T:Tx mg):Ok P w K mg base "is_number" 1 ["value"] b0V:=by
 refine F.okJ a4F (λvs H Q E h=>?_) (λb f A a s H vs Q E c h=>?_)
 .obtain⟨z,rfl,_⟩:=h;rfl
 .obtain⟨z,rfl,k⟩:=h;refine⟨_,(A4 (A9 (a0s (C5 K rfl T.b_isinstance (jaC (jv 0) (jaC (X4 (v:=.ty "int") rfl T.b_int a7L rfl) jaN))) (a0s (b5H (C5 K rfl T.b_isinstance (jaC (jv 0) (jaC (X4 (v:=.ty "bool") rfl T.b_bool a8Y rfl) jaN)))) (a0S (b8l (jv 0) A5)))))),?_⟩;refine⟨_,rfl,.int z,"int",_,true,rfl,.int z,by with_unfolding_all rfl,true,rfl,G1 ?_⟩;refine⟨_,rfl,.int z,"bool",_,false,rfl,.int z,by with_unfolding_all rfl,false,rfl,_,rfl,G1 ?_⟩;exact⟨_,rfl,_,_,rfl,rfl,k⟩
inductive IspVecI(vs:List V)(H:Hp)(Q:VK)(E:XK):Prop
 |mk (y:V) (xs:List Int) (n:Nat) (wi:Int) (_:vs=[y,.int wi]) (_:wi=n) (_:IT H y xs) (_:xs.length<=1000) (_:∀H',Same H H'->Q (.bl (a0Y n xs)) H'):IspVecI  vs H Q E
def b0S:Sp:=λvs H Q E=>IspVecI  vs H Q E
theorem a4E:FnScope ["value","width"] ["value","width"] (A1 O7):=⟨rfl,rfl,rfl,by decide +kernel,rfl,by decide +kernel,by decide +kernel⟩
theorem a3y(F:FunAt K mg "is_vector" O7 ["value","width"])(T:Tx mg)(b:Ok P w K mg base "is_number" 1 ["value"] b0V):Ok P w K mg base "is_vector" 2 ["value","width"] b0S:=by
 refine F.okJ a4E (λvs H Q E h=>?_) (λd f A c s H vs Q E j h=>?_)
 .obtain⟨y,xs,n,wi,rfl,_⟩:=h;rfl
 .obtain⟨_,xs,n,_,rfl,rfl,⟨a,rfl,ha⟩,hl,k⟩:=h;refine⟨_,(A4 (A9 (a0s (C5 K rfl T.b_isinstance (jaC (jv 0) (jaC (X4 (v:=.ty "tuple") rfl T.b_tuple Y7 rfl) jaN))) (a0s (a6k (G7 K rfl T.b_len (jaC (jv 0) jaN)) (jv 1)) (a0S (O0 K rfl T.b_all (jaC (B8 (N:=["part"]) (src:=[none]) (E5 K (jv 0)) (by show B7 _ _=true;rfl) (by rfl) (by rfl)
 (λ_ _ _ _ _=>(A8 (i:=0) (show(["part"]:List Str).Nodup by decide +kernel) rfl (Or.inl rfl))) (λ_ _ _ _ _=>C4) (λ_ _ _ _ _=>(A6 b (j.mono (by omega)) rfl (jaC (jv 0) jaN)))) jaN))))))),?_⟩
  refine⟨_,rfl,.ref a,"tuple",_,true,rfl,.tup ha,by with_unfolding_all rfl,true,rfl,G1 ?_⟩;refine⟨_,rfl,a,_,rfl,.inr (SqT.of ha),_,rfl,rfl,_,rfl,?_⟩;by_cases e:xs.length=n
  .rw[show decide (V.int ((xs.map V.int).length:Int)=V.int (n:Int))=true by rw[ae,e];simp];refine G1 ⟨_,rfl,a,rfl,⟨_,SqT.of ha⟩,?_⟩;refine a5v (caps:=[]) (λx=>V.bl (decide (0<=x))) hl (λH' s=>SqT.of (s _ _ ha)) rfl (λx H2 l _ _ q=>⟨_,rfl,x,rfl,q⟩) λH2 p s2 g=>?_;refine⟨false,p,_,rfl,SqL.of A0,U7 _ _,?_⟩;rw[a0A];have:=k _ (s2.upd (o:=.lst (xs.map λx=>V.bl (decide (0<=x)))) g);unfold a0Y at this;rw[bg e,Bool.true_and]at this;exact this
  .rw[show decide (V.int ((xs.map V.int).length:Int)=V.int (n:Int))=false by rw[ae,decide_eq_false_iff_not];intro z;injection z with z;exact e (by omega)];refine D6 ?_;have:=k H (Same.refl H);unfold a0Y at this;rw[bL e,Bool.false_and]at this;exact this
inductive IspVecsI(vs:List V)(H:Hp)(Q:VK)(E:XK):Prop
 |mk (a:Addr) (us:List V) (rss:LLI) (n:Nat) (wi:Int) (_:vs=[.ref a,.int wi]) (_:wi=n) (_:H a=some (.tup us)) (_:Its H us rss) (_:us.length<=100000) (_:(∀r∈rss,r.length<=1000)) (_:∀H',Same H H'->Q (.bl (rss.all (a0Y n))) H'):IspVecsI  vs H Q E
def a8e:Sp:=λvs H Q E=>IspVecsI  vs H Q E
theorem a2x:FnScope ["value","width"] ["value","width"] (A1 K7):=⟨rfl,rfl,rfl,by decide +kernel,rfl,by decide +kernel,by decide +kernel⟩
theorem a1O(F:FunAt K mg "are_vectors" K7 ["value","width"])(T:Tx mg)(b:Ok P w K mg base "is_vector" 2 ["value","width"] b0S):Ok P w K mg base "are_vectors" 3 ["value","width"] a8e:=by
 refine F.okJ a2x (λvs H Q E h=>?_) (λe f A d s H vs Q E c h=>?_)
 .obtain⟨a,us,rss,n,wi,rfl,_⟩:=h;rfl
 .obtain⟨a,us,rss,n,_,rfl,rfl,ha,hI,hl,hw,k⟩:=h;have m:(300000:Nat)<=sizeLine:=by rw[a_];decide
  refine⟨_,(A4 (A9 (a0s (C5 K rfl T.b_isinstance (jaC (jv 0) (jaC (X4 (v:=.ty "tuple") rfl T.b_tuple Y7 rfl) jaN))) (a0S (O0 K rfl T.b_all (jaC (B8 (N:=["part","width"]) (src:=[none,some 1]) (E5 K (jv 0)) (by show B7 _ _=true;rfl) (by rfl) (by rfl)
 (λ_ _ _ _ _=>(A8 (i:=0) (show(["part","width"]:List Str).Nodup by decide +kernel) rfl (Or.inl rfl))) (λ_ _ _ _ _=>C4) (λ_ _ _ _ _=>(A6 b (c.mono (by omega)) rfl (jaC (jv 0) (jaC (jv 1) jaN))))) jaN)))))),?_⟩
  refine⟨_,rfl,.ref a,"tuple",_,true,rfl,.tup ha,by with_unfolding_all rfl,true,rfl,G1 ?_⟩;refine⟨_,rfl,a,rfl,⟨_,SqT.of ha⟩,?_⟩;refine a0F (caps:=[some (.int n)]) (λr=>V.bl (a0Y n r)) (by omega) (λH' s=>SqT.of (s _ _ ha)) hI rfl (λv r H1 l c j s1 q=>?_) λH1 p s1 g=>?_
  .exact⟨_,rfl,_,rfl,v,r,n,_,rfl,rfl,j,hw r c,q⟩
  .refine⟨false,p,_,rfl,SqL.of A0,U7 _ _,?_⟩;rw[a0A];exact k _ (s1.upd g)
inductive IspAllFit(vs:List V)(H:Hp)(Q:VK)(E:XK):Prop
 |mk (c a:Addr) (us:List V) (rss:LLI) (cs:List (Option Int)) (_:vs=[.ref c,.ref a]) (_:H c=some (.tup (cs.map cV))) (_:cs.length<=1000) (_:H a=some (.tup us)) (_:Its H us rss) (_:us.length<=200000) (_:∀H',Same H H'->Q (.bl (rss.all (a7B cs))) H'):IspAllFit  vs H Q E
def a5G:Sp:=λvs H Q E=>IspAllFit  vs H Q E
theorem a6X:FnScope ["caps","some"] ["caps","some"] (A1 Z7):=⟨rfl,rfl,rfl,by decide +kernel,rfl,by decide +kernel,by decide +kernel⟩
theorem a7m(F:FunAt K mg "all_fit" Z7 ["caps","some"])(T:Tx mg)(b:Ok P w K mg base "within" 1 ["caps","one"] a2t):Ok P w K mg base "all_fit" 2 ["caps","some"] a5G:=by
 refine F.okJ a6X (λvs H Q E h=>?_) (λj f A d s H vs Q E g h=>?_)
 .obtain⟨c,a,us,rss,cs,rfl,_⟩:=h;rfl
 .obtain⟨c,a,us,rss,cs,rfl,hc,hcl,ha,hI,hl,k⟩:=h;have o:(300000:Nat)<=sizeLine:=by rw[a_];decide
  refine⟨_,(A4 (A9 (O0 K rfl T.b_all (jaC (B8 (N:=["one","caps"]) (src:=[none,some 0]) (E5 K (jv 1)) (by show B7 _ _=true;rfl) (by rfl) (by rfl)
 (λ_ _ _ _ _=>(A8 (i:=0) (show(["one","caps"]:List Str).Nodup by decide +kernel) rfl (Or.inl rfl))) (λ_ _ _ _ _=>C4) (λ_ _ _ _ _=>(a0s (b7e K rfl T.b_any (jaC (jv 0) jaN)) (a0S (A6 b (g.mono (by omega)) rfl (jaC (jv 1) (jaC (jv 0) jaN))))))) jaN)))),?_⟩
  refine⟨_,rfl,a,rfl,⟨_,SqT.of ha⟩,?_⟩;refine a0F (caps:=[some (.ref c)]) (λr=>V.bl (a7B cs r)) (by omega) (λH' s=>SqT.of (s _ _ ha)) hI rfl (λv r H1 n g m s1 q=>?_) λH1 p s1 l=>?_
  .obtain⟨va,rfl,hva⟩:=id m;refine⟨_,rfl,true,va,_,rfl,SqT.of hva,b0c _,_,rfl,?_⟩;rw[b7y];unfold a7B at q;cases e:r.any λx=>!decide (x=0)with
   |false =>
    rw[e,Bool.false_and]at q;exact D6 (q _ (Same.refl _))
   |true =>
    rw[e,Bool.true_and]at q;exact G1 ⟨_,rfl,_,rfl,c,va,cs,r,rfl,s1 _ _ hc,hva,hcl,q⟩
  .refine⟨false,p,_,rfl,SqL.of A0,U7 _ _,?_⟩;rw[a0A];exact k _ (s1.upd l)
end
theorem b3Y{K:PySem.W.Frag}{src:List (Option Nat)}{σ caps:L2.St}{Q:VK}{a:Addr}{ps:List V}{f:Nat->List Int}{d:List Nat}{H:Hp}{te:TE}(g:Nat->Bool)(t:ps.length<=1000)(o:H a=some (.lst ps))(n:Prs H ps f d)(c:B1 src σ=none::none::caps)
  (l:∀(j:Nat) v H1 Q1,j∈d->IT H1 v (f j)->Same H H1->(∀H2,Same H1 H2->Q1 (.bl (g j)) H2)->te (some (.int j)::some v::caps) H1 Q1)
  (hd:∀H1 p,Same H H1->H1 p=none->Q (.ref p) (upd H1 p (.lst (d.map λj=>V.bl (g j))))) :
  E9 src (a6q K 2 (V5 (B0 0) (V5 (B0 1) a7z))) O5 te σ Q (Itl K a) H:=by
 have w:(3000:Nat)<=sizeLine:=by rw[a_];decide
 refine a0j (xs:=ps) (by omega) (λi ys H'=>Same H H'/\ys=(d.take i).map λj=>V.bl (g j)) ⟨Same.refl H,by simp⟩ (λi ys H' _ h=>⟨SqL.of (h.1 _ _ o),by rw[h.2,ae];exact bI _ _⟩) ?_ ?_
 .rintro i x ys H' hx ⟨s,rfl⟩;obtain⟨j,b,v,m,rfl,q,r⟩:=n.2 i x hx;refine⟨b,[.int j,v],rfl,SqT.of (s _ _ q),rfl,.int j,[v],rfl,v,[],rfl,rfl,?_⟩;rw[c];show Sub _ (some (.int j)::some v::caps)/\_;refine⟨⟨rfl,λk u e=>?_⟩,?_⟩
  .match k,e with
   |0,e=>cases e
   |1,e=>cases e
   |k+2,e=>exact e
  .refine l j v H' _ (aI m) (r.same s) s λH2 s2=>⟨s.trans s2,?_⟩;rw[bu,m,bz];rfl
 .rintro ys H' ⟨s,rfl⟩ p hp;rw[n.1,bx];exact hd H' p s hp
theorem b3L{H H':Hp}{d:Addr}{o:HO}(h:Rd H d o)(s:Same H H'):Rd H' d o:=by
 rcases h with h|⟨a,h⟩
 .exact .inl (s _ _ h)
 .exact .inr ⟨a,s _ _ h⟩
theorem DGet.rd{H:Hp}{a b:Addr}{kvs:List (List Key×V)}{k:List Key}(e:Rd H a (.dT kvs))(c:H b=some (.tup (k.map kV))):DGet H a (.ref b) (R5 kvs k):=.inr ⟨kvs,k,b,e,rfl,c,rfl⟩
section
variable {P:Program}{w:World}{K:PySem.W.Frag}{mg:Str->Option Value}{base:Heap}
inductive IspAreLeast(vs:List V)(H:Hp)(Q:VK)(E:XK):Prop
 |mk (ra t:Addr) (us zs:List V) (rss tss:LLI) (n:Nat) (_:vs=[.ref ra,.ref t]) (_:H ra=some (.tup us)) (_:Its H us rss) (_:us.length<=1000) (_:(∀r∈rss,r.length<=1000)) (_:H t=some (.tup zs)) (_:Its H zs tss) (_:zs.length<=1000) (_:1<=n) (_:n<=1000) (_:(∀v∈tss,v.length=n/\Sm v)) (_:∀b H',Same H H'->(b=true↔Anti rss tss)->Q (.bl b) H'):IspAreLeast  vs H Q E
def a2u:Sp:=λvs H Q E=>IspAreLeast  vs H Q E
theorem a4H:FnScope ["rows","told"] ["rows","told"] (A1 P5):=⟨rfl,rfl,rfl,by decide +kernel,rfl,by decide +kernel,by decide +kernel⟩
theorem a4S(F:FunAt K mg "are_least" P5 ["rows","told"])(T:Tx mg)(b:Ok P w K mg base "least_of" 3 ["some"] a3N)(a:Ok P w K mg base "is_answer" 3 ["rows","one"] a2a):Ok P w K mg base "are_least" 4 ["rows","told"] a2u:=by
 refine F.okJ a4H (λvs H Q E h=>?_) (λo f A m s H vs Q E d h=>?_)
 .obtain⟨ra,t,us,zs,rss,tss,n,rfl,_⟩:=h;rfl
 .obtain⟨ra,t,us,zs,rss,tss,n,rfl,hra,hI,hul,hRl,ht,hJ,hzl,n1,n2,hT,k⟩:=h;have D:(3000:Nat)<=sizeLine:=by rw[a_];decide
  have y:=d.u60;refine⟨_,(A4 (A9 (a0s (b7b K y (A6 b (d.mono (by omega)) rfl (jaC (jv 1) jaN)) (jv 1)) (a0S (O0 K rfl T.b_all (jaC (B8 (N:=["one","rows"]) (src:=[none,some 0]) (E5 K (jv 1)) (by show B7 _ _=true;rfl) (by rfl) (by rfl)
 (λ_ _ _ _ _=>(A8 (i:=0) (show(["one","rows"]:List Str).Nodup by decide +kernel) rfl (Or.inl rfl))) (λ_ _ _ _ _=>C4) (λ_ _ _ _ _=>(A6 a (d.mono (by omega)) rfl (jaC (jv 1) (jaC (jv 0) jaN))))) jaN)))))),?_⟩
  refine⟨_,rfl,t,zs,tss,n,rfl,ht,hJ,hzl,n1,n2,λr d=>(hT r d).1,λq G g H1 s1 S x j=>?_⟩;have e1:C3 tss->tss.Nodup->g=tss:=λh1 h2=>S.eq ⟨h1,h2,λ_=>Iff.rfl⟩;refine⟨_,rfl,2,_,by decide,EqV.its (k:=true) (SqT.of x) (SqT.of (s1 _ _ ht)) j (hJ.same s1),⟨_,_,rfl,rfl⟩,_,rfl,?_⟩;by_cases e:(g.filter λv=>Lst tss v)=tss
  .rw[bg e];refine G1 ⟨_,rfl,t,rfl,⟨_,SqT.of (s1 _ _ ht)⟩,?_⟩;refine a0F (caps:=[some (.ref ra)]) (λr=>V.bl (Ans rss r)) (by omega) (λH' s=>SqT.of (s _ _ (s1 _ _ ht))) (hJ.same s1) rfl (λv r H2 C l c s2 B=>?_) λH2 p s2 u=>?_
   .have s12:=s1.trans s2;exact⟨_,rfl,_,rfl,ra,v,us,rss,r,rfl,s12 _ _ hra,hI.same s12,c,hul,hRl,(hT r l).2,B⟩
   .refine⟨false,p,_,rfl,SqL.of A0,U7 _ _,?_⟩;rw[a0A];refine k _ _ (s1.trans (s2.upd u)) ?_;rw[aJ];refine⟨λh=>⟨?_,?_,λv c=>?_,h⟩,λh=>h.ans⟩
    .rw[<-e];exact List.Pairwise.filter _ S.ri
    .rw[<-e];exact S.nd.filter _
    .rw[<-e]at c;exact(aE.mp c).2
  .rw[bL e];refine D6 (k _ _ s1 ⟨(λz=>nomatch z),λh=>absurd ?_ e⟩);rw[e1 h.ri h.nd];exact List.filter_eq_self.mpr λv c=>h.lst v c
inductive IspMet(vs:List V)(H:Hp)(Q:VK)(E:XK):Prop
 |mk (t d:Addr) (y:V) (zs:List V) (tss:LLI) (kvs:List (List Key×V)) (mss:LLI) (ys:List Int) (_:vs=[.ref t,.ref d,y]) (_:H t=some (.tup zs)) (_:Its H zs tss) (_:Rd H d (.dT kvs)) (_:kvs.map (·.1)=IK mss) (_:IT H y ys) (_:(∀f∈tss,f.length<=1000)) (_:∀H',Same H H'->Q (.bl (S0 tss mss ys)) H'):IspMet  vs H Q E
def b0X:Sp:=λvs H Q E=>IspMet  vs H Q E
theorem a9s:FnScope ["told","listed","one"] ["told","listed","one"] (A1 a0K):=⟨rfl,rfl,rfl,by decide +kernel,rfl,by decide +kernel,by decide +kernel⟩
theorem a9L(F:FunAt K mg "is_met" a0K ["told","listed","one"])(T:Tx mg)(a:Ok P w K mg base "above_any" 2 ["some","one"] a2v):Ok P w K mg base "is_met" 3 ["told","listed","one"] b0X:=by
 refine F.okJ a9s (λvs H Q E h=>?_) (λg f A c s H vs Q E e h=>?_)
 .obtain⟨t,d,y,zs,tss,kvs,mss,ys,rfl,_⟩:=h;rfl
 .obtain⟨t,d,_,zs,tss,kvs,mss,ys,rfl,ht,hI,hd,hk,⟨y,rfl,hy⟩,hL,k⟩:=h;have i:=e.u60;refine⟨_,(A4 (A9 (b8o (b7c i (jv 2) (jv 1) (by with_unfolding_all rfl)) (a0S (A6 a (e.mono (by omega)) rfl (jaC (jv 0) (jaC (jv 2) jaN))))))),?_⟩;refine⟨_,rfl,_,rfl,d,_,rfl,DGet.rd hd (by rw[a7r];exact hy),_,rfl,?_⟩;rw[a6i hk];unfold S0 at k;by_cases b:ys∈mss
  .rw[bg b]at k⊢;exact G1 (k _ (Same.refl _))
  .rw[bL b,dj]at k;rw[bL b];exact D6 ⟨_,rfl,_,rfl,t,_,zs,tss,ys,rfl,ht,hI,⟨y,rfl,hy⟩,hL,k⟩
structure Ps(H:Hp)(ra c t d:Addr)(us zs:List V)(kvs:List (List Key×V))(rss tss mss:LLI)(cs:List (Option Int)):Prop where
 r:H ra=some (.tup us)
 I:Its H us rss
 c:H c=some (.tup (cs.map cV))
 t:H t=some (.tup zs)
 J:Its H zs tss
 d:Rd H d (.dT kvs)
theorem Ps.same{H H':Hp}{ra c t d:Addr}{us zs:List V}{kvs:List (List Key×V)}{rss tss a:LLI}{cs:List (Option Int)}(h:Ps H ra c t d us zs kvs rss tss a cs)(s:Same H H'):Ps H' ra c t d us zs kvs rss tss a cs:=⟨s _ _ h.r,h.I.same s,s _ _ h.c,s _ _ h.t,h.J.same s,b3L h.d s⟩
structure Pk(us:List V)(kvs:List (List Key×V))(rss tss mss:LLI)(cs:List (Option Int)):Prop where
 ul:us.length<=1000
 R:Rs cs.length rss
 n1:1<=cs.length
 n2:cs.length<=100
 k:kvs.map (·.1)=IK mss
 T:∀v∈tss,v.length=cs.length
 M:∀v∈mss,v.length=cs.length/\Sm v
inductive IspGoes(vs:List V)(H:Hp)(Q:VK)(E:XK):Prop
 |mk (ra c t d:Addr) (y:V) (us zs:List V) (kvs:List (List Key×V)) (rss tss mss:LLI) (cs:List (Option Int)) (ys:List Int) (_:vs=[.ref ra,.ref c,.ref t,.ref d,y]) (_:Ps H ra c t d us zs kvs rss tss mss cs) (_:Pk us kvs rss tss mss cs) (_:IT H y ys) (_:ys∈mss) (_:∀H',Same H H'->Q (.bl (goI rss cs tss mss ys)) H'):IspGoes  vs H Q E
def b0Z:Sp:=λvs H Q E=>IspGoes  vs H Q E
theorem a6V:FnScope ["rows","caps","told","listed","one"] ["rows","caps","told","listed","one"] (A1 Z5):=⟨rfl,rfl,rfl,by decide +kernel,rfl,by decide +kernel,by decide +kernel⟩
theorem a7k(F:FunAt K mg "goes_on" Z5 ["rows","caps","told","listed","one"])(T:Tx mg)(a:Ok P w K mg base "above_any" 2 ["some","one"] a2v)(b:Ok P w K mg base "is_answer" 3 ["rows","one"] a2a)(l:Ok P w K mg base "steps" 4 ["rows","caps","one"] a4w)(g:Ok P w K mg base "is_met" 3 ["told","listed","one"] b0X):Ok P w K mg base "goes_on" 5 ["rows","caps","told","listed","one"] b0Z:=by
 refine F.okJ a6V (λvs H Q E h=>?_) (λR f A D s H vs Q E x h=>?_)
 .obtain⟨ra,c,t,d,y,us,zs,kvs,rss,tss,mss,cs,ys,rfl,_⟩:=h;rfl
 .obtain⟨ra,c,t,d,y,us,zs,kvs,rss,tss,mss,cs,ys,rfl,S,W,hy,hm,k⟩:=h;have n:∀f∈tss,f.length<=1000:=λf U=>by rw[W.T f U];have:=W.n2;omega
  obtain⟨o,u⟩:=W.M ys hm;have V:=W.n2;refine⟨_,(A2 (D5 (D4 K (A6 a (x.mono (by omega)) rfl (jaC (jv 2) (jaC (jv 4) jaN))))
 (A4 (A9 M0))
 C1)
 (A2 (D5 (D4 K (A6 b (x.mono (by omega)) rfl (jaC (jv 0) (jaC (jv 4) jaN))))
 (A4 (A9 M0))
 C1)
 (A4 (A9 (O0 K rfl T.b_all (jaC (B8 (N:=["j","more","told","listed"]) (src:=[none,none,some 2,some 3]) (J9 K (A6 l (x.mono (by omega)) rfl (jaC (jv 0) (jaC (jv 1) (jaC (jv 4) jaN))))) (by show B7 _ _=true;rfl) (by rfl) (by rfl)
 (λ_ _ _ _ _=>(U0 K 2 (C0 (A8 (i:=0) (show(["j","more","told","listed"]:List Str).Nodup by decide +kernel) rfl (Or.inl rfl)) (C0 (A8 (i:=1) (show(["j","more","told","listed"]:List Str).Nodup by decide +kernel) rfl (Or.inl rfl)) N2)))) (λ_ _ _ _ _=>C4) (λ_ _ _ _ _=>(A6 g (x.mono (by omega)) rfl (jaC (jv 2) (jaC (jv 3) (jaC (jv 1) jaN)))))) jaN)))))),?_⟩
  refine⟨_,rfl,_,rfl,t,y,zs,tss,ys,rfl,S.t,S.J,hy,n,λH1 s1=>⟨_,rfl,?_⟩⟩;unfold goI at k;cases e:tss.any λt=>Bel t ys with
  |true =>
   rw[e,Bool.true_or]at k;exact G1 (k _ s1)
  |false =>
   rw[e,dj]at k;have I:=S.same s1;refine D6 ⟨_,rfl,_,rfl,ra,y,us,rss,ys,rfl,I.r,I.I,hy.same s1,W.ul,λr C=>by rw[(W.R r C).1];omega,u,λH2 s2=>⟨_,rfl,?_⟩⟩;have m:=s1.trans s2;cases e2:Ans rss ys with
   |true =>
    rw[e2]at k;exact G1 (k _ m)
   |false =>
    rw[e2,Bool.not_false,Bool.true_and]at k;have z:=S.same m;refine D6 ⟨_,rfl,_,rfl,_,rfl,ra,c,y,us,rss,cs,ys,rfl,z.r,z.I,z.c,hy.same m,W.ul,by omega,o.symm,by rw[o];exact W.R,u,λp ps H3 M L J=>?_⟩;refine⟨p,rfl,⟨_,SqL.of L⟩,?_⟩;have X:(StP rss cs ys).length<=ys.length:=bj (bB _ _) (bj (bB _ _) (by simp));refine b3Y (caps:=[some (.ref t),some (.ref d)]) (λj=>S0 tss mss (bump ys j)) (by rw[J.1];omega) L J rfl (λj v O Q4 hj Y G q=>?_) λO Z G B=>?_
    .have S4:=S.same (m.trans (M.trans G));exact⟨_,rfl,_,rfl,_,rfl,t,d,v,zs,tss,kvs,mss,bump ys j,rfl,S4.t,S4.J,S4.d,W.k,Y,n,q⟩
    .refine⟨false,Z,_,rfl,SqL.of A0,U7 _ _,?_⟩;rw[a0A];exact k _ (m.trans (M.trans (G.upd B)))
structure Shw(rss:LLI)(cs:List (Option Int))(tss pss:LLI):Prop where
 tv:tss.all (a0Y cs.length)=true
 pv:pss.all (a0Y cs.length)=true
 fit:(tss++pss).all (a7B cs)=true
 an:Anti rss tss
 fst:(E6 cs).all (S0 tss pss)=true
 go:pss.all (goI rss cs tss pss)=true
inductive IspShows(vs:List V)(H:Hp)(Q:VK)(E:XK):Prop
 |mk (ra c t p:Addr) (us zs ws:List V) (rss tss pss:LLI) (cs:List (Option Int)) (_:vs=[.ref ra,.ref c,.ref t,.ref p]) (_:H ra=some (.tup us)) (_:Its H us rss) (_:us.length<=1000) (_:H c=some (.tup (cs.map cV))) (_:1<=cs.length) (_:cs.length<=100) (_:Rs cs.length rss) (_:H t=some (.tup zs)) (_:Its H zs tss) (_:zs.length<=1000) (_:H p=some (.tup ws)) (_:Its H ws pss) (_:ws.length<=100000) (_:(∀v∈tss++pss,v.length<=1000/\Sm v)) (_:∀b H',Same H H'->(b=true↔Shw rss cs tss pss)->Q (.bl b) H'):IspShows  vs H Q E
def a8f:Sp:=λvs H Q E=>IspShows  vs H Q E
theorem a3V{tss a b:LLI}(h:∀r,r∈a↔r∈b):S0 tss a=S0 tss b:=by
 funext v;unfold S0;congr 1;rw[bQ,bf,bf];exact h v
theorem b2C{rss tss a b:LLI}{cs:List (Option Int)}(h:∀r,r∈a↔r∈b):goI rss cs tss a=goI rss cs tss b:=by
 funext v;unfold goI;rw[a3V h]
theorem a7W{n:Nat}{l:LLI}(h:l.all (a0Y n)=true):∀v∈l,v.length=n:=λv a=>by
 have:=aJ.mp h v a;unfold a0Y at this;rw[aG]at this;exact bw this.1
theorem sc_shows:FnScope ["rows","caps","told","paper","listed"] ["rows","caps","told","paper"] (A1 a2d):=⟨rfl,rfl,rfl,by decide +kernel,rfl,by decide +kernel,by decide +kernel⟩
theorem b1U(F:FunAt K mg "shows" a2d ["rows","caps","told","paper"])(T:Tx mg)(a:Ok P w K mg base "are_vectors" 3 ["value","width"] a8e)(m:Ok P w K mg base "all_fit" 2 ["caps","some"] a5G)(l:Ok P w K mg base "are_least" 4 ["rows","told"] a2u)(y:Ok P w K mg base "is_met" 3 ["told","listed","one"] b0X)(e:Ok P w K mg base "first_steps" 2 ["caps"] a4A)(n:Ok P w K mg base "goes_on" 5 ["rows","caps","told","listed","one"] b0Z):Ok P w K mg base "shows" 6 ["rows","caps","told","paper"] a8f:=by
 refine F.okJ sc_shows (λvs H Q E h=>?_) (λd7 f A c7 s H vs Q E R h=>?_)
 .obtain⟨ra,c,t,p,us,zs,ws,rss,tss,pss,cs,rfl,_⟩:=h;rfl
 .obtain⟨ra,c,t,p,us,zs,ws,rss,tss,pss,cs,rfl,hra,hI,hul,hc,n1,n2,hR,ht,hJ,hzl,hp,hM,hwl,hV,k⟩:=h;have hu:=R.u60;have hz:(300000:Nat)<=sizeLine:=by rw[a_];decide
  have Z:∀v∈tss,v.length<=1000/\Sm v:=λv j=>hV v (aS _ j);have a5:∀v∈pss,v.length<=1000/\Sm v:=λv j=>hV v (aU _ j);refine⟨_,(A2 (D5 (a1S (a2W (M1 (D4 K (A6 a (R.mono (by omega)) rfl (jaC (jv 2) (jaC (G7 K rfl T.b_len (jaC (jv 1) jaN)) jaN))))) (a1k (M1 (D4 K (A6 a (R.mono (by omega)) rfl (jaC (jv 3) (jaC (G7 K rfl T.b_len (jaC (jv 1) jaN)) jaN))))))))
 (A4 (A9 M0))
 C1)
 (A2 (D5 (a1S (a2W (M1 (D4 K (A6 m (R.mono (by omega)) rfl (jaC (jv 1) (jaC (G5 (jv 2) (jv 3)) jaN))))) (a1k (M1 (D4 K (A6 l (R.mono (by omega)) rfl (jaC (jv 0) (jaC (jv 2) jaN))))))))
 (A4 (A9 M0))
 C1)
 (A2 (B3 (i:=4) sc_shows.nd rfl (Or.inr rfl) (b2s hu rfl T.b_dict (jaC (B8 (N:=["one"]) (src:=[none]) (E5 K (jv 3)) (by show B7 _ _=true;rfl) (by rfl) (by rfl)
 (λ_ _ _ _ _=>(A8 (i:=0) (show(["one"]:List Str).Nodup by decide +kernel) rfl (Or.inl rfl))) (λ_ _ _ _ _=>C4) (λ_ _ _ _ _=>(X2 (jaC (jv 0) (jaC M0 jaN))))) jaN)))
 (A2 (D5 (M1 (D4 K (O0 K rfl T.b_all (jaC (B8 (N:=["one","told","listed"]) (src:=[none,some 2,some 4]) (E5 K (A6 e (R.mono (by omega)) rfl (jaC (jv 1) jaN))) (by show B7 _ _=true;rfl) (by rfl) (by rfl)
 (λ_ _ _ _ _=>(A8 (i:=0) (show(["one","told","listed"]:List Str).Nodup by decide +kernel) rfl (Or.inl rfl))) (λ_ _ _ _ _=>C4) (λ_ _ _ _ _=>(A6 y (R.mono (by omega)) rfl (jaC (jv 1) (jaC (jv 2) (jaC (jv 0) jaN)))))) jaN))))
 (A4 (A9 M0))
 C1)
 (A4 (A9 (O0 K rfl T.b_all (jaC (B8 (N:=["one","rows","caps","told","listed"]) (src:=[none,some 0,some 1,some 2,some 4]) (b4J (jv 4)) (by show B7 _ _=true;rfl) (by rfl) (by rfl)
 (λ_ _ _ _ _=>(A8 (i:=0) (show(["one","rows","caps","told","listed"]:List Str).Nodup by decide +kernel) rfl (Or.inl rfl))) (λ_ _ _ _ _=>C4) (λ_ _ _ _ _=>(A6 n (R.mono (by omega)) rfl (jaC (jv 1) (jaC (jv 2) (jaC (jv 3) (jaC (jv 4) (jaC (jv 0) jaN)))))))) jaN)))))))),?_⟩
  refine⟨_,rfl,_,rfl,c,_,rfl,.inr (SqT.of hc),t,zs,tss,cs.length,_,rfl,by rw[ae],ht,hJ,by omega,λr D=>(Z r D).1,λH1 s1=>⟨_,rfl,?_⟩⟩;cases e1:tss.all (a0Y cs.length)with
  |false=>exact G1 (k _ _ s1 ⟨(λz=>nomatch z),λh=>by rw[h.tv]at e1;cases e1⟩)
  |true =>
  refine D6 ⟨_,rfl,_,rfl,c,_,rfl,.inr (SqT.of (s1 _ _ hc)),p,ws,pss,cs.length,_,rfl,by rw[ae],s1 _ _ hp,hM.same s1,by omega,λr D=>(a5 r D).1,λH2 s2=>⟨_,rfl,?_⟩⟩;have M:=s1.trans s2;cases e2:pss.all (a0Y cs.length)with
  |false=>exact G1 (k _ _ M ⟨(λz=>nomatch z),λh=>by rw[h.pv]at e2;cases e2⟩)
  |true =>
  have a4:=a7W e1;have c2:=a7W e2;refine D6 ?_;refine⟨_,rfl,_,rfl,_,rfl,t,p,zs,ws,rfl,rfl,M _ _ ht,M _ _ hp,by omega,λq H3 s3 hq=>?_⟩;have O:=M.trans s3;have c0:Its H3 (zs++ws) (tss++pss):=a4Y (hJ.same O) (hM.same O);refine⟨c,q,_,_,cs,rfl,O _ _ hc,by omega,hq,c0,by rw[ak];omega,λH4 s4=>⟨_,rfl,?_⟩⟩;have B:=O.trans s4;cases e3:(tss++pss).all (a7B cs)with
  |false=>exact G1 (k _ _ B ⟨(λz=>nomatch z),λh=>by rw[h.fit]at e3;cases e3⟩)
  |true =>
  refine D6 ⟨_,rfl,_,rfl,ra,t,us,zs,rss,tss,cs.length,rfl,B _ _ hra,hI.same B,hul,λr D=>by rw[(hR r D).1];omega,B _ _ ht,hJ.same B,hzl,n1,by omega,λv j=>⟨a4 v j,(Z v j).2⟩,λb5 H5 s5 h5=>⟨_,rfl,?_⟩⟩;have I:=B.trans s5;cases b5 with
  |false=>exact G1 (k _ _ I ⟨(λz=>nomatch z),λh=>by have:=h5.mpr h.an;cases this⟩)
  |true =>
  have b9:=h5.mp rfl;refine D6 ?_;have a8:=I _ _ hp;have c1:=hM.same I;refine⟨_,rfl,p,rfl,⟨_,SqT.of a8⟩,?_⟩;refine O3 (K:=K) (xs:=ws) (by omega) (λi qs H'=>Same H5 H'/\PrT H' qs (pss.take i)) ⟨Same.refl H5,PrT.nil⟩ (λi qs H' _ h=>⟨SqT.of (h.1 _ _ a8),by rw[h.2.1];exact bI _ _⟩) ?_ ?_
  .rintro i x qs H' hx ⟨s',hP'⟩;obtain⟨r,e5,c5,c6⟩:=c1.mem hx;refine⟨Sub.one,_,rfl,by show 2<=sizeLine;omega,λp8 c4=>?_⟩;have J:=(Same.refl H').upd (o:=.tup [x,.bl true]) c4;refine⟨s'.trans J,?_⟩;rw[bu,c5];exact(hP'.same J).snoc A0 ((c6.same s').same J)
  rintro qs H6 ⟨s6,Y⟩ p6 a9;rw[hM.1,bx]at Y;have s7:=(Same.refl H6).upd (o:=.lst qs) a9;refine⟨p6,qs,pss,rfl,A0,Y.same s7,λd kvs b hd hk u=>?_⟩;have J:=I.trans ((s6.trans s7).upd (o:=.dT kvs) hd);have e8:upd (upd H6 p6 (.lst qs)) d (.dT kvs) d=some (.dT kvs):=A0;have c3:H d=none:=I.free ((s6.trans s7).free hd);generalize upd (upd H6 p6 (.lst qs)) d (.dT kvs)=H8 at J e8;clear hd s7 Y s6 a9;dsimp only[B0];have em:=a3V (tss:=tss) u.mem;have b8:=b2C (rss:=rss) (tss:=tss) (cs:=cs) u.mem;have W:Pk us kvs rss tss b cs:=⟨hul,hR,n1,n2,hk,a4,λv j=>⟨c2 v ((u.mem v).mp j),(a5 v ((u.mem v).mp j)).2⟩⟩;have S8:Ps H8 ra c t d us zs kvs rss tss b cs:=⟨J _ _ hra,hI.same J,J _ _ hc,J _ _ ht,hJ.same J,.inl e8⟩;refine⟨_,rfl,c,cs,rfl,S8.c,n1,n2,λq9 d1 X H9 s9 b0 a3 a0 d3=>?_⟩;have d8:d1.length<=100:=by
   rw[a3.1,a0.length_eq];exact bj (bB _ _) (by simp;omega)
  refine⟨q9,rfl,⟨_,SqT.of b0⟩,?_⟩;refine a0F (caps:=[some (.ref t),some (.ref d)]) (λr=>V.bl (S0 tss b r)) (by omega) (λH' s=>SqT.of (s _ _ b0)) a3 rfl (λv r a2 d4 d2 j a1 c9=>?_) λa2 b2 a1 a6=>?_
  .have S10:=S8.same (s9.trans a1);exact⟨_,rfl,_,rfl,_,rfl,t,d,v,zs,tss,kvs,b,r,rfl,S10.t,S10.J,S10.d,hk,j,λf hf=>(Z f hf).1,c9⟩
  have L:=(s9.trans a1).upd (o:=.lst (X.map λr=>V.bl (S0 tss b r))) a6;refine⟨false,b2,_,rfl,SqL.of A0,U7 _ _,?_⟩;rw[a0A];have ef:X.all (S0 tss b)=(E6 cs).all (S0 tss pss):=by
   rw[em];rw[bQ,aJ,aJ];exact⟨λh v j=>h v (a0.mem_iff.mpr j),λh v j=>h v (a0.mem_iff.mp j)⟩
  rw[ef];generalize upd a2 b2 (.lst (X.map λr=>V.bl (S0 tss b r)))=C at L;have S:=J.trans L;refine⟨_,rfl,?_⟩;cases e4:(E6 cs).all (S0 tss pss)with
  |false=>exact G1 (k _ _ S ⟨(λz=>nomatch z),λh=>by rw[h.fst]at e4;cases e4⟩)
  |true =>
  refine D6 ?_;have b7:=L _ _ e8;have d6:=S8.same L;refine⟨_,rfl,d,kvs,rfl,b7,λob=>?_⟩;have off:Off [d] C (upd C d (.frz ob (.dT kvs))):=(Off.refl _ _).set (by simp);have U:upd C d (.frz ob (.dT kvs)) d=some (.frz ob (.dT kvs)):=A0;have g:Same H (upd C d (.frz ob (.dT kvs))):=a2A S c3 off;generalize upd C d (.frz ob (.dT kvs))=b3 at g U;have b6:Ps b3 ra c t d us zs kvs rss tss b cs:=⟨g _ _ hra,hI.same g,g _ _ hc,g _ _ ht,hJ.same g,.inr ⟨ob,U⟩⟩;have d9:=b2y hk;have e0:b.length<=100000:=by have:=u.le;rw[<-hM.1]at this;omega
  refine b0h (caps:=[some (.ref ra),some (.ref c),some (.ref t),some (.ref d)]) (λr=>V.bl (goI rss cs tss b r)) (by omega) U hk rfl (λv r b4 d5 b1 j G d0=>?_) λb4 c8 G a7=>?_
  .have S13:=b6.same G;exact⟨_,rfl,_,rfl,_,rfl,_,rfl,_,rfl,ra,c,t,d,v,us,zs,kvs,rss,tss,b,cs,r,rfl,S13,W,j,b1,d0⟩
  .refine⟨false,c8,_,rfl,SqL.of A0,U7 _ _,?_⟩;rw[a0A];have ea:b.all (goI rss cs tss b)=pss.all (goI rss cs tss pss):=by
    rw[b8];rw[bQ,aJ,aJ];exact⟨λh v j=>h v ((u.mem v).mpr j),λh v j=>h v ((u.mem v).mp j)⟩
   rw[ea];refine k _ _ (g.trans (G.upd a7)) ⟨λh=>⟨e1,e2,e3,b9,e4,h⟩,λh=>h.go⟩
end
theorem a5a{cs:List (Option Int)}{v:List Int}(a:∀x∈v,0<=x):a7B cs v=true↔0<v.sum/\Wi cs v=true:=by
 unfold a7B;rw[aG];refine and_congr_left λ_=>?_;rw[bD];constructor
 .rintro⟨x,hx,h⟩;have h1:¬x=0:=by simpa using h
  have h2:=a x hx;exact a7Z v a x hx (by omega)
 .intro h;obtain⟨j,b,h1⟩:=a2G a h;rw[aq,aj b]at h1;have h1:1<=v[j]:=h1;exact⟨v[j],cY _,by simp;omega⟩
theorem vecI_iff{n:Nat}{v:List Int}:a0Y n v=true↔v.length=n/\∀x∈v,0<=x:=by
 unfold a0Y;rw[aG,bf,aJ];exact and_congr_right λ_=>⟨λh x a=>bw (h x a),λh x a=>bg (h x a)⟩
theorem b3B{rss:LLI}{cs:List (Option Int)}{F W tss c:LLI}{k:Nat}(hR:∀r∈rss,r.length=cs.length)(h:Wk rss cs F W [] k)(g:tss.Perm F)(o:C3 tss)(l:∀v∈c,v.length=cs.length/\(∀x∈v,0<=x)/\0<v.sum/\Wi cs v=true)(n:∀v∈c,v∈W∨(tss.any λt=>Bel t v)=true)(q:∀v∈W,v∈c∨(tss.any λt=>Bel t v)=true):Shw rss cs tss c:=by
 have d:∀v,v∈tss↔Least rss cs v:=λv=>g.mem_iff.trans (h.least hR v);have m:tss.Nodup:=g.symm.nodup h.nd.2;have pap:=h.pap hR;have met:∀v,v∈W->S0 tss c v=true:=λv b=>by
  unfold S0;rcases q v b with z|z
  .rw[bg z,Bool.true_or]
  .rw[z,Bool.or_true]
 refine⟨aJ.mpr λv b=>?_,aJ.mpr λv b=>?_,aJ.mpr λv b=>?_,⟨o,m,λv b=>?_,λv b=>((d v).mp b).an.ans⟩,aJ.mpr λv b=>met v (pap.fst v b),aJ.mpr λv b=>?_⟩
 .exact vecI_iff.mpr ⟨((d v).mp b).an.len,((d v).mp b).an.nn⟩
 .exact vecI_iff.mpr ⟨(l v b).1,(l v b).2.1⟩
 .rcases aA.mp b with z|z
  .have:=(d v).mp z;exact(a5a this.an.nn).mpr ⟨this.an.pos,this.wi⟩
  .have:=l v z;exact(a5a this.2.1).mpr this.2.2
 .unfold Lst;rw[dh,eB];intro u C i;rw[aG]at i;have h1:=(d u).mp C;have h2:=(d v).mp b;have:=h2.min u h1.an ((E4 (by rw[h1.an.len,h2.an.len])).mp i.2);rw[this]at i;simp at i
 .obtain⟨h1,h2,h3,h4⟩:=l v b;unfold goI;cases s:tss.any λt=>Bel t v with
  |true=>rfl
  |false =>
   have p:v∈W:=(n v b).resolve_right (by rw[s];decide);rw[dj,aG,dh];constructor
   .cases e:Ans rss v with
    |false=>rfl
    |true =>
     obtain⟨a,w,y⟩:=N3 v.sum.toNat (by omega) ⟨h1,h2,e,h3⟩ h4;have:=eB.mp s a ((d a).mpr w);rw[(E4 (by rw[w.an.len,h1])).mpr y]at this;exact absurd rfl this
   .rw[aJ];intro j B;rcases pap.nx v p (by simp) j B with z|⟨f,A,i⟩
    .exact met _ z
    .unfold S0;rw[bD.mpr ⟨f,g.mem_iff.mpr A,i⟩,Bool.or_true]
end K39
namespace K39
open PySem PySem.Spec PyProof.Rows L2
section
variable {P:Program}{w:World}{K:PySem.W.Frag}{mg:Str->Option Value}{base:Heap}
inductive IspNought(vs:List V)(H:Hp)(Q:VK)(E:XK):Prop
 |mk (n:Int) (_:vs=[.int n]) (_:1<=n) (_:n<=1000) (_:∀v H',Same H H'->IT H' v (List.replicate n.toNat 0)->Q v H'):IspNought  vs H Q E
def a5D:Sp:=λvs H Q E=>IspNought  vs H Q E
theorem a9r:FnScope ["width"] ["width"] (A1 a0J):=⟨rfl,rfl,rfl,by decide +kernel,rfl,by decide +kernel,by decide +kernel⟩
theorem a9K(F:FunAt K mg "nought" a0J ["width"]):Ok P w K mg base "nought" 1 ["width"] a5D:=by
 refine F.okJ a9r (λvs H Q E h=>?_) (λb f A a s H vs Q E d h=>?_)
 .obtain⟨n,rfl,_⟩:=h;rfl
 .obtain⟨n,rfl,h1,h2,k⟩:=h;refine⟨_,(A4 (A9 (a2Z (X2 (jaC A5 jaN)) (jv 0)))),?_⟩;have g:(1000:Nat)<=sizeLine:=by rw[a_];decide
  refine⟨by show 1<=sizeLine;omega,λp c=>⟨_,rfl,p,[.int 0],n,rfl,rfl,A0,by simp,h1,?_,λq H' s e=>?_⟩⟩
  .show(1:Int)*n<=_;omega
  .rw[X7]at e;exact k _ _ (((Same.refl H).upd c).trans s) ⟨q,rfl,e⟩
end
def SD(H:Hp):Nat->V->V->Prop
 |0,_,_=>False
 |n+1,x,y=>(∃i,x=.int i/\y=.int i)∨∃a b xs ys,x=.ref a/\y=.ref b/\H a=some (.tup xs)/\H b=some (.tup ys)/\xs.length=ys.length/\xs.length<=1000/\∀(i:Nat) x' y',xs[i]?=some x'->ys[i]?=some y'->SD H n x' y'
theorem SD.same{H H':Hp}(s:Same H H'):∀{n:Nat}{x y:V},SD H n x y->SD H' n x y
 |0,_,_,h=>h
 |n+1,x,y,h=>by
  rcases h with h|⟨a,b,xs,ys,h1,h2,d,f,g,j,k⟩
  .exact .inl h
  .exact .inr ⟨a,b,xs,ys,h1,h2,s _ _ d,s _ _ f,g,j,λi l m e c=>SD.same s (k i l m e c)⟩
theorem SD.ints{H:Hp}{x y:V}{ns:List Int}(h:IT H x ns)(j:IT H y ns)(g:ns.length<=1000):SD H 2 x y:=by
 obtain⟨a,rfl,d⟩:=h;obtain⟨b,rfl,f⟩:=j;refine .inr ⟨a,b,_,_,rfl,rfl,d,f,rfl,by rw[ae];exact g,λi k l e c=>?_⟩;rw[e]at c;cases c;obtain⟨z,_,rfl⟩:=U6 e;exact .inl ⟨z,rfl,rfl⟩
section
variable {P:Program}{w:World}{K:PySem.W.Frag}{mg:Str->Option Value}{base:Heap}
inductive IspSame(n:Nat)(vs:List V)(H:Hp)(Q:VK)(E:XK):Prop
 |mk (x:_) (y:_) (_:vs=[x,y]) (_:SD H n x y) (_:∀H',Same H H'->Q (.bl true) H'):IspSame n vs H Q E
def b0U(n:Nat):Sp:=λvs H Q E=>IspSame n vs H Q E
theorem b4v{x:Str}{st:Stmt}{ps:List Str}{k:Nat}(F:FunAt K mg x st ps):Ok P w K mg base x k ps (λ_ _ _ _=>False):=by
 obtain⟨f,fd,h1,h2,a⟩:=F.ex;exact⟨f,fd,h1,h2.kp,a,⟨λ_ _ _ _ z=>z.elim,λ_ _ _ _ _ _ _ _ _ _ _ _ _ z=>z.elim⟩⟩
theorem a4I:FnScope ["_law_found","_law_due"] ["_law_found","_law_due"] (A1 P7):=⟨rfl,rfl,rfl,by decide +kernel,rfl,by decide +kernel,by decide +kernel⟩
theorem a8w(F:FunAt K mg "_law_same" P7 ["_law_found","_law_due"])(T:Tx mg):∀n:Nat,Ok P w K mg base "_law_same" (n+1) ["_law_found","_law_due"] (b0U n)
 |0=>(b4v F).imp λvs H Q E ⟨_,_,_,z,_⟩=>z
 |n+1=>by
  have c:=a8w F T n;refine F.okJ a4I (λvs H Q E h=>?_) (λm f A k s H vs Q E q h=>?_)
  .obtain⟨x,y,rfl,_⟩:=h;rfl
  .obtain⟨x,y,rfl,hS,kk⟩:=h;refine⟨_,(A2 (D5 (D4 K (C5 K rfl T.b_isinstance (jaC (jv 1) (jaC (X4 (v:=.ty "tuple") rfl T.b_tuple Y7 rfl) jaN))))
 (A2 (D5 (a1S (a2W (M1 (D4 K (C5 K rfl T.b_isinstance (jaC (jv 0) (jaC (X4 (v:=.ty "tuple") rfl T.b_tuple Y7 rfl) jaN))))) (a1k (b5F (G7 K rfl T.b_len (jaC (jv 0) jaN)) (G7 K rfl T.b_len (jaC (jv 1) jaN))))))
 (A4 (A9 M0))
 C1)
 (A4 (A9 (O0 K rfl T.b_all (jaC (B8 (N:=["_law_one","_law_other"]) (src:=[none,none]) (a2Y K rfl T.b_zip (jaC (jv 0) (jaC (jv 1) jaN))) (by show B7 _ _=true;rfl) (by rfl) (by rfl)
 (λ_ _ _ _ _=>(U0 K 2 (C0 (A8 (i:=0) (show(["_law_one","_law_other"]:List Str).Nodup by decide +kernel) rfl (Or.inl rfl)) (C0 (A8 (i:=1) (show(["_law_one","_law_other"]:List Str).Nodup by decide +kernel) rfl (Or.inl rfl)) N2)))) (λ_ _ _ _ _=>C4) (λ_ _ _ _ _=>(A6 c (q.mono (by omega)) rfl (jaC (jv 0) (jaC (jv 1) jaN))))) jaN)))))
 C1)
 (A4 (A9 (a0s (C5 K rfl T.b_isinstance (jaC (jv 0) (jaC (X4 (v:=.ty "int") rfl T.b_int a7L rfl) jaN))) (a0s (b5H (C5 K rfl T.b_isinstance (jaC (jv 0) (jaC (X4 (v:=.ty "bool") rfl T.b_bool a8Y rfl) jaN)))) (a0S (a6k (jv 0) (jv 1)))))))),?_⟩
   rcases hS with⟨i,rfl,rfl⟩|⟨a,b,xs,ys,rfl,rfl,d,g,o,l,hi⟩
   .refine⟨_,rfl,_,_,_,false,rfl,.int i,rfl,_,rfl,D6 ?_⟩;refine⟨_,rfl,_,_,_,true,rfl,.int i,rfl,_,rfl,G1 ?_⟩;refine⟨_,rfl,_,_,_,false,rfl,.int i,rfl,_,rfl,_,rfl,G1 ?_⟩;refine⟨_,rfl,_,rfl,rfl,?_⟩;rw[show decide (V.int i=V.int i)=true from bg rfl];exact kk H (Same.refl H)
   .refine⟨_,rfl,_,_,_,true,rfl,.tup g,rfl,_,rfl,G1 ?_⟩;refine⟨_,rfl,_,_,_,true,rfl,.tup d,rfl,_,rfl,D6 ?_⟩;refine⟨_,rfl,_,_,rfl,.inr (SqT.of d),_,rfl,_,_,rfl,.inr (SqT.of g),rfl,_,rfl,?_⟩;rw[show decide (V.int (xs.length:Int)=V.int (ys.length:Int))=true from bg (by rw[o])];refine D6 ?_;refine⟨_,rfl,_,rfl,true,true,a,b,rfl,⟨_,SqT.of d⟩,⟨_,SqT.of g⟩,?_⟩;have u:(1000:Nat)<=sizeLine:=by rw[a_];decide
    refine Y5 (K:=K) (k1:=true) (k2:=true) (a:=a) (b:=b) (xs:=xs) (zs:=ys) (by omega) (λi zs H'=>Same H H'/\zs=List.replicate i (.bl true)) ⟨Same.refl H,rfl⟩
     (λi zs H' _ _ h=>⟨SqT.of (h.1 _ _ d),SqT.of (h.1 _ _ g),by rw[h.2,aV];exact ao _⟩) ?_ ?_
    .rintro i x z zs H' p hx hy ⟨s',rfl⟩ hp;have s2:Same H (upd H' p (.tup [x,z])):=s'.upd hp;refine⟨p,[x,z],rfl,SqT.of A0,rfl,x,[z],rfl,z,[],rfl,rfl,⟨rfl,λj v e=>?_⟩,?_⟩
     .match j,e with
      |0,e=>cases e
      |1,e=>cases e
     .refine⟨_,rfl,_,rfl,x,z,rfl,(hi i x z hx hy).same s2,λt r=>⟨s2.trans r,?_⟩⟩;rw[List.replicate_succ']
    .rintro zs H' ⟨s',rfl⟩ p hp;refine⟨false,p,_,rfl,SqL.of A0,?_,?_⟩
     .simp[a4d]
     .rw[show(List.replicate (min xs.length ys.length) (V.bl true)).all trV=true by simp[trV]];exact kk _ (s'.upd hp)
inductive IspRisen(vs:List V)(H:Hp)(Q:VK)(E:XK):Prop
 |mk (p:Addr) (us:List V) (rss:LLI) (_:vs=[.ref p]) (_:H p=some (.lst us)) (_:Its H us rss) (_:us.length<=1000) (_:(∀r∈rss,0<r.length)) (_:∀q zs srt H',Same H H'->L2.Srt rss srt->H' q=some (.tup zs)->Its H' zs srt->Q (.ref q) H'):IspRisen  vs H Q E
def a4y:Sp:=λvs H Q E=>IspRisen  vs H Q E
theorem b1i:FnScope ["some"] ["some"] (A1 a2e):=⟨rfl,rfl,rfl,by decide +kernel,rfl,by decide +kernel,by decide +kernel⟩
theorem b1V(F:FunAt K mg "risen" a2e ["some"])(T:Tx mg):Ok P w K mg base "risen" 1 ["some"] a4y:=by
 refine F.okJ b1i (λvs H Q E h=>?_) (λy f A v s H vs Q E m h=>?_)
 .obtain⟨p,us,rss,rfl,_⟩:=h;rfl
 .obtain⟨p,us,rss,rfl,hp,hI,hl,hR,k⟩:=h;have C:=m.u60;refine⟨_,(A4 (A9 (C9 K rfl T.b_tuple (jaC (a6n P w rfl T.b_sorted (jaC (a8E K P w C rfl T.b_set (jaC (jv 0) jaN)) jaN)) jaN)))),?_⟩;refine⟨_,rfl,false,p,us,rss,rfl,SqL.of hp,hI,hl,λa xs z c b i=>?_⟩;have s1:=(Same.refl H).upd (o:=a1b P w a xs) z;have e1:upd H a (a1b P w a xs) a=some (a1b P w a xs):=A0;generalize upd H a (a1b P w a xs)=H1 at s1 e1;have u:xs.length<=1000:=by
   have:=Tab.nodup_le (xs.map (·.1)) rss c λr m=>(b r).mp m;rw[ae,<-hI.1]at this;omega
  refine⟨a,xs,rfl,e1,λx t=>(i x t).same s1,λx t=>hR x.1 ((b x.1).mp (aL.mpr ⟨x,t,rfl⟩)),u,λl zs e j g d n=>?_⟩;have S:L2.Srt rss e:=⟨n,d.symm.nodup c,λr=>(d.mem_iff).trans (b r)⟩;refine⟨l,zs,rfl,.inl ⟨SqL.of A0,λq B=>?_⟩⟩;have s2:=((Same.refl H1).upd (o:=.lst zs) j).upd (o:=.tup zs) B;exact k q zs e _ (s1.trans s2) S A0 (g.same s2)
def era(j:Nat)(r:List Int):List Int:=r.take j++r.drop (j+1)
def drp(j:Nat)(tss:LLI):LLI:=(tss.filter λr=>decide (r.getD j 0=0)).map (era j)
theorem a5c{j:Nat}{r:List Int}{n:Nat}(h:r.length=n)(a:j<n):(era j r).length=n-1:=by
 unfold era;rw[ak,aP,bE];omega
theorem mem_drp{j:Nat}{tss:LLI}{v:List Int}:v∈drp j tss↔∃r,r∈tss/\r.getD j 0=0/\era j r=v:=by
 unfold drp;rw[aL];constructor
 .rintro⟨r,h,e⟩;obtain⟨h1,h2⟩:=aE.mp h;exact⟨r,h1,bw h2,e⟩
 .rintro⟨r,h1,h2,e⟩;exact⟨r,aE.mpr ⟨h1,bg h2⟩,e⟩
theorem b0k{src:List (Option Nat)}{σ:L2.St}{Q:VK}{a:Addr}{us:List V}{tss:LLI}{j n:Nat}{H:Hp}(c:B1 src σ=[none,some (.int j)])(D:H a=some (.tup us))(hI:Its H us tss)(G:us.length<=1000)(O:n<=100)(N:j<n)(E:∀v∈tss,v.length=n)(hd:∀H1 p A,Same H H1->H1 p=none->Its H1 A (drp j tss)->Q (.ref p) (upd H1 p (.lst A))) :
  E9 src (B0 0) (V1 (tOp rEq (tOp (b3P K) (N5 0) (N5 1)) (tC (V.int 0)))) (tOp a2E (tSl (a7d K) (N5 0) O6 (a3K (N5 1))) (tSl (a7d K) (N5 0) (a3K (tOp (rI0 λi j=>V.int (i+j)) (N5 1) (tC (V.int 1)))) O6)) σ Q (Itt K a) H:=by
 have P:(3000:Nat)<=sizeLine:=by rw[a_];decide
 refine O3 (xs:=us) (by omega) (λi ys H'=>Same H H'/\Its H' ys (drp j (tss.take i))/\ys.length<=i) ⟨Same.refl H,Its.nil,ao _⟩ (λi ys H' _ h=>⟨SqT.of (h.1 _ _ D),h.2.2⟩) ?_ ?_
 .rintro i x ys H1 hx ⟨s1,hy,hyl⟩;obtain⟨r,m,q,g,rfl,s⟩:=hI.mem hx;have F:=E r m;have b:=s1 _ _ s;have e:drp j (tss.take (i+1))=drp j (tss.take i)++(if r.getD j 0=0 then[era j r] else[]):=by
   unfold drp;rw[bu,q,List.filter_append,bz];congr 1;by_cases e:r.getD j 0=0
   .rw[az e];show List.map _ (List.filter _ [r])=_;rw[ft (by exact bg e)];rfl
   .rw[ar e];show List.map _ (List.filter _ [r])=_;rw[List.filter_cons_of_neg (by simpa using e)];rfl
  rw[e];show Sub _ ((B1 src σ).set 0 (some (.ref g)))/\_;rw[c];refine⟨Sub.one,?_⟩;refine⟨_,rfl,_,rfl,g,_,_,_,rfl,rfl,SqT.of b,a1u (by omega),rfl,_,rfl,a0y (λe=>?_) (λe=>?_)⟩
  .have e':r.getD j 0=0:=V.int.inj (bw e);rw[az e'];refine⟨_,rfl,_,rfl,(j:Int),rfl,g,_,rfl,SqT.of b,?_,λf k=>?_⟩
   .rw[HT.sIx_none,HT.sIx_nat,ae];omega
   rw[b2T r j (by omega)];have t:=(Same.refl H1).upd (o:=.tup ((r.take j).map V.int)) k;have u:upd H1 f (.tup ((r.take j).map V.int)) f=some (.tup ((r.take j).map V.int)):=A0;generalize upd H1 f (.tup ((r.take j).map V.int))=B at t u;have w:((j:Int)+1)=((j+1:Nat):Int):=by push_cast;rfl
   refine⟨_,rfl,_,rfl,_,_,rfl,rfl,((j:Int)+1),rfl,g,_,rfl,SqT.of (t _ _ b),?_,λI l=>?_⟩
   .rw[w,HT.sIx_nat,ae];omega
   rw[w,b2U r (j+1) (by omega)];have y:=(Same.refl B).upd (o:=.tup ((r.drop (j+1)).map V.int)) l;refine⟨f,I,_,_,rfl,rfl,y _ _ u,A0,by rw[ae,ae,aP,bE];omega,λJ M L C=>?_⟩;have d:=(t.trans y).trans L;exact⟨s1.trans d,(hy.same d).snoc ⟨J,rfl,by rw[C,<-bz];rfl⟩,by rw[ak];show _+1<=_;omega⟩
  .have e':¬r.getD j 0=0:=λz=>e (bg (by rw[z]));rw[ar e',cz];exact⟨s1,hy,by omega⟩
 .rintro ys H1 ⟨s1,hy,_⟩ p1 hp1;rw[hI.1,bx]at hy;exact hd H1 p1 ys s1 hp1 hy
inductive IspDrop(vs:List V)(H:Hp)(Q:VK)(E:XK):Prop
 |mk (t:Addr) (zs:List V) (tss:LLI) (j n:Nat) (_:vs=[.ref t,.int j]) (_:H t=some (.tup zs)) (_:Its H zs tss) (_:zs.length<=1000) (_:2<=n) (_:n<=100) (_:j<n) (_:(∀r∈tss,r.length=n)) (_:∀q ws srt H',Same H H'->L2.Srt (drp j tss) srt->H' q=some (.tup ws)->Its H' ws srt->Q (.ref q) H'):IspDrop  vs H Q E
def b1a:Sp:=λvs H Q E=>IspDrop  vs H Q E
theorem a6W:FnScope ["told","j"] ["told","j"] (A1 Z6):=⟨rfl,rfl,rfl,by decide +kernel,rfl,by decide +kernel,by decide +kernel⟩
theorem a7l(F:FunAt K mg "dropped" Z6 ["told","j"])(T:Tx mg)(a:Ok P w K mg base "risen" 1 ["some"] a4y):Ok P w K mg base "dropped" 2 ["told","j"] b1a:=by
 refine F.okJ a6W (λvs H Q E h=>?_) (λv f A e s H vs Q E d h=>?_)
 .obtain⟨t,zs,tss,j,n,rfl,_⟩:=h;rfl
 .obtain⟨t,zs,tss,j,n,rfl,ht,hI,hzl,n2,n100,hj,hl,kk⟩:=h;refine⟨_,(A4 (A9 (A6 a (d.mono (by omega)) rfl (jaC (B8 (N:=["one","j"]) (src:=[none,some 1]) (E5 K (jv 0)) (by show B7 _ _=true;rfl) (by rfl) (by rfl)
 (λ_ _ _ _ _=>(A8 (i:=0) (show(["one","j"]:List Str).Nodup by decide +kernel) rfl (Or.inl rfl))) (λ_ _ _ _ _=>(a1m (a1H (L9 K (jv 0) (jv 1)) A5))) (λ_ _ _ _ _=>(G5 (a8H K (jv 0) L7 (L6 (jv 1))) (a8H K (jv 0) (L6 (Q0 (jv 1) A5)) L7)))) jaN)))),?_⟩
  refine⟨_,rfl,t,rfl,⟨_,SqT.of ht⟩,?_⟩;refine b0k (K:=K) (n:=n) rfl ht hI hzl n100 hj hl λH1 p m s1 l b=>?_;have s2:=s1.upd (o:=.lst m) l;refine⟨p,m,drp j tss,rfl,A0,b.same ((Same.refl H1).upd l),?_,λr d=>?_,λq k g H' s' S x c=>kk q k g H' (s2.trans s') S x c⟩
  .rw[b.1];unfold drp;rw[ae];exact bj (bB _ _) (by rw[<-hI.1];exact hzl)
  .obtain⟨u,hu,_,rfl⟩:=mem_drp.mp d;rw[a5c (hl u hu) hj];omega
def Y6(wd mr:Nat)(rss qss:LLI):LLI:=rss.map (λr=>r++List.replicate mr 0)++qss.map λr=>List.replicate wd 0++r
theorem b3d{c b:Nat}{rss a:LLI}:(Y6 c b rss a).length=rss.length+a.length:=by
 unfold Y6;rw[ak,ae,ae]
theorem besL_mem{c b:Nat}{rss a:LLI}{v:List Int}:v∈Y6 c b rss a↔(∃r,r∈rss/\r++List.replicate b 0=v)∨∃r,r∈a/\List.replicate c 0++r=v:=by
 unfold Y6;rw[aA,aL,aL]
inductive IspBeside(vs:List V)(H:Hp)(Q:VK)(E:XK):Prop
 |mk (p q:Addr) (us ws:List V) (rss qss:LLI) (wd mr:Nat) (wi mi:Int) (_:vs=[.ref p,.int wi,.ref q,.int mi]) (_:wi=wd) (_:mi=mr) (_:H p=some (.tup us)) (_:Its H us rss) (_:us.length<=400) (_:H q=some (.tup ws)) (_:Its H ws qss) (_:ws.length<=400) (_:1<=wd) (_:wd<=100) (_:1<=mr) (_:mr<=100) (_:(∀r∈rss,r.length<=100)) (_:(∀r∈qss,r.length<=100)) (_:∀t zs srt H',Same H H'->L2.Srt (Y6 wd mr rss qss) srt->H' t=some (.tup zs)->Its H' zs srt->Q (.ref t) H'):IspBeside  vs H Q E
def a5E:Sp:=λvs H Q E=>IspBeside  vs H Q E
theorem a9t:FnScope ["one","width","other","more"] ["one","width","other","more"] (A1 a0L):=⟨rfl,rfl,rfl,by decide +kernel,rfl,by decide +kernel,by decide +kernel⟩
theorem a9N(F:FunAt K mg "beside" a0L ["one","width","other","more"])(T:Tx mg)(a:Ok P w K mg base "nought" 1 ["width"] a5D)(d:Ok P w K mg base "risen" 1 ["some"] a4y):Ok P w K mg base "beside" 2 ["one","width","other","more"] a5E:=by
 refine F.okJ a9t (λvs H Q E h=>?_) (λa1 f A U s H vs Q E m h=>?_)
 .obtain⟨p,q,us,ws,rss,qss,wd,mr,wi,mi,rfl,_⟩:=h;rfl
 .obtain⟨p,q,us,ws,rss,qss,wd,mr,_,_,rfl,rfl,rfl,hp,hI,hl,hq,hJ,hl2,w1,w2,m1,m2,hR,hR2,k⟩:=h;have hz:(3000:Nat)<=sizeLine:=by rw[a_];decide
  refine⟨_,(A4 (A9 (A6 d (m.mono (by omega)) rfl (jaC (b2v (B8 (N:=["part","more"]) (src:=[none,some 3]) (E5 K (jv 0)) (by show B7 _ _=true;rfl) (by rfl) (by rfl)
 (λ_ _ _ _ _=>(A8 (i:=0) (show(["part","more"]:List Str).Nodup by decide +kernel) rfl (Or.inl rfl))) (λ_ _ _ _ _=>C4) (λ_ _ _ _ _=>(G5 (jv 0) (A6 a (m.mono (by omega)) rfl (jaC (jv 1) jaN))))) (B8 (N:=["part","width"]) (src:=[none,some 1]) (E5 K (jv 2)) (by show B7 _ _=true;rfl) (by rfl) (by rfl)
 (λ_ _ _ _ _=>(A8 (i:=0) (show(["part","width"]:List Str).Nodup by decide +kernel) rfl (Or.inl rfl))) (λ_ _ _ _ _=>C4) (λ_ _ _ _ _=>(G5 (A6 a (m.mono (by omega)) rfl (jaC (jv 1) jaN)) (jv 0))))) jaN)))),?_⟩
  refine⟨_,rfl,p,rfl,⟨_,SqT.of hp⟩,?_⟩;refine R7 (caps:=[some (.int mr)]) (λr=>r++List.replicate mr 0) (by omega) (λH' s=>SqT.of (s _ _ hp)) hI rfl (λv r H1 Q1 m R s1 q1=>?_) λH1 p1 b s1 z e=>?_
  .refine⟨_,rfl,_,rfl,mr,rfl,by omega,by omega,λu H2 s2 M=>?_⟩;obtain⟨Z,rfl,hva⟩:=R;obtain⟨Y,rfl,j⟩:=M;rw[bA]at j;have L:=hR r m;refine⟨Z,Y,_,_,rfl,rfl,s2 _ _ hva,j,by rw[ae,ae,aV];omega,λV H3 y e3=>?_⟩;exact q1 _ H3 (s2.trans y) ⟨V,rfl,by rw[e3,bz]⟩
  have l:=s1.upd (o:=.lst b) z;have e1:upd H1 p1 (.lst b) p1=some (.lst b):=A0;have e:=e.same ((Same.refl H1).upd (o:=.lst b) z);generalize upd H1 p1 (.lst b)=a0 at l e1 e;refine⟨_,rfl,q,rfl,⟨_,SqT.of (l _ _ hq)⟩,?_⟩;refine R7 (caps:=[some (.int wd)]) (λr=>List.replicate wd 0++r) (by omega) (λH' s=>SqT.of (s _ _ (l _ _ hq))) (hJ.same l) rfl (λv r H2 Q2 m R s2 q2=>?_) λH2 p2 c s2 B g=>?_
  .refine⟨_,rfl,wd,rfl,by omega,by omega,λu H3 y O=>⟨_,rfl,?_⟩⟩;obtain⟨Z,rfl,hva⟩:=R;obtain⟨Y,rfl,j⟩:=O;rw[bA]at j;have L:=hR2 r m;refine⟨Y,Z,_,_,rfl,rfl,j,y _ _ hva,by rw[ae,ae,aV];omega,λp4 D W G=>?_⟩;exact q2 _ D (y.trans W) ⟨p4,rfl,by rw[G,bz]⟩
  have n:=s2.upd (o:=.lst c) B;have e2:upd H2 p2 (.lst c) p2=some (.lst c):=A0;have g:=g.same ((Same.refl H2).upd (o:=.lst c) B);generalize upd H2 p2 (.lst c)=C at n e2 g;have a2:b.length<=400:=by rw[e.1,ae,<-hI.1];exact hl
  have a3:c.length<=400:=by rw[g.1,ae,<-hJ.1];exact hl2
  refine⟨p1,p2,b,c,rfl,rfl,n _ _ e1,e2,by omega,λV J=>?_⟩;have y:=(Same.refl C).upd (o:=.lst (b++c)) J;refine⟨V,_,Y6 wd mr rss qss,rfl,A0,((e.same n).app g).same y,by rw[ak];omega,λr m=>?_,λt zs X D W S G I=>?_⟩
  .rcases besL_mem.mp m with⟨x,_,rfl⟩|⟨x,_,rfl⟩<;>rw[ak,aV]<;>omega
  .exact k t zs X D (((l.trans n).trans y).trans W) S G I
end
structure Emb(m N:Nat)(e:List Int->List Int)(J:Nat->Nat):Prop where
 len:∀u,u.length=m->(e u).length=N
 lt:∀j,j<m->J j<N
 inj:∀i j,J i=J j->i=j
 at_:∀u j,u.length=m->j<m->(e u).getD (J j) 0=u.getD j 0
 off:∀u k,u.length=m->k<N->(∀j,j<m->k≠J j)->(e u).getD k 0=0
def a4O(n:Nat)(u:List Int):List Int:=u++List.replicate n 0
def a4P(m:Nat)(u:List Int):List Int:=List.replicate m 0++u
theorem b2K(m n:Nat):Emb m (m+n) (a4O n) λj=>j:=by
 refine⟨λu h=>by unfold a4O;rw[ak,aV,h],λj h=>by omega,λi j h=>h,λu j h a=>?_,λu k h b a=>?_⟩
 .unfold a4O;rw[aq,bq (by omega),aq]
 .unfold a4O;have:m<=k:=Nat.le_of_not_lt λz=>a k z rfl;rw[aq,aW (by omega),dW];split<;>rfl
theorem b2L(m n:Nat):Emb n (m+n) (a4P m) λj=>m+j:=by
 refine⟨λu h=>by unfold a4P;rw[ak,aV,h],λj h=>by omega,λi j h=>by omega,λu j h a=>?_,λu k h b a=>?_⟩
 .unfold a4P;rw[aq,aW (by rw[aV];omega),aV,Nat.add_sub_cancel_left,aq]
 .unfold a4P;have:k<m:=Nat.lt_of_not_le λz=>a (k-m) (by omega) (by omega);rw[aq,bq (by rw[aV];omega),dW,az this];rfl
theorem gxt{a b:List Int}(h:a.length=b.length)(e:∀j,j<b.length->a.getD j 0=b.getD j 0):a=b:=by
 refine dP h λj h1 h2=>?_;have:=e j h2;rwa[aq,aq,aj h1,aj h2]at this
section
variable {m N:Nat}{e:List Int->List Int}{J:Nat->Nat}
theorem Emb.one(E:Emb m N e J){u v:List Int}(a:u.length=m)(b:v.length=m)(h:e u=e v):u=v:=gxt (by omega) λj c=>by rw[<-E.at_ u j a (by omega),<-E.at_ v j b (by omega),h]
theorem Emb.bump(E:Emb m N e J){u:List Int}{j:Nat}(a:u.length=m)(d:j<m):bump (e u) (J j)=e (K39.bump u j):=by
 have g:=E.len u a;have b:(K39.bump u j).length=m:=by rw[C6,a]
 refine gxt (by rw[C6,g,E.len _ b]) λk f=>?_;rw[E.len _ b]at f;rw[V0 _ _ _ (by rw[g];exact E.lt j d)];by_cases hi:∃i,i<m/\k=J i
 .obtain⟨i,hi,rfl⟩:=hi;rw[E.at_ _ i b hi,V0 _ _ _ (by omega),E.at_ u j a d];by_cases c:i=j
  .subst c;rw[az rfl,az rfl]
  .rw[ar (λz=>c (E.inj _ _ z)),ar c,E.at_ u i a hi]
 .have hn:∀i,i<m->k≠J i:=λi h z=>hi ⟨i,h,z⟩;rw[ar (hn j d),E.off u k a f hn,E.off _ k b f hn]
theorem Emb.unit(E:Emb m N e J){j:Nat}(c:j<m):I0 N (J j)=e (I0 m j):=by
 refine gxt (by rw[B5,E.len _ (B5 _ _)]) λk b=>?_;rw[E.len _ (B5 _ _)]at b;rw[K2 _ _ _ b];by_cases hi:∃i,i<m/\k=J i
 .obtain⟨i,hi,rfl⟩:=hi;rw[E.at_ _ i (B5 _ _) hi,K2 _ _ _ hi];by_cases a:i=j
  .subst a;rw[az rfl,az rfl]
  .rw[ar (λz=>a (E.inj _ _ z)),ar a]
 .have hn:∀i,i<m->k≠J i:=λi h z=>hi ⟨i,h,z⟩;rw[ar (hn j c),E.off _ k (B5 _ _) b hn]
end
theorem b3f:∀{xs ys:List Int},xs.length=ys.length->(Bel xs ys=true↔∀j,j<xs.length->xs.getD j 0<=ys.getD j 0)
 |[],[],_=>⟨λ_ j a=>(eY j a).elim,λ_=>rfl⟩
 |x::xs,y::ys,h=>by
  have b:=b3f (xs:=xs) (ys:=ys) (by simpa using h);have e:Bel (x::xs) (y::ys)=(decide (x<=y) && Bel xs ys):=rfl;rw[e,aG,bf,b];constructor
  .rintro⟨h1,h2⟩ j a
   match j with
   |0=>exact h1
   |j+1=>exact h2 j (by simpa using a)
  .intro h;exact⟨h 0 (by simp),λj a=>h (j+1) (by simpa using a)⟩
section
variable {m n:Nat}{e1 e2:List Int->List Int}{J1 J2:Nat->Nat}
theorem Emb.bel{N:Nat}(E:Emb m N e1 J1){f v:List Int}(a:f.length=m)(b:v.length=m)(c:∀x∈v,0<=x):Bel (e1 f) (e1 v)=Bel f v:=by
 rw[bQ,b3f (by rw[E.len f a,E.len v b]),b3f (by omega)];constructor
 .intro h j hj;have:=h (J1 j) (by rw[E.len f a];exact E.lt j (by omega));rwa[E.at_ f j a (by omega),E.at_ v j b (by omega)]at this
 .intro h k hk;rw[E.len f a]at hk;by_cases hi:∃i,i<m/\k=J1 i
  .obtain⟨i,hi,rfl⟩:=hi;rw[E.at_ f i a hi,E.at_ v i b hi];exact h i (by omega)
  .have c:∀i,i<m->k≠J1 i:=λi h z=>hi ⟨i,h,z⟩;rw[E.off f k a hk c,E.off v k b hk c];exact eT _
theorem a4g{N:Nat}(c:Emb m N e1 J1)(a:Emb n N e2 J2)(hJ:∀i j,i<m->j<n->J1 i≠J2 j){f v:List Int}(b:f.length=n)(d:v.length=m)(g:∀x∈f,0<=x)(hp:0<f.sum):Bel (e2 f) (e1 v)=false:=by
 obtain⟨i,hi,h1⟩:=a2G g hp;rw[b]at hi;cases q:Bel (e2 f) (e1 v)with
 |false=>rfl
 |true =>
  exfalso;have:=(b3f (by rw[a.len f b,c.len v d])).mp q (J2 i) (by rw[a.len f b];exact a.lt i hi);rw[a.at_ f i b hi,c.off v (J2 i) d (a.lt i hi) λj e z=>hJ j i e hi z.symm]at this;omega
end
theorem a8b:∀(l:List Int),(∀x∈l,x=0)->l.sum=0
 |[],_=>rfl
 |x::l,h=>by rw[bt,a8b l λy a=>h y (av _ a),h x au];rfl
theorem b7T{a b:List Int}(h:a.Perm b):a.sum=b.sum:=by
 induction h with
 |nil=>rfl
 |cons x _ c=>rw[bt,bt,c]
 |swap x y l=>rw[bt,bt,bt,bt];omega
 |trans _ _ i1 i2=>exact i1.trans i2
structure Sys2(rss A B:LLI)(cs cs1 cs2:List (Option Int))(m n N:Nat)(e1 e2:List Int->List Int)(J1 J2:Nat->Nat):Prop where
 E1:Emb m N e1 J1
 E2:Emb n N e2 J2
 hJ:∀i j,i<m->j<n->J1 i≠J2 j
 cov:∀k,k<N->(∃j,j<m/\k=J1 j)∨∃j,j<n/\k=J2 j
 pm:rss.Perm (A.map e1++B.map e2)
 hA:∀r∈A,r.length=m
 hB:∀r∈B,r.length=n
 d11:∀r u,r.length=m->u.length=m->dot (e1 r) (e1 u)=dot r u
 d22:∀r u,r.length=n->u.length=n->dot (e2 r) (e2 u)=dot r u
 d21:∀r u,r.length=n->u.length=m->dot (e2 r) (e1 u)=0
 d12:∀r u,r.length=m->u.length=n->dot (e1 r) (e2 u)=0
 l:cs.length=N
 l1:cs1.length=m
 l2:cs2.length=n
 c1:∀j,j<m->cs.getD (J1 j) none=cs1.getD j none
 c2:∀j,j<n->cs.getD (J2 j) none=cs2.getD j none
 c0:∀k,k<N->a3E (cs.getD k none) 0=true
section
variable {rss A B:LLI}{cs cs1 cs2:List (Option Int)}{m n N:Nat}{e1 e2:List Int->List Int}{J1 J2:Nat->Nat}
theorem Sys2.swap(S:Sys2 rss A B cs cs1 cs2 m n N e1 e2 J1 J2):Sys2 rss B A cs cs2 cs1 n m N e2 e1 J2 J1 :=
 ⟨S.E2,S.E1,λi j hi a z=>S.hJ j i a hi z.symm,λk b=>(S.cov k b).symm,S.pm.trans cg,S.hB,S.hA,S.d22,S.d11,S.d12,S.d21,S.l,S.l2,S.l1,S.c2,S.c1,S.c0⟩
theorem Sys2.pull(S:Sys2 rss A B cs cs1 cs2 m n N e1 e2 J1 J2){u:List Int}(d:u.length=m):(∀j,j<m->Q8 rss (e1 u) (J1 j)=Q8 A u j)/\∀j,j<n->Q8 rss (e1 u) (J2 j)=0:=by
 have e:∀k,Q8 rss (e1 u) k=(A.map λr=>dot r u*(e1 r).getD k 0).sum+(B.map λr=>0*(e2 r).getD k 0).sum:=λk=>by
  rw[a5T,b7T (S.pm.map λr=>dot r (e1 u)*r.getD k 0),bz,List.sum_append,cU,cU];congr 2
  .exact dU λr a=>by show dot (e1 r) (e1 u)*_=_;rw[S.d11 r u (S.hA r a) d]
  .exact dU λr a=>by show dot (e2 r) (e1 u)*_=_;rw[S.d21 r u (S.hB r a) d]
 have z:∀k,(B.map λr=>0*(e2 r).getD k 0).sum=0:=λk=>a8b _ λx c=>by
  obtain⟨r,_,rfl⟩:=aL.mp c;exact Int.zero_mul _
 refine⟨λj b=>?_,λj b=>?_⟩
 .rw[e,z,Int.add_zero,a5T];congr 1;exact dU λr a=>by rw[S.E1.at_ r j (S.hA r a) b]
 .rw[e,z,Int.add_zero];refine a8b _ λx c=>?_;obtain⟨r,a,rfl⟩:=aL.mp c;rw[S.E1.off r (J2 j) (S.hA r a) (S.E2.lt j b) λi hi z=>S.hJ i j hi b z.symm,Int.mul_zero]
theorem Sys2.ans(S:Sys2 rss A B cs cs1 cs2 m n N e1 e2 J1 J2){u:List Int}(a:u.length=m):Ans rss (e1 u)=Ans A u:=by
 unfold Ans;rw[bQ,aJ,aJ];constructor
 .intro h r hr;have:=h (e1 r) (S.pm.mem_iff.mpr (aS _ (aL.mpr ⟨r,hr,rfl⟩)));rwa[S.d11 r u (S.hA r hr) a]at this
 .intro h r hr;rcases aA.mp (S.pm.mem_iff.mp hr)with z|z
  .obtain⟨q,hq,rfl⟩:=aL.mp z;rw[S.d11 q u (S.hA q hq) a];exact h q hq
  .obtain⟨q,hq,rfl⟩:=aL.mp z;rw[S.d21 q u (S.hB q hq) a];rfl
theorem mem_StP{rss:LLI}{cs:List (Option Int)}{y:List Int}{j:Nat}:j∈StP rss cs y↔j<y.length/\Q8 rss y j<0/\a4k (cs.getD j none) (y.getD j 0)=true:=by
 unfold StP;rw[aE,aE,aX,bf,and_assoc]
def Fb(e1 e2:List Int->List Int)(F F1 F2:LLI):Prop:=∀f,f∈F↔(∃g,g∈F1/\f=e1 g)∨∃g,g∈F2/\f=e2 g
def Vp1(m:Nat)(F:LLI):Prop:=∀f∈F,f.length=m/\(∀x∈f,0<=x)/\0<f.sum
theorem Sys2.bar(S:Sys2 rss A B cs cs1 cs2 m n N e1 e2 J1 J2){F c d:LLI}(i:Fb e1 e2 F c d)(h1:Vp1 m c)(h2:Vp1 n d){v:List Int}{j:Nat}(a:v.length=m)(k:∀x∈v,0<=x)(b:j<m):Bar F (e1 v) (J1 j)=Bar c v j:=by
 unfold Bar;rw[bQ,bD,bD];constructor
 .rintro⟨f,hf,hb⟩;rw[aG,bf]at hb;rcases(i f).mp hf with⟨g,hg,rfl⟩|⟨g,hg,rfl⟩
  .refine⟨g,hg,?_⟩;obtain⟨e,h⟩:=hb;rw[S.E1.at_ g j (h1 g hg).1 b,S.E1.at_ v j a b]at e;rw[S.E1.bel (h1 g hg).1 a k]at h;rw[aG,bf];exact⟨e,h⟩
  .rw[a4g S.E1 S.E2 S.hJ (h2 g hg).1 a (h2 g hg).2.1 (h2 g hg).2.2]at hb;exact absurd hb.2 (by decide)
 .rintro⟨g,hg,hb⟩;rw[aG,bf]at hb;refine⟨e1 g,(i _).mpr (.inl ⟨g,hg,rfl⟩),?_⟩;rw[aG,bf,S.E1.at_ g j (h1 g hg).1 b,S.E1.at_ v j a b,S.E1.bel (h1 g hg).1 a k];exact hb
theorem Sys2.nx(S:Sys2 rss A B cs cs1 cs2 m n N e1 e2 J1 J2){F c d:LLI}(e:Fb e1 e2 F c d)(h1:Vp1 m c)(h2:Vp1 n d){u:List Int}(b:u.length=m)(f:∀x∈u,0<=x)(v:List Int):S7 rss cs F (e1 u) v↔∃g,S7 A cs1 c u g/\v=e1 g:=by
 obtain⟨p1,p2⟩:=S.pull b;constructor
 .rintro⟨k,hk,rfl,hb⟩;obtain⟨k1,k2,k3⟩:=mem_StP.mp hk;rw[S.E1.len u b]at k1;rcases S.cov k k1 with⟨j,a,rfl⟩|⟨j,a,rfl⟩
  .rw[p1 j a]at k2;rw[S.c1 j a,S.E1.at_ u j b a]at k3;rw[S.E1.bump b a,S.bar e h1 h2 (by rw[C6,b]) (a5h f) a]at hb;exact⟨_,⟨j,mem_StP.mpr ⟨by omega,k2,k3⟩,rfl,hb⟩,S.E1.bump b a⟩
  .rw[p2 j a]at k2;omega
 .rintro⟨_,⟨j,a,rfl,hb⟩,rfl⟩;obtain⟨k1,k2,k3⟩:=mem_StP.mp a;have a:j<m:=by omega
  refine⟨J1 j,mem_StP.mpr ⟨by rw[S.E1.len u b];exact S.E1.lt j a,by rw[p1 j a];exact k2,by rw[S.c1 j a,S.E1.at_ u j b a];exact k3⟩,(S.E1.bump b a).symm,?_⟩;rw[S.bar e h1 h2 (by rw[C6,b]) (a5h f) a];exact hb
theorem wiI{cs:List (Option Int)}{v:List Int}(h:v.length=cs.length):Wi cs v=true↔∀j,j<cs.length->a3E (cs.getD j none) (v.getD j 0)=true:=by
 unfold Wi;induction cs generalizing v with
 |nil=>simp
 |cons c cs b =>
  cases v with
  |nil=>cases h
  |cons x v =>
   rw[bh,cX,aG,b (by simpa using h)];constructor
   .rintro⟨h1,h2⟩ j a
    match j with
    |0=>exact h1
    |j+1=>exact h2 j (by simpa using a)
   .intro q;exact⟨q 0 (by simp),λj a=>q (j+1) (by simpa using a)⟩
theorem Sys2.wi(S:Sys2 rss A B cs cs1 cs2 m n N e1 e2 J1 J2){u:List Int}(b:u.length=m):Wi cs (e1 u)=Wi cs1 u:=by
 rw[bQ,wiI (by rw[S.E1.len u b,S.l]),wiI (by rw[b,S.l1])];constructor
 .intro h j a;rw[S.l1]at a;have:=h (J1 j) (by rw[S.l];exact S.E1.lt j a);rwa[S.c1 j a,S.E1.at_ u j b a]at this
 .intro h k hk;rw[S.l]at hk;rcases S.cov k hk with⟨j,a,rfl⟩|⟨j,a,rfl⟩
  .rw[S.c1 j a,S.E1.at_ u j b a];exact h j (by rw[S.l1];exact a)
  .rw[S.E1.off u _ b hk λi hi z=>S.hJ i j hi a z.symm];exact S.c0 _ hk
theorem mem_firsts{cs:List (Option Int)}{v:List Int}:v∈E6 cs↔∃j,j<cs.length/\v=I0 cs.length j/\Wi cs v=true:=by
 unfold E6;rw[aE,aL];constructor
 .rintro⟨⟨j,hj,rfl⟩,h⟩;exact⟨j,aX.mp hj,rfl,h⟩
 .rintro⟨j,hj,rfl,h⟩;exact⟨⟨j,aX.mpr hj,rfl⟩,h⟩
theorem Sys2.firsts(S:Sys2 rss A B cs cs1 cs2 m n N e1 e2 J1 J2)(v:List Int):v∈E6 cs↔(∃u,u∈E6 cs1/\v=e1 u)∨∃u,u∈E6 cs2/\v=e2 u:=by
 rw[mem_firsts,S.l];constructor
 .rintro⟨k,hk,rfl,h⟩;rcases S.cov k hk with⟨j,a,rfl⟩|⟨j,a,rfl⟩
  .rw[S.E1.unit a,S.wi (B5 _ _)]at h;exact .inl ⟨_,mem_firsts.mpr ⟨j,by rw[S.l1];exact a,by rw[S.l1],h⟩,S.E1.unit a⟩
  .rw[S.E2.unit a,S.swap.wi (B5 _ _)]at h;exact .inr ⟨_,mem_firsts.mpr ⟨j,by rw[S.l2];exact a,by rw[S.l2],h⟩,S.E2.unit a⟩
 .rintro(⟨u,hu,rfl⟩|⟨u,hu,rfl⟩)
  .obtain⟨j,a,rfl,h⟩:=mem_firsts.mp hu;rw[S.l1]at a h⊢;exact⟨J1 j,S.E1.lt j a,(S.E1.unit a).symm,by rw[S.wi (B5 _ _)];exact h⟩
  .obtain⟨j,a,rfl,h⟩:=mem_firsts.mp hu;rw[S.l2]at a h⊢;exact⟨J2 j,S.E2.lt j a,(S.E2.unit a).symm,by rw[S.swap.wi (B5 _ _)];exact h⟩
theorem a4C:∀xs:LLI,∃a:LLI,C3 a/\a.Nodup/\∀v,v∈a↔v∈xs
 |[]=>⟨[],.nil,.nil,λ_=>Iff.rfl⟩
 |x::xs=>by
  obtain⟨s,h1,h2,b⟩:=a4C xs;obtain⟨c,d,e⟩:=L2.putL_ok x s h1 h2;exact⟨_,c,d,λv=>by rw[e,b,aD]⟩
structure At(rss:LLI)(cs:List (Option Int))(k1 k:Nat)(F W L:LLI):Prop where
 wk:Wk rss cs F W L (min k k1)
 stop:k1<=k->L=[]
 go:k<k1->L≠[]
theorem At.one{d g:LLI}{k1:Nat}(h:Wk rss cs d g [] k1):∃F W L,At rss cs k1 1 F W L:=by
 have b:=h.lv.2.2.2.2.2.1;obtain⟨c,f,e,G,R,a,_,_,_,i⟩:=h.back 1 (by omega) b;refine⟨c,f,e,⟨by rw[cA b];exact a,λz=>?_,i⟩⟩;have:k1=1:=by omega
 subst this;exact(Wk.det _ a h).2.2
theorem At.next{d f F W L:LLI}{k1 k:Nat}(h:Wk rss cs d f [] k1)(j:1<=k)(a:At rss cs k1 k F W L):∃b,b.Nodup/\(∀v,v∈b↔∃u∈L,S7 rss cs F u v)/\At rss cs k1 (k+1) (F++b.filter λv=>Ans rss v) (W++b) b:=by
 by_cases c:k<k1
 .obtain⟨F1,W1,L1,G,R,g1,_,_,_,g5⟩:=h.back (k+1) (by omega) c;obtain⟨m,o,n,a0,ne,p,nd,l,g,i⟩:=g1.inv2 k rfl j;have aw:=a.wk;rw[cA (by omega)]at aw;obtain⟨rfl,rfl,rfl⟩:=Wk.det _ aw a0;refine⟨L1,nd,l,⟨?_,λz=>?_,g5⟩⟩
  .rw[cA c,<-g,<-i];exact g1
  .have:k1=k+1:=by omega
   subst this;exact(Wk.det _ g1 h).2.2
 .have e:=a.stop (by omega);subst e;refine⟨[],.nil,λv=>⟨(λz=>nomatch z),λ⟨_,z,_⟩=>(nomatch z)⟩,⟨?_,λ_=>rfl,λz=>by omega⟩⟩;have aw:=a.wk;rw[fN (by omega)]at aw⊢;simpa using aw
structure Both(rss:LLI)(cs:List (Option Int))(e1 e2:List Int->List Int)(F W L F1 W1 L1 F2 W2 L2:LLI)(k:Nat):Prop where
 wk:Wk rss cs F W L k
 F:Fb e1 e2 F F1 F2
 L:Fb e1 e2 L L1 L2
 W:W.Perm (W1.map e1++W2.map e2)
theorem Sys2.nd(S:Sys2 rss A B cs cs1 cs2 m n N e1 e2 J1 J2){d L2:LLI}(l:d.Nodup)(o:L2.Nodup)(h1:Vp1 m d)(h2:Vp1 n L2):(d.map e1++L2.map e2).Nodup:=by
 refine eE.mpr ⟨cf.mpr (l.imp_of_mem λ{x y} e f ne z=>ne (S.E1.one (h1 x e).1 (h1 y f).1 z)),cf.mpr (o.imp_of_mem λ{x y} e f ne z=>ne (S.E2.one (h2 x e).1 (h2 y f).1 z)),λa h b i z=>?_⟩;obtain⟨u,k,rfl⟩:=aL.mp h;obtain⟨v,c,rfl⟩:=aL.mp i;have:=a4g S.E1 S.E2 S.hJ (h2 v c).1 (h1 u k).1 (h2 v c).2.1 (h2 v c).2.2;rw[z,S.E2.bel (h2 v c).1 (h2 v c).1 (h2 v c).2.1]at this;have g:Bel v v=true:=(b3f rfl).mpr λj _=>eT _;rw[g]at this;cases this
theorem At.vp{F W L:LLI}{k1 k:Nat}(h:At rss cs k1 k F W L):Vp1 cs.length F/\Vp1 cs.length L/\Vp1 cs.length W:=by
 obtain⟨b,e,g,_,_,j,_⟩:=h.wk.lv;have d:Vp1 cs.length W:=λf a=>by
  obtain⟨i,q1,l,c⟩:=e f a;exact⟨c.len,c.nn,by rw[c.sum];omega⟩
 exact⟨λf a=>d f (g f a).1,λf a=>⟨(b f a).len,(b f a).nn,by rw[(b f a).sum];omega⟩,d⟩
theorem Sys2.both1(S:Sys2 rss A B cs cs1 cs2 m n N e1 e2 J1 J2){k e o l f L2:LLI}{k1 k2:Nat}(a1:At A cs1 k1 1 k e o)(p:At B cs2 k2 1 l f L2)(h1:1<=k1)(h2:1<=k2):∃F W L,Both rss cs e1 e2 F W L k e o l f L2 1:=by
 have t:=a1.wk;have w:=p.wk;rw[cA h1]at t;rw[cA h2]at w;obtain⟨C,x,r,f1,rfl⟩:=t.inv1 rfl;obtain⟨D,y,s,f2,rfl⟩:=w.inv1 rfl;have g:=a1.vp.2.1;have i:=p.vp.2.1;rw[S.l1]at g;rw[S.l2]at i;obtain⟨L,z,nd,q⟩:=a4C (e.map e1++f.map e2);have j:Fb e1 e2 L e f:=λv=>by
  rw[q,aA,aL,aL];exact⟨λh=>h.imp (λ⟨a,b,c⟩=>⟨a,b,c.symm⟩) λ⟨a,b,c⟩=>⟨a,b,c.symm⟩,λh=>h.imp (λ⟨a,b,c⟩=>⟨a,b,c.symm⟩) λ⟨a,b,c⟩=>⟨a,b,c.symm⟩⟩
 refine⟨_,_,L,⟨.one z nd λv=>?_,λv=>?_,j,(eS nd (S.nd x y g i)).mpr q⟩⟩
 .rw[j v,S.firsts v];exact⟨λh=>h.imp (λ⟨a,b,c⟩=>⟨a,(r a).mp b,c⟩) λ⟨a,b,c⟩=>⟨a,(s a).mp b,c⟩,λh=>h.imp (λ⟨a,b,c⟩=>⟨a,(r a).mpr b,c⟩) λ⟨a,b,c⟩=>⟨a,(s a).mpr b,c⟩⟩
 .rw[aE,j v,f1,f2];constructor
  .rintro⟨⟨u,d,rfl⟩|⟨u,d,rfl⟩,h⟩
   .exact .inl ⟨u,aE.mpr ⟨d,by rw[S.ans (g u d).1]at h;exact h⟩,rfl⟩
   .exact .inr ⟨u,aE.mpr ⟨d,by rw[S.swap.ans (i u d).1]at h;exact h⟩,rfl⟩
  .rintro(⟨u,d,rfl⟩|⟨u,d,rfl⟩)<;>obtain⟨d,h⟩:=aE.mp d
   .exact⟨.inl ⟨u,d,rfl⟩,by rw[S.ans (g u d).1];exact h⟩
   .exact⟨.inr ⟨u,d,rfl⟩,by rw[S.swap.ans (i u d).1];exact h⟩
theorem Fb.swap{F a b:LLI}(h:Fb e1 e2 F a b):Fb e2 e1 F b a:=λf=>(h f).trans Or.comm
theorem Sys2.bothS(S:Sys2 rss A B cs cs1 cs2 m n N e1 e2 J1 J2){F W L o w s p x L2 e f:LLI}{k:Nat}(b:Both rss cs e1 e2 F W L o w s p x L2 k)(ne:L≠[])(f1:Vp1 m o)(f2:Vp1 n p)(q:Vp1 m s)(r:Vp1 n L2)(i:Vp1 m e)(j:Vp1 n f)(I:e.Nodup)(J:f.Nodup)(C:∀v,v∈e↔∃u∈s,S7 A cs1 o u v)(D:∀v,v∈f↔∃u∈L2,S7 B cs2 p u v) :
  ∃E G l,Both rss cs e1 e2 E G l (o++e.filter λv=>Ans A v) (w++e) e (p++f.filter λv=>Ans B v) (x++f) f (k+1):=by
 obtain⟨l,K,nd,z⟩:=a4C (e.map e1++f.map e2);have t:Fb e1 e2 l e f:=λv=>by
  rw[z,aA,aL,aL];exact⟨λh=>h.imp (λ⟨a,b,c⟩=>⟨a,b,c.symm⟩) λ⟨a,b,c⟩=>⟨a,b,c.symm⟩,λh=>h.imp (λ⟨a,b,c⟩=>⟨a,b,c.symm⟩) λ⟨a,b,c⟩=>⟨a,b,c.symm⟩⟩
 have H:l.Perm (e.map e1++f.map e2):=(eS nd (S.nd I J i j)).mpr z;refine⟨_,_,l,⟨.more b.wk ne K nd λv=>?_,λv=>?_,t,?_⟩⟩
 .rw[t v];constructor
  .rintro(⟨g,hg,rfl⟩|⟨g,hg,rfl⟩)
   .obtain⟨u,d,hx⟩:=(C g).mp hg;exact⟨e1 u,(b.L _).mpr (.inl ⟨u,d,rfl⟩),(S.nx b.F f1 f2 (q u d).1 (q u d).2.1 _).mpr ⟨g,hx,rfl⟩⟩
   .obtain⟨u,d,hx⟩:=(D g).mp hg;exact⟨e2 u,(b.L _).mpr (.inr ⟨u,d,rfl⟩),(S.swap.nx b.F.swap f2 f1 (r u d).1 (r u d).2.1 _).mpr ⟨g,hx,rfl⟩⟩
  .rintro⟨y,hy,hx⟩;rcases(b.L y).mp hy with⟨u,d,rfl⟩|⟨u,d,rfl⟩
   .obtain⟨g,hg,rfl⟩:=(S.nx b.F f1 f2 (q u d).1 (q u d).2.1 _).mp hx;exact .inl ⟨g,(C g).mpr ⟨u,d,hg⟩,rfl⟩
   .obtain⟨g,hg,rfl⟩:=(S.swap.nx b.F.swap f2 f1 (r u d).1 (r u d).2.1 _).mp hx;exact .inr ⟨g,(D g).mpr ⟨u,d,hg⟩,rfl⟩
 .rw[aA,aE,b.F v,t v];constructor
  .rintro((⟨u,d,rfl⟩|⟨u,d,rfl⟩)|⟨⟨u,d,rfl⟩|⟨u,d,rfl⟩,h⟩)
   .exact .inl ⟨u,aS _ d,rfl⟩
   .exact .inr ⟨u,aS _ d,rfl⟩
   .exact .inl ⟨u,aU _ (aE.mpr ⟨d,by rw[S.ans (i u d).1]at h;exact h⟩),rfl⟩
   .exact .inr ⟨u,aU _ (aE.mpr ⟨d,by rw[S.swap.ans (j u d).1]at h;exact h⟩),rfl⟩
  .rintro(⟨u,d,rfl⟩|⟨u,d,rfl⟩)<;>rcases aA.mp d with d|d
   .exact .inl (.inl ⟨u,d,rfl⟩)
   .obtain⟨d,h⟩:=aE.mp d;exact .inr ⟨.inl ⟨u,d,rfl⟩,by rw[S.ans (i u d).1];exact h⟩
   .exact .inl (.inr ⟨u,d,rfl⟩)
   .obtain⟨d,h⟩:=aE.mp d;exact .inr ⟨.inr ⟨u,d,rfl⟩,by rw[S.swap.ans (j u d).1];exact h⟩
 .refine(b.W.append H).trans ?_;rw[bz,bz,aC,aC];refine bX _ ?_;rw[<-aC,<-aC];exact fG _ cg
theorem Sys2.walk(S:Sys2 rss A B cs cs1 cs2 m n N e1 e2 J1 J2){s u t w:LLI}{k1 k2:Nat}(h1:Wk A cs1 s u [] k1)(h2:Wk B cs2 t w [] k2):∃F W,Wk rss cs F W [] (max k1 k2)/\Fb e1 e2 F s t/\W.Perm (u.map e1++w.map e2):=by
 have p1:=h1.lv.2.2.2.2.2.1;have p2:=h2.lv.2.2.2.2.2.1;have key:∀k,1<=k->k<=max k1 k2->∃c f e d g L2 F W L,At A cs1 k1 k c f e/\At B cs2 k2 k d g L2/\Both rss cs e1 e2 F W L c f e d g L2 k:=by
  intro k V;induction k with
  |zero=>omega
  |succ k K =>
   intro I;by_cases H:k=0
   .subst H;obtain⟨c,f,e,a1⟩:=At.one h1;obtain⟨d,g,L2,a⟩:=At.one h2;obtain⟨F,W,L,b⟩:=S.both1 a1 a p1 p2;exact⟨_,_,_,_,_,_,_,_,_,a1,a,b⟩
   .obtain⟨c,f,e,d,g,L2,F,W,L,a1,a,b⟩:=K (by omega) (by omega);obtain⟨D,P,M,h⟩:=a1.next h1 (by omega);obtain⟨E,Q,O,i⟩:=a.next h2 (by omega);have ne:L≠[]:=λz=>by
     rcases fV k k1 with q|q
     .obtain⟨x,hx⟩:=dJ _ (a1.go q);have:=(b.L (e1 x)).mpr (.inl ⟨x,hx,rfl⟩);rw[z]at this;cases this
     .obtain⟨x,hx⟩:=dJ _ (a.go (by omega));have:=(b.L (e2 x)).mpr (.inr ⟨x,hx,rfl⟩);rw[z]at this;cases this
    have q1:=a1.vp;have r:=a.vp;have j:=h.vp;have l:=i.vp;rw[S.l1]at q1 j;rw[S.l2]at r l;obtain⟨R,U,T,b'⟩:=S.bothS b ne q1.1 r.1 q1.2.1 r.2.1 j.2.1 l.2.1 P Q M O;exact⟨_,_,_,_,_,_,_,_,_,h,i,b'⟩
 obtain⟨c,f,e,d,g,L2,F,W,L,a1,a,b⟩:=key (max k1 k2) (by omega) (ao _);have o:=a1.stop (Nat.le_max_left _ _);have p:=a.stop (Nat.le_max_right _ _);subst o p;have y:=a1.wk;have C:=a.wk;rw[fN (Nat.le_max_left _ _)]at y;rw[fN (Nat.le_max_right _ _)]at C;obtain⟨rfl,rfl⟩:=a6G h1 y;obtain⟨rfl,rfl⟩:=a6G h2 C;have G:L=[]:=List.eq_nil_iff_forall_not_mem.mpr λv J=>by
  rcases(b.L v).mp J with⟨_,z,_⟩|⟨_,z,_⟩<;>cases z
 subst G;exact⟨F,W,b.wk,b.F,b.W⟩
end
end K39
namespace K39
open PySem PySem.Spec PyProof.Rows L2
def Tk(H H':Hp):Prop:=∀c xs,H c=some (HO.tup xs)->H' c=some (.tup xs)
theorem Tk.trans{H H' a:Hp}(h:Tk H H')(g:Tk H' a):Tk H a:=λc xs e=>g c xs (h c xs e)
theorem Tk.same{H H':Hp}(s:Same H H'):Tk H H':=λc xs e=>s c _ e
theorem Tk.pot{H H':Hp}{a b:Addr}{n:Nat}(d:PotAt H a b n)(o:Off [a,b] H H'):Tk H H':=λc xs e=>o c _ (b5w d e) e
theorem Tk.put{H:Hp}{c:Addr}{xs:List V}{o:HO}(e:H c=some (.lst xs)):Tk H (upd H c o):=λd ys q=>by rw[A3 (K0 q e (by intro z;cases z))];exact q
theorem Tk.it{H H':Hp}(h:Tk H H'){v:V}{r:List Int}(g:IT H v r):IT H' v r:=let ⟨a,e,q⟩:=g;⟨a,e,h _ _ q⟩
theorem Tk.its{H H':Hp}(h:Tk H H'){vs:List V}{rss:LLI}(g:Its H vs rss):Its H' vs rss:=⟨g.1,λi v e=>let ⟨r,e1,e2⟩:=g.2 i v e;⟨r,e1,h.it e2⟩⟩
theorem a8I{H:Hp}:∀{vs:List V}{rss:LLI},Its H vs rss->Its H vs.reverse rss.reverse
 |[],[],_=>.nil
 |[],_::_,h=>by cases h.1
 |_::_,[],h=>by cases h.1
 |v::vs,r::rss,h=>by
  obtain⟨a,e1,e2⟩:=h.2 0 v rfl;have e1:r=a:=by injection e1
  rw[eC,eC];exact(a8I (vs:=vs) (rss:=rss) (h.drop 1)).app (Its.one (by rw[e1];exact e2))
section
variable {P:Program}{w:World}{K:PySem.W.Frag}{mg:Str->Option Value}{base:Heap}
def CpB(cs:List (Option Int)):Prop:=∀c∈cs,∀z,c=some z->0<=z/\z<=1000000000000
inductive IspCaps(vs:List V)(H:Hp)(Q:VK)(E:XK):Prop
 |mk (a b:Addr) (n m:Nat) (mi:Int) (_:vs=[.ref a,.int mi]) (_:mi=m) (_:1<=m) (_:m<=8) (_:PotAt H a b n) (_:n+1000<2 ^ 60) (_:∀q cs H',H' q=some (.tup (cs.map cV))->cs.length=m->CpB cs->PotAt H' a b (n+25)->Off [a,b] H H'->Q (.ref q) H'):IspCaps  vs H Q E
def b1b:Sp:=λvs H Q E=>IspCaps  vs H Q E
theorem sc__law_caps:FnScope ["_law_pot_here","_law_width","_law_caps_here","_law_j","_law_sort","_law_great"] ["_law_pot_here","_law_width"] (A1 P8):=⟨rfl,rfl,rfl,by decide +kernel,rfl,by decide +kernel,by decide +kernel⟩
theorem b4A(F:FunAt K mg "_law_caps" P8 ["_law_pot_here","_law_width"])(T:Tx mg)(d:Ok P w K mg base "_law_take" 1 ["_law_pot_here","_law_many"] a1a):Ok P w K mg base "_law_caps" 2 ["_law_pot_here","_law_width"] b1b:=by
 refine F.okJ sc__law_caps (λvs H Q E h=>?_) (λa0 f A Z s H vs Q E hr h=>?_)
 .obtain⟨a,b,n,m,mi,rfl,_⟩:=h;rfl
 .obtain⟨a,b,n,m,_,rfl,rfl,hm1,hm8,hP,hn,k⟩:=h;have hz:(3000:Nat)<=sizeLine:=by rw[a_];decide
  refine⟨_,(A2 (B3 (i:=2) sc__law_caps.nd rfl (Or.inl rfl) (V4 jaN))
 (A2 (N9 (K4 rfl T.b_range (jaC (jv 1) jaN)) (A8 (i:=3) sc__law_caps.nd rfl (Or.inl rfl))
 (A2 (B3 (i:=4) sc__law_caps.nd rfl (Or.inl rfl) (A6 d (hr.mono (by omega)) rfl (jaC (jv 0) (jaC A5 jaN))))
 (A2 (B3 (i:=5) sc__law_caps.nd rfl (Or.inl rfl) (A6 d (hr.mono (by omega)) rfl (jaC (jv 0) (jaC (Q0 (a6o A5 A5) A5) jaN))))
 (A4 (T9 (a0e K (jv 2) (jaC (M2 K (V4 (jaC V3 (jaC V3 (jaC V3 (jaC V3 (jaC A5 (jaC A5 (jaC (a1I (jv 5) A5) (jaC (jv 5) jaN))))))))) (jv 4)) jaN)))))))
 (A4 (A9 (C9 K rfl T.b_tuple (jaC (jv 2) jaN)))))),?_⟩
  refine⟨bG _,λv x=>?_⟩;have g:=Z8 hP x;have s2:=(Same.refl H).upd (o:=.lst []) x;have e2:upd H v (.lst []) v=some (.lst []):=A0;have B:=hP.same s2;have r:Off [a,b] H (upd H v (.lst [])):=s2.off;generalize upd H v (.lst [])=H2 at s2 e2 B r;dsimp only[B0];refine⟨_,rfl,_,rfl,by omega,by omega,?_⟩;rw[bA];refine a1o (lo:=0) (n:=m) (λi σ H'=>Ex4 λW X Y cs=>An6 (σ=[some (.ref a),some (.int m),some (.ref v),W,X,Y]) (PotAt H' a b (n+2*i)) (Off [a,b] H H') (H' v=some (.lst (cs.map cV))) (cs.length=i) (CpB cs)) ⟨none,none,none,[],rfl,B,r,e2,rfl,λ_ z=>nomatch z⟩ ?_ ?_
  .rintro i σ H3 hi ⟨W,X,Y,cs,rfl,hP3,off3,e3,hcl,hok⟩;dsimp only[B0,List.set];refine⟨_,rfl,a,b,_,8,rfl,hP3,by omega,by decide,by decide,λp H4 a1 a2 L t=>?_⟩;dsimp only[B0,List.set];refine⟨_,rfl,_,_,rfl,rfl,⟨by decide,by decide,by decide⟩,_,_,rfl,rfl,a,b,_,_,rfl,L,by omega,by decide,by decide,λj H5 a3 J M u=>?_⟩;have G:(10:Int) ^ Int.toNat 12=1000000000000:=by decide
   rw[G]at J;dsimp only[B0,List.set];have y:=u _ _ g (t _ _ g e3);refine⟨_,rfl,.inl ⟨rfl,_,SqL.of y⟩,?_⟩;refine⟨_,rfl,_,_,rfl,rfl,(show(0:Int)<4 by decide),_,rfl,by show 8<=sizeLine;omega,λp6 U=>?_⟩;have s6:=(Same.refl H5).upd (o:=.lst [.non,.non,.non,.non,.int 0,.int 1,.int (j % 4),.int j]) U;have e6:upd H5 p6 (.lst [.non,.non,.non,.non,.int 0,.int 1,.int (j % 4),.int j]) p6=some (.lst [.non,.non,.non,.non,.int 0,.int 1,.int (j % 4),.int j]):=A0;have I:=s6 _ _ y;have N:=M.same s6;have C:=((off3.trans t).trans u).trans (s6.off (l:=[a,b]));obtain⟨D,O,S⟩:∃D:Option Int,atI [V.non,.non,.non,.non,.int 0,.int 1,.int (j % 4),.int j] p=some (cV D)/\∀z,D=some z->0<=z/\z<=1000000000000:=by
    have R:p=0∨p=1∨p=2∨p=3∨p=4∨p=5∨p=6∨p=7:=by omega
    rcases R with rfl|rfl|rfl|rfl|rfl|rfl|rfl|rfl
    .exact⟨none,rfl,λz e=>by cases e⟩
    .exact⟨none,rfl,λz e=>by cases e⟩
    .exact⟨none,rfl,λz e=>by cases e⟩
    .exact⟨none,rfl,λz e=>by cases e⟩
    .exact⟨some 0,rfl,λz e=>by cases e;decide⟩
    .exact⟨some 1,rfl,λz e=>by cases e;decide⟩
    .exact⟨some (j % 4),rfl,λz e=>by cases e;omega⟩
    .exact⟨some j,rfl,λz e=>by cases e;omega⟩
   refine⟨_,rfl,p6,_,_,_,rfl,rfl,SqL.of e6,O,v,_,_,rfl,rfl,I,by rw[ae];omega,?_⟩;refine⟨_,_,_,cs++[D],rfl,(a0O N g).mono (by omega),a1e C x,by rw[A0,bz];rfl,by simp[hcl],λc R=>?_⟩;rcases aA.mp R with z|z
   .exact hok c z
   .rw[aQ.mp z];exact S
  .rintro σ H3 ⟨W,X,Y,cs,rfl,hP3,off3,e3,hcl,hok⟩;refine⟨_,rfl,v,_,rfl,.inl ⟨SqL.of e3,λq hq=>?_⟩⟩;have s4:=(Same.refl H3).upd (o:=.tup (cs.map cV)) hq;exact k q cs _ A0 hcl hok ((hP3.same s4).mono (by omega)) (off3.trans s4.off)
theorem a9X{H:Hp}{vs:List V}{rss:LLI}(h:Its H vs rss)(k:Nat):Its H (vs.eraseIdx k) (rss.eraseIdx k):=by
 rw[dV,dV];exact(h.take k).app (h.drop (k+1))
inductive IspInOne(vs:List V)(H:Hp)(Q:VK)(E:XK):Prop
 |mk (a b p q:Addr) (us ws:List V) (rss qss:LLI) (wd mr nn:Nat) (wi mi:Int) (_:vs=[.ref a,.ref p,.int wi,.ref q,.int mi]) (_:wi=wd) (_:mi=mr) (_:PotAt H a b nn) (_:nn+500<2 ^ 60) (_:H p=some (.tup us)) (_:Its H us rss) (_:us.length<=10) (_:H q=some (.tup ws)) (_:Its H ws qss) (_:ws.length<=10) (_:1<=wd) (_:wd<=8) (_:1<=mr) (_:mr<=8) (_:(∀r∈rss,r.length<=100)) (_:(∀r∈qss,r.length<=100)) (_:∀t zs tss H',H' t=some (.tup zs)->Its H' zs tss->tss.Perm (Y6 wd mr rss qss)->PotAt H' a b (nn+50)->Off [a,b] H H'->Q (.ref t) H'):IspInOne  vs H Q E
def a8j:Sp:=λvs H Q E=>IspInOne  vs H Q E
theorem sc__law_in_one:FnScope ["_law_pot_here","_law_first","_law_width","_law_second","_law_more","_law_left","_law_some"] ["_law_pot_here","_law_first","_law_width","_law_second","_law_more"] (A1 L3):=⟨rfl,rfl,rfl,by decide +kernel,rfl,by decide +kernel,by decide +kernel⟩
theorem a9M(F:FunAt K mg "_law_in_one" L3 ["_law_pot_here","_law_first","_law_width","_law_second","_law_more"])(T:Tx mg)(g:Ok P w K mg base "_law_take" 1 ["_law_pot_here","_law_many"] a1a):Ok P w K mg base "_law_in_one" 2 ["_law_pot_here","_law_first","_law_width","_law_second","_law_more"] a8j:=by
 refine F.okJ sc__law_in_one (λvs H Q E h=>?_) (λf1 f A e7 s H vs Q E hr h=>?_)
 .obtain⟨a,b,p,q,us,ws,rss,qss,wd,mr,nn,wi,mi,rfl,_⟩:=h;rfl
 .obtain⟨a,b,p,q,us,ws,rss,qss,wd,mr,nn,_,_,rfl,rfl,rfl,hP,hnn,hp,hI,hul,hq,hJ,hwl,w1,w8,m1,m8,hr1,hr2,kk⟩:=h;have hz:(3000:Nat)<=sizeLine:=by rw[a_];decide
  have hu:=hr.u60;refine⟨_,(A2 (B3 (i:=5) sc__law_in_one.nd rfl (Or.inl rfl) (b2v (B8 (N:=["_law_row","_law_more"]) (src:=[none,some 4]) (E5 K (jv 1)) (by show B7 _ _=true;rfl) (by rfl) (by rfl)
 (λ_ _ _ _ _=>(A8 (i:=0) (show(["_law_row","_law_more"]:List Str).Nodup by decide +kernel) rfl (Or.inl rfl))) (λ_ _ _ _ _=>C4) (λ_ _ _ _ _=>(G5 (jv 0) (a2Z (X2 (jaC A5 jaN)) (jv 1))))) (B8 (N:=["_law_row","_law_width"]) (src:=[none,some 2]) (E5 K (jv 3)) (by show B7 _ _=true;rfl) (by rfl) (by rfl)
 (λ_ _ _ _ _=>(A8 (i:=0) (show(["_law_row","_law_width"]:List Str).Nodup by decide +kernel) rfl (Or.inl rfl))) (λ_ _ _ _ _=>C4) (λ_ _ _ _ _=>(G5 (a2Z (X2 (jaC A5 jaN)) (jv 1)) (jv 0))))))
 (A2 (B3 (i:=6) sc__law_in_one.nd rfl (Or.inl rfl) (V4 jaN))
 (A2 (a6l (a7s K hu (jv 5) (V4 jaN))
 (A4 (T9 (a0e K (jv 6) (jaC (a6m K (jv 5) (jaC (A6 g (hr.mono (by omega)) rfl (jaC (jv 0) (jaC (G7 K rfl T.b_len (jaC (jv 5) jaN)) jaN))) jaN)) jaN)))))
 (A4 (A9 (C9 K rfl T.b_tuple (jaC (jv 6) jaN))))))),?_⟩
  refine⟨_,rfl,p,rfl,⟨_,SqT.of hp⟩,?_⟩;refine R7 (caps:=[some (.int mr)]) (λr=>r++List.replicate mr 0) (by omega) (λH' s=>SqT.of (s _ _ hp)) hI rfl (λv u H1 Q1 b2 hv s1 qq=>?_) λH1 p1 c s1 a9 x=>?_
  .obtain⟨va,rfl,hva⟩:=hv;refine⟨_,rfl,by show 1<=sizeLine;omega,λp2 b0=>⟨_,rfl,p2,[.int 0],(mr:Int),rfl,rfl,A0,by simp,by omega,by show(1:Int)*_<=_;omega,λq2 H2 s2 e2=>?_⟩⟩;rw[bA,X7]at e2;have d0:=((Same.refl H1).upd (o:=.tup [.int 0]) b0).trans s2;refine⟨va,q2,_,_,rfl,rfl,d0 _ _ hva,e2,by rw[ae,ae,aV];have:=hr1 u b2;omega,λq3 H3 s3 e3=>qq _ H3 (d0.trans s3) ⟨q3,rfl,by rw[e3,bz]⟩⟩
  have G:=s1.upd (o:=.lst c) a9;have e1:upd H1 p1 (.lst c) p1=some (.lst c):=A0;have x:=x.same ((Same.refl H1).upd (o:=.lst c) a9);generalize upd H1 p1 (.lst c)=H2 at G e1 x;refine⟨_,rfl,q,rfl,⟨_,SqT.of (G _ _ hq)⟩,?_⟩;refine R7 (caps:=[some (.int wd)]) (λr=>List.replicate wd 0++r) (by omega) (λH' s=>SqT.of (s _ _ (G _ _ hq))) (hJ.same G) rfl (λv u H3 Q3 b2 hv s3 qq=>?_) λH3 p3 e s3 c6 y=>?_
  .obtain⟨va,rfl,hva⟩:=hv;refine⟨by show 1<=sizeLine;omega,λp2 b0=>⟨_,rfl,p2,[.int 0],(wd:Int),rfl,rfl,A0,by simp,by omega,by show(1:Int)*_<=_;omega,λq2 H4 s4 e4=>?_⟩⟩;rw[bA,X7]at e4;have d1:=((Same.refl H3).upd (o:=.tup [.int 0]) b0).trans s4;refine⟨_,rfl,q2,va,_,_,rfl,rfl,e4,d1 _ _ hva,by rw[ae,ae,aV];have:=hr2 u b2;omega,λq3 H5 s5 e5=>qq _ H5 (d1.trans s5) ⟨q3,rfl,by rw[e5,bz]⟩⟩
  have Z:=(Same.refl H3).upd (o:=.lst e) c6;have e3:upd H3 p3 (.lst e) p3=some (.lst e):=A0;have M:=s3.trans Z;have y:=y.same Z;generalize upd H3 p3 (.lst e)=H4 at Z e3 M y;have d6:c.length<=10:=by rw[x.1,ae,<-hI.1];exact hul
  have d7:e.length<=10:=by rw[y.1,ae,<-hJ.1];exact hwl
  refine⟨p1,p3,_,_,rfl,rfl,M _ _ e1,e3,by omega,λl hl=>?_⟩;have X:=G.trans M;have R:Its H4 (c++e) (Y6 wd mr rss qss):=(x.same M).app y;have a7:=hP.same X;have c4:=Z8 a7 hl;have d5:H l=none:=X.free hl;have O:=(Same.refl H4).upd (o:=.lst (c++e)) hl;have el:upd H4 l (.lst (c++e)) l=some (.lst (c++e)):=A0;have L:=R.same O;have U:=a7.same O;have Y:=X.trans O;generalize upd H4 l (.lst (c++e))=H5 at O el L U Y;have c2:(c++e).length<=20:=by rw[ak];omega
  generalize c++e=bs at el L c2 R;generalize hB:Y6 wd mr rss qss=a5 at L R;clear R X M Z s3 c6 y e3 G e1 x a9 s1 O a7;dsimp only[B0,List.set];refine⟨bG _,λD W=>?_⟩;have c7:=Z8 U W;have d9:H D=none:=Y.free W;have c5:l≠D:=A7 el W;have I:=(Same.refl H5).upd (o:=.lst []) W;have e6:upd H5 D (.lst []) D=some (.lst []):=A0;have b3:=I _ _ el;have b8:=L.same I;have c1:=U.same I;have c9:=Y.trans I;generalize upd H5 D (.lst [])=H6 at I e6 b3 b8 c1 c9;clear I Y L U el;dsimp only[B0,List.set];refine⟨λmm σ H'=>∃(j os:List V) (d C:LLI),mm=j.length/\σ=[some (.ref a),some (.ref p),some (.int wd),some (.ref q),some (.int mr),some (.ref l),some (.ref D)]/\PotAt H' a b (nn+os.length)/\Off [a,b] H H'/\H' l=some (.lst j)/\H' D=some (.lst os)/\Its H' j d/\Its H' os C/\(C++d).Perm a5/\os.length+j.length<=20,⟨_,bs,[],a5,[],rfl,rfl,c1,c9.off,b3,e6,b8,.nil,List.Perm.refl _,by simpa using c2⟩,?_⟩;rintro mm σ H7 ⟨j,os,d,C,rfl,rfl,a8,a2,b4,b6,S,b9,b1,e9⟩;refine⟨_,rfl,bG _,λp8 d8=>?_⟩;have J:=(Same.refl H7).upd (o:=.lst []) d8;have e8:upd H7 p8 (.lst []) p8=some (.lst []):=A0;generalize upd H7 p8 (.lst [])=H8 at J e8;refine⟨2,_,by decide,EqV.its (k:=false) (SqL.of (J _ _ b4)) (SqL.of e8) (S.same J) .nil,⟨_,_,rfl,rfl⟩,_,rfl,a0y (λew=>?_) (λew=>?_)⟩
  .have hne0:d≠[]:=by simpa using ew
   have f0:0<j.length:=by rw[S.1];exact List.length_pos_iff.mpr hne0
   refine⟨λσ H'=>∃(z B:List V) (m t:LLI),z.length<j.length/\σ=[some (.ref a),some (.ref p),some (.int wd),some (.ref q),some (.int mr),some (.ref l),some (.ref D)]/\PotAt H' a b (nn+B.length)/\Off [a,b] H H'/\H' l=some (.lst z)/\H' D=some (.lst B)/\Its H' z m/\Its H' B t/\(t++m).Perm a5/\B.length+z.length<=20,λσ' H' h=>?_,?_⟩
   .obtain⟨z,B,m,t,h1,h2,h3,h4,h5,h6,h7,h8,h9,h10⟩:=h;exact⟨_,h1,z,B,m,t,rfl,h2,h3,h4,h5,h6,h7,h8,h9,h10⟩
   have a6:=J _ _ b4;have b7:=J _ _ b6;refine⟨_,rfl,.inl ⟨rfl,_,SqL.of b7⟩,_,rfl,.inl ⟨rfl,_,SqL.of a6⟩,?_⟩;refine⟨_,rfl,_,rfl,l,_,rfl,.inl (SqL.of a6),a,b,_,_,rfl,a8.same J,by omega,by omega,by omega,λr9 H9 f2 f3 d4 n=>?_⟩;obtain⟨k,rfl⟩:∃k:Nat,r9=k:=⟨r9.toNat,by omega⟩;have hk:k<j.length:=by omega
   have c3:k<d.length:=by rw[<-S.1];exact hk
   have b5:=n _ _ c4 a6;have d3:=n _ _ c7 b7;have d2:Tk H8 H9:=Tk.pot (a8.same J) n;have a1:=d2.its (S.same J);have c0:=d2.its (b9.same J);have hy:j[k]?=some j[k]:=aj hk;obtain⟨r,f4,c8,e0⟩:=a1.mem hy;refine⟨l,_,(k:Int),k,_,rfl,rfl,b5,by omega,by omega,(a4X (b5I hk)).1,hy,?_⟩;have a3:Tk H9 (upd H9 l (.lst (j.eraseIdx k))):=Tk.put b5;have a0:upd H9 l (.lst (j.eraseIdx k)) D=some (.lst os):=by rw[A3 c5.symm];exact d3
   have a4:Tk (upd H9 l (.lst (j.eraseIdx k))) (upd (upd H9 l (.lst (j.eraseIdx k))) D (.lst (os++[j[k]]))):=Tk.put a0;refine⟨D,_,_,rfl,rfl,a0,by omega,?_⟩;have er:d[k]=r:=by rw[aj c3]at c8;exact bH c8
   refine⟨j.eraseIdx k,os++[j[k]],d.eraseIdx k,C++[r],by rw[List.length_eraseIdx,az hk];omega,rfl,?_,?_,?_,A0,?_,?_,?_,?_⟩
   .exact(a0O (a0O d4 c4) c7).mono (by rw[ak];show _<=nn+(_+1);omega)
   .exact a1e (a1e ((a2.trans J.off).trans n) d5) d9
   .rw[A3 c5,A0]
   .exact a4.its (a3.its (a9X a1 k))
   .exact a4.its (a3.its (c0.snoc e0))
   .refine List.Perm.trans ?_ b1;rw[aC];refine bX C ?_;rw[dV d k,<-er];refine(List.perm_middle (l₁:=d.take k) (a:=d[k]) (l₂:=d.drop (k+1))).symm.trans ?_;rw[<-cD c3,br]
   .rw[ak,List.length_eraseIdx,az hk];show os.length+1+_<=_;omega
  .have h0:d=[]:=by simpa using ew
   subst h0;rw[cz]at b1;refine⟨_,rfl,D,_,rfl,.inl ⟨SqL.of (J _ _ b6),λo ho=>?_⟩⟩;have s9:=J.upd (o:=.tup os) ho;exact kk o os C _ A0 (b9.same s9) (by rw[hB];exact b1) ((a8.same s9).mono (by omega)) (a2.trans s9.off)
def wo(at_:Nat):Nat->LLI->LLI
 |0,tss=>tss
 |k+1,tss=>wo at_ k (drp at_ tss)
theorem b0g{j:Nat}{a b:LLI}(h:∀v,v∈a↔v∈b)(v:List Int):v∈drp j a↔v∈drp j b:=by
 rw[mem_drp,mem_drp];exact⟨λ⟨r,h1,h2⟩=>⟨r,(h r).mp h1,h2⟩,λ⟨r,h1,h2⟩=>⟨r,(h r).mpr h1,h2⟩⟩
theorem a5s{j:Nat}:∀(k:Nat) {a b:LLI},(∀v,v∈a↔v∈b)->∀v,v∈wo j k a↔v∈wo j k b
 |0,_,_,h,v=>h v
 |k+1,_,_,h,v=>a5s k (b0g h) v
inductive IspWithout(vs:List V)(H:Hp)(Q:VK)(E:XK):Prop
 |mk (t:Addr) (zs:List V) (tss:LLI) (pl at_ N:Nat) (_:vs=[.ref t,.int pl,.int at_]) (_:H t=some (.tup zs)) (_:Its H zs tss) (_:zs.length<=1000) (_:N<=100) (_:pl+1<=N) (_:at_+pl<=N) (_:pl<=8) (_:(∀r∈tss,r.length=N)) (_:C3 tss) (_:tss.Nodup) (_:∀q ws srt H',Same H H'->L2.Srt (wo at_ pl tss) srt->H' q=some (.tup ws)->Its H' ws srt->Q (.ref q) H'):IspWithout  vs H Q E
def a3M:Sp:=λvs H Q E=>IspWithout  vs H Q E
theorem sc__law_without:FnScope ["_law_told","_law_places","_law_at","_law_k"] ["_law_told","_law_places","_law_at"] (A1 J0):=⟨rfl,rfl,rfl,by decide +kernel,rfl,by decide +kernel,by decide +kernel⟩
theorem a7h(F:FunAt K mg "_law_without" J0 ["_law_told","_law_places","_law_at"])(T:Tx mg)(b:Ok P w K mg base "dropped" 2 ["told","j"] b1a):Ok P w K mg base "_law_without" 3 ["_law_told","_law_places","_law_at"] a3M:=by
 refine F.okJ sc__law_without (λvs H Q E h=>?_) (λl f A j s H vs Q E e h=>?_)
 .obtain⟨t,zs,tss,pl,at_,N,rfl,_⟩:=h;rfl
 .obtain⟨t,zs,tss,pl,at_,N,rfl,ht,hI,hzl,hN,h1,h2,h8,hl,ri,nd,kk⟩:=h;have x:(3000:Nat)<=sizeLine:=by rw[a_];decide
  refine⟨_,(A2 (N9 (K4 rfl T.b_range (jaC (jv 1) jaN)) (A8 (i:=3) sc__law_without.nd rfl (Or.inl rfl))
 (A4 (B3 (i:=0) sc__law_without.nd rfl (Or.inl rfl) (A6 b (e.mono (by omega)) rfl (jaC (jv 0) (jaC (jv 2) jaN))))))
 (A4 (A9 (jv 0)))),?_⟩
  refine⟨_,rfl,_,rfl,by omega,by omega,?_⟩;rw[bA];refine a1o (lo:=0) (n:=pl) (λi σ H'=>Ex4 λ(g:Option V) (t':Addr) (c:List V) (a:LLI)=>An9 (σ=[some (.ref t'),some (.int pl),some (.int at_),g]) (Same H H') (H' t'=some (.tup c)) (Its H' c a) (c.length<=1000) (C3 a) (a.Nodup) ((∀r∈a,r.length=N-i)) (∀v,v∈wo at_ (pl-i) a↔v∈wo at_ pl tss)) ⟨none,t,zs,tss,rfl,Same.refl _,ht,hI,hzl,ri,nd,hl,λv=>Iff.rfl⟩ ?_ ?_
  .rintro i σ H1 hi ⟨g,t',c,a,rfl,s1,ht',hI',hzl',ri',nd',hl',hw⟩;dsimp only[B0,List.set];refine⟨_,rfl,_,rfl,t',c,a,at_,N-i,rfl,ht',hI',hzl',by omega,by omega,by omega,hl',λq p k H2 s2 S o d=>?_⟩;refine⟨_,q,p,k,rfl,s1.trans s2,o,d,?_,S.ri,S.nd,λr e=>?_,λv=>?_⟩
   .have h3:=S.len;unfold drp at h3;rw[ae]at h3;have m:=bB (λr:List Int=>decide (r.getD at_ 0=0)) a;rw[d.1];rw[<-hI'.1]at m;omega
   .obtain⟨u,hu',_,rfl⟩:=mem_drp.mp ((S.mem r).mp e);rw[a5c (hl' u hu') (by omega)];omega
   .rw[<-hw v,show pl-i=(pl-(i+1))+1 by omega];exact a5s _ S.mem v
  .rintro σ H1 ⟨g,t',c,a,rfl,s1,ht',hI',hzl',ri',nd',hl',hw⟩;rw[Nat.sub_self]at hw;exact⟨_,rfl,kk t' c a H1 s1 ⟨ri',nd',hw⟩ ht' hI'⟩
end
end K39
namespace K39
open PySem PySem.Spec PyProof.Rows L2
section
variable {P:Program}{w:World}{K:PySem.W.Frag}{mg:Str->Option Value}{base:Heap}
structure Tld(H:Hp)(q t p:Addr)(zs ws:List V)(tss W F:LLI)(rss:LLI)(cs:List (Option Int))(k:Nat):Prop where
 q:H q=some (.tup [.ref t,.ref p])
 t:H t=some (.tup zs)
 I:Its H zs tss
 p:H p=some (.tup ws)
 J:Its H ws W
 pm:tss.Perm F
 ri:C3 tss
 wk:Wk rss cs F W [] k
theorem Tld.same{H H':Hp}{q t p:Addr}{zs a:List V}{tss W F rss:LLI}{cs:List (Option Int)}{k:Nat}(h:Tld H q t p zs a tss W F rss cs k)(s:Same H H'):Tld H' q t p zs a tss W F rss cs k:=⟨s _ _ h.q,s _ _ h.t,h.I.same s,s _ _ h.p,h.J.same s,h.pm,h.ri,h.wk⟩
inductive IspLLo(vs:List V)(H:Hp)(Q:VK)(E:XK):Prop
 |mk (ra ca:Addr) (rss:LLI) (cs:List (Option Int)) (most:Nat) (mi:Int) (_:vs=[.ref ra,.ref ca,.int mi]) (_:mi=most) (_:SyAt H ra ca rss cs) (_:cs.length<=20) (_:most<=200) (_:(∀H',Same H H'->b5f rss cs most->Q .non H')) (_:∀q t p zs ws tss W F k H',Same H H'->Tld H' q t p zs ws tss W F rss cs k->W.length<=most->Q (.ref q) H'):IspLLo  vs H Q E
def b0Y:Sp:=λvs H Q E=>IspLLo  vs H Q E
theorem sc__law_least_of:FnScope ["_law_rows","_law_caps_here","_law_most","_law_told"] ["_law_rows","_law_caps_here","_law_most"] (A1 G4):=⟨rfl,rfl,rfl,by decide +kernel,rfl,by decide +kernel,by decide +kernel⟩
theorem b6R{a:Addr}(z:FunAt K mg "_law_least_of" G4 ["_law_rows","_law_caps_here","_law_most"])(T:Tx mg)(d:OkE P w K mg base "least" 7 ["rows","caps","most"] (a8h a))(b:mg "TooMany"=some (.ref a))(c:ClsX K a []):Ok P w K mg base "_law_least_of" 8 ["_law_rows","_law_caps_here","_law_most"] b0Y:=by
 refine z.okJ sc__law_least_of (λvs H Q E h=>?_) (λC f A u s H vs Q E J h=>?_)
 .obtain⟨ra,ca,rss,cs,most,mi,rfl,_⟩:=h;rfl
 .obtain⟨ra,ca,rss,cs,most,_,rfl,rfl,Y,hcl,hmo,kn,kq⟩:=h;have O:(3000:Nat)<=sizeLine:=by rw[a_];decide
  refine⟨_,(A2 (B3 (i:=3) sc__law_least_of.nd rfl (Or.inl rfl) V3)
 (A2 (b2m K (b6Z (i:=3) d (J.mono (by omega)) rfl sc__law_least_of.nd rfl (Or.inl rfl) (jaC (jv 0) (jaC (jv 1) (jaC (jv 2) jaN)))) rfl b c (λ_=>(A4 (B3 (i:=3) sc__law_least_of.nd rfl (Or.inl rfl) V3))))
 (A4 (A9 (jv 3))))),?_⟩
  try dsimp only[B0,List.set]
  have y:(most+1)*cs.length<=201*20:=Nat.mul_le_mul (by omega) (by omega);have m:(most+1)*(cs.length+1)<=201*21:=Nat.mul_le_mul (by omega) (by omega);refine⟨_,rfl,_,rfl,_,rfl,ra,ca,rss,cs,most,_,rfl,rfl,Y,by omega,λq M L ys g N B W k x v I t j n r o l D e=>?_,λx v F=>⟨a,rfl,rfl,λp G=>?_⟩⟩
  .exact⟨_,rfl,kq q M L ys N g W B k x v ⟨I,t,j,o,l,n,r,D⟩ e⟩
  .exact⟨_,rfl,kn _ (v.upd G) F⟩
end
end K39
namespace K39
open PySem PySem.Spec PyProof.Rows L2
theorem Shw.answer{rss:LLI}{cs:List (Option Int)}{tss b:LLI}(h:Shw rss cs tss b){t:List Int}(a:t∈tss):Answer rss cs.length t/\Wi cs t=true:=by
 obtain⟨h1,h2⟩:=vecI_iff.mp (aJ.mp h.tv t a);obtain⟨c,d⟩:=(a5a h2).mp (aJ.mp h.fit t (aS _ a));exact⟨⟨h1,h2,h.an.ans t a,c⟩,d⟩
theorem Shw.above{rss:LLI}{cs:List (Option Int)}{tss a:LLI}(h:Shw rss cs tss a){u v:List Int}(e:Least rss cs v)(d:Under u v)(g:(tss.any λt=>Bel t u)=true):v∈tss:=by
 obtain⟨t,c,i⟩:=bD.mp g;have b:=(h.answer c).1;have f:Under t u:=(E4 (by rw[b.len,d.1,e.an.len])).mp i;have:=e.min t b (Under.trans f d);rw[<-this];exact c
theorem Shw.walk{rss:LLI}{cs:List (Option Int)}{tss p:LLI}(h:Shw rss cs tss p)(hR:∀r∈rss,r.length=cs.length){v:List Int}(b:Least rss cs v):∀(m:Nat) (u:List Int),(v.sum-u.sum).toNat<=m->Under u v->S0 tss p u=true->v∈tss:=by
 intro m;induction m with
 |zero =>
  intro u B d a;have A:=d.sum.1;have e:u=v:=Under.eq d (by omega);cases f:tss.any λt=>Bel t u with
  |true=>exact h.above b d f
  |false =>
   unfold S0 at a;rw[f,Bool.or_false,bf]at a;have g:=aJ.mp h.go u a;unfold goI at g;rw[f,dj,aG,e,b.an.ans]at g;exact absurd g.1 (by decide)
 |succ m D =>
  intro u B d a;cases f:tss.any λt=>Bel t u with
  |true=>exact h.above b d f
  |false =>
   unfold S0 at a;rw[f,Bool.or_false,bf]at a;have g:=aJ.mp h.go u a;unfold goI at g;rw[f,dj,aG,dh]at g;obtain⟨i,y⟩:=g;have w:u≠v:=λz=>by rw[z,b.an.ans]at i;cases i
   have x:=b5x rss u v (λr C=>by rw[hR r C,b.an.len]) d w b.an.ans;obtain⟨j,q⟩:=dJ _ x;have n:=a7f q;have o:j<u.length:=by rw[d.1];exact n.1
   have k:Q8 rss u j<0:=by
    unfold Pl at q;have:=(aE.mp q).2;rw[i,dj,aG]at this;exact bw this.2
   have l:a4k (cs.getD j none) (u.getD j 0)=true:=by
    have:=(a0W b.an.len).mp b.wi j (by rw[<-b.an.len];exact n.1);cases e:cs.getD j none with
    |none=>rfl
    |some c =>
     rw[e]at this;have:v.getD j 0<=c:=bw this;exact bg (by omega)
   have s:j∈StP rss cs u:=by
    unfold StP;rw[aE,aE,aX,bf];exact⟨⟨o,k⟩,l⟩
   refine D (bump u j) ?_ (Under.bump (rss:=rss) d q) (aJ.mp y j s);rw[a3r u j o];omega
theorem Shw.sound{rss:LLI}{cs:List (Option Int)}{tss l:LLI}(h:Shw rss cs tss l)(hR:∀r∈rss,r.length=cs.length)(v:List Int):v∈tss↔Least rss cs v:=by
 have back:∀v,Least rss cs v->v∈tss:=λv b=>by
  obtain⟨j,p,h1⟩:=a2G b.an.nn b.an.pos;have g:j<cs.length:=by rw[<-b.an.len];exact p
  have c:Under (I0 cs.length j) v:=⟨by rw[B5,b.an.len],λi hi=>by
   rw[K2 _ _ _ (by rw[<-b.an.len];exact hi)];split
   .rename_i e;subst e;exact h1
   .exact b5C b.an.nn i⟩
  have o:I0 cs.length j∈E6 cs:=aE.mpr ⟨aL.mpr ⟨j,aX.mpr g,rfl⟩,a1Z b.an.len b.wi c⟩;exact h.walk hR b _ _ (ao _) c (aJ.mp h.fst _ o)
 refine⟨λn=>?_,back v⟩;obtain⟨m,hw⟩:=h.answer n;obtain⟨a,d,c⟩:=N3 v.sum.toNat (by omega) m hw;have f:=back a d;have k:=h.an.lst v n;unfold Lst at k;rw[dh,eB]at k;have:=k a f;rw[(E4 (by rw[d.an.len,m.len])).mpr c,Bool.and_true]at this;have e:a=v:=by simpa using this
 rw[<-e];exact d
theorem b3C{rss:LLI}{cs:List (Option Int)}{F W tss b e:LLI}{k:Nat}(hR:∀r∈rss,r.length=cs.length)(h:Wk rss cs F W [] k)(a:tss.Perm F)(d:C3 tss)(c:Shw rss cs b e):b=tss :=
 J5 c.an.ri d c.an.nd (a.symm.nodup h.nd.2) λv=>(c.sound hR v).trans (a.mem_iff.trans (h.least hR v)).symm
theorem b2Q:∀(a b c d:List Int),a.length=c.length->dot (a++b) (c++d)=dot a c+dot b d
 |[],b,[],d,_=>by rw[b2P];simp
 |x::a,b,y::c,d,h=>by
  rw[fL,fL,X9,X9,b2Q a b c d (by simpa using h)];omega
theorem a6v:∀(n:Nat) (ys:List Int),dot (List.replicate n 0) ys=0
 |0,_=>by simp[dot]
 |n+1,[]=>by simp[dot]
 |n+1,y::ys=>by rw[cv,X9,a6v n ys];omega
theorem a9j{A B rss:LLI}{cs1 cs2:List (Option Int)}{m n:Nat}(l:∀r∈A,r.length=m)(o:∀r∈B,r.length=n)(d:cs1.length=m)(e:cs2.length=n)(p:∀c∈cs1++cs2,a3E c 0=true)(pm:rss.Perm (Y6 m n A B)):Sys2 rss A B (cs1++cs2) cs1 cs2 m n (m+n) (a4O n) (a4P m) (λj=>j) λj=>m+j:=by
 refine⟨b2K m n,b2L m n,λi j hi f=>by omega,λk g=>?_,pm,l,o,λr u a b=>?_,λr u a b=>?_,λr u a b=>?_,λr u a b=>?_,by rw[ak,d,e],d,e,λj f=>?_,λj f=>?_,λk g=>?_⟩
 .by_cases h:k<m
  .exact .inl ⟨k,h,rfl⟩
  .exact .inr ⟨k-m,by omega,by omega⟩
 .unfold a4O;rw[b2Q _ _ _ _ (by omega),a6v];omega
 .unfold a4P;rw[b2Q _ _ _ _ rfl,a6v];omega
 .unfold a4P a4O;rw[b2Q _ _ _ _ (by rw[aV,b]),a6v,a3o];omega
 .unfold a4P a4O;rw[b2Q _ _ _ _ (by rw[aV,a]),a3o,a6v];omega
 .show(cs1++cs2).getD j none=_;rw[aq,bq (by omega),aq]
 .show(cs1++cs2).getD (m+j) none=_;rw[aq,aW (by omega),d,Nat.add_sub_cancel_left,aq]
 .have hk':k<(cs1++cs2).length:=by rw[ak,d,e];exact g
  rw[aq,aj hk'];exact p _ (cY hk')
def a3D(j k:Nat)(r:List Int):List Int:=r.take j++r.drop (j+k)
theorem b8t{j n:Nat}{v:List Int}(b:v.length=n)(a:j<n)(k:Nat):(era j v).getD (j+k) 0=v.getD (j+(k+1)) 0:=by
 unfold era;have e:(v.take j).length=j:=by rw[aP];omega
 rw[aq,aW (by omega),e,eh,aq,show j+1+(j+k-j)=j+(k+1) by omega]
theorem a6y{j k n:Nat}{v:List Int}(b:v.length=n)(a:j<n):a3D j k (era j v)=a3D j (k+1) v:=by
 unfold a3D era;have e:(v.take j).length=j:=by rw[aP];omega
 rw[dm (by omega),List.take_take,Nat.min_self,List.drop_append,e,du (by omega),cq,List.drop_drop];congr 2;omega
theorem a7n{j:Nat}:∀(k N:Nat) {tss:LLI},(∀r∈tss,r.length=N)->j+k<=N->∀v,v∈wo j k tss↔∃r,r∈tss/\(∀i,i<k->r.getD (j+i) 0=0)/\a3D j k r=v
 |0,N,tss,c,g,v=>by
  show v∈tss↔_;have e:∀r:List Int,a3D j 0 r=r:=λr=>by unfold a3D;rw[Nat.add_zero,br]
  exact⟨λh=>⟨v,h,(λi hi=>absurd hi (eY i)),e v⟩,λ⟨r,h1,_,f⟩=>by rw[<-f,e];exact h1⟩
 |k+1,N,tss,c,g,v=>by
  show v∈wo j k (drp j tss)↔_;rw[a7n k (N-1) (λr b=>by obtain⟨u,l,_,rfl⟩:=mem_drp.mp b;exact a5c (c u l) (by omega)) (by omega) v];constructor
  .rintro⟨s,hs,h1,h2⟩;obtain⟨r,b,d,rfl⟩:=mem_drp.mp hs;have a:=c r b;refine⟨r,b,λi hi=>?_,by rw[<-h2,a6y a (by omega)]⟩
   match i with
   |0=>exact d
   |i+1=>have:=h1 i (by omega);rwa[b8t a (by omega)]at this
  .rintro⟨r,b,h1,h2⟩;have a:=c r b;refine⟨era j r,mem_drp.mpr ⟨r,b,h1 0 (by omega),rfl⟩,λi hi=>?_,by rw[a6y a (by omega)];exact h2⟩;rw[b8t a (by omega)];exact h1 (i+1) (by omega)
theorem b8y{v:List Int}{n:Nat}(b:v.length=n)(h:∀i,i<n->v.getD i 0=0):v.sum=0:=a8b v λx a=>by
 obtain⟨i,hi,rfl⟩:=cn.mp a;have:=h i (by omega);rwa[aq,aj hi]at this
theorem b5Q{m n:Nat}{T1 T2 tss:LLI}(h1:Vp1 m T1)(h2:Vp1 n T2)(c:∀v,v∈tss↔v∈Y6 m n T1 T2)(v:List Int):v∈wo m n tss↔v∈T1:=by
 have f:∀r∈tss,r.length=m+n:=λr d=>by
  rcases besL_mem.mp ((c r).mp d)with⟨u,b,rfl⟩|⟨u,b,rfl⟩<;>rw[ak,aV]
  .rw[(h1 u b).1]
  .rw[(h2 u b).1]
 rw[a7n n (m+n) f (ao _)];constructor
 .rintro⟨r,d,h3,rfl⟩;rcases besL_mem.mp ((c r).mp d)with⟨u,b,rfl⟩|⟨u,b,rfl⟩
  .have a:=(h1 u b).1;unfold a3D;rw[List.take_left' a,du (by rw[ak,aV,a];exact ao _),cz];exact b
  .exfalso;have:=b8y (h2 u b).1 λi hi=>by
    have q:=h3 i hi;have e:=(b2L m n).at_ u i (h2 u b).1 hi;unfold a4P at e;rw[<-e];exact q
   have:=(h2 u b).2.2;omega
 .intro hv;have a:=(h1 v hv).1;refine⟨v++List.replicate n 0,(c _).mpr (besL_mem.mpr (.inl ⟨v,hv,rfl⟩)),λi hi=>?_,?_⟩
  .exact(b2K m n).off v (m+i) a (by omega) λj g z=>by omega
  .unfold a3D;rw[List.take_left' a,du (by rw[ak,aV,a];exact ao _),cz]
theorem b5P{m n:Nat}{T1 T2 tss:LLI}(h1:Vp1 m T1)(h2:Vp1 n T2)(c:∀v,v∈tss↔v∈Y6 m n T1 T2)(v:List Int):v∈wo 0 m tss↔v∈T2:=by
 have f:∀r∈tss,r.length=m+n:=λr d=>by
  rcases besL_mem.mp ((c r).mp d)with⟨u,a,rfl⟩|⟨u,a,rfl⟩<;>rw[ak,aV]
  .rw[(h1 u a).1]
  .rw[(h2 u a).1]
 rw[a7n m (m+n) f (by omega)];have b:∀r:List Int,a3D 0 m r=r.drop m:=λr=>by unfold a3D;rw[eH,cP,cq]
 constructor
 .rintro⟨r,d,h3,rfl⟩;rw[b];rcases besL_mem.mp ((c r).mp d)with⟨u,a,rfl⟩|⟨u,a,rfl⟩
  .exfalso;have:=b8y (h1 u a).1 λi hi=>by
    have q:=h3 i hi;rw[cP]at q;have e:=(b2K m n).at_ u i (h1 u a).1 hi;unfold a4O at e;rw[<-e];exact q
   have:=(h1 u a).2.2;omega
  .rw[List.drop_left' aV];exact a
 .intro hv;refine⟨List.replicate m 0++v,(c _).mpr (besL_mem.mpr (.inr ⟨v,hv,rfl⟩)),λi hi=>?_,by rw[b,List.drop_left' aV]⟩;rw[cP];exact(b2L m n).off v i (h2 v hv).1 (by omega) λj g z=>by omega
end K39
namespace K39
open PySem PySem.Spec PyProof.Rows L2
theorem SD.its{H:Hp}{a b:Addr}{us c:List V}{A:LLI}(f:H a=some (.tup us))(g:H b=some (.tup c))(hI:Its H us A)(hJ:Its H c A)(h:A.length<=1000)(j:∀r∈A,r.length<=1000):SD H 3 (.ref a) (.ref b):=by
 refine .inr ⟨a,b,us,c,rfl,rfl,f,g,by rw[hI.1,hJ.1],by rw[hI.1];exact h,λi k l e d=>?_⟩;obtain⟨r,e1,e2⟩:=hI.2 i k e;obtain⟨m,f1,f2⟩:=hJ.2 i l d;rw[e1]at f1;cases f1;exact SD.ints e2 f2 (j r (aI e1))
theorem b0G{rss:LLI}{cs:List (Option Int)}{F W L:LLI}{k:Nat}(h:Wk rss cs F W L k):Vp1 cs.length W/\Vp1 cs.length F/\∀v∈W,v.sum<=W.length+1:=by
 obtain⟨_,d,e,_,_,_,j,_⟩:=h.lv;have c:Vp1 cs.length W:=λf a=>by
  obtain⟨i,q1,g,b⟩:=d f a;exact⟨b.len,b.nn,by rw[b.sum];omega⟩
 exact⟨c,λf a=>c f (e f a).1,λf a=>by
  obtain⟨i,q1,g,b⟩:=d f a;rw[b.sum];omega⟩
section
variable {P:Program}{w:World}{K:PySem.W.Frag}{mg:Str->Option Value}{base:Heap}
theorem a6Q{H:Hp}{Q:VK}{t:Addr}{zs:List V}{k:Nat}(a:H t=some (.tup zs))(q:∀p H',Same H H'->H' p=some (.tup (zs.take k))->Q (.ref p) H'):b3O K (.ref t) none (some (k:Int)) H Q:=by
 refine⟨t,zs,rfl,SqT.of a,λh=>?_,λh p b=>?_⟩
 .have h1:=h.2;rw[HT.sIx_nat]at h1;exact q t H (Same.refl _) (by rw[bP (by omega)];exact a)
 .rw[HT.sIx_none,HT.sIx_nat]at h;refine q p _ ((Same.refl H).upd b) ?_;rw[A0,b8w (by omega)]
theorem b7q{xs:List V}{n:Nat}:K5 xs (some (n:Int)) none=xs.drop n:=by
 by_cases h:n<=xs.length
 .exact b8x h
 .unfold K5;rw[HT.sIx_nat,HT.sIx_none,fN (by omega),du (ao _),du (by omega),List.take_nil]
theorem b5Y{K:PySem.W.Frag}{H:Hp}{Q:VK}{t:Addr}{zs:List V}{k:Nat}(a:H t=some (.tup zs))(q:∀p H',Same H H'->H' p=some (.tup (zs.drop k))->Q (.ref p) H'):b3O K (.ref t) (some (k:Int)) none H Q:=by
 refine⟨t,zs,rfl,SqT.of a,λh=>?_,λh p c=>?_⟩
 .have h1:=h.1;rw[HT.sIx_nat]at h1;by_cases b:k=0
  .subst b;exact q t H (Same.refl _) (by rw[cJ];exact a)
  .have hl:zs.length=0:=by omega
   exact q t H (Same.refl _) (by rw[ez hl]at a⊢;rw[List.drop_nil];exact a)
 .refine q p _ ((Same.refl H).upd c) ?_;rw[A0,b7q]
def Rw3(H:Hp)(ra:Addr)(us:List V)(rss:LLI)(n:Nat):Prop:=H ra=some (.tup us)/\Its H us rss/\us.length<=20/\∀r∈rss,r.length=n/\∀z∈r,-10000000000000<=z/\z<=10000000000000
inductive IspRight(vs:List V)(H:Hp)(Q:VK)(E:XK):Prop
 |mk (a b qa ta pa qb tb pb ra ca:Addr) (za wa zb wb us:List V) (Ta Wa Fa Tb Wb Fb' A B rss:LLI) (cs1 cs2:List (Option Int)) (m n nn ka kb:Nat) (wi mi:Int) (_:vs=[.ref a,.ref qa,.int wi,.ref qb,.int mi,.ref ra,.ref ca]) (_:wi=m) (_:mi=n) (_:PotAt H a b nn) (_:nn+500<2 ^ 60) (_:Tld H qa ta pa za wa Ta Wa Fa A cs1 ka) (_:Tld H qb tb pb zb wb Tb Wb Fb' B cs2 kb) (_:Wa.length<=60) (_:Wb.length<=60) (_:Rw3 H ra us rss (m+n)) (_:rss.Perm (Y6 m n A B)) (_:H ca=some (.tup ((cs1++cs2).map cV))) (_:cs1.length=m) (_:cs2.length=n) (_:1<=m) (_:m<=8) (_:1<=n) (_:n<=8) (_:CpB cs1) (_:CpB cs2) (_:(∀r∈A,r.length=m)) (_:(∀r∈B,r.length=n)) (_:∀H',Q (.bl true) H'):IspRight  vs H Q E
def a8g:Sp:=λvs H Q E=>IspRight  vs H Q E
theorem sc__law_right:FnScope ["_law_pot_here","_law_one","_law_width","_law_other","_law_more","_law_rows","_law_caps_here","_law_both","_law_paper","_law_told","_law_some","_law_at","_law_fewer"] ["_law_pot_here","_law_one","_law_width","_law_other","_law_more","_law_rows","_law_caps_here"] (A1 M7):=⟨rfl,rfl,rfl,by decide +kernel,rfl,by decide +kernel,by decide +kernel⟩
theorem b1W(F':FunAt K mg "_law_right" M7 ["_law_pot_here","_law_one","_law_width","_law_other","_law_more","_law_rows","_law_caps_here"])(T:Tx mg)(a5:Ok P w K mg base "_law_take" 1 ["_law_pot_here","_law_many"] a1a)(b8:Ok P w K mg base "beside" 2 ["one","width","other","more"] a5E)(L:Ok P w K mg base "_law_least_of" 8 ["_law_rows","_law_caps_here","_law_most"] b0Y)(a8:Ok P w K mg base "shows" 6 ["rows","caps","told","paper"] a8f)(C:Ok P w K mg base "_law_without" 3 ["_law_told","_law_places","_law_at"] a3M)(y:Ok P w K mg base "_law_same" 4 ["_law_found","_law_due"] (b0U 3)):Ok P w K mg base "_law_right" 9 ["_law_pot_here","_law_one","_law_width","_law_other","_law_more","_law_rows","_law_caps_here"] a8g:=by
 refine F'.okJ sc__law_right (λvs H Q E h=>?_) (λr1 f A p6 s H vs Q E G h=>?_)
 .obtain⟨a,b,qa,ta,pa,qb,tb,pb,ra,ca,za,wa,zb,wb,us,Ta,Wa,Fa,Tb,Wb,Fb',A,B,rss,cs1,cs2,m,n,nn,ka,kb,wi,mi,rfl,_⟩:=h;rfl
 .obtain⟨a,b,qa,ta,pa,qb,tb,pb,ra,ca,za,wa,zb,wb,us,Ta,Wa,Fa,Tb,Wb,Fb',A',B',rss,cs1,cs2,m,n,nn,ka,kb,_,_,rfl,rfl,rfl,hP,hnn,O,R,w1,w2,hR,hpm,hca,l1,l2,m1,m8,n1,n8,c1,c2,hA,hB,kk⟩:=h;have hz:(3000:Nat)<=sizeLine:=by rw[a_];decide
  have hu:=G.u60;refine⟨_,(A2 (B3 (i:=7) sc__law_right.nd rfl (Or.inl rfl) (A6 b8 (G.mono (by omega)) rfl (jaC (L9 K (jv 1) A5) (jaC (jv 2) (jaC (L9 K (jv 3) A5) (jaC (jv 4) jaN))))))
 (A2 (a4V (i:=8) sc__law_right.nd rfl (Or.inl rfl) (N:=["_law_vector","_law_more"]) (src:=[none,some 4]) (E5 K (L9 K (jv 1) A5)) (by show B7 _ _=true;rfl) (by rfl) (by rfl)
 (λ_ _ _ _ _=>(A8 (i:=0) (show(["_law_vector","_law_more"]:List Str).Nodup by decide +kernel) rfl (Or.inl rfl))) (λ_ _ _ _ _=>C4) (λ_ _ _ _ _=>(G5 (jv 0) (a2Z (X2 (jaC A5 jaN)) (jv 1)))))
 (A2 (B3 (i:=8) sc__law_right.nd rfl (Or.inl rfl) (b2v (jv 8) (B8 (N:=["_law_vector","_law_width"]) (src:=[none,some 2]) (E5 K (L9 K (jv 3) A5)) (by show B7 _ _=true;rfl) (by rfl) (by rfl)
 (λ_ _ _ _ _=>(A8 (i:=0) (show(["_law_vector","_law_width"]:List Str).Nodup by decide +kernel) rfl (Or.inl rfl))) (λ_ _ _ _ _=>C4) (λ_ _ _ _ _=>(G5 (a2Z (X2 (jaC A5 jaN)) (jv 1)) (jv 0))))))
 (A2 (B3 (i:=9) sc__law_right.nd rfl (Or.inl rfl) (A6 L (G.mono (by omega)) rfl (jaC (jv 5) (jaC (jv 6) (jaC A5 jaN)))))
 (A2 (D5 (a1S (a2W (a4U (jv 9) V3) (a2W (M1 (D4 K (A6 y (G.mono (by omega)) rfl (jaC (L9 K (jv 9) A5) (jaC (jv 7) jaN))))) (a1k (b5F (G7 K rfl T.b_len (jaC (L9 K (jv 9) A5) jaN)) (G7 K rfl T.b_len (jaC (jv 8) jaN)))))))
 (A4 (A9 M0))
 C1)
 (A2 (D5 (a7s K hu (a0R K rfl T.b_sorted (jaC (L9 K (jv 9) A5) jaN)) (a0R K rfl T.b_sorted (jaC (jv 8) jaN)))
 (A4 (A9 M0))
 C1)
 (A2 (N9 (E5 K (X2 (jaC (C9 K rfl T.b_tuple (jaC (jv 8) jaN)) (jaC (C9 K rfl T.b_tuple (jaC (b7f K (jv 8) (b8p A5)) jaN)) jaN)))) (A8 (i:=10) sc__law_right.nd rfl (Or.inl rfl))
 (A2 (D5 (a3Y true (A6 a8 (G.mono (by omega)) rfl (jaC (jv 5) (jaC (jv 6) (jaC (jv 7) (jaC (jv 10) jaN))))) M0)
 (A4 (A9 M0))
 C1)
 (A2 (B3 (i:=11) sc__law_right.nd rfl (Or.inl rfl) (A6 a5 (G.mono (by omega)) rfl (jaC (jv 0) (jaC (Q0 (G7 K rfl T.b_len (jaC (jv 7) jaN)) A5) jaN))))
 (A2 (B3 (i:=12) sc__law_right.nd rfl (Or.inl rfl) (G5 (a8G K (jv 7) L7 (L6 (jv 11))) (a8G K (jv 7) (L6 (Q0 (jv 11) A5)) L7)))
 (A4 (D5 (a1S (a1l (a8C (jv 11) (G7 K rfl T.b_len (jaC (jv 7) jaN))) (a0d (a3Y false (A6 a8 (G.mono (by omega)) rfl (jaC (jv 5) (jaC (jv 6) (jaC (jv 12) (jaC (jv 10) jaN))))) M0))))
 (A4 (A9 M0))
 C1))))))
 (A2 (D5 (M1 (D4 K (A6 y (G.mono (by omega)) rfl (jaC (A6 C (G.mono (by omega)) rfl (jaC (jv 7) (jaC (jv 4) (jaC (jv 2) jaN)))) (jaC (L9 K (jv 1) A5) jaN)))))
 (A4 (A9 M0))
 C1)
 (A4 (A9 (A6 y (G.mono (by omega)) rfl (jaC (A6 C (G.mono (by omega)) rfl (jaC (jv 7) (jaC (jv 2) (jaC A5 jaN)))) (jaC (L9 K (jv 3) A5) jaN))))))))))))),?_⟩
  have l3:∀c∈cs1++cs2,a3E c 0=true:=λc hc=>by
   cases c with
   |none=>rfl
   |some z =>
    have:0<=z:=((aA.mp hc).elim (λh=>(c1 _ h z rfl).1) λh=>(c2 _ h z rfl).1);exact bg this
  have S:=a9j hA hB l1 l2 l3 hpm;obtain⟨F,W,hW,o4,l0⟩:=S.walk O.wk R.wk;have o5:W.length=Wa.length+Wb.length:=by rw[l0.length_eq,ak,ae,ae]
  have va:=b0G O.wk;have vb:=b0G R.wk;rw[l1]at va;rw[l2]at vb;have g0:Vp1 m Ta:=λf hf=>va.2.1 f (O.pm.mem_iff.mp hf);have g1:Vp1 n Tb:=λf hf=>vb.2.1 f (R.pm.mem_iff.mp hf);have r6:Ta.length<=60:=by rw[O.pm.length_eq];have:=O.wk.lv.2.2.2.1;omega
  have r7:Tb.length<=60:=by rw[R.pm.length_eq];have:=R.wk.lv.2.2.2.1;omega
  refine⟨_,rfl,qa,_,0,_,rfl,rfl,SqT.of O.q,rfl,_,rfl,_,rfl,qb,_,0,_,rfl,rfl,SqT.of R.q,rfl,_,rfl,ta,tb,za,zb,Ta,Tb,m,n,_,_,rfl,rfl,rfl,O.t,O.I,by rw[O.I.1];omega,R.t,R.I,by rw[R.I.1];omega,m1,by omega,n1,by omega,λr G=>by rw[(g0 r G).1];omega,λr G=>by rw[(g1 r G).1];omega,λbo b5 l H1 s1 S1 e1 g=>?_⟩;have b1:=O.same s1;have h6:=R.same s1;have f1:Rw3 H1 ra us rss (m+n):=⟨s1 _ _ hR.1,hR.2.1.same s1,hR.2.2⟩;have h0:=s1 _ _ hca;have k5:=hP.same s1;clear s1 hR hca hP O R;dsimp only[B0,List.set];refine⟨_,rfl,qa,_,1,_,rfl,rfl,SqT.of b1.q,rfl,pa,rfl,⟨_,SqT.of b1.p⟩,?_⟩;refine R7 (caps:=[some (.int n)]) (λr=>r++List.replicate n 0) (by rw[b1.J.1];omega) (λH' s=>SqT.of (s _ _ b1.p)) b1.J rfl (λv u H2 Q2 j0 Z s2 qq=>?_) λH2 p2 J s2 i6 b9=>?_
  .obtain⟨va',rfl,hva⟩:=Z;refine⟨_,rfl,by show 1<=sizeLine;omega,λp3 c3=>⟨_,rfl,p3,[.int 0],(n:Int),rfl,rfl,A0,by simp,by omega,by show(1:Int)*_<=_;omega,λq3 H3 s3 e3=>?_⟩⟩;rw[bA,X7]at e3;have m6:=((Same.refl H2).upd (o:=.tup [.int 0]) c3).trans s3;refine⟨va',q3,_,_,rfl,rfl,m6 _ _ hva,e3,by rw[ae,ae,aV,(va.1 u j0).1];omega,λq4 H4 s4 e4=>qq _ H4 (m6.trans s4) ⟨q4,rfl,by rw[e4,bz]⟩⟩
  have a7:=s2.upd (o:=.lst J) i6;have e2:upd H2 p2 (.lst J) p2=some (.lst J):=A0;have b9:=b9.same ((Same.refl H2).upd (o:=.lst J) i6);generalize upd H2 p2 (.lst J)=H3 at a7 e2 b9;have a2:=h6.same a7;clear s2 i6;dsimp only[B0,List.set];refine⟨_,rfl,_,rfl,qb,_,1,_,rfl,rfl,SqT.of a2.q,rfl,pb,rfl,⟨_,SqT.of a2.p⟩,?_⟩;refine R7 (caps:=[some (.int m)]) (λr=>List.replicate m 0++r) (by rw[a2.J.1];omega) (λH' s=>SqT.of (s _ _ a2.p)) a2.J rfl (λv u H4 Q4 j0 Z s4 qq=>?_) λH4 p4 M s4 i7 c0=>?_
  .obtain⟨va',rfl,hva⟩:=Z;refine⟨by show 1<=sizeLine;omega,λp3 c3=>⟨_,rfl,p3,[.int 0],(m:Int),rfl,rfl,A0,by simp,by omega,by show(1:Int)*_<=_;omega,λq5 H5 s5 e5=>?_⟩⟩;rw[bA,X7]at e5;have m7:=((Same.refl H4).upd (o:=.tup [.int 0]) c3).trans s5;refine⟨_,rfl,q5,va',_,_,rfl,rfl,e5,m7 _ _ hva,by rw[ae,ae,aV,(vb.1 u j0).1];omega,λq6 H6 s6 e6=>qq _ H6 (m7.trans s6) ⟨q6,rfl,by rw[e6,bz]⟩⟩
  have d6:=s4.upd (o:=.lst M) i7;have e4:upd H4 p4 (.lst M) p4=some (.lst M):=A0;have c0:=c0.same ((Same.refl H4).upd (o:=.lst M) i7);generalize upd H4 p4 (.lst M)=H5 at d6 e4 c0;have f4:J.length=Wa.length:=by rw[b9.1,ae]
  have o9:M.length=Wb.length:=by rw[c0.1,ae]
  refine⟨p2,p4,_,_,rfl,rfl,d6 _ _ e2,e4,by omega,λpp l6=>?_⟩;have e9:Its H5 (J++M) (Y6 m n Wa Wb):=(b9.same d6).app c0;have f8:=(Same.refl H5).upd (o:=.lst (J++M)) l6;have ep:upd H5 pp (.lst (J++M)) pp=some (.lst (J++M)):=A0;have c5:=e9.same f8;have X:=(a7.trans d6).trans f8;generalize upd H5 pp (.lst (J++M))=H6 at f8 ep c5 X;have p0:(J++M).length<=120:=by rw[ak];omega
  generalize J++M=ps at e9 c5 ep p0;have b3:W.Perm (Y6 m n Wa Wb):=l0;generalize Y6 m n Wa Wb=f5 at e9 c5 b3;have O:=b1.same X;have R:=h6.same X;have a6:Rw3 H6 ra us rss (m+n):=⟨X _ _ f1.1,f1.2.1.same X,f1.2.2⟩;have d2:=X _ _ h0;have k8:=k5.same X;have e1:=X _ _ e1;have g:=g.same X;clear X f8 e9 d6 s4 i7 c0 e4 e2 b9 a7 a2 b1 h6 f1 h0 k5 l6 f4 o9;dsimp only[B0,List.set];have hcl:(cs1++cs2).length=m+n:=by rw[ak,l1,l2]
  have Y:SyAt H6 ra ca rss (cs1++cs2):=⟨⟨us,a6.1,a6.2.1,by have:=a6.2.2.1;omega⟩,d2,by rw[hcl];omega,by rw[hcl];omega,λr' l8=>⟨by rw[hcl];exact(a6.2.2.2 r' l8).1,λz hz=>by have:=(a6.2.2.2 r' l8).2 z hz;omega⟩⟩;refine⟨_,rfl,_,rfl,ra,ca,rss,cs1++cs2,120,_,rfl,rfl,Y,by rw[hcl];omega,by decide,λH7 s7 ho=>absurd ho (a9P hW (by rw[o5];omega)),λq t p zs ws q0 W' F' k H7 s7 D q9=>?_⟩;obtain⟨rfl,rfl⟩:=a6G hW D.wk;have i4:l=q0:=J5 S1.ri D.ri S1.nd (D.pm.symm.nodup hW.nd.2) λv=>by
   rw[S1.mem,besL_mem,D.pm.mem_iff,o4 v];exact⟨λh=>h.imp (λ⟨r,h1,h2⟩=>⟨r,O.pm.mem_iff.mp h1,h2.symm⟩) λ⟨r,h1,h2⟩=>⟨r,R.pm.mem_iff.mp h1,h2.symm⟩,λh=>h.imp (λ⟨r,h1,h2⟩=>⟨r,O.pm.mem_iff.mpr h1,h2.symm⟩) λ⟨r,h1,h2⟩=>⟨r,R.pm.mem_iff.mpr h1,h2.symm⟩⟩
  have o8:=S1.mem;subst i4;have vW:=b0G hW;rw[hcl]at vW;have lB:l.length<=120:=by rw[D.pm.length_eq];have:=hW.lv.2.2.2.1;omega
  have vB:Vp1 (m+n) l:=λf hf=>vW.2.1 f (D.pm.mem_iff.mp hf);have e1:=s7 _ _ e1;have g:=g.same s7;have ep:=s7 _ _ ep;have f0:=c5.same s7;have O:=O.same s7;have R:=R.same s7;have f2:Rw3 H7 ra us rss (m+n):=⟨s7 _ _ a6.1,a6.2.1.same s7,a6.2.2⟩;have h4:=s7 _ _ d2;have k9:=k8.same s7;clear a6 d2 k8 c5 s7 Y;dsimp only[B0,List.set];refine⟨_,rfl,rfl,_,rfl,D6 ?_⟩;refine⟨_,rfl,q,_,0,_,rfl,rfl,SqT.of D.q,rfl,_,rfl,_,_,rfl,SD.its D.t e1 D.I g (by omega) (λr G=>by rw[(vB r G).1];omega),λH8 s8=>⟨_,rfl,D6 ?_⟩⟩;have l7:ps.length=W.length:=by rw[f0.1,b3.length_eq]
  refine⟨_,rfl,q,_,1,_,rfl,rfl,SqT.of (s8 _ _ D.q),rfl,p,ws,rfl,.inr (SqT.of (s8 _ _ D.p)),_,rfl,pp,ps,rfl,.inl (SqL.of (s8 _ _ ep)),rfl,_,rfl,?_⟩;have i5:ws.length=ps.length:=by rw[D.J.1,l7]
  refine a0y (λe=>absurd e (by simp[i5])) λ_=>?_;refine⟨_,rfl,q,_,1,_,rfl,rfl,SqT.of (s8 _ _ D.q),rfl,p,ws,W,rfl,.inr (SqT.of (s8 _ _ D.p)),D.J.same s8,λr G=>by rw[(vW.1 r G).1];omega,λla g2 j6 l4 c6 i8 hra _=>?_⟩;have f9:=(Same.refl H8).upd (o:=.lst g2) l4;have i1:upd H8 la (.lst g2) la=some (.lst g2):=A0;have c6:=c6.same f9;have s9:=s8.trans f9;generalize upd H8 la (.lst g2)=H9 at f9 i1 c6 s9;refine⟨_,rfl,pp,ps,f5,rfl,.inl (SqL.of (s9 _ _ ep)),f0.same s9,λr G=>by rw[(vW.1 r (b3.mem_iff.mpr G)).1];omega,λlb g3 p9 l5 c7 i9 l9 _=>?_⟩;have a4:=(Same.refl H9).upd (o:=.lst g3) l5;have i2:upd H9 lb (.lst g3) lb=some (.lst g3):=A0;have c7:=c7.same a4;have V:=s9.trans a4;generalize upd H9 lb (.lst g3)=d9 at a4 i2 c7 V;have m0:j6=p9:=J5 hra l9 (i8.symm.nodup hW.nd.1) (i9.symm.nodup (b3.nodup hW.nd.1)) λv=>(i8.mem_iff).trans (b3.mem_iff.trans i9.mem_iff.symm);subst m0;refine⟨2,_,by decide,EqV.its (k:=false) (SqL.of (a4 _ _ i1)) (SqL.of i2) (c6.same a4) c7,⟨_,_,rfl,rfl⟩,_,rfl,?_⟩;rw[show decide (j6=j6)=true from bg rfl];refine D6 ?_;have e1:=V _ _ e1;have g:=g.same V;have ep:=V _ _ ep;have g4:=f0.same V;have O:=O.same V;have R:=R.same V;have b6:Rw3 d9 ra us rss (m+n):=⟨V _ _ f2.1,f2.2.1.same V,f2.2.2⟩;have d0:=V _ _ h4;have g6:=k9.same V;have a9:=D.pm;have b7:=D.ri;clear f2 h4 k9 f0 V a4 s9 f9 s8 D i1 i2 c6 c7 l4 l5 i8 i9 hra l9;refine⟨_,rfl,pp,ps,rfl,.inl ⟨SqL.of ep,λt1 m2=>?_⟩⟩;have f6:=(Same.refl d9).upd (o:=.tup ps) m2;have e7:upd d9 t1 (.tup ps) t1=some (.tup ps):=A0;generalize upd d9 t1 (.tup ps)=h7 at f6 e7;refine⟨_,rfl,_,rfl,rfl,pp,ps,rfl,SqL.of (f6 _ _ ep),λl2 f4=>⟨l2,_,rfl,.inl ⟨SqL.of A0,λt2 m3=>?_⟩⟩⟩;have a7:=((Same.refl h7).upd (o:=.lst ps.reverse) f4).upd (o:=.tup ps.reverse) m3;have e8:upd (upd h7 l2 (.lst ps.reverse)) t2 (.tup ps.reverse) t2=some (.tup ps.reverse):=A0;generalize upd (upd h7 l2 (.lst ps.reverse)) t2 (.tup ps.reverse)=h8 at a7 e8;refine⟨by show 2<=sizeLine;omega,λp3 c3=>⟨p3,rfl,⟨_,SqT.of A0⟩,?_⟩⟩;have d4:=(Same.refl h8).upd (o:=.tup [.ref t1,.ref t2]) c3;have j9:upd h8 p3 (.tup [.ref t1,.ref t2]) p3=some (.tup [.ref t1,.ref t2]):=A0;generalize upd h8 p3 (.tup [.ref t1,.ref t2])=j7 at d4 j9;have j:=(f6.trans a7).trans d4;have e1:=j _ _ e1;have g:=g.same j;have g5:=g4.same j;have O:=O.same j;have R:=R.same j;have I:Rw3 j7 ra us rss (m+n):=⟨j _ _ b6.1,b6.2.1.same j,b6.2.2⟩;have d1:=j _ _ d0;have k6:=g6.same j;have e7:=(a7.trans d4) _ _ e7;have e8:=d4 _ _ e8;clear j f6 a7 d4 m2 f4 m3 c3 b6 d0 g6 g4 ep;have c9:∀r∈rss,r.length=(cs1++cs2).length:=λr G=>by rw[hcl];exact(I.2.2.2 r G).1
  refine a8O (K:=K) (a:=p3) (xs:=[.ref t1,.ref t2]) (λi σ H'=>Ex3 λj1 j2 j3=>An3 (σ=[some (.ref a),some (.ref qa),some (.int m),some (.ref qb),some (.int n),some (.ref ra),some (.ref ca),some (.ref bo),some (.ref pp),some (.ref q),j1,j2,j3]) (PotAt H' a b (nn+i)) (Tk j7 H')) ⟨none,none,none,rfl,k6,λ_ _ z=>z⟩ (λi σ H' _ h=>by obtain⟨_,_,_,_,_,tk⟩:=h;exact SqT.of (tk _ _ j9)) ?_ ?_
  .rintro i x σ e0 hx ⟨j1,j2,j3,rfl,g7,d⟩;have r2:i<2:=(aT.mp hx).1;obtain⟨t',c4,b0,rfl,k0,i3,a3⟩:∃t' c4 b0,x=.ref t'/\e0 t'=some (.tup c4)/\Its e0 c4 b0/\W.Perm b0:=by
    match i,hx with
    |0,hx=>cases hx;exact⟨t1,ps,f5,rfl,d _ _ e7,d.its g5,b3⟩
    |1,hx=>cases hx;exact⟨t2,ps.reverse,f5.reverse,rfl,d _ _ e8,a8I (d.its g5),b3.trans (List.reverse_perm f5).symm⟩
   have r5:c4.length<=120:=by rw[i3.1,<-a3.length_eq];omega
   have f3:∀v,v∈W->v.length<=1000/\Sm v:=λv Z=>⟨by rw[(vW.1 v Z).1];omega,λx hx=>by
    have h1:=(vW.1 v Z).2.1 x hx;have h2:=b5B (vW.1 v Z).2.1 x hx;have h3:=vW.2.2 v Z;omega⟩
   have k1:∀v∈F,v∈W:=λv Z=>(hW.lv.2.2.1 v Z).1;dsimp only[B0,List.set];refine⟨_,rfl,_,rfl,_,rfl,_,rfl,ra,ca,bo,t',us,b5,c4,rss,l,b0,cs1++cs2,rfl,d _ _ I.1,d.its I.2.1,by have:=I.2.2.1;omega,d _ _ d1,by rw[hcl];omega,by rw[hcl];omega,λr G=>⟨c9 r G,λz hz=>by have:=(I.2.2.2 r G).2 z hz;omega⟩,d _ _ e1,d.its g,by rw[g.1];omega,k0,i3,by omega,λv Z=>?_,λbb n0 d5 hb=>?_⟩
   .rcases aA.mp Z with z|z
    .exact f3 v (k1 v (a9.mem_iff.mp z))
    .exact f3 v (a3.mem_iff.mpr z)
   have i4:bb=true:=hb.mpr (b3B c9 hW a9 b7 (λv Z=>?wi) (λv Z=>.inl (a3.mem_iff.mpr Z)) λv Z=>.inl (a3.mem_iff.mp Z))
   case wi =>
    have Z:=a3.mem_iff.mpr Z;have:=vW.1 v Z;rw[<-hcl]at this;exact⟨this.1,this.2.1,this.2.2,(hW.pap c9).wi v Z⟩
   subst i4;refine⟨rfl,_,rfl,D6 ?_⟩;have a0:=d.trans (Tk.same d5);have c8:=g7.same d5;refine⟨_,rfl,_,rfl,bo,b5,rfl,.inr (SqT.of (a0 _ _ e1)),_,_,rfl,rfl,a,b,_,_,rfl,c8,by omega,by omega,by rw[g.1];omega,λm4 n2 q7 q8 k7 d3=>?_⟩;obtain⟨kz,rfl⟩:∃t:Nat,m4=t:=⟨m4.toNat,by omega⟩;have a1:=a0.trans (Tk.pot c8 d3);have r3:kz<=l.length:=by rw[<-g.1];omega
   dsimp only[B0,List.set];refine⟨_,rfl,?_⟩
   delta O6
   refine⟨_,rfl,(kz:Int),rfl,a6Q (a1 _ _ e1) λn5 n3 f7 n9=>?_⟩;refine⟨_,rfl,_,rfl,_,_,rfl,rfl,?_⟩;refine⟨((kz+1:Nat):Int),by push_cast;rfl,b5Y (f7 _ _ (a1 _ _ e1)) λn6 n4 j4 o0=>?_⟩;have b4:=f7.trans j4;refine⟨n5,n6,_,_,rfl,rfl,j4 _ _ n9,o0,by rw[aP,bE,g.1];omega,λn7 j8 j5 o1=>?_⟩;have U:=a1.trans (Tk.same (b4.trans j5));have g8:=k7.same (b4.trans j5);have k2:Its j8 (b5.take kz++b5.drop (kz+1)) (l.take kz++l.drop (kz+1)):=((U.its g).take kz).app ((U.its g).drop (kz+1));dsimp only[B0,List.set];refine⟨_,rfl,_,rfl,bo,b5,rfl,.inr (SqT.of (U _ _ e1)),_,_,rfl,rfl,_,rfl,a0y (λe=>?_) (λe=>D6 ⟨_,_,_,rfl,g8.mono (by omega),U⟩)⟩;have r4:kz<l.length:=by have:=bw e;rw[g.1]at this;omega
   have d7:Tk e0 j8:=((Tk.same d5).trans (Tk.pot c8 d3)).trans (Tk.same (b4.trans j5));refine⟨_,rfl,_,rfl,_,rfl,_,rfl,ra,ca,n7,t',us,_,c4,rss,_,b0,cs1++cs2,rfl,U _ _ I.1,U.its I.2.1,by have:=I.2.2.1;omega,U _ _ d1,by rw[hcl];omega,by rw[hcl];omega,λr G=>⟨c9 r G,λz hz=>by have:=(I.2.2.2 r G).2 z hz;omega⟩,o1,k2,by rw[k2.1,ak,aP,bE];omega,d7 _ _ k0,d7.its i3,by omega,λv Z=>?_,λb2 r0 m5 o6=>?_⟩
   .rcases aA.mp Z with z|z
    .refine f3 v (k1 v (a9.mem_iff.mp ?_));exact(aA.mp z).elim bU cS
    .exact f3 v (a3.mem_iff.mpr z)
   have o7:b2=false:=by
    cases b2 with
    |false=>rfl
    |true =>
     exfalso;have:=b3C c9 hW a9 b7 (o6.mp rfl);have:=aN List.length this;rw[ak,aP,bE]at this;omega
   subst o7;exact⟨rfl,_,rfl,D6 ⟨_,_,_,rfl,(g8.same m5).mono (by omega),U.trans (Tk.same m5)⟩⟩
  rintro σ e0 ⟨j1,j2,j3,rfl,g7,d⟩;have m9:∀r∈l,r.length=m+n:=λr G=>(vB r G).1;have g9:∀v,v∈l↔v∈Y6 m n Ta Tb:=o8;have h5:l.Nodup:=a9.symm.nodup hW.nd.2;refine⟨_,rfl,_,rfl,_,rfl,bo,b5,l,n,m,m+n,rfl,d _ _ e1,d.its g,by rw[g.1];omega,by omega,by omega,by omega,n8,m9,b7,h5,λq1 r8 p7 n0 d5 h9 p1 k3=>?_⟩;have o2:p7=Ta:=J5 h9.ri O.ri h9.nd (O.pm.symm.nodup O.wk.nd.2) λv=>(h9.mem v).trans (b5Q g0 g1 g9 v);subst o2;have a0:=d.trans (Tk.same d5);refine⟨_,rfl,qa,_,0,_,rfl,rfl,SqT.of (a0 _ _ O.q),rfl,_,_,rfl,SD.its p1 (a0 _ _ O.t) k3 (a0.its O.I) (by omega) (λr G=>by rw[(g0 r G).1];omega),λn2 X=>⟨_,rfl,D6 ?_⟩⟩;have a1:=a0.trans (Tk.same X);refine⟨_,rfl,_,rfl,bo,b5,l,m,0,m+n,rfl,a1 _ _ e1,a1.its g,by rw[g.1];omega,by omega,by omega,by omega,m8,m9,b7,h5,λq2 J p8 n3 f7 i0 p5 k4=>?_⟩;have o3:p8=Tb:=J5 i0.ri R.ri i0.nd (R.pm.symm.nodup R.wk.nd.2) λv=>(i0.mem v).trans (b5P g0 g1 g9 v);subst o3;have d8:=a1.trans (Tk.same f7);exact⟨_,rfl,qb,_,0,_,rfl,rfl,SqT.of (d8 _ _ R.q),rfl,_,_,rfl,SD.its p5 (d8 _ _ R.t) k4 (d8.its R.I) (by omega) (λr G=>by rw[(g1 r G).1];omega),λn4 j4=>kk _⟩
end
end K39
namespace K39
open PySem PySem.Spec PyProof.Rows L2
section
variable {P:Program}{w:World}{K:PySem.W.Frag}{mg:Str->Option Value}{base:Heap}
theorem sc_law:FnScope ["_law_script","_law_pot_here","_law_first","_law_width","_law_second","_law_more","_law_caps_here","_law_rows","_law_one","_law_other"] ["_law_script"] (A1 a2B):=⟨rfl,rfl,rfl,by decide +kernel,rfl,by decide +kernel,by decide +kernel⟩
theorem b6S{f:Addr}{fd:FuncData}(F':Fun K "law" "law" a2B f fd)(T:Tx mg)(S:Ok P w K mg base "_law_pot" 1 ["_law_script"] (b5o K))(e:Ok P w K mg base "_law_system" 3 ["_law_pot_here","_law_wide","_law_far"] b5n)(l:Ok P w K mg base "_law_caps" 2 ["_law_pot_here","_law_width"] b1b)(G:Ok P w K mg base "_law_in_one" 2 ["_law_pot_here","_law_first","_law_width","_law_second","_law_more"] a8j)(d:Ok P w K mg base "_law_least_of" 8 ["_law_rows","_law_caps_here","_law_most"] b0Y)(I:Ok P w K mg base "_law_right" 9 ["_law_pot_here","_law_one","_law_width","_law_other","_law_more","_law_rows","_law_caps_here"] a8g) :
  FnOk P w K mg base CX0 10 f fd ["_law_script"] (a8i K):=by
 refine F'.okJ sc_law (λvs H Q E h=>?_) (λf7 A f5 s H vs Q E g h=>?_)
 .obtain⟨a,ns,rfl,_⟩:=h;rfl
 .obtain⟨c,ns,rfl,hS,hl,kk⟩:=h;have hu:=g.u60;have hz:(3000:Nat)<=sizeLine:=by rw[a_];decide
  refine⟨_,(A2 (B3 (i:=1) sc_law.nd rfl (Or.inl rfl) (A6 S (g.mono (by omega)) rfl (jaC (jv 0) jaN)))
 (A2 (a2X (A6 e (g.mono (by omega)) rfl (jaC (jv 1) (jaC A5 (jaC (a6o A5 A5) jaN)))) (U0 K 2 (C0 (A8 (i:=2) sc_law.nd rfl (Or.inl rfl)) (C0 (A8 (i:=3) sc_law.nd rfl (Or.inl rfl)) N2))))
 (A2 (a2X (A6 e (g.mono (by omega)) rfl (jaC (jv 1) (jaC A5 (jaC (a6o A5 A5) jaN)))) (U0 K 2 (C0 (A8 (i:=4) sc_law.nd rfl (Or.inl rfl)) (C0 (A8 (i:=5) sc_law.nd rfl (Or.inl rfl)) N2))))
 (A2 (b2o (i:=2) (j:=4) rfl sc_law.nd rfl rfl (by decide) rfl rfl (jaC (a8G K (jv 2) L7 (L6 A5)) (jaC (a8G K (jv 4) L7 (L6 A5)) jaN)) rfl)
 (A2 (B3 (i:=6) sc_law.nd rfl (Or.inl rfl) (V4 (jaC (A6 l (g.mono (by omega)) rfl (jaC (jv 1) (jaC (jv 3) jaN))) (jaC (A6 l (g.mono (by omega)) rfl (jaC (jv 1) (jaC (jv 5) jaN))) jaN))))
 (A2 (B3 (i:=7) sc_law.nd rfl (Or.inl rfl) (A6 G (g.mono (by omega)) rfl (jaC (jv 1) (jaC (jv 2) (jaC (jv 3) (jaC (jv 4) (jaC (jv 5) jaN)))))))
 (A2 (b2o (i:=8) (j:=9) rfl sc_law.nd rfl rfl (by decide) rfl rfl (jaC (A6 d (g.mono (by omega)) rfl (jaC (jv 2) (jaC (M2 K (jv 6) A5) (jaC A5 jaN)))) (jaC (A6 d (g.mono (by omega)) rfl (jaC (jv 4) (jaC (M2 K (jv 6) A5) (jaC A5 jaN)))) jaN)) rfl)
 (A2 (D5 (a1S (a2W (a4U (jv 8) V3) (a1k (a4U (jv 9) V3))))
 (A4 (A9 M0))
 C1)
 (A2 (D5 (M1 (D4 K (A6 I (g.mono (by omega)) rfl (jaC (jv 1) (jaC (jv 8) (jaC (jv 3) (jaC (jv 9) (jaC (jv 5) (jaC (jv 7) (jaC (G5 (M2 K (jv 6) A5) (M2 K (jv 6) A5)) jaN))))))))))
 (A4 (A9 M0))
 C1)
 (A4 (A9 M0))))))))))),?_⟩
  refine⟨_,rfl,c,ns,rfl,hS,hl,λa b H1 _ _ d7 _=>?_⟩;have d4:(10:Int) ^ Int.toNat 12=1000000000000:=by decide
  try dsimp only[B0,List.set]
  refine⟨_,rfl,_,_,rfl,rfl,⟨by decide,by decide,by decide⟩,a,b,_,4,_,rfl,by decide,by decide,by decide,by decide,d7,by omega,λq1 qa ua ra m H2 e4 b1 J e7 c3 m1 m8 _ b9 e9=>?_⟩;rw[d4]at c3;refine⟨q1,[.ref qa,.int m],rfl,SqT.of e4,rfl,.ref qa,[.int m],rfl,.int m,[],rfl,rfl,?_⟩
  try dsimp only[B0,List.set]
  refine⟨_,rfl,_,_,rfl,rfl,⟨by decide,by decide,by decide⟩,a,b,_,4,_,rfl,by decide,by decide,by decide,by decide,b9,by omega,λq2 qb ub rb n H3 e5 e6 U e8 c4 n1 n8 _ d8 b5=>?_⟩;rw[d4]at c4;refine⟨q2,[.ref qb,.int n],rfl,SqT.of e5,rfl,.ref qb,[.int n],rfl,.int n,[],rfl,rfl,?_⟩;have c8:Tk H2 H3:=Tk.pot b9 b5;have b1:=c8 _ _ b1;have J:=c8.its J
  try dsimp only[B0,List.set]
  clear e4 e5 c8 e9 b5 d7 b9;refine⟨_,rfl,?_⟩
  delta O6
  refine⟨((3:Nat):Int),rfl,a6Q b1 λfa H4 s4 Y=>?_⟩;refine⟨_,rfl,?_⟩;refine⟨((3:Nat):Int),rfl,a6Q (s4 _ _ e6) λfb H5 s5 Z=>?_⟩;have b2:=s4.trans s5;have a2:=(J.same b2).take 3;have a3:=(U.same b2).take 3;have a5:=s5 _ _ Y;have c0:=d8.same b2;have M:∀r∈ra.take 3,r.length=m/\Bd (1000000000000+3) r:=λr g=>c3 r (bU g);have N:∀r∈rb.take 3,r.length=n/\Bd (1000000000000+3) r:=λr g=>c4 r (bU g);have f1:(ua.take 3).length<=3:=by rw[aP];omega
  have f2:(ub.take 3).length<=3:=by rw[aP];omega
  generalize ua.take 3=va at a5 a2 f1;generalize ub.take 3=vb at Z a3 f2;generalize ra.take 3=A at a2 M;generalize rb.take 3=B at a3 N;clear Y b1 e6 J U c3 c4 d8 b2 s4 s5 e7 e8;refine⟨_,_,rfl,?_⟩;dsimp only[B0,List.set];refine⟨_,rfl,_,rfl,a,b,_,m,_,rfl,rfl,m1,m8,c0,by omega,λa0 cs1 H6 O b3 d9 c1 b6=>?_⟩;refine⟨_,rfl,_,rfl,a,b,_,n,_,rfl,rfl,n1,n8,c1,by omega,λV cs2 H7 R b4 e0 c2 b7=>?_⟩;have c9:Tk H6 H7:=Tk.pot c1 b7;have b8:=(Tk.pot c0 b6).trans c9;refine⟨by show 2<=sizeLine;omega,λpl c6=>?_⟩;have e3:=Z8 c2 c6;have s8:=(Same.refl H7).upd (o:=.lst [.ref a0,.ref V]) c6;have el:upd H7 pl (.lst [.ref a0,.ref V]) pl=some (.lst [.ref a0,.ref V]):=A0;have b0:=c2.same s8;generalize upd H7 pl (.lst [.ref a0,.ref V])=H8 at s8 el b0;have X:=b8.trans (Tk.same s8);have O:=s8 _ _ (c9 _ _ O);have R:=s8 _ _ R;have Y:=X _ _ a5;have Z:=X _ _ Z;have J:=X.its a2;have U:=X.its a3;clear X b8 c9 b6 b7 c0 c1 c2 a5 a2 a3 s8 c6;dsimp only[B0,List.set];refine⟨_,rfl,_,rfl,_,rfl,_,rfl,_,rfl,a,b,fa,fb,va,vb,A,B,m,n,_,_,_,rfl,rfl,rfl,b0,by omega,Y,J,by omega,Z,U,by omega,m1,m8,n1,n8,λr g=>by rw[(M r g).1];omega,λr g=>by rw[(N r g).1];omega,λtr zr rss H9 f4 d6 c7 f0 a6=>?_⟩;have a1:Tk H8 H9:=Tk.pot b0 a6;have Y:=a1 _ _ Y;have Z:=a1 _ _ Z;have J:=a1.its J;have U:=a1.its U;have O:=a1 _ _ O;have R:=a1 _ _ R;have el:=a6 _ _ e3 el;clear a1 a6 b0;have YA:SyAt H9 fa a0 A cs1:=⟨⟨va,Y,J,by omega⟩,O,by omega,by omega,λr g=>⟨by rw[b3];exact(M r g).1,λz hz=>by have:=(M r g).2 z hz;omega⟩⟩;have YB:SyAt H9 fb V B cs2:=⟨⟨vb,Z,U,by omega⟩,R,by omega,by omega,λr g=>⟨by rw[b4];exact(N r g).1,λz hz=>by have:=(N r g).2 z hz;omega⟩⟩;dsimp only[B0,List.set];refine Z2 (λσ H'=>Ex2 λx y=>An4 (σ=[some (.ref c),some (.ref a),some (.ref fa),some (.int m),some (.ref fb),some (.int n),some (.ref pl),some (.ref tr),some x,some y]) (Same H9 H') ((x=.non∨∃q t p zs ws L W F k,x=.ref q/\Tld H' q t p zs ws L W F A cs1 k/\W.length<=60)) ((y=.non∨∃q t p zs ws L W F k,y=.ref q/\Tld H' q t p zs ws L W F B cs2 k/\W.length<=60))) ?fin λfin=>?_
  case fin =>
   rintro σ d3 ⟨x,y,rfl,v,hx,hy⟩;rcases hx with rfl|⟨q,t,p,zs,ws,L,W,F,k,rfl,D1,w1⟩
   .exact⟨_,rfl,rfl,_,rfl,G1 (kk _)⟩
   refine⟨_,rfl,rfl,_,rfl,D6 ?_⟩;rcases hy with rfl|⟨q',t',p',d2,d0,a8,W',F',k',rfl,D2,w2⟩
   .exact⟨_,rfl,rfl,_,rfl,G1 (kk _)⟩
   refine⟨_,rfl,rfl,_,rfl,D6 ?_⟩;have el:=v _ _ el;have e1:∀r∈A,r.length=m:=λr g=>(M r g).1;have e2:∀r∈B,r.length=n:=λr g=>(N r g).1;refine⟨_,rfl,_,rfl,_,rfl,_,rfl,_,rfl,_,rfl,_,rfl,pl,_,0,_,rfl,rfl,SqL.of el,rfl,_,rfl,pl,_,1,_,rfl,rfl,SqL.of el,rfl,a0,V,_,_,rfl,rfl,v _ _ O,v _ _ R,by rw[ae,ae];omega,λpc a9 C d5=>?_⟩;have a7:=v.trans C;rw[<-bz]at d5;have f3:zr.length<=20:=by rw[d6.1,c7.length_eq,b3d,<-J.1,<-U.1];omega
   refine⟨a,b,q,t,p,q',t',p',tr,pc,zs,ws,d2,d0,zr,L,W,F,a8,W',F',A,B,rss,cs1,cs2,m,n,_,k,k',_,_,rfl,rfl,rfl,f0.same a7,by omega,D1.same C,D2.same C,w1,w2,⟨a7 _ _ f4,d6.same a7,f3,λr g=>?_⟩,c7,d5,b3,b4,m1,m8,n1,n8,d9,e0,e1,e2,λf6=>⟨_,rfl,D6 (kk _)⟩⟩;have zero:∀z∈List.replicate m (0:Int),z=0:=λz hz=>(List.mem_replicate.mp hz).2;have d1:∀z∈List.replicate n (0:Int),z=0:=λz hz=>(List.mem_replicate.mp hz).2;rcases besL_mem.mp (c7.mem_iff.mp g)with⟨u,hu,rfl⟩|⟨u,hu,rfl⟩
   .refine⟨by rw[ak,aV,e1 u hu],λz hz=>?_⟩;rcases aA.mp hz with h|h
    .have:=(M u hu).2 z h;omega
    .rw[d1 z h];decide
   .refine⟨by rw[ak,aV,e2 u hu],λz hz=>?_⟩;rcases aA.mp hz with h|h
    .rw[zero z h];decide
    .have:=(N u hu).2 z h;omega
  refine⟨_,rfl,_,rfl,pl,_,0,_,rfl,rfl,SqL.of el,rfl,fa,a0,A,cs1,60,_,rfl,rfl,YA,by omega,by decide,λd3 v ho=>?_,λq t p zs ws L W F k d3 v D a4=>?_⟩
  .refine⟨_,rfl,_,rfl,pl,_,1,_,rfl,rfl,SqL.of (v _ _ el),rfl,fb,V,B,cs2,60,_,rfl,rfl,YB.same v,by omega,by decide,λa9 C ho=>⟨_,_,rfl,fin _ _ ⟨.non,.non,rfl,v.trans C,.inl rfl,.inl rfl⟩⟩,λq t p zs ws L W F k a9 C D a4=>⟨_,_,rfl,fin _ _ ⟨.non,.ref q,rfl,v.trans C,.inl rfl,.inr ⟨q,t,p,zs,ws,L,W,F,k,rfl,D,a4⟩⟩⟩⟩
  .refine⟨_,rfl,_,rfl,pl,_,1,_,rfl,rfl,SqL.of (v _ _ el),rfl,fb,V,B,cs2,60,_,rfl,rfl,YB.same v,by omega,by decide,λa9 C ho=>⟨_,_,rfl,fin _ _ ⟨.ref q,.non,rfl,v.trans C,.inr ⟨q,t,p,zs,ws,L,W,F,k,rfl,D.same C,a4⟩,.inl rfl⟩⟩,λq' t' p' d2 d0 a8 W' F' k' a9 C D' c5=>⟨_,_,rfl,fin _ _ ⟨.ref q,.ref q',rfl,v.trans C,.inr ⟨q,t,p,zs,ws,L,W,F,k,rfl,D.same C,a4⟩,.inr ⟨q',t',p',d2,d0,a8,W',F',k',rfl,D',c5⟩⟩⟩⟩
end
theorem b8D{α:Type}{us:List α}(h:us.length=7):∃a b c d e f g,us=[a,b,c,d,e,f,g]:=by
 cases us with
 |nil=>cases h
 |cons a us=>obtain⟨b,c,d,e,f,g,q⟩:=b8E (us:=us) (dR h);exact⟨a,b,c,d,e,f,g,by rw[q]⟩
open PySem.W
theorem all_mk{l:PySem.W.OpenLaw}{w:World}{K:PySem.W.Frag}{h:Heap}{mg:Str->Option Value}{fa:Addr}(X:K.In h)(G:h.Ns mainGlobals mg)(H1:mg "law"=some (.ref fa))
 (a1:nsIn K mainGlobals "below"=some (some (.ref f1))) (l1:FnL K f1 "below" "below" a2h o1 d1 s1 v1 x1 p1 n1 c1 t1) (y9:codeIn K c1 "below"=true) (k1:keepIn K (.ref f1)=true)
 (a2:nsIn K mainGlobals "nought"=some (some (.ref f2))) (l2:FnL K f2 "nought" "nought" a0J o2 d2 s2 v2 x2 p2 n2 c2 t2) (z0:codeIn K c2 "nought"=true) (k2:keepIn K (.ref f2)=true)
 (a3:nsIn K mainGlobals "unit"=some (some (.ref f3))) (l3:FnL K f3 "unit" "unit" a4K o3 d3 s3 v3 x3 p3 n3 c3 t3) (D1:codeIn K c3 "unit"=true) (k3:keepIn K (.ref f3)=true)
 (a4:nsIn K mainGlobals "least_of"=some (some (.ref f4))) (l4:FnL K f4 "least_of" "least_of" T3 o4 d4 s4 v4 x4 p4 n4 c4 t4) (D2:codeIn K c4 "least_of"=true) (k4:keepIn K (.ref f4)=true)
 (a5:nsIn K mainGlobals "above_any"=some (some (.ref f5))) (l5:FnL K f5 "above_any" "above_any" L8 o5 d5 s5 v5 x5 p5 n5 c5 t5) (D3:codeIn K c5 "above_any"=true) (k5:keepIn K (.ref f5)=true)
 (a6:nsIn K mainGlobals "risen"=some (some (.ref f6))) (l6:FnL K f6 "risen" "risen" a2e o6 d6 s6 v6 x6 p6 n6 c6 t6) (E1:codeIn K c6 "risen"=true) (k6:keepIn K (.ref f6)=true)
 (a7:nsIn K mainGlobals "beside"=some (some (.ref f7))) (l7:FnL K f7 "beside" "beside" a0L o7 d7 s7 v7 x7 p7 n7 c7 t7) (E2:codeIn K c7 "beside"=true) (k7:keepIn K (.ref f7)=true)
 (a8:nsIn K mainGlobals "dropped"=some (some (.ref f8))) (l8:FnL K f8 "dropped" "dropped" Z6 o8 d8 s8 v8 x8 p8 n8 c8 t8) (F0:codeIn K c8 "dropped"=true) (k8:keepIn K (.ref f8)=true)
 (a9:nsIn K mainGlobals "within"=some (some (.ref f9))) (l9:FnL K f9 "within" "within" a0H o9 d9 s9 v9 x9 p9 n9 c9 t9) (H0:codeIn K c9 "within"=true) (k9:keepIn K (.ref f9)=true)
 (u1:nsIn K mainGlobals "row_sum"=some (some (.ref f10))) (S8:FnL K f10 "row_sum" "row_sum" Z3 o10 d10 s10 v10 x10 p10 n10 c10 t10) (h8:codeIn K c10 "row_sum"=true) (H2:keepIn K (.ref f10)=true)
 (u2:nsIn K mainGlobals "sums"=some (some (.ref f11))) (T6:FnL K f11 "sums" "sums" a4L o11 d11 s11 v11 x11 p11 n11 c11 t11) (h9:codeIn K c11 "sums"=true) (H3:keepIn K (.ref f11)=true)
 (u3:nsIn K mainGlobals "is_answer"=some (some (.ref f12))) (U3:FnL K f12 "is_answer" "is_answer" P0 o12 d12 s12 v12 x12 p12 n12 c12 t12) (i0:codeIn K c12 "is_answer"=true) (H4:keepIn K (.ref f12)=true)
 (u4:nsIn K mainGlobals "pull_of"=some (some (.ref f13))) (W0:FnL K f13 "pull_of" "pull_of" Z4 o13 d13 s13 v13 x13 p13 n13 c13 t13) (i1:codeIn K c13 "pull_of"=true) (H5:keepIn K (.ref f13)=true)
 (u5:nsIn K mainGlobals "falls"=some (some (.ref f14))) (W1:FnL K f14 "falls" "falls" a2g o14 d14 s14 v14 x14 p14 n14 c14 t14) (i2:codeIn K c14 "falls"=true) (H6:keepIn K (.ref f14)=true)
 (u6:nsIn K mainGlobals "first_steps"=some (some (.ref f15))) (W2:FnL K f15 "first_steps" "first_steps" K6 o15 d15 s15 v15 x15 p15 n15 c15 t15) (i3:codeIn K c15 "first_steps"=true) (H7:keepIn K (.ref f15)=true)
 (u7:nsIn K mainGlobals "raised"=some (some (.ref f16))) (X3:FnL K f16 "raised" "raised" a0I o16 d16 s16 v16 x16 p16 n16 c16 t16) (i4:codeIn K c16 "raised"=true) (H8:keepIn K (.ref f16)=true)
 (u8:nsIn K mainGlobals "steps"=some (some (.ref f17))) (l17:FnL K f17 "steps" "steps" a2c o17 d17 s17 v17 x17 p17 n17 c17 t17) (i5:codeIn K c17 "steps"=true) (H9:keepIn K (.ref f17)=true)
 (u9:nsIn K mainGlobals "is_barred"=some (some (.ref f18))) (l18:FnL K f18 "is_barred" "is_barred" O9 o18 d18 s18 v18 x18 p18 n18 c18 t18) (i6:codeIn K c18 "is_barred"=true) (I1:keepIn K (.ref f18)=true)
 (v0:nsIn K mainGlobals "next_level"=some (some (.ref f19))) (l19:FnL K f19 "next_level" "next_level" M6 o19 d19 s19 v19 x19 p19 n19 c19 t19) (i7:codeIn K c19 "next_level"=true) (I2:keepIn K (.ref f19)=true)
 (w0:nsIn K mainGlobals "least"=some (some (.ref f20))) (l20:FnL K f20 "least" "least" a2f o20 d20 s20 v20 x20 p20 n20 c20 t20) (i8:codeIn K c20 "least"=true) (I3:keepIn K (.ref f20)=true)
 (w1:nsIn K mainGlobals "is_number"=some (some (.ref f21))) (l21:FnL K f21 "is_number" "is_number" O8 o21 d21 s21 v21 x21 p21 n21 c21 t21) (i9:codeIn K c21 "is_number"=true) (I4:keepIn K (.ref f21)=true)
 (w2:nsIn K mainGlobals "is_vector"=some (some (.ref f22))) (l22:FnL K f22 "is_vector" "is_vector" O7 o22 d22 s22 v22 x22 p22 n22 c22 t22) (j0:codeIn K c22 "is_vector"=true) (I5:keepIn K (.ref f22)=true)
 (w3:nsIn K mainGlobals "are_vectors"=some (some (.ref f23))) (l23:FnL K f23 "are_vectors" "are_vectors" K7 o23 d23 s23 v23 x23 p23 n23 c23 t23) (j1:codeIn K c23 "are_vectors"=true) (I6:keepIn K (.ref f23)=true)
 (w4:nsIn K mainGlobals "all_fit"=some (some (.ref f24))) (l24:FnL K f24 "all_fit" "all_fit" Z7 o24 d24 s24 v24 x24 p24 n24 c24 t24) (j2:codeIn K c24 "all_fit"=true) (I7:keepIn K (.ref f24)=true)
 (w5:nsIn K mainGlobals "are_least"=some (some (.ref f25))) (l25:FnL K f25 "are_least" "are_least" P5 o25 d25 s25 v25 x25 p25 n25 c25 t25) (j3:codeIn K c25 "are_least"=true) (I8:keepIn K (.ref f25)=true)
 (w6:nsIn K mainGlobals "is_met"=some (some (.ref f26))) (l26:FnL K f26 "is_met" "is_met" a0K o26 d26 s26 v26 x26 p26 n26 c26 t26) (j4:codeIn K c26 "is_met"=true) (J1:keepIn K (.ref f26)=true)
 (w7:nsIn K mainGlobals "goes_on"=some (some (.ref f27))) (l27:FnL K f27 "goes_on" "goes_on" Z5 o27 d27 s27 v27 x27 p27 n27 c27 t27) (j5:codeIn K c27 "goes_on"=true) (J2:keepIn K (.ref f27)=true)
 (w8:nsIn K mainGlobals "shows"=some (some (.ref f28))) (l28:FnL K f28 "shows" "shows" a2d o28 d28 s28 v28 x28 p28 n28 c28 t28) (j6:codeIn K c28 "shows"=true) (L0:keepIn K (.ref f28)=true)
 (w9:nsIn K mainGlobals "_law_pot"=some (some (.ref f29))) (l29:FnL K f29 "_law_pot" "_law_pot" T4 o29 d29 s29 v29 x29 p29 n29 c29 t29) (j7:codeIn K c29 "_law_pot"=true) (L1:keepIn K (.ref f29)=true)
 (x0:nsIn K mainGlobals "_law_take"=some (some (.ref f30))) (l30:FnL K f30 "_law_take" "_law_take" P6 o30 d30 s30 v30 x30 p30 n30 c30 t30) (j8:codeIn K c30 "_law_take"=true) (L2:keepIn K (.ref f30)=true)
 (y0:nsIn K mainGlobals "_law_number"=some (some (.ref f31))) (l31:FnL K f31 "_law_number" "_law_number" K9 o31 d31 s31 v31 x31 p31 n31 c31 t31) (j9:codeIn K c31 "_law_number"=true) (N4:keepIn K (.ref f31)=true)
 (y1:nsIn K mainGlobals "_law_system"=some (some (.ref f32))) (l32:FnL K f32 "_law_system" "_law_system" K8 o32 d32 s32 v32 x32 p32 n32 c32 t32) (k0:codeIn K c32 "_law_system"=true) (N6:keepIn K (.ref f32)=true)
 (y2:nsIn K mainGlobals "_law_same"=some (some (.ref f33))) (l33:FnL K f33 "_law_same" "_law_same" P7 o33 d33 s33 v33 x33 p33 n33 c33 t33) (l0:codeIn K c33 "_law_same"=true) (Q1:keepIn K (.ref f33)=true)
 (y3:nsIn K mainGlobals "_law_caps"=some (some (.ref f34))) (l34:FnL K f34 "_law_caps" "_law_caps" P8 o34 d34 s34 v34 x34 p34 n34 c34 t34) (m0:codeIn K c34 "_law_caps"=true) (Q2:keepIn K (.ref f34)=true)
 (y4:nsIn K mainGlobals "_law_least_of"=some (some (.ref f35))) (l35:FnL K f35 "_law_least_of" "_law_least_of" G4 o35 d35 s35 v35 x35 p35 n35 c35 t35) (m1:codeIn K c35 "_law_least_of"=true) (Q3:keepIn K (.ref f35)=true)
 (y5:nsIn K mainGlobals "_law_in_one"=some (some (.ref f36))) (l36:FnL K f36 "_law_in_one" "_law_in_one" L3 o36 d36 s36 v36 x36 p36 n36 c36 t36) (m2:codeIn K c36 "_law_in_one"=true) (Q4:keepIn K (.ref f36)=true)
 (y6:nsIn K mainGlobals "_law_without"=some (some (.ref f37))) (l37:FnL K f37 "_law_without" "_law_without" J0 o37 d37 s37 v37 x37 p37 n37 c37 t37) (m3:codeIn K c37 "_law_without"=true) (S1:keepIn K (.ref f37)=true)
 (y7:nsIn K mainGlobals "_law_right"=some (some (.ref f38))) (l38:FnL K f38 "_law_right" "_law_right" M7 o38 d38 s38 v38 x38 p38 n38 c38 t38) (m4:codeIn K c38 "_law_right"=true) (S2:keepIn K (.ref f38)=true)
 (y8:nsIn K mainGlobals "law"=some (some (.ref f39))) (l39:FnL K f39 "law" "law" a2B o39 d39 s39 v39 x39 p39 n39 c39 t39) (m5:codeIn K c39 "law"=true) (S4:keepIn K (.ref f39)=true)
  (z1:PySem.W.nsIn K mainGlobals "ValueError"=some none) (z2:PySem.W.nsIn K mainGlobals "abs"=some none) (z3:PySem.W.nsIn K mainGlobals "all"=some none) (z4:PySem.W.nsIn K mainGlobals "any"=some none) (z5:PySem.W.nsIn K mainGlobals "bool"=some none) (z6:PySem.W.nsIn K mainGlobals "dict"=some none) (z7:PySem.W.nsIn K mainGlobals "int"=some none) (z8:PySem.W.nsIn K mainGlobals "isinstance"=some none) (z9:PySem.W.nsIn K mainGlobals "len"=some none) (z10:PySem.W.nsIn K mainGlobals "list"=some none) (z11:PySem.W.nsIn K mainGlobals "range"=some none) (z12:PySem.W.nsIn K mainGlobals "set"=some none) (z13:PySem.W.nsIn K mainGlobals "sorted"=some none) (z14:PySem.W.nsIn K mainGlobals "sum"=some none) (z15:PySem.W.nsIn K mainGlobals "tuple"=some none) (z16:PySem.W.nsIn K mainGlobals "zip"=some none)
  {d:Addr}(e2:PySem.W.nsIn K mainGlobals "TooMany"=some (some (.ref d))) {a:Addr}(g8:PySem.W.nsIn K mainGlobals "Finder"=some (some (.ref a))) (q1:a7D K d []=true) {g3 g5:Str}{p:Addr}{e4 n e1:List Value}{e6 e3:Bool}{g6:List Str}{e0:Option Bool}{e5:Option Addr}{e8 e9 f0 g0 g1:Option Value}(g2:K.lookup d=some (excClassObj g3 g5 d p e4 n e6 g6 e1 e3 e0 e5 e8 e9 f0 g0 g1 "ValueError.__new__")) (g7:PySem.W.tailIn K [.type "ValueError",.type "Exception",.type "BaseException",.type "object"] n=true) (g4:PySem.W.nsOkIn K p=true) (e7:PySem.W.nsIn K p "__init__"=some none) (h7:n.contains (.type "BaseException")=true) (pg_Finder:PySem.W.plainGet K a Str.empty=true) (g9:PySem.W.hasDictIn K a=true) (h2:PySem.W.plainOver K a=true) (h3:PySem.W.findIn K (.ref a) "__setattr__"=some (some (.builtin "object.__setattr__"))) (h1:PySem.W.makesIn K a=true) (h0:PySem.W.keepIn K (.ref a)=true) (d0:PySem.W.findIn K (.ref a) "rows"=some none) (b9:PySem.W.findIn K (.ref a) "caps"=some none) (V:PySem.W.findIn K (.ref a) "begun"=some none) (c0:PySem.W.findIn K (.ref a) "here"=some none) (W:PySem.W.findIn K (.ref a) "found"=some none) (A:PySem.W.findIn K (.ref a) "walked"=some none) (q:findIn K (.ref a) "__init__"=some (some (.ref f_Finder___init__))) (t:isFn K (.ref f_Finder___init__)=true) (x:FnL K f_Finder___init__ "__init__" "Finder.__init__" E7 o_Finder___init__ d_Finder___init__ s0_Finder___init__ v_Finder___init__ x_Finder___init__ p_Finder___init__ n0_Finder___init__ c0_Finder___init__ t_Finder___init__) (r:codeIn K c0_Finder___init__ "Finder.__init__"=true) (u:keepIn K (.ref f_Finder___init__)=true) (a0:findIn K (.ref a) "step"=some (some (.ref f_Finder_step))) (b3:isFn K (.ref f_Finder_step)=true) (b7:FnL K f_Finder_step "step" "Finder.step" a0p o_Finder_step d_Finder_step s0_Finder_step v_Finder_step x_Finder_step p_Finder_step n0_Finder_step c0_Finder_step t_Finder_step) (b1:codeIn K c0_Finder_step "Finder.step"=true) (b5:keepIn K (.ref f_Finder_step)=true) (g:findIn K (.ref a) "step_within"=some (some (.ref f_Finder_step_within))) (j:isFn K (.ref f_Finder_step_within)=true) (m:FnL K f_Finder_step_within "step_within" "Finder.step_within" C7 o_Finder_step_within d_Finder_step_within s0_Finder_step_within v_Finder_step_within x_Finder_step_within p_Finder_step_within n0_Finder_step_within c0_Finder_step_within t_Finder_step_within) (i:codeIn K c0_Finder_step_within "Finder.step_within"=true) (k:keepIn K (.ref f_Finder_step_within)=true) (D:findIn K (.ref a) "level"=some (some (.ref f_Finder_level))) (L:isFn K (.ref f_Finder_level)=true) (S:FnL K f_Finder_level "level" "Finder.level" W7 o_Finder_level d_Finder_level s0_Finder_level v_Finder_level x_Finder_level p_Finder_level n0_Finder_level c0_Finder_level t_Finder_level) (H:codeIn K c0_Finder_level "Finder.level"=true) (O:keepIn K (.ref f_Finder_level)=true) (b0:findIn K (.ref a) "told"=some (some (.ref f_Finder_told))) (b4:isFn K (.ref f_Finder_told)=true) (b8:FnL K f_Finder_told "told" "Finder.told" L4 o_Finder_told d_Finder_told s0_Finder_told v_Finder_told x_Finder_told p_Finder_told n0_Finder_told c0_Finder_told t_Finder_told) (b2:codeIn K c0_Finder_told "Finder.told"=true) (b6:keepIn K (.ref f_Finder_told)=true) (E:findIn K (.ref a) "paper"=some (some (.ref f_Finder_paper))) (M:isFn K (.ref f_Finder_paper)=true) (U:FnL K f_Finder_paper "paper" "Finder.paper" J3 o_Finder_paper d_Finder_paper s0_Finder_paper v_Finder_paper x_Finder_paper p_Finder_paper n0_Finder_paper c0_Finder_paper t_Finder_paper) (I:codeIn K c0_Finder_paper "Finder.paper"=true) (Q:keepIn K (.ref f_Finder_paper)=true) (C:findIn K (.ref a) "ended"=some (some (.ref f_Finder_ended))) (J:isFn K (.ref f_Finder_ended)=true) (R:FnL K f_Finder_ended "ended" "Finder.ended" J4 o_Finder_ended d_Finder_ended s0_Finder_ended v_Finder_ended x_Finder_ended p_Finder_ended n0_Finder_ended c0_Finder_ended t_Finder_ended) (F:codeIn K c0_Finder_ended "Finder.ended"=true) (N:keepIn K (.ref f_Finder_ended)=true) :
  ∃fd:FuncData,(∀(s:Shared) (v:Value),BindsTo s fd ⟨[v],[]⟩ [("_law_script",v)])/\∀base:Heap,K.In base->base.Ns mainGlobals mg->FnOk l.prog w K mg base CX0 10 fa fd ["_law_script"] (a8i K):=by
 have e:=H1.symm.trans (PySem.W.mg_of X G y8);cases e;have T:Tx mg:=⟨PySem.W.mg_none_of X G z1,PySem.W.mg_none_of X G z2,PySem.W.mg_none_of X G z3,PySem.W.mg_none_of X G z4,PySem.W.mg_none_of X G z5,PySem.W.mg_none_of X G z6,PySem.W.mg_none_of X G z7,PySem.W.mg_none_of X G z8,PySem.W.mg_none_of X G z9,PySem.W.mg_none_of X G z10,PySem.W.mg_none_of X G z11,PySem.W.mg_none_of X G z12,PySem.W.mg_none_of X G z13,PySem.W.mg_none_of X G z14,PySem.W.mg_none_of X G z15,PySem.W.mg_none_of X G z16⟩;have F1:FunAt K mg "below" a2h ["one","other"]:=B6 X G a1 l1 y9 k1 λ_ _ _ _ _ _ c b=>by obtain⟨_,_,rfl⟩:=S3 b;rfl
 have F2:FunAt K mg "nought" a0J ["width"]:=B6 X G a2 l2 z0 k2 λ_ _ _ _ _ _ c b=>by obtain⟨_,rfl⟩:=a1R b;rfl
 have F3:FunAt K mg "unit" a4K ["width","j"]:=B6 X G a3 l3 D1 k3 λ_ _ _ _ _ _ c b=>by obtain⟨_,_,rfl⟩:=S3 b;rfl
 have F4:FunAt K mg "least_of" T3 ["some"]:=B6 X G a4 l4 D2 k4 λ_ _ _ _ _ _ c b=>by obtain⟨_,rfl⟩:=a1R b;rfl
 have F5:FunAt K mg "above_any" L8 ["some","one"]:=B6 X G a5 l5 D3 k5 λ_ _ _ _ _ _ c b=>by obtain⟨_,_,rfl⟩:=S3 b;rfl
 have F6:FunAt K mg "risen" a2e ["some"]:=B6 X G a6 l6 E1 k6 λ_ _ _ _ _ _ c b=>by obtain⟨_,rfl⟩:=a1R b;rfl
 have F7:FunAt K mg "beside" a0L ["one","width","other","more"]:=B6 X G a7 l7 E2 k7 λ_ _ _ _ _ _ c b=>by obtain⟨_,_,_,_,rfl⟩:=b6U b;rfl
 have F8:FunAt K mg "dropped" Z6 ["told","j"]:=B6 X G a8 l8 F0 k8 λ_ _ _ _ _ _ c b=>by obtain⟨_,_,rfl⟩:=S3 b;rfl
 have F9:FunAt K mg "within" a0H ["caps","one"]:=B6 X G a9 l9 H0 k9 λ_ _ _ _ _ _ c b=>by obtain⟨_,_,rfl⟩:=S3 b;rfl
 have m6:FunAt K mg "row_sum" Z3 ["row","one"]:=B6 X G u1 S8 h8 H2 λ_ _ _ _ _ _ c b=>by obtain⟨_,_,rfl⟩:=S3 b;rfl
 have m7:FunAt K mg "sums" a4L ["rows","one"]:=B6 X G u2 T6 h9 H3 λ_ _ _ _ _ _ c b=>by obtain⟨_,_,rfl⟩:=S3 b;rfl
 have m8:FunAt K mg "is_answer" P0 ["rows","one"]:=B6 X G u3 U3 i0 H4 λ_ _ _ _ _ _ c b=>by obtain⟨_,_,rfl⟩:=S3 b;rfl
 have m9:FunAt K mg "pull_of" Z4 ["rows","totals","j"]:=B6 X G u4 W0 i1 H5 λ_ _ _ _ _ _ c b=>by obtain⟨_,_,_,rfl⟩:=a3C b;rfl
 have n0:FunAt K mg "falls" a2g ["rows","one"]:=B6 X G u5 W1 i2 H6 λ_ _ _ _ _ _ c b=>by obtain⟨_,_,rfl⟩:=S3 b;rfl
 have o0:FunAt K mg "first_steps" K6 ["caps"]:=B6 X G u6 W2 i3 H7 λ_ _ _ _ _ _ c b=>by obtain⟨_,rfl⟩:=a1R b;rfl
 have p0:FunAt K mg "raised" a0I ["one","j"]:=B6 X G u7 X3 i4 H8 λ_ _ _ _ _ _ c b=>by obtain⟨_,_,rfl⟩:=S3 b;rfl
 have q0:FunAt K mg "steps" a2c ["rows","caps","one"]:=B6 X G u8 l17 i5 H9 λ_ _ _ _ _ _ c b=>by obtain⟨_,_,_,rfl⟩:=a3C b;rfl
 have q2:FunAt K mg "is_barred" O9 ["found","one","j"]:=B6 X G u9 l18 i6 I1 λ_ _ _ _ _ _ c b=>by obtain⟨_,_,_,rfl⟩:=a3C b;rfl
 have q3:FunAt K mg "next_level" M6 ["rows","caps","found","level","room"]:=B6 X G v0 l19 i7 I2 λ_ _ _ _ _ _ c b=>by obtain⟨_,_,_,_,_,rfl⟩:=b4E b;rfl
 have q4:FunAt K mg "least" a2f ["rows","caps","most"]:=B6 X G w0 l20 i8 I3 λ_ _ _ _ _ _ c b=>by obtain⟨_,_,_,rfl⟩:=a3C b;rfl
 have q5:FunAt K mg "is_number" O8 ["value"]:=B6 X G w1 l21 i9 I4 λ_ _ _ _ _ _ c b=>by obtain⟨_,rfl⟩:=a1R b;rfl
 have q6:FunAt K mg "is_vector" O7 ["value","width"]:=B6 X G w2 l22 j0 I5 λ_ _ _ _ _ _ c b=>by obtain⟨_,_,rfl⟩:=S3 b;rfl
 have q7:FunAt K mg "are_vectors" K7 ["value","width"]:=B6 X G w3 l23 j1 I6 λ_ _ _ _ _ _ c b=>by obtain⟨_,_,rfl⟩:=S3 b;rfl
 have q8:FunAt K mg "all_fit" Z7 ["caps","some"]:=B6 X G w4 l24 j2 I7 λ_ _ _ _ _ _ c b=>by obtain⟨_,_,rfl⟩:=S3 b;rfl
 have q9:FunAt K mg "are_least" P5 ["rows","told"]:=B6 X G w5 l25 j3 I8 λ_ _ _ _ _ _ c b=>by obtain⟨_,_,rfl⟩:=S3 b;rfl
 have r0:FunAt K mg "is_met" a0K ["told","listed","one"]:=B6 X G w6 l26 j4 J1 λ_ _ _ _ _ _ c b=>by obtain⟨_,_,_,rfl⟩:=a3C b;rfl
 have r1:FunAt K mg "goes_on" Z5 ["rows","caps","told","listed","one"]:=B6 X G w7 l27 j5 J2 λ_ _ _ _ _ _ c b=>by obtain⟨_,_,_,_,_,rfl⟩:=b4E b;rfl
 have r2:FunAt K mg "shows" a2d ["rows","caps","told","paper"]:=B6 X G w8 l28 j6 L0 λ_ _ _ _ _ _ c b=>by obtain⟨_,_,_,_,rfl⟩:=b6U b;rfl
 have r3:FunAt K mg "_law_pot" T4 ["_law_script"]:=B6 X G w9 l29 j7 L1 λ_ _ _ _ _ _ c b=>by obtain⟨_,rfl⟩:=a1R b;rfl
 have r4:FunAt K mg "_law_take" P6 ["_law_pot_here","_law_many"]:=B6 X G x0 l30 j8 L2 λ_ _ _ _ _ _ c b=>by obtain⟨_,_,rfl⟩:=S3 b;rfl
 have r5:FunAt K mg "_law_number" K9 ["_law_pot_here","_law_far"]:=B6 X G y0 l31 j9 N4 λ_ _ _ _ _ _ c b=>by obtain⟨_,_,rfl⟩:=S3 b;rfl
 have r6:FunAt K mg "_law_system" K8 ["_law_pot_here","_law_wide","_law_far"]:=B6 X G y1 l32 k0 N6 λ_ _ _ _ _ _ c b=>by obtain⟨_,_,_,rfl⟩:=a3C b;rfl
 have r7:FunAt K mg "_law_same" P7 ["_law_found","_law_due"]:=B6 X G y2 l33 l0 Q1 λ_ _ _ _ _ _ c b=>by obtain⟨_,_,rfl⟩:=S3 b;rfl
 have r8:FunAt K mg "_law_caps" P8 ["_law_pot_here","_law_width"]:=B6 X G y3 l34 m0 Q2 λ_ _ _ _ _ _ c b=>by obtain⟨_,_,rfl⟩:=S3 b;rfl
 have r9:FunAt K mg "_law_least_of" G4 ["_law_rows","_law_caps_here","_law_most"]:=B6 X G y4 l35 m1 Q3 λ_ _ _ _ _ _ c b=>by obtain⟨_,_,_,rfl⟩:=a3C b;rfl
 have s0:FunAt K mg "_law_in_one" L3 ["_law_pot_here","_law_first","_law_width","_law_second","_law_more"]:=B6 X G y5 l36 m2 Q4 λ_ _ _ _ _ _ c b=>by obtain⟨_,_,_,_,_,rfl⟩:=b4E b;rfl
 have t0:FunAt K mg "_law_without" J0 ["_law_told","_law_places","_law_at"]:=B6 X G y6 l37 m3 S1 λ_ _ _ _ _ _ c b=>by obtain⟨_,_,_,rfl⟩:=a3C b;rfl
 have u0:FunAt K mg "_law_right" M7 ["_law_pot_here","_law_one","_law_width","_law_other","_law_more","_law_rows","_law_caps_here"]:=B6 X G y7 l38 m4 S2 λ_ _ _ _ _ _ c b=>by obtain⟨_,_,_,_,_,_,_,rfl⟩:=b8D b;rfl
 refine⟨fnOf "law" "law" (Q6 a2B) (E8 a2B) (A1 a2B) .none v39 x39 p39 n39 c39 t39,λs v=>.of_eq rfl,λbase XB GB=>?_⟩;have Z:=PySem.W.mg_of X G e2;have h5:=PySem.W.mg_of X G g8;have Y:Cls K a:=⟨pg_Finder,g9,h2,h3⟩;have o:MethAt K a "__init__" "Finder.__init__" E7 ["self","rows","caps"]:=a2O q t x r u λ_ _ _ _ _ _ c b=>by obtain⟨_,_,_,rfl⟩:=a3C b;rfl
 have h6:MethAt K a "step" "Finder.step" a0p ["self"]:=a2O a0 b3 b7 b1 b5 λ_ _ _ _ _ _ c b=>by obtain⟨_,rfl⟩:=a1R b;rfl
 have f:MethAt K a "step_within" "Finder.step_within" C7 ["self","room"]:=a2O g j m i k λ_ _ _ _ _ _ c b=>by obtain⟨_,_,rfl⟩:=S3 b;rfl
 have h4:MethAt K a "level" "Finder.level" W7 ["self"]:=a2O D L S H O λ_ _ _ _ _ _ c b=>by obtain⟨_,rfl⟩:=a1R b;rfl
 have B:MethAt K a "told" "Finder.told" L4 ["self"]:=a2O b0 b4 b8 b2 b6 λ_ _ _ _ _ _ c b=>by obtain⟨_,rfl⟩:=a1R b;rfl
 have z:MethAt K a "paper" "Finder.paper" J3 ["self"]:=a2O E M U I Q λ_ _ _ _ _ _ c b=>by obtain⟨_,rfl⟩:=a1R b;rfl
 have y:MethAt K a "ended" "Finder.ended" J4 ["self"]:=a2O C J R F N λ_ _ _ _ _ _ c b=>by obtain⟨_,rfl⟩:=a1R b;rfl
 have FL:=a3g (st:=a2B) l39 m5 S4;have RS:=a7i (base:=base) (P:=l.prog) (w:=w) m6 T;have SU:=b4z m7 T RS;have IA:=a4R m8 T SU;have FA:=b2a n0 T (a7j m9 T) SU;have BE:=b2c (base:=base) (P:=l.prog) (w:=w) F1 T;have ST:=b1T q0 T FA (a9I p0);have NX:=a3x q3 T ST (a4Q q2 T BE);have FS:=a2J (base:=base) (P:=l.prog) (w:=w) o0 T (b4w F3 T) (a3U F9 T);have UF:FiTx K a:=⟨Y,d0,b9,V,c0,W,A⟩;have MI:=(b1Z (base:=base) (P:=l.prog) (w:=w) (mg:=mg) o UF).make h5 h1 h0;have MS:=b1S f UF T NX FS IA;have ME:=b2b (base:=base) (P:=l.prog) (w:=w) y UF T;have MT:=b4x (base:=base) (P:=l.prog) (w:=w) B UF T;have MP:=b1X (base:=base) (P:=l.prog) (w:=w) z UF T;have LE:=b1Y q4 T UF Y MI MS ME MT MP (b6E XB Z g2 g7 g4 e7);have TK:=b4y (base:=base) (P:=l.prog) (w:=w) r4 T;have SY:=b6P r6 T TK (a9J r5 T TK);have SM:=a8w (base:=base) (P:=l.prog) (w:=w) r7 T 3;have AT:=a3A F5 T BE;have LO:=a5V F4 T (a3B F5 T BE);have AV:=a1O q7 T (a3y q6 T (a3z (base:=base) (P:=l.prog) (w:=w) q5 T));have AF:=a7m q8 T (a3U (base:=base) (P:=l.prog) (w:=w) F9 T);have AL:=a4S q9 T LO IA;have MM:=a9L r0 T AT;have GO:=a7k r1 T AT IA ST MM;have SH:=b1U r2 T AV AF AL MM FS GO;have RI:=b1V (base:=base) (P:=l.prog) (w:=w) F6 T;have DR:=a7l F8 T RI;have BS:=a9N F7 T (a9K (base:=base) (P:=l.prog) (w:=w) F2) RI;have LL:=b6R r9 T LE Z (b4W q1);have WO:=a7h t0 T DR;have RT:=b1W u0 T TK BS LL SH WO SM;exact b6S FL T (b6Q r3 T) SY (b4A r8 T TK) (a9M s0 T TK) LL RT
end K39
namespace PySem.W.Fast
theorem tw8282073888610648733:True:=⟨⟩
theorem tw2419526650943431865:True:=⟨⟩
theorem tw1058777330797663979:True:=⟨⟩
theorem tw17686245651504412020:True:=⟨⟩
theorem tw6979375883041434089:True:=⟨⟩
theorem tw15678972413082136406:True:=⟨⟩
theorem tw168091104616675782:True:=⟨⟩
theorem tw7368788823297069188:True:=⟨⟩
theorem tw15623886523484216404:True:=⟨⟩
theorem tw10124369000237591955:True:=⟨⟩
theorem tw2775618798582100996:True:=⟨⟩
theorem tw17920882436099349863:True:=⟨⟩
theorem tw7893479932655666128:True:=⟨⟩
theorem tw942124897740858362:True:=⟨⟩
theorem tw5611302276432593345:True:=⟨⟩
theorem tw13612903945838021863:True:=⟨⟩
theorem tw11845823741695581703:True:=⟨⟩
theorem tw10777331423969768717:True:=⟨⟩
theorem tw1273315671799973660:True:=⟨⟩
theorem tw5318455257693578741:True:=⟨⟩
theorem tw5430956061294284460:True:=⟨⟩
theorem tw5897750188192819799:True:=⟨⟩
theorem tw18189091792475358234:True:=⟨⟩
theorem tw14034090582562258889:True:=⟨⟩
theorem tw10934681873380482077:True:=⟨⟩
theorem tw4218339745928021994:True:=⟨⟩
theorem tw18426259722225664163:True:=⟨⟩
theorem tw10737955578034989558:True:=⟨⟩
theorem tw2312990960800066699:True:=⟨⟩
theorem tw17665915541825021402:True:=⟨⟩
theorem tw7687096468609635600:True:=⟨⟩
theorem tw11788867819624928855:True:=⟨⟩
theorem tw3450779992220817205:True:=⟨⟩
theorem tw5280735271067733189:True:=⟨⟩
theorem tw14971246990016875437:True:=⟨⟩
theorem tw7068103883926198939:True:=⟨⟩
theorem tw10801262218971323811:True:=⟨⟩
theorem tw18355378379893404570:True:=⟨⟩
theorem tw6606153285637689551:True:=⟨⟩
theorem tw6988976146224203337:True:=⟨⟩
theorem tw10969488086544262662:True:=⟨⟩
theorem tw4566200916526366593:True:=⟨⟩
theorem tw6632082011247670392:True:=⟨⟩
theorem tw9884388986262109886:True:=⟨⟩
theorem tw8423565877388688676:True:=⟨⟩
theorem tw11644426249688300047:True:=⟨⟩
theorem tw16284618371916071317:True:=⟨⟩
theorem tw4264877163146654420:True:=⟨⟩
theorem tw11131618782418475077:True:=⟨⟩
theorem tw12417376026570878263:True:=⟨⟩
theorem tw15285327972390263682:True:=⟨⟩
theorem tw17101739226031034403:True:=⟨⟩
theorem tw7257662365741557709:True:=⟨⟩
theorem tw8481393076647310289:True:=⟨⟩
theorem tw4379216511079971876:True:=⟨⟩
theorem tw15176365747151608516:True:=⟨⟩
theorem tw15443214302795761797:True:=⟨⟩
theorem tw6510400397888984324:True:=⟨⟩
theorem tw3837469681913858153:True:=⟨⟩
theorem tw13980383943408389072:True:=⟨⟩
theorem tw9076063030190020868:True:=⟨⟩
theorem tw762553129963874652:True:=⟨⟩
theorem tw9687592188165073453:True:=⟨⟩
theorem tw904662772215040144:True:=⟨⟩
theorem tw1878058926431910305:True:=⟨⟩
theorem tw4605689884456094685:True:=⟨⟩
theorem tw12690004972726282959:True:=⟨⟩
theorem tw8900013715636972676:True:=⟨⟩
theorem tw14204799975292880853:True:=⟨⟩
theorem tw13570957199155339402:True:=⟨⟩
theorem tw6288805505883628278:True:=⟨⟩
theorem tw11151043600442189509:True:=⟨⟩
theorem tw10822218642995062597:True:=⟨⟩
theorem tw9568011241098543501:True:=⟨⟩
theorem tw7604216774692673389:True:=⟨⟩
theorem tw12563222370482191589:True:=⟨⟩
theorem tw13404078525123522134:True:=⟨⟩
theorem tw6347949927875320073:True:=⟨⟩
theorem tw340913436787317297:True:=⟨⟩
theorem tw9506418540488148577:True:=⟨⟩
theorem tw16729111127124632832:True:=⟨⟩
theorem tw17835299176391267959:True:=⟨⟩
theorem tw10698177907973793840:True:=⟨⟩
theorem tw15160159284287606754:True:=⟨⟩
theorem tw1606971889605639477:True:=⟨⟩
theorem tw16091769417642505960:True:=⟨⟩
theorem tw12900500420811356920:True:=⟨⟩
theorem tw2552863620129879184:True:=⟨⟩
theorem tw14499080521197899657:True:=⟨⟩
theorem tw16394201052167968556:True:=⟨⟩
theorem tw10754093551456964391:True:=⟨⟩
theorem tw2561391701313611376:True:=⟨⟩
theorem tw8050940780269222278:True:=⟨⟩
theorem tw4804980211713137637:True:=⟨⟩
theorem tw14016556269728858372:True:=⟨⟩
theorem tw5335687104292471400:True:=⟨⟩
theorem tw12569674787756727941:True:=⟨⟩
theorem tw4886637671510801289:True:=⟨⟩
theorem tw11862131566799881572:True:=⟨⟩
end PySem.W.Fast
open PySem PySem.W PyProof.Rows
set_option maxRecDepth 100000 in
set_option maxHeartbeats 0 in
theorem PySem.Challenge.cw_leastlays_k39_whole_two_systems_holds : PySem.Challenge.rw_leastlays_k39_whole_two_systems.Holds := by
 w_on;o_law;k_head;(case hw=>w_witness2)
 k_fill
 refine L2.law_walk (l:=PySem.Challenge.rw_leastlays_k39_whole_two_systems) 10 rfl rfl ⟨rfl,by decide,by decide⟩ (λw h Y=>PySem.W.kIn_of Y) ?F
 case F =>
  intro w mg fa h KX G hmg
  refine' K39.all_mk KX G hmg ?a1 ?l1 ?c_1 ?k1 ?a2 ?l2 ?c_2 ?k2 ?a3 ?l3 ?c_3 ?k3 ?a4 ?l4 ?c_4 ?k4 ?a5 ?l5 ?c_5 ?k5 ?a6 ?l6 ?c_6 ?k6 ?a7 ?l7 ?c_7 ?k7 ?a8 ?l8 ?c_8 ?k8 ?a9 ?l9 ?c_9 ?k9 ?a10 ?l10 ?c_10 ?k10 ?a11 ?l11 ?c_11 ?k11 ?a12 ?l12 ?c_12 ?k12 ?a13 ?l13 ?c_13 ?k13 ?a14 ?l14 ?c_14 ?k14 ?a15 ?l15 ?c_15 ?k15 ?a16 ?l16 ?c_16 ?k16 ?a17 ?l17 ?c_17 ?k17 ?a18 ?l18 ?c_18 ?k18 ?a19 ?l19 ?c_19 ?k19 ?a20 ?l20 ?c_20 ?k20 ?a21 ?l21 ?c_21 ?k21 ?a22 ?l22 ?c_22 ?k22 ?a23 ?l23 ?c_23 ?k23 ?a24 ?l24 ?c_24 ?k24 ?a25 ?l25 ?c_25 ?k25 ?a26 ?l26 ?c_26 ?k26 ?a27 ?l27 ?c_27 ?k27 ?a28 ?l28 ?c_28 ?k28 ?a29 ?l29 ?c_29 ?k29 ?a30 ?l30 ?c_30 ?k30 ?a31 ?l31 ?c_31 ?k31 ?a32 ?l32 ?c_32 ?k32 ?a33 ?l33 ?c_33 ?k33 ?a34 ?l34 ?c_34 ?k34 ?a35 ?l35 ?c_35 ?k35 ?a36 ?l36 ?c_36 ?k36 ?a37 ?l37 ?c_37 ?k37 ?a38 ?l38 ?c_38 ?k38 ?a39 ?l39 ?c_39 ?k39 ?z1 ?z2 ?z3 ?z4 ?z5 ?z6 ?z7 ?z8 ?z9 ?z10 ?z11 ?z12 ?z13 ?z14 ?z15 ?z16 ?aD_TooMany ?aD_Finder ?q1 ?lx_TooMany ?tx_TooMany ?ok_TooMany ?in_TooMany ?be_TooMany ?pg_Finder ?hd_Finder ?po_Finder ?sa_Finder ?mk_Finder ?kc_Finder ?n_Finder_rows ?n_Finder_caps ?n_Finder_begun ?n_Finder_here ?n_Finder_found ?n_Finder_walked ?a_Finder___init__ ?i_Finder___init__ ?l_Finder___init__ ?c_Finder___init__ ?k_Finder___init__ ?a_Finder_step ?i_Finder_step ?l_Finder_step ?c_Finder_step ?k_Finder_step ?a_Finder_step_within ?i_Finder_step_within ?l_Finder_step_within ?c_Finder_step_within ?k_Finder_step_within ?a_Finder_level ?i_Finder_level ?l_Finder_level ?c_Finder_level ?k_Finder_level ?a_Finder_told ?i_Finder_told ?l_Finder_told ?c_Finder_told ?k_Finder_told ?a_Finder_paper ?i_Finder_paper ?l_Finder_paper ?c_Finder_paper ?k_Finder_paper ?a_Finder_ended ?i_Finder_ended ?l_Finder_ended ?c_Finder_ended ?k_Finder_ended
  (case a1|l1|c_1|k1|a2|l2|c_2|k2|a3|l3|c_3|k3|a4|l4|c_4|k4|a5|l5|c_5|k5|a6|l6|c_6|k6|a7|l7|c_7|k7|a8|l8|c_8|k8|a9|l9|c_9|k9|a10|l10|c_10|k10|a11|l11|c_11|k11|a12|l12|c_12|k12|a13|l13|c_13|k13|a14|l14|c_14|k14|a15|l15|c_15|k15|a16|l16|c_16|k16|a17|l17|c_17|k17|a18|l18|c_18|k18|a19|l19|c_19|k19|a20|l20|c_20|k20|a21|l21|c_21|k21|a22|l22|c_22|k22|a23|l23|c_23|k23|a24|l24|c_24|k24|a25|l25|c_25|k25|a26|l26|c_26|k26|a27|l27|c_27|k27|a28|l28|c_28|k28|a29|l29|c_29|k29|a30|l30|c_30|k30|a31|l31|c_31|k31|a32|l32|c_32|k32|a33|l33|c_33|k33|a34|l34|c_34|k34|a35|l35|c_35|k35|a36|l36|c_36|k36|a37|l37|c_37|k37|a38|l38|c_38|k38|a39|l39|c_39|k39|z1|z2|z3|z4|z5|z6|z7|z8|z9|z10|z11|z12|z13|z14|z15|z16|aD_TooMany|aD_Finder=>(try unfold L2.FnL);k_is)
  (case q1|lx_TooMany|tx_TooMany|ok_TooMany|in_TooMany|be_TooMany=>first|k_is|kernel_rfl|rfl)
  (case pg_Finder|hd_Finder|po_Finder|sa_Finder|mk_Finder|kc_Finder|n_Finder_rows|n_Finder_caps|n_Finder_begun|n_Finder_here|n_Finder_found|n_Finder_walked|a_Finder___init__|i_Finder___init__|l_Finder___init__|c_Finder___init__|k_Finder___init__|a_Finder_step|i_Finder_step|l_Finder_step|c_Finder_step|k_Finder_step|a_Finder_step_within|i_Finder_step_within|l_Finder_step_within|c_Finder_step_within|k_Finder_step_within|a_Finder_level|i_Finder_level|l_Finder_level|c_Finder_level|k_Finder_level|a_Finder_told|i_Finder_told|l_Finder_told|c_Finder_told|k_Finder_told|a_Finder_paper|i_Finder_paper|l_Finder_paper|c_Finder_paper|k_Finder_paper|a_Finder_ended|i_Finder_ended|l_Finder_ended|c_Finder_ended|k_Finder_ended=>(try unfold L2.FnL);k_is)
#print axioms PySem.Challenge.cw_leastlays_k39_whole_two_systems_holds
