import PyProof.Rows.All
import Wide.All
import OpenK.AllK
import Wide.FinOn
import Lean
import PyProof.EqAt
import PyProof.EqKinds
import PyProof.TupleCall
import PyProof.ZipIter
import PyProof.ExcArgsOwn
import PyProof.ExcAttrAll.ValueError
import KE.KSortTup
import PyProof.AutoSeq1
import PySem.SetTable
import PyProof.SetNew
import PyProof.TupleKey
import PyProof.DictRoadsH
import PyProof.DictKinds
import PyProof.IsRules
import PyProof.Rows.SetFrom
import PyProof.WalksMore
import KE.KDictSum
import KE.KDictOf
import PyProof.AttrMissHeap
import PyProof.TupleOfSeq
import PyProof.MeetsStr
import PyProof.MeetsStr2
import PyProof.StrLawsJoin
import PyProof.StrLawsChain
import PyProof.Rows.StrItems
import KE.KIntText
import PyProof.Rows.ReprOcc
import PyProof.StrWalks
import PyProof.CallType
import PyProof.StrOps
import PyProof.StrLawsIn
import PySem.Challenge.RW_leastlays_k35_by_rows
set_option compiler.extract_closed false
set_option bootstrap.genMatcherCode false
set_option genSizeOf false
set_option Elab.async false
set_option linter.all false
set_option maxRecDepth 100000
set_option maxHeartbeats 4000000
def aa:=@PySem.wpAny_bind
def ae:=@PySem.wpAny_pure
def ag:=@PySem.Heap.get?_push_of_some
def ai:=@List.getElem?_eq_getElem
def aj:=@List.length_map
def ak:=@List.mem_cons_of_mem
def ao:=@List.getD_eq_getElem?_getD
def aq:=@Nat.le_refl
def ar:=@if_neg
def au:=@List.mem_cons_self
def av:=@Array.getElem?_toList
def ax:=@Array.length_toList
def ay:=@if_pos
def az:=@List.length_append
def aA:=@PyProof.Rows.wpS_bind
def aB:=@List.mem_singleton
def aC:=@List.getElem?_eq_some_iff
def aD:=@List.size_toArray
def aE:=@Nat.lt_of_lt_of_le
def aF:=@List.append_assoc
def aG:=@PySem.Heap.lt_size
def aH:=@List.mem_of_getElem?
def aI:=@List.mem_cons
def aJ:=@PySem.Heap.get?_push_size
def aK:=@List.mem_append
def aL:=@PyProof.Rows.wpS_pure
def aM:=@Nat.ne_of_lt
def aN:=@List.mem_filter
def aO:=@congrArg
def aP:=@List.mem_map
def aQ:=@Bool.and_eq_true
def aR:=@List.mem_range
def aS:=@Bool.false_ne_true
def aT:=@List.mem_append_left
def aU:=@List.length_cons
def aV:=@List.map_cons
def aW:=@List.getElem?_map
def aX:=@List.length_take
def aY:=@List.zipWith_cons_cons
def aZ:=@List.mem_append_right
def a_:=@beq_iff_eq
def ba:=@PySem.sizeLine_eq
def bb:=@List.getElem?_append_right
def bf:=@Nat.le_trans
def bg:=@List.sum_cons
def bh:=@List.length_replicate
def bj:=@List.take_append_drop
def bo:=@List.getElem?_append_left
def bp:=@PySem.Heap.size_push
def bq:=@Nat.zero_le
def br:=@Int.toNat_natCast
def bt:=@PySem.wpAny_newObj_type
def bu:=@List.mem_iff_getElem
def bw:=@Array.getElem?_eq_getElem
def bx:=@List.pairwise_append
def bz:=@decide_eq_true
def bA:=@List.length_filter_le
def bB:=@List.take_add_one
def bC:=@Option.some.inj
def bD:=@PyProof.Rows.slot_tuple_getitem
def bE:=@PySem.wpAny_callSpecial?_slot
def bF:=@Classical.byContradiction
def bG:=@List.getElem?_eq_none
def bH:=@PySem.wpAny_call_entry
def bI:=@List.all_eq_true
def bJ:=@List.take_length
def bK:=@of_decide_eq_true
def bL:=@List.replicate_succ
def bM:=@Array.getD_eq_getD_getElem?
def bN:=@List.not_mem_nil
def bO:=@PyProof.Rows.KeyOrd.kle_trans
def bP:=@List.mem_of_mem_take
def bQ:=@PyProof.Rows.KeyOrd.kle_of_klt
def bR:=@List.mem_iff_getElem?
def bS:=@PySem.Heap.SameBut.update
def bT:=@Array.toList_append
def bU:=@List.lookup_cons
def bV:=@List.any_eq_true
def bW:=@Nat.lt_irrefl
def bX:=@Nat.lt_succ_of_lt
def bY:=@decide_eq_true_eq
def bZ:=@List.take_of_length_le
def b_:=@List.mem_filterMap
def cc:=@PySem.wpAny_holding
def cf:=@Nat.lt_succ_self
def cg:=@List.length_drop
def cj:=@Nat.le_add_right
def ck:=@List.pairwise_map
def cm:=@Int.mul_le_mul_of_nonneg_left
def cn:=@PySem.wpAny_field
def cp:=@decide_eq_false
def cq:=@PyProof.Rows.wpS_forRange
def cu:=@List.Perm.append_left
def cv:=@PySem.wpAny_setState_of
def cw:=@PySem.wpAny_mono
def cx:=@Int.mul_le_mul_of_nonneg_right
def cy:=@List.map_append
def cz:=@PyProof.Rows.KeyOrd.kle_refl
def cA:=@List.drop_eq_nil_of_le
def cB:=@List.drop_eq_getElem_cons
def cC:=@List.length_take_le
def cD:=@PySem.Heap.get?_update_self
def cE:=@PyProof.Rows.wpS_mono
def cF:=@List.perm_append_comm
def cG:=@List.nodup_cons
def cH:=@Nat.le_of_lt
def cI:=@List.length_zipWith
def cJ:=@List.append_nil
def cK:=@List.nil_append
def cL:=@PySem.Obj.data_mapFields
def cM:=@List.getElem_mem
def cN:=@eq_of_heq
def cO:=@Nat.mod_eq_of_lt
def cP:=@PySem.wpAny_seqItems
def cQ:=@List.flatten_cons
def cR:=@Array.toList_push
def cS:=@Bool.eq_iff_iff
def cT:=@beq_eq_false_iff_ne
def cU:=@PySem.codeAny_mono
def cW:=@Array.getElem?_eq_none
def cX:=@Array.getElem?_eq_some_iff
def cY:=@List.all_cons
def cZ:=@List.drop_zero
def c_:=@PySem.wpAny_execs_nil
def de:=@List.getElem?_take_of_lt
def df:=@or_false
def dg:=@List.mem_of_mem_drop
def dh:=@Nat.pow_succ
def di:=@PySem.wpAny_truthy_bool
def dj:=@PySem.wpAny_loadPart_at
def dk:=@Nat.lt_trichotomy
def dm:=@List.drop_append_of_le_length
def dn:=@PySem.wpAny_typeNameOfWhole_keyiter
def dq:=@List.ext_getElem
def dr:=@Nat.ne_of_gt
def dt:=@PySem.wpAny_Call_Name_kw
def du:=@PySem.wpAny_setField_rec
def dv:=@List.pairwise_cons
def dw:=@Nat.zero_add
def dy:=@Nat.lt_of_le_of_lt
def dz:=@List.map_map
def dC:=@Int.emod_lt_of_pos
def dD:=@PyProof.Rows.F.plain_set_update_loop
def dE:=@PySem.wpAny_passesOwn
def dF:=@List.foldl_cons
def dG:=@Nat.min_eq_left
def dH:=@PySem.F.slot_tuple_iterator_next
def dI:=@Array.perm_iff_toList_perm
def dJ:=@ite_congr
def dM:=@Ne.symm
def dN:=@PySem.wpAny_setField
def dO:=@PySem.isSubtype_type
def dP:=@Int.mul_nonneg
def dQ:=@Int.zero_add
def dR:=@PySem.wpAny_typeNameOf_keyiter
def dS:=@List.filterMap_cons
def dU:=@List.filter_sublist
def dV:=@PySem.wpAny_attempt
def dW:=@Nat.add_assoc
def dX:=@PySem.call_meets
def dY:=@List.contains_cons
def dZ:=@PySem.codeAny_builtin
def d_:=@List.find?_cons
def ed:=@PySem.tupleKind_room_in1
def ef:=@Int.emod_nonneg
def eh:=@Nat.le_succ
def ei:=@Option.map_eq_some_iff
def ek:=@Int.le_refl
def el:=@List.take_append_of_le_length
def et:=@List.reverse_cons
def ez:=@Nat.le_of_lt_succ
def eB:=@List.ext_getElem?
def eC:=@PySem.wpAny_dictEntries
def eD:=@PySem.wpAny_typeOf
def eE:=@PySem.Obj.isFreed_of_fields
def eF:=@Nat.succ_pos
def eG:=@PyProof.Rows.callWith_type1
def eH:=@Array.mem_toList_iff
def eI:=@beq_self_eq_true
def eJ:=@PySem.F.slot_tuple_mul
def eM:=@PySem.codeAny_call_builtin
def eN:=@Array.toList_extract
def eO:=@PySem.wpAny_askSetting
def eQ:=@List.nodup_iff_pairwise_ne
def eR:=@if_true
def eS:=@PySem.wpAny_isSubtype_exc
def eT:=@List.length_set
def eU:=@Option.map_some
def eV:=@List.pairwise_iff_getElem
def eW:=@PySem.Calls.call_function_entry
def eX:=@List.mem_or_eq_of_mem_set
def eY:=@List.getElem?_drop
def eZ:=@PyProof.Rows.KeyOrd.klt_of_kle_of_klt
def e_:=@Nat.add_sub_cancel
def fb:=@Array.size_setIfInBounds
def fc:=@Nat.succ.inj
def fe:=@List.getElem_append_left
def ff:=@Bool.and_false
def fg:=@PySem.wpAny_rule
def fh:=@List.nodup_nil
def fi:=@PyProof.Rows.wpS_get
def fj:=@Nat.mod_lt
def fk:=@List.getElem?_replicate
def fm:=@List.length_eq_zero_iff
def fo:=@PySem.Obj.cls_mapFields
def fq:=@Bool.not_eq_true'
def ft:=@List.getElem_take
def fu:=@List.getElem_drop
def fv:=@List.length_range
def fz:=@List.nodup_append
def fA:=@List.getElem?_set
def fB:=@List.getElem?_set_self
def fC:=@PySem.Heap.get?_update_other
def fD:=@Int.mul_add
def fE:=@PySem.wpAny_execs_cons
def fF:=@PySem.wpAny_isInstance
def fG:=@List.drop_length
def fH:=@List.nodup_range
def fJ:=@PyProof.Rows.IsTup.new
def fK:=@List.length_singleton
def fL:=@List.getElem?_zipWith
def fM:=@List.getElem?_set_ne
def fN:=@PySem.wpAny_call
def fO:=@PySem.Calls.evalArgs_plain
def fP:=@PySem.pushCells_keeps
def fQ:=@PySem.wpAny_updateSeq_pair
def fR:=@PySem.F.slot_zip_next
def fS:=@PySem.F.slot_int_rmul
def fT:=@List.range_succ
def fU:=@Array.toList_reverse
def fV:=@Nat.mul_comm
def fW:=@PySem.Around.under_plainId
def fX:=@Nat.mul_le_mul_right
abbrev LLI:=List (List Int)
namespace L2
open PySem PySem.Spec PyProof.Rows
abbrev Key:=Sum Int Str
noncomputable def a3Q:Key->Value->Bool
 |.inl k,v=>Value.isInt k v
 |.inr x,v=>Value.isStrOf x v
noncomputable def b8S(w:World):Key->Int
 |.inl k=>hashInt k
 |.inr x=>hashStr w x
theorem C4:∀{k:Key}{v:Value},a3Q k v=true->(∃i t,k=Sum.inl i/\v=Value.int i t)∨(∃x t,k=Sum.inr x/\v=Value.str x t)
 |.inl i,v,h=>by
  obtain⟨t,e⟩:=Value.isInt_shape (k:=i) (v:=v) h;exact .inl ⟨i,t,rfl,e⟩
 |.inr x,v,h=>by
  obtain⟨t,e⟩:=Value.isStrOf_shape (x:=x) (v:=v) h;exact .inr ⟨x,t,rfl,e⟩
theorem b0f(i:Int)(t:Tok):a3Q (.inl i) (.int i t)=true:=by simp[a3Q,Value.isInt]
theorem b0e(x:Str)(t:Tok):a3Q (.inr x) (.str x t)=true:=by simp[a3Q,Value.isStrOf]
theorem b7i(a b:Int):decide ((Sum.inl a:Key)=Sum.inl b)=(a==b):=by
 by_cases e:a=b
 .subst e;simp
 .have h:¬(Sum.inl a:Key)=Sum.inl b:=λq=>e (Sum.inl.inj q);rw[cp h];exact(cT.mpr e).symm
theorem b7f(a b:Str):decide ((Sum.inr a:Key)=Sum.inr b)=decide (a=b):=by
 by_cases e:a=b
 .subst e;simp
 .have h:¬(Sum.inr a:Key)=Sum.inr b:=λq=>e (Sum.inr.inj q);rw[cp h,cp e]
theorem b7h(a:Int)(b:Str):decide ((Sum.inl a:Key)=Sum.inr b)=false:=cp (λq=>nomatch q)
theorem b7g(a:Str)(b:Int):decide ((Sum.inr a:Key)=Sum.inl b)=false:=cp (λq=>nomatch q)
noncomputable def D5(prog:Program)(w:World):PySem.KeyKind prog w Key where
 is:=a3Q
 hash:=b8S w
 inj:=λv a b ha hb=>by
  rcases C4 ha with⟨i,t,rfl,rfl⟩|⟨x,t,rfl,rfl⟩
  .rcases C4 hb with⟨j,u,rfl,e⟩|⟨y,u,rfl,e⟩
   .injection e with e1 _;rw[e1]
   .exact nomatch e
  .rcases C4 hb with⟨j,u,rfl,e⟩|⟨y,u,rfl,e⟩
   .exact nomatch e
   .injection e with e1 _;rw[e1]
 byValue:=λk v h=>by
  rcases C4 h with⟨i,t,rfl,rfl⟩|⟨x,t,rfl,rfl⟩<;>rfl
 pyHash:=λhv h=>by
  rcases C4 hv with⟨i,t,rfl,rfl⟩|⟨x,t,rfl,rfl⟩
  .exact wpAny_pyHash_int h
  .exact wpAny_pyHash_str h
 eqBool:=λhu hv h=>by
  rcases C4 hu with⟨i,t,rfl,rfl⟩|⟨x,t,rfl,rfl⟩
  .rcases C4 hv with⟨j,u,rfl,rfl⟩|⟨y,u,rfl,rfl⟩
   .rw[b7i]at h;exact wpAny_eqBool_int h
   .rw[b7h]at h;exact SeqAt.EqAt.int_str i t y u _ _ _ _ h
  .rcases C4 hv with⟨j,u,rfl,rfl⟩|⟨y,u,rfl,rfl⟩
   .rw[b7g]at h;exact SeqAt.EqAt.str_int x t j u _ _ _ _ h
   .rw[b7f]at h;exact wpAny_eqBool_str h
 «strs»:=λk x t v h=>by
  rcases C4 h with⟨i,u,rfl,e⟩|⟨y,u,rfl,e⟩
  .exact nomatch e
  .injection e with e1 _
   subst e1;cases v<;>rfl
theorem a6g(prog:Program)(w:World)(i:Int)(t:Tok):(D5 prog w).is (.inl i) (.int i t)=true:=b0f i t
theorem a6f(prog:Program)(w:World)(x:Str)(t:Tok):(D5 prog w).is (.inr x) (.str x t)=true:=b0e x t
inductive V where
 |non|bl (b:Bool)|int (i:Int)|str (x:Str)|byt (b:Array UInt8)|flt (b:UInt64)|ref (a:Addr)|ty (n:String)
 deriving DecidableEq
def RelV:V->Value->Prop
 |.non,u=>u=Value.none
 |.bl b,u=>u=Value.bool b
 |.int i,u=>∃t,u=Value.int i t
 |.str x,u=>∃t,u=Value.str x t
 |.byt b,u=>∃t,u=Value.bytes b t
 |.flt b,u=>∃t,u=Value.float b t
 |.ref a,u=>u=Value.ref a
 |.ty n,u=>u=Value.type n
abbrev Vals:List V->List Value->Prop:=Paired RelV
theorem Vals.length{xs:List V}{us:List Value}(r:Vals xs us):xs.length=us.length:=Paired.length r
theorem Vals.get:∀{xs:List V}{us:List Value}{i:Nat}{x:V},Vals xs us->xs[i]?=some x->∃u,us[i]?=some u/\RelV x u
 |_,_,_,_,.nil,e=>by simp at e
 |_,_,0,_,.cons r _,e=>by simp at e;subst e;exact⟨_,rfl,r⟩
 |_,_,i+1,x,.cons _ t,e=>by
  obtain⟨u,h1,h2⟩:=Vals.get (i:=i) (x:=x) t (by simpa using e);exact⟨u,by simpa using h1,h2⟩
theorem Vals.set{x:V}{u:Value}(r:RelV x u):∀{xs:List V}{us:List Value}(i:Nat),Vals xs us->Vals (xs.set i x) (us.set i u)
 |_,_,_,.nil=>.nil
 |_,_,0,.cons _ t=>.cons r t
 |_,_,i+1,.cons q t=>.cons q (Vals.set r i t)
theorem Vals.append:∀{xs ys:List V}{us a:List Value},Vals xs us->Vals ys a->Vals (xs++ys) (us++a)
 |_,_,_,_,.nil,s=>s
 |_,_,_,_,.cons r t,s=>.cons r (Vals.append t s)
theorem Vals.take:∀{xs:List V}{us:List Value}(n:Nat),Vals xs us->Vals (xs.take n) (us.take n)
 |_,_,0,_=>.nil
 |_,_,_+1,.nil=>.nil
 |_,_,n+1,.cons r t=>.cons r (Vals.take n t)
theorem Vals.drop:∀{xs:List V}{us:List Value}(n:Nat),Vals xs us->Vals (xs.drop n) (us.drop n)
 |_,_,0,r=>r
 |_,_,_+1,.nil=>.nil
 |_,_,n+1,.cons _ t=>Vals.drop n t
def RelO:Option V->Option Value->Prop
 |some v,some u=>RelV v u
 |none,none=>True
 |_,_=>False
def KV{κ:Type}:List (κ×V)->List (κ×Value)->Prop:=Paired λ(p:κ×V) (q:κ×Value)=>p.1=q.1/\RelV p.2 q.2
noncomputable def kV:Key->V
 |.inl i=>.int i
 |.inr x=>.str x
inductive HO where
 |lst (xs:List V)
 |tup (xs:List V)
 |dK (kvs:List (Key×V))|dT (kvs:List (List Key×V))
 |set (S:Int->Bool) (n:Nat)
 |ins (C dx:Addr) (fs:List (Str×V))
 |own (x:Addr)
 |xd (fs:List (Str×V))
 |met (f x:Addr)
 |rng (lo hi:Int)
 |frz (o:Obj) (u:HO)
 |tbl (ps:Array Value)
 |ext (φ:Heap->Prop)
abbrev Hp:=Addr->Option HO
noncomputable def upd(H:Hp)(a:Addr)(o:HO):Hp:=λb=>if b=a then some o else H b
theorem A0{H:Hp}{a:Addr}{o:HO}:upd H a o a=some o:=by unfold upd;rw[ay rfl]
theorem A1{H:Hp}{a b:Addr}{o:HO}(h:b≠a):upd H a o b=H b:=by unfold upd;rw[ar h]
theorem a4q{H:Hp}{a:Addr}{o u:HO}:upd (upd H a o) a u=upd H a u:=by
 funext b;unfold upd;split<;>rfl
theorem I0{H:Hp}{a b:Addr}{o u:HO}(h:H a=some o)(h':H b=some u)(d:o≠u):a≠b:=by
 intro e;subst e;rw[h]at h';exact d (bC h')
theorem A5{H:Hp}{a b:Addr}{o:HO}(h:H a=some o)(h':H b=none):a≠b:=by
 intro e;subst e;rw[h]at h';cases h'
section
variable (P:Program) (w:World)
def ObjOk(H:Hp)(h:Heap)(a:Addr):HO->Prop
 |.lst xs=>xs.length<=sizeLine/\∃(its:List Value) (n:Nat),Vals xs its/\h.get? a=some {cls:=.type "list",data:=.seq its.toArray n}
 |.tup xs=>xs.length<=sizeLine/\∃its:List Value,Vals xs its/\IsTup h a its.toArray
 |.dK kvs=>kvs.length<=sizeLine/\(a==sysModules)=false/\∃vs,KV kvs vs/\h.DictOf (D5 P w) a vs
 |.dT kvs=>kvs.length<=sizeLine/\(a==sysModules)=false/\∃xs:List (List Key×Addr×Value),
   Paired (λ(p:List Key×V) (q:List Key×Addr×Value)=>p.1=q.1/\H q.2.1=some (.tup (p.1.map kV))/\RelV p.2 q.2.2) kvs xs /\
   ∃o es ep,h.get? a=some o/\o.ExactDict/\o.data=.dict es ep/\es.toList=xs.map (entryOfKey (tupleKind (D5 P w)))/\(xs.map (·.1)).Nodup
 |.set S n=>h.SetOf (intKind P w) a S n
 |.ins C dx fs=>H dx=some (.own a)/\fs.length<=1000/\dx≠a/\h.get? a=some (PySem.W.instObj C dx) /\
   ∃mA,h.Ns1 dx mA/\(∀f,RelO (fs.lookup f) (mA f))/\PySem.Within mA (fs.map (·.1))
 |.own _=>∃o,h.get? a=some o
 |.xd fs=>∃mA,h.Ns1 a mA/\∀f,RelO (fs.lookup f) (mA f)
 |.rng lo hi=>∃t u v,h.get? a=some {cls:=.type "range",data:=.fields #[.int lo t,.int hi u,.int 1 v]}
 |.frz o u=>h.get? a=some o/\ObjOk H h a u
 |.tbl ps=>h.get? a=some {cls:=.none,data:=.fields ps}
 |.met f x=>h.get? a=some (PySem.W.methodObj (.ref f) (.ref x))
 |.ext φ=>φ h/\(∃o,h.get? a=some o)/\∀h1 h2:Heap,φ h1->(∀o,h1.get? a=some o->h2.get? a=some o)->φ h2
def HOk(H:Hp)(h:Heap):Prop:=∀a o,H a=some o->ObjOk P w H h a o
end
section
variable {P:Program}{w:World}{H H':Hp}{h h':Heap}{a:Addr}{o:HO}
theorem ObjOk.lt(x:ObjOk P w H h a o):a<h.objs.size:=by
 cases o with
 |lst xs=>obtain⟨_,_,_,_,e⟩:=x;exact aG e
 |tup xs=>obtain⟨_,_,_,p⟩:=x;exact p.lt
 |dK kvs=>obtain⟨_,_,_,_,o,_,_,e,_⟩:=x;exact aG e
 |dT kvs=>obtain⟨_,_,_,_,o,_,_,e,_⟩:=x;exact aG e
 |set S n=>obtain⟨o,_,_,_,e,_⟩:=x;exact aG e
 |ins C dx fs=>obtain⟨_,_,_,e,_⟩:=x;exact aG e
 |own y=>obtain⟨_,e⟩:=x;exact aG e
 |xd fs=>obtain⟨_,⟨_,_,_,e,_⟩,_⟩:=x;exact aG e
 |rng lo hi=>obtain⟨_,_,_,e⟩:=x;exact aG e
 |frz ob u=>obtain⟨e,_⟩:=x;exact aG e
 |tbl ps=>exact aG (show h.get? a=some _ from x)
 |met f y=>exact aG (show h.get? a=some _ from x)
 |ext φ=>obtain⟨_,⟨_,e⟩,_⟩:=x;exact aG e
theorem Paired.mapP{α β:Type}{F G:α->β->Prop}:∀{l₁:List α}{l₂:List β},Paired F l₁ l₂->(∀a b,F a b->G a b)->Paired G l₁ l₂
 |_,_,.nil,_=>.nil
 |_,_,.cons r t,f=>.cons (f _ _ r) (Paired.mapP t f)
theorem ObjOk.stay(x:ObjOk P w H h a o)(k:∀b u,(b=a∨H b=some (.own a))->h.get? b=some u->h'.get? b=some u)
  (j:∀b,H b=some (.own a)->H' b=some (.own a)) (l:∀b xs,H b=some (.tup xs)->H' b=some (.tup xs)):ObjOk P w H' h' a o:=by
 induction o with
 |lst xs=>obtain⟨z,its,n,r,e⟩:=x;exact⟨z,its,n,r,k _ _ (.inl rfl) e⟩
 |tup xs=>obtain⟨z,its,r,g,e,c⟩:=x;exact⟨z,its,r,g,k _ _ (.inl rfl) e,c⟩
 |dK kvs=>obtain⟨z,y,vs,r,g,es,ep,e,c⟩:=x;exact⟨z,y,vs,r,g,es,ep,k _ _ (.inl rfl) e,c⟩
 |dT kvs =>
  obtain⟨z,y,xs,r,g,es,ep,e,c⟩:=x;exact⟨z,y,xs,Paired.mapP r λp q z=>⟨z.1,l _ _ z.2.1,z.2.2⟩,g,es,ep,k _ _ (.inl rfl) e,c⟩
 |set S n=>obtain⟨g,es,ep,t,e,c⟩:=x;exact⟨g,es,ep,t,k _ _ (.inl rfl) e,c⟩
 |ins C dx fs =>
  obtain⟨d,z,ne,e,mA,⟨od,es,ep,i,c⟩,r⟩:=x;exact⟨j _ d,z,ne,k _ _ (.inl rfl) e,mA,⟨od,es,ep,k _ _ (.inr d) i,c⟩,r⟩
 |own y=>obtain⟨g,e⟩:=x;exact⟨g,k _ _ (.inl rfl) e⟩
 |xd fs=>obtain⟨mA,⟨od,es,ep,e,c⟩,r⟩:=x;exact⟨mA,⟨od,es,ep,k _ _ (.inl rfl) e,c⟩,r⟩
 |rng lo hi=>obtain⟨t,u,v,e⟩:=x;exact⟨t,u,v,k _ _ (.inl rfl) e⟩
 |frz g u m=>obtain⟨e,q⟩:=x;exact⟨k _ _ (.inl rfl) e,m q⟩
 |tbl ps =>
  have e:h.get? a=some {cls:=.none,data:=.fields ps}:=x;show h'.get? a=some {cls:=.none,data:=.fields ps};exact k a _ (.inl rfl) e
 |met f y =>
  have e:h.get? a=some (PySem.W.methodObj (.ref f) (.ref y)):=x;show h'.get? a=some (PySem.W.methodObj (.ref f) (.ref y));exact k a _ (.inl rfl) e
 |ext φ=>obtain⟨p,⟨o,e⟩,st⟩:=x;exact⟨st _ _ p λo q=>k _ _ (.inl rfl) q,⟨o,k _ _ (.inl rfl) e⟩,st⟩
theorem HOk.lt(x:HOk P w H h)(e:H a=some o):a<h.objs.size:=(x a o e).lt
theorem HOk.fresh(x:HOk P w H h)(e:h.objs.size<=a):H a=none:=by
 cases q:H a with
 |none=>rfl
 |some u=>exact absurd (aE (x.lt q) e) (bW _)
theorem HOk.kept(x:HOk P w H h)(k:∀b u,h.get? b=some u->h'.get? b=some u):HOk P w H h':=λa o e =>
 (x a o e).stay (λb u _ q=>k b u q) (λ_ q=>q) λ_ _ q=>q
theorem HOk.laid(x:HOk P w H h)(k:∀b u,h.get? b=some u->h'.get? b=some u)(hp:h.objs.size<=a)(d:ObjOk P w (upd H a o) h' a o):HOk P w (upd H a o) h':=λb u e=>by
 have g:=x.fresh hp;by_cases f:b=a
 .subst f;rw[A0]at e;cases e;exact d
 .rw[A1 f]at e;exact(x b u e).stay (λc v _ q=>k c v q) (λc q=>by rw[A1 (A5 q g)];exact q) λc xs q=>by rw[A1 (A5 q g)];exact q
end
def Rd(H:Hp)(a:Addr)(u:HO):Prop:=H a=some u∨∃o,H a=some (.frz o u)
theorem Rd.ok{P:Program}{w:World}{H:Hp}{h:Heap}{a:Addr}{u:HO}(r:Rd H a u)(x:HOk P w H h):ObjOk P w H h a u:=by
 rcases r with r|⟨o,r⟩
 .exact x a u r
 .obtain⟨_,q⟩:=x a _ r;exact q
def Mut:Option HO->Prop
 |some (.lst _)=>True
 |some (.dK _)=>True
 |some (.dT _)=>True
 |some (.set _ _)=>True
 |some (.ins _ _ _)=>True
 |some (.ext _)=>True
 |_=>False
section
variable {P:Program}{w:World}{H:Hp}{h h':Heap}{x e:Addr}{o':HO}
theorem HOk.write(ok:HOk P w H h)(j:Mut (H x))(n:e=x∨H e=some (.own x))(k:∀b u,b≠e->h.get? b=some u->h'.get? b=some u)(l:∃u,h'.get? e=some u)
  (m:ObjOk P w (upd H x o') h' x o'):HOk P w (upd H x o') h':=λb u q=>by
 have d:∀c y,H c=some (.own y)->c≠x:=λc y r z=>by subst z;rw[r]at j;exact j
 have f:∀c xs,H c=some (.tup xs)->c≠x:=λc xs r z=>by subst z;rw[r]at j;exact j
 by_cases g:b=x
 .subst g;rw[A0]at q;cases q;exact m
 .rw[A1 g]at q;by_cases a:b=e
  .have q':H b=some (.own x):=by
    rcases n with z|z
    .exact absurd (a.trans z) g
    .rw[a];exact z
   rw[q]at q';cases q';obtain⟨v,o⟩:=l;exact⟨v,by rw[a];exact o⟩
  .refine(ok b u q).stay (λc v i r=>k c v ?_ r) (λc r=>by rw[A1 (d c b r)];exact r) λc xs r=>by rw[A1 (f c xs r)];exact r
   rcases i with rfl|i
   .exact a
   .rintro rfl;rcases n with z|z
    .exact d c b i z
    .rw[i]at z;cases z;exact g rfl
end
structure Un(fs ex:List Addr)(H H':Hp)(h h':Heap):Prop where
 keep:∀b o,h.get? b=some o->H b=none->b∉fs->b∉ex->h'.get? b=some o
 slot:∀b o,h.get? b=some o->H b=none->b∈fs->b∉ex->∃sl,h'.get? b=some {o with slots:=sl}
 free:∀b o,h.get? b=some o->H b=none->b∉ex->H' b=none
 there:∀b o,h.get? b=some o->b∉ex->∃o',h'.get? b=some o'
 tups:∀b xs,H b=some (.tup xs)->H' b=some (.tup xs)
 frzs:∀b o u,H b=some (.frz o u)->H' b=some (.frz o u)
 tbls:∀b ps,H b=some (.tbl ps)->∃more,H' b=some (.tbl (ps++more))
section
variable {fs fs' ex ex':List Addr}{H H1 H2:Hp}{h h1 h2 h':Heap}{a x e:Addr}{o:HO}
theorem Un.any(u:Un fs ex H H1 h h1){b:Addr}{a:Obj}(q:h.get? b=some a)(n:H b=none)(d:b∉ex):∃sl,h1.get? b=some {a with slots:=sl}:=by
 by_cases c:b∈fs
 .exact u.slot b a q n c d
 .exact⟨a.slots,u.keep b a q n c d⟩
theorem Un.kept(k:∀b u,h.get? b=some u->h'.get? b=some u):Un fs ex H H h h' :=
 ⟨λb a q _ _ _=>k b a q,λb a q _ _ _=>⟨a.slots,k b a q⟩,λ_ _ _ n _=>n,λb a q _=>⟨a,k b a q⟩,λ_ _ q=>q,λ_ _ _ q=>q,λ_ ps q=>⟨#[],by rw[q];simp⟩⟩
theorem Un.refl:Un fs ex H H h h:=Un.kept λ_ _ q=>q
theorem Un.laid(k:∀b u,h.get? b=some u->h'.get? b=some u)(hp:h.objs.size<=a)(c:H a=none):Un fs ex H (upd H a o) h h' where
 keep:=λb u q _ _ _=>k b u q
 slot:=λb u q _ _ _=>⟨u.slots,k b u q⟩
 free:=λb u q n _=>by rw[A1 (aM (aE (aG q) hp))];exact n
 there:=λb u q _=>⟨u,k b u q⟩
 tups:=λb xs q=>by rw[A1 (A5 q c)];exact q
 frzs:=λb u xs q=>by rw[A1 (A5 q c)];exact q
 tbls:=λb ps q=>⟨#[],by rw[A1 (A5 q c),q];simp⟩
theorem Un.write(c:Mut (H x))(j:e=x∨H e=some (.own x))(k:∀b u,b≠e->h.get? b=some u->h'.get? b=some u)(d:∃u,h'.get? e=some u):Un fs ex H (upd H x o) h h':=by
 have i:∀b,H b=none->b≠x:=λb n z=>by subst z;rw[n]at c;exact c
 have g:∀b,H b=none->b≠e:=λb n z=>by
  subst z;rcases j with r|r
  .exact i b n r
  .rw[n]at r;cases r
 have f:∀b u,H b=some u->¬Mut (some u)->b≠x:=λb u q nm z=>by subst z;rw[q]at c;exact nm c
 refine⟨λb u q n _ _=>k b u (g b n) q,λb u q n _ _=>⟨u.slots,k b u (g b n) q⟩,λb u q n _=>by rw[A1 (i b n)];exact n,λb u q _=>?_,
  λb xs q=>by rw[A1 (f b _ q λz=>z)];exact q,λb u xs q=>by rw[A1 (f b _ q λz=>z)];exact q,λb ps q=>⟨#[],by rw[A1 (f b _ q λz=>z),q];simp⟩⟩
 by_cases a:b=e
 .subst a;exact d
 .exact⟨u,k b u a q⟩
end
noncomputable def trk(h:Heap)(H:Hp):List Addr:=(List.range h.objs.size).filter λa=>(H a).isSome
noncomputable def a4Z(h:Heap)(H:Hp):Heap:=PySem.W.hideAll h (trk h H)
theorem b0k(h:Heap)(H:Hp):(a4Z h H).objs.size=h.objs.size:=PySem.W.hideAll_size _ _
theorem b2W{h:Heap}{H:Hp}{b:Addr}{o:Obj}(e:h.get? b=some o)(n:H b=none):(a4Z h H).get? b=some o :=
 PySem.W.hideAll_get _ e λa=>by
  have q:(H b).isSome=true:=(aN.mp a).2;rw[n]at q;simp at q
theorem b4P{h:Heap}{H:Hp}{b:Addr}{o:Obj}(e:(a4Z h H).get? b=some o):h.get? b=some o/\H b=none:=by
 have a:h.get? b=some o:=PySem.W.of_hideAll (trk h H) e;refine⟨a,?_⟩;cases q:H b with
 |none=>rfl
 |some x =>
  have c:b∈trk h H:=aN.mpr ⟨aR.mpr (aG a),by simp[q]⟩;have z:(a4Z h H).get? b=none:=PySem.W.hideAll_none (trk h H) c;rw[z]at e;cases e
noncomputable def b5s(g h:Heap)(L:Addr):List (Addr×Obj):=(List.range h.objs.size).filterMap λa=>if a=L∨(g.get? a).isSome=true then none else(h.get? a).map λo=>(a,o)
noncomputable def rest(g h:Heap)(L d:Addr):List (Addr×Obj):=(b5s g h L).filter λp=>decide (p.1≠d)
structure Mod(K:PySem.W.Frag)(mg:Str->Option Value)(base:Heap):Prop where
 kin:K.In base
 glob:base.Ns mainGlobals mg
 blt:∃mb,base.Ns builtinsNs mb/\∀x:Str,x≠"__name__"->mb x=bootBuiltins x
 nolimit:base.NoLimit
structure Cx where
 prog:Program
 w:World
 K:PySem.W.Frag
 mg:Str->Option Value
 base:Heap
 A:Around
 N:List Str
 s₀:Shared
 H₀:Hp
 env:Env
 outer:List Env
 stack:List Env
 ex:List Addr
 fn:Str->Bool
 calm:Bool
 pn:List (Addr×Obj)
 xe:Value->Shared->Prop
noncomputable def frs(l:List Env):List Addr:=l.filterMap (·.frame)
noncomputable abbrev Cx.fs(X:Cx):List Addr:=frs X.outer
def Vis(sc:Scope)(x:Str):Prop:=sc.names.lookup x=some .local∨sc.names.lookup x=some .cell∨sc.names.lookup x=some .free
def Loc(sc:Scope)(x:Str):Prop:=sc.names.lookup x=some .local∨sc.names.lookup x=some .cell
def b9a(env:Env)(h:Heap)(m:Str->Option Value)(x:Str)(u:Value):Prop :=
 (env.kindOf x=some .local/\m x=some u)∨((env.kindOf x=some .cell∨env.kindOf x=some .free)/\∃c,env.cells.lookup x=some c/\h.IsCell c (some u))
structure Cx.Ok(X:Cx):Prop where
 mod:Mod X.K X.mg X.base
 kind:X.env.scope.kind=.function
 glob:X.env.globals=mainGlobals
 blt:X.env.builtins=builtinsNs
 above:X.s₀.heap.objs.size<=X.env.locals
 inj:∀x y c,X.env.cells.lookup x=some c->X.env.cells.lookup y=some c->x=y
 has:∀x,(X.env.kindOf x=some .cell∨X.env.kindOf x=some .free)->∃c,X.env.cells.lookup x=some c
 cab:∀x c,X.fn x=true->X.env.cells.lookup x=some c->X.s₀.heap.objs.size<=c
 hd:X.calm=true->X.A.handled=none
 frames:X.A.frames=some X.stack
 stk:X.stack=X.outer∨(X.stack=X.env::X.outer/\X.env.frame=some X.env.locals)
 exf:∀b∈X.ex,b≠X.env.locals/\∀x c,X.env.cells.lookup x=some c->c≠b
 bs:∀b o,X.base.get? b=some o->X.s₀.heap.get? b=some o/\X.H₀ b=none
 bsz:X.base.objs.size<=X.s₀.heap.objs.size
 noex:∀b o,X.base.get? b=some o->b∉X.ex
 exfs:∀b∈X.ex,b∉X.fs
 funs:X.s₀.heap.FunFrames X.base X.outer
 frf:∀b∈X.fs,X.H₀ b=none
structure Inv(X:Cx)(pins:List (Addr×Obj))(σ:List (Option V))(H:Hp)(s:Shared):Prop where
 ok:X.Ok
 os:s.os=X.s₀.os
 bare:AllBare s.gens
 base:Un X.fs X.ex X.H₀ H X.s₀.heap s.heap
 loc:∃m,s.heap.Ns X.env.locals m/\∀(i:Nat) (x:Str) (v:V),X.N[i]?=some x->σ[i]?=some (some v)->Vis X.env.scope x->∃u,RelV v u/\b9a X.env s.heap m x u
 cell:∀x c,X.env.cells.lookup x=some c->∃v,s.heap.IsCell c v
 free:H X.env.locals=none
 freeC:∀x c,X.env.cells.lookup x=some c->H c=none
 pin:∀p∈X.pn++pins,s.heap.get? p.1=some p.2/\H p.1=none/\p.1≠X.env.locals/\p.1∉X.fs/\∀v,p.2.data≠.cell v
 hok:HOk X.prog X.w H s.heap
 len:σ.length=X.N.length
section
variable {X:Cx}{pins:List (Addr×Obj)}{σ:List (Option V)}{H H':Hp}{s:Shared}{h':Heap}
theorem Cx.Ok.nofr(ok:X.Ok){b:Addr}{o:Obj}(e:X.base.get? b=some o):b∉X.fs:=λa=>by
 have:=(ok.funs.mem a).1;rw[e]at this;cases this
theorem Inv.bs(I:Inv X pins σ H s):∀b o,X.base.get? b=some o->s.heap.get? b=some o/\H b=none:=λb o e =>
 ⟨I.base.keep b o (I.ok.bs b o e).1 (I.ok.bs b o e).2 (I.ok.nofr e) (I.ok.noex b o e),I.base.free b o (I.ok.bs b o e).1 (I.ok.bs b o e).2 (I.ok.noex b o e)⟩
theorem Inv.bk(I:Inv X pins σ H s):∀b o,X.base.get? b=some o->s.heap.get? b=some o:=λb o e=>(I.bs b o e).1
theorem Inv.mod(I:Inv X pins σ H s):Mod X.K X.mg X.base:=I.ok.mod
theorem Inv.kIn(I:Inv X pins σ H s):X.K.In s.heap:=I.ok.mod.kin.keeps I.bk
theorem Inv.lt(I:Inv X pins σ H s):X.env.locals<s.heap.objs.size:=let ⟨_,hn,_⟩:=I.loc;hn.lt
theorem Inv.sz(I:Inv X pins σ H s):X.s₀.heap.objs.size<=s.heap.objs.size:=bf I.ok.above (cH I.lt)
theorem Inv.nofs(I:Inv X pins σ H s){a:Addr}(h:s.heap.objs.size<=a):a∉X.fs:=λb=>by
 obtain⟨_,o,c,_⟩:=I.ok.funs.mem b;exact absurd (aE (aG c) (bf I.sz h)) (bW _)
theorem Inv.cne(I:Inv X pins σ H s):∀x c,X.env.cells.lookup x=some c->c≠X.env.locals:=λx c e z=>by
 obtain⟨v,o,d,hd⟩:=I.cell x c e;obtain⟨m,⟨o',es,ep,b,a,_⟩,_⟩:=I.loc;rw[z,b]at d;cases d;rw[a]at hd;cases hd
theorem Inv.funs(I:Inv X pins σ H s):s.heap.FunFrames X.base X.outer:=by
 have all:∀(l:List Env),(∀b∈frs l,b∈X.fs)->X.s₀.heap.FunFrames X.base l->s.heap.FunFrames X.base l:=by
  intro l;induction l with
  |nil=>intro _ _;trivial
  |cons env r j =>
   intro hs f;obtain⟨d,⟨L,o,c,g,h,hd⟩,i⟩:=f;have hL:L∈X.fs:=hs L (by unfold frs;rw[dS,c];exact au);obtain⟨sl,e⟩:=I.base.slot L o h (I.ok.frf L hL) hL λz=>I.ok.exfs L z hL;exact⟨d,⟨L,_,c,g,e,hd⟩,j (λb a=>hs b (by unfold frs;rw[dS,c];exact ak _ a)) i⟩
 exact all X.outer (λ_ a=>a) I.ok.funs
theorem Inv.stack(I:Inv X pins σ H s):s.heap.FunFrames X.base X.stack:=by
 rcases I.ok.stk with e|⟨e,a⟩
 .rw[e];exact I.funs
 .rw[e];obtain⟨m,b,_⟩:=I.loc;refine .cons (by rw[I.ok.kind];decide) a b ?_ I.funs;exact Heap.get?_none_of_le (bf I.ok.bsz I.ok.above)
theorem Inv.stkSub(I:Inv X pins σ H s):∀b∈frs X.stack,b∈X.env.locals::X.fs:=λb a=>by
 rcases I.ok.stk with e|⟨e,c⟩
 .rw[e]at a;exact ak _ a
 .rw[e]at a;unfold frs at a;rw[dS,c]at a;exact a
theorem Inv.stkFree(I:Inv X pins σ H s):∀b∈frs X.stack,H b=none:=λb a=>by
 rcases aI.mp (I.stkSub b a)with e|a
 .rw[e];exact I.free
 .obtain⟨_,o,ho,_⟩:=I.ok.funs.mem a;exact I.base.free b o ho (I.ok.frf b a) λz=>I.ok.exfs b z a
theorem Inv.step{g':Array GenState}{t':Nat}{d':Drawn}{ch:List Addr}(I:Inv X pins σ H s)
  (g:∀b∈ch,(b∈X.ex∨X.s₀.heap.objs.size<=b)/\b≠X.env.locals/\(∀x c,X.env.cells.lookup x=some c->c≠b)/\∀p∈X.pn++pins,p.1≠b)
  (keep:∀b o,b≠X.env.locals->b∉X.fs->b∉ch->s.heap.get? b=some o->H b=none->h'.get? b=some o)
  (w:∀b o,b≠X.env.locals->b∈X.fs->b∉ch->s.heap.get? b=some o->H b=none->∃sl,h'.get? b=some {o with slots:=sl}) (free:∀b o,b∉ch->s.heap.get? b=some o->H b=none->H' b=none)
  (there:∀b o,b∉ch->s.heap.get? b=some o->∃o',h'.get? b=some o')
  (F:∀b xs,H b=some (.tup xs)->H' b=some (.tup xs)) (C:∀b o u,H b=some (.frz o u)->H' b=some (.frz o u)) (E:∀b ps,H b=some (.tbl ps)->∃more,H' b=some (.tbl (ps++more)))
  (P:∀m,s.heap.Ns X.env.locals m->h'.Ns X.env.locals m) (G:HOk X.prog X.w H' h') (N:AllBare g') :
  Inv X pins σ H' {s with heap:=h',gens:=g',drawn:=d',toks:=t'}:=by
 have D:∀b o,X.s₀.heap.get? b=some o->b≠X.env.locals:=λb o e=>aM (aE (aG e) I.ok.above);have t:∀b o,X.s₀.heap.get? b=some o->b∉X.ex->b∉ch:=λb o e a y=>by
  rcases(g b y).1 with z|z
  .exact a z
  .exact absurd (aE (aG e) z) (bW _)
 have f:∀x c,X.env.cells.lookup x=some c->∀v,s.heap.IsCell c v->h'.IsCell c v:=λx c e v ⟨o,A,hd⟩=>by
  have h:c∉ch:=λz=>(g c z).2.2.1 x c e rfl;by_cases K:c∈X.fs
  .obtain⟨sl,q⟩:=w c o (I.cne x c e) K h A (I.freeC x c e);exact⟨_,q,hd⟩
  .exact⟨o,keep c o (I.cne x c e) K h A (I.freeC x c e),hd⟩
 refine⟨I.ok,I.os,N,⟨λb o e n y a=>?_,λb o e n y a=>?_,λb o e n a=>?_,λb o e a=>?_,λb xs e=>F b xs (I.base.tups b xs e),λb o xs e=>C b o xs (I.base.frzs b o xs e),λb ps e=>?_⟩,?_,λx c e=>?_,?_,λx c e=>?_,λp L=>?_,G,I.len⟩
 .exact keep b o (D b o e) y (t b o e a) (I.base.keep b o e n y a) (I.base.free b o e n a)
 .obtain⟨sl,j⟩:=I.base.slot b o e n y a;obtain⟨J,B⟩:=w b _ (D b o e) y (t b o e a) j (I.base.free b o e n a);exact⟨J,B⟩
 .obtain⟨o',j⟩:=I.base.there b o e a;exact free b o' (t b o e a) j (I.base.free b o e n a)
 .obtain⟨o',j⟩:=I.base.there b o e a;exact there b o' (t b o e a) j
 .obtain⟨m1,j⟩:=I.base.tbls b ps e;obtain⟨O,B⟩:=E b _ j;exact⟨m1++O,by rw[B,Array.append_assoc]⟩
 .obtain⟨m,hn,hl⟩:=I.loc;refine⟨m,P m hn,λi x v j B M=>?_⟩;obtain⟨u,r,l⟩:=hl i x v j B M;refine⟨u,r,?_⟩;rcases l with l|⟨k,c,e,z⟩
  .exact .inl l
  .exact .inr ⟨k,c,e,f x c e _ z⟩
 .obtain⟨v,z⟩:=I.cell x c e;exact⟨v,f x c e v z⟩
 .obtain⟨m,⟨o,_,_,A,_⟩,_⟩:=I.loc;exact free _ o (λz=>(g _ z).2.1 rfl) A I.free
 .obtain⟨v,o,A,hd⟩:=I.cell x c e;exact free c o (λz=>(g c z).2.2.1 x c e rfl) A (I.freeC x c e)
 .obtain⟨e,n,ne,nf,d⟩:=I.pin p L;have h:p.1∉ch:=λz=>(g p.1 z).2.2.2 p L rfl;exact⟨keep p.1 p.2 ne nf h e n,free p.1 p.2 h e n,ne,nf,d⟩
theorem Inv.un{t':Nat}(I:Inv X pins σ H s)(u:Un X.fs [] H H' s.heap h')(g:HOk X.prog X.w H' h'):Inv X pins σ H' {s with heap:=h',toks:=t'}:=by
 obtain⟨m,⟨o,es,ep,h,r⟩,_⟩:=id I.loc;obtain⟨sl,hL⟩:=u.any h I.free (by simp);exact I.step (g':=s.gens) (d':=s.drawn) (ch:=[]) (λ_ z=>nomatch z) (λb o _ f _ e n=>u.keep b o e n f (by simp)) (λb o _ f _ e n=>u.slot b o e n f (by simp)) (λb o _ e n=>u.free b o e n (by simp)) (λb o _ e=>u.there b o e (by simp)) u.tups u.frzs u.tbls (λk i=>by
  obtain⟨o',d,c,a,j⟩:=i;rw[h]at a;cases a;exact⟨_,d,c,hL,j⟩) g I.bare
theorem Inv.call{g':Array GenState}{t':Nat}{d':Drawn}{ch:List Addr}(I:Inv X pins σ H s)(u:Un (frs X.stack) ch H H' s.heap h')(i:HOk X.prog X.w H' h')(l:AllBare g')
  (d:∀b∈ch,(b∈X.ex∨X.s₀.heap.objs.size<=b)/\b≠X.env.locals/\(∀x c,X.env.cells.lookup x=some c->c≠b)/\∀p∈X.pn++pins,p.1≠b) :
  Inv X pins σ H' {s with heap:=h',gens:=g',drawn:=d',toks:=t'}:=by
 obtain⟨m,⟨o,es,ep,j,r⟩,_⟩:=id I.loc;obtain⟨sl,hL⟩:=u.any j I.free λz=>(d _ z).2.1 rfl;exact I.step (ch:=ch) d (λb o hL k a e n=>u.keep b o e n (λz=>(aI.mp (I.stkSub b z)).elim hL k) a) (λb o _ _ a e n=>u.any e n a) (λb o a e n=>u.free b o e n a) (λb o a e=>u.there b o e a) u.tups u.frzs u.tbls (λv q=>by
  obtain⟨o',h,g,f,t⟩:=q;rw[j]at f;cases f;exact⟨_,h,g,hL,t⟩) i l
theorem Inv.turned{t':Nat}{it:Addr}(I:Inv X pins σ H s)(k:∀b o,b≠it->s.heap.get? b=some o->h'.get? b=some o)(i:H it=none)(hL:it≠X.env.locals)
  (h1:it∈X.ex∨X.s₀.heap.objs.size<=it) (h2:∀x c,X.env.cells.lookup x=some c->c≠it) (f:∀p∈X.pn++pins,p.1≠it):Inv X pins σ H {s with heap:=h',toks:=t'}:=by
 have d:∀b u,H b=some u->b≠it:=λb u e z=>by rw[z,i]at e;cases e
 refine I.step (g':=s.gens) (d':=s.drawn) (ch:=[it]) (λb g=>?_) (λb o _ _ a e _=>k b o (λz=>a (by simp[z])) e) (λb o _ _ a e _=>⟨o.slots,k b o (λz=>a (by simp[z])) e⟩) (λ_ _ _ _ n=>n)
  (λb o a e=>⟨o,k b o (λz=>a (by simp[z])) e⟩) (λ_ _ e=>e) (λ_ _ _ e=>e) (λb ps e=>⟨#[],by rw[e];simp⟩) (λm h=>?_) (λb u e=>?_) I.bare
 .have e:b=it:=by simpa using g
  subst e;exact⟨h1,hL,h2,f⟩
 .obtain⟨o,es,ep,ho,r⟩:=h;exact⟨o,es,ep,k _ o (dM hL) ho,r⟩
 .refine(I.hok b u e).stay (λc v a q=>k c v ?_ q) (λ_ q=>q) λ_ _ q=>q;rcases a with z|z
  .rw[z];exact d b u e
  .exact d c _ z
theorem Inv.tok(I:Inv X pins σ H s)(t:Nat):Inv X pins σ H {s with toks:=t}:=I.un (h':=s.heap) (t':=t) Un.refl I.hok
theorem Inv.kept{t':Nat}(I:Inv X pins σ H s)(k:∀b u,s.heap.get? b=some u->h'.get? b=some u):Inv X pins σ H {s with heap:=h',toks:=t'}:=I.un (Un.kept k) (I.hok.kept k)
theorem Inv.laid{a:Addr}{o:HO}{t':Nat}(I:Inv X pins σ H s)(k:∀b u,s.heap.get? b=some u->h'.get? b=some u)(hp:s.heap.objs.size<=a)(c:ObjOk X.prog X.w (upd H a o) h' a o) :
  Inv X pins σ (upd H a o) {s with heap:=h',toks:=t'}:=I.un (Un.laid k hp (I.hok.fresh hp)) (I.hok.laid k hp c)
theorem Inv.write{x e:Addr}{o:HO}{t':Nat}(I:Inv X pins σ H s)(f:Mut (H x))(d:e=x∨H e=some (.own x))(k:∀b u,b≠e->s.heap.get? b=some u->h'.get? b=some u)(a:∃u,h'.get? e=some u)
  (c:ObjOk X.prog X.w (upd H x o) h' x o):Inv X pins σ (upd H x o) {s with heap:=h',toks:=t'}:=I.un (Un.write f d k a) (I.hok.write f d k a c)
theorem Inv.weak{σ':List (Option V)}(I:Inv X pins σ H s)(d:σ'.length=σ.length)(w:∀(i:Nat) v,σ'[i]?=some (some v)->σ[i]?=some (some v)):Inv X pins σ' H s :=
 ⟨I.ok,I.os,I.bare,I.base,let ⟨m,hn,hl'⟩:=I.loc;⟨m,hn,λi x v a b c=>hl' i x v a (w i v b) c⟩,I.cell,I.free,I.freeC,I.pin,I.hok,d.trans I.len⟩
theorem Inv.pins_of{pins':List (Addr×Obj)}(I:Inv X pins σ H s)(h:∀p∈pins',s.heap.get? p.1=some p.2/\H p.1=none/\p.1≠X.env.locals/\p.1∉X.fs/\∀v,p.2.data≠.cell v):Inv X pins' σ H s :=
 ⟨I.ok,I.os,I.bare,I.base,I.loc,I.cell,I.free,I.freeC,λp a=>(aK.mp a).elim (λz=>I.pin p (aT _ z)) (h p),I.hok,I.len⟩
theorem a2B{N:List Str}(e:N.Nodup){i j:Nat}{x:Str}(a:N[i]?=some x)(b:N[j]?=some x):i=j:=by
 obtain⟨h1,c⟩:=aC.mp a;obtain⟨h2,d⟩:=aC.mp b;exact(List.getElem_inj e).mp (c.trans d.symm)
theorem a3F{M:Model}{A:Around}{E:Value->Shared->Prop}{i:Nat}{x:Str}{v:V}{u:Value}{Q:Unit->Shared->Prop}(I:Inv X pins σ H s)(Y:X.N.Nodup)(hi:X.N[i]?=some x)(t:Loc X.env.scope x)(r:RelV v u)
  (h:∀s',Inv X pins (σ.set i (some v)) H s'->(∃a,Heap.SameBut a s.heap s'.heap/\(a=X.env.locals∨X.env.cells.lookup x=some a))->Q () s') (hf:X.fn x=true∨X.env.scope.names.lookup x=some .local:=by first|exact .inl rfl|exact .inr rfl|assumption):wpAny M A (storeName X.env x u) Q E s:=by
 obtain⟨m,O,Z⟩:=id I.loc;have G:(X.env.scope.kind==.class || (X.env.scope.kind==.module && X.env.locals != X.env.globals))=false:=by rw[I.ok.kind];rfl
 have hiσ:i<σ.length:=by rw[I.len];exact(aC.mp hi).1
 have cne:=I.cne;have g:∀{a:Addr}{h':Heap},(∃o,s.heap.get? a=some o/\H a=none)->Heap.SameBut a s.heap h'->HOk X.prog X.w H h':=λ{a h'} ha hs b ob e=>by
  obtain⟨_,_,w⟩:=ha;refine(I.hok b ob e).stay (λc L l q=>(hs.2 c ?_).trans q) (λ_ q=>q) λ_ _ q=>q;rintro rfl;rcases l with rfl|l
  .rw[w]at e;cases e
  .rw[w]at l;cases l
 rcases t with C|C
 .refine wpAny_storeName_local C O (λh' P hs=>?_) G;obtain⟨oL,_,_,R,_⟩:=id O;refine h _ ⟨I.ok,I.os,I.bare,⟨λb o e n D t=>?_,λb o e n D t=>?_,I.base.free,λb o e t=>?_,I.base.tups,I.base.frzs,I.base.tbls⟩,⟨_,P,λj y W f B N=>?_⟩,λy c e=>?_,I.free,I.freeC,λp S=>?_,g ⟨oL,R,I.free⟩ hs,by simpa using I.len⟩ ⟨_,hs,.inl rfl⟩
  .exact(hs.2 b (aM (aE (aG e) I.ok.above))).trans (I.base.keep b o e n D t)
  .obtain⟨sl,f⟩:=I.base.slot b o e n D t;exact⟨sl,(hs.2 b (aM (aE (aG e) I.ok.above))).trans f⟩
  .obtain⟨o',f⟩:=I.base.there b o e t;exact⟨o',(hs.2 b (aM (aE (aG e) I.ok.above))).trans f⟩
  .by_cases hj:j=i
   .subst hj;rw[hi]at f;cases f;rw[fB hiσ]at B;cases B;exact⟨u,r,.inl ⟨C,by simp⟩⟩
   .rw[fM (dM hj)]at B;obtain⟨U,T,q⟩:=Z j y W f B N;refine⟨U,T,?_⟩;rcases q with⟨k,e⟩|⟨k,c,e,z⟩
    .refine .inl ⟨k,?_⟩;have:y≠x:=λe=>hj (a2B Y f (e ▸ hi));simp[this,e]
    .exact .inr ⟨k,c,e,z.sameBut hs (cne y c e)⟩
  .obtain⟨L,z⟩:=I.cell y c e;exact⟨L,z.sameBut hs (cne y c e)⟩
  .obtain⟨e,n,ne,nf,d⟩:=I.pin p S;exact⟨(hs.2 p.1 ne).trans e,n,ne,nf,d⟩
 .have hfn:X.fn x=true:=by
   rcases hf with z|z
   .exact z
   .rw[z]at C;cases C
  obtain⟨c,l⟩:=I.ok.has x (.inl C);obtain⟨L,z⟩:=I.cell x c l;refine wpAny_storeName_cell I.ok.kind C l z (λh' F hs=>?_);obtain⟨oc,J,K⟩:=id z;refine h {s with heap:=h'} ⟨I.ok,I.os,I.bare,⟨λb o e n D t=>?_,λb o e n D t=>?_,I.base.free,λb o e t=>?_,I.base.tups,I.base.frzs,I.base.tbls⟩,⟨m,O.sameBut hs (dM (cne x c l)),λj y W f B N=>?_⟩,λy c' e=>?_,I.free,I.freeC,λp S=>?_,g ⟨oc,J,I.freeC x c l⟩ hs,by simpa using I.len⟩ ⟨c,hs,.inr l⟩
  .exact(hs.2 b (aM (aE (aG e) (I.ok.cab x c hfn l)))).trans (I.base.keep b o e n D t)
  .obtain⟨sl,f⟩:=I.base.slot b o e n D t;exact⟨sl,(hs.2 b (aM (aE (aG e) (I.ok.cab x c hfn l)))).trans f⟩
  .obtain⟨o',f⟩:=I.base.there b o e t;exact⟨o',(hs.2 b (aM (aE (aG e) (I.ok.cab x c hfn l)))).trans f⟩
  .by_cases hj:j=i
   .subst hj;rw[hi]at f;cases f;rw[fB hiσ]at B;cases B;exact⟨u,r,.inr ⟨.inl C,c,l,F⟩⟩
   .rw[fM (dM hj)]at B;obtain⟨U,T,q⟩:=Z j y W f B N;refine⟨U,T,?_⟩;rcases q with q|⟨k,c',e,z'⟩
    .exact .inl q
    .refine .inr ⟨k,c',e,z'.sameBut hs ?_⟩;rintro rfl;exact hj (a2B Y f (I.ok.inj _ _ _ e l ▸ hi))
  .by_cases hcc:c'=c
   .subst hcc;exact⟨_,F⟩
   .obtain⟨w2,z2⟩:=I.cell y c' e;exact⟨w2,z2.sameBut hs hcc⟩
  .obtain⟨e,n,ne,nf,d⟩:=I.pin p S;refine⟨(hs.2 p.1 ?_).trans e,n,ne,nf,d⟩;intro q;rw[q,J]at e;have q':oc=p.2:=bC e;exact d L (by rw[<-q'];exact K)
theorem a0x{M:Model}{A:Around}{E:Value->Shared->Prop}{i:Nat}{x:Str}{v:V}{u:Value}{Q:Unit->Shared->Prop}(I:Inv X pins σ H s)(b:X.N.Nodup)(hi:X.N[i]?=some x)(d:Loc X.env.scope x)(r:RelV v u)
  (h:∀s',Inv X pins (σ.set i (some v)) H s'->Q () s') (c:X.fn x=true∨X.env.scope.names.lookup x=some .local:=by first|exact .inl rfl|exact .inr rfl|assumption):wpAny M A (storeName X.env x u) Q E s :=
 a3F I b hi d r (λs' a _=>h s' a) c
theorem Inv.call'{s':Shared}{ch:List Addr}(I:Inv X pins σ H s)(i:s'.os=s.os)(u:Un (frs X.stack) ch H H' s.heap s'.heap)(d:HOk X.prog X.w H' s'.heap)(h:AllBare s'.gens)
  (a:∀b∈ch,(b∈X.ex∨X.s₀.heap.objs.size<=b)/\b≠X.env.locals/\(∀x c,X.env.cells.lookup x=some c->c≠b)/\∀p∈X.pn++pins,p.1≠b):Inv X pins σ H' s':=by
 obtain⟨h',g,f,t',o'⟩:=s';have e:o'=s.os:=i;subst e;exact I.call (g':=g) (t':=t') (d':=f) u d h a
end
abbrev XK:=Value->Option Addr->Hp->Prop
abbrev St:=List (Option V)
abbrev VK:=V->Hp->Prop
abbrev TE:=St->Hp->VK->Prop
abbrev TT:=St->Hp->(Bool->Hp->Prop)->Prop
abbrev TA:=St->Hp->(List V->Hp->Prop)->Prop
structure Ends where
 nx:St->Hp->Prop
 rt:VK
 bk:St->Hp->Prop:=λ_ _=>False
 ct:St->Hp->Prop:=λ_ _=>False
abbrev TS:=Ends->St->Hp->Prop
def EP(X:Cx)(pins:List (Addr×Obj))(σ:St)(Q:VK)(u:Value)(s':Shared):Prop:=∃v H',Inv X pins σ H' s'/\RelV v u/\Q v H'
def TP(X:Cx)(pins:List (Addr×Obj))(σ:St)(Q:Bool->Hp->Prop)(b:Bool)(s':Shared):Prop:=∃H',Inv X pins σ H' s'/\Q b H'
def AP(X:Cx)(pins:List (Addr×Obj))(σ:St)(Q:List V->Hp->Prop)(us:List Value)(s':Shared):Prop:=∃vs H',Inv X pins σ H' s'/\Vals vs us/\Q vs H'
def SP(X:Cx)(pins:List (Addr×Obj))(D:Ends)(f:Flow)(s':Shared):Prop :=
 match f with
 |.next=>∃σ' H',Inv X pins σ' H' s'/\D.nx σ' H'
 |.brk=>∃σ' H',Inv X pins σ' H' s'/\D.bk σ' H'
 |.cont=>∃σ' H',Inv X pins σ' H' s'/\D.ct σ' H'
 |.ret u=>∃v σ' H',Inv X pins σ' H' s'/\RelV v u/\D.rt v H'
def PE(X:Cx)(e:Expr)(t:TE):Prop :=
 ∀(pins:List (Addr×Obj)) (s:Shared) (σ:St) (H:Hp) (Q:VK),Inv X pins σ H s->t σ H Q->wpAny (model X.prog X.w) X.A (eval e X.env) (EP X pins σ Q) X.xe s
def PT(X:Cx)(e:Expr)(t:TT):Prop :=
 ∀(pins:List (Addr×Obj)) (s:Shared) (σ:St) (H:Hp) (Q:Bool->Hp->Prop),Inv X pins σ H s->t σ H Q->wpAny (model X.prog X.w) X.A (isTrue e X.env (eval e X.env)) (TP X pins σ Q) X.xe s
def PW(X:Cx)(e:Expr)(t:TT):Prop :=
 ∀(whole:Sem Value) (pins:List (Addr×Obj)) (s:Shared) (σ:St) (H:Hp) (Q:Bool->Hp->Prop),Inv X pins σ H s->t σ H Q->wpAny (model X.prog X.w) X.A (isTrue e X.env whole) (TP X pins σ Q) X.xe s
theorem PW.pt{X:Cx}{e:Expr}{t:TT}(h:PW X e t):PT X e t:=h _
def PA(X:Cx)(es:List Expr)(t:TA):Prop :=
 ∀(pos:Pos) (pins:List (Addr×Obj)) (s:Shared) (σ:St) (H:Hp) (Q:List V->Hp->Prop),Inv X pins σ H s->t σ H Q->wpAny (model X.prog X.w) X.A (spliced (backTo pos (starEach es X.env))) (AP X pins σ Q) X.xe s
def PS(X:Cx)(st:Stmt)(t:TS):Prop :=
 ∀(pins:List (Addr×Obj)) (s:Shared) (σ:St) (H:Hp) (D:Ends),Inv X pins σ H s->t D σ H->wpAny (model X.prog X.w) X.A (exec st X.env) (SP X pins D) X.xe s
def PSs(X:Cx)(st:List Stmt)(t:TS):Prop :=
 ∀(pins:List (Addr×Obj)) (s:Shared) (σ:St) (H:Hp) (D:Ends),Inv X pins σ H s->t D σ H->wpAny (model X.prog X.w) X.A (execs st X.env) (SP X pins D) X.xe s
theorem thn{α:Type}{t:Sem α}{Q b:α->Shared->Prop}{M:Model}{A:Around}{E:Value->Shared->Prop}{s:Shared}(h:wpAny M A t Q E s)(c:∀a s,Q a s->b a s):wpAny M A t b E s:=cw h c λ_ _ x=>x
section
variable {X:Cx}
def a0a(i:Nat):TE:=λσ H Q=>∃v,σ[i]?=some (some v)/\Q v H
def tC(v:V):TE:=λ_ H Q=>Q v H
theorem b6E{i:Nat}{x:Str}{pos:Pos}(g:X.N[i]?=some x)(o:Vis X.env.scope x)(hd:(x==("__debug__" : Str))=false:=by decide)(d:(x==("__classdict__" : Str))=false:=by decide):PE X (.Name x pos) (a0a i):=by
 intro pins s σ H Q I h;obtain⟨v,e,h⟩:=h;obtain⟨m,n,j⟩:=I.loc;obtain⟨u,r,l⟩:=j i x v g e o;have fin:EP X pins σ Q u s:=⟨v,H,I,r,h⟩;rcases l with⟨b,k⟩|⟨b,c,f,a⟩
 .exact wpAny_Name (wpAny_loadName_local I.ok.kind b n k fin) hd
 .rcases b with b|b
  .exact wpAny_Name (wpAny_loadName_cell I.ok.kind b f a fin) hd
  .exact wpAny_Name (wpAny_loadName_free I.ok.kind b f a fin d) hd
theorem b6L{i j pos}:PE X (.Constant (.int i) j pos) (tC (.int i)):=λ_ _ _ H _ I h=>wpAny_Constant_int ⟨.int i,H,I.tok _,⟨_,rfl⟩,h⟩
theorem b8t{b j pos}:PE X (.Constant (.bool b) j pos) (tC (.bl b)):=λ_ _ _ H _ I h=>Constant_bool ⟨.bl b,H,I,rfl,h⟩
theorem b6J{j pos}:PE X (.Constant .none j pos) (tC .non):=λ_ _ _ H _ I h=>Constant_none ⟨.non,H,I,rfl,h⟩
theorem b6G{x j pos}:PE X (.Constant (.str x) j pos) (tC (.str x)):=λ_ _ _ H _ I h=>Calls.Constant_str ⟨.str x,H,I.tok _,⟨_,rfl⟩,h⟩
def Gl(X:Cx)(x:Str):Prop:=X.env.kindOf x=some .globalImplicit
theorem O7{E:Value->Shared->Prop}{pins:List (Addr×Obj)}{s:Shared}{σ:St}{H:Hp}{x:Str}{u:Value}{pos:Pos}{Q:Value->Shared->Prop}(I:Inv X pins σ H s)(a:Gl X x)(b:X.mg x=some u)(h:Q u s)
  (hd:(x==("__debug__" : Str))=false:=by decide):wpAny (model X.prog X.w) X.A (eval (.Name x pos) X.env) Q E s :=
 Calls.Name_function_global I.ok.kind a (Calls.loadGlobal_global (by rw[I.ok.glob];exact I.mod.glob.keeps I.bk) b h) hd
theorem a2J{E:Value->Shared->Prop}{pins:List (Addr×Obj)}{s:Shared}{σ:St}{H:Hp}{x:Str}{u:Value}{pos:Pos}{Q:Value->Shared->Prop}(I:Inv X pins σ H s)(a:Gl X x)(b:X.mg x=none)(d:bootBuiltins x=some u)(h:Q u s)
  (c:x≠"__name__":=by decide) (hd:(x==("__debug__" : Str))=false:=by decide):wpAny (model X.prog X.w) X.A (eval (.Name x pos) X.env) Q E s:=by
 obtain⟨e,h1,h2⟩:=I.mod.blt;exact Calls.Name_function_global I.ok.kind a (Calls.loadGlobal_builtin (by rw[I.ok.glob];exact I.mod.glob.keeps I.bk) b (by rw[I.ok.blt];exact h1.keeps I.bk) ((h2 x c).trans d) h) hd
theorem b4w{x:Str}{v:V}{u:Value}{pos:Pos}(a:Gl X x)(b:X.mg x=some u)(r:RelV v u)(hd:(x==("__debug__" : Str))=false:=by decide):PE X (.Name x pos) (tC v) :=
 λ_ _ _ H _ I h=>O7 I a b ⟨v,H,I,r,h⟩ hd
theorem b4z{x:Str}{v:V}{u:Value}{pos:Pos}(a:Gl X x)(b:X.mg x=none)(d:bootBuiltins x=some u)(r:RelV v u)(c:x≠"__name__":=by decide)(hd:(x==("__debug__" : Str))=false:=by decide):PE X (.Name x pos) (tC v) :=
 λ_ _ _ H _ I h=>a2J I a b d ⟨v,H,I,r,h⟩ c hd
variable {a b:Expr}{ta tb:TE}{pos:Pos}
def PC(X:Cx)(op:CmpOp)(a b:Expr)(t:TE):Prop :=
 ∀(pins:List (Addr×Obj)) (s:Shared) (σ:St) (H:Hp) (Q:VK),Inv X pins σ H s->t σ H Q ->
  wpAny (model X.prog X.w) X.A (eval a X.env) (λv s₁=>wpAny (model X.prog X.w) X.A (eval b X.env) (λu s₂=>wpAny (model X.prog X.w) X.A (compareOp op v u) (EP X pins σ Q) X.xe s₂) X.xe s₁) X.xe s
def tB(t:TE):TT:=λσ H Q=>t σ H λx H1=>∃c,x=.bl c/\Q c H1
theorem b6N{c:CmpOp}{t:TE}(h:PC X c a b t)(h1:behindInMarks c b=false:=by first|exact nobehind _ (by decide) (by decide)|rfl):PE X (.Compare a [c] [b] pos) t:=λpins s σ H Q I hw=>wpAny_Compare1 (h pins s σ H Q I hw) h1
theorem b6u{e:CmpOp}{t:TE}(h:PC X e a b t)(h1:behindInMarks e b=false:=by first|exact nobehind _ (by decide) (by decide)|rfl):PT X (.Compare a [e] [b] pos) (tB t):=by
 intro pins s σ H Q I hw;refine wpAny_isTrue_Compare1 (thn (h pins s σ H _ I hw) λv s1 h1=>thn h1 λu s2 h2=>thn h2 λc i ⟨x,H1,f,g,q1⟩=>?_) h1;obtain⟨d,rfl,q⟩:=q1;cases g;exact di ⟨H1,f,q⟩
variable {tA tB':TT}{rest:List Expr}
def b8e(t u:TT):TT:=λσ H Q=>t σ H λc H1=>if c=true then u σ H1 Q else Q false H1
def tOr(t u:TT):TT:=λσ H Q=>t σ H λc H1=>if c=true then Q true H1 else u σ H1 Q
def b7Z(t:TT):TT:=λσ H Q=>t σ H λc H1=>Q (!c) H1
theorem pw_and1(b:PT X a tA):PW X (.BoolOp .And [a] pos) tA:=by
 intro d pins s σ H Q I h;refine isTrue_and (thn (b pins s σ H Q I h) λc s1 e=>?_);cases c with
 |true=>exact isTrue_and_nil e
 |false=>exact e
theorem pw_or1(b:PT X a tA):PW X (.BoolOp .Or [a] pos) tA:=by
 intro d pins s σ H Q I h;refine isTrue_or (thn (b pins s σ H Q I h) λc s1 e=>?_);cases c with
 |false=>exact isTrue_or_nil e
 |true=>exact e
theorem pw_and(e:PT X a tA)(f:PW X (.BoolOp .And (b::rest) pos) tB'):PW X (.BoolOp .And (a::b::rest) pos) (b8e tA tB'):=by
 intro g pins s σ H Q I h;refine isTrue_and (thn (e pins s σ H _ I h) λc s1 ⟨H1,d,q1⟩=>?_);cases c with
 |true=>exact f g pins s1 σ H1 Q d q1
 |false=>exact⟨H1,d,q1⟩
theorem pw_or(e:PT X a tA)(f:PW X (.BoolOp .Or (b::rest) pos) tB'):PW X (.BoolOp .Or (a::b::rest) pos) (tOr tA tB'):=by
 intro g pins s σ H Q I h;refine isTrue_or (thn (e pins s σ H _ I h) λc s1 ⟨H1,d,q1⟩=>?_);cases c with
 |true=>exact⟨H1,d,q1⟩
 |false=>exact f g pins s1 σ H1 Q d q1
theorem b6t(b:PT X a tA):PT X (.UnaryOp .Not a pos) (b7Z tA):=by
 intro pins s σ H Q I h;exact isTrue_not (b pins s σ H (λc H1=>Q (!c) H1) I h)
def b5z(ta tb:TE):TE:=λσ H Q=>ta σ H λx H1=>∃c,x=.bl c/\if c=true then tb σ H1 Q else Q (.bl false) H1
def b7Y(ta tb:TE):TE:=λσ H Q=>ta σ H λx H1=>∃c,x=.bl c/\if c=true then Q (.bl true) H1 else tb σ H1 Q
def b5u(ta:TE):TE:=λσ H Q=>ta σ H λx H1=>∃c,x=.bl c/\Q (.bl (!c)) H1
theorem b6H{op}{t:TE}(h:PE X a t):PE X (.BoolOp op [a] pos) t:=λpins s σ H Q I hw=>BoolOp_one (h pins s σ H Q I hw)
theorem b6O(e:PE X a ta)(f:PE X (.BoolOp .And (b::rest) pos) tb):PE X (.BoolOp .And (a::b::rest) pos) (b5z ta tb):=by
 intro pins s σ H Q I h;refine BoolOp_and (thn (e pins s σ H _ I h) λv s1 ⟨x,H1,d,g,q1⟩=>?_);obtain⟨c,rfl,q1⟩:=q1;cases g;refine di ?_;cases c with
 |true=>exact f pins s1 σ H1 Q d q1
 |false=>exact⟨.bl false,H1,d,rfl,q1⟩
theorem b8r(e:PE X a ta)(f:PE X (.BoolOp .Or (b::rest) pos) tb):PE X (.BoolOp .Or (a::b::rest) pos) (b7Y ta tb):=by
 intro pins s σ H Q I h;refine BoolOp_or (thn (e pins s σ H _ I h) λv s1 ⟨x,H1,d,g,q1⟩=>?_);obtain⟨c,rfl,q1⟩:=q1;cases g;refine di ?_;cases c with
 |false=>exact f pins s1 σ H1 Q d q1
 |true=>exact⟨.bl true,H1,d,rfl,q1⟩
theorem b6I(d:PE X a ta):PE X (.UnaryOp .Not a pos) (b5u ta):=by
 intro pins s σ H Q I h;refine UnaryOp_ (thn (d pins s σ H _ I h) λv s1 ⟨x,H1,b,e,q1⟩=>?_);obtain⟨c,rfl,q1⟩:=q1;cases e;exact not_of (di ⟨.bl (!c),H1,b,rfl,q1⟩)
def tIf(t:TT)(ta tb:TE):TE:=λσ H Q=>t σ H λc H1=>if c=true then ta σ H1 Q else tb σ H1 Q
theorem b1X{c:Expr}(i:PT X c tA)(f:PE X a ta)(g:PE X b tb):PE X (.IfExp c a b pos) (tIf tA ta tb):=by
 intro pins s σ H Q I h;refine wpAny_IfExp (thn (i pins s σ H _ I h) λd s1 ⟨H1,e,q1⟩=>?_);cases d with
 |true=>exact f pins s1 σ H1 Q e q1
 |false=>exact g pins s1 σ H1 Q e q1
end
def SqL(K:PySem.W.Frag)(H:Hp)(a:Addr)(xs:List V):Prop :=
 Rd H a (.lst xs) ∨
  ∃(o:Obj) (its:Array Value) (n:Nat),K.lookup a=some o/\o.cls=.type "list"/\o.dict=none/\o.data=.seq its n/\its.size<=sizeLine/\Vals xs its.toList
def SqT(K:PySem.W.Frag)(H:Hp)(a:Addr)(xs:List V):Prop :=
 Rd H a (.tup xs) ∨
  ∃(o:Obj) (its:Array Value) (n:Nat),K.lookup a=some o/\o.cls=.type "tuple"/\o.data=.seq its n/\its.size<=sizeLine/\Vals xs its.toList
noncomputable def b8Y:Value->Option V
 |.none=>some .non
 |.bool b=>some (.bl b)
 |.int i _=>some (.int i)
 |.str x _=>some (.str x)
 |.bytes b _=>some (.byt b)
 |.float b _=>some (.flt b)
 |.ref a=>some (.ref a)
 |.type n=>some (.ty n)
 |_=>none
theorem RelV.abs{x:V}{u:Value}(r:RelV x u):b8Y u=some x:=by
 cases x with
 |non=>cases r;rfl
 |bl _=>cases r;rfl
 |int _=>obtain⟨t,rfl⟩:=r;rfl
 |str _=>obtain⟨t,rfl⟩:=r;rfl
 |byt _=>obtain⟨t,rfl⟩:=r;rfl
 |flt _=>obtain⟨t,rfl⟩:=r;rfl
 |ref _=>cases r;rfl
 |ty _=>cases r;rfl
theorem RelV.inj{x y:V}{u:Value}(r:RelV x u)(q:RelV y u):x=y:=bC (r.abs.symm.trans q.abs)
theorem Vals.inj:∀{xs ys:List V}{us:List Value},Vals xs us->Vals ys us->xs=ys
 |_,_,_,.nil,.nil=>rfl
 |_,_,_,.cons r t,.cons r' t'=>by rw[r.inj r',Vals.inj t t']
section
variable {X:Cx}{pins:List (Addr×Obj)}{σ:St}{H:Hp}{s:Shared}{a:Addr}{xs ys:List V}
theorem SqL.of{K:PySem.W.Frag}(h:H a=some (.lst xs)):SqL K H a xs:=.inl (.inl h)
theorem SqT.of{K:PySem.W.Frag}(h:H a=some (.tup xs)):SqT K H a xs:=.inl (.inl h)
theorem Inv.list(I:Inv X pins σ H s)(h:SqL X.K H a xs):∃its:List Value,Vals xs its/\PlainL s.heap a its.toArray/\xs.length<=sizeLine:=by
 rcases h with h|⟨o,its,n,c,b,hd,hs,d,r⟩
 .obtain⟨z,its,n,r,e⟩:=h.ok I.hok;exact⟨its,r,⟨_,n,e,rfl,rfl,rfl⟩,z⟩
 .refine⟨its.toList,r,⟨o,n,I.kIn a o c,b,hd,by simpa using hs⟩,?_⟩;have e:=r.length;simp only[ax]at e;omega
theorem Inv.tuple(I:Inv X pins σ H s)(h:SqT X.K H a xs):∃its:List Value,Vals xs its/\IsTup s.heap a its.toArray/\xs.length<=sizeLine:=by
 rcases h with h|⟨o,its,n,c,b,hs,d,r⟩
 .obtain⟨z,its,r,p⟩:=h.ok I.hok;exact⟨its,r,p,z⟩
 .refine⟨its.toList,r,⟨o,I.kIn a o c,b,n,by simpa using hs⟩,?_⟩;have e:=r.length;simp only[ax]at e;omega
theorem Inv.list_inj(I:Inv X pins σ H s)(h:SqL X.K H a xs)(h':SqL X.K H a ys):xs=ys:=by
 obtain⟨its,r,⟨o,n,e,_,_,d⟩,_⟩:=I.list h;obtain⟨b,g,⟨o',i,f,_,_,c⟩,_⟩:=I.list h';rw[e]at f;cases f;rw[d]at c;injection c with d1 _
 have:its=b:=by simpa using aO Array.toList d1
 subst this;exact r.inj g
theorem Inv.tuple_inj(I:Inv X pins σ H s)(h:SqT X.K H a xs)(h':SqT X.K H a ys):xs=ys:=by
 obtain⟨its,r,⟨o,e,_,n,d⟩,_⟩:=I.tuple h;obtain⟨b,g,⟨o',f,_,i,c⟩,_⟩:=I.tuple h';rw[e]at f;cases f;rw[d]at c;injection c with d1 _
 have:its=b:=by simpa using aO Array.toList d1
 subst this;exact r.inj g
end
noncomputable abbrev Cx.wish(X:Cx)(E:Value->Shared->Prop):Cx:={X with xe:=E}
noncomputable abbrev Cx.nox(X:Cx):Cx:=X.wish λ_ _=>False
theorem Cx.Ok.wish{X:Cx}(ok:X.Ok)(E:Value->Shared->Prop):(X.wish E).Ok :=
 ⟨ok.mod,ok.kind,ok.glob,ok.blt,ok.above,ok.inj,ok.has,ok.cab,ok.hd,ok.frames,ok.stk,ok.exf,ok.bs,ok.bsz,ok.noex,ok.exfs,ok.funs,ok.frf⟩
theorem Cx.Ok.unwish{X:Cx}{E:Value->Shared->Prop}(ok:(X.wish E).Ok):X.Ok :=
 ⟨ok.mod,ok.kind,ok.glob,ok.blt,ok.above,ok.inj,ok.has,ok.cab,ok.hd,ok.frames,ok.stk,ok.exf,ok.bs,ok.bsz,ok.noex,ok.exfs,ok.funs,ok.frf⟩
section
variable {X:Cx}{pins:List (Addr×Obj)}{σ:St}{H:Hp}{s:Shared}{E:Value->Shared->Prop}
theorem Inv.wish(I:Inv X pins σ H s)(E:Value->Shared->Prop):Inv (X.wish E) pins σ H s:=⟨I.ok.wish E,I.os,I.bare,I.base,I.loc,I.cell,I.free,I.freeC,I.pin,I.hok,I.len⟩
theorem Inv.unwish(I:Inv (X.wish E) pins σ H s):Inv X pins σ H s:=⟨I.ok.unwish,I.os,I.bare,I.base,I.loc,I.cell,I.free,I.freeC,I.pin,I.hok,I.len⟩
theorem SP.unwish{D:Ends}{f:Flow}{s':Shared}(h:SP (X.wish E) pins D f s'):SP X pins D f s':=by
 cases f with
 |next=>obtain⟨σ',H',I,q⟩:=h;exact⟨σ',H',I.unwish,q⟩
 |brk=>obtain⟨σ',H',I,q⟩:=h;exact⟨σ',H',I.unwish,q⟩
 |cont=>obtain⟨σ',H',I,q⟩:=h;exact⟨σ',H',I.unwish,q⟩
 |ret u=>obtain⟨v,σ',H',I,r,q⟩:=h;exact⟨v,σ',H',I.unwish,r,q⟩
theorem PSs.nox{st:List Stmt}{t:TS}(h:PSs X.nox st t):PSs X st t:=λpins s σ H D I hw =>
 cw (h pins s σ H D (I.wish _) hw) (λ_ _ q=>q.unwish) λ_ _ z=>False.elim z
end
section
variable {X:Cx}{st:Stmt}{rest:List Stmt}{t u:TS}{e:Expr}{te:TE}{pos:Pos}
def b5v:TS:=λD σ H=>D.nx σ H
def b6i(t u:TS):TS:=λD σ H=>t {D with nx:=u D} σ H
theorem b4g:PSs X [] b5v:=λ_ _ σ H _ I h=>c_ ⟨σ,H,I,h⟩
theorem b1J(h1:PS X st t)(h2:PSs X rest u):PSs X (st::rest) (b6i t u):=by
 intro pins s σ H D I h;refine fE (thn (h1 pins s σ H {D with nx:=u D} I h) λf s1 q=>?_);cases f with
 |next =>
  obtain⟨σ',H',a,q⟩:=q;exact h2 pins s1 σ' H' D a q
 |ret v=>exact q
 |brk=>exact q
 |cont=>exact q
theorem b4f(h1:PS X st t):PSs X [st] t:=by
 intro pins s σ H D I h;refine fE (thn (h1 pins s σ H D I h) λf s1 q=>?_);cases f with
 |next=>exact c_ q
 |ret v=>exact q
 |brk=>exact q
 |cont=>exact q
def b1c:TS:=λD σ H=>D.bk σ H
theorem b1O:PS X (.Break pos) b1c:=λ_ _ σ H _ I h=>wpAny_Break ⟨σ,H,I,h⟩
theorem Inv.quiet{pins:List (Addr×Obj)}{σ:St}{H:Hp}{s:Shared}(I:Inv X pins σ H s):interactive X.env=false:=by simp[interactive,I.ok.kind]
def b5x(te:TE):TS:=λD σ H=>te σ H λ_ H1=>D.nx σ H1
theorem b4i(b:PE X e te)(hs:swapsWith e none pos.line X.env=pure false:=by rfl):PS X (.Expr e pos) (b5x te):=by
 intro pins s σ H D I h;exact wpAny_Expr_any (thn (b pins s σ H _ I h) λv s1 ⟨x,H1,a,c,q1⟩=>⟨σ,H1,a,q1⟩) I.quiet hs
def b6j(te:TE):TS:=λD σ H=>te σ H D.rt
theorem b6w(b:PE X e te):PS X (.Return (some e) pos) (b6j te):=by
 intro pins s σ H D I h;exact wpAny_Return_some (thn (b pins s σ H _ I h) λv s1 ⟨x,H1,a,c,q1⟩=>⟨x,σ,H1,a,c,q1⟩)
def b9b:TS:=λD _ H=>D.rt .non H
def b8a(c:TT)(t u:TS):TS:=λD σ H=>c σ H λb H1=>if b=true then t D σ H1 else u D σ H1
theorem b8o{c:Expr}{a b:List Stmt}{tc:TT}(i:PT X c tc)(f:PSs X a t)(g:PSs X b u):PS X (.If c a b pos) (b8a tc t u):=by
 intro pins s σ H D I h;refine wpAny_If (thn (i pins s σ H _ I h) λd s1 ⟨H1,e,q1⟩=>?_);cases d with
 |true=>exact f pins s1 σ H1 D e q1
 |false=>exact g pins s1 σ H1 D e q1
end
abbrev TG:=V->St->Hp->(St->Hp->Prop)->Prop
abbrev TGs:=List V->St->Hp->(St->Hp->Prop)->Prop
def PG(X:Cx)(target:Expr)(t:TG):Prop :=
 ∀(pins:List (Addr×Obj)) (s:Shared) (σ:St) (H:Hp) (v:V) (u:Value) (Q:St->Hp->Prop),Inv X pins σ H s->RelV v u->t v σ H Q ->
  wpAny (model X.prog X.w) X.A (assign target X.env u) (λ_ s'=>∃σ' H',Inv X pins σ' H' s'/\Q σ' H') X.xe s
def PGs(X:Cx)(ts:List Expr)(t:TGs):Prop :=
 ∀(pins:List (Addr×Obj)) (s:Shared) (σ:St) (H:Hp) (vs:List V) (us:List Value) (Q:St->Hp->Prop),Inv X pins σ H s->Vals vs us->t vs σ H Q ->
  wpAny (model X.prog X.w) X.A (assignInOrder ((assignEach ts X.env).map (·.2)) us) (λ_ s'=>∃σ' H',Inv X pins σ' H' s'/\Q σ' H') X.xe s
abbrev b7O:=V->V->V->Hp->(Hp->Prop)->Prop
def b8J(X:Cx)(t:b7O):Prop :=
 ∀(pins:List (Addr×Obj)) (s:Shared) (σ:St) (H:Hp) (o i v:V) (ov iv u:Value) (Q:Hp->Prop),Inv X pins σ H s->RelV o ov->RelV i iv->RelV v u->t o i v H Q ->
  wpAny (model X.prog X.w) X.A (setItem ov iv u) (λ_ s'=>∃H',Inv X pins σ H' s'/\Q H') X.xe s
abbrev TIp:=V->V->Hp->VK->Prop
section
variable {X:Cx}{pos:Pos}
def B0(i:Nat):TG:=λv σ H Q=>Q (σ.set i (some v)) H
theorem b4t{i:Nat}{x:Str}(b:X.N.Nodup)(hi:X.N[i]?=some x)(d:Loc X.env.scope x)(c:X.fn x=true∨X.env.scope.names.lookup x=some .local:=by first|exact .inl rfl|exact .inr rfl|assumption):PG X (.Name x pos) (B0 i):=by
 intro pins s σ H v u Q I r h;exact wpAny_assign_Name (a0x I b hi d r (λs' a=>⟨_,H,a,h⟩) c)
def b0m:TGs:=λvs σ H Q=>vs=[]/\Q σ H
def a0i(t:TG)(u:TGs):TGs:=λvs σ H Q=>∃v r,vs=v::r/\t v σ H λσ' H'=>u r σ' H' Q
theorem b4r:PGs X [] b0m:=by
 intro pins s σ H vs a Q I r h;obtain⟨e,h⟩:=h;subst e;cases r;exact assignInOrder_nil ⟨σ,H,I,h⟩
theorem b1V{e:Expr}{es:List Expr}{t:TG}{u:TGs}(h1:PG X e t)(h2:PGs X es u)
  (hs:(assignEach (e::es) X.env).map (·.2)=assign e X.env::(assignEach es X.env).map (·.2):=by rfl):PGs X (e::es) (a0i t u):=by
 intro pins s σ H vs c Q I r h;obtain⟨v,d,b,h⟩:=h;subst b;cases r with
 |cons r rr =>
  rw[hs];refine assignInOrder_cons (thn (h1 pins s σ H _ _ _ I r h) λ_ s1 ⟨σ1,H1,a,q1⟩=>?_);exact h2 pins s1 σ1 H1 _ _ Q a rr q1
def a7D(K:PySem.W.Frag)(n:Nat)(t:TGs):TG:=λv σ H Q=>∃a xs,v=.ref a/\SqT K H a xs/\xs.length=n/\t xs σ H Q
theorem b6C{es:List Expr}{k:Nat}{t:TGs}{n:Nat}(i:X.calm=true)(h:PGs X es t)
  (l:(assignEach es X.env).length=n:=by rfl) (c:(assignEach es X.env).findIdx? (·.1)=none:=by rfl):PG X (.Tuple es k pos) (a7D X.K n t):=by
 intro pins s σ H v u Q I r hw;obtain⟨a,xs,g,m,j,hw⟩:=hw;subst g;cases r;obtain⟨its,d,p,w⟩:=I.tuple m;refine assign_Tuple_tuple (I.ok.hd i) p (by simp[l,<-j,d.length]) c λh' q=>?_;have f:Inv X pins σ H {s with heap:=h'}:=I.kept (t':=s.toks) λb o e=>q b o (aM (aG e)) e;exact h pins _ σ H xs _ Q f (by simpa using d) hw
def b8G(to ti:TE)(t:b7O):TG:=λv σ H Q=>to σ H λo H1=>ti σ H1 λi H2=>t o i v H2 λH3=>Q σ H3
theorem b6D{o i:Expr}{to c:TE}{t:b7O}(k:PE X o to)(hi:PE X i c)(hs:b8J X t)
  (j:∀v,assign (.Subscript o i pos) X.env v=(do
   let a <-holding [v] (eval o X.env)
   let b <-holding [v,a] (eval i X.env)
   standAt pos
   holding [v,a,b] (setItem a b v)
   release [v,a,b] []):=by intro _;rfl):PG X (.Subscript o i pos) (b8G to c t):=by
 intro pins s σ H v u Q I r h;rw[j];refine aa (cc (thn (k pins s σ H _ I h) λa s1 ⟨x,H1,e,n,q1⟩=>?_));refine aa (cc (thn (hi pins s1 σ H1 _ e q1) λb s2 ⟨y,H2,f,p,l⟩=>?_));refine aa (wpAny_standAt (aa (cc (thn (hs pins s2 σ H2 x y v a b u _ f n p r l) λ_ q ⟨d,g,m⟩=>?_))));exact wpAny_release ⟨σ,d,g,m⟩
def a9x(te:TE)(g:TG):TS:=λD σ H=>te σ H λx H1=>g x σ H1 D.nx
theorem b6z{tg e:Expr}{te:TE}{g:TG}(b:PE X e te)(c:PG X tg g)(hs:swapsWithSole [tg] e pos.line X.env=pure false:=by rfl)(hw:swappedStores [tg] e X.env=pure none:=by rfl)
  (h1:(assignEach [tg] X.env).map (·.2)=[assign tg X.env]:=by rfl):PS X (.Assign [tg] e pos) (a9x te g):=by
 intro pins s σ H D I h;refine wpAny_Assign_stores (thn (b pins s σ H _ I h) λv s1 ⟨x,H1,a,d,q1⟩=>?_) hs hw;rw[h1];exact thn (c pins s1 σ H1 x v _ a d q1) λ_ s2 q=>q
theorem b6v{i:Nat}{x:Str}{e:Expr}{te:TE}{pos':Pos}(c:X.N.Nodup)(hi:X.N[i]?=some x)(g:Loc X.env.scope x)(d:PE X e te)(hs:swapsWith e (some (.Name x pos')) pos.line X.env=pure false:=by rfl)(f:X.fn x=true∨X.env.scope.names.lookup x=some .local:=by first|exact .inl rfl|exact .inr rfl|assumption) :
  PS X (.Assign [.Name x pos'] e pos) (a9x te (B0 i)):=by
 intro pins s σ H D I h;refine wpAny_Assign_Name (thn (d pins s σ H _ I h) λv s1 ⟨y,H1,a,j,q1⟩=>?_) hs;exact a0x a c hi g j (λs2 b=>⟨_,H1,b,q1⟩) f
def ipI(f:Int->Int->Int):TIp:=λx y H Q=>∃i j,x=.int i/\y=.int j/\Q (.int (f i j)) H
def b0W(c:TT)(tb:TS):TS:=λD σ H=>∃W:Nat->St->Hp->Prop,(∃m,W m σ H)/\∀m σ H,W m σ H ->
 c σ H λb H1=>if b=true then ∃N:St->Hp->Prop,(∀σ' H',N σ' H'->∃m',m'<m/\W m' σ' H')/\tb {D with nx:=N,ct:=N,bk:=D.nx} σ H1 else D.nx σ H1
theorem b1K{c:Expr}{body:List Stmt}{tc:TT}{tb:TS}(hp:PassesOwn (model X.prog X.w) X.A X.env X.xe)(t:PT X c tc)(r:PSs X body tb):PS X (.While c body [] pos) (b0W tc tb):=by
 intro pins s σ H D I h;obtain⟨W,⟨u,w⟩,d⟩:=h;refine wpAny_While (codeAny_whileLoop (λn s'=>∃σ' H',Inv X pins σ' H' s'/\W n σ' H') ?_ u ⟨σ,H,I,w⟩);rintro n s1 ⟨σ1,H1,q,x⟩;refine dE hp (thn (t pins s1 σ1 H1 _ q (d n σ1 H1 x)) λb s2 ⟨H2,o,e⟩=>?_);cases b with
 |true =>
  obtain⟨N,p,e⟩:=e;rw[ay rfl];refine dE hp (thn (r pins s2 σ1 H2 _ o e) λf y g=>?_);cases f with
  |next =>
   obtain⟨σ3,a,i,l⟩:=g;obtain⟨k,j,m⟩:=p σ3 a l;exact⟨k,j,σ3,a,i,m⟩
  |cont =>
   obtain⟨σ3,a,i,l⟩:=g;obtain⟨k,j,m⟩:=p σ3 a l;exact⟨k,j,σ3,a,i,m⟩
  |brk=>exact g
  |ret v=>exact g
 |false =>
  rw[ar aS];exact c_ ⟨σ1,H2,o,e⟩
end
structure It where
 go:Nat->Hp->Prop
 yld:Nat->Hp->V->Hp->Prop
 stop:Nat->Hp->Prop
def a1s(X:Cx)(pins:List (Addr×Obj))(H:Hp)(b:Addr):Prop :=
 H b=none/\b≠X.env.locals/\b∉X.fs/\(b∈X.ex∨X.s₀.heap.objs.size<=b)/\(∀x c,X.env.cells.lookup x=some c->c≠b)/\∀p∈X.pn++pins,p.1≠b
theorem Inv.fpOk{X:Cx}{pins:List (Addr×Obj)}{σ:St}{H H':Hp}{s:Shared}{b:Addr}(I:Inv X pins σ H s)(a:s.heap.objs.size<=b)(d:H' b=none):a1s X pins H' b:=by
 refine⟨d,dr (aE I.lt a),I.nofs a,.inr (bf I.sz a),λx c e z=>?_,λp f z=>?_⟩
 .obtain⟨v,q⟩:=I.cell x c e;exact absurd (aE q.lt (by rw[z];exact a)) (bW _)
 .exact absurd (aE (aG (I.pin p f).1) (by rw[z];exact a)) (bW _)
structure Turn(P:Program)(w:World)(K:PySem.W.Frag)(tg:Expr)(J:It)(fp:List Addr)(it:Addr)(tn:Nat->Heap->Prop):Prop where
 mem:it∈fp
 obj:∀i h,tn i h->∀b∈fp,∃o,h.get? b=some o/\∀v,o.data≠.cell v
 keep:∀i h h',tn i h->(∀b∈fp,∀o,h.get? b=some o->h'.get? b=some o)->tn i h'
 item:∀(X:Cx),X.prog=P->X.w=w->X.K=K->X.calm=true->∀(i:Nat) (pins:List (Addr×Obj)) (s:Shared) (σ:St) (H:Hp) (E:Value->Shared->Prop),Inv X pins σ H s->(∀b∈fp,a1s X pins H b)->tn i s.heap->J.go i H ->
  wpAny (model P w) X.A (pyNext (.ref it)) (λr s1=>∃u,r=some u /\
   wpAny (model P w) X.A (letOwnedTupleGo tg (.ref it) u) (λ_ s2=>∃x H',Inv X pins σ H' s2/\RelV x u/\J.yld i H x H'/\tn (i+1) s2.heap/\∀b∈fp,H' b=none) E s1) E s
 done:∀(X:Cx),X.prog=P->X.w=w->X.K=K->X.calm=true->∀(i:Nat) (pins:List (Addr×Obj)) (s:Shared) (σ:St) (H:Hp) (E:Value->Shared->Prop),Inv X pins σ H s->(∀b∈fp,a1s X pins H b)->tn i s.heap->J.stop i H ->
  wpAny (model P w) X.A (pyNext (.ref it)) (λr s1=>r=none/\Inv X pins σ H s1) E s
 self:∀(A:Around) (i:Nat) (s:Shared) (Q:Value->Shared->Prop) (E:Value->Shared->Prop),tn i s.heap->Q (.ref it) s->wpAny (model P w) A (pyIter (.ref it)) Q E s
abbrev TI:=St->Hp->(It->Hp->Prop)->Prop
def PIE(X:Cx)(pins:List (Addr×Obj))(σ:St)(tg:Expr)(R:It->Hp->Prop)(itv:Value)(s2:Shared):Prop :=
 ∃(it:Addr) (fp:List Addr) (tn:Nat->Heap->Prop) (J:It) (H':Hp),itv=.ref it/\Inv X pins σ H' s2/\Turn X.prog X.w X.K tg J fp it tn/\tn 0 s2.heap/\(∀b∈fp,a1s X pins H' b)/\R J H'
def PI(X:Cx)(tg iter:Expr)(wi:TI):Prop :=
 ∀(pins:List (Addr×Obj)) (s:Shared) (σ:St) (H:Hp) (R:It->Hp->Prop),Inv X pins σ H s->wi σ H R ->
  wpAny (model X.prog X.w) X.A (eval iter X.env) (λv s1=>wpAny (model X.prog X.w) X.A (pyIter v) (PIE X pins σ tg R) X.xe s1) X.xe s
theorem b2X{M:Model}{A:Around}{E:Value->Shared->Prop}{s:Shared}{tg:Expr}{it:Addr}{u:Value}{o:Obj}{n:String}{vs:Array Value}{Q:Unit->Shared->Prop}(d:s.heap.get? it=some o)(b:o.cls=.type n)(hd:o.data=.fields vs)
  (c:["enumerate","zip","dict_itemiterator","dict_reverseitemiterator","odict_iterator","itertools.zip_longest","itertools.pairwise"].contains n=false) (a:Q () s):wpAny M A (letOwnedTupleGo tg (.ref it) u) Q E s:=by
 unfold letOwnedTupleGo;cases tg<;>first
  |exact ae a
  | (cases u <;> first
    |exact ae a
    | (refine aa (wpAny_load d ?_)
       rw[b,hd];show wpAny M A (if (["enumerate","zip","dict_itemiterator","dict_reverseitemiterator","odict_iterator","itertools.zip_longest","itertools.pairwise"].contains n && vs[0]? == some (rawInt _))=true then _ else _) Q E s;rw[ar (by intro h;rw[c,Bool.false_and]at h;cases h)];exact ae a))
noncomputable def Itl(K:PySem.W.Frag)(a:Addr):It :=
 ⟨λi H=>∃xs x,SqL K H a xs/\xs[i]?=some x,λi H x H'=>H'=H/\∀xs,SqL K H a xs->xs[i]?=some x,λi H=>∃xs,SqL K H a xs/\xs.length<=i⟩
noncomputable def Itt(K:PySem.W.Frag)(a:Addr):It :=
 ⟨λi H=>∃xs x,SqT K H a xs/\xs[i]?=some x,λi H x H'=>H'=H/\∀xs,SqT K H a xs->xs[i]?=some x,λi H=>∃xs,SqT K H a xs/\xs.length<=i⟩
noncomputable def Itr(lo:Int)(n:Nat):It:=⟨λi _=>i<n,λi H x H'=>H'=H/\x=.int (lo+i),λi _=>n<=i⟩
theorem a9u{P:Program}{w:World}{K:PySem.W.Frag}{tg:Expr}(a it:Addr):Turn P w K tg (Itl K a) [it] it (λi h=>h.IsListIter it a i) where
 mem:=by simp
 obj:=λi h st b f=>by
  have e:b=it:=by simpa using f
  subst e;obtain⟨o,e,c,d⟩:=st;exact⟨o,e,λv z=>by rw[d]at z;cases z⟩
 keep:=λi h h' st k=>st.at λo e=>k it (by simp) o e
 item:=by
  intro X t hw r C i pins s σ H E I g st y;subst t hw r;obtain⟨xs,x,j,A⟩:=y;obtain⟨its,B,p,L⟩:=I.list j;obtain⟨u,G,M⟩:=B.get A;obtain⟨l,f1,f2,m,n,q⟩:=g it (by simp);refine wpAny_pyNext_list_item st p.isList (x:=u) (by simpa using G) λh' st' N=>?_;have D:Inv X pins σ H {s with heap:=h'}:=I.turned (t':=s.toks) (λb o f e=>(N.2 b f).trans e) l f1 m n q;obtain⟨o,e,c,d⟩:=id st';exact⟨u,rfl,b2X (s:={s with heap:=h'}) e c d (by decide) ⟨x,H,D,M,⟨rfl,λys J=>by rw[I.list_inj J j];exact A⟩,st',λb f=>(g b f).1⟩⟩
 done:=by
  intro X t hw r C i pins s σ H E I g st y;subst t hw r;obtain⟨xs,j,A⟩:=y;obtain⟨its,B,p,L⟩:=I.list j;obtain⟨l,f1,f2,m,n,q⟩:=g it (by simp);have O:=B.length;exact wpAny_pyNext_list_end (I.ok.hd C) st p.isList (by simp;omega) λh' F=>⟨rfl,I.turned (t':=s.toks) (λb o f e=>F b o f e) l f1 m n q⟩
 self:=λ_ _ _ _ _ st h=>wpAny_pyIter_listiter st h
theorem a6S{P:Program}{w:World}{K:PySem.W.Frag}{tg:Expr}(a it:Addr):Turn P w K tg (Itt K a) [it] it (λi h=>h.IsTupleIter it a i) where
 mem:=by simp
 obj:=λi h st b f=>by
  have e:b=it:=by simpa using f
  subst e;obtain⟨o,e,c,d⟩:=st;exact⟨o,e,λv z=>by rw[d]at z;cases z⟩
 keep:=λi h h' st k=>st.at λo e=>k it (by simp) o e
 item:=by
  intro X t hw r C i pins s σ H E I g st y;subst t hw r;obtain⟨xs,x,j,A⟩:=y;obtain⟨its,B,p,L⟩:=I.tuple j;obtain⟨u,G,M⟩:=B.get A;obtain⟨l,f1,f2,m,n,q⟩:=g it (by simp);refine wpAny_pyNext_tuple_item st (show s.heap.IsTuple a its.toArray from p) (x:=u) (by simpa using G) λh' st' N=>?_;have D:Inv X pins σ H {s with heap:=h'}:=I.turned (t':=s.toks) (λb o f e=>(N.2 b f).trans e) l f1 m n q;obtain⟨o,e,c,d⟩:=id st';exact⟨u,rfl,b2X (s:={s with heap:=h'}) e c d (by decide) ⟨x,H,D,M,⟨rfl,λys J=>by rw[I.tuple_inj J j];exact A⟩,st',λb f=>(g b f).1⟩⟩
 done:=by
  intro X t hw r C i pins s σ H E I g st y;subst t hw r;obtain⟨xs,j,A⟩:=y;obtain⟨its,B,p,L⟩:=I.tuple j;obtain⟨l,f1,f2,m,n,q⟩:=g it (by simp);have O:=B.length;exact wpAny_pyNext_tuple_end (I.ok.hd C) st (show s.heap.IsTuple a its.toArray from p) (by simp;omega) λh' F=>⟨rfl,I.turned (t':=s.toks) (λb o f e=>F b o f e) l f1 m n q⟩
 self:=λ_ _ _ _ _ st h=>wpAny_pyIter_tupleiter st h
theorem a6T{P:Program}{w:World}{K:PySem.W.Frag}{tg:Expr}(it:Addr)(lo:Int)(n:Nat):Turn P w K tg (Itr lo n) [it] it (λi h=>IsRangeIter h it (lo+(i:Nat)*1) ((n:Int)-(i:Nat)) 1) where
 mem:=by simp
 obj:=λi h st b a=>by
  have e:b=it:=by simpa using a
  subst e;exact⟨_,st,λv z=>by
   have y:Data.fields _=Data.cell v:=z;cases y⟩
 keep:=λi h h' st k=>k it (by simp) _ st
 item:=by
  intro X m hw l p i pins s σ H E I c st q;subst m hw l;obtain⟨d,f1,f2,f,g,j⟩:=c it (by simp);have W:=Walks.range (prog:=X.prog) (w:=X.w) (I.ok.hd p) it lo 1 n;refine W.item i s _ _ q st λv h' tk x st' kk=>?_;obtain⟨t,rfl⟩:=x;have r:Inv X pins σ H {s with heap:=h',toks:=tk}:=I.turned (λb o a e=>kk b o (by simpa using a) e) d f1 f g j;refine⟨_,rfl,b2X (s:={s with heap:=h',toks:=tk}) (n:="range_iterator") st' rfl rfl (by decide) ⟨.int (lo+i),H,r,⟨t,?_⟩,⟨rfl,rfl⟩,st',λb a=>(c b a).1⟩⟩;rw[Int.mul_one]
 done:=by
  intro X m hw l p i pins s σ H E I c st q;subst m hw l;obtain⟨d,f1,f2,f,g,j⟩:=c it (by simp);exact wpAny_pyNext_range_end (I.ok.hd p) st (by have:n<=i:=q;omega) λh' u=>⟨rfl,I.turned (t':=s.toks) (λb o a e=>u b o a e) d f1 f g j⟩
 self:=λ_ _ _ _ _ st h=>wpAny_pyIter_rangeiter st h
section
variable {X:Cx}{tg:Expr}
def b2U(K:PySem.W.Frag)(tl:TE):TI:=λσ H R=>tl σ H λx H1=>∃a,x=.ref a/\(∃xs,SqL K H1 a xs)/\R (Itl K a) H1
def b7x(K:PySem.W.Frag)(tl:TE):TI:=λσ H R=>tl σ H λx H1=>∃a,x=.ref a/\(∃xs,SqT K H1 a xs)/\R (Itt K a) H1
theorem b4q{l:Expr}{tl:TE}(f:PE X l tl):PI X tg l (b2U X.K tl):=by
 intro pins s σ H R I h;refine thn (f pins s σ H _ I h) λv s1 ⟨x,H1,c,i,q1⟩=>?_;obtain⟨a,e,⟨xs,g⟩,q⟩:=q1;subst e;cases i;obtain⟨its,k,p,j⟩:=c.list g;refine wpAny_pyIter_list p.isList ?_;refine⟨s1.heap.objs.size,[s1.heap.objs.size],_,_,H1,rfl,c.kept (t':=s1.toks) λb o e=>ag _ e,a9u a _,⟨_,aJ _ rfl,rfl,rfl⟩,λb d=>?_,q⟩;have e:b=s1.heap.objs.size:=by simpa using d
 subst e;exact c.fpOk (aq _) (c.hok.fresh (aq _))
theorem b6B{l:Expr}{tl:TE}(f:PE X l tl):PI X tg l (b7x X.K tl):=by
 intro pins s σ H R I h;refine thn (f pins s σ H _ I h) λv s1 ⟨x,H1,c,i,q1⟩=>?_;obtain⟨a,e,⟨xs,g⟩,q⟩:=q1;subst e;cases i;obtain⟨its,k,p,j⟩:=c.tuple g;refine wpAny_pyIter_tuple (show s1.heap.IsTuple a its.toArray from p) ?_;refine⟨s1.heap.objs.size,[s1.heap.objs.size],_,_,H1,rfl,c.kept (t':=s1.toks) λb o e=>ag _ e,a6S a _,⟨_,aJ _ rfl,rfl,rfl⟩,λb d=>?_,q⟩;have e:b=s1.heap.objs.size:=by simpa using d
 subst e;exact c.fpOk (aq _) (c.hok.fresh (aq _))
theorem b1A{pins:List (Addr×Obj)}{σ:St}{H:Hp}{s:Shared}{R:It->Hp->Prop}{E:Value->Shared->Prop}{lo hi:Int}{t u v:Tok}{tk:Nat}(I:Inv X pins σ H s)(h1 : -(2 ^ 62)<=lo)(h2:lo<2 ^ 62)(d : -(2 ^ 62)<=hi)(f:hi<2 ^ 62)
  (q:R (Itr lo (hi-lo).toNat) H):wpAny (model X.prog X.w) X.A (pyIter (.ref s.heap.objs.size)) (PIE X pins σ tg R) E {s with heap:=s.heap.push {cls:=.type "range",data:=.fields #[.int lo t,.int hi u,.int 1 v]},toks:=tk}:=by
 refine wpAny_pyIter_range (IsRange.new ..) (small_one h1 h2 d f) ?_;have a:Inv X pins σ H {s with heap:=s.heap.push {cls:=.type "range",data:=.fields #[.int lo t,.int hi u,.int 1 v]},toks:=tk}:=I.kept λb o e=>ag _ e;refine⟨(s.heap.push {cls:=.type "range",data:=.fields #[.int lo t,.int hi u,.int 1 v]}).objs.size,[(s.heap.push {cls:=.type "range",data:=.fields #[.int lo t,.int hi u,.int 1 v]}).objs.size],_,_,H,rfl,
  a.kept (t':=tk) λb o e=>ag _ e,a6T _ lo (hi-lo).toNat,?_,λb g=>?_,q⟩
 .have e1:lo+((0:Nat):Int)*1=lo:=by simp
  have c:(((hi-lo).toNat:Nat):Int)-((0:Nat):Int)=Builtin.Range.rangeSize lo hi 1:=by rw[rangeSize_one];split<;>omega
  show IsRangeIter _ _ (lo+((0:Nat):Int)*1) ((((hi-lo).toNat:Nat):Int)-((0:Nat):Int)) 1;rw[e1,c];exact aJ _ rfl
 .have e:b=(s.heap.push {cls:=.type "range",data:=.fields #[.int lo t,.int hi u,.int 1 v]}).objs.size:=by simpa using g
  subst e;exact a.fpOk (aq _) (a.hok.fresh (aq _))
def b5X(ta:TA):TI:=λσ H R=>ta σ H λvs H1=>∃j:Int,vs=[.int j] /\ -(2 ^ 62)<=j/\j<2 ^ 62/\R (Itr 0 j.toNat) H1
theorem a9Q{a:Expr}{ta:TA}{p pos:Pos}(d:Gl X "range")(f:X.mg "range"=none)(c:PA X [a] ta)(hs:starEach [a] X.env=[(false,eval a X.env)]:=by rfl):PI X tg (.Call (.Name "range" p) [a] [] pos) (b5X ta):=by
 intro pins s σ H R I h;refine Call_ (a2J I d f boot_range (eG (thn (c pos pins s σ H _ I h) λk s1 ⟨vs,H1,b,i,q1⟩=>?_) hs rfl));obtain⟨j,e,q1,g,q⟩:=q1;subst e;cases i with
 |cons r rr =>
  cases rr;obtain⟨t,rfl⟩:=r;exact call_range_1 (b1A b (by omega) (by omega) q1 g (by simpa using q))
def b8b(wi:TI)(g:TG)(tb:TS):TS:=λD σ H=>wi σ H λJ H1=>∃W:Nat->Nat->St->Hp->Prop,(∃m,W 0 m σ H1)/\∀i m σ H,W i m σ H ->
 (J.stop i H/\D.nx σ H)∨(J.go i H/\∃N:St->Hp->Prop,(∀σ' H',N σ' H'->∃m',m'<m/\W (i+1) m' σ' H')/\∀x H',J.yld i H x H'->g x σ H' λσ2 H2=>tb {D with nx:=N,ct:=N,bk:=D.nx} σ2 H2)
noncomputable def a2x(fp:List Addr)(h:Heap):List (Addr×Obj):=fp.filterMap λb=>(h.get? b).map λo=>(b,o)
theorem S9{fp:List Addr}{h:Heap}{b:Addr}{o:Obj}(a:b∈fp)(e:h.get? b=some o):(b,o)∈a2x fp h:=b_.mpr ⟨b,a,by rw[e];rfl⟩
theorem a9Y{fp:List Addr}{h:Heap}{p:Addr×Obj}(hp:p∈a2x fp h):p.1∈fp/\h.get? p.1=some p.2:=by
 obtain⟨b,c,e⟩:=b_.mp hp;cases q:h.get? b with
 |none=>rw[q]at e;cases e
 |some o =>
  rw[q]at e;have a:(b,o)=p:=bC e;subst a;exact⟨c,q⟩
theorem Inv.pinned{pins:List (Addr×Obj)}{σ:St}{H:Hp}{s:Shared}{fp:List Addr}(I:Inv X pins σ H s)(g:∀b∈fp,a1s X pins H b)(h:∀b∈fp,∃o,s.heap.get? b=some o/\∀v,o.data≠.cell v):Inv X (pins++a2x fp s.heap) σ H s :=
 I.pins_of λp i=>(aK.mp i).elim (λz=>I.pin p (aZ _ z)) λz=>by
  obtain⟨c,e⟩:=a9Y z;obtain⟨f,f1,f2,_⟩:=g p.1 c;obtain⟨o,a,d⟩:=h p.1 c;rw[e]at a;cases a;exact⟨e,f,f1,f2,d⟩
theorem Inv.unpinned{pins pl:List (Addr×Obj)}{σ:St}{H:Hp}{s:Shared}(I:Inv X (pins++pl) σ H s):Inv X pins σ H s:=I.pins_of λp a=>I.pin p (aZ _ (aT _ a))
theorem b6x{l:Expr}{body:List Stmt}{S:TI}{g:TG}{tb:TS}{pos:Pos}(hp:PassesOwn (model X.prog X.w) X.A X.env X.xe)(O:X.calm=true)(hi:PI X tg l S)(hg:PG X tg g)(k:PSs X body tb)
  (hs:∀x,foldedSetIterable l X.env x=pure x:=by intro _;rfl):PS X (.For tg l body [] pos) (b8b S g tb):=by
 intro pins s σ H D I h;refine wpAny_For (thn (hi pins s σ H _ I h) λv s1 h1=>thn h1 λa0 s2 h2=>?_) hs;obtain⟨it,fp,R,J,H2,e,V,T,K,f2,W,⟨m0,w0⟩,A⟩:=h2;subst e;have p:∀{H':Hp},(∀b∈fp,H' b=none)->∀b∈fp,a1s X pins H' b:=λhn b k=>⟨hn b k,(f2 b k).2⟩;refine codeAny_forLoop_any (λn s'=>∃i σ' H',Inv X pins σ' H' s'/\R i s'.heap/\(∀b∈fp,H' b=none)/\W i n σ' H') ?_ m0 ⟨0,σ,H2,V,K,λb k=>(f2 b k).1,w0⟩;rintro n P ⟨i,σ3,B,M,z,w,w3⟩;rcases A i n σ3 B w3 with⟨stop,qn⟩|⟨go,N,hN,step⟩
 .refine dE hp (thn (T.done X rfl rfl rfl O i pins P σ3 B X.xe M (p w) z stop) λr s4 ⟨F,Y⟩=>?_);subst F;exact c_ ⟨σ3,B,Y,qn⟩
 .refine dE hp (thn (T.item X rfl rfl rfl O i pins P σ3 B X.xe M (p w) z go) λr s4 ⟨u,F,h4⟩=>?_);subst F;refine dE hp (thn h4 λ_ Q ⟨x,L,Z,r5,y5,t,E⟩=>?_);have C:=Z.pinned (p E) (T.obj _ _ t);refine dE hp (thn (hg _ Q σ3 L x u _ C r5 (step x L y5)) λ_ s6 ⟨σ6,U,I6,q6⟩=>?_);refine dE hp (thn (k _ s6 σ6 U _ I6 q6) λf G q=>?_);have j:∀{σ7:St}{a:Hp},Inv X (pins++a2x fp Q.heap) σ7 a G->N σ7 a->∃m,m<n/\∃i σ' H',Inv X pins σ' H' G/\R i G.heap/\(∀b∈fp,H' b=none)/\W i m σ' H':=λ{σ7 a} c y=>by
   obtain⟨m',hm,w7⟩:=hN σ7 a y;refine⟨m',hm,i+1,σ7,a,c.unpinned,T.keep _ _ _ t λb k o e=>(c.pin (b,o) (aZ _ (aZ _ (S9 k e)))).1,λb k=>?_,w7⟩;obtain⟨o,e,d⟩:=T.obj _ _ t b k;exact(c.pin (b,o) (aZ _ (aZ _ (S9 k e)))).2.1
  cases f with
  |next=>obtain⟨σ7,a,c,y⟩:=q;exact j c y
  |cont=>obtain⟨σ7,a,c,y⟩:=q;exact j c y
  |brk=>obtain⟨σ7,a,c,q⟩:=q;exact⟨σ7,a,c.unpinned,q⟩
  |ret v=>obtain⟨x7,σ7,a,c,r7,q⟩:=q;exact⟨x7,σ7,a,c.unpinned,r7,q⟩
end
theorem Q9{K:PySem.W.Frag}{a:Addr}{xs:List V}{g:TG}{tb:TS}{D:Ends}{σ:St}{H:Hp}(b:Nat->St->Hp->Prop)(h0:b 0 σ H)(f:∀i σ H,i<=xs.length->b i σ H->SqL K H a xs)
  (hs:∀i x σ H,xs[i]?=some x->b i σ H->g x σ H λσ2 H2=>tb {D with nx:=b (i+1),ct:=b (i+1),bk:=D.nx} σ2 H2) (hd:∀σ H,b xs.length σ H->D.nx σ H) :
  ∃W:Nat->Nat->St->Hp->Prop,(∃m,W 0 m σ H)/\∀i m σ H,W i m σ H ->
   ((Itl K a).stop i H/\D.nx σ H)∨((Itl K a).go i H/\∃N:St->Hp->Prop,(∀σ' H',N σ' H'->∃d,d<m/\W (i+1) d σ' H')/\∀x H',(Itl K a).yld i H x H'->g x σ H' λσ2 H2=>tb {D with nx:=N,ct:=N,bk:=D.nx} σ2 H2):=by
 refine⟨λi m σ H=>m=xs.length-i/\i<=xs.length/\b i σ H,⟨xs.length,by simp,bq _,h0⟩,?_⟩;rintro i m σ H ⟨rfl,hi,p⟩;have q:=f i σ H hi p;by_cases c:i<xs.length
 .refine .inr ⟨⟨xs,xs[i],q,by simp[c]⟩,b (i+1),λσ' H' h=>⟨xs.length-(i+1),by omega,rfl,c,h⟩,λx H' y=>?_⟩;obtain⟨e,y⟩:=y;subst e;exact hs i x σ _ (y xs q) p
 .have e:i=xs.length:=by omega
  subst e;exact .inl ⟨⟨xs,q,aq _⟩,hd σ H p⟩
theorem a5a{K:PySem.W.Frag}{a:Addr}{xs:List V}{g:TG}{tb:TS}{D:Ends}{σ:St}{H:Hp}(b:Nat->St->Hp->Prop)(h0:b 0 σ H)(f:∀i σ H,i<=xs.length->b i σ H->SqT K H a xs)
  (hs:∀i x σ H,xs[i]?=some x->b i σ H->g x σ H λσ2 H2=>tb {D with nx:=b (i+1),ct:=b (i+1),bk:=D.nx} σ2 H2) (hd:∀σ H,b xs.length σ H->D.nx σ H) :
  ∃W:Nat->Nat->St->Hp->Prop,(∃m,W 0 m σ H)/\∀i m σ H,W i m σ H ->
   ((Itt K a).stop i H/\D.nx σ H)∨((Itt K a).go i H/\∃N:St->Hp->Prop,(∀σ' H',N σ' H'->∃d,d<m/\W (i+1) d σ' H')/\∀x H',(Itt K a).yld i H x H'->g x σ H' λσ2 H2=>tb {D with nx:=N,ct:=N,bk:=D.nx} σ2 H2):=by
 refine⟨λi m σ H=>m=xs.length-i/\i<=xs.length/\b i σ H,⟨xs.length,by simp,bq _,h0⟩,?_⟩;rintro i m σ H ⟨rfl,hi,p⟩;have q:=f i σ H hi p;by_cases c:i<xs.length
 .refine .inr ⟨⟨xs,xs[i],q,by simp[c]⟩,b (i+1),λσ' H' h=>⟨xs.length-(i+1),by omega,rfl,c,h⟩,λx H' y=>?_⟩;obtain⟨e,y⟩:=y;subst e;exact hs i x σ _ (y xs q) p
 .have e:i=xs.length:=by omega
  subst e;exact .inl ⟨⟨xs,q,aq _⟩,hd σ H p⟩
theorem Z5{lo:Int}{n:Nat}{g:TG}{tb:TS}{D:Ends}{σ:St}{H:Hp}(a:Nat->St->Hp->Prop)(h0:a 0 σ H)
  (hs:∀i σ H,i<n->a i σ H->g (.int (lo+i)) σ H λσ2 H2=>tb {D with nx:=a (i+1),ct:=a (i+1),bk:=D.nx} σ2 H2) (hd:∀σ H,a n σ H->D.nx σ H) :
  ∃W:Nat->Nat->St->Hp->Prop,(∃m,W 0 m σ H)/\∀i m σ H,W i m σ H ->
   ((Itr lo n).stop i H/\D.nx σ H)∨((Itr lo n).go i H/\∃N:St->Hp->Prop,(∀σ' H',N σ' H'->∃c,c<m/\W (i+1) c σ' H')/\∀x H',(Itr lo n).yld i H x H'->g x σ H' λσ2 H2=>tb {D with nx:=N,ct:=N,bk:=D.nx} σ2 H2):=by
 refine⟨λi m σ H=>m=n-i/\i<=n/\a i σ H,⟨n,by simp,bq _,h0⟩,?_⟩;rintro i m σ H ⟨rfl,hi,p⟩;by_cases b:i<n
 .refine .inr ⟨b,a (i+1),λσ' H' d=>⟨n-(i+1),by omega,rfl,b,d⟩,λx H' y=>?_⟩;obtain⟨e,y⟩:=y;subst e y;exact hs i σ _ b p
 .have e:i=n:=by omega
  subst e;exact .inl ⟨aq _,hd σ H p⟩
abbrev R2:=V->V->Hp->VK->Prop
def OpR(X:Cx)(f:Value->Value->Sem Value)(r:R2):Prop :=
 ∀(pins:List (Addr×Obj)) (s:Shared) (σ:St) (H:Hp) (x y:V) (v u:Value) (Q:VK),Inv X pins σ H s->RelV x v->RelV y u->r x y H Q ->
  wpAny (model X.prog X.w) X.A (f v u) (EP X pins σ Q) X.xe s
def UnR(X:Cx)(f:Value->Sem Value)(r:V->Hp->VK->Prop):Prop :=
 ∀(pins:List (Addr×Obj)) (s:Shared) (σ:St) (H:Hp) (x:V) (v:Value) (Q:VK),Inv X pins σ H s->RelV x v->r x H Q ->
  wpAny (model X.prog X.w) X.A (f v) (EP X pins σ Q) X.xe s
def E2(X:Cx)(f:Value)(r:List V->Hp->VK->Prop):Prop :=
 ∀(pins:List (Addr×Obj)) (s:Shared) (σ:St) (H:Hp) (xs:List V) (us:List Value) (Q:VK),Inv X pins σ H s->Vals xs us->r xs H Q ->
  wpAny (model X.prog X.w) X.A (call f us) (EP X pins σ Q) X.xe s
def b8Z(X:Cx)(r:V->Hp->(Bool->Hp->Prop)->Prop):Prop :=
 ∀(pins:List (Addr×Obj)) (s:Shared) (σ:St) (H:Hp) (x:V) (v:Value) (Q:Bool->Hp->Prop),Inv X pins σ H s->RelV x v->r x H Q ->
  wpAny (model X.prog X.w) X.A (truthy v) (TP X pins σ Q) X.xe s
def tOp(r:R2)(ta tb:TE):TE:=λσ H Q=>ta σ H λx H1=>tb σ H1 λy H2=>r x y H2 Q
def tUn(r:V->Hp->VK->Prop)(ta:TE):TE:=λσ H Q=>ta σ H λx H1=>r x H1 Q
def rI(C:Int->Int->Prop)(g:Int->Int->V):R2:=λx y H Q=>∃i j,x=.int i/\y=.int j/\C i j/\Q (g i j) H
def rI0(g:Int->Int->V):R2:=λx y H Q=>∃i j,x=.int i/\y=.int j/\Q (g i j) H
def rU(g:Int->V):V->Hp->VK->Prop:=λx H Q=>∃i,x=.int i/\Q (g i) H
section
variable {X:Cx}{a b c:Expr}{ta tb tc:TE}{pos:Pos}
theorem b7F(e:PE X a ta)(g:PE X b tb){pins:List (Addr×Obj)}{s:Shared}{σ:St}{H:Hp}{R:V->V->Hp->Prop}(I:Inv X pins σ H s)
  (h:ta σ H λx H1=>tb σ H1 λy H2=>R x y H2) {Q:Value->Shared->Prop}{f:Value->Value->Sem Value}
  (i:∀v u s2 x y H2,Inv X pins σ H2 s2->RelV x v->RelV y u->R x y H2->wpAny (model X.prog X.w) X.A (f v u) Q X.xe s2) :
  wpAny (model X.prog X.w) X.A (eval a X.env) (λv s₁=>wpAny (model X.prog X.w) X.A (eval b X.env) (λu s₂=>wpAny (model X.prog X.w) X.A (f v u) Q X.xe s₂) X.xe s₁) X.xe s:=by
 refine thn (e pins s σ H _ I h) λv s1 ⟨x,H1,c,k,q1⟩=>?_;refine thn (g pins s1 σ H1 _ c q1) λu s2 ⟨y,H2,d,l,j⟩=>?_;exact i v u s2 x y H2 d k l j
theorem V8{c:Operator}{r:R2}(g:OpR X (binaryOp c) r)(e:PE X a ta)(f:PE X b tb):PE X (.BinOp a c b pos) (tOp r ta tb):=by
 intro pins s σ H Q I h;exact wpAny_BinOp (b7F e f I h λv u s2 x y H2 d i j q=>g pins s2 σ H2 x y v u Q d i j q)
theorem b8q{b:UnaryOp}{r:V->Hp->VK->Prop}(e:UnR X (unaryOp b) r)(d:PE X a ta):PE X (.UnaryOp b a pos) (tUn r ta):=by
 intro pins s σ H Q I h;exact UnaryOp_ (thn (d pins s σ H _ I h) λv s1 ⟨x,H1,c,f,q1⟩=>e pins s1 σ H1 x v Q c f q1)
theorem opI{f:Value->Value->Sem Value}{C:Int->Int->Prop}{g:Int->Int->Int}
  (a:∀(i j:Int) (t u:Tok) (s:Shared) (Q:Value->Shared->Prop) (E:Value->Shared->Prop),C i j->Q (.int (g i j) s.toks) {s with toks:=s.toks+1}->wpAny (model X.prog X.w) X.A (f (.int i t) (.int j u)) Q E s) :
  OpR X f (rI C λi j=>.int (g i j)):=by
 intro pins s σ H x y v u Q I c d h;obtain⟨i,j,rfl,rfl,b,q⟩:=h;obtain⟨t,rfl⟩:=c;obtain⟨t',rfl⟩:=d;exact a i j t t' s _ _ b ⟨.int (g i j),H,I.tok _,⟨_,rfl⟩,q⟩
theorem b8A{f:Value->Value->Sem Value}{g:Int->Int->Int}
  (a:∀(i j:Int) (t u:Tok) (s:Shared) (Q:Value->Shared->Prop) (E:Value->Shared->Prop),Q (.int (g i j) s.toks) {s with toks:=s.toks+1}->wpAny (model X.prog X.w) X.A (f (.int i t) (.int j u)) Q E s) :
  OpR X f (rI0 λi j=>.int (g i j)):=by
 intro pins s σ H x y v u Q I b c h;obtain⟨i,j,rfl,rfl,q⟩:=h;obtain⟨t,rfl⟩:=b;obtain⟨t',rfl⟩:=c;exact a i j t t' s _ _ ⟨.int (g i j),H,I.tok _,⟨_,rfl⟩,q⟩
theorem b4G{f:Value->Value->Sem Value}{g:Int->Int->Bool}
  (a:∀(i j:Int) (t u:Tok) (s:Shared) (Q:Value->Shared->Prop) (E:Value->Shared->Prop),Q (.bool (g i j)) s->wpAny (model X.prog X.w) X.A (f (.int i t) (.int j u)) Q E s) :
  OpR X f (rI0 λi j=>.bl (g i j)):=by
 intro pins s σ H x y v u Q I b c h;obtain⟨i,j,rfl,rfl,q⟩:=h;obtain⟨t,rfl⟩:=b;obtain⟨t',rfl⟩:=c;exact a i j t t' s _ _ ⟨.bl (g i j),H,I,rfl,q⟩
def b8L(i j:Int):Prop:=0<j/\j<1073741824
def b8K(i j:Int):Prop:=0<=j/\j<=1000000/\i.natAbs<2 ^ 64
def CMul(i j:Int):Prop:=(-(2 ^ 64)<i/\i<2 ^ 64)∨(-(2 ^ 64)<j/\j<2 ^ 64)
theorem CMul.ok{i j:Int}(h:CMul i j):IntMulOk i j:=by
 rcases h with⟨h1,h2⟩|⟨h1,h2⟩
 .exact .of_left (intBits_le_64 h1 h2)
 .exact .of_right (intBits_le_64 h1 h2)
theorem b6Z:OpR X (binaryOp .Add) (rI0 λi j=>.int (i+j)):=b8A λ_ _ _ _ _ _ _ q=>add_int q
theorem b6S:OpR X (binaryOp .Sub) (rI0 λi j=>.int (i-j)):=b8A λ_ _ _ _ _ _ _ q=>sub_int q
theorem b6W:OpR X (binaryOp .Mult) (rI CMul λi j=>.int (i*j)):=opI λ_ _ _ _ _ _ _ a q=>mul_int q a.ok
theorem b4E:OpR X (binaryOp .FloorDiv) (rI b8L λi j=>.int (i / j)):=opI λi j _ _ _ _ _ a q=>by
 have h1:(0:Int)<j:=a.1;have h2:j<1073741824:=a.2;exact floordiv_int (by omega) (by rw[Int.fdiv_eq_ediv_of_nonneg i (by omega)];exact q) (.inl (PyProof.noPylong_small (by omega)))
theorem b6X:OpR X (binaryOp .Mod) (rI (λ_ j=>0<j) λi j=>.int (i % j)):=opI λi j _ _ _ _ _ a q=>by
 have h1:(0:Int)<j:=a;exact mod_int' (by omega) (by rw[Int.fmod_eq_emod_of_nonneg i (by omega)];exact q)
theorem b6T:OpR X (binaryOp .Pow) (rI b8K λi j=>.int (i ^ j.toNat)):=opI λ_ _ _ _ _ _ _ a q=>pow_int_small a.1 a.2.1 a.2.2 q
theorem unI{f:Value->Sem Value}{g:Int->Int}
  (a:∀(i:Int) (t:Tok) (s:Shared) (Q:Value->Shared->Prop) (E:Value->Shared->Prop),Q (.int (g i) s.toks) {s with toks:=s.toks+1}->wpAny (model X.prog X.w) X.A (f (.int i t)) Q E s) :
  UnR X f (rU λi=>.int (g i)):=by
 intro pins s σ H x v Q I b h;obtain⟨i,rfl,q⟩:=h;obtain⟨t,rfl⟩:=b;exact a i t s _ _ ⟨.int (g i),H,I.tok _,⟨_,rfl⟩,q⟩
theorem b6d:UnR X (unaryOp .USub) (rU λi=>.int (-i)):=unI λ_ _ _ _ _ q=>neg_int q
end
noncomputable def b8f:V->V->Bool
 |.non,.non=>true | .non,.int _=>true | .int _,.non=>true | .non,.bl _=>true | .bl _,.non=>true | .non,.str _=>true | .str _,.non=>true
 |.int _,.int _=>true | .bl _,.bl _=>true | .str _,.str _=>true | .byt _,.byt _=>true
 |.int _,.str _=>true | .str _,.int _=>true | .bl _,.str _=>true | .str _,.bl _=>true
 |_,_=>false
def rEq:R2:=λx y H Q=>b8f x y=true/\Q (.bl (decide (x=y))) H
def rNe:R2:=λx y H Q=>b8f x y=true/\Q (.bl (!decide (x=y))) H
theorem a9f{i j:Int}:decide (V.int i=V.int j)=(i==j):=by
 rw[cS];simp
theorem b3i{i j:Bool}:decide (V.bl i=V.bl j)=(i==j):=by
 rw[cS];simp
theorem a9e{i j:Str}:decide (V.str i=V.str j)=(i==j):=by
 rw[cS];simp
theorem a9g{i j:Array UInt8}:decide (V.byt i=V.byt j)=(i.toList==j.toList):=by
 rw[cS];cases i;cases j;simp
section
variable {X:Cx}{a b c:Expr}{ta tb tc:TE}{pos:Pos}
theorem B4{pins:List (Addr×Obj)}{σ:St}{H:Hp}{s:Shared}{Q:VK}{k a:Bool}(I:Inv X pins σ H s)(q:Q (.bl k) H)(e:k=a):EP X pins σ Q (.bool a) s:=by
 subst e;exact⟨.bl k,H,I,rfl,q⟩
theorem b5O:OpR X (compareOp .Eq) rEq:=by
 intro pins s σ H x y v u Q I b a h;obtain⟨hs,q⟩:=h;cases x with
 |non =>
  cases b;cases y with
  |non=>cases a;exact PySem.EqNone.eq_none_none (B4 I q (by simp))
  |bl j=>cases a;exact PySem.EqNone.eq_none_bool (B4 I q (by simp))
  |int j=>obtain⟨t',rfl⟩:=a;exact PySem.EqNone.eq_none_int (B4 I q (by simp))
  |str j=>obtain⟨t',rfl⟩:=a;exact PySem.EqNone.eq_none_str (B4 I q (by simp))
  |_=>exact absurd (show false=true from hs) aS
 |bl i =>
  cases b;cases y with
  |non=>cases a;exact PySem.EqNone.eq_bool_none (B4 I q (by simp))
  |bl j=>cases a;exact eq_bool (B4 I q b3i)
  |str j=>obtain⟨t',rfl⟩:=a;exact PySem.EqMixed.eq_bool_str (B4 I q (by simp))
  |_=>exact absurd (show false=true from hs) aS
 |int i =>
  obtain⟨t,rfl⟩:=b;cases y with
  |non=>cases a;exact PySem.EqNone.eq_int_none (B4 I q (by simp))
  |int j=>obtain⟨t',rfl⟩:=a;exact eq_int (B4 I q a9f)
  |str j=>obtain⟨t',rfl⟩:=a;exact PySem.EqMixed.eq_int_str (B4 I q (by simp))
  |_=>exact absurd (show false=true from hs) aS
 |str i =>
  obtain⟨t,rfl⟩:=b;cases y with
  |non=>cases a;exact PySem.EqNone.eq_str_none (B4 I q (by simp))
  |bl j=>cases a;exact PySem.EqMixed.eq_str_bool (B4 I q (by simp))
  |int j=>obtain⟨t',rfl⟩:=a;exact PySem.EqMixed.eq_str_int (B4 I q (by simp))
  |str j=>obtain⟨t',rfl⟩:=a;exact eq_str (B4 I q a9e)
  |_=>exact absurd (show false=true from hs) aS
 |byt i =>
  obtain⟨t,rfl⟩:=b;cases y with
  |byt j=>obtain⟨t',rfl⟩:=a;exact PySem.W.eq_bytes (B4 I q a9g)
  |_=>exact absurd (show false=true from hs) aS
 |_=>cases y<;>exact absurd (show false=true from hs) aS
theorem b8v:OpR X (compareOp .NotEq) rNe:=by
 intro pins s σ H x y v u Q I b a h;obtain⟨hs,q⟩:=h;cases x with
 |non =>
  cases b;cases y with
  |non=>cases a;exact PySem.EqNone.ne_none_none (B4 I q (by simp))
  |bl j=>cases a;exact PySem.EqNone.ne_none_bool (B4 I q (by simp))
  |int j=>obtain⟨t',rfl⟩:=a;exact PySem.EqNone.ne_none_int (B4 I q (by simp))
  |str j=>obtain⟨t',rfl⟩:=a;exact PySem.EqNone.ne_none_str (B4 I q (by simp))
  |_=>exact absurd (show false=true from hs) aS
 |bl i =>
  cases b;cases y with
  |non=>cases a;exact PySem.EqNone.ne_bool_none (B4 I q (by simp))
  |bl j=>cases a;exact ne_bool (B4 I q (aO not b3i))
  |str j=>obtain⟨t',rfl⟩:=a;exact PySem.EqMixed.ne_bool_str (B4 I q (by simp))
  |_=>exact absurd (show false=true from hs) aS
 |int i =>
  obtain⟨t,rfl⟩:=b;cases y with
  |non=>cases a;exact PySem.EqNone.ne_int_none (B4 I q (by simp))
  |int j=>obtain⟨t',rfl⟩:=a;exact ne_int (B4 I q (aO not a9f))
  |str j=>obtain⟨t',rfl⟩:=a;exact PySem.EqMixed.ne_int_str (B4 I q (by simp))
  |_=>exact absurd (show false=true from hs) aS
 |str i =>
  obtain⟨t,rfl⟩:=b;cases y with
  |non=>cases a;exact PySem.EqNone.ne_str_none (B4 I q (by simp))
  |bl j=>cases a;exact PySem.EqMixed.ne_str_bool (B4 I q (by simp))
  |int j=>obtain⟨t',rfl⟩:=a;exact PySem.EqMixed.ne_str_int (B4 I q (by simp))
  |str j=>obtain⟨t',rfl⟩:=a;exact ne_str (B4 I q (aO not a9e))
  |_=>exact absurd (show false=true from hs) aS
 |byt i =>
  obtain⟨t,rfl⟩:=b;cases y with
  |byt j=>obtain⟨t',rfl⟩:=a;exact PySem.W.ne_bytes (B4 I q (aO not a9g))
  |_=>exact absurd (show false=true from hs) aS
 |_=>cases y<;>exact absurd (show false=true from hs) aS
theorem b8w:OpR X (compareOp .Lt) (rI0 λi j=>.bl (decide (i<j))):=b4G λ_ _ _ _ _ _ _ q=>lt_int q
theorem b8x:OpR X (compareOp .LtE) (rI0 λi j=>.bl (decide (i<=j))):=b4G λ_ _ _ _ _ _ _ q=>le_int q
theorem b8y:OpR X (compareOp .Gt) (rI0 λi j=>.bl (decide (j<i))):=b4G λ_ _ _ _ _ _ _ q=>gt_int q
theorem b8z:OpR X (compareOp .GtE) (rI0 λi j=>.bl (decide (j<=i))):=b4G λ_ _ _ _ _ _ _ q=>ge_int q
theorem b2d:OpR X (compareOp .Is) (λx y H Q=>y=.non/\Q (.bl (decide (x=.non))) H):=by
 intro pins s σ H x y v u Q I a b h;obtain⟨rfl,q⟩:=h;cases b;refine is_none_gen (B4 I q ?_);cases x<;>first
  |(cases a;rfl)
  |(obtain⟨t,rfl⟩:=a;rfl)
theorem b4C:OpR X (compareOp .IsNot) (λx y H Q=>y=.non/\Q (.bl (!decide (x=.non))) H):=by
 intro pins s σ H x y v u Q I a b h;obtain⟨rfl,q⟩:=h;cases b;refine isnot_none_gen (B4 I q ?_);cases x<;>first
  |(cases a;rfl)
  |(obtain⟨t,rfl⟩:=a;rfl)
theorem M8(b:Expr){a:CmpOp}(h:a≠.In:=by decide)(h2:a≠.NotIn:=by decide):behindInMarks a b=false:=by
 have c:(a==CmpOp.In)=false:=by cases a<;>first|rfl|exact absurd rfl h
 have d:(a==CmpOp.NotIn)=false:=by cases a<;>first|rfl|exact absurd rfl h2
 cases b with
 |Set elts k p=>show(k==0 && (a==CmpOp.In || a==CmpOp.NotIn) && elts.all (constantsAlone 8))=false;rw[c,d,Bool.or_false,ff,Bool.false_and]
 |_=>rfl
theorem a4M{c:CmpOp}{r:R2}(i:OpR X (compareOp c) r)(e:PE X a ta)(f:PE X b tb)(g:behindInMarks c b=false):PE X (.Compare a [c] [b] pos) (tOp r ta tb):=by
 intro pins s σ H Q I h;exact wpAny_Compare1 (b7F e f I h λv u s2 x y H2 d j k q=>i pins s2 σ H2 x y v u Q d j k q) g
def V3(t:TE):TT:=λσ H Q=>t σ H λx H'=>∃k,x=.bl k/\Q k H'
theorem M0{d:CmpOp}{r:R2}(o:OpR X (compareOp d) r)(l:PE X a ta)(m:PE X b tb)(n:behindInMarks d b=false):PT X (.Compare a [d] [b] pos) (V3 (tOp r ta tb)):=by
 intro pins s σ H Q I h;refine wpAny_isTrue_Compare1 (thn (l pins s σ H _ I h) λv s1 ⟨x,H1,g,t,q1⟩=>thn (m pins s1 σ H1 _ g q1) λu s2 ⟨y,H2,i,w,p⟩ =>
  thn (o pins s2 σ H2 x y v u _ i t w p) λc B ⟨z,f,j,A,k,e,q⟩=>?_) n
 subst e;cases A;exact di ⟨f,j,q⟩
def b7N(K:PySem.W.Frag)(x:V)(H:Hp)(k:Bool):Prop :=
 match x with
 |.non=>k=false
 |.bl b=>k=b
 |.int i=>k=(i != 0)
 |.str y=>y.length<=sizeLine/\k=((y.length:Int) != 0)
 |.byt y=>y.size<=sizeLine/\k=((y.size:Int) != 0)
 |.ref p=>(∃xs,SqL K H p xs/\k=!xs.isEmpty)∨(∃xs,SqT K H p xs/\k=!xs.isEmpty)∨∃kvs,H p=some (.dK kvs)/\k=!kvs.isEmpty
 |_=>False
theorem a7z{κ:Type}{kvs:List (κ×V)}{vs:List (κ×Value)}(r:KV kvs vs):(!vs.isEmpty)=!kvs.isEmpty:=by
 cases r<;>rfl
theorem a2U{xs:List V}{its:List Value}(r:Vals xs its):(!its.toArray.isEmpty)=!xs.isEmpty:=by
 cases r<;>simp
theorem a2H:(sizeLine:Nat)<2 ^ 63:=by rw[ba];decide
theorem b6f:b8Z X (λx H Q=>∃k,b7N X.K x H k/\Q k H):=by
 intro pins s σ H x v Q I d h;obtain⟨k,e,q⟩:=h;have o:=a2H;have hs:sizeLine=16777216:=ba;cases x with
 |non =>
  cases d;have a:k=false:=e;subst a;exact truthy_none ⟨H,I,q⟩
 |bl b =>
  cases d;have a:k=b:=e;subst a;exact di ⟨H,I,q⟩
 |int i =>
  obtain⟨t,rfl⟩:=d;have a:k=(i != 0):=e;subst a;exact PySem.P.truthy_int ⟨H,I,q⟩
 |str y =>
  obtain⟨t,rfl⟩:=d;obtain⟨n,a⟩:y.length<=sizeLine/\k=((y.length:Int) != 0):=e;subst a;exact PySem.P.truthy_str (by omega) ⟨H,I.tok _,q⟩
 |byt y =>
  obtain⟨t,rfl⟩:=d;obtain⟨n,a⟩:y.size<=sizeLine/\k=((y.size:Int) != 0):=e;subst a;exact PySem.W.truthy_bytes (by omega) ⟨H,I.tok _,q⟩
 |ref p =>
  cases d;have a:(∃xs,SqL X.K H p xs/\k=!xs.isEmpty)∨(∃xs,SqT X.K H p xs/\k=!xs.isEmpty)∨∃kvs,H p=some (.dK kvs)/\k=!kvs.isEmpty:=e;rcases a with⟨xs,f,a⟩|⟨xs,f,a⟩|⟨kvs,f,a⟩
  .subst a;obtain⟨its,r,g,j⟩:=I.list f;have c:=r.length;exact wpAny_truthy_list g.isList (by simp only[aD];omega) ⟨H,I.tok _,by rw[a2U r];exact q⟩
  .subst a;obtain⟨its,r,g,j⟩:=I.tuple f;have c:=r.length;exact truthy_tuple g (by simp only[aD];omega) ⟨H,I.tok _,by rw[a2U r];exact q⟩
  .subst a;obtain⟨j,l,vs,r,m⟩:kvs.length<=sizeLine/\(p==sysModules)=false/\∃vs,KV kvs vs/\s.heap.DictOf (D5 X.prog X.w) p vs:=I.hok p _ f;have c:kvs.length=vs.length:=Paired.length r;exact wpAny_truthy_dict l m (by omega) ⟨H,I.tok _,by rw[a7z r];exact q⟩
 |_=>exact(show False from e).elim
theorem b1H(d:PE X a ta)(e:∀b,isTrue a X.env b=(do let v <-b;standAt a.pos;holding [v] (truthy v))) :
  PT X a (λσ H Q=>ta σ H λx H'=>∃k,b7N X.K x H' k/\Q k H'):=by
 intro pins s σ H Q I h;exact isTrue_plain (thn (d pins s σ H _ I h) λv s1 ⟨x,H1,c,f,q1⟩=>b6f pins s1 σ H1 x v Q c f q1) (e _)
theorem a5w{x:V}{us:List Value}(r:Vals [x] us):∃u,us=[u]/\RelV x u:=by
 cases r with
 |cons r1 r2=>cases r2;exact⟨_,rfl,r1⟩
theorem b0A:E2 X (.type "int") (λxs H Q=>(∃i,xs=[.int i]/\Q (.int i) H)∨∃k,xs=[.bl k]/\Q (.int (if k then 1 else 0)) H):=by
 intro pins s σ H xs a Q I r h;rcases h with⟨i,rfl,q⟩|⟨k,rfl,q⟩
 .obtain⟨u,rfl,t,rfl⟩:=a5w r;exact call_int_int ⟨.int i,H,I,⟨_,rfl⟩,q⟩
 .obtain⟨u,rfl,r1⟩:=a5w r;cases r1;exact call_int_bool ⟨.int (if k then 1 else 0),H,I.tok _,⟨_,rfl⟩,q⟩
end
structure ObjM(h:Heap)(x dx C:Addr)(mA:Str->Option Value):Prop where
 obj:h.get? x=some (PySem.W.instObj C dx)
 ns:h.Ns1 dx mA
 ne:dx≠x
theorem b0d{h:Heap}{dx:Addr}{mA:Str->Option Value}(n:h.Ns1 dx mA):∃od,h.get? dx=some od/\∀name,PySem.W.lookIn name od=some (mA name):=by
 obtain⟨o,es,ep,g,hd,d,_,f⟩:=n;refine⟨o,g,λname=>?_⟩;have e:=f name;unfold nsFind findBy at e;rw[<-Array.find?_toList]at e;unfold PySem.W.lookIn;rw[hd];dsimp only;split
 .rename_i y q;rw[q]at e;exact aO some e
 .rename_i q;rw[q]at e;have a:es.toList.any (·.refKey)=false:=by
   rw[List.any_eq_false];intro y i;obtain⟨z,t,b⟩:=d y (eH.mp i);simp[DictEntry.refKey,b]
  have c:¬es.toList.any (·.refKey)=true:=by rw[a];exact aS
  rw[ar c];exact aO some e
theorem ObjM.look{h:Heap}{x dx C:Addr}{mA:Str->Option Value}(I:ObjM h x dx C mA):∃od,PySem.W.InstAt h x (PySem.W.instObj C dx) C (some od)/\∀name,PySem.W.lookIn name od=some (mA name) :=
 let ⟨od,ho,hl⟩:=b0d I.ns
 ⟨od,⟨I.obj,rfl,rfl,ho⟩,hl⟩
section
variable {prog:Program}{w:World}{A:Around}{E:Value->Shared->Prop}{s:Shared}{K:PySem.W.Frag}{x dx C f:Addr}{mA:Str->Option Value}{name:Str}{v:Value}
theorem b5e{a:Bool}{Q:Value->Shared->Prop}(X:K.In s.heap)(I:ObjM s.heap x dx C mA)(d:PySem.W.plainGet K C name=true)(e:PySem.W.hasDictIn K C=true)
  (c:PySem.W.findIn K (.ref C) name=some none) (g:mA name=some v) (b:PySem.W.handedIn v=true) (h:Q v {s with toks:=s.toks+1}) :
  wpAny (model prog w) A (getAttr (.ref x) name a) Q E s:=by
 obtain⟨od,J,f⟩:=I.look;exact PySem.W.get_value X J (PySem.W.plainGet_of d).1 (PySem.W.findObj_own e c rfl (by rw[f,g])) b h
theorem b2Y{pl:Sem Bool}{Q:Value×List Value->Shared->Prop}(X:K.In s.heap)(I:ObjM s.heap x dx C mA)(a:PySem.W.plainGet K C name=true)
  (b:PySem.W.findIn K (.ref C) name=some (some (.ref f))) (d:PySem.W.isFn K (.ref f)=true) (e:mA name=none) (h:Q (.ref f,[.ref x]) s) :
  wpAny (model prog w) A (getMethod (.ref x) name pl) Q E s:=by
 obtain⟨od,J,c⟩:=I.look;exact PySem.W.method_fn X J (PySem.W.plainGet_of a).1 (PySem.W.plainGet_of a).2 b (a_.mp d) (by show(PySem.W.lookIn name od).map (·.isSome)=some false;rw[c,e];rfl) h
theorem b3R{ns:List Str}{Q:Unit->Shared->Prop}(X:K.In s.heap)(I:ObjM s.heap x dx C mA)
  (hs:PySem.W.findIn K (.ref C) "__setattr__"=some (some (.builtin "object.__setattr__"))) (hp:PySem.W.plainOver K C=true) (n:PySem.W.takerIn K C name=some none) (m:PySem.W.hasDictIn K C=true)
  (hw:PySem.Within mA ns) (hsz:ns.length<=sizeLine)
  (h:∀h',ObjM h' x dx C (λy=>if y=name then some v else mA y)->Heap.SameBut dx s.heap h'->Q () {s with heap:=h',toks:=s.toks+2}) :
  wpAny (model prog w) A (setAttr (.ref x) name v) Q E s:=by
 obtain⟨od,J,p⟩:=I.look;refine PySem.W.set_plain X J hs (PySem.W.osa_open (s:={s with toks:=s.toks+1}) (r:=none) X J hp n λb=>?_);obtain⟨cd,l,f⟩:=PySem.W.any_some m;have o:s.heap.get? x=some ⟨.ref C,some dx,.plain,#[]⟩:=I.obj;refine aa (ae (aa (aa (wpAny_loadPart o (aa (PySem.W.Looks.here (s:={s with toks:=s.toks+1}) (PySem.W.looks_clsIn X l) ?_))))));rw[f];refine ae (a:=some dx) (aa (ae (aa ?_)));refine wpAny_nsSet1 (s:={s with toks:=s.toks+1}) I.ns λh' c d=>?_;obtain⟨q,k,j,i,g,e⟩:=c.count (PySem.Within.cons name v hw);refine aa (wpAny_lookBehind i (by rw[g];exact pastItsLine_dict (bf e (by rw[aU];omega))) ?_);exact ae (h _ ⟨(d.2 _ (dM I.ne)).trans I.obj,c,I.ne⟩ d)
theorem b2v{R:Result->Shared->Prop}{vs:List Value}{a:List (Str×Value)}(X:K.In s.heap)(c:PySem.W.makesIn K C=true)
  (hi:PySem.W.findIn K (.ref C) "__init__"=some (some (.ref f))) (b:PySem.W.typeIn K (.ref f)=some (.type "function"))
  (h:codeAny (model prog w) (A.under (.builtin "type.__call__" ⟨.ref C::vs,a⟩)) (.call (.ref f) ⟨.ref (s.heap.objs.size+1)::vs,a⟩) (PySem.W.InitBack (s.heap.objs.size+1) R)
   {s with heap:=(s.heap.push PySem.W.emptyDict).push (PySem.W.instObj C s.heap.objs.size)}) :
  codeAny (model prog w) A (.call (.ref C) ⟨vs,a⟩) R s:=by
 obtain⟨e,g,d,t,os⟩:=s;exact PySem.W.make_core (PySem.W.makes_of X c) (PySem.W.looks_findIn X hi) (λself=>PySem.W.bind_fn X self b) (.inl rfl) h
end
noncomputable def J5(f:Str)(v:V):List (Str×V)->List (Str×V)
 |[]=>[(f,v)]
 |(g,x)::r=>if g=f then(g,v)::r else(g,x)::J5 f v r
theorem a1y(f g:Str)(v:V):∀fs:List (Str×V),(J5 f v fs).lookup g=if g=f then some v else fs.lookup g
 |[]=>by
  show List.lookup g [(f,v)]=_;by_cases h:g=f
  .have hb:(g==f)=true:=a_.mpr h;simp only[List.lookup,hb,ay h]
  .have hb:(g==f)=false:=cT.mpr h;simp only[List.lookup,hb,ar h]
 |(k,x)::r=>by
  have b:=a1y f g v r;rw[show J5 f v ((k,x)::r)=(if k=f then(k,v)::r else(k,x)::J5 f v r)from rfl];by_cases a:k=f
  .rw[ay a];by_cases h:g=k
   .have hb:(g==k)=true:=a_.mpr h;simp only[List.lookup,hb,ay (h.trans a)]
   .have hb:(g==k)=false:=cT.mpr h;simp only[List.lookup,hb,ar (λe:g=f=>h (e.trans a.symm))]
  .rw[ar a];by_cases h:g=k
   .have hb:(g==k)=true:=a_.mpr h;simp only[List.lookup,hb,ar (λe:g=f=>a (h.symm.trans e))]
   .have hb:(g==k)=false:=cT.mpr h;simp only[List.lookup,hb];exact b
theorem a1f(f:Str)(v:V):∀fs:List (Str×V),f∈(J5 f v fs).map (·.1)/\∀g,g∈fs.map (·.1)->g∈(J5 f v fs).map (·.1)
 |[]=>⟨by simp[J5],λg h=>by simp at h⟩
 |(k,x)::r=>by
  obtain⟨b,c⟩:=a1f f v r;rw[show J5 f v ((k,x)::r)=(if k=f then(k,v)::r else(k,x)::J5 f v r)from rfl];by_cases a:k=f
  .rw[ay a];subst a;exact⟨by simp,λg h=>by simpa using h⟩
  .rw[ar a];refine⟨?_,λg h=>?_⟩
   .rw[aV];exact ak _ b
   .rw[aV]at h⊢;rcases aI.mp h with e|e
    .exact aI.mpr (.inl e)
    .exact ak _ (c g e)
theorem a1z(f:Str)(v:V):∀fs:List (Str×V),(J5 f v fs).length<=fs.length+1
 |[]=>by simp[J5]
 |(k,x)::r=>by
  have b:=a1z f v r;rw[show J5 f v ((k,x)::r)=(if k=f then(k,v)::r else(k,x)::J5 f v r)from rfl];by_cases a:k=f
  .rw[ay a,aU,aU];omega
  .rw[ar a,aU,aU];omega
theorem RelO.some_of{v:V}{o:Option Value}(r:RelO (some v) o):∃u,o=some u/\RelV v u:=by
 cases o with
 |none=>exact(show False from r).elim
 |some u=>exact⟨u,rfl,r⟩
theorem RelO.none_of{o:Option Value}(r:RelO none o):o=none:=by
 cases o with
 |none=>rfl
 |some u=>exact(show False from r).elim
theorem b0l{v:V}{u:Value}(r:RelV v u):PySem.W.handedIn u=true:=by
 cases v with
 |non=>cases(show u=Value.none from r);rfl
 |bl b=>cases(show u=Value.bool b from r);rfl
 |int i=>obtain⟨t,e⟩:=(show ∃t,u=Value.int i t from r);cases e;rfl
 |str x=>obtain⟨t,e⟩:=(show ∃t,u=Value.str x t from r);cases e;rfl
 |byt b=>obtain⟨t,e⟩:=(show ∃t,u=Value.bytes b t from r);cases e;rfl
 |flt b=>obtain⟨t,e⟩:=(show ∃t,u=Value.float b t from r);cases e;rfl
 |ref a=>cases(show u=Value.ref a from r);rfl
 |ty n=>cases(show u=Value.type n from r);rfl
section
variable {P:Program}{w:World}{H H':Hp}{h h':Heap}{a C dx:Addr}{fs fs':List (Str×V)}
theorem a2a(b:HOk P w H h)(e:H a=some (.ins C dx fs)):∃mA,ObjM h a dx C mA/\(∀f,RelO (fs.lookup f) (mA f))/\PySem.Within mA (fs.map (·.1))/\fs.length<=1000/\H dx=some (.own a):=by
 obtain⟨d,z,ne,c,mA,n,r,q⟩:=(show ObjOk P w H h a (.ins C dx fs)from b a _ e);exact⟨mA,⟨c,n,ne⟩,r,q,z,d⟩
end
structure Cls(K:PySem.W.Frag)(C:Addr):Prop where
 pg:PySem.W.plainGet K C Str.empty=true
 hd:PySem.W.hasDictIn K C=true
 po:PySem.W.plainOver K C=true
 sa:PySem.W.findIn K (.ref C) "__setattr__"=some (some (.builtin "object.__setattr__"))
theorem Cls.get{K:PySem.W.Frag}{C:Addr}(c:Cls K C)(f:Str):PySem.W.plainGet K C f=true:=c.pg
def NoAttr(K:PySem.W.Frag)(C:Addr)(f:Str):Prop:=PySem.W.findIn K (.ref C) f=some none
theorem NoAttr.taker{K:PySem.W.Frag}{C:Addr}{f:Str}(n:NoAttr K C f):PySem.W.takerIn K C f=some none:=by
 unfold PySem.W.takerIn;rw[show PySem.W.findIn K (.ref C) f=some none from n];rfl
structure Meth(K:PySem.W.Frag)(C:Addr)(m:Str)(f:Addr):Prop where
 at_:PySem.W.findIn K (.ref C) m=some (some (.ref f))
 fn:PySem.W.isFn K (.ref f)=true
 kp:PySem.W.keepIn K (.ref f)=true
section
variable {X:Cx}{pins:List (Addr×Obj)}{σ:St}{H:Hp}{s:Shared}{a C dx:Addr}{fs:List (Str×V)}{f:Str}{v:V}{A:Around}{E:Value->Shared->Prop}
theorem a7B{b:Bool}{Q:Value->Shared->Prop}(I:Inv X pins σ H s)(e:H a=some (.ins C dx fs))(c:Cls X.K C)(n:NoAttr X.K C f)(l:fs.lookup f=some v)
  (h:∀u s',Inv X pins σ H s'->RelV v u->Q u s'):wpAny (model X.prog X.w) A (getAttr (.ref a) f b) Q E s:=by
 obtain⟨mA,O,r,_,_,_⟩:=a2a I.hok e;obtain⟨u,g,d⟩:=RelO.some_of (v:=v) (o:=mA f) (by rw[<-l];exact r f);exact b5e I.kIn O (c.get f) c.hd n g (b0l d) (h u _ (I.tok _) d)
theorem a2V{m:Str}{g:Addr}{pl:Sem Bool}{Q:Value×List Value->Shared->Prop}(I:Inv X pins σ H s)(e:H a=some (.ins C dx fs))(c:Cls X.K C)(k:Meth X.K C m g)(l:fs.lookup m=none)
  (h:Q (.ref g,[.ref a]) s):wpAny (model X.prog X.w) A (getMethod (.ref a) m pl) Q E s:=by
 obtain⟨mA,O,r,_,_,_⟩:=a2a I.hok e;have b:mA m=none:=RelO.none_of (by rw[<-l];exact r m);exact b2Y I.kIn O (c.get m) k.at_ k.fn b h
theorem a7d{y:V}{u:Value}{Q:Unit->Shared->Prop}(I:Inv X pins σ H s)(e:H a=some (.ins C dx fs))(c:Cls X.K C)(n:NoAttr X.K C f)(v:fs.length<1000)(p:RelV y u)
  (h:∀s',Inv X pins σ (upd H a (.ins C dx (J5 f y fs))) s'->Q () s'):wpAny (model X.prog X.w) A (setAttr (.ref a) f u) Q E s:=by
 obtain⟨mA,O,r,j,_,i⟩:=a2a I.hok e;have m:(fs.map (·.1)).length<=sizeLine:=by rw[aj,ba];omega
 refine b3R I.kIn O c.sa c.po n.taker c.hd j m λh' d t=>h _ ?_;have hd:∃o,h'.get? dx=some o:=let ⟨o,_,_,e',_⟩:=d.ns;⟨o,e'⟩
 refine I.write (x:=a) (e:=dx) (by rw[e];exact True.intro) (.inr i) (λb q k z=>(t.2 b k).trans z) hd ?_;refine⟨by rw[A1 O.ne];exact i,?_,O.ne,d.obj,_,d.ns,λg=>?_,λg l=>?_⟩
 .have:=a1z f y fs;omega
 .show RelO ((J5 f y fs).lookup g) (if g=f then some u else mA g);rw[a1y];by_cases q:g=f
  .rw[ay q,ay q];exact p
  .rw[ar q,ar q];exact r g
 .by_cases q:g=f
  .rw[q];exact(a1f f y fs).1
  .refine(a1f f y fs).2 g (j g λz=>l ?_);show(if g=f then some u else mA g)=none;rw[ar q];exact z
theorem Inv.made(I:Inv X pins σ H s):Inv X pins σ (upd (upd H s.heap.objs.size (.own (s.heap.objs.size+1))) (s.heap.objs.size+1) (.ins C s.heap.objs.size []))
  {s with heap:=(s.heap.push PySem.W.emptyDict).push (PySem.W.instObj C s.heap.objs.size)}:=by
 have c:(s.heap.push PySem.W.emptyDict).get? s.heap.objs.size=some PySem.W.emptyDict:=aJ s.heap rfl;have f:((s.heap.push PySem.W.emptyDict).push (PySem.W.instObj C s.heap.objs.size)).get? (s.heap.objs.size+1)=some (PySem.W.instObj C s.heap.objs.size):=by
  have:=aJ (s.heap.push PySem.W.emptyDict) (o:=PySem.W.instObj C s.heap.objs.size) rfl;rwa[bp]at this
 have g:(s.heap.push PySem.W.emptyDict).Ns s.heap.objs.size (λ_=>none):=⟨PySem.W.emptyDict,#[],_,c,rfl,(λe h=>absurd h (by simp)),λ_=>rfl⟩;have d:=I.laid (a:=s.heap.objs.size) (o:=.own (s.heap.objs.size+1)) (h':=s.heap.push PySem.W.emptyDict) (t':=s.toks) (λb u q=>ag _ q) (aq _) ⟨_,c⟩;refine d.laid (a:=s.heap.objs.size+1) (o:=.ins C s.heap.objs.size []) (t':=s.toks) (λb u q=>ag _ q) (Nat.le_of_eq (bp _ _)) ?_;have ne:s.heap.objs.size≠s.heap.objs.size+1:=aM (cf _);refine⟨by rw[A1 ne,A0],bq _,ne,f,λ_=>none,(Heap.Ns1.of_empty g).at λo q=>ag _ q,λ_=>True.intro,λy i=>absurd rfl i⟩
theorem b5q{prog:Program}{w:World}{env:Env}{e:Expr}{f:Str}{pos:Pos}{s:Shared}{Q:Value->Shared->Prop}(a:attributeBase e f env (eval e env)=eval e env)
  (h:wpAny (model prog w) A (eval e env) (λo s₁=>wpAny (model prog w) A (getAttr o f true) Q E s₁) E s):wpAny (model prog w) A (eval (.Attribute e f pos) env) Q E s :=
 Attribute_any_ h (by rw[arm_eval_Attribute,a])
end
def b8c(K:PySem.W.Frag)(ta:TE)(f:Str):TE:=λσ H Q=>ta σ H λx H1=>∃a C dx fs v,x=.ref a/\H1 a=some (.ins C dx fs)/\Cls K C/\NoAttr K C f/\fs.lookup f=some v/\Q v H1
def b8h(K:PySem.W.Frag)(ta tv:TE)(f:Str):TS:=λD σ H=>tv σ H λy H1=>ta σ H1 λx H2=>∃a C dx fs,x=.ref a/\H2 a=some (.ins C dx fs)/\Cls K C/\NoAttr K C f/\fs.length<1000 /\
 D.nx σ (upd H2 a (.ins C dx (J5 f y fs)))
section
variable {X:Cx}{o e value:Expr}{f:Str}{pos pos' tpos:Pos}{ta tv:TE}
theorem b6M(j:PE X e ta)(i:attributeBase e f X.env (eval e X.env)=eval e X.env):PE X (.Attribute e f pos) (b8c X.K ta f):=by
 intro pins s σ H Q I h;refine b5q i (thn (j pins s σ H _ I h) λu s1 ⟨x,H1,b,m,a,C,dx,fs,v,ex,g,c,n,l,q⟩=>?_);subst ex;obtain rfl:u=Value.ref a:=m;exact a7B b g c n l λo s2 d k=>⟨v,H1,d,k,q⟩
theorem b6y(i:PE X o ta)(j:PE X value tv)(hs:swapsWith value (some (.Attribute o f pos')) pos.line X.env=pure false):PS X (.Assign [.Attribute o f pos'] value pos) (b8h X.K ta tv f):=by
 intro pins s σ H D I h;refine plainObj_wpAny_Assign_Attribute (thn (j pins s σ H _ I h) λu s1 ⟨y,H1,b,r,q⟩=>thn (i pins s1 σ H1 _ b q) λk s2 ⟨x,H2,d,p,a,C,dx,fs,ex,g,c,n,l,m⟩=>?_) hs;subst ex;obtain rfl:k=Value.ref a:=p;exact a7d d g c n l r λt e=>⟨σ,_,e,m⟩
end
section
variable {X:Cx}{pins:List (Addr×Obj)}{σ:St}{H:Hp}{s:Shared}{A:Around}{E:Value->Shared->Prop}{Q:Value->Shared->Prop}{c:Value}{b:Bool}
inductive TyOf(K:PySem.W.Frag)(H:Hp):V->Value->Prop where
 |non:TyOf K H .non (.type "NoneType")
 |bl (x:Bool):TyOf K H (.bl x) (.type "bool")
 |int (i:Int):TyOf K H (.int i) (.type "int")
 |str (x:Str):TyOf K H (.str x) (.type "str")
 |flt (x:UInt64):TyOf K H (.flt x) (.type "float")
 |lst {a:Addr}{xs:List V}(e:H a=some (.lst xs)):TyOf K H (.ref a) (.type "list")
 |frz {a:Addr}{o:Obj}{xs:List V}(e:H a=some (.frz o (.lst xs))):TyOf K H (.ref a) (.type "list")
 |tup {a:Addr}{xs:List V}(e:H a=some (.tup xs)):TyOf K H (.ref a) (.type "tuple")
 |dK {a:Addr}{kvs:List (Key×V)}(e:H a=some (.dK kvs)):TyOf K H (.ref a) (.type "dict")
 |dT {a:Addr}{kvs:List (List Key×V)}(e:H a=some (.dT kvs)):TyOf K H (.ref a) (.type "dict")
 |ins {a C dx:Addr}{fs:List (Str×V)}(e:H a=some (.ins C dx fs)) (cl:Cls K C) (ha:PySem.W.findIn K (.ref C) "__class__"=some (some (.builtin "object.__class__")))
   (hn:PySem.W.specialIn K (.builtin "object.__class__") "__get__"=some (some (.builtin "getset_descriptor.__get__"))) (htk:PySem.W.takesIn K (.builtin "object.__class__")=some true)
   (hm:PySem.W.mroIn K C (.type "object")=some true):TyOf K H (.ref a) (.ref C)
theorem b0i{x:V}{u t:Value}(I:Inv X pins σ H s)(d:RelV x u)(ty:TyOf X.K H x t)(e:PySem.W.kitOne X.K t c=some b)(h:∀tk,Q (.bool b) {s with toks:=tk}) :
  wpAny (model X.prog X.w) A (call (.builtin "isinstance") [u,c]) Q E s:=by
 cases ty with
 |non=>cases(show u=Value.none from d);exact PySem.W.kia_one PySem.W.kitx_none I.kIn True.intro e (λz=>nomatch z) h
 |bl y=>cases(show u=Value.bool y from d);exact PySem.W.kia_one PySem.W.kitx_bool I.kIn True.intro e (λz=>nomatch z) h
 |int i=>obtain⟨t,q⟩:=(show ∃t,u=Value.int i t from d);cases q;exact PySem.W.kia_one PySem.W.kitx_int I.kIn True.intro e (λz=>nomatch z) h
 |str y=>obtain⟨t,q⟩:=(show ∃t,u=Value.str y t from d);cases q;exact PySem.W.kia_one PySem.W.kitx_str I.kIn True.intro e (λz=>nomatch z) h
 |flt y=>obtain⟨t,q⟩:=(show ∃t,u=Value.float y t from d);cases q;exact PySem.W.kia_one PySem.W.kitx_float I.kIn True.intro e (λz=>nomatch z) h
 |@lst a xs ea =>
  cases(show u=Value.ref a from d);obtain⟨_,_,n,_,h1⟩:=(show ObjOk X.prog X.w H s.heap a (.lst xs)from I.hok a _ ea);exact PySem.W.kia_one PySem.W.kitx_list I.kIn ⟨_,h1,rfl⟩ e (λz=>nomatch z) h
 |@frz a ob xs ea =>
  cases(show u=Value.ref a from d);obtain⟨_,_,_,n,_,h1⟩:=(show ObjOk X.prog X.w H s.heap a (.frz ob (.lst xs))from I.hok a _ ea);exact PySem.W.kia_one PySem.W.kitx_list I.kIn ⟨_,h1,rfl⟩ e (λz=>nomatch z) h
 |@tup a xs ea =>
  cases(show u=Value.ref a from d);obtain⟨_,_,_,p⟩:=(show ObjOk X.prog X.w H s.heap a (.tup xs)from I.hok a _ ea);obtain⟨o,h1,h2,_⟩:=p;exact PySem.W.kia_one PySem.W.kitx_tuple I.kIn ⟨o,h1,h2⟩ e (λz=>nomatch z) h
 |@dK a kvs ea =>
  cases(show u=Value.ref a from d);obtain⟨_,_,vs,_,p⟩:=(show ObjOk X.prog X.w H s.heap a (.dK kvs)from I.hok a _ ea);obtain⟨o,es,ep,h1,h2,_⟩:=p;exact PySem.W.kia_one PySem.W.kitx_dict I.kIn ⟨o,h1,h2.1⟩ e (λz=>nomatch z) h
 |@dT a kvs ea =>
  cases(show u=Value.ref a from d);obtain⟨_,_,xs,_,o,es,ep,h1,h2,_⟩:=(show ObjOk X.prog X.w H s.heap a (.dT kvs)from I.hok a _ ea);exact PySem.W.kia_one PySem.W.kitx_dict I.kIn ⟨o,h1,h2.1⟩ e (λz=>nomatch z) h
 |@ins a C dx fs ea cl g k f j =>
  cases(show u=Value.ref a from d);obtain⟨mA,O,_⟩:=a2a I.hok ea;obtain⟨od,J,_⟩:=O.look;exact PySem.W.kia_one (PySem.W.kitx_own (cl.get _) cl.hd g k f j) I.kIn J e (λz=>nomatch z) h
end
structure Room(k:Nat)(A:Around):Prop where
 hd:A.handled=none
 dp:A.depth+3*k+5<recursionLimit
 un:A.units+16*k+200<cLine
theorem Room.mono{j k:Nat}{A:Around}(r:Room k A)(h:j<=k):Room j A:=⟨r.hd,by have:=r.dp;omega,by have:=r.un;omega⟩
theorem Room.deeper{k:Nat}{A:Around}(r:Room (k+1) A)(env:Env):Room k (A.deeper env) :=
 ⟨r.hd,by have:=r.dp;show A.depth+1+3*k+5<_;omega,by have:=r.un;show A.units+3+16*k+200<_;omega⟩
theorem a7v{A:Around}{C:Addr}{us:List Value}{a:List (Str×Value)}:(A.under (.builtin "type.__call__" ⟨.ref C::us,a⟩)).depth=A.depth+1:=by
 first|rfl|simp[Around.under,Code.weight,Code.isCreation,Code.isGuard,Code.isCaller,Code.frames,Code.isFrame,guardIds]
theorem a7u{A:Around}{C:Addr}{us:List Value}{a:List (Str×Value)}:(A.under (.builtin "type.__call__" ⟨.ref C::us,a⟩)).units=A.units+1:=by
 first|rfl|simp[Around.under,Code.cUnits,Code.frames,Code.isFrame]
theorem Room.make{k:Nat}{A:Around}(r:Room (k+1) A)(C:Addr)(us:List Value)(a:List (Str×Value)):Room k (A.under (.builtin "type.__call__" ⟨.ref C::us,a⟩)) :=
 ⟨r.hd,by have:=r.dp;rw[a7v];omega,by have:=r.un;rw[a7u];omega⟩
theorem Room.depth{k:Nat}{A:Around}(r:Room k A):A.depth<recursionLimit:=by have:=r.dp;omega
def a1C:TA:=λ_ H Q=>Q [] H
def a5D(ta:TE)(tr:TA):TA:=λσ H Q=>ta σ H λx H1=>tr σ H1 λxs H2=>Q (x::xs) H2
section
variable {X:Cx}{e:Expr}{es:List Expr}{te:TE}{t:TA}{pos:Pos}
theorem b6Q:PA X [] a1C:=λ_ _ _ _ H Q I h=>Calls.spliced_nil ⟨[],H,I,.nil,h⟩
theorem b4A(c:PE X e te)(d:PA X es t)(hs:starEach (e::es) X.env=(false,eval e X.env)::starEach es X.env:=by rfl):PA X (e::es) (a5D te t):=by
 intro pos pins s σ H Q I h;rw[hs];show wpAny _ _ (spliced ((false,eval e X.env)::backTo pos (starEach es X.env))) _ _ s;refine Calls.spliced_cons (thn (c pins s σ H _ I h) λu s1 ⟨x,H1,a,g,q1⟩=>?_);exact thn (d pos pins s1 σ H1 _ a q1) λj s2 ⟨xs,H2,b,i,f⟩=>⟨x::xs,H2,b,.cons g i,f⟩
def b6h(t:TA):TE:=λσ H Q=>t σ H λxs H1=>xs.length<=sizeLine/\∀p,H1 p=none->Q (.ref p) (upd H1 p (.tup xs))
def b3H(t:TA):TE:=λσ H Q=>t σ H λxs H1=>xs.length<=sizeLine/\∀p,H1 p=none->Q (.ref p) (upd H1 p (.lst xs))
theorem b6F{x1}(h:PA X es t):PE X (.Tuple es x1 pos) (b6h t):=by
 intro pins s σ H Q I d;refine wpAny_Tuple_spliced (thn (h pos pins s σ H _ I d) λf s1 ⟨xs,H1,a,r,z,q⟩=>⟨by rw[<-r.length];exact z,?_⟩);have c:H1 s1.heap.objs.size=none:=a.hok.fresh (aq _);refine⟨.ref s1.heap.objs.size,upd H1 s1.heap.objs.size (.tup xs),a.laid (t':=s1.toks) (λb u e=>ag _ e) (aq _) ?_,rfl,q _ c⟩;exact⟨z,f,r,⟨_,aJ _ rfl,rfl,_,rfl⟩⟩
theorem b6K(h:PA X es t):PE X (.List es pos) (b3H t):=by
 intro pins s σ H Q I d;refine wpAny_List_spliced (thn (h pos pins s σ H _ I d) λf s1 ⟨xs,H1,a,r,z,q⟩=>⟨by rw[<-r.length];exact z,?_⟩);have c:H1 s1.heap.objs.size=none:=a.hok.fresh (aq _);refine⟨.ref s1.heap.objs.size,upd H1 s1.heap.objs.size (.lst xs),a.laid (t':=s1.toks) (λb u e=>ag _ e) (aq _) ?_,rfl,q _ c⟩;exact⟨z,f,0,r,aJ _ rfl⟩
end
abbrev Sp:=List V->Hp->VK->XK->Prop
abbrev CXT:=List Env->Hp->Shared->XK->Value->Shared->Prop
structure Env0(P:Program)(w:World)(K:PySem.W.Frag)(mg:Str->Option Value)(base:Heap)(A:Around)(outer:List Env)(s:Shared)(H:Hp):Prop where
 frames:A.frames=some outer
 mod:Mod K mg base
 bs:∀b o,base.get? b=some o->s.heap.get? b=some o/\H b=none
 bsz:base.objs.size<=s.heap.objs.size
 funs:s.heap.FunFrames base outer
 frf:∀b∈frs outer,H b=none
 hok:HOk P w H s.heap
 bare:AllBare s.gens
def CE(outer:List Env)(P:Program)(w:World)(H:Hp)(s:Shared)(Q:VK)(u:Value)(s':Shared):Prop :=
 ∃v H',s'.os=s.os/\AllBare s'.gens/\Un (frs outer) [] H H' s.heap s'.heap/\HOk P w H' s'.heap/\RelV v u/\Q v H'
def CR(CX:CXT)(outer:List Env)(P:Program)(w:World)(H:Hp)(s:Shared)(Q:VK)(E:XK)(r:Result)(s':Shared):Prop :=
 match r with
 |.ok (.ret u)=>CE outer P w H s Q u s'
 |.ok _=>False
 |.error e=>CX outer H s E e s'
structure FnOk(P:Program)(w:World)(K:PySem.W.Frag)(mg:Str->Option Value)(base:Heap)(CX:CXT)(k:Nat)(f:Addr)(fd:FuncData)(ps:List Str)(sp:Sp):Prop where
 len:∀vs H Q E,sp vs H Q E->vs.length=ps.length
 run:∀(A:Around) (outer:List Env) (s:Shared) (H:Hp) (args:Args) (us:List Value) (vs:List V) (Q:VK) (E:XK),Room k A->Env0 P w K mg base A outer s H->BindsTo s fd args (ps.zip us)->Vals vs us->sp vs H Q E ->
  codeAny (model P w) A (.call (.ref f) args) (CR CX outer P w H s Q E) s
theorem FnOk.imp{P:Program}{w:World}{K:PySem.W.Frag}{mg:Str->Option Value}{base:Heap}{CX:CXT}{k:Nat}{f:Addr}{fd:FuncData}{ps:List Str}{sp sp':Sp}(F:FnOk P w K mg base CX k f fd ps sp)
  (h:∀vs H Q E,sp' vs H Q E->sp vs H Q E):FnOk P w K mg base CX k f fd ps sp' :=
 ⟨λvs H Q E q=>F.len vs H Q E (h _ _ _ _ q),λA a s H b i vs Q E e d c g hs=>F.run A a s H b i vs Q E e d c g (h _ _ _ _ hs)⟩
theorem Env0.make{P:Program}{w:World}{K:PySem.W.Frag}{mg:Str->Option Value}{base:Heap}{A:Around}{outer:List Env}{s:Shared}{H:Hp}(e:Env0 P w K mg base A outer s H)(C:Addr)(us:List Value)(a:List (Str×Value)) :
  Env0 P w K mg base (A.under (.builtin "type.__call__" ⟨.ref C::us,a⟩)) outer s H:=⟨by first|exact e.frames | (simpa[Around.under,Code.envs,Code.isFrame,pushEnvs]using e.frames),e.mod,e.bs,e.bsz,e.funs,e.frf,e.hok,e.bare⟩
section
variable {X:Cx}{pins:List (Addr×Obj)}{σ:St}{H:Hp}{s s':Shared}
theorem Inv.env0(I:Inv X pins σ H s):Env0 X.prog X.w X.K X.mg X.base X.A X.stack s H :=
 ⟨I.ok.frames,I.ok.mod,I.bs,bf I.ok.bsz I.sz,I.stack,I.stkFree,I.hok,I.bare⟩
theorem Inv.after{Q:VK}{u:Value}(I:Inv X pins σ H s)(h:CE X.stack X.prog X.w H s Q u s'):EP X pins σ Q u s':=by
 obtain⟨v,H',os,a,un,c,r,q⟩:=h;obtain⟨f,g,d,t,e⟩:=s';obtain rfl:e=s.os:=os;exact⟨v,H',I.call (h':=f) (g':=g) (d':=d) (t':=t) (ch:=[]) un c a (λb z=>absurd z (by simp)),r,q⟩
end
def a8e(sp:Sp)(dvs:List V)(E:XK)(t:TA):TE:=λσ H Q=>t σ H λvs H1=>sp (vs++dvs) H1 Q E
def a1v(C:Addr)(m:Str)(sp:Sp)(dvs:List V)(E:XK)(ta:TE)(t:TA):TE:=λσ H Q=>ta σ H λx H1=>∃a dx fs,x=.ref a/\H1 a=some (.ins C dx fs)/\fs.lookup m=none /\
 t σ H1 λvs H2=>sp (x::(vs++dvs)) H2 Q E
def b5w(C:Addr)(sp:Sp)(dvs:List V)(E:XK)(t:TA):TE:=λσ H Q=>t σ H λvs H1=>∀x dx,H1 x=none->H1 dx=none->dx≠x ->
 sp (.ref x::(vs++dvs)) (upd (upd H1 dx (.own x)) x (.ins C dx [])) (λv H2=>v=.non/\Q (.ref x) H2) E
def Binds(K:PySem.W.Frag)(fd:FuncData)(ps:List Str)(ds:List Value):Prop :=
 ∀(s:Shared) (us:List Value),K.In s.heap->(us++ds).length=ps.length->BindsTo s fd ⟨us,[]⟩ (ps.zip (us++ds))
theorem Binds.all{K:PySem.W.Frag}{fd:FuncData}{ps:List Str}(h:∀us:List Value,us.length=ps.length->bindArgs fd ⟨us,[]⟩=pure (ps.zip us)):Binds K fd ps []:=λs us _ a=>by
 rw[cJ]at a⊢;exact .of_eq (h us a)
def X7(CX:CXT)(X:Cx)(E:XK):Prop:=∀(pins:List (Addr×Obj)) (σ:St) (H:Hp) (s:Shared) (e:Value) (s':Shared),Inv X pins σ H s->CX X.stack H s E e s'->X.xe e s'
section
variable {X:Cx}{CX:CXT}{k:Nat}{f C:Addr}{fd:FuncData}{ps:List Str}{sp:Sp}{dvs:List V}{ds:List Value}{E:XK}{x m:Str}{p pos apos:Pos}{e o:Expr}{es:List Expr}{ta:TE}{t:TA}
theorem a7h{pins:List (Addr×Obj)}{σ:St}{H:Hp}{s:Shared}{Q:VK}{us:List Value}{vs:List V}(F:FnOk X.prog X.w X.K X.mg X.base CX k f fd ps sp)(g:Room k X.A)(c:Binds X.K fd ps ds)(hd:Vals dvs ds)(i:X7 CX X E)
  (I:Inv X pins σ H s) (r:Vals vs us) (h:sp (vs++dvs) H Q E):wpAny (model X.prog X.w) X.A (call (.ref f) us) (EP X pins σ Q) X.xe s:=by
 have b:Vals (vs++dvs) (us++ds):=r.append hd;have d:(us++ds).length=ps.length:=by rw[<-b.length];exact F.len _ _ _ _ h
 refine fN (cU (F.run X.A X.stack s H ⟨us,[]⟩ (us++ds) (vs++dvs) Q E g I.env0 (c s us I.kIn d) b h) λr s' a=>?_);cases r with
 |error e=>exact i pins σ H s e s' I a
 |ok fl =>
  cases fl with
  |ret u=>exact I.after a
  |next=>exact False.elim a
  |brk=>exact False.elim a
  |cont=>exact False.elim a
theorem a8B(F:FnOk X.prog X.w X.K X.mg X.base CX k f fd ps sp)(n:Room k X.A)(j:Gl X x)(m:X.mg x=some (.ref f))(l:PySem.W.keepIn X.K (.ref f)=true)(g:Binds X.K fd ps ds)(hd:Vals dvs ds)(o:X7 CX X E)
  (d:PA X (e::es) t) (a:(x==("__debug__" : Str))=false:=by decide) (i:starEach (e::es) X.env=(false,eval e X.env)::starEach es X.env:=by rfl) (b:(backTo pos (starEach es X.env)).any (·.1)=false:=by rfl) :
  PE X (.Call (.Name x p) (e::es) [] pos) (a8e sp dvs E t):=by
 intro pins s σ H Q I h;refine dt (O7 I j m ?_ a);refine PySem.W.callWith_K (h₀:=X.base) I.ok.mod.kin l (thn (d pos pins s σ H _ I h) λu s1 ⟨vs,H1,c,r,q⟩=>⟨c.kIn,?_⟩) i b;exact a7h F n g hd o c r q
theorem b4u{pl:Sem Bool}(w:PE X o ta)(c:Cls X.K C)(j:Meth X.K C m f)(F:FnOk X.prog X.w X.K X.mg X.base CX k f fd ps sp)(y:Room k X.A)(v:Binds X.K fd ps ds)(hd:Vals dvs ds)(A:X7 CX X E)(p:PA X (e::es) t)
  (d:starEach (e::es) X.env=(false,eval e X.env)::starEach es X.env:=by rfl) (b:(backTo pos (starEach es X.env)).any (·.1)=false:=by rfl)
  (z:eval (.Call (.Attribute o m apos) (e::es) [] pos) X.env=(do
   let ov <-eval o X.env
   standAt apos.atName
   let (f,first) <-holding [ov] (getMethod ov m pl)
   callWith pos f first (backTo pos (starEach (e::es) X.env)) (backToKw pos (keywordEach [] X.env))):=by rfl) :
  PE X (.Call (.Attribute o m apos) (e::es) [] pos) (a1v C m sp dvs E ta t):=by
 intro pins s σ H Q I h;refine PySem.W.methodCall_KW (pl:=pl) (thn (w pins s σ H _ I h) λu s1 ⟨x,H1,g,D,a,dx,fs,ex,n,l,q⟩=>?_) z;subst ex;obtain rfl:u=Value.ref a:=D;refine a2V g n c j l ?_;refine PySem.W.callWith_K (first:=[.ref a]) (h₀:=X.base) I.ok.mod.kin j.kp (thn (p pos pins s1 σ H1 _ g q) λG s2 ⟨vs,H2,i,r,B⟩=>⟨i.kIn,?_⟩) d b;exact a7h (us:=.ref a::G) (vs:=.ref a::vs) F y v hd A i (.cons rfl r) B
theorem b1W{pl:Sem Bool}(i:PE X o ta)(c:Cls X.K C)(d:Meth X.K C m f)(F:FnOk X.prog X.w X.K X.mg X.base CX k f fd ps sp)(j:Room k X.A)(g:Binds X.K fd ps ds)(hd:Vals dvs ds)(p:X7 CX X E)
  (n:eval (.Call (.Attribute o m apos) [] [] pos) X.env=(do
   let ov <-eval o X.env
   standAt apos.atName
   let (f,first) <-holding [ov] (getMethod ov m pl)
   callWith pos f first (backTo pos (starEach [] X.env)) (backToKw pos (keywordEach [] X.env))):=by rfl) :
  PE X (.Call (.Attribute o m apos) [] [] pos) (a1v C m sp dvs E ta a1C):=by
 intro pins s σ H Q I h;refine PySem.W.methodCall_KW (pl:=pl) (thn (i pins s σ H _ I h) λu s1 ⟨x,H1,b,r,a,dx,fs,ex,e,l,q⟩=>?_) n;subst ex;obtain rfl:u=Value.ref a:=r;refine a2V b e c d l ?_;exact PySem.W.callWith_K0 (first:=[.ref a]) b.kIn d.kp (a7h (us:=[.ref a]) (vs:=[.ref a]) F j g hd p b (.cons rfl .nil) q)
structure Mk(K:PySem.W.Frag)(C f:Addr):Prop where
 makes:PySem.W.makesIn K C=true
 init:PySem.W.findIn K (.ref C) "__init__"=some (some (.ref f))
 fn:PySem.W.isFn K (.ref f)=true
 kp:PySem.W.keepIn K (.ref C)=true
theorem b1t{pins:List (Addr×Obj)}{σ:St}{H:Hp}{s:Shared}{Q:VK}{us:List Value}{vs:List V}(M:Mk X.K C f)(F:FnOk X.prog X.w X.K X.mg X.base CX k f fd ps sp)(m:Room (k+1) X.A)(j:Binds X.K fd ps ds)(hd:Vals dvs ds)
  (n:X7 CX X E) (I:Inv X pins σ H s) (r:Vals vs us)
  (h:∀x dx,H x=none->H dx=none->dx≠x->sp (.ref x::(vs++dvs)) (upd (upd H dx (.own x)) x (.ins C dx [])) (λv H2=>v=.non/\Q (.ref x) H2) E) :
  wpAny (model X.prog X.w) X.A (call (.ref C) us) (EP X pins σ Q) X.xe s:=by
 have c:=h (s.heap.objs.size+1) s.heap.objs.size (I.hok.fresh (eh _)) (I.hok.fresh (aq _)) (aM (cf _));have b:=Inv.made (C:=C) I;have d:Vals (V.ref (s.heap.objs.size+1)::(vs++dvs)) (Value.ref (s.heap.objs.size+1)::(us++ds)):=.cons rfl (r.append hd);have l:(Value.ref (s.heap.objs.size+1)::us++ds).length=ps.length:=by
  have e:=d.length;rw[F.len _ _ _ _ c]at e;exact e.symm
 refine fN (b2v (f:=f) I.kIn M.makes M.init (a_.mp M.fn) (cU (F.run _ X.stack _ _ ⟨Value.ref (s.heap.objs.size+1)::us,[]⟩ (Value.ref (s.heap.objs.size+1)::(us++ds)) _ _ E (m.make C us [])
  (b.env0.make C us []) (j _ (Value.ref (s.heap.objs.size+1)::us) b.kIn l) d c) λr s' a=>?_))
 cases r with
 |error e=>exact n pins σ _ _ e s' b a
 |ok fl =>
  cases fl with
  |ret u =>
   obtain⟨v,H',g,p,i,o⟩:=b.after a;subst i;exact⟨p,⟨V.ref (s.heap.objs.size+1),H',g,rfl,o⟩⟩
  |next=>exact False.elim a
  |brk=>exact False.elim a
  |cont=>exact False.elim a
theorem b4v(M:Mk X.K C f)(F:FnOk X.prog X.w X.K X.mg X.base CX k f fd ps sp)(m:Room (k+1) X.A)(j:Gl X x)(l:X.mg x=some (.ref C))(g:Binds X.K fd ps ds)(hd:Vals dvs ds)(n:X7 CX X E)
  (d:PA X (e::es) t) (a:(x==("__debug__" : Str))=false:=by decide) (i:starEach (e::es) X.env=(false,eval e X.env)::starEach es X.env:=by rfl) (b:(backTo pos (starEach es X.env)).any (·.1)=false:=by rfl) :
  PE X (.Call (.Name x p) (e::es) [] pos) (b5w C sp dvs E t):=by
 intro pins s σ H Q I h;refine dt (O7 I j l ?_ a);refine PySem.W.callWith_K (h₀:=X.base) I.ok.mod.kin M.kp (thn (d pos pins s σ H _ I h) λo s1 ⟨vs,H1,c,r,q⟩=>⟨c.kIn,?_⟩) i b;exact b1t M F m g hd n c r q
end
section
variable {X:Cx}{CX:CXT}{k:Nat}{f C:Addr}{fd:FuncData}{ps ks:List Str}{sp:Sp}{E:XK}{x m:Str}{p pos apos kpos:Pos}{e o:Expr}{es:List Expr}{kws:List Keyword}{te ta:TE}{t tk:TA}{nm:Option Str}
variable {g:List Value->List Value->List Value}{gV:List V->List V->List V}
end
structure FnScope(N P:List Str)(sc:Scope):Prop where
 kind:sc.kind=.function
 co:sc.isCoroutine=false
 gen:sc.isGenerator=false
 nd:N.Nodup
 pre:N.take P.length=P
 par:∀x∈P,sc.names.lookup x=some .local∨sc.names.lookup x=some .cell
 nofree:∀y∈sc.names,y.2≠.free
theorem a4h{kindOf:Str->Option NameKind}{x:Str}:∀{binds:List (Str×Value)}{m:Str->Option Value},(∀v,(x,v)∉binds)->bindL kindOf binds m x=m x
 |[],_,_=>rfl
 |(n,v)::r,m,h=>by
  unfold bindL;rw[a4h λw hw=>h w (ak _ hw)];split
  .have:x≠n:=by rintro rfl;exact h v au
   simp[this]
  .rfl
theorem a4j{kindOf:Str->Option NameKind}{x:Str}:∀{binds:List (Str×Value)}{m:Str->Option Value},(∀v,(x,v)∉binds)->bindC kindOf binds m x=m x
 |[],_,_=>rfl
 |(n,v)::r,m,h=>by
  unfold bindC;rw[a4j λw hw=>h w (ak _ hw)];split
  .rfl
  .have:x≠n:=by rintro rfl;exact h v au
   simp[this]
theorem a4i{kindOf:Str->Option NameKind}{x:Str}{v:Value}:∀{P:List Str}{vs:List Value}{i:Nat}{m:Str->Option Value},P.Nodup->P[i]?=some x->vs[i]?=some v->kindOf x=some .local ->
  bindL kindOf (P.zip vs) m x=some v
 |[],_,_,_,_,h,_,_=>by simp at h
 |_::_,[],_,_,_,_,h,_=>by simp at h
 |p::P,w::vs,0,m,nd,h1,h2,a=>by
  simp at h1 h2;subst h1;subst h2;show bindL kindOf ((p,w)::P.zip vs) m p=_;unfold bindL;rw[a4h λv b=>(cG.mp nd).1 (List.of_mem_zip b).1,ay a];simp
 |p::P,w::vs,i+1,m,nd,h1,h2,a=>by
  show bindL kindOf ((p,w)::P.zip vs) m x=_;unfold bindL;exact a4i (i:=i) (cG.mp nd).2 (by simpa using h1) (by simpa using h2) a
theorem a4k{kindOf:Str->Option NameKind}{x:Str}{v:Value}:∀{P:List Str}{vs:List Value}{i:Nat}{m:Str->Option Value},P.Nodup->P[i]?=some x->vs[i]?=some v->kindOf x≠some .local ->
  bindC kindOf (P.zip vs) m x=some v
 |[],_,_,_,_,h,_,_=>by simp at h
 |_::_,[],_,_,_,_,h,_=>by simp at h
 |p::P,w::vs,0,m,nd,h1,h2,a=>by
  simp at h1 h2;subst h1;subst h2;show bindC kindOf ((p,w)::P.zip vs) m p=_;unfold bindC;rw[a4j λv b=>(cG.mp nd).1 (List.of_mem_zip b).1,ar a];simp
 |p::P,w::vs,i+1,m,nd,h1,h2,a=>by
  show bindC kindOf ((p,w)::P.zip vs) m x=_;unfold bindC;exact a4k (i:=i) (cG.mp nd).2 (by simpa using h1) (by simpa using h2) a
noncomputable def start(N:List Str)(vs:List V):St:=vs.map some++List.replicate (N.length-vs.length) none
noncomputable def K1(CX:CXT)(P:Program)(w:World)(K:PySem.W.Frag)(mg:Str->Option Value)(base:Heap)(N:List Str)(qual:Str)(scope:Scope)(f:Addr)(cd:Value)(A:Around)(outer:List Env)(s:Shared)(H:Hp)(E:XK):Cx where
 prog:=P
 w:=w
 K:=K
 mg:=mg
 base:=base
 A:=A.deeper (envOfC qual scope s.heap.objs.size f cd)
 N:=N
 s₀:=s
 H₀:=H
 env:=envOfC qual scope s.heap.objs.size f cd
 outer:=outer
 stack:=envOfC qual scope s.heap.objs.size f cd::outer
 ex:=[]
 calm:=true
 fn:=λ_=>true
 pn:=[]
 xe:=λe s'=>wpAny (model P w) (A.deeper (envOfC qual scope s.heap.objs.size f cd)) (leaving (envOfC qual scope s.heap.objs.size f cd) e) (λ_ s''=>CX outer H s E e s'') (λe' s''=>CX outer H s E e' s'') s'
theorem a6F{a:Scope}{n:Nat}{x:Str}(h:a.names.lookup x=some .cell):∃c,(cellsFrom n a.names []).lookup x=some c:=by
 have q:=PySem.W.cellsFrom_some a.names n [] (.inl h);exact Option.isSome_iff_exists.mp q
theorem b0j{CX:CXT}{P:Program}{w:World}{K:PySem.W.Frag}{mg:Str->Option Value}{base:Heap}{N ps:List Str}{qual:Str}{scope:Scope}{f:Addr}{cd:Value}{A:Around}{outer:List Env}{s s1:Shared}{H:Hp}{E:XK}{us:List Value}{vs:List V}
  (S:FnScope N ps scope) (hd:A.handled=none) (d:Env0 P w K mg base A outer s H) (G:vs.length=ps.length) (r:Vals vs us)
  (x:InCallC s s.heap.objs.size (bindL (envOfC qual scope s.heap.objs.size f cd).kindOf (ps.zip us) λ_=>none) (cellsFrom (s.heap.objs.size+1) scope.names []) (bindC (envOfC qual scope s.heap.objs.size f cd).kindOf (ps.zip us) λ_=>none) s1) :
  Inv (K1 CX P w K mg base N qual scope f cd A outer s H E) [] (start N vs) H s1:=by
 have C:ps.length<=N.length:=by have:=aO List.length S.pre;rw[aX]at this;omega
 obtain⟨h1,tk,rfl,o⟩:=x.done;have j:∀b:Addr,b∉(K1 CX P w K mg base N qual scope f cd A outer s H E).ex:=λb z=>absurd (show b∈([]:List Addr)from z) (by simp);refine⟨⟨d.mod,S.kind,rfl,rfl,aq _,λy z c h1 h2=>?_,λy g=>?_,λy c _ h=>?_,λ_=>hd,Around.frames_deeper d.frames,.inr ⟨rfl,rfl⟩,λb z=>absurd z (j b),d.bs,d.bsz,λb _ _=>j b,λb z=>absurd z (j b),d.funs,d.frf⟩,
  rfl,d.bare,Un.kept o,⟨_,x.toInCall.ns,λi y v h1 h2 F=>?_⟩,λy c h=>⟨_,x.cell y c h⟩,d.hok.fresh (aq _),λy c h=>?_,λp l=>absurd (show p∈([]:List (Addr×Obj))from l) (by simp),d.hok.kept o,?_⟩
 .exact name_of_addr x.apart (PySem.mem_of_lookup h1) (PySem.mem_of_lookup h2)
 .have g:scope.names.lookup y=some .cell∨scope.names.lookup y=some .free:=g;rcases g with g|g
  .exact a6F g
  .exact absurd rfl (S.nofree _ (PySem.mem_of_lookup g))
 .exact cH (x.above y c (PySem.mem_of_lookup h))
 .have hi:i<vs.length:=by
   unfold start at h2;by_cases hi:i<vs.length
   .exact hi
   .rw[bb (by simpa using hi)]at h2;rw[fk]at h2;split at h2<;>cases h2
  have B:vs[i]?=some v:=by
   unfold start at h2;rw[bo (by simpa using hi),aW]at h2;cases e:vs[i]? with
   |none=>rw[e]at h2;cases h2
   |some a=>rw[e]at h2;cases h2;rfl
  obtain⟨u,t,D⟩:=r.get B;have l:ps[i]?=some y:=by
   rw[<-S.pre,de (by omega)];exact h1
  have m:ps.Nodup:=by rw[<-S.pre];exact S.nd.sublist (List.take_sublist _ _)
  refine⟨u,D,?_⟩;rcases S.par y (aH l)with k|k
  .exact .inl ⟨k,a4i m l t k⟩
  .obtain⟨c,e⟩:=a6F (n:=s.heap.objs.size+1) k;refine .inr ⟨.inl k,c,e,?_⟩;have q:=x.cell y c e;rw[a4k m l t (by show scope.names.lookup y≠_;rw[k];decide)]at q;exact q
 .exact d.hok.fresh (cH (x.above y c (PySem.mem_of_lookup h)))
 .unfold start;show _=N.length;rw[az,aj,bh];omega
theorem b5Z{CX:CXT}{P:Program}{w:World}{K:PySem.W.Frag}{mg:Str->Option Value}{base:Heap}{k:Nat}{f:Addr}{name qual:Str}{c:Arguments}{body:List Stmt}{scope:Scope}{G kV h pm a ct oc:Value}{an od:Option Addr}
  {B:Array (Option Value)}{N ps:List Str}{sp:Sp}(W:K.lookup f=some ⟨oc,od,.func (PySem.W.fnOf name qual c body scope G kV h pm an a ct),B⟩) (m:PySem.W.codeIn K a qual=true) (S:FnScope N ps scope)
  (l:∀vs H Q E,sp vs H Q E->vs.length=ps.length)
  (d:∀(A:Around) (outer:List Env) (s:Shared) (H:Hp) (vs:List V) (Q:VK) (E:XK),Room k (A.deeper (envOfC qual scope s.heap.objs.size f a))->sp vs H Q E ->
   ∃t,PSs (K1 CX P w K mg base N qual scope f a A outer s H E) body t/\t {nx:=λ_ H'=>Q .non H',rt:=Q} (start N vs) H) :
  FnOk P w K mg base CX (k+1) f (PySem.W.fnOf name qual c body scope G kV h pm an a ct) ps sp:=by
 refine⟨l,λA outer s H F X vs Q E p i L r j=>?_⟩;have O:=l _ _ _ _ j;have D:K.In s.heap:=i.mod.kin.keeps λb o e=>(i.bs b o e).1;have z:s.heap.NoLimit:=i.mod.nolimit.keeps λb o e=>(i.bs b o e).1;have g:∀y∈ps.zip X,scope.names.lookup y.1=some .local∨(scope.names.lookup y.1=some .cell/\((cellsFrom (s.heap.objs.size+1) scope.names []).lookup y.1).isSome=true):=λ⟨n,v⟩ U=>by
  rcases S.par n (List.of_mem_zip U).1 with q|q
  .exact .inl q
  .exact .inr ⟨q,PySem.W.cellsFrom_some _ _ _ (.inl q)⟩
 refine codeAny_call_function p.depth (D _ _ W) rfl S.co S.gen rfl (PySem.W.codeRec_of D m) (L _ _ _ _ ?_);refine wpAny_newFunctionEnv_cells S.kind g λenv M s1 x=>?_;subst M;refine⟨z.keeps x.toInCall.keep,codeAny_func ?_⟩;obtain⟨t,T,R⟩:=d A outer s H vs Q E (p.deeper _) j;have I:Inv (K1 CX P w K mg base N qual scope f a A outer s H E) [] (start N vs) H s1:=b0j S p.hd i O r x;refine cw (T [] s1 (start N vs) H _ I R) (λfl s' hs=>?_) λe s' hs=>hs;have fin:∀{σ':St}{H':Hp}{v:V}{u:Value},Inv (K1 CX P w K mg base N qual scope f a A outer s H E) [] σ' H' s'->RelV v u->Q v H'->CE outer P w H s Q u s' :=
  λ{σ' H' v u} J C q=>⟨v,H',J.os,J.bare,J.base,J.hok,C,q⟩
 cases fl with
 |ret u =>
  obtain⟨v,σ',H',J,C,q⟩:=hs;exact fin J C q
 |next =>
  obtain⟨σ',H',J,q⟩:=hs;exact fin (v:=V.non) (u:=Value.none) J rfl q
 |brk =>
  obtain⟨_,_,_,q⟩:=hs;exact False.elim q
 |cont =>
  obtain⟨_,_,_,q⟩:=hs;exact False.elim q
section
variable {X:Cx}{x:Str}{p pos:Pos}{e:Expr}{es:List Expr}{t:TA}{id T:String}{r:List V->Hp->VK->Prop}
def tCB(r:List V->Hp->VK->Prop)(t:TA):TE:=λσ H Q=>t σ H λvs H1=>r vs H1 Q
theorem G3(f:E2 X (.builtin id) r)(i:Gl X x)(j:X.mg x=none)(l:bootBuiltins x=some (.builtin id))(d:PA X (e::es) t)(k:x≠"__name__":=by decide)(a:(x==("__debug__" : Str))=false:=by decide)
  (g:starEach (e::es) X.env=(false,eval e X.env)::starEach es X.env:=by rfl) (b:(backTo pos (starEach es X.env)).any (·.1)=false:=by rfl):PE X (.Call (.Name x p) (e::es) [] pos) (tCB r t):=by
 intro pins s σ H Q I h;refine dt (a2J I i j l ?_ k a);exact PyProof.Rows.callWith_builtin1 (thn (d pos pins s σ H _ I h) λn s1 ⟨vs,H1,c,m,q1⟩=>f pins s1 σ H1 vs n Q c m q1) g b
theorem Q6(f:E2 X (.type T) r)(i:Gl X x)(j:X.mg x=none)(l:bootBuiltins x=some (.type T))(d:PA X (e::es) t)(k:x≠"__name__":=by decide)(a:(x==("__debug__" : Str))=false:=by decide)
  (g:starEach (e::es) X.env=(false,eval e X.env)::starEach es X.env:=by rfl) (b:(backTo pos (starEach es X.env)).any (·.1)=false:=by rfl):PE X (.Call (.Name x p) (e::es) [] pos) (tCB r t):=by
 intro pins s σ H Q I h;refine dt (a2J I i j l ?_ k a);exact eG (thn (d pos pins s σ H _ I h) λn s1 ⟨vs,H1,c,m,q1⟩=>f pins s1 σ H1 vs n Q c m q1) g b
end
end L2
namespace HT
open PySem PyProof.Rows
noncomputable def lexLt:List Int->List Int->Bool
 |[],[]=>false
 |[],_::_=>true
 |_::_,[]=>false
 |x::xs,y::ys=>if x=y then lexLt xs ys else decide (x<y)
theorem lexLt_cons(x y:Int)(xs ys:List Int):lexLt (x::xs) (y::ys)=if x=y then lexLt xs ys else decide (x<y):=rfl
section
open PySem.SeqAt
open PySem.AutoSeq1 (wpAny_loadPart')
open PySem.MeetsSeq PySem.MeetsSeq2 PySem.MeetsSeq3
end
section
variable {prog:Program}{w:World}{A:Around}{E:Value->Shared->Prop}{s:Shared}
theorem cat_tup{t b:Addr}{vs a:List Value}{Q:Value->Shared->Prop}(r:IsTup s.heap t vs.toArray)(q:IsTup s.heap b a.toArray)(o:vs≠[])
  (h1:a=[]->Q (.ref t) s) (h2:a≠[]->Q (.ref s.heap.objs.size) {s with heap:=s.heap.push {cls:=.type "tuple",data:=.seq (vs++a).toArray}})
  (k:vs.length+a.length<=sizeLine):wpAny (model prog w) A (binaryOp .Add (.ref t) (.ref b)) Q E s:=by
 obtain⟨⟨cls,dd,data,sl⟩,i,m,n,hd⟩:=id r;obtain⟨⟨l,d,j,h⟩,c,f,p,g⟩:=id q;simp only at m hd f g;subst m hd f g;have e:vs.toArray++a.toArray=(vs++a).toArray:=by simp
 by_cases hw:a=[]
 .exact concat_meets ⟨_,i,rfl⟩ ⟨_,c,rfl⟩ noFill_tuple_add seq_tuple_add PySem.F.slot_tuple_add PySem.F.entry_tuple_add (PySem.F.args_tuple_add_2 _ _)
   (tuple_addW1 t b vs.toArray a.toArray n p dd d sl h (by simpa using o) (by simp[hw])) ⟨i,c,h1 hw⟩
 .refine concat_meets ⟨_,i,rfl⟩ ⟨_,c,rfl⟩ noFill_tuple_add seq_tuple_add PySem.F.slot_tuple_add PySem.F.entry_tuple_add (PySem.F.args_tuple_add_2 _ _)
   (tuple_addW2 t b vs.toArray a.toArray n p dd d sl h (by simpa using o) (by simpa using hw) (by rw[aD,aD];exact k)) ⟨i,c,?_⟩
  rw[e];exact h2 hw
noncomputable def sIx(n d:Nat):Option Int->Nat
 |none=>d
 |some v=>if v<0 then(v+(n:Int)).toNat else min v.toNat n
theorem sIx_none(n d:Nat):sIx n d none=d:=rfl
theorem sIx_nat(n d k:Nat):sIx n d (some (k:Int))=min k n:=by
 show(if (k:Int)<0 then((k:Int)+(n:Int)).toNat else min (k:Int).toNat n)=min k n;rw[ar (by omega),br]
theorem b6m(n d:Nat)(hd:d<=n)(o:Option Int):sIx n d o<=n:=by
 cases o with
 |none=>exact hd
 |some v =>
  show(if v<0 then(v+(n:Int)).toNat else min v.toNat n)<=n;by_cases a:v<0
  .rw[ay a];omega
  .rw[ar a];exact Nat.min_le_right _ _
theorem a9j(v:Int)(n d:Nat):(if v<0 then max (v+(n:Int)) 0 else min v (n:Int))=((sIx n d (some v):Nat):Int):=by
 show(if v<0 then max (v+(n:Int)) 0 else min v (n:Int))=(((if v<0 then(v+(n:Int)).toNat else min v.toNat n):Nat):Int);by_cases a:v<0
 .simp only[ay a];omega
 .simp only[ar a];omega
theorem a7N(lo hi:Option Int)(n:Nat):Builtin.Slice.sliceAdjust lo hi 1 (n:Int)=(((sIx n 0 lo:Nat):Int),((sIx n n hi:Nat):Int)):=by
 have h1:¬((1:Int)<0):=by omega
 unfold Builtin.Slice.sliceAdjust;simp only[h1,if_false];refine Prod.ext ?_ ?_
 .cases lo with
  |none=>rfl
  |some v=>exact a9j v n 0
 .cases hi with
  |none=>rfl
  |some v=>exact a9j v n n
theorem a7m(i j:Nat):Builtin.Slice.slicePlaces (i:Int) (j:Int) 1=j-i:=by
 unfold Builtin.Slice.slicePlaces;have h1:(1:Int) > 0:=by omega
 simp only[h1,eR,Int.ediv_one];split<;>omega
theorem a2o{v:Value}{o:Option Int}{Q:Option Int->Shared->Prop}(p:IsPart v o)(h:Q o s):wpAny (model prog w) A (Builtin.Slice.slicePartIndex v) Q E s:=by
 cases p with
 |none=>exact slicePart_none h
 |int i t=>exact slicePart_int h
theorem Q5{sl:Addr}{c d:Value}{lo hi:Option Int}{n:Nat}{Q:Int×Int×Nat->Shared->Prop}(hs:s.heap.IsSliceOf sl c d .none)(pl:IsPart c lo)(f:IsPart d hi)
  (h:Q (((sIx n 0 lo:Nat):Int),1,sIx n n hi-sIx n 0 lo) s):wpAny (model prog w) A (Builtin.Slice.sliceApplied (.ref sl) (pure (n:Int))) Q E s:=by
 obtain⟨os,b,e,a⟩:=id hs;unfold Builtin.Slice.sliceApplied Builtin.Slice.sliceFields;refine aa (aa (cn b a (x:=c) rfl (aa (cn b a (x:=d) rfl (aa (cn b a (x:=.none) rfl (ae ?_)))))));refine aa (slicePart_none ?_);show wpAny _ _ (if ((1:Int)==0)=true then _ else _) _ _ s;rw[ar (by decide)];refine aa (a2o pl (aa (a2o f (aa (ae ?_)))));show wpAny _ _ (match Builtin.Slice.sliceAdjust lo hi 1 (n:Int)with | (lo,hi)=>pure (lo,(1:Int),Builtin.Slice.slicePlaces lo hi 1)) _ _ s;rw[a7N lo hi n];show wpAny _ _ (pure (((sIx n 0 lo:Nat):Int),(1:Int),Builtin.Slice.slicePlaces ((sIx n 0 lo:Nat):Int) ((sIx n n hi:Nat):Int) 1)) _ _ s;rw[a7m];exact ae h
theorem b1T(xs:Array Value)(i k:Nat):((List.range k).filterMap λ(m:Nat)=>xs[((i:Int)+(m:Int)*1).toNat]?).toArray=((xs.toList.drop i).take k).toArray:=by
 have e:(λ(m:Nat)=>xs[((i:Int)+(m:Int)*1).toNat]?)=λm=>xs[i+m]?:=by
  funext m;have:((i:Int)+(m:Int)*1).toNat=i+m:=by omega
  rw[this]
 rw[e];have:=pick_run xs i k;rw[List.filterMap_map]at this;have a:((λx=>xs[x]?) ∘ λx=>i+x)=λm=>xs[i+m]?:=rfl;rw[a]at this;rw[this]
theorem getItem_tuple_cut{t sl:Addr}{items:Array Value}{g i:Value}{lo hi:Option Int}{Q:Value->Shared->Prop}(b:IsTup s.heap t items)(hs:s.heap.IsSliceOf sl g i .none)(pl:IsPart g lo)(l:IsPart i hi)
  (hw:¬(sIx items.size 0 lo=0/\sIx items.size items.size hi=items.size))
  (h:Q (.ref s.heap.objs.size) {s with heap:=s.heap.push {cls:=.type "tuple",data:=.seq ((items.toList.drop (sIx items.size 0 lo)).take (sIx items.size items.size hi-sIx items.size 0 lo)).toArray}})
  (k:items.size<=sizeLine):wpAny (model prog w) A (getItem (.ref t) (.ref sl)) Q E s:=by
 have a:sizeOk (.seq ((items.toList.drop (sIx items.size 0 lo)).take (sIx items.size items.size hi-sIx items.size 0 lo)).toArray):=by
  show((items.toList.drop (sIx items.size 0 lo)).take (sIx items.size items.size hi-sIx items.size 0 lo)).toArray.size<=sizeLine;rw[aD,aX,cg,ax];omega
 have n:sIx items.size items.size hi<=items.size:=b6m _ _ (aq _) hi;obtain⟨os,f,d,j⟩:=id hs;have c:s.TypeIs (.ref sl) "slice":=⟨os,f,d⟩;unfold getItem
 try with_reducible refine cc ?_
 first|refine aa (ae ?_)|skip
 refine aa (wpAny_sequenceKey b.typeIs (by decide) ?_);refine aa (bE (name:=Str.ofString "__getitem__") b.typeIs bD
  (bH bD b.typeIs entry_tuple_getitem ?_ (args_tuple_getitem _ _)))
 show wpAny _ _ (Builtin.Tuple.tupleItemsOf (.ref t)>>=_) _ _ s;refine aa (tupleItemsOf_ b ?_);refine aa (eD c ?_);rw[ay (by decide)];refine aa (Q5 hs pl l ?_);have e:¬((((sIx items.size 0 lo:Nat):Int)==0 && (1:Int)==1 && (sIx items.size items.size hi-sIx items.size 0 lo)==items.size)=true):=by
  intro q;rw[aQ,aQ]at q;have q1:((sIx items.size 0 lo:Nat):Int)=0:=eq_of_beq q.1.1;have o:sIx items.size items.size hi-sIx items.size 0 lo=items.size:=eq_of_beq q.2;exact hw ⟨by omega,by omega⟩
 show wpAny _ _ (if (((sIx items.size 0 lo:Nat):Int)==0 && (1:Int)==1 && (sIx items.size items.size hi-sIx items.size 0 lo)==items.size)=true then _ else _) _ _ s;rw[ar e,b1T]
 first
  |exact aa (m:=Builtin.Tuple.tupleExact _) (bt (ae ⟨_,rfl,ae h⟩) a)
  |exact aa (m:=Builtin.Tuple.tupleExact _) (bt (aa (ae (ae ⟨_,rfl,ae h⟩))) a)
  |exact aa (aa (m:=Builtin.Tuple.tupleExact _) (bt (ae (ae ⟨_,rfl,ae h⟩)) a))
  |exact aa (aa (m:=Builtin.Tuple.tupleExact _) (bt (ae ⟨_,rfl,ae h⟩) a))
end
end HT
namespace L2
open PySem PySem.Spec PyProof.Rows
abbrev TO:=St->Hp->(Option Int->Hp->Prop)->Prop
def PO(X:Cx)(e:Option Expr)(t:TO):Prop :=
 ∀(pins:List (Addr×Obj)) (s:Shared) (σ:St) (H:Hp) (Q:Option Int->Hp->Prop),Inv X pins σ H s->t σ H Q ->
  wpAny (model X.prog X.w) X.A (evalPart e X.env) (λu s'=>∃o H',Inv X pins σ H' s'/\IsPart u o/\Q o H') X.xe s
def a1S:TO:=λ_ H Q=>Q none H
def a8c(t:TE):TO:=λσ H Q=>t σ H λx H1=>∃i,x=.int i/\Q (some i) H1
theorem a7A{ns:List Int}:∀{us:List Value},Vals (ns.map V.int) us->IntsAre us ns:=by
 induction ns with
 |nil=>intro us r;rw[List.map_nil]at r;cases r;exact .nil
 |cons n ns a =>
  intro us r;rw[aV]at r;cases r with
  |cons r1 r2 =>
   obtain⟨t,e⟩:=r1;subst e;exact .cons n t (a r2)
section
variable {X:Cx}{e:Expr}{te:TE}{lo hi:Option Expr}{tl th:TO}{pos p2:Pos}
theorem b4l:PO X none a1S:=by
 intro pins s σ H Q I h;rw[evalPart_none];exact ae ⟨none,H,I,.none,h⟩
theorem b4k(h:PE X e te):PO X (some e) (a8c te):=by
 intro pins s σ H Q I hw;rw[evalPart_some];refine thn (h pins s σ H _ I hw) λu s1 ⟨x,H1,a,b,q1⟩=>?_;obtain⟨i,rfl,q⟩:=q1;obtain⟨t,rfl⟩:=b;exact⟨some i,H1,a,.int i t,q⟩
def SlR(X:Cx)(r:V->Option Int->Option Int->Hp->VK->Prop):Prop :=
 ∀(pins:List (Addr×Obj)) (s:Shared) (σ:St) (H:Hp) (x:V) (v vl vu:Value) (lo hi:Option Int) (sl:Addr) (Q:VK),Inv X pins σ H s->RelV x v->s.heap.IsSliceOf sl vl vu .none->IsPart vl lo->IsPart vu hi->r x lo hi H Q ->
  ∃T id,typeLookup (.type T) "__getitem__"=pure (some (.builtin id))/\s.TypeIs v T/\wpAny (model X.prog X.w) X.A (getItem v (.ref sl)) (EP X pins σ Q) X.xe s
def tSl(r:V->Option Int->Option Int->Hp->VK->Prop)(te:TE)(tl th:TO):TE:=λσ H Q=>te σ H λx H1=>tl σ H1 λl H2=>th σ H2 λu H3=>r x l u H3 Q
theorem a2y{r:V->Option Int->Option Int->Hp->VK->Prop}(p:SlR X r)(m:PE X e te)(o:PO X lo tl)(w:PO X hi th):PE X (.Subscript e (.Slice lo hi none p2) pos) (tSl r te tl th):=by
 intro pins s σ H Q I h;refine Subscript_ (thn (m pins s σ H _ I h) λv s1 ⟨x,H1,f,C,q1⟩=>?_);refine wpAny_Slice (thn (o pins s1 σ H1 _ f q1) λc s2 ⟨l,H2,g,y,A⟩=>thn (w pins s2 σ H2 _ g A) λvu a ⟨u,d,i,z,B⟩=>?_);rw[evalPart_none];refine ae ?_;have j:Inv X pins σ d {a with heap:=a.heap.push {cls:=.type "slice",data:=.fields #[c,vu,.none]}}:=i.kept (t':=a.toks) λb D q=>ag _ q;obtain⟨T,id,k,t,n⟩:=p pins {a with heap:=a.heap.push {cls:=.type "slice",data:=.fields #[c,vu,.none]}} σ d x v c vu l u a.heap.objs.size Q j C (Heap.IsSliceOf.new ..) y z B;show wpAny (model X.prog X.w) X.A (subscriptTail e (.Slice lo hi none p2) v (.ref a.heap.objs.size)) (EP X pins σ Q) X.xe {a with heap:=a.heap.push {cls:=.type "slice",data:=.fields #[c,vu,.none]}};exact tail_any (ops:=[.ref a.heap.objs.size,v]) t k n (by with_unfolding_all rfl)
noncomputable def N5(xs:List V)(lo hi:Option Int):List V:=(xs.drop (HT.sIx xs.length 0 lo)).take (HT.sIx xs.length xs.length hi-HT.sIx xs.length 0 lo)
theorem X2(xs:List V)(lo hi:Option Int):(N5 xs lo hi).length<=xs.length:=by
 unfold N5;rw[aX,cg];omega
def b1F(K:PySem.W.Frag):V->Option Int->Option Int->Hp->VK->Prop:=λx lo hi H Q=>∃a xs,x=.ref a/\SqT K H a xs /\
 ¬(HT.sIx xs.length 0 lo=0/\HT.sIx xs.length xs.length hi=xs.length)/\∀p,H p=none->Q (.ref p) (upd H p (.tup (N5 xs lo hi)))
theorem b1i:SlR X (b1F X.K):=by
 intro pins s σ H x v l m lo hi sl Q I j hs g i h;obtain⟨a,xs,rfl,f,hw,q⟩:=h;cases j;obtain⟨its,r,d,e⟩:=I.tuple f;have c:its.toArray.size=xs.length:=by rw[aD];exact r.length.symm
 refine⟨"tuple",_,bD.lookup,d.typeIs,?_⟩;refine HT.getItem_tuple_cut d hs g i (by rw[c];exact hw) ?_ (by rw[c];exact e);rw[c];refine⟨.ref s.heap.objs.size,_,I.laid (t':=s.toks) (o:=.tup (N5 xs lo hi)) (λb k q=>ag _ q) (aq _) ?_,rfl,q _ (I.hok.fresh (aq _))⟩;exact⟨bf (X2 xs lo hi) e,_,(r.drop (HT.sIx xs.length 0 lo)).take (HT.sIx xs.length xs.length hi-HT.sIx xs.length 0 lo),fJ _ _⟩
def b8m(K:PySem.W.Frag):R2:=λx y H Q=>∃a b xs ys,x=.ref a/\y=.ref b/\SqT K H a xs/\SqT K H b ys/\xs≠[]/\xs.length+ys.length<=sizeLine /\
 (ys=[]->Q (.ref a) H)/\(ys≠[]->∀p,H p=none->Q (.ref p) (upd H p (.tup (xs++ys))))
theorem Vals.nil_iff{xs:List V}{us:List Value}(r:Vals xs us):us=[]↔xs=[]:=by
 cases r with
 |nil=>simp
 |cons _ _=>simp
theorem b4F:OpR X (binaryOp .Add) (b8m X.K):=by
 intro pins s σ H x y v u Q I l m h;obtain⟨a,b,xs,ys,rfl,rfl,g,i,j,e,q1,k⟩:=h;cases l;cases m;obtain⟨its,d,p1,_⟩:=I.tuple g;obtain⟨f,c,p2,_⟩:=I.tuple i;refine HT.cat_tup p1 p2 (λz=>j (d.nil_iff.mp z)) (λz=>⟨.ref a,H,I,rfl,q1 (c.nil_iff.mp z)⟩) (λz=>?_) (by rw[<-d.length,<-c.length];exact e);refine⟨.ref s.heap.objs.size,_,I.laid (t':=s.toks) (o:=.tup (xs++ys)) (λb n q=>ag _ q) (aq _) ?_,rfl,k (λw=>z (c.nil_iff.mpr w)) _ (I.hok.fresh (aq _))⟩;exact⟨by rw[az];exact e,_,d.append c,fJ _ _⟩
end
noncomputable def ixN(n:Nat)(i:Int):Option Nat:=if 0<=i then(if i<n then some i.toNat else none)else if -(n:Int)<=i then some (i+n).toNat else none
noncomputable def atI{α:Type}(xs:List α)(i:Int):Option α:=(ixN xs.length i).bind λj=>xs[j]?
theorem a8S{n:Nat}{i:Int}{j:Nat}(h:ixN n i=some j):seqIndex? i n=some j/\j<n /\ -(n:Int)<=i/\i<n:=by
 unfold ixN at h;by_cases a:0<=i
 .rw[ay a]at h;by_cases h1:i<n
  .rw[ay h1]at h;have e:i.toNat=j:=bC h;exact⟨by rw[seqIndex_of a h1,e],by omega,by omega,h1⟩
  .rw[ar h1]at h;cases h
 .rw[ar a]at h;by_cases h1 : -(n:Int)<=i
  .rw[ay h1]at h;have e:(i+n).toNat=j:=bC h;exact⟨by rw[seqIndex_neg (by omega) h1,e],by omega,h1,by omega⟩
  .rw[ar h1]at h;cases h
theorem a9m{α:Type}{xs:List α}{i:Int}{v:α}(h:atI xs i=some v):∃j,seqIndex? i xs.length=some j/\xs[j]?=some v/\j<xs.length /\ -(xs.length:Int)<=i/\i<xs.length:=by
 unfold atI at h;cases e:ixN xs.length i with
 |none=>rw[e]at h;cases h
 |some j =>
  rw[e]at h;obtain⟨h1,h2,a,b⟩:=a8S e;exact⟨j,h1,h,h2,a,b⟩
theorem a0U{α:Type}{xs:List α}{j:Nat}{v:α}(h:xs[j]?=some v):atI xs (j:Int)=some v:=by
 have a:j<xs.length:=(aC.mp h).1;have e:ixN xs.length (j:Int)=some j:=by
  unfold ixN;rw[ay (by omega),ay (by omega)];simp
 unfold atI;rw[e];exact h
def a0W(b:Expr):Prop:=∀o i,subscripted b false o i=operate [o,i] (getItem o i)
def IxR(X:Cx)(r:R2):Prop :=
 ∀(value slice:Expr) (pins:List (Addr×Obj)) (s:Shared) (σ:St) (H:Hp) (x y:V) (v u:Value) (Q:VK),Inv X pins σ H s->RelV x v->RelV y u->r x y H Q ->
  subscripted slice false v u=operate [v,u] (getItem v u)->wpAny (model X.prog X.w) X.A (subscriptTail value slice v u) (EP X pins σ Q) X.xe s
def MtR(X:Cx)(id:String)(r:V->List V->Hp->VK->Prop):Prop :=
 ∀(pins:List (Addr×Obj)) (s:Shared) (σ:St) (H:Hp) (x:V) (xs:List V) (v:Value) (us:List Value) (Q:VK),Inv X pins σ H s->RelV x v->Vals xs us->r x xs H Q ->
  wpAny (model X.prog X.w) X.A (call (.builtin id) (v::us)) (EP X pins σ Q) X.xe s
section
variable {X:Cx}{a b:Expr}{ta tb:TE}{pos:Pos}
theorem b5N{r:R2}(f:IxR X r)(d:PE X a ta)(e:PE X b tb)(hs:a0W b):PE X (.Subscript a b pos) (tOp r ta tb):=by
 intro pins s σ H Q I h;exact Subscript_ (b7F d e I h λv u s2 x y H2 c g i q=>f a b pins s2 σ H2 x y v u Q c g i q (hs _ _))
def b4e(K:PySem.W.Frag):R2:=λx y H Q=>∃p xs i v,x=.ref p/\y=.int i/\SqL K H p xs/\atI xs i=some v/\Q v H
def b4d(K:PySem.W.Frag):R2:=λx y H Q=>∃p xs i v,x=.ref p/\y=.int i/\SqT K H p xs/\atI xs i=some v/\Q v H
theorem b5c:IxR X (b4e X.K):=by
 intro value c pins s σ H x y v u Q I n o h hs;obtain⟨p,xs,i,z,rfl,rfl,m,k,q⟩:=h;cases n;obtain⟨t,rfl⟩:=o;obtain⟨its,r,a,C⟩:=I.list m;obtain⟨j,h1,h2,A,f,g⟩:=a9m k;obtain⟨w,d,b⟩:=r.get h2;have l:=r.length;have B:=a2H;have fin:EP X pins σ Q w s:=⟨z,H,I,b,q⟩;by_cases e:0<=i
 .have hj:i.toNat=j:=by
   rw[seqIndex_of e g]at h1;exact bC h1
  exact item_listR a.isList e (by omega) (by rw[hj];simpa using d) fin hs
 .have hj:(i+(its.toArray.size:Int)).toNat=j:=by
   rw[seqIndex_neg (by omega) f]at h1;rw[aD,<-l];exact bC h1
  exact subscriptTail_builtinR (x:=w) a.isList.typeIs slot_list_getitem.lookup
   (wpAny_getItem_list_neg (Q:=λr s'=>r=w/\EP X pins σ Q r s') a.isList (by omega) (by rw[aD]<;>omega) (by omega) (by rw[hj];simpa using d) ⟨rfl,fin⟩) hs
theorem b2Q:IxR X (b4d X.K):=by
 intro value b pins s σ H x y v u Q I k l h hs;obtain⟨p,xs,i,z,rfl,rfl,g,e,q⟩:=h;cases k;obtain⟨t,rfl⟩:=l;obtain⟨its,r,c,B⟩:=I.tuple g;obtain⟨j,h1,h2,m,n,o⟩:=a9m e;obtain⟨w,d,a⟩:=r.get h2;have f:=r.length;have A:=a2H;have fin:EP X pins σ Q w s:=⟨z,H,I,a,q⟩;exact subscriptTail_builtinR (x:=w) c.typeIs slot_tuple_getitem.lookup
  (getItem_tuple (j:=j) (Q:=λr s'=>r=w/\EP X pins σ Q r s') c (by omega) (by omega) (by rw[aD,<-f];exact h1) (by simpa using d) ⟨rfl,fin⟩) hs
theorem a7t(its:List Value)(n j:Nat)(u:Value):Obj.mapSeq (·.setIfInBounds j u) {cls:=.type "list",data:=.seq its.toArray n}={cls:=.type "list",data:=.seq (its.set j u).toArray n}:=by
 simp[Obj.mapSeq]
theorem Inv.lst{pins:List (Addr×Obj)}{σ:St}{H:Hp}{s:Shared}{p:Addr}{xs:List V}(I:Inv X pins σ H s)(h:H p=some (.lst xs)) :
  ∃(its:List Value) (n:Nat),Vals xs its/\s.heap.get? p=some {cls:=.type "list",data:=.seq its.toArray n}/\xs.length<=sizeLine:=by
 obtain⟨z,its,n,r,e⟩:=I.hok p _ h;exact⟨its,n,r,e,z⟩
theorem Inv.lstUpd{pins:List (Addr×Obj)}{σ:St}{H:Hp}{s:Shared}{p:Addr}{xs ys:List V}{its its':List Value}{n a:Nat}{f:Obj->Obj}(I:Inv X pins σ H s)(h:H p=some (.lst xs))
  (g:s.heap.get? p=some {cls:=.type "list",data:=.seq its.toArray n}) (c:f {cls:=.type "list",data:=.seq its.toArray n}={cls:=.type "list",data:=.seq its'.toArray a}) (r:Vals ys its') (i:ys.length<=sizeLine) (t:Nat) :
  Inv X pins σ (upd H p (.lst ys)) {s with heap:=s.heap.update p f,toks:=t}:=by
 have e:(s.heap.update p f).get? p=some {cls:=.type "list",data:=.seq its'.toArray a}:=by
  rw[cD f g (by rw[c]<;>rfl),c]
 refine I.write (x:=p) (e:=p) (by rw[h];trivial) (.inl rfl) (λb u d q=>(fC _ _ (dM d)).trans q) ⟨_,e⟩ ?_;exact⟨i,its',a,r,e⟩
def b5I:V->V->V->Hp->(Hp->Prop)->Prop:=λo i v H Q=>∃p xs k j,o=.ref p/\i=.int k/\H p=some (.lst xs)/\ixN xs.length k=some j/\Q (upd H p (.lst (xs.set j v)))
theorem b1n:b8J X b5I:=by
 intro pins s σ H o i v B A u Q I x w y h;obtain⟨p,xs,k,j,rfl,rfl,g,l,q⟩:=h;cases x;obtain⟨t,rfl⟩:=w;obtain⟨its,n,r,b,m⟩:=I.lst g;obtain⟨h1,h2,e,f⟩:=a8S l;have a:=r.length;have z:=a2H;have c:Inv X pins σ (upd H p (.lst (xs.set j v))) {s with heap:=s.heap.update p (Obj.mapSeq (·.setIfInBounds j u))} :=
  I.lstUpd g b (a7t its n j u) (r.set y j) (by rw[eT];exact m) s.toks
 by_cases d:0<=k
 .have hk:k.toNat=j:=by
   rw[seqIndex_of d f]at h1;exact bC h1
  exact PySem.W.ki_setAt b d (by omega) (by rw[aD,<-a];exact f) (by rw[hk];exact⟨_,c,q⟩)
 .have hk:(k+(its.toArray.size:Int)).toNat=j:=by
   rw[seqIndex_neg (by omega) e]at h1;rw[aD,<-a];exact bC h1
  exact PySem.W.ki_setBack b (by omega) (by rw[aD,<-a];exact e) (by omega) (by rw[hk];exact⟨_,c,q⟩)
theorem a4B(lo hi:Option Int)(n:Nat):(sliceBounds lo hi none n).1=((HT.sIx n 0 lo:Nat):Int)/\(sliceBounds lo hi none n).2.1=((HT.sIx n n hi:Nat):Int)/\(sliceBounds lo hi none n).2.2=1:=by
 refine⟨?_,?_,rfl⟩
 .cases lo with
  |none=>simp[sliceBounds,HT.sIx]
  |some i =>
   simp only[sliceBounds,HT.sIx,Option.getD_none,show(1:Int) > 0 by decide,eR];by_cases h:i<0
   .simp only[h,eR]<;>omega
   .simp only[h,if_false]<;>omega
 .cases hi with
  |none=>simp[sliceBounds,HT.sIx]
  |some i =>
   simp only[sliceBounds,HT.sIx,Option.getD_none,show(1:Int) > 0 by decide,eR];by_cases h:i<0
   .simp only[h,eR]<;>omega
   .simp only[h,if_false]<;>omega
theorem a3s(its:List Value)(lo hi:Option Int):slicePick its.toArray lo hi none=((its.drop (HT.sIx its.length 0 lo)).take (HT.sIx its.length its.length hi-HT.sIx its.length 0 lo)).toArray:=by
 obtain⟨h1,h2,a⟩:=a4B lo hi its.toArray.size;unfold slicePick;rw[h1,h2,a];simp only[sliceRange_one,pick_run,aD]<;>rfl
def b6p(K:PySem.W.Frag):V->Option Int->Option Int->Hp->VK->Prop:=λx lo hi H Q=>∃a xs,x=.ref a/\SqL K H a xs/\∀p,H p=none->Q (.ref p) (upd H p (.lst (N5 xs lo hi)))
theorem b3P:SlR X (b6p X.K):=by
 intro pins s σ H x v l m lo hi sl Q I j hs g i h;obtain⟨a,xs,rfl,e,q⟩:=h;cases j;obtain⟨its,r,d,f⟩:=I.list e;have c:=r.length;refine⟨"list",_,slot_list_getitem.lookup,d.isList.typeIs,?_⟩;refine wpAny_getItem_list_slice d.isList hs g i .none (by simp) ?_ (by rw[aD]<;>omega);rw[a3s,<-c];refine⟨.ref s.heap.objs.size,_,I.laid (t':=s.toks) (o:=.lst (N5 xs lo hi)) (λb k q=>ag _ q) (aq _) ?_,rfl,q _ (I.hok.fresh (aq _))⟩;exact⟨bf (X2 xs lo hi) f,_,0,(r.drop (HT.sIx xs.length 0 lo)).take (HT.sIx xs.length xs.length hi-HT.sIx xs.length 0 lo),aJ _ rfl⟩
noncomputable def a6w:V->Bool
 |.non=>true
 |.bl _=>true
 |.int _=>true
 |.str _=>true
 |_=>false
noncomputable def eqV:V->V->Bool
 |.non,.non=>true
 |.bl a,.bl b=>a==b
 |.bl a,.int b=>(if a then 1 else 0)==b
 |.int a,.bl b=>a==(if b then 1 else 0)
 |.int a,.int b=>a==b
 |.str a,.str b=>a==b
 |_,_=>false
theorem b7A{A:Around}{s:Shared}{y x:V}{u v:Value}(d:RelV y u)(c:RelV x v)(fy:a6w y=true)(fx:a6w x=true):SeqAt.EqAt A s u v (eqV y x):=by
 cases y with
 |non =>
  cases d;cases x with
  |non=>cases c;exact SeqAt.EqAt.same _
  |bl b=>cases c;exact SeqAt.EqAt.none_bool b
  |int b=>obtain⟨t,rfl⟩:=c;exact SeqAt.EqAt.none_int b t
  |str b=>obtain⟨t,rfl⟩:=c;exact SeqAt.EqAt.none_str b t
  |_=>exact absurd (show false=true from fx) aS
 |bl a =>
  cases d;cases x with
  |non=>cases c;exact SeqAt.EqAt.bool_none a
  |bl b=>cases c;exact SeqAt.EqAt.bool_bool a b
  |int b=>obtain⟨t,rfl⟩:=c;exact SeqAt.EqAt.bool_int a b t
  |str b=>obtain⟨t,rfl⟩:=c;exact SeqAt.EqAt.bool_str a b t
  |_=>exact absurd (show false=true from fx) aS
 |int a =>
  obtain⟨t',rfl⟩:=d;cases x with
  |non=>cases c;exact SeqAt.EqAt.int_none a t'
  |bl b=>cases c;exact SeqAt.EqAt.int_bool a t' b
  |int b=>obtain⟨t,rfl⟩:=c;exact SeqAt.EqAt.int_int a t' b t
  |str b=>obtain⟨t,rfl⟩:=c;exact SeqAt.EqAt.int_str a t' b t
  |_=>exact absurd (show false=true from fx) aS
 |str a =>
  obtain⟨t',rfl⟩:=d;cases x with
  |non=>cases c;exact SeqAt.EqAt.str_none a t'
  |bl b=>cases c;exact SeqAt.EqAt.str_bool a t' b
  |int b=>obtain⟨t,rfl⟩:=c;exact SeqAt.EqAt.str_int a t' b t
  |str b=>obtain⟨t,rfl⟩:=c;exact SeqAt.EqAt.str_str a t' b t
  |_=>exact absurd (show false=true from fx) aS
 |_=>exact absurd (show false=true from fy) aS
theorem a5h:E2 X (.builtin "len") (λxs H Q=>∃p ys,xs=[.ref p]/\(SqL X.K H p ys∨SqT X.K H p ys)/\Q (.int ys.length) H):=by
 intro pins s σ H xs e Q I r h;obtain⟨p,ys,rfl,b,q⟩:=h;obtain⟨u,rfl,c⟩:=a5w r;cases c;have d:=a2H;rcases b with b|b
 .obtain⟨its,r',pl,hz⟩:=I.list b;have a:=r'.length;exact Calls.call_len_list pl.isList (by simp only[aD]<;>omega) ⟨.int ys.length,H,I.tok _,⟨s.toks+1,by rw[aD,a]⟩,q⟩
 .obtain⟨its,r',pl,hz⟩:=I.tuple b;have a:=r'.length;exact len_tuple pl (by simp only[aD]<;>omega) ⟨.int ys.length,H,I.tok _,⟨s.toks+1,by rw[aD,a]⟩,q⟩
theorem a5g:E2 X (.type "list") (λxs H Q=>∃p ys,xs=[.ref p]/\(SqL X.K H p ys∨SqT X.K H p ys)/\∀l,H l=none->Q (.ref l) (upd H l (.lst ys))):=by
 intro pins s σ H xs m Q I r h;obtain⟨p,ys,rfl,d,q⟩:=h;obtain⟨u,rfl,k⟩:=a5w r;cases k;have fin:∀(its:List Value),Vals ys its->ys.length<=sizeLine->∀(h':Heap) (c':Nat),(∀b o',s.heap.get? b=some o'->h'.get? b=some o') ->
   h'.get? s.heap.objs.size=some {cls:=.type "list",dict:=none,data:=.seq its.toArray c',slots:=#[]}->EP X pins σ Q (.ref s.heap.objs.size) {s with heap:=h'}:=λits a f h' c' g e =>
  ⟨.ref s.heap.objs.size,_,I.laid (t':=s.toks) g (aq _) (show ObjOk X.prog X.w _ h' _ (.lst ys)from⟨f,its,c',a,e⟩),rfl,q _ (I.hok.fresh (aq _))⟩
 rcases d with d|d
 .obtain⟨its,a,pl,f⟩:=I.list d;have c:=a.length;obtain⟨o,j,i,n,hd⟩:=pl.isList;exact call_list_seq p (.inl rfl) j i hd (λh' c' g e=>fin its a f h' c' g e) (by simp only[aD]<;>omega)
 .obtain⟨its,a,pl,f⟩:=I.tuple d;have c:=a.length;obtain⟨o,j,i,n,hd⟩:=pl;exact call_list_seq p (.inr rfl) j i hd (λh' c' g e=>fin its a f h' c' g e) (by simp only[aD]<;>omega)
theorem a3w:E2 X (.type "tuple") (λxs H Q=>∃p ys,xs=[.ref p]/\((SqL X.K H p ys/\∀l,H l=none->Q (.ref l) (upd H l (.tup ys)))∨(SqT X.K H p ys/\Q (.ref p) H))):=by
 intro pins s σ H xs j Q I r h;obtain⟨p,ys,rfl,h⟩:=h;obtain⟨u,rfl,i⟩:=a5w r;cases i;rcases h with⟨a,q⟩|⟨a,q⟩
 .obtain⟨its,r',pl,hz⟩:=I.list a;have d:=r'.length;refine call_tuple_list pl.isList (λh' g=>?_) (by simp only[aD]<;>omega);have c:Inv X pins σ H {s with heap:=h'}:=I.kept (t':=s.toks) g;have f:Inv X pins σ (upd H h'.objs.size (.tup ys)) {s with heap:=h'.push {cls:=.type "tuple",data:=.seq its.toArray}} :=
   c.laid (t':=s.toks) (λb o e=>ag _ e) (aq _) (show ObjOk X.prog X.w _ _ _ (.tup ys)from⟨hz,its,r',fJ _ _⟩)
  exact⟨.ref h'.objs.size,_,f,rfl,q _ (c.hok.fresh (aq _))⟩
 .obtain⟨its,r',pl,hz⟩:=I.tuple a;exact call_tuple_same pl ⟨.ref p,H,I,rfl,q⟩
def tyV(K:PySem.W.Frag)(T:String)(x:V)(H:Hp):Prop:=match x with
 |.str _=>T="str"
 |.int _=>T="int"
 |.ref p=>(T="list" /\ ∃xs,SqL K H p xs)∨(T="tuple" /\ ∃o,K.lookup p=some o/\o.cls=.type "tuple"/\o.dict=none) ∨
   (T="dict"/\((∃kvs,H p=some (.dK kvs))∨∃kvs,H p=some (.dT kvs)))∨(T="set" /\ ∃S n,H p=some (.set S n))
 |_=>False
theorem b6e{pins:List (Addr×Obj)}{σ:St}{H:Hp}{s:Shared}{T:String}{x:V}{v:Value}(I:Inv X pins σ H s)(r:RelV x v)(ty:tyV X.K T x H) :
  s.TypeIs v T/\∀a,v=.ref a->∃f,s.heap.get? a=some f/\f.dict=none:=by
 cases x with
 |str z =>
  obtain⟨t,rfl⟩:=r;cases(show T="str" from ty);exact⟨typeIs_str s z t,λ_ e=>nomatch e⟩
 |int i =>
  obtain⟨t,rfl⟩:=r;cases(show T="int" from ty);exact⟨typeIs_int s i t,λ_ e=>nomatch e⟩
 |ref p =>
  cases r;rcases ty with⟨rfl,xs,h⟩|⟨rfl,o,b,g,hd⟩|⟨rfl,b⟩|⟨rfl,S,n,b⟩
  .obtain⟨its,_,pl,_⟩:=I.list h;refine⟨pl.isList.typeIs,λa e=>?_⟩;cases e;obtain⟨o,n,e,c,hd,_⟩:=pl;exact⟨o,e,hd⟩
  .refine⟨⟨o,I.kIn p o b,g⟩,λa e=>?_⟩;cases e;exact⟨o,I.kIn _ o b,hd⟩
  .have z:∃o,s.heap.get? p=some o/\o.ExactDict:=by
    rcases b with⟨kvs,b⟩|⟨kvs,b⟩
    .obtain⟨_,_,_,_,o,_,_,e,ex,_⟩:=I.hok p _ b;exact⟨o,e,ex⟩
    .obtain⟨_,_,_,_,o,_,_,e,ex,_⟩:=I.hok p _ b;exact⟨o,e,ex⟩
   obtain⟨o,e,ex⟩:=z;refine⟨⟨o,e,ex.1⟩,λa d=>?_⟩;cases d;exact⟨o,e,ex.2.1⟩
  .obtain⟨o,_,_,_,e,ex,_⟩:=I.hok p _ b;refine⟨⟨o,e,ex.1⟩,λa d=>?_⟩;cases d;exact⟨o,e,ex.2.1⟩
 |_=>exact False.elim ty
def tBM(K:PySem.W.Frag)(T:String)(r:V->List V->Hp->VK->Prop)(to:TE)(t:TA):TE:=λσ H Q=>to σ H λx H1=>tyV K T x H1/\t σ H1 λxs H2=>r x xs H2 Q
variable {o e:Expr}{es:List Expr}{to:TE}{t:TA}{name:Str}{apos cpos:Pos}{T id:String}{r:V->List V->Hp->VK->Prop}
theorem b8s(q:PlainAttrs T)(f:Slot T name id)(g:typeOf (.builtin id)=pure (.type "method_descriptor"))(n:MtR X id r)(p:PE X o to)(m:PA X (e::es) t)
  (b:attributeBase o name X.env (eval o X.env)=eval o X.env:=by rfl)
  (d:((backTo cpos (starEach (e::es) X.env)).all (λx=>!x.1) && (backToKw cpos (keywordEach [] X.env)).all (λx=>x.1.isSome)
   && decide ((e::es).length+([]:List Keyword).length+(if ([]:List Keyword).isEmpty then 0 else 1)<30))=true:=by rfl)
  (c:(apos.endLine==cpos.line)=true:=by rfl) (hs:starEach (e::es) X.env=(false,eval e X.env)::starEach es X.env:=by rfl) (a:(backTo cpos (starEach es X.env)).any (·.1)=false:=by rfl) :
  PE X (.Call (.Attribute o name apos) (e::es) [] cpos) (tBM X.K T r to t):=by
 intro pins s σ H Q I h;refine wpAny_Call_method_late b d c rfl (thn (p pins s σ H _ I h) λv s1 ⟨x,H1,i,k,ty,q1⟩=>?_);obtain⟨h1,h2⟩:=b6e i k ty;refine⟨T,id,q,f,g,h1,h2,?_⟩;have j:=m cpos pins s1 σ H1 _ i q1;rw[hs]at j⊢;refine Calls.callWith_builtin (by show(false || (backTo cpos (starEach es X.env)).any (·.1))=false;rw[a]<;>rfl) (fO ?_);exact thn j λy s2 ⟨vs,H2,l,w,u⟩=>n pins s2 σ H2 x vs v y Q l k w u
end
def MtM(X:Cx)(id:String)(r:V->List V->Hp->VK->Prop):Prop :=
 ∀(pins:List (Addr×Obj)) (s:Shared) (σ:St) (H:Hp) (x:V) (xs:List V) (v:Value) (us:List Value) (Q:VK),Inv X pins σ H s->RelV x v->Vals xs us->r x xs H Q ->
  wpAny (model X.prog X.w) X.A (call (.builtin id) (v::us)) (EP X pins σ Q) X.xe s
theorem Vals.one{x:V}{us:List Value}(h:Vals [x] us):∃u,us=[u]/\RelV x u:=by
 cases h with
 |cons r q=>cases q;exact⟨_,rfl,r⟩
theorem Vals.two{x y:V}{us:List Value}(h:Vals [x,y] us):∃u v,us=[u,v]/\RelV x u/\RelV y v:=by
 cases h with
 |cons r h=>obtain⟨v,rfl,q⟩:=Vals.one (x:=y) h;exact⟨_,_,rfl,r,q⟩
theorem Vals.eraseIdx:∀{xs:List V}{us:List Value}(i:Nat),Vals xs us->Vals (xs.eraseIdx i) (us.eraseIdx i)
 |_,_,_,.nil=>.nil
 |_,_,0,.cons _ t=>t
 |_,_,i+1,.cons r t=>.cons r (Vals.eraseIdx i t)
theorem Vals.reverse{xs:List V}{us:List Value}(h:Vals xs us):Vals xs.reverse us.reverse:=by
 induction h with
 |nil=>exact .nil
 |cons r t a=>rw[et,et];exact Vals.append a (.cons r .nil)
theorem Vals.rep{xs:List V}{us:List Value}(h:Vals xs us):∀k:Nat,Vals (List.replicate k xs).flatten (List.replicate k us).flatten
 |0=>.nil
 |k+1=>by
  rw[bL,bL,cQ,cQ];exact Vals.append h (Vals.rep h k)
theorem a3O{α:Type}:∀(l:List α) (i:Nat),(l.eraseIdx i).length<=l.length
 |[],_=>aq _
 |_::_,0=>eh _
 |_::r,i+1=>Nat.succ_le_succ (a3O r i)
section
variable {X:Cx}{pins:List (Addr×Obj)}{σ:St}{H:Hp}{s:Shared}{l b:Addr}{xs ys zs:List V}
theorem Inv.lset{its its':List Value}{n:Nat}{f:Array Value->Array Value}{t':Nat}(I:Inv X pins σ H s)(a:H l=some (.lst xs))
  (e:s.heap.get? l=some {cls:=.type "list",data:=.seq its.toArray n}) (c:f its.toArray=its'.toArray) (g:Vals ys its') (h:ys.length<=sizeLine) :
  Inv X pins σ (upd H l (.lst ys)) {s with heap:=s.heap.update l (Obj.mapSeq f),toks:=t'}:=by
 have q:=PySem.IsL.update e f;rw[c]at q;refine I.write (x:=l) (e:=l) (by rw[a];exact trivial) (.inl rfl) (λb' u b d=>(fC s.heap (Obj.mapSeq f) (dM b)).trans d) ⟨_,q⟩ ?_;exact⟨h,its',_,g,q⟩
theorem Inv.lstM(I:Inv X pins σ H s)(a:H l=some (.lst xs)):xs.length<=sizeLine/\∃(its:List Value) (n:Nat),Vals xs its/\xs.length=its.length/\s.heap.get? l=some {cls:=.type "list",data:=.seq its.toArray n}:=by
 obtain⟨z,its,n,r,e⟩:=I.hok l _ a;exact⟨z,its,n,r,r.length,e⟩
theorem b2r{n:Nat}(h:n<=sizeLine):Builtin.List.listTooLong n=false:=by
 unfold Builtin.List.listTooLong;exact cp (by omega)
end
section
variable {X:Cx}
def a8w:V->List V->Hp->VK->Prop:=λx vs H Q=>∃l xs y,x=.ref l/\vs=[y]/\H l=some (.lst xs)/\xs.length<sizeLine/\Q .non (upd H l (.lst (xs++[y])))
theorem b0b:MtM X "list.append" a8w:=by
 intro pins s σ H x vs v i Q I d c h;obtain⟨l,xs,y,rfl,rfl,a,g,q⟩:=h;cases d;obtain⟨u,rfl,b⟩:=c.one;obtain⟨z,its,n,r,f,e⟩:=I.lstM a;refine dX F.slot_list_append ⟨_,e,rfl⟩ F.entry_list_append (F.args_list_append_2 _ _) (PySem.list_append l its.toArray n u (by rw[aD];omega)) ⟨e,?_⟩;refine⟨.non,_,I.lset (its':=its++[u]) a e (by simp) (r.append (.cons b .nil)) ?_,rfl,q⟩;rw[az,fK];omega
def a8v:V->List V->Hp->VK->Prop:=λx vs H Q=>∃l b xs zs,x=.ref l/\vs=[.ref b]/\H l=some (.lst xs)/\H b=some (.lst zs)/\xs.length+zs.length<=sizeLine/\Q .non (upd H l (.lst (xs++zs)))
theorem b0a:MtM X "list.extend" a8v:=by
 intro pins s σ H x vs v A Q I t p h;obtain⟨l,b,xs,zs,rfl,rfl,f,i,y,q⟩:=h;cases t;obtain⟨u,rfl,o⟩:=p.one;cases o;obtain⟨z,its,n,r,w,e⟩:=I.lstM f;obtain⟨B,a,k,m,j,g⟩:=I.lstM i;have d:its.toArray.size+a.toArray.size<=sizeLine:=by rw[aD,aD];omega
 have c:¬(!its.toArray.isEmpty && Builtin.List.listTooLong (its.toArray.size+a.toArray.size))=true:=by
  rw[b2r d,ff];exact aS
 refine dX F.slot_list_extend ⟨_,e,rfl⟩ F.entry_list_extend (F.args_list_extend_2 _ _)
  (AutoSeq1.list_extend_list_list_0 l its.toArray n b a.toArray k c (by rw[aD];omega) (by omega)) ⟨e,g,?_⟩
 refine⟨.non,_,I.lset (its':=its++a) f e (by simp) (r.append m) ?_,rfl,q⟩;rw[az];omega
def b1G:V->List V->Hp->VK->Prop:=λx vs H Q=>∃l xs i k y,x=.ref l/\vs=[.int i]/\H l=some (.lst xs) /\ -(2 ^ 63)<=i/\i<2 ^ 63/\seqIndex? i xs.length=some k/\xs[k]?=some y/\Q y (upd H l (.lst (xs.eraseIdx k)))
theorem b2u:MtM X "list.pop" b1G:=by
 intro pins s σ H x vs v o Q I m j h;obtain⟨l,xs,i,k,y,rfl,rfl,b,h1,h2,c,f,q⟩:=h;cases m;obtain⟨u,rfl,g⟩:=j.one;obtain⟨t,rfl⟩:=g;obtain⟨z,its,n,r,d,e⟩:=I.lstM b;obtain⟨w,hw,a⟩:=r.get f;refine dX F.slot_list_pop ⟨_,e,rfl⟩ F.entry_list_pop (F.args_list_pop_2 _ _)
  (MeetsSeq.list_pop_at l its.toArray n i t k w (fitsIndex_both h1 h2) (by rw[aD,<-d];exact c) (by rw[<-av];exact hw) (by rw[aD];omega)) ⟨e,?_⟩
 refine⟨y,_,I.lset (its':=its.eraseIdx k) b e ?_ (r.eraseIdx k) ?_,a,q⟩
 .show its.toArray.eraseIdxIfInBounds k=(its.eraseIdx k).toArray;rw[List.eraseIdxIfInBounds_toArray]
 .have:=a3O xs k;omega
theorem a8G{α:Type}(xs:List α)(k:Nat):(List.replicate k xs).flatten.length=k*xs.length:=by
 induction k with
 |zero=>simp
 |succ k a=>rw[bL,cQ,az,a,Nat.succ_mul,Nat.add_comm]
end
section
variable {prog:Program}{w:World}{A:Around}{E:Value->Shared->Prop}{s:Shared}
end
section
variable {X:Cx}
end
end L2
namespace Att
open PySem PySem.W PySem.Calls PyProof.Rows
theorem a1J{P:Params}{h:Heap}:∀(ns:List Int) (vs:List Value),WellAll P h vs (ns.map WData.int)->IntsAre vs ns:=by
 intro ns;induction ns with
 |nil =>
  intro vs w;rw[List.map_nil]at w;cases w;exact .nil
 |cons n ns c =>
  intro vs w;rw[aV]at w;cases w with
  |cons a b =>
   cases a;exact .cons _ _ (c _ b)
theorem a9C{l:OpenLaw}{n:Nat}(o:l.most=some n){P:Params}{h:Heap}{args:List WData}{c:List Value}
  (b:l.row.toRowW.claim.pre args=true) (j:WellAll P h c args) :
  ∃a vs ns,c=[Value.ref a]/\args=[WData.list (ns.map WData.int)]/\h.get? a=some {cls:=.type "list",data:=.seq vs.toArray}/\IntsAre vs ns/\ns.length<=n:=by
 have hsh:WShape.hasAll [] args [.list .int]=true:=(pre_splitW b).1;have k:l.pre.holds [] {args:=args}=true:=(pre_splitW b).2;obtain⟨d,r,rfl,h1,h2⟩:=hasAllW_cons hsh;obtain rfl:=hasAllW_nil h2;obtain⟨xs,rfl,m⟩:=hasW_list h1;obtain⟨ns,rfl⟩:=items_int m;have f:ns.length<=n:=by
  unfold OpenLaw.pre at k;have g:(WTm.not (.lt (.lit (.int (n:Int))) (.len (.arg 0)))).holds [] {args:=[.list (ns.map .int)]}=true:=by
   have g:=(holds_andW k).1;rw[o]at g;exact g
  have i:=condW_of g (w_not (w_lt w_lit (w_len_list (w_arg rfl))));rw[aj]at i;refine Nat.le_of_not_lt λq=>?_;have s:(n:Int)<((ns.length:Nat):Int):=by omega
  first
   |(rw[bz s]at i;exact absurd i (by decide))
   |(simp at i;omega)
 cases j with
 |cons w1 w2 =>
  cases w2;cases w1 with
  |list p e=>exact⟨_,_,ns,rfl,rfl,p,a1J ns _ e,f⟩
theorem a9O(l:OpenLaw)(args:List WData):l.row.toRowW.claim.post args (.bool true) args=true :=
 postW_of (r:=l.row.toRowW) (X:=(true==true))
  (show WShape.has [] (.bool true) .bool=true by first|rfl|decide|simp[WShape.has,WShape.arms,WShape.armsAll])
  (show(WTm.eq .res (.lit (.bool true))).value [] {args:=args,res:=some (.bool true),after:=args}=some (.bool (true==true))from w_eq_bool (w_res rfl) w_lit) rfl
theorem attach_call{l:OpenLaw}{n:Nat}{q:Program}{b:List Str}{XP:(Str->Option Value)->Heap->Prop}{u:World->Heap->Prop}{d:DefRec}
  (H:l.most=some n) (m:d.params.defaults=[])
  (call:∀(w:World) (s₀ s₁:Shared) (mg t:Str->Option Value) (g:Addr) (o:Obj) (pm cd c:Value) (a:Addr) (vs:List Value) (ns:List Int),
   Ground q b [] XP w s₀ mg t s₁.heap->u w s₁.heap ->
   s₁.heap.get? g=some o->o.data=.func (docDef d.name d.params d.body d.scope pm cd c)->s₁.heap.CodeRec cd d.name->mg d.name=some (.ref g) ->
   s₁.heap.get? a=some {cls:=.type "list",data:=.seq vs.toArray}->IntsAre vs ns->ns.length<=n->s₁.gens=#[] ->
   codeAny (model l.prog w) callerA (.call (.ref g) ⟨[.ref a],[]⟩) (λr s'=>r=.ok (.ret (.bool true))/\OldK s₁.heap s'.heap/\s'.os=s₁.os/\AllBare s'.gens) s₁) :
  WalkO q b XP u l.row.toRowW d [] (λf vs=>PySem.call f vs):=by
 intro w s₀ s₁ mg t G Y g o pm cd c A kV I hd k x p D v z L j y K s E;obtain rfl:A=.none:=Dflts.none x m;obtain rfl:kV=.none:=Dflts.noKw x;obtain⟨a,vs,ns,rfl,rfl,i,e,h⟩:=a9C H j s;refine enter_call (cU (call w s₀ s₁ mg t g o pm cd c a vs ns G Y I (fd_plain hd) k p i e h D) λr s' J=>?_);obtain⟨rfl,h2,B,C⟩:=J;exact⟨.inl ⟨.bool true,.bool true,[],rfl,λ_=>rfl,.bool true,a9O l _,λ_=>⟨List.Pairwise.nil,λ_ F=>(nomatch F)⟩⟩,h2,B,C⟩
section
variable {prog:Program}{w:World}{A:Around}{E:Value->Shared->Prop}{s:Shared}{K:Frag}
end
end Att
namespace L2
open PySem PySem.Spec PyProof.Rows
theorem a3D:∀{vs:List Value}{ns:List Int},IntsAre vs ns->Vals (ns.map V.int) vs
 |_,_,.nil=>.nil
 |_,_,.cons n t h=>.cons ⟨t,rfl⟩ (a3D h)
def b7P(H:Hp):Prop:=∀b,H b=none∨∃o xs,H b=some (.frz o (.lst xs))
theorem b2z{P:Program}{w:World}{K:PySem.W.Frag}{mg O:Str->Option Value}{CX:CXT}{k:Nat}{I a:Addr}{fd:FuncData}{x:Str}{sp:Sp}{s₁:Shared}{vs:List Value}{ns:List Int}
  (R:K.In s₁.heap) (y:s₁.heap.Ns mainGlobals mg) (f:s₁.heap.Ns builtinsNs O) (L:∀x:Str,x≠"__name__"->O x=bootBuiltins x) (t:s₁.heap.NoLimit) (hg:s₁.gens=#[])
  (E:s₁.heap.get? a=some {cls:=.type "list",data:=.seq vs.toArray}) (hi:IntsAre vs ns) (W:ns.length<=sizeLine) (hr:Room k callerA)
  (F:∀base:Heap,K.In base->base.Ns mainGlobals mg->FnOk P w K mg base CX k I fd [x] sp) (j:∀(s:Shared) (u:Value),BindsTo s fd ⟨[u],[]⟩ [(x,u)])
  (N:∀H:Hp,b7P H->SqL K H a (ns.map V.int)->sp [.ref a] H (λv _=>v=.bl true) λ_ _ _=>False)
  (J:∀H e s',CX [] H s₁ (λ_ _ _=>False) e s'->False) :
  codeAny (model P w) callerA (.call (.ref I) ⟨[.ref a],[]⟩) (λr s'=>r=.ok (.ret (.bool true))/\OldK s₁.heap s'.heap/\s'.os=s₁.os/\AllBare s'.gens) s₁:=by
 have X:=a3D hi;have C:=hi.length;have i:∀H:Hp,b7P H->SqL K H a (ns.map V.int)->HOk P w H s₁.heap->(∀b,H b≠none->b=a)->(H a≠none->K.lookup a=none) ->
   codeAny (model P w) callerA (.call (.ref I) ⟨[.ref a],[]⟩) (λr s'=>r=.ok (.ret (.bool true))/\OldK s₁.heap s'.heap/\s'.os=s₁.os/\AllBare s'.gens) s₁:=by
  intro H U hS A T hK;have c:∀{b:Addr}{o:Obj},s₁.heap.get? b=some o->H b=none->(a4Z s₁.heap H).get? b=some o:=λe n=>b2W e n;have Q:∀{b:Addr}{o:Obj}{es:Array DictEntry}{ep:Nat},s₁.heap.get? b=some o->o.data=.dict es ep->H b=none:=λ{b o es ep} e d=>by
   cases q:H b with
   |none=>rfl
   |some u =>
    have G:b=a:=T b (by rw[q];simp);subst G;rw[E]at e;cases e;have Y:Data.seq vs.toArray _=Data.dict es ep:=d;cases Y
  have g:∀{b:Addr}{m:Str->Option Value},s₁.heap.Ns b m->(a4Z s₁.heap H).Ns b m:=λ{b m} ⟨o,es,ep,e,d,r⟩=>⟨o,es,ep,c e (Q e d),d,r⟩;have p:K.In (a4Z s₁.heap H):=λb o e=>c (R b o e) (by
   cases q:H b with
   |none=>rfl
   |some u =>
    have G:b=a:=T b (by rw[q];simp);subst G;rw[hK (by rw[q];simp)]at e;cases e)
  have hM:Mod K mg (a4Z s₁.heap H):=⟨p,g y,⟨O,g f,L⟩,let ⟨mc,h1,h2⟩:=t;⟨mc,g h1,h2⟩⟩;have Z:Env0 P w K mg (a4Z s₁.heap H) callerA [] s₁ H:=⟨rfl,hM,λb o e=>b4P e,Nat.le_of_eq (b0k _ _),trivial,λb f=>absurd (show b∈([]:List Addr)from f) (by simp),A,.of_eq hg⟩;refine cU ((F _ p (g y)).run callerA [] s₁ H ⟨[.ref a],[]⟩ [.ref a] [.ref a] _ _ hr Z (j s₁ (.ref a)) (.cons rfl .nil) (N H U hS)) λr s' h=>?_;cases r with
  |error e=>exact(J H e s' h).elim
  |ok fl =>
   cases fl with
   |next=>exact False.elim h
   |brk=>exact False.elim h
   |cont=>exact False.elim h
   |ret u =>
    obtain⟨v,H',os,l,un,B,r',q⟩:=h;have q':v=.bl true:=q;subst q';obtain rfl:u=Value.bool true:=r';refine⟨rfl,OldK.of_keep λb o e=>?_,os,l⟩;cases q:H b with
    |none=>exact un.keep b o e q (by intro z;exact absurd (show b∈([]:List Addr)from z) (by simp)) (by simp)
    |some u =>
     rcases U b with z|⟨ob,xs,z⟩
     .rw[q]at z;cases z
     .have z2:=un.frzs b ob _ z;obtain⟨S,_⟩:=A b _ z;obtain⟨e2,_⟩:=B b _ z2;rw[e]at S;cases S;exact e2
 cases M:K.lookup a with
 |some o =>
  have e:=R a o M;rw[E]at e;cases e;refine i (λ_=>none) (λ_=>.inl rfl) (.inr ⟨_,vs.toArray,_,M,rfl,rfl,rfl,by rw[aD,C];exact W,by simpa using X⟩) (λb u z=>by have D:(none:Option HO)=some u:=z;cases D) (λb z=>absurd rfl z) λz=>absurd rfl z
 |none =>
  refine i (λb=>if b=a then some (.frz {cls:=.type "list",data:=.seq vs.toArray} (.lst (ns.map V.int)))else none) (λb=>?_) (.inl (.inr ⟨{cls:=.type "list",data:=.seq vs.toArray},ay rfl⟩)) (λb u z=>?_) (λb z=>?_) λ_=>M
  .by_cases f:b=a
   .exact .inr ⟨_,_,ay f⟩
   .exact .inl (ar f)
  .by_cases f:b=a
   .have D:=(ay f).symm.trans z;cases D;subst f;exact⟨E,by rw[aj];exact W,vs,_,X,E⟩
   .have D:=(ar f).symm.trans z;cases D
  .by_cases f:b=a
   .exact f
   .exact absurd (ar f) z
theorem walk_of{l:PySem.W.OpenLaw}{n k:Nat}{q:Program}{g:List Str}{XP:(Str->Option Value)->Heap->Prop}{A:World->Heap->Prop}{d:DefRec}{K:Params->PySem.W.Frag}{CX:World->CXT}{sp:World->Sp}{x:Str}
  (N:l.most=some n) (t:n<=sizeLine) (p:d.params.defaults=[]) (O:Room k callerA)
  (I:∀(w:World) (h:Heap),A w h->(K w.params).In h)
  (F:∀(w:World) (mg:Str->Option Value) (j:Addr) (h:Heap),(K w.params).In h->h.Ns mainGlobals mg->mg d.name=some (.ref j) ->
   ∃fd:FuncData,(∀(s:Shared) (u:Value),BindsTo s fd ⟨[u],[]⟩ [(x,u)]) /\
    ∀base:Heap,(K w.params).In base->base.Ns mainGlobals mg->FnOk l.prog w (K w.params) mg base (CX w) k j fd [x] (sp w))
  (y:∀(w:World) (H:Hp) (a:Addr) (ns:List Int),ns.length<=n->b7P H->SqL (K w.params) H a (ns.map V.int)->sp w [.ref a] H (λv _=>v=.bl true) λ_ _ _=>False)
  (m:∀(w:World) (H:Hp) (s:Shared) (e:Value) (s':Shared),CX w [] H s (λ_ _ _=>False) e s'->False) :
  PySem.W.WalkO q g XP A l.row.toRowW d [] (λf vs=>PySem.call f vs):=by
 refine Att.attach_call N p λw s₀ s₁ mg Q j o pm cd B a vs ns G Y P hd L r i c b M=>?_;have z:=I w _ Y;obtain⟨fd,J,C⟩:=F w mg j _ z G.T.g r;exact b2z z G.T.g G.T.b G.T.builtins G.T.nolimit M i c (bf b t) O C J (λH D E=>y w H a ns b D E) λH e s'=>m w H s₁ e s'
end L2
namespace L2
open PySem PySem.Spec PyProof.Rows
noncomputable def T8(s:Stmt)(j:Nat):Stmt:=match s with
 |.ClassDef _ _ _ body _ _ _ _ _ _ _=>body.getD j (.Pass ⟨0,0,0,0⟩)
 |_=>.Pass ⟨0,0,0,0⟩
noncomputable def P7(s:Stmt):Arguments:=match s with
 |.FunctionDef _ a _ _ _ _ _ _ _ _=>a
 |_=>{posonlyargs:=[],args:=[],vararg:=none,kwonlyargs:=[],kw_defaults:=[],kwarg:=none,defaults:=[]}
noncomputable def E1(s:Stmt):List Stmt:=match s with
 |.FunctionDef _ _ b _ _ _ _ _ _ _=>b
 |_=>[]
noncomputable def A2(s:Stmt):Scope:=match s with
 |.FunctionDef _ _ _ _ _ _ sc _ _ _=>sc
 |_=>{kind:=.function,names:=[],isGenerator:=false,isCoroutine:=false}
abbrev CX0:CXT:=λ_ _ _ _ _ _=>False
abbrev E0:XK:=λ_ _ _=>False
theorem a8C{X:Cx}:X7 CX0 X E0:=λ_ _ _ _ _ _ _ h=>h.elim
structure Fun(K:PySem.W.Frag)(x qual:Str)(st:Stmt)(f:Addr)(fd:FuncData):Prop where
 ex:∃(oc:Value) (od:Option Addr) (kV doc pm:Value) (an:Option Addr) (cdv ct:Value) (osl:Array (Option Value)),
  fd=PySem.W.fnOf x qual (P7 st) (E1 st) (A2 st) .none kV doc pm an cdv ct/\K.lookup f=some ⟨oc,od,.func fd,osl⟩/\PySem.W.codeIn K cdv qual=true
 kp:PySem.W.keepIn K (.ref f)=true
section
variable {P:Program}{w:World}{K:PySem.W.Frag}{mg:Str->Option Value}{base:Heap}
theorem Fun.ok{x qual:Str}{st:Stmt}{f:Addr}{fd:FuncData}{N ps:List Str}{k:Nat}{sp:Sp}(F:Fun K x qual st f fd)(S:FnScope N ps (A2 st))(e:∀vs H Q E,sp vs H Q E->vs.length=ps.length)
  (b:∀(a:Value) (A:Around) (outer:List Env) (s:Shared) (H:Hp) (vs:List V) (Q:VK) (E:XK),Room k (A.deeper (envOfC qual (A2 st) s.heap.objs.size f a))->sp vs H Q E ->
   ∃t,PSs (K1 CX0 P w K mg base N qual (A2 st) f a A outer s H E).nox (E1 st) t/\t {nx:=λ_ H'=>Q .non H',rt:=Q} (start N vs) H):FnOk P w K mg base CX0 (k+1) f fd ps sp:=by
 obtain⟨oc,od,kV,g,pm,an,a,ct,l,rfl,j,c⟩:=F.ex;refine b5Z j c S e λA outer s H vs Q E i d=>?_;obtain⟨t,h,q⟩:=b a A outer s H vs Q E i d;exact⟨t,h.nox,q⟩
theorem Fun.binds{x qual:Str}{st:Stmt}{f:Addr}{fd:FuncData}{ps:List Str}(F:Fun K x qual st f fd)
  (h:∀(kV b pm:Value) (an:Option Addr) (a ct:Value) (us:List Value),us.length=ps.length->bindArgs (PySem.W.fnOf x qual (P7 st) (E1 st) (A2 st) .none kV b pm an a ct) ⟨us,[]⟩=pure (ps.zip us)):Binds K fd ps []:=by
 obtain⟨oc,od,kV,b,pm,an,a,ct,d,rfl,e,c⟩:=F.ex;exact .all (h kV b pm an a ct)
theorem a2X{x qual:Str}{st:Stmt}{f:Addr}{oc:Value}{od an:Option Addr}{d:Array (Option Value)}{kV b pm a ct:Value}(l:K.lookup f=some ⟨oc,od,.func (PySem.W.fnOf x qual (P7 st) (E1 st) (A2 st) .none kV b pm an a ct),d⟩)
  (c:PySem.W.codeIn K a qual=true) (k:PySem.W.keepIn K (.ref f)=true):Fun K x qual st f (PySem.W.fnOf x qual (P7 st) (E1 st) (A2 st) .none kV b pm an a ct):=⟨⟨oc,od,kV,b,pm,an,a,ct,d,rfl,l,c⟩,k⟩
end
section
variable {X:Cx}
end
theorem G7{A B:Prop}(h:B):if false=true then A else B:=by
 rw[ar aS];exact h
theorem N8{A B:Prop}(h:A):if true=true then A else B:=by
 rw[ay rfl];exact h
theorem a1I{c A B:Prop}[Decidable c](h1:c->A)(h2:¬c->B):if c then A else B:=by
 by_cases h:c
 .rw[ay h];exact h1 h
 .rw[ar h];exact h2 h
def Same(H H':Hp):Prop:=∀b o,H b=some o->H' b=some o
theorem Same.refl(H:Hp):Same H H:=λ_ _ h=>h
theorem Same.trans{H H1 H2:Hp}(a:Same H H1)(b:Same H1 H2):Same H H2:=λc o h=>b c o (a c o h)
theorem Same.free{H H':Hp}(e:Same H H'){l:Addr}(h:H' l=Option.none):H l=Option.none:=by
 cases q:H l with
 |none=>rfl
 |some o =>
  rw[e l o q]at h;cases h
theorem Same.seq{K:PySem.W.Frag}{H H':Hp}{a:Addr}{xs:List V}(e:Same H H')(h:SqL K H a xs):SqL K H' a xs:=by
 rcases h with(h|⟨o,h⟩)|h
 .exact .inl (.inl (e _ _ h))
 .exact .inl (.inr ⟨o,e _ _ h⟩)
 .exact .inr h
noncomputable def G8(env:Env)(cs:List (Str×Addr))(x:Str×NameKind):List (Str×Addr) :=
 if x.2==.free then(match env.cells.lookup x.1 with|some a=>(x.1,a)::cs|none=>cs)else cs
noncomputable def a1O(scope:Scope)(env:Env):List (Str×Addr):=scope.names.foldl (G8 env) []
theorem a3l{env:Env}(f:Str×NameKind->List (Str×Addr)->Sem (ForInStep (List (Str×Addr))))
  (c:∀n k r,f (n,k) r=if (k==NameKind.free)=true then(do let a <-cellOf env n;pure (ForInStep.yield ((n,a)::r)))else pure (ForInStep.yield r)) :
  ∀(names:List (Str×NameKind)) (cs:List (Str×Addr)),(∀x∈names,x.2=.free->∃a,env.cells.lookup x.1=some a)->forIn names cs f=pure (names.foldl (G8 env) cs)
 |[],cs,_=>rfl
 |(n,k)::r,cs,h=>by
  rw[List.forIn_cons,dF,c];have g:=λy j=>h y (ak _ j);by_cases e:k=.free
  .subst e;obtain⟨a,d⟩:=h (n,NameKind.free) au rfl;have i:cellOf env n=pure a:=by unfold cellOf;rw[d]
   have b:G8 env cs (n,NameKind.free)=(n,a)::cs:=by unfold G8;rw[d];rfl
   rw[b,<-a3l f c r _ g,i];rfl
  .have hb:(k==NameKind.free)=false:=by simpa using e
   have b:G8 env cs (n,k)=cs:=by unfold G8;rw[hb];rfl
   rw[b,<-a3l f c r _ g,hb];rfl
theorem b3j{scope:Scope}{env:Env}(h:∀x∈scope.names,x.2=.free->∃a,env.cells.lookup x.1=some a):closureFor scope env=pure (a1O scope env):=by
 simp only[closureFor];rw[a3l (env:=env) _ (λn k r=>by cases b:k==NameKind.free<;>simp[b]) scope.names [] h];rfl
theorem a4e{env:Env}{x:Str}{c:Addr}:∀(names:List (Str×NameKind)) (cs:List (Str×Addr)),(names.foldl (G8 env) cs).lookup x=some c->env.cells.lookup x=some c∨cs.lookup x=some c
 |[],cs,h=>.inr h
 |y::r,cs,h=>by
  rw[dF]at h;rcases a4e r _ h with z|z
  .exact .inl z
  .unfold G8 at z;split at z
   .split at z
    .rename_i a ha;rw[bU]at z;cases b:x==y.1 with
     |true =>
      rw[b]at z;rw[a_.mp b];exact .inl (ha.trans z)
     |false =>
      rw[b]at z;exact .inr z
    .exact .inr z
   .exact .inr z
theorem Z9{scope:Scope}{env:Env}{x:Str}{c:Addr}(h:(a1O scope env).lookup x=some c):env.cells.lookup x=some c :=
 (a4e scope.names [] h).elim id λz=>by cases z
theorem a0r{env:Env}{x:Str}{a:Addr}(d:env.cells.lookup x=some a):∀(names:List (Str×NameKind)) (cs:List (Str×Addr)),((x,NameKind.free)∈names∨cs.lookup x=some a)->(∀c,cs.lookup x=some c->c=a)->(names.foldl (G8 env) cs).lookup x=some a
 |[],cs,h,_=>h.elim (λz=>by cases z) id
 |y::r,cs,h,i=>by
  rw[dF];by_cases b:y.2=.free/\y.1=x
  .have e2:G8 env cs y=(x,a)::cs:=by unfold G8;rw[b.2,d,b.1];rfl
   rw[e2];have f:((x,a)::cs).lookup x=some a:=by rw[bU];simp
   exact a0r d r _ (.inr f) λc z=>by rw[f]at z;exact(bC z).symm
  .have same:(G8 env cs y).lookup x=cs.lookup x:=by
    unfold G8;split
    .rename_i hk;split
     .have hne:(x==y.1)=false:=by
       cases g:x==y.1 with
       |false=>rfl
       |true=>exact absurd ⟨by simpa using hk,(a_.mp g).symm⟩ b
      rw[bU,hne]
     .rfl
    .rfl
   refine a0r d r _ ?_ (by rw[same];exact i);rw[same];rcases h with z|z
   .rcases aI.mp z with e|z
    .exact absurd ⟨by rw[<-e],by rw[<-e]⟩ b
    .exact .inl z
   .exact .inr z
theorem a6E{scope:Scope}{env:Env}{x:Str}{a:Addr}(b:env.cells.lookup x=some a)(d:(x,NameKind.free)∈scope.names):(a1O scope env).lookup x=some a :=
 a0r b _ _ (.inl d) λc z=>by cases z
theorem R0{x:Str}{c:Addr}:∀(names:List (Str×NameKind)) (n:Nat) (acc:List (Str×Addr)),(cellsFrom n names acc).lookup x=some c->(n<=c/\(x,NameKind.cell)∈names)∨acc.lookup x=some c
 |[],_,_,h=>.inr h
 |(y,k)::r,n,acc,h=>by
  unfold cellsFrom at h;split at h
  .rename_i hk;have b:k=.cell:=by simpa using hk
   rcases R0 r _ _ h with⟨e,d⟩|z
   .exact .inl ⟨by omega,ak _ d⟩
   .rw[bU]at z;cases a:x==y with
    |true =>
     rw[a]at z;cases z;exact .inl ⟨aq _,by rw[b,a_.mp a];exact au⟩
    |false =>
     rw[a]at z;exact .inr z
  .rcases R0 r _ _ h with⟨e,d⟩|z
   .exact .inl ⟨e,ak _ d⟩
   .exact .inr z
theorem a7G:∀(names:List (Str×NameKind)) (n:Nat) (acc:List (Str×Addr)),(∀x c,acc.lookup x=some c->c<n)->(∀x y c,acc.lookup x=some c->acc.lookup y=some c->x=y) ->
  ∀x y c,(cellsFrom n names acc).lookup x=some c->(cellsFrom n names acc).lookup y=some c->x=y
 |[],_,_,_,h2=>h2
 |(z,k)::r,n,acc,h1,h2=>by
  unfold cellsFrom;split
  .have lk:∀x c,List.lookup x ((z,n)::acc)=some c->(x=z/\c=n)∨acc.lookup x=some c:=λx c e=>by
    rw[bU]at e;cases a:x==z with
    |true=>rw[a]at e;cases e;exact .inl ⟨a_.mp a,rfl⟩
    |false=>rw[a]at e;exact .inr e
   refine a7G r (n+1) _ (λx c e=>?_) λx y c e b=>?_
   .rcases lk x c e with⟨_,q⟩|q
    .rw[q];exact cf _
    .exact bX (h1 x c q)
   .rcases lk x c e with⟨q1,q2⟩|q<;>rcases lk y c b with⟨p1,p2⟩|p
    .rw[q1,p1]
    .exact absurd (h1 y c p) (by rw[q2];exact bW _)
    .exact absurd (h1 x c q) (by rw[p2];exact bW _)
    .exact h2 x y c q p
  .exact a7G r n acc h1 h2
theorem a5f{x:Str}:∀(names:List (Str×NameKind)) (n:Nat) (acc:List (Str×Addr)),((x,NameKind.cell)∈names∨∃c,acc.lookup x=some c)->∃c,(cellsFrom n names acc).lookup x=some c
 |[],_,_,h=>h.elim (λz=>by cases z) id
 |(y,k)::r,n,acc,h=>by
  unfold cellsFrom;split
  .rename_i hk;refine a5f r _ _ ?_;by_cases a:x=y
   .exact .inr ⟨n,by rw[bU,a];simp⟩
   .have hb:(x==y)=false:=cT.mpr a;rcases h with z|⟨c,z⟩
    .rcases aI.mp z with e|z
     .exact absurd (Prod.mk.inj e).1 a
     .exact .inl z
    .exact .inr ⟨c,by rw[bU,hb];exact z⟩
  .rename_i hk;refine a5f r _ _ ?_;rcases h with z|z
   .rcases aI.mp z with e|z
    .exact absurd (by rw[<-(Prod.mk.inj e).2];rfl) hk
    .exact .inl z
   .exact .inr z
theorem a4N{x:Str}{c:Addr}:∀(names:List (Str×NameKind)) (h:Heap) (acc:List (Str×Addr)),(∀x c,acc.lookup x=some c->∃v,h.IsCell c v)->(cellsFrom h.objs.size names acc).lookup x=some c->∃v,(pushCells h names).IsCell c v
 |[],h,acc,d,e=>d x c e
 |(y,k)::r,h,acc,d,e=>by
  unfold cellsFrom at e;unfold pushCells;split at e
  .rename_i hk;rw[ay hk];rw[show h.objs.size+1=(h.push {cls:=.type "cell",data:=.cell none}).objs.size from(bp ..).symm]at e;refine a4N r _ _ (λg c' a=>?_) e;rw[bU]at a;cases f:g==y with
   |true=>rw[f]at a;cases a;exact⟨_,_,aJ _ rfl,rfl⟩
   |false =>
    rw[f]at a;obtain⟨v,z⟩:=d g c' a;exact⟨v,z.keeps λb o q=>ag _ q⟩
  .rename_i hk;rw[ar hk];exact a4N r _ _ d e
section
variable {M:Model}{A:Around}{E:Value->Shared->Prop}{s:Shared}
theorem a6M{scope:Scope}{b:Addr}{a:List (Str×Addr)}{qual:Str}{outer:Env}{Q:Env->Shared->Prop}
  (f:Q (newEnv scope s.heap.objs.size b (cellsFrom (s.heap.objs.size+1) scope.names a) qual none .none (some outer) builtinsNs) {s with heap:=pushCells (s.heap.push {cls:=.type "dict",data:=.dict #[]}) scope.names}) :
  wpAny M A (newFunctionEnv scope b a [] qual none .none (some outer)) Q E s:=by
 simp only[newFunctionEnv,Option.isSome_some,eR];refine aa (wpAny_alloc ?_);refine aa (wpAny_layCells _ (λname c d=>by cases e:c==NameKind.cell<;>simp[e]) _ _ _ _ ?_);rw[show({s with heap:=s.heap.push {cls:=.type "dict",data:=.dict #[]}}:Shared).heap.objs.size=s.heap.objs.size+1 from bp ..];exact aa (ae (ae f))
end
section
variable {prog:Program}{w:World}{A:Around}{s:Shared}
abbrev NoX:Value->Shared->Prop:=λ_ _=>False
theorem toE{α:Type}{M:Model}{A:Around}{t:Sem α}{Q b:α->Shared->Prop}{E:Value->Shared->Prop}{s:Shared}(h:wpAny M A t Q NoX s)(c:∀a s,Q a s->b a s):wpAny M A t b E s :=
 cw h c λ_ _ z=>z.elim
theorem a5e{d a b:Expr}{e:List Expr}{scope:Scope}{pos:Pos}{it acc:Value}{env:Env}{R:Result->Shared->Prop}(I:Nat->Shared->Prop)
  (f:∀n s,I n s->wpAny (model prog w) A (pyNext it) (λr s₁=>match r with
   |none=>R (.ok .next) s₁
   |some v=>wpAny (model prog w) A (letOwnedTupleGo a it v) (λ_ s₂=>wpAny (model prog w) A (assign a env v) (λ_ s₃ =>
     wpAny (model prog w) A (forIn e true λc r=>if r=true then do let ok <-isTrue c env (eval c env);pure (ForInStep.yield ok)else pure (ForInStep.yield r)) (λok s₄ =>
      if ok=true then wpAny (model prog w) A (eval d env) (λx s₅=>wpAny (model prog w) A (call (.builtin "list.append") [acc,x]) (λ_ s₆=>∃m,m<n/\I m s₆) NoX s₅) NoX s₄
      else ∃m,m<n/\I m s₄) NoX s₃) NoX s₂) NoX s₁) NoX s)
  (n:Nat) (h:I n s):codeAny (model prog w) A (.compLoop (.ListComp d [⟨a,b,e,0⟩] scope pos) 0 it acc env) R s:=by
 refine codeAny_loop rfl I (λn s g=>?_) n h;show wpAny _ A ((compTurn (.ListComp d [⟨a,b,e,0⟩] scope pos) 0 it acc env).onRaise (λx=>do noteFrame x env;theTreesLotGoes x)) _ _ s;refine wpAny_noted ?_;rw[compTurn_list];refine aa (wpAny_standAt (aa (toE (f n s g) λr s₁ h₁=>?_)));cases r with
 |none=>exact ae h₁
 |some v =>
  refine aa (toE h₁ λ_ s₂ h₂=>aa (toE h₂ λ_ s₃ h₃=>aa (toE h₃ λok s₄ h₄=>?_)));cases ok with
  |false=>exact ae ⟨rfl,h₄⟩
  |true=>exact aa (aa (toE h₄ λx s₅ h₅=>aa (toE h₅ λ_ s₆ h₆=>ae (ae ⟨rfl,h₆⟩))))
end
noncomputable def Cx.blk(X:Cx)(N:List Str)(scope:Scope)(cells:List (Str×Addr))(C:Addr)(s:Shared)(H:Hp)(ex:List Addr):Cx :=
 {X with N:=N,s₀:=s,H₀:=H,env:=compEnvC scope cells C X.env,outer:=X.stack,stack:=X.stack,ex:=ex,fn:=λx=>scope.names.any λy=>y.1==x && y.2==.cell,pn:=[],xe:=NoX}
noncomputable def B5(src:List (Option Nat))(σ:St):St:=src.map λo=>o.bind λj=>(σ[j]?).join
noncomputable def C7(sc out:Scope):Bool:=sc.names.all λx=>x.2 != .free || (out.names.lookup x.1==some .cell || out.names.lookup x.1==some .free)
noncomputable def L4:List Str->List (Option Nat)->List Str->Scope->Bool
 |[],[],_,_=>true
 |x::N,o::src,M,sc=>(match o with|none=>true|some j=>M[j]? == some x && sc.names.lookup x==some .free) && L4 N src M sc
 |_,_,_,_=>false
noncomputable def a4F(sc:Scope):Bool:=sc.kind==.function && sc.names.all λx=>sc.names.lookup x.1==some x.2
theorem a4f:∀{N:List Str}{src:List (Option Nat)}{M:List Str}{a:Scope},L4 N src M a=true->src.length=N.length
 |[],[],_,_,_=>rfl
 |_::N,_::src,M,a,h=>by
  unfold L4 at h;rw[aQ]at h;rw[aU,aU,a4f h.2]
 |[],_::_,_,_,h=>by simp[L4]at h
 |_::_,[],_,_,h=>by simp[L4]at h
theorem a4g:∀{N:List Str}{src:List (Option Nat)}{M:List Str}{a:Scope}{i:Nat}{x:Str}{j:Nat},L4 N src M a=true->N[i]?=some x->src[i]?=some (some j)->M[j]?=some x/\a.names.lookup x=some .free
 |[],[],_,_,_,_,_,_,h,_=>by simp at h
 |y::N,o::src,M,a,0,x,j,h,h1,h2=>by
  unfold L4 at h;rw[aQ]at h;simp at h1 h2;subst h1 h2;have q:=h.1;rw[aQ]at q;exact⟨a_.mp q.1,a_.mp q.2⟩
 |y::N,o::src,M,a,i+1,x,j,h,h1,h2=>by
  unfold L4 at h;rw[aQ]at h;exact a4g h.2 (by simpa using h1) (by simpa using h2)
 |[],_::_,_,_,_,_,_,h,_,_=>by simp[L4]at h
 |_::_,[],_,_,_,_,_,h,_,_=>by simp[L4]at h
theorem b0D{src:List (Option Nat)}{σ:St}{i:Nat}{v:V}(h:(B5 src σ)[i]?=some (some v)):∃j,src[i]?=some (some j)/\σ[j]?=some (some v):=by
 unfold B5 at h;rw[aW]at h;cases e:src[i]? with
 |none=>rw[e]at h;cases h
 |some o =>
  rw[e]at h;cases o with
  |none=>cases h
  |some j =>
   refine⟨j,rfl,?_⟩;have h':(σ[j]?).join=some v:=bC h;cases q:σ[j]? with
   |none=>rw[q]at h';cases h'
   |some z=>rw[q]at h';rw[show z=some v from h']
theorem W3{env:Env}:∀{names:List (Str×NameKind)}{x:Str}{k:NameKind},
  (names.map λ(n,k)=>if (k==NameKind.free && env.scope.kind==.function && env.kindOf n==some .cell)then(n,NameKind.cell)else(n,k)).lookup x=some k ->
  ∃b,names.lookup x=some b/\(k=b∨(b=.free/\k=.cell))
 |[],_,_,h=>by cases h
 |(n,k0)::r,x,k,h=>by
  rw[aV,bU]at h;rw[bU];dsimp only at h;split at h
  .rename_i h0;have a:x==n:=by
    split at h0<;>exact h0
   rw[a];refine⟨k0,rfl,?_⟩;split at h
   .rename_i hc;cases h;simp only[aQ]at hc;exact .inr ⟨by simpa using hc.1.1,rfl⟩
   .cases h;exact .inl rfl
  .rename_i h0;have a:(x==n)=false:=by
    split at h0<;>exact h0
   rw[a];exact W3 h
theorem J6{env:Env}:∀{names:List (Str×NameKind)}{x:Str}{c:NameKind},names.lookup x=some c ->
  ∃k,(names.map λ(n,k)=>if (k==NameKind.free && env.scope.kind==.function && env.kindOf n==some .cell)then(n,NameKind.cell)else(n,k)).lookup x=some k/\(k=c∨(c=.free/\k=.cell))
 |[],_,_,h=>by cases h
 |(n,k0)::r,x,c,h=>by
  rw[bU]at h;rw[aV];by_cases b:(k0==NameKind.free && env.scope.kind==.function && env.kindOf n==some .cell)=true
  .simp only[b,eR];rw[bU];cases a:x==n with
   |true =>
    rw[a]at h;cases h;simp only[aQ]at b;exact⟨_,rfl,.inr ⟨by simpa using b.1.1,rfl⟩⟩
   |false=>rw[a]at h;exact J6 h
  .simp only[ar b];rw[bU];cases a:x==n with
   |true=>rw[a]at h;cases h;exact⟨_,rfl,.inl rfl⟩
   |false=>rw[a]at h;exact J6 h
def PIf(X:Cx)(ifs:List Expr)(t:TT):Prop :=
 ∀(pins:List (Addr×Obj)) (s:Shared) (σ:St) (H:Hp) (Q:Bool->Hp->Prop),Inv X pins σ H s->t σ H Q ->
  wpAny (model X.prog X.w) X.A (forIn ifs true λc r=>if r=true then do let ok <-isTrue c X.env (eval c X.env);pure (ForInStep.yield ok)else pure (ForInStep.yield r)) (TP X pins σ Q) X.xe s
def a0d:TT:=λ_ H Q=>Q true H
theorem b4n{X:Cx}:PIf X [] a0d:=λpins s σ H Q I h=>wpAny_tests_nil ⟨H,I,h⟩
theorem b4m{X:Cx}{c:Expr}{t:TT}(h:PT X c t):PIf X [c] t:=λpins s σ H Q I q=>wpAny_tests_one (h pins s σ H Q I q)
def Sub(σ σ':St):Prop:=σ.length=σ'.length/\∀(i:Nat) (v:V),σ[i]?=some (some v)->σ'[i]?=some (some v)
def J9(src:List (Option Nat))(g:TG)(tt:TT)(te:TE)(σ:St)(Q:VK)(J:It)(H1:Hp):Prop :=
 ∃W:Nat->Nat->List V->Hp->Prop,(∃m,W 0 m [] H1)/\∀i m ys H,W i m ys H ->
  (J.stop i H/\ys.length<=sizeLine/\∀p,H p=none->Q (.ref p) (upd H p (.lst ys))) ∨
  (J.go i H/\ys.length<sizeLine/\∃N:List V->Hp->Prop,(∀zs H',N zs H'->∃m',m'<m/\W (i+1) m' zs H')/\∀x H',J.yld i H x H'->g x (B5 src σ) H' λσ2 H2=>Sub (B5 src σ) σ2/\tt σ2 H2 λb H3 =>
   if b=true then te σ2 H3 λv H4=>N (ys++[v]) H4 else N ys H3)
def a5E(src:List (Option Nat))(wi:TI)(g:TG)(tt:TT)(te:TE):TE:=λσ H Q=>wi σ H (J9 src g tt te σ Q)
section
variable {X:Cx}{pins:List (Addr×Obj)}{σ:St}{H:Hp}{s:Shared}
theorem Inv.block{N:List Str}{src:List (Option Nat)}{scope:Scope}{fp:List Addr}(I:Inv X pins σ H s)(P:∀b∈fp,a1s X pins H b)(Y:∀b∈fp,∃o,s.heap.get? b=some o)
  (J:C7 scope X.env.scope=true) (D:L4 N src X.N scope=true) (C:a4F scope=true) {lo:Obj} :
  Inv (X.blk N scope (cellsFrom (s.heap.objs.size+2) scope.names (a1O scope X.env)) (s.heap.objs.size+1) s H fp) [] (B5 src σ) H
   {s with heap:=pushCells ((s.heap.push lo).push {cls:=.type "dict",data:=.dict #[]}) scope.names}:=by
 unfold a4F at C;rw[aQ]at C;have E:scope.kind=.function:=by simpa using C.1
 have F:∀x∈scope.names,scope.names.lookup x.1=some x.2:=λx A=>by simpa using bI.mp C.2 x A
 have t:∀x∈scope.names,x.2=.free->X.env.kindOf x.1=some .cell∨X.env.kindOf x.1=some .free:=λx A f=>by
  have q:=bI.mp J x A;rw[f]at q;have U:(X.env.scope.names.lookup x.1==some .cell || X.env.scope.names.lookup x.1==some .free)=true:=by simpa using q
  rw[Bool.or_eq_true]at U;exact U.imp (λz=>a_.mp z) λz=>a_.mp z
 have keep:∀b o,s.heap.get? b=some o->(pushCells ((s.heap.push lo).push {cls:=.type "dict",data:=.dict #[]}) scope.names).get? b=some o:=λb o e =>
  fP _ _ _ _ (ag _ (ag _ e))
 have Q:∀x c,(a1O scope X.env).lookup x=some c->c<s.heap.objs.size:=λx c e=>by
  obtain⟨v,z⟩:=I.cell x c (Z9 e);exact z.lt
 have d:∀x c,(cellsFrom (s.heap.objs.size+2) scope.names (a1O scope X.env)).lookup x=some c->(s.heap.objs.size+2<=c/\(x,NameKind.cell)∈scope.names)∨X.env.cells.lookup x=some c:=λx c e =>
  (R0 _ _ _ e).imp id Z9
 have K:∀x k,(compEnvC scope (cellsFrom (s.heap.objs.size+2) scope.names (a1O scope X.env)) (s.heap.objs.size+1) X.env).kindOf x=some k->∃g,scope.names.lookup x=some g/\(k=g∨(g=.free/\k=.cell)):=λx k e =>
  W3 (env:=X.env) e
 have mem:∀{x k},scope.names.lookup x=some k->(x,k)∈scope.names:=λe=>mem_of_lookup e;refine⟨⟨I.ok.mod,?_,I.ok.glob,I.ok.blt,?_,?_,?_,?_,I.ok.hd,I.ok.frames,.inl rfl,?_,I.bs,bf I.ok.bsz I.sz,?_,?_,I.stack,I.stkFree⟩,rfl,I.bare,Un.kept keep,?_,?_,?_,?_,?_,I.hok.kept keep,?_⟩
 .exact E
 .exact eh _
 .-- inj
  refine a7G _ _ _ (λx c e=>?_) λx y c e R=>I.ok.inj x y c (Z9 e) (Z9 R);exact aE (Q x c e) (cj _ 2)
 .-- has
  intro x A;refine a5f _ _ _ ?_;have f:∃g,scope.names.lookup x=some g/\(g=.cell∨g=.free):=by
   rcases A with A|A
   .obtain⟨g,e,z⟩:=K x _ A;exact⟨g,e,z.elim (λz=>.inl z.symm) λz=>.inr z.1⟩
   .obtain⟨g,e,z⟩:=K x _ A;exact⟨g,e,z.elim (λz=>.inr z.symm) λz=>by cases z.2⟩
  obtain⟨g,e,rfl|rfl⟩:=f
  .exact .inl (mem e)
  .obtain⟨a,ha⟩:=I.ok.has x (t _ (mem e) rfl);exact .inr ⟨a,a6E ha (mem e)⟩
 .-- cab
  intro x c A e;rcases d x c e with z|z
  .exact bf (cj _ 2) z.1
  .-- x is the block's own cell, so it is not in the closure's part
   exfalso;obtain⟨y,hy,G⟩:=bV.mp A;rw[aQ]at G;have S:y.1=x:=a_.mp G.1;have T:y.2=.cell:=by simpa using G.2
   have l1:scope.names.lookup x=some .cell:=by rw[<-S,<-T];exact F y hy
   rcases R0 _ _ _ e with q|q
   .obtain⟨v,z'⟩:=I.cell x c z;exact absurd (aE z'.lt (bf (cj _ 2) q.1)) (bW _)
   .-- the closure holds free names alone
    have fr:∀(names:List (Str×NameKind)) (L:List (Str×Addr)),(names.foldl (G8 X.env) L).lookup x=some c->(x,NameKind.free)∈names∨L.lookup x=some c:=by
     intro names;induction names with
     |nil=>intro L h;exact .inr h
     |cons n r ih =>
      intro L h;rw[dF]at h;rcases ih _ h with w|w
      .exact .inl (ak _ w)
      .unfold G8 at w;split at w
       .rename_i f;split at w
        .rw[bU]at w;cases B:x==n.1 with
         |true =>
          have:n=(x,NameKind.free):=Prod.ext (a_.mp B).symm (by simpa using f);exact .inl (by rw[this];exact au)
         |false=>rw[B]at w;exact .inr w
        .exact .inr w
       .exact .inr w
    rcases fr _ _ q with w|w
    .have:=F _ w;rw[l1]at this;cases this
    .cases w
 .-- exf
  intro b B;obtain⟨o,e⟩:=Y b B;have lt:=aG e;refine⟨aM (bX lt),λx c O=>?_⟩;rcases d x c O with z|z
  .exact dr (aE lt (bf (cj _ 2) z.1))
  .exact(P b B).2.2.2.2.1 x c z
 .-- noex
  intro b o e B;rcases(P b B).2.2.2.1 with z|z
  .exact I.ok.noex b o e z
  .exact absurd (aE (aG (I.ok.bs b o e).1) z) (bW _)
 .-- exfs
  intro b B z;rcases aI.mp (I.stkSub b z)with q|q
  .exact(P b B).2.1 q
  .exact(P b B).2.2.1 q
 .-- loc
  refine⟨λ_=>none,?_,λi x v S T e3=>?_⟩
  .have:=(Heap.Ns.new (s.heap.push lo) (.type "dict")).keeps (fP scope.names _);rw[bp]at this;exact this
  .obtain⟨j,e4,e5⟩:=b0D T;obtain⟨V,M⟩:=a4g D S e4;obtain⟨m,_,W⟩:=I.loc;have f:=t _ (mem M) rfl;have Z:Vis X.env.scope x:=.inr (f.imp id id);obtain⟨u,r,l⟩:=W j x v V e5 Z;refine⟨u,r,.inr ⟨?_,?_⟩⟩
   .obtain⟨k,q,z⟩:=J6 (env:=X.env) M;rcases z with z|z
    .exact .inr (by rw[<-z];exact q)
    .exact .inl (by rw[<-z.2];exact q)
   .rcases l with l|⟨_,c,O,z⟩
    .exfalso;rcases f with f|f<;>rw[l.1]at f<;>cases f
    .refine⟨c,?_,z.keeps keep⟩;have own:¬(x,NameKind.cell)∈scope.names:=λw=>by
      have:=F _ w;rw[M]at this;cases this
     obtain⟨c',q⟩:=a5f (x:=x) scope.names (s.heap.objs.size+2) (a1O scope X.env) (.inr ⟨c,a6E O (mem M)⟩);rcases d x c' q with w|w
     .exact absurd w.2 own
     .rw[O]at w;cases w;exact q
 .-- cell
  intro x c e;have R:(cellsFrom ((s.heap.push lo).push {cls:=.type "dict",data:=.dict #[]}).objs.size scope.names (a1O scope X.env)).lookup x=some c:=by
   rw[bp,bp];exact e
  refine a4N _ _ _ (λx' c' q=>?_) R;obtain⟨v,z⟩:=I.cell x' c' (Z9 q);exact⟨v,z.keeps λb o q=>ag _ (ag _ q)⟩
 .exact I.hok.fresh (eh _)
 .intro x c e;rcases d x c e with z|z
  .exact I.hok.fresh (bf (cj _ 2) z.1)
  .exact I.freeC x c z
 .intro p hp;cases hp
 .show(B5 src σ).length=N.length;unfold B5;rw[aj];exact a4f D
theorem Inv.unblock{N:List Str}{scope:Scope}{d:List (Str×Addr)}{C acc:Addr}{fp:List Addr}{pins':List (Addr×Obj)}{σ':St}{H':Hp}{s':Shared}{h':Heap}{ys:List V}{us:List Value}{n:Nat}
  (I:Inv X pins σ H s) (A:∀b∈fp,a1s X pins H b) (y:s.heap.objs.size<=C) (w:s.heap.objs.size<=acc) (p:acc≠C) (J:Inv (X.blk N scope d C s H fp) pins' σ' H' s')
  (x:H' acc=none) (B:s'.heap.get? acc=some {cls:=.type "list",data:=.seq us.toArray n}) (D:Vals ys us) (E:ys.length<=sizeLine) (m:Heap.SameBut C s'.heap h') :
  Inv X pins σ (upd H' acc (.lst ys)) {s' with heap:=h'}:=by
 have base:Un (frs X.stack) fp H H' s.heap s'.heap:=J.base;have k:∀b o,b≠C->s'.heap.get? b=some o->h'.get? b=some o:=λb o q e=>m.extBut b o q e;have a:∀b o,s.heap.get? b=some o->b≠C/\b≠acc:=λb o e=>by
  have:=aG e;exact⟨aM (aE this y),aM (aE this w)⟩
 have g:H' C=none:=J.free;have h:H acc=none:=I.hok.fresh w;have j:HOk X.prog X.w H' s'.heap:=J.hok;have v:HOk X.prog X.w (upd H' acc (.lst ys)) h':=by
  intro b o e;by_cases i:b=acc
  .subst i;rw[A0]at e;cases e;exact⟨E,us,n,D,k _ _ p B⟩
  .rw[A1 i]at e;refine(j b o e).stay (λc u l q=>k c u ?_ q) (λc q=>?_) λc xs q=>?_
   .rintro rfl;rcases l with rfl|l
    .rw[g]at e;cases e
    .rw[g]at l;cases l
   .rw[A1 (by rintro rfl;rw[x]at q;cases q)];exact q
   .rw[A1 (by rintro rfl;rw[x]at q;cases q)];exact q
 have f:∀b u,H b=some u->b≠acc:=λb u e=>by rintro rfl;rw[h]at e;cases e
 refine I.call' (s':={s' with heap:=h'}) (ch:=fp) (J.os) ⟨λb o e q r t=>?_,λb o e q r t=>?_,λb o e q t=>?_,λb o e t=>?_,λb xs e=>?_,λb o u e=>?_,λb ps e=>?_⟩ v J.bare λb m=>?_
 .exact k b o (a b o e).1 (base.keep b o e q r t)
 .obtain⟨sl,z⟩:=base.slot b o e q r t;exact⟨sl,k b _ (a b o e).1 z⟩
 .rw[A1 (a b o e).2];exact base.free b o e q t
 .obtain⟨o',z⟩:=base.there b o e t;exact⟨o',k b _ (a b o e).1 z⟩
 .rw[A1 (f b _ e)];exact base.tups b xs e
 .rw[A1 (f b _ e)];exact base.frzs b o u e
 .rw[A1 (f b _ e)];exact base.tbls b ps e
 .obtain⟨_,h1,_,h3,h4,h5⟩:=A b m;exact⟨h3,h1,h4,h5⟩
set_option maxHeartbeats 4000000 in
theorem a4d{tg t E:Expr}{K:List Expr}{scope:Scope}{pos:Pos}{N:List Str}{src:List (Option Nat)}{wi:TI}{g:TG}{tt:TT}{te:TE}{Q:VK}{RR:Value->Addr->Result->Shared->Prop}(hc:X.calm=true)(hi:PI X tg t wi)
  (b6:C7 scope X.env.scope=true) (b0:L4 N src X.N scope=true) (d3:a4F scope=true)
  (hg:∀a C s H ex,PG (X.blk N scope a C s H ex) tg g) (ht:∀a C s H ex,PIf (X.blk N scope a C s H ex) K tt) (he:∀a C s H ex,PE (X.blk N scope a C s H ex) E te)
  (I:Inv X pins σ H s) (h:a5E src wi g tt te σ H Q)
  (b7:∀(s2 s4:Shared) (H2 H4:Hp) (fp:List Addr) (a:List (Str×Addr)) (pl:List (Addr×Obj)) (σ4:St) (ys:List V) (us:List Value) (k:Nat),Inv X pins σ H2 s2->(∀b∈fp,a1s X pins H2 b) ->
   Inv (X.blk N scope a (s2.heap.objs.size+1) s2 H2 fp) pl σ4 H4 s4->H4 s2.heap.objs.size=none->s4.heap.get? s2.heap.objs.size=some {cls:=.type "list",data:=.seq us.toArray k}->Vals ys us->ys.length<=sizeLine ->
   Q (.ref s2.heap.objs.size) (upd H4 s2.heap.objs.size (.lst ys))->RR (.ref s2.heap.objs.size) (s2.heap.objs.size+1) (.ok .next) s4) :
  wpAny (model X.prog X.w) X.A (eval t X.env) (λx s₁=>wpAny (model X.prog X.w) X.A (pyIter x) (λit s₂=>wpAny (model X.prog X.w) X.A (newList []) (λacc s₃ =>
   wpAny (model X.prog X.w) X.A (newFunctionEnv scope X.env.globals (a1O scope X.env) [] X.env.qual none .none (some X.env)) (λO s₄ =>
    codeAny (model X.prog X.w) X.A (.compStart (.ListComp E [⟨tg,t,K,0⟩] scope pos) 0 it acc {O with scope:=relabel scope X.env}) (RR acc O.locals) s₄) X.xe s₃) X.xe s₂) X.xe s₁) X.xe s:=by
 refine thn (hi pins s σ H _ I h) λv s1 h1=>thn h1 λd5 s2 h2=>?_;obtain⟨it,fp,tn,J,H2,e,U,T,c2,f2,W,⟨m0,w0⟩,c4⟩:=h2;subst e;have b8:∀b∈fp,∃o,s2.heap.get? b=some o:=λb l=>(T.obj _ _ c2 b l).imp λ_ q=>q.1;refine bt (a6M ?_);have hB:=U.block (lo:={cls:=.type "list",dict:=none,data:=.seq ([]:List Value).toArray}) f2 b8 b6 b0 d3;rw[show({s2 with heap:=s2.heap.push {cls:=.type "list",dict:=none,data:=.seq ([]:List Value).toArray}}:Shared).heap.objs.size=s2.heap.objs.size+1 from bp ..];generalize G:cellsFrom (s2.heap.objs.size+1+1) scope.names (a1O scope X.env)=a at hB⊢;generalize B:pushCells ((s2.heap.push {cls:=.type "list",dict:=none,data:=.seq ([]:List Value).toArray}).push {cls:=.type "dict",data:=.dict #[]}) scope.names=h4 at hB⊢;have a4:∀b o,s2.heap.get? b=some o->h4.get? b=some o:=λb o q=>by
  rw[<-B];exact fP _ _ _ _ (ag _ (ag _ q))
 have a8:h4.get? s2.heap.objs.size=some {cls:=.type "list",data:=.seq ([]:List Value).toArray 0}:=by
  rw[<-B];exact fP _ _ _ _ (ag _ (aJ _ rfl))
 have c3:tn 0 h4:=T.keep _ _ _ c2 λb _ o q=>a4 b o q;generalize f:X.blk N scope a (s2.heap.objs.size+1) s2 H2 fp=j at hB;have eA:j.A=X.A:=by rw[<-f];rfl
 have eP:j.prog=X.prog:=by rw[<-f];rfl
 have ew:j.w=X.w:=by rw[<-f];rfl
 have eK:j.K=X.K:=by rw[<-f];rfl
 have ec:j.calm=true:=by rw[<-f];exact hc
 have ee:j.env=compEnvC scope a (s2.heap.objs.size+1) X.env:=by rw[<-f];rfl
 have ex:j.ex=fp:=by rw[<-f];rfl
 have a9:j.pn=[]:=by rw[<-f];rfl
 have c8:j.s₀=s2:=by rw[<-f];rfl
 have Z:j.xe=NoX:=by rw[<-f];rfl
 have eL:j.env.locals=s2.heap.objs.size+1:=by rw[ee];rfl
 have c7:j.fs=frs X.stack:=by rw[<-f];rfl
 have c1:=hB.ok;have cne:∀x c,j.env.cells.lookup x=some c->c≠s2.heap.objs.size:=λx c q=>by
  rw[ee]at q;have q':a.lookup x=some c:=q;rw[<-G]at q';rcases R0 _ _ _ q' with z|z
  .exact dr (aE (cf _) (bf (eh _) z.1))
  .obtain⟨v,z'⟩:=U.cell x c (Z9 z);exact aM z'.lt
 have P:∀b∈fp,b≠s2.heap.objs.size:=λb l=>by
  obtain⟨o,q⟩:=b8 b l;exact aM (aG q)
 have A:s2.heap.objs.size∉j.fs:=by
  rw[c7];intro z;rcases aI.mp (U.stkSub _ z)with q|q
  .exact absurd U.lt (by rw[<-q];exact bW _)
  .exact U.nofs (aq _) q
 have w:∀{H':Hp}{pl:List (Addr×Obj)},(∀b∈fp,H' b=none)->(∀p∈pl,p.1=s2.heap.objs.size)->∀b∈fp,a1s j pl H' b:=λ{H' pl} hn D b l=>by
  obtain⟨x1,x2⟩:=c1.exf b (by rw[ex];exact l);refine⟨hn b l,x1,c1.exfs b (by rw[ex];exact l),.inl (by rw[ex];exact l),x2,λp b9=>?_⟩;rw[a9,cK]at b9;rw[D p b9];exact(P b l).symm
 have c0:∀s5:Shared,s5={s2 with heap:=h4}->codeAny (model X.prog X.w) X.A (.compLoop (.ListComp E [⟨tg,t,K,0⟩] scope pos) 0 (.ref it) (.ref s2.heap.objs.size) j.env)
   (RR (.ref s2.heap.objs.size) (s2.heap.objs.size+1)) s5:=by
  rintro s5 rfl;refine a5e (λn s'=>∃i H' ys us k,Inv j [] (B5 src σ) H' s'/\tn i s'.heap/\(∀b∈fp,H' b=none)/\H' s2.heap.objs.size=none /\
   s'.heap.get? s2.heap.objs.size=some {cls:=.type "list",data:=.seq (us:List Value).toArray k}/\Vals ys us/\W i n ys H') ?_ m0
   ⟨0,H2,[],[],0,hB,c3,λb l=>(f2 b l).1,U.hok.fresh (aq _),a8,.nil,w0⟩
  rintro n s3 ⟨i,R,ys,us,k,I3,a5,a0,L,a7,r3,w3⟩;rcases c4 i n ys R w3 with⟨stop,hz,qn⟩|⟨go,hz,Nn,hN,step⟩
  .have d:=T.done j eP ew eK ec i [] s3 (B5 src σ) R NoX I3 (w a0 (λ_ z=>by cases z)) a5 stop;rw[eA]at d;have Y:Inv j [(s2.heap.objs.size,{cls:=.type "list",data:=.seq us.toArray k})] (B5 src σ) R s3:=I3.pins_of λp D=>by
    rw[aB.mp D];exact⟨a7,L,by rw[eL];exact aM (cf _),A,λv z=>by cases z⟩
   have d:=T.done j eP ew eK ec i _ s3 (B5 src σ) R NoX Y (w a0 (λp z=>by rw[aB.mp z])) a5 stop;rw[eA]at d;refine thn d λr s4 ⟨hr,I4⟩=>?_;subst hr;have c6:=(I4.pin (s2.heap.objs.size,{cls:=.type "list",data:=.seq us.toArray k}) (aZ _ au)).1;rw[<-f]at I4;exact b7 s2 s4 H2 R fp a _ _ ys us k U f2 I4 L c6 r3 hz (qn _ L)
  .have Y:Inv j [(s2.heap.objs.size,{cls:=.type "list",data:=.seq us.toArray k})] (B5 src σ) R s3:=I3.pins_of λp D=>by
    rw[aB.mp D];exact⟨a7,L,by rw[eL];exact aM (cf _),A,λv z=>by cases z⟩
   have d:=T.item j eP ew eK ec i _ s3 (B5 src σ) R NoX Y (w a0 (λp z=>by rw[aB.mp z])) a5 go;rw[eA]at d;refine thn d λr s4 ⟨u,hr,d0⟩=>?_;subst hr;refine thn d0 λ_ s5 ⟨x,H5,I5,r5,y5,a6,c9⟩=>?_;have c5:=I5.pinned (w c9 (λp z=>by rw[aB.mp z])) (T.obj _ _ a6);have d2:PG j tg g:=by rw[<-f];exact hg _ _ _ _ _
   have d4:PIf j K tt:=by rw[<-f];exact ht _ _ _ _ _
   have d1:PE j E te:=by rw[<-f];exact he _ _ _ _ _
   have a1:=d2 _ s5 _ H5 x u _ c5 r5 (step x H5 y5);rw[eP,ew,eA,Z]at a1;refine thn a1 λ_ s6 ⟨σ6,H6,I6,sb,q6⟩=>?_;have a2:=d4 _ s6 σ6 H6 _ I6 q6;rw[eP,ew,eA,Z]at a2;refine thn a2 λok s7 ⟨H7,I7,q7⟩=>?_;have back:∀{S:Hp}{M:Shared}{pl:List (Addr×Obj)},Inv j ([(s2.heap.objs.size,{cls:=.type "list",data:=.seq us.toArray k})]++a2x fp s5.heap) σ6 S M ->
     Inv j [] (B5 src σ) S M/\tn (i+1) M.heap/\(∀b∈fp,S b=none)/\S s2.heap.objs.size=none/\M.heap.get? s2.heap.objs.size=some {cls:=.type "list",data:=.seq us.toArray k}:=λ{S M pl} I8=>by
    have p0:=I8.pin (s2.heap.objs.size,{cls:=.type "list",data:=.seq us.toArray k}) (aZ _ (aT _ au));refine⟨(I8.pins_of (pins':=[]) λp D=>by cases D).weak sb.1 sb.2,T.keep _ _ _ a6 λb l o e=>(I8.pin (b,o) (aZ _ (aZ _ (S9 l e)))).1,λb l=>?_,p0.2.1,p0.1⟩;obtain⟨o,e,_⟩:=T.obj _ _ a6 b l;exact(I8.pin (b,o) (aZ _ (aZ _ (S9 l e)))).2.1
   cases ok with
   |false =>
    obtain⟨m',hm,w7⟩:=hN _ _ q7;obtain⟨b1,b2,b3,b4,b5⟩:=back (pl:=[]) I7;exact⟨m',hm,i+1,H7,ys,us,k,b1,b2,b3,b4,b5,r3,w7⟩
   |true =>
    have a3:=d1 _ s7 σ6 H7 _ I7 q7;rw[eP,ew,eA,Z]at a3;refine thn a3 λy M ⟨vy,S,I8,ry,n8⟩=>?_;obtain⟨m',hm,w8⟩:=hN _ _ n8;obtain⟨b1,b2,b3,b4,b5⟩:=back (pl:=[]) I8;refine dX F.slot_list_append ⟨_,b5,rfl⟩ F.entry_list_append (F.args_list_append_2 _ _) (PySem.list_append s2.heap.objs.size us.toArray k y (by rw[aD,<-r3.length];omega)) ⟨b5,?_⟩;have q:=PySem.IsL.update b5 (λxs=>xs.push y);rw[show us.toArray.push y=(us++[y]).toArray by simp]at q;have nb:∀b o,b≠s2.heap.objs.size->M.heap.get? b=some o->(M.heap.update s2.heap.objs.size (Obj.mapSeq λxs=>xs.push y)).get? b=some o:=λb o l e =>
     (fC M.heap _ (dM l)).trans e
    refine⟨m',hm,i+1,S,ys++[vy],us++[y],_,?_,?_,b3,b4,q,r3.append (.cons ry .nil),w8⟩
    .exact b1.turned nb b4 (by rw[eL];exact aM (cf _)) (.inr (by rw[c8];exact aq _)) cne λp D=>by rw[a9]at D;cases D
    .exact T.keep _ _ _ b2 λb l o e=>nb b o (P b l) e
 have m:=c0 _ rfl;rw[ee]at m;exact codeAny_compStart_list m (T.self _ 0 _ _ _ c3 m)
theorem a3K{scope:Scope}(a:a4F scope=true):scope.kind=.function/\∀x∈scope.names,scope.names.lookup x.1=some x.2:=by
 unfold a4F at a;rw[aQ]at a;exact⟨by simpa using a.1,λx b=>by simpa using bI.mp a.2 x b⟩
theorem Inv.clos{scope:Scope}(I:Inv X pins σ H s)(a:C7 scope X.env.scope=true):closureFor scope X.env=pure (a1O scope X.env):=b3j λx d c=>by
 have q:=bI.mp a x d;rw[c]at q;have b:(X.env.scope.names.lookup x.1==some .cell || X.env.scope.names.lookup x.1==some .free)=true:=by simpa using q
 rw[Bool.or_eq_true]at b;exact I.ok.has x.1 (b.imp (λz=>a_.mp z) λz=>a_.mp z)
theorem b4y{tg b e:Expr}{j:List Expr}{scope:Scope}{pos:Pos}{N:List Str}{src:List (Option Nat)}{u:TI}{g:TG}{t:TT}{te:TE}(y:X.calm=true)(hi:PI X tg b u)
  (c:C7 scope X.env.scope=true) (f:L4 N src X.N scope=true) (i:a4F scope=true)
  (A:∀a C s H ex,PG (X.blk N scope a C s H ex) tg g) (D:∀a C s H ex,PIf (X.blk N scope a C s H ex) j t) (z:∀a C s H ex,PE (X.blk N scope a C s H ex) e te)
  (hs:∀x,foldedSetIterable b X.env x=pure x:=by intro _;rfl):PE X (.ListComp e [⟨tg,b,j,0⟩] scope pos) (a5E src u g t te):=by
 intro pins s σ H Q I h;obtain⟨d,n⟩:=a3K i;rw[eval_ListComp];refine wpAny_comprehension_free (use:=none) rfl hs (I.clos c) d (λx E B=>by rw[<-B];exact n x E) (a4d (RR:=compPost (model X.prog X.w) X.A X.xe none (EP X pins σ Q)) y hi c f i A D z I h ?_);intro s2 L H2 J fp a K σ4 ys M k v f2 r p l G F q;obtain⟨m,o,_⟩:=r.loc;exact⟨m,o,λh' w=>⟨.ref s2.heap.objs.size,_,Inv.unblock v f2 (eh _) (aq _) (aM (cf _)) r p l G F w,rfl,q⟩⟩
theorem b4h{i:Nat}{y:Str}{u r:Pos}{tg f j:Expr}{l:List Expr}{scope:Scope}{pos:Pos}{N:List Str}{src:List (Option Nat)}{wi:TI}{g:TG}{tt:TT}{te:TE}
  (hN:X.N.Nodup) (hy:X.N[i]?=some y) (Y:Loc X.env.scope y)
  (hc:X.calm=true) (hi:PI X tg f wi) (n:C7 scope X.env.scope=true) (B:L4 N src X.N scope=true) (F:a4F scope=true)
  (hg:∀d C s H ex,PG (X.blk N scope d C s H ex) tg g) (ht:∀d C s H ex,PIf (X.blk N scope d C s H ex) l tt) (S:∀d C s H ex,PE (X.blk N scope d C s H ex) j te)
  (W:swapsWith (.ListComp j [⟨tg,f,l,0⟩] scope pos) (some (.Name y u)) r.line X.env=pure true:=by rfl) (hs:∀x,foldedSetIterable f X.env x=pure x:=by intro _;rfl)
  (hf:X.fn y=true∨X.env.scope.names.lookup y=some .local:=by first|exact .inl rfl|exact .inr rfl|assumption) :
  PS X (.Assign [.Name y u] (.ListComp j [⟨tg,f,l,0⟩] scope pos) r) (a9x (a5E src wi g tt te) (B0 i)):=by
 intro pins s σ H D I h;obtain⟨t,T⟩:=a3K F;rw[exec_Assign_Name_used _ _ _ _ W];refine aa (wpAny_standAt (aa ?_));show wpAny _ X.A (do let _ <-comprehension (.ListComp j [⟨tg,f,l,0⟩] scope pos) scope X.env _ (newList []) false (eval f X.env) (some (assign (.Name y u) X.env))) _ _ s;refine aa (cw (wpAny_comprehension_free (use:=some (assign (.Name y u) X.env)) (Q:=λ_ s'=>SP X pins D .next s') rfl hs (I.clos n) t (λx Y hk=>by rw[<-hk];exact T x Y)
  (a4d (RR:=compPost (model X.prog X.w) X.A X.xe (some (assign (.Name y u) X.env)) (λ_ s'=>SP X pins D .next s')) hc hi n B F hg ht S I h ?_)) (λ_ s' hq=>ae (ae hq)) λ_ _ e=>e)
 intro s2 s4 H2 H4 fp d pl σ4 ys us k w f2 L Z M r4 hz q;obtain⟨m,V,_⟩:=L.loc;have E:s4.heap.Ns (s2.heap.objs.size+1) m:=V;have O:H4 (s2.heap.objs.size+1)=none:=L.free;have J:=Inv.unblock w f2 (eh _) (aq _) (aM (cf _)) L Z M r4 hz (Heap.SameBut.refl _ _);have K:s2.heap.objs.size+1≠X.env.locals:=dr (bX w.lt);have G:∀x c,X.env.cells.lookup x=some c->c≠s2.heap.objs.size+1:=λx c e=>by
  obtain⟨v,z⟩:=w.cell x c e;exact aM (bX z.lt)
 show wpAny _ X.A (assign (.Name y u) X.env (.ref s2.heap.objs.size)) _ _ s4;refine wpAny_assign_Name (a3F (v:=.ref s2.heap.objs.size) J hN hy Y rfl (λs' I' hb=>?_) hf);obtain⟨a,sb,P⟩:=hb;have A:s2.heap.objs.size+1≠a:=by
  rcases P with rfl|P
  .exact K
  .exact(G _ _ P).symm
 refine⟨m,E.sameBut sb A,λh' R=>⟨_,_,I'.turned (t':=s'.toks) (it:=s2.heap.objs.size+1) (λb o U e=>R.extBut b o U e) ?_ K (.inr (bf w.sz (eh _))) G λp hp=>?_,q⟩⟩
 .rw[A1 (dr (cf _))];exact O
 .exact aM (bX (aG (w.pin p hp).1))
end
def SqAt(k:Bool)(h:Heap)(l:Addr)(xs:Array Value):Prop:=match k with|true=>h.IsTuple l xs|false=>h.IsList l xs
def ItAt(k:Bool)(h:Heap)(i l:Addr)(n:Nat):Prop:=match k with|true=>h.IsTupleIter i l n|false=>h.IsListIter i l n
noncomputable def b7t:Bool->String|true => "tuple_iterator" | false => "list_iterator"
noncomputable def a1B(k:Bool)(l:Addr):Obj:={cls:=.type (b7t k),data:=.fields #[.ref l,.int 0 0]}
theorem ItAt.extBut{k:Bool}{h h':Heap}{i l b:Addr}{n:Nat}(x:ItAt k h i l n)(hs:Heap.ExtBut b h h')(a:i≠b):ItAt k h' i l n:=by
 cases k
 .exact Heap.IsListIter.extBut x hs a
 .exact Heap.IsTupleIter.extBut x hs a
theorem ItAt.at{k:Bool}{h h':Heap}{i l:Addr}{n:Nat}(x:ItAt k h i l n)(e:∀o,h.get? i=some o->h'.get? i=some o):ItAt k h' i l n:=by
 cases k
 .exact Heap.IsListIter.at x e
 .exact Heap.IsTupleIter.at x e
theorem ItAt.get{k:Bool}{h:Heap}{i l:Addr}{n:Nat}(x:ItAt k h i l n):∃o,h.get? i=some o/\o.data=.fields #[.ref l,.int n 0]:=by
 cases k<;>obtain⟨o,e,c,d⟩:=x<;>exact⟨o,e,d⟩
theorem SqAt.extBut{k:Bool}{h h':Heap}{l b:Addr}{xs:Array Value}(x:SqAt k h l xs)(hs:Heap.ExtBut b h h')(a:l≠b):SqAt k h' l xs:=by
 cases k
 .exact Heap.IsList.extBut x hs a
 .exact Heap.IsTuple.extBut x hs a
theorem SqAt.at{k:Bool}{h h':Heap}{l:Addr}{xs:Array Value}(x:SqAt k h l xs)(e:∀o,h.get? l=some o->h'.get? l=some o):SqAt k h' l xs:=by
 cases k<;>obtain⟨o,q,r⟩:=x<;>exact⟨o,e o q,r⟩
theorem SqAt.get{k:Bool}{h:Heap}{l:Addr}{xs:Array Value}(x:SqAt k h l xs):∃o,h.get? l=some o:=by
 cases k<;>obtain⟨o,q,r⟩:=x<;>exact⟨o,q⟩
section
variable {prog:Program}{w:World}{A:Around}{E:Value->Shared->Prop}{s:Shared}
theorem a1H{it t:Addr}{i:Nat}{items:Array Value}{x:Value}{Q:Value->Shared->Prop}(a:s.heap.IsTupleIter it t i)(g:s.heap.IsTuple t items)(h:items[i]?=some x)
  (e:∀h',h'.IsTupleIter it t (i+1)->Heap.SameBut it s.heap h'->Q x {s with heap:=h'}):wpAny (model prog w) A (Builtin.SmallTypes.nextOf (.ref it)) Q E s:=by
 obtain⟨o,b,f,hd⟩:=id a;obtain⟨k,d,_,j,c⟩:=g;unfold Builtin.SmallTypes.nextOf;refine aa (bE (name:=Str.ofString "__next__") a.typeIs dH
  (bH dH a.typeIs F.entry_tuple_iterator_next ?_ (F.args_tuple_iterator_next_1 _)))
 show wpAny _ _ (field (.ref it) 0>>=_) _ _ s;refine aa (cn b hd (x:=.ref t) rfl ?_);show wpAny _ _ (if (Value.ref t==Value.none)=true then _ else _) _ _ s;rw[ar (show ¬((Value.ref t==Value.none)=true)from aS)];show wpAny _ _ (field (.ref it) 1>>=_) _ _ s;refine aa (cn b hd (x:=.int i 0) rfl ?_);show wpAny _ _ (seqItems? (.ref t)>>=_) _ _ s;refine aa (cP d c ?_);simp only[br,h];refine aa (dN b hd (by simp) (ae ⟨x,rfl,ae (e _ ?_ (bS ..))⟩));exact⟨_,cD _ b (eE (cL hd _)),(fo ..).trans f,by
  rw[cL hd];simp[rawInt]⟩
theorem a2C{it t:Addr}{i:Nat}{items:Array Value}{Q:Value->Shared->Prop}(g:A.handled=none)(b:s.heap.IsTupleIter it t i)(j:s.heap.IsTuple t items)(k:items[i]?=none)
  (h:∀h' e,Heap.ExtBut it s.heap h'->(∃o,h'.get? e=some o/\o.cls=.type "StopIteration")->E (.ref e) {s with heap:=h'}) :
  wpAny (model prog w) A (Builtin.SmallTypes.nextOf (.ref it)) Q E s:=by
 obtain⟨o,d,l,hd⟩:=id b;obtain⟨p,f,_,n,c⟩:=j;unfold Builtin.SmallTypes.nextOf;refine aa (bE (name:=Str.ofString "__next__") b.typeIs dH
  (bH dH b.typeIs F.entry_tuple_iterator_next ?_ (F.args_tuple_iterator_next_1 _)))
 show wpAny _ _ (field (.ref it) 0>>=_) _ _ s;refine aa (cn d hd (x:=.ref t) rfl ?_);show wpAny _ _ (if (Value.ref t==Value.none)=true then _ else _) _ _ s;rw[ar (show ¬((Value.ref t==Value.none)=true)from aS)];show wpAny _ _ (field (.ref it) 1>>=_) _ _ s;refine aa (cn d hd (x:=.int i 0) rfl ?_);show wpAny _ _ (seqItems? (.ref t)>>=_) _ _ s;refine aa (cP f c ?_);simp only[br,k];refine aa (fg (aa (dN d hd (by simp) ?_)));show wpAny _ _ (newExc (.type "StopIteration") []>>=_) _ _ _;refine aa ?_;simp only[newExc,newTuple];refine aa (bt ?_ (by size_fits));refine aa (m:=firstArgMember _ _) (wpAny_of_eq (a:=Value.none) (by first|rfl | (simp only[firstArgMember];rfl)) ?_);refine bt ?_ (by size_fits);simp only[raiseNew];refine aa (wpAny_handled ?_)
 first|rw[show A.in1.handled=none from g]|rw[g]
 refine aa (ae (wpAny_throw ?_));exact h _ _ (((bS ..).extBut.push _).push _) ⟨_,aJ _ rfl,rfl⟩
theorem a2k{k:Bool}{it l:Addr}{i:Nat}{items:Array Value}{x:Value}{Q:Value->Shared->Prop}(a:ItAt k s.heap it l i)(c:SqAt k s.heap l items)(d:items[i]?=some x)
  (b:∀h',ItAt k h' it l (i+1)->Heap.SameBut it s.heap h'->Q x {s with heap:=h'}):wpAny (model prog w) A (Builtin.SmallTypes.nextOf (.ref it)) Q E s:=by
 cases k
 .exact wpAny_nextOf_list_item a c d b
 .exact a1H a c d b
theorem a8h{k:Bool}{it l:Addr}{i:Nat}{items:Array Value}{Q:Value->Shared->Prop}(c:A.handled=none)(a:ItAt k s.heap it l i)(d:SqAt k s.heap l items)(f:items[i]?=none)
  (b:∀h' e,Heap.ExtBut it s.heap h'->(∃o,h'.get? e=some o/\o.cls=.type "StopIteration")->E (.ref e) {s with heap:=h'}) :
  wpAny (model prog w) A (Builtin.SmallTypes.nextOf (.ref it)) Q E s:=by
 cases k
 .exact wpAny_nextOf_list_end c a d f b
 .exact a2C c a d f b
theorem a0y{k:Bool}{l:Addr}{items:Array Value}{Q:Value->Shared->Prop}(b:SqAt k s.heap l items)(a:Q (.ref s.heap.objs.size) {s with heap:=s.heap.push (a1B k l)}):wpAny (model prog w) A (pyIter (.ref l)) Q E s:=by
 cases k
 .exact wpAny_pyIter_list b a
 .exact wpAny_pyIter_tuple b a
end
section
variable {prog:Program}{w:World}{A:Around}{E:Value->Shared->Prop}{s:Shared}{k1 k2:Bool}
theorem b0J{z TI TO f g k l:Addr}{n p:Nat}{xs ys:Array Value}{x y a b:Value}{Q:Value->Shared->Prop}(D:ZipApart z TI TO f g k l)
  (hz:IsZip s.heap z TI TO .none) (t:IsPair s.heap TI (.ref f) (.ref g)) (u:IsPair s.heap TO a b)
  (h1:ItAt k1 s.heap f k n) (h2:ItAt k2 s.heap g l p) (B:SqAt k1 s.heap k xs) (C:SqAt k2 s.heap l ys) (G:xs[n]?=some x) (H:ys[p]?=some y)
  (F:∀h',IsZip h' z TI TO (rawInt s.heap.objs.size)->IsPair h' TO x y->ItAt k1 h' f k (n+1)->ItAt k2 h' g l (p+1)->IsPair h' s.heap.objs.size x y->h'.objs.size=s.heap.objs.size+1 ->
   (∀c o,c≠z->c≠TO->c≠f->c≠g->s.heap.get? c=some o->h'.get? c=some o)->Q (.ref s.heap.objs.size) {s with heap:=h'}) :
  wpAny (model prog w) A (Builtin.«zip.__next__» ⟨[.ref z],[]⟩) (λfin s'=>∃v,fin=.done (.ret v)/\Q v s') E s:=by
 show wpAny _ _ (field (.ref z) 2>>=_) _ _ _;refine aa (cn hz rfl (x:=.bool false) rfl ?_);show wpAny _ _ (field (.ref z) 3>>=_) _ _ _;refine aa (cn hz rfl (x:=.ref TI) rfl ?_);refine aa (cP t rfl ?_);show wpAny _ _ (Builtin.SmallTypes.ownedTupleIsFree (.ref z)>>=_) _ _ _;refine aa ?_;unfold Builtin.SmallTypes.ownedTupleIsFree;refine aa (cn hz rfl (x:=.none) rfl (ae ?_));simp only[eR];refine aa (fg ?_);refine aa (cn hz rfl (x:=.ref TO) rfl ?_);refine aa (du hz (by simp) λh₁ hz₁ hs₁=>?_);replace hz₁:IsZip h₁ z TI TO .ellipsis:=hz₁;refine aa ?_;simp only[List.zipIdx_cons,List.zipIdx_nil,List.forIn_cons,List.forIn_nil];refine aa (aa (wpAny_onRaise ?_));show wpAny _ _ (Builtin.SmallTypes.nextOf (.ref f)>>=_) _ _ _;refine aa (a2k (h1.extBut hs₁.extBut D.i1z) (B.extBut hs₁.extBut D.l1z) G λh₂ h1₂ hs₂=>ae ?_);have hTO₂:IsPair h₂ TO a b:=hs₂.extBut _ _ D.TOi1 (hs₁.extBut _ _ D.TOz u);refine aa (cP hTO₂ rfl ?_);refine aa (fQ hTO₂ λh₃ hTO₃ hs₃=>?_);replace hTO₃:IsPair h₃ TO x b:=hTO₃;refine aa (wpAny_letGo (ae ?_));refine aa (aa (wpAny_onRaise ?_));show wpAny _ _ (Builtin.SmallTypes.nextOf (.ref g)>>=_) _ _ _;refine aa (a2k (((h2.extBut hs₁.extBut D.i2z).extBut hs₂.extBut D.i12.symm).extBut hs₃.extBut D.TOi2.symm)
  (((C.extBut hs₁.extBut D.l2z).extBut hs₂.extBut D.l2i1).extBut hs₃.extBut D.l2TO) H λh₄ h2₄ hs₄=>ae ?_)
 have hTO₄:IsPair h₄ TO x b:=hs₄.extBut _ _ D.TOi2 hTO₃;refine aa (cP hTO₄ rfl ?_);refine aa (fQ hTO₄ λh₅ hTO₅ hs₅=>?_);replace hTO₅:IsPair h₅ TO x y:=hTO₅;refine aa (wpAny_letGo (ae (ae ?_)));refine aa (cP hTO₅ rfl ?_);refine aa (wpAny_newTuple ?_);have i:h₅.objs.size=s.heap.objs.size:=by rw[hs₅.1,hs₄.1,hs₃.1,hs₂.1,hs₁.1]
 have hz₅:IsZip h₅ z TI TO .ellipsis:=hs₅.extBut _ _ D.TOz.symm (hs₄.extBut _ _ D.i2z.symm (hs₃.extBut _ _ D.TOz.symm (hs₂.extBut _ _ D.i1z.symm hz₁)));have hk₅:∀c o,c≠z->c≠TO->c≠f->c≠g->s.heap.get? c=some o->h₅.get? c=some o:=λc o h m q r e =>
  hs₅.extBut _ _ m (hs₄.extBut _ _ r (hs₃.extBut _ _ m (hs₂.extBut _ _ q (hs₁.extBut _ _ h e))))
 have h1₅:ItAt k1 h₅ f k (n+1):=((h1₂.extBut hs₃.extBut D.TOi1.symm).extBut hs₄.extBut D.i12).extBut hs₅.extBut D.TOi1.symm;have h2₅:ItAt k2 h₅ g l (p+1):=h2₄.extBut hs₅.extBut D.TOi2.symm;have d:z<h₅.objs.size:=aG hz₅;show wpAny _ _ (Builtin.SmallTypes.ownedTupleHandOut (.ref z) (.ref h₅.objs.size)>>=_) _ _ _;refine aa ?_;unfold Builtin.SmallTypes.ownedTupleHandOut;have hz₆:IsZip (h₅.push {cls:=.type "tuple",data:=.seq #[x,y]}) z TI TO .ellipsis:=ag _ hz₅;refine aa (du hz₆ (by simp) λh₇ hz₇ hs₇=>?_);replace hz₇:IsZip h₇ z TI TO (rawInt h₅.objs.size):=hz₇;refine du hz₇ (by simp) λh₈ hz₈ hs₈=>?_;replace hz₈:IsZip h₈ z TI TO (rawInt h₅.objs.size):=hz₈;have up:∀c o,c≠z->h₅.get? c=some o->h₈.get? c=some o:=λc o h e=>hs₈.extBut _ _ h (hs₇.extBut _ _ h (ag _ e));have hT₈:IsPair h₈ h₅.objs.size x y:=hs₈.extBut _ _ (dr d) (hs₇.extBut _ _ (dr d) (aJ _ rfl));have j:h₈.objs.size=h₅.objs.size+1:=by rw[hs₈.1,hs₇.1,bp]
 rw[i]at hz₈ hT₈ j;refine ae ⟨_,rfl,?_⟩;show Q (.ref h₅.objs.size) _;rw[i];exact F h₈ hz₈ (up _ _ D.TOz hTO₅) (h1₅.at λo e=>up _ o D.i1z e) (h2₅.at λo e=>up _ o D.i2z e) hT₈ j λc o h m q r e=>up c o h (hk₅ c o h m q r e)
theorem b3A{z TI TO l m v y:Addr}{B C:Nat}{xs ys:Array Value}{a b:Value}{Q:Fin->Shared->Prop}(H:A.handled=none)(D:ZipApart z TI TO l m v y)
  (hz:IsZip s.heap z TI TO .none) (p:IsPair s.heap TI (.ref l) (.ref m)) (q:IsPair s.heap TO a b)
  (h1:ItAt k1 s.heap l v B) (h2:ItAt k2 s.heap m y C) (k:SqAt k1 s.heap v xs) (t:SqAt k2 s.heap y ys) (j:xs[B]?=none∨ys[C]?=none)
  (G:∀h' e,(∀c o,c≠z->c≠TO->c≠l->c≠m->s.heap.get? c=some o->h'.get? c=some o)->(∃o,h'.get? e=some o/\o.cls=.type "StopIteration")->E (.ref e) {s with heap:=h'}) :
  wpAny (model prog w) A (Builtin.«zip.__next__» ⟨[.ref z],[]⟩) Q E s:=by
 show wpAny _ _ (field (.ref z) 2>>=_) _ _ _;refine aa (cn hz rfl (x:=.bool false) rfl ?_);show wpAny _ _ (field (.ref z) 3>>=_) _ _ _;refine aa (cn hz rfl (x:=.ref TI) rfl ?_);refine aa (cP p rfl ?_);show wpAny _ _ (Builtin.SmallTypes.ownedTupleIsFree (.ref z)>>=_) _ _ _;refine aa ?_;unfold Builtin.SmallTypes.ownedTupleIsFree;refine aa (cn hz rfl (x:=.none) rfl (ae ?_));simp only[eR];refine aa (fg ?_);refine aa (cn hz rfl (x:=.ref TO) rfl ?_);refine aa (du hz (by simp) λh₁ hz₁ hs₁=>?_);replace hz₁:IsZip h₁ z TI TO .ellipsis:=hz₁;refine aa ?_;simp only[List.zipIdx_cons,List.zipIdx_nil,List.forIn_cons,List.forIn_nil];refine aa (aa (wpAny_onRaise ?_));show wpAny _ _ (Builtin.SmallTypes.nextOf (.ref l)>>=_) _ _ _;cases u:xs[B]? with
 |none =>
  refine aa (a8h H (h1.extBut hs₁.extBut D.i1z) (k.extBut hs₁.extBut D.l1z) u λh₂ e hs₂ r=>?_);obtain⟨F,d,f⟩:=r;have hz₂:IsZip h₂ z TI TO .ellipsis:=hs₂ _ _ D.i1z.symm hz₁;have g:e≠z:=λx=>by subst x;rw[hz₂]at d;cases d;simp at f
  refine du hz₂ (by simp) λh₃ _ hs₃=>G h₃ e (λc o i _ n _ x=>hs₃.extBut _ _ i (hs₂ _ _ n (hs₁.extBut _ _ i x))) ⟨F,hs₃.extBut _ _ g d,f⟩
 |some x =>
  have K:ys[C]?=none:=by rcases j with h|h;rw[u]at h;cases h;exact h
  refine aa (a2k (h1.extBut hs₁.extBut D.i1z) (k.extBut hs₁.extBut D.l1z) u λh₂ h1₂ hs₂=>ae ?_);have hTO₂:IsPair h₂ TO a b:=hs₂.extBut _ _ D.TOi1 (hs₁.extBut _ _ D.TOz q);refine aa (cP hTO₂ rfl ?_);refine aa (fQ hTO₂ λh₃ hTO₃ hs₃=>?_);refine aa (wpAny_letGo (ae ?_));refine aa (aa (wpAny_onRaise ?_));show wpAny _ _ (Builtin.SmallTypes.nextOf (.ref m)>>=_) _ _ _;refine aa (a8h H (((h2.extBut hs₁.extBut D.i2z).extBut hs₂.extBut D.i12.symm).extBut hs₃.extBut D.TOi2.symm)
   (((t.extBut hs₁.extBut D.l2z).extBut hs₂.extBut D.l2i1).extBut hs₃.extBut D.l2TO) K λh₄ e hs₄ r=>?_)
  obtain⟨F,d,f⟩:=r;have hz₄:IsZip h₄ z TI TO .ellipsis:=hs₄ _ _ D.i2z.symm (hs₃.extBut _ _ D.TOz.symm (hs₂.extBut _ _ D.i1z.symm hz₁));have g:e≠z:=λx=>by subst x;rw[hz₄]at d;cases d;simp at f
  refine du hz₄ (by simp) λh₅ _ hs₅=>G h₅ e (λc o i I n J x=>hs₅.extBut _ _ i (hs₄ _ _ J (hs₃.extBut _ _ I (hs₂.extBut _ _ n (hs₁.extBut _ _ i x))))) ⟨F,hs₅.extBut _ _ g d,f⟩
noncomputable abbrev zH1(k1:Bool)(h:Heap)(l1:Addr):Heap:=h.push (a1B k1 l1)
noncomputable abbrev zH2(k1 k2:Bool)(h:Heap)(l1 l2:Addr):Heap:=(zH1 k1 h l1).push (a1B k2 l2)
noncomputable abbrev zH3(k1 k2:Bool)(h:Heap)(l1 l2:Addr):Heap:=(zH2 k1 k2 h l1 l2).push {cls:=.type "tuple",data:=.seq #[.ref h.objs.size,.ref (zH1 k1 h l1).objs.size]}
noncomputable abbrev zH4(k1 k2:Bool)(h:Heap)(l1 l2:Addr):Heap:=(zH3 k1 k2 h l1 l2).push {cls:=.type "tuple",data:=.seq #[.none,.none]}
noncomputable abbrev zH5(k1 k2:Bool)(h:Heap)(l1 l2:Addr):Heap:=(zH4 k1 k2 h l1 l2).push {cls:=.type "zip",data:=.fields #[.none,.bool false,.bool false,.ref (zH2 k1 k2 h l1 l2).objs.size,.ref (zH3 k1 k2 h l1 l2).objs.size]}
theorem b3y(a b:Addr)(xs ys:Array Value) :
  Meets (Builtin.«zip.__new__» ⟨[.type "zip",.ref a,.ref b],[]⟩) (λ_ R s=>SqAt k1 s.heap a xs/\SqAt k2 s.heap b ys /\
   R (.ok (.ret (.ref (zH4 k1 k2 s.heap a b).objs.size))) {s with heap:=zH5 k1 k2 s.heap a b}) :=
 .of_wp λprog w A R s h=>by
  obtain⟨k,g,d,tk,os⟩:=s;obtain⟨i,j,h⟩:=h;have l:=sub_zip;have c:SqAt k1 (Shared.heap ⟨k,g,d,tk,os⟩) a xs:=i;have f:SqAt k2 (Shared.heap ⟨k.push (a1B k1 a),g,d,tk,os⟩) b ys:=j.at λo e=>ag _ e
  wp_walk using a0y c,a0y f
  exact⟨_,rfl,h⟩
theorem b0K{a b:Addr}{xs ys:Array Value}{Q:Value->Shared->Prop}(e:SqAt k1 s.heap a xs)(f:SqAt k2 s.heap b ys)
  (h:∀h',IsZip h' (s.heap.objs.size+4) (s.heap.objs.size+2) (s.heap.objs.size+3) .none->IsPair h' (s.heap.objs.size+2) (.ref s.heap.objs.size) (.ref (s.heap.objs.size+1)) ->
   IsPair h' (s.heap.objs.size+3) .none .none->ItAt k1 h' s.heap.objs.size a 0->ItAt k2 h' (s.heap.objs.size+1) b 0->h'.objs.size=s.heap.objs.size+5 ->
   (∀c o,s.heap.get? c=some o->h'.get? c=some o)->Q (.ref (s.heap.objs.size+4)) {s with heap:=h'}) :
  wpAny (model prog w) A (call (.type "zip") [.ref a,.ref b]) Q E s:=by
 refine callType_new F.called_zip (by decide) (F.typeCall_zip_2 _ _) (F.newCall_zip_2 _ _) (λg=>F.args_object_init_3 g _ _) F.entry_zip_new
  (b3y (k1:=k1) (k2:=k2) a b xs ys) ⟨e,f,?_⟩
 have i:(zH1 k1 s.heap a).objs.size=s.heap.objs.size+1:=bp ..;have j:(zH2 k1 k2 s.heap a b).objs.size=s.heap.objs.size+2:=by rw[bp,i]
 have k:(zH3 k1 k2 s.heap a b).objs.size=s.heap.objs.size+3:=by rw[bp,j]
 have l:(zH4 k1 k2 s.heap a b).objs.size=s.heap.objs.size+4:=by rw[bp,k]
 have r:(zH5 k1 k2 s.heap a b).objs.size=s.heap.objs.size+5:=by rw[bp,l]
 have d:(zH5 k1 k2 s.heap a b).get? (zH4 k1 k2 s.heap a b).objs.size=some _:=aJ _ rfl;have p:(zH5 k1 k2 s.heap a b).get? (zH3 k1 k2 s.heap a b).objs.size=some _:=ag _ (aJ _ rfl);have n:(zH5 k1 k2 s.heap a b).get? (zH2 k1 k2 s.heap a b).objs.size=some _:=ag _ (ag _ (aJ _ rfl));have m:(zH5 k1 k2 s.heap a b).get? (zH1 k1 s.heap a).objs.size=some (a1B k2 b):=ag _ (ag _ (ag _ (aJ _ rfl)));have q:(zH5 k1 k2 s.heap a b).get? s.heap.objs.size=some (a1B k1 a):=ag _ (ag _ (ag _ (ag _ (aJ _ rfl))));show _/\_;rw[j,k,l]at d;rw[i,j]at n;rw[k]at p;rw[i]at m;rw[l];refine⟨⟨_,d,rfl⟩,h _ d n p ?_ ?_ r λc o x =>
  ag _ (ag _ (ag _ (ag _ (ag _ x))))⟩
 .cases k1<;>exact⟨_,q,rfl,rfl⟩
 .cases k2<;>exact⟨_,m,rfl,rfl⟩
end
def SqK(k:Bool)(K:PySem.W.Frag)(H:Hp)(a:Addr)(xs:List V):Prop:=match k with|true=>SqT K H a xs|false=>SqL K H a xs
theorem Inv.sqk{X:Cx}{pins:List (Addr×Obj)}{σ:St}{H:Hp}{s:Shared}{k:Bool}{a:Addr}{xs:List V}(I:Inv X pins σ H s)(h:SqK k X.K H a xs):∃its:List Value,Vals xs its/\SqAt k s.heap a its.toArray/\xs.length<=sizeLine:=by
 cases k
 .obtain⟨its,r,p,z⟩:=I.list h;exact⟨its,r,p.isList,z⟩
 .obtain⟨its,r,p,z⟩:=I.tuple h;exact⟨its,r,p,z⟩
theorem Inv.sqk_inj{X:Cx}{pins:List (Addr×Obj)}{σ:St}{H:Hp}{s:Shared}{k:Bool}{a:Addr}{xs ys:List V}(I:Inv X pins σ H s)(h:SqK k X.K H a xs)(h':SqK k X.K H a ys):xs=ys:=by
 cases k
 .exact I.list_inj h h'
 .exact I.tuple_inj h h'
noncomputable def Itz(K:PySem.W.Frag)(k1 k2:Bool)(a b:Addr):It :=
 ⟨λi H=>∃xs ys x y,SqK k1 K H a xs/\SqK k2 K H b ys/\xs[i]?=some x/\ys[i]?=some y,
  λi H v H'=>∃p x y,v=.ref p/\H p=none/\H'=upd H p (.tup [x,y])/\(∀xs,SqK k1 K H a xs->xs[i]?=some x)/\∀ys,SqK k2 K H b ys->ys[i]?=some y,
  λi H=>∃xs ys,SqK k1 K H a xs/\SqK k2 K H b ys/\(xs.length<=i∨ys.length<=i)⟩
structure ZTurn(k1 k2:Bool)(z TI TO i1 i2 a b:Addr)(i:Nat)(f0:Value)(h:Heap):Prop where
 zz:IsZip h z TI TO f0
 ti:IsPair h TI (.ref i1) (.ref i2)
 to:∃u v,IsPair h TO u v
 t1:ItAt k1 h i1 a i
 t2:ItAt k2 h i2 b i
structure ZNe(z TI TO i1 i2:Addr):Prop where
 TIz:TI≠z
 TOz:TO≠z
 i1z:i1≠z
 i2z:i2≠z
 TITO:TI≠TO
 TIi1:TI≠i1
 TIi2:TI≠i2
 TOi1:TO≠i1
 TOi2:TO≠i2
 i12:i1≠i2
section
variable {X:Cx}{pins:List (Addr×Obj)}{σ:St}{H:Hp}{s:Shared}
theorem Inv.turnedT{h':Heap}{ch:List Addr}{p:Addr}{o:HO}(I:Inv X pins σ H s)(h:∀b∈ch,a1s X pins H b)(hp:s.heap.objs.size=p)(k:∀b o,b∉ch->s.heap.get? b=some o->h'.get? b=some o)
  (j:ObjOk X.prog X.w (upd H p o) h' p o):Inv X pins σ (upd H p o) {s with heap:=h'}:=by
 have t:H p=none:=I.hok.fresh (Nat.le_of_eq hp);have f:∀b u,H b=some u->b∉ch:=λb u e z=>by rw[(h b z).1]at e;cases e
 have a:∀b u,H b=some u->b≠p:=λb u e z=>by rw[z,t]at e;cases e
 have i:∀b u,s.heap.get? b=some u->b≠p:=λb u e=>by
  rw[<-hp];exact aM (aG e)
 refine I.step (g':=s.gens) (d':=s.drawn) (t':=s.toks) (ch:=ch) (λb g=>?_) (λb o _ _ d e _=>k b o d e) (λb o _ _ d e _=>⟨o.slots,k b o d e⟩) (λb u _ e n=>by rw[A1 (i b u e)];exact n)
  (λb o d e=>⟨o,k b o d e⟩) (λb xs e=>by rw[A1 (a b _ e)];exact e) (λb u v e=>by rw[A1 (a b _ e)];exact e) (λb ps e=>⟨#[],by rw[A1 (a b _ e),e];simp⟩) (λm l=>?_) (λb u e=>?_) I.bare
 .obtain⟨_,h1,_,h3,h4,h5⟩:=h b g;exact⟨h3,h1,h4,h5⟩
 .obtain⟨o,es,ep,ho,r⟩:=l;exact⟨o,es,ep,k _ o (λz=>(h _ z).2.1 rfl) ho,r⟩
 .by_cases g:b=p
  .subst g;rw[A0]at e;cases e;exact j
  .rw[A1 g]at e;refine(I.hok b u e).stay (λc v d q=>k c v ?_ q) (λc q=>by rw[A1 (a c _ q)];exact q) λc xs q=>by rw[A1 (a c _ q)];exact q
   rcases d with z|z
   .rw[z];exact f b u e
   .exact f c _ z
theorem Inv.turnedL{h':Heap}{ch:List Addr}(I:Inv X pins σ H s)(f:∀b∈ch,a1s X pins H b)(k:∀b o,b∉ch->s.heap.get? b=some o->h'.get? b=some o):Inv X pins σ H {s with heap:=h'}:=by
 have d:∀b u,H b=some u->b∉ch:=λb u e z=>by rw[(f b z).1]at e;cases e
 refine I.step (g':=s.gens) (d':=s.drawn) (t':=s.toks) (ch:=ch) (λb g=>?_) (λb o _ _ a e _=>k b o a e) (λb o _ _ a e _=>⟨o.slots,k b o a e⟩) (λb u _ e n=>n)
  (λb o a e=>⟨o,k b o a e⟩) (λb xs e=>e) (λb u v e=>e) (λb ps e=>⟨#[],by rw[e];simp⟩) (λm h=>?_) (λb u e=>?_) I.bare
 .obtain⟨_,h1,_,h3,h4,h5⟩:=f b g;exact⟨h3,h1,h4,h5⟩
 .obtain⟨o,es,ep,ho,r⟩:=h;exact⟨o,es,ep,k _ o (λz=>(f _ z).2.1 rfl) ho,r⟩
 .refine(I.hok b u e).stay (λc v a q=>k c v ?_ q) (λc q=>q) λc xs q=>q;rcases a with z|z
  .rw[z];exact d b u e
  .exact d c _ z
theorem Inv.apart{k:Bool}{a:Addr}{xs:List V}{b:Addr}{o:Obj}(I:Inv X pins σ H s)(hs:SqK k X.K H a xs)(h:a1s X pins H b):a≠b:=by
 rintro rfl;have c:∀{u:HO},Rd H a u->False:=λr=>by
  rcases r with r|⟨o,r⟩<;>rw[h.1]at r<;>cases r
 have d:∀{f:Obj},X.K.lookup a=some f->False:=λe=>by
  have g:=I.mod.kin a _ e;rcases h.2.2.2.1 with z|z
  .exact I.ok.noex _ _ g z
  .exact absurd (aE (aG (I.ok.bs _ _ g).1) z) (bW _)
 cases k
 .rcases hs with r|⟨f,_,_,e,_⟩
  .exact c r
  .exact d e
 .rcases hs with r|⟨f,_,_,e,_⟩
  .exact c r
  .exact d e
end
theorem b0T{P:Program}{w:World}{K:PySem.W.Frag}{es:List Expr}{kt:Nat}{tp:Pos}{k1 k2:Bool}{a b z TI TO j l:Addr}(D:ZNe z TI TO j l) :
  Turn P w K (.Tuple es kt tp) (Itz K k1 k2 a b) [z,TI,TO,j,l] z (λi h=>ZTurn k1 k2 z TI TO j l a b i .none h) where
 mem:=by simp
 obj:=λi h st c f=>by
  simp only[aI,bN,df]at f;rcases f with rfl|rfl|rfl|rfl|rfl
  .exact⟨_,st.zz,λv z=>by cases z⟩
  .exact⟨_,st.ti,λv z=>by cases z⟩
  .obtain⟨u,v,q⟩:=st.to;exact⟨_,q,λv z=>by cases z⟩
  .obtain⟨o,e,d⟩:=st.t1.get;exact⟨o,e,λv z=>by rw[d]at z;cases z⟩
  .obtain⟨o,e,d⟩:=st.t2.get;exact⟨o,e,λv z=>by rw[d]at z;cases z⟩
 keep:=λi h h' st k=>⟨k z (by simp) _ st.zz,k TI (by simp) _ st.ti,let ⟨u,v,q⟩:=st.to;⟨u,v,k TO (by simp) _ q⟩,st.t1.at λo e=>k j (by simp) o e,st.t2.at λo e=>k l (by simp) o e⟩
 item:=by
  intro X N hw M f i pins s σ H E I t st O;subst N hw M;obtain⟨xs,ys,x,y,n,p,hx,hy⟩:=O;obtain⟨us,Y,V,zu⟩:=I.sqk n;obtain⟨ws,C,W,zw⟩:=I.sqk p;obtain⟨u,hu,Z⟩:=Y.get hx;obtain⟨v,hv,a0⟩:=C.get hy;have g:∀c∈[z,TI,TO,j,l],a≠c/\b≠c:=λc f=>⟨I.apart (o:=default) n (t c f),I.apart (o:=default) p (t c f)⟩;have L:ZipApart z TI TO j l a b:=⟨D.TIz,D.TOz,D.i1z,D.i2z,D.TITO,D.TIi1,D.TIi2,D.TOi1,D.TOi2,D.i12,(g z (by simp)).1,(g TO (by simp)).1,(g j (by simp)).1,(g l (by simp)).1,(g z (by simp)).2,(g TO (by simp)).2,(g j (by simp)).2,(g l (by simp)).2⟩;obtain⟨ua,ub,r⟩:=st.to;have G:s.TypeIs (.ref z) "zip":=⟨_,st.zz,rfl⟩;unfold pyNext;refine aa (dV (bE (name:=Str.ofString "__next__") G fR
   (bH fR G F.entry_zip_next
    (b0J L st.zz st.ti r st.t1 st.t2 V W (x:=u) (y:=v) (by simpa using hu) (by simpa using hv) λh' a1 a2 a3 a4 a5 a6 a7=>ae ?_) (F.args_zip_next_1 _))))
  refine⟨_,rfl,?_⟩;refine wpAny_letOwnedTupleGo_zip (s:={s with heap:=h'}) a1 λh2 S m=>?_;have ne:∀c∈[z,TI,TO,j,l],c≠s.heap.objs.size:=λc f e=>by
   have:∃o,s.heap.get? c=some o:=by
    simp only[aI,bN,df]at f;rcases f with rfl|rfl|rfl|rfl|rfl
    .exact⟨_,st.zz⟩
    .exact⟨_,st.ti⟩
    .exact⟨_,r⟩
    .obtain⟨o,e,d⟩:=st.t1.get;exact⟨o,e⟩
    .obtain⟨o,e,d⟩:=st.t2.get;exact⟨o,e⟩
   obtain⟨o,q⟩:=this;exact absurd (aG q) (by rw[e];exact bW _)
  have B:H s.heap.objs.size=none:=I.hok.fresh (aq _);have U:IsPair h2 s.heap.objs.size u v:=m.extBut _ _ (ne z (by simp)).symm a5;have kk:∀c o,c∉[z,TI,TO,j,l]->s.heap.get? c=some o->h2.get? c=some o:=λc o f e=>by
   simp only[aI,bN,df,not_or]at f;exact m.extBut _ _ f.1 (a7 c o f.1 f.2.2.1 f.2.2.2.1 f.2.2.2.2 e)
  have I2:Inv X pins σ (upd H s.heap.objs.size (.tup [x,y])) {s with heap:=h2} :=
   I.turnedT (ch:=[z,TI,TO,j,l]) t rfl kk ⟨by show 2<=sizeLine;decide,[u,v],.cons Z (.cons a0 .nil),⟨_,U,rfl,0,rfl⟩⟩
  refine⟨.ref s.heap.objs.size,_,I2,rfl,⟨_,x,y,rfl,B,rfl,λzs R=>?_,λzs R=>?_⟩,⟨S,m.extBut _ _ D.TIz (a7 _ _ D.TIz D.TITO D.TIi1 D.TIi2 st.ti),⟨u,v,m.extBut _ _ D.TOz a2⟩,a3.extBut m.extBut D.i1z,a4.extBut m.extBut D.i2z⟩,λc f=>?_⟩
  .rw[I.sqk_inj R n];exact hx
  .rw[I.sqk_inj R p];exact hy
  .rw[A1 (ne c f)];exact(t c f).1
 done:=by
  intro X N hw M f i pins s σ H E I t st O;subst N hw M;obtain⟨xs,ys,n,p,J⟩:=O;obtain⟨us,Y,V,zu⟩:=I.sqk n;obtain⟨ws,C,W,zw⟩:=I.sqk p;have l1:=Y.length;have l2:=C.length;have g:∀c∈[z,TI,TO,j,l],a≠c/\b≠c:=λc f=>⟨I.apart (o:=default) n (t c f),I.apart (o:=default) p (t c f)⟩;have L:ZipApart z TI TO j l a b:=⟨D.TIz,D.TOz,D.i1z,D.i2z,D.TITO,D.TIi1,D.TIi2,D.TOi1,D.TOi2,D.i12,(g z (by simp)).1,(g TO (by simp)).1,(g j (by simp)).1,(g l (by simp)).1,(g z (by simp)).2,(g TO (by simp)).2,(g j (by simp)).2,(g l (by simp)).2⟩;obtain⟨ua,ub,r⟩:=st.to;have G:s.TypeIs (.ref z) "zip":=⟨_,st.zz,rfl⟩;unfold pyNext;refine aa (dV (bE (name:=Str.ofString "__next__") G fR
   (bH fR G F.entry_zip_next (b3A (I.ok.hd f) L st.zz st.ti r st.t1 st.t2 V W ?_ λh' e hk he=>?_) (F.args_zip_next_1 _))))
  .rcases J with q|q
   .exact .inl (by simp;omega)
   .exact .inr (by simp;omega)
  .obtain⟨o,ho,f⟩:=he;refine aa (fF (T:="StopIteration") (b:=true) ⟨o,ho,f⟩ isSubtype_stop ?_);refine ae ⟨rfl,I.turnedL (ch:=[z,TI,TO,j,l]) t λc o f e=>?_⟩;simp only[aI,bN,df,not_or]at f;exact hk c o f.1 f.2.2.1 f.2.2.2.1 f.2.2.2.2 e
 self:=λA i s Q E st h=>wpAny_pyIter_zip st.zz h
theorem nne{a b:Nat}(h:a≠b):@Ne Addr a b:=h
theorem zne(n:Nat):ZNe (n+4) (n+2) (n+3) n (n+1) :=
 ⟨nne (by omega),nne (by omega),nne (by omega),nne (by omega),nne (by omega),nne (by omega),nne (by omega),nne (by omega),nne (by omega),nne (by omega)⟩
def b7w(K:PySem.W.Frag)(ta:TA):TI:=λσ H R=>ta σ H λvs H1=>∃k1 k2 a b,vs=[.ref a,.ref b]/\(∃xs,SqK k1 K H1 a xs)/\(∃ys,SqK k2 K H1 b ys)/\R (Itz K k1 k2 a b) H1
section
variable {X:Cx}
theorem b6A{es:List Expr}{u:Nat}{z:Pos}{a b:Expr}{ta:TA}{p pos:Pos}(m:Gl X "zip")(n:X.mg "zip"=none)(l:PA X [a,b] ta)(i:bootBuiltins "zip"=some (.type "zip"))
  (hs:starEach [a,b] X.env=[(false,eval a X.env),(false,eval b X.env)]:=by rfl) (g:starEach [b] X.env=[(false,eval b X.env)]:=by rfl) :
  PI X (.Tuple es u z) (.Call (.Name "zip" p) [a,b] [] pos) (b7w X.K ta):=by
 intro pins s σ H R I h;refine Call_ (a2J I m n i (eG (thn (l pos pins s σ H _ I h) λA s1 ⟨vs,H1,d,x,q1⟩=>?_) (by rw[hs,g]) (by rw[g];rfl)));obtain⟨k1,k2,G,J,e,⟨xs,o⟩,⟨ys,t⟩,q⟩:=q1;subst e;cases x with
 |cons r rr =>
  cases rr with
  |cons r' rr =>
   cases rr;cases r;cases r';obtain⟨A,K,v,N⟩:=d.sqk o;obtain⟨L,y,w,O⟩:=d.sqk t;refine b0K v w λh' k B C D E M F=>?_;refine wpAny_pyIter_zip (s:={s1 with heap:=h'}) k ?_;refine⟨s1.heap.objs.size+4,[s1.heap.objs.size+4,s1.heap.objs.size+2,s1.heap.objs.size+3,s1.heap.objs.size,s1.heap.objs.size+1],_,_,H1,rfl,d.kept (t':=s1.toks) F,b0T (zne _),
    ⟨k,B,⟨_,_,C⟩,D,E⟩,λc j=>?_,q⟩
   have f:s1.heap.objs.size<=c:=by
    simp only[aI,bN,df]at j;rcases j with rfl|rfl|rfl|rfl|rfl
    .exact cj _ _
    .exact cj _ _
    .exact cj _ _
    .exact aq _
    .exact cj _ _
   exact d.fpOk f (d.hok.fresh f)
end
theorem a5v{prog:Program}{w:World}{A:Around}{k:Bool}{I l:Addr}{items:Array Value}(b:A.handled=none)(a:l≠I) :
  Walks prog w A I [I,l] [I] items.size (λi v=>items[i]?=some v) (λi h=>ItAt k h I l i/\SqAt k h l items):=by
 cases k
 .exact Walks.list b I l a items
 .exact Walks.tuple b I l a items
noncomputable def trV:V->Bool
 |.bl b=>b
 |.int i=>i != 0
 |.non=>false
 |_=>true
noncomputable def b3b:V->Bool
 |.bl _=>true
 |.int _=>true
 |.non=>true
 |_=>false
theorem a5C{prog:Program}{w:World}{A:Around}{E:Value->Shared->Prop}{s:Shared}{x:V}{v:Value}{Q:Bool->Shared->Prop}(r:RelV x v)(f:b3b x=true)(h:Q (trV x) s):wpAny (model prog w) A (truthy v) Q E s:=by
 cases x with
 |non=>cases r;exact truthy_none h
 |bl b=>cases r;exact di h
 |int i=>obtain⟨t,rfl⟩:=r;exact PySem.P.truthy_int h
 |_=>cases f
theorem a9J{α:Type}(xs:List α)(p:α->Bool)(d:α):(List.range xs.length).all (λi=>p (xs.getD i d))=xs.all p:=by
 rw[cS,bI,bI];constructor
 .intro h x hx;obtain⟨i,hi,rfl⟩:=bu.mp hx;have:=h i (aR.mpr hi);simpa[ao,hi]using this
 .intro h i hi;have a:=aR.mp hi;simpa[ao,a]using h xs[i] (cM a)
theorem a8x(xs:List Int):∀n,n<=xs.length->preSum (λi=>xs.getD i 0) n=(xs.take n).sum
 |0,_=>by simp[preSum]
 |n+1,h=>by
  have this:xs[n]?=some xs[n]:=ai (by omega);have e:xs.take (n+1)=xs.take n++[xs[n]]:=by rw[bB,this];rfl
  rw[preSum,a8x xs n (by omega),e,List.sum_append];simp[ao,this]
section
variable {X:Cx}
abbrev RL:=List V->Hp->VK->Prop
def b6r(K:PySem.W.Frag):RL:=λxs H Q=>∃(k:Bool) (p:Addr) (ys:List V),xs=[.ref p]/\SqK k K H p ys/\ys.all b3b=true/\Q (.bl (ys.all trV)) H
def b6n(K:PySem.W.Frag):RL:=λxs H Q=>∃(k:Bool) (p:Addr) (ns:List Int),xs=[.ref p]/\SqK k K H p (ns.map V.int)/\Q (.int ns.sum) H
theorem b2S{k:Bool}{l:Addr}{items:Array Value}{s:Shared}(h:SqAt k s.heap l items):ItAt k (s.heap.push (a1B k l)) s.heap.objs.size l 0/\SqAt k (s.heap.push (a1B k l)) l items:=by
 refine⟨?_,h.at λo e=>ag _ e⟩;cases k<;>exact⟨_,aJ _ rfl,rfl,rfl⟩
theorem a6o{k:Bool}{l:Addr}{items:Array Value}{s:Shared}(h:SqAt k s.heap l items):l≠s.heap.objs.size:=by
 obtain⟨o,e⟩:=h.get;exact aM (aG e)
theorem a6p{s:Shared}{h':Heap}{c:Obj}(a:∀b o,b∉[s.heap.objs.size]->(s.heap.push c).get? b=some o->h'.get? b=some o):∀b o,s.heap.get? b=some o->h'.get? b=some o:=λb o e =>
 a b o (λz=>by have:=aG e;rw[aB.mp z]at this;exact bW _ this) (ag _ e)
theorem b3o(m:X.calm=true):E2 X (.builtin "all") (b6r X.K):=by
 intro pins s σ H xs y Q I w h;obtain⟨k,p,ys,rfl,hs,n,q⟩:=h;obtain⟨u,rfl,t⟩:=w.one;cases t;obtain⟨its,c,d,x⟩:=I.sqk hs;have o:X.A.in1.handled=none:=I.ok.hd m;refine call_all_walk (a0y d ?_);refine⟨s.heap.objs.size,_,_,_,_,_,λi=>trV (ys.getD i .non),rfl,a5v (k:=k) (l:=p) (items:=its.toArray) o (a6o d),b2S d,?_,λh' tk r=>?_⟩
 .intro i v s' Q' E' hv hq;have b:its[i]?=some v:=by simpa using hv
  obtain⟨hi,_⟩:=aC.mp b;have a:i<ys.length:=by rw[c.length];exact hi
  have g:ys[i]?=some ys[i]:=ai a;obtain⟨z,f,j⟩:=c.get g;rw[b]at f;cases f;refine a5C j (bI.mp n _ (cM a)) ?_;simpa[ao,g]using hq
 .have e:(List.range its.toArray.size).all (λi=>trV (ys.getD i .non))=ys.all trV:=by
   rw[aD,<-c.length];exact a9J ys trV .non
  rw[e];exact⟨.bl _,H,I.kept (a6p r),rfl,q⟩
theorem b3l(w:X.calm=true):E2 X (.builtin "sum") (b6n X.K):=by
 intro pins s σ H xs D Q I B h;obtain⟨k,p,a,rfl,hs,q⟩:=h;obtain⟨u,rfl,A⟩:=B.one;cases A;obtain⟨its,n,d,C⟩:=I.sqk hs;have m:=n.length;rw[aj]at m;have x:X.A.in1.handled=none:=I.ok.hd w;refine call_sum_walkG (a0y d ?_);refine⟨s.heap.objs.size,_,_,_,_,_,λi=>a.getD i 0,rfl,a5v (k:=k) (l:=p) (items:=its.toArray) x (a6o d),b2S d,λb j=>?_,?_,λh' tk t' y=>?_⟩
 .rw[bp];obtain⟨o,e⟩:=d.get;have f:=aG e;simp only[aI,bN,df]at j;rcases j with rfl|rfl
  .exact cf _
  .exact bX f
 .intro i v hv;have c:its[i]?=some v:=by simpa using hv
  obtain⟨hi,_⟩:=aC.mp c;have z:(a.map V.int)[i]?=some (.int a[i]):=by rw[aW,ai (by omega)];rfl
  obtain⟨E,g,t,r⟩:=n.get z;rw[c]at g;cases g;exact⟨t,by rw[r];show _=Value.int (a.getD i 0) t;rw[ao,ai (by omega)];rfl⟩
 .have e:preSum (λi=>a.getD i 0) its.toArray.size=a.sum:=by
   rw[aD,<-m,a8x a _ (aq _),bJ]
  rw[e];exact⟨.int a.sum,H,I.kept (a6p y),⟨t',rfl⟩,q⟩
def b6q(K:PySem.W.Frag):RL:=λxs H Q=>∃x n t b,xs=[x,.ty n]/\TyOf K H x t/\PySem.W.kitOne K t (.type n)=some b/\Q (.bl b) H
theorem b3m:E2 X (.builtin "isinstance") (b6q X.K):=by
 intro pins s σ H xs f Q I d h;obtain⟨x,n,t,b,rfl,ty,e,q⟩:=h;obtain⟨u,v,rfl,c,a⟩:=d.two;cases a;exact b0i I c ty e λtk=>⟨.bl b,H,I.tok tk,rfl,q⟩
end
theorem b3s:bootBuiltins "len"=some (.builtin "len"):=boot_len
theorem b7G:bootBuiltins "zip"=some (.type "zip"):=by kernel_rfl
theorem b7J:bootBuiltins "all"=some (.builtin "all"):=by kernel_rfl
theorem b7H:bootBuiltins "sum"=some (.builtin "sum"):=by kernel_rfl
theorem b7K:bootBuiltins "abs"=some (.builtin "abs"):=by kernel_rfl
theorem a0k:bootBuiltins "isinstance"=some (.builtin "isinstance"):=by kernel_rfl
theorem a1p:bootBuiltins "sorted"=some (.builtin "sorted"):=by kernel_rfl
theorem a0T:bootBuiltins "tuple"=some (.type "tuple"):=by kernel_rfl
theorem b5o:bootBuiltins "list"=some (.type "list"):=by kernel_rfl
theorem b3t:bootBuiltins "int"=some (.type "int"):=by kernel_rfl
theorem b5p:bootBuiltins "bool"=some (.type "bool"):=by kernel_rfl
theorem b7I:bootBuiltins "set"=some (.type "set"):=by kernel_rfl
theorem a2c{src:List (Option Nat)}{g:TG}{f:TT}{te:TE}{σ:St}{Q:VK}{J:It}{H1:Hp}(n:Nat)(a:Nat->List V->Hp->Prop)(h0:a 0 [] H1)
  (hs:∀i ys H,i<n->a i ys H->J.go i H/\ys.length<sizeLine/\∀x H',J.yld i H x H'->g x (B5 src σ) H' λσ2 H2=>Sub (B5 src σ) σ2/\f σ2 H2 λb d=>if b=true then te σ2 d λv h=>a (i+1) (ys++[v]) h else a (i+1) ys d)
  (hd:∀ys H,a n ys H->J.stop n H/\ys.length<=sizeLine/\∀p,H p=none->Q (.ref p) (upd H p (.lst ys))):J9 src g f te σ Q J H1:=by
 refine⟨λi m ys H=>m=n-i/\i<=n/\a i ys H,⟨n,by omega,bq _,h0⟩,?_⟩;rintro i m ys H ⟨rfl,hi,p⟩;by_cases c:i<n
 .obtain⟨q1,q2,q3⟩:=hs i ys H c p;exact .inr ⟨q1,q2,a (i+1),λzs H' j=>⟨n-(i+1),by omega,rfl,c,j⟩,q3⟩
 .have e:i=n:=by omega
  subst e;exact .inl (hd ys H p)
theorem a7F{src:List (Option Nat)}{g:TG}{f:TT}{te:TE}{σ:St}{Q:VK}{lo:Int}{n:Nat}{H1:Hp}(j:n<=sizeLine)(a:Nat->List V->Hp->Prop)(h0:a 0 [] H1)
  (d:∀i ys H,a i ys H->ys.length<=i)
  (hs:∀i ys H,i<n->a i ys H->g (.int (lo+i)) (B5 src σ) H λσ2 H2=>Sub (B5 src σ) σ2/\f σ2 H2 λb c=>if b=true then te σ2 c λv h=>a (i+1) (ys++[v]) h else a (i+1) ys c)
  (hd:∀ys H,a n ys H->∀p,H p=none->Q (.ref p) (upd H p (.lst ys))):J9 src g f te σ Q (Itr lo n) H1 :=
 a2c n a h0 (λi ys H hi p=>⟨hi,by have:=d i ys H p;omega,λx H' y=>by obtain⟨e,y⟩:=y;subst e y;exact hs i ys _ hi p⟩)
  λys H p=>⟨aq _,bf (d n ys H p) j,hd ys H p⟩
theorem a1n{K:PySem.W.Frag}{src:List (Option Nat)}{g:TG}{h:TT}{te:TE}{σ:St}{Q:VK}{a:Addr}{xs:List V}{H1:Hp}(l:xs.length<=sizeLine)(c:Nat->List V->Hp->Prop)(h0:c 0 [] H1)
  (f:∀i ys H,i<=xs.length->c i ys H->SqL K H a xs/\ys.length<=i)
  (hs:∀i x ys H,xs[i]?=some x->c i ys H->g x (B5 src σ) H λσ2 H2=>Sub (B5 src σ) σ2/\h σ2 H2 λb d=>if b=true then te σ2 d λv j=>c (i+1) (ys++[v]) j else c (i+1) ys d)
  (hd:∀ys H,c xs.length ys H->∀p,H p=none->Q (.ref p) (upd H p (.lst ys))):J9 src g h te σ Q (Itl K a) H1 :=
 a2c xs.length c h0 (λi ys H hi p=>by
   obtain⟨q1,k⟩:=f i ys H (cH hi) p;refine⟨⟨xs,xs[i],q1,ai hi⟩,by omega,λx H' y=>?_⟩;obtain⟨e,y⟩:=y;subst e;exact hs i x ys _ (y xs q1) p)
  λys H p=>by
   obtain⟨q1,k⟩:=f _ ys H (aq _) p;exact⟨⟨xs,q1,aq _⟩,by omega,hd ys H p⟩
theorem a0P{K:PySem.W.Frag}{src:List (Option Nat)}{g:TG}{h:TT}{te:TE}{σ:St}{Q:VK}{a:Addr}{xs:List V}{H1:Hp}(l:xs.length<=sizeLine)(c:Nat->List V->Hp->Prop)(h0:c 0 [] H1)
  (f:∀i ys H,i<=xs.length->c i ys H->SqT K H a xs/\ys.length<=i)
  (hs:∀i x ys H,xs[i]?=some x->c i ys H->g x (B5 src σ) H λσ2 H2=>Sub (B5 src σ) σ2/\h σ2 H2 λb d=>if b=true then te σ2 d λv j=>c (i+1) (ys++[v]) j else c (i+1) ys d)
  (hd:∀ys H,c xs.length ys H->∀p,H p=none->Q (.ref p) (upd H p (.lst ys))):J9 src g h te σ Q (Itt K a) H1 :=
 a2c xs.length c h0 (λi ys H hi p=>by
   obtain⟨q1,k⟩:=f i ys H (cH hi) p;refine⟨⟨xs,xs[i],q1,ai hi⟩,by omega,λx H' y=>?_⟩;obtain⟨e,y⟩:=y;subst e;exact hs i x ys _ (y xs q1) p)
  λys H p=>by
   obtain⟨q1,k⟩:=f _ ys H (aq _) p;exact⟨⟨xs,q1,aq _⟩,by omega,hd ys H p⟩
theorem X4{K:PySem.W.Frag}{src:List (Option Nat)}{g:TG}{l:TT}{te:TE}{σ:St}{Q:VK}{k1 k2:Bool}{a b:Addr}{xs zs:List V}{H1:Hp}(A:xs.length<=sizeLine)(c:Nat->List V->Hp->Prop)(h0:c 0 [] H1)
  (k:∀i ys H,i<=xs.length->i<=zs.length->c i ys H->SqK k1 K H a xs/\SqK k2 K H b zs/\ys.length<=i)
  (hs:∀i x z ys H p,xs[i]?=some x->zs[i]?=some z->c i ys H->H p=none->g (.ref p) (B5 src σ) (upd H p (.tup [x,z])) λσ2 H2=>Sub (B5 src σ) σ2/\l σ2 H2 λb j=>if b=true then te σ2 j λv m=>c (i+1) (ys++[v]) m else c (i+1) ys j)
  (hd:∀ys H,c (min xs.length zs.length) ys H->∀p,H p=none->Q (.ref p) (upd H p (.lst ys))):J9 src g l te σ Q (Itz K k1 k2 a b) H1 :=
 a2c (min xs.length zs.length) c h0 (λi ys H hi p=>by
   have f:i<xs.length:=by omega
   have h:i<zs.length:=by omega
   obtain⟨q1,d,r⟩:=k i ys H (by omega) (by omega) p;refine⟨⟨xs,zs,xs[i],zs[i],q1,d,ai f,ai h⟩,by omega,λx H' y=>?_⟩;obtain⟨q,s,w,e,n,o,t,u⟩:=y;subst e o;exact hs i s w ys _ q (t xs q1) (u zs d) p n)
  λys H p=>by
   obtain⟨q1,d,r⟩:=k _ ys H (by omega) (by omega) p;exact⟨⟨xs,zs,q1,d,by omega⟩,by omega,hd ys H p⟩
theorem b5g{K:PySem.W.Frag}{k1 k2:Bool}{a b:Addr}{xs zs:List V}{g:TG}{tb:TS}{D:Ends}{σ:St}{H:Hp}(c:Nat->St->Hp->Prop)(h0:c 0 σ H)
  (n:∀i σ H,i<=xs.length->i<=zs.length->c i σ H->SqK k1 K H a xs/\SqK k2 K H b zs)
  (hs:∀i x z σ H p,xs[i]?=some x->zs[i]?=some z->c i σ H->H p=none->g (.ref p) σ (upd H p (.tup [x,z])) λσ2 H2=>tb {D with nx:=c (i+1),ct:=c (i+1),bk:=D.nx} σ2 H2) (hd:∀σ H,c (min xs.length zs.length) σ H->D.nx σ H) :
  ∃W:Nat->Nat->St->Hp->Prop,(∃m,W 0 m σ H)/\∀i m σ H,W i m σ H ->
   ((Itz K k1 k2 a b).stop i H/\D.nx σ H)∨((Itz K k1 k2 a b).go i H/\∃N:St->Hp->Prop,(∀σ' H',N σ' H'->∃j,j<m/\W (i+1) j σ' H')/\∀x H',(Itz K k1 k2 a b).yld i H x H'->g x σ H' λσ2 H2=>tb {D with nx:=N,ct:=N,bk:=D.nx} σ2 H2):=by
 refine⟨λi m σ H=>m=min xs.length zs.length-i/\i<=min xs.length zs.length/\c i σ H,⟨_,rfl,bq _,h0⟩,?_⟩;rintro i m σ H ⟨rfl,hi,p⟩;obtain⟨q1,h⟩:=n i σ H (by omega) (by omega) p;by_cases f:i<min xs.length zs.length
 .have hi1:i<xs.length:=by omega
  have d:i<zs.length:=by omega
  refine .inr ⟨⟨xs,zs,xs[i],zs[i],q1,h,ai hi1,ai d⟩,c (i+1),λσ' H' o=>⟨_,by omega,rfl,f,o⟩,λx H' y=>?_⟩;obtain⟨q,r,u,e,k,l,s,t⟩:=y;subst e l;exact hs i r u σ _ q (s xs q1) (t zs h) p k
 .have e:i=min xs.length zs.length:=by omega
  subst e;exact .inl ⟨⟨xs,zs,q1,h,by omega⟩,hd σ H p⟩
structure Ok(P:Program)(w:World)(K:PySem.W.Frag)(mg:Str->Option Value)(base:Heap)(x:Str)(k:Nat)(ps:List Str)(sp:Sp):Prop where
 ex:∃f fd,mg x=some (.ref f)/\PySem.W.keepIn K (.ref f)=true/\Binds K fd ps []/\FnOk P w K mg base CX0 k f fd ps sp
structure FunAt(K:PySem.W.Frag)(mg:Str->Option Value)(x:Str)(st:Stmt)(ps:List Str):Prop where
 ex:∃f fd,mg x=some (.ref f)/\Fun K x x st f fd/\Binds K fd ps []
section
variable {P:Program}{w:World}{K:PySem.W.Frag}{mg:Str->Option Value}{base:Heap}
theorem Ok.imp{x:Str}{k:Nat}{ps:List Str}{sp sp':Sp}(O:Ok P w K mg base x k ps sp)(h:∀vs H Q E,sp' vs H Q E->sp vs H Q E):Ok P w K mg base x k ps sp':=by
 obtain⟨f,fd,h1,h2,a,b⟩:=O.ex;exact⟨f,fd,h1,h2,a,b.imp h⟩
theorem FunAt.ok{x:Str}{st:Stmt}{N ps:List Str}{k:Nat}{sp:Sp}(F:FunAt K mg x st ps)(S:FnScope N ps (A2 st))(c:∀vs H Q E,sp vs H Q E->vs.length=ps.length)
  (b:∀(a:Value) (f:Addr) (A:Around) (outer:List Env) (s:Shared) (H:Hp) (vs:List V) (Q:VK) (E:XK),Room k (A.deeper (envOfC x (A2 st) s.heap.objs.size f a))->sp vs H Q E ->
   ∃t,PSs (K1 CX0 P w K mg base N x (A2 st) f a A outer s H E).nox (E1 st) t/\t {nx:=λ_ H'=>Q .non H',rt:=Q} (start N vs) H):Ok P w K mg base x (k+1) ps sp:=by
 obtain⟨f,fd,h1,h2,d⟩:=F.ex;exact⟨f,fd,h1,h2.kp,d,h2.ok S c λa=>b a f⟩
end
section
variable {X:Cx}{k:Nat}{ps:List Str}{sp:Sp}{x:Str}{p pos:Pos}{e:Expr}{es:List Expr}{t:TA}
theorem b2a(O:Ok X.prog X.w X.K X.mg X.base x k ps sp)(j:Room k X.A)(i:Gl X x)(g:PA X (e::es) t)(a:(x==("__debug__" : Str))=false:=by decide)
  (h:starEach (e::es) X.env=(false,eval e X.env)::starEach es X.env:=by rfl) (b:(backTo pos (starEach es X.env)).any (·.1)=false:=by rfl):PE X (.Call (.Name x p) (e::es) [] pos) (a8e sp [] E0 t):=by
 obtain⟨f,fd,h1,h2,c,d⟩:=O.ex;exact a8B d j i h1 h2 c .nil a8C g a h b
end
inductive EqV(K:PySem.W.Frag)(H:Hp):Nat->V->V->Bool->Prop
 |flat {n:Nat}{x y:V}(fx:a6w x=true) (fy:a6w y=true):EqV K H n x y (eqV x y)
 |tup {n:Nat}{a b:Addr}{xs ys:List V}(e:Nat->Bool) (ha:SqT K H a xs) (hb:SqT K H b ys) (he:∀j x y,xs[j]?=some x->ys[j]?=some y->EqV K H n x y (e j)) :
   EqV K H (n+1) (.ref a) (.ref b) ((List.range (min xs.length ys.length)).all e && xs.length==ys.length)
 |lst {n:Nat}{a b:Addr}{xs ys:List V}(e:Nat->Bool) (ha:SqL K H a xs) (hb:SqL K H b ys) (he:∀j x y,xs[j]?=some x->ys[j]?=some y->EqV K H n x y (e j)) :
   EqV K H (n+1) (.ref a) (.ref b) ((List.range (min xs.length ys.length)).all e && xs.length==ys.length)
theorem a6z:∀{x:V},a6w x=true->eqV x x=true
 |.non,_=>rfl
 |.bl b,_=>eI b
 |.int i,_=>eI i
 |.str y,_=>eI y
 |.byt _,h=>by cases h
 |.flt _,h=>by cases h
 |.ref _,h=>by cases h
 |.ty _,h=>by cases h
section
variable {X:Cx}{pins:List (Addr×Obj)}{σ:St}{H:Hp}{s:Shared}
theorem EqV.same{n:Nat}{x y:V}{b:Bool}(I:Inv X pins σ H s)(h:EqV X.K H n x y b):x=y->b=true:=by
 induction h with
 |flat fx fy=>rintro rfl;exact a6z fx
 |tup e c d g f =>
  intro z;cases z;have q:=I.tuple_inj c d;subst q;simp only[Nat.min_self,aQ,eI,and_true,bI,aR];intro j a;exact f j _ _ (ai a) (ai a) rfl
 |lst e c d g f =>
  intro z;cases z;have q:=I.list_inj c d;subst q;simp only[Nat.min_self,aQ,eI,and_true,bI,aR];intro j a;exact f j _ _ (ai a) (ai a) rfl
theorem D7{xs:List V}{us:List Value}{j:Nat}{u:Value}(r:Vals xs us)(h:us[j]?=some u):∃x,xs[j]?=some x/\RelV x u:=by
 obtain⟨c,_⟩:=aC.mp h;have a:j<xs.length:=by rw[r.length];exact c
 have b:xs[j]?=some xs[j]:=ai a;obtain⟨d,e,q⟩:=r.get b;rw[h]at e;cases e;exact⟨_,b,q⟩
theorem EqV.at{n:Nat}{x y:V}{b:Bool}(I:Inv X pins σ H s)(h:EqV X.K H n x y b):∀{A:Around}{u v:Value},A.units+n<cLine->RelV x u->RelV y v->SeqAt.EqAt A s u v b:=by
 induction h with
 |flat fx fy=>intro A u v _ l m;exact b7A l m fx fy
 |@tup n a b xs ys e g i q r =>
  intro A u v B l m;cases l;cases m;by_cases c:a=b
  .have:=(EqV.tup e g i q).same I (by rw[c]);rw[this,c];exact SeqAt.EqAt.same _
  .obtain⟨us,r1,p1,_⟩:=I.tuple g;obtain⟨d,k,p2,_⟩:=I.tuple i;rw[r1.length,k.length];refine SeqAt.EqAt.of_refs c ?_;have:=SeqAt.RcAt.tuples (A:=A) (s:=s) (e:=e) (show s.heap.IsTuple a us.toArray from p1) (show s.heap.IsTuple b d.toArray from p2) (by omega) (λj h1 h2=>?_)
   .simpa using this
   .have h1':us[j]?=some us.toArray[j]:=by simp at h1⊢
    have f:d[j]?=some d.toArray[j]:=by simp at h2⊢
    obtain⟨x,ex,t⟩:=D7 r1 h1';obtain⟨y,p,w⟩:=D7 k f;exact r j x y ex p (by show A.units+1+n<cLine;omega) t w
 |@lst n a b xs ys e g i q r =>
  intro A u v B l m;cases l;cases m;by_cases c:a=b
  .have:=(EqV.lst e g i q).same I (by rw[c]);rw[this,c];exact SeqAt.EqAt.same _
  .obtain⟨us,r1,p1,_⟩:=I.list g;obtain⟨d,k,p2,_⟩:=I.list i;rw[r1.length,k.length];refine SeqAt.EqAt.of_refs c ?_;by_cases o:us.length=d.length
   .have:=SeqAt.RcAt.lists (A:=A) (s:=s) (e:=e) p1.isList p2.isList (by simpa using o) (by omega) (λj h1 h2=>?_)
    .simpa[o]using this
    .have h1':us[j]?=some us.toArray[j]:=by simp at h1⊢
     have f:d[j]?=some d.toArray[j]:=by simp at h2⊢
     obtain⟨x,ex,t⟩:=D7 r1 h1';obtain⟨y,p,w⟩:=D7 k f;exact r j x y ex p (by show A.units+1+n<cLine;omega) t w
   .have:=SeqAt.RcAt.lists_lengths (A:=A) (s:=s) p1.isList p2.isList (by simpa using o) (by omega);have z:(us.length==d.length)=false:=by simpa using o
    rw[z,ff];exact this
end
def a9K(K:PySem.W.Frag)(neg:Bool):R2:=λx y H Q=>∃n b,n<=50/\EqV K H n x y b/\(∃a c,x=.ref a/\y=.ref c)/\Q (.bl (if neg then !b else b)) H
section
variable {X:Cx}
theorem b8O(C:X.A.units+60<cLine):OpR X (compareOp .Eq) (a9K X.K false):=by
 intro pins s σ H x y v u Q I m o h;obtain⟨n,b,B,i,⟨a,c,rfl,rfl⟩,q⟩:=h;cases m;cases o;show wpAny _ _ (richCompare .Eq (.ref a) (.ref c)) _ _ s;have key:SeqAt.RcAt X.A s (.ref a) (.ref c) b:=by
  cases i with
  |flat fx fy=>cases fx
  |@tup n _ _ xs ys e t w i =>
   obtain⟨d,k,p1,_⟩:=I.tuple t;obtain⟨f,l,p2,_⟩:=I.tuple w;rw[k.length,l.length];have:=SeqAt.RcAt.tuples (A:=X.A) (s:=s) (e:=e) (show s.heap.IsTuple a d.toArray from p1) (show s.heap.IsTuple c f.toArray from p2) (by omega) (λj h1 h2=>?_)
   .simpa using this
   .have h1':d[j]?=some d.toArray[j]:=by simp at h1⊢
    have g:f[j]?=some f.toArray[j]:=by simp at h2⊢
    obtain⟨x,ex,m⟩:=D7 k h1';obtain⟨y,r,o⟩:=D7 l g;exact(i j x y ex r).at I (by show X.A.units+1+n<cLine;omega) m o
  |@lst n _ _ xs ys e t w i =>
   obtain⟨d,k,p1,_⟩:=I.list t;obtain⟨f,l,p2,_⟩:=I.list w;rw[k.length,l.length];by_cases p:d.length=f.length
   .have:=SeqAt.RcAt.lists (A:=X.A) (s:=s) (e:=e) p1.isList p2.isList (by simpa using p) (by omega) (λj h1 h2=>?_)
    .simpa[p]using this
    .have h1':d[j]?=some d.toArray[j]:=by simp at h1⊢
     have g:f[j]?=some f.toArray[j]:=by simp at h2⊢
     obtain⟨x,ex,m⟩:=D7 k h1';obtain⟨y,r,o⟩:=D7 l g;exact(i j x y ex r).at I (by show X.A.units+1+n<cLine;omega) m o
   .have:=SeqAt.RcAt.lists_lengths (A:=X.A) (s:=s) p1.isList p2.isList (by simpa using p) (by omega);have z:(d.length==f.length)=false:=by simpa using p
    rw[z,ff];exact this
 exact key _ _ _ _ ⟨.bl _,H,I,rfl,q⟩
theorem b6V(C:X.A.units+60<cLine):OpR X (compareOp .NotEq) (a9K X.K true):=by
 intro pins s σ H x y v u Q I m o h;obtain⟨n,b,B,i,⟨a,c,rfl,rfl⟩,q⟩:=h;cases m;cases o;show wpAny _ _ (richCompare .NotEq (.ref a) (.ref c)) _ _ s;have key:SeqAt.RcNeAt X.A s (.ref a) (.ref c) (!b):=by
  cases i with
  |flat fx fy=>cases fx
  |@tup n _ _ xs ys e t w i =>
   obtain⟨d,k,p1,_⟩:=I.tuple t;obtain⟨f,l,p2,_⟩:=I.tuple w;rw[k.length,l.length];have:=SeqAt.RcNeAt.tuples (A:=X.A) (s:=s) (e:=e) (show s.heap.IsTuple a d.toArray from p1) (show s.heap.IsTuple c f.toArray from p2) (by omega) (λj h1 h2=>?_)
   .simpa using this
   .have h1':d[j]?=some d.toArray[j]:=by simp at h1⊢
    have g:f[j]?=some f.toArray[j]:=by simp at h2⊢
    obtain⟨x,ex,m⟩:=D7 k h1';obtain⟨y,r,o⟩:=D7 l g;exact(i j x y ex r).at I (by show X.A.units+1+n<cLine;omega) m o
  |@lst n _ _ xs ys e t w i =>
   obtain⟨d,k,p1,_⟩:=I.list t;obtain⟨f,l,p2,_⟩:=I.list w;rw[k.length,l.length];by_cases p:d.length=f.length
   .have:=SeqAt.RcNeAt.lists (A:=X.A) (s:=s) (e:=e) p1.isList p2.isList (by simpa using p) (by omega) (λj h1 h2=>?_)
    .simpa[p]using this
    .have h1':d[j]?=some d.toArray[j]:=by simp at h1⊢
     have g:f[j]?=some f.toArray[j]:=by simp at h2⊢
     obtain⟨x,ex,m⟩:=D7 k h1';obtain⟨y,r,o⟩:=D7 l g;exact(i j x y ex r).at I (by show X.A.units+1+n<cLine;omega) m o
   .have:=SeqAt.RcNeAt.lists_lengths (A:=X.A) (s:=s) p1.isList p2.isList (by simpa using p) (by omega);have z:(d.length==f.length)=false:=by simpa using p
    rw[z,ff];exact this
 exact key _ _ _ _ ⟨.bl _,H,I,rfl,q⟩
theorem b5r{ns ms:List Int}:((List.range (min ns.length ms.length)).all (λj=>decide (ns.getD j 0=ms.getD j 0)) && ns.length==ms.length)=decide (ns=ms):=by
 rw[cS];simp only[aQ,bI,aR,bY,a_];constructor
 .rintro⟨h1,h2⟩;refine dq h2 λi a b=>?_;have:=h1 i (by omega);simpa[ao,a,b]using this
 .rintro rfl;exact⟨λ_ _=>rfl,rfl⟩
theorem b2T{ns:List Int}{j:Nat}{x:V}(h:(ns.map V.int)[j]?=some x):x=.int (ns.getD j 0)/\j<ns.length:=by
 rw[aW]at h;cases e:ns[j]? with
 |none=>rw[e]at h;cases h
 |some z =>
  rw[e]at h;obtain⟨a,_⟩:=aC.mp e;exact⟨by rw[ao,e];exact(bC h).symm,a⟩
theorem EqV.ints{K:PySem.W.Frag}{H:Hp}{k:Bool}{a b:Addr}{ns ms:List Int}(c:SqK k K H a (ns.map V.int))(d:SqK k K H b (ms.map V.int)):EqV K H 1 (.ref a) (.ref b) (decide (ns=ms)):=by
 have step:∀j x y,(ns.map V.int)[j]?=some x->(ms.map V.int)[j]?=some y->EqV K H 0 x y (decide (ns.getD j 0=ms.getD j 0)):=λj x y e f=>by
  obtain⟨rfl,_⟩:=b2T e;obtain⟨rfl,_⟩:=b2T f;have:=EqV.flat (K:=K) (H:=H) (n:=0) (x:=.int (ns.getD j 0)) (y:=.int (ms.getD j 0)) rfl rfl;rw[show eqV (.int (ns.getD j 0)) (.int (ms.getD j 0))=decide (ns.getD j 0=ms.getD j 0)from rfl]at this;exact this
 rw[<-b5r];cases k
 .have:=EqV.lst (λj=>decide (ns.getD j 0=ms.getD j 0)) c d step;simpa using this
 .have:=EqV.tup (λj=>decide (ns.getD j 0=ms.getD j 0)) c d step;simpa using this
def a4K:R2:=λx y H Q=>∃a b xs ys,x=.ref a/\y=.ref b/\H a=some (.tup xs)/\H b=some (.tup ys)/\xs.length+ys.length<=sizeLine/\∀p H',Same H H'->H' p=some (.tup (xs++ys))->Q (.ref p) H'
theorem b2c:OpR X (binaryOp .Add) a4K:=by
 intro pins s σ H x y v u Q I B C h;obtain⟨a,b,xs,ys,rfl,rfl,k,l,E,q⟩:=h;by_cases z:xs=[]
 .subst z;cases B;cases C;obtain⟨its,G,p1,_⟩:=I.tuple (.inl (.inl k));obtain⟨A,J,p2,_⟩:=I.tuple (.inl (.inl l));cases G;obtain⟨⟨cls,dd,data,sl⟩,w,t,n,hd⟩:=id p1;obtain⟨⟨r,j,i,m⟩,g,d,F,f⟩:=id p2;simp only at t hd d f;subst t hd d f;exact concat_meets ⟨_,w,rfl⟩ ⟨_,g,rfl⟩ noFill_tuple_add seq_tuple_add PySem.F.slot_tuple_add PySem.F.entry_tuple_add (PySem.F.args_tuple_add_2 _ _)
   (tuple_addW0 a b _ _ n F dd j sl m (by simp)) ⟨w,g,⟨.ref b,H,I,rfl,q b H (Same.refl H) l⟩⟩
 .refine b4F pins s σ H _ _ v u Q I B C ⟨a,b,xs,ys,rfl,rfl,.inl (.inl k),.inl (.inl l),z,E,λe=>?_,λ_ p D=>?_⟩
  .subst e;exact q a H (Same.refl H) (by rw[cJ];exact k)
  .exact q p _ (λc o e=>by rw[A1 (A5 e D)];exact e) A0
end
open PySem.AutoSeq1 (wpAny_loadPart')
theorem Q7:fillsNumberSlot (.type "tuple") "mul"=pure false :=
 PySem.fillsNumberSlot_seq (id:="tuple.__mul__") (r:=some (.builtin "tuple.__rmul__")) eJ.lookup (by decide +kernel) F.slot_tuple_rmul.lookup (by decide +kernel)
theorem a0F:seqRepeat? (.type "tuple")=pure (some (.builtin "tuple.__mul__")):=by
 unfold seqRepeat?;rw[PySem.seqSlot_of (T:="tuple") (name:="__mul__") (id:="tuple.__mul__") eJ.lookup (by decide +kernel),PySem.seqSlot_of (T:="tuple") (name:="__rmul__") (id:="tuple.__rmul__") F.slot_tuple_rmul.lookup (by decide +kernel)];rfl
theorem a2u(a:Int)(t:Tok)(l:Addr)(items:Array Value)(n:Nat)(dd:Option Addr)(sl:Array (Option Value)) :
  Meets (Builtin.«int.__rmul__» ⟨[.int a t,.ref l],[]⟩) (λ_ R s=>s.heap.get? l=some {cls:=.type "tuple",dict:=dd,data:=.seq items n,slots:=sl}/\R (.ok (.ret Value.notImplemented)) s) :=
 .of_wp λprog w A R s h=>by obtain⟨c,g,d,tk,os⟩:=s;obtain⟨b,h⟩:=h;wp_walk;exact⟨_,rfl,h⟩
theorem a6V(l:Addr)(items:Array Value)(n:Nat)(dd:Option Addr)(sl:Array (Option Value))(u:Tok) :
  Meets (Builtin.«tuple.__mul__» ⟨[.ref l,.int 1 u],[]⟩) (λ_ R s=>s.heap.get? l=some {cls:=.type "tuple",dict:=dd,data:=.seq items n,slots:=sl}/\R (.ok (.ret (.ref l))) s) :=
 .of_wp λprog w A R s h=>by
  obtain⟨b,g,d,tk,os⟩:=s;obtain⟨a,h⟩:=h;have f1:=AutoSeq1.idx_int
  wp_walk using wpAny_loadPart' a
  exact⟨_,rfl,h⟩
theorem a6U(l:Addr)(items:Array Value)(n:Nat)(dd:Option Addr)(sl:Array (Option Value))(x:Int)(u:Tok)(e:items.isEmpty=false)(h1:1<x)(h2:¬(decide (x < -(2 ^ 63)) || decide (x ≥ 2 ^ 63))=true)
  (j:¬((items.size:Int)*x > (2 ^ 63-1) / 8)) (k:¬Builtin.Tuple.tupleTooMany ((items.size:Int)*x)=true) (hsz:(List.foldl (λb c=>b++c) #[] (List.replicate x.toNat items)).size<=sizeLine) :
  Meets (Builtin.«tuple.__mul__» ⟨[.ref l,.int x u],[]⟩) (λ_ R s=>s.heap.get? l=some {cls:=.type "tuple",dict:=dd,data:=.seq items n,slots:=sl} /\
   R (.ok (.ret (.ref s.heap.objs.size))) {s with heap:=s.heap.push {cls:=.type "tuple",data:=.seq (List.foldl (λb c=>b++c) #[] (List.replicate x.toNat items))}}) :=
 .of_wp λprog w A R s h=>by
  obtain⟨p,g,d,tk,os⟩:=s;obtain⟨a,h⟩:=h;have f1:=AutoSeq1.idx_int;have f:(x==1)=false:=by simp;omega
  have i:decide (x<=0)=false:=by simp;omega
  have m:¬((items.isEmpty || x==1)=true):=by rw[e,f];decide
  have o:¬((decide (x<=0) || items.isEmpty)=true):=by rw[e,i];decide
  wp_walk using wpAny_loadPart' a
  rw[ar h2]
  wp_walk using wpAny_loadPart' a
  rw[ar j]
  wp_walk using wpAny_loadPart' a
  first
   |exact⟨_,rfl,h⟩
   |(rw[ar k];wp_walk using wpAny_loadPart' a;exact⟨_,rfl,h⟩)
theorem a2Y{α:Type}(its:List α):∀(k:Nat) (acc:List α),List.foldl (λa b=>a++b) acc.toArray (List.replicate k its.toArray)=(acc++(List.replicate k its).flatten).toArray
 |0,acc=>by simp
 |k+1,acc=>by
  have e:acc.toArray++its.toArray=(acc++its).toArray:=by simp
  rw[bL,dF,e,a2Y its k,bL,cQ,aF]
section
variable {X:Cx}
def b5J:R2:=λx y H Q=>∃a xs n,x=.ref a/\y=.int n/\H a=some (.tup xs)/\xs≠[]/\1<=n/\(xs.length:Int)*n<=(sizeLine:Int)/\∀p H',Same H H'->H' p=some (.tup (List.replicate n.toNat xs).flatten)->Q (.ref p) H'
theorem a8D:OpR X (binaryOp .Mult) b5J:=by
 intro pins s σ H x y v u Q I J K h;obtain⟨a,xs,n,rfl,rfl,l,i,M,N,q⟩:=h;cases J;obtain⟨t,rfl⟩:=K;obtain⟨its,r,p1,G⟩:=I.tuple (.inl (.inl l));obtain⟨⟨cls,dd,data,sl⟩,g,w,m,hd⟩:=id p1;simp only at w hd;subst w hd;have d:=r.length;have f:0<its.length:=by rw[<-d];exact List.length_pos_iff.mpr i
 refine wpAny_binaryOp_repeat_ref (T:="tuple") (U:="int") (by decide) ⟨_,g,rfl⟩ (λs'=>typeIs_int s' n t) Q7 F.fills_int_mul fS a0F F.slot_int_index.lookup
  (dX fS (typeIs_int s n t) F.entry_int_rmul (F.args_int_rmul_2 _ _) (a2u n t a its.toArray m dd sl) ⟨g,rfl,⟨_,g,rfl⟩,?_⟩)
 by_cases h1:n=1
 .subst h1;refine dX eJ ⟨_,g,rfl⟩ F.entry_tuple_mul (F.args_tuple_mul_2 _ _) (a6V a its.toArray m dd sl t) ⟨g,.ref a,H,I,rfl,q a H (Same.refl H) ?_⟩;rw[l];simp
 .have e0:=a2Y its n.toNat [];rw[cK]at e0;have C:((List.replicate n.toNat its).flatten).length=n.toNat*its.length:=a8G its n.toNat;have p:n.toNat*its.length<=sizeLine:=by
   have L:((n.toNat*its.length:Nat):Int)=(xs.length:Int)*n:=by
    rw[d];push_cast;rw[Int.toNat_of_nonneg (by omega),Int.mul_comm]
   omega
  have hs:sizeLine=16777216:=ba;have E:(its.toArray.size:Int)*n<=16777216:=by rw[aD,<-d];omega
  have D:n<=(its.toArray.size:Int)*n:=by
   have A:(1:Int)<=(its.toArray.size:Int):=by rw[aD];omega
   have:=cx A (show(0:Int)<=n by omega);omega
  refine dX eJ ⟨_,g,rfl⟩ F.entry_tuple_mul (F.args_tuple_mul_2 _ _) (a6U a its.toArray m dd sl n t (by simp;intro z;rw[z]at f;exact bW _ f) (by omega) ?_ ?_ ?_ ?_) ⟨g,?_⟩
  .simp only[Bool.or_eq_true,bY,not_or];omega
  .omega
  .simp only[Builtin.Tuple.tupleTooMany,bY];omega
  .have e0':List.foldl (λj k=>j++k) #[] (List.replicate n.toNat its.toArray)=(List.replicate n.toNat its).flatten.toArray:=e0;rw[e0',aD,C];exact p
  .have e0':List.foldl (λj k=>j++k) #[] (List.replicate n.toNat its.toArray)=(List.replicate n.toNat its).flatten.toArray:=e0;rw[e0'];have B:H s.heap.objs.size=none:=I.hok.fresh (aq _);refine⟨.ref s.heap.objs.size,_,I.laid (t':=s.toks) (o:=.tup (List.replicate n.toNat xs).flatten) (λb O q=>ag _ q) (aq _) ?_,rfl,q _ _ (λc o e=>by rw[A1 (A5 e B)];exact e) A0⟩;exact⟨by rw[a8G,d];exact p,_,r.rep n.toNat,fJ _ _⟩
end
end L2
namespace L2
open PySem PySem.Spec PyProof.Rows
section
variable {X:Cx}{pos:Pos}
theorem b4s(K:PySem.W.Frag){es:List Expr}{k:Nat}{t:TGs}{n:Nat}(c:X.calm=true)(h:PGs X es t)(b:X.K=K:=by rfl)
  (d:(assignEach es X.env).length=n:=by rfl) (a:(assignEach es X.env).findIdx? (·.1)=none:=by rfl):PG X (.Tuple es k pos) (a7D K n t):=by
 subst b;exact b6C c h d a
theorem b1U(K:PySem.W.Frag){tg l:Expr}{tl:TE}(b:PE X l tl)(a:X.K=K:=by rfl):PI X tg l (b2U K tl):=by subst a;exact b4q b
theorem b4p(K:PySem.W.Frag){tg l:Expr}{tl:TE}(b:PE X l tl)(a:X.K=K:=by rfl):PI X tg l (b7x K tl):=by subst a;exact b6B b
theorem b4o(K:PySem.W.Frag){es:List Expr}{h:Nat}{i:Pos}{a b:Expr}{ta:TA}{p pos:Pos}(f:Gl X "zip")(g:X.mg "zip"=none)(e:PA X [a,b] ta)(d:X.K=K:=by rfl)
  (hs:starEach [a,b] X.env=[(false,eval a X.env),(false,eval b X.env)]:=by rfl) (c:starEach [b] X.env=[(false,eval b X.env)]:=by rfl) :
  PI X (.Tuple es h i) (.Call (.Name "zip" p) [a,b] [] pos) (b7w K ta):=by subst d;exact b6A f g e b7G hs c
def b7W(K:PySem.W.Frag)(ta:TE):TT:=λσ H Q=>ta σ H λx H'=>∃k,b7N K x H' k/\Q k H'
theorem a9M(K:PySem.W.Frag){a:Expr}{ta:TE}(d:PE X a ta)(e:∀b,isTrue a X.env b=(do let v <-b;standAt a.pos;holding [v] (truthy v)))(c:X.K=K:=by rfl):PT X a (b7W K ta):=by
 subst c;exact b1H d e
theorem b2R(K:PySem.W.Frag)(a:X.K=K:=by rfl):IxR X (b4e K):=by subst a;exact b5c
theorem b5b(K:PySem.W.Frag)(a:X.K=K:=by rfl):IxR X (b4d K):=by subst a;exact b2Q
theorem b1k(K:PySem.W.Frag)(a:X.K=K:=by rfl):SlR X (b6p K):=by subst a;exact b3P
theorem b3O(K:PySem.W.Frag)(a:X.K=K:=by rfl):SlR X (b1F K):=by subst a;exact b1i
theorem b6U(K:PySem.W.Frag)(b:X.A.units+60<cLine)(a:X.K=K:=by rfl):OpR X (compareOp .NotEq) (a9K K true):=by subst a;exact b6V b
theorem b0B(K:PySem.W.Frag)(b:X.calm=true)(a:X.K=K:=by rfl):E2 X (.builtin "all") (b6r K):=by subst a;exact b3o b
theorem b0u(K:PySem.W.Frag)(b:X.calm=true)(a:X.K=K:=by rfl):E2 X (.builtin "sum") (b6n K):=by subst a;exact b3l b
theorem b0y(K:PySem.W.Frag)(a:X.K=K:=by rfl):E2 X (.builtin "isinstance") (b6q K):=by subst a;exact b3m
def b8i(K:PySem.W.Frag):RL:=λxs H Q=>∃p ys,xs=[.ref p]/\(SqL K H p ys∨SqT K H p ys)/\Q (.int ys.length) H
def b5L(K:PySem.W.Frag):RL:=λxs H Q=>∃p ys,xs=[.ref p]/\(SqL K H p ys∨SqT K H p ys)/\∀l,H l=none->Q (.ref l) (upd H l (.lst ys))
def b1C(K:PySem.W.Frag):RL:=λxs H Q=>∃p ys,xs=[.ref p]/\((SqL K H p ys/\∀l,H l=none->Q (.ref l) (upd H l (.tup ys)))∨(SqT K H p ys/\Q (.ref p) H))
theorem b0x(K:PySem.W.Frag)(a:X.K=K:=by rfl):E2 X (.builtin "len") (b8i K):=by subst a;exact a5h
theorem a7K(K:PySem.W.Frag)(a:X.K=K:=by rfl):E2 X (.type "list") (b5L K):=by subst a;exact a5g
theorem a6G(K:PySem.W.Frag)(a:X.K=K:=by rfl):E2 X (.type "tuple") (b1C K):=by subst a;exact a3w
def b9c:RL:=λxs H Q=>∃i j,xs=[.int i,.int j]/\Q (.int (if j<i then j else i)) H
def b9d:RL:=λxs H Q=>∃i j,xs=[.int i,.int j]/\Q (.int (if j > i then j else i)) H
def b8k:RL:=λxs H Q=>(∃i,xs=[.int i]/\Q (.int i) H)∨∃k,xs=[.bl k]/\Q (.int (if k then 1 else 0)) H
theorem b0z:E2 X (.type "int") b8k:=b0A
variable {o e:Expr}{es:List Expr}{to:TE}{t:TA}{name:Str}{apos cpos:Pos}{T id:String}{r:V->List V->Hp->VK->Prop}
theorem a7n(K:PySem.W.Frag)(l:PlainAttrs T)(f:Slot T name id)(g:typeOf (.builtin id)=pure (.type "method_descriptor"))(j:MtR X id r)(k:PE X o to)(i:PA X (e::es) t)(h:X.K=K:=by rfl)
  (b:attributeBase o name X.env (eval o X.env)=eval o X.env:=by rfl)
  (d:((backTo cpos (starEach (e::es) X.env)).all (λx=>!x.1) && (backToKw cpos (keywordEach [] X.env)).all (λx=>x.1.isSome)
   && decide ((e::es).length+([]:List Keyword).length+(if ([]:List Keyword).isEmpty then 0 else 1)<30))=true:=by rfl)
  (c:(apos.endLine==cpos.line)=true:=by rfl) (hs:starEach (e::es) X.env=(false,eval e X.env)::starEach es X.env:=by rfl) (a:(backTo cpos (starEach es X.env)).any (·.1)=false:=by rfl) :
  PE X (.Call (.Attribute o name apos) (e::es) [] cpos) (tBM K T r to t):=by subst h;exact b8s l f g j k i b d c hs a
end
def IT(H:Hp)(v:V)(ns:List Int):Prop:=∃a,v=.ref a/\H a=some (.tup (ns.map V.int))
theorem IT.same{H H':Hp}{v:V}{ns:List Int}(h:IT H v ns)(s:Same H H')   : IT H' v ns:=let ⟨a,e,q⟩:=h;⟨a,e,s a _ q⟩
theorem Same.upd{H H':Hp}{p:Addr}{o:HO}(s:Same H H')(hp:H' p=none):Same H (upd H' p o):=λb u e=>by
 rw[A1 (A5 (s b u e) hp)];exact s b u e
theorem M7{H:Hp}{p b:Addr}{o u:HO}(a:H b=some u)(hp:H p=none):upd H p o b=some u:=by rw[A1 (A5 a hp)];exact a
def Off(l:List Addr)(H H':Hp):Prop:=∀b o,b∉l->H b=some o->H' b=some o
theorem Off.refl(l:List Addr)(H:Hp):Off l H H:=λ_ _ _ e=>e
theorem Off.trans{l:List Addr}{H H1 H2:Hp}(a:Off l H H1)(b:Off l H1 H2):Off l H H2:=λc o d e=>b c o d (a c o d e)
theorem Same.off{l:List Addr}{H H':Hp}(s:Same H H'):Off l H H':=λb o _ e=>s b o e
theorem Off.upd{l:List Addr}{H H':Hp}{p:Addr}{o:HO}(s:Off l H H')(hp:H' p=none):Off l H (upd H' p o):=λb u a e=>by
 rw[A1 (A5 (s b u a e) hp)];exact s b u a e
theorem Off.set{l:List Addr}{H H':Hp}{p:Addr}{o:HO}(s:Off l H H')(hp:p∈l):Off l H (L2.upd H' p o):=λb u a e=>by
 rw[A1 (by rintro rfl;exact a hp)];exact s b u a e
theorem K6(ns:List Int):(ns.map V.int).length=ns.length:=aj _
theorem P5{ns:List Int}{i:Nat}{x:V}(h:(ns.map V.int)[i]?=some x):∃z,ns[i]?=some z/\x=.int z:=by
 rw[aW]at h;cases e:ns[i]? with
 |none=>rw[e]at h;cases h
 |some z=>rw[e]at h;exact⟨z,rfl,(bC h).symm⟩
theorem L5{α β γ:Type}(f:α->β->γ){xs:List α}{ys:List β}{i:Nat}{x:α}{y:β}(a:xs[i]?=some x)(b:ys[i]?=some y):(List.zipWith f xs ys).take (i+1)=(List.zipWith f xs ys).take i++[f x y]:=by
 have:(List.zipWith f xs ys)[i]?=some (f x y):=by rw[fL,a,b]
 rw[bB,this];rfl
theorem a5o{K:PySem.W.Frag}{src:List (Option Nat)}{σ caps:St}{Q:VK}{k1 k2:Bool}{a b:Addr}{xs ys:List Int}{H:Hp}{te:TE}(f:Int->Int->V)(t:SqK k1 K H a (xs.map V.int))(u:SqK k2 K H b (ys.map V.int))(w:xs.length<=1000)
  (c:∀H',Same H H'->SqK k1 K H' a (xs.map V.int)/\SqK k2 K H' b (ys.map V.int))
  (g:B5 src σ=none::none::caps) (l:∀x y H1 o,Same H H1->o (f x y) H1->te (some (.int x)::some (.int y)::caps) H1 o)
  (hd:∀H1 p,Same H H1->H1 p=none->Q (.ref p) (upd H1 p (.lst (List.zipWith f xs ys)))) :
  J9 src (a7D K 2 (a0i (B0 0) (a0i (B0 1) b0m))) a0d te σ Q (Itz K k1 k2 a b) H:=by
 have A:(1000:Nat)<=sizeLine:=by rw[ba];decide
 refine X4 (xs:=xs.map V.int) (zs:=ys.map V.int) (by rw[K6];omega) (λi zs H'=>Same H H'/\zs=(List.zipWith f xs ys).take i) ⟨Same.refl H,by simp⟩ (λi zs H' _ _ h=>⟨(c H' h.1).1,(c H' h.1).2,by rw[h.2];exact cC _ _⟩) ?_ ?_
 .rintro i x z zs H' p hx hy ⟨s,rfl⟩ hp;obtain⟨k,m,q⟩:=P5 hx;obtain⟨d,n,r⟩:=P5 hy;subst q r;clear hx hy;have s':Same H (upd H' p (.tup [.int k,.int d])):=s.upd hp;refine⟨p,[.int k,.int d],rfl,SqT.of A0,rfl,.int k,[.int d],rfl,.int d,[],rfl,rfl,?_⟩;rw[g];show Sub _ (some (.int k)::some (.int d)::caps)/\_;refine⟨⟨rfl,λj v e=>?_⟩,?_⟩
  .match j,e with
   |0,e=>cases e
   |1,e=>cases e
   |j+2,e=>exact e
  .exact l k d _ _ s' ⟨s',(L5 f m n).symm⟩
 .rintro zs H' ⟨s,rfl⟩ p hp;have e:(List.zipWith f xs ys).take (min (xs.map V.int).length (ys.map V.int).length)=List.zipWith f xs ys:=by
   rw[K6,K6,bZ];rw[cI];exact aq _
  rw[e];exact hd H' p s hp
theorem Sub.one{caps:St}{v:V}:Sub (none::caps) (some v::caps):=⟨rfl,λj u e=>by
 match j,e with
 |0,e=>cases e
 |j+1,e=>exact e⟩
theorem V7{src:List (Option Nat)}{σ caps:St}{Q:VK}{n:Nat}{H:Hp}{e:TT}{te:TE}(h:n<=1000)(c:B5 src σ=none::caps)(a:Nat->List V->Hp->Prop)(h0:a 0 [] H)(g:∀i ys H,a i ys H->ys.length<=i)
  (hs:∀i ys H,i<n->a i ys H->e (some (.int i)::caps) H λb d=>if b=true then te (some (.int i)::caps) d λv f=>a (i+1) (ys++[v]) f else a (i+1) ys d)
  (hd:∀ys H,a n ys H->∀p,H p=none->Q (.ref p) (upd H p (.lst ys))):J9 src (B0 0) e te σ Q (Itr 0 n) H:=by
 have j:(1000:Nat)<=sizeLine:=by rw[ba];decide
 refine a7F (by omega) a h0 g (λi ys H hi p=>?_) hd;show Sub _ ((B5 src σ).set 0 (some (.int (0+(i:Int)))))/\_;rw[c,dQ];exact⟨Sub.one,hs i ys H hi p⟩
theorem a5B{K:PySem.W.Frag}{src:List (Option Nat)}{σ caps:St}{Q:VK}{a:Addr}{xs:List Int}{H:Hp}{te:TE}(f:Int->V)(j:xs.length<=1000)(b:∀H',Same H H'->SqT K H' a (xs.map V.int))(c:B5 src σ=none::caps)
  (e:∀x H1 g,x∈xs->Same H H1->g (f x) H1->te (some (.int x)::caps) H1 g) (hd:∀H1 p,Same H H1->H1 p=none->Q (.ref p) (upd H1 p (.lst (xs.map f)))):J9 src (B0 0) a0d te σ Q (Itt K a) H:=by
 have k:(1000:Nat)<=sizeLine:=by rw[ba];decide
 refine a0P (xs:=xs.map V.int) (by rw[K6];omega) (λi ys H'=>Same H H'/\ys=(xs.take i).map f) ⟨Same.refl H,by simp⟩ (λi ys H' _ h=>⟨b H' h.1,by rw[h.2,aj];exact cC _ _⟩) ?_ ?_
 .rintro i x ys H' hx ⟨s,rfl⟩;obtain⟨z,d,rfl⟩:=P5 hx;show Sub _ ((B5 src σ).set 0 (some (.int z)))/\_;rw[c];refine⟨Sub.one,e z H' _ (aH d) s ⟨s,?_⟩⟩;rw[bB,d];simp
 .rintro ys H' ⟨s,rfl⟩ p hp;rw[K6,bJ];exact hd H' p s hp
theorem a7i{src:List (Option Nat)}{σ caps:St}{Q:VK}{n:Nat}{H:Hp}{te:TE}(f:Nat->V)(c:n<=1000)(a:B5 src σ=none::caps)(b:∀(i:Nat) H1 Q1,i<n->Same H H1->Q1 (f i) H1->te (some (.int i)::caps) H1 Q1)
  (hd:∀H1 p,Same H H1->H1 p=none->Q (.ref p) (upd H1 p (.lst ((List.range n).map f)))):J9 src (B0 0) a0d te σ Q (Itr 0 n) H:=by
 refine V7 c a (λi ys H'=>Same H H'/\ys=(List.range i).map f) ⟨Same.refl H,rfl⟩ (λi ys H' h=>by rw[h.2];simp) ?_ ?_
 .rintro i ys H' hi ⟨s,rfl⟩;refine b i H' _ hi s ⟨s,?_⟩;rw[fT,cy];rfl
 .rintro ys H' ⟨s,rfl⟩ p hp;exact hd H' p s hp
theorem Room.u60{k:Nat}{A:Around}(r:Room k A):A.units+60<cLine:=by have:=r.un;omega
theorem a0A{t u:TS}{D:Ends}{σ:St}{H:Hp}(a:St->Hp->Prop)(fin:∀σ H,a σ H->u D σ H)(h:(∀σ H,a σ H->u D σ H)->t {D with nx:=u D} σ H):b6i t u D σ H:=h fin
theorem b7U{K:PySem.W.Frag}{a:Bool}{te:TE}{σ:St}{H:Hp}{Q:VK}{b:Addr}{cs:List Int}(c:∀d:VK,d (.ref b) H->te σ H d)(f:H b=some (.lst (cs.map V.int)))
  (q:∀p,H p=none->Q (.bl (if a then !decide (cs=[])else decide (cs=[]))) (upd H p (.lst []))):tOp (a9K K a) te (b3H a1C) σ H Q :=
 c _ ⟨bq _,λp e=>⟨1,_,by decide,EqV.ints (k:=false) (ms:=[]) (SqL.of (M7 f e)) (SqL.of A0),⟨_,_,rfl,rfl⟩,q p e⟩⟩
theorem b7V{K:PySem.W.Frag}{a:Bool}{te:TE}{σ:St}{H:Hp}{Q:Bool->Hp->Prop}{b:Addr}{cs:List Int}(c:∀d:VK,d (.ref b) H->te σ H d)(e:H b=some (.lst (cs.map V.int)))
  (q:∀p,H p=none->Q (if a then !decide (cs=[])else decide (cs=[])) (upd H p (.lst []))):V3 (tOp (a9K K a) te (b3H a1C)) σ H Q :=
 b7U c e λp f=>⟨_,rfl,q p f⟩
theorem ixL{K:PySem.W.Frag}{ta tb:TE}{σ:St}{H:Hp}{Q:VK}{p:Addr}{xs:List V}{i:Int}{v:V}(b:∀a:VK,a (.ref p) H->ta σ H a)(c:∀a:VK,a (.int i) H->tb σ H a)(hp:H p=some (.lst xs))(e:atI xs i=some v)(q:Q v H):tOp (b4e K) ta tb σ H Q :=
 b _ (c _ ⟨p,xs,i,v,rfl,rfl,SqL.of hp,e,q⟩)
theorem b7D(xs:List Int)(k:Nat)(a:k<=xs.length):N5 (xs.map V.int) none (some (k:Int))=(xs.take k).map V.int:=by
 unfold N5;rw[HT.sIx_none,HT.sIx_nat,aj,dG a,cZ,Nat.sub_zero,List.map_take]
theorem b7E(xs:List Int)(k:Nat)(a:k<=xs.length):N5 (xs.map V.int) (some (k:Int)) none=(xs.drop k).map V.int:=by
 unfold N5;rw[HT.sIx_none,HT.sIx_nat,aj,dG a,bZ (by simp),List.map_drop]
theorem a9B(xs:List Int)(k:Nat)(z:Int)(a:k<xs.length):xs.take k++[z]++xs.drop (k+1)=xs.set k z:=by
 rw[List.set_eq_take_append_cons_drop,ay a,aF];rfl
theorem b6s{K:PySem.W.Frag}{σ:St}{H:Hp}{Q:VK}{i j:Nat}{tx:TE}{a:Addr}{xs:List Int}{k:Nat}{z:Int}(hi:σ[i]?=some (some (.ref a)))(l:σ[j]?=some (some (.int k)))(h:H a=some (.tup (xs.map V.int)))(s:k<xs.length)(B:xs.length<=1000)
  (e:∀H' (N:VK),Same H H'->N (.int z) H'->tx σ H' N) (q:∀v H',Same H H'->IT H' v (xs.set k z)->Q v H') :
  tOp a4K (tOp a4K (tSl (b1F K) (a0a i) a1S (a8c (a0a j))) (b6h (a5D tx a1C))) (tSl (b1F K) (a0a i) (a8c (tOp (rI0 λi j=>.int (i+j)) (a0a j) (tC (.int 1)))) a1S) σ H Q:=by
 have C:(3000:Nat)<=sizeLine:=by rw[ba];decide
 refine⟨_,hi,_,l,k,rfl,a,_,rfl,SqT.of h,?_,λp t=>?_⟩
 .rw[HT.sIx_none,HT.sIx_nat,aj];omega
 .rw[b7D xs k (by omega)];have s1:Same H (upd H p (.tup ((xs.take k).map V.int))):=(Same.refl H).upd t;have f:upd H p (.tup ((xs.take k).map V.int)) p=some (.tup ((xs.take k).map V.int)):=A0;generalize upd H p (.tup ((xs.take k).map V.int))=H1 at s1 f;refine e H1 _ s1 ⟨by show 1<=sizeLine;omega,λp2 c=>?_⟩;have s2:Same H1 (upd H1 p2 (.tup [.int z])):=(Same.refl H1).upd c;have g:upd H1 p2 (.tup [.int z]) p2=some (.tup [.int z]):=A0;generalize upd H1 p2 (.tup [.int z])=H2 at s2 g;refine⟨p,p2,_,_,rfl,rfl,s2 _ _ f,g,?_,λu b x o=>?_⟩
  .rw[aj,aX];show min k xs.length+1<=_;omega
  .have s13:Same H b:=(s1.trans s2).trans x;refine⟨_,hi,_,l,_,_,rfl,rfl,_,rfl,a,_,rfl,SqT.of (s13 _ _ h),?_,λm d=>?_⟩
   .rw[show((k:Int)+1)=((k+1:Nat):Int) by push_cast;rfl,HT.sIx_nat,aj];omega
   .rw[show((k:Int)+1)=((k+1:Nat):Int) by push_cast;rfl,b7E xs (k+1) (by omega)];have n:Same b (upd b m (.tup ((xs.drop (k+1)).map V.int))):=(Same.refl b).upd d;refine⟨u,m,_,_,rfl,rfl,n _ _ o,A0,?_,λw A y r=>?_⟩
    .rw[az,aj,aX,aj,cg];show min k xs.length+1+_<=_;omega
    .refine q _ _ ((s13.trans n).trans y) ⟨w,rfl,?_⟩;rw[r,<-a9B xs k z s];simp
theorem var{i:Nat}{σ:St}{H:Hp}{v:V}(e:σ[i]?=some (some v)):∀Q:VK,Q v H->a0a i σ H Q:=λQ q=>⟨v,e,q⟩
theorem con{v:V}{σ:St}{H:Hp}:∀Q:VK,Q v H->tC v σ H Q:=λQ q=>q
structure JE(X:Cx)(e:Expr)(t:TE):Prop where
 h:PE X e t
structure JT(X:Cx)(e:Expr)(t:TT):Prop where
 h:PT X e t
structure JW(X:Cx)(e:Expr)(t:TT):Prop where
 h:PW X e t
structure JA(X:Cx)(es:List Expr)(t:TA):Prop where
 h:PA X es t
structure JS(X:Cx)(st:Stmt)(t:TS):Prop where
 h:PS X st t
structure JB(X:Cx)(st:List Stmt)(t:TS):Prop where
 h:PSs X st t
structure JG(X:Cx)(tg:Expr)(t:TG):Prop where
 h:PG X tg t
structure JGs(X:Cx)(ts:List Expr)(t:TGs):Prop where
 h:PGs X ts t
structure JI(X:Cx)(tg iter:Expr)(t:TI):Prop where
 h:PI X tg iter t
structure JF(X:Cx)(ifs:List Expr)(t:TT):Prop where
 h:PIf X ifs t
structure JO(X:Cx)(e:Option Expr)(t:TO):Prop where
 h:PO X e t
section
variable {X:Cx}{a b c e o:Expr}{es rest:List Expr}{ta tb tc te to:TE}{tA tB:TT}{t:TA}{pos p apos cpos p2:Pos}
theorem jv(i:Nat){x:Str}(b:X.N[i]?=some x:=by rfl)(c:Vis X.env.scope x:=by first|exact Or.inl rfl|exact Or.inr (Or.inl rfl)|exact Or.inr (Or.inr rfl))(hd:(x==("__debug__" : Str))=false:=by decide)
  (a:(x==("__classdict__" : Str))=false:=by decide):JE X (.Name x pos) (a0a i):=⟨b6E b c hd a⟩
theorem A6{i j}:JE X (.Constant (.int i) j pos) (tC (.int i)):=⟨b6L⟩
theorem a0J{i j}:JE X (.Constant (.bool i) j pos) (tC (.bl i)):=⟨b8t⟩
theorem N1{j}:JE X (.Constant .none j pos) (tC .non):=⟨b6J⟩
theorem b8E{x j}:JE X (.Constant (.str x) j pos) (tC (.str x)):=⟨b6G⟩
theorem a2R{x:Str}{v:V}{u:Value}(a:Gl X x)(b:X.mg x=none)(d:bootBuiltins x=some u)(r:RelV v u)(c:x≠"__name__":=by decide)(hd:(x==("__debug__" : Str))=false:=by decide):JE X (.Name x pos) (tC v):=⟨b4z a b d r c hd⟩
theorem U7(c:JE X a ta)(d:JE X b tb):JE X (.BinOp a .Add b pos) (tOp (rI0 λi j=>.int (i+j)) ta tb):=⟨V8 b6Z c.h d.h⟩
theorem a3S(c:JE X a ta)(d:JE X b tb):JE X (.BinOp a .Sub b pos) (tOp (rI0 λi j=>.int (i-j)) ta tb):=⟨V8 b6S c.h d.h⟩
theorem a2O(c:JE X a ta)(d:JE X b tb):JE X (.BinOp a .Mult b pos) (tOp (rI CMul λi j=>.int (i*j)) ta tb):=⟨V8 b6W c.h d.h⟩
theorem a2P(c:JE X a ta)(d:JE X b tb):JE X (.BinOp a .Mod b pos) (tOp (rI (λ_ j=>0<j) λi j=>.int (i % j)) ta tb):=⟨V8 b6X c.h d.h⟩
theorem b2P(c:JE X a ta)(d:JE X b tb):JE X (.BinOp a .FloorDiv b pos) (tOp (rI b8L λi j=>.int (i / j)) ta tb):=⟨V8 b4E c.h d.h⟩
theorem b2O(c:JE X a ta)(d:JE X b tb):JE X (.BinOp a .Pow b pos) (tOp (rI b8K λi j=>.int (i ^ j.toNat)) ta tb):=⟨V8 b6T c.h d.h⟩
theorem a1Z(c:JE X a ta)(d:JE X b tb):JE X (.BinOp a .Add b pos) (tOp (a4K) ta tb):=⟨V8 b2c c.h d.h⟩
theorem b2N(c:JE X a ta)(d:JE X b tb):JE X (.BinOp a .Mult b pos) (tOp (b5J) ta tb):=⟨V8 a8D c.h d.h⟩
theorem a8P(b:JE X a ta):JE X (.UnaryOp .USub a pos) (tUn (rU λi=>.int (-i)) ta):=⟨b8q b6d b.h⟩
theorem b5V(b:JE X a ta):JE X (.UnaryOp .Not a pos) (b5u ta):=⟨b6I b.h⟩
theorem a8O{op}(h:JE X a ta):JE X (.BoolOp op [a] pos) ta:=⟨b6H h.h⟩
theorem a6u(c:JE X a ta)(d:JE X (.BoolOp .And (b::rest) pos) tb):JE X (.BoolOp .And (a::b::rest) pos) (b5z ta tb):=⟨b6O c.h d.h⟩
theorem b8U(c:JE X a ta)(d:JE X (.BoolOp .Or (b::rest) pos) tb):JE X (.BoolOp .Or (a::b::rest) pos) (b7Y ta tb):=⟨b8r c.h d.h⟩
theorem b5W(f:JT X c tA)(d:JE X a ta)(e:JE X b tb):JE X (.IfExp c a b pos) (tIf tA ta tb):=⟨b1X f.h d.h e.h⟩
theorem a8K(c:JE X a ta)(d:JE X b tb):JE X (.Compare a [.Eq] [b] pos) (tOp (rEq) ta tb):=⟨a4M b5O c.h d.h (M8 _)⟩
theorem a2M(c:JE X a ta)(d:JE X b tb):JT X (.Compare a [.Eq] [b] pos) (V3 (tOp (rEq) ta tb)):=⟨M0 b5O c.h d.h (M8 _)⟩
theorem b8C(c:JE X a ta)(d:JE X b tb):JT X (.Compare a [.NotEq] [b] pos) (V3 (tOp (rNe) ta tb)):=⟨M0 b8v c.h d.h (M8 _)⟩
theorem b2C(c:JE X a ta)(d:JE X b tb):JT X (.Compare a [.Lt] [b] pos) (V3 (tOp (rI0 λi j=>.bl (decide (i<j))) ta tb)):=⟨M0 b8w c.h d.h (M8 _)⟩
theorem b5R(c:JE X a ta)(d:JE X b tb):JE X (.Compare a [.LtE] [b] pos) (tOp (rI0 λi j=>.bl (decide (i<=j))) ta tb):=⟨a4M b8x c.h d.h (M8 _)⟩
theorem a8L(c:JE X a ta)(d:JE X b tb):JT X (.Compare a [.Gt] [b] pos) (V3 (tOp (rI0 λi j=>.bl (decide (j<i))) ta tb)):=⟨M0 b8y c.h d.h (M8 _)⟩
theorem b8D(c:JE X a ta)(d:JE X b tb):JT X (.Compare a [.GtE] [b] pos) (V3 (tOp (rI0 λi j=>.bl (decide (j<=i))) ta tb)):=⟨M0 b8z c.h d.h (M8 _)⟩
theorem b7k(K:PySem.W.Frag)(f:X.A.units+60<cLine)(d:JE X a ta)(e:JE X b tb)(c:X.K=K:=by rfl):JT X (.Compare a [.NotEq] [b] pos) (V3 (tOp (a9K K true) ta tb)):=⟨M0 (b6U K f c) d.h e.h (M8 _)⟩
theorem b7j(c:JE X a ta)(d:JE X b tb):JE X (.Compare a [.Is] [b] pos) (tOp (λx y H Q=>y=.non/\Q (.bl (decide (x=.non))) H) ta tb):=⟨a4M b2d c.h d.h (M8 _)⟩
theorem b2D(c:JE X a ta)(d:JE X b tb):JT X (.Compare a [.Is] [b] pos) (V3 (tOp (λx y H Q=>y=.non/\Q (.bl (decide (x=.non))) H) ta tb)):=⟨M0 b2d c.h d.h (M8 _)⟩
theorem a4T(c:JE X a ta)(d:JE X b tb):JT X (.Compare a [.IsNot] [b] pos) (V3 (tOp (λx y H Q=>y=.non/\Q (.bl (!decide (x=.non))) H) ta tb)):=⟨M0 b4C c.h d.h (M8 _)⟩
theorem a3v(h:JW X e tA):JT X e tA:=⟨h.h.pt⟩
theorem Z0(b:JT X a tA):JW X (.BoolOp .And [a] pos) tA:=⟨pw_and1 b.h⟩
theorem a4S(b:JT X a tA):JW X (.BoolOp .Or [a] pos) tA:=⟨pw_or1 b.h⟩
theorem a1h(c:JT X a tA)(d:JW X (.BoolOp .And (b::rest) pos) tB):JW X (.BoolOp .And (a::b::rest) pos) (b8e tA tB):=⟨pw_and c.h d.h⟩
theorem a8J(c:JT X a tA)(d:JW X (.BoolOp .Or (b::rest) pos) tB):JW X (.BoolOp .Or (a::b::rest) pos) (tOr tA tB):=⟨pw_or c.h d.h⟩
theorem P9(b:JT X a tA):JT X (.UnaryOp .Not a pos) (b7Z tA):=⟨b6t b.h⟩
theorem G1(K:PySem.W.Frag)(d:JE X a ta)(e:∀b,isTrue a X.env b=(do let v <-b;standAt a.pos;holding [v] (truthy v)):=by intro _;rfl)(c:X.K=K:=by rfl):JT X a (b7W K ta):=⟨a9M K d.h e c⟩
theorem jaN:JA X [] a1C:=⟨b6Q⟩
theorem jaC(a:JE X e te)(b:JA X es t)(hs:starEach (e::es) X.env=(false,eval e X.env)::starEach es X.env:=by rfl):JA X (e::es) (a5D te t):=⟨b4A a.h b.h hs⟩
theorem O9{x1}(h:JA X es t):JE X (.Tuple es x1 pos) (b6h t):=⟨b6F h.h⟩
theorem a0I(h:JA X es t):JE X (.List es pos) (b3H t):=⟨b6K h.h⟩
theorem P0(K:PySem.W.Frag)(d:JE X a ta)(e:JE X b tb)(hs:a0W b:=by intro _ _;rfl)(c:X.K=K:=by rfl):JE X (.Subscript a b pos) (tOp (b4e K) ta tb):=⟨b5N (b2R K c) d.h e.h hs⟩
theorem a0h(K:PySem.W.Frag)(d:JE X a ta)(e:JE X b tb)(hs:a0W b:=by intro _ _;rfl)(c:X.K=K:=by rfl):JE X (.Subscript a b pos) (tOp (b4d K) ta tb):=⟨b5N (b5b K c) d.h e.h hs⟩
theorem Z2:JO X none a1S:=⟨b4l⟩
theorem Z1(h:JE X e te):JO X (some e) (a8c te):=⟨b4k h.h⟩
theorem b5U(K:PySem.W.Frag){lo hi:Option Expr}{tl th:TO}(b:JE X e te)(c:JO X lo tl)(d:JO X hi th)(a:X.K=K:=by rfl):JE X (.Subscript e (.Slice lo hi none p2) pos) (tSl (b6p K) te tl th):=⟨a2y (b1k K a) b.h c.h d.h⟩
theorem b5T(K:PySem.W.Frag){lo hi:Option Expr}{tl th:TO}(b:JE X e te)(c:JO X lo tl)(d:JO X hi th)(a:X.K=K:=by rfl):JE X (.Subscript e (.Slice lo hi none p2) pos) (tSl (b1F K) te tl th):=⟨a2y (b3O K a) b.h c.h d.h⟩
theorem A8{k:Nat}{ps:List Str}{sp:Sp}{x:Str}(O:Ok X.prog X.w X.K X.mg X.base x k ps sp)(g:Room k X.A)(f:Gl X x)(c:JA X (e::es) t)(a:(x==("__debug__" : Str))=false:=by decide)
  (d:starEach (e::es) X.env=(false,eval e X.env)::starEach es X.env:=by rfl) (b:(backTo pos (starEach es X.env)).any (·.1)=false:=by rfl):JE X (.Call (.Name x p) (e::es) [] pos) (a8e sp [] E0 t):=⟨b2a O g f c.h a d b⟩
theorem Q0(K:PySem.W.Frag)(f:Gl X "len")(g:X.mg "len"=none)(c:JA X (e::es) t)(b:X.K=K:=by rfl)(d:starEach (e::es) X.env=(false,eval e X.env)::starEach es X.env:=by rfl)(a:(backTo pos (starEach es X.env)).any (·.1)=false:=by rfl):JE X (.Call (.Name "len" p) (e::es) [] pos) (tCB (b8i K) t):=⟨G3 (b0x K b) f g b3s c.h (by decide) (by decide) d a⟩
theorem b2J(K:PySem.W.Frag)(g:Gl X "sum")(h:X.mg "sum"=none)(c:JA X (e::es) t)(d:X.calm=true:=by rfl)(b:X.K=K:=by rfl)(f:starEach (e::es) X.env=(false,eval e X.env)::starEach es X.env:=by rfl)(a:(backTo pos (starEach es X.env)).any (·.1)=false:=by rfl):JE X (.Call (.Name "sum" p) (e::es) [] pos) (tCB (b6n K) t):=⟨G3 (b0u K d b) g h b7H c.h (by decide) (by decide) f a⟩
theorem a4V(K:PySem.W.Frag)(g:Gl X "all")(h:X.mg "all"=none)(c:JA X (e::es) t)(d:X.calm=true:=by rfl)(b:X.K=K:=by rfl)(f:starEach (e::es) X.env=(false,eval e X.env)::starEach es X.env:=by rfl)(a:(backTo pos (starEach es X.env)).any (·.1)=false:=by rfl):JE X (.Call (.Name "all" p) (e::es) [] pos) (tCB (b6r K) t):=⟨G3 (b0B K d b) g h b7J c.h (by decide) (by decide) f a⟩
theorem K8(K:PySem.W.Frag)(f:Gl X "isinstance")(g:X.mg "isinstance"=none)(c:JA X (e::es) t)(b:X.K=K:=by rfl)(d:starEach (e::es) X.env=(false,eval e X.env)::starEach es X.env:=by rfl)(a:(backTo pos (starEach es X.env)).any (·.1)=false:=by rfl):JE X (.Call (.Name "isinstance" p) (e::es) [] pos) (tCB (b6q K) t):=⟨G3 (b0y K b) f g a0k c.h (by decide) (by decide) d a⟩
theorem C0(K:PySem.W.Frag)(f:Gl X "tuple")(g:X.mg "tuple"=none)(c:JA X (e::es) t)(b:X.K=K:=by rfl)(d:starEach (e::es) X.env=(false,eval e X.env)::starEach es X.env:=by rfl)(a:(backTo pos (starEach es X.env)).any (·.1)=false:=by rfl):JE X (.Call (.Name "tuple" p) (e::es) [] pos) (tCB (b1C K) t):=⟨Q6 (a6G K b) f g a0T c.h (by decide) (by decide) d a⟩
theorem b4X(K:PySem.W.Frag)(f:Gl X "list")(g:X.mg "list"=none)(c:JA X (e::es) t)(b:X.K=K:=by rfl)(d:starEach (e::es) X.env=(false,eval e X.env)::starEach es X.env:=by rfl)(a:(backTo pos (starEach es X.env)).any (·.1)=false:=by rfl):JE X (.Call (.Name "list" p) (e::es) [] pos) (tCB (b5L K) t):=⟨Q6 (a7K K b) f g b5o c.h (by decide) (by decide) d a⟩
theorem b7m(d:Gl X "int")(f:X.mg "int"=none)(b:JA X (e::es) t)(c:starEach (e::es) X.env=(false,eval e X.env)::starEach es X.env:=by rfl)(a:(backTo pos (starEach es X.env)).any (·.1)=false:=by rfl):JE X (.Call (.Name "int" p) (e::es) [] pos) (tCB (b8k) t):=⟨Q6 b0z d f b3t b.h (by decide) (by decide) c a⟩
theorem Z3(K:PySem.W.Frag)(h:JE X o to)(g:JA X (e::es) t)(f:X.K=K:=by rfl)(b:attributeBase o "append" X.env (eval o X.env)=eval o X.env:=by rfl)
  (d:((backTo cpos (starEach (e::es) X.env)).all (λx=>!x.1) && (backToKw cpos (keywordEach [] X.env)).all (λx=>x.1.isSome) && decide ((e::es).length+([]:List Keyword).length+(if ([]:List Keyword).isEmpty then 0 else 1)<30))=true:=by rfl)
  (c:(apos.endLine==cpos.line)=true:=by rfl) (hs:starEach (e::es) X.env=(false,eval e X.env)::starEach es X.env:=by rfl) (a:(backTo cpos (starEach es X.env)).any (·.1)=false:=by rfl) :
  JE X (.Call (.Attribute o "append" apos) (e::es) [] cpos) (tBM K "list" a8w to t):=⟨a7n K PySem.F.plainAttrs_list PySem.F.slot_list_append PySem.F.type_list_append b0b h.h g.h f b d c hs a⟩
theorem b2I(K:PySem.W.Frag)(h:JE X o to)(g:JA X (e::es) t)(f:X.K=K:=by rfl)(b:attributeBase o "pop" X.env (eval o X.env)=eval o X.env:=by rfl)
  (d:((backTo cpos (starEach (e::es) X.env)).all (λx=>!x.1) && (backToKw cpos (keywordEach [] X.env)).all (λx=>x.1.isSome) && decide ((e::es).length+([]:List Keyword).length+(if ([]:List Keyword).isEmpty then 0 else 1)<30))=true:=by rfl)
  (c:(apos.endLine==cpos.line)=true:=by rfl) (hs:starEach (e::es) X.env=(false,eval e X.env)::starEach es X.env:=by rfl) (a:(backTo cpos (starEach es X.env)).any (·.1)=false:=by rfl) :
  JE X (.Call (.Attribute o "pop" apos) (e::es) [] cpos) (tBM K "list" b1G to t):=⟨a7n K PySem.F.plainAttrs_list PySem.F.slot_list_pop PySem.F.type_list_pop b2u h.h g.h f b d c hs a⟩
theorem a3R(K:PySem.W.Frag)(h:JE X o to)(g:JA X (e::es) t)(f:X.K=K:=by rfl)(b:attributeBase o "extend" X.env (eval o X.env)=eval o X.env:=by rfl)
  (d:((backTo cpos (starEach (e::es) X.env)).all (λx=>!x.1) && (backToKw cpos (keywordEach [] X.env)).all (λx=>x.1.isSome) && decide ((e::es).length+([]:List Keyword).length+(if ([]:List Keyword).isEmpty then 0 else 1)<30))=true:=by rfl)
  (c:(apos.endLine==cpos.line)=true:=by rfl) (hs:starEach (e::es) X.env=(false,eval e X.env)::starEach es X.env:=by rfl) (a:(backTo cpos (starEach es X.env)).any (·.1)=false:=by rfl) :
  JE X (.Call (.Attribute o "extend" apos) (e::es) [] cpos) (tBM K "list" a8v to t):=⟨a7n K PySem.F.plainAttrs_list PySem.F.slot_list_extend PySem.F.type_list_extend b0a h.h g.h f b d c hs a⟩
theorem A7{i:Nat}{x:Str}(a:X.N.Nodup)(hi:X.N[i]?=some x)(c:Loc X.env.scope x)(b:X.fn x=true∨X.env.scope.names.lookup x=some .local:=by first|exact .inl rfl|exact .inr rfl|assumption):JG X (.Name x pos) (B0 i):=⟨b4t a hi c b⟩
theorem M4:JGs X [] b0m:=⟨b4r⟩
theorem B7{g:TG}{u:TGs}(h1:JG X e g)(h2:JGs X es u)(hs:(assignEach (e::es) X.env).map (·.2)=assign e X.env::(assignEach es X.env).map (·.2):=by rfl):JGs X (e::es) (a0i g u):=⟨b1V h1.h h2.h hs⟩
theorem T7(K:PySem.W.Frag)(n:Nat){k:Nat}{u:TGs}(h:JGs X es u)(c:X.calm=true:=by rfl)(b:X.K=K:=by rfl)(d:(assignEach es X.env).length=n:=by rfl)(a:(assignEach es X.env).findIdx? (·.1)=none:=by rfl):JG X (.Tuple es k pos) (a7D K n u):=⟨b4s K c h.h b d a⟩
theorem a7w{i:Expr}{a:TE}(c:JE X o to)(hi:JE X i a)
  (b:∀v,assign (.Subscript o i pos) X.env v=(do
   let ov <-holding [v] (eval o X.env)
   let iv <-holding [v,ov] (eval i X.env)
   standAt pos
   holding [v,ov,iv] (setItem ov iv v)
   release [v,ov,iv] []):=by intro _;rfl):JG X (.Subscript o i pos) (b8G to a b5I):=⟨b6D c.h hi.h b1n b⟩
theorem K7(K:PySem.W.Frag){tg l:Expr}{tl:TE}(b:JE X l tl)(a:X.K=K:=by rfl):JI X tg l (b2U K tl):=⟨b1U K b.h a⟩
theorem T5(K:PySem.W.Frag){tg l:Expr}{tl:TE}(b:JE X l tl)(a:X.K=K:=by rfl):JI X tg l (b7x K tl):=⟨b4p K b.h a⟩
theorem a0q(K:PySem.W.Frag){h:Nat}{i:Pos}(f:Gl X "zip")(g:X.mg "zip"=none)(e:JA X [a,b] t)(d:X.K=K:=by rfl)(hs:starEach [a,b] X.env=[(false,eval a X.env),(false,eval b X.env)]:=by rfl)(c:starEach [b] X.env=[(false,eval b X.env)]:=by rfl) :
  JI X (.Tuple es h i) (.Call (.Name "zip" p) [a,b] [] pos) (b7w K t):=⟨b4o K f g e.h d hs c⟩
theorem E8{tg:Expr}(c:Gl X "range")(d:X.mg "range"=none)(b:JA X [a] t)(hs:starEach [a] X.env=[(false,eval a X.env)]:=by rfl):JI X tg (.Call (.Name "range" p) [a] [] pos) (b5X t):=⟨a9Q c d b.h hs⟩
theorem G2:JF X [] a0d:=⟨b4n⟩
theorem a2N(h:JT X c tA):JF X [c] tA:=⟨b4m h.h⟩
theorem D6{tg b c:Expr}{f:List Expr}{scope:Scope}{N:List Str}{src:List (Option Nat)}{j:TI}{g:TG}{i:TT}(hi:JI X tg b j)(e:C7 scope X.env.scope=true)(d:L4 N src X.N scope=true)(h:a4F scope=true)
  (m:∀a C s H ex,JG (X.blk N scope a C s H ex) tg g) (n:∀a C s H ex,JF (X.blk N scope a C s H ex) f i) (l:∀a C s H ex,JE (X.blk N scope a C s H ex) c te)
  (k:X.calm=true:=by rfl) (hs:∀x,foldedSetIterable b X.env x=pure x:=by intro _;rfl):JE X (.ListComp c [⟨tg,b,f,0⟩] scope pos) (a5E src j g i te) :=
 ⟨b4y k hi.h e d h (λ_ _ _ _ _=>(m _ _ _ _ _).h) (λ_ _ _ _ _=>(n _ _ _ _ _).h) (λ_ _ _ _ _=>(l _ _ _ _ _).h) hs⟩
variable {st:Stmt}{sts:List Stmt}{u v:TS}
theorem C6:JB X [] b5v:=⟨b4g⟩
theorem A3(h1:JS X st u)(h2:JB X sts v):JB X (st::sts) (b6i u v):=⟨b1J h1.h h2.h⟩
theorem A4(h1:JS X st u):JB X [st] u:=⟨b4f h1.h⟩
theorem b2H:JS X (.Break pos) b1c:=⟨b1O⟩
theorem A9(a:JE X e te):JS X (.Return (some e) pos) (b6j te):=⟨b6w a.h⟩
theorem O8(a:JE X e te)(hs:swapsWith e none pos.line X.env=pure false:=by rfl):JS X (.Expr e pos) (b5x te):=⟨b4i a.h hs⟩
theorem G0{A B:List Stmt}(d:JT X c tA)(a:JB X A u)(b:JB X B v):JS X (.If c A B pos) (b8a tA u v):=⟨b8o d.h a.h b.h⟩
theorem b2E{B:List Stmt}(b:JT X c tA)(a:JB X B v)(hp:PassesOwn (model X.prog X.w) X.A X.env X.xe:=by exact PassesOwn.never):JS X (.While c B [] pos) (b0W tA v):=⟨b1K hp b.h a.h⟩
theorem J7{tg a:Expr}{B:List Stmt}{b:TI}{g:TG}(hi:JI X tg a b)(e:JG X tg g)(c:JB X B v)(hp:PassesOwn (model X.prog X.w) X.A X.env X.xe:=by exact PassesOwn.never)(d:X.calm=true:=by rfl)
  (hs:∀x,foldedSetIterable a X.env x=pure x:=by intro _;rfl):JS X (.For tg a B [] pos) (b8b b g v):=⟨b6x hp d hi.h e.h c.h hs⟩
theorem B3{i:Nat}{x:Str}{pos':Pos}(a:X.N.Nodup)(hi:X.N[i]?=some x)(d:Loc X.env.scope x)(b:JE X e te)(hs:swapsWith e (some (.Name x pos')) pos.line X.env=pure false:=by rfl)
  (c:X.fn x=true∨X.env.scope.names.lookup x=some .local:=by first|exact .inl rfl|exact .inr rfl|assumption):JS X (.Assign [.Name x pos'] e pos) (a9x te (B0 i)):=⟨b6v a hi d b.h hs c⟩
theorem a8M{i:Nat}{y:Str}{m c:Pos}{tg b d:Expr}{e:List Expr}{scope:Scope}{N:List Str}{src:List (Option Nat)}{o:TI}{g:TG}{n:TT}
  (p:X.N.Nodup) (w:X.N[i]?=some y) (v:Loc X.env.scope y) (hi:JI X tg b o) (h:C7 scope X.env.scope=true) (f:L4 N src X.N scope=true) (k:a4F scope=true)
  (t:∀a C s H ex,JG (X.blk N scope a C s H ex) tg g) (u:∀a C s H ex,JF (X.blk N scope a C s H ex) e n) (j:∀a C s H ex,JE (X.blk N scope a C s H ex) d te)
  (q:X.calm=true:=by rfl) (l:swapsWith (.ListComp d [⟨tg,b,e,0⟩] scope pos) (some (.Name y m)) c.line X.env=pure true:=by rfl) (hs:∀x,foldedSetIterable b X.env x=pure x:=by intro _;rfl)
  (r:X.fn y=true∨X.env.scope.names.lookup y=some .local:=by first|exact .inl rfl|exact .inr rfl|assumption) :
  JS X (.Assign [.Name y m] (.ListComp d [⟨tg,b,e,0⟩] scope pos) c) (a9x (a5E src o g n te) (B0 i)) :=
 ⟨b4h p w v q hi.h h f k (λ_ _ _ _ _=>(t _ _ _ _ _).h) (λ_ _ _ _ _=>(u _ _ _ _ _).h) (λ_ _ _ _ _=>(j _ _ _ _ _).h) l hs r⟩
theorem a4U{tg:Expr}{g:TG}(a:JE X e te)(b:JG X tg g)(hs:swapsWithSole [tg] e pos.line X.env=pure false:=by rfl)(hw:swappedStores [tg] e X.env=pure none:=by rfl)
  (h1:(assignEach [tg] X.env).map (·.2)=[assign tg X.env]:=by rfl):JS X (.Assign [tg] e pos) (a9x te g):=⟨b6z a.h b.h hs hw h1⟩
end
section
variable {P:Program}{w:World}{K:PySem.W.Frag}{mg:Str->Option Value}{base:Heap}
theorem FunAt.okJ{x:Str}{st:Stmt}{N ps:List Str}{k:Nat}{sp:Sp}(F:FunAt K mg x st ps)(S:FnScope N ps (A2 st))(c:∀vs H Q E,sp vs H Q E->vs.length=ps.length)
  (b:∀(a:Value) (f:Addr) (A:Around) (outer:List Env) (s:Shared) (H:Hp) (vs:List V) (Q:VK) (E:XK),Room k (A.deeper (envOfC x (A2 st) s.heap.objs.size f a))->sp vs H Q E ->
   ∃t,JB (K1 CX0 P w K mg base N x (A2 st) f a A outer s H E).nox (E1 st) t/\t {nx:=λ_ H'=>Q .non H',rt:=Q} (start N vs) H):Ok P w K mg base x (k+1) ps sp :=
 F.ok S c λa f A outer s H vs Q E e h=>let ⟨t,d,r⟩:=b a f A outer s H vs Q E e h;⟨t,d.h,r⟩
theorem Fun.okJ{x qual:Str}{st:Stmt}{f:Addr}{fd:FuncData}{N ps:List Str}{k:Nat}{sp:Sp}(F:Fun K x qual st f fd)(S:FnScope N ps (A2 st))(c:∀vs H Q E,sp vs H Q E->vs.length=ps.length)
  (b:∀(a:Value) (A:Around) (outer:List Env) (s:Shared) (H:Hp) (vs:List V) (Q:VK) (E:XK),Room k (A.deeper (envOfC qual (A2 st) s.heap.objs.size f a))->sp vs H Q E ->
   ∃t,JB (K1 CX0 P w K mg base N qual (A2 st) f a A outer s H E).nox (E1 st) t/\t {nx:=λ_ H'=>Q .non H',rt:=Q} (start N vs) H):FnOk P w K mg base CX0 (k+1) f fd ps sp :=
 F.ok S c λa A outer s H vs Q E e h=>let ⟨t,d,r⟩:=b a A outer s H vs Q E e h;⟨t,d.h,r⟩
end
def a8m(K:PySem.W.Frag):Sp:=λvs H Q _=>∃(a:Addr) (ns:List Int),vs=[.ref a]/\SqL K H a (ns.map V.int)/\ns.length<=63/\∀H',Q (.bl true) H'
theorem law_walk{l:PySem.W.OpenLaw}{q:Program}{b:List Str}{XP:(Str->Option Value)->Heap->Prop}{e:World->Heap->Prop}{d:DefRec}{K:Params->PySem.W.Frag}(k:Nat)(o:l.most=some 63)(c:d.params.defaults=[])(p:Room k callerA)
  (j:∀(w:World) (h:Heap),e w h->(K w.params).In h)
  (F:∀(w:World) (mg:Str->Option Value) (g:Addr) (h:Heap),(K w.params).In h->h.Ns mainGlobals mg->mg d.name=some (.ref g) ->
   ∃fd:FuncData,(∀(s:Shared) (u:Value),BindsTo s fd ⟨[u],[]⟩ [("_law_script",u)])/\∀base:Heap,(K w.params).In base->base.Ns mainGlobals mg->FnOk l.prog w (K w.params) mg base CX0 k g fd ["_law_script"] (a8m (K w.params))) :
  PySem.W.WalkO q b XP e l.row.toRowW d [] (λf vs=>PySem.call f vs) :=
 L2.walk_of (n:=63) (k:=k) (x:="_law_script") (CX:=λ_=>CX0) (sp:=λw=>a8m (K w.params)) o (by decide) c p j F (λ_ _ a r m _ i=>⟨a,r,rfl,i,m,λ_=>rfl⟩) λ_ _ _ _ _ z=>z
def Its(H:Hp)(vs:List V)(rss:LLI):Prop:=vs.length=rss.length/\∀(i:Nat) (v:V),vs[i]?=some v->∃r,rss[i]?=some r/\IT H v r
theorem Its.same{H H':Hp}{vs:List V}{rss:LLI}(h:Its H vs rss)(s:Same H H'):Its H' vs rss:=⟨h.1,λi v e=>let ⟨r,e1,e2⟩:=h.2 i v e;⟨r,e1,e2.same s⟩⟩
theorem Its.nil{H:Hp}:Its H [] []:=⟨rfl,λi v e=>by simp at e⟩
theorem Its.snoc{H:Hp}{vs:List V}{rss:LLI}{v:V}{r:List Int}(h:Its H vs rss)(d:IT H v r):Its H (vs++[v]) (rss++[r]):=by
 refine⟨by simp[h.1],λi u e=>?_⟩;by_cases hi:i<vs.length
 .rw[bo hi]at e;obtain⟨q,b,c⟩:=h.2 i u e;exact⟨q,by rw[bo (by rw[<-h.1];exact hi)];exact b,c⟩
 .rw[bb (by omega)]at e;have a:i-vs.length=0:=by
   have:=(aC.mp e).1;simp at this;omega
  rw[a]at e;simp at e;subst e;refine⟨r,?_,d⟩;rw[bb (by rw[<-h.1];omega),<-h.1,a];rfl
theorem Its.mem{H:Hp}{vs:List V}{rss:LLI}{v:V}{i:Nat}(h:Its H vs rss)(e:vs[i]?=some v):∃r,r∈rss/\rss[i]?=some r/\IT H v r :=
 let ⟨r,e1,e2⟩:=h.2 i v e
 ⟨r,aH e1,e1,e2⟩
theorem a9q{K:PySem.W.Frag}{src:List (Option Nat)}{σ caps:St}{Q:VK}{k1 k2:Bool}{a b:Addr}{xs ys:List Int}{H:Hp}{te:TE}(f:Int->Int->V)(t:xs.length<=1000)
  (c:∀H',Same H H'->SqK k1 K H' a (xs.map V.int)/\SqK k2 K H' b (ys.map V.int))
  (g:B5 src σ=none::none::caps) (n:∀x y H1 o,x∈xs->y∈ys->Same H H1->o (f x y) H1->te (some (.int x)::some (.int y)::caps) H1 o)
  (hd:∀H1 p,Same H H1->H1 p=none->Q (.ref p) (upd H1 p (.lst (List.zipWith f xs ys)))) :
  J9 src (a7D K 2 (a0i (B0 0) (a0i (B0 1) b0m))) a0d te σ Q (Itz K k1 k2 a b) H:=by
 have u:(1000:Nat)<=sizeLine:=by rw[ba];decide
 refine X4 (xs:=xs.map V.int) (zs:=ys.map V.int) (by rw[K6];omega) (λi zs H'=>Same H H'/\zs=(List.zipWith f xs ys).take i) ⟨Same.refl H,by simp⟩ (λi zs H' _ _ h=>⟨(c H' h.1).1,(c H' h.1).2,by rw[h.2];exact cC _ _⟩) ?_ ?_
 .rintro i x z zs H' p hx hy ⟨s,rfl⟩ hp;obtain⟨m,k,q⟩:=P5 hx;obtain⟨d,l,r⟩:=P5 hy;subst q r;clear hx hy;have s':Same H (upd H' p (.tup [.int m,.int d])):=s.upd hp;refine⟨p,[.int m,.int d],rfl,SqT.of A0,rfl,.int m,[.int d],rfl,.int d,[],rfl,rfl,?_⟩;rw[g];show Sub _ (some (.int m)::some (.int d)::caps)/\_;refine⟨⟨rfl,λj v e=>?_⟩,?_⟩
  .match j,e with
   |0,e=>cases e
   |1,e=>cases e
   |j+2,e=>exact e
  .exact n m d _ _ (aH k) (aH l) s' ⟨s',(L5 f k l).symm⟩
 .rintro zs H' ⟨s,rfl⟩ p hp;have e:(List.zipWith f xs ys).take (min (xs.map V.int).length (ys.map V.int).length)=List.zipWith f xs ys:=by
   rw[K6,K6,bZ];rw[cI];exact aq _
  rw[e];exact hd H' p s hp
theorem a8a{K:PySem.W.Frag}{src:List (Option Nat)}{σ caps:St}{Q:VK}{a:Addr}{vs:List V}{rss:LLI}{H:Hp}{te:TE}(f:List Int->V)(m:vs.length<=1000)(b:∀H',Same H H'->SqT K H' a vs)(k:Its H vs rss)(c:B5 src σ=none::caps)
  (g:∀v r H1 j,r∈rss->IT H1 v r->Same H H1->(∀H2,Same H1 H2->j (f r) H2)->te (some v::caps) H1 j) (hd:∀H1 p,Same H H1->H1 p=none->Q (.ref p) (upd H1 p (.lst (rss.map f)))):J9 src (B0 0) a0d te σ Q (Itt K a) H:=by
 have n:(1000:Nat)<=sizeLine:=by rw[ba];decide
 refine a0P (xs:=vs) (by omega) (λi ys H'=>Same H H'/\ys=(rss.take i).map f) ⟨Same.refl H,by simp⟩ (λi ys H' _ h=>⟨b H' h.1,by rw[h.2,aj];exact cC _ _⟩) ?_ ?_
 .rintro i x ys H' hx ⟨s,rfl⟩;obtain⟨r,l,d,e⟩:=k.mem hx;show Sub _ ((B5 src σ).set 0 (some x))/\_;rw[c];refine⟨Sub.one,g x r H' _ l (e.same s) s λH2 s2=>⟨s.trans s2,?_⟩⟩;rw[bB,d];simp
 .rintro ys H' ⟨s,rfl⟩ p hp;rw[k.1,bJ];exact hd H' p s hp
theorem b0I{K:PySem.W.Frag}{src:List (Option Nat)}{σ caps:St}{Q:VK}{k1 k2:Bool}{a b:Addr}{xs:List Int}{us:List V}{rss:LLI}{H:Hp}{te:TE}(f:Int->List Int->V)(w:xs.length<=1000)
  (c:∀H',Same H H'->SqK k1 K H' a (xs.map V.int)/\SqK k2 K H' b us) (q:Its H us rss)
  (d:B5 src σ=none::none::caps) (n:∀x v r H1 o,x∈xs->r∈rss->IT H1 v r->Same H H1->o (f x r) H1->te (some (.int x)::some v::caps) H1 o)
  (hd:∀H1 p,Same H H1->H1 p=none->Q (.ref p) (upd H1 p (.lst (List.zipWith f xs rss)))) :
  J9 src (a7D K 2 (a0i (B0 0) (a0i (B0 1) b0m))) a0d te σ Q (Itz K k1 k2 a b) H:=by
 have y:(1000:Nat)<=sizeLine:=by rw[ba];decide
 refine X4 (xs:=xs.map V.int) (zs:=us) (by rw[K6];omega) (λi zs H'=>Same H H'/\zs=(List.zipWith f xs rss).take i) ⟨Same.refl H,by simp⟩ (λi zs H' _ _ h=>⟨(c H' h.1).1,(c H' h.1).2,by rw[h.2];exact cC _ _⟩) ?_ ?_
 .rintro i x z zs H' p hx hy ⟨s,rfl⟩ hp;obtain⟨k,g,t⟩:=P5 hx;subst t;obtain⟨r,u,l,m⟩:=q.mem hy;have s':Same H (upd H' p (.tup [.int k,z])):=s.upd hp;refine⟨p,[.int k,z],rfl,SqT.of A0,rfl,.int k,[z],rfl,z,[],rfl,rfl,?_⟩;rw[d];show Sub _ (some (.int k)::some z::caps)/\_;refine⟨⟨rfl,λj v e=>?_⟩,?_⟩
  .match j,e with
   |0,e=>cases e
   |1,e=>cases e
   |j+2,e=>exact e
  .exact n k z r _ _ (aH g) u (m.same s') s' ⟨s',(L5 f g l).symm⟩
 .rintro zs H' ⟨s,rfl⟩ p hp;have e:(List.zipWith f xs rss).take (min (xs.map V.int).length us.length)=List.zipWith f xs rss:=by
   rw[K6,q.1,bZ];rw[cI];exact aq _
  rw[e];exact hd H' p s hp
theorem a7j{src:List (Option Nat)}{σ caps:St}{Q:VK}{n:Nat}{H:Hp}{d:TT}(t:Nat->Bool)(f:n<=1000)(a:B5 src σ=none::caps)(b:∀(i:Nat) H1 (c:Bool->Hp->Prop),i<n->Same H H1->(∀H2,Same H1 H2->c (t i) H2)->d (some (.int i)::caps) H1 c)
  (hd:∀H1 p,Same H H1->H1 p=none->Q (.ref p) (upd H1 p (.lst ((((List.range n).filter t).map λ(i:Nat)=>(i:Int)).map V.int)))):J9 src (B0 0) d (a0a 0) σ Q (Itr 0 n) H:=by
 refine V7 f a (λi ys H'=>Same H H'/\ys=(((List.range i).filter t).map λ(i:Nat)=>(i:Int)).map V.int) ⟨Same.refl H,rfl⟩ (λi ys H' h=>by rw[h.2,aj,aj];exact bf (bA _ _) (by simp)) ?_ ?_
 .rintro i ys H' hi ⟨s,rfl⟩;refine b i H' _ hi s λH2 s2=>?_;rw[fT,List.filter_append];cases e:t i with
  |true=>exact⟨_,rfl,s.trans s2,by simp[e]⟩
  |false=>exact⟨s.trans s2,by simp[e]⟩
 .rintro ys H' ⟨s,rfl⟩ p hp;exact hd H' p s hp
def b8M(i j:Int):Prop:=i.natAbs<2 ^ 1000/\j.natAbs<2 ^ 1000
theorem b4D{X:Cx}:OpR X (binaryOp .Mult) (rI b8M λi j=>.int (i*j)):=opI λ_ _ _ _ _ _ _ a q=>mul_int q (.of_le (intBits_le_iff.mpr a.1) (intBits_le_iff.mpr a.2) (by decide))
theorem b7o{X:Cx}{a b:Expr}{ta tb:TE}{pos:Pos}(c:JE X a ta)(d:JE X b tb):JE X (.BinOp a .Mult b pos) (tOp (rI b8M λi j=>.int (i*j)) ta tb):=⟨V8 b4D c.h d.h⟩
end L2
namespace L2
open PySem PySem.Spec PyProof.Rows PySem.W
noncomputable def a1L(p C:Addr):HO:=.ext λh=>∃o,h.get? p=some o/\o.cls=.ref C
theorem ObjOk.there{P:Program}{w:World}{H:Hp}{h:Heap}{a:Addr}{o:HO}(x:ObjOk P w H h a o):∃u,h.get? a=some u:=by
 induction o with
 |lst xs=>obtain⟨_,_,_,_,e⟩:=x;exact⟨_,e⟩
 |tup xs=>obtain⟨_,_,_,b,e,_⟩:=x;exact⟨_,e⟩
 |dK kvs=>obtain⟨_,_,_,_,o,_,_,e,_⟩:=x;exact⟨_,e⟩
 |dT kvs=>obtain⟨_,_,_,_,o,_,_,e,_⟩:=x;exact⟨_,e⟩
 |set S n=>obtain⟨o,_,_,_,e,_⟩:=x;exact⟨_,e⟩
 |ins C dx fs=>obtain⟨_,_,_,e,_⟩:=x;exact⟨_,e⟩
 |own y=>obtain⟨_,e⟩:=x;exact⟨_,e⟩
 |xd fs=>obtain⟨_,⟨_,_,_,e,_⟩,_⟩:=x;exact⟨_,e⟩
 |rng lo hi=>obtain⟨_,_,_,e⟩:=x;exact⟨_,e⟩
 |frz b u c=>obtain⟨e,_⟩:=x;exact⟨_,e⟩
 |tbl ps=>exact⟨_,x⟩
 |met f y=>exact⟨_,x⟩
 |ext φ=>exact x.2.1
def Cov(l:List Env)(H:Hp)(h0 h B:Heap):Prop:=∀b o,h.get? b=some o->b∉frs l->(H b≠none∨∃o',h0.get? b=some o')->B.get? b=some o
theorem a0M{P:Program}{w:World}{l:List Env}{H H':Hp}{h0 h1 h2 B base:Heap}(f:Un (frs l) [] H H' h0 h1)(j:HOk P w H' h1)(d:Cov l H' h0 h1 B)(st:B.StaysIn h2)(up:h1.UpToSlots h2)(p:h1.FunFrames base l)(s:∀b∈frs l,H' b=none) :
  Un (frs l) [] H H' h0 h2/\HOk P w H' h2/\Cov l H' h0 h2 B:=by
 have v:∀b,H' b≠none->b∉frs l:=λb n c=>n (s b c);refine⟨⟨?_,?_,f.free,?_,f.tups,f.frzs,f.tbls⟩,?_,?_⟩
 .intro b o e n c hx;exact st b o (d b o (f.keep b o e n c hx) c (.inr ⟨o,e⟩))
 .intro b o e n c hx;obtain⟨sl,q⟩:=f.slot b o e n c hx;obtain⟨_,t,i,nf⟩:=p.mem c;rw[q]at i;cases i;obtain⟨k,h⟩:=up b _ q nf;exact⟨k,h⟩
 .intro b o e hx;obtain⟨g,q⟩:=f.there b o e hx;by_cases c:b∈frs l
  .obtain⟨_,t,i,nf⟩:=p.mem c;rw[q]at i;cases i;obtain⟨k,h⟩:=up b _ q nf;exact⟨_,h⟩
  .exact⟨g,st b g (d b g q c (.inr ⟨o,e⟩))⟩
 .intro a o e;refine(j a o e).stay (λb u c q=>?_) (λ_ q=>q) λ_ _ q=>q;have m:H' b≠none:=by
   rcases c with rfl|c
   .rw[e];intro z;cases z
   .rw[c];intro z;cases z
  exact st b u (d b u q (v b m) (.inl m))
 .intro b o e c ho;have ex:∃g,h1.get? b=some g:=by
   rcases ho with m|⟨o',q⟩
   .cases eq:H' b with
    |none=>exact absurd eq m
    |some u=>exact(j b u eq).there
   .exact f.there b o' q (by simp)
  obtain⟨g,q1⟩:=ex;have h:=d b g q1 c ho;have r:=st b g h;rw[e]at r;cases r;exact h
def CXE(P:Program)(w:World):CXT:=λouter H s E e s' =>
 ∃(p C:Addr) (H':Hp) (B:Heap) (a0:Value),e=.ref p/\s'.os=s.os/\AllBare s'.gens/\Un (frs outer) [] H H' s.heap s'.heap/\HOk P w H' s'.heap /\
  H' p=none/\Heap.FlyingW B outer p (.ref C) a0 s'.heap/\Cov outer H' s.heap s'.heap B/\E (.ref C) none H'
theorem b8N{K:PySem.W.Frag}{h:Heap}{mg:Str->Option Value}{x:Str}{C:Addr}{bmB:List Value}{newId:String}(X:K.In h)(f:mg x=some (.ref C))(q:excIn K C bmB newId=true):OwnCls x C bmB newId mg h:=by
 refine⟨f,?_⟩;unfold excIn at q;split at q
 .rename_i dd cd sl ho;split at q
  .rename_i C' bm k0 k1 k2 k3 n k5 hmro hs;simp only[aQ,a_,fq]at q;obtain⟨⟨⟨⟨⟨rfl,rfl⟩,a⟩,g⟩,b⟩,c⟩:=q;obtain⟨nm,bs,i,j,qn,hd,sn,sub,ab,col,e⟩:=cd;dsimp only at hmro a b c;subst hmro a;have d:sl=#[k0,k1,k2,k3,some (.builtin n),k5]:=by
    obtain⟨l⟩:=sl;simp only at hs;rw[hs]
   subst d;exact⟨bm,j,nm,qn,bs,hd,sn,sub,ab,col,dd,k0,k1,k2,k3,k5,_,X _ _ ho,.of_isNs (isNs_of_in X b),nsMap_none_of_in X b c,tail_of_in X g⟩
  .cases q
 .cases q
def b0Z(C:Addr)(E:XK)(t:TA):TS:=λ_ σ H=>t σ H λvs H1=>vs.length<=sizeLine/\E (.ref C) none H1
theorem b1N{P:Program}{w:World}{K:PySem.W.Frag}{mg:Str->Option Value}{base:Heap}{N:List Str}{qual:Str}{scope:Scope}{f:Addr}{cd:Value}{A:Around}{outer:List Env}{a:Shared}{i:Hp}{E:XK}
  {x:Str}{C:Addr}{bmB F:List Value}{B X newId V g U:String}{e:Expr}{es:List Expr}{t:TA}{np cpos pos:Pos}
  (O:OwnCls x C bmB newId mg base) (Fn:ExcBaseFacts X newId U F) (J:bmB.contains (.type X)=true) (Y:ExcBaseFacts B V g bmB)
  (hg:Gl (K1 (CXE P w) P w K mg base N qual scope f cd A outer a i E) x)
  (ha:PA (K1 (CXE P w) P w K mg base N qual scope f cd A outer a i E) (e::es) t) (hd:(x==("__debug__" : Str))=false:=by decide)
  (y:starEach (e::es) (envOfC qual scope a.heap.objs.size f cd)=(false,eval e (envOfC qual scope a.heap.objs.size f cd))::starEach es (envOfC qual scope a.heap.objs.size f cd):=by rfl)
  (S:(backTo cpos (starEach es (envOfC qual scope a.heap.objs.size f cd))).any (·.1)=false:=by rfl) :
  PS (K1 (CXE P w) P w K mg base N qual scope f cd A outer a i E) (.Raise (some (.Call (.Name x np) (e::es) [] cpos)) none pos) (b0Z C E t):=by
 intro pins s σ H D I h;obtain⟨tl,NC,nm,q,bs,m,sn,sub,ab,col,dd,k0,k1,k2,k3,k5,mN,hC,hN,R,T⟩:=O.obj;refine wpAny_Raise_call_subU (C:=C) (nm:=nm) (q:=q) (N:=NC) (bs:=bs) (bm:=tl) (hdct:=m) (sn:=sn) (sub:=sub) (ab:=ab) (col:=col) (dd:=dd) (k0:=k0) (k1:=k1) (k2:=k2) (k3:=k3) (k5:=k5)
  Fn J Y (mN:=mN) (T.hasType Y.hasBase) (I.ok.hd rfl) (by show(backTo cpos (starEach (e::es) (envOfC qual scope a.heap.objs.size f cd))).any _=false;rw[y];show(false || (backTo cpos (starEach es (envOfC qual scope a.heap.objs.size f cd))).any (·.1))=false;rw[S];rfl) R (O7 I hg O.bound ⟨rfl,?_⟩ hd)
 have k:=ha cpos pins s σ H _ I h;have L:starEach (e::es) (K1 (CXE P w) P w K mg base N qual scope f cd A outer a i E).env=_:=y;rw[L]at k⊢;refine fO (cw k (λus s2 ⟨vs,H1,c,r,hl,q⟩=>⟨rfl,by rw[<-r.length];exact hl,c.bk _ _ hC,hN.keeps c.bk,T.keeps c.bk,λh' p Q=>?_⟩) λ_ _ z=>z);have M:∀env∈(envOfC qual scope a.heap.objs.size f cd::outer),∀b,env.frame=some b->b∈frs (envOfC qual scope a.heap.objs.size f cd::outer):=λenv y b d=>b_.mpr ⟨env,y,d⟩;refine wpAny_leaves_madeW (base:=hideAll s2.heap (frs (envOfC qual scope a.heap.objs.size f cd::outer))) (h:=s2.heap) c.ok.frames rfl (λb o q=>of_hideAll _ q) (funFrames_hide c.stack M) Q λh2 t x1 x2 x3 x4=>?_;have v:∀b∈frs outer,b∈frs (envOfC qual scope a.heap.objs.size f cd::outer):=λb d=>by
  obtain⟨env,h1,h2⟩:=b_.mp d;exact b_.mpr ⟨env,ak _ h1,h2⟩
 have n:∀b,b∉frs outer->b≠a.heap.objs.size->b∉frs (envOfC qual scope a.heap.objs.size f cd::outer):=λb h1 h2 h3=>by
  obtain⟨env,q1,q2⟩:=b_.mp h3;rcases aI.mp q1 with rfl|q1
  .exact h2 (bC q2).symm
  .exact h1 (b_.mpr ⟨env,q1,q2⟩)
 have G:Cov outer H1 a.heap s2.heap (hideAll s2.heap (frs (envOfC qual scope a.heap.objs.size f cd::outer))):=λb o eb nb d=>by
  refine hideAll_get _ eb (n b nb λz=>?_);subst z;rcases d with d|⟨o',d⟩
  .exact d c.free
  .exact absurd (aG d) (bW _)
 have hp:H1 p=none:=by
  cases eq:H1 p with
  |none=>rfl
  |some u =>
   obtain⟨o,Z⟩:=(c.hok p u eq).there;rw[Q.new]at Z;cases Z
 obtain⟨U2,W,j⟩:=a0M (P:=P) (w:=w) (l:=outer) (H:=i) (H':=H1) (h0:=a.heap) (h1:=s2.heap) (h2:=h2) c.base c.hok G x1.1 ((Heap.UpToSlots.of_keeps Q.keeps).trans x4) c.funs λb d=>c.stkFree b (v b d);exact⟨p,C,H1,_,.ref t,rfl,c.os,c.bare,U2,W,hp,x1,j,q⟩
def XP(X:Cx)(pins:List (Addr×Obj))(R:St->Addr->Hp->Prop)(e:Value)(s':Shared):Prop :=
 ∃(σ1:St) (H1:Hp) (s1:Shared) (p C:Addr) (H':Hp) (B:Heap) (a0:Value),e=.ref p/\Inv X pins σ1 H1 s1/\s'.os=s1.os/\AllBare s'.gens/\Un (frs X.stack) [] H1 H' s1.heap s'.heap/\HOk X.prog X.w H' s'.heap /\
  H' p=none/\Heap.FlyingW B X.stack p (.ref C) a0 s'.heap/\Cov X.stack H' s1.heap s'.heap B/\R σ1 C H'
abbrev TX:=Ends->(St->Addr->Hp->Prop)->St->Hp->Prop
def PSx(X:Cx)(sts:List Stmt)(t:TX):Prop :=
 ∀(pins:List (Addr×Obj)) (s:Shared) (σ:St) (H:Hp) (D:Ends) (R:St->Addr->Hp->Prop),Inv X pins σ H s->t D R σ H->wpAny (model X.prog X.w) X.A (execs sts X.env) (SP X pins D) (XP X pins R) s
structure OkE(P:Program)(w:World)(K:PySem.W.Frag)(mg:Str->Option Value)(base:Heap)(x:Str)(k:Nat)(ps:List Str)(sp:Sp):Prop where
 ex:∃f fd,mg x=some (.ref f)/\PySem.W.keepIn K (.ref f)=true/\Binds K fd ps []/\FnOk P w K mg base (CXE P w) k f fd ps sp
theorem FunAt.okE{P:Program}{w:World}{K:PySem.W.Frag}{mg:Str->Option Value}{base:Heap}{x:Str}{st:Stmt}{N ps:List Str}{k:Nat}{sp:Sp}(F:FunAt K mg x st ps)(S:FnScope N ps (A2 st))(e:∀vs H Q E,sp vs H Q E->vs.length=ps.length)
  (b:∀(a:Value) (f:Addr) (A:Around) (outer:List Env) (s:Shared) (H:Hp) (vs:List V) (Q:VK) (E:XK),Room k (A.deeper (envOfC x (A2 st) s.heap.objs.size f a))->sp vs H Q E ->
   ∃t,JB (K1 (CXE P w) P w K mg base N x (A2 st) f a A outer s H E) (E1 st) t/\t {nx:=λ_ H'=>Q .non H',rt:=Q} (start N vs) H):OkE P w K mg base x (k+1) ps sp:=by
 obtain⟨f,fd,h1,h2,i⟩:=F.ex;refine⟨f,fd,h1,h2.kp,i,?_⟩;obtain⟨oc,od,kV,g,pm,an,a,ct,m,rfl,l,c⟩:=h2.ex;refine b5Z l c S e λA outer s H vs Q E j d=>?_;obtain⟨t,h,q⟩:=b a f A outer s H vs Q E j d;exact⟨t,h.h,q⟩
section
variable {M:Model}{A:Around}{E:Value->Shared->Prop}
structure ClsX(K:PySem.W.Frag)(C:Addr)(above:List Value):Prop where
 ex:∃nm q N bs bm hdct sn sub ab col dd k0 k1 k2 k3 k5 newId,K.lookup C=some (excClassObj nm q C N bs bm hdct sn sub ab col dd k0 k1 k2 k3 k5 newId)/\bm.contains (.type "BaseException")=true/\∀v∈above,bm.contains v=true
theorem a3f{nm q u L:Str}{C N D y:Addr}{bs bm n b:List Value}{hdct i:Bool}{sn v:List Str}{sub l:List Value}{ab m:Bool}{col j:Option Bool}{dd o:Option Addr}{k0 k1 k2 k3 k5 G H I J K:Option Value}{newId a:String}
  {h:Heap}{g:Array GenState}{d:Drawn}{t:Nat}{os:OsState}{e:Addr}{x:Obj}{Q:Bool->Shared->Prop}
  (z:h.get? C=some (excClassObj nm q C N bs bm hdct sn sub ab col dd k0 k1 k2 k3 k5 newId)) (w:h.get? D=some (excClassObj u L D y n b i v l m j o G H I J K a)) (B:h.get? e=some x) (k:x.cls=.ref C)
  (c:b.contains (.type "BaseException")=true) (s:bm.contains (.ref D)=true) (F:Q true ⟨h,g,d,t,os⟩):wpAny M A (excMatches (.ref e) (.ref D)) Q E ⟨h,g,d,t,os⟩:=by
 have p:(Value.ref D::b).contains (.type "BaseException")=true:=by rw[dY,c,Bool.or_true]
 have r:(Value.ref C::bm).contains (.ref D)=true:=by rw[dY,s,Bool.or_true]
 have f:=tc_notTuple;unfold excMatches
 repeat (first | (with_reducible refine dj B ?_;rw[k])|with_reducible refine dj w ?_ | (with_reducible refine eS w ?_;rw[p]) | (with_reducible refine eS z ?_;rw[r])|wp_step)
 exact F
end
section
variable {X:Cx}{pins:List (Addr×Obj)}{σ:St}{H1 H':Hp}{s1 s':Shared}{p C:Addr}{B:Heap}{a0:Value}{h2:Heap}
theorem Inv.land(a:Inv X pins σ H1 s1)(e:s'.os=s1.os)(k:AllBare s'.gens)(g:Un (frs X.stack) [] H1 H' s1.heap s'.heap)(d:HOk X.prog X.w H' s'.heap)(i:s'.heap.FunFrames B X.stack)(c:Cov X.stack H' s1.heap s'.heap B)(st:B.StaysIn h2)(up:s'.heap.UpToSlots h2) :
  Inv X pins σ H' {s' with heap:=h2}:=by
 have j:∀b∈frs X.stack,H' b=none:=λb h=>by
  obtain⟨_,o,l,_⟩:=a.stack.mem h;exact g.free b o l (a.stkFree b h) (by simp)
 obtain⟨U2,f,_⟩:=a0M g d c st up i j;exact a.call' (ch:=[]) e U2 f k (λb z=>absurd z (by simp))
theorem Inv.landX(i:Inv X pins σ H1 s1)(v:s'.os=s1.os)(I:AllBare s'.gens)(D:Un (frs X.stack) [] H1 H' s1.heap s'.heap)(t:HOk X.prog X.w H' s'.heap)(hp:H' p=none)(G:s'.heap.FunFrames B X.stack)(j:Cov X.stack H' s1.heap s'.heap B)(c:Heap.FlyingW B X.stack p (.ref C) a0 h2)(up:s'.heap.UpToSlots h2) :
  Inv X pins σ (upd H' p (a1L p C)) {s' with heap:=h2}:=by
 have H:∀b∈frs X.stack,H' b=none:=λb h=>by
  obtain⟨_,o,s,_⟩:=i.stack.mem h;exact D.free b o s (i.stkFree b h) (by simp)
 obtain⟨U2,y,f⟩:=a0M D t j c.1 up G H;obtain⟨x,d,l⟩:=c.there;have w:p∉frs X.stack:=λh=>by
  obtain⟨_,o,s,nf⟩:=c.2.2.1.mem h;obtain⟨K,vs,_,_,_,g,_,m,_⟩:=c.2.2.2;rw[s]at g;cases g;exact nf vs m
 have r:∀o,s1.heap.get? p≠some o:=λo e=>by
  have:=f p x d w (.inr ⟨o,e⟩);rw[c.2.1]at this;cases this
 have F:Un (frs X.stack) [] H1 (upd H' p (a1L p C)) s1.heap h2:=by
  refine⟨U2.keep,U2.slot,λb o e n J=>?_,U2.there,λb xs e=>?_,λb o u e=>?_,λb ps e=>?_⟩
  .rw[A1 (by rintro rfl;exact r o e)];exact U2.free b o e n J
  .have q:=U2.tups b xs e;rw[A1 (by rintro rfl;rw[hp]at q;cases q)];exact q
  .have q:=U2.frzs b o u e;rw[A1 (by rintro rfl;rw[hp]at q;cases q)];exact q
  .obtain⟨more,q⟩:=U2.tbls b ps e;exact⟨more,by rw[A1 (by rintro rfl;rw[hp]at q;cases q)];exact q⟩
 have A:HOk X.prog X.w (upd H' p (a1L p C)) h2:=λa o e=>by
  by_cases E:a=p
  .subst E;rw[A0]at e;cases e;exact⟨⟨x,d,l⟩,⟨x,d⟩,λM N ⟨o,q1,L⟩ k=>⟨o,k o q1,L⟩⟩
  .rw[A1 E]at e;refine(y a o e).stay (λb u _ q=>q) (λb q=>?_) λb xs q=>?_
   .rw[A1 (by rintro rfl;rw[hp]at q;cases q)];exact q
   .rw[A1 (by rintro rfl;rw[hp]at q;cases q)];exact q
 exact i.call' (ch:=[]) v F A I (λb z=>absurd z (by simp))
end
section
variable {X:Cx}{pins:List (Addr×Obj)}{σ:St}{H:Hp}{s:Shared}
theorem a9Z{M:Model}{A:Around}{E:Value->Shared->Prop}{i:Nat}{n:Str}{pos:Pos}{Q:Unit->Shared->Prop}(I:Inv X pins σ H s)(F:X.N.Nodup)(hi:X.N[i]?=some n)(G:X.env.scope.names.lookup n=some .local)
  (h:∀s',Inv X pins (σ.set i none) H s'->Q () s'):wpAny M A (do bindName X.env n .none;unbindBehindTheSuite X.env n pos) Q E s:=by
 obtain⟨m,B,J⟩:=I.loc;have l:(X.env.scope.kind==.class || (X.env.scope.kind==.module && X.env.locals != X.env.globals))=false:=by rw[I.ok.kind];rfl
 have hiσ:i<σ.length:=by rw[I.len];exact(aC.mp hi).1
 have cne:=I.cne;refine wpAny_nameGoes_keeps G B l λh' v x hs=>?_;obtain⟨S,_,_,K,_⟩:=id B;have f:HOk X.prog X.w H h':=λb N e=>by
  refine(I.hok b N e).stay (λc C u q=>(hs.2 c ?_).trans q) (λ_ q=>q) λ_ _ q=>q;have a:=I.free;rintro rfl;rcases u with z|u
  .rw[<-z,a]at e;cases e
  .rw[a]at u;cases u
 refine h _ ⟨I.ok,I.os,I.bare,⟨λb o e n w r=>?_,λb o e n w r=>?_,I.base.free,λb o e r=>?_,I.base.tups,I.base.frzs,I.base.tbls⟩,⟨_,x,λj y R g t D=>?_⟩,λy c e=>?_,I.free,I.freeC,λp L=>?_,f,by simpa using I.len⟩
 .exact(hs.2 b (aM (aE (aG e) I.ok.above))).trans (I.base.keep b o e n w r)
 .obtain⟨sl,g⟩:=I.base.slot b o e n w r;exact⟨sl,(hs.2 b (aM (aE (aG e) I.ok.above))).trans g⟩
 .obtain⟨o',g⟩:=I.base.there b o e r;exact⟨o',(hs.2 b (aM (aE (aG e) I.ok.above))).trans g⟩
 .by_cases hj:j=i
  .subst hj;rw[fB hiσ]at t;cases t
  .rw[fM (dM hj)]at t;obtain⟨P,O,q⟩:=J j y R g t D;refine⟨P,O,?_⟩;rcases q with⟨k,e⟩|⟨k,c,e,z⟩
   .refine .inl ⟨k,?_⟩;have:y≠n:=λe=>hj (a2B F g (e ▸ hi));simp[this,e]
   .exact .inr ⟨k,c,e,z.sameBut hs (cne y c e)⟩
 .obtain⟨C,z⟩:=I.cell y c e;exact⟨C,z.sameBut hs (cne y c e)⟩
 .obtain⟨e,n,ne,nf,d⟩:=I.pin p L;exact⟨(hs.2 p.1 ne).trans e,n,ne,nf,d⟩
noncomputable abbrev Cx.held(X:Cx)(p:Addr):Cx:={X with A:=X.A.mark (some (.ref p)),calm:=false,xe:=λ_ _=>False}
theorem Inv.held(I:Inv X pins σ H s)(p:Addr):Inv (X.held p) pins σ H s :=
 ⟨⟨I.ok.mod,I.ok.kind,I.ok.glob,I.ok.blt,I.ok.above,I.ok.inj,I.ok.has,I.ok.cab,(λz=>by cases z),I.ok.frames,I.ok.stk,I.ok.exf,I.ok.bs,I.ok.bsz,I.ok.noex,I.ok.exfs,I.ok.funs,I.ok.frf⟩,I.os,I.bare,I.base,I.loc,I.cell,I.free,I.freeC,I.pin,I.hok,I.len⟩
theorem Inv.unheld{p:Addr}(J:X.Ok)(I:Inv (X.held p) pins σ H s):Inv X pins σ H s :=
 ⟨J,I.os,I.bare,I.base,I.loc,I.cell,I.free,I.freeC,I.pin,I.hok,I.len⟩
end
def b0Y(K:PySem.W.Frag)(D:Addr)(j:Nat)(tx:TX)(ts:TS):TS:=λDe σ H=>tx De (λσ1 C H'=>ClsX K C [.ref D]/\∀p,H' p=none->ts {nx:=λσ2 H2=>De.nx (σ2.set j none) H2,rt:=λ_ _=>False} (σ1.set j (some (.ref p))) (upd H' p (a1L p C))) σ H
theorem b1M{X:Cx}{body:List Stmt}{tx:TX}{W:TS}{o n:Str}{np m pos:Pos}{P:Stmt}{a:List Stmt}{j:Nat}{D:Addr}(g:X.stack=X.env::X.outer)(A:X.env.frame=some X.env.locals)(hx:PSx X body tx)
  (hg:Gl X o) (hm:X.mg o=some (.ref D)) (hD:ClsX X.K D []) (S:X.N.Nodup) (U:X.N[j]?=some n) (E:X.env.scope.names.lookup n=some .local)
  (G:∀p,PSs (X.held p) (P::a) W) (hd:(o==("__debug__" : Str))=false:=by decide) :
  PS X (.Try body [.ExceptHandler (some (.Name o np)) (some n) (P::a) m] [] [] pos) (b0Y X.K D j tx W):=by
 intro pins s σ H Y I h;refine wpAny_Try_except (cw (hx pins s σ H Y _ I h) (λf s1 q=>?_) λe s' q=>?_)
 .cases f with
  |next=>exact c_ q
  |brk=>exact q
  |cont=>exact q
  |ret v=>exact q
 .obtain⟨σ1,H1,s1,p,C,H',B,a0,rfl,I1,hos,hbare,hU,hok,hp,fl,cov,hC,k⟩:=q;have R:=fl.2.2.1;have l:=fl;rw[g]at l;refine wpAny_looks_onW (L:=X.env.locals) (by rw[<-g];exact I1.ok.frames) A l λh4 d N=>?_;refine wpAny_landsW d λh5 b c=>?_;rw[<-g]at b;have c:=N.trans c;have t:Inv X pins σ1 H' {s' with heap:=h5}:=I1.land hos hbare hU hok R cov b.1 c;refine wpAny_handleBy_cons (codeAny_handlers_test ?_) (by intro q;cases q);refine O7 (X:=X.held p) (t.held p) hg hm ?_ hd;obtain⟨oe,F,x⟩:=b.there;obtain⟨nm,q,NN,bs,bm,T,sn,sub,ab,col,dd,k0,k1,k2,k3,k5,newId,K,_,J⟩:=hC.ex;obtain⟨a6,q',a1,a4,a3,y,a7,V,a2,Q,a5,j0,j1,j2,j3,j5,r,M,w,_⟩:=hD.ex;refine a3f (t.kIn _ _ K) (t.kIn _ _ M) F x w (J _ (au ..)) ?_;refine codeAny_handlers_suite_as ?_;refine lands_againW b λh6 u O=>?_;have Z:Inv X pins σ1 (upd H' p (a1L p C)) {s' with heap:=h6}:=I1.landX hos hbare hU hok hp R cov u (c.trans O);refine a0x Z S U (.inl E) (v:=.ref p) rfl (λs7 I7=>?_) (.inr E);refine cw (G p pins s7 _ _ _ (I7.held p) (k p hp)) (λf s8 i=>?_) λ_ _ z=>False.elim z;cases f with
  |next =>
   obtain⟨σ2,H2,I8,i⟩:=i;exact a9Z (I8.unheld I.ok) S U E λs9 I9=>⟨_,H2,I9,i⟩
  |brk=>obtain⟨_,_,_,z⟩:=i;exact False.elim z
  |cont=>obtain⟨_,_,_,z⟩:=i;exact False.elim z
  |ret v=>obtain⟨_,_,_,_,_,z⟩:=i;exact False.elim z
def a3k(K:PySem.W.Frag)(C:Addr)(above:List Value):Bool:=match K.lookup C with
 |some ⟨.type "type",_,.cls cd,sl⟩=>(match cd.mro,sl.toList with
  |.ref C'::bm,[_,_,_,_,some (.builtin _),_]=>C'==C && !cd.hasDel && bm.contains (.type "BaseException") && above.all λv=>bm.contains v
  |_,_=>false)
 |_=>false
theorem a2d{K:PySem.W.Frag}{C:Addr}{above:List Value}(q:a3k K C above=true):ClsX K C above:=by
 unfold a3k at q;split at q
 .rename_i dd cd sl ho;split at q
  .rename_i C' bm k0 k1 k2 k3 n k5 hmro hs;simp only[aQ,a_,fq,bI]at q;obtain⟨⟨⟨rfl,a⟩,e⟩,d⟩:=q;obtain⟨nm,bs,g,h,qn,hd,sn,sub,ab,col,c⟩:=cd;dsimp only at hmro a;subst hmro a;have b:sl=#[k0,k1,k2,k3,some (.builtin n),k5]:=by
    obtain⟨l⟩:=sl;simp only at hs;rw[hs]
   subst b;exact⟨nm,qn,h,bs,bm,hd,sn,sub,ab,col,dd,k0,k1,k2,k3,k5,n,ho,e,λv f=>d v f⟩
  .cases q
 .cases q
structure JX(X:Cx)(sts:List Stmt)(t:TX):Prop where
 h:PSx X sts t
section
variable {X:Cx}{k:Nat}{ps:List Str}{sp:Sp}{x y:Str}{p pos cpos pos':Pos}{e:Expr}{es:List Expr}{t:TA}{i:Nat}
theorem b2F(K:PySem.W.Frag){body:List Stmt}{tx:TX}{h:TS}{c n:Str}{t b pos:Pos}{g:Stmt}{a:List Stmt}{j:Nat}{D:Addr}(s:JX X body tx)(m:Gl X c)(r:X.mg c=some (.ref D))(i:ClsX K D [])(l:X.N.Nodup)(o:X.N[j]?=some n)
  (q:X.env.scope.names.lookup n=some .local) (f:∀p,JB (X.held p) (g::a) h) (k:X.K=K:=by rfl) (e:X.stack=X.env::X.outer:=by rfl) (d:X.env.frame=some X.env.locals:=by rfl) (hd:(c==("__debug__" : Str))=false:=by decide) :
  JS X (.Try body [.ExceptHandler (some (.Name c t)) (some n) (g::a) b] [] [] pos) (b0Y K D j tx h):=by
 subst k;exact⟨b1M e d s.h m r i l o q (λp=>(f p).h) hd⟩
end
theorem b2G{P:Program}{w:World}{K:PySem.W.Frag}{mg:Str->Option Value}{base:Heap}{N:List Str}{qual:Str}{scope:Scope}{f:Addr}{cd:Value}{A:Around}{outer:List Env}{b:Shared}{c:Hp}{E:XK}
  {x:Str}{C:Addr}{bmB d:List Value}{B k newId j a i:String}{e:Expr}{es:List Expr}{t:TA}{q cpos pos:Pos}
  (O:OwnCls x C bmB newId mg base) (m:ExcBaseFacts k newId i d) (g:bmB.contains (.type k)=true) (l:ExcBaseFacts B j a bmB)
  (p:Gl (K1 (CXE P w) P w K mg base N qual scope f cd A outer b c E) x)
  (n:JA (K1 (CXE P w) P w K mg base N qual scope f cd A outer b c E) (e::es) t) (hd:(x==("__debug__" : Str))=false:=by decide)
  (o:starEach (e::es) (envOfC qual scope b.heap.objs.size f cd)=(false,eval e (envOfC qual scope b.heap.objs.size f cd))::starEach es (envOfC qual scope b.heap.objs.size f cd):=by rfl)
  (h:(backTo cpos (starEach es (envOfC qual scope b.heap.objs.size f cd))).any (·.1)=false:=by rfl) :
  JS (K1 (CXE P w) P w K mg base N qual scope f cd A outer b c E) (.Raise (some (.Call (.Name x q) (e::es) [] cpos)) none pos) (b0Z C E t):=⟨b1N O m g l p n.h hd o h⟩
end L2
namespace L2
open PySem PySem.Spec PyProof.Rows PySem.W Builtin Builtin.ObjectAttr Builtin.Getset_descriptor
section
variable {K:PySem.W.Frag}{prog:Program}{w:World}{A:Around}{E:Value->Shared->Prop}{h:Heap}{g:Array GenState}{d:Drawn}{t:Nat}{os:OsState}{a:Addr}{o:Obj}
 {nm q:Str}{C N:Addr}{bs bm:List Value}{hdct:Bool}{sn:List Str}{sub:List Value}{ab:Bool}{col:Option Bool}{dd:Option Addr}{k0 k1 k2 k3 k5:Option Value}{newId:String}
theorem b0M{M:Model}{b:Value}{Q:Unit->Shared->Prop}(f:h.get? C=some (excClassObj nm q C N bs bm hdct sn sub ab col dd k0 k1 k2 k3 k5 newId))(i:bm.contains (.type "BaseException")=true)
  (m:h.get? a=some o) (j:o.cls=.ref C) (l:Q () ⟨h,g,d,t,os⟩):wpAny M A (checkBuiltinCall "BaseException.__getattribute__" ⟨[.ref a,b],[]⟩) Q E ⟨h,g,d,t,os⟩:=by
 have k:builtinKind "BaseException.__getattribute__"=some .slot:=by decide +kernel
 have c:splitId "BaseException.__getattribute__"=some ("BaseException","__getattribute__"):=by decide +kernel
 have e:(Value.ref C::bm).contains (.type "BaseException")=true:=by rw[dY,i];rfl
 have n:=F.args_bexc_ga (.ref a) b;simp only[checkBuiltinCall,k,c];refine aa ?_
 .unfold isInstance
  repeat (first | (with_reducible refine dj m ?_;rw[j]) | (with_reducible refine eS f ?_;rw[e])|wp_step)
  exact l
theorem a7P{M:Model}(c:h.get? a=some o)(b:o.cls=.ref C):Looks M h (typeOf (.ref a)) (.ref C):=b ▸ (Looks.ld c).andThen .now
theorem b6c{R:Result->Shared->Prop}{i:Value}(X:K.In h)(f:h.get? a=some o)(b:o.cls=.ref C)(c:mroIn K C (.type "object")=some true)(e:R (.ok (.ret (.ref C))) ⟨h,g,d,t,os⟩) :
  codeAny (model prog w) A (.call (.builtin "getset_descriptor.__get__") ⟨[.builtin "object.__class__",.ref a,i],[]⟩) R ⟨h,g,d,t,os⟩:=by
 have j:=a7P (M:=model prog w) f b;have k:=looks_mroIn (M:=model prog w) X c;refine eM KF.slot_gs.plain KF.entry_gs (KF.slot_gs.check _ _ _ _ _ _ _ _ KF.type_class (KF.args_gs _ _ _) ?_);unfold Builtin.«getset_descriptor.__get__» descrGet;rw[dga_obj];refine aa (ae ?_);unfold descrGetter descrCheckInstance descrNameAndClass isInstance;simp only[KF.owner_class]
 repeat lk
 refine⟨Code.quiet_builtin _ (by decide +kernel),dZ KF.entry_class ?_⟩;unfold Builtin.«object.__class__» shownTypeOf
 repeat lk
 exact e
theorem b0L{tk:Tok}{Q:Fin->Shared->Prop}(X:K.In h)(f:mroIn K C (.type "object")=some true)(b:findIn K (.ref C) "__class__"=some (some (.builtin "object.__class__")))(e:h.get? a=some o)(c:o.cls=.ref C)(l:Q (.done (.ret (.ref C))) ⟨h,g,d,t,os⟩) :
  wpAny (model prog w) A (Builtin.«object.__getattribute__» ⟨[.ref a,.str "__class__" tk],[]⟩) Q E ⟨h,g,d,t,os⟩:=by
 have L:=looks_findIn (M:=model prog w) X b;have j:=F.slot_gs_get.lookup;have k:=F.slot_gs_set.lookup;have i:=KF.type_class
 repeat (any_goals (first|assumption | (with_reducible refine dj e ?_;rw[c])|with_reducible refine L.at ?_|wp_step))
 refine b6c X e c f ?_
 repeat (any_goals (first|assumption|wp_step))
theorem b3B{Q:Option Value->Shared->Prop}(X:K.In h)(m:h.get? C=some (excClassObj nm q C N bs bm hdct sn sub ab col dd k0 k1 k2 k3 k5 newId))(n:bm.contains (.type "BaseException")=true)(p:mroIn K C (.type "object")=some true)
  (c:findIn K (.ref C) "__class__"=some (some (.builtin "object.__class__"))) (e:findIn K (.ref C) "__getattribute__"=some (some (.builtin "BaseException.__getattribute__"))) (f:findIn K (.ref C) "__getattr__"=some none)
  (i:h.get? a=some o) (b:o.cls=.ref C) (r:Q (some (.ref C)) ⟨h,g,d,t+1,os⟩):wpAny (model prog w) A (getAttr? (.ref a) "__class__") Q E ⟨h,g,d,t,os⟩:=by
 have l:=looks_findIn (M:=model prog w) X e;have L2:=looks_findIn (M:=model prog w) X f;have k:=PySem.F.attrBase_ValueError;have u:=k.ga.bind (.ref a);have j:(Value.builtin "BaseException.__getattribute__"==Value.builtin "object.__getattribute__")=false:=by decide +kernel
 have s:(onTheHeap (Value.ref C) && Value.builtin "BaseException.__getattribute__"==Value.builtin "object.__getattribute__")=false:=by rw[j];rfl
 unfold getAttr? getAttrBy? getAttrBy
 repeat (any_goals (first|assumption | (with_reducible refine dj i ?_;rw[b])|with_reducible refine l.at ?_|with_reducible refine L2.at ?_|wp_step))
 refine eM k.ga.plain F.entry_bexc_ga (b0M m n i b (b0L X p c i b ?_));exact handed_on rfl (ae r)
structure IsX(K:PySem.W.Frag)(C:Addr):Prop where
 cls:ClsX K C []
 mro:mroIn K C (.type "object")=some true
 cl:findIn K (.ref C) "__class__"=some (some (.builtin "object.__class__"))
 ga:findIn K (.ref C) "__getattribute__"=some (some (.builtin "BaseException.__getattribute__"))
 gr:findIn K (.ref C) "__getattr__"=some none
theorem a2K(Z:IsX K C):KitX K (.ref a) (.ref C) (λh=>∃o,h.get? a=some o/\o.cls=.ref C) where
 ty:=λ_ _ _ ⟨o,j,f⟩=>a7P j f
 it:=λ_ _ X _=>by
  obtain⟨nm,q,N,bs,bm,b,sn,sub,ab,col,dd,k0,k1,k2,k3,k5,newId,c,_⟩:=Z.cls.ex;intro r v u s' k q;unfold isType loadHead;exact aa (wpAny_loadPart (k _ _ (X _ _ c)) (ae q))
 ne:=λh p dd its n sl X i=>by
  obtain⟨nm,q,N,bs,bm,b,sn,sub,ab,col,dd,k0,k1,k2,k3,k5,newId,c,_⟩:=Z.cls.ex;refine Bool.eq_false_iff.mpr λq=>?_;have e:C=p:=Value.ref.inj (a_.mp q);subst e;have z:=aO Obj.data (bC ((X _ _ c).symm.trans i));unfold excClassObj at z;cases z
 ca:=λ{prog w A E Q s} X ⟨o,j,f⟩ m=>by
  obtain⟨nm,q,N,bs,bm,b,sn,sub,ab,col,dd,k0,k1,k2,k3,k5,newId,c,l,_⟩:=Z.cls.ex;obtain⟨h,g,d,t,os⟩:=s;exact b3B X (X _ _ c) l Z.mro Z.cl Z.ga Z.gr j f m
end
section
variable {X:Cx}{es:List Expr}{e:Expr}{t:TA}{pos p:Pos}
def b8j(K:PySem.W.Frag):RL:=λxs H Q=>∃(p C:Addr) (vc:V) (b:Bool),xs=[.ref p,vc]/\H p=some (a1L p C)/\IsX K C /\
 ((∃n,vc=.ty n/\kitOne K (.ref C) (.type n)=some b)∨(∃D,vc=.ref D/\kitOne K (.ref C) (.ref D)=some b)∨∃(tp:Addr) (Ds:List Addr),vc=.ref tp/\H tp=some (.tup (Ds.map V.ref))/\kitAny K (.ref C) (Ds.map Value.ref)=some b)/\Q (.bl b) H
theorem a3C:∀{a:List Addr}{us:List Value},Vals (a.map V.ref) us->us=a.map Value.ref
 |[],_,.nil=>rfl
 |D::a,_,.cons r t=>by
  have:=a3C t;subst this;cases r;rfl
theorem b3n(K:PySem.W.Frag)(l:X.K=K:=by rfl):E2 X (.builtin "isinstance") (b8j K):=by
 subst l;intro pins s σ H xs E Q I B h;obtain⟨p,C,F,b,rfl,t,Z,m,q⟩:=h;obtain⟨u,v,rfl,A,a⟩:=B.two;cases A;have f:∃o,s.heap.get? p=some o/\o.cls=.ref C:=(I.hok p _ t).1;rcases m with⟨n,rfl,e⟩|⟨D,rfl,e⟩|⟨g,i,rfl,d,e⟩
 .cases a;exact kia_one (a2K Z) I.kIn f e (λz=>nomatch z) λtk=>⟨.bl b,H,I.tok tk,rfl,q⟩
 .cases a;exact kia_one (a2K Z) I.kIn f e (λz=>nomatch z) λtk=>⟨.bl b,H,I.tok tk,rfl,q⟩
 .cases a;obtain⟨_,its,r,w,j,k,c⟩:=(show ObjOk X.prog X.w H s.heap g (.tup (i.map V.ref))from I.hok g _ d);have:=a3C r;subst this;obtain⟨oc,od,x,y⟩:=w;obtain⟨n,c⟩:=c;cases k;cases c;exact kia_tup (a2K Z) I.kIn f j e (λz=>nomatch z) λtk=>⟨.bl b,H,I.tok tk,rfl,q⟩
theorem N0(K:PySem.W.Frag)(f:Gl X "isinstance")(g:X.mg "isinstance"=none)(c:JA X (e::es) t)(b:X.K=K:=by rfl)(d:starEach (e::es) X.env=(false,eval e X.env)::starEach es X.env:=by rfl)(a:(backTo pos (starEach es X.env)).any (·.1)=false:=by rfl) :
  JE X (.Call (.Name "isinstance" p) (e::es) [] pos) (tCB (b8j K) t):=⟨G3 (b3n K b) f g a0k c.h (by decide) (by decide) d a⟩
theorem a2Q{x:Str}{v:V}{u:Value}(a:Gl X x)(b:X.mg x=some u)(r:RelV v u)(hd:(x==("__debug__" : Str))=false:=by decide):JE X (.Name x pos) (tC v):=⟨b4w a b r hd⟩
end
end L2
namespace L2
open PySem PySem.Spec PyProof.Rows
theorem a2W{α:Type}{ca:α->V}{xs:List α}{i:Nat}{x:V}(h:(xs.map ca)[i]?=some x):∃z,xs[i]?=some z/\x=ca z:=by
 rw[aW]at h;cases e:xs[i]? with
 |none=>rw[e]at h;cases h
 |some z=>rw[e]at h;exact⟨z,rfl,(bC h).symm⟩
theorem b3z{α β:Type}{K:PySem.W.Frag}{src:List (Option Nat)}{σ caps:St}{Q:VK}{k1 k2:Bool}{a b:Addr}(ca:α->V)(d:β->V){xs:List α}{ys:List β}{H:Hp}{te:TE}(f:α->β->V)(u:xs.length<=1000)
  (c:∀H',Same H H'->SqK k1 K H' a (xs.map ca)/\SqK k2 K H' b (ys.map d))
  (k:B5 src σ=none::none::caps) (o:∀x y H1 q,x∈xs->y∈ys->Same H H1->(∀H2,Same H1 H2->q (f x y) H2)->te (some (ca x)::some (d y)::caps) H1 q)
  (hd:∀H1 p,Same H H1->H1 p=none->Q (.ref p) (upd H1 p (.lst (List.zipWith f xs ys)))) :
  J9 src (a7D K 2 (a0i (B0 0) (a0i (B0 1) b0m))) a0d te σ Q (Itz K k1 k2 a b) H:=by
 have w:(1000:Nat)<=sizeLine:=by rw[ba];decide
 refine X4 (xs:=xs.map ca) (zs:=ys.map d) (by rw[aj];omega) (λi zs H'=>Same H H'/\zs=(List.zipWith f xs ys).take i) ⟨Same.refl H,by simp⟩ (λi zs H' _ _ h=>⟨(c H' h.1).1,(c H' h.1).2,by rw[h.2];exact cC _ _⟩) ?_ ?_
 .rintro i x z zs H' p hx hy ⟨s,rfl⟩ hp;obtain⟨n,l,r⟩:=a2W hx;obtain⟨g,m,t⟩:=a2W hy;subst r t;clear hx hy;have s':Same H (upd H' p (.tup [ca n,d g])):=s.upd hp;refine⟨p,[ca n,d g],rfl,SqT.of A0,rfl,ca n,[d g],rfl,d g,[],rfl,rfl,?_⟩;rw[k];show Sub _ (some (ca n)::some (d g)::caps)/\_;refine⟨⟨rfl,λj v e=>?_⟩,?_⟩
  .match j,e with
   |0,e=>cases e
   |1,e=>cases e
   |j+2,e=>exact e
  .exact o n g _ _ (aH l) (aH m) s' λH2 s2=>⟨s'.trans s2,(L5 f l m).symm⟩
 .rintro zs H' ⟨s,rfl⟩ p hp;have e:(List.zipWith f xs ys).take (min (xs.map ca).length (ys.map d).length)=List.zipWith f xs ys:=by
   rw[aj,aj,bZ];rw[cI];exact aq _
  rw[e];exact hd H' p s hp
theorem a9w{α:Type}{K:PySem.W.Frag}{src:List (Option Nat)}{σ caps:St}{Q:VK}{a:Addr}(ca:α->V){xs:List α}{H:Hp}{j:TT}(t:α->Bool)(k:xs.length<=1000)(b:∀H',Same H H'->SqT K H' a (xs.map ca))(c:B5 src σ=none::caps)
  (f:∀x H1 (g:Bool->Hp->Prop),x∈xs->Same H H1->(∀H2,Same H1 H2->g (t x) H2)->j (some (ca x)::caps) H1 g) (hd:∀H1 p,Same H H1->H1 p=none->Q (.ref p) (upd H1 p (.lst ((xs.filter t).map ca)))):J9 src (B0 0) j (a0a 0) σ Q (Itt K a) H:=by
 have l:(1000:Nat)<=sizeLine:=by rw[ba];decide
 refine a0P (xs:=xs.map ca) (by rw[aj];omega) (λi ys H'=>Same H H'/\ys=((xs.take i).filter t).map ca) ⟨Same.refl H,by simp⟩ (λi ys H' _ h=>⟨b H' h.1,by rw[h.2,aj];exact bf (bA _ _) (cC _ _)⟩) ?_ ?_
 .rintro i x ys H' hx ⟨s,rfl⟩;obtain⟨z,d,rfl⟩:=a2W hx;show Sub _ ((B5 src σ).set 0 (some (ca z)))/\_;rw[c];refine⟨Sub.one,f z H' _ (aH d) s λH2 s2=>?_⟩;rw[bB,d];cases e:t z with
  |true=>exact⟨_,rfl,s.trans s2,by simp[e]⟩
  |false=>exact⟨s.trans s2,by simp[e]⟩
 .rintro ys H' ⟨s,rfl⟩ p hp;rw[aj,bJ];exact hd H' p s hp
theorem b8u{P:Program}{w:World}{K:PySem.W.Frag}{mg:Str->Option Value}{base:Heap}{N:List Str}{qual:Str}{scope:Scope}{f:Addr}{cd:Value}{A:Around}{outer:List Env}{d:Shared}{u:Hp}{E:XK} :
  X7 (CXE P w) (K1 (CXE P w) P w K mg base N qual scope f cd A outer d u E) E:=by
 intro pins σ H1 s1 e s' I h;obtain⟨p,C,H',B,a0,rfl,s,v,G,n,J,c,i,q⟩:=h;have g:=I.land s v G n c.2.2.1 i c.1 (λb o e _=>⟨o.slots,e⟩);refine wpAny_leaves_onW (base:=B) I.ok.frames rfl c λh' y L=>?_;have r:∀b∈frs outer,b∈frs (envOfC qual scope d.heap.objs.size f cd::outer):=λb a=>by
  obtain⟨env,h1,h2⟩:=b_.mp a;exact b_.mpr ⟨env,ak _ h1,h2⟩
 have m:∀b,b∉frs outer->b≠d.heap.objs.size->b∉frs (envOfC qual scope d.heap.objs.size f cd::outer):=λb h1 h2 F=>by
  obtain⟨env,q1,x⟩:=b_.mp F;rcases aI.mp q1 with rfl|q1
  .exact h2 (bC x).symm
  .exact h1 (b_.mpr ⟨env,q1,x⟩)
 have j:Cov outer H' d.heap s'.heap B:=λb o D nb a=>by
  refine i b o D (m b nb λz=>?_) ?_
  .subst z;rcases a with a|⟨o',a⟩
   .exact a g.free
   .exact absurd (aG a) (bW _)
  .rcases a with a|⟨o',a⟩
   .exact .inl a
   .exact .inr (I.base.there b o' a (λz=>nomatch z))
 obtain⟨U2,t,k⟩:=a0M (P:=P) (w:=w) (l:=outer) (H:=u) (H':=H') (h0:=d.heap) (h1:=s'.heap) (h2:=h') g.base n j y.1 L g.funs λb a=>g.stkFree b (r b a);exact⟨p,C,H',B,a0,rfl,g.os,v,U2,t,J,y,k,q⟩
theorem a8R{P:Program}{w:World}{K:PySem.W.Frag}{mg:Str->Option Value}{base:Heap}{N:List Str}{qual:Str}{scope:Scope}{f:Addr}{cd:Value}{A:Around}{outer:List Env}{b:Shared}{a:Hp}{E:XK}
  {k:Nat}{ps:List Str}{sp:Sp}{x:Str}{e:Expr}{es:List Expr}{t:TA}{p pos:Pos}(O:OkE P w K mg base x k ps sp) (m:Room k (K1 (CXE P w) P w K mg base N qual scope f cd A outer b a E).A) (l:Gl (K1 (CXE P w) P w K mg base N qual scope f cd A outer b a E) x)
  (i:JA (K1 (CXE P w) P w K mg base N qual scope f cd A outer b a E) (e::es) t) (c:(x==("__debug__" : Str))=false:=by decide)
  (j:starEach (e::es) (K1 (CXE P w) P w K mg base N qual scope f cd A outer b a E).env=(false,eval e (K1 (CXE P w) P w K mg base N qual scope f cd A outer b a E).env)::starEach es (K1 (CXE P w) P w K mg base N qual scope f cd A outer b a E).env:=by rfl)
  (d:(backTo pos (starEach es (K1 (CXE P w) P w K mg base N qual scope f cd A outer b a E).env)).any (·.1)=false:=by rfl) :
  JE (K1 (CXE P w) P w K mg base N qual scope f cd A outer b a E) (.Call (.Name x p) (e::es) [] pos) (a8e sp [] E t):=by
 obtain⟨n,fd,h1,h2,g,h⟩:=O.ex;exact⟨a8B h m l h1 h2 g .nil b8u i.h c j d⟩
theorem Its.put{H:Hp}{vs:List V}{rss:LLI}{c:Addr}{xs:List V}{o:HO}(h:Its H vs rss)(b:H c=some (.lst xs)):Its (upd H c o) vs rss:=⟨h.1,λi v e=>let ⟨r,e1,a,e2,q⟩:=h.2 i v e;⟨r,e1,a,e2,by rw[A1 (I0 q b (by intro z;cases z))];exact q⟩⟩
open _root_.HT
section
variable {prog:Program}{w:World}{A:Around}{E:Value->Shared->Prop}{s:Shared}
theorem a7M(n:Nat):Builtin.Slice.sliceAdjust none none (-1) (n:Int)=((n:Int)-1,-1):=by
 unfold Builtin.Slice.sliceAdjust;have h1:((-1:Int)<0):=by omega
 simp only[h1,eR]
theorem a7l(n:Nat):Builtin.Slice.slicePlaces ((n:Int)-1) (-1) (-1)=n:=by
 unfold Builtin.Slice.slicePlaces;have h1:¬((-1:Int) > 0):=by omega
 simp only[h1,if_false,Int.neg_neg,Int.ediv_one];split<;>omega
theorem a0Z{sl:Addr}{t:Tok}{n:Nat}{Q:Int×Int×Nat->Shared->Prop}(hs:s.heap.IsSliceOf sl .none .none (.int (-1) t))
  (h:Q ((n:Int)-1,-1,n) s):wpAny (model prog w) A (Builtin.Slice.sliceApplied (.ref sl) (pure (n:Int))) Q E s:=by
 obtain⟨os,b,c,a⟩:=id hs;unfold Builtin.Slice.sliceApplied Builtin.Slice.sliceFields;refine aa (aa (cn b a (x:=.none) rfl (aa (cn b a (x:=.none) rfl (aa (cn b a (x:=.int (-1) t) rfl (ae ?_)))))));refine aa (slicePart_int ?_);show wpAny _ _ (if ((-1:Int)==0)=true then _ else _) _ _ s;rw[ar (by decide)];refine aa (slicePart_none (aa (slicePart_none (aa (ae ?_)))));show wpAny _ _ (match Builtin.Slice.sliceAdjust none none (-1) (n:Int)with | (lo,hi)=>pure (lo,(-1:Int),Builtin.Slice.slicePlaces lo hi (-1))) _ _ s;rw[a7M n];show wpAny _ _ (pure ((n:Int)-1,(-1:Int),Builtin.Slice.slicePlaces ((n:Int)-1) (-1) (-1))) _ _ s;rw[a7l];exact ae h
theorem a6v{α β:Type}{f g:α->Option β}:∀(l:List α),(∀m∈l,f m=g m)->l.filterMap f=l.filterMap g
 |[],_=>rfl
 |a::l,h=>by
  rw[dS,dS,h a (au ..),a6v l λm b=>h m (ak _ b)]
theorem b1S(xs:Array Value):((List.range xs.size).filterMap λ(m:Nat)=>xs[(((xs.size:Int)-1)+(m:Int)*(-1)).toNat]?).toArray=xs.toList.reverse.toArray:=by
 congr 1;have e:∀m∈List.range xs.size,xs[(((xs.size:Int)-1)+(m:Int)*(-1)).toNat]?=some (xs.toList.reverse.getD m .none):=λm c=>by
  have a:m<xs.size:=aR.mp c;have b:(((xs.size:Int)-1)+(m:Int)*(-1)).toNat=xs.size-1-m:=by omega
  rw[b,ao,List.getElem?_reverse (by simpa using a),ax,av,bw (by omega)];rfl
 rw[a6v _ e];rw[show(List.range xs.size).filterMap (λm=>some (xs.toList.reverse.getD m .none))=(List.range xs.size).map (λm=>xs.toList.reverse.getD m .none)from congrFun (List.filterMap_eq_map (f:=λm=>xs.toList.reverse.getD m .none)) _];refine dq (by simp) λi h1 h2=>?_;simp only[List.getElem_map,List.getElem_range];rw[ao,ai h2];rfl
theorem a0L{t sl:Addr}{items:Array Value}{tk:Tok}{Q:Value->Shared->Prop}(b:IsTup s.heap t items)(hs:s.heap.IsSliceOf sl .none .none (.int (-1) tk))
  (h:Q (.ref s.heap.objs.size) {s with heap:=s.heap.push {cls:=.type "tuple",data:=.seq items.toList.reverse.toArray}})
  (g:items.size<=sizeLine):wpAny (model prog w) A (getItem (.ref t) (.ref sl)) Q E s:=by
 have a:sizeOk (.seq items.toList.reverse.toArray):=by
  show items.toList.reverse.toArray.size<=sizeLine;rw[aD,List.length_reverse,ax];exact g
 obtain⟨os,f,d,i⟩:=id hs;have c:s.TypeIs (.ref sl) "slice":=⟨os,f,d⟩;unfold getItem
 try with_reducible refine cc ?_
 first|refine aa (ae ?_)|skip
 refine aa (wpAny_sequenceKey b.typeIs (by decide) ?_);refine aa (bE (name:=Str.ofString "__getitem__") b.typeIs bD
  (bH bD b.typeIs entry_tuple_getitem ?_ (args_tuple_getitem _ _)))
 show wpAny _ _ (Builtin.Tuple.tupleItemsOf (.ref t)>>=_) _ _ s;refine aa (tupleItemsOf_ b ?_);refine aa (eD c ?_);rw[ay (by decide)];refine aa (a0Z hs ?_);have e:¬((((items.size:Int)-1)==0 && (-1:Int)==1 && items.size==items.size)=true):=by
  intro q;rw[aQ,aQ]at q;exact absurd q.1.2 (by decide)
 show wpAny _ _ (if ((((items.size:Int)-1)==0 && (-1:Int)==1 && items.size==items.size))=true then _ else _) _ _ s;rw[ar e,b1S]
 first
  |exact aa (m:=Builtin.Tuple.tupleExact _) (bt (ae ⟨_,rfl,ae h⟩) a)
  |exact aa (m:=Builtin.Tuple.tupleExact _) (bt (aa (ae (ae ⟨_,rfl,ae h⟩))) a)
  |exact aa (aa (m:=Builtin.Tuple.tupleExact _) (bt (ae (ae ⟨_,rfl,ae h⟩)) a))
  |exact aa (aa (m:=Builtin.Tuple.tupleExact _) (bt (ae ⟨_,rfl,ae h⟩) a))
theorem a0c{t sl:Addr}{items:Array Value}{e f:Value}{lo hi:Option Int}{Q:Value->Shared->Prop}(a:IsTup s.heap t items)(hs:s.heap.IsSliceOf sl e f .none)(pl:IsPart e lo)(i:IsPart f hi)
  (hw:sIx items.size 0 lo=0/\sIx items.size items.size hi=items.size) (h:Q (.ref t) s):wpAny (model prog w) A (getItem (.ref t) (.ref sl)) Q E s:=by
 obtain⟨os,d,c,g⟩:=id hs;have b:s.TypeIs (.ref sl) "slice":=⟨os,d,c⟩;unfold getItem
 try with_reducible refine cc ?_
 first|refine aa (ae ?_)|skip
 refine aa (wpAny_sequenceKey a.typeIs (by decide) ?_);refine aa (bE (name:=Str.ofString "__getitem__") a.typeIs bD
  (bH bD a.typeIs entry_tuple_getitem ?_ (args_tuple_getitem _ _)))
 show wpAny _ _ (Builtin.Tuple.tupleItemsOf (.ref t)>>=_) _ _ s;refine aa (tupleItemsOf_ a ?_);refine aa (eD b ?_);rw[ay (by decide)];refine aa (Q5 hs pl i ?_);rw[hw.1,hw.2];show wpAny _ _ (if ((((0:Nat):Int)==0 && (1:Int)==1 && (items.size-0)==items.size))=true then _ else _) _ _ s;rw[ay (by simp)];refine aa (aa (eD a.typeIs (ae ?_)));rw[ay (by decide)];exact aa (fg (ae ⟨_,rfl,ae h⟩))
end
section
variable {X:Cx}{e:Expr}{te:TE}{lo hi:Option Expr}{tl th:TO}{pos p2:Pos}
def b6o(K:PySem.W.Frag):V->Option Int->Option Int->Hp->VK->Prop:=λx lo hi H Q=>∃a xs,x=.ref a/\SqT K H a xs /\
 ((HT.sIx xs.length 0 lo=0/\HT.sIx xs.length xs.length hi=xs.length)->Q (.ref a) H)/\(¬(HT.sIx xs.length 0 lo=0/\HT.sIx xs.length xs.length hi=xs.length)->∀p,H p=none->Q (.ref p) (upd H p (.tup (N5 xs lo hi))))
theorem b3N(K:PySem.W.Frag)(i:X.K=K):SlR X (b6o K):=by
 subst i;intro pins s σ H x v k l lo hi sl Q I g hs e f h;obtain⟨a,xs,rfl,d,q1,j⟩:=h;by_cases hw:HT.sIx xs.length 0 lo=0/\HT.sIx xs.length xs.length hi=xs.length
 .cases g;obtain⟨its,r,c,m⟩:=I.tuple d;have b:its.toArray.size=xs.length:=by rw[aD];exact r.length.symm
  refine⟨"tuple",_,bD.lookup,c.typeIs,?_⟩;exact a0c c hs e f (by rw[b];exact hw) ⟨.ref a,H,I,rfl,q1 hw⟩
 .exact b1i pins s σ H (.ref a) v k l lo hi sl Q I g hs e f ⟨a,xs,rfl,d,hw,j hw⟩
theorem b5S(K:PySem.W.Frag)(b:JE X e te)(c:JO X lo tl)(d:JO X hi th)(a:X.K=K:=by rfl):JE X (.Subscript e (.Slice lo hi none p2) pos) (tSl (b6o K) te tl th):=⟨a2y (b3N K a) b.h c.h d.h⟩
def b7X(K:PySem.W.Frag)(te ts:TE):TE:=λσ H Q=>te σ H λx H1=>ts σ H1 λy H2=>y=.int (-1)/\∃a xs,x=.ref a/\SqT K H2 a xs/\∀p,H2 p=none->Q (.ref p) (upd H2 p (.tup xs.reverse))
theorem b7n(K:PySem.W.Frag){st:Expr}{j:TE}(p:JE X e te)(hs:JE X st j)(n:X.K=K:=by rfl):JE X (.Subscript e (.Slice none none (some st) p2) pos) (b7X K te j):=by
 subst n;refine⟨λpins s σ H Q I h=>?_⟩;refine Subscript_ (thn (p.h pins s σ H _ I h) λv s1 ⟨x,H1,l,A,q1⟩=>?_);refine wpAny_Slice ?_;rw[evalPart_none];refine ae ?_;refine ae ?_;rw[evalPart_some];refine thn (hs.h pins s1 σ H1 _ l q1) λu c ⟨y,k,m,B,z⟩=>?_;obtain⟨rfl,a,xs,rfl,t,q⟩:=z;obtain⟨tk,rfl⟩:=B;cases A;have f:Inv X pins σ k {c with heap:=c.heap.push {cls:=.type "slice",data:=.fields #[.none,.none,.int (-1) tk]}}:=m.kept (t':=c.toks) λb w q=>ag _ q;obtain⟨its,r,g,i⟩:=f.tuple t;have d:its.toArray.size=xs.length:=by rw[aD];exact r.length.symm
 show wpAny (model X.prog X.w) X.A (subscriptTail e (.Slice none none (some st) p2) (.ref a) (.ref c.heap.objs.size)) (EP X pins σ Q) X.xe {c with heap:=c.heap.push {cls:=.type "slice",data:=.fields #[.none,.none,.int (-1) tk]}};refine tail_any (ops:=[.ref a,.ref c.heap.objs.size]) g.typeIs bD.lookup ?_ (by with_unfolding_all rfl);refine a0L g (Heap.IsSliceOf.new ..) ?_ (by rw[d];exact i);refine⟨.ref _,_,f.laid (t':=c.toks) (o:=.tup xs.reverse) (λb w q=>ag _ q) (aq _) ?_,rfl,q _ (f.hok.fresh (aq _))⟩;exact⟨by rw[List.length_reverse];exact i,_,r.reverse,fJ _ _⟩
theorem a6W(l:Addr)(items:Array Value)(n:Nat)(dd:Option Addr)(sl:Array (Option Value))(u:Tok)(a:items.isEmpty=false) :
  Meets (Builtin.«tuple.__mul__» ⟨[.ref l,.int 0 u],[]⟩) (λ_ R s=>s.heap.get? l=some {cls:=.type "tuple",dict:=dd,data:=.seq items n,slots:=sl}/\R (.ok (.ret (.ref s.heap.objs.size))) {s with heap:=s.heap.push {cls:=.type "tuple",data:=.seq #[]}}) :=
 .of_wp λprog w A R s h=>by
  obtain⟨e,g,d,tk,os⟩:=s;obtain⟨b,h⟩:=h;have f1:=AutoSeq1.idx_int;have c:¬((items.isEmpty || (0:Int)==1)=true):=by rw[a];decide
  wp_walk using PySem.AutoSeq1.wpAny_loadPart' b
  exact⟨_,rfl,h⟩
def b5K:R2:=λx y H Q=>∃a xs n,x=.ref a/\y=.int n/\H a=some (.tup xs)/\xs≠[]/\0<=n/\(xs.length:Int)*n<=(sizeLine:Int)/\∀p H',Same H H'->H' p=some (.tup (List.replicate n.toNat xs).flatten)->Q (.ref p) H'
theorem b4B:OpR X (binaryOp .Mult) b5K:=by
 intro pins s σ H x y v u Q I l p h;obtain⟨a,xs,n,rfl,rfl,j,g,D,B,q⟩:=h;by_cases w:n=0
 .subst w;cases l;obtain⟨t,rfl⟩:=p;obtain⟨its,r,p1,C⟩:=I.tuple (.inl (.inl j));obtain⟨⟨cls,dd,data,sl⟩,i,k,m,hd⟩:=id p1;simp only at k hd;subst k hd;have f:=r.length;have d:0<its.length:=by rw[<-f];exact List.length_pos_iff.mpr g
  refine wpAny_binaryOp_repeat_ref (T:="tuple") (U:="int") (by decide) ⟨_,i,rfl⟩ (λs'=>typeIs_int s' 0 t) Q7 F.fills_int_mul fS a0F F.slot_int_index.lookup
   (dX fS (typeIs_int s 0 t) F.entry_int_rmul (F.args_int_rmul_2 _ _) (a2u 0 t a its.toArray m dd sl) ⟨i,rfl,⟨_,i,rfl⟩,?_⟩)
  refine dX eJ ⟨_,i,rfl⟩ F.entry_tuple_mul (F.args_tuple_mul_2 _ _) (a6W a its.toArray m dd sl t (by simp;intro z;rw[z]at d;exact bW _ d)) ⟨i,?_⟩;have A:H s.heap.objs.size=none:=I.hok.fresh (aq _);refine⟨.ref s.heap.objs.size,_,I.laid (t':=s.toks) (o:=.tup []) (λb E q=>ag _ q) (aq _) ?_,rfl,q _ _ (λc o e=>by rw[A1 (A5 e A)];exact e) A0⟩;exact⟨bq _,[],.nil,fJ _ _⟩
 .exact a8D pins s σ H (.ref a) (.int n) v u Q I l p ⟨a,xs,n,rfl,rfl,j,g,by omega,B,q⟩
theorem a7x{a b:Expr}{ta tb:TE}(c:JE X a ta)(d:JE X b tb):JE X (.BinOp a .Mult b pos) (tOp b5K ta tb):=⟨V8 b4B c.h d.h⟩
end
end L2
namespace L2
open PySem PySem.Spec PyProof.Rows
section
variable {X:Cx}
end
section
variable {X:Cx}
def b8n:RL:=λxs H Q=>∃i:Int,xs=[.int i]/\Q (.int (if i<0 then -i else i)) H
theorem b0C:E2 X (.builtin "abs") b8n:=by
 intro pins s σ H xs c Q I b h;obtain⟨i,rfl,q⟩:=h;obtain⟨u,rfl,a⟩:=b.one;obtain⟨t,rfl⟩:=a;exact call_abs_int λu tk=>⟨.int _,H,I.tok tk,⟨u,rfl⟩,q⟩
theorem b2M{e:Expr}{es:List Expr}{t:TA}{p pos:Pos}(d:Gl X "abs")(f:X.mg "abs"=none)(b:JA X (e::es) t)(c:starEach (e::es) X.env=(false,eval e X.env)::starEach es X.env:=by rfl)(a:(backTo pos (starEach es X.env)).any (·.1)=false:=by rfl):JE X (.Call (.Name "abs" p) (e::es) [] pos) (tCB b8n t):=⟨G3 b0C d f b7K b.h (by decide) (by decide) c a⟩
end
section
variable {prog:Program}{w:World}{A:Around}{E:Value->Shared->Prop}{s:Shared}{k:Bool}
end
section
variable {X:Cx}
end
section
variable {M:Model}{A:Around}{E:Value->Shared->Prop}
theorem a1M{nm q:Str}{C N:Addr}{bs bm:List Value}{hdct:Bool}{sn:List Str}{sub:List Value}{ab:Bool}{col:Option Bool}{dd:Option Addr}{k0 k1 k2 k3 k5:Option Value}{newId:String}
  {h:Heap}{g:Array GenState}{d:Drawn}{t:Nat}{os:OsState}{e:Addr}{k:Obj}{Q:Bool->Shared->Prop}
  (j:h.get? C=some (excClassObj nm q C N bs bm hdct sn sub ab col dd k0 k1 k2 k3 k5 newId)) (l:h.get? e=some k) (b:k.cls=.ref C)
  (a:bm.contains (.type "BaseException")=true) (m:Q true ⟨h,g,d,t,os⟩):wpAny M A (excMatches (.ref e) (.ref C)) Q E ⟨h,g,d,t,os⟩:=by
 have c:(Value.ref C::bm).contains (.type "BaseException")=true:=by rw[dY,a,Bool.or_true]
 have i:(Value.ref C::bm).contains (.ref C)=true:=by rw[dY];simp
 have f:=tc_notTuple;unfold excMatches
 repeat (first | (with_reducible refine dj l ?_;rw[b])|with_reducible refine dj j ?_ | (with_reducible refine eS j ?_;first|rw[c]|rw[i])|wp_step)
 exact m
end
def b0X(K:PySem.W.Frag)(D:Addr)(tx:TX)(ts:TS):TS:=λDe σ H=>tx De (λσ1 C H'=>C=D/\∀p,H' p=none->ts De σ1 (upd H' p (a1L p C))) σ H
theorem b1L{X:Cx}{body:List Stmt}{tx:TX}{Q:TS}{n:Str}{np m pos:Pos}{M:Stmt}{b:List Stmt}{D:Addr}(j:X.stack=X.env::X.outer)(x:X.env.frame=some X.env.locals)(hx:PSx X body tx)
  (hg:Gl X n) (hm:X.mg n=some (.ref D)) (hD:ClsX X.K D [])
  (A:∀p,PSs (X.held p) (M::b) Q) (hd:(n==("__debug__" : Str))=false:=by decide) :
  PS X (.Try body [.ExceptHandler (some (.Name n np)) none (M::b) m] [] [] pos) (b0X X.K D tx Q):=by
 intro pins s σ H J I h;refine wpAny_Try_except (cw (hx pins s σ H J _ I h) (λf s1 q=>?_) λe s' q=>?_)
 .cases f with
  |next=>exact c_ q
  |brk=>exact q
  |cont=>exact q
  |ret v=>exact q
 .obtain⟨σ1,H1,s1,p,C,H',B,a0,rfl,I1,hos,hbare,hU,hok,hp,fl,cov,hC,k⟩:=q;subst hC;have O:=fl.2.2.1;have l:=fl;rw[j]at l;refine wpAny_looks_onW (L:=X.env.locals) (by rw[<-j];exact I1.ok.frames) x l λh4 i F=>?_;refine wpAny_landsW i λY c d=>?_;rw[<-j]at c;have d:=F.trans d;have K:Inv X pins σ1 H' {s' with heap:=Y}:=I1.land hos hbare hU hok O cov c.1 d;refine wpAny_handleBy_cons (codeAny_handlers_test ?_) (by intro q;cases q);refine O7 (X:=X.held p) (K.held p) hg hm ?_ hd;obtain⟨oe,y,u⟩:=c.there;obtain⟨a1,q',S,V,U,w,a2,P,T,N,W,j0,j1,j2,j3,j5,o,E,t,_⟩:=hD.ex;refine a1M (K.kIn _ _ E) y u t ?_;refine codeAny_handlers_suite ?_;refine lands_againW c λZ r G=>?_;have R:Inv X pins σ1 (upd H' p (a1L p C)) {s' with heap:=Z}:=I1.landX hos hbare hU hok hp O cov r (d.trans G);refine cw (A p pins _ _ _ J (R.held p) (k p hp)) (λf s8 a=>?_) λ_ _ z=>False.elim z;cases f with
  |next=>obtain⟨σ2,H2,g,a⟩:=a;exact⟨σ2,H2,g.unheld I.ok,a⟩
  |brk=>obtain⟨σ2,H2,g,a⟩:=a;exact⟨σ2,H2,g.unheld I.ok,a⟩
  |cont=>obtain⟨σ2,H2,g,a⟩:=a;exact⟨σ2,H2,g.unheld I.ok,a⟩
  |ret v=>obtain⟨v',σ2,H2,g,rv,a⟩:=a;exact⟨v',σ2,H2,g.unheld I.ok,rv,a⟩
section
variable {X:Cx}{k:Nat}{ps:List Str}{sp:Sp}{x:Str}{p pos cpos:Pos}{e:Expr}{es:List Expr}{t:TA}
theorem a6s(K:PySem.W.Frag){body:List Stmt}{tx:TX}{h:TS}{c:Str}{n b pos:Pos}{g:Stmt}{a:List Stmt}{D:Addr}(m:JX X body tx)(k:Gl X c)(l:X.mg c=some (.ref D))(i:ClsX K D [])
  (f:∀p,JB (X.held p) (g::a) h) (j:X.K=K:=by rfl) (e:X.stack=X.env::X.outer:=by rfl) (d:X.env.frame=some X.env.locals:=by rfl) (hd:(c==("__debug__" : Str))=false:=by decide) :
  JS X (.Try body [.ExceptHandler (some (.Name c n)) none (g::a) b] [] [] pos) (b0X K D tx h):=by
 subst j;exact⟨b1L e d m.h k l i (λp=>(f p).h) hd⟩
end
section
variable (P:Program) (w:World)
end
section
variable {P:Program}{w:World}{H H':Hp}{h h':Heap}{a:Addr}{o:HO}
end
section
variable {P:Program}{w:World}{H:Hp}{h h':Heap}{x e:Addr}{o':HO}
end
section
variable {fs fs' ex ex':List Addr}{H H1 H2:Hp}{h h1 h2 h':Heap}{a x e:Addr}{o:HO}
end
section
variable {X:Cx}{pins:List (Addr×Obj)}{σ:List (Option V)}{H H':Hp}{s:Shared}{h':Heap}
end
section
variable {X:Cx}
variable {a b:Expr}{ta tb:TE}{pos:Pos}
variable {tA tB':TT}{rest:List Expr}
end
section
variable {X:Cx}{pins:List (Addr×Obj)}{σ:St}{H:Hp}{s:Shared}{a:Addr}{xs ys:List V}
end
section
variable {X:Cx}{pins:List (Addr×Obj)}{σ:St}{H:Hp}{s:Shared}{E:Value->Shared->Prop}
end
section
variable {X:Cx}{st:Stmt}{rest:List Stmt}{t u:TS}{e:Expr}{te:TE}{pos:Pos}
end
section
variable {X:Cx}{pos:Pos}
end
section
variable {X:Cx}{tg:Expr}
end
section
variable {X:Cx}{a b c:Expr}{ta tb tc:TE}{pos:Pos}
end
section
variable {prog:Program}{w:World}{A:Around}{E:Value->Shared->Prop}{s:Shared}{K:PySem.W.Frag}{x dx C f:Addr}{mA:Str->Option Value}{name:Str}{v:Value}
end
section
variable {P:Program}{w:World}{H H':Hp}{h h':Heap}{a C dx:Addr}{fs fs':List (Str×V)}
end
section
variable {X:Cx}{pins:List (Addr×Obj)}{σ:St}{H:Hp}{s:Shared}{a C dx:Addr}{fs:List (Str×V)}{f:Str}{v:V}{A:Around}{E:Value->Shared->Prop}
end
section
variable {X:Cx}{o e value:Expr}{f:Str}{pos pos' tpos:Pos}{ta tv:TE}
end
section
variable {X:Cx}{pins:List (Addr×Obj)}{σ:St}{H:Hp}{s:Shared}{A:Around}{E:Value->Shared->Prop}{Q:Value->Shared->Prop}{c:Value}{b:Bool}
end
section
variable {X:Cx}{e:Expr}{es:List Expr}{te:TE}{t:TA}{pos:Pos}
end
section
variable {X:Cx}{pins:List (Addr×Obj)}{σ:St}{H:Hp}{s s':Shared}
end
section
variable {X:Cx}{CX:CXT}{k:Nat}{f C:Addr}{fd:FuncData}{ps:List Str}{sp:Sp}{dvs:List V}{ds:List Value}{E:XK}{x m:Str}{p pos apos:Pos}{e o:Expr}{es:List Expr}{ta:TE}{t:TA}
end
section
variable {X:Cx}{CX:CXT}{k:Nat}{f C:Addr}{fd:FuncData}{ps ks:List Str}{sp:Sp}{E:XK}{x m:Str}{p pos apos kpos:Pos}{e o:Expr}{es:List Expr}{kws:List Keyword}{te ta:TE}{t tk:TA}{nm:Option Str}
variable {g:List Value->List Value->List Value}{gV:List V->List V->List V}
end
section
variable {X:Cx}{x:Str}{p pos:Pos}{e:Expr}{es:List Expr}{t:TA}{id T:String}{r:List V->Hp->VK->Prop}
end
section
variable {κ:Type} [DecidableEq κ]
noncomputable def E7(kvs:List (κ×V))(k:κ):Option V:=(kvs.find? λkv=>decide (kv.1=k)).map (·.2)
noncomputable def V1(kvs:List (κ×V))(k:κ)(v:V):List (κ×V) :=
 if (kvs.any λkv=>decide (kv.1=k))=true then kvs.map (λkv=>if kv.1=k then(kv.1,v)else kv)else kvs++[(k,v)]
theorem E3{p:κ×V}{r:List (κ×V)}{k:κ}(e:p.1=k):E7 (p::r) k=some p.2:=by simp[E7,d_,e]
theorem E4{p:κ×V}{r:List (κ×V)}{k:κ}(e:¬p.1=k):E7 (p::r) k=E7 r k:=by simp[E7,d_,e]
theorem M5(k:κ):∀kvs:List (κ×V),(kvs.any λa=>decide (a.1=k))=(E7 kvs k).isSome
 |[]=>rfl
 |p::r=>by
  rw[List.any_cons];by_cases e:p.1=k
  .simp only[E3 e,bz e,Bool.true_or,Option.isSome_some]
  .rw[E4 e,cp e,Bool.false_or];exact M5 k r
theorem a5y(k j:κ)(y:V):∀kvs:List (κ×V),E7 (kvs.map λa=>if a.1=k then(a.1,y)else a) j=(E7 kvs j).map λx=>if j=k then y else x
 |[]=>rfl
 |p::r=>by
  have b:=a5y k j y r;rw[aV];by_cases h:p.1=k
  .rw[ay h];by_cases e:p.1=j
   .rw[E3 (p:=(p.1,y)) e,E3 e,eU,ay (e.symm.trans h)]
   .rw[E4 (p:=(p.1,y)) e,E4 e,b]
  .rw[ar h];by_cases e:p.1=j
   .rw[E3 (p:=p) e,E3 e,eU,ar (λz=>h (e.trans z))]
   .rw[E4 (p:=p) e,E4 e,b]
theorem a3E(k j:κ)(y:V):∀kvs:List (κ×V),E7 kvs k=none->E7 (kvs++[(k,y)]) j=if j=k then some y else E7 kvs j
 |[],_=>by
  by_cases e:k=j
  .rw[ay e.symm];exact E3 (p:=(k,y)) e
  .rw[ar (λz=>e z.symm)];exact E4 (p:=(k,y)) e
 |p::r,a=>by
  rw[List.cons_append];have b:¬p.1=k:=λz=>by rw[E3 z]at a;cases a
  rw[E4 b]at a;have c:=a3E k j y r a;by_cases e:p.1=j
  .rw[E3 e,E3 e,ar (λz=>b (e.trans z))]
  .rw[E4 e,E4 e,c]
theorem b0Q(kvs:List (κ×V))(k j:κ)(y:V):E7 (V1 kvs k y) j=if j=k then some y else E7 kvs j:=by
 unfold V1;by_cases a:(kvs.any λb=>decide (b.1=k))=true
 .rw[ay a,a5y];rw[M5]at a;by_cases e:j=k
  .obtain⟨x,hx⟩:=Option.isSome_iff_exists.mp a;rw[ay e,e,hx,eU,ay rfl]
  .rw[ar e];cases E7 kvs j with
   |none=>rfl
   |some x=>rw[eU,ar e]
 .rw[ar a];refine a3E k j y kvs ?_;rw[M5]at a;cases q:E7 kvs k with
  |none=>rfl
  |some x=>rw[q]at a;exact(a rfl).elim
theorem W4(kvs:List (κ×V))(k:κ)(v:V):(V1 kvs k v).length<=kvs.length+1:=by
 unfold V1;split
 .rw[aj];omega
 .rw[az,aU,List.length_nil];omega
theorem a5X{kvs:List (κ×V)}{k:κ}(v:V)(h:E7 kvs k=none):V1 kvs k v=kvs++[(k,v)]:=by
 unfold V1;rw[M5,h];exact ar (by decide)
theorem RelO.isSome_eq{o:Option V}{u:Option Value}(r:RelO o u):o.isSome=u.isSome:=by
 cases o with
 |none=>cases u with
  |none=>rfl
  |some _=>exact(show False from r).elim
 |some _=>cases u with
  |none=>exact(show False from r).elim
  |some _=>rfl
theorem KV.val{kvs:List (κ×V)}{vs:List (κ×Value)}(r:KV kvs vs)(k:κ):RelO (E7 kvs k) (valueAt vs k):=by
 unfold KV at r;induction r with
 |nil=>exact True.intro
 |@cons p q ps qs h t a =>
  obtain⟨h1,h2⟩:=h;by_cases e:p.1=k
  .have e':q.1=k:=h1.symm.trans e;have b:valueAt (q::qs) k=some q.2:=by simp[valueAt,d_,e']
   rw[E3 e,b];exact h2
  .have e':¬q.1=k:=λz=>e (h1.trans z);have b:valueAt (q::qs) k=valueAt qs k:=by simp[valueAt,d_,e']
   rw[E4 e,b];exact a
theorem KV.any{kvs:List (κ×V)}{vs:List (κ×Value)}(r:KV kvs vs)(k:κ):(kvs.any λa=>decide (a.1=k))=vs.any λa=>decide (a.1=k):=by
 unfold KV at r;induction r with
 |nil=>rfl
 |cons h t b=>rw[List.any_cons,List.any_cons,b,h.1]
theorem KV.repl{kvs:List (κ×V)}{vs:List (κ×Value)}(r:KV kvs vs)(k:κ){y:V}{u:Value}(c:RelV y u) :
  KV (kvs.map λa=>if a.1=k then(a.1,y)else a) (vs.map λa=>if a.1=k then(a.1,u)else a):=by
 unfold KV at r⊢;induction r with
 |nil=>exact .nil
 |@cons p q ps qs h t b =>
  rw[aV,aV];refine .cons ?_ b;obtain⟨h1,h2⟩:=h;by_cases e:p.1=k
  .rw[ay e,ay (h1.symm.trans e)];exact⟨h1,c⟩
  .rw[ar e,ar (λz=>e (h1.trans z))];exact⟨h1,h2⟩
theorem KV.put{kvs:List (κ×V)}{vs:List (κ×Value)}(r:KV kvs vs)(k:κ){y:V}{u:Value}(a:RelV y u):KV (V1 kvs k y) (stored vs k u):=by
 unfold V1 stored;rw[r.any k];by_cases e:(vs.any λb=>decide (b.1=k))=true
 .rw[ay e,ay e];exact r.repl k a
 .rw[ar e,ar e];exact Paired.snoc r ⟨rfl,a⟩
theorem KV.length{kvs:List (κ×V)}{vs:List (κ×Value)}(r:KV kvs vs):kvs.length=vs.length:=Paired.length r
end
theorem a6q{P:Program}{w:World}{k:Key}{u:Value}(r:RelV (kV k) u):(D5 P w).is k u=true:=by
 cases k with
 |inl i=>obtain⟨t,e⟩:=(show ∃t,u=Value.int i t from r);subst e;exact a6g P w i t
 |inr x=>obtain⟨t,e⟩:=(show ∃t,u=Value.str x t from r);subst e;exact a6f P w x t
theorem a3T{P:Program}{w:World}:∀{ks:List Key}{us:List Value},Vals (ks.map kV) us->ItemsAre (D5 P w) ks us
 |[],_,r=>by rw[List.map_nil]at r;cases r;exact .nil
 |k::ks,_,r=>by
  rw[aV]at r;cases r with
  |cons h t=>exact .cons (a6q h) (a3T t)
abbrev KT(H:Hp):List (List Key×V)->List (List Key×Addr×Value)->Prop:=Paired λp q=>p.1=q.1/\H q.2.1=some (.tup (p.1.map kV))/\RelV p.2 q.2.2
theorem KT.val{H:Hp}{kvs:List (List Key×V)}{xs:List (List Key×Addr×Value)}(r:KT H kvs xs)(k:List Key):RelO (E7 kvs k) ((atKey xs k).map (·.2)):=by
 induction r with
 |nil=>exact True.intro
 |@cons p q ps qs h t a =>
  obtain⟨h1,_,h2⟩:=h;by_cases e:p.1=k
  .have e':q.1=k:=h1.symm.trans e;have b:atKey (q::qs) k=some q.2:=by simp[atKey,d_,e']
   rw[E3 e,b];exact h2
  .have e':¬q.1=k:=λz=>e (h1.trans z);have b:atKey (q::qs) k=atKey qs k:=by simp[atKey,d_,e']
   rw[E4 e,b];exact a
theorem KT.repl{H:Hp}{kvs:List (List Key×V)}{xs:List (List Key×Addr×Value)}(r:KT H kvs xs)(k:List Key){y:V}{u:Value}(d:RelV y u) :
  KT H (kvs.map λa=>if a.1=k then(a.1,y)else a) (xs.map (putAt k u)):=by
 induction r with
 |nil=>exact .nil
 |@cons p q ps qs h t c =>
  rw[aV,aV];refine .cons ?_ c;obtain⟨h1,h2,b⟩:=h;unfold putAt;by_cases e:p.1=k
  .rw[ay e,ay (h1.symm.trans e)];exact⟨h1,h2,d⟩
  .rw[ar e,ar (λz=>e (h1.trans z))];exact⟨h1,h2,b⟩
theorem KT.put{H:Hp}{kvs:List (List Key×V)}{xs:List (List Key×Addr×Value)}(r:KT H kvs xs)(k:List Key){b:Addr}{y:V}{u:Value}(c:H b=some (.tup (k.map kV)))(a:RelV y u) :
  KT H (V1 kvs k y) (storedH xs k b u):=by
 have e:(kvs.any λd=>decide (d.1=k))=(atKey xs k).isSome:=by
  rw[M5,(r.val k).isSome_eq,Option.isSome_map]
 unfold V1 storedH;rw[e];by_cases q:(atKey xs k).isSome=true
 .rw[ay q,ay q];exact r.repl k a
 .rw[ar q,ar q];exact Paired.snoc r ⟨rfl,c,a⟩
theorem KT.keeps{H H':Hp}{kvs:List (List Key×V)}{xs:List (List Key×Addr×Value)}(r:KT H kvs xs)(a:∀b ys,H b=some (.tup ys)->H' b=some (.tup ys)):KT H' kvs xs :=
 Paired.mapP r λ_ _ z=>⟨z.1,a _ _ z.2.1,z.2.2⟩
section
variable {P:Program}{w:World}{H:Hp}{h:Heap}{a:Addr}
theorem b5G{u:HO}(ok:HOk P w H h)(e:Rd H a u):ObjOk P w H h a u:=e.ok ok
theorem a4c{kvs:List (Key×V)}(ok:HOk P w H h)(e:Rd H a (.dK kvs)):kvs.length<=sizeLine/\(a==sysModules)=false/\∃vs,KV kvs vs/\h.DictOf (D5 P w) a vs :=
 show ObjOk P w H h a (.dK kvs)from b5G ok e
theorem b8H{kvs:List (Key×V)}(ok:HOk P w H h)(e:H a=some (.dK kvs)):kvs.length<=sizeLine/\(a==sysModules)=false/\∃vs,KV kvs vs/\h.DictOf (D5 P w) a vs:=a4c ok (.inl e)
theorem a1g{ks:List Key}(ok:HOk P w H h)(e:H a=some (.tup (ks.map kV))):(tupleKind (D5 P w)).is h ks a:=by
 obtain⟨_,its,r,o,h1,h2,n,b⟩:=(show ObjOk P w H h a (.tup (ks.map kV))from ok a _ e);exact⟨o,its.toArray,n,h1,h2,b,by simpa using a3T r⟩
theorem a3Z{kvs:List (List Key×V)}(ok:HOk P w H h)(e:Rd H a (.dT kvs)):kvs.length<=sizeLine/\(a==sysModules)=false /\
  ∃xs,KT H kvs xs/\h.DictOfH (tupleKind (D5 P w)) a xs:=by
 obtain⟨z,y,xs,r,o,es,ep,h1,h2,d,f,g⟩:=(show ObjOk P w H h a (.dT kvs)from b5G ok e);refine⟨z,y,xs,r,o,es,ep,h1,h2,d,f,λx b=>?_,g⟩;have all:∀{l:List (List Key×V)}{m:List (List Key×Addr×Value)},KT H l m->∀x∈m,(tupleKind (D5 P w)).is h x.1 x.2.1:=by
  intro l m q;induction q with
  |nil=>intro x b;exact nomatch b
  |@cons p q ps qs c t i =>
   intro x b;rcases aI.mp b with e|b
   .subst e;exact a1g ok (by rw[<-c.1];exact c.2.1)
   .exact i x b
 exact all r x b
theorem b6a{kvs:List (List Key×V)}(ok:HOk P w H h)(e:H a=some (.dT kvs)):kvs.length<=sizeLine/\(a==sysModules)=false /\
  ∃xs,KT H kvs xs/\h.DictOfH (tupleKind (D5 P w)) a xs:=a3Z ok (.inl e)
end
def DGet(H:Hp)(a:Addr)(y:V)(r:Option V):Prop :=
 (∃kvs k,Rd H a (.dK kvs)/\y=kV k/\r=E7 kvs k)∨∃kvs k b,Rd H a (.dT kvs)/\y=.ref b/\H b=some (.tup (k.map kV))/\r=E7 kvs k
def DPut(H:Hp)(a:Addr)(y v:V)(H':Hp):Prop :=
 (∃kvs k,H a=some (.dK kvs)/\y=kV k/\kvs.length<sizeLine/\H'=upd H a (.dK (V1 kvs k v))) ∨
 ∃kvs k b,H a=some (.dT kvs)/\y=.ref b/\H b=some (.tup (k.map kV))/\kvs.length<sizeLine/\H'=upd H a (.dT (V1 kvs k v))
theorem DGet.t{H:Hp}{a b:Addr}{kvs:List (List Key×V)}{k:List Key}(e:H a=some (.dT kvs))(c:H b=some (.tup (k.map kV))):DGet H a (.ref b) (E7 kvs k):=.inr ⟨kvs,k,b,.inl e,rfl,c,rfl⟩
theorem DPut.t{H:Hp}{a b:Addr}{kvs:List (List Key×V)}{k:List Key}{v:V}(e:H a=some (.dT kvs))(c:H b=some (.tup (k.map kV)))(d:kvs.length<sizeLine) :
  DPut H a (.ref b) v (upd H a (.dT (V1 kvs k v))):=.inr ⟨kvs,k,b,e,rfl,c,d,rfl⟩
section
variable {X:Cx}{pins:List (Addr×Obj)}{σ:St}{H:Hp}{s:Shared}{a:Addr}{y v:V}{u r:Value}{o:Option V}{A:Around}{E:Value->Shared->Prop}
theorem Inv.big(I:Inv X pins σ H s):sysModules<s.heap.objs.size:=by
 have h:mainGlobals<s.heap.objs.size:=(I.mod.glob.keeps I.bk).lt;exact Nat.lt_trans (by decide) h
theorem b0q{Q:Value->Shared->Prop}(r:A.units+1<cLine)(I:Inv X pins σ H s)(g:DGet H a y (some v))(m:RelV y u)(h:∀f s',Inv X pins σ H s'->RelV v f->Q f s') :
  wpAny (model X.prog X.w) A (getItem (.ref a) u) Q E s:=by
 rcases g with⟨kvs,k,e,i,l⟩|⟨kvs,k,b,e,i,n,l⟩
 .subst i;obtain⟨z,hd,vs,c,dd⟩:=a4c I.hok e;obtain⟨f,hw,d⟩:=RelO.some_of (v:=v) (o:=valueAt vs k) (by rw[l];exact c.val k);exact wpAny_getItem_of (a6q m) dd.mapOf hw (h f _ (I.tok _) d)
 .subst i;cases(show u=Value.ref b from m);obtain⟨z,hd,xs,c,dd⟩:=a3Z I.hok e;obtain⟨f,hw,d⟩:=RelO.some_of (v:=v) (o:=(atKey xs k).map (·.2)) (by rw[l];exact c.val k);obtain⟨p,q,j⟩:=ei.mp hw;refine wpAny_getItem_heap (ed r) (a1g I.hok n) dd q ?_;rw[j];exact h f _ (I.tok _) d
theorem b8W{Q:Value->Shared->Prop}(j:A.units+1<cLine)(I:Inv X pins σ H s)(g:DGet H a y o)(f:RelV y u)(h:∀s',Inv X pins σ H s'->Q (.bool o.isSome) s') :
  wpAny (model X.prog X.w) A (compareOp .In u (.ref a)) Q E s:=by
 rcases g with⟨kvs,k,e,d,l⟩|⟨kvs,k,b,e,d,i,l⟩
 .subst d;obtain⟨z,hd,vs,c,dd⟩:=a4c I.hok e;refine wpAny_in_of (a6q f) hd dd.mapOf ?_;rw[<-(c.val k).isSome_eq,<-l];exact h _ (I.tok _)
 .subst d;cases(show u=Value.ref b from f);obtain⟨z,hd,xs,c,dd⟩:=a3Z I.hok e;refine wpAny_in_heap (ed j) (a1g I.hok i) hd dd ?_;have q:=(c.val k).isSome_eq;rw[Option.isSome_map]at q;rw[<-q,<-l];exact h _ (I.tok _)
theorem b5j{Q:Value->Shared->Prop}(j:A.units+1<cLine)(I:Inv X pins σ H s)(g:DGet H a y o)(f:RelV y u)(h:∀s',Inv X pins σ H s'->Q (.bool (!o.isSome)) s') :
  wpAny (model X.prog X.w) A (compareOp .NotIn u (.ref a)) Q E s:=by
 rcases g with⟨kvs,k,e,d,l⟩|⟨kvs,k,b,e,d,i,l⟩
 .subst d;obtain⟨z,hd,vs,c,dd⟩:=a4c I.hok e;refine wpAny_notIn_of (a6q f) hd dd.mapOf ?_;rw[<-(c.val k).isSome_eq,<-l];exact h _ (I.tok _)
 .subst d;cases(show u=Value.ref b from f);obtain⟨z,hd,xs,c,dd⟩:=a3Z I.hok e;refine wpAny_notIn_heap (ed j) (a1g I.hok i) hd dd ?_;have q:=(c.val k).isSome_eq;rw[Option.isSome_map]at q;rw[<-q,<-l];exact h _ (I.tok _)
theorem a5d{h':Heap}{t':Nat}{d:HO}(I:Inv X pins σ H s)(h:Mut (H a))(hs:Heap.SameBut a s.heap h')(g:∃q,h'.get? a=some q)(c:ObjOk X.prog X.w (upd H a d) h' a d) :
  Inv X pins σ (upd H a d) {s with heap:=h',toks:=t'} :=
 I.write (x:=a) (e:=a) h (.inl rfl) (λb q f z=>(hs.2 b f).trans z) g c
theorem b7B{P:Program}{w:World}{H':Hp}{h':Heap}{kvs:List (Key×V)}{vs:List (Key×Value)}(z:kvs.length<=sizeLine)(hd:(a==sysModules)=false)(b:KV kvs vs)(dd:h'.DictOf (D5 P w) a vs) :
  ObjOk P w H' h' a (.dK kvs):=⟨z,hd,vs,b,dd⟩
theorem b0p{H':Hp}{Q:Unit->Shared->Prop}(G:A.units+1<cLine)(I:Inv X pins σ H s)(g:DPut H a y v H')(x:RelV y u)(w:RelV v r)(h:∀s',Inv X pins σ H' s'->Q () s') :
  wpAny (model X.prog X.w) A (setItem (.ref a) u r) Q E s:=by
 rcases g with⟨kvs,k,e,m,l,j⟩|⟨kvs,k,b,e,m,p,l,j⟩
 .subst m j;obtain⟨z,hd,vs,d,dd⟩:=b8H I.hok e;have o:vs.length<=sizeLine:=by rw[<-d.length];exact z
  have n:(V1 kvs k v).length<=sizeLine:=by have:=W4 kvs k v;omega
  refine wpAny_setItem_pairs (hsz:=o) (a6q x) dd λh' f hs=>h _ ?_;have F:∃q,h'.get? a=some q:=let ⟨q,_,_,i,_⟩:=f;⟨q,i⟩
  exact a5d I (by rw[e];exact True.intro) hs F (b7B n hd (d.put k w) f)
 .subst m j;cases(show u=Value.ref b from x);obtain⟨z,hd,xs,d,dd⟩:=b6a I.hok e;have o:xs.length<=sizeLine:=by rw[<-Paired.length d];exact z
  have n:(V1 kvs k v).length<=sizeLine:=by have:=W4 kvs k v;omega
  refine wpAny_setItem_heap (hsz:=o) (ed G) (a1g I.hok p) dd λh' f hs=>h _ ?_;obtain⟨q,es,ep,i,h2,B,C,_,D⟩:=f;refine a5d I (by rw[e];exact True.intro) hs ⟨q,i⟩ ⟨n,hd,_,(d.put k p w).keeps λc ys t=>?_,q,es,ep,i,h2,B,C,D⟩;rw[A1 (I0 t e (λz=>nomatch z))];exact t
end
section
variable {X:Cx}{pins:List (Addr×Obj)}{σ:St}{H:Hp}{s:Shared}{a:Addr}{kvs:List (Key×V)}{k:Key}{u:Value}{A:Around}{E:Value->Shared->Prop}
end
def b7Q(i:Expr):Prop:=∀ov iv,subscripted i false ov iv=operate [ov,iv] (getItem ov iv)
theorem b3K{prog:Program}{w:World}{A:Around}{E:Value->Shared->Prop}{s:Shared}{env:Env}{value a:Expr}{pos:Pos}{T id:String}{Q:Value->Shared->Prop}
  (c:typeLookup (.type T) "__getitem__"=pure (some (.builtin id))) (hs:b7Q a)
  (h:wpAny (model prog w) A (eval value env) (λo s₁=>wpAny (model prog w) A (eval a env) (λi s₂=>s₂.TypeIs o T/\wpAny (model prog w) A (getItem o i) Q E s₂) E s₁) E s) :
  wpAny (model prog w) A (eval (.Subscript value a pos) env) Q E s:=by
 refine Subscript_ (cw h (λo s₁ h₁=>cw h₁ (λi s₂ h₂=>?_) λ_ _ x=>x) λ_ _ x=>x);obtain⟨b,h₂⟩:=h₂;unfold subscriptTail;refine aa ?_;rw[getitemInPython_of_ne b.not_modules];refine aa (wpAny_specialOf b c ?_);have fin:wpAny (model prog w) A (subscripted a false o i) (λr s₃=>wpAny (model prog w) A (letTemporaryGo value o r>>=λ_=>pure r) Q E s₃) E s₂:=by
  rw[hs o i];exact wpAny_operating (cw h₂ (λr s₃ h₃=>aa (wpAny_letTemporaryGo (ae h₃))) λ_ _ x=>x)
 first
  |exact ae (aa fin)
  |exact aa (ae (aa fin))
  |exact aa fin
theorem a6D{X:Cx}{pins:List (Addr×Obj)}{σ:St}{H:Hp}{s:Shared}{a:Addr}{y:V}{o:Option V}(I:Inv X pins σ H s)(g:DGet H a y o):s.TypeIs (.ref a) "dict":=by
 rcases g with⟨kvs,k,e,_,_⟩|⟨kvs,k,b,e,_,_,_⟩
 .obtain⟨_,_,vs,_,dd⟩:=a4c I.hok e;exact dd.typeIs
 .obtain⟨_,_,xs,_,dd⟩:=a3Z I.hok e;exact dd.typeIs
def b5y(td ty:TE):TE:=λσ H Q=>td σ H λx H1=>ty σ H1 λy H2=>∃a v,x=.ref a/\DGet H2 a y (some v)/\Q v H2
def b8d(ty td:TE):TE:=λσ H Q=>ty σ H λy H1=>td σ H1 λx H2=>∃a o,x=.ref a/\DGet H2 a y o/\Q (.bl o.isSome) H2
def a8d(ty td:TE):TE:=λσ H Q=>ty σ H λy H1=>td σ H1 λx H2=>∃a o,x=.ref a/\DGet H2 a y o/\Q (.bl (!o.isSome)) H2
def b5F(td ty tv:TE):TS:=λD σ H=>tv σ H λv H1=>td σ H1 λx H2=>ty σ H2 λy H3=>∃a H4,x=.ref a/\DPut H3 a y v H4/\D.nx σ H4
section
variable {X:Cx}{o i e value:Expr}{pos pos' tpos:Pos}{td ty tv:TE}
theorem b4x(j:X.A.units+1<cLine)(f:PE X o td)(hi:PE X i ty)(hs:b7Q i):PE X (.Subscript o i pos) (b5y td ty):=by
 intro pins s σ H Q I h;refine b3K PySem.F.slot_dict_getitem.lookup hs (thn (f pins s σ H _ I h) λu s1 ⟨x,H1,d,l,q1⟩=>thn (hi pins s1 σ H1 _ d q1) λn s2 ⟨y,H2,c,m,a,v,ex,g,k⟩=>?_);subst ex;obtain rfl:u=Value.ref a:=l;exact⟨a6D c g,b0q j c g m λq p e b=>⟨v,H2,e,b,k⟩⟩
theorem b6P(f:X.A.units+1<cLine)(hi:PE X i ty)(e:PE X o td):PC X .In i o (b8d ty td):=by
 intro pins s σ H Q I h;refine thn (hi pins s σ H _ I h) λn s1 ⟨y,H1,b,m,q1⟩=>thn (e pins s1 σ H1 _ b q1) λu s2 ⟨x,H2,c,l,a,j,ex,g,k⟩=>?_;subst ex;obtain rfl:u=Value.ref a:=l;exact b8W f c g m λp d=>⟨.bl j.isSome,H2,d,rfl,k⟩
theorem a9R(f:X.A.units+1<cLine)(hi:PE X i ty)(e:PE X o td):PC X .NotIn i o (a8d ty td):=by
 intro pins s σ H Q I h;refine thn (hi pins s σ H _ I h) λn s1 ⟨y,H1,b,m,q1⟩=>thn (e pins s1 σ H1 _ b q1) λu s2 ⟨x,H2,c,l,a,j,ex,g,k⟩=>?_;subst ex;obtain rfl:u=Value.ref a:=l;exact b5j f c g m λp d=>⟨.bl (!j.isSome),H2,d,rfl,k⟩
theorem b4j(k:X.A.units+1<cLine)(j:PE X o td)(hi:PE X i ty)(l:PE X value tv)(hs:swapsWith value (some (.Subscript o i pos')) pos.line X.env=pure false) :
  PS X (.Assign [.Subscript o i pos'] value pos) (b5F td ty tv):=by
 intro pins s σ H D I h;refine wpAny_Assign_Subscript (thn (l pins s σ H _ I h) λr s1 ⟨v,H1,c,p,q1⟩=>thn (j pins s1 σ H1 _ c q1) λu s2 ⟨x,H2,d,q,m⟩=>thn (hi pins s2 σ H2 _ d m) λz A ⟨y,w,e,t,a,b,ex,g,n⟩=>?_) hs;subst ex;obtain rfl:u=Value.ref a:=q;exact b0p k e g t p λB f=>⟨σ,b,f,n⟩
end
theorem b3e{P:Program}{w:World}{H:Hp}(h:Heap)(a:sysModules<h.objs.size):ObjOk P w H (h.push {cls:=.type "dict",data:=.dict #[]}) h.objs.size (.dT []) :=
 ⟨bq _,cT.mpr (dM (aM a)),[],.nil,_,#[],0,aJ _ rfl,⟨rfl,rfl,rfl⟩,rfl,rfl,fh⟩
def b1b:TE:=λ_ H Q=>∀p,H p=none->Q (.ref p) (upd H p (.dT []))
section
variable {X:Cx}{pos:Pos}
theorem b1Z:PE X (.Dict [] [] pos) b1b:=λpins s σ H Q I h =>
 wpAny_Dict_empty ⟨.ref s.heap.objs.size,_,I.laid (a:=s.heap.objs.size) (o:=.dT []) (t':=s.toks) (λ_ _ q=>ag _ q) (aq _) (b3e s.heap I.big),rfl,h _ (I.hok.fresh (aq _))⟩
end
structure M2(X:Cx)(o:Expr)(m:Str)(apos:Pos)(e f:Expr)(cpos:Pos):Prop where
 base:attributeBase o m X.env (eval o X.env)=eval o X.env
 few:((backTo cpos (starEach [e,f] X.env)).all (λx=>!x.1) && (backToKw cpos (keywordEach [] X.env)).all (λx=>x.1.isSome)
  && decide (([e,f]:List Expr).length+([]:List Keyword).length+(if ([]:List Keyword).isEmpty then 0 else 1)<30))=true
 line:(apos.endLine==cpos.line)=true
 trees:backTo cpos (starEach [e,f] X.env)=[(false,eval e X.env),(false,eval f X.env)]
def IsD(H:Hp)(a:Addr):Prop:=(∃kvs,Rd H a (.dK kvs))∨∃kvs,Rd H a (.dT kvs)
theorem b7u{X:Cx}{pins:List (Addr×Obj)}{σ:St}{H:Hp}{s:Shared}{a:Addr}(I:Inv X pins σ H s)(d:IsD H a) :
  s.TypeIs (.ref a) "dict"/\(∀b,Value.ref a=.ref b->∃c,s.heap.get? b=some c/\c.dict=none)/\(a==sysModules)=false:=by
 rcases d with⟨kvs,e⟩|⟨kvs,e⟩
 .obtain⟨_,hd,vs,_,dd⟩:=a4c I.hok e;refine⟨dd.typeIs,λb q=>?_,hd⟩;cases q;obtain⟨c,_,_,h1,h2,_⟩:=dd;exact⟨c,h1,h2.2.1⟩
 .obtain⟨_,hd,xs,_,dd⟩:=a3Z I.hok e;refine⟨dd.typeIs,λb q=>?_,hd⟩;cases q;obtain⟨c,_,_,h1,h2,_⟩:=dd;exact⟨c,h1,h2.2.1⟩
section
variable {X:Cx}{pins:List (Addr×Obj)}{σ:St}{H:Hp}{s:Shared}{a:Addr}{y d:V}{u r:Value}{o:Option V}{A:Around}{E:Value->Shared->Prop}
end
section
variable {X:Cx}{o e f:Expr}{apos cpos:Pos}{td ty tx:TE}
end
section
variable {X:Cx}{pins:List (Addr×Obj)}{σ:St}{H:Hp}{s:Shared}{a:Addr}{kvs:List (Key×V)}{A:Around}{E:Value->Shared->Prop}
end
section
variable {X:Cx}{pins:List (Addr×Obj)}{σ:St}{H:Hp}{s:Shared}{a:Addr}{y:V}{u:Value}{A:Around}{E:Value->Shared->Prop}
end
end L2
namespace Att
open PySem PySem.W PySem.Calls PyProof.Rows
section
variable {prog:Program}{w:World}{A:Around}{E:Value->Shared->Prop}{s:Shared}{K:Frag}
end
end Att
namespace L2
open PySem PySem.Spec PyProof.Rows
end L2
namespace L2
open PySem PySem.Spec PyProof.Rows
section
variable {P:Program}{w:World}{K:PySem.W.Frag}{mg:Str->Option Value}{base:Heap}
end
section
variable {X:Cx}
end
section
variable {κ:Type} [DecidableEq κ]
theorem a5x{kvs:List (κ×V)}{k:κ}(h:E7 kvs k=none):¬k∈kvs.map (·.1):=by
 intro m;obtain⟨p,a,e⟩:=aP.mp m;have q:(kvs.any λb=>decide (b.1=k))=true:=bV.mpr ⟨p,a,bz e⟩;rw[M5,h]at q;exact absurd q (by simp)
theorem a7Y{kvs:List (κ×V)}{k:κ}{v:V}(h:E7 kvs k=some v):k∈kvs.map (·.1):=by
 have q:(kvs.any λb=>decide (b.1=k))=true:=by
  rw[M5,h]
  all_goals rfl
 obtain⟨p,a,e⟩:=bV.mp q;exact aP.mpr ⟨p,a,bK e⟩
theorem a4Q:∀{l:List κ}{k:κ},l.Nodup->¬k∈l->(l++[k]).Nodup
 |[],k,_,_=>by simp
 |a::r,k,h,b=>by
  obtain⟨h1,h2⟩:=cG.mp h;show(a::(r++[k])).Nodup;refine cG.mpr ⟨λm=>?_,a4Q h2 λm=>b (aI.mpr (Or.inr m))⟩;rcases aK.mp m with q|q
  .exact h1 q
  .exact b (aI.mpr (Or.inl (aB.mp q).symm))
end
end L2
namespace L2
open PySem PySem.Spec PyProof.Rows PySem.W
section
variable {O:KeyOrd}{key:Nat->O.α}{N:Nat}{p:Array Nat}
noncomputable def kk(key:Nat->O.α)(p:Array Nat)(i:Nat):O.α:=key (p[i]?.getD 0)
end
theorem T0:∀a:List Int,HT.lexLt a a=false
 |[]=>rfl
 |x::xs=>by rw[HT.lexLt_cons,ay rfl];exact T0 xs
theorem a1c:∀a b c:List Int,HT.lexLt a b=true->HT.lexLt b c=true->HT.lexLt a c=true
 |[],[],_,h,_=>by cases h
 |_::_,[],_,h,_=>by cases h
 |_,_::_,[],_,h=>by cases h
 |[],_::_,_::_,_,_=>rfl
 |x::xs,y::ys,z::zs,h1,h2=>by
  rw[HT.lexLt_cons]at h1 h2⊢;by_cases e:x=y
  .rw[ay e]at h1;by_cases d:y=z
   .rw[ay d]at h2;rw[ay (e.trans d)];exact a1c xs ys zs h1 h2
   .rw[ar d]at h2;rw[ar (by rw[e];exact d),e];exact h2
  .rw[ar e]at h1;have h1:=bK h1;by_cases d:y=z
   .rw[ar (by rw[<-d];exact e),<-d];exact bz h1
   .rw[ar d]at h2;have h2:=bK h2;rw[ar (by omega)];exact bz (by omega)
theorem Q8:∀a b:List Int,HT.lexLt a b=false->HT.lexLt b a=false->a=b
 |[],[],_,_=>rfl
 |[],_::_,h,_=>by cases h
 |_::_,[],_,h=>by cases h
 |x::xs,y::ys,h1,h2=>by
  rw[HT.lexLt_cons]at h1 h2;by_cases e:x=y
  .subst e;rw[ay rfl]at h1 h2;rw[Q8 xs ys h1 h2]
  .rw[ar e]at h1;rw[ar (dM e)]at h2;have h1:=of_decide_eq_false h1;have h2:=of_decide_eq_false h2;omega
theorem b4R(a b c:List Int)(h:HT.lexLt a c=true):HT.lexLt a b=true∨HT.lexLt b c=true:=by
 cases h1:HT.lexLt a b with
 |true=>exact .inl rfl
 |false =>
  refine .inr ?_;cases h2:HT.lexLt b a with
  |true=>exact a1c b a c h2 h
  |false=>rw[<-Q8 a b h1 h2];exact h
noncomputable def OL:KeyOrd:=⟨List Int,HT.lexLt,T0,a1c,b4R,Q8⟩
def D0(tss:LLI):Prop:=tss.Pairwise λa b=>HT.lexLt b a=false
section
variable {prog:Program}{w:World}{A:Around}{E:Value->Shared->Prop}{s:Shared}
noncomputable def b4S(fin:Bool):List Int->List Int->Bool
 |[],_=>fin
 |_::_,[]=>fin
 |x::xs,y::ys=>if x=y then b4S fin xs ys else decide (x<y)
theorem a6k:∀(xs ys:List Int),b4S (decide (xs.length<ys.length)) xs ys=HT.lexLt xs ys
 |[],[]=>rfl
 |[],y::ys=>by
  show decide (0<ys.length+1)=true;exact bz (by omega)
 |x::xs,[]=>by
  show decide (xs.length+1<0)=false;exact cp (by omega)
 |x::xs,y::ys=>by
  rw[HT.lexLt_cons];show(if x=y then _ else _)=_;split
  .rw[<-a6k xs ys];congr 1;simp only[aU];exact decide_eq_decide.mpr (by omega)
  .rfl
theorem a9S{c:Bool}{a b:Int}{t u:Tok}{Q:Bool->Shared->Prop}(h:Q (decide (a<b)) s):wpAny (model prog w) A (oneLt' c (.int a t) (.int b u)) Q E s:=by
 cases c with
 |true=>exact oneLt_int h
 |false=>exact kat_one _ _ (lt_int h)
theorem a1A{b fin:Bool}{Q:Bool->Shared->Prop}:∀{vs a:List Value}{ns ms:List Int}(i:Nat),IntsAre vs ns->IntsAre a ms->Q (b4S fin ns ms) s->KatLex prog w A b fin Q (vs.zip a) i s
 |_,_,_,_,i,.nil,_,h=>h
 |_,_,_,_,i,.cons _ _ _,.nil,h=>h
 |_,_,_,_,i,.cons x t c,.cons y u d,h=>by
  rw[List.zip_cons_cons];refine kat_cons (wpAny_eqBool_int ?_);have h:Q (if x=y then b4S fin _ _ else decide (x<y)) s:=h;by_cases e:x=y
  .rw[ay e]at h;rw[show(x==y)=true from a_.mpr e];exact kat_yes (a1A (i+1) c d h)
  .rw[ar e]at h;rw[show(x==y)=false from cT.mpr e];exact kat_no (a9S h)
def TupsAre(h:Heap)(vs:List Value)(rss:LLI):Prop:=vs.length=rss.length/\∀(i:Nat) (v:Value),vs[i]?=some v->∃(r:List Int) (b:Addr) (its:Array Value),rss[i]?=some r/\v=Value.ref b/\IsTup h b its/\IntsAre its.toList r
theorem TupsAre.keeps{h h':Heap}{vs:List Value}{rss:LLI}(t:TupsAre h vs rss)(k:∀b its,IsTup h b its->IsTup h' b its):TupsAre h' vs rss :=
 ⟨t.1,λi v e=>let ⟨r,b,its,e1,e2,e3,e4⟩:=t.2 i v e;⟨r,b,its,e1,e2,k _ _ e3,e4⟩⟩
theorem a5A{h:Heap}:∀{vs:List Value}{rss:LLI},TupsAre h vs rss->(∀r∈rss,0<r.length)->∃fs,KatTups h vs fs/\fs.length=vs.length/\∀f∈fs,∃n t,f=Value.int n t
 |[],_,_,_=>⟨[],trivial,rfl,λ_ z=>nomatch z⟩
 |v::vs,[],T,_=>by cases T.1
 |v::vs,r::rss,T,hw=>by
  obtain⟨fs,h1,h2,p⟩:=a5A (vs:=vs) (rss:=rss) ⟨by have:=T.1;simpa using this,λi u e=>T.2 (i+1) u e⟩ λr c=>hw r (ak _ c);obtain⟨w,b,its,j,k,⟨o,q1,q,n,s⟩,d⟩:=T.2 0 v rfl;cases j;have c:=hw r au;obtain⟨x,t,g,m⟩:∃x t g,its.toList=Value.int x t::g:=by
   generalize its.toList=l at d;cases d with
   |nil=>simp at c
   |cons x t h=>exact⟨x,t,_,rfl⟩
  refine⟨.int x t::fs,⟨⟨b,o,its,n,k,q1,q,s,?_⟩,h1⟩,by simp[h2],λf a=>?_⟩
  .rw[<-av,m];rfl
  .rcases aI.mp a with rfl|a
   .exact⟨x,t,rfl⟩
   .exact p f a
theorem a9v{vs:List Value}{rss:LLI}{Q:SortKind->Shared->Prop}(T:TupsAre s.heap vs rss)(hw:∀r∈rss,0<r.length)(a:0<vs.length)(h:Q (tuples' true) s):wpAny (model prog w) A (keyKind' vs.toArray) Q E s:=by
 obtain⟨fs,h1,h2,b⟩:=a5A T hw;refine kat_kind (T:=.type "int") h1 (by omega) (λv a=>?_) rfl ?_
 .obtain⟨n,t,rfl⟩:=b v a;exact .now
 .rw[show(Value.type "int" != Value.type "tuple")=true from rfl];exact h
end
section
variable {prog:Program}{w:World}{A:Around}{E:Value->Shared->Prop}{s:Shared}
theorem U6{h:Heap}{a:Addr}{vs:List Value}{out:Array Value}:∀b o,b≠a->h.get? b=some o->(sortedHeap h a vs out).get? b=some o:=λb o c e=>by
 unfold sortedHeap;rw[Heap.get?_update_ne _ _ _ _ c];exact ag _ (ag _ (by rw[Heap.get?_update_ne _ _ _ _ c];exact e))
theorem a0e{h:Heap}{a:Addr}{vs:List Value}{out:Array Value}{n:Nat}(f:h.get? a=some (seqObj "list" vs.toArray n)):∃c,(sortedHeap h a vs out).get? a=some (seqObj "list" out c):=by
 unfold sortedHeap;have g:a<h.objs.size:=aG f;obtain⟨b,d⟩:∃b,(h.update a (Obj.mapSeq λ_=>#[])).get? a=some (seqObj "list" #[] b):=⟨_,get?_update_seq f (λ_=>#[])⟩;have e:(((h.update a (Obj.mapSeq λ_=>#[])).push (seqObj "tuple" vs.toArray 0)).push (seqObj "list" #[] 0)).get? a=some (seqObj "list" #[] b):=ag _ (ag _ d);exact⟨_,get?_update_seq e (λ_=>out)⟩
end
section
variable {X:Cx}
theorem a2S{pins:List (Addr×Obj)}{σ:St}{H:Hp}{s:Shared}(I:Inv X pins σ H s){ys:List V}{rss:LLI}{us:List Value}(h:Its H ys rss)(r:Vals ys us):TupsAre s.heap us rss:=by
 refine⟨by rw[<-r.length];exact h.1,λi v e=>?_⟩;have hi:i<ys.length:=by rw[r.length];exact(aC.mp e).1
 obtain⟨u,b,c⟩:=r.get (ai hi);rw[e]at b;cases b;obtain⟨row,q1,a,d,f⟩:=h.2 i _ (ai hi);rw[d]at c;cases c;obtain⟨its,g,j,_⟩:=I.tuple (SqT.of (K:=X.K) f);exact⟨row,a,its.toArray,q1,rfl,j,by simpa using a7A g⟩
end
noncomputable def P6:Bool->Keyed->Array Keyed->Nat->Nat->Nat->StateT SortSt Sem (Option Nat):=sortPriv% PySem.Builtin.gallop
noncomputable def P8(left:Bool)(key:Keyed)(arr:Array Keyed)(base:Nat)(i:Nat):StateT SortSt Sem (Option Bool):=do
 let x <-elem' arr (base+i)
 if left then lt' x key else return (<-lt' key x).map (!·)
noncomputable def b5n(left:Bool)(key:Keyed)(arr:Array Keyed)(base n lo₀ hi₀:Nat):StateT SortSt Sem (Option Nat):=do
 let mut lo:=lo₀
 let mut hi:=hi₀
 for _ in [0:n] do
  if lo ≥ hi then break
  let m:=lo+(hi-lo) / 2
  let some more <-P8 left key arr base m|return none
  if more then lo:=m+1 else hi:=m
 return some hi
theorem a7C(left:Bool)(key:Keyed)(arr:Array Keyed)(base n a:Nat):P6 left key arr base n a=(P8 left key arr base a>>=λr=>match r with
 |some right=>(if right=true then
   (forIn [:n] ((none,0,1):Option (Option Nat)×Nat×Nat) (λ_ c=>if c.2.2 ≥ n-a then pure (.done (none,c.2.1,c.2.2))else P8 left key arr base (a+c.2.2)>>=λr=>match r with
     |some more=>(if (!more)=true then pure (.done (none,c.2.1,c.2.2))else pure (.yield (none,c.2.2,2*c.2.2+1)))
     |_=>pure (.done (some none,c.2.1,c.2.2)))>>=λc=>match c.1 with
    |some r=>pure r
    |none=>b5n left key arr base n (a+c.2.1+1) (a+min c.2.2 (n-a)))
  else
   (forIn [:n] ((none,0,1):Option (Option Nat)×Nat×Nat) (λ_ c=>if c.2.2 ≥ a+1 then pure (.done (none,c.2.1,c.2.2))else P8 left key arr base (a-c.2.2)>>=λr=>match r with
     |some found=>(if found=true then pure (.done (none,c.2.1,c.2.2))else pure (.yield (none,c.2.2,2*c.2.2+1)))
     |_=>pure (.done (some none,c.2.1,c.2.2)))>>=λc=>match c.1 with
    |some r=>pure r
    |none=>b5n left key arr base n (a+1-min c.2.2 (a+1)) (a-c.2.1)))
 |_=>pure none):=by
 show(_>>=_)=(_>>=_);refine aO _ (funext λr=>?_);cases r with
 |none=>rfl
 |some right =>
  dsimp only;refine dJ rfl (λ_=>?_) (λ_=>?_)
  .refine congr (aO _ (aO _ (funext λ_=>funext λc=>?_))) (funext λc=>?_)
   .rfl
   .rcases c with⟨_|q,c⟩<;>rfl
  .refine congr (aO _ (aO _ (funext λ_=>funext λc=>?_))) (funext λc=>?_)
   .rfl
   .rcases c with⟨_|q,c⟩<;>rfl
section
variable {prog:Program}{w:World}{A:Around}{E:Value->Shared->Prop}{s:Shared}
def Cmp(prog:Program)(w:World)(A:Around)(s:Shared)(κ:SortKind)(D:Keyed->Prop)(lt:Keyed->Keyed->Bool):Prop :=
 ∀x y (C:Bool->Shared->Prop),D x->D y->C (lt x y) s->wpAny (model prog w) A (keyLt' κ x.1 y.1) C (λ_ _=>False) s
variable {κ:SortKind}{D:Keyed->Prop}{lt:Keyed->Keyed->Bool}
theorem a0u{st:SortSt}{x y:Keyed}{Q:Option Bool->SortSt->Prop}(d:Cmp prog w A s κ D lt)(e:kindOf st=κ)(f:D x)(g:D y)(h:Q (some (lt x y)) st):wpS (model prog w) A E s (lt' x y) Q st:=by
 rw[lt'_eq];refine aA (fi ?_);rw[e];refine aA (wpS_lift (dV (cw (d x y (λb s'=>s'=s/\b=lt x y) f g ⟨rfl,rfl⟩) (λb s' ⟨a,c⟩=>?_) λ_ _ z=>z.elim)));rw[a,c];exact⟨rfl,aL h⟩
noncomputable def b3x(lt:Keyed->Keyed->Bool)(left:Bool)(key x:Keyed):Bool:=if left then lt x key else !(lt key x)
theorem a6O{st:SortSt}{left:Bool}{key x:Keyed}{arr:Array Keyed}{base i:Nat}{Q:Option Bool->SortSt->Prop}(b:Cmp prog w A s κ D lt)(c:kindOf st=κ)(a:D key)(d:D x)(e:arr[base+i]?=some x)(h:Q (some (b3x lt left key x)) st) :
  wpS (model prog w) A E s (P8 left key arr base i) Q st:=by
 unfold P8;rw[elem'_eq,e];refine aA (aL ?_);unfold b3x at h;cases left with
 |true=>exact a0u b c d a h
 |false=>exact aA (a0u b c a d (aL h))
theorem a7X{st:SortSt}{left:Bool}{key:Keyed}{arr:Array Keyed}{base n lo hi:Nat}{Q:Option Nat->SortSt->Prop}(a:Nat->Bool)
  (m:∀i,i<n->∀{R:Option Bool->SortSt->Prop},R (some (a i)) st->wpS (model prog w) A E s (P8 left key arr base i) R st) (mono:∀i j,i<=j->j<n->a j=true->a i=true) (o:∀i j,i<=j->j<n->a i=false->a j=false)
  (h1:lo<=hi) (h2:hi<=n) (u:∀i,i<lo->a i=true) (v:∀i,hi<=i->i<n->a i=false)
  (h:∀k,k<=n->(∀i,i<k->a i=true)->(∀i,k<=i->i<n->a i=false)->Q (some k) st):wpS (model prog w) A E s (b5n left key arr base n lo hi) Q st:=by
 unfold b5n;dsimp only;refine aA (cE (cq (I:=λx c st'=>st'=st/\∃l r,c=(none,l,r)/\l<=r/\r<=n/\r-l<=n-x/\(∀i,i<l->a i=true)/\(∀i,r<=i->i<n->a i=false))
  (Q:=λc st'=>st'=st/\∃l,c=(none,l,l)/\l<=n/\(∀i,i<l->a i=true)/\(∀i,l<=i->i<n->a i=false)) ?step ?fin ⟨rfl,lo,hi,rfl,h1,h2,by omega,u,v⟩) ?post)
 case fin =>
  rintro c st' ⟨rfl,l,r,rfl,a1,b,t,d,f⟩;have e:l=r:=by omega
  subst e;exact⟨rfl,l,rfl,b,d,f⟩
 case step =>
  rintro x c st' _ y ⟨rfl,l,r,rfl,a1,b,t,d,f⟩;dsimp only;by_cases g:l ≥ r
  .rw[ay g];have e:l=r:=by omega
   subst e;exact aL ⟨rfl,l,rfl,b,d,f⟩
  .rw[ar g];have q:l+(r-l) / 2<n:=by omega
   refine aA (m _ q ?_);dsimp only;cases p:a (l+(r-l) / 2)with
   |true =>
    rw[ay rfl];exact aL ⟨rfl,_,r,rfl,by omega,b,by omega,λi hi=>mono i _ (by omega) q p,f⟩
   |false =>
    rw[ar (by simp)];exact aL ⟨rfl,l,_,rfl,by omega,by omega,by omega,d,λi h1 h2=>o _ i h1 h2 p⟩
 case post =>
  rintro c st' ⟨rfl,l,rfl,b,d,f⟩;exact aL (h l b d f)
theorem K0{st:SortSt}{left:Bool}{key:Keyed}{arr:Array Keyed}{base n a:Nat}{Q:Option Nat->SortSt->Prop}(F:Cmp prog w A s κ D lt)(J:kindOf st=κ)(u:D key)(b:Nat->Bool)
  (r:∀i,i<n->∃x,arr[base+i]?=some x/\D x/\b3x lt left key x=b i) (mono:∀i j,i<=j->j<n->b j=true->b i=true) (G:a<n)
  (h:∀k,k<=n->(∀i,i<k->b i=true)->(∀i,k<=i->i<n->b i=false)->Q (some k) st):wpS (model prog w) A E s (P6 left key arr base n a) Q st:=by
 have m:∀i,i<n->∀{R:Option Bool->SortSt->Prop},R (some (b i)) st->wpS (model prog w) A E s (P8 left key arr base i) R st:=λi hi R hR=>by
  obtain⟨x,B,y,C⟩:=r i hi;exact a6O F J u y B (by rw[C];exact hR)
 have q:∀i j,i<=j->j<n->b i=false->b j=false:=λi j z H e=>by
  cases y:b j with
  |false=>rfl
  |true=>rw[mono i j z H y]at e;cases e
 rw[a7C];refine aA (m a G ?_);dsimp only;cases t:b a with
 |true =>
  rw[ay rfl];refine aA (cE (cq (I:=λx c st'=>st'=st/\∃l o,c=(none,l,o)/\l<o/\x+1<=o/\a+l<n/\b (a+l)=true)
   (Q:=λc st'=>st'=st/\∃l o,c=(none,l,o)/\l<o/\a+l<n/\b (a+l)=true/\(o ≥ n-a∨b (a+o)=false)) ?step ?fin ⟨rfl,0,1,rfl,by omega,by omega,by omega,t⟩) ?post)
  case fin =>
   rintro c st' ⟨rfl,l,o,rfl,a1,v,g,f⟩;exact⟨rfl,l,o,rfl,a1,g,f,.inl (by omega)⟩
  case step =>
   rintro x c st' _ K ⟨rfl,l,o,rfl,a1,v,g,f⟩;dsimp only;by_cases d:o ≥ n-a
   .rw[ay d];exact aL ⟨rfl,l,o,rfl,a1,g,f,.inl d⟩
   .rw[ar d];refine aA (m _ (by omega) ?_);dsimp only;cases r:b (a+o)with
    |true =>
     rw[ar (by simp)];exact aL ⟨rfl,o,2*o+1,rfl,by omega,by omega,by omega,r⟩
    |false =>
     rw[ay (by rfl)];exact aL ⟨rfl,l,o,rfl,a1,g,f,.inr r⟩
  case post =>
   rintro c st' ⟨rfl,l,o,rfl,a1,g,f,p⟩;dsimp only;refine a7X (lo:=a+l+1) (hi:=a+min o (n-a)) b m mono q (by omega) (by omega) (λi hi=>mono i (a+l) (by omega) g f) (λi h1 h2=>?_) h;rcases p with p|p
   .omega
   .exact q (a+o) i (by omega) h2 p
 |false =>
  rw[ar (by simp)];refine aA (cE (cq (I:=λx c st'=>st'=st/\∃l o,c=(none,l,o)/\l<o/\x+1<=o/\l<=a/\b (a-l)=false)
   (Q:=λc st'=>st'=st/\∃l o,c=(none,l,o)/\l<o/\l<=a/\b (a-l)=false/\(o ≥ a+1∨b (a-o)=true)) ?step ?fin ⟨rfl,0,1,rfl,by omega,by omega,by omega,t⟩) ?post)
  case fin =>
   rintro c st' ⟨rfl,l,o,rfl,a1,v,g,f⟩;exact⟨rfl,l,o,rfl,a1,g,f,.inl (by omega)⟩
  case step =>
   rintro x c st' _ K ⟨rfl,l,o,rfl,a1,v,g,f⟩;dsimp only;by_cases d:o ≥ a+1
   .rw[ay d];exact aL ⟨rfl,l,o,rfl,a1,g,f,.inl d⟩
   .rw[ar d];refine aA (m _ (by omega) ?_);dsimp only;cases r:b (a-o)with
    |true =>
     rw[ay rfl];exact aL ⟨rfl,l,o,rfl,a1,g,f,.inr r⟩
    |false =>
     rw[ar (by simp)];exact aL ⟨rfl,o,2*o+1,rfl,by omega,by omega,by omega,r⟩
  case post =>
   rintro c st' ⟨rfl,l,o,rfl,a1,g,f,p⟩;dsimp only;refine a7X (lo:=a+1-min o (a+1)) (hi:=a-l) b m mono q (by omega) (by omega) (λi hi=>?_) (λi h1 h2=>q (a-l) i h1 h2 f) h;rcases p with p|p
   .omega
   .exact mono i (a-o) (by omega) (by omega) p
end
section
variable {O:KeyOrd}{kf:Keyed->O.α}{la lb o:List Keyed}{ia ib:Nat}
def leK(kf:Keyed->O.α)(x y:Keyed):Prop:=O.kle (kf x) (kf y)
noncomputable def ltK(kf:Keyed->O.α)(x y:Keyed):Bool:=O.blt (kf x) (kf y)
structure MS(kf:Keyed->O.α)(la lb o:List Keyed)(ia ib:Nat):Prop where
 perm:o.Perm (la.take ia++lb.take ib)
 sorted:o.Pairwise (leK kf)
 ra:∀x∈o,∀y∈la.drop ia,leK kf x y
 rb:∀x∈o,∀y∈lb.drop ib,leK kf x y
theorem Z6{α:Type}{l:List α}{i:Nat}{x:α}(h:l[i]?=some x):l.drop i=x::l.drop (i+1):=by
 obtain⟨hi,e⟩:=aC.mp h;rw[cB hi,e]
theorem V4{l:List Keyed}{i:Nat}{x:Keyed}(hs:l.Pairwise (leK kf))(h:l[i]?=some x):∀y∈l.drop (i+1),leK kf x y:=by
 have:=hs.drop (i:=i);rw[Z6 h]at this;exact(dv.mp this).1
theorem S3{α:Type}{l:List α}{i:Nat}{x:α}(h:l[i]?=some x):l.take (i+1)=l.take i++[x]:=by
 rw[bB,h];rfl
theorem MS.stepA{x:Keyed}(h:MS kf la lb o ia ib)(hs:la.Pairwise (leK kf))(e:la[ia]?=some x)(c:∀y∈lb.drop ib,leK kf x y):MS kf la lb (o++[x]) (ia+1) ib:=by
 have d:x∈la.drop ia:=by rw[Z6 e];exact au
 refine⟨?_,?_,λz b y a=>?_,λz b y a=>?_⟩
 .rw[S3 e];have:=h.perm.append_right [x];refine this.trans ?_;rw[aF,aF];exact cu _ cF
 .rw[bx];exact⟨h.sorted,List.pairwise_singleton _ _,λz b y a=>by rw[aB.mp a];exact h.ra z b x d⟩
 .have hy':y∈la.drop ia:=by rw[Z6 e];exact ak _ a
  rcases aK.mp b with q|q
  .exact h.ra z q y hy'
  .rw[aB.mp q];exact V4 hs e y a
 .rcases aK.mp b with q|q
  .exact h.rb z q y a
  .rw[aB.mp q];exact c y a
theorem MS.swap(h:MS kf la lb o ia ib):MS kf lb la o ib ia:=⟨h.perm.trans cF,h.sorted,h.rb,h.ra⟩
theorem MS.stepB{x:Keyed}(h:MS kf la lb o ia ib)(hs:lb.Pairwise (leK kf))(e:lb[ib]?=some x)(a:∀y∈la.drop ia,leK kf x y):MS kf la lb (o++[x]) ia (ib+1) :=
 (h.swap.stepA hs e a).swap
theorem MS.bulkA(hs:la.Pairwise (leK kf)):∀(k:Nat) {o:List Keyed}{ia:Nat},MS kf la lb o ia ib->ia+k<=la.length->(∀i x,i<k->la[ia+i]?=some x->∀y∈lb.drop ib,leK kf x y)->MS kf la lb (o++(la.drop ia).take k) (ia+k) ib
 |0,o,ia,h,_,_=>by rw[List.take_zero,cJ];exact h
 |k+1,o,ia,h,c,b=>by
  obtain⟨x,a⟩:∃x,la[ia]?=some x:=⟨_,ai (by omega)⟩;have h1:=h.stepA hs a (b 0 x (by omega) a);have h2:=MS.bulkA hs k h1 (by omega) λi y hi e=>b (i+1) y (by omega) (by rw[<-e];congr 1;omega);rw[Z6 a,List.take_succ_cons];rw[aF]at h2;rw[show ia+(k+1)=ia+1+k by omega];exact h2
theorem MS.bulkB(hs:lb.Pairwise (leK kf)){k:Nat}(h:MS kf la lb o ia ib)(b:ib+k<=lb.length)(a:∀i x,i<k->lb[ib+i]?=some x->∀y∈la.drop ia,leK kf x y):MS kf la lb (o++(lb.drop ib).take k) ia (ib+k) :=
 (MS.bulkA hs k h.swap b a).swap
def a1r(kf:Keyed->O.α)(la lb o:List Keyed):Prop:=o.Perm (la++lb)/\o.Pairwise (leK kf)
theorem MS.done(h:MS kf la lb o ia ib)(hs:la.Pairwise (leK kf))(b:ib=lb.length):a1r kf la lb (o++la.drop ia++lb.drop ib):=by
 subst b;rw[fG,cJ];have a:=h.perm;rw[bJ]at a;refine⟨?_,?_⟩
 .refine(a.append_right _).trans ?_;rw[aF];refine(cu _ cF).trans ?_;rw[<-aF,bj]
 .rw[bx];exact⟨h.sorted,hs.drop,h.ra⟩
theorem MS.lastA(h:MS kf la lb o ia ib)(a:la.Pairwise (leK kf))(hs:lb.Pairwise (leK kf))(c:∀y∈lb.drop ib,∀x∈la.drop ia,leK kf y x):a1r kf la lb (o++lb.drop ib++la.drop ia):=by
 refine⟨?_,?_⟩
 .have hp:=(h.perm.append_right (lb.drop ib)).append_right (la.drop ia);refine hp.trans ?_;rw[aF (la.take ia),bj,aF];refine(cu _ cF).trans ?_;rw[<-aF,bj]
 .rw[bx];refine⟨?_,a.drop,λx d y b=>?_⟩
  .rw[bx];exact⟨h.sorted,hs.drop,h.rb⟩
  .rcases aK.mp d with q|q
   .exact h.ra x q y b
   .exact c x q y b
end
noncomputable def a2D:Array Keyed->Array Keyed->StateT SortSt Sem (Array Keyed):=sortPriv% PySem.Builtin.mergeLo
noncomputable def Y0(g:Nat):StateT SortSt Sem Unit:=modify λs=>SortSt.mk' (kindOf s) (arrOf s) (pendingOf s) g (failedOf s)
noncomputable def N2(a b out:Array Keyed)(ia ib:Nat):Array Keyed:=out++a.extract ia a.size++b.extract ib b.size
noncomputable def a0p(a b out:Array Keyed)(ia ib:Nat):Array Keyed:=out++b.extract ib b.size++a.extract ia a.size
abbrev T1:Type:=Option (Array Keyed)×Array Keyed×Nat×Nat×Nat×Nat
abbrev T2:Type:=Option (Array Keyed)×Array Keyed×Nat×Nat×Nat×Nat×Nat
noncomputable def loD(a b out:Array Keyed)(ia ib mg k k1:Nat):StateT SortSt Sem (ForInStep T2) :=
 elem' a ia>>=λx =>
 if (ia+1+1==a.size)=true then pure (.done (some (a0p a b (out.push x) (ia+1) ib),out.push x,ia+1,ib,mg,k,k1))
 else if (decide (k<7) && decide (k1<7))=true then pure (.done (none,out.push x,ia+1,ib,mg,k,k1))
 else pure (.yield (none,out.push x,ia+1,ib,mg,k,k1))
noncomputable def loC(a b out:Array Keyed)(ia ib mg k bc:Nat):StateT SortSt Sem (ForInStep T2) :=
 elem' b ib>>=λy =>
 if (ib+1==b.size)=true then pure (.done (some (N2 a b (out.push y) ia (ib+1)),out.push y,ia,ib+1,mg,k,bc))
 else elem' a ia>>=λx=>P6 true x b (ib+1) (b.size-(ib+1)) 0>>=λr =>
  match r with
  |some k1=>(if k1 > 0 then
    (if (ib+1+k1==b.size)=true then pure (.done (some (N2 a b (out.push y++b.extract (ib+1) (ib+1+k1)) ia (ib+1+k1)),out.push y++b.extract (ib+1) (ib+1+k1),ia,ib+1+k1,mg,k,k1))
    else loD a b (out.push y++b.extract (ib+1) (ib+1+k1)) ia (ib+1+k1) mg k k1)
   else loD a b (out.push y) ia (ib+1) mg k k1)
  |_=>pure (.done (some (N2 a b (out.push y) ia (ib+1)),out.push y,ia,ib+1,mg,k,bc))
noncomputable def loB(a b out:Array Keyed)(ia ib mg ac bc:Nat):StateT SortSt Sem (ForInStep T2) :=
 Y0 mg>>=λ_=>elem' b ib>>=λy=>P6 false y a ia (a.size-ia) 0>>=λr =>
 match r with
 |some k=>(if k > 0 then
   (if (ia+k+1==a.size)=true then pure (.done (some (a0p a b (out++a.extract ia (ia+k)) (ia+k) ib),out++a.extract ia (ia+k),ia+k,ib,mg,k,bc))
   else if (ia+k==a.size)=true then pure (.done (some (N2 a b (out++a.extract ia (ia+k)) (ia+k) ib),out++a.extract ia (ia+k),ia+k,ib,mg,k,bc))
   else loC a b (out++a.extract ia (ia+k)) (ia+k) ib mg k bc)
  else loC a b out ia ib mg k bc)
 |_=>pure (.done (some (N2 a b out ia ib),out,ia,ib,mg,ac,bc))
noncomputable def loA(a b out:Array Keyed)(ia ib ac bc mg:Nat):StateT SortSt Sem (ForInStep T1) :=
 elem' b ib>>=λy=>elem' a ia>>=λx=>lt' y x>>=λr =>
 match r with
 |some bWins=>(if bWins=true then elem' b ib>>=λy =>
   (if (ib+1==b.size)=true then pure (.done (some (N2 a b (out.push y) ia (ib+1)),out.push y,ia,ib+1,0,bc+1))
   else if bc+1 ≥ mg then pure (.done (none,out.push y,ia,ib+1,0,bc+1))
   else pure (.yield (none,out.push y,ia,ib+1,0,bc+1)))
  else elem' a ia>>=λx =>
   (if (ia+1+1==a.size)=true then pure (.done (some (a0p a b (out.push x) (ia+1) ib),out.push x,ia+1,ib,ac+1,0))
   else if ac+1 ≥ mg then pure (.done (none,out.push x,ia+1,ib,ac+1,0))
   else pure (.yield (none,out.push x,ia+1,ib,ac+1,0))))
 |_=>pure (.done (some (N2 a b out ia ib),out,ia,ib,ac,bc))
theorem a6h(a b:Array Keyed):a2D a b=(do
 rule "list.sort.merge-lo"
 let y <-elem' b 0
 if (1==b.size)=true then pure (N2 a b #[y] 0 1)
 else if (0+1==a.size)=true then pure (a0p a b #[y] 0 1)
 else do
  let g <-get
  let r <-forIn [:a.size+b.size] ((none,#[y],0,1,gallopOf g):Option (Array Keyed)×Array Keyed×Nat×Nat×Nat) λ_ c=>do
   let r <-forIn [:a.size+b.size] ((none,c.2.1,c.2.2.1,c.2.2.2.1,0,0):T1) λ_ d=>loA a b d.2.1 d.2.2.1 d.2.2.2.1 d.2.2.2.2.1 d.2.2.2.2.2 c.2.2.2.2
   match r.1 with
   |some q=>pure (ForInStep.done (some q,r.2.1,r.2.2.1,r.2.2.2.1,c.2.2.2.2))
   |none=>do
    rule "list.sort.gallop"
    let t <-forIn [:a.size+b.size] ((none,r.2.1,r.2.2.1,r.2.2.2.1,c.2.2.2.2+1,r.2.2.2.2.1,r.2.2.2.2.2):T2) λ_ d =>
     if d.2.2.2.2.1 > 1 then loB a b d.2.1 d.2.2.1 d.2.2.2.1 (d.2.2.2.2.1-1) d.2.2.2.2.2.1 d.2.2.2.2.2.2 else loB a b d.2.1 d.2.2.1 d.2.2.2.1 d.2.2.2.2.1 d.2.2.2.2.2.1 d.2.2.2.2.2.2
    match t.1 with
    |some q=>pure (ForInStep.done (some q,t.2.1,t.2.2.1,t.2.2.2.1,t.2.2.2.2.1))
    |none=>do
     Y0 (t.2.2.2.2.1+1)
     pure (ForInStep.yield (none,t.2.1,t.2.2.1,t.2.2.2.1,t.2.2.2.2.1+1))
  match r.1 with
  |some q=>pure q
  |none=>unsupported "internal:list.sort.merge-bound"):=by
 show(_>>=_)=(_>>=_);refine aO _ (funext λ_=>?_);dsimp only;refine aO _ (funext λy=>?_);refine dJ rfl (λ_=>rfl) (λ_=>dJ rfl (λ_=>rfl) λ_=>?_);refine aO _ (funext λg=>?_);refine congr (aO _ (aO _ (funext λ_=>funext λc=>?_))) (funext λr=>?_)
 .refine congr (aO _ (aO _ (funext λ_=>funext λd=>?_))) (funext λr=>?_)
  .rfl
  .rcases r with⟨_|q,r⟩
   .dsimp only;refine aO _ (funext λ_=>?_);refine congr (aO _ (aO _ (funext λ_=>funext λd=>?_))) (funext λr=>?_)
    .rfl
    .rcases r with⟨_|q,r⟩<;>rfl
   .rfl
 .rcases r with⟨_|q,r⟩
  .dsimp only
  .rfl
theorem a2b{α:Type}(a:Array α)(i:Nat):(a.extract i a.size).toList=a.toList.drop i:=by
 rw[eN];simp[List.extract_eq_drop_take'];rw[<-ax,bJ]
theorem a3d{α:Type}(a:Array α)(i k:Nat):(a.extract i (i+k)).toList=(a.toList.drop i).take k:=by
 rw[eN];simp[List.extract_eq_drop_take]
theorem a6B(a b out:Array Keyed)(ia ib:Nat):(N2 a b out ia ib).toList=out.toList++a.toList.drop ia++b.toList.drop ib:=by
 unfold N2;rw[bT,bT,a2b,a2b]
theorem a6n(a b out:Array Keyed)(ia ib:Nat):(a0p a b out ia ib).toList=out.toList++b.toList.drop ib++a.toList.drop ia:=by
 unfold a0p;rw[bT,bT,a2b,a2b]
section
variable {prog:Program}{w:World}{A:Around}{E:Value->Shared->Prop}{s:Shared}{κ:SortKind}{D:Keyed->Prop}{O:KeyOrd}{kf:Keyed->O.α}{a b out:Array Keyed}{ia ib:Nat}{st:SortSt}
def Good(st st':SortSt):Prop:=kindOf st'=kindOf st/\arrOf st'=arrOf st/\pendingOf st'=pendingOf st/\failedOf st'=failedOf st
structure Two(D:Keyed->Prop)(kf:Keyed->O.α)(a b:Array Keyed):Prop where
 da:∀(i:Nat) x,a[i]?=some x->D x
 db:∀(i:Nat) x,b[i]?=some x->D x
 sa:a.toList.Pairwise (leK kf)
 sb:b.toList.Pairwise (leK kf)
 last:∀y∈b.toList,∀x,a[a.size-1]?=some x->ltK kf y x=true
theorem T9{l:List Keyed}{i:Nat}{x z:Keyed}(hs:l.Pairwise (leK kf))(e:l[i]?=some x)(h:leK kf z x):∀y∈l.drop i,leK kf z y:=λy a=>by
 rw[Z6 e]at a;rcases aI.mp a with rfl|a
 .exact h
 .exact bO h (V4 hs e y a)
def MI(kf:Keyed->O.α)(a b out:Array Keyed)(ia ib:Nat):Prop:=MS kf a.toList b.toList out.toList ia ib/\ia+1<a.size/\ib<b.size
def C5(kf:Keyed->O.α)(a b r:Array Keyed):Prop:=a1r kf a.toList b.toList r.toList
theorem Y9(T:Two D kf a b)(h:MS kf a.toList b.toList out.toList ia ib)(hi:ia+1=a.size):C5 kf a b (a0p a b out ia ib):=by
 unfold C5;rw[a6n];refine h.lastA T.sa T.sb λy e x d=>?_;have c:ia<a.toList.length:=by rw[ax];omega
 rw[cB c,cA (by rw[ax];omega),aB]at d;refine bQ (T.last y (dg e) x ?_);rw[d,show a.size-1=ia by omega,<-av,ai c]
theorem Z7(T:Two D kf a b)(h:MS kf a.toList b.toList out.toList ia ib)(hi:ib=b.size):C5 kf a b (N2 a b out ia ib):=by
 unfold C5;rw[a6B];exact h.done T.sa (by rw[ax];exact hi)
theorem B2{arr:Array Keyed}{i:Nat}(hi:i<arr.size){Q:Keyed->SortSt->Prop}(h:∀x,arr[i]?=some x->arr.toList[i]?=some x->Q x st):wpS (model prog w) A E s (elem' arr i) Q st:=by
 rw[elem'_eq];have e:arr[i]?=some arr[i]:=getElem?_pos arr i hi;rw[e];exact aL (h _ e (by rw[av];exact e))
def P2(kf:Keyed->O.α)(st:SortSt)(a b:Array Keyed)(c0:Nat)(c:T2)(st':SortSt):Prop:=Good st st'/\((∃r,c.1=some r/\C5 kf a b r)∨(c.1=none/\MI kf a b c.2.1 c.2.2.1 c.2.2.2.1/\c0<=c.2.2.1+c.2.2.2.1))
def Y2(kf:Keyed->O.α)(st:SortSt)(a b:Array Keyed)(c0:Nat)(c:T2)(st':SortSt):Prop:=Good st st'/\c.1=none/\MI kf a b c.2.1 c.2.2.1 c.2.2.2.1/\c0<=c.2.2.1+c.2.2.2.1
def R2'(kf:Keyed->O.α)(st:SortSt)(a b:Array Keyed)(c0:Nat)(r:ForInStep T2)(st':SortSt):Prop:=match r with | .done c'=>P2 kf st a b c0 c' st' | .yield c'=>Y2 kf st a b c0 c' st'
variable {c0 mg k k1 bc ac:Nat}{st':SortSt}
theorem a7Q(T:Two D kf a b)(g:Good st st')(h:MI kf a b out ia ib)(j:∀x,a.toList[ia]?=some x->∀y∈b.toList.drop ib,leK kf x y)(i:c0<=ia+ib):wpS (model prog w) A E s (loD a b out ia ib mg k k1) (R2' kf st a b c0) st':=by
 unfold loD;refine aA (B2 (by have:=h.2.1;omega) λx l d=>?_);have c:=h.1.stepA T.sa d (j x d);rw[<-cR]at c;split
 .rename_i e;exact aL ⟨g,.inl ⟨_,rfl,Y9 T c (eq_of_beq e)⟩⟩
 .rename_i e;have e:¬ia+1+1=a.size:=λz=>e (a_.mpr z);have f:MI kf a b (out.push x) (ia+1) ib:=⟨c,by have:=h.2.1;omega,h.2.2⟩;split
  .exact aL ⟨g,.inr ⟨rfl,f,by show c0<=ia+1+ib;omega⟩⟩
  .exact aL ⟨g,rfl,f,by show c0<=ia+1+ib;omega⟩
theorem gdK(a:Array Keyed){i:Nat}(hi:i<a.size):a[i]?=some (a.getD i (Value.none,Value.none)):=by
 rw[bM,getElem?_pos a i hi];rfl
theorem Y8{l:List Keyed}(hs:l.Pairwise (leK kf)){i j:Nat}{x y:Keyed}(b:i<=j)(ex:l[i]?=some x)(a:l[j]?=some y):leK kf x y:=by
 by_cases e:i=j
 .subst e;rw[ex]at a;cases a;exact cz _
 .refine V4 hs ex y ?_;have:(l.drop (i+1))[j-(i+1)]?=some y:=by rw[eY,<-a];congr 1;omega
  exact aH this
theorem a7R(T:Two D kf a b)(p:Cmp prog w A s κ D (ltK kf))(G:kindOf st=κ)(g:Good st st')(h:MI kf a b out ia ib)(H:∀y,b.toList[ib]?=some y->∀x∈a.toList.drop ia,leK kf y x)(C:c0<=ia+ib):wpS (model prog w) A E s (loC a b out ia ib mg k bc) (R2' kf st a b c0) st':=by
 unfold loC;obtain⟨r,f,q⟩:=h;refine aA (B2 q λy u l=>?_);have n:=r.stepB T.sb l (H y l);rw[<-cR]at n;split
 .rename_i e;exact aL ⟨g,.inl ⟨_,rfl,Z7 T n (eq_of_beq e)⟩⟩
 .rename_i e;have e:¬ib+1=b.size:=λz=>e (a_.mpr z);refine aA (B2 (by omega) λx f1 f2=>?_);refine aA (K0 p (g.1.trans G) (T.da _ _ f1) (λi=>ltK kf (b.getD (ib+1+i) (Value.none,Value.none)) x) (λi hi=>⟨_,gdK b (by omega),T.db _ _ (gdK b (by omega)),rfl⟩) (λi j F K B=>?_) (by omega) λk1 q1 I J=>?_)
  .refine eZ (Y8 T.sb (i:=ib+1+i) (j:=ib+1+j) (by omega) ?_ ?_) B
   .rw[av];exact gdK b (by omega)
   .rw[av];exact gdK b (by omega)
  .dsimp only;have d:∀(c:Nat),c=ib+1+k1->c<b.size->∀t,a.toList[ia]?=some t->∀y∈b.toList.drop c,leK kf t y:=λc u l t ex'=>by
    rw[f2]at ex';cases ex';have o:b.toList[c]?=some (b.getD c (Value.none,Value.none)):=by rw[av];exact gdK b l
    refine T9 T.sb o ?_;have:=J k1 (aq _) (by omega);rw[<-u]at this;exact this
   split
   .have hbk:=MS.bulkB T.sb (k:=k1) n (by rw[ax];omega) λi z hi v=>by
     refine T9 T.sa f2 ?_;have:=I i hi;rw[av,gdK b (by omega)]at v;cases v;exact bQ this
    rw[<-a3d,<-bT]at hbk;split
    .rename_i m;exact aL ⟨g,.inl ⟨_,rfl,Z7 T hbk (eq_of_beq m)⟩⟩
    .rename_i m;have m:¬ib+1+k1=b.size:=λz=>m (a_.mpr z);exact a7Q T g ⟨hbk,f,by omega⟩ (d _ rfl (by omega)) (by omega)
   .exact a7Q T g ⟨n,f,by omega⟩ (d _ (by omega) (by omega)) (by omega)
theorem R1{Q:Unit->SortSt->Prop}(h:∀a,Good st' a->Q () a):wpS (model prog w) A E s (Y0 mg) Q st':=by
 unfold Y0;exact wpS_modify (h _ ⟨rfl,rfl,rfl,rfl⟩)
theorem Good.trans{st st' a:SortSt}(h:Good st st')(h2:Good st' a):Good st a:=⟨h2.1.trans h.1,h2.2.1.trans h.2.1,h2.2.2.1.trans h.2.2.1,h2.2.2.2.trans h.2.2.2⟩
theorem a7S(T:Two D kf a b)(f:Cmp prog w A s κ D (ltK kf))(u:kindOf st=κ)(g:Good st st')(h:MI kf a b out ia ib)(r:c0<=ia+ib):wpS (model prog w) A E s (loB a b out ia ib mg ac bc) (R2' kf st a b c0) st':=by
 unfold loB;obtain⟨n,t,l⟩:=h;refine aA (R1 λO J=>?_);have g:=g.trans J;refine aA (B2 l λy I p=>?_);refine aA (K0 f (g.1.trans u) (T.db _ _ I) (λi=>!(ltK kf y (a.getD (ia+i) (Value.none,Value.none)))) (λi hi=>⟨_,gdK a (by omega),T.da _ _ (gdK a (by omega)),rfl⟩) (λi j L P G=>?_) (by omega) λk q1 H N=>?_)
 .have hle:leK kf (a.getD (ia+j) (Value.none,Value.none)) y:=by
   unfold leK KeyOrd.kle;unfold ltK at G;simpa using G
  have:=bO (Y8 T.sa (i:=ia+i) (j:=ia+j) (by omega) (by rw[av];exact gdK a (by omega)) (by rw[av];exact gdK a (by omega))) hle;unfold KeyOrd.kle at this;unfold ltK;rw[this];rfl
 .dsimp only;have m:ltK kf y (a.getD (a.size-1) (Value.none,Value.none))=true:=T.last y (aH p) _ (gdK a (by omega));have M:ia+k<a.size:=by
   refine Nat.lt_of_not_le λK=>?_;have:=H (a.size-1-ia) (by omega);rw[show ia+(a.size-1-ia)=a.size-1 by omega,m]at this;cases this
  have c:∀d,d=ia+k->∀v,b.toList[ib]?=some v->∀x∈a.toList.drop d,leK kf v x:=λd e v C=>by
   rw[p]at C;cases C;have q:a.toList[d]?=some (a.getD d (Value.none,Value.none)):=by rw[av];exact gdK a (by omega)
   refine T9 T.sa q ?_;have:=N k (aq _) (by omega);rw[<-e]at this;refine bQ ?_;unfold KeyOrd.klt;unfold ltK at this;simpa using this
  split
  .have hbk:=MS.bulkA T.sa k n (by rw[ax];omega) λi z hi F=>by
    refine T9 T.sb p ?_;have:=H i hi;rw[av,gdK a (by omega)]at F;cases F;unfold leK KeyOrd.kle;unfold ltK at this;simpa using this
   rw[<-a3d,<-bT]at hbk;split
   .rename_i o;exact aL ⟨g,.inl ⟨_,rfl,Y9 T hbk (eq_of_beq o)⟩⟩
   .rename_i o;have o:¬ia+k+1=a.size:=λz=>o (a_.mpr z);split
    .rename_i B;have B:=eq_of_beq B;omega
    .exact a7R T f u g ⟨hbk,by omega,l⟩ (c _ rfl) (by omega)
  .exact a7R T f u g ⟨n,t,l⟩ (c _ (by omega)) r
def P1(kf:Keyed->O.α)(st:SortSt)(a b:Array Keyed)(c0:Nat)(c:T1)(st':SortSt):Prop:=Good st st'/\((∃r,c.1=some r/\C5 kf a b r)∨(c.1=none/\MI kf a b c.2.1 c.2.2.1 c.2.2.2.1/\c0<=c.2.2.1+c.2.2.2.1))
def Y1(kf:Keyed->O.α)(st:SortSt)(a b:Array Keyed)(c0:Nat)(c:T1)(st':SortSt):Prop:=Good st st'/\c.1=none/\MI kf a b c.2.1 c.2.2.1 c.2.2.2.1/\c0<=c.2.2.1+c.2.2.2.1
def R1'(kf:Keyed->O.α)(st:SortSt)(a b:Array Keyed)(c0:Nat)(r:ForInStep T1)(st':SortSt):Prop:=match r with | .done c'=>P1 kf st a b c0 c' st' | .yield c'=>Y1 kf st a b c0 c' st'
theorem b3D(T:Two D kf a b)(m:Cmp prog w A s κ D (ltK kf))(r:kindOf st=κ)(g:Good st st')(h:MI kf a b out ia ib)(q:c0<=ia+ib):wpS (model prog w) A E s (loA a b out ia ib ac bc mg) (R1' kf st a b (c0+1)) st':=by
 unfold loA;obtain⟨i,n,d⟩:=h;refine aA (B2 d λy p l=>?_);refine aA (B2 (by omega) λx f1 f2=>?_);refine aA (a0u m (g.1.trans r) (T.db _ _ p) (T.da _ _ f1) ?_);dsimp only;cases o:ltK kf y x with
 |true =>
  rw[ay rfl];refine aA (B2 d λu k c=>?_);rw[l]at c;cases c;have f:=i.stepB T.sb l (T9 T.sa f2 (bQ o));rw[<-cR]at f;split
  .rename_i e;exact aL ⟨g,.inl ⟨_,rfl,Z7 T f (eq_of_beq e)⟩⟩
  .rename_i e;have e:¬ib+1=b.size:=λz=>e (a_.mpr z);have j:MI kf a b (out.push y) ia (ib+1):=⟨f,n,by omega⟩;split
   .exact aL ⟨g,.inr ⟨rfl,j,by show c0+1<=ia+(ib+1);omega⟩⟩
   .exact aL ⟨g,rfl,j,by show c0+1<=ia+(ib+1);omega⟩
 |false =>
  rw[ar (by simp)];refine aA (B2 (by omega) λt k c=>?_);rw[f2]at c;cases c;have f:=i.stepA T.sa f2 (T9 T.sb l o);rw[<-cR]at f;split
  .rename_i e;exact aL ⟨g,.inl ⟨_,rfl,Y9 T f (eq_of_beq e)⟩⟩
  .rename_i e;have e:¬ia+1+1=a.size:=λz=>e (a_.mpr z);have j:MI kf a b (out.push x) (ia+1) ib:=⟨f,by omega,d⟩;split
   .exact aL ⟨g,.inr ⟨rfl,j,by show c0+1<=ia+1+ib;omega⟩⟩
   .exact aL ⟨g,rfl,j,by show c0+1<=ia+1+ib;omega⟩
theorem Q3{n:String}{Q:Unit->SortSt->Prop}(h:Q () st):wpS (model prog w) A E s (liftM (rule n):StateT SortSt Sem Unit) Q st:=wpS_lift (fg ⟨rfl,h⟩)
theorem a5q(T:Two D kf a b)(k:Cmp prog w A s κ D (ltK kf))(t:kindOf st=κ)(O:0<a.size)(F:0<b.size)(h0:∀y,b.toList[0]?=some y->∀x∈a.toList,leK kf y x){Q:Array Keyed->SortSt->Prop}
  (q:∀r st',C5 kf a b r->Good st st'->Q r st'):wpS (model prog w) A E s (a2D a b) Q st:=by
 rw[a6h];refine aA (Q3 ?_);refine aA (B2 F λy f j=>?_);have l:MS kf a.toList b.toList (#[y]:Array Keyed).toList 0 1:=by
  have z:MS kf a.toList b.toList [] 0 0:=⟨.nil,.nil,(λ_ h=>nomatch h),λ_ h=>nomatch h⟩;exact z.stepB T.sb j (λx u=>h0 y j x u)
 have o:Good st st:=⟨rfl,rfl,rfl,rfl⟩;split
 .rename_i e;exact aL (q _ _ (Z7 T l (eq_of_beq e)) o)
 .rename_i e;have e:¬1=b.size:=λz=>e (a_.mpr z);split
  .rename_i n;exact aL (q _ _ (Y9 T l (eq_of_beq n)) o)
  .rename_i n;have n:¬0+1=a.size:=λz=>n (a_.mpr z);refine aA (fi ?_);refine aA (cE (cq (I:=λx c st'=>Good st st'/\c.1=none/\MI kf a b c.2.1 c.2.2.1 c.2.2.2.1/\x+1<=c.2.2.1+c.2.2.2.1)
    (Q:=λc st'=>Good st st'/\∃r,c.1=some r/\C5 kf a b r) ?step ?fin ⟨o,rfl,⟨l,by show 0+1<a.size;omega,by show 1<b.size;omega⟩,aq _⟩) ?post)
   case post =>
    rintro c st' ⟨g,r,f,j⟩;obtain⟨L,M⟩:=c;dsimp only at f;subst f;exact aL (q _ _ j g)
   case fin =>
    rintro c st' ⟨g,f,⟨_,h1,h2⟩,N⟩;exfalso;omega
   case step =>
    rintro x c J _ u ⟨g,f,p,G⟩;refine aA (cE (cq (I:=λz d st'=>Y1 kf st a b (x+1+min z 1) d st') (Q:=λd st'=>P1 kf st a b (x+2) d st') ?s1 ?f1 ⟨g,rfl,p,by show x+1+min 0 1<=c.2.2.1+c.2.2.2.1;omega⟩) ?p1)
    case f1 =>
     rintro d st' ⟨g,f,h1,h2⟩;exact⟨g,.inr ⟨f,h1,by omega⟩⟩
    case s1 =>
     rintro z d st' _ H ⟨g,f,h1,h2⟩;refine cE (b3D T k t g h1 (c0:=x+1) (by omega)) λr m i=>?_;cases r with
     |done c'=>exact i
     | «yield» c'=>exact⟨i.1,i.2.1,i.2.2.1,by have:=i.2.2.2;omega⟩
    case p1 =>
     rintro d st' ⟨g,hd⟩;obtain⟨v,B⟩:=d;rcases hd with⟨r,f,j⟩|⟨f,h1,h2⟩
     .dsimp only at f;subst f;exact aL ⟨g,r,rfl,j⟩
     .dsimp only at f;subst f;refine aA (Q3 ?_);refine aA (cE (cq (I:=λz d st'=>Y2 kf st a b (x+2) d st') (Q:=λd st'=>P2 kf st a b (x+2) d st') ?s2 ?f2 ⟨g,rfl,h1,h2⟩) ?p2)
      case f2 =>
       rintro d st' ⟨g,f,h1,h2⟩;exact⟨g,.inr ⟨f,h1,h2⟩⟩
      case s2 =>
       rintro z d st' _ H ⟨g,f,h1,h2⟩;split
       .refine cE (a7S T k t g h1 h2) λr m i=>?_;cases r<;>exact i
       .refine cE (a7S T k t g h1 h2) λr m i=>?_;cases r<;>exact i
      case p2 =>
       rintro d st' ⟨g,hd⟩;obtain⟨v,B⟩:=d;rcases hd with⟨r,f,j⟩|⟨f,h1,h2⟩
       .dsimp only at f;subst f;exact aL ⟨g,r,rfl,j⟩
       .dsimp only at f;subst f;refine aA (R1 λK C=>?_);exact aL ⟨g.trans C,rfl,h1,h2⟩
end
section
variable {O:KeyOrd}{kf:Keyed->O.α}{la lb o:List Keyed}{na nb:Nat}
structure MH(kf:Keyed->O.α)(la lb o:List Keyed)(na nb:Nat):Prop where
 perm:o.Perm (la.drop na++lb.drop nb)
 sorted:o.Pairwise (leK kf)
 ra:∀x∈la.take na,∀y∈o,leK kf x y
 rb:∀x∈lb.take nb,∀y∈o,leK kf x y
theorem a1w{l:List Keyed}{i:Nat}{x:Keyed}(hs:l.Pairwise (leK kf))(h:l[i]?=some x):∀y∈l.take i,leK kf y x:=λy a=>by
 have:=hs.take (i:=i+1);rw[S3 h,bx]at this;exact this.2.2 y a x (aB.mpr rfl)
theorem MH.stepA{x:Keyed}(h:MH kf la lb o (na+1) nb)(hs:la.Pairwise (leK kf))(e:la[na]?=some x)(c:∀y∈lb.take nb,leK kf y x):MH kf la lb (x::o) na nb:=by
 have d:x∈la.take (na+1):=by rw[S3 e];exact aZ _ (aB.mpr rfl)
 refine⟨?_,?_,λz b y a=>?_,λz b y a=>?_⟩
 .rw[Z6 e,List.cons_append];exact h.perm.cons x
 .rw[dv];exact⟨λy a=>h.ra x d y a,h.sorted⟩
 .rcases aI.mp a with rfl|a
  .exact a1w hs e z b
  .exact h.ra z (by rw[S3 e];exact aT _ b) y a
 .rcases aI.mp a with rfl|a
  .exact c z b
  .exact h.rb z b y a
theorem MH.swap(h:MH kf la lb o na nb):MH kf lb la o nb na:=⟨h.perm.trans cF,h.sorted,h.rb,h.ra⟩
theorem MH.stepB{x:Keyed}(h:MH kf la lb o na (nb+1))(hs:lb.Pairwise (leK kf))(e:lb[nb]?=some x)(a:∀y∈la.take na,leK kf y x):MH kf la lb (x::o) na nb:=(h.swap.stepA hs e a).swap
theorem MH.bulkA(hs:la.Pairwise (leK kf)){at_:Nat}:∀(k:Nat) {o:List Keyed},MH kf la lb o (at_+k) nb->at_+k<=la.length->(∀i x,at_<=i->i<at_+k->la[i]?=some x->∀y∈lb.take nb,leK kf y x)->MH kf la lb ((la.take (at_+k)).drop at_++o) at_ nb
 |0,o,h,c,_=>by
  rw[Nat.add_zero,cA (by rw[aX];omega),cK];exact h
 |k+1,o,h,c,b=>by
  obtain⟨x,a⟩:∃x,la[at_+k]?=some x:=⟨_,ai (by omega)⟩;have h1:=MH.stepA (na:=at_+k) h hs a (b _ x (by omega) (by omega) a);have h2:=MH.bulkA hs k h1 (by omega) λi y h1 h2 e=>b i y h1 (by omega) e;rw[show at_+(k+1)=at_+k+1 by omega,S3 a,dm (by rw[aX];omega),aF];exact h2
theorem MH.bulkB(hs:lb.Pairwise (leK kf)){at_ k:Nat}(h:MH kf la lb o na (at_+k))(b:at_+k<=lb.length)(a:∀i x,at_<=i->i<at_+k->lb[i]?=some x->∀y∈la.take na,leK kf y x):MH kf la lb ((lb.take (at_+k)).drop at_++o) na at_ :=
 (MH.bulkA hs k h.swap b a).swap
theorem MH.done(h:MH kf la lb o 0 nb)(hs:lb.Pairwise (leK kf)):a1r kf la lb (la.take 0++lb.take nb++o):=by
 rw[List.take_zero,cK];have a:=h.perm;rw[cZ]at a;refine⟨?_,?_⟩
 .refine(cu _ a).trans ?_;rw[<-aF];refine(List.Perm.append_right _ cF).trans ?_;rw[aF,bj]
 .rw[bx];exact⟨hs.take,h.sorted,h.rb⟩
theorem MH.firstB(h:MH kf la lb o na nb)(a:la.Pairwise (leK kf))(hs:lb.Pairwise (leK kf))(c:∀y∈lb.take nb,∀x∈la.take na,leK kf y x):a1r kf la lb (lb.take nb++la.take na++o):=by
 refine⟨?_,?_⟩
 .refine(cu _ h.perm).trans ?_;rw[aF,<-aF (la.take na),bj];refine cF.trans ?_;rw[aF];refine cu _ (cF.trans ?_);rw[bj]
 .rw[bx];refine⟨?_,h.sorted,λx d y b=>?_⟩
  .rw[bx];exact⟨hs.take,a.take,c⟩
  .rcases aK.mp d with q|q
   .exact h.rb x q y b
   .exact h.ra x q y b
end
noncomputable def a2E:Array Keyed->Array Keyed->StateT SortSt Sem (Array Keyed):=sortPriv% PySem.Builtin.mergeHi
noncomputable def N3(a b out:Array Keyed)(na nb:Nat):Array Keyed:=a.extract 0 na++b.extract 0 nb++out.reverse
noncomputable def U4(a b out:Array Keyed)(na nb:Nat):Array Keyed:=b.extract 0 nb++a.extract 0 na++out.reverse
abbrev U1:Type:=Option (Array Keyed)×Nat×Nat×Array Keyed×Nat×Nat
abbrev U2:Type:=Option (Array Keyed)×Nat×Nat×Array Keyed×Nat×Nat×Nat
noncomputable def hiD(a b:Array Keyed)(na nb:Nat)(out:Array Keyed)(mg k k1:Nat):StateT SortSt Sem (ForInStep U2) :=
 elem' a (na-1)>>=λx =>
 if (na-1==0)=true then pure (.done (some (N3 a b (out.push x) (na-1) nb),na-1,nb,out.push x,mg,k,k1))
 else if (decide (k<7) && decide (k1<7))=true then pure (.done (none,na-1,nb,out.push x,mg,k,k1))
 else pure (.yield (none,na-1,nb,out.push x,mg,k,k1))
noncomputable def hiC(a b:Array Keyed)(na nb:Nat)(out:Array Keyed)(mg k bc:Nat):StateT SortSt Sem (ForInStep U2) :=
 elem' b (nb-1)>>=λy =>
 if (nb-1==1)=true then pure (.done (some (U4 a b (out.push y) na (nb-1)),na,nb-1,out.push y,mg,k,bc))
 else elem' a (na-1)>>=λx=>P6 true x b 0 (nb-1) (nb-1-1)>>=λr =>
  match r with
  |some at_=>(if nb-1-at_ > 0 then
    (if (at_==1)=true then pure (.done (some (U4 a b (out.push y++(b.extract at_ (nb-1)).reverse) na at_),na,at_,out.push y++(b.extract at_ (nb-1)).reverse,mg,k,nb-1-at_))
    else if (at_==0)=true then pure (.done (some (N3 a b (out.push y++(b.extract at_ (nb-1)).reverse) na at_),na,at_,out.push y++(b.extract at_ (nb-1)).reverse,mg,k,nb-1-at_))
    else hiD a b na at_ (out.push y++(b.extract at_ (nb-1)).reverse) mg k (nb-1-at_))
   else hiD a b na (nb-1) (out.push y) mg k (nb-1-at_))
  |_=>pure (.done (some (N3 a b (out.push y) na (nb-1)),na,nb-1,out.push y,mg,k,bc))
noncomputable def hiB(a b:Array Keyed)(na nb:Nat)(out:Array Keyed)(mg ac bc:Nat):StateT SortSt Sem (ForInStep U2) :=
 Y0 mg>>=λ_=>elem' b (nb-1)>>=λy=>P6 false y a 0 na (na-1)>>=λr =>
 match r with
 |some at_=>(if na-at_ > 0 then
   (if (at_==0)=true then pure (.done (some (N3 a b (out++(a.extract at_ na).reverse) at_ nb),at_,nb,out++(a.extract at_ na).reverse,mg,na-at_,bc))
   else hiC a b at_ nb (out++(a.extract at_ na).reverse) mg (na-at_) bc)
  else hiC a b na nb out mg (na-at_) bc)
 |_=>pure (.done (some (N3 a b out na nb),na,nb,out,mg,ac,bc))
noncomputable def hiA(a b:Array Keyed)(na nb:Nat)(out:Array Keyed)(ac bc mg:Nat):StateT SortSt Sem (ForInStep U1) :=
 elem' b (nb-1)>>=λy=>elem' a (na-1)>>=λx=>lt' y x>>=λr =>
 match r with
 |some aWins=>(if aWins=true then elem' a (na-1)>>=λx =>
   (if (na-1==0)=true then pure (.done (some (N3 a b (out.push x) (na-1) nb),na-1,nb,out.push x,ac+1,0))
   else if ac+1 ≥ mg then pure (.done (none,na-1,nb,out.push x,ac+1,0))
   else pure (.yield (none,na-1,nb,out.push x,ac+1,0)))
  else elem' b (nb-1)>>=λy =>
   (if (nb-1==1)=true then pure (.done (some (U4 a b (out.push y) na (nb-1)),na,nb-1,out.push y,0,bc+1))
   else if bc+1 ≥ mg then pure (.done (none,na,nb-1,out.push y,0,bc+1))
   else pure (.yield (none,na,nb-1,out.push y,0,bc+1))))
 |_=>pure (.done (some (N3 a b out na nb),na,nb,out,ac,bc))
theorem a6i(a b:Array Keyed):a2E a b=(do
 rule "list.sort.merge-hi"
 let y <-elem' a (a.size-1)
 if (a.size-1==0)=true then pure (N3 a b #[y] (a.size-1) b.size)
 else if (b.size==1)=true then pure (U4 a b #[y] (a.size-1) b.size)
 else do
  let g <-get
  let r <-forIn [:a.size+b.size] ((none,a.size-1,b.size,#[y],gallopOf g):Option (Array Keyed)×Nat×Nat×Array Keyed×Nat) λ_ c=>do
   let r <-forIn [:a.size+b.size] ((none,c.2.1,c.2.2.1,c.2.2.2.1,0,0):U1) λ_ d=>hiA a b d.2.1 d.2.2.1 d.2.2.2.1 d.2.2.2.2.1 d.2.2.2.2.2 c.2.2.2.2
   match r.1 with
   |some q=>pure (ForInStep.done (some q,r.2.1,r.2.2.1,r.2.2.2.1,c.2.2.2.2))
   |none=>do
    rule "list.sort.gallop"
    let t <-forIn [:a.size+b.size] ((none,r.2.1,r.2.2.1,r.2.2.2.1,c.2.2.2.2+1,r.2.2.2.2.1,r.2.2.2.2.2):U2) λ_ d =>
     if d.2.2.2.2.1 > 1 then hiB a b d.2.1 d.2.2.1 d.2.2.2.1 (d.2.2.2.2.1-1) d.2.2.2.2.2.1 d.2.2.2.2.2.2 else hiB a b d.2.1 d.2.2.1 d.2.2.2.1 d.2.2.2.2.1 d.2.2.2.2.2.1 d.2.2.2.2.2.2
    match t.1 with
    |some q=>pure (ForInStep.done (some q,t.2.1,t.2.2.1,t.2.2.2.1,t.2.2.2.2.1))
    |none=>do
     Y0 (t.2.2.2.2.1+1)
     pure (ForInStep.yield (none,t.2.1,t.2.2.1,t.2.2.2.1,t.2.2.2.2.1+1))
  match r.1 with
  |some q=>pure q
  |none=>unsupported "internal:list.sort.merge-bound"):=by
 show(_>>=_)=(_>>=_);refine aO _ (funext λ_=>?_);dsimp only;refine aO _ (funext λy=>?_);refine dJ rfl (λ_=>rfl) (λ_=>dJ rfl (λ_=>rfl) λ_=>?_);refine aO _ (funext λg=>?_);refine congr (aO _ (aO _ (funext λ_=>funext λc=>?_))) (funext λr=>?_)
 .refine congr (aO _ (aO _ (funext λ_=>funext λd=>?_))) (funext λr=>?_)
  .rfl
  .rcases r with⟨_|q,r⟩
   .dsimp only;refine aO _ (funext λ_=>?_);refine congr (aO _ (aO _ (funext λ_=>funext λd=>?_))) (funext λr=>?_)
    .rfl
    .rcases r with⟨_|q,r⟩<;>rfl
   .rfl
 .rcases r with⟨_|q,r⟩
  .dsimp only
  .rfl
theorem a1m{α:Type}(a:Array α)(i n:Nat):(a.extract i n).toList=(a.toList.take n).drop i:=by
 rw[eN];simp[List.extract_eq_drop_take']
theorem a6C(a b out:Array Keyed)(na nb:Nat):(N3 a b out na nb).toList=a.toList.take na++b.toList.take nb++out.toList.reverse:=by
 unfold N3;rw[bT,bT,a1m,a1m,fU,cZ,cZ]
theorem a5b(a b out:Array Keyed)(na nb:Nat):(U4 a b out na nb).toList=b.toList.take nb++a.toList.take na++out.toList.reverse:=by
 unfold U4;rw[bT,bT,a1m,a1m,fU,cZ,cZ]
theorem a0G(out:Array Keyed)(x:Keyed):(out.push x).toList.reverse=x::out.toList.reverse:=by
 rw[cR,List.reverse_append];rfl
theorem a9n(out a:Array Keyed)(i n:Nat):(out++(a.extract i n).reverse).toList.reverse=(a.toList.take n).drop i++out.toList.reverse:=by
 rw[bT,List.reverse_append,fU,List.reverse_reverse,a1m]
section
variable {prog:Program}{w:World}{A:Around}{E:Value->Shared->Prop}{s:Shared}{κ:SortKind}{D:Keyed->Prop}{O:KeyOrd}{kf:Keyed->O.α}{a b out:Array Keyed}{na nb:Nat}{st:SortSt}
def a4l(kf:Keyed->O.α)(a b:Array Keyed):Prop:=∀y,b.toList[0]?=some y->∀x∈a.toList,ltK kf y x=true
theorem T3{l:List Keyed}{i:Nat}{x z:Keyed}(hs:l.Pairwise (leK kf))(e:l[i]?=some x)(h:leK kf x z):∀y∈l.take (i+1),leK kf y z:=λy a=>by
 rw[S3 e]at a;rcases aK.mp a with a|a
 .exact bO (a1w hs e y a) h
 .rw[aB.mp a];exact h
def MJ(kf:Keyed->O.α)(a b out:Array Keyed)(na nb:Nat):Prop:=MH kf a.toList b.toList out.toList.reverse na nb/\1<=na/\2<=nb/\na<=a.size/\nb<=b.size
theorem Z8(T:Two D kf a b)(h:MH kf a.toList b.toList out.toList.reverse na nb)(hi:na=0):C5 kf a b (N3 a b out na nb):=by
 subst hi;unfold C5;rw[a6C];exact h.done T.sb
theorem U0(T:Two D kf a b)(F:a4l kf a b)(h:MH kf a.toList b.toList out.toList.reverse na nb)(hi:nb=1)(d:0<b.size):C5 kf a b (U4 a b out na nb):=by
 subst hi;unfold C5;rw[a5b];refine h.firstB T.sa T.sb λy c x f=>?_;have e:b.toList[0]?=some (b.getD 0 (Value.none,Value.none)):=by rw[av];exact gdK b d
 rw[S3 e,List.take_zero,cK,aB]at c;rw[c];exact bQ (F _ e x (bP f))
def P4(kf:Keyed->O.α)(st:SortSt)(a b:Array Keyed)(c0:Nat)(c:U2)(st':SortSt):Prop:=Good st st'/\((∃r,c.1=some r/\C5 kf a b r)∨(c.1=none/\MJ kf a b c.2.2.2.1 c.2.1 c.2.2.1/\c.2.1+c.2.2.1+c0<=a.size+b.size))
def Y4(kf:Keyed->O.α)(st:SortSt)(a b:Array Keyed)(c0:Nat)(c:U2)(st':SortSt):Prop:=Good st st'/\c.1=none/\MJ kf a b c.2.2.2.1 c.2.1 c.2.2.1/\c.2.1+c.2.2.1+c0<=a.size+b.size
def R4(kf:Keyed->O.α)(st:SortSt)(a b:Array Keyed)(c0:Nat)(r:ForInStep U2)(st':SortSt):Prop:=match r with | .done c'=>P4 kf st a b c0 c' st' | .yield c'=>Y4 kf st a b c0 c' st'
variable {c0 mg k k1 bc ac:Nat}{st':SortSt}
theorem a7T(T:Two D kf a b)(g:Good st st')(h:MJ kf a b out na nb)(j:∀x,a.toList[na-1]?=some x->∀y∈b.toList.take nb,leK kf y x)(o:na+nb+c0<=a.size+b.size):wpS (model prog w) A E s (hiD a b na nb out mg k k1) (R4 kf st a b c0) st':=by
 unfold hiD;obtain⟨f,h1,h2,p,m⟩:=h;refine aA (B2 (by omega) λx l c=>?_);obtain⟨n,rfl⟩:∃n,na=n+1:=⟨na-1,by omega⟩;rw[e_]at l c j⊢;have d:=f.stepA T.sa c (j x c);rw[<-a0G]at d;split
 .rename_i e;exact aL ⟨g,.inl ⟨_,rfl,Z8 T d (eq_of_beq e)⟩⟩
 .rename_i e;have e:¬n=0:=λz=>e (a_.mpr z);have i:MJ kf a b (out.push x) n nb:=⟨d,by omega,h2,by omega,m⟩;split
  .exact aL ⟨g,.inr ⟨rfl,i,by show n+nb+c0<=_;omega⟩⟩
  .exact aL ⟨g,rfl,i,by show n+nb+c0<=_;omega⟩
theorem a7U(T:Two D kf a b)(F:a4l kf a b)(t:Cmp prog w A s κ D (ltK kf))(Q:kindOf st=κ)(g:Good st st')(h:MJ kf a b out na nb)(I:∀y,b.toList[nb-1]?=some y->∀x∈a.toList.take na,leK kf x y)(O:na+nb+c0<=a.size+b.size):wpS (model prog w) A E s (hiC a b na nb out mg k bc) (R4 kf st a b c0) st':=by
 unfold hiC;obtain⟨B,h1,h2,H,W⟩:=h;refine aA (B2 (by omega) λy K q=>?_);obtain⟨m,rfl⟩:∃m,nb=m+1:=⟨nb-1,by omega⟩;rw[e_]at K q I⊢;have o:=B.stepB T.sb q (I y q);rw[<-a0G]at o;split
 .rename_i e;exact aL ⟨g,.inl ⟨_,rfl,U0 T F o (eq_of_beq e) (by omega)⟩⟩
 .rename_i e;have e:¬m=1:=λz=>e (a_.mpr z);refine aA (B2 (by omega) λx f1 f2=>?_);refine aA (K0 t (g.1.trans Q) (T.da _ _ f1) (λi=>ltK kf (b.getD (0+i) (Value.none,Value.none)) x) (λi hi=>⟨_,gdK b (by omega),T.db _ _ (gdK b (by omega)),rfl⟩) (λi j P u N=>?_) (by omega) λat_ q1 U J=>?_)
  .refine eZ (Y8 T.sb (i:=0+i) (j:=0+j) (by omega) ?_ ?_) N
   .rw[av];exact gdK b (by omega)
   .rw[av];exact gdK b (by omega)
  .dsimp only;have M:1<=at_:=by
    refine Nat.pos_of_ne_zero λz=>?_;have:=J 0 (by omega) (by omega);have L:=F (b.getD 0 (Value.none,Value.none)) (by rw[av];exact gdK b (by omega)) x (aH f2);rw[dw]at this;rw[L]at this;cases this
   have c:∀l,a.toList[na-1]?=some l->∀d,d=at_->∀y∈b.toList.take d,leK kf y l:=λl ex' d V=>by
    rw[f2]at ex';cases ex';obtain⟨n,R⟩:∃n,d=n+1:=⟨d-1,by omega⟩;rw[R];have r:b.toList[n]?=some (b.getD n (Value.none,Value.none)):=by rw[av];exact gdK b (by omega)
    refine T3 T.sb r (bQ ?_);have:=U n (by omega);rw[dw]at this;exact this
   split
   .obtain⟨j,u⟩:∃j,m=at_+j:=⟨m-at_,by omega⟩;have f:MH kf a.toList b.toList ((b.toList.take (at_+j)).drop at_++(out.push y).toList.reverse) na at_:=by
     rw[u]at o;refine MH.bulkB T.sb o (by rw[ax];omega) λi z S X G=>?_;have:=J i S (by omega);rw[dw]at this;rw[av,gdK b (by omega)]at G;cases G;have v:leK kf x (b.getD i (Value.none,Value.none)):=this;have:=T3 T.sa f2 v;rwa[show na-1+1=na by omega]at this
    rw[<-u,<-a9n]at f;split
    .rename_i p;exact aL ⟨g,.inl ⟨_,rfl,U0 T F f (eq_of_beq p) (by omega)⟩⟩
    .rename_i p;have p:¬at_=1:=λz=>p (a_.mpr z);split
     .rename_i C;have C:=eq_of_beq C;omega
     .exact a7T T g ⟨f,h1,by omega,H,by omega⟩ (λl ex'=>c l ex' _ rfl) (by omega)
   .exact a7T T g ⟨o,h1,by omega,H,by omega⟩ (λl ex'=>c l ex' _ (by omega)) (by omega)
theorem a7V(T:Two D kf a b)(F:a4l kf a b)(k:Cmp prog w A s κ D (ltK kf))(r:kindOf st=κ)(g:Good st st')(h:MJ kf a b out na nb)(p:na+nb+c0<=a.size+b.size):wpS (model prog w) A E s (hiB a b na nb out mg ac bc) (R4 kf st a b c0) st':=by
 unfold hiB;obtain⟨l,h1,h2,K,G⟩:=h;refine aA (R1 λR J=>?_);have g:=g.trans J;refine aA (B2 (by omega) λy I v=>?_);refine aA (K0 k (g.1.trans r) (T.db _ _ I) (λi=>!(ltK kf y (a.getD (0+i) (Value.none,Value.none)))) (λi hi=>⟨_,gdK a (by omega),T.da _ _ (gdK a (by omega)),rfl⟩) (λi j L q H=>?_) (by omega) λat_ q1 P Q=>?_)
 .have hle:leK kf (a.getD (0+j) (Value.none,Value.none)) y:=by
   unfold leK KeyOrd.kle;unfold ltK at H;simpa using H
  have:=bO (Y8 T.sa (i:=0+i) (j:=0+j) (by omega) (by rw[av];exact gdK a (by omega)) (by rw[av];exact gdK a (by omega))) hle;unfold KeyOrd.kle at this;unfold ltK;rw[this];rfl
 .dsimp only;have d:∀c,c=at_->∀u,b.toList[nb-1]?=some u->∀x∈a.toList.take c,leK kf x u:=λc e u B=>by
   rw[v]at B;cases B;subst e;by_cases M:c=0
   .rw[M,List.take_zero];exact λ_ z=>nomatch z
   obtain⟨n,rfl⟩:∃n,c=n+1:=⟨c-1,by omega⟩;have o:a.toList[n]?=some (a.getD n (Value.none,Value.none)):=by rw[av];exact gdK a (by omega)
   refine T3 T.sa o ?_;have:=P n (by omega);rw[dw]at this;unfold leK KeyOrd.kle;unfold ltK at this;simpa using this
  split
  .obtain⟨j,q⟩:∃j,na=at_+j:=⟨na-at_,by omega⟩;have f:MH kf a.toList b.toList ((a.toList.take (at_+j)).drop at_++out.toList.reverse) at_ nb:=by
    rw[q]at l;refine MH.bulkA T.sa j l (by rw[ax];omega) λi z N S C=>?_;have:=Q i N (by omega);rw[dw]at this;rw[av,gdK a (by omega)]at C;cases C;have t:O.klt (kf y) (kf (a.getD i (Value.none,Value.none))):=by
     unfold KeyOrd.klt;unfold ltK at this;simpa using this
    have:=T3 T.sb v (bQ t);rwa[show nb-1+1=nb by omega]at this
   rw[<-q,<-a9n]at f;split
   .rename_i m;exact aL ⟨g,.inl ⟨_,rfl,Z8 T f (eq_of_beq m)⟩⟩
   .rename_i m;have m:¬at_=0:=λz=>m (a_.mpr z);exact a7U T F k r g ⟨f,by omega,h2,by omega,G⟩ (d _ rfl) (by omega)
  .exact a7U T F k r g ⟨l,h1,h2,K,G⟩ (d _ (by omega)) p
def P3(kf:Keyed->O.α)(st:SortSt)(a b:Array Keyed)(c0:Nat)(c:U1)(st':SortSt):Prop:=Good st st'/\((∃r,c.1=some r/\C5 kf a b r)∨(c.1=none/\MJ kf a b c.2.2.2.1 c.2.1 c.2.2.1/\c.2.1+c.2.2.1+c0<=a.size+b.size))
def Y3(kf:Keyed->O.α)(st:SortSt)(a b:Array Keyed)(c0:Nat)(c:U1)(st':SortSt):Prop:=Good st st'/\c.1=none/\MJ kf a b c.2.2.2.1 c.2.1 c.2.2.1/\c.2.1+c.2.2.1+c0<=a.size+b.size
def R3(kf:Keyed->O.α)(st:SortSt)(a b:Array Keyed)(c0:Nat)(r:ForInStep U1)(st':SortSt):Prop:=match r with | .done c'=>P3 kf st a b c0 c' st' | .yield c'=>Y3 kf st a b c0 c' st'
theorem b3E(T:Two D kf a b)(F:a4l kf a b)(l:Cmp prog w A s κ D (ltK kf))(u:kindOf st=κ)(g:Good st st')(h:MJ kf a b out na nb)(t:na+nb+c0<=a.size+b.size):wpS (model prog w) A E s (hiA a b na nb out ac bc mg) (R3 kf st a b (c0+1)) st':=by
 unfold hiA;obtain⟨f,h1,h2,q,r⟩:=h;refine aA (B2 (by omega) λy o j=>?_);refine aA (B2 (by omega) λx f1 f2=>?_);refine aA (a0u l (g.1.trans u) (T.db _ _ o) (T.da _ _ f1) ?_);dsimp only;obtain⟨n,rfl⟩:∃n,na=n+1:=⟨na-1,by omega⟩;obtain⟨m,rfl⟩:∃m,nb=m+1:=⟨nb-1,by omega⟩;rw[e_]at o j f1 f2⊢;rw[e_];cases p:ltK kf y x with
 |true =>
  rw[ay rfl];refine aA (B2 (by omega) λv k c=>?_);rw[f2]at c;cases c;have d:=f.stepA T.sa f2 (T3 T.sb j (bQ p));rw[<-a0G]at d;split
  .rename_i e;exact aL ⟨g,.inl ⟨_,rfl,Z8 T d (eq_of_beq e)⟩⟩
  .rename_i e;have e:¬n=0:=λz=>e (a_.mpr z);have i:MJ kf a b (out.push x) n (m+1):=⟨d,by omega,h2,by omega,r⟩;split
   .exact aL ⟨g,.inr ⟨rfl,i,by show n+(m+1)+(c0+1)<=_;omega⟩⟩
   .exact aL ⟨g,rfl,i,by show n+(m+1)+(c0+1)<=_;omega⟩
 |false =>
  rw[ar (by simp)];refine aA (B2 (by omega) λB k c=>?_);rw[j]at c;cases c;have d:=f.stepB T.sb j (T3 T.sa f2 p);rw[<-a0G]at d;split
  .rename_i e;exact aL ⟨g,.inl ⟨_,rfl,U0 T F d (eq_of_beq e) (by omega)⟩⟩
  .rename_i e;have e:¬m=1:=λz=>e (a_.mpr z);have i:MJ kf a b (out.push y) (n+1) m:=⟨d,h1,by omega,q,by omega⟩;split
   .exact aL ⟨g,.inr ⟨rfl,i,by show n+1+m+(c0+1)<=_;omega⟩⟩
   .exact aL ⟨g,rfl,i,by show n+1+m+(c0+1)<=_;omega⟩
theorem a5r(T:Two D kf a b)(F:a4l kf a b)(k:Cmp prog w A s κ D (ltK kf))(t:kindOf st=κ)(P:0<a.size)(G:0<b.size){Q:Array Keyed->SortSt->Prop}
  (q:∀r st',C5 kf a b r->Good st st'->Q r st'):wpS (model prog w) A E s (a2E a b) Q st:=by
 rw[a6i];refine aA (Q3 ?_);refine aA (B2 (by omega) λy f j=>?_);have l:MH kf a.toList b.toList (#[y]:Array Keyed).toList.reverse (a.size-1) b.size:=by
  have z:MH kf a.toList b.toList [] (a.size-1+1) b.size:=by
   refine⟨?_,.nil,(λ_ _ _ h=>nomatch h),λ_ _ _ h=>nomatch h⟩;rw[cA (by rw[ax];omega),cA (by rw[ax];omega)];exact .nil
  exact z.stepA T.sa j (λx u=>bQ (T.last x (bP u) y f))
 have o:Good st st:=⟨rfl,rfl,rfl,rfl⟩;split
 .rename_i e;exact aL (q _ _ (Z8 T l (eq_of_beq e)) o)
 .rename_i e;have e:¬a.size-1=0:=λz=>e (a_.mpr z);split
  .rename_i n;exact aL (q _ _ (U0 T F l (eq_of_beq n) G) o)
  .rename_i n;have n:¬b.size=1:=λz=>n (a_.mpr z);refine aA (fi ?_);refine aA (cE (cq (I:=λx c st'=>Good st st'/\c.1=none/\MJ kf a b c.2.2.2.1 c.2.1 c.2.2.1/\c.2.1+c.2.2.1+(x+1)<=a.size+b.size)
    (Q:=λc st'=>Good st st'/\∃r,c.1=some r/\C5 kf a b r) ?step ?fin ⟨o,rfl,⟨l,by show 1<=a.size-1;omega,by show 2<=b.size;omega,by show a.size-1<=a.size;omega,aq _⟩,by show a.size-1+b.size+(0+1)<=_;omega⟩) ?post)
   case post =>
    rintro c st' ⟨g,r,f,j⟩;obtain⟨M,N⟩:=c;dsimp only at f;subst f;exact aL (q _ _ j g)
   case fin =>
    rintro c st' ⟨g,f,⟨_,h1,h2,_⟩,O⟩;exfalso;omega
   case step =>
    rintro x c K _ u ⟨g,f,p,H⟩;refine aA (cE (cq (I:=λz d st'=>Y3 kf st a b (x+1+min z 1) d st') (Q:=λd st'=>P3 kf st a b (x+2) d st') ?s1 ?f1 ⟨g,rfl,p,by show c.2.1+c.2.2.1+(x+1+min 0 1)<=_;omega⟩) ?p1)
    case f1 =>
     rintro d st' ⟨g,f,h1,h2⟩;exact⟨g,.inr ⟨f,h1,by omega⟩⟩
    case s1 =>
     rintro z d st' _ J ⟨g,f,h1,h2⟩;refine cE (b3E T F k t g h1 (c0:=x+1) (by omega)) λr m i=>?_;cases r with
     |done c'=>exact i
     | «yield» c'=>exact⟨i.1,i.2.1,i.2.2.1,by have:=i.2.2.2;omega⟩
    case p1 =>
     rintro d st' ⟨g,hd⟩;obtain⟨v,B⟩:=d;rcases hd with⟨r,f,j⟩|⟨f,h1,h2⟩
     .dsimp only at f;subst f;exact aL ⟨g,r,rfl,j⟩
     .dsimp only at f;subst f;refine aA (Q3 ?_);refine aA (cE (cq (I:=λz d st'=>Y4 kf st a b (x+2) d st') (Q:=λd st'=>P4 kf st a b (x+2) d st') ?s2 ?f2 ⟨g,rfl,h1,h2⟩) ?p2)
      case f2 =>
       rintro d st' ⟨g,f,h1,h2⟩;exact⟨g,.inr ⟨f,h1,h2⟩⟩
      case s2 =>
       rintro z d st' _ J ⟨g,f,h1,h2⟩;split
       .refine cE (a7V T F k t g h1 h2) λr m i=>?_;cases r<;>exact i
       .refine cE (a7V T F k t g h1 h2) λr m i=>?_;cases r<;>exact i
      case p2 =>
       rintro d st' ⟨g,hd⟩;obtain⟨v,B⟩:=d;rcases hd with⟨r,f,j⟩|⟨f,h1,h2⟩
       .dsimp only at f;subst f;exact aL ⟨g,r,rfl,j⟩
       .dsimp only at f;subst f;refine aA (R1 λL C=>?_);exact aL ⟨g.trans C,rfl,h1,h2⟩
end
noncomputable def a7e(arr merged:Array Keyed)(sa:Nat):Array Keyed:=merged.toList.zipIdx.foldl (λa (p,j)=>a.setIfInBounds (sa+j) p) arr
noncomputable def mgC(sa:Nat)(merged:Array Keyed):StateT SortSt Sem Bool :=
 (modify λs=>SortSt.mk' (kindOf s) (a7e (arrOf s) merged sa) (pendingOf s) (gallopOf s) (failedOf s))>>=λ_=>get>>=λs=>pure (failedOf s).isNone
noncomputable def mgB(s:SortSt)(sa na sb nb:Nat):StateT SortSt Sem Bool :=
 elem' (arrOf s) (sa+na-1)>>=λx=>P6 true x (arrOf s) sb nb (nb-1)>>=λr=>match r with
 |some n=>(if (n==0)=true then pure true
  else if na<=n then a2D ((arrOf s).extract sa sb) ((arrOf s).extract sb (sb+n))>>=mgC sa
  else a2E ((arrOf s).extract sa sb) ((arrOf s).extract sb (sb+n))>>=mgC sa)
 |_=>pure false
noncomputable def mgA(s:SortSt)(sa na sb nb:Nat):StateT SortSt Sem Bool :=
 elem' (arrOf s) sb>>=λy=>P6 false y (arrOf s) sa na 0>>=λr=>match r with
 |some k=>(if (na-k==0)=true then pure true else mgB s (sa+k) (na-k) sb nb)
 |_=>pure false
theorem a6j(i:Nat):mergeAt' i=(get>>=λs=>match ((pendingOf s)[i]?,(pendingOf s)[i+1]?)with
 |(some (sa,na,pw),some (sb,nb,_))=>set (SortSt.mk' (kindOf s) (arrOf s) (((pendingOf s).setIfInBounds i (sa,na+nb,pw)).eraseIdxIfInBounds (i+1)) (gallopOf s) (failedOf s))>>=λ_=>mgA s sa na sb nb
 |_=>liftM (unsupported "internal:list.sort.pending" : Sem Bool)):=by
 show(_>>=_)=(_>>=_);refine aO _ (funext λs=>?_);dsimp only;rcases(pendingOf s)[i]? with _|⟨sa,na,pw⟩
 .rfl
 rcases(pendingOf s)[i+1]? with _|⟨sb,nb,pw2⟩
 .rfl
 dsimp only;refine aO _ (funext λ_=>?_);unfold mgA;refine aO _ (funext λy=>?_);refine aO _ (funext λr=>?_);rcases r with _|k
 .rfl
 dsimp only;refine dJ rfl (λ_=>rfl) λ_=>?_;unfold mgB;refine aO _ (funext λx=>?_);refine aO _ (funext λr=>?_);rcases r with _|n
 .rfl
 rfl
theorem a3W:∀(l:List Keyed) (arr:Array Keyed) (b j:Nat),b+j+l.length<=arr.size ->
  ((l.zipIdx j).foldl (λa (p:Keyed×Nat)=>a.setIfInBounds (b+p.2) p.1) arr).toList=arr.toList.take (b+j)++l++arr.toList.drop (b+j+l.length)
 |[],arr,b,j,h=>by simp
 |x::l,arr,b,j,h=>by
  rw[aU]at h;rw[List.zipIdx_cons,dF,a3W l _ b (j+1) (by rw[fb];omega)];rw[Array.toList_setIfInBounds];have c:b+j<arr.toList.length:=by rw[ax];omega
  rw[aU,show b+(j+1)=b+j+1 by omega];rw[List.take_set,List.drop_set_of_lt (by omega)];rw[List.take_succ_eq_append_getElem c,List.set_append_right _ _ (by rw[aX];omega)];rw[aX,show b+j-min (b+j) arr.toList.length=0 by omega];simp[aF];congr 1;omega
theorem a5R(arr a:Array Keyed)(b:Nat)(h:b+a.size<=arr.size):(a7e arr a b).toList=arr.toList.take b++a.toList++arr.toList.drop (b+a.size):=by
 have:=a3W a.toList arr b 0 (by rw[ax];omega);rw[Nat.add_zero,ax]at this;exact this
theorem b3C{M:Model}{A:Around}{E:Value->Shared->Prop}{s:Shared}{σ:Type}{st a:σ}{Q:PUnit->σ->Prop}(h:Q ⟨⟩ a):wpS M A E s (set a:StateT σ Sem PUnit) Q st:=by
 unfold wpS;rw[StateT.run_set];exact ae ⟨rfl,h⟩
section
variable {prog:Program}{w:World}{A:Around}{E:Value->Shared->Prop}{s:Shared}{κ:SortKind}{D:Keyed->Prop}{O:KeyOrd}{kf:Keyed->O.α}{st:SortSt}
structure Runs2(kf:Keyed->O.α)(D:Keyed->Prop)(arr:Array Keyed)(P LA LB R:List Keyed):Prop where
 eq:arr.toList=P++LA++LB++R
 d:∀x∈arr.toList,D x
 sa:LA.Pairwise (leK kf)
 sb:LB.Pairwise (leK kf)
 na:0<LA.length
 nb:0<LB.length
variable {arr:Array Keyed}{P LA LB R:List Keyed}
theorem Runs2.atA(h:Runs2 kf D arr P LA LB R){i:Nat}(hi:i<LA.length):arr[P.length+i]?=LA[i]?:=by
 rw[<-av,h.eq,aF,aF,bb (by omega),bo (by omega)];congr 1;omega
theorem Runs2.atB(h:Runs2 kf D arr P LA LB R){i:Nat}(hi:i<LB.length):arr[P.length+LA.length+i]?=LB[i]?:=by
 rw[<-av,h.eq,aF,bb (by rw[az];omega),bo (by rw[az];omega)];congr 1;rw[az];omega
theorem Runs2.dA(h:Runs2 kf D arr P LA LB R):∀x∈LA,D x:=λx a=>h.d x (by rw[h.eq];simp[a])
theorem Runs2.dB(h:Runs2 kf D arr P LA LB R):∀x∈LB,D x:=λx a=>h.d x (by rw[h.eq];simp[a])
theorem Runs2.size(h:Runs2 kf D arr P LA LB R):arr.size=P.length+LA.length+LB.length+R.length:=by
 rw[<-ax,h.eq];simp[dW]
theorem Runs2.extA(h:Runs2 kf D arr P LA LB R)(k:Nat):(arr.extract (P.length+k) (P.length+LA.length)).toList=LA.drop k:=by
 rw[a1m,h.eq,aF (P++LA),el (by simp)];rw[bZ (by simp),List.drop_append,cA (by omega),cK];congr 1;omega
theorem Runs2.extB(h:Runs2 kf D arr P LA LB R){k:Nat}(a:k<=LB.length):(arr.extract (P.length+LA.length) (P.length+LA.length+k)).toList=LB.take k:=by
 rw[a3d,h.eq,aF,dm (by simp),cA (by simp),cK,el a]
theorem a5s{i pw a9:Nat}{Q:Bool->SortSt->Prop}(G:Cmp prog w A s κ D (ltK kf))(hk:kindOf st=κ)(h:Runs2 kf D (arrOf st) P LA LB R)(hp:(pendingOf st)[i]?=some (P.length,LA.length,pw))(a7:(pendingOf st)[i+1]?=some (P.length+LA.length,LB.length,a9))(hf:failedOf st=none)
  (q:∀(st':SortSt) (M:List Keyed),kindOf st'=κ->failedOf st'=none->pendingOf st'=((pendingOf st).setIfInBounds i (P.length,LA.length+LB.length,pw)).eraseIdxIfInBounds (i+1)->a1r kf LA LB M->(arrOf st').toList=P++M++R->Q true st'):wpS (model prog w) A E s (mergeAt' i) Q st:=by
 rw[a6j];refine aA (fi ?_);rw[hp,a7];dsimp only;refine aA (b3C ?_);unfold mgA;have m:=heq_of_eq h.size;have a0:=h.na;have S:=h.nb;generalize f:SortSt.mk' (kindOf st) (arrOf st) (((pendingOf st).setIfInBounds i (P.length,LA.length+LB.length,pw)).eraseIdxIfInBounds (i+1)) (gallopOf st) (failedOf st)=d;have k2:kindOf d=κ:=by rw[<-f];exact hk
 have a2:arrOf d=arrOf st:=by rw[<-f]
 have p2:pendingOf d=((pendingOf st).setIfInBounds i (P.length,LA.length+LB.length,pw)).eraseIdxIfInBounds (i+1):=by rw[<-f]
 have f2:failedOf d=none:=by rw[<-f];exact hf
 have B:LA++LB=LA++LB->(∀x∈LA,∀y∈LB,leK kf x y)->Q true d:=λ_ a6=>by
  refine q d (LA++LB) k2 f2 p2 ⟨.refl _,bx.mpr ⟨h.sa,h.sb,a6⟩⟩ ?_;rw[a2,h.eq];simp[aF]
 refine aA (B2 (by have:=cN m;omega) λy e1 _=>?_);have ey:LB[0]?=some y:=by rw[<-h.atB S];exact e1
 have a3:∀z∈LB,leK kf y z:=T9 h.sb ey (cz _);have W:∀i,i<LA.length->(arrOf st)[P.length+i]?=some (LA.getD i (Value.none,Value.none))/\LA[i]?=some (LA.getD i (Value.none,Value.none)):=λi hi=>by
  have:LA[i]?=some (LA.getD i (Value.none,Value.none)):=by rw[ao,ai hi];rfl
  exact⟨by rw[h.atA hi];exact this,this⟩
 have X:∀i,i<LB.length->(arrOf st)[P.length+LA.length+i]?=some (LB.getD i (Value.none,Value.none))/\LB[i]?=some (LB.getD i (Value.none,Value.none)):=λi hi=>by
  have:LB[i]?=some (LB.getD i (Value.none,Value.none)):=by rw[ao,ai hi];rfl
  exact⟨by rw[h.atB hi];exact this,this⟩
 have t:∀{u v:Keyed},(!(ltK kf u v))=true->leK kf v u:=λ{u v} z=>by
  unfold leK KeyOrd.kle;unfold ltK at z;simpa using z
 refine aA (K0 G k2 (h.dB _ (aH ey)) (λi=>!(ltK kf y (LA.getD i (Value.none,Value.none)))) (λi hi=>⟨_,(W i hi).1,h.dA _ (aH (W i hi).2),rfl⟩) (λi j N c hb=>?_) a0 λk q1 q2 q3=>?_)
 .have:=bO (Y8 h.sa N (W i (by omega)).2 (W j c).2) (t hb);unfold KeyOrd.kle at this;unfold ltK;rw[this];rfl
 .dsimp only;have Z:∀x∈LA.take k,leK kf x y:=λx hx=>by
   obtain⟨j,c,e⟩:=bu.mp hx;rw[aX]at c;have o:=aE c (Nat.min_le_right _ _);have:=t (q2 j (aE c (Nat.min_le_left _ _)));have a:=(W j o).2;rw[ft]at e;rw[ai o,e]at a;injection a with a
   rw[a];exact this
  split
  .rename_i e;have e:=eq_of_beq e;refine aL (B rfl λx hx z l=>bO (Z x ?_) (a3 z l));rw[bZ (by omega)];exact hx
  .rename_i e;replace e:k<LA.length:=Nat.lt_of_sub_ne_zero λz=>e (a_.mpr z);clear q1;have a4:∀x∈LA.drop k,ltK kf y x=true:=λx hx=>by
    obtain⟨j,c,e⟩:=bu.mp hx;rw[cg]at c;rw[fu]at e;clear m S;have O:k+j<LA.length:=by omega
    have:=q3 (k+j) (cj _ _) O;have a:=(W (k+j) O).2;rw[ai O,e]at a;injection a with a
    rw[a];simpa using this
   unfold mgB;refine aA (B2 (by have:=cN m;omega) λx f1 _=>?_);rw[show P.length+k+(LA.length-k)-1=P.length+(LA.length-1) by omega]at f1;have ex:LA[LA.length-1]?=some x:=by rw[<-h.atA (by omega)];exact f1
   have V:∀z∈LA,leK kf z x:=λz l=>by
    have:=T3 h.sa ex (cz _) z;rw[show LA.length-1+1=LA.length by omega,bJ]at this;exact this l
   refine aA (K0 G k2 (h.dA _ (aH ex)) (λi=>ltK kf (LB.getD i (Value.none,Value.none)) x) (λi hi=>⟨_,(X i hi).1,h.dB _ (aH (X i hi).2),rfl⟩) (λi j N c hb=>?_) (by omega) λn r1 r2 r3=>?_)
   .exact eZ (Y8 h.sb N (X i (by omega)).2 (X j c).2) hb
   .dsimp only;have L:∀z∈LB.drop n,leK kf x z:=λz l=>by
     obtain⟨j,c,e⟩:=bu.mp l;rw[cg]at c;rw[fu]at e;have U:n+j<LB.length:=by clear m a0 S;omega
     have:=r3 (n+j) (cj _ _) U;have a:=(X (n+j) U).2;rw[ai U,e]at a;injection a with a
     rw[a];exact this
    have a5:∀z∈LB.take n,ltK kf z x=true:=λz l=>by
     obtain⟨j,c,e⟩:=bu.mp l;rw[aX]at c;rw[ft]at e;have o:=aE c (Nat.min_le_right _ _);have:=r2 j (aE c (Nat.min_le_left _ _));have a:=(X j o).2;rw[ai o,e]at a;injection a with a
     rw[a];exact this
    split
    .rename_i e;have e:=eq_of_beq e;refine aL (B rfl λu p z l=>bO (V u p) (L z ?_));rw[e,cZ];exact l
    .rename_i Y;replace Y:0<n:=Nat.pos_of_ne_zero λz=>Y (a_.mpr z);have J:=h.extA k;have K:=h.extB r1;generalize b1:(arrOf st).extract (P.length+k) (P.length+LA.length)=Xa at J;generalize b2:(arrOf st).extract (P.length+LA.length) (P.length+LA.length+n)=Ya at K;have sX:=heq_of_eq (show Xa.size=LA.length-k by rw[<-ax,J,cg]);have sY:=heq_of_eq (show Ya.size=n by rw[<-ax,K,aX,dG r1]);have T:Two D kf Xa Ya:=by
      refine⟨λi z C=>?_,λi z C=>?_,by rw[J];exact h.sa.drop,by rw[K];exact h.sb.take,λz l u eu=>?_⟩
      .refine h.dA z (dg (i:=k) ?_);rw[<-J];rw[<-av]at C;exact aH C
      .refine h.dB z (bP (i:=n) ?_);rw[<-K];rw[<-av]at C;exact aH C
      .rw[K]at l;rw[<-av,J,eY,cN sX,show k+(LA.length-k-1)=LA.length-1 by omega,ex]at eu;cases eu;exact a5 z l
     have F:a4l kf Xa Ya:=λz C u p=>by
      rw[K,de Y,ey]at C;cases C;rw[J]at p;exact a4 u p
     have fin:∀(r:Array Keyed) (b:SortSt),C5 kf Xa Ya r->Good d b->wpS (model prog w) A E s (mgC (P.length+k) r) Q b:=λr b hr g=>by
      unfold mgC;obtain⟨H,a8⟩:=hr;rw[J,K]at H;have a1:=heq_of_eq (show r.size=LA.length-k+n by
       have:=H.length_eq;rw[az,cg,aX,ax,dG r1]at this;exact this)
      refine aA (wpS_modify (aA (fi (aL ?_))));show Q (failedOf b).isNone _;rw[g.2.2.2,f2];have I:∀z∈r.toList,z∈LA.drop k∨z∈LB.take n:=λz l=>aK.mp (H.mem_iff.mp l);refine q _ (LA.take k++r.toList++LB.drop n) (g.1.trans k2) rfl (g.2.2.1.trans p2) ⟨?_,?_⟩ ?_
      .refine((cu _ H).append_right _).trans ?_;rw[<-aF (LA.take k),bj,aF,bj]
      .have sAk:∀u∈LA.take k,∀v∈LA.drop k,leK kf u v:=by
        have:=h.sa;rw[<-bj k LA,bx]at this;exact this.2.2
       have b0:∀u∈LB.take n,∀v∈LB.drop n,leK kf u v:=by
        have:=h.sb;rw[<-bj n LB,bx]at this;exact this.2.2
       rw[bx,bx];refine⟨⟨h.sa.take,a8,λu p v hv=>?_⟩,h.sb.drop,λu p v hv=>?_⟩
       .rcases I v hv with z|z
        .exact sAk u p v z
        .exact bO (Z u p) (a3 v (bP z))
       .rcases aK.mp p with z|z
        .exact bO (V u (bP z)) (L v hv)
        .rcases I u z with z|z
         .exact bO (V u (dg z)) (L v hv)
         .exact b0 u z v hv
      .show(a7e (arrOf b) r (P.length+k)).toList=_;rw[g.2.1,a2,a5R _ _ _ (by rw[cN a1,cN m];clear m;omega),h.eq,cN a1];have e1:(P++LA++LB++R).take (P.length+k)=P++LA.take k:=by
        rw[aF,aF,List.take_append,bZ (by omega),show P.length+k-P.length=k by omega,el (by omega)]
       have a:(P++LA++LB++R).drop (P.length+k+(LA.length-k+n))=LB.drop n++R:=by
        rw[aF (P++LA),List.drop_append,cA (by rw[az];omega),cK,az,show P.length+k+(LA.length-k+n)-(P.length+LA.length)=n by omega,dm r1]
       rw[e1,a];simp[aF]
     split
     .exact aA (a5q T G k2 (by rw[cN sX];omega) (by rw[cN sY];exact Y) (λz C u p=>bQ (F z C u p)) λr b hr g=>fin r b hr g)
     .exact aA (a5r T F G k2 (by rw[cN sX];omega) (by rw[cN sY];exact Y) λr b hr g=>fin r b hr g)
end
section
variable {prog:Program}{w:World}{A:Around}{E:Value->Shared->Prop}{s:Shared}{κ:SortKind}{D:Keyed->Prop}{O:KeyOrd}{kf:Keyed->O.α}{st:SortSt}
noncomputable def kx(kf:Keyed->O.α)(arr:Array Keyed)(i:Nat):O.α:=kf (arr.getD i (Value.none,Value.none))
def SoO(kf:Keyed->O.α)(arr:Array Keyed)(lo m:Nat):Prop:=∀i j,i<=j->j<m->O.kle (kx kf arr (lo+i)) (kx kf arr (lo+j))
def NiO(kf:Keyed->O.α)(arr:Array Keyed)(lo m:Nat):Prop:=∀i j,i<=j->j<m->O.kle (kx kf arr (lo+j)) (kx kf arr (lo+i))
def Kept(lo:Nat)(st st':SortSt):Prop:=kindOf st'=kindOf st/\pendingOf st'=pendingOf st/\failedOf st'=failedOf st/\(arrOf st').Perm (arrOf st)/\∀i,i<lo->(arrOf st')[i]?=(arrOf st)[i]?
theorem Kept.refl{lo:Nat}:Kept lo st st:=⟨rfl,rfl,rfl,.refl _,λ_ _=>rfl⟩
theorem Kept.trans{lo:Nat}{st' a:SortSt}(h:Kept lo st st')(h2:Kept lo st' a):Kept lo st a:=⟨h2.1.trans h.1,h2.2.1.trans h.2.1,h2.2.2.1.trans h.2.2.1,h2.2.2.2.1.trans h.2.2.2.1,λi hi=>(h2.2.2.2.2 i hi).trans (h.2.2.2.2 i hi)⟩
def AllD(D:Keyed->Prop)(arr:Array Keyed):Prop:=∀x∈arr.toList,D x
theorem AllD.perm{a b:Array Keyed}(h:AllD D a)(p:b.Perm a):AllD D b:=λx c=>h x ((dI.mp p).mem_iff.mp c)
theorem W6{a b:Array Keyed}{i j:Nat}(h:a[i]?=b[j]?):kx kf a i=kx kf b j:=by
 unfold kx;rw[bM,bM,h]
theorem Q4{i j:Nat}{Q:Option Bool->SortSt->Prop}(a:Cmp prog w A s κ D (ltK kf))(f:kindOf st=κ)(d:AllD D (arrOf st))(hi:i<(arrOf st).size)(e:j<(arrOf st).size)(h:Q (some (O.blt (kx kf (arrOf st) i) (kx kf (arrOf st) j))) st):wpS (model prog w) A E s (ltAt' i j) Q st:=by
 rw[ltAt'_eq];refine aA (fi ?_);refine aA (B2 hi λx b f1=>aA (B2 e λy c f2=>?_));rw[gdK _ hi]at b;rw[gdK _ e]at c;cases b;cases c;exact a0u a f (d _ (aH f1)) (d _ (aH f2)) h
theorem b0N{src a:Nat}{Q:Unit->SortSt->Prop}(h:Q () (setArr st (bubble (arrOf st) src (src-a)))):wpS (model prog w) A E s (moveDown' src a) Q st:=by
 rw[moveDown'_eq];exact wpS_modify h
theorem a1e{arr:Array Keyed}{src a:Nat}(hs:src<arr.size)(hd:a<=src)(i:Nat):kx kf (bubble arr src (src-a)) i=if i=a then kx kf arr src else if a<i/\i<=src then kx kf arr (i-1)else kx kf arr i:=by
 have e:=getElem?_bubble hs (src-a) (by omega) i;rw[show src-(src-a)=a by omega]at e;split
 .rename_i c;rw[ay c]at e;exact W6 e
 .rename_i c;rw[ar c]at e;split
  .rename_i c2;rw[ay c2]at e;exact W6 e
  .rename_i c2;rw[ar c2]at e;exact W6 e
theorem a2w{l j k:Nat}(h:l<j)(h2:j<=k):j-1<k:=by omega
section
variable {arr:Array Keyed}{lo k l i:Nat}(hs:lo+k<arr.size) (hd:l<=k)
include hs hd
theorem b3q(h:i<l):kx kf (bubble arr (lo+k) (lo+k-(lo+l))) (lo+i)=kx kf arr (lo+i):=by
 rw[a1e hs (by omega),ar (by omega),ar (by omega)]
theorem a7L:kx kf (bubble arr (lo+k) (lo+k-(lo+l))) (lo+l)=kx kf arr (lo+k):=by
 rw[a1e hs (by omega),ay rfl]
theorem a5i(h:l<i)(h2:i<=k):kx kf (bubble arr (lo+k) (lo+k-(lo+l))) (lo+i)=kx kf arr (lo+(i-1)):=by
 rw[a1e hs (by omega),ar (by omega),ay (by omega),Nat.add_sub_assoc (by omega)]
end
theorem b0O{lo n ok:Nat}{Q:Bool->SortSt->Prop}(C:Cmp prog w A s κ D (ltK kf))(L:kindOf st=κ)(J:AllD D (arrOf st))(N:lo+n<=(arrOf st).size)(H:ok<=n)(hs:SoO kf (arrOf st) lo ok)
  (h:∀st',Kept lo st st'->SoO kf (arrOf st') lo n->Q true st'):wpS (model prog w) A E s (binarySort' lo n ok) Q st:=by
 rw[binarySort'_eq];refine aA (cE (cq (I:=λk c st'=>c=(none,())/\Kept lo st st'/\SoO kf (arrOf st') lo (min k n))
  (Q:=λc st'=>c=(none,())/\Kept lo st st'/\SoO kf (arrOf st') lo n) ?step ?fin ?init) ?post)
 case post =>
  rintro c st' ⟨rfl,f,e⟩;exact aL (h st' f e)
 case init =>
  refine⟨rfl,Kept.refl,λi j g q=>?_⟩;by_cases h1:ok=0
  .have:i=j:=by omega
   subst this;exact cz _
  .exact hs i j g (by omega)
 case fin =>
  rintro c st' ⟨K,f,e⟩;refine⟨K,f,?_⟩;rwa[show min (max (max ok 1) n) n=n by omega]at e
 case step =>
  rintro k c st' B F ⟨rfl,f,e⟩;rw[show min k n=k by omega]at e;have t:lo+k<(arrOf st').size:=by have:=f.2.2.2.1.size_eq;omega
  have z:=J.perm f.2.2.2.1;have u:min (k+1) n=k+1:=by omega
  clear N H B F;refine aA (cE (cq (I:=λx c a=>a=st'/\∃l r,c=(none,l,r)/\l<=r/\r<=k/\r-l<=k-x /\
    (∀i,i<l->O.kle (kx kf (arrOf st') (lo+i)) (kx kf (arrOf st') (lo+k)))/\(∀i,r<=i->i<k->O.kle (kx kf (arrOf st') (lo+k)) (kx kf (arrOf st') (lo+i))))
   (Q:=λc a=>a=st'/\∃l r,c=(none,l,r)/\l<=k /\
    (∀i,i<l->O.kle (kx kf (arrOf st') (lo+i)) (kx kf (arrOf st') (lo+k)))/\(∀i,l<=i->i<k->O.kle (kx kf (arrOf st') (lo+k)) (kx kf (arrOf st') (lo+i)))) ?istep ?ifin ?iinit) ?ipost)
  case iinit=>exact⟨rfl,0,k,rfl,by omega,by omega,by omega,λi hi=>by omega,λi h1 h2=>by omega⟩
  case ifin =>
   rintro c a ⟨rfl,l,r,rfl,G,v,M,o,m⟩;have:l=r:=by omega
   subst this;exact⟨rfl,l,l,rfl,v,o,m⟩
  case istep =>
   rintro x c a _ P ⟨rfl,l,r,rfl,G,v,M,o,m⟩;dsimp only;by_cases y:l ≥ r
   .rw[ay y];have:l=r:=by omega
    subst this;exact aL ⟨rfl,l,l,rfl,v,o,m⟩
   .rw[ar y];refine aA (Q4 C (f.1.trans L) z (by omega) (by omega) ?_);dsimp only;cases p:O.blt (kx kf (arrOf a) (lo+k)) (kx kf (arrOf a) (lo+(l+r) / 2))with
    |true =>
     rw[ay rfl];refine aL ⟨rfl,l,(l+r) / 2,rfl,by omega,by omega,by omega,o,λi h1 h2=>?_⟩;exact bO (bQ p) (e _ _ h1 h2)
    |false =>
     rw[ar (by simp)];refine aL ⟨rfl,(l+r) / 2+1,r,rfl,by omega,by omega,by omega,λi h1=>?_,m⟩;exact bO (e i ((l+r) / 2) (by omega) (by omega)) p
  case ipost =>
   rintro c a ⟨rfl,l,r,rfl,b,o,m⟩;refine aA (b0N (aL ⟨rfl,f.trans ⟨rfl,rfl,rfl,bubble_perm _ _ _,λi hi=>?_⟩,?_⟩))
   .show(bubble (arrOf a) (lo+k) (lo+k-(lo+l)))[i]?=_;rw[getElem?_bubble t _ (by omega),ar (by omega),ar (by omega)]
   rw[u];clear u;intro i j g q;replace q:j<=k:=ez q;show O.kle (kx kf (bubble (arrOf a) (lo+k) (lo+k-(lo+l))) (lo+i)) (kx kf (bubble (arrOf a) (lo+k) (lo+k-(lo+l))) (lo+j));rcases dk i l with c|rfl|c
   .rw[b3q t b c];rcases dk j l with d|rfl|d
    .rw[b3q t b d];exact e i j g (aE d b)
    .rw[a7L t b];exact o i c
    .rw[a5i t b d q];exact e i (j-1) (Nat.le_sub_one_of_lt (Nat.lt_trans c d)) (a2w d q)
   .rw[a7L t b];rcases Nat.lt_or_eq_of_le g with d|rfl
    .rw[a5i t b d q];exact m (j-1) (Nat.le_sub_one_of_lt d) (a2w d q)
    .rw[a7L t b];exact cz _
   .have d:=aE c g;rw[a5i t b c (bf g q),a5i t b d q];exact e (i-1) (j-1) (Nat.sub_le_sub_right g 1) (a2w d q)
end
noncomputable def b3v(lo a nrem:Nat):StateT SortSt Sem AscSt:=forIn [a:nrem] ((none,a):AscSt) λ_ c=>ltAt' (lo+c.2) (lo+c.2-1)>>=λr=>match r with
 |some sm=>(if sm=true then pure (.done (none,c.2))else pure (.yield (none,c.2+1)))
 |_=>pure (.done (some none,c.2))
noncomputable def a0m(lo n nrem:Nat):StateT SortSt Sem (Option Nat):=reverseSlice' lo (lo+n)>>=λ_=>b3v lo n nrem>>=λc=>match c.1 with
 |some r=>pure r
 |none=>pure (some c.2)
noncomputable def a9d(lo n nrem:Nat):StateT SortSt Sem DescSt:=forIn [n:nrem] ((none,n,0):DescSt) λ_ c=>ltAt' (lo+c.2.1) (lo+c.2.1-1)>>=λr=>match r with
 |some sm=>(if sm=true then(if c.2.2 > 0 then reverseSlice' (lo+c.2.1-(c.2.2+1)) (lo+c.2.1)>>=λ_=>pure (.yield (none,c.2.1+1,0))else pure (.yield (none,c.2.1+1,0)))
  else ltAt' (lo+c.2.1-1) (lo+c.2.1)>>=λr=>match r with
   |some lg=>(if lg=true then pure (.done (none,c.2.1,c.2.2))else pure (.yield (none,c.2.1+1,c.2.2+1)))
   |_=>pure (.done (some none,c.2.1,c.2.2)))
 |_=>pure (.done (some none,c.2.1,c.2.2))
noncomputable def dpO(lo n nrem:Nat):StateT SortSt Sem (Option Nat):=liftM (rule "list.sort.descending-run")>>=λ_=>a9d lo (n+1) nrem>>=λc=>match c.1 with
 |some r=>pure r
 |none=>(if c.2.2 > 0 then reverseSlice' (lo+c.2.1-(c.2.2+1)) (lo+c.2.1)>>=λ_=>a0m lo c.2.1 nrem else a0m lo c.2.1 nrem)
theorem b0r(lo a:Nat):countRun' lo a=(b3v lo 1 a>>=λc=>match c.1 with
 |some r=>pure r
 |none=>(if (c.2==a)=true then pure (some c.2)else if c.2 > 1 then ltAt' lo (lo+c.2-1)>>=λr=>match r with
   |some rose=>(if rose=true then pure (some c.2)else reverseSlice' lo (lo+c.2)>>=λ_=>dpO lo c.2 a)
   |_=>pure none
  else dpO lo c.2 a)):=by
 have e:∀(n:Nat),(reverseSlice' lo (lo+n)>>=λ_=>b3v lo n a>>=λc=>match c.1 with|some r=>pure r|none=>pure (some c.2))=a0m lo n a:=λn=>rfl;rw[countRun'_eq];dsimp only;refine congr (aO _ ?_) (funext λc=>?_)
 .rfl
 rcases c with⟨_|q,n⟩
 .dsimp only;have d:∀n:Nat,(liftM (rule "list.sort.descending-run")>>=λ_=>a9d lo (n+1) a>>=λc=>match c.1 with
    |some r=>pure r
    |none=>(if c.2.2 > 0 then reverseSlice' (lo+c.2.1-(c.2.2+1)) (lo+c.2.1)>>=λ_=>a0m lo c.2.1 a else a0m lo c.2.1 a))=dpO lo n a:=λn=>rfl
  have b:∀{β:Type}{m:StateT SortSt Sem β}{f g:β->StateT SortSt Sem (Option Nat)},(∀c,f c=g c)->(m>>=f)=(m>>=g):=λh=>aO _ (funext h);refine dJ rfl (λ_=>rfl) λ_=>dJ rfl (λ_=>?_) λ_=>?_
  .refine b λr=>?_;rcases r with _|r
   .rfl
   .dsimp only;refine dJ rfl (λ_=>rfl) λ_=>?_;refine b λ_=>?_;rw[<-d];refine b λ_=>?_;refine congr (aO _ ?_) (funext λc=>?_)
    .rfl
    .rcases c with⟨_|q,n,z⟩
     .dsimp only;refine dJ rfl (λ_=>?_) λ_=>?_
      .refine b λ_=>?_;refine b λ_=>?_;refine congr (aO _ ?_) (funext λc=>?_)
       .rfl
       .rcases c with⟨_|q,n⟩<;>rfl
      .refine b λ_=>?_;refine congr (aO _ ?_) (funext λc=>?_)
       .rfl
       .rcases c with⟨_|q,n⟩<;>rfl
     .rfl
  .rw[<-d];refine b λ_=>?_;refine congr (aO _ ?_) (funext λc=>?_)
   .rfl
   .rcases c with⟨_|q,n,z⟩
    .dsimp only;refine dJ rfl (λ_=>?_) λ_=>?_
     .refine b λ_=>?_;refine b λ_=>?_;refine congr (aO _ ?_) (funext λc=>?_)
      .rfl
      .rcases c with⟨_|q,n⟩<;>rfl
     .refine b λ_=>?_;refine congr (aO _ ?_) (funext λc=>?_)
      .rfl
      .rcases c with⟨_|q,n⟩<;>rfl
    .rfl
 .rfl
section
variable {prog:Program}{w:World}{A:Around}{E:Value->Shared->Prop}{s:Shared}{κ:SortKind}{D:Keyed->Prop}{O:KeyOrd}{kf:Keyed->O.α}{st:SortSt}
theorem a1d{arr:Array Keyed}{i j:Nat}(a:j<=arr.size)(k:Nat):kx kf (mirror arr i j ((j-i) / 2)) k=if i<=k/\k<j then kx kf arr (i+j-1-k)else kx kf arr k:=by
 have e:=getElem?_mirror_all (i:=i) a k;split
 .rename_i c;rw[ay c]at e;exact W6 e
 .rename_i c;rw[ar c]at e;exact W6 e
theorem M3{arr:Array Keyed}{i j:Nat}(b:j<=arr.size)(a:∀k,i<=k->k<j->kx kf arr k=kx kf arr (j-1))(k:Nat):kx kf (mirror arr i j ((j-i) / 2)) k=kx kf arr k:=by
 rw[a1d b];split
 .rw[a _ (by omega) (by omega),a k (by omega) (by omega)]
 .rfl
theorem Kept.rev{lo i j:Nat}(hi:lo<=i)(a:j<=(arrOf st).size):Kept lo st (setArr st (mirror (arrOf st) i j ((j-i) / 2))):=⟨rfl,rfl,rfl,mirror_perm _ _ _ _,λk b=>by
 show(mirror (arrOf st) i j ((j-i) / 2))[k]?=_;rw[getElem?_mirror_all a,ar (by omega)]⟩
theorem a5u{lo a b:Nat}{Q:AscSt->SortSt->Prop}(k:Cmp prog w A s κ D (ltK kf))(u:kindOf st=κ)(t:AllD D (arrOf st))(r:lo+b<=(arrOf st).size)(q:1<=a)(f:a<=b)(hs:SoO kf (arrOf st) lo a)
  (h:∀n,a<=n->n<=b->SoO kf (arrOf st) lo n->(n=b∨O.klt (kx kf (arrOf st) (lo+n)) (kx kf (arrOf st) (lo+(n-1))))->Q (none,n) st):wpS (model prog w) A E s (b3v lo a b) Q st:=by
 unfold b3v;refine cq (I:=λx c st'=>st'=st/\c=(none,x)/\SoO kf (arrOf st) lo x) ?step ?fin ⟨rfl,rfl,hs⟩
 case fin =>
  rintro c st' ⟨rfl,rfl,d⟩;rw[Nat.max_eq_right f]at d⊢;exact h b f (aq _) d (.inl rfl)
 case step =>
  rintro x c st' g p ⟨rfl,rfl,d⟩;dsimp only;replace q:1<=x:=bf q g;rw[show lo+x-1=lo+(x-1) by clear r f g p;omega];refine aA (Q4 k u t (by omega) (by omega) ?_);clear r f;dsimp only;cases e:O.blt (kx kf (arrOf st') (lo+x)) (kx kf (arrOf st') (lo+(x-1)))with
  |true =>
   rw[ay rfl];exact aL (h x g (by omega) d (.inr e))
  |false =>
   rw[ar (by simp)];refine aL ⟨rfl,rfl,λi j m v=>?_⟩;by_cases o:j<x
   .exact d i j m o
   .have hj':j=x:=by omega
    subst hj';by_cases l:i=j
    .subst l;exact cz _
    .exact bO (d i (j-1) (by omega) (by omega)) e
theorem a2f{lo n a:Nat}{Q:Option Nat->SortSt->Prop}(d:Cmp prog w A s κ D (ltK kf))(l:kindOf st=κ)(g:AllD D (arrOf st))(f:lo+a<=(arrOf st).size)(h1:1<=n)(b:n<=a)(hs:NiO kf (arrOf st) lo n)
  (h:∀m st',Kept lo st st'->1<=m->m<=a->SoO kf (arrOf st') lo m->Q (some m) st'):wpS (model prog w) A E s (a0m lo n a) Q st:=by
 unfold a0m;refine aA (wpS_reverse ?_);have c:Kept lo st (setArr st (mirror (arrOf st) lo (lo+n) ((lo+n-lo) / 2))):=Kept.rev (aq _) (by omega);refine aA (a5u d (c.1.trans l) (g.perm c.2.2.2.1) (by rw[c.2.2.2.1.size_eq];exact f) h1 b (λi j k q=>?_) λm q1 o p _=>aL (h m _ c (by omega) o p));show O.kle (kx kf (mirror (arrOf st) lo (lo+n) ((lo+n-lo) / 2)) (lo+i)) (kx kf (mirror (arrOf st) lo (lo+n) ((lo+n-lo) / 2)) (lo+j));have e:lo+n<=(arrOf st).size:=by omega
 rw[a1d e,a1d e];clear f h1 b e;rw[ay (by omega),ay (by omega),show lo+(lo+n)-1-(lo+i)=lo+(n-1-i) by omega,show lo+(lo+n)-1-(lo+j)=lo+(n-1-j) by omega];exact hs _ _ (by omega) (by omega)
theorem a9r{lo n d:Nat}{Q:DescSt->SortSt->Prop}(H:Cmp prog w A s κ D (ltK kf))(J:kindOf st=κ)(M:AllD D (arrOf st))(L:lo+d<=(arrOf st).size)(h1:1<=n)(u:n<=d)(hs:NiO kf (arrOf st) lo n)
  (h:∀m a st',Kept lo st st'->n<=m->m<=d->NiO kf (arrOf st') lo m->a+1<=m->(∀i,lo+m-(a+1)<=i->i<lo+m->kx kf (arrOf st') i=kx kf (arrOf st') (lo+m-1))->Q (none,m,a) st'):wpS (model prog w) A E s (a9d lo n d) Q st:=by
 unfold a9d;refine cq (I:=λx c st'=>∃a,c=(none,x,a)/\Kept lo st st'/\NiO kf (arrOf st') lo x/\a+1<=x /\
   (∀i,lo+x-(a+1)<=i->i<lo+x->kx kf (arrOf st') i=kx kf (arrOf st') (lo+x-1))) ?step ?fin ⟨0,rfl,Kept.refl,hs,by omega,λi h1 h2=>by congr 1;omega⟩
 case fin =>
  rintro c st' ⟨a,rfl,b,g,F,y⟩;rw[Nat.max_eq_right u]at g F y⊢;exact h d a st' b u (aq _) g F y
 case step =>
  rintro x c st' o e ⟨a,rfl,b,g,F,y⟩;dsimp only;have t:lo+x<(arrOf st').size:=by rw[b.2.2.2.1.size_eq];exact aE (Nat.add_lt_add_left e lo) L
  have G:=M.perm b.2.2.2.1;replace e:x<=d:=cH e;have ex:HEq (lo+x-1) (lo+(x-1)):=heq_of_eq (by clear L h1 u o e t;omega);have l:lo+x-1<(arrOf st').size:=dy (Nat.sub_le _ _) t;clear L h1 u;refine aA (Q4 H (b.1.trans J) G t l ?_);dsimp only;rw[cN ex]at y l⊢;cases q:O.blt (kx kf (arrOf st') (lo+x)) (kx kf (arrOf st') (lo+(x-1)))with
  |true =>
   rw[ay rfl];have r:∀xs:Array Keyed,(∀k,kx kf xs k=kx kf (arrOf st') k)->NiO kf xs lo (x+1):=by
    intro xs J i j B N;rw[J,J];by_cases C:j<x
    .exact g i j B C
    .have hj':j=x:=by omega
     subst hj';by_cases z:i=j
     .subst z;exact cz _
     .exact bO (bQ q) (g i (j-1) (by omega) (by omega))
   by_cases f:a > 0
   .rw[ay f];refine aA (wpS_reverse (aL ⟨0,rfl,b.trans (Kept.rev (by clear t l ex o e f;omega) (cH t)),r _ (M3 (cH t) (λk q1 P=>by rw[cN ex];exact y k q1 P)),eF _,λi h1 h2=>by clear t l ex o e f F;congr 1;omega⟩))
   .rw[ar f];exact aL ⟨0,rfl,b,r _ (λ_=>rfl),eF _,λi h1 h2=>by clear t l ex o e f F;congr 1;omega⟩
  |false =>
   rw[ar (by simp)];refine aA (Q4 H (b.1.trans J) G l t ?_);dsimp only;clear t l;cases p:O.blt (kx kf (arrOf st') (lo+(x-1))) (kx kf (arrOf st') (lo+x))with
   |true =>
    rw[ay rfl];exact aL (h x a st' b o e g F (by rw[cN ex];exact y))
   |false =>
    rw[ar (by simp)];have v:kx kf (arrOf st') (lo+x)=kx kf (arrOf st') (lo+(x-1)):=KeyOrd.kle_antisymm p q;clear o e;refine aL ⟨a+1,rfl,b,λi j B N=>?_,by omega,λi h1 h2=>?_⟩
    .by_cases C:j<x
     .exact g i j B C
     .have hj':j=x:=by omega
      subst hj';by_cases z:i=j
      .subst z;exact cz _
      .rw[v];exact g i (j-1) (by omega) (by omega)
    .rw[show lo+(x+1)-1=lo+x by omega];by_cases K:i=lo+x
     .subst K;rfl
     .rw[v];exact y i (by omega) (by omega)
theorem a7W{lo n a:Nat}{Q:Option Nat->SortSt->Prop}(e:Cmp prog w A s κ D (ltK kf))(t:kindOf st=κ)(y:AllD D (arrOf st))(q:lo+a<=(arrOf st).size)(u:n+1<=a)(hs:NiO kf (arrOf st) lo (n+1))
  (h:∀m st',Kept lo st st'->1<=m->m<=a->SoO kf (arrOf st') lo m->Q (some m) st'):wpS (model prog w) A E s (dpO lo n a) Q st:=by
 unfold dpO;refine aA (Q3 ?_);refine aA (a9r e t y q (by omega) u hs λm k st' b C f p F z=>?_);dsimp only;have v:=heq_of_eq (b.2.2.2.1.size_eq:(arrOf st').size=(arrOf st).size);have g:lo+m<=(arrOf st').size:=by rw[cN v];exact bf (Nat.add_le_add_left f lo) q
 have o:=y.perm b.2.2.2.1;by_cases d:k > 0
 .rw[ay d];have c:Kept lo st' (setArr st' (mirror (arrOf st') (lo+m-(k+1)) (lo+m) ((lo+m-(lo+m-(k+1))) / 2))):=Kept.rev (by omega) g;refine aA (wpS_reverse (a2f e (c.1.trans (b.1.trans t)) (o.perm c.2.2.2.1) (by rw[c.2.2.2.1.size_eq,cN v];exact q) (by omega) f (λi j r B=>?_) λx l k2=>h x l (b.trans (c.trans k2))));show O.kle (kx kf (mirror (arrOf st') _ _ _) _) (kx kf (mirror (arrOf st') _ _ _) _);rw[M3 g z,M3 g z];exact p i j r B
 .rw[ar d];exact a2f e (b.1.trans t) o (by rw[cN v];exact q) (by omega) f p λx l k2=>h x l (b.trans k2)
theorem a6N{lo b:Nat}{Q:Option Nat->SortSt->Prop}(f:Cmp prog w A s κ D (ltK kf))(v:kindOf st=κ)(F:AllD D (arrOf st))(q:lo+b<=(arrOf st).size)(h1:1<=b)
  (h:∀m st',Kept lo st st'->1<=m->m<=b->SoO kf (arrOf st') lo m->Q (some m) st'):wpS (model prog w) A E s (countRun' lo b) Q st:=by
 rw[b0r];refine aA (a5u f v F q (aq 1) h1 (λi j x J=>by have:i=j:=(by omega);subst this;exact cz _) λn g c l C=>?_);dsimp only;by_cases a:n=b
 .rw[ay (by simpa using a)];exact aL (h n st Kept.refl g c l)
 .rw[ar (by simpa using a)];have y:O.klt (kx kf (arrOf st) (lo+n)) (kx kf (arrOf st) (lo+(n-1))):=C.resolve_left a;replace a:n+1<=b:=by omega
  clear C c h1;replace c:=Nat.le_of_succ_le a;have u:lo+n<(arrOf st).size:=aE (Nat.add_lt_add_left a lo) q;by_cases o:n > 1
  .rw[ay o];refine aA (Q4 f v F (by omega) (by omega) ?_);dsimp only;have ex:lo+n-1=lo+(n-1):=by clear q a c u;omega
   rw[ex];cases t:O.blt (kx kf (arrOf st) lo) (kx kf (arrOf st) (lo+(n-1)))with
   |true =>
    rw[ay rfl];exact aL (h n st Kept.refl g c l)
   |false =>
    rw[ar (by simp)];have r:=q;clear q;have d:∀k,k<n->kx kf (arrOf st) (lo+k)=kx kf (arrOf st) (lo+(n-1)):=by
     intro k v;clear u a c ex;have a1:=l 0 k (bq _) v;have K:=l k (n-1) (by omega) (by omega);exact KeyOrd.kle_antisymm K (bO t a1)
    have z:∀k,kx kf (mirror (arrOf st) lo (lo+n) ((lo+n-lo) / 2)) k=kx kf (arrOf st) k:=M3 (cH u) λk q1 M=>by
     rw[ex];clear u a c ex r;have:=d (k-lo) (by omega);rwa[show lo+(k-lo)=k by omega]at this
    have e:Kept lo st (setArr st (mirror (arrOf st) lo (lo+n) ((lo+n-lo) / 2))):=Kept.rev (aq _) (cH u);refine aA (wpS_reverse (a7W f (e.1.trans v) (F.perm e.2.2.2.1) (by rw[e.2.2.2.1.size_eq];exact r) a (λi j x J=>?_) λL I k2=>h L I (e.trans k2)));show O.kle (kx kf (mirror (arrOf st) _ _ _) _) (kx kf (mirror (arrOf st) _ _ _) _);rw[z,z];clear u a c ex r g;by_cases H:j<n
    .rw[d i (by omega),d j H];exact cz _
    .have hj':j=n:=by omega
     subst hj';by_cases p:i=j
     .subst p;exact cz _
     .rw[d i (by omega)];exact bQ y
  .rw[ar o];have B:n=1:=by omega
   subst B;refine a7W f v F q a (λi j x J=>?_) h;clear u a c q g o;by_cases p:i=j
   .subst p;exact cz _
   .have hi0:i=0:=by omega
    have G:j=1:=by omega
    subst hi0;subst G;exact bQ y
end
noncomputable def a1G:Nat->List (List Keyed)->List (Nat×Nat)
 |_,[]=>[]
 |o,r::rs=>(o,r.length)::a1G (o+r.length) rs
theorem O6:∀(o:Nat) (X Y:List (List Keyed)),a1G o (X++Y)=a1G o X++a1G (o+X.flatten.length) Y
 |o,[],Y=>by simp[a1G]
 |o,r::X,Y=>by
  simp only[List.cons_append,a1G,O6 (o+r.length) X Y,cQ,az,dW]
theorem a2A:∀(o:Nat) (X:List (List Keyed)),(a1G o X).length=X.length
 |_,[]=>rfl
 |o,r::X=>by simp only[a1G,aU,a2A (o+r.length) X]
noncomputable abbrev ent(e:Nat×Nat×Nat):Nat×Nat:=(e.1,e.2.1)
section
variable {prog:Program}{w:World}{A:Around}{E:Value->Shared->Prop}{s:Shared}{κ:SortKind}{D:Keyed->Prop}{O:KeyOrd}{kf:Keyed->O.α}{st:SortSt}{a0:Array Keyed}
structure RI(kf:Keyed->O.α)(κ:SortKind)(a0:Array Keyed)(st:SortSt)(runs:List (List Keyed))(rest:List Keyed):Prop where
 kind:kindOf st=κ
 failed:failedOf st=none
 perm:(arrOf st).Perm a0
 eq:(arrOf st).toList=runs.flatten++rest
 sorted:∀r∈runs,r.Pairwise (leK kf)
 ne:∀r∈runs,0<r.length
 pend:(pendingOf st).toList.map ent=a1G 0 runs
theorem RI.size{runs:List (List Keyed)}{rest:List Keyed}(h:RI kf κ a0 st runs rest):(pendingOf st).size=runs.length:=by
 rw[<-ax,<-aj (f:=ent),h.pend,a2A]
theorem a1u{X Y:List (List Keyed)}{ra b rest:List Keyed}{Q:Bool->SortSt->Prop}(j:Cmp prog w A s κ D (ltK kf))(I:AllD D a0)(h:RI kf κ a0 st (X++ra::b::Y) rest)
  (q:∀(st':SortSt) (M:List Keyed),RI kf κ a0 st' (X++M::Y) rest->M.length=ra.length+b.length->Q true st'):wpS (model prog w) A E s (mergeAt' X.length) Q st:=by
 have p:=h.pend;rw[O6,a1G,a1G]at p;obtain⟨c,R,i,n,v⟩:=List.map_eq_append_iff.mp p;obtain⟨x,S,B,e,C⟩:=List.map_eq_cons_iff.mp v;obtain⟨y,K,F,g,o⟩:=List.map_eq_cons_iff.mp C;subst B F;obtain⟨L,N,u⟩:=x;obtain⟨O,P,m⟩:=y;rw[dw]at e g o;have e:(L,N)=(X.flatten.length,ra.length):=e;have g:(O,P)=(X.flatten.length+ra.length,b.length):=g;cases e;cases g;have J:c.length=X.length:=by rw[<-aj (f:=ent),n,a2A]
 have G:(pendingOf st)[X.length]?=some (X.flatten.length,ra.length,u):=by
  rw[<-av,i,bb (by omega),show X.length-c.length=0 by omega];rfl
 have H:(pendingOf st)[X.length+1]?=some (X.flatten.length+ra.length,b.length,m):=by
  rw[<-av,i,bb (by omega),show X.length+1-c.length=1 by omega];rfl
 have a:Runs2 kf D (arrOf st) X.flatten ra b (Y.flatten++rest):=by
  refine⟨?_,λz t=>(I.perm h.perm) z t,h.sorted _ (by simp),h.sorted _ (by simp),h.ne _ (by simp),h.ne _ (by simp)⟩;rw[h.eq];simp[aF]
 refine a5s j h.kind a G H h.failed λst' M k1 k2 k3 l k5=>?_;have d:M.length=ra.length+b.length:=by rw[l.1.length_eq,az]
 refine q st' M ⟨k1,k2,?_,?_,λr k=>?_,λr k=>?_,?_⟩ d
 .refine dI.mpr ?_;refine List.Perm.trans ?_ (dI.mp h.perm);rw[k5,a.eq];refine List.Perm.append_right _ ?_;rw[aF X.flatten];exact cu _ l.1
 .rw[k5];simp[aF]
 .rcases aK.mp k with z|z
  .exact h.sorted r (aT _ z)
  .rcases aI.mp z with rfl|z
   .exact l.2
   .exact h.sorted r (aZ _ (ak _ (ak _ z)))
 .rcases aK.mp k with z|z
  .exact h.ne r (aT _ z)
  .rcases aI.mp z with rfl|z
   .have:=h.ne ra (by simp);omega
   .exact h.ne r (aZ _ (ak _ (ak _ z)))
 .rw[k3,Array.eraseIdxIfInBounds];have t:(pendingOf st).size=X.length+(Y.length+2):=by rw[h.size];simp
  rw[dif_pos (by rw[fb];omega),Array.toList_eraseIdx,Array.toList_setIfInBounds,i];rw[List.set_append_right _ _ (by omega),show X.length-c.length=0 by omega,List.set_cons_zero];rw[List.eraseIdx_append_of_length_le (by omega),show X.length+1-c.length=1 by omega];show(c++(X.flatten.length,ra.length+b.length,u)::K).map ent=_;rw[cy,aV,n,o,O6,a1G,dw,d];show _++(X.flatten.length,ra.length+b.length)::_=_;rw[dW]
end
noncomputable def a1Y(lo n:Nat):StateT SortSt Sem (ForInStep (Option Unit×Nat)) :=
 (modify λs=>setPending s ((pendingOf s).push (lo,n,0)))>>=λ_=>pure (.yield (none,lo+n))
noncomputable def W7(sz pw:Nat):StateT SortSt Sem (Option Unit×Unit) :=
 forIn [:sz] ((none,()):Option Unit×Unit) λ_ _=>get>>=λg=>match (if (pendingOf g).size > 1 then(pendingOf g)[(pendingOf g).size-2]? else none)with
  |some (_,_,older)=>(if older<=pw then pure (.done (none,()))else mergeAt' ((pendingOf g).size-2)>>=λb=>if (!b)=true then pure (.done (some (),()))else pure (.yield (none,())))
  |_=>pure (.done (none,()))
noncomputable def a0s(sz lo n:Nat):StateT SortSt Sem (ForInStep (Option Unit×Nat)):=get>>=λg=>match (pendingOf g).back? with
 |some (s1,n1,_)=>W7 sz (power' sz (2*s1+n1) (2*s1+n1+n1+n) sz)>>=λc=>match c.1 with
  |some r=>pure (.done (some r,lo))
  |none=>(modify λs=>setPending s ((pendingOf s).modify ((pendingOf s).size-1) λx=>(x.1,x.2.1,power' sz (2*s1+n1) (2*s1+n1+n1+n) sz)))>>=λ_=>a1Y lo n
 |_=>a1Y lo n
noncomputable def a8N(sz:Nat):StateT SortSt Sem (Option Unit×Unit) :=
 forIn [:sz] ((none,()):Option Unit×Unit) λ_ _=>get>>=λg=>if (pendingOf g).size<=1 then pure (.done (none,()))
  else mergeAt' (if Option.any (λx=>decide (x<(pendingOf g)[(pendingOf g).size-2+1]?.elim 0 λx=>x.2.1)) (if (pendingOf g).size-2 > 0 then Option.map (λx=>x.2.1) (pendingOf g)[(pendingOf g).size-2-1]? else none)=true then(pendingOf g).size-2-1 else(pendingOf g).size-2)>>=λb=>if (!b)=true then pure (.done (some (),()))else pure (.yield (none,()))
section
variable {prog:Program}{w:World}{A:Around}{E:Value->Shared->Prop}{s:Shared}{κ:SortKind}{D:Keyed->Prop}{O:KeyOrd}{kf:Keyed->O.α}{st:SortSt}{a0:Array Keyed}{runs:List (List Keyed)}{rest:List Keyed}
theorem two_last{α:Type}{l:List α}(h:2<=l.length):∃X a b,l=X++[a,b]/\X.length=l.length-2:=by
 refine⟨l.take (l.length-2),l[l.length-2],l[l.length-1],?_,by rw[aX];omega⟩;have c:l.drop (l.length-2)=[l[l.length-2],l[l.length-1]]:=by
  rw[cB (by omega),cB (by omega),cA (by omega)];congr 2;congr 1;omega
 rw[<-c,bj]
theorem a4n{sz j:Nat}{Q:Option Unit×Unit->SortSt->Prop}(g:Cmp prog w A s κ D (ltK kf))(i:AllD D a0)(h:RI kf κ a0 st runs rest)
  (q:∀st' a,RI kf κ a0 st' a rest->a.flatten.length=runs.flatten.length->a.length<=runs.length->Q (none,()) st'):wpS (model prog w) A E s (W7 sz j) Q st:=by
 unfold W7;refine cq (I:=λ_ c st'=>c=(none,())/\∃a,RI kf κ a0 st' a rest/\a.flatten.length=runs.flatten.length/\a.length<=runs.length) ?step (λc st' ⟨e,d,h1,h2,b⟩=>by rw[e];exact q st' d h1 h2 b) ⟨rfl,runs,h,rfl,aq _⟩;rintro x c st' _ _ ⟨rfl,d,h1,h2,b⟩;refine aA (fi ?_);split
 .rename_i older heq;split
  .exact aL (q st' d h1 h2 b)
  .have hz:(pendingOf st').size > 1:=by
    refine Nat.lt_of_not_le λz=>?_;rw[ar (by omega)]at heq;cases heq
   have hs:=h1.size;obtain⟨X,ra,n,f,m⟩:=two_last (l:=d) (by omega);rw[f]at h1;rw[show(pendingOf st').size-2=X.length by omega];refine aA (a1u g i h1 λk M k1 k2=>?_);rw[ar (by simp)];refine aL ⟨rfl,_,k1,?_,?_⟩
   .rw[<-h2,f];simp[k2]
   .rw[f]at b;simp at b⊢;omega
 .exact aL (q st' d h1 h2 b)
theorem a1t{lo n:Nat}{Q:ForInStep (Option Unit×Nat)->SortSt->Prop}{r:List Keyed}(h:RI kf κ a0 st runs (r++rest))(e:r.Pairwise (leK kf))(d:0<n)(c:r.length=n)(a:lo=runs.flatten.length)
  (q:∀st',RI kf κ a0 st' (runs++[r]) rest->Q (.yield (none,lo+n)) st'):wpS (model prog w) A E s (a1Y lo n) Q st:=by
 unfold a1Y;refine aA (wpS_modify (aL (q _ ⟨h.kind,h.failed,h.perm,?_,λz b=>?_,λz b=>?_,?_⟩)))
 .show(arrOf st).toList=_;rw[h.eq];simp
 .rcases aK.mp b with y|y
  .exact h.sorted z y
  .rw[aB.mp y];exact e
 .rcases aK.mp b with y|y
  .exact h.ne z y
  .rw[aB.mp y,c];exact d
 .show((pendingOf st).push (lo,n,0)).toList.map ent=_;rw[cR,cy,h.pend,O6,dw,a,<-c];rfl
theorem map_modify{p:Array (Nat×Nat×Nat)}{i a:Nat}:(p.modify i λx=>(x.1,x.2.1,a)).toList.map ent=p.toList.map ent:=by
 rw[Array.toList_modify];refine eB λj=>?_;rw[aW,aW,List.getElem?_modify];cases p.toList[j]? with
 |none=>rfl
 |some x =>
  by_cases e:i=j
  .simp[e]
  .simp[e]
theorem a6P{sz lo n:Nat}{Q:ForInStep (Option Unit×Nat)->SortSt->Prop}{r:List Keyed}(e:Cmp prog w A s κ D (ltK kf))(j:AllD D a0)(h:RI kf κ a0 st runs (r++rest))(i:r.Pairwise (leK kf))(g:0<n)(d:r.length=n)(b:lo=runs.flatten.length)
  (q:∀st' a,RI kf κ a0 st' a rest->a.flatten.length=lo+n->a.length<=runs.length+1->Q (.yield (none,lo+n)) st'):wpS (model prog w) A E s (a0s sz lo n) Q st:=by
 unfold a0s;refine aA (fi ?_);split
 .refine aA (a4n e j h λst' a k1 k2 k3=>?_);dsimp only;refine aA (wpS_modify ?_);refine a1t (runs:=a) (rest:=rest) ⟨k1.kind,k1.failed,k1.perm,k1.eq,k1.sorted,k1.ne,map_modify.trans k1.pend⟩ i g d (by rw[k2];exact b) λc f=>q c _ f ?_ ?_
  .simp[k2,d,b]
  .simp;omega
 .refine a1t h i g d b λc f=>q c _ f ?_ ?_
  .simp[d,b]
  .simp
end
section
variable {prog:Program}{w:World}{A:Around}{E:Value->Shared->Prop}{s:Shared}{κ:SortKind}{D:Keyed->Prop}{O:KeyOrd}{kf:Keyed->O.α}{st:SortSt}{a0:Array Keyed}{runs:List (List Keyed)}{rest:List Keyed}
theorem b3u{α:Type}{l:List α}{i:Nat}(h:i+1<l.length):∃X a b Y,l=X++a::b::Y/\X.length=i:=by
 refine⟨l.take i,l[i],l[i+1],l.drop (i+1+1),?_,by rw[aX];omega⟩;rw[<-cB (by omega),<-cB (by omega),bj]
theorem a5t{sz:Nat}{Q:Option Unit×Unit->SortSt->Prop}(j:Cmp prog w A s κ D (ltK kf))(n:AllD D a0)(h:RI kf κ a0 st runs rest)(t:runs.length<=sz)
  (q:∀st' a,RI kf κ a0 st' a rest->a.length<=1->Q (none,()) st'):wpS (model prog w) A E s (a8N sz) Q st:=by
 unfold a8N;refine cq (I:=λx c st'=>c=(none,())/\∃a,RI kf κ a0 st' a rest/\a.length+x<=sz+1) ?step (λc st' ⟨e,g,h1,h2⟩=>by rw[e];exact q st' g h1 (by omega)) ⟨rfl,runs,h,by omega⟩;rintro x c st' _ _ ⟨rfl,g,h1,h2⟩;refine aA (fi ?_);have hs:=h1.size;split
 .exact aL (q st' g h1 (by omega))
 .rename_i hz;have m:∀i,i+1<g.length->wpS (model prog w) A E s ((mergeAt' i>>=λb=>if (!b)=true then pure (ForInStep.done (some (),()))else pure (ForInStep.yield (none,()))):StateT SortSt Sem (ForInStep (Option Unit×Unit))) (λr d=>match r with|ForInStep.done c'=>Q c' d|ForInStep.yield c'=>c'=(none,())/\∃a,RI kf κ a0 d a rest/\a.length+(x+1)<=sz+1) st':=λi hi=>by
   obtain⟨X,ra,u,Y,k,l⟩:=b3u hi;rw[k]at h1 h2;rw[<-l];refine aA (a1u j n h1 λp M k1 k2=>?_);rw[ar (by simp)];refine aL ⟨rfl,_,k1,?_⟩;simp at h2⊢;omega
  refine cE (m _ ?_) (λr d o=>by cases r<;>exact o);by_cases f:(pendingOf st').size-2 > 0
  .rw[ay f];split<;>omega
  .rw[ar f,ar (by simp)];omega
theorem RI.kept{st':SortSt}(h:RI kf κ a0 st runs rest)(k:Kept runs.flatten.length st st'):RI kf κ a0 st' runs ((arrOf st').toList.drop runs.flatten.length):=by
 refine⟨k.1.trans h.kind,k.2.2.1.trans h.failed,k.2.2.2.1.trans h.perm,?_,h.sorted,h.ne,by rw[k.2.1];exact h.pend⟩;have e:(arrOf st').toList.take runs.flatten.length=runs.flatten:=by
  have a:(arrOf st).toList.take runs.flatten.length=runs.flatten:=by rw[h.eq,List.take_left'];rfl
  rw[<-a];refine eB λi=>?_;rw[aX];by_cases hi:i<runs.flatten.length
  .have hle:runs.flatten.length<=(arrOf st).toList.length:=by rw[h.eq,az];omega
   rw[de (by omega),de hi,av,av];exact k.2.2.2.2 i hi
  .rw[bG (by rw[aX];omega),bG (by rw[aX];omega)]
 rw[<-bj runs.flatten.length (arrOf st').toList,e];congr 1;rw[dm (aq _),fG,cK]
theorem b3L{arr:Array Keyed}{lo n:Nat}(h:SoO kf arr lo n)(c:lo+n<=arr.size):((arr.toList.drop lo).take n).Pairwise (leK kf):=by
 rw[eV];intro i j hi b a;rw[aX,cg,ax]at hi b;have q:=h i j (cH a) (by omega);unfold leK;have g:∀k,k<n->kx kf arr (lo+k)=kf (arr[lo+k]?.getD (Value.none,Value.none)):=λk _=>by unfold kx;rw[bM]
 rw[g i (by omega),g j (by omega),getElem?_pos arr _ (by omega),getElem?_pos arr _ (by omega)]at q;simp only[ft,fu,Array.getElem_toList];exact q
theorem a2s:∀{runs:List (List Keyed)},(∀r∈runs,0<r.length)->runs.length<=runs.flatten.length
 |[],_=>aq _
 |r::runs,h=>by
  have:=a2s (runs:=runs) λz a=>h z (ak _ a);have:=h r au;simp only[aU,cQ,az];omega
theorem a3B{α:Type}{m m':StateT SortSt Sem α}{Q:α->SortSt->Prop}(e:m=m')(h:wpS (model prog w) A E s m' Q st):wpS (model prog w) A E s m Q st:=by rw[e];exact h
theorem a5p{Q:Unit->SortSt->Prop}(f:Cmp prog w A s κ D (ltK kf))(P:kindOf st=κ)(y:AllD D (arrOf st))(hp:pendingOf st=#[])(O:failedOf st=none)
  (q:∀st':SortSt,(arrOf st').Perm (arrOf st)->failedOf st'=none->(arrOf st').toList.Pairwise (leK kf)->Q () st'):wpS (model prog w) A E s sortRuns' Q st:=by
 rw[sortRuns'_eq];refine aA (fi ?_);dsimp only;generalize F:(arrOf st).size=sz;have N:RI kf κ (arrOf st) st [] (arrOf st).toList:=⟨P,O,.refl _,rfl,(λ_ z=>nomatch z),(λ_ z=>nomatch z),by rw[hp];rfl⟩;have J:∀{st':SortSt}{runs:List (List Keyed)}{rest:List Keyed},RI kf κ (arrOf st) st' runs rest->(arrOf st').size=sz:=λh=>by rw[h.perm.size_eq];exact F
 have L:∀{st':SortSt}{runs:List (List Keyed)}{rest:List Keyed},RI kf κ (arrOf st) st' runs rest->runs.flatten.length+rest.length=sz:=λh=>by
  have:=aO List.length h.eq;rw[ax,J h,az]at this;omega
 refine aA (cE (cq (I:=λx c st'=>c.1=none/\∃runs rest,RI kf κ (arrOf st) st' runs rest/\c.2=runs.flatten.length/\x<=c.2)
  (Q:=λc st'=>c.1=none/\∃runs,RI kf κ (arrOf st) st' runs []/\runs.length<=sz) ?step ?fin ⟨rfl,[],_,N,rfl,aq _⟩) ?post)
 case fin =>
  rintro c st' ⟨k,runs,rest,h1,h2,K⟩;have:=L h1;have l:rest=[]:=List.eq_nil_of_length_eq_zero (by omega);subst l;exact⟨k,runs,h1,by have:=a2s h1.ne;omega⟩
 case step =>
  rintro x c st' _ X ⟨k,runs,rest,h1,h2,K⟩;obtain⟨M,lo⟩:=c;dsimp only at k h2 K⊢;subst k;have R:=L h1;have H:=J h1;by_cases t:lo ≥ sz
  .rw[ay t];have l:rest=[]:=List.eq_nil_of_length_eq_zero (by omega);subst l;exact aL ⟨rfl,runs,h1,by have:=a2s h1.ne;omega⟩
  .rw[ar t];have p:=y.perm h1.perm;have add:∀(n:Nat) (d:SortSt),Kept lo st' d->0<n->lo+n<=sz->SoO kf (arrOf d) lo n->wpS (model prog w) A E s (a0s sz lo n) (λr e=>match r with|ForInStep.done c'=>c'.1=none/\∃runs,RI kf κ (arrOf st) e runs []/\runs.length<=sz|ForInStep.yield c'=>c'.1=none/\∃runs rest,RI kf κ (arrOf st) e runs rest/\c'.2=runs.flatten.length/\x+1<=c'.2) d:=λn d j C U i=>by
    rw[h2]at j;have hR:=h1.kept j;rw[<-h2]at hR;have G:=J hR;rw[<-bj n ((arrOf d).toList.drop lo)]at hR;refine a6P f y hR (b3L i (by omega)) C (by rw[aX,cg,ax];omega) h2 λv W k1 k2 k3=>⟨rfl,W,_,k1,k2.symm,by show x+1<=lo+n;omega⟩
   refine aA (a6N f h1.kind p (by omega) (by omega) λm d j S T i=>?_);dsimp only;split
   .refine aA (Q3 ?_);have G:(arrOf d).size=sz:=by rw[j.2.2.2.1.size_eq];exact H
    refine aA (b0O f (j.1.trans h1.kind) (p.perm j.2.2.2.1) (by omega) (by omega) i λv B u=>?_);rw[ar (by simp)];refine a3B (m':=a0s sz lo (min (sz-lo) (minRun' sz sz 0))) (by
     unfold a0s;refine aO _ (funext λg=>?_);rcases(pendingOf g).back? with _|⟨s1,n1,z⟩
     .rfl
     .dsimp only;refine congr (aO _ ?_) (funext λc=>?_)
      .unfold W7;refine aO _ (funext λ_=>funext λ_=>aO _ (funext λg=>?_));generalize (if (pendingOf g).size > 1 then(pendingOf g)[(pendingOf g).size-2]? else none)=o;rcases o with _|⟨a,b,o⟩<;>rfl
      .rcases c with⟨_|q,c⟩<;>rfl) (cE (add _ v (j.trans B) (by omega) (by omega) u) λr e l=>by cases r<;>exact l)
   .refine a3B (m':=a0s sz lo m) (by
     unfold a0s;refine aO _ (funext λg=>?_);rcases(pendingOf g).back? with _|⟨s1,n1,z⟩
     .rfl
     .dsimp only;refine congr (aO _ ?_) (funext λc=>?_)
      .unfold W7;refine aO _ (funext λ_=>funext λ_=>aO _ (funext λg=>?_));generalize (if (pendingOf g).size > 1 then(pendingOf g)[(pendingOf g).size-2]? else none)=o;rcases o with _|⟨a,b,o⟩<;>rfl
      .rcases c with⟨_|q,c⟩<;>rfl) (cE (add _ d j (by omega) (by omega) i) λr e l=>by cases r<;>exact l)
 case post =>
  rintro c st' ⟨k,runs,h1,h2⟩;obtain⟨M,lo⟩:=c;dsimp only at k;subst k;dsimp only;refine aA (a5t (sz:=sz) f y h1 h2 λd V k1 k2=>?_);dsimp only;refine aL (q d k1.perm k1.failed ?_);rw[k1.eq,cJ]
  match V,k2,k1.sorted with
  |[],_,_=>exact .nil
  |[r],_,hs=>simpa using hs r (by simp)
  |_::_::_,k2,_=>simp at k2
end
noncomputable def E9(h:Heap)(v:Value):List Int:=match v with
 |.ref b=>match h.get? b with
  |some o=>match o.data with
   |.seq xs _=>xs.toList.map numOf
   |_=>[]
  |none=>[]
 |_=>[]
theorem C8{h:Heap}{b:Addr}{its:Array Value}{r:List Int}(t:IsTup h b its)(i:IntsAre its.toList r):E9 h (.ref b)=r:=by
 obtain⟨o,h1,h2,n,a⟩:=t;unfold E9;simp only[h1,a];exact i.nums
theorem M1{α β:Type}{f:α->β}{os i:List β}(h:os.Perm i):∀{T:List α},i=T.map f->∃c:List α,c.Perm T/\c.map f=os:=by
 induction h with
 |nil=>intro T e;cases T with|nil=>exact⟨[],.nil,rfl⟩|cons _ _=>cases e
 |cons x _ m =>
  intro T e;cases T with
  |nil=>cases e
  |cons t T =>
   injection e with e1 e2
   obtain⟨c,h1,h2⟩:=m e2;exact⟨t::c,h1.cons t,by rw[aV,h2,e1]⟩
 |swap x y l =>
  intro T e
  match T,e with
  |a::b::T,e =>
   injection e with e1 e2
   injection e2 with e2 e3
   exact⟨b::a::T,.swap a b T,by rw[aV,aV,e1,e2,e3]⟩
 |trans _ _ d g =>
  intro T e;obtain⟨c,h1,h2⟩:=g e;obtain⟨T2,j,k⟩:=d h2.symm;exact⟨T2,j.trans h1,k⟩
section
variable {prog:Program}{w:World}{A:Around}{E:Value->Shared->Prop}{s:Shared}
noncomputable def kfH(h:Heap):Keyed->OL.α:=λx=>(E9 h x.1:List Int)
def DH(h:Heap)(x:Keyed):Prop:=∃b its r,x.1=Value.ref b/\IsTup h b its/\IntsAre its.toList r
theorem b8X:Cmp prog w A s (tuples' true) (DH s.heap) (ltK (kfH s.heap)):=by
 rintro⟨x,z⟩ ⟨y,B⟩ C ⟨b,its,r,h,j,d⟩ ⟨b',a,t,i,k,e⟩ c;dsimp only at h i;subst h i;have c:C (HT.lexLt (E9 s.heap (.ref b)) (E9 s.heap (.ref b'))) s:=c;rw[C8 j d,C8 k e]at c;obtain⟨o,q1,v,n,q⟩:=j;obtain⟨o',f,p,u,g⟩:=k;refine kat_lt q1 q f g (a1A 0 d e ?_);have l:its.size=r.length:=by rw[<-ax];exact d.length
 have m:a.size=t.length:=by rw[<-ax];exact e.length
 rw[l,m,a6k];exact c
theorem a0g{a:Addr}{vs:List Value}{rss:LLI}{n:Nat}{P:Fin->Shared->Prop}(m:s.heap.get? a=some (seqObj "list" vs.toArray n))(T:TupsAre s.heap vs rss)(hw:∀r∈rss,0<r.length)(hz:vs.length<=sizeLine)
  (h:∀os:List Value,os.Perm vs->os.Pairwise (λx y=>HT.lexLt (E9 s.heap y) (E9 s.heap x)=false)->P (.done (.ret .none)) {s with heap:=sortedHeap s.heap a vs os.toArray}) :
  wpAny (model prog w) A (Builtin.«list.sort» ⟨[.ref a],[]⟩) P E s:=by
 rw[list_sort_plain];have N:a<s.heap.objs.size:=aG m;refine aa (listItems_at m rfl ?_);refine aa (listUpdate_at m rfl ?_ (by rw[aD];omega) (bq _));obtain⟨G,p⟩:∃G,(s.heap.update a (Obj.mapSeq λ_=>#[])).get? a=some (seqObj "list" #[] G):=⟨_,get?_update_seq m (λ_=>#[])⟩;refine aa (seqEpoch_at p rfl ?_);refine aa (wpAny_newTuple ?_ (by show vs.length<=_;omega));refine aa (wpAny_newList ?_ (bq _));refine cc ?_;have d:(((s.heap.update a (Obj.mapSeq λ_=>#[])).push (seqObj "tuple" vs.toArray 0)).push (seqObj "list" #[] 0)).get? a=some (seqObj "list" #[] G):=by
  rw[Heap.get?_push_ne _ _ _ (by rw[size_push',Heap.size_update];exact aM (bX N)),Heap.get?_push_ne _ _ _ (by rw[Heap.size_update];exact aM N)];exact p
 have g:∀b its,IsTup s.heap b its->IsTup (((s.heap.update a (Obj.mapSeq λ_=>#[])).push (seqObj "tuple" vs.toArray 0)).push (seqObj "list" #[] 0)) b its:=λb its ⟨o,q1,l,M⟩=>by
  have S:b≠a:=λz=>by
   rw[z,m]at q1;cases q1;have l:Value.type "list"=Value.type "tuple":=l;injection l with l
   exact absurd l (by decide)
  refine⟨o,?_,l,M⟩;exact ag _ (ag _ (by rw[Heap.get?_update_ne _ _ _ _ S];exact q1))
 have F:=T.keeps g;show wpAny (model prog w) A _ P E {s with heap:=((s.heap.update a (Obj.mapSeq λ_=>#[])).push (seqObj "tuple" vs.toArray 0)).push (seqObj "list" #[] 0)};have c:∀v∈vs,E9 (((s.heap.update a (Obj.mapSeq λ_=>#[])).push (seqObj "tuple" vs.toArray 0)).push (seqObj "list" #[] 0)) v=E9 s.heap v:=λv W=>by
  obtain⟨i,hi⟩:=bR.mp W;obtain⟨r,b,its,_,H,B,C⟩:=T.2 i v hi;rw[H,C8 B C,C8 (g b its B) C]
 generalize J:((s.heap.update a (Obj.mapSeq λ_=>#[])).push (seqObj "tuple" vs.toArray 0)).push (seqObj "list" #[] 0)=k at d F c;dsimp only;have fin:∀os:List Value,os.Perm vs->os.Pairwise (λx y=>HT.lexLt (E9 s.heap y) (E9 s.heap x)=false)->P (.done (.ret .none)) {s with heap:=k.update a (Obj.mapSeq λ_=>os.toArray)}:=λos h1 h2=>by
  have:=h os h1 h2;unfold sortedHeap at this;rw[J]at this;exact this
 by_cases h2:vs.toArray.size<2
 .have h2':vs.length<2:=by simpa using h2
  rw[ay h2,ay h2];refine aa (ae ?_);rw[StateT.run_pure];refine aa (ae ?_);dsimp only;refine aa (seqEpoch_at d rfl ?_);refine aa (listUpdate_at d rfl ?_ (bq _) (by rw[Array.size_map];show(pairsOf vs).size<=_;rw[pairsOf_size];omega));simp only[bne_self_eq_false,Bool.false_eq_true,if_false];have e:((vs.toArray.zip vs.toArray).map (·.2))=vs.toArray:=by
   apply Array.toList_inj.mp;simp[List.map_snd_zip]
  show wpAny _ _ _ _ _ {s with heap:=k.update a (Obj.mapSeq λ_=>(vs.toArray.zip vs.toArray).map (·.2))};rw[e];refine ae (fin vs (.refl _) ?_);rw[eV];intro i j hi Y U;omega
 .have h2':2<=vs.length:=by
   have:¬vs.length<2:=by simpa using h2
   omega
  rw[ar h2,ar h2];refine aa (a9v F hw (by omega) ?_);have I:AllD (DH k) (vs.toArray.zip vs.toArray):=λx u=>by
   have K:x∈vs.zip vs:=by simpa using u
   obtain⟨_,V⟩:=mem_zip_self K;obtain⟨i,hi⟩:=bR.mp V;obtain⟨r,b,its,_,H,B,C⟩:=F.2 i _ hi;exact⟨b,its,r,H,B,C⟩
  refine aa (cw (a5p (s:={s with heap:=k}) (st:=SortSt.mk' (tuples' true) (vs.toArray.zip vs.toArray) #[] 7 none) (kf:=kfH k) (D:=DH k) (b8X (s:={s with heap:=k})) rfl I rfl rfl
   (Q:=λ_ st'=>(arrOf st').Perm (vs.toArray.zip vs.toArray)/\failedOf st'=none/\(arrOf st').toList.Pairwise (leK (kfH k))) λst' q1 l M=>⟨q1,l,M⟩) ?_ λ_ _ e=>e)
  rintro⟨⟨⟩,st'⟩ s' ⟨rfl,R,O,hs⟩;dsimp only at R O hs⊢;have t:(arrOf st').toList.Perm (vs.zip vs):=by
   have:=dI.mp R;simpa using this
  have q:((arrOf st').toList.map (·.2)).Perm vs:=by
   have:=t.map Prod.snd;rwa[List.map_snd_zip (aq _)]at this
  have f:∀x∈(arrOf st').toList,x.1=x.2/\x.1∈vs:=λx u=>mem_zip_self (t.mem_iff.mp u);have e:(arrOf st').map (·.2)=((arrOf st').toList.map (·.2)).toArray:=by
   apply Array.toList_inj.mp;simp
  refine aa (seqEpoch_at d rfl ?_);rw[e];refine aa (listUpdate_at d rfl ?_ (bq _) (by rw[aD,q.length_eq];omega));rw[O];simp only[bne_self_eq_false,Bool.false_eq_true,if_false];refine ae (fin _ q ?_);rw[ck];refine hs.imp_of_mem λ{x y} u X L=>?_;have h1:=f x u;have h2:=f y X;rw[<-h1.1,<-h2.1,<-c _ h1.2,<-c _ h2.2];exact L
theorem a1P{x:Value}{vs:List Value}{rss:LLI}{Q:Value->Shared->Prop}(g:∀(q:Around) (t:Value->Shared->Prop) (l:List Value->Shared->Prop),(∀h1:Heap,(∀b o,s.heap.get? b=some o->h1.get? b=some o)->l vs {s with heap:=h1})->wpAny (model prog w) q (collect x) l t s)
  (T:TupsAre s.heap vs rss) (hw:∀r∈rss,0<r.length) (F:vs.length<=sizeLine)
  (h:∀(h1 h':Heap) (os:List Value) (c:Nat),(∀b o,s.heap.get? b=some o->h1.get? b=some o)->(∀b o,h1.get? b=some o->h'.get? b=some o)->h'.get? h1.objs.size=some (seqObj "list" os.toArray c)->os.Perm vs->os.Pairwise (λx y=>HT.lexLt (E9 s.heap y) (E9 s.heap x)=false)->Q (.ref h1.objs.size) {s with heap:=h'}) :
  wpAny (model prog w) A (call (.builtin "sorted") [x]) Q E s:=by
 refine eW kind_sorted plain_sorted entry_sorted (args_sorted1 _) ?_;unfold Builtin.«sorted»;refine aa (m:=checkCount "sorted" 1 1 _) (ae ?_);refine aa (g _ _ _ λh1 k1=>?_);refine aa (wpAny_newList ?_ (by omega));have f:(h1.push (seqObj "list" vs.toArray 0)).get? h1.objs.size=some (seqObj "list" vs.toArray 0):=aJ _ rfl;have a:∀b its,IsTup s.heap b its->IsTup (h1.push (seqObj "list" vs.toArray 0)) b its:=λb its ⟨o,q1,G⟩=>⟨o,ag _ (k1 _ _ q1),G⟩;have T2:=T.keeps a;have d:∀v∈vs,E9 (h1.push (seqObj "list" vs.toArray 0)) v=E9 s.heap v:=λv B=>by
  obtain⟨i,hi⟩:=bR.mp B;obtain⟨r,b,its,_,u,n,p⟩:=T.2 i v hi;rw[u,C8 n p,C8 (a b its n) p]
 show wpAny _ _ _ _ _ {s with heap:=h1.push (seqObj "list" vs.toArray 0)};refine aa (cc (bH slot_list_sort ⟨_,f,rfl⟩ entry_list_sort (a0g (s:={s with heap:=h1.push (seqObj "list" vs.toArray 0)}) f T2 hw F λos j hs=>⟨_,rfl,?_⟩) (args_list_sort _)));obtain⟨c,z⟩:=a0e (out:=os.toArray) f;refine ae ⟨_,rfl,h h1 _ os c k1 (λb o e=>?_) z j (hs.imp_of_mem λ{x y} C D k=>?_)⟩
 .exact U6 b o (aM (aG e)) (ag _ e)
 .rw[<-d _ (j.mem_iff.mp C),<-d _ (j.mem_iff.mp D)];exact k
end
def b1E(K:PySem.W.Frag):RL:=λxs H Q=>∃(p:Addr) (ys:List V) (rss:LLI),xs=[.ref p]/\(SqL K H p ys∨SqT K H p ys)/\Its H ys rss/\(∀r∈rss,0<r.length) /\
 ∀l zs tss,H l=none->Its H zs tss->tss.Perm rss->D0 tss->zs.Perm ys->Q (.ref l) (upd H l (.lst zs))
theorem X8:∀{ys:List V}{us:List Value}{rss:LLI},Vals ys us->ys.length=rss.length->∃T:List (Value×V×List Int),T.map (·.1)=us/\T.map (·.2.1)=ys/\T.map (·.2.2)=rss/\∀(i:Nat) t,T[i]?=some t->RelV t.2.1 t.1/\ys[i]?=some t.2.1/\rss[i]?=some t.2.2
 |[],us,rss,r,e=>by
  cases r;cases rss with
  |nil=>exact⟨[],rfl,rfl,rfl,λi t h=>by simp at h⟩
  |cons _ _=>cases e
 |y::ys,us,rss,r,e=>by
  cases r with
  |cons h hs =>
   cases rss with
   |nil=>cases e
   |cons r rss =>
    obtain⟨T,b,c,d,f⟩:=X8 hs (by simpa using e);refine⟨(_,y,r)::T,by rw[aV,b],by rw[aV,c],by rw[aV,d],λi t a=>?_⟩;cases i with
    |zero=>cases a;exact⟨h,rfl,rfl⟩
    |succ i=>exact f i t a
theorem N9:∀{T:List (Value×V×List Int)},(∀t∈T,RelV t.2.1 t.1)->Vals (T.map (·.2.1)) (T.map (·.1))
 |[],_=>.nil
 |t::T,h=>.cons (h t au) (N9 λu a=>h u (ak _ a))
section
variable {X:Cx}
theorem a7J(K:PySem.W.Frag)(hK:X.K=K:=by rfl):E2 X (.builtin "sorted") (b1E K):=by
 subst hK;intro pins s σ H xs us Q I rv h;obtain⟨p,ys,rss,rfl,r,G,hw,q⟩:=h;obtain⟨u,rfl,ru⟩:=rv.one;cases ru;obtain⟨its,O,z,l⟩:∃its:List Value,Vals ys its/\ys.length<=sizeLine/\∀(D:Around) (E:Value->Shared->Prop) (B:List Value->Shared->Prop),(∀h1:Heap,(∀b o,s.heap.get? b=some o->h1.get? b=some o)->B its {s with heap:=h1})->wpAny (model X.prog X.w) D (collect (.ref p)) B E s:=by
  rcases r with r|r
  .obtain⟨its,g,pl,z⟩:=I.list r;obtain⟨o,L,J,n,hd⟩:=pl.isList;have m:=g.length;exact⟨its,g,z,λD E B k=>wpAny_collect_seq p (.inl rfl) L J hd (λh' N=>k h' N) (by simp only[aD];omega)⟩
  .obtain⟨its,g,pl,z⟩:=I.tuple r;obtain⟨o,L,J,n,hd⟩:=pl;have m:=g.length;exact⟨its,g,z,λD E B k=>wpAny_collect_seq p (.inr rfl) L J hd (λh' N=>k h' N) (by simp only[aD];omega)⟩
 have hl:=O.length;have TT:=a2S I G O;obtain⟨T,U,t2,t3,t4⟩:=X8 O G.1;refine a1P l TT hw (by omega) λh1 h' os c k1 k2 e hp hs=>?_;obtain⟨d,p1,p2⟩:=M1 (f:=λt:Value×V×List Int=>t.1) hp U.symm;have P:=I.kept (t':=s.toks) k1;have C:∀t∈d,RelV t.2.1 t.1/\IT H t.2.1 t.2.2/\E9 s.heap t.1=t.2.2:=λt M=>by
  obtain⟨i,hi⟩:=bR.mp (p1.mem_iff.mp M);obtain⟨r1,r2,S⟩:=t4 i t hi;obtain⟨row,q1,q2⟩:=G.2 i _ r2;rw[S]at q1;cases q1;have Y:its[i]?=some t.1:=by rw[<-U,aW,hi];rfl
  obtain⟨g,b,R,f1,f2,Z,f4⟩:=TT.2 i _ Y;rw[S]at f1;cases f1;exact⟨r1,q2,by rw[f2];exact C8 Z f4⟩
 have A:(d.map (·.2.1)).Perm ys:=by rw[<-t2];exact p1.map _
 have hv:Vals (d.map (·.2.1)) os:=by rw[<-p2];exact N9 λt M=>(C t M).1
 have W:=P.laid (h':=h') (a:=h1.objs.size) (o:=.lst (d.map (·.2.1))) (t':=s.toks) k2 (aq _) ⟨by rw[A.length_eq];exact z,os,c,hv,e⟩;refine⟨.ref h1.objs.size,_,W,rfl,q _ _ (d.map (·.2.2)) (P.hok.fresh (aq _)) ⟨by rw[aj,aj],λi v j=>?_⟩ (by rw[<-t3];exact p1.map _) ?_ A⟩
 .rw[aW]at j⊢;cases F:d[i]? with
  |none=>rw[F]at j;cases j
  |some t =>
   rw[F]at j;cases j;exact⟨t.2.2,rfl,(C t (aH F)).2.1⟩
 .unfold D0;rw[ck];rw[<-p2,ck]at hs;refine hs.imp_of_mem λ{x y} hx hy w=>?_;rw[(C x hx).2.2,(C y hy).2.2]at w;exact w
theorem a6t(K:PySem.W.Frag){e:Expr}{t:TA}{p pos:Pos}(f:Gl X "sorted")(g:X.mg "sorted"=none)(c:JA X [e] t)(b:X.K=K:=by rfl)(d:starEach [e] X.env=(false,eval e X.env)::starEach [] X.env:=by rfl)(a:(backTo pos (starEach [] X.env)).any (·.1)=false:=by rfl):JE X (.Call (.Name "sorted" p) [e] [] pos) (tCB (b1E K) t):=⟨G3 (a7J K b) f g a1p c.h (by decide) (by decide) d a⟩
end
def DRaw(h:Heap)(d:Addr)(es:Array DictEntry)(ep:Nat):Prop:=∃ob:Obj,h.get? d=some ob/\ob.ExactDict/\ob.data=.dict es ep
theorem DRaw.typ{s:Shared}{d:Addr}{es:Array DictEntry}{ep:Nat}(x:DRaw s.heap d es ep):s.TypeIs (.ref d) "dict":=by
 obtain⟨c,a,b,_⟩:=x;exact⟨c,a,b.1⟩
theorem DRaw.lt{h:Heap}{d:Addr}{es:Array DictEntry}{ep:Nat}(x:DRaw h d es ep):d<h.objs.size:=by
 obtain⟨b,a,_⟩:=x;exact aG a
theorem DRaw.to{h h':Heap}{d:Addr}{es:Array DictEntry}{ep:Nat}(x:DRaw h d es ep)(k:∀a,h.get? d=some a->h'.get? d=some a):DRaw h' d es ep:=by
 obtain⟨a,b,q⟩:=x;exact⟨a,k _ b,q⟩
section
variable {prog:Program}{w:World}{A:Around}{E:Value->Shared->Prop}{s:Shared}{it d:Addr}{i ep:Nat}{es:Array DictEntry}
theorem b1y{Q:Value->Shared->Prop}(hs:(d==sysModules)=false)(D:DRaw s.heap d es ep)
  (q:Q (.ref s.heap.objs.size) {s with heap:=s.heap.push {cls:=.type "dict_keyiterator",data:=.fields #[.ref d,.int 0 0,.int es.size 0,.int ep 0]}}):wpAny (model prog w) A (pyIter (.ref d)) Q E s:=by
 have ty:=D.typ;obtain⟨c,a,_,b⟩:=D;refine wpAny_pyIter_slot ty PySem.F.slot_dict_iter (bH PySem.F.slot_dict_iter ty PySem.F.entry_dict_iter ?body (PySem.F.args_dict_iter_1 _))
 case body =>
  unfold Builtin.«dict.__iter__» Builtin.Dict.dictSlotNone;refine aa (aa (wpAny_notOrdered_dict ty (ae ?_)));show wpAny _ _ (Builtin.Dict.showsAll d>>=λ_=>_) _ _ _;unfold Builtin.Dict.showsAll;rw[ar (λz=>by rw[hs]at z;cases z)];refine aa (ae (aa (eC a b (aa (wpAny_dictEpoch a b ?_)))));refine aa (bt (ae ⟨_,rfl,"dict_keyiterator",_,⟨_,aJ _ rfl,rfl⟩,PySem.F.slot_dict_keyiterator_next.lookup,?_⟩));exact q
theorem b1z{Q:Option Value->Shared->Prop}(I:s.heap.IsKeyIter it d i es.size ep)(D:DRaw s.heap d es ep)(hi:i<es.size)
  (q:∀h',h'.IsKeyIter it d (i+1) es.size ep->Heap.SameBut it s.heap h'->Q (some es[i].key) {s with heap:=h'}):wpAny (model prog w) A (pyNext (.ref it)) Q E s:=by
 obtain⟨h,f1,f2,a⟩:=id I;obtain⟨od,e,g,f⟩:=D;unfold pyNext;refine aa (dV (bE (name:=Str.ofString "__next__") I.typeIs PySem.F.slot_dict_keyiterator_next (bH PySem.F.slot_dict_keyiterator_next I.typeIs PySem.F.entry_dict_keyiterator_next ?body (PySem.F.args_dict_keyiterator_next_1 _))))
 case body =>
  refine aa (ae (aa (aa ?_)))
  first|refine aa (dn I.typeIs (ae ?_))|refine aa (dR I.typeIs (ae ?_))
  refine aa (wpAny_fieldsOf f1 a ?_);rw[show Builtin.Dict_items.ownsTuple "dict_keyiterator"=false by decide,ar aS];show wpAny _ _ (if (Value.ref d==Value.none)=true then _ else _) _ _ _;have b:¬((Value.ref d==Value.none)=true):=aS;rw[ar b];refine aa (ae (aa (eC e f ?_)));rw[ar (by simp)];refine aa (ae (aa (wpAny_dictEpoch e f ?_)));rw[ar (by simp)];refine ae ?_;dsimp only;rw[show(if (i:Int)<0 then(none:Option DictEntry)else es[(i:Int).toNat]?)=some es[i] by rw[ar (by omega),br,bw hi]];dsimp only;refine aa ?_
  first|refine aa (dn I.typeIs (ae ?_))|refine aa (dR I.typeIs (ae ?_))
  refine aa (wpAny_isOneOf_keyiter I.typeIs ?_);show wpAny _ _ (setField (.ref it) 1 (rawInt ((i:Int)+1))>>=λ_=>_) _ _ _;have c:(s.heap.update it (Obj.mapFields λz=>z.setIfInBounds 1 (rawInt ((i:Int)+1)))).IsKeyIter it d (i+1) es.size ep :=
   ⟨_,cD _ f1 (eE (cL a _)),(fo ..).trans f2,by rw[cL a];simp[rawInt]⟩
  refine aa (dN f1 a (by simp) (aa (cc ?_)));refine aa (wpAny_isOneOf_keyiter (s:={s with heap:=s.heap.update it (Obj.mapFields λz=>z.setIfInBounds 1 (rawInt ((i:Int)+1)))}) c.typeIs ?_);exact ae (ae ⟨_,rfl,ae (q _ c (bS ..))⟩)
theorem b4c{Q:Option Value->Shared->Prop}(h:A.handled=none)(I:s.heap.IsKeyIter it d i es.size ep)(D:DRaw s.heap d es ep)(hi:es.size<=i)
  (q:∀h',Heap.ExtBut it s.heap h'->Q none {s with heap:=h'}):wpAny (model prog w) A (pyNext (.ref it)) Q E s:=by
 obtain⟨k,f1,f2,g⟩:=id I;obtain⟨od,e,j,f⟩:=D;unfold pyNext;refine aa (dV (bE (name:=Str.ofString "__next__") I.typeIs PySem.F.slot_dict_keyiterator_next (bH PySem.F.slot_dict_keyiterator_next I.typeIs PySem.F.entry_dict_keyiterator_next ?body (PySem.F.args_dict_keyiterator_next_1 _))))
 case body =>
  refine aa (ae (aa (aa ?_)))
  first|refine aa (dn I.typeIs (ae ?_))|refine aa (dR I.typeIs (ae ?_))
  refine aa (wpAny_fieldsOf f1 g ?_);rw[show Builtin.Dict_items.ownsTuple "dict_keyiterator"=false by decide,ar aS];show wpAny _ _ (if (Value.ref d==Value.none)=true then _ else _) _ _ _;have c:¬((Value.ref d==Value.none)=true):=aS;rw[ar c];refine aa (ae (aa (eC e f ?_)));rw[ar (by simp)];refine aa (ae (aa (wpAny_dictEpoch e f ?_)));rw[ar (by simp)];refine ae ?_;dsimp only;rw[show(if (i:Int)<0 then(none:Option DictEntry)else es[(i:Int).toNat]?)=none by rw[ar (by omega),br,cW hi]];dsimp only;refine aa ?_
  first|refine aa (dn I.typeIs (ae ?_))|refine aa (dR I.typeIs (ae ?_))
  show wpAny _ _ (setField (.ref it) 0 .none>>=λ_=>_) _ _ _;refine aa (dN f1 g (by simp) ?_);show wpAny _ _ (newExc (.type "StopIteration") []>>=λ_=>_) _ _ _;refine aa ?_;simp only[newExc,newTuple];refine aa (bt ?_ (by size_fits));refine aa (m:=firstArgMember _ _) (wpAny_of_eq (a:=Value.none) (by first|rfl | (simp only[firstArgMember];rfl)) ?_);refine bt ?_ (by size_fits);simp only[raiseNew];refine aa (wpAny_handled ?_);rw[show A.in1.handled=none from h];refine aa (ae (wpAny_throw ?_));refine aa (fF (T:="StopIteration") (b:=true) ⟨_,aJ _ rfl,rfl⟩ isSubtype_stop ?_);exact ae (q _ (((bS ..).extBut.push _).push _))
theorem a9H(m:A.handled=none)(J d:Addr)(f:d≠J)(es:Array DictEntry)(ep:Nat) :
  Walks prog w A J [J,d] [J] es.size (λi v=>∃e,es[i]?=some e/\v=e.key) (λi h=>h.IsKeyIter J d i es.size ep/\DRaw h d es ep) where
 sub:=λb c=>by rw[aB.mp c];exact au
 frame:=λi h h' st g=>⟨st.1.at λo e=>g J au o e,st.2.to λo e=>g d (ak _ au) o e⟩
 item:=λi s Q E hi st a=>b1z st.1 st.2 hi λh' k j=>a _ h' s.toks ⟨es[i],by simp[hi],rfl⟩ ⟨k,st.2.to λo e=>j.extBut d o f e⟩ λb o c e=>j.extBut b o (λz=>c (by rw[z];exact au)) e
 done:=λs Q E st a=>b4c m st.1 st.2 (aq _) λh' l=>a h' s.toks λb o c e=>l b o (λz=>c (by rw[z];exact au)) e
 self:=λ_ _ _ _ st a=>wpAny_pyIter_keyiter st.1 a
theorem a8t(hs:(d==sysModules)=false)(es:Array DictEntry)(ep:Nat):KdlSrc prog w "dict" d d es.size (λi v=>∃e,es[i]?=some e/\v=e.key) (λh=>DRaw h d es ep) where
 type:=λ_ D=>D.typ
 there:=λ_ D=>⟨D.lt,D.lt⟩
 keep:=λ_ _ D b=>D.to λo e=>b d (.inl rfl) o e
 notList:=by decide
 notTuple:=by decide
 hint:=λ_ _ _ _ D q=>kdl_hint_dict D.typ q
 iter:=λ_ _ a D=>⟨_,_,λ_ _ q=>b1y hs D q,a9H a _ d (aM D.lt) es ep,⟨⟨_,aJ _ rfl,rfl,rfl⟩,D.to λo e=>ag _ e⟩⟩
end
section
variable {prog:Program}{w:World}{A:Around}{E:Value->Shared->Prop}{s:Shared}
theorem U9{x:Value}{vs:List Value}{rss:LLI}{Q:Value->Shared->Prop}(g:∀(q:Value->Shared->Prop) (l:List Value->Shared->Prop),(∀(h1:Heap) (tk:Nat),(∀b o,s.heap.get? b=some o->h1.get? b=some o)->l vs {s with heap:=h1,toks:=tk})->wpAny (model prog w) A.in1 (collect x) l q s)
  (T:TupsAre s.heap vs rss) (hw:∀r∈rss,0<r.length) (D:vs.length<=sizeLine)
  (h:∀(h1 h':Heap) (os:List Value) (c tk:Nat),(∀b o,s.heap.get? b=some o->h1.get? b=some o)->(∀b o,h1.get? b=some o->h'.get? b=some o)->h'.get? h1.objs.size=some (seqObj "list" os.toArray c)->os.Perm vs->os.Pairwise (λx y=>HT.lexLt (E9 s.heap y) (E9 s.heap x)=false)->Q (.ref h1.objs.size) {s with heap:=h',toks:=tk}) :
  wpAny (model prog w) A (call (.builtin "sorted") [x]) Q E s:=by
 refine eW kind_sorted plain_sorted entry_sorted (args_sorted1 _) ?_;unfold Builtin.«sorted»;refine aa (m:=checkCount "sorted" 1 1 _) (ae ?_);refine aa (g _ _ λh1 tk k1=>?_);refine aa (wpAny_newList ?_ (by omega));have f:(h1.push (seqObj "list" vs.toArray 0)).get? h1.objs.size=some (seqObj "list" vs.toArray 0):=aJ _ rfl;have a:∀b its,IsTup s.heap b its->IsTup (h1.push (seqObj "list" vs.toArray 0)) b its:=λb its ⟨o,q1,F⟩=>⟨o,ag _ (k1 _ _ q1),F⟩;have T2:=T.keeps a;have d:∀v∈vs,E9 (h1.push (seqObj "list" vs.toArray 0)) v=E9 s.heap v:=λv z=>by
  obtain⟨i,hi⟩:=bR.mp z;obtain⟨r,b,its,_,t,n,p⟩:=T.2 i v hi;rw[t,C8 n p,C8 (a b its n) p]
 show wpAny _ _ _ _ _ {s with heap:=h1.push (seqObj "list" vs.toArray 0),toks:=tk};refine aa (cc (bH slot_list_sort ⟨_,f,rfl⟩ entry_list_sort (a0g (s:={s with heap:=h1.push (seqObj "list" vs.toArray 0),toks:=tk}) f T2 hw D λos j hs=>⟨_,rfl,?_⟩) (args_list_sort _)));obtain⟨c,u⟩:=a0e (out:=os.toArray) f;refine ae ⟨_,rfl,h h1 _ os c tk k1 (λb o e=>?_) u j (hs.imp_of_mem λ{x y} B C k=>?_)⟩
 .exact U6 b o (aM (aG e)) (ag _ e)
 .rw[<-d _ (j.mem_iff.mp B),<-d _ (j.mem_iff.mp C)];exact k
end
noncomputable def IK(rss:LLI):List (List Key):=rss.map λr=>r.map Sum.inl
def a7k:RL:=λxs H Q=>∃(d:Addr) (kvs:List (List Key×V)) (rss:LLI),xs=[.ref d]/\H d=some (.dT kvs)/\kvs.map (·.1)=IK rss/\(∀r∈rss,0<r.length) /\
 ∀l zs tss,H l=none->Its H zs tss->tss.Perm rss->D0 tss->Q (.ref l) (upd H l (.lst zs))
theorem a8H{H:Hp}:∀{kvs:List (List Key×V)}{xs:List (List Key×Addr×Value)}{rss:LLI},KT H kvs xs->kvs.map (·.1)=IK rss->Its H (xs.map λx=>V.ref x.2.1) rss/\xs.length=rss.length:=by
 intro kvs xs rss r e;induction r generalizing rss with
 |nil =>
  cases rss with
  |nil=>exact⟨⟨rfl,λi v z=>by simp at z⟩,rfl⟩
  |cons _ _=>cases e
 |@cons p q ps qs h _ d =>
  cases rss with
  |nil=>cases e
  |cons r rss =>
   injection e with a e2
   obtain⟨h1,h2⟩:=d e2;refine⟨⟨by rw[aj,aU,aU,h2],λi v c=>?_⟩,by rw[aU,aU,h2]⟩;cases i with
   |zero =>
    cases c;refine⟨r,rfl,q.2.1,rfl,?_⟩;have b:=h.2.1;have a:p.1=r.map Sum.inl:=a;rw[a,dz]at b;exact b
   |succ i=>exact h1.2 i v c
theorem X9{α:Type}(f:α->Addr):∀xs:List α,Vals (xs.map λx=>V.ref (f x)) (xs.map λx=>Value.ref (f x))
 |[]=>.nil
 |x::xs=>.cons rfl (X9 f xs)
section
variable {X:Cx}
theorem a7I(hc:X.calm=true):E2 X (.builtin "sorted") a7k:=by
 intro pins s σ H xs us Q I rv h;obtain⟨d,kvs,rss,rfl,hd,hk,hw,q⟩:=h;obtain⟨u,rfl,ru⟩:=rv.one;cases ru;obtain⟨hz,z,j,U,ob,es,ep,e1,n,e3,N,O⟩:=I.hok _ _ hd;obtain⟨E,R⟩:=a8H U hk;have a0:kvs.length=j.length:=Paired.length U;have r:es.size=j.length:=by rw[<-ax,N,aj]
 have D:DRaw s.heap d es ep:=⟨ob,e1,n,e3⟩;have K:Vals (j.map λx=>V.ref x.2.1) (j.map λx=>Value.ref x.2.1):=X9 (λx:List Key×Addr×Value=>x.2.1) j;have w:∀(L:Value->Shared->Prop) (C:List Value->Shared->Prop),(∀(h1:Heap) (tk:Nat),(∀b o,s.heap.get? b=some o->h1.get? b=some o)->C (j.map λx=>Value.ref x.2.1) {s with heap:=h1,toks:=tk})->wpAny (model X.prog X.w) X.A.in1 (collect (.ref d)) C L s:=λL C k=>by
  refine kdu_collect (a8t z es ep) (show X.A.in1.handled=none from I.ok.hd hc) D (by omega) λh' tk acc kp l=>?_;have:acc.toList=j.map λx=>Value.ref x.2.1:=by
   refine eB λi=>?_;rw[av,aW];by_cases hi:i<j.length
   .have hia:i<acc.size:=by rw[l.1,r];exact hi
    obtain⟨e,he,G⟩:=l.2 i acc[i] (by simp[hia]);have g:es.toList[i]?=some e:=by rw[av];exact he
    rw[N,aW,ai hi]at g;injection g with g
    rw[bw hia,ai hi,G,<-g];rfl
   .rw[cW (by rw[l.1,r];omega),bG (by omega)];rfl
  rw[this];exact k h' tk kp
 have hl:=K.length;have TT:=a2S I E K;obtain⟨T,Y,t2,t3,t4⟩:=X8 K E.1;refine U9 w TT hw (by rw[aj];omega) λh1 h' os c tk k1 k2 e hp hs=>?_;obtain⟨m,p1,p2⟩:=M1 (f:=λt:Value×V×List Int=>t.1) hp Y.symm;have M:=I.kept (t':=tk) k1;have B:∀t∈m,RelV t.2.1 t.1/\IT H t.2.1 t.2.2/\E9 s.heap t.1=t.2.2:=λt F=>by
  obtain⟨i,hi⟩:=bR.mp (p1.mem_iff.mp F);obtain⟨r1,r2,W⟩:=t4 i t hi;obtain⟨row,q1,q2⟩:=E.2 i _ r2;rw[W]at q1;cases q1;have O:(j.map λx=>Value.ref x.2.1)[i]?=some t.1:=by rw[<-Y,aW,hi];rfl
  obtain⟨r',b,S,f1,f2,f3,f4⟩:=TT.2 i _ O;rw[W]at f1;cases f1;exact⟨r1,q2,by rw[f2];exact C8 f3 f4⟩
 have J:(m.map (·.2.1)).length<=sizeLine:=by
  have P:=(p1.map (λt:Value×V×List Int=>t.2.1)).length_eq;rw[t2]at P;simp only[aj]at P⊢;omega
 have G:Vals (m.map (·.2.1)) os:=by rw[<-p2];exact N9 λt F=>(B t F).1
 have Z:=M.laid (h':=h') (a:=h1.objs.size) (o:=.lst (m.map (·.2.1))) (t':=tk) k2 (aq _) ⟨J,os,c,G,e⟩;refine⟨.ref h1.objs.size,_,Z,rfl,q _ _ (m.map (·.2.2)) (M.hok.fresh (aq _)) ⟨by rw[aj,aj],λi v p=>?_⟩ (by rw[<-t3];exact p1.map _) ?_⟩
 .rw[aW]at p⊢;cases n:m[i]? with
  |none=>rw[n]at p;cases p
  |some t =>
   rw[n]at p;cases p;exact⟨t.2.2,rfl,(B t (aH n)).2.1⟩
 .unfold D0;rw[ck];rw[<-p2,ck]at hs;refine hs.imp_of_mem λ{x y} hx hy A=>?_;rw[(B x hx).2.2,(B y hy).2.2]at A;exact A
end
end L2
namespace L2
open PySem PySem.Spec PyProof.Rows
def b6b(i j:Int):Prop:=0<j/\j<2 ^ 64
variable {X:Cx}
theorem b2e:OpR X (binaryOp .FloorDiv) (rI b6b λi j=>.int (i / j)):=opI λi j _ _ _ _ _ a q=>by
 have h1:(0:Int)<j:=a.1;have h2:j<2 ^ 64:=a.2;refine floordiv_int (by omega) (by rw[Int.fdiv_eq_ediv_of_nonneg i (by omega)];exact q) (.inl (PyProof.noPylong_of_log2 ?_));have:j.natAbs.log2<64:=(Nat.log2_lt (by omega)).mpr (by omega);omega
theorem b4Z{a b:Expr}{ta tb:TE}{pos:Pos}(c:JE X a ta)(d:JE X b tb):JE X (.BinOp a .FloorDiv b pos) (tOp (rI b6b λi j=>.int (i / j)) ta tb):=⟨V8 b2e c.h d.h⟩
end L2
namespace L2
open PySem PySem.Spec PyProof.Rows PySem.W
section
variable {prog:Program}{w:World}{A:Around}{E:Value->Shared->Prop}{s:Shared}{d:Addr}{ep:Nat}{es:Array DictEntry}
theorem b4b{Q:Value->Shared->Prop}(hs:(d==sysModules)=false)(D:DRaw s.heap d es ep)(hz:(es.size:Int)<2 ^ 63)
  (q:Q (.int es.size (s.toks+1)) {s with toks:=s.toks+1+1}):wpAny (model prog w) A (call (.builtin "len") [.ref d]) Q E s:=by
 refine eW kind_len plain_len entry_len (args_len1 _) ?_;have ty:=D.typ;obtain⟨c,a,_,b⟩:=D;unfold Builtin.«len»;refine aa (m:=oneArg "len" _) (ae ?_);refine aa (m:=callSpecial? (.ref d) (Str.ofString "__len__")) (bE (name:=Str.ofString "__len__") ty PySem.F.slot_dict_len (bH PySem.F.slot_dict_len ty PySem.F.entry_dict_len ?body (PySem.F.args_dict_len_1 _)))
 case body =>
  show wpAny _ _ (dictSize d>>=λn=>_) _ _ _;unfold dictSize;refine aa (aa (eC a b (ae ?_)));show wpAny _ _ (Builtin.Dict.pendingCount d>>=λn=>_) _ _ _;refine aa (wpAny_pendingCount_other hs (wpAny_ret_mkInt ?_));show wpAny _ _ _ _ _ {s with toks:=s.toks+1};rw[show((es.size:Nat):Int)+((0:Nat):Int)=(es.size:Int) by simp];refine aa (cc (ae (aa (wpAny_letGo ?_))));show wpAny _ _ (if ((es.size:Nat):Int)<0 then _ else _) _ _ _;rw[ar (by omega)];show wpAny _ _ (if ((es.size:Nat):Int) ≥ 2 ^ 63 then _ else _) _ _ _;rw[ar (by omega)];exact aa (wpAny_mkInt (ae ⟨_,rfl,q⟩))
end
def b5M:RL:=λxs H Q=>∃(a:Addr) (kvs:List (List Key×V)),xs=[V.ref a]/\H a=some (.dT kvs)/\Q (.int kvs.length) H
section
variable {X:Cx}
theorem b0w:E2 X (.builtin "len") b5M:=by
 intro pins s σ H xs v Q I r h;obtain⟨a,kvs,rfl,l,q⟩:=h;obtain⟨u,rfl,p⟩:=r.one;cases p;obtain⟨m,b,f,n,o,es,ep,g,i,j,k,t⟩:=I.hok _ _ l;have d:kvs.length=f.length:=Paired.length n;have c:es.size=f.length:=by rw[<-ax,k,aj]
 have e:=m;rw[ba]at e;refine b4b b ⟨o,g,i,j⟩ (by omega) ?_;rw[c,<-d];exact⟨.int kvs.length,H,I.tok _,⟨_,rfl⟩,q⟩
variable {a b c e o i value:Expr}{es rest:List Expr}{ta tb tc te to td ty tv:TE}{t:TA}{pos p apos cpos p2 pos' tpos:Pos}
theorem b4Y(d:Gl X "len")(f:X.mg "len"=none)(b:JA X [e] t)(c:starEach [e] X.env=(false,eval e X.env)::starEach [] X.env:=by rfl)(a:(backTo pos (starEach [] X.env)).any (·.1)=false:=by rfl):JE X (.Call (.Name "len" p) [e] [] pos) (tCB b5M t):=⟨G3 b0w d f b3s b.h (by decide) (by decide) c a⟩
theorem b2L(f:Gl X "sorted")(g:X.mg "sorted"=none)(b:JA X [e] t)(c:X.calm=true:=by rfl)(d:starEach [e] X.env=(false,eval e X.env)::starEach [] X.env:=by rfl)(a:(backTo pos (starEach [] X.env)).any (·.1)=false:=by rfl):JE X (.Call (.Name "sorted" p) [e] [] pos) (tCB a7k t):=⟨G3 (a7I c) f g a1p b.h (by decide) (by decide) d a⟩
theorem a8Q:JE X (.Dict [] [] pos) b1b:=⟨b1Z⟩
theorem b8T(c:X.A.units+60<cLine)(hi:JE X i ty)(b:JE X o td)(a:behindInMarks .In o=false):JE X (.Compare i [.In] [o] pos) (b8d ty td):=⟨b6N (b6P (by omega) hi.h b.h) a⟩
theorem b0g(c:X.A.units+60<cLine)(hi:JE X i ty)(b:JE X o td)(a:behindInMarks .NotIn o=false):JT X (.Compare i [.NotIn] [o] pos) (tB (a8d ty td)):=⟨b6u (a9R (by omega) hi.h b.h) a⟩
theorem b4V(c:X.A.units+60<cLine)(a:JE X o td)(hi:JE X i ty)(b:JE X value tv)(hs:swapsWith value (some (.Subscript o i pos')) pos.line X.env=pure false:=by rfl):JS X (.Assign [.Subscript o i pos'] value pos) (b5F td ty tv):=⟨b4j (by omega) a.h hi.h b.h hs⟩
theorem L3(K:PySem.W.Frag){f:Str}(c:JE X e ta)(a:X.K=K:=by rfl)(b:attributeBase e f X.env (eval e X.env)=eval e X.env:=by rfl):JE X (.Attribute e f pos) (b8c K ta f):=by
 subst a;exact⟨b6M c.h b⟩
theorem T4(K:PySem.W.Frag){f:Str}(b:JE X o ta)(c:JE X value tv)(a:X.K=K:=by rfl)(hs:swapsWith value (some (.Attribute o f pos')) pos.line X.env=pure false:=by rfl):JS X (.Assign [.Attribute o f pos'] value pos) (b8h K ta tv f):=by
 subst a;exact⟨b6y b.h c.h hs⟩
end
structure MethOk(P:Program)(w:World)(K:PySem.W.Frag)(mg:Str->Option Value)(base:Heap)(C:Addr)(m:Str)(k:Nat)(ps:List Str)(sp:Sp):Prop where
 ex:∃f fd,Meth K C m f/\Binds K fd ps []/\FnOk P w K mg base CX0 k f fd ps sp
structure MethAt(K:PySem.W.Frag)(C:Addr)(m qual:Str)(st:Stmt)(ps:List Str):Prop where
 ex:∃f fd,Meth K C m f/\Fun K m qual st f fd/\Binds K fd ps []
structure MakeOk(P:Program)(w:World)(K:PySem.W.Frag)(mg:Str->Option Value)(base:Heap)(x:Str)(C:Addr)(k:Nat)(ps:List Str)(sp:Sp):Prop where
 ex:∃f fd,mg x=some (.ref C)/\Mk K C f/\Binds K fd ps []/\FnOk P w K mg base CX0 k f fd ps sp
section
variable {P:Program}{w:World}{K:PySem.W.Frag}{mg:Str->Option Value}{base:Heap}{C:Addr}{m qual:Str}{st:Stmt}{N ps:List Str}{k:Nat}{sp:Sp}
theorem MethAt.fnJ(F:MethAt K C m qual st ps)(S:FnScope N ps (A2 st))(c:∀vs H Q E,sp vs H Q E->vs.length=ps.length)
  (b:∀(a:Value) (f:Addr) (A:Around) (outer:List Env) (s:Shared) (H:Hp) (vs:List V) (Q:VK) (E:XK),Room k (A.deeper (envOfC qual (A2 st) s.heap.objs.size f a))->sp vs H Q E ->
   ∃t,JB (K1 CX0 P w K mg base N qual (A2 st) f a A outer s H E).nox (E1 st) t/\t {nx:=λ_ H'=>Q .non H',rt:=Q} (start N vs) H):MethOk P w K mg base C m (k+1) ps sp:=by
 obtain⟨f,fd,h1,h2,d⟩:=F.ex;exact⟨f,fd,h1,d,h2.okJ S c λa=>b a f⟩
theorem MethOk.make{x:Str}(O:MethOk P w K mg base C "__init__" k ps sp)(d:mg x=some (.ref C))(c:PySem.W.makesIn K C=true)(b:PySem.W.keepIn K (.ref C)=true):MakeOk P w K mg base x C k ps sp:=by
 obtain⟨f,fd,h1,h2,a⟩:=O.ex;exact⟨f,fd,d,⟨c,h1.at_,h1.fn,b⟩,h2,a⟩
end
section
variable {X:Cx}{C:Addr}{m x:Str}{k:Nat}{ps:List Str}{sp:Sp}{o e:Expr}{es:List Expr}{ta:TE}{t:TA}{pos apos p:Pos}
theorem b7p{pl:Sem Bool}(O:MethOk X.prog X.w X.K X.mg X.base C m k ps sp)(c:Cls X.K C)(j:Room k X.A)(i:JE X o ta)(h:JA X (e::es) t)
  (b:starEach (e::es) X.env=(false,eval e X.env)::starEach es X.env:=by rfl) (a:(backTo pos (starEach es X.env)).any (·.1)=false:=by rfl)
  (l:eval (.Call (.Attribute o m apos) (e::es) [] pos) X.env=(eval o X.env>>=λd=>standAt apos.atName>>=λ_=>holding [d] (getMethod d m pl)>>=λp=>match p with | (f,first)=>callWith pos f first (backTo pos (starEach (e::es) X.env)) (backToKw pos (keywordEach [] X.env))):=by rfl) :
  JE X (.Call (.Attribute o m apos) (e::es) [] pos) (a1v C m sp [] E0 ta t):=by
 obtain⟨f,fd,h1,h2,g⟩:=O.ex;exact⟨b4u (pl:=pl) i.h c h1 g j h2 .nil a8C h.h b a l⟩
theorem a4W{pl:Sem Bool}(O:MethOk X.prog X.w X.K X.mg X.base C m k ps sp)(c:Cls X.K C)(e:Room k X.A)(d:JE X o ta)
  (g:eval (.Call (.Attribute o m apos) [] [] pos) X.env=(eval o X.env>>=λa=>standAt apos.atName>>=λ_=>holding [a] (getMethod a m pl)>>=λp=>match p with | (f,first)=>callWith pos f first (backTo pos (starEach [] X.env)) (backToKw pos (keywordEach [] X.env))):=by rfl) :
  JE X (.Call (.Attribute o m apos) [] [] pos) (a1v C m sp [] E0 ta a1C):=by
 obtain⟨f,fd,h1,h2,b⟩:=O.ex;exact⟨b1W (pl:=pl) d.h c h1 b e h2 .nil a8C g⟩
theorem b7q(O:MakeOk X.prog X.w X.K X.mg X.base x C k ps sp)(j:Room (k+1) X.A)(i:Gl X x)(g:JA X (e::es) t)(a:(x==("__debug__" : Str))=false:=by decide)
  (h:starEach (e::es) X.env=(false,eval e X.env)::starEach es X.env:=by rfl) (b:(backTo pos (starEach es X.env)).any (·.1)=false:=by rfl) :
  JE X (.Call (.Name x p) (e::es) [] pos) (b5w C sp [] E0 t):=by
 obtain⟨f,fd,c,h1,h2,d⟩:=O.ex;exact⟨b4v h1 d j i c h2 .nil a8C g.h a h b⟩
end
end L2
namespace L2
open PySem PySem.Spec PyProof.Rows
theorem a2G{K:PySem.W.Frag}{src:List (Option Nat)}{σ caps:St}{Q:VK}{a:Addr}{vs:List V}{rss:LLI}{H:Hp}{l:TT}(t:List Int->Bool)(o:vs.length<=sizeLine)(b:∀H',Same H H'->SqL K H' a vs)(k:Its H vs rss)(d:B5 src σ=none::caps)
  (g:∀v r H1 j,r∈rss->IT H1 v r->Same H H1->(∀H2,Same H1 H2->j (t r) H2)->l (some v::caps) H1 j) (hd:∀H1 p m,Same H H1->H1 p=none->Its H1 m (rss.filter t)->Q (.ref p) (upd H1 p (.lst m))):J9 src (B0 0) l (a0a 0) σ Q (Itl K a) H:=by
 refine a1n (xs:=vs) (by omega) (λi ys H'=>Same H H'/\Its H' ys ((rss.take i).filter t)) ⟨Same.refl H,by simpa using Its.nil⟩ (λi ys H' _ h=>⟨b H' h.1,by rw[h.2.1];exact bf (bA _ _) (cC _ _)⟩) ?_ ?_
 .rintro i x ys H' hx ⟨s,hy⟩;obtain⟨r,n,f,c⟩:=k.mem hx;show Sub _ ((B5 src σ).set 0 (some x))/\_;rw[d];refine⟨Sub.one,g x r H' _ n (c.same s) s λH2 s2=>?_⟩;rw[bB,f];cases e:t r with
  |true=>exact⟨_,rfl,s.trans s2,by simpa[e]using(hy.same s2).snoc ((c.same s).same s2)⟩
  |false=>exact⟨s.trans s2,by simpa[e]using hy.same s2⟩
 .rintro ys H' ⟨s,hy⟩ p hp;rw[k.1,bJ]at hy;exact hd H' p ys s hp hy
def Prs(H:Hp)(ps:List V)(f:Nat->List Int)(js:List Nat):Prop:=ps.length=js.length/\∀(i:Nat) (q:V),ps[i]?=some q->∃(j:Nat) (b:Addr) (v:V),js[i]?=some j/\q=.ref b/\H b=some (.tup [.int j,v])/\IT H v (f j)
theorem Prs.same{H H':Hp}{ps:List V}{f:Nat->List Int}{a:List Nat}(h:Prs H ps f a)(s:Same H H'):Prs H' ps f a :=
 ⟨h.1,λi q e=>let ⟨j,b,v,e1,e2,e3,e4⟩:=h.2 i q e;⟨j,b,v,e1,e2,s _ _ e3,e4.same s⟩⟩
theorem Prs.nil{H:Hp}{f:Nat->List Int}:Prs H [] f []:=⟨rfl,λi q e=>by simp at e⟩
theorem Prs.snoc{H:Hp}{ps:List V}{f:Nat->List Int}{a:List Nat}{j:Nat}{b:Addr}{v:V}(h:Prs H ps f a)(g:H b=some (.tup [.int j,v]))(k:IT H v (f j)):Prs H (ps++[.ref b]) f (a++[j]):=by
 refine⟨by rw[az,az,h.1];rfl,λi q e=>?_⟩;rcases Nat.lt_or_ge i ps.length with hi|hi
 .rw[bo hi]at e;obtain⟨l,b',m,c,d⟩:=h.2 i q e;exact⟨l,b',m,by rw[bo (by rw[<-h.1];exact hi)];exact c,d⟩
 .rw[bb hi]at e;have hi0:i-ps.length=0:=by
   rcases Nat.eq_zero_or_pos (i-ps.length)with z|z
   .exact z
   .rw[bG (by simp;omega)]at e;cases e
  rw[hi0]at e;cases e;exact⟨j,b,v,by rw[bb (by rw[<-h.1];exact hi),<-h.1,hi0];rfl,rfl,g,k⟩
def a7Z(K:PySem.W.Frag)(i:Nat)(sp:Sp)(t:TA)(z:Int):TX:=λD R σ H=>t σ H λvs H1=>sp vs H1 (λv H2=>b4d K v (.int z) H2 λu H3=>D.nx (σ.set i (some u)) H3) λc _ H'=>∃C,c=.ref C/\R σ C H'
theorem a9N{X:Cx}{k:Nat}{ps:List Str}{sp:Sp}{x y:Str}{p pos cpos pos' ip sp':Pos}{e:Expr}{es:List Expr}{t:TA}{i:Nat}{z:Int}{jj:Nat}(d:∀e s,¬X.xe e s)(O:OkE X.prog X.w X.K X.mg X.base x k ps sp)(hr:Room k X.A)(Z:Gl X x)
  (T:X.N.Nodup) (hi:X.N[i]?=some y) (hy:Loc X.env.scope y) (U:PA X (e::es) t) (l:(x==("__debug__" : Str))=false:=by decide)
  (W:starEach (e::es) X.env=(false,eval e X.env)::starEach es X.env:=by rfl) (m:(backTo cpos (starEach es X.env)).any (·.1)=false:=by rfl)
  (n:a0W (.Constant (.int z) jj ip):=by intro _ _;rfl)
  (hs:swapsWith (.Subscript (.Call (.Name x p) (e::es) [] cpos) (.Constant (.int z) jj ip) sp') (some (.Name y pos')) pos.line X.env=pure false:=by rfl) (Y:X.fn y=true∨X.env.scope.names.lookup y=some .local:=by first|exact .inl rfl|exact .inr rfl|assumption) :
  PSx X [.Assign [.Name y pos'] (.Subscript (.Call (.Name x p) (e::es) [] cpos) (.Constant (.int z) jj ip) sp') pos] (a7Z X.K i sp t z):=by
 intro pins s σ H D R I h;obtain⟨f,fd,hm,hk,V,F⟩:=O.ex;refine fE (wpAny_Assign_Name (Subscript_ ?_) hs);refine dt (O7 I Z hm ?_ l);refine PySem.W.callWith_K (h₀:=X.base) I.ok.mod.kin hk (cw (U cpos pins s σ H _ I h) (λg s1 ⟨vs,H1,a,r,q⟩=>⟨a.kIn,?_⟩) λe s z=>absurd z (d e s)) W m;have hl:g.length=ps.length:=by rw[<-r.length];exact F.len _ _ _ _ q
 have b:=V s1 g a.kIn (by rw[cJ];exact hl);rw[cJ]at b;refine fN (cU (F.run X.A X.stack s1 H1 ⟨g,[]⟩ g vs _ _ hr a.env0 b r q) λr s' c=>?_);cases r with
 |error e =>
  obtain⟨p,C,H',B,a0,h1,h2,K,L,M,N,P,Q,C',S,j⟩:=c;cases S;exact⟨σ,H1,s1,p,C,H',B,a0,h1,a,h2,K,L,M,N,P,Q,j⟩
 |ok fl =>
  cases fl with
  |ret u =>
   obtain⟨v,H2,A,rv,q2⟩:=a.after c;refine wpAny_Constant_int ?_;have E:=A.tok (s'.toks+1);refine cw (b2Q _ _ pins _ σ H2 v (.int z) u _ _ E rv ⟨_,rfl⟩ q2 (n _ _)) (λu' s4 ⟨v',w,G,o,q4⟩=>?_) λe s z=>absurd z (d e s);exact a0x G T hi hy o (λs2 J=>c_ ⟨_,w,J,q4⟩) Y
  |next=>exact False.elim c
  |brk=>exact False.elim c
  |cont=>exact False.elim c
section
variable {X:Cx}{k:Nat}{ps:List Str}{sp:Sp}{x y:Str}{p pos cpos pos' ip sp':Pos}{e:Expr}{es:List Expr}{t:TA}{i:Nat}{z:Int}{jj:Nat}
theorem a6r(K:PySem.W.Frag)(O:OkE X.prog X.w X.K X.mg X.base x k ps sp)(n:Room k X.A)(m:Gl X x)(g:X.N.Nodup)(hi:X.N[i]?=some y)(o:Loc X.env.scope y)(h:JA X (e::es) t)(f:X.K=K:=by rfl)(d:∀e s,¬X.xe e s:=by exact λ_ _ z=>z)(a:(x==("__debug__" : Str))=false:=by decide)
  (j:starEach (e::es) X.env=(false,eval e X.env)::starEach es X.env:=by rfl) (b:(backTo cpos (starEach es X.env)).any (·.1)=false:=by rfl) (c:a0W (.Constant (.int z) jj ip):=by intro _ _;rfl)
  (hs:swapsWith (.Subscript (.Call (.Name x p) (e::es) [] cpos) (.Constant (.int z) jj ip) sp') (some (.Name y pos')) pos.line X.env=pure false:=by rfl) (l:X.fn y=true∨X.env.scope.names.lookup y=some .local:=by first|exact .inl rfl|exact .inr rfl|assumption) :
  JX X [.Assign [.Name y pos'] (.Subscript (.Call (.Name x p) (e::es) [] cpos) (.Constant (.int z) jj ip) sp') pos] (a7Z K i sp t z):=by
 subst f;exact⟨a9N d O n m g hi o h.h a j b c hs l⟩
end
end L2
namespace L2
open PySem PySem.Spec PyProof.Rows PySem.W
section
variable {X:Cx}{tg:Expr}
end
section
variable {X:Cx}
end
section
variable {X:Cx}{o e:Expr}{es:List Expr}{to:TE}{t:TA}{apos cpos:Pos}
end
def b0S(sp:Sp)(t:TA):TX:=λD R σ H=>t σ H λvs H1=>sp vs H1 (λ_ H2=>D.nx σ H2) λc _ H'=>∃C,c=.ref C/\R σ C H'
theorem b1I{X:Cx}{k:Nat}{ps:List Str}{sp:Sp}{x:Str}{p pos cpos:Pos}{e:Expr}{es:List Expr}{t:TA}(l:∀e s,¬X.xe e s)(O:OkE X.prog X.w X.K X.mg X.base x k ps sp)(S:Room k X.A)(M:Gl X x)
  (J:PA X (e::es) t) (i:(x==("__debug__" : Str))=false:=by decide)
  (L:starEach (e::es) X.env=(false,eval e X.env)::starEach es X.env:=by rfl) (j:(backTo cpos (starEach es X.env)).any (·.1)=false:=by rfl)
  (hs:swapsWith (.Call (.Name x p) (e::es) [] cpos) none pos.line X.env=pure false:=by rfl) :
  PSx X [.Expr (.Call (.Name x p) (e::es) [] cpos) pos] (b0S sp t):=by
 intro pins s σ H D R I h;obtain⟨f,fd,Q,N,K,F⟩:=O.ex;refine fE (wpAny_Expr_any ?_ I.quiet hs);refine dt (O7 I M Q ?_ i);refine PySem.W.callWith_K (h₀:=X.base) I.ok.mod.kin N (cw (J cpos pins s σ H _ I h) (λd s1 ⟨vs,H1,a,r,q⟩=>⟨a.kIn,?_⟩) λe s z=>absurd z (l e s)) L j;have P:d.length=ps.length:=by rw[<-r.length];exact F.len _ _ _ _ q
 have b:=K s1 d a.kIn (by rw[cJ];exact P);rw[cJ]at b;refine fN (cU (F.run X.A X.stack s1 H1 ⟨d,[]⟩ d vs _ _ S a.env0 b r q) λr s' c=>?_);cases r with
 |error e =>
  obtain⟨p,C,H',B,a0,h1,h2,n,o,w,y,A,E,U,G,g⟩:=c;cases G;exact⟨σ,H1,s1,p,C,H',B,a0,h1,a,h2,n,o,w,y,A,E,g⟩
 |ok fl =>
  cases fl with
  |ret u =>
   obtain⟨v,H2,m,V,T⟩:=a.after c;exact c_ ⟨σ,H2,m,T⟩
  |next=>exact False.elim c
  |brk=>exact False.elim c
  |cont=>exact False.elim c
section
variable {X:Cx}{k:Nat}{ps:List Str}{sp:Sp}{x:Str}{p pos cpos:Pos}{e:Expr}{es:List Expr}{t:TA}
theorem b4U(O:OkE X.prog X.w X.K X.mg X.base x k ps sp)(h:Room k X.A)(g:Gl X x)(d:JA X (e::es) t)(c:∀e s,¬X.xe e s:=by exact λ_ _ z=>z)(a:(x==("__debug__" : Str))=false:=by decide)
  (f:starEach (e::es) X.env=(false,eval e X.env)::starEach es X.env:=by rfl) (b:(backTo cpos (starEach es X.env)).any (·.1)=false:=by rfl)
  (hs:swapsWith (.Call (.Name x p) (e::es) [] cpos) none pos.line X.env=pure false:=by rfl) :
  JX X [.Expr (.Call (.Name x p) (e::es) [] cpos) pos] (b0S sp t):=⟨b1I c O h g d.h a f b hs⟩
end
end L2
namespace L2
open PySem PySem.Spec PyProof.Rows
section
variable {prog:Program}{w:World}{A:Around}{E:Value->Shared->Prop}{s:Shared}
end
section
variable {X:Cx}{pos:Pos}
end
section
variable {X:Cx}{es:List Expr}{pos:Pos}
end
end L2
namespace L2
open PySem PySem.Spec PyProof.Rows PySem.W
section
variable {X:Cx}
end
section
variable {X:Cx}{e:Expr}{es:List Expr}{t:TA}{p pos:Pos}
end
section
variable {X:Cx}{k v:Expr}{tk tv:TE}{pos:Pos}
end
end L2
section
open PySem PyProof.Rows
end
namespace L2
open PySem PySem.Spec PyProof.Rows
section
variable {X:Cx}
variable {o e:Expr}{es:List Expr}{to:TE}{t:TA}{pos apos cpos:Pos}
end
end L2
namespace L2
theorem b8R{α:Type}{us:List α}(h:us.length=0):us=[]:=fm.mp h
theorem a2I{α:Type}{us:List α}(h:us.length=1):∃a,us=[a]:=by
 cases us with
 |nil=>cases h
 |cons a us=>exact⟨a,by rw[b8R (us:=us) (fc h)]⟩
theorem W5{α:Type}{us:List α}(h:us.length=2):∃a b,us=[a,b]:=by
 cases us with
 |nil=>cases h
 |cons a us=>obtain⟨b,e⟩:=a2I (us:=us) (fc h);exact⟨a,b,by rw[e]⟩
theorem a0H{α:Type}{us:List α}(h:us.length=3):∃a b c,us=[a,b,c]:=by
 cases us with
 |nil=>cases h
 |cons a us=>obtain⟨b,c,e⟩:=W5 (us:=us) (fc h);exact⟨a,b,c,by rw[e]⟩
theorem b8Q{α:Type}{us:List α}(h:us.length=4):∃a b c d,us=[a,b,c,d]:=by
 cases us with
 |nil=>cases h
 |cons a us=>obtain⟨b,c,d,e⟩:=a0H (us:=us) (fc h);exact⟨a,b,c,d,by rw[e]⟩
theorem b8P{α:Type}{us:List α}(h:us.length=5):∃a b c d e,us=[a,b,c,d,e]:=by
 cases us with
 |nil=>cases h
 |cons a us=>obtain⟨b,c,d,e,q⟩:=b8Q (us:=us) (fc h);exact⟨a,b,c,d,e,by rw[q]⟩
section
open PySem PySem.Spec PyProof.Rows PySem.W
abbrev FnL(K:PySem.W.Frag)(f:Addr)(nm qn:Str)(st:Stmt)(oc:Value)(od:Option Addr)(sl:Array (Option Value))(kV dc pm:Value)(an:Option Addr)(cd ct:Value):Prop:=K.lookup f=some ⟨oc,od,.func (PySem.W.fnOf nm qn (P7 st) (E1 st) (A2 st) .none kV dc pm an cd ct),sl⟩
variable {K:PySem.W.Frag}{h:Heap}{mg:Str->Option Value}{x qn:Str}{st:Stmt}{f:Addr}{od an:Option Addr}{sl:Array (Option Value)}{oc kV dc pm cd ct:Value}{C:Addr}{m:Str}
theorem C1(X:K.In h)(G:h.Ns mainGlobals mg)(a:nsIn K mainGlobals x=some (some (.ref f)))(l:FnL K f x x st oc od sl kV dc pm an cd ct)(c:codeIn K cd x=true)(k:keepIn K (.ref f)=true){ps:List Str}
  (e:∀(kV d pm:Value) (an:Option Addr) (b ct:Value) (us:List Value),us.length=ps.length->bindArgs (fnOf x x (P7 st) (E1 st) (A2 st) .none kV d pm an b ct) ⟨us,[]⟩=pure (ps.zip us)):FunAt K mg x st ps:=⟨f,_,mg_of X G a,a2X (st:=st) l c k,(a2X (st:=st) l c k).binds e⟩
theorem a2F(a:findIn K (.ref C) m=some (some (.ref f)))(i:isFn K (.ref f)=true)(l:FnL K f m qn st oc od sl kV dc pm an cd ct)(c:codeIn K cd qn=true)(k:keepIn K (.ref f)=true){ps:List Str}
  (e:∀(kV d pm:Value) (an:Option Addr) (b ct:Value) (us:List Value),us.length=ps.length->bindArgs (fnOf m qn (P7 st) (E1 st) (A2 st) .none kV d pm an b ct) ⟨us,[]⟩=pure (ps.zip us)):MethAt K C m qn st ps:=⟨f,_,⟨a,i,k⟩,a2X (st:=st) l c k,(a2X (st:=st) l c k).binds e⟩
end
section
open PySem PySem.Spec PyProof.Rows PySem.W
variable {K:PySem.W.Frag}{h:Heap}{mg:Str->Option Value}{x nm qn:Str}{C N:Addr}{bs bm sub bmB above:List Value}{hd ab:Bool}{sn:List Str}{col:Option Bool}{dd:Option Addr}{k0 k1 k2 k3 k5:Option Value}{newId:String}
theorem b6R(X:K.In h)(b:mg x=some (.ref C))(c:K.lookup C=some (excClassObj nm qn C N bs bm hd sn sub ab col dd k0 k1 k2 k3 k5 newId))(tx:tailIn K bmB bm=true)(ok:nsOkIn K N=true)(a:nsIn K N "__init__"=some none):OwnCls x C bmB newId mg h :=
 ⟨b,bm,N,nm,qn,bs,hd,sn,sub,ab,col,dd,k0,k1,k2,k3,k5,_,X _ _ c,.of_isNs (isNs_of_in X ok),nsMap_none_of_in X ok a,tail_of_in X tx⟩
end
inductive Ex1{α0:Type}(p:α0->Prop):Prop
 |mk (a0:α0) (h:p a0):Ex1 p
inductive Ex2{α0 α1:Type}(p:α0->α1->Prop):Prop
 |mk (a0:α0) (a1:α1) (h:p a0 a1):Ex2 p
inductive Ex3{α0 α1 α2:Type}(p:α0->α1->α2->Prop):Prop
 |mk (a0:α0) (a1:α1) (a2:α2) (h:p a0 a1 a2):Ex3 p
inductive Ex4{α0 α1 α2 α3:Type}(p:α0->α1->α2->α3->Prop):Prop
 |mk (a0:α0) (a1:α1) (a2:α2) (a3:α3) (h:p a0 a1 a2 a3):Ex4 p
inductive Ex5{α0 α1 α2 α3 α4:Type}(p:α0->α1->α2->α3->α4->Prop):Prop
 |mk (a0:α0) (a1:α1) (a2:α2) (a3:α3) (a4:α4) (h:p a0 a1 a2 a3 a4):Ex5 p
inductive An2(a0 a1:Prop):Prop
 |mk (h0:a0) (h1:a1):An2 a0 a1
inductive An3(a0 a1 a2:Prop):Prop
 |mk (h0:a0) (h1:a1) (h2:a2):An3 a0 a1 a2
inductive An4(a0 a1 a2 a3:Prop):Prop
 |mk (h0:a0) (h1:a1) (h2:a2) (h3:a3):An4 a0 a1 a2 a3
inductive An5(a0 a1 a2 a3 a4:Prop):Prop
 |mk (h0:a0) (h1:a1) (h2:a2) (h3:a3) (h4:a4):An5 a0 a1 a2 a3 a4
inductive An6(a0 a1 a2 a3 a4 a5:Prop):Prop
 |mk (h0:a0) (h1:a1) (h2:a2) (h3:a3) (h4:a4) (h5:a5):An6 a0 a1 a2 a3 a4 a5
inductive An7(a0 a1 a2 a3 a4 a5 a6:Prop):Prop
 |mk (h0:a0) (h1:a1) (h2:a2) (h3:a3) (h4:a4) (h5:a5) (h6:a6):An7 a0 a1 a2 a3 a4 a5 a6
inductive An9(a0 a1 a2 a3 a4 a5 a6 a7 a8:Prop):Prop
 |mk (h0:a0) (h1:a1) (h2:a2) (h3:a3) (h4:a4) (h5:a5) (h6:a6) (h7:a7) (h8:a8):An9 a0 a1 a2 a3 a4 a5 a6 a7 a8
inductive An10(a0 a1 a2 a3 a4 a5 a6 a7 a8 a9:Prop):Prop
 |mk (h0:a0) (h1:a1) (h2:a2) (h3:a3) (h4:a4) (h5:a5) (h6:a6) (h7:a7) (h8:a8) (h9:a9):An10 a0 a1 a2 a3 a4 a5 a6 a7 a8 a9
end L2
namespace L2
namespace Tab
open PySem
def gI:Nat->Nat->Nat
 |0,x=>x
 |n+1,x=>5*gI n x+1
def gS:Nat->Nat
 |0=>0
 |n+1=>5*gS n+1
theorem b5Y:∀n x,gI n x=5 ^ n*x+gS n
 |0,x=>by simp[gI,gS]
 |n+1,x=>by
  rw[gI,b5Y n x,gS,dh,Nat.mul_add,<-Nat.mul_assoc,fV 5 (5 ^ n)];omega
theorem a8W:∀n,4*gS n+1=5 ^ n
 |0=>rfl
 |n+1=>by
  have:=a8W n;rw[gS,dh];omega
theorem a3a:∀k,∃u,5 ^ (2 ^ k)=1+2 ^ (k+2)*(2*u+1)
 |0=>⟨0,rfl⟩
 |k+1=>by
  obtain⟨u,h⟩:=a3a k;refine⟨u+2 ^ k*(2*u+1)*(2*u+1),?_⟩;rw[dh 2 k,Nat.pow_mul,h,Nat.pow_two];have a:2 ^ (k+1+2)=8*2 ^ k:=by rw[Nat.pow_add,dh];omega
  have c:2 ^ (k+2)=4*2 ^ k:=by rw[Nat.pow_add,fV]
  rw[a,c];generalize 2 ^ k=b
  grind
theorem b7z(k:Nat):∃u,gS (2 ^ k)=2 ^ k*(2*u+1):=by
 obtain⟨u,h⟩:=a3a k;refine⟨u,?_⟩;have:=a8W (2 ^ k);have a:2 ^ (k+2)=4*2 ^ k:=by rw[Nat.pow_add,fV]
 rw[h,a,Nat.mul_assoc]at this;omega
theorem b5f(k y:Nat):gI (2 ^ k) y % 2 ^ (k+1)=(y+2 ^ k) % 2 ^ (k+1):=by
 obtain⟨u,h⟩:=a3a k;obtain⟨v,h2⟩:=b7z k;rw[b5Y,h,h2];have e:(1+2 ^ (k+2)*(2*u+1))*y+2 ^ k*(2*v+1)=(y+2 ^ k)+2 ^ (k+1)*(2*(2*u+1)*y+v):=by
  have a:2 ^ (k+1)=2*2 ^ k:=by rw[dh];omega
  have c:2 ^ (k+2)=4*2 ^ k:=by rw[Nat.pow_add,fV]
  rw[a,c];generalize 2 ^ k=b
  grind
 rw[e,Nat.add_mul_mod_self_left]
def fI(M:Nat):Nat->Nat->Nat
 |0,x=>x
 |n+1,x=>(fI M n x*5+1) % M
theorem b3d(M:Nat)(x:Nat)(a:x<M):∀n,fI M n x=gI n x % M
 |0=>(cO a).symm
 |n+1=>by
  rw[fI,b3d M x a n,gI,fV,Nat.add_mod,Nat.mul_mod,Nat.mod_mod,<-Nat.mul_mod,<-Nat.add_mod]
theorem b3a(m:Nat):∀n x,gI (n+m) x=gI n (gI m x)
 |0,x=>by rw[dw];rfl
 |n+1,x=>by rw[Nat.add_right_comm,gI,b3a m n x,gI]
theorem b2Z:∀(k x s:Nat),∃n,n<2 ^ k/\gI n x % 2 ^ k=s % 2 ^ k
 |0,x,s=>⟨0,by decide,by rw[Nat.pow_zero,Nat.mod_one,Nat.mod_one]⟩
 |k+1,x,s=>by
  obtain⟨n,l,h⟩:=b2Z k x s;have f:2 ^ (k+1)=2*2 ^ k:=by rw[dh];omega
  have m:0<2 ^ k:=Nat.pow_pos (by decide);by_cases a:gI n x % 2 ^ (k+1)=s % 2 ^ (k+1)
  .exact⟨n,by omega,a⟩
  .refine⟨2 ^ k+n,by omega,?_⟩;rw[b3a,b5f];generalize gI n x=y at *;rw[f]at a⊢;generalize 2 ^ k=M at *;have a1:=Nat.mod_add_div y (2*M);have g:=Nat.mod_add_div s (2*M);have i:=fj y (show 0<2*M by omega);have j:=fj s (show 0<2*M by omega);have b:y % M=y % (2*M) % M:=(Nat.mod_mul_left_mod y 2 M).symm;have c:s % M=s % (2*M) % M:=(Nat.mod_mul_left_mod s 2 M).symm;rw[Nat.add_mod,cO (show M<2*M by omega)];generalize y % (2*M)=p at *;generalize s % (2*M)=q at *;rw[b,c]at h;have d:p % M=if p<M then p else p-M:=by
    split
    .exact cO (by assumption)
    .rw[Nat.mod_eq_sub_mod (by omega)];exact cO (by omega)
   have e:q % M=if q<M then q else q-M:=by
    split
    .exact cO (by assumption)
    .rw[Nat.mod_eq_sub_mod (by omega)];exact cO (by omega)
   rw[d,e]at h;split at h<;>split at h
   .omega
   .rw[cO (by omega)];omega
   .rw[show p+M=p-M+2*M by omega,Nat.add_mod_right,cO (by omega)];omega
   .omega
abbrev Pr:=SetTable.Probe
noncomputable def adv(mask:Nat)(p:Pr):Pr :=
 if p.more > 0 then {p with j:=p.j+1,more:=p.more-1} else
 {p with j:=(SetTable.leap mask p.i p.perturb).1,more:=SetTable.runEnd mask (SetTable.leap mask p.i p.perturb).1-(SetTable.leap mask p.i p.perturb).1,i:=(SetTable.leap mask p.i p.perturb).1,perturb:=(SetTable.leap mask p.i p.perturb).2}
theorem b7L(t:SetTable)(p:Pr):t.advance p=adv t.mask p:=rfl
noncomputable def B8(mask:Nat)(p:Pr):Nat->Pr
 |0=>p
 |n+1=>adv mask (B8 mask p n)
theorem J1(mask:Nat)(p:Pr):∀n,B8 mask p (n+1)=B8 mask (adv mask p) n
 |0=>rfl
 |n+1=>by rw[B8,J1 mask p n];rfl
theorem a0v(mask:Nat)(p:Pr)(m:Nat):∀n,B8 mask p (m+n)=B8 mask (B8 mask p m) n
 |0=>rfl
 |n+1=>by rw[<-dW,B8,a0v mask p m n];rfl
theorem a0X(mask:Nat)(p:Pr):∀n,(B8 mask p n).dummy=p.dummy
 |0=>rfl
 |n+1=>by
  rw[B8,<-a0X mask p n];unfold adv;split<;>rfl
noncomputable def a1a(mask i pt:Nat):Pr:={j:=i,more:=SetTable.runEnd mask i-i,i,perturb:=pt,dummy:=none}
noncomputable def st0(mask:Nat)(h:Int):Pr:=a1a mask (SetTable.bits h % (mask+1)) (SetTable.bits h)
theorem a1i(mask i pt:Nat):∀c,c<=SetTable.runEnd mask i-i->B8 mask (a1a mask i pt) c={j:=i+c,more:=SetTable.runEnd mask i-i-c,i,perturb:=pt,dummy:=none}
 |0,_=>rfl
 |c+1,h=>by
  rw[B8,a1i mask i pt c (by omega)];unfold adv;rw[ay (show SetTable.runEnd mask i-i-c > 0 by omega)];simp only[SetTable.Probe.mk.injEq,and_true];omega
theorem b3X(mask i:Nat):SetTable.runEnd mask i-i<=9:=by
 unfold SetTable.runEnd;split<;>omega
theorem a6e(mask i pt:Nat):B8 mask (a1a mask i pt) (SetTable.runEnd mask i-i+1)=a1a mask (SetTable.leap mask i pt).1 (SetTable.leap mask i pt).2:=by
 rw[B8,a1i mask i pt _ (aq _)];unfold adv;rw[ar (by show ¬SetTable.runEnd mask i-i-(SetTable.runEnd mask i-i) > 0;omega)];rfl
def L9(mask:Nat)(i pt:Nat):Nat->Nat×Nat
 |0=>(i,pt)
 |k+1=>SetTable.leap mask (L9 mask i pt k).1 (L9 mask i pt k).2
theorem b1u(mask i pt:Nat):∀k,∃n,n<=10*k/\B8 mask (a1a mask i pt) n=a1a mask (L9 mask i pt k).1 (L9 mask i pt k).2
 |0=>⟨0,aq _,rfl⟩
 |k+1=>by
  obtain⟨n,h1,h2⟩:=b1u mask i pt k;have:=b3X mask (L9 mask i pt k).1;refine⟨n+(SetTable.runEnd mask (L9 mask i pt k).1-(L9 mask i pt k).1+1),by omega,?_⟩;rw[a0v,h2,a6e];rfl
theorem b1s(mask i pt:Nat):∀k,(L9 mask i pt k).2=pt / 32 ^ k
 |0=>by simp[L9]
 |k+1=>by
  rw[L9,dh,<-Nat.div_div_eq_div_mul,<-b1s mask i pt k];rfl
theorem a2t(mask i pt a:Nat):∀b,L9 mask i pt (a+b)=L9 mask (L9 mask i pt a).1 (L9 mask i pt a).2 b
 |0=>rfl
 |b+1=>by rw[<-dW,L9,a2t mask i pt a b];rfl
theorem a5T(mask i:Nat):∀k,L9 mask i 0 k=(fI (mask+1) k i,0)
 |0=>rfl
 |k+1=>by
  rw[L9,a5T mask i k];show((fI (mask+1) k i*5+1+0 / 32) % (mask+1),0 / 32)=_;rw[Nat.zero_div,Nat.add_zero];rfl
theorem b5m(h:Int):SetTable.bits h<2 ^ 64:=by
 unfold SetTable.bits;have h1:=ef h (show(2:Int) ^ 64≠0 by decide);have h2:=dC h (show(0:Int)<2 ^ 64 by decide);omega
theorem b3Y(mask i pt:Nat)(hi:i<=mask):∀k,(L9 mask i pt k).1<=mask
 |0=>hi
 |k+1=>by
  rw[L9];exact ez (fj _ (eF _))
theorem a5U{mask k:Nat}(c:mask+1=2 ^ k)(h:Int)(s:Nat)(hs:s<=mask):∃r,r<mask+14/\(L9 mask (SetTable.bits h % (mask+1)) (SetTable.bits h) r).1=s:=by
 have b:=b5m h;have hi:=b3Y mask (SetTable.bits h % (mask+1)) (SetTable.bits h) (ez (fj _ (eF _))) 13;have a:=b1s mask (SetTable.bits h % (mask+1)) (SetTable.bits h) 13;rw[Nat.div_eq_of_lt (aE b (by decide))]at a;obtain⟨n,d,e⟩:=b2Z k (L9 mask (SetTable.bits h % (mask+1)) (SetTable.bits h) 13).1 s;refine⟨13+n,by omega,?_⟩;rw[<-c]at e;rw[a2t,a,a5T];show fI _ _ _=s;rw[b3d _ _ (by omega),e];exact cO (by omega)
noncomputable def pos(mask:Nat)(h:Int)(n:Nat):Nat:=(B8 mask (st0 mask h) n).j
theorem b1Q{mask k:Nat}(b:mask+1=2 ^ k)(h:Int)(s:Nat)(hs:s<=mask):∃n,n<10*SetTable.turns mask/\pos mask h n=s:=by
 obtain⟨r,d,e⟩:=a5U b h s hs;obtain⟨n,c,a⟩:=b1u mask (SetTable.bits h % (mask+1)) (SetTable.bits h) r;refine⟨n,by unfold SetTable.turns;omega,?_⟩;unfold pos st0;rw[a,<-e];rfl
theorem a3n(xs:Array Nat)(j:Nat)(k:∀a b:Nat,a<b->b<xs.size->xs.getD a 0<xs.getD b 0):∀(fuel lo hi:Nat),hi-lo<=fuel->lo<=hi->hi<=xs.size->(∀i,i<lo->xs.getD i 0<j)->(∀i,hi<=i->i<xs.size->j<=xs.getD i 0) ->
  SetTable.below.go xs j fuel lo hi<=xs.size/\(∀i,i<SetTable.below.go xs j fuel lo hi->xs.getD i 0<j)/\∀i,SetTable.below.go xs j fuel lo hi<=i->i<xs.size->j<=xs.getD i 0
 |0,lo,hi,h1,h2,c,d,f=>by
  have:hi=lo:=by omega
  subst this;exact⟨c,d,f⟩
 |fuel+1,lo,hi,h1,h2,c,d,f=>by
  unfold SetTable.below.go;by_cases h:lo<hi
  .rw[ay h];have n:(lo+hi) / 2<hi/\lo<=(lo+hi) / 2:=by omega
   have m:xs.getD ((lo+hi) / 2) j=xs.getD ((lo+hi) / 2) 0:=by
    have:(lo+hi) / 2<xs.size:=by omega
    simp[Array.getD,this]
   dsimp only;rw[m];by_cases g:xs.getD ((lo+hi) / 2) 0<j
   .rw[ay g];refine a3n xs j k fuel _ _ (by omega) (by omega) c (λi l=>?_) f;by_cases e:i=(lo+hi) / 2
    .rw[e];exact g
    .exact Nat.lt_trans (k i _ (by omega) (by omega)) g
   .rw[ar g];refine a3n xs j k fuel _ _ (by omega) (by omega) (by omega) d (λi l hs=>?_);by_cases e:i=(lo+hi) / 2
    .rw[e];omega
    .have:=k ((lo+hi) / 2) i (by omega) hs;omega
  .rw[ar h];have:hi=lo:=by omega
   subst this;exact⟨c,d,f⟩
def Ris(xs:Array Nat):Prop:=∀a b:Nat,a<b->b<xs.size->xs.getD a 0<xs.getD b 0
theorem G9{xs:Array Nat}(a:Ris xs)(j:Nat):SetTable.below xs j<=xs.size/\(∀i,i<SetTable.below xs j->xs.getD i 0<j)/\∀i,SetTable.below xs j<=i->i<xs.size->j<=xs.getD i 0 :=
 a3n xs j a xs.size 0 xs.size (by omega) (by omega) (aq _) (λi h=>absurd h (by omega)) (λi h1 h2=>absurd h2 (by omega))
theorem a0K{xs:Array Nat}{i:Nat}(h:i<xs.size):xs[i]?=some (xs.getD i 0):=by simp[Array.getD,h]
theorem a0S{xs:Array Nat}(a:Ris xs){i j:Nat}(h:xs[i]?=some j):SetTable.below xs j=i:=by
 obtain⟨d,b,c⟩:=G9 a j;have hi:i<xs.size:=(cX.mp h).1;have e:xs.getD i 0=j:=by have:=a0K hi;rw[h]at this;injection this with this;exact this.symm
 rcases dk (SetTable.below xs j) i with z|z|z
 .have h1:=c _ (aq _) (by omega);have h2:=a _ _ z hi;omega
 .exact z
 .have:=b i z;omega
theorem a1o{xs:Array Nat}(a:Ris xs)(j:Nat):xs[SetTable.below xs j]?=some j↔j∈xs:=by
 constructor
 .intro h;exact Array.mem_of_getElem? h
 .intro h;obtain⟨i,hi⟩:=Array.mem_iff_getElem?.mp h;rw[a0S a hi];exact hi
theorem a8q{t:SetTable}(a:Ris t.place)(hd:t.dummies=#[])(j:Nat):t.slot j=if j∈t.place then .live (SetTable.below t.place j)else .empty:=by
 unfold SetTable.slot;dsimp only;by_cases h:j∈t.place
 .rw[ay h,ay];rw[(a1o a j).mpr h];simp
 .rw[ar h,ar,hd]
  .rw[ar];unfold SetTable.has;simp
  .intro z;exact h ((a1o a j).mp (by simpa using z))
theorem a5Y{t:SetTable}(i:Ris t.place)(hd:t.dummies=#[])(a:Nat->Int)(h:Int):∀(fuel:Nat) (p:Pr),p.dummy=none->(∃n,n<fuel/\(B8 t.mask p n).j∉t.place) ->
  (∃n,(B8 t.mask p n).j∉t.place/\(∀m,m<n->(B8 t.mask p m).j∈t.place/\a (SetTable.below t.place (B8 t.mask p m).j)≠h)/\SetTable.probe.go t a h fuel p=some (.empty (B8 t.mask p n).j none)) ∨
  ∃n,(B8 t.mask p n).j∈t.place/\a (SetTable.below t.place (B8 t.mask p n).j)=h/\(∀m,m<n->(B8 t.mask p m).j∈t.place/\a (SetTable.below t.place (B8 t.mask p m).j)≠h)/\SetTable.probe.go t a h fuel p=some (.candidate (B8 t.mask p n).j (SetTable.below t.place (B8 t.mask p n).j) (B8 t.mask p (n+1)))
 |0,p,_,⟨n,g,_⟩=>absurd g (by omega)
 |fuel+1,p,c,⟨n,g,f⟩=>by
  unfold SetTable.probe.go;rw[a8q i hd];by_cases b:p.j∈t.place
  .rw[ay b];dsimp only;by_cases d:a (SetTable.below t.place p.j)=h
   .right;refine⟨0,b,d,λm e=>absurd e (by omega),?_⟩;rw[ay (by simpa using d)];rfl
   .have hn0:n≠0:=λz=>f (by rw[z];exact b);obtain⟨n,rfl⟩:∃k,n=k+1:=⟨n-1,by omega⟩;rw[J1]at f;rw[ar (by simpa using d),b7L];have first:∀N,(∀m,m<N->(B8 t.mask (adv t.mask p) m).j∈t.place/\a (SetTable.below t.place (B8 t.mask (adv t.mask p) m).j)≠h)->∀m,m<N+1->(B8 t.mask p m).j∈t.place/\a (SetTable.below t.place (B8 t.mask p m).j)≠h:=λN j m e=>by
     cases m with
     |zero=>exact⟨b,d⟩
     |succ m=>rw[J1];exact j m (by omega)
    rcases a5Y i hd a h fuel (adv t.mask p) (by rw[<-c];exact a0X t.mask p 1) ⟨n,by omega,f⟩with⟨N,h1,h2,h3⟩|⟨N,h1,h2,h3,h4⟩
    .left;exact⟨N+1,by rw[J1];exact h1,first N h2,by rw[J1];exact h3⟩
    .right;exact⟨N+1,by rw[J1];exact h1,by rw[J1];exact h2,first N h3,by rw[J1,J1];exact h4⟩
  .rw[ar b];left;refine⟨0,b,λm e=>absurd e (by omega),?_⟩;show some (SetTable.Met.empty p.j p.dummy)=_;rw[c];rfl
theorem W8{α:Type}(xs:Array α)(p:Nat)(x:α)(hp:p<=xs.size):(SetTable.insertAt xs p x).toList=xs.toList.take p++x::xs.toList.drop p:=by
 unfold SetTable.insertAt;simp only[bT,cR,eN,List.extract_eq_take_drop,cZ,Nat.sub_zero,aF,List.singleton_append];rw[bZ (l:=List.drop p xs.toList) (by simp)]
theorem ris_list{xs:Array Nat}:Ris xs↔xs.toList.Pairwise (· < ·):=by
 rw[eV];unfold Ris;constructor
 .intro h i j hi hj hij;have:=h i j hij (by simpa using hj);simpa[Array.getD,show i<xs.size by simpa using hi,show j<xs.size by simpa using hj]using this
 .intro h a b hab hb;have:=h a b (by simp;omega) (by simpa using hb) hab;simpa[Array.getD,show a<xs.size by omega,hb]using this
theorem a3V{xs:Array Nat}{i:Nat}(h:i<xs.toList.length):xs.getD i 0=xs.toList[i]:=by
 have h':i<xs.size:=by simpa using h
 simp[Array.getD,h']
theorem b3G{xs:Array Nat}(b:Ris xs){j x:Nat}(h:x∈xs.toList.take (SetTable.below xs j)):x<j:=by
 obtain⟨c,a,d⟩:=G9 b j;obtain⟨i,hi,rfl⟩:=bu.mp h;rw[aX]at hi;rw[ft,<-a3V];exact a i (by omega)
theorem a8Z{xs:Array Nat}(d:Ris xs){j x:Nat}(c:j∉xs)(h:x∈xs.toList.drop (SetTable.below xs j)):j<x:=by
 obtain⟨e,f,b⟩:=G9 d j;have a:x∈xs:=by simpa using dg h
 obtain⟨i,hi,rfl⟩:=bu.mp h;rw[cg]at hi;rw[fu,<-a3V]at a⊢;have:=b (SetTable.below xs j+i) (by omega) (by simp at hi;omega);rcases Nat.lt_or_eq_of_le this with z|z
 .exact z
 .exact absurd (z ▸ a) c
theorem b3Z{xs:Array Nat}(a:Ris xs){j:Nat}(c:j∉xs):Ris (SetTable.insertAt xs (SetTable.below xs j) j):=by
 rw[ris_list,W8 _ _ _ (G9 a j).1];have d:=ris_list.mp a;rw[bx,dv];refine⟨d.take,⟨λy b=>a8Z a c b,d.drop⟩,λx e y b=>?_⟩;have h1:=b3G a e;rcases aI.mp b with z|z
 .rw[z];exact h1
 .exact Nat.lt_trans h1 (a8Z a c z)
theorem a4R{xs:Array Nat}{p j x:Nat}(hp:p<=xs.size):x∈SetTable.insertAt xs p j↔x=j∨x∈xs:=by
 rw[<-eH,W8 _ _ _ hp,aK,aI,<-eH];constructor
 .rintro(h|h|h)
  .exact .inr (bP h)
  .exact .inl h
  .exact .inr (dg h)
 .rintro(h|h)
  .exact .inr (.inl h)
  .rw[<-bj p xs.toList]at h;rcases aK.mp h with z|z
   .exact .inl z
   .exact .inr (.inr z)
theorem nodup_le{α:Type}[DecidableEq α]:∀(a b:List α),a.Nodup->(∀x∈a,x∈b)->a.length<=b.length
 |[],b,_,_=>bq _
 |x::a,b,e,h=>by
  obtain⟨h1,h2⟩:=cG.mp e;have c:=h x au;have:=nodup_le a (b.erase x) h2 λy d=>(List.mem_erase_of_ne (λz:y=x=>h1 (z ▸ d))).mpr (h y (ak _ d));rw[List.length_erase_of_mem c]at this;have:=List.length_pos_of_mem c;rw[aU];omega
structure TabOk{α:Type}(t:SetTable)(es:Array (Int×α)):Prop where
 size:t.place.size=es.size
 dum:t.dummies=#[]
 ris:Ris t.place
 le:∀j∈t.place,j<=t.mask
 pow:∃k,3<=k/\t.mask+1=2 ^ k
 room:es.size<=t.mask
 reach:∀(i j:Nat) (e:Int×α),t.place[i]?=some j->es[i]?=some e->∃n,pos t.mask e.1 n=j/\∀m,m<n->pos t.mask e.1 m∈t.place
theorem TabOk.free{α:Type}{t:SetTable}{es:Array (Int×α)}(h:TabOk t es)(x:Int):∃n,n<10*SetTable.turns t.mask/\pos t.mask x n∉t.place:=by
 obtain⟨k,_,e⟩:=h.pow;have:∃s,s<=t.mask/\s∉t.place:=by
  refine bF λd=>?_;have a:∀s,s<t.mask+1->s∈t.place.toList:=λs hs=>by
   refine bF λz=>d ⟨s,by omega,λq=>z (by simpa using q)⟩
  have:=nodup_le (List.range (t.mask+1)) t.place.toList fH λs hs=>a s (aR.mp hs);rw[fv,ax,h.size]at this;have:=h.room;omega
 obtain⟨s,hs,f⟩:=this;obtain⟨n,b,c⟩:=b1Q e x s hs;exact⟨n,b,by rw[c];exact f⟩
theorem TabOk.first{α:Type}{t:SetTable}{es:Array (Int×α)}(h:TabOk t es)(x:Int):∃N,N<10*SetTable.turns t.mask/\pos t.mask x N∉t.place/\∀m,m<N->pos t.mask x m∈t.place:=by
 obtain⟨n,d,c⟩:=h.free x;induction n using Nat.strongRecOn with
 |ind n e =>
  by_cases b:∃m,m<n/\pos t.mask x m∉t.place
  .obtain⟨m,a,hm2⟩:=b;exact e m a (by omega) hm2
  .exact⟨n,d,c,λm a=>bF λz=>b ⟨m,a,z⟩⟩
theorem a8V{α:Type}{xs:Array α}{p:Nat}{x:α}(hp:p<=xs.size)(i:Nat):(SetTable.insertAt xs p x)[i]?=if i<p then xs[i]? else if i=p then some x else xs[i-1]?:=by
 rw[<-av,W8 _ _ _ hp];by_cases h1:i<p
 .rw[ay h1,bo (by rw[aX,ax];omega),de h1,av]
 .rw[ar h1,bb (by rw[aX,ax];omega),aX,ax,dG hp];by_cases h2:i=p
  .rw[ay h2,h2,Nat.sub_self];rfl
  .rw[ar h2];obtain⟨c,a⟩:∃c,i-p=c+1:=⟨i-p-1,by omega⟩;rw[a,List.getElem?_cons_succ,eY,av];congr 1;omega
theorem TabOk.add{α:Type}{t:SetTable}{es:Array (Int×α)}(h:TabOk t es){x:Int}{v:α}{N:Nat}(h1:pos t.mask x N∉t.place)(h2:∀m,m<N->pos t.mask x m∈t.place)(o:pos t.mask x N<=t.mask)(d:es.size<t.mask) :
  TabOk (t.put (pos t.mask x N)).1 (SetTable.insertAt es (t.put (pos t.mask x N)).2 (x,v)):=by
 have g:=(G9 h.ris (pos t.mask x N)).1;have hd:(t.put (pos t.mask x N)).1.dummies=#[]:=by
  show(if SetTable.has t.dummies (pos t.mask x N)=true then _ else t.dummies)=#[];rw[h.dum,ar];unfold SetTable.has;simp
 have c:SetTable.below t.place (pos t.mask x N)<=es.size:=by rw[<-h.size];exact g
 have f:∀{β:Type}(xs:Array β) (p:Nat) (y:β),p<=xs.size->(SetTable.insertAt xs p y).size=xs.size+1:=λxs p y w=>by
  rw[<-ax,W8 _ _ _ w,az,aU,aX,cg,ax];omega
 refine⟨?_,hd,b3Z h.ris h1,λj u=>?_,h.pow,?_,λi j e b a=>?_⟩
 .show(SetTable.insertAt t.place (SetTable.below t.place (pos t.mask x N)) _).size=(SetTable.insertAt es (SetTable.below t.place (pos t.mask x N)) _).size;rw[f _ _ _ g,f _ _ _ c,h.size]
 .rcases(a4R g).mp u with z|z
  .rw[z];exact o
  .exact h.le j z
 .show(SetTable.insertAt es (SetTable.below t.place (pos t.mask x N)) _).size<=t.mask;rw[f _ _ _ c];exact d
 .change (SetTable.insertAt t.place (SetTable.below t.place (pos t.mask x N)) (pos t.mask x N))[i]?=some j at b;change (SetTable.insertAt es (SetTable.below t.place (pos t.mask x N)) (x,v))[i]?=some e at a;rw[a8V g]at b;rw[a8V c]at a;show ∃n,pos t.mask e.1 n=j/\∀m,m<n->pos t.mask e.1 m∈SetTable.insertAt t.place (SetTable.below t.place (pos t.mask x N)) (pos t.mask x N);have k:∀l,t.place[l]?=some j->es[l]?=some e->∃n,pos t.mask e.1 n=j/\∀m,m<n->pos t.mask e.1 m∈SetTable.insertAt t.place (SetTable.below t.place (pos t.mask x N)) (pos t.mask x N):=λl q1 C=>by
   obtain⟨n,A,B⟩:=h.reach l j e q1 C;exact⟨n,A,λm q=>(a4R g).mpr (.inr (B m q))⟩
  by_cases r:i<SetTable.below t.place (pos t.mask x N)
  .rw[ay r]at b a;exact k i b a
  .rw[ar r]at b a;by_cases s:i=SetTable.below t.place (pos t.mask x N)
   .rw[ay s]at b a;cases b;cases a;exact⟨N,rfl,λm q=>(a4R g).mpr (.inr (h2 m q))⟩
   .rw[ar s]at b a;exact k _ b a
theorem a3L{mask i:Nat}(hi:i<=mask):SetTable.runEnd mask i<=mask:=by
 unfold SetTable.runEnd;split<;>omega
theorem b0P(mask:Nat)(p:Pr)(h:p.j+p.more<=mask):∀n,(B8 mask p n).j+(B8 mask p n).more<=mask
 |0=>h
 |n+1=>by
  have b:=b0P mask p h n;rw[B8];unfold adv;split
  .dsimp only;omega
  .dsimp only;have h1:(SetTable.leap mask (B8 mask p n).i (B8 mask p n).perturb).1<=mask:=ez (fj _ (eF _));have h2:=a3L h1;have a:(SetTable.leap mask (B8 mask p n).i (B8 mask p n).perturb).1<=SetTable.runEnd mask (SetTable.leap mask (B8 mask p n).i (B8 mask p n).perturb).1:=by
    unfold SetTable.runEnd;split<;>omega
   omega
theorem a1b(mask:Nat)(h:Int)(n:Nat):pos mask h n<=mask:=by
 have h1:SetTable.bits h % (mask+1)<=mask:=ez (fj _ (eF _));have h2:=a3L h1;have a:SetTable.bits h % (mask+1)<=SetTable.runEnd mask (SetTable.bits h % (mask+1)):=by
  unfold SetTable.runEnd;split<;>omega
 have:=b0P mask (st0 mask h) (by show SetTable.bits h % (mask+1)+(SetTable.runEnd mask (SetTable.bits h % (mask+1))-SetTable.bits h % (mask+1))<=mask;omega) n;unfold pos;omega
noncomputable def fr(owner:Array (Option Nat))(j:Nat):Bool:=(owner.getD j (some 0)).isNone
theorem a8X(mask:Nat)(owner:Array (Option Nat)):∀(fuel i pt:Nat),(∃r,r<fuel/\fr owner (L9 mask i pt r).1=true) ->
  ∃n,fr owner (B8 mask (a1a mask i pt) n).j=true/\(∀m,m<n->fr owner (B8 mask (a1a mask i pt) m).j=false)/\SetTable.layClean.free mask owner fuel i pt=some (B8 mask (a1a mask i pt) n).j
 |0,_,_,⟨r,h,_⟩=>absurd h (by omega)
 |fuel+1,i,pt,⟨r,h,b⟩=>by
  unfold SetTable.layClean.free;have q:i<=SetTable.runEnd mask i:=by
   unfold SetTable.runEnd;split<;>omega
  cases e:(List.range (SetTable.runEnd mask i+1-i)).find? (λk=>(owner.getD (i+k) (some 0)).isNone)with
  |some k =>
   dsimp only;rw[List.find?_range_eq_some]at e;obtain⟨j,l,o⟩:=e;have s:=aR.mp l;refine⟨k,?_,λm d=>?_,?_⟩
   .rw[a1i mask i pt k (by omega)];exact j
   .rw[a1i mask i pt m (by omega)];have:=o m d;simpa[fr]using this
   .rw[a1i mask i pt k (by omega)]
  |none =>
   dsimp only;rw[List.find?_range_eq_none]at e;have a:∀m,m<SetTable.runEnd mask i-i+1->fr owner (B8 mask (a1a mask i pt) m).j=false:=λm d=>by
    rw[a1i mask i pt m (by omega)];have:=e m (by omega);simpa[fr]using this
   cases r with
   |zero =>
    have:=a 0 (by omega);rw[show(B8 mask (a1a mask i pt) 0).j=(L9 mask i pt 0).1 from rfl,b]at this;cases this
   |succ r =>
    have c:fr owner (L9 mask (SetTable.leap mask i pt).1 (SetTable.leap mask i pt).2 r).1=true:=by
     rw[Nat.add_comm,a2t]at b;exact b
    obtain⟨n,h1,h2,p⟩:=a8X mask owner fuel (SetTable.leap mask i pt).1 (SetTable.leap mask i pt).2 ⟨r,by omega,c⟩;have key:∀m,B8 mask (a1a mask i pt) (SetTable.runEnd mask i-i+1+m)=B8 mask (a1a mask (SetTable.leap mask i pt).1 (SetTable.leap mask i pt).2) m:=λm=>by
     rw[a0v,a6e]
    refine⟨SetTable.runEnd mask i-i+1+n,by rw[key];exact h1,λm d=>?_,by rw[key];exact p⟩;by_cases f:m<SetTable.runEnd mask i-i+1
    .exact a m f
    .obtain⟨g,rfl⟩:∃g,m=SetTable.runEnd mask i-i+1+g:=⟨m-(SetTable.runEnd mask i-i+1),by omega⟩;rw[key];exact h2 g (by omega)
structure Lay(mask:Nat)(owner:Array (Option Nat))(hs:List Int):Prop where
 size:owner.size=mask+1
 val:∀j q:Nat,owner[j]?=some (some q)->∃h,hs[q]?=some h/\∃n,pos mask h n=j/\∀m,m<n->fr owner (pos mask h m)=false
 ex:∀q,q<hs.length->∃j:Nat,owner[j]?=some (some q)
 uniq:∀j j' q:Nat,owner[j]?=some (some q)->owner[j']?=some (some q)->j=j'
theorem X0{owner:Array (Option Nat)}{mask j:Nat}(hs:owner.size=mask+1)(a:j<=mask):fr owner j=false↔∃q,owner[j]?=some (some q):=by
 have h:j<owner.size:=by omega
 unfold fr;rw[bw h,show owner.getD j (some 0)=owner[j] by simp[Array.getD,h]];cases owner[j]with
 |none=>simp
 |some q=>simp
theorem Lay.start(mask:Nat):Lay mask (Array.replicate (mask+1) none) []:=by
 refine⟨by simp,λj q h=>?_,λq h=>absurd h (by simp),λj a q h=>?_⟩<;>
 .rw[Array.getElem?_replicate]at h;split at h
  .cases h
  .cases h
theorem Lay.free{mask k:Nat}(z:mask+1=2 ^ k){owner:Array (Option Nat)}{hs:List Int}(L:Lay mask owner hs)(A:hs.length<=mask)(h:Int):∃n,fr owner (pos mask h n)=true/\(∀m,m<n->fr owner (pos mask h m)=false)/\SetTable.layClean.free mask owner (SetTable.turns mask) (SetTable.bits h % (mask+1)) (SetTable.bits h)=some (pos mask h n):=by
 have:∃s,s<=mask/\fr owner s=true:=by
  refine bF λl=>?_;have c:∀s:Nat,s<=mask->∃q,owner[s]?=some (some q):=λs hs=>by
   rw[<-X0 L.size hs];cases e:fr owner s with
   |false=>rfl
   |true=>exact absurd ⟨s,hs,e⟩ l
  have:=nodup_le ((List.range (mask+1)).map λj=>(owner.getD j none).getD 0) (List.range hs.length) ?_ ?_
  .rw[aj,fv,fv]at this;omega
  .rw[eQ,ck];refine(eQ.mp fH).imp_of_mem λ{a b} v w i e=>i ?_;obtain⟨q,d⟩:=c a (by have:=aR.mp v;omega);obtain⟨t,f⟩:=c b (by have:=aR.mp w;omega);have g:owner.getD a none=some q:=by rw[bM,d];rfl
   have u:owner.getD b none=some t:=by rw[bM,f];rfl
   rw[g,u]at e;change q=t at e;exact L.uniq a b q d (e ▸ f)
  .intro x hx;obtain⟨j,y,rfl⟩:=aP.mp hx;obtain⟨q,d⟩:=c j (by have:=aR.mp y;omega);obtain⟨h',h1,_⟩:=L.val j q d;have g:owner.getD j none=some q:=by rw[bM,d];rfl
   rw[g];exact aR.mpr (aC.mp h1).1
 obtain⟨s,o,p⟩:=this;obtain⟨r,B,e⟩:=a5U z h s o;exact a8X mask owner _ _ _ ⟨r,by unfold SetTable.turns;omega,by rw[e];exact p⟩
theorem Lay.put{mask:Nat}{owner:Array (Option Nat)}{hs:List Int}(L:Lay mask owner hs){h:Int}{n:Nat}(h1:fr owner (pos mask h n)=true)(h2:∀m,m<n->fr owner (pos mask h m)=false):Lay mask (owner.setIfInBounds (pos mask h n) (some hs.length)) (hs++[h]):=by
 have p:pos mask h n<owner.size:=by have:=a1b mask h n;rw[L.size];omega
 have i:∀q,owner[pos mask h n]?≠some (some q):=λq z=>by
  have:=(X0 L.size (a1b mask h n)).mpr ⟨q,z⟩;rw[h1]at this;cases this
 have get:∀j:Nat,(owner.setIfInBounds (pos mask h n) (some hs.length))[j]?=if j=pos mask h n then some (some hs.length)else owner[j]?:=λj=>by
  rw[Array.getElem?_setIfInBounds];by_cases e:pos mask h n=j
  .rw[ay e,ay e.symm,ay p]
  .rw[ar e,ar λz=>e z.symm]
 have d:(owner.setIfInBounds (pos mask h n) (some hs.length)).size=mask+1:=by rw[fb,L.size]
 have keep:∀j,j<=mask->fr owner j=false->fr (owner.setIfInBounds (pos mask h n) (some hs.length)) j=false:=λj b e=>by
  rw[X0 d b,get];split
  .exact⟨_,rfl⟩
  .exact(X0 L.size b).mp e
 refine⟨d,λj q e=>?_,λq r=>?_,λj k q e a=>?_⟩
 .rw[get]at e;by_cases c:j=pos mask h n
  .rw[ay c]at e;cases e;exact⟨h,by rw[bb (aq _),Nat.sub_self];rfl,n,c.symm,λm g=>keep _ (a1b mask h m) (h2 m g)⟩
  .rw[ar c]at e;obtain⟨h',f,s,l,o⟩:=L.val j q e;exact⟨h',by rw[bo (aC.mp f).1];exact f,s,l,λm g=>keep _ (a1b mask h' m) (o m g)⟩
 .by_cases c:q=hs.length
  .exact⟨pos mask h n,by rw[get,ay rfl,c]⟩
  .rw[az,fK]at r;obtain⟨j,b⟩:=L.ex q (by omega);refine⟨j,?_⟩;rw[get,ar]
   .exact b
   .intro z;exact i q (z ▸ b)
 .rw[get]at e a;have lt:∀j:Nat,owner[j]?=some (some q)->q<hs.length:=λj z=>by
   obtain⟨_,f,_⟩:=L.val j q z;exact(aC.mp f).1
  by_cases c:j=pos mask h n
  .by_cases c':k=pos mask h n
   .rw[c,c']
   .rw[ay c]at e;rw[ar c']at a;cases e;exact absurd (lt _ a) (by omega)
  .by_cases c':k=pos mask h n
   .rw[ar c]at e;rw[ay c']at a;cases a;exact absurd (lt _ e) (by omega)
   .rw[ar c]at e;rw[ar c']at a;exact L.uniq j k q e a
theorem a6l{mask k:Nat}(d:mask+1=2 ^ k):∀(rest done:List Int) (owner:Array (Option Nat)),Lay mask owner done->done.length+rest.length<=mask ->
  ∃a,rest.foldl (λacc h=>do
   let (owner,k) <-acc
   let j <-SetTable.layClean.free mask owner (SetTable.turns mask) (SetTable.bits h % (mask+1)) (SetTable.bits h)
   pure (owner.setIfInBounds j (some k),k+1)) (some (owner,done.length))=some (a,(done++rest).length)/\Lay mask a (done++rest)
 |[],done,owner,L,_=>⟨owner,by simp,by simpa using L⟩
 |h::rest,done,owner,L,f=>by
  rw[aU]at f;obtain⟨n,h1,h2,e⟩:=L.free d (by omega) h;obtain⟨a,b,c⟩:=a6l d rest (done++[h]) _ (L.put h1 h2) (by rw[az,fK];omega);refine⟨a,?_,by rw[aF]at c;exact c⟩;rw[dF];rw[aF]at b;refine Eq.trans (aO (λz=>List.foldl _ z rest) ?_) b;show(Option.bind (SetTable.layClean.free mask owner (SetTable.turns mask) (SetTable.bits h % (mask+1)) (SetTable.bits h)) λj=>some (owner.setIfInBounds j (some done.length),done.length+1))=_;rw[e,az];rfl
theorem a6m{mask k:Nat}(d:mask+1=2 ^ k)(a:Array Int)(e:a.size<=mask):∃owner,SetTable.layClean mask a=some owner/\Lay mask owner a.toList:=by
 obtain⟨owner,b,c⟩:=a6l d a.toList [] _ (Lay.start mask) (by simpa using e);refine⟨owner,?_,c⟩;unfold SetTable.layClean;rw[<-Array.foldl_toList];exact aO (Option.map (·.1)) b
theorem a7E{α β:Type}(f:α->Option β):∀l:List α,(∀x∈l,(f x).isSome=true)->(l.filterMap f).map some=l.map f
 |[],_=>rfl
 |x::l,h=>by
  have c:=a7E f l λy b=>h y (ak _ b);have a:=h x au;cases e:f x with
  |none=>rw[e]at a;cases a
  |some y=>rw[List.filterMap_cons_some e,aV,aV,c,e]
theorem b1B{α:Type}(es:Array α):(List.range es.size).filterMap (es[·]?)=es.toList:=by
 have h1:((List.range es.size).filterMap (es[·]?)).map some=(List.range es.size).map (es[·]?):=a7E _ _ λq a=>by
  have:=aR.mp a;simp[this]
 have h2:es.toList.map some=(List.range es.size).map (es[·]?):=by
  refine dq (by simp) λi h1 h2=>?_;simp at h1;simp[h1]
 exact(List.map_inj_right (λ_ _ h=>bC h)).mp (h1.trans h2.symm)
def C9(mask:Nat)(owner:Array (Option Nat)):List (Nat×Nat):=(List.range (mask+1)).filterMap λj=>(owner.getD j none).map (j,·)
theorem M9{mask:Nat}{owner:Array (Option Nat)}(hs:owner.size=mask+1)(j q:Nat):(j,q)∈C9 mask owner↔owner[j]?=some (some q):=by
 unfold C9;rw[b_];constructor
 .rintro⟨j',a,e⟩;have a:=aR.mp a;rw[ei]at e;obtain⟨f,b,c⟩:=e;cases c;rw[bM,bw (by omega)]at b;rw[bw (by omega)];exact aO some b
 .intro e;have d:j<owner.size:=(cX.mp e).1;exact⟨j,aR.mpr (by omega),by rw[bM,e];rfl⟩
theorem b2w(mask:Nat)(owner:Array (Option Nat)):(C9 mask owner).Pairwise λa b=>a.1<b.1:=by
 unfold C9;refine List.Pairwise.filterMap _ (λa b c p d q e=>?_) List.pairwise_lt_range;rw[ei]at d e;obtain⟨_,_,rfl⟩:=d;obtain⟨_,_,rfl⟩:=e;exact c
theorem b4T{α:Type}{mask k:Nat}(E:mask+1=2 ^ k)(I:3<=k)(es:Array (Int×α))(F:es.size<=mask)(finger moves:Nat)(led plain:Bool) :
  ∃t' d,SetTable.laid mask finger moves led plain (es.map (·.1))=some (t',d)/\t'.mask=mask/\t'.led=led/\t'.plain=plain/\TabOk t' (d.filterMap (es[·]?))/\(d.filterMap (es[·]?)).toList.Perm es.toList:=by
 obtain⟨c,e,L⟩:=a6m E (es.map (·.1)) (by simpa using F);refine⟨{mask,place:=((C9 mask c).map (·.1)).toArray,dummies:=#[],finger,led,moves,plain},((C9 mask c).map (·.2)).toArray,?_,rfl,rfl,rfl,?_⟩
 .unfold SetTable.laid;rw[e];rfl
 have A:∀p∈C9 mask c,p.2<es.size:=λp o=>by
  obtain⟨h,h1,_⟩:=L.val p.1 p.2 ((M9 L.size p.1 p.2).mp o);have:=(aC.mp h1).1;simpa using this
 have w:=b2w mask c;have nd:((C9 mask c).map (·.2)).Nodup:=by
  rw[eQ,ck];refine w.imp_of_mem λ{a b} J M K z=>?_;have h1:=(M9 L.size a.1 a.2).mp J;have h2:=(M9 L.size b.1 b.2).mp M;rw[z]at h1;have:=L.uniq _ _ _ h1 h2;omega
 have g:∀q,q∈(C9 mask c).map (·.2)↔q∈List.range es.size:=λq=>by
  rw[aR];constructor
  .intro u;obtain⟨p,o,rfl⟩:=aP.mp u;exact A p o
  .intro u;obtain⟨j,s⟩:=L.ex q (by simpa using u);exact aP.mpr ⟨(j,q),(M9 L.size j q).mpr s,rfl⟩
 have perm:((C9 mask c).map (·.2)).Perm (List.range es.size):=(List.perm_ext_iff_of_nodup nd fH).mpr g;have r:∀l:List Nat,(l.toArray.filterMap (es[·]?)).toList=l.filterMap (es[·]?):=λl=>by simp
 have f:(((C9 mask c).map (·.2)).filterMap (es[·]?)).map some=((C9 mask c).map (·.2)).map (es[·]?):=a7E _ _ λq u=>by
  have:=aR.mp ((g q).mp u);simp[this]
 have v:(((C9 mask c).map (·.2)).toArray.filterMap (es[·]?)).size=(C9 mask c).length:=by
  have:=aO List.length f;rw[aj,aj,aj]at this;rw[<-ax,r];exact this
 have t:(C9 mask c).length=es.size:=by
  have:=perm.length_eq;rw[aj,fv]at this;exact this
 refine⟨⟨?_,rfl,?_,λj s=>?_,⟨k,I,E⟩,by rw[v,t];exact F,λi j y x D=>?_⟩,?_⟩
 .rw[v];simp
 .rw[ris_list];show((C9 mask c).map (·.1)).Pairwise (· < ·);rw[ck];exact w
 .have s:j∈(C9 mask c).map (·.1):=by simpa using s
  obtain⟨p,o,rfl⟩:=aP.mp s;have:=(cX.mp ((M9 L.size p.1 p.2).mp o)).1;rw[L.size]at this;show p.1<=mask;omega
 .have x:((C9 mask c).map (·.1))[i]?=some j:=by simpa using x
  rw[<-av,r]at D;rw[aW,ei]at x;obtain⟨p,o,rfl⟩:=x;have h1:=aO (λl=>l[i]?) f;simp only[aW,D,o,eU]at h1;injection h1 with h1
  have B:=(M9 L.size p.1 p.2).mp (aH o);obtain⟨h,q1,n,G,H⟩:=L.val p.1 p.2 B;have N:h=y.1:=by
   rw[av,Array.getElem?_map,<-h1]at q1;injection q1 with q1
   exact q1.symm
  rw[N]at G H;refine⟨n,G,λm O=>?_⟩;obtain⟨P,C⟩:=(X0 L.size (a1b mask _ m)).mp (H m O);have:pos mask y.1 m∈(C9 mask c).map (·.1):=aP.mpr ⟨_,(M9 L.size _ P).mpr C,rfl⟩;show pos mask y.1 m∈((C9 mask c).map (·.1)).toArray;simpa using this
 .rw[r];refine(perm.filterMap _).trans (List.Perm.of_eq ?_);exact b1B es
theorem a8r(n:Nat):∀(fuel a:Nat),3<=a->n<2 ^ (a+fuel)->∃b,3<=b/\SetTable.sizeAbove.go n fuel (2 ^ a)=2 ^ b/\n<2 ^ b/\(b=a∨2 ^ b<=2*n)
 |0,a,c,h=>⟨a,c,rfl,h,.inl rfl⟩
 |fuel+1,a,c,h=>by
  unfold SetTable.sizeAbove.go;by_cases d:2 ^ a<=n
  .rw[ay d,<-dh];obtain⟨b,e,f,g,i⟩:=a8r n fuel (a+1) (by omega) (by rw[dW,Nat.add_comm 1];exact h);refine⟨b,e,f,g,.inr ?_⟩;rcases i with z|z
   .rw[z,dh];omega
   .exact z
  .rw[ar d];exact⟨a,c,rfl,by omega,.inl rfl⟩
theorem a0z(n:Nat)(h:n<2 ^ 60):∃b,3<=b/\SetTable.sizeAbove n=2 ^ b/\n<2 ^ b/\(b=3∨2 ^ b<=2*n) :=
 a8r n 64 3 (aq _) (aE h (by decide))
theorem a9G{α:Type}(t:SetTable)(es:Array (Int×α))(a:Nat)(hw:a<2 ^ 60)(m:es.size<a) :
  ∃t' c,t.relaid (es.map (·.1)) a=some (t',c)/\a<=t'.mask/\t'.mask<=2*a+7/\t'.led=t.led/\t'.plain=t.plain/\TabOk t' (c.filterMap (es[·]?))/\(c.filterMap (es[·]?)).toList.Perm es.toList:=by
 obtain⟨b,d,e,l,f⟩:=a0z a hw;have n:0<2 ^ b:=Nat.pow_pos (by decide);unfold SetTable.relaid;rw[e];obtain⟨t',c,h1,h2,g,h,i,j⟩:=b4T (mask:=2 ^ b-1) (k:=b) (by omega) d es (by omega) t.finger (t.movedTo (2 ^ b-1)) t.led t.plain;refine⟨t',c,h1,by rw[h2];omega,?_,g,h,i,j⟩;rw[h2];rcases f with z|z
 .rw[z];omega
 .omega
end Tab
end L2
namespace L2
namespace Tab
open PySem
section
variable {prog:Program}{w:World}{A:Around}{E:Value->Shared->Prop}{s:Shared}
abbrev TK(prog:Program)(w:World)(h:Heap)(r:List Int)(a:Addr):Prop:=IsTupleKey (intKind prog w) h r a
theorem TK.keep{h h':Heap}{r:List Int}{a:Addr}(x:TK prog w h r a)(k:∀b o,h.get? b=some o->h'.get? b=some o):TK prog w h' r a:=by
 obtain⟨o,its,n,h1,h2⟩:=x;exact⟨o,its,n,k _ _ h1,h2⟩
theorem items_int{r:List Int}{vs:List Value}(h:ItemsAre (intKind prog w) r vs):∀v∈vs,∃i t,v=.int i t:=by
 induction h with
 |nil=>intro v b;cases b
 |@cons k v ks vs h1 _ c =>
  intro u a;rcases aI.mp a with e|a
  .obtain⟨t,ht⟩:=Value.isInt_shape h1;exact⟨k,t,e.trans ht⟩
  .exact c u a
theorem a6c{r:List Int}{a:Addr}{Q:Bool->Shared->Prop}(e:TK prog w s.heap r a)(h:Q false s):wpAny (model prog w) A (ofAClassStatement 8 (.ref a)) Q E s:=by
 have f:=e.typeIs;obtain⟨o,d,n,g,_,hd,hi⟩:=e;have c:=items_int hi;unfold ofAClassStatement;refine aa (eD f ?_);dsimp only;rw[ay (by decide)];refine aa (ae ?_);rw[ar (by decide)];refine aa (cP g hd ?_);dsimp only;refine aa ?_;rw[<-Array.forIn_toList];refine wpAny_forIn_list _ (λrest b s'=>s'=s/\b.1=none/\∀v∈rest,∃i t,v=Value.int i t) _ ?_ ?_ _ _ ⟨rfl,rfl,c⟩
 .rintro x rest b s' ⟨rfl,hb,hr⟩;obtain⟨i,t,rfl⟩:=hr x au;refine aa (m:=ofAClassStatement 7 (.int i t)) (ae ?_);rw[ar (by decide)];exact ae ⟨rfl,rfl,λv j=>hr v (ak _ j)⟩
 .rintro b s' ⟨rfl,hb,_⟩;rw[hb];exact ae h
theorem b3p{r:List Int}{a:Addr}{Q:Bool->Shared->Prop}(e:TK prog w s.heap r a)(h:Q true s):wpAny (model prog w) A (hashByValue 8 (.ref a)) Q E s:=by
 have f:=e.typeIs;obtain⟨o,c,n,g,_,hd,hi⟩:=e;have d:=items_int hi;unfold hashByValue;refine aa (wpAny_specialOf f F.slot_tuple_hash.lookup ?_);dsimp only;refine aa (cP g hd ?_);refine aa ?_;show wpAny _ _ (forIn c _ _) _ _ _;rw[<-Array.forIn_toList];refine wpAny_forIn_list _ (λrest b s'=>s'=s/\b.1=none/\∀v∈rest,∃i t,v=Value.int i t) _ ?_ ?_ _ _ ⟨rfl,rfl,d⟩
 .rintro x rest b s' ⟨rfl,hb,hr⟩;obtain⟨i,t,rfl⟩:=hr x au;refine aa (m:=hashByValue 7 (.int i t)) (ae ?_);rw[ar (by decide)];exact ae ⟨rfl,rfl,λv j=>hr v (ak _ j)⟩
 .rintro b s' ⟨rfl,hb,_⟩;rw[hb];exact ae h
theorem b2q{r:List Int}{b:Addr}{l:List Value}{Q:Bool->Shared->Prop}(f:TK prog w s.heap r b)(g:∀y∈l,∃a b',y=.ref b'/\TK prog w s.heap a b')(h:Q false s):wpAny (model prog w) A (searchCouldBeSeen (.ref b) l) Q E s:=by
 unfold searchCouldBeSeen;refine aa ?_;refine wpAny_forIn_list _ (λrest c s'=>s'=s/\c.1=none/\∀y∈rest,∃a b',y=.ref b'/\TK prog w s.heap a b') _ ?_ ?_ _ _ ⟨rfl,rfl,g⟩
 .rintro x rest c s' ⟨rfl,hc,hr⟩;obtain⟨a,b',rfl,d⟩:=hr x au;have e:∀y∈rest,∃a b',y=.ref b'/\TK prog w s'.heap a b':=λv i=>hr v (ak _ i);dsimp only;split
  .exact ae ⟨rfl,rfl,e⟩
  .refine aa ((tupleKind (intKind prog w)).quiet f ?_);rw[ar (by decide)];refine aa ((tupleKind (intKind prog w)).quiet d ?_);rw[ar (by decide)];refine aa (a6c f ?_);rw[ar (by decide)];refine aa (a6c d ?_);rw[ar (by decide)];exact ae ⟨rfl,rfl,e⟩
 .rintro c s' ⟨rfl,hc,_⟩;dsimp only;rw[hc];exact ae h
noncomputable def hsh(prog:Program)(w:World)(r:List Int):Int:=tupleKeyHash (intKind prog w) r
noncomputable def ent(prog:Program)(w:World)(x:List Int×Addr):Int×Value:=(hsh prog w x.1,Value.ref x.2)
theorem G6{α:Type}{t:SetTable}{es:Array (Int×α)}(ok:TabOk t es):t.fits es.size=true:=by
 unfold SetTable.fits SetTable.fill;have:=ok.room;simp[ok.size,ok.dum,this]
theorem b7e{α:Type}{t:SetTable}{es:Array (Int×α)}(ok:TabOk t es):t.gaveWay=false:=by
 obtain⟨k,b,a⟩:=ok.pow;obtain⟨c,rfl⟩:∃c,k=c+1:=⟨k-1,by omega⟩;rw[dh]at a;unfold SetTable.gaveWay;have:t.mask % 2=1:=by omega
 rw[this];rfl
theorem b2y{c:Bool}{m:Sem Bool}{X Y:Sem SetFound}{Q:SetFound->Shared->Prop}(b:∀a:Bool->Shared->Prop,a false s->wpAny (model prog w) A m a E s)(h:wpAny (model prog w) A Y Q E s):wpAny (model prog w) A (if c=true then m>>=λz=>if z=true then X else Y else Y) Q E s:=by
 split
 .refine aa (b _ ?_);rw[ar (by decide)];exact h
 .exact h
theorem a3J{a b:Addr}{r:List Int}{o:Obj}{es:Array (Int×Value)}{ep:Nat}{t:SetTable}{xs:List (List Int×Addr)}{Q:SetFound->Shared->Prop}(S:s.heap.get? a=some o)(hd:o.data=.set es ep t)(ok:TabOk t es)
  (F:∀e∈es.toList,∃x∈xs,e=ent prog w x) (M:∀x∈xs,ent prog w x∈es.toList) (g:∀x∈xs,TK prog w s.heap x.1 x.2) (R:TK prog w s.heap r b) (X:A.units<cLine) {N:Nat}(Z:N<10*SetTable.turns t.mask) (j:pos t.mask (hsh prog w r) N∉t.place) (q:∀m,m<N->pos t.mask (hsh prog w r) m∈t.place)
  (J:r∈xs.map (·.1)->Q (.there none) s) (B:r∉xs.map (·.1)->Q (.free (pos t.mask (hsh prog w r) N) false) s) :
  ∀(fuel d:Nat) (st:Option SetTable.Probe),N-d<fuel->d<=N->st.getD (t.probeStart (hsh prog w r))=B8 t.mask (st0 t.mask (hsh prog w r)) d->(∀m,m<d->∀(i:Nat) (x:List Int×Addr),x∈xs->t.place[i]?=some (pos t.mask (hsh prog w r) m)->es[i]?=some (ent prog w x)->x.1≠r) ->
   wpAny (model prog w) A (setSearchFrom a (.ref b) (hsh prog w r) true fuel st) Q E s
 |0,d,st,h,_,_,_=>absurd h (by omega)
 |fuel+1,d,st,hf,a2,U,L=>by
  unfold setSearchFrom;refine aa (cv S hd (G6 ok) ?_);dsimp only;rw[b7e ok,ar (by decide),U];have f:∀m,(B8 t.mask (B8 t.mask (st0 t.mask (hsh prog w r)) d) m).j=pos t.mask (hsh prog w r) (d+m):=λm=>by rw[<-a0v];rfl
  have W:∀(i:Nat) (e:Int×Value),es[i]?=some e->(es[i]?.map (·.1)).getD 0=e.1:=λi e z=>by rw[z];rfl
  have O:∀n,d+n<N↔pos t.mask (hsh prog w r) (d+n)∈t.place/\∀m,m<n->pos t.mask (hsh prog w r) (d+m)∈t.place:=λn=>by
   constructor
   .intro h;exact⟨q _ h,λm K=>q _ (by omega)⟩
   .rintro⟨h1,h2⟩;rcases dk (d+n) N with z|z|z
    .exact z
    .rw[z]at h1;exact absurd h1 j
    .have:=h2 (N-d) (by omega);rw[show d+(N-d)=N by omega]at this;exact absurd this j
  rcases a5Y ok.ris ok.dum (λi=>(es[i]?.map (·.1)).getD 0) (hsh prog w r) (10*SetTable.turns t.mask) (B8 t.mask (st0 t.mask (hsh prog w r)) d) (by rw[a0X];rfl) ⟨N-d,by omega,by rw[f,show d+(N-d)=N by omega];exact j⟩with⟨n,h1,h2,h3⟩|⟨n,h1,h2,h3,h4⟩
  .have h3:t.probe (λi=>(es[i]?.map (·.1)).getD 0) (hsh prog w r) (B8 t.mask (st0 t.mask (hsh prog w r)) d)=_:=h3;erw [h3];dsimp only;rw[f]at h1⊢;have e:d+n=N:=by
    rcases dk (d+n) N with z|z|z
    .exact absurd (q _ z) h1
    .exact z
    .have:=(h2 (N-d) (by omega)).1;rw[f,show d+(N-d)=N by omega]at this;exact absurd this j
   rw[e];refine ae (B λK=>?_);obtain⟨x,H,rfl⟩:=aP.mp K;obtain⟨i,hi⟩:=bR.mp (M x H);rw[av]at hi;have u:i<t.place.size:=by rw[ok.size];exact(cX.mp hi).1
   obtain⟨p,q1,Y⟩:=ok.reach i _ _ (a0K u) hi;change pos t.mask (hsh prog w x.1) p=_ at q1;change ∀m,m<p->pos t.mask (hsh prog w x.1) m∈t.place at Y;have k:t.place[i]?=some (pos t.mask (hsh prog w x.1) p):=by rw[q1];exact a0K u
   have a1:p<N:=by
    rcases dk p N with z|z|z
    .exact z
    .rw[z]at k;exact absurd (Array.mem_of_getElem? k) j
    .exact absurd (Y N z) j
   by_cases c:p<d
   .exact L p c i x H k hi rfl
   .have C:=(h2 (p-d) (by omega)).2;rw[f,show d+(p-d)=p by omega,a0S ok.ris k,W i _ hi]at C;exact C rfl
  .have h4:t.probe (λi=>(es[i]?.map (·.1)).getD 0) (hsh prog w r) (B8 t.mask (st0 t.mask (hsh prog w r)) d)=_:=h4;erw [h4];dsimp only;rw[f]at h1 h2⊢;have a0:d+n<N:=(O n).mpr ⟨h1,λm K=>by have:=(h3 m K).1;rw[f]at this;exact this⟩;have k:=(a1o ok.ris _).mpr h1;generalize I:SetTable.below t.place (pos t.mask (hsh prog w r) (d+n))=ib at h2 k⊢;have u:ib<es.size:=by rw[<-ok.size];exact(cX.mp k).1
   obtain⟨x,H,ex⟩:=F es[ib] (by simp);have D:es[ib]?=some (ent prog w x):=by rw[bw u,ex]
   rw[D];dsimp only;refine b2y (λQ' hq=>b2q R (λy hy=>?_) hq) ?_
   .obtain⟨e,P,rfl⟩:=aP.mp hy;have P:e∈es:=by
     have:=eH.mp P;exact(Array.mem_filter.mp this).1
    obtain⟨G,v,ex'⟩:=F e (by simpa using P);exact⟨G.1,G.2,by rw[ex'];rfl,g G v⟩
   refine aa (cc ((tupleKind (intKind prog w)).eqBool X (g x H) R ?_));refine aa (cv S hd (G6 ok) ?_);dsimp only;by_cases l:x.1=r
   .rw[ay (by rw[bz l];rfl)];exact ae (J (aP.mpr ⟨x,H,l⟩))
   .rw[ar (by rw[cp l];decide)];have sm:t.sameMemory t.moves t.mask=some true:=by unfold SetTable.sameMemory;simp
    rw[sm];dsimp only;rw[ay rfl,a8q ok.ris ok.dum,ay h1];dsimp only;rw[I,D];dsimp only;refine aa (wpAny_isSame_ref_self ?_);rw[ay rfl];refine aa (ae ?_);dsimp only;rw[ar (by rw[cp l];decide)];refine a3J S hd ok F M g R X Z j q J B fuel (d+n+1) _ (by omega) (by omega) (by rw[<-a0v];rfl) λm K i G v T hi=>?_;by_cases c:m<d
    .exact L m c i G v T hi
    .by_cases c2:m=d+n
     .subst c2;have:ib=i:=by rw[<-I];exact a0S ok.ris T
      subst this;rw[D]at hi;injection hi with hi
      have C:x.2=G.2:=by
       have:=aO Prod.snd hi;injection this
      intro z;have V:=g x H;rw[C]at V;exact l ((V.inj (g G v)).trans z)
     .have C:=(h3 (m-d) (by omega)).2;rw[f,show d+(m-d)=m by omega,a0S ok.ris T,W i _ hi]at C;intro z;exact C (by rw[<-z];rfl)
def X6(prog:Program)(w:World)(ld:Bool)(h:Heap)(a:Addr)(xs:List (List Int×Addr)):Prop :=
 ∃o es ep t,h.get? a=some o/\o.ExactSet/\o.data=.set es ep t/\es.toList.Perm (xs.map (ent prog w))/\TabOk t es/\t.plain=true/\es.size*5<t.mask*3/\t.mask<=8*xs.length+7/\t.led=ld
theorem b7M{ld:Bool}{a b:Addr}{r:List Int}{xs:List (List Int×Addr)}{Q:Bool->Shared->Prop}(hS:X6 prog w ld s.heap a xs)(L:∀x∈xs,TK prog w s.heap x.1 x.2)(Z:TK prog w s.heap r b)(hu:A.units<cLine)(hl:xs.length<1000)
  (h:∀h' H c,Heap.SameBut a s.heap h'->X6 prog w ld h' a H->((r∈xs.map (·.1)/\H=xs)∨(r∉xs.map (·.1)/\H=(r,b)::xs))->Q c {s with heap:=h',toks:=s.toks+(r.length+1)}):wpAny (model prog w) A (setAdd a (.ref b)) Q E s:=by
 obtain⟨o,es,ep,t,I,C,hd,q,ok,F,a1,a0,O⟩:=hS;have a2:es.size=xs.length:=by rw[<-ax,q.length_eq,aj]
 unfold setAdd;refine cc (aa (wpAny_pyHash_tuple hu Z ?_));unfold setAddHashed;refine cc ?_;unfold setAddHashedIn;refine aa (cv (s:={s with toks:=s.toks+(r.length+1)}) I hd (G6 ok) ?_);dsimp only;rw[show byScan (.ref b) es=false from rfl,ar (by decide)];unfold setSearch;obtain⟨N,hN,J,K⟩:=ok.first (hsh prog w r);have a6:N<100000:=by unfold SetTable.turns at hN;omega
 refine aa (a3J (s:={s with toks:=s.toks+(r.length+1)}) (xs:=xs) I hd ok (λe he=>?_) (λx hx=>q.mem_iff.mpr (aP.mpr ⟨x,hx,rfl⟩)) L Z hu hN J K (λY=>?_) (λB=>?_) 100000 0 none (by omega) (bq _) rfl (λm hm=>absurd hm (by omega)))
 .obtain⟨x,hx,rfl⟩:=aP.mp (q.mem_iff.mp he);exact⟨x,hx,rfl⟩
 .refine ae ?_;exact h s.heap xs false (Heap.SameBut.refl a s.heap) ⟨o,es,ep,t,I,C,hd,q,ok,F,a1,a0,O⟩ (.inl ⟨Y,rfl⟩)
 .dsimp only;refine aa (cv (s:={s with toks:=s.toks+(r.length+1)}) I hd (G6 ok) ?_);dsimp only;rw[ay (show(t.put (pos t.mask (hsh prog w r) N)).1.plain=true from F)];refine aa (b3p (s:={s with toks:=s.toks+(r.length+1)}) Z ?_);simp only[↓reduceIte,Bool.not_false,Bool.true_and];have k:=ok.add (v:=Value.ref b) J K (a1b _ _ _) (by omega);have P:(t.put (pos t.mask (hsh prog w r) N)).1.mask=t.mask:=rfl;have p:(t.put (pos t.mask (hsh prog w r) N)).1.plain=true:=F;have n:(t.put (pos t.mask (hsh prog w r) N)).1.led=ld:=O;have V:(t.put (pos t.mask (hsh prog w r) N)).2<=es.size:=by
   have:=(G9 ok.ris (pos t.mask (hsh prog w r) N)).1;rw[ok.size]at this;exact this
  have M:=W8 es (t.put (pos t.mask (hsh prog w r) N)).2 (hsh prog w r,Value.ref b) V;change wpAny _ _ (storeSet a (SetTable.insertAt es (t.put (pos t.mask (hsh prog w r) N)).2 (hsh prog w r,Value.ref b)) _>>=_) _ _ _;generalize (t.put (pos t.mask (hsh prog w r) N)).1=l at k P p n⊢;generalize SetTable.insertAt es (t.put (pos t.mask (hsh prog w r) N)).2 (hsh prog w r,Value.ref b)=d at k M⊢;have u:d.toList.Perm (((r,b)::xs).map (ent prog w)):=by
   rw[M];refine List.perm_middle.trans ?_;rw[bj,aV];exact List.Perm.cons _ q
  have R:d.size=xs.length+1:=by rw[<-ax,u.length_eq,aj,aU]
  have S:d.size<=sizeLine:=by rw[ba];omega
  refine aa (wpAny_storeSet_of (s:={s with toks:=s.toks+(r.length+1)}) I hd ?_ S);have y:(s.heap.update a (Obj.putSet d l)).get? a=some {o with data:=.set d (ep+1) l}:=by
   have:=cD (Obj.putSet d l) I (by rw[putSet_of d l hd];rfl);rw[putSet_of d l hd]at this;exact this
  have U:=bS s.heap a (Obj.putSet d l);have hf1:l.fill=d.size:=by unfold SetTable.fill;rw[k.size,k.dum];rfl
  by_cases f:l.tooFull=true
  .rw[ay f];unfold SetTable.tooFull at f;rw[hf1,bY]at f;refine aa ?_;unfold setRelay;refine aa (cv (s:={s with heap:=s.heap.update a (Obj.putSet d l),toks:=s.toks+(r.length+1)}) y rfl (G6 k) ?_);dsimp only;have X:SetTable.grown (es.size+1)=4*(xs.length+1):=by
    unfold SetTable.grown;rw[ar (by omega),a2];omega
   rw[X];obtain⟨sb,a5,a3,a8,a4⟩:=a0z (4*(xs.length+1)) (by omega);have a7:SetTable.sizeAbove (4*(xs.length+1))<=16000:=by
    rw[a3];rcases a4 with z|z
    .rw[z];decide
    .omega
   rw[ar (by rw[ba];omega)];obtain⟨G,g,r1,r2,r3,r4,r5,T,D⟩:=a9G l d (4*(xs.length+1)) (by omega) (by omega);rw[r1];have i:(g.filterMap (d[·]?)).size=d.size:=by rw[<-ax,D.length_eq,ax]
   refine aa ?_;show wpAny _ _ (if ((g.filterMap (d[·]?)).size != d.size)=true then _ else pure (g.filterMap (d[·]?),G)) _ _ _;rw[ar (by rw[i];simp)];refine ae ?_;dsimp only;generalize g.filterMap (d[·]?)=j at T D i⊢;refine wpAny_storeSet_of (s:={s with heap:=s.heap.update a (Obj.putSet d l),toks:=s.toks+(r.length+1)}) y rfl ?_ (by rw[i];exact S);have W:((s.heap.update a (Obj.putSet d l)).update a (Obj.putSet j G)).get? a=some {o with data:=.set j (ep+1+1) G}:=by
    have:=cD (Obj.putSet j G) y (by rw[putSet_of j G rfl];rfl);rw[putSet_of j G rfl]at this;exact this
   refine ae (h _ ((r,b)::xs) true (U.trans (bS _ a _)) ⟨_,j,_,G,W,C,rfl,D.trans u,T,by rw[r5];exact p,?_,?_,by rw[r4];exact n⟩ (.inr ⟨B,rfl⟩))
   .rw[i,R];omega
   .rw[aU];omega
  .rw[ar f];unfold SetTable.tooFull at f;rw[hf1,bY]at f;refine ae (h _ ((r,b)::xs) true U ⟨_,d,_,l,y,C,rfl,u,k,p,by omega,?_,n⟩ (.inr ⟨B,rfl⟩));rw[aU,P];omega
end
end Tab
end L2
namespace L2
namespace Tab
open PySem
structure Came(rows:Nat->List Int×Addr)(i:Nat)(xs:List (List Int×Addr)):Prop where
 len:xs.length<=i
 nd:(xs.map (·.1)).Nodup
 from_:∀x∈xs,∃j,j<i/\x=rows j
 all:∀j,j<i->(rows j).1∈xs.map (·.1)
section
variable {prog:Program}{w:World}{A:Around}{R:Result->Shared->Prop}{I:Addr}{fp wr:List Addr}{G:Array GenState->Array GenState->Prop}{n:Nat}{P:Nat->Value->Prop}{St:Nat->Shared->Prop}
theorem a5H(W:WalksS prog w A.in1 I fp wr G n P St)(S:Addr)(C:S∉fp){ld:Bool}{h0:Heap}(K:∀b o,h0.get? b=some o->b∉wr/\b≠S)(a:Nat->List Int×Addr)
  (J:∀i v,i<n->P i v->v=.ref (a i).2) (hrow:∀i,i<n->TK prog w h0 (a i).1 (a i).2) (hn:n<=1000) (hu:A.units+10<cLine) :
  ∀(k i:Nat) (s:Shared) (xs:List (List Int×Addr)),n-i=k->i<=n->St i s->(∀b o,h0.get? b=some o->s.heap.get? b=some o)->X6 prog w ld s.heap S xs->Came a i xs ->
   (∀s' f,Moved (S::wr) G s s'->X6 prog w ld s'.heap S f->Came a n f->R (.ok (.ret .none)) s') ->
   codeAny (model prog w) A (.builtin "set.update.loop" ⟨[.ref S,.ref I],[]⟩) R s:=by
 have D:S∉wr:=λh=>C (W.sub _ h);have l:∀b∈wr,b∈S::wr:=λb E=>ak _ E;intro k;induction k with
 |zero =>
  intro i s xs hk hi q u Q d hR;have V:i=n:=by omega
  subst V;refine dZ PyProof.Rows.F.entry_set_update_loop ?_;rw[fW dD _];show wpAny _ A.in1 (pyNext (.ref I)>>=_) _ _ s;refine aa (W.done s _ _ q λs' r=>?_);show wpAny _ A.in1 (ret Value.none) _ _ s';refine ae (hR s' xs (r.mono l) ?_ d);obtain⟨o,es,ep,t,X,rest⟩:=Q;exact⟨o,es,ep,t,r.heap S _ D X,rest⟩
 |succ k ih =>
  intro i s xs hk hi q u Q d hR;have g:i<n:=by omega
  refine dZ PyProof.Rows.F.entry_set_update_loop ?_;rw[fW dD _];show wpAny _ A.in1 (pyNext (.ref I)>>=_) _ _ s;refine aa (W.item i s _ _ g q λv s' hP H r=>?_);obtain rfl:=J i v g hP;have T:X6 prog w ld s'.heap S xs:=by
   obtain⟨o,es,ep,tb,X,rest⟩:=Q;exact⟨o,es,ep,tb,r.heap S _ D X,rest⟩
  have m:∀b o,h0.get? b=some o->s'.heap.get? b=some o:=λb o e=>r.heap b o (K b o e).1 (u b o e);show wpAny _ A.in1 (holding [Value.ref (a i).2] (setAdd S (.ref (a i).2))>>=_) _ _ s';refine aa (cc (b7M T (λx L=>?_) ((hrow i g).keep m) (show A.units+1<cLine by omega) (by have:=d.len;omega) λh' f c p U Y=>?_))
  .obtain⟨j,N,rfl⟩:=d.from_ x L;exact(hrow j (by omega)).keep m
  have O:Came a (i+1) f:=by
   rcases Y with⟨h1,rfl⟩|⟨h1,rfl⟩
   .refine⟨by have:=d.len;omega,d.nd,λx L=>?_,λj N=>?_⟩
    .obtain⟨j,N,e⟩:=d.from_ x L;exact⟨j,by omega,e⟩
    .by_cases c:j=i
     .rw[c];exact h1
     .exact d.all j (by omega)
   .refine⟨by have:=d.len;rw[aU];omega,by rw[aV,cG];exact⟨h1,d.nd⟩,λx L=>?_,λj N=>?_⟩
    .rcases aI.mp L with z|z
     .exact⟨i,by omega,z⟩
     .obtain⟨j,N,e⟩:=d.from_ x z;exact⟨j,by omega,e⟩
    .rw[aV];by_cases c:j=i
     .rw[c];exact au
     .exact ak _ (d.all j (by omega))
  refine ae ⟨plainId_quiet dD _,ih (i+1) _ f (by omega) g (W.frame _ s' _ _ H (cj _ _) λb E o e=>?_) (λb o e=>?_) U O λZ M F B y=>?_⟩
  .rw[p.2 b (λh:b=S=>C (by rw[<-h];exact E))];exact e
  .show h'.get? b=some o;rw[p.2 b (K b o e).2];exact m b o e
  .refine hR Z M (Moved.trans W.gtrans ((r.mono l).then_heap (cj _ _) λb o E e=>?_) F) B y;rw[p.2 b (λh:b=S=>E (by rw[h];exact au))];exact e
end
section
variable {prog:Program}{w:World}{A:Around}{E:Value->Shared->Prop}{s:Shared}
theorem a0j(a:Value){Q₁:Value->Shared->Prop}
  (h:Q₁ (.ref s.heap.objs.size) {s with heap:=s.heap.push {cls:=.type "set",dict:=none,data:=.set #[] 0 (.fresh 0 0 (!w.params.followText "set-order"))}}) :
  codeAny (model prog w) A (.call (.builtin "set.__new__") ⟨[.type "set",a],[]⟩) (wants Q₁ E) s:=by
 refine codeAny_of_tree ?_;show wpAny _ A.in1 (do checkBuiltinCall "set.__new__" ⟨[.type "set",a],[]⟩;again (.builtin "set.__new__" ⟨[.type "set",a],[]⟩)) _ _ s;refine aa (wpAny_of_eq (PySem.F.newCall_set_1 a) (ae ⟨plainId_quiet PySem.F.plain_set_new _,dZ PySem.F.entry_set_new ?_⟩));rw[fW PySem.F.plain_set_new _];unfold Builtin.«set.__new__» Builtin.Frozenset.newClass;have b:=sub_set_self;obtain⟨c,g,d,tk,os⟩:=s;dsimp only
 wp_walk
 refine eO (ae ?_);dsimp only;simp only[newObj];refine aa (wpAny_alloc (ae ?_));exact ae h
theorem a3I{c:Bool}{h:Heap}{a:Addr}(e:h.get? a=some {cls:=.type "set",dict:=none,data:=.set #[] 0 (.fresh 0 0 c)}):X6 prog w c h a [] :=
 ⟨_,#[],0,_,e,⟨rfl,rfl,rfl⟩,rfl,List.Perm.nil,⟨rfl,rfl,λa b h1 h2=>absurd h2 (by simp[SetTable.fresh]),λj d=>by simp[SetTable.fresh]at d,⟨3,aq _,rfl⟩,bq _,λi j e h1 h2=>by simp at h2⟩,rfl,by show 0*5<7*3;decide,by show 7<=8*0+7;decide,rfl⟩
theorem a4t:isSubtype (.type "list") (.type "set")=pure false:=by rw[dO];kernel_rfl
theorem a0n:isSubtype (.type "list") (.type "frozenset")=pure false:=by rw[dO];kernel_rfl
theorem a3x{l:Addr}{items:Array Value}{d:Nat->List Int×Addr}{Q:Value->Shared->Prop}
  (hh:A.handled=none) (hl:s.heap.IsList l items) (y:∀i v,i<items.size->items[i]?=some v->v=.ref (d i).2) (hrow:∀i,i<items.size->TK prog w s.heap (d i).1 (d i).2) (hn:items.size<=1000) (hu:A.units+20<cLine)
  (h:∀(h':Heap) (tk:Nat) (xs:List (List Int×Addr)),X6 prog w (!w.params.followText "set-order") h' s.heap.objs.size xs->Came d items.size xs ->
   (∀b o,b<s.heap.objs.size->s.heap.get? b=some o->h'.get? b=some o)->Q (.ref s.heap.objs.size) {s with heap:=h',toks:=tk}) :
  wpAny (model prog w) A (call (.type "set") [.ref l]) Q E s:=by
 obtain⟨c,tl,T⟩:=PySem.F.called_set.mro;have J:=PySem.F.called_set.made;have W:=PySem.F.called_set.sub;refine fN (codeAny_of_tree ?_);show wpAny _ _ (callAny (.type "set") _) _ _ _;refine ae ⟨Code.quiet_builtin _ (by decide +kernel),dZ PySem.F.entry_type_call ?_⟩;rw[Around.under_plain (weight_type_call_type "set" [.ref l] []) rfl];have h1:=PySem.F.called_set.notType;have h2:=PySem.F.called_set.canCreate;have a1:=PySem.F.typeCall_set_1 (.ref l)
 repeat (any_goals (first|assumption|wp_step))
 refine cU (a0j (.ref l) (E:=E) (Q₁:=λz s₁=>z=.ref s.heap.objs.size/\s₁={s with heap:=s.heap.push {cls:=.type "set",dict:=none,data:=.set #[] 0 (.fresh 0 0 (!w.params.followText "set-order"))}}) ⟨rfl,rfl⟩) λr s₁ K=>?_;cases r with
 |error e=>exact K
 |ok fl =>
  cases fl with
  |ret z =>
   obtain⟨rfl,rfl⟩:=K;generalize a2:(!w.params.followText "set-order")=a at h;have P:(s.heap.push {cls:=.type "set",dict:=none,data:=.set #[] 0 (.fresh 0 0 a)}).get? s.heap.objs.size=some {cls:=.type "set",dict:=none,data:=.set #[] 0 (.fresh 0 0 a)}:=aJ _ rfl;have hT:Shared.TypeIs {s with heap:=s.heap.push {cls:=.type "set",dict:=none,data:=.set #[] 0 (.fresh 0 0 a)}} (.ref s.heap.objs.size) "set":=⟨_,P,rfl⟩;have a3:=PySem.F.called_set.init.lookup;have a0:=PySem.F.called_set.init.bind (.ref s.heap.objs.size)
   repeat (any_goals (first|assumption|wp_step))
   refine cU (eM (R:=wants (λr s₂=>r=.none/\∃h' tk xs,s₂={s with heap:=h',toks:=tk}/\X6 prog w a h' s.heap.objs.size xs/\Came d items.size xs /\
     (∀b o,b<s.heap.objs.size->s.heap.get? b=some o->h'.get? b=some o)) E) PySem.F.called_set.init.plain PySem.F.entry_set_init (check_set_init_1 hT ?_)) λr₂ s₂ hr₂=>?_
   .obtain⟨ol,hol,hcl,nl,hdl⟩:=hl;obtain⟨X,m,L,f⟩:=ol;simp only at hcl hdl;subst hcl;subst hdl;have u:(s.heap.push {cls:=.type "set",dict:=none,data:=.set #[] 0 (.fresh 0 0 a)}).get? l=some {cls:=.type "list",dict:=m,data:=.seq items nl,slots:=f}:=ag _ hol;have V:=a4t;have U:=a0n;have a4:(Value.type "list"==Value.type "dict")=false:=by decide
    have p:(s.heap.push {cls:=.type "set",dict:=none,data:=.set #[] 0 (.fresh 0 0 a)}).IsList l items:=⟨_,u,rfl,nl,rfl⟩;unfold Builtin.«set.__init__» noKeywords Builtin.Frozenset.updateFrom;generalize C:pyIter=PI
    wp_walk
    subst C;refine wpAny_pyIter_list p ?_;refine aa (wpAny_runValue ?_);have q:l<s.heap.objs.size:=aG hol;have H:A.in1.in1.in1.handled=none:=by simp[hh]
    have t:l≠(s.heap.push {cls:=.type "set",dict:=none,data:=.set #[] 0 (.fresh 0 0 a)}).objs.size:=by
     rw[bp];exact aM (bX q)
    have D:s.heap.objs.size∉[(s.heap.push {cls:=.type "set",dict:=none,data:=.set #[] 0 (.fresh 0 0 a)}).objs.size,l]:=by
     rw[bp];simp only[aI,aB,bN,df,not_or];exact⟨aM (cf _),dr q⟩
    have n:((s.heap.push {cls:=.type "set",dict:=none,data:=.set #[] 0 (.fresh 0 0 a)}).push {cls:=.type "list_iterator",data:=.fields #[.ref l,.int 0 0]}).get? s.heap.objs.size
       = some {cls:=.type "set",dict:=none,data:=.set #[] 0 (.fresh 0 0 a)}:=ag _ P
    refine a5H (ld:=a) (h0:=s.heap) ((Walks.list H _ l t items).toS) s.heap.objs.size D (λb o e=>?_) d y hrow hn (show A.units+2+10<cLine by omega) (items.size-0) 0 _ [] (by omega) (bq _)
     ⟨⟨_,aJ _ rfl,rfl,rfl⟩,(p.push _)⟩ (λb o e=>ag _ (ag _ e)) (a3I n) ⟨aq _,fh,(λx hx=>nomatch hx),λj hj=>absurd hj (Nat.not_lt_zero j)⟩ ?hR
    .have:=aG e;rw[bp];simp only[aI,bN,df];exact⟨aM (bX this),aM this⟩
    case hR =>
     intro s' O B k g;obtain⟨h',g',Y,N,M⟩:=s';have eg:g'=s.gens:=B.gens;have Z:Y=s.drawn:=B.drawn;have eo:M=s.os:=B.os;subst eg;subst Z;subst eo;show wpAny _ _ _ _ _ _;refine ae ?_;show wpAny _ _ (ret Value.none) _ _ _;refine ae ⟨rfl,h',N,O,rfl,k,g,λb o S e=>?_⟩;have F:b≠s.heap.objs.size:=aM S;have G:b≠(s.heap.push {cls:=.type "set",dict:=none,data:=.set #[] 0 (.fresh 0 0 a)}).objs.size:=by
      rw[bp];exact aM (bX S)
     exact B.heap b o (by simp only[aI,aB,bN,df,not_or];exact⟨F,G⟩) (ag _ (ag _ e))
   .cases r₂ with
    |error e=>exact hr₂
    |ok fl₂ =>
     cases fl₂ with
     |ret r =>
      obtain⟨rfl,h',tk,xs,rfl,k,g,I⟩:=hr₂
      repeat (any_goals (first|assumption|wp_step))
      exact h _ _ _ k g I
     |_=>exact hr₂.elim
  |_=>exact K.elim
theorem a3r:isSubtype (.type "tuple") (.type "set")=pure false:=by rw[dO];kernel_rfl
theorem a0b:isSubtype (.type "tuple") (.type "frozenset")=pure false:=by rw[dO];kernel_rfl
theorem a3m{l:Addr}{items:Array Value}{d:Nat->List Int×Addr}{Q:Value->Shared->Prop}
  (hh:A.handled=none) (hl:s.heap.IsTuple l items) (y:∀i v,i<items.size->items[i]?=some v->v=.ref (d i).2) (hrow:∀i,i<items.size->TK prog w s.heap (d i).1 (d i).2) (hn:items.size<=1000) (hu:A.units+20<cLine)
  (h:∀(h':Heap) (tk:Nat) (xs:List (List Int×Addr)),X6 prog w (!w.params.followText "set-order") h' s.heap.objs.size xs->Came d items.size xs ->
   (∀b o,b<s.heap.objs.size->s.heap.get? b=some o->h'.get? b=some o)->Q (.ref s.heap.objs.size) {s with heap:=h',toks:=tk}) :
  wpAny (model prog w) A (call (.type "set") [.ref l]) Q E s:=by
 obtain⟨c,tl,T⟩:=PySem.F.called_set.mro;have J:=PySem.F.called_set.made;have W:=PySem.F.called_set.sub;refine fN (codeAny_of_tree ?_);show wpAny _ _ (callAny (.type "set") _) _ _ _;refine ae ⟨Code.quiet_builtin _ (by decide +kernel),dZ PySem.F.entry_type_call ?_⟩;rw[Around.under_plain (weight_type_call_type "set" [.ref l] []) rfl];have h1:=PySem.F.called_set.notType;have h2:=PySem.F.called_set.canCreate;have a1:=PySem.F.typeCall_set_1 (.ref l)
 repeat (any_goals (first|assumption|wp_step))
 refine cU (a0j (.ref l) (E:=E) (Q₁:=λz s₁=>z=.ref s.heap.objs.size/\s₁={s with heap:=s.heap.push {cls:=.type "set",dict:=none,data:=.set #[] 0 (.fresh 0 0 (!w.params.followText "set-order"))}}) ⟨rfl,rfl⟩) λr s₁ K=>?_;cases r with
 |error e=>exact K
 |ok fl =>
  cases fl with
  |ret z =>
   obtain⟨rfl,rfl⟩:=K;generalize a2:(!w.params.followText "set-order")=a at h;have P:(s.heap.push {cls:=.type "set",dict:=none,data:=.set #[] 0 (.fresh 0 0 a)}).get? s.heap.objs.size=some {cls:=.type "set",dict:=none,data:=.set #[] 0 (.fresh 0 0 a)}:=aJ _ rfl;have hT:Shared.TypeIs {s with heap:=s.heap.push {cls:=.type "set",dict:=none,data:=.set #[] 0 (.fresh 0 0 a)}} (.ref s.heap.objs.size) "set":=⟨_,P,rfl⟩;have a3:=PySem.F.called_set.init.lookup;have a0:=PySem.F.called_set.init.bind (.ref s.heap.objs.size)
   repeat (any_goals (first|assumption|wp_step))
   refine cU (eM (R:=wants (λr s₂=>r=.none/\∃h' tk xs,s₂={s with heap:=h',toks:=tk}/\X6 prog w a h' s.heap.objs.size xs/\Came d items.size xs /\
     (∀b o,b<s.heap.objs.size->s.heap.get? b=some o->h'.get? b=some o)) E) PySem.F.called_set.init.plain PySem.F.entry_set_init (check_set_init_1 hT ?_)) λr₂ s₂ hr₂=>?_
   .obtain⟨ol,hol,hcl,nl,hdl⟩:=hl;obtain⟨X,m,L,f⟩:=ol;simp only at hcl hdl;subst hcl;subst hdl;have u:(s.heap.push {cls:=.type "set",dict:=none,data:=.set #[] 0 (.fresh 0 0 a)}).get? l=some {cls:=.type "tuple",dict:=m,data:=.seq items nl,slots:=f}:=ag _ hol;have V:=a3r;have U:=a0b;have a4:(Value.type "tuple"==Value.type "dict")=false:=by decide
    have p:(s.heap.push {cls:=.type "set",dict:=none,data:=.set #[] 0 (.fresh 0 0 a)}).IsTuple l items:=⟨_,u,rfl,nl,rfl⟩;unfold Builtin.«set.__init__» noKeywords Builtin.Frozenset.updateFrom;generalize C:pyIter=PI
    wp_walk
    subst C;refine wpAny_pyIter_tuple p ?_;refine aa (wpAny_runValue ?_);have q:l<s.heap.objs.size:=aG hol;have H:A.in1.in1.in1.handled=none:=by simp[hh]
    have t:l≠(s.heap.push {cls:=.type "set",dict:=none,data:=.set #[] 0 (.fresh 0 0 a)}).objs.size:=by
     rw[bp];exact aM (bX q)
    have D:s.heap.objs.size∉[(s.heap.push {cls:=.type "set",dict:=none,data:=.set #[] 0 (.fresh 0 0 a)}).objs.size,l]:=by
     rw[bp];simp only[aI,aB,bN,df,not_or];exact⟨aM (cf _),dr q⟩
    have n:((s.heap.push {cls:=.type "set",dict:=none,data:=.set #[] 0 (.fresh 0 0 a)}).push {cls:=.type "tuple_iterator",data:=.fields #[.ref l,.int 0 0]}).get? s.heap.objs.size
       = some {cls:=.type "set",dict:=none,data:=.set #[] 0 (.fresh 0 0 a)}:=ag _ P
    refine a5H (ld:=a) (h0:=s.heap) ((Walks.tuple H _ l t items).toS) s.heap.objs.size D (λb o e=>?_) d y hrow hn (show A.units+2+10<cLine by omega) (items.size-0) 0 _ [] (by omega) (bq _)
     ⟨⟨_,aJ _ rfl,rfl,rfl⟩,(p.push _)⟩ (λb o e=>ag _ (ag _ e)) (a3I n) ⟨aq _,fh,(λx hx=>nomatch hx),λj hj=>absurd hj (Nat.not_lt_zero j)⟩ ?hR
    .have:=aG e;rw[bp];simp only[aI,bN,df];exact⟨aM (bX this),aM this⟩
    case hR =>
     intro s' O B k g;obtain⟨h',g',Y,N,M⟩:=s';have eg:g'=s.gens:=B.gens;have Z:Y=s.drawn:=B.drawn;have eo:M=s.os:=B.os;subst eg;subst Z;subst eo;show wpAny _ _ _ _ _ _;refine ae ?_;show wpAny _ _ (ret Value.none) _ _ _;refine ae ⟨rfl,h',N,O,rfl,k,g,λb o S e=>?_⟩;have F:b≠s.heap.objs.size:=aM S;have G:b≠(s.heap.push {cls:=.type "set",dict:=none,data:=.set #[] 0 (.fresh 0 0 a)}).objs.size:=by
      rw[bp];exact aM (bX S)
     exact B.heap b o (by simp only[aI,aB,bN,df,not_or];exact⟨F,G⟩) (ag _ (ag _ e))
   .cases r₂ with
    |error e=>exact hr₂
    |ok fl₂ =>
     cases fl₂ with
     |ret r =>
      obtain⟨rfl,h',tk,xs,rfl,k,g,I⟩:=hr₂
      repeat (any_goals (first|assumption|wp_step))
      exact h _ _ _ k g I
     |_=>exact hr₂.elim
  |_=>exact K.elim
end
end Tab
end L2
namespace L2
namespace Tab
open PySem PySem.W
theorem a3g{α:Type}:∀(l:List α) (i:Nat) (h:i<l.length),([l[i]]++l.eraseIdx i).Perm l
 |x::l,0,_=>by simp
 |x::l,i+1,h=>by
  have a:=a3g l i (by simpa using h);simp only[List.getElem_cons_succ,List.eraseIdx_cons_succ,List.singleton_append];exact(List.Perm.swap x (l[i]'(by simpa using h)) _).trans (List.Perm.cons x a)
theorem a8A{α:Type}(next:Nat->Nat):∀(fuel k:Nat) (left:List α) (out:Array α),left.length=fuel->(pickOrder.go next fuel k left out).toList.Perm (out.toList++left)
 |0,k,left,out,h=>by
  rw[fm.mp h,cJ];exact List.Perm.refl _
 |fuel+1,k,left,out,h=>by
  unfold pickOrder.go;have hi:next k % left.length<left.length:=fj _ (by omega)
  rw[ai hi];dsimp only;refine(a8A next fuel (k+1) _ _ (by rw[List.length_eraseIdx_of_lt hi];omega)).trans ?_;rw[cR,aF];exact cu _ (a3g left _ hi)
theorem a9P{α:Type}(next:Nat->Nat)(xs:Array α):(pickOrder next xs).toList.Perm xs.toList:=by
 have:=a8A next xs.size 0 xs.toList #[] (by simp)
 rw[show(#[]:Array α).toList=[] from rfl,cK]at this;exact this
theorem slot_seti_next:Slot "set_iterator" "__next__" "set_iterator.__next__" :=
 .of (owner:="set_iterator") (n:="__next__") (by rw[typeLookup_type,builtinLookup_eq_fast];kernel_rfl) (by decide +kernel) (by decide +kernel) (by decide +kernel)
  (by first|exact .inl (by decide +kernel)|exact .inr (by decide +kernel)) (by rw[dO];kernel_rfl)
theorem U8:entryFor table "set_iterator.__next__"=some Builtin.«set_iterator.__next__»:=entryFor_of_tree (by kernel_rfl)
theorem X5(a:Value):argsOk "set_iterator.__next__" ⟨[a],[]⟩:=by
 unfold argsOk;kernel_rfl
theorem V5:Slot "set_iterator" "__iter__" "set_iterator.__iter__" :=
 .of (owner:="set_iterator") (n:="__iter__") (by rw[typeLookup_type,builtinLookup_eq_fast];kernel_rfl) (by decide +kernel) (by decide +kernel) (by decide +kernel)
  (by first|exact .inl (by decide +kernel)|exact .inr (by decide +kernel)) (by rw[dO];kernel_rfl)
theorem a3h:entryFor table "set.__iter__"=some Builtin.«frozenset.__iter__» :=
 entryFor_alias (id':="frozenset.__iter__") (by kernel_rfl) rfl (by decide +kernel) (by kernel_rfl)
structure SRaw(h:Heap)(a:Addr)(es:Array (Int×Value))(ep:Nat)(t:SetTable):Prop where
 ex:∃o,h.get? a=some o/\o.ExactSet/\o.data=.set es ep t
 ok:TabOk t es
 plain:t.plain=true
section
variable {prog:Program}{w:World}{A:Around}{E:Value->Shared->Prop}{s:Shared}{a it:Addr}{es:Array (Int×Value)}{ep i:Nat}{t:SetTable}
theorem SRaw.typ(x:SRaw s.heap a es ep t):s.TypeIs (.ref a) "set":=let ⟨o,h1,h2,_⟩:=x.ex;⟨o,h1,h2.1⟩
theorem b2V{Q:Bool->Shared->Prop}(e:s.TypeIs (.ref a) "set")(h:Q false s):wpAny (model prog w) A (Builtin.List.listLengthHint (.ref a)) Q E s:=by
 unfold Builtin.List.listLengthHint;refine aa (wpAny_specialOf e PySem.F.slot_set_len.lookup ?_);generalize d:("set.__len__" : String)=f
 wp_delta
 rw[show splitId f=some ("set","__len__")from by subst d;decide +kernel];subst d;refine aa (fF (T:="set") (b:=true) e (by rw[dO];kernel_rfl) ?_);refine wpAny_ite_split (λc=>absurd c (by decide)) (λ_=>?_);refine wpAny_ite_split (λ_=>?_) (λc=>absurd (by decide +kernel) c);refine aa (eD e ?_);exact ae h
def V9(w:World)(a:Addr)(ep:Nat)(es:Array (Int×Value)):Array (Int×Value):=if w.params.followText "set-order"=true then pickOrder (w.params.setOrder a ep) es else es
theorem ord_perm:(V9 w a ep es).toList.Perm es.toList:=by
 unfold V9;split
 .exact a9P _ _
 .exact List.Perm.refl _
def a1D(w:World)(t:SetTable):Nat->Nat
 |0=>0
 |i+1=>if w.params.followText "set-order"=true then 0 else t.place.getD i 0+1
def SetIt(w:World)(h:Heap)(it a:Addr)(i n ep:Nat)(t:SetTable):Prop:=∃o,h.get? it=some o/\o.cls=.type "set_iterator"/\o.data=.fields #[rawInt (a1D w t i),rawInt i,.ref a,rawInt n,rawInt ep]
theorem b1o{Q:Value->Shared->Prop}(D:SRaw s.heap a es ep t)
  (q:Q (.ref s.heap.objs.size) {s with heap:=s.heap.push {cls:=.type "set_iterator",data:=.fields #[rawInt 0,rawInt 0,.ref a,rawInt es.size,rawInt ep]}}):wpAny (model prog w) A (pyIter (.ref a)) Q E s:=by
 have ty:=D.typ;obtain⟨o,b,_,c⟩:=D.ex;refine wpAny_pyIter_slot ty PySem.F.slot_set_iter (bH PySem.F.slot_set_iter ty a3h ?body (PySem.F.args_set_iter_1 _))
 case body =>
  unfold Builtin.«frozenset.__iter__» Builtin.Frozenset.slot0;refine aa (aa (ae (ae ?_)));unfold Builtin.Frozenset.sizeOf setEntries;refine aa (aa (aa (cv b c (G6 D.ok) (ae (ae ?_)))));unfold setDrawn setsByText;refine aa (aa (cv b c (G6 D.ok) ?_));dsimp only;refine aa (aa (eO (ae (ae ?_))));dsimp only;rw[ar (λz=>by
   have d:=(aQ _ _ ▸ z).2;change (!t.plain && decide (es.size > 1))=true at d;rw[D.plain]at d;cases d)]
  refine aa (ae ?_);refine aa (wpAny_setEpoch_of b c (G6 D.ok) ?_);refine aa (bt (ae ⟨_,rfl,"set_iterator",_,⟨_,aJ _ rfl,rfl⟩,slot_seti_next.lookup,?_⟩));exact q
theorem SetIt.typ{it a:Addr}{i n ep:Nat}{t:SetTable}(x:SetIt w s.heap it a i n ep t):s.TypeIs (.ref it) "set_iterator":=let ⟨o,h1,h2,_⟩:=x;⟨o,h1,h2⟩
theorem b1l(D:SRaw s.heap a es ep t)(e:w.params.followText "set-order"=false){i:Nat}(hi:i<=es.size):SetTable.below t.place (a1D w t i)=i:=by
 obtain⟨d,b,c⟩:=G9 D.ok.ris (a1D w t i);have f:=D.ok.size;cases i with
 |zero =>
  rcases Nat.eq_zero_or_pos (SetTable.below t.place (a1D w t 0))with z|z
  .exact z
  .have:=b 0 z;exact absurd this (Nat.not_lt_zero _)
 |succ i =>
  have hs:a1D w t (i+1)=t.place.getD i 0+1:=by
   show(if w.params.followText "set-order"=true then 0 else t.place.getD i 0+1)=_;rw[e,ar (by decide)]
  rw[hs]at d b c⊢;rcases dk (SetTable.below t.place (t.place.getD i 0+1)) (i+1)with z|z|z
  .have:=c i (by omega) (by omega);omega
  .exact z
  .have h1:=b (i+1) z;have h2:=D.ok.ris i (i+1) (by omega) (by omega);omega
theorem a5Q(D:SRaw s.heap a es ep t)(d:t.led=!w.params.followText "set-order"){i:Nat}{Q:Option (Value×Nat)->Shared->Prop}(hi:i<=es.size)
  (h:Q ((V9 w a ep es)[i]?.map λe=>(e.2,a1D w t (i+1))) s):wpAny (model prog w) A (setNext a (a1D w t i) i ep) Q E s:=by
 obtain⟨o,f,_,g⟩:=D.ex;unfold setNext setsByText;refine aa (cv f g (G6 D.ok) ?_);dsimp only;refine aa (aa (eO (ae ?_)));dsimp only;by_cases b:w.params.followText "set-order"=true
 .rw[ay (show(model prog w).w.params.followText "set-order"=true from b),ar (by simp)];unfold setWalk setsByText;refine aa (aa (cv f g (G6 D.ok) ?_));dsimp only;refine aa (aa (eO (ae ?_)));rw[ay (show(model prog w).w.params.followText "set-order"=true from b)];refine aa (eO (ae (ae ?_)));have k:∀j,a1D w t j=0:=λj=>by
   cases j with
   |zero=>rfl
   |succ j=>show(if w.params.followText "set-order"=true then 0 else _)=0;rw[ay b]
  rw[k]at h⊢;unfold V9 at h;rw[ay b]at h;exact h
 .have hf':w.params.followText "set-order"=false:=by simpa using b
  rw[ar (show ¬(model prog w).w.params.followText "set-order"=true from b)];rw[ar (λz=>by
   change (!t.plain && decide (es.size > 1))=true at z;rw[D.plain]at z;cases z)]
  refine aa ?_;show wpAny _ _ (if (!t.led && !es.isEmpty)=true then _ else pure ()) _ _ _;rw[ar (by rw[d,hf'];simp)];refine ae (ae ?_);rw[b1l D hf' hi];unfold V9 at h;rw[ar b]at h;by_cases c:i<es.size
  .have hp:=a0K (xs:=t.place) (i:=i) (by rw[D.ok.size];exact c);rw[hp];have hs:a1D w t (i+1)=t.place.getD i 0+1:=by
    show(if w.params.followText "set-order"=true then 0 else t.place.getD i 0+1)=_;rw[hf',ar (by decide)]
   rw[hs]at h;rw[bw c]at h⊢;exact h
  .rw[cW (by omega)]at h⊢;exact h
theorem a9z{it:Addr}{i:Nat}{Q:Option Value->Shared->Prop}(I:SetIt w s.heap it a i es.size ep t)(D:SRaw s.heap a es ep t)(d:t.led=!w.params.followText "set-order")(hi:i<es.size){v:Int×Value}(h:(V9 w a ep es)[i]?=some v)
  (q:∀h',SetIt w h' it a (i+1) es.size ep t->Heap.SameBut it s.heap h'->Q (some v.2) {s with heap:=h'}):wpAny (model prog w) A (pyNext (.ref it)) Q E s:=by
 obtain⟨j,f1,f2,b⟩:=id I;obtain⟨od,f,k,g⟩:=D.ex;unfold pyNext;refine aa (dV (bE (name:=Str.ofString "__next__") I.typ slot_seti_next (bH slot_seti_next I.typ U8 ?body (X5 _))))
 case body =>
  unfold Builtin.«set_iterator.__next__»;refine aa (ae (aa (wpAny_fieldsOf f1 b ?_)));dsimp only[rawInt];unfold setEntries;refine aa (aa (cv f g (G6 D.ok) (ae ?_)));rw[ar (by simp)];simp only[br];refine aa (a5Q D d (cH hi) ?_);rw[h];dsimp only[Option.map];have e:(s.heap.update it (Obj.mapFields λz=>z.setIfInBounds 0 (.int (a1D w t (i+1)) 0))).get? it=some (Obj.mapFields (λz=>z.setIfInBounds 0 (.int (a1D w t (i+1)) 0)) j):=cD _ f1 (eE (cL b _));have c:=cL b (λz=>z.setIfInBounds 0 (.int (a1D w t (i+1)) 0));refine aa (dN f1 b (by simp) ?_);refine aa (dN (s:={s with heap:=_}) e c (by simp) ?_);refine ae ⟨_,rfl,ae (q _ ⟨_,cD _ e (eE (cL c _)),?_,?_⟩ ((bS ..).trans (bS ..)))⟩
  .rw[fo,fo];exact f2
  .rw[cL c];simp[rawInt]
theorem b1m{it:Addr}{Q:Option Value->Shared->Prop}(g:A.handled=none)(I:SetIt w s.heap it a es.size es.size ep t)(D:SRaw s.heap a es ep t)(c:t.led=!w.params.followText "set-order")
  (q:∀h',Heap.ExtBut it s.heap h'->Q none {s with heap:=h'}):wpAny (model prog w) A (pyNext (.ref it)) Q E s:=by
 obtain⟨j,f1,f2,d⟩:=id I;obtain⟨od,e,i,f⟩:=D.ex;unfold pyNext;refine aa (dV (bE (name:=Str.ofString "__next__") I.typ slot_seti_next (bH slot_seti_next I.typ U8 ?body (X5 _))))
 case body =>
  unfold Builtin.«set_iterator.__next__»;refine aa (ae (aa (wpAny_fieldsOf f1 d ?_)));dsimp only[rawInt];unfold setEntries;refine aa (aa (cv e f (G6 D.ok) (ae ?_)));rw[ar (by simp)];simp only[br];refine aa (a5Q D c (aq _) ?_);have h:(V9 w a ep es).size=es.size:=by rw[<-ax,ord_perm.length_eq,ax]
  rw[cW (by omega)];dsimp only[Option.map];refine aa (dN f1 d (by simp) ?_);show wpAny _ _ (newExc (.type "StopIteration") []>>=λ_=>_) _ _ _;refine aa ?_;simp only[newExc,newTuple];refine aa (bt ?_ (by size_fits));refine aa (m:=firstArgMember _ _) (wpAny_of_eq (a:=Value.none) (by first|rfl | (simp only[firstArgMember];rfl)) ?_);refine bt ?_ (by size_fits);simp only[raiseNew];refine aa (wpAny_handled ?_);rw[show A.in1.handled=none from g];refine aa (ae (wpAny_throw ?_));refine aa (fF (T:="StopIteration") (b:=true) ⟨_,aJ _ rfl,rfl⟩ isSubtype_stop ?_);exact ae (q _ (((bS ..).extBut.push _).push _))
theorem SetIt.at{h h':Heap}{it a:Addr}{i n ep:Nat}{t:SetTable}(x:SetIt w h it a i n ep t)(k:∀o,h.get? it=some o->h'.get? it=some o):SetIt w h' it a i n ep t:=let ⟨o,h1,h2⟩:=x;⟨o,k o h1,h2⟩
theorem SRaw.to{h h':Heap}(x:SRaw h a es ep t)(k:∀o,h.get? a=some o->h'.get? a=some o):SRaw h' a es ep t:=⟨let ⟨o,h1,h2⟩:=x.ex;⟨o,k o h1,h2⟩,x.ok,x.plain⟩
theorem a1N:entryFor table "set_iterator.__iter__"=some Builtin.«dict_keyiterator.__iter__» :=
 entryFor_alias (id':="dict_keyiterator.__iter__") (by kernel_rfl) rfl (by decide +kernel) (by kernel_rfl)
theorem a3q(a:Value):argsOk "set_iterator.__iter__" ⟨[a],[]⟩:=by
 unfold argsOk;kernel_rfl
theorem a9y{it:Addr}{i n:Nat}{Q:Value->Shared->Prop}(I:SetIt w s.heap it a i n ep t)(h:Q (.ref it) s):wpAny (model prog w) A (pyIter (.ref it)) Q E s:=by
 refine wpAny_pyIter_slot I.typ V5 (bH V5 I.typ a1N ?_ (a3q _));show wpAny _ _ (ret (.ref it)) _ _ s;exact ae ⟨_,rfl,"set_iterator",_,I.typ,slot_seti_next.lookup,h⟩
theorem b2b:(V9 w a ep es).size=es.size:=by rw[<-ax,ord_perm.length_eq,ax]
theorem a9A(p:A.handled=none)(J:Addr)(j:a≠J)(g:t.led=!w.params.followText "set-order") :
  Walks prog w A J [J,a] [J] es.size (λi v=>∃e,(V9 w a ep es)[i]?=some e/\v=e.2) (λi h=>SetIt w h J a i es.size ep t/\SRaw h a es ep t) where
 sub:=λb d=>by rw[aB.mp d];exact au
 frame:=λi h h' st k=>⟨st.1.at λo e=>k J au o e,st.2.to λo e=>k a (ak _ au) o e⟩
 item:=λi s Q E hi st c=>by
  have f:i<(V9 w a ep es).size:=by rw[b2b];exact hi
  exact a9z st.1 st.2 g hi (bw f) λh' m l=>c _ h' s.toks ⟨_,bw f,rfl⟩ ⟨m,st.2.to λo e=>l.extBut a o j e⟩ λb o d e=>l.extBut b o (λz=>d (by rw[z];exact au)) e
 done:=λs Q E st c=>b1m p st.1 st.2 g λh' n=>c h' s.toks λb o d e=>n b o (λz=>d (by rw[z];exact au)) e
 self:=λ_ _ _ _ st c=>a9y st.1 c
theorem SRaw.lt{h:Heap}(x:SRaw h a es ep t):a<h.objs.size:=let ⟨_,h1,_⟩:=x.ex;aG h1
theorem b3Q(b:t.led=!w.params.followText "set-order"):KdlSrc prog w "set" a a es.size (λi v=>∃e,(V9 w a ep es)[i]?=some e/\v=e.2) (λh=>SRaw h a es ep t) where
 type:=λ_ D=>D.typ
 there:=λ_ D=>⟨D.lt,D.lt⟩
 keep:=λ_ _ D d=>D.to λo e=>d a (.inl rfl) o e
 notList:=by decide
 notTuple:=by decide
 hint:=λ_ _ _ _ D q=>b2V D.typ q
 iter:=λ_ _ c D=>⟨_,_,λ_ _ q=>b1o D q,a9A c _ (aM D.lt) b,⟨⟨_,aJ _ rfl,rfl,rfl⟩,D.to λo e=>ag _ e⟩⟩
end
end Tab
end L2
namespace L2
open PySem PySem.Spec PyProof.Rows PySem.W Tab
def a4C(P:Program)(w:World)(a:Addr)(xs:List (List Int×Addr)):HO:=.ext λh=>∃es ep t,SRaw h a es ep t/\es.toList.Perm (xs.map (Tab.ent P w))/\t.led=!w.params.followText "set-order"
theorem b5t{P:Program}{w:World}{H:Hp}{h:Heap}(ok:HOk P w H h){r:List Int}{b:Addr}(x:IT H (.ref b) r):TK P w h r b:=by
 obtain⟨a,e,q⟩:=x;cases e;obtain⟨_,its,c,o,h1,h2,n,d⟩:=(show ObjOk P w H h b (.tup (r.map V.int))from ok b _ q);refine⟨o,its.toArray,n,h1,h2,d,?_⟩;have:∀{r:List Int}{its:List Value},Vals (r.map V.int) its->ItemsAre (intKind P w) r its:=by
  intro r;induction r with
  |nil=>intro its c;cases c;exact .nil
  |cons x r f =>
   intro its c;cases c with
   |cons h t =>
    obtain⟨tk,rfl⟩:=h;exact .cons (intKind_is _ _ _ _) (f t)
 simpa using this c
def b5H(K:PySem.W.Frag)(P:Program)(w:World):RL:=λys H Q=>∃(k:Bool) (p:Addr) (vs:List V) (rss:LLI),ys=[.ref p]/\SqK k K H p vs/\Its H vs rss/\vs.length<=1000 /\
 ∀a xs,H a=none->(xs.map (·.1)).Nodup->(∀r,r∈xs.map (·.1)↔r∈rss)->(∀x∈xs,IT H (.ref x.2) x.1)->Q (.ref a) (upd H a (a4C P w a xs))
def b1D(P:Program)(w:World):RL:=λys H Q=>∃(a:Addr) (xs:List (List Int×Addr)),ys=[.ref a]/\H a=some (a4C P w a xs)/\(∀x∈xs,IT H (.ref x.2) x.1)/\(∀x∈xs,0<x.1.length)/\xs.length<=1000 /\
 ∀l zs tss,H l=none->Its H zs tss->tss.Perm (xs.map (·.1))->D0 tss->Q (.ref l) (upd H l (.lst zs))
section
variable {X:Cx}
theorem b0v(K:PySem.W.Frag)(P:Program)(w:World)(hu:X.A.units+60<cLine)(hc:X.calm=true)(hK:X.K=K:=by rfl)(hP:X.prog=P:=by rfl)(hw:X.w=w:=by rfl):E2 X (.type "set") (b5H K P w):=by
 subst hK hP hw;intro pins s σ H ys us Q I rv h;obtain⟨k,p,vs,rss,rfl,R,N,hn,q⟩:=h;obtain⟨u,rfl,D⟩:=rv.one;cases D;have O:X.A.handled=none:=I.ok.hd hc;have step:∀(its:List Value),Vals vs its->∀(h':Heap) (tk:Nat) (xs:List (List Int×Addr)) (c:Nat->List Int×Addr),(∀i,i<its.toArray.size->rss[i]?=some (c i).1/\IT H (.ref (c i).2) (c i).1) ->
   X6 X.prog X.w (!X.w.params.followText "set-order") h' s.heap.objs.size xs->Came c its.toArray.size xs->(∀b o,b<s.heap.objs.size->s.heap.get? b=some o->h'.get? b=some o)->EP X pins σ Q (.ref s.heap.objs.size) {s with heap:=h',toks:=tk}:=by
  intro its r h' tk xs c d n l A;obtain⟨o,es,ep,t,M,S,T,U,V,W,e7,e8,Y⟩:=n;have B:its.toArray.size=rss.length:=by rw[<-N.1,r.length];simp
  have F:H s.heap.objs.size=none:=I.hok.fresh (aq _);have E:∀x∈xs,IT H (.ref x.2) x.1:=λx J=>by
   obtain⟨j,m,rfl⟩:=l.from_ x J;exact(d j m).2
  refine⟨.ref s.heap.objs.size,_,I.laid (h':=h') (a:=s.heap.objs.size) (o:=a4C X.prog X.w s.heap.objs.size xs) (t':=tk) (λb o e=>A b o (aG e) e) (aq _) ⟨⟨es,ep,t,⟨⟨o,M,S,T⟩,V,W⟩,U,Y⟩,⟨o,M⟩,λh1 h2 ⟨es,ep,t,q1,q2⟩ kk=>⟨es,ep,t,q1.to kk,q2⟩⟩,rfl,q _ xs F l.nd (λr=>?_) E⟩;constructor
  .intro hr;obtain⟨x,J,rfl⟩:=aP.mp hr;obtain⟨j,m,rfl⟩:=l.from_ x J;exact aH (d j m).1
  .intro hr;obtain⟨j,m⟩:=bR.mp hr;have y:j<its.toArray.size:=by rw[B];exact(aC.mp m).1
   have h1:=(d j y).1;rw[m]at h1;injection h1 with h1
   rw[h1];exact l.all j y
 have f:∀(its:List Value),Vals vs its->∃c:Nat->List Int×Addr,(∀i v,i<its.toArray.size->its.toArray[i]?=some v->v=.ref (c i).2)/\∀i,i<its.toArray.size->rss[i]?=some (c i).1/\IT H (.ref (c i).2) (c i).1:=by
  intro its r;have g:∀i,∃x:List Int×Addr,i<its.toArray.size->(∀v,its.toArray[i]?=some v->v=.ref x.2)/\rss[i]?=some x.1/\IT H (.ref x.2) x.1:=λi=>by
   by_cases hi:i<its.toArray.size
   .have hi':i<vs.length:=by rw[r.length];simpa using hi
    obtain⟨u,eu,D⟩:=r.get (ai hi');obtain⟨row,er,b,Z,hb⟩:=N.2 i _ (ai hi');rw[Z]at D;cases D;refine⟨(row,b),λ_=>⟨λv G=>?_,er,b,rfl,hb⟩⟩;have:its[i]?=some v:=by simpa using G
    rw[eu]at this;injection this with this
    exact this.symm
   .exact⟨([],0),λz=>absurd z hi⟩
  exact⟨λi=>Classical.choose (g i),λi v hi G=>(Classical.choose_spec (g i) hi).1 v G,λi hi=>(Classical.choose_spec (g i) hi).2⟩
 cases k
 .obtain⟨its,r,pl,hz⟩:=I.list R;obtain⟨c,L,C⟩:=f its r;exact a3x O pl.isList L (λi hi=>b5t I.hok (C i hi).2) (by have:=r.length;simp;omega) (by omega) λh' tk xs n l A=>step its r h' tk xs c C n l A
 .obtain⟨its,r,pl,hz⟩:=I.tuple R;obtain⟨c,L,C⟩:=f its r;exact a3m O pl L (λi hi=>b5t I.hok (C i hi).2) (by have:=r.length;simp;omega) (by omega) λh' tk xs n l A=>step its r h' tk xs c C n l A
theorem a7H(P:Program)(w:World)(hc:X.calm=true)(hP:X.prog=P:=by rfl)(hw:X.w=w:=by rfl):E2 X (.builtin "sorted") (b1D P w):=by
 subst hP hw;intro pins s σ H ys us Q I rv h;obtain⟨a,xs,rfl,ha,L,R,hn,q⟩:=h;obtain⟨u,rfl,ru⟩:=rv.one;cases ru;obtain⟨⟨es,ep,t,D,z,M⟩,_⟩:=(show ObjOk X.prog X.w H s.heap a (a4C X.prog X.w a xs)from I.hok _ _ ha);obtain⟨d,G,te⟩:=M1 (f:=Tab.ent X.prog X.w) ((ord_perm (w:=X.w) (a:=a) (ep:=ep)).trans z) rfl;have A:∀x∈d,x∈xs:=λx B=>G.mem_iff.mp B;have g:es.size=d.length:=by rw[<-ax,z.length_eq,aj,G.length_eq]
 have K:Its H (d.map λx=>V.ref x.2) (d.map (·.1)):=⟨by rw[aj,aj],λi v e=>by
  rw[aW]at e⊢;cases j:d[i]? with
  |none=>rw[j]at e;cases e
  |some x =>
   rw[j]at e;cases e;exact⟨x.1,rfl,L x (A x (aH j))⟩⟩
 have U:Vals (d.map λx=>V.ref x.2) (d.map λx=>Value.ref x.2):=X9 (λx:List Int×Addr=>x.2) d;have hz:(1000:Nat)<=sizeLine:=by rw[ba];decide
 have a1:d.length<=1000:=by rw[G.length_eq];exact hn
 have p:∀(W:Value->Shared->Prop) (J:List Value->Shared->Prop),(∀(h1:Heap) (tk:Nat),(∀b o,s.heap.get? b=some o->h1.get? b=some o)->J (d.map λx=>Value.ref x.2) {s with heap:=h1,toks:=tk})->wpAny (model X.prog X.w) X.A.in1 (collect (.ref a)) J W s:=λW J k=>by
  refine kdu_collect (b3Q M) (show X.A.in1.handled=none from I.ok.hd hc) D (by omega) λh' tk acc kp l=>?_;have:acc.toList=d.map λx=>Value.ref x.2:=by
   refine eB λi=>?_;rw[av,aW];by_cases hi:i<d.length
   .have hia:i<acc.size:=by rw[l.1,g];exact hi
    obtain⟨e,F,O⟩:=l.2 i acc[i] (by simp[hia]);rw[<-av,<-te,aW,ai hi]at F;injection F with F
    rw[bw hia,ai hi,O,<-F];rfl
   .rw[cW (by rw[l.1,g];omega),bG (by omega)];rfl
  rw[this];exact k h' tk kp
 have hl:=U.length;have TT:=a2S I K U;obtain⟨T,t1,t2,t3,t4⟩:=X8 U K.1;refine U9 p TT (λr hr=>by obtain⟨x,B,rfl⟩:=aP.mp hr;exact R x (A x B)) (by rw[aj];omega) λh1 h' os c tk k1 k2 e hp hs=>?_;obtain⟨m,p1,p2⟩:=M1 (f:=λt:Value×V×List Int=>t.1) hp t1.symm;have Y:=I.kept (t':=tk) k1;have E:∀t∈m,RelV t.2.1 t.1/\IT H t.2.1 t.2.2/\E9 s.heap t.1=t.2.2:=λt N=>by
  obtain⟨i,hi⟩:=bR.mp (p1.mem_iff.mp N);obtain⟨r1,r2,r3⟩:=t4 i t hi;obtain⟨row,q1,q2⟩:=K.2 i _ r2;rw[r3]at q1;cases q1;have e5:(d.map λx=>Value.ref x.2)[i]?=some t.1:=by rw[<-t1,aW,hi];rfl
  obtain⟨r',b,a0,f1,f2,f3,f4⟩:=TT.2 i _ e5;rw[r3]at f1;cases f1;exact⟨r1,q2,by rw[f2];exact C8 f3 f4⟩
 have S:(m.map (·.2.1)).length<=sizeLine:=by
  have Z:=(p1.map (λt:Value×V×List Int=>t.2.1)).length_eq;rw[t2]at Z;simp only[aj]at Z⊢;omega
 have O:Vals (m.map (·.2.1)) os:=by rw[<-p2];exact N9 λt N=>(E t N).1
 have I2:=Y.laid (h':=h') (a:=h1.objs.size) (o:=.lst (m.map (·.2.1))) (t':=tk) k2 (aq _) ⟨S,os,c,O,e⟩;refine⟨.ref h1.objs.size,_,I2,rfl,q _ _ (m.map (·.2.2)) (Y.hok.fresh (aq _)) ⟨by rw[aj,aj],λi v n=>?_⟩ (by have:=p1.map (λt:Value×V×List Int=>t.2.2);rw[t3]at this;exact this.trans (G.map _)) ?_⟩
 .rw[aW]at n⊢;cases j:m[i]? with
  |none=>rw[j]at n;cases n
  |some t =>
   rw[j]at n;cases n;exact⟨t.2.2,rfl,(E t (aH j)).2.1⟩
 .unfold D0;rw[ck];rw[<-p2,ck]at hs;refine hs.imp_of_mem λ{x y} B hy C=>?_;rw[(E x B).2.2,(E y hy).2.2]at C;exact C
variable {e:Expr}{es:List Expr}{t:TA}{p pos:Pos}
theorem b4W(K:PySem.W.Frag)(P:Program)(w:World)(j:X.A.units+60<cLine)(h:Gl X "set")(i:X.mg "set"=none)(d:JA X (e::es) t)(f:X.calm=true:=by rfl)(b:X.K=K:=by rfl)(c:X.prog=P:=by rfl)(hw:X.w=w:=by rfl)(g:starEach (e::es) X.env=(false,eval e X.env)::starEach es X.env:=by rfl)(a:(backTo pos (starEach es X.env)).any (·.1)=false:=by rfl):JE X (.Call (.Name "set" p) (e::es) [] pos) (tCB (b5H K P w) t):=⟨Q6 (b0v K P w j f b c hw) h i b7I d.h (by decide) (by decide) g a⟩
theorem b2K(P:Program)(w:World)(g:Gl X "sorted")(h:X.mg "sorted"=none)(c:JA X (e::es) t)(d:X.calm=true:=by rfl)(b:X.prog=P:=by rfl)(hw:X.w=w:=by rfl)(f:starEach (e::es) X.env=(false,eval e X.env)::starEach es X.env:=by rfl)(a:(backTo pos (starEach es X.env)).any (·.1)=false:=by rfl):JE X (.Call (.Name "sorted" p) (e::es) [] pos) (tCB (b1D P w) t):=⟨G3 (a7H P w d b hw) g h a1p c.h (by decide) (by decide) f a⟩
end
end L2
namespace L2
open PySem PySem.Spec PyProof.Rows
section
variable {prog:Program}{w:World}{A:Around}{E:Value->Shared->Prop}{s:Shared}
end
section
variable {X:Cx}
variable {e:Expr}{es:List Expr}{t:TA}{p pos:Pos}
end
section
variable {X:Cx}
variable {e:Expr}{es:List Expr}{t:TA}{p pos:Pos}
end
end L2
namespace L2
open PySem PySem.Spec PyProof.Rows PySem.W
section
variable {prog:Program}{w:World}{κ:Type} [DecidableEq κ] {knd:HeapKind prog w κ}{A:Around}{E:Value->Shared->Prop}{s:Shared}
theorem b3S{d a:Addr}{xs:List (κ×Addr×Value)}{k:κ}{v:Value}{Q:Value->Shared->Prop}(t:knd.room A)(c:knd.is s.heap k a)(z:s.heap.DictOfH knd d xs)(hz:xs.length<=sizeLine)
  (h1:∀p,atKey xs k=some p->Q p.2 {s with toks:=s.toks+knd.draws k})
  (h2:atKey xs k=none->∀h',h'.DictOfH knd d (storedH xs k a v)->Heap.SameBut d s.heap h'->Q v {s with heap:=h',toks:=s.toks+knd.draws k}):wpAny (model prog w) A (dictSetDefault d (.ref a) v) Q E s:=by
 obtain⟨o,es,ep,f,u,hd,i,g,l⟩:=z;unfold dictSetDefault
 try with_reducible refine cc ?_
 refine aa (knd.pyHash t c ?_);refine aa (wpAny_dictFind_heap (s:={s with toks:=s.toks+knd.draws k}) t c f hd i g l (λh=>?_) λj p r=>?_)
 .have hnot:k∉xs.map (·.1):=not_mem_keys_of_get h;have b:=atKey_none_of_get h;refine aa (fg (aa (wpAny_updateDictKeys (hz:=by have e:=size_of_entries i;omega) (s:={s with toks:=s.toks+knd.draws k}) f hd (ae (h2 b _ ⟨_,_,ep+1,cD _ f (Obj.isFreed_of_dict (Obj.data_mapDictKeys hd _)),u.mapDictKeys _,Obj.data_mapDictKeys hd _,?e,?k,?n⟩ (bS ..))))))
  case e =>
   rw[storedH_new b];simp[i,entryOfKey]
  case k =>
   rw[storedH_new b];intro x m;rcases aK.mp m with q|q
   .exact knd.keeps (g x q) f hd (bS ..)
   .rw[aB.mp q];exact knd.keeps c f hd (bS ..)
  case n =>
   rw[storedH_new b,cy,fz];refine⟨l,by simp,λx m y B e=>hnot ?_⟩;have:y=k:=by simpa using B
   rw[<-this,<-e];exact m
 .refine aa (eC (s:={s with toks:=s.toks+knd.draws k}) f hd ?_);rw[entry_at i j,r];exact aa (fg (ae (h1 p (atKey_of_get l r))))
end
section
variable {prog:Program}{w:World}{κ:Type} [DecidableEq κ] (knd:HeapKind prog w κ)
theorem b1p(d a:Addr)(hd:(d==sysModules)=false)(b:Value) :
  MeetsIn prog w (Builtin.«dict.setdefault» ⟨[.ref d,.ref a,b],[]⟩) (λA R s=>knd.room A.in1/\∃k xs,knd.is s.heap k a/\s.heap.DictOfH knd d xs/\xs.length<=sizeLine /\
   (∀p,atKey xs k=some p->R (.ok (.ret p.2)) {s with toks:=s.toks+knd.draws k}) /\
   (atKey xs k=none->∀h',h'.DictOfH knd d (storedH xs k a b)->Heap.SameBut d s.heap h'->R (.ok (.ret b)) {s with heap:=h',toks:=s.toks+knd.draws k})) :=
 .of_wp λA R s ⟨j,k,xs,c,g,l,h1,h2⟩=>by
  unfold Builtin.«dict.setdefault» Builtin.Dict.keyAndDefault;refine aa (aa (wpAny_notOrdered_dict g.typeIs ?_));show wpAny _ _ (pure (d,Value.ref a,some b)) _ _ s;refine ae ?_;change wpAny _ _ (if (d==sysModules)=true then _ else(dictSetDefault d (.ref a) b>>=_)) _ _ s;rw[ar (by rw[hd];decide)];exact aa (b3S j c g l (λp i=>ae ⟨p.2,rfl,h1 p i⟩) λh h' e f=>ae ⟨b,rfl,h2 h h' e f⟩)
end
section
variable {X:Cx}{pins:List (Addr×Obj)}{σ:St}{H:Hp}{s:Shared}{a b:Addr}{z:V}{r:Value}{kvs:List (List Key×V)}{k:List Key}{A:Around}{E:Value->Shared->Prop}
theorem RelO.sdv{o:Option V}{p:Addr×Value}(h:RelO o (Option.map (·.2) (some p))):∃v,o=some v/\RelV v p.2:=by
 cases o with
 |none=>exact h.elim
 |some v=>exact⟨v,rfl,h⟩
theorem b7C{Q:Value->Shared->Prop}(F:A.units+1<cLine)(I:Inv X pins σ H s)(e:H a=some (.dT kvs))(m:H b=some (.tup (k.map kV)))(K:kvs.length<sizeLine)(J:RelV z r)
  (h1:∀v t s',E7 kvs k=some v->Inv X pins σ H s'->RelV v t->Q t s') (h2:∀s',E7 kvs k=none->Inv X pins σ (upd H a (.dT (V1 kvs k z))) s'->Q r s') :
  wpAny (model X.prog X.w) A (call (.builtin "dict.setdefault") [.ref a,.ref b,r]) Q E s:=by
 obtain⟨G,hd,xs,f,dd⟩:=b6a I.hok e;have l:xs.length<=sizeLine:=by rw[<-Paired.length f];exact G
 have g:=f.val k;have j:(V1 kvs k z).length<=sizeLine:=by have:=W4 kvs k z;omega
 refine call_meetsIn PySem.F.slot_dict_setdefault dd.typeIs PySem.F.entry_dict_setdefault (PySem.F.args_dict_setdefault_3 _ _ _) (b1p (tupleKind (D5 X.prog X.w)) a b hd r) ⟨ed F,k,xs,a1g I.hok m,dd,l,λp D=>?_,λC h' h hs=>?_⟩
 .rw[D]at g;obtain⟨v,i,u⟩:=RelO.sdv g;exact h1 v _ _ i (I.tok _) u
 .rw[C]at g;have d:E7 kvs k=none:=by
   cases i:E7 kvs k with
   |none=>rfl
   |some v=>rw[i]at g;exact g.elim
  refine h2 _ d ?_;obtain⟨q,es,ep,o,w,x,y,_,B⟩:=h;refine a5d I (by rw[e];exact True.intro) hs ⟨q,o⟩ ⟨j,hd,_,(f.put k m J).keeps λc ys n=>?_,q,es,ep,o,w,x,y,B⟩;rw[A1 (I0 n e (λz=>nomatch z))];exact n
end
def b1a(td ty tx:TE):TE:=λσ H Q=>td σ H λx H1=>∃a,x=.ref a/\IsD H1 a/\ty σ H1 λy H2=>tx σ H2 λz H3=>∃kvs k b,H3 a=some (.dT kvs)/\y=.ref b/\H3 b=some (.tup (k.map kV))/\kvs.length<sizeLine /\
 (∀v,E7 kvs k=some v->Q v H3)/\(E7 kvs k=none->Q z (upd H3 a (.dT (V1 kvs k z))))
section
variable {X:Cx}{o e f:Expr}{apos cpos:Pos}{td ty tx:TE}
theorem b1Y(G:X.A.units+1<cLine)(F:PE X o td)(D:PE X e ty)(E:PE X f tx)(m:M2 X o "setdefault" apos e f cpos):PE X (.Call (.Attribute o "setdefault" apos) [e,f] [] cpos) (b1a td ty tx):=by
 intro pins s σ H Q I h;refine wpAny_Call_method m.base m.few m.line PySem.F.plainAttrs_dict PySem.F.slot_dict_setdefault PySem.F.type_dict_setdefault (thn (F pins s σ H _ I h) λu s1 ⟨x,H1,j,L,a,ex,d,q1⟩=>?_);subst ex;obtain rfl:u=Value.ref a:=L;obtain⟨O,P,_⟩:=b7u j d;refine⟨O,P,?_⟩;rw[m.trees];refine Calls.callWith_builtin rfl (fO (Calls.spliced_cons (thn (D pins s1 σ H1 _ j q1) λJ s2 ⟨y,H2,p,M,K⟩ =>
  Calls.spliced_cons (thn (E pins s2 σ H2 _ p K) λR S ⟨z,n,q,l,kvs,k,b,r,t,w,A,B,C⟩=>Calls.spliced_nil ?_))))
 subst t;obtain rfl:J=Value.ref b:=M;exact b7C G q r w A l (λv T N g c i=>⟨_,n,c,i,B v g⟩) λN g c=>⟨_,_,c,l,C g⟩
theorem b5a(d:X.A.units+60<cLine)(c:JE X o td)(a:JE X e ty)(b:JE X f tx)(m:M2 X o "setdefault" apos e f cpos:=by exact⟨rfl,rfl,rfl,rfl⟩):JE X (.Call (.Attribute o "setdefault" apos) [e,f] [] cpos) (b1a td ty tx):=⟨b1Y (by omega) c.h a.h b.h m⟩
end
theorem b0V{prog:Program}{w:World}{d:Addr}(hs:(d==sysModules)=false)(es:Array DictEntry)(ep:Nat)(c:Obj)(n:c.ExactDict)(hd:c.data=.dict es ep) :
  MeetsIn prog w (Builtin.«tuple.__new__» ⟨[.type "tuple",.ref d],[]⟩) (λA R s=>A.handled=none/\s.heap.get? d=some c/\es.size<=sizeLine /\
   ∀(h':Heap) (tk:Nat) (acc:Array Value),(∀b o,s.heap.get? b=some o->h'.get? b=some o)->ItemsOf (λi v=>∃e,es[i]?=some e/\v=e.key) acc es.size->R (.ok (.ret (.ref h'.objs.size))) {s with heap:=h'.push {cls:=.type "tuple",data:=.seq acc},toks:=tk}) :=
 .of_wp λA R s h=>by
  obtain⟨l,g,dd,tk,os⟩:=s;obtain⟨r,j,p,h⟩:=h;have m:=sub_tuple_self;have f:=init_tuple_lookup;have u:=madeHere_tuple;have q:Shared.TypeIs ⟨l,g,dd,tk,os⟩ (.ref d) "dict":=⟨c,j,n.1⟩;have D:DRaw l d es ep:=⟨c,j,n,hd⟩
  wp_walk using wpAny_loadPart' j,eD q,kdu_collect (a8t hs es ep) (show A.in1.handled=none from r) D p
  intro h' k acc t a;show wpAny _ _ (Builtin.Tuple.tupleExact acc.toList.toArray>>=λv=>ret v) _ _ _;unfold Builtin.Tuple.tupleExact;have e:acc.toList.toArray=acc:=by simp
  rw[e];refine aa (bt ?_ (by show acc.size<=sizeLine;rw[a.1];exact p));exact ae ⟨_,rfl,h h' k acc t a⟩
def a8u:RL:=λxs H Q=>∃(d:Addr) (kvs:List (List Key×V)) (rss:LLI),xs=[.ref d]/\H d=some (.dT kvs)/\kvs.map (·.1)=IK rss/\∀l zs,H l=none->Its H zs rss->Q (.ref l) (upd H l (.tup zs))
section
variable {X:Cx}
theorem a6H(B:X.calm=true):E2 X (.type "tuple") a8u:=by
 intro pins s σ H xs O Q I L h;obtain⟨d,kvs,rss,rfl,hd,D,q⟩:=h;obtain⟨u,rfl,K⟩:=L.one;cases K;obtain⟨N,k,c,r,J,es,ep,v,w,y,n,M⟩:=(show ObjOk X.prog X.w H s.heap d (.dT kvs)from I.hok _ _ hd);obtain⟨A,p⟩:=a8H r D;have E:kvs.length=c.length:=Paired.length r;have j:es.size=c.length:=by rw[<-ax,n,aj]
 refine callType_newIn PySem.F.called_tuple (by decide) (PySem.F.typeCall_tuple_1 _) (PySem.F.newCall_tuple_1 _) (λl=>PySem.F.args_object_init_2 l _) PySem.F.entry_tuple_new (b0V k es ep J w y) ⟨show X.A.in1.handled=none from I.ok.hd B,v,by omega,λh' tk acc G f=>?_⟩;have z:acc.toList=c.map λx=>Value.ref x.2.1:=by
  refine eB λi=>?_;rw[av,aW];by_cases hi:i<c.length
  .have hia:i<acc.size:=by rw[f.1,j];exact hi
   obtain⟨e,C,F⟩:=f.2 i acc[i] (by simp[hia]);have a:es.toList[i]?=some e:=by rw[av];exact C
   rw[n,aW,ai hi]at a;injection a with a
   rw[bw hia,ai hi,F,<-a];rfl
  .rw[cW (by rw[f.1,j];omega),bG (by omega)];rfl
 have g:acc=(c.map λx=>Value.ref x.2.1).toArray:=by rw[<-z,Array.toArray_toList]
 have m:Inv X pins σ H {s with heap:=h',toks:=tk}:=I.kept (t':=tk) G;have t:Inv X pins σ (upd H h'.objs.size (.tup (c.map λx=>V.ref x.2.1))) {s with heap:=h'.push {cls:=.type "tuple",data:=.seq acc},toks:=tk}:=by
  rw[g];exact m.laid (t':=tk) (λb o e=>ag _ e) (aq _) (show ObjOk X.prog X.w _ _ _ (.tup (c.map λx=>V.ref x.2.1))from⟨by rw[aj];omega,_,X9 (λx:List Key×Addr×Value=>x.2.1) c,fJ _ _⟩)
 exact⟨⟨_,aJ _ rfl,rfl⟩,.ref h'.objs.size,_,t,rfl,q _ _ (m.hok.fresh (aq _)) A⟩
variable {e:Expr}{es:List Expr}{t:TA}{p pos:Pos}
theorem b0h(f:Gl X "tuple")(g:X.mg "tuple"=none)(b:JA X (e::es) t)(c:X.calm=true:=by rfl)(d:starEach (e::es) X.env=(false,eval e X.env)::starEach es X.env:=by rfl)(a:(backTo pos (starEach es X.env)).any (·.1)=false:=by rfl):JE X (.Call (.Name "tuple" p) (e::es) [] pos) (tCB a8u t):=⟨Q6 (a6H c) f g a0T b.h (by decide) (by decide) d a⟩
end
end L2
namespace K35
open PySem PySem.Spec PyProof.Rows L2
noncomputable def top(i:Nat):Stmt:=PySem.Challenge.pw_leastlays_k35_by_rows.main.body.getD i (.Pass ⟨0,0,0,0⟩)
noncomputable abbrev a4J:Stmt:=top 1
noncomputable abbrev a0B:Stmt:=top 2
noncomputable abbrev Y5:Stmt:=top 11
noncomputable abbrev a4H:Stmt:=top 12
noncomputable abbrev O1:Stmt:=top 13
noncomputable abbrev Y6:Stmt:=top 14
noncomputable abbrev a1W:Stmt:=top 15
noncomputable abbrev a1X:Stmt:=top 17
noncomputable abbrev a4I:Stmt:=top 18
noncomputable abbrev a1T:Stmt:=top 19
noncomputable abbrev a0D:Stmt:=top 20
noncomputable abbrev a4G:Stmt:=top 21
noncomputable abbrev S7:Stmt:=top 22
noncomputable abbrev O2:Stmt:=top 23
noncomputable abbrev K2:Stmt:=top 25
noncomputable abbrev a0C:Stmt:=top 26
noncomputable abbrev a1U:Stmt:=top 27
noncomputable abbrev O0:Stmt:=top 29
noncomputable abbrev L6:Stmt:=top 30
noncomputable abbrev a1V:Stmt:=top 32
noncomputable abbrev S5:Stmt:=top 34
noncomputable abbrev S6:Stmt:=top 36
noncomputable abbrev Y7:Stmt:=top 37
noncomputable abbrev S8:Stmt:=top 39
noncomputable abbrev O3:Stmt:=top 40
noncomputable abbrev K4:Stmt:=top 41
noncomputable abbrev K3:Stmt:=top 42
noncomputable abbrev O4:Stmt:=top 43
noncomputable abbrev G4:Stmt:=top 44
noncomputable abbrev G5:Stmt:=top 45
noncomputable abbrev J2:Stmt:=top 46
noncomputable abbrev L7:Stmt:=top 47
noncomputable abbrev L8:Stmt:=top 48
noncomputable abbrev a2r:Stmt:=top 49
noncomputable abbrev D9:Stmt:=T8 (top 31) 0
noncomputable abbrev a0f:Stmt:=T8 (top 31) 1
noncomputable abbrev C3:Stmt:=T8 (top 31) 2
noncomputable abbrev V6:Stmt:=T8 (top 31) 3
noncomputable abbrev K5:Stmt:=T8 (top 31) 4
noncomputable abbrev J3:Stmt:=T8 (top 31) 5
noncomputable abbrev J4:Stmt:=T8 (top 31) 6
structure Tx(mg:Str->Option Value):Prop where
 b_ValueError:mg "ValueError"=none
 b_abs:mg "abs"=none
 b_all:mg "all"=none
 b_bool:mg "bool"=none
 b_int:mg "int"=none
 b_isinstance:mg "isinstance"=none
 b_len:mg "len"=none
 b_list:mg "list"=none
 b_range:mg "range"=none
 b_set:mg "set"=none
 b_sorted:mg "sorted"=none
 b_sum:mg "sum"=none
 b_tuple:mg "tuple"=none
 b_zip:mg "zip"=none
structure PotAt(H:Hp)(a b:Addr)(n:Nat):Prop where
 ne:a≠b
 ex:∃(cs:List Int) (t k:Int),H a=some (.lst [.ref b,.int t])/\H b=some (.lst (cs.map V.int))/\cs.length<=63/\(∀c∈cs,0<=c)/\0<=t/\t<2 ^ 61/\0<=k/\k<=n
theorem PotAt.same{H H':Hp}{a b:Addr}{n:Nat}(h:PotAt H a b n)(s:Same H H'):PotAt H' a b n:=by
 obtain⟨ne,c,t,k,h1,h2,d⟩:=h;exact⟨ne,c,t,k,s _ _ h1,s _ _ h2,d⟩
theorem PotAt.mono{H:Hp}{a b:Addr}{n m:Nat}(h:PotAt H a b n)(l:n<=m):PotAt H a b m:=by
 obtain⟨ne,c,t,k,h1,h2,d,e,f,g,i,j⟩:=h;exact⟨ne,c,t,k,h1,h2,d,e,f,g,i,by omega⟩
theorem a9h{ns:List Int}{hi:Option Int}{i:Nat}{x:V}(h:(N5 (ns.map V.int) none hi)[i]?=some x):∃z,x=V.int z:=by
 unfold N5 at h;have b:=aH h;have a:=dg (bP b);obtain⟨z,_,e⟩:=aP.mp a;exact⟨z,e.symm⟩
theorem b5k{ns:List Int}{hi:Option Int}:(N5 (ns.map V.int) none hi).length<=ns.length:=by
 have:=X2 (ns.map V.int) none hi;rwa[aj]at this
section
variable {P:Program}{w:World}{K:PySem.W.Frag}{mg:Str->Option Value}{base:Heap}
inductive IspPot(K:PySem.W.Frag)(vs:List V)(H:Hp)(Q:VK)(E:XK):Prop
 |mk (a:Addr) (ns:List Int) (_:vs=[.ref a]) (_:SqL K H a (ns.map V.int)) (_:ns.length<=63) (_:∀p b H',H p=none->H b=none->PotAt H' p b 0->Same H H'->Q (.ref p) H'):IspPot K vs H Q E
def b5D(K:PySem.W.Frag):Sp:=λvs H Q E=>IspPot K vs H Q E
theorem sc__law_pot:FnScope ["_law_script","_law_seed","_law_cell"] ["_law_script"] (A2 S8):=⟨rfl,rfl,rfl,by decide +kernel,rfl,by decide +kernel,by decide +kernel⟩
theorem b7b(F:FunAt K mg "_law_pot" S8 ["_law_script"])(T:Tx mg):Ok P w K mg base "_law_pot" 1 ["_law_script"] (b5D K):=by
 refine F.okJ sc__law_pot (λvs H Q E h=>?_) (λy f A m s H vs Q E I h=>?_)
 .obtain⟨a,ns,rfl,_⟩:=h;rfl
 .obtain⟨a,ns,rfl,hS,hl,k⟩:=h;refine⟨_,(A3 (B3 (i:=1) sc__law_pot.nd rfl (Or.inl rfl) A6)
 (A3 (J7 (K7 K (b5U K (jv 0) Z2 (Z1 A6))) (A7 (i:=2) sc__law_pot.nd rfl (Or.inl rfl))
 (A4 (B3 (i:=1) sc__law_pot.nd rfl (Or.inl rfl) (a2P (U7 (U7 (a2O (jv 1) A6) (a2P (jv 2) (b2O A6 A6))) A6) A6))))
 (A4 (A9 (a0I (jaC (D6 (N:=["_law_cell"]) (src:=[none]) (K7 K (b5U K (jv 0) Z2 (Z1 A6))) (by show C7 _ _=true;rfl) (by rfl) (by rfl)
 (λ_ _ _ _ _=>(A7 (i:=0) (show(["_law_cell"]:List Str).Nodup by decide +kernel) rfl (Or.inl rfl))) (λ_ _ _ _ _=>(a2N (b8D (b2M rfl T.b_abs (jaC (jv 0) jaN)) (b2O A6 A6)))) (λ_ _ _ _ _=>(b2M rfl T.b_abs (jaC (jv 0) jaN)))) (jaC (jv 1) jaN))))))),?_⟩
  refine⟨_,rfl,63,rfl,a,_,rfl,hS,λp D=>?_⟩;refine⟨p,rfl,⟨_,SqL.of A0⟩,?_⟩;refine Q9 (K:=K) (a:=p) (xs:=N5 (ns.map V.int) none (some 63)) (λi σ H2=>Ex2 λ(t:Int) (v:Option V)=>An4 (σ=[some (.ref a),some (.int t),v]) (0<=t) (t<2 ^ 61) (H2=upd H p (.lst (N5 (ns.map V.int) none (some 63)))))
   ⟨29,none,rfl,by decide,by decide,rfl⟩ (λi σ H2 _ ⟨_,_,_,_,_,e⟩=>by rw[e];exact SqL.of A0) ?_ ?_
  .rintro i x σ H2 hx ⟨t,v,rfl,h0,h1,rfl⟩;obtain⟨z,rfl⟩:=a9h hx;dsimp only[B0];refine⟨_,rfl,_,_,rfl,rfl,.inl ⟨by omega,by omega⟩,_,rfl,_,_,rfl,rfl,⟨by decide,by decide,by decide⟩,_,_,rfl,rfl,(show(0:Int)<10 ^ Int.toNat 30 by decide),_,_,rfl,rfl,_,_,rfl,rfl,_,_,rfl,rfl,(show(0:Int)<2305843009213693951 by decide),?_⟩;refine⟨_,_,rfl,ef _ (by decide),?_,rfl⟩;have:=dC (t*6364136223846793005+z % 10 ^ Int.toNat 30+1442695040888963407) (show(0:Int)<2305843009213693951 by decide);omega
  .rintro σ H2 ⟨t,v,rfl,h0,h1,rfl⟩;have n:Same H (upd H p (.lst (N5 (ns.map V.int) none (some 63)))):=(Same.refl H).upd D;generalize upd H p (.lst (N5 (ns.map V.int) none (some 63)))=H1 at n;refine⟨_,rfl,63,rfl,a,_,rfl,n.seq hS,λp2 l=>?_⟩;have s2:Same H (upd H1 p2 (.lst (N5 (ns.map V.int) none (some 63)))):=n.upd l;refine⟨p2,rfl,⟨_,SqL.of A0⟩,?_⟩;have r:(1000:Nat)<=sizeLine:=by rw[ba];decide
   have C:=b5k (ns:=ns) (hi:=some 63);refine a1n (K:=K) (a:=p2) (xs:=N5 (ns.map V.int) none (some 63)) (by omega) (λi ys g=>g=upd H1 p2 (.lst (N5 (ns.map V.int) none (some 63)))/\ys.length<=i/\∃b:List Int,ys=b.map V.int/\∀c∈b,0<=c)
    ⟨rfl,aq _,[],rfl,λ_ h=>nomatch h⟩ (λi ys g _ ⟨e,B,_⟩=>⟨by rw[e];exact SqL.of A0,B⟩) ?_ ?_
   .rintro i x ys g hx ⟨rfl,hy,b,rfl,hc⟩;obtain⟨z,rfl⟩:=a9h hx;refine⟨Sub.one,?_⟩;refine⟨_,rfl,z,rfl,_,_,rfl,rfl,⟨by decide,by decide,by decide⟩,_,_,rfl,rfl,_,rfl,a1I (λr=>?_) (λr=>?_)⟩
    .refine⟨_,rfl,z,rfl,rfl,by rw[az];simpa using hy,b++[if z<0 then -z else z],by simp,λc j=>?_⟩;rcases aK.mp j with q|q
     .exact hc c q
     .rw[aB.mp q];split<;>omega
    .exact⟨rfl,by omega,b,rfl,hc⟩
   .rintro ys g ⟨rfl,hy,b,rfl,hc⟩ p3 hp3;refine⟨_,rfl,by show 2<=sizeLine;omega,λG d=>?_⟩;have u:=s2.upd (o:=.lst (b.map V.int)) hp3;refine k G p3 _ (u.free d) (s2.free hp3) ⟨?_,b,t,0,A0,?_,?_,hc,h0,h1,by decide,by decide⟩ (u.upd d)
    .exact(A5 (o:=.lst (b.map V.int)) A0 d).symm
    .exact M7 A0 d
    .rw[aj]at hy;omega
theorem at0{x y:V}:atI [x,y] 0=some x:=rfl
theorem at1{x y:V}:atI [x,y] 1=some y:=rfl
theorem atc{x:V}{xs:List V}:atI (x::xs) 0=some x:=a0U (j:=0) rfl
theorem b8V{x:Int}{xs:List Int}:ixN ((x::xs).map V.int).length 0=some 0:=by
 rw[aj,aU];unfold ixN;rw[ay (by decide),ay (by omega)];rfl
inductive IspTake(vs:List V)(H:Hp)(Q:VK)(E:XK):Prop
 |mk (a b:Addr) (n:Nat) (m:Int) (_:vs=[.ref a,.int m]) (_:PotAt H a b n) (_:n<2 ^ 60) (_:0<m) (_:m<2 ^ 60) (_:∀r H',0<=r->r<m->PotAt H' a b (n+1)->Off [a,b] H H'->Q (.int r) H'):IspTake  vs H Q E
def a4u:Sp:=λvs H Q E=>IspTake  vs H Q E
theorem sc__law_take:FnScope ["_law_pot_here","_law_many","_law_number_here","_law_mixed"] ["_law_pot_here","_law_many"] (A2 O3):=⟨rfl,rfl,rfl,by decide +kernel,rfl,by decide +kernel,by decide +kernel⟩
theorem b4K(F:FunAt K mg "_law_take" O3 ["_law_pot_here","_law_many"])(T:Tx mg):Ok P w K mg base "_law_take" 1 ["_law_pot_here","_law_many"] a4u:=by
 refine F.okJ sc__law_take (λvs H Q E h=>?_) (λL f A J s H vs Q E N h=>?_)
 .obtain⟨a,b,n,m,rfl,_⟩:=h;rfl
 .obtain⟨a,b,n,m,rfl,⟨ne,cs,t,k,ha,hb,hlen,hpos,ht0,ht1,hk0,hk1⟩,hn,hm0,hm1,kk⟩:=h;have O:=N.u60;refine⟨_,(A3 (G0 (b7k K O (P0 K (jv 0) A6) (a0I jaN))
 (A3 (B3 (i:=2) sc__law_take.nd rfl (Or.inl rfl) (P0 K (P0 K (jv 0) A6) A6))
 (A3 (a4U (b4Z (jv 2) (jv 1)) (a7w (P0 K (jv 0) A6) A6))
 (A3 (G0 (a2M (P0 K (P0 K (jv 0) A6) A6) A6)
 (A4 (O8 (b2I K (P0 K (jv 0) A6) (jaC A6 jaN))))
 C6)
 (A4 (A9 (a2P (jv 2) (jv 1)))))))
 C6)
 (A3 (a4U (a2P (U7 (a2O (P0 K (jv 0) A6) A6) A6) A6) (a7w (jv 0) A6))
 (A3 (B3 (i:=3) sc__law_take.nd rfl (Or.inl rfl) (a2P (a2O (U7 (a2P (P0 K (jv 0) A6) A6) A6) (U7 (b2P (P0 K (jv 0) A6) A6) A6)) A6))
 (A4 (A9 (a2P (b2P (jv 3) A6) (jv 1))))))),?_⟩
  refine b7V (b:=b) (cs:=cs) (λS q=>ixL (var rfl) con ha at0 q) hb λp D=>?_;have j:=M7 (o:=.lst []) ha D;have r:=M7 (o:=.lst []) hb D;have l:Off [a,b] H (upd H p (.lst [])):=(Off.refl _ _).upd D;generalize upd H p (.lst [])=H1 at j r l;cases cs with
  |nil =>
   refine G7 ?_;refine⟨_,rfl,a,_,1,_,rfl,rfl,SqL.of j,at1,_,_,rfl,rfl,.inl ⟨by omega,by omega⟩,_,_,rfl,rfl,_,_,rfl,rfl,(show(0:Int)<2305843009213693951 by decide),?_⟩;dsimp only;generalize v:(t*3935559000370003845+2691343689449507681) % 2305843009213693951=x;have I:0<=x:=by rw[<-v];exact ef _ (by decide)
   have R:x<2305843009213693951:=by rw[<-v];exact dC _ (by decide)
   refine⟨_,rfl,a,_,1,1,rfl,rfl,j,rfl,?_⟩;have y:PotAt (upd H1 a (.lst [.ref b,.int x])) a b (n+1):=⟨ne,[],x,0,A0,by rw[A1 ne.symm];exact r,by decide,(λ_ z=>nomatch z),I,by omega,by decide,by omega⟩;have g:Off [a,b] H (upd H1 a (.lst [.ref b,.int x])):=l.set (by simp);have d:upd H1 a (.lst [.ref b,.int x]) a=some (.lst [.ref b,.int x]):=A0;dsimp only[List.set_cons_succ,List.set_cons_zero];generalize upd H1 a (.lst [.ref b,.int x])=H2 at y g d⊢;have U:0<=x % 1000000007:=ef _ (by decide);have q1:x % 1000000007<1000000007:=dC _ (by decide);refine⟨_,rfl,a,_,1,_,rfl,rfl,SqL.of d,at1,_,_,rfl,rfl,(show(0:Int)<1000000007 by decide),_,_,rfl,rfl,_,rfl,a,_,1,_,rfl,rfl,SqL.of d,at1,_,_,rfl,rfl,⟨by decide,by decide⟩,_,_,rfl,rfl,_,_,rfl,rfl,.inl ⟨by omega,by omega⟩,_,_,rfl,rfl,(show(0:Int)<2305843009213693921 by decide),?_⟩;dsimp only[B0];refine⟨_,rfl,_,_,rfl,rfl,⟨by decide,by decide⟩,_,rfl,_,_,rfl,rfl,hm0,?_⟩;exact kk _ _ (ef _ (by omega)) (dC _ hm0) y g
  |cons c cs =>
   refine N8 ?_;have C:0<=c:=hpos c au;have M:cs.length+1<=63:=hlen;refine⟨_,rfl,a,_,0,_,rfl,rfl,SqL.of j,at0,b,_,0,_,rfl,rfl,SqL.of r,atc,?_⟩;dsimp only[B0];refine⟨_,rfl,_,rfl,_,_,rfl,rfl,⟨hm0,by omega⟩,?_⟩;refine⟨_,rfl,a,_,0,_,rfl,rfl,SqL.of j,at0,b,_,0,0,rfl,rfl,r,b8V,?_⟩;have G:0<=c / m:=Int.ediv_nonneg C (by omega);dsimp only;generalize B:upd H1 b _=H2;have u:H2 b=some (.lst ((c / m::cs).map V.int)):=by rw[<-B];exact A0
   have d:H2 a=some (.lst [.ref b,.int t]):=by rw[<-B,A1 ne];exact j
   have g:Off [a,b] H H2:=by rw[<-B];exact l.set (by simp)
   refine a0A (λσ H'=>Ex1 λo=>An3 (σ=[some (.ref a),some (.int m),some (.int c),o]) (PotAt H' a b (n+1)) (Off [a,b] H H')) ?fin λfin=>?_
   case fin =>
    rintro σ H' ⟨o,rfl,y,off⟩;refine⟨_,rfl,_,rfl,_,_,rfl,rfl,hm0,?_⟩;exact kk _ _ (ef _ (by omega)) (dC _ hm0) y off
   refine⟨_,rfl,a,_,0,_,rfl,rfl,SqL.of d,at0,b,_,0,_,rfl,rfl,SqL.of u,atc,rfl,_,rfl,a1I (λe=>?_) (λe=>?_)⟩
   .refine⟨_,rfl,a,_,0,_,rfl,rfl,SqL.of d,at0,.inl ⟨rfl,_,SqL.of u⟩,b,_,0,0,_,rfl,rfl,u,by decide,by decide,seqIndex_of (by decide) (by simp),rfl,?_⟩;exact fin _ _ ⟨none,rfl,⟨ne,cs,t,0,by rw[A1 ne];exact d,A0,by omega,λx v=>hpos x (ak _ v),ht0,ht1,by decide,by omega⟩,g.set (by simp)⟩
   .refine fin _ _ ⟨none,rfl,⟨ne,c / m::cs,t,0,d,u,hlen,λx v=>?_,ht0,ht1,by decide,by omega⟩,g⟩;rcases aI.mp v with rfl|v
    .exact G
    .exact hpos x (ak _ v)
end
theorem a3o{ns:List Int}{k:Nat}(h:k<ns.length):atI (ns.map V.int) (k:Int)=some (.int (ns.getD k 0)):=by
 refine a0U ?_;rw[aW,ai h];simp[ao,h]
theorem b1P{H:Hp}{a b:Addr}{n:Nat}(h:PotAt H a b n){c:Addr}{xs:List V}(d:H c=some (.tup xs)):c∉[a,b]:=by
 obtain⟨_,e,t,k,h1,h2,_⟩:=h;simp only[aI,bN,df,not_or];exact⟨I0 d h1 (by intro z;cases z),I0 d h2 (by intro z;cases z)⟩
theorem IT.off{H H':Hp}{v:V}{ns:List Int}{a b:Addr}{n:Nat}(h:IT H v ns)(d:PotAt H a b n)(o:Off [a,b] H H'):IT H' v ns:=by
 obtain⟨c,e,q⟩:=h;exact⟨c,e,o c _ (b1P d q) q⟩
theorem sqt{K:PySem.W.Frag}{H:Hp}{a:Addr}{xs:List V}(h:H a=some (.tup xs)):SqK true K H a xs:=SqT.of h
noncomputable def Bel(xs ys:List Int):Bool:=(List.zipWith (λa b=>decide (a<=b)) xs ys).all id
theorem b7R(xs ys:List Int):(List.zipWith (λa b=>V.bl (decide (a<=b))) xs ys).all trV=Bel xs ys:=by
 unfold Bel;induction xs generalizing ys with
 |nil=>rfl
 |cons x xs c =>
  cases ys with
  |nil=>rfl
  |cons y ys=>simp only[aY,cY,c ys];rfl
theorem a4m{γ:Type}(f:Int->Int->Int)(g:Int->γ):∀xs ys:List Int,List.zipWith (λa b=>g (f a b)) xs ys=(List.zipWith f xs ys).map g
 |[],_=>rfl
 |_::_,[]=>rfl
 |x::xs,y::ys=>by rw[aY,aY,aV,a4m f g xs ys]
section
variable {P:Program}{w:World}{K:PySem.W.Frag}{mg:Str->Option Value}{base:Heap}
end
theorem a2Z(n:Nat):(List.replicate n [V.int 0]).flatten=(List.replicate n (0:Int)).map V.int:=by
 induction n with
 |zero=>rfl
 |succ n a=>rw[bL,cQ,a,bL];rfl
noncomputable def dot(xs ys:List Int):Int:=(List.zipWith (λa b=>a*b) xs ys).sum
noncomputable def Ans(rss:LLI)(ys:List Int):Bool:=rss.all λr=>decide (dot r ys=0)
def Sm(ys:List Int):Prop:=∀z∈ys,-2 ^ 64<z/\z<2 ^ 64
section
variable {P:Program}{w:World}{K:PySem.W.Frag}{mg:Str->Option Value}{base:Heap}
inductive IspRowSum(vs:List V)(H:Hp)(Q:VK)(E:XK):Prop
 |mk (x:_) (y:_) (xs:_) (ys:_) (_:vs=[x,y]) (_:IT H x xs) (_:IT H y ys) (_:xs.length<=1000) (_:Sm ys) (_:∀H',Same H H'->Q (.int (dot xs ys)) H'):IspRowSum  vs H Q E
def a2l:Sp:=λvs H Q E=>IspRowSum  vs H Q E
theorem a7f:FnScope ["row","one"] ["row","one"] (A2 Y5):=⟨rfl,rfl,rfl,by decide +kernel,rfl,by decide +kernel,by decide +kernel⟩
theorem a7o(F:FunAt K mg "row_sum" Y5 ["row","one"])(T:Tx mg):Ok P w K mg base "row_sum" 1 ["row","one"] a2l:=by
 refine F.okJ a7f (λvs H Q E h=>?_) (λd f A c s H vs Q E l h=>?_)
 .obtain⟨x,y,xs,ys,rfl,_⟩:=h;rfl
 .obtain⟨_,_,xs,ys,rfl,⟨a,rfl,ha⟩,⟨b,rfl,hb⟩,hl,hs,k⟩:=h;refine⟨_,(A4 (A9 (b2J K rfl T.b_sum (jaC (D6 (N:=["a","b"]) (src:=[none,none]) (a0q K rfl T.b_zip (jaC (jv 0) (jaC (jv 1) jaN))) (by show C7 _ _=true;rfl) (by rfl) (by rfl)
 (λ_ _ _ _ _=>(T7 K 2 (B7 (A7 (i:=0) (show(["a","b"]:List Str).Nodup by decide +kernel) rfl (Or.inl rfl)) (B7 (A7 (i:=1) (show(["a","b"]:List Str).Nodup by decide +kernel) rfl (Or.inl rfl)) M4)))) (λ_ _ _ _ _=>G2) (λ_ _ _ _ _=>(a2O (jv 0) (jv 1)))) jaN)))),?_⟩
  refine⟨_,rfl,_,rfl,true,true,a,b,rfl,⟨_,SqT.of ha⟩,⟨_,SqT.of hb⟩,?_⟩;refine a9q (caps:=[]) (λx y=>V.int (x*y)) hl (λH' s=>⟨sqt (s _ _ ha),sqt (s _ _ hb)⟩) rfl (λx y H1 j _ g _ q=>⟨_,rfl,_,rfl,_,_,rfl,rfl,.inr (hs y g),q⟩) λH1 p s e=>?_;rw[a4m (λx y=>x*y) V.int];exact⟨false,p,_,rfl,SqL.of A0,k _ (s.upd e)⟩
inductive IspSums(vs:List V)(H:Hp)(Q:VK)(E:XK):Prop
 |mk (a:Addr) (y:V) (us:List V) (rss:LLI) (ys:List Int) (_:vs=[.ref a,y]) (_:H a=some (.tup us)) (_:Its H us rss) (_:IT H y ys) (_:us.length<=1000) (_:(∀r∈rss,r.length<=1000)) (_:Sm ys) (_:∀v H',Same H H'->IT H' v (rss.map λr=>dot r ys)->Q v H'):IspSums  vs H Q E
def a7b:Sp:=λvs H Q E=>IspSums  vs H Q E
theorem b3U:FnScope ["rows","one"] ["rows","one"] (A2 a4H):=⟨rfl,rfl,rfl,by decide +kernel,rfl,by decide +kernel,by decide +kernel⟩
theorem b4L(F:FunAt K mg "sums" a4H ["rows","one"])(T:Tx mg)(b:Ok P w K mg base "row_sum" 1 ["row","one"] a2l):Ok P w K mg base "sums" 2 ["rows","one"] a7b:=by
 refine F.okJ b3U (λvs H Q E h=>?_) (λg f A e s H vs Q E d h=>?_)
 .obtain⟨a,y,us,rss,ys,rfl,_⟩:=h;rfl
 .obtain⟨a,y,us,rss,ys,rfl,ha,hI,hy,c,hl2,hs,k⟩:=h;refine⟨_,(A4 (A9 (C0 K rfl T.b_tuple (jaC (D6 (N:=["row","one"]) (src:=[none,some 1]) (T5 K (jv 0)) (by show C7 _ _=true;rfl) (by rfl) (by rfl)
 (λ_ _ _ _ _=>(A7 (i:=0) (show(["row","one"]:List Str).Nodup by decide +kernel) rfl (Or.inl rfl))) (λ_ _ _ _ _=>G2) (λ_ _ _ _ _=>(A8 b (d.mono (by omega)) rfl (jaC (jv 0) (jaC (jv 1) jaN))))) jaN)))),?_⟩
  refine⟨_,rfl,a,rfl,⟨_,SqT.of ha⟩,?_⟩;refine a8a (caps:=[some y]) (λr=>V.int (dot r ys)) c (λH' s=>SqT.of (s _ _ ha)) hI rfl (λv r H1 n d m s1 q=>⟨_,rfl,_,rfl,v,y,r,ys,rfl,m,hy.same s1,hl2 r d,hs,q⟩) λH1 p s j=>?_;rw[show(rss.map λr=>V.int (dot r ys))=(rss.map λr=>dot r ys).map V.int by rw[dz];rfl];refine⟨p,_,rfl,.inl ⟨SqL.of A0,λl c=>?_⟩⟩;exact k _ _ ((s.upd j).upd c) ⟨l,rfl,A0⟩
inductive IspIsAns(vs:List V)(H:Hp)(Q:VK)(E:XK):Prop
 |mk (a:Addr) (y:V) (us:List V) (rss:LLI) (ys:List Int) (_:vs=[.ref a,y]) (_:H a=some (.tup us)) (_:Its H us rss) (_:IT H y ys) (_:us.length<=1000) (_:(∀r∈rss,r.length<=1000)) (_:Sm ys) (_:∀H',Same H H'->Q (.bl (Ans rss ys)) H'):IspIsAns  vs H Q E
def a8n:Sp:=λvs H Q E=>IspIsAns  vs H Q E
theorem a4D:FnScope ["rows","one"] ["rows","one"] (A2 O1):=⟨rfl,rfl,rfl,by decide +kernel,rfl,by decide +kernel,by decide +kernel⟩
theorem a4P(F:FunAt K mg "is_answer" O1 ["rows","one"])(T:Tx mg)(b:Ok P w K mg base "sums" 2 ["rows","one"] a7b):Ok P w K mg base "is_answer" 3 ["rows","one"] a8n:=by
 refine F.okJ a4D (λvs H Q E h=>?_) (λj f A d s H vs Q E m h=>?_)
 .obtain⟨a,y,us,rss,ys,rfl,_⟩:=h;rfl
 .obtain⟨a,y,us,rss,ys,rfl,ha,hI,hy,hl,hl2,hs,k⟩:=h;refine⟨_,(A4 (A9 (a4V K rfl T.b_all (jaC (D6 (N:=["total"]) (src:=[none]) (T5 K (A8 b (m.mono (by omega)) rfl (jaC (jv 0) (jaC (jv 1) jaN)))) (by show C7 _ _=true;rfl) (by rfl) (by rfl)
 (λ_ _ _ _ _=>(A7 (i:=0) (show(["total"]:List Str).Nodup by decide +kernel) rfl (Or.inl rfl))) (λ_ _ _ _ _=>G2) (λ_ _ _ _ _=>(a8K (jv 0) A6))) jaN)))),?_⟩
  refine⟨_,rfl,_,rfl,a,y,us,rss,ys,rfl,ha,hI,hy,hl,hl2,hs,λv H1 s1 c=>?_⟩;obtain⟨q,rfl,g⟩:=c;refine⟨q,rfl,⟨_,SqT.of g⟩,?_⟩;refine a5B (caps:=[]) (λx=>V.bl (decide (V.int x=V.int 0))) (by rw[aj,<-hI.1];exact hl) (λH' s=>SqT.of (s _ _ g)) rfl (λx H2 n _ _ q=>⟨_,rfl,rfl,q⟩) λH2 p s2 l=>?_;refine⟨false,p,_,rfl,SqL.of A0,?_,?_⟩
  .rw[bI];intro v c;obtain⟨x,_,rfl⟩:=aP.mp c;rfl
  .have e:((rss.map λr=>dot r ys).map λx=>V.bl (decide (V.int x=V.int 0))).all trV=Ans rss ys:=by
    rw[List.all_map,List.all_map];unfold Ans;congr 1;funext r;show decide (V.int (dot r ys)=V.int 0)=decide (dot r ys=0);simp
   rw[e];exact k _ (s1.trans (s2.upd l))
end
theorem a5n{α β γ:Type}(f:α->β->Int)(g:Int->γ):∀(xs:List α) (ys:List β),List.zipWith (λa b=>g (f a b)) xs ys=(List.zipWith f xs ys).map g
 |[],_=>rfl
 |_::_,[]=>rfl
 |x::xs,y::ys=>by rw[aY,aY,aV,a5n f g xs ys]
noncomputable def O5(rss:LLI)(ts:List Int)(j:Nat):Int:=(List.zipWith (λt r=>t*r.getD j 0) ts rss).sum
noncomputable def a1q(rss:LLI)(ys:List Int)(j:Nat):Int:=O5 rss (rss.map λr=>dot r ys) j
def Sb(ys:List Int):Prop:=∀z∈ys,z.natAbs<2 ^ 200
def Rs(n:Nat)(rss:LLI):Prop:=∀r∈rss,r.length=n/\Sb r
theorem Sb.at{r:List Int}(h:Sb r){j:Nat}(a:j<r.length):(r.getD j 0).natAbs<2 ^ 200:=by
 refine h _ ?_;rw[ao,ai a];exact cM _
theorem a9b:∀(r ys:List Int),Sb r->Sm ys->(dot r ys).natAbs<=ys.length*(2 ^ 200*2 ^ 64)
 |[],ys,_,_=>by simp[dot]
 |_::_,[],_,_=>by simp[dot]
 |x::r,y::ys,b,hs=>by
  have e:dot (x::r) (y::ys)=x*y+dot r ys:=by unfold dot;rw[aY,bg]
  have g:=a9b r ys (λz a=>b z (ak _ a)) (λz a=>hs z (ak _ a));have h1:=b x au;have h2:=hs y au;have c:y.natAbs<=2 ^ 64:=by omega
  have d:(x*y).natAbs<=2 ^ 200*2 ^ 64:=by rw[Int.natAbs_mul];exact Nat.mul_le_mul (cH h1) c
  have f:=Int.natAbs_add_le (x*y) (dot r ys);rw[e,aU,Nat.add_mul,Nat.one_mul];omega
theorem b5i{r ys:List Int}(b:Sb r)(hs:Sm ys)(a:ys.length<=1000):(dot r ys).natAbs<2 ^ 400 :=
 dy (a9b r ys b hs) (dy (fX _ a) (by decide))
section
variable {P:Program}{w:World}{K:PySem.W.Frag}{mg:Str->Option Value}{base:Heap}
inductive IspPullOf(vs:List V)(H:Hp)(Q:VK)(E:XK):Prop
 |mk (a:Addr) (y:V) (us:List V) (rss:LLI) (ts:List Int) (j n:Nat) (_:vs=[.ref a,y,.int j]) (_:H a=some (.tup us)) (_:Its H us rss) (_:IT H y ts) (_:ts.length<=1000) (_:j<n) (_:n<=1000) (_:Rs n rss) (_:(∀t∈ts,t.natAbs<2 ^ 400)) (_:∀H',Same H H'->Q (.int (O5 rss ts j)) H'):IspPullOf  vs H Q E
def a5L:Sp:=λvs H Q E=>IspPullOf  vs H Q E
theorem a7g:FnScope ["rows","totals","j"] ["rows","totals","j"] (A2 Y6):=⟨rfl,rfl,rfl,by decide +kernel,rfl,by decide +kernel,by decide +kernel⟩
theorem a7q(F:FunAt K mg "pull_of" Y6 ["rows","totals","j"])(T:Tx mg):Ok P w K mg base "pull_of" 1 ["rows","totals","j"] a5L:=by
 refine F.okJ a7g (λvs H Q E h=>?_) (λe f A c s H vs Q E d h=>?_)
 .obtain⟨a,y,us,rss,ts,j,n,rfl,_⟩:=h;rfl
 .obtain⟨a,_,us,rss,ts,j,n,rfl,ha,hI,⟨b,rfl,hb⟩,hl,hj,hn,hR,hts,k⟩:=h;refine⟨_,(A4 (A9 (b2J K rfl T.b_sum (jaC (D6 (N:=["total","row","j"]) (src:=[none,none,some 2]) (a0q K rfl T.b_zip (jaC (jv 1) (jaC (jv 0) jaN))) (by show C7 _ _=true;rfl) (by rfl) (by rfl)
 (λ_ _ _ _ _=>(T7 K 2 (B7 (A7 (i:=0) (show(["total","row","j"]:List Str).Nodup by decide +kernel) rfl (Or.inl rfl)) (B7 (A7 (i:=1) (show(["total","row","j"]:List Str).Nodup by decide +kernel) rfl (Or.inl rfl)) M4)))) (λ_ _ _ _ _=>G2) (λ_ _ _ _ _=>(b7o (jv 0) (a0h K (jv 1) (jv 2))))) jaN)))),?_⟩
  refine⟨_,rfl,_,rfl,true,true,b,a,rfl,⟨_,SqT.of hb⟩,⟨_,SqT.of ha⟩,?_⟩;refine b0I (caps:=[some (.int j)]) (λt r=>V.int (t*r.getD j 0)) hl (λH' s=>⟨sqt (s _ _ hb),sqt (s _ _ ha)⟩) hI rfl (λx v r H1 u o d m _ q=>?_) λH1 p s l=>?_
  .obtain⟨va,rfl,hva⟩:=m;obtain⟨z,g⟩:=hR r d;exact⟨_,rfl,_,rfl,_,rfl,va,_,_,_,rfl,rfl,SqT.of hva,a3o (by omega),_,_,rfl,rfl,⟨aE (hts x o) (Nat.pow_le_pow_right (by decide) (by decide)),aE (g.at (by omega)) (Nat.pow_le_pow_right (by decide) (by decide))⟩,q⟩
  .rw[a5n (λt r=>t*List.getD r j 0) V.int];exact⟨false,p,_,rfl,SqL.of A0,k _ (s.upd l)⟩
inductive IspFalls(vs:List V)(H:Hp)(Q:VK)(E:XK):Prop
 |mk (a:Addr) (y:V) (us:List V) (rss:LLI) (ys:List Int) (_:vs=[.ref a,y]) (_:H a=some (.tup us)) (_:Its H us rss) (_:IT H y ys) (_:us.length<=1000) (_:ys.length<=1000) (_:Rs ys.length rss) (_:Sm ys) (_:∀v H',Same H H'->IT H' v (((List.range ys.length).filter λj=>decide (a1q rss ys j<0)).map λ(i:Nat)=>(i:Int))->Q v H'):IspFalls  vs H Q E
def a8o:Sp:=λvs H Q E=>IspFalls  vs H Q E
theorem sc_falls:FnScope ["rows","one","totals"] ["rows","one"] (A2 a1W):=⟨rfl,rfl,rfl,by decide +kernel,rfl,by decide +kernel,by decide +kernel⟩
theorem b2m(F:FunAt K mg "falls" a1W ["rows","one"])(T:Tx mg)(b:Ok P w K mg base "pull_of" 1 ["rows","totals","j"] a5L)(c:Ok P w K mg base "sums" 2 ["rows","one"] a7b):Ok P w K mg base "falls" 3 ["rows","one"] a8o:=by
 refine F.okJ sc_falls (λvs H Q E h=>?_) (λn f A m s H vs Q E d h=>?_)
 .obtain⟨a,y,us,rss,ts,rfl,_⟩:=h;rfl
 .obtain⟨a,y,us,rss,ys,rfl,ha,hI,hy,e,hn,hR,hs,k⟩:=h;refine⟨_,(A3 (B3 (i:=2) sc_falls.nd rfl (Or.inr rfl) (A8 c (d.mono (by omega)) rfl (jaC (jv 0) (jaC (jv 1) jaN))))
 (A4 (A9 (C0 K rfl T.b_tuple (jaC (D6 (N:=["j","rows","totals"]) (src:=[none,some 0,some 2]) (E8 rfl T.b_range (jaC (Q0 K rfl T.b_len (jaC (jv 1) jaN)) jaN)) (by show C7 _ _=true;rfl) (by rfl) (by rfl)
 (λ_ _ _ _ _=>(A7 (i:=0) (show(["j","rows","totals"]:List Str).Nodup by decide +kernel) rfl (Or.inl rfl))) (λ_ _ _ _ _=>(a2N (b2C (A8 b (d.mono (by omega)) rfl (jaC (jv 1) (jaC (jv 2) (jaC (jv 0) jaN)))) A6))) (λ_ _ _ _ _=>(jv 0))) jaN))))),?_⟩
  refine⟨_,rfl,_,rfl,a,y,us,rss,ys,rfl,ha,hI,hy,e,λr d=>by rw[(hR r d).1];exact hn,hs,λv H1 s1 x=>?_⟩;dsimp only[B0];obtain⟨B,rfl,g⟩:=hy.same s1;refine⟨_,rfl,B,_,rfl,.inr (SqT.of g),_,rfl,by omega,by rw[aj];omega,?_⟩;rw[br,aj];refine a7j (caps:=[some (.ref a),some v]) (λj=>decide (a1q rss ys j<0)) hn rfl (λi H2 D hi s2 q=>?_) λH2 p s2 o=>?_
  .refine⟨_,rfl,_,rfl,_,rfl,a,v,us,rss,_,i,ys.length,rfl,(s1.trans s2) _ _ ha,hI.same (s1.trans s2),x.same s2,by rw[aj,<-hI.1];exact e,hi,hn,hR,λt u=>by
    obtain⟨r,d,rfl⟩:=aP.mp u;exact b5i (hR r d).2 hs hn,λC z=>?_⟩
   exact⟨_,_,rfl,rfl,_,rfl,q _ z⟩
  .refine⟨p,_,rfl,.inl ⟨SqL.of A0,λl e=>?_⟩⟩;exact k _ _ (s1.trans ((s2.upd o).upd e)) ⟨l,rfl,A0⟩
end
theorem B9(x y:Int)(xs ys:List Int):dot (x::xs) (y::ys)=x*y+dot xs ys:=by unfold dot;rw[aY,bg]
theorem a0O:∀(xs:List Int) (n:Nat),dot xs (List.replicate n 0)=0
 |[],_=>rfl
 |_::_,0=>rfl
 |x::xs,n+1=>by rw[bL,B9,a0O xs n];omega
theorem a4b:∀(xs ys:List Int),xs.length=ys.length->dot xs ys=((List.range ys.length).map λj=>xs.getD j 0*ys.getD j 0).sum
 |[],[],_=>rfl
 |x::xs,y::ys,h=>by
  rw[B9,a4b xs ys (by simpa using h),aU,List.range_succ_eq_map,aV,bg,dz];rfl
theorem a8g(l:List Nat)(f g:Nat->Int):(l.map λj=>f j+g j).sum=(l.map f).sum+(l.map g).sum:=by
 induction l with
 |nil=>rfl
 |cons x l a=>simp only[aV,bg,a];omega
theorem a4r(l:List Nat)(c:Int)(f:Nat->Int):(l.map λj=>c*f j).sum=c*(l.map f).sum:=by
 induction l with
 |nil=>simp
 |cons x l a=>simp only[aV,bg,a,fD]
noncomputable def bump(now:List Int)(j:Nat):List Int:=now.set j (now.getD j 0+1)
noncomputable def Pl(rss:LLI)(now xs:List Int):List Nat:=(List.range xs.length).filter λj=>decide (now.getD j 0<xs.getD j 0) && (Ans rss now || decide (a1q rss now j<0))
def Under(now xs:List Int):Prop:=now.length=xs.length/\∀j,j<xs.length->now.getD j 0<=xs.getD j 0
theorem E5(a:List Int)(j:Nat):(bump a j).length=a.length:=eT
theorem b1R{rss:LLI}{a xs:List Int}{j:Nat}(h:j∈Pl rss a xs):j<xs.length/\a.getD j 0<xs.getD j 0:=by
 unfold Pl at h;rw[aN,aR,aQ,bY]at h;exact⟨h.1,h.2.1⟩
theorem a0Q(a:List Int)(j k:Nat)(b:j<a.length):(bump a j).getD k 0=if k=j then a.getD j 0+1 else a.getD k 0:=by
 unfold bump;rw[ao,fA];by_cases e:j=k
 .subst e;rw[ay rfl,ay b,ay rfl];rfl
 .rw[ar e,ar (dM e),ao]
theorem Under.bump{rss:LLI}{a xs:List Int}{j:Nat}(h:Under a xs)(b:j∈Pl rss a xs):Under (bump a j) xs:=by
 obtain⟨h1,h2⟩:=b1R b;refine⟨by rw[E5];exact h.1,λk c=>?_⟩;rw[a0Q _ _ _ (by rw[h.1];exact h1)];by_cases e:k=j
 .rw[ay e,e];omega
 .rw[ar e];exact h.2 k c
theorem a8f:∀(xs:List Int) (k:Nat) (z:Int),k<xs.length->(xs.set k z).sum=xs.sum-xs.getD k 0+z
 |[],_,_,h=>by simp at h
 |x::xs,0,z,_=>by rw[List.set_cons_zero,bg,bg,List.getD_cons_zero];omega
 |x::xs,k+1,z,h=>by rw[List.set_cons_succ,bg,bg,List.getD_cons_succ,a8f xs k z (by simpa using h)];omega
theorem a6I(a:List Int)(j:Nat)(h:j<a.length):(bump a j).sum=a.sum+1:=by
 unfold bump;rw[a8f _ _ _ h];omega
theorem Under.tail{x y:Int}{xs ys:List Int}(h:Under (x::xs) (y::ys)):x<=y/\Under xs ys :=
 ⟨by simpa using h.2 0 (by simp),by simpa using h.1,λj a=>by simpa using h.2 (j+1) (by simpa using a)⟩
theorem Under.sum:∀{xs ys:List Int},Under xs ys->xs.sum<=ys.sum/\(xs≠ys->xs.sum<ys.sum)
 |[],[],_=>⟨ek _,λh=>absurd rfl h⟩
 |[],_::_,h=>by have:=h.1;simp at this
 |_::_,[],h=>by have:=h.1;simp at this
 |x::xs,y::ys,h=>by
  obtain⟨h1,h2⟩:=h.tail;obtain⟨b,a⟩:=Under.sum h2;rw[bg,bg];refine⟨by omega,λne=>?_⟩;by_cases e:xs=ys
  .subst e;have:x≠y:=λq=>ne (by rw[q]);omega
  .have:=a e;omega
theorem Under.ne:∀{xs ys:List Int},Under xs ys->xs≠ys->∃j,j<ys.length/\xs.getD j 0<ys.getD j 0
 |[],[],_,h=>absurd rfl h
 |[],_::_,h,_=>by have:=h.1;simp at this
 |_::_,[],h,_=>by have:=h.1;simp at this
 |x::xs,y::ys,h,ne=>by
  obtain⟨h1,h2⟩:=h.tail;by_cases e:xs=ys
  .subst e;have:x≠y:=λq=>ne (by rw[q]);exact⟨0,by simp,by simp;omega⟩
  .obtain⟨j,q1,q2⟩:=Under.ne h2 e;exact⟨j+1,by simpa using q1,by simpa using q2⟩
theorem b1d(l:List Int)(h:∀x∈l,0<=x):0<=l.sum:=by
 induction l with
 |nil=>exact ek _
 |cons x l b =>
  rw[bg];have:=h x (au ..);have:=b λy a=>h y (ak _ a);omega
theorem b3J(l:List Int)(h:∀x∈l,0<=x)(y:Int)(b:y∈l)(hp:0<y):0<l.sum:=by
 induction l with
 |nil=>cases b
 |cons x l c =>
  rw[bg];have e:=h x (au ..);have d:=b1d l λz a=>h z (ak _ a);rcases aI.mp b with q|q
  .omega
  .have:=c (λz a=>h z (ak _ a)) q;omega
theorem a1x(t:Int):0<=t*t:=by
 rcases Int.le_total 0 t with h|h
 .exact dP h h
 .have:=dP (a := -t) (b := -t) (by omega) (by omega);rwa[Int.neg_mul_neg]at this
theorem a2i(ys:List Int):∀(rss:LLI) (a:List Int),(∀r∈rss,r.length=ys.length)->a.length=rss.length ->
  ((List.range ys.length).map λj=>O5 rss a j*ys.getD j 0).sum=(List.zipWith (λt r=>t*dot r ys) a rss).sum
 |[],[],_,_=>by
  have e:((List.range ys.length).map λj=>O5 [] [] j*ys.getD j 0)=(List.range ys.length).map λj=>0*ys.getD j 0:=rfl;rw[e,a4r,Int.zero_mul];rfl
 |[],_::_,_,h=>by simp at h
 |_::_,[],_,h=>by simp at h
 |r::rss,t::a,h,b=>by
  have d:=a2i ys rss a (λq c=>h q (ak _ c)) (by simpa using b);rw[aY,bg,<-d];have e:(λj=>O5 (r::rss) (t::a) j*ys.getD j 0)=λj=>t*(r.getD j 0*ys.getD j 0)+O5 rss a j*ys.getD j 0:=by
   funext j;unfold O5;rw[aY,bg,Int.add_mul,Int.mul_assoc]
  rw[e,a8g,a4r,<-a4b r ys (h r (au ..))]
theorem a8i:∀(rss:LLI) (a xs:List Int),Ans rss xs=true->(List.zipWith (λt r=>t*dot r xs) (rss.map λr=>dot r a) rss).sum=0
 |[],_,_,_=>rfl
 |r::rss,a,xs,h=>by
  unfold Ans at h;rw[cY,aQ,bY]at h;rw[aV,aY,bg,h.1,a8i rss a xs h.2];omega
theorem b6k(rss:LLI)(a:List Int)(h:Ans rss a=false):0<(List.zipWith (λt r=>t*dot r a) (rss.map λr=>dot r a) rss).sum:=by
 have e:List.zipWith (λt r=>t*dot r a) (rss.map λr=>dot r a) rss=rss.map λr=>dot r a*dot r a:=by
  clear h;induction rss with
  |nil=>rfl
  |cons r rss f=>rw[aV,aY,aV,f]
 rw[e];have:∃r∈rss,dot r a≠0:=by
  refine bF λq=>?_;have:Ans rss a=true:=by
   unfold Ans;rw[bI];intro r c;rw[bY];exact bF λz=>q ⟨r,c,z⟩
  rw[this]at h;cases h
 obtain⟨r,c,b⟩:=this;refine b3J _ (λx d=>?_) (dot r a*dot r a) (aP.mpr ⟨r,c,rfl⟩) ?_
 .obtain⟨q,_,rfl⟩:=aP.mp d;exact a1x _
 .have h1:=a1x (dot r a);have h2:dot r a*dot r a≠0:=λz=>by
   rcases Int.mul_eq_zero.mp z with q|q<;>exact b q
  omega
theorem b8p(rss:LLI)(a xs:List Int)(hR:∀r∈rss,r.length=xs.length)(c:Under a xs)(h:a≠xs)(m:Ans rss xs=true):Pl rss a xs≠[]:=by
 intro b;unfold Pl at b;rw[List.filter_eq_nil_iff]at b;cases d:Ans rss a with
 |true =>
  obtain⟨j,h1,h2⟩:=c.ne h;refine b j (aR.mpr h1) ?_;rw[d,aQ,bY];exact⟨h2,rfl⟩
 |false =>
  have p1:=a2i a rss (rss.map λr=>dot r a) (λr o=>by rw[hR r o,c.1]) (by simp);have p2:=a2i xs rss (rss.map λr=>dot r a) hR (by simp);have w:=b6k rss a d;have u:=a8i rss a xs m;rw[c.1]at p1;have v:((List.range xs.length).map λj=>O5 rss (rss.map λr=>dot r a) j*a.getD j 0+(-1)*(O5 rss (rss.map λr=>dot r a) j*xs.getD j 0)).sum<=0:=by
   have hs:∀(l:List Int),(∀x∈l,x<=0)->l.sum<=0:=λl k=>by
    induction l with
    |nil=>exact ek _
    |cons x l t =>
     rw[bg];have:=k x (au ..);have:=t λy s=>k y (ak _ s);omega
   refine hs _ λx p=>?_;obtain⟨j,i,rfl⟩:=aP.mp p;have f:=aR.mp i;have n:=c.2 j f;have e:O5 rss (rss.map λr=>dot r a) j*a.getD j 0+(-1)*(O5 rss (rss.map λr=>dot r a) j*xs.getD j 0) = -(O5 rss (rss.map λr=>dot r a) j*(xs.getD j 0-a.getD j 0)):=by
    rw[Int.mul_sub];omega
   rw[e];by_cases g:a.getD j 0<xs.getD j 0
   .have hp:0<=O5 rss (rss.map λr=>dot r a) j:=by
     have q:=b j i;rw[d]at q;have A:¬a1q rss a j<0:=λz=>q (by simp only[Bool.false_or,aQ,bY];exact⟨g,z⟩);show 0<=a1q rss a j;omega
    have:=dP hp (show 0<=xs.getD j 0-a.getD j 0 by omega);omega
   .have:xs.getD j 0-a.getD j 0=0:=by omega
    rw[this,Int.mul_zero];exact ek _
  rw[a8g,a4r,p1,p2,u]at v;omega
section
variable {P:Program}{w:World}{K:PySem.W.Frag}{mg:Str->Option Value}{base:Heap}
inductive IspBelow(vs:List V)(H:Hp)(Q:VK)(E:XK):Prop
 |mk (x:_) (y:_) (xs:_) (ys:_) (_:vs=[x,y]) (_:IT H x xs) (_:IT H y ys) (_:xs.length<=1000) (_:∀H',Same H H'->Q (.bl (Bel xs ys)) H'):IspBelow  vs H Q E
def a4A:Sp:=λvs H Q E=>IspBelow  vs H Q E
theorem b1r:FnScope ["one","other"] ["one","other"] (A2 a1X):=⟨rfl,rfl,rfl,by decide +kernel,rfl,by decide +kernel,by decide +kernel⟩
theorem b2o(F:FunAt K mg "below" a1X ["one","other"])(T:Tx mg):Ok P w K mg base "below" 1 ["one","other"] a4A:=by
 refine F.okJ b1r (λvs H Q E h=>?_) (λd f A c s H vs Q E l h=>?_)
 .obtain⟨x,y,xs,ys,rfl,_⟩:=h;rfl
 .obtain⟨_,_,xs,ys,rfl,⟨a,rfl,ha⟩,⟨b,rfl,hb⟩,hl,k⟩:=h;refine⟨_,(A4 (A9 (a4V K rfl T.b_all (jaC (D6 (N:=["a","b"]) (src:=[none,none]) (a0q K rfl T.b_zip (jaC (jv 0) (jaC (jv 1) jaN))) (by show C7 _ _=true;rfl) (by rfl) (by rfl)
 (λ_ _ _ _ _=>(T7 K 2 (B7 (A7 (i:=0) (show(["a","b"]:List Str).Nodup by decide +kernel) rfl (Or.inl rfl)) (B7 (A7 (i:=1) (show(["a","b"]:List Str).Nodup by decide +kernel) rfl (Or.inl rfl)) M4)))) (λ_ _ _ _ _=>G2) (λ_ _ _ _ _=>(b5R (jv 0) (jv 1)))) jaN)))),?_⟩
  refine⟨_,rfl,_,rfl,true,true,a,b,rfl,⟨_,SqT.of ha⟩,⟨_,SqT.of hb⟩,?_⟩;refine a5o (caps:=[]) (λx y=>V.bl (decide (x<=y))) (sqt ha) (sqt hb) hl (λH' s=>⟨sqt (s _ _ ha),sqt (s _ _ hb)⟩) rfl (λx y H1 j _ q=>⟨_,rfl,_,rfl,_,_,rfl,rfl,q⟩) λH1 p s e=>?_;refine⟨false,p,_,rfl,SqL.of A0,?_,?_⟩
  .rw[bI];intro v g;obtain⟨i,hi,rfl⟩:=bu.mp g;rw[List.getElem_zipWith];rfl
  .rw[b7R];exact k _ (s.upd e)
inductive IspUnit(vs:List V)(H:Hp)(Q:VK)(E:XK):Prop
 |mk (wd:Int) (n j:Nat) (_:vs=[.int wd,.int j]) (_:wd=n) (_:n<=1000) (_:j<n) (_:∀v H',Same H H'->IT H' v ((List.range n).map λi=>if i=j then 1 else 0)->Q v H'):IspUnit  vs H Q E
def b1e:Sp:=λvs H Q E=>IspUnit  vs H Q E
theorem b3T:FnScope ["width","j"] ["width","j"] (A2 a4G):=⟨rfl,rfl,rfl,by decide +kernel,rfl,by decide +kernel,by decide +kernel⟩
theorem b4I(F:FunAt K mg "unit" a4G ["width","j"])(T:Tx mg):Ok P w K mg base "unit" 1 ["width","j"] b1e:=by
 refine F.okJ b3T (λvs H Q E h=>?_) (λc f A b s H vs Q E o h=>?_)
 .obtain⟨_,n,j,rfl,_⟩:=h;rfl
 .obtain⟨_,n,j,rfl,rfl,hn,hj,k⟩:=h;refine⟨_,(A4 (A9 (C0 K rfl T.b_tuple (jaC (D6 (N:=["k","j"]) (src:=[none,some 1]) (E8 rfl T.b_range (jaC (jv 0) jaN)) (by show C7 _ _=true;rfl) (by rfl) (by rfl)
 (λ_ _ _ _ _=>(A7 (i:=0) (show(["k","j"]:List Str).Nodup by decide +kernel) rfl (Or.inl rfl))) (λ_ _ _ _ _=>G2) (λ_ _ _ _ _=>(b5W (a2M (jv 0) (jv 1)) A6 A6))) jaN)))),?_⟩
  refine⟨_,rfl,n,rfl,by omega,by omega,?_⟩;rw[br];refine a7i (caps:=[some (.int j)]) (λi=>V.int (if i=j then 1 else 0)) hn rfl (λi H1 m hi _ q=>?_) λH1 p s g=>?_
  .refine⟨_,rfl,_,rfl,rfl,_,rfl,a1I (λe=>?_) (λe=>?_)⟩
   .have e1:(i:Int)=(j:Int):=by simpa using e
    have a:i=j:=by omega
    rw[ay a]at q;exact q
   .have e1:¬(i:Int)=(j:Int):=by simpa using e
    have a:i≠j:=by omega
    rw[ar a]at q;exact q
  .rw[show((List.range n).map λi=>V.int (if i=j then 1 else 0))=((List.range n).map λi=>if i=j then(1:Int)else 0).map V.int by rw[dz];rfl];refine⟨p,_,rfl,.inl ⟨SqL.of A0,λl d=>?_⟩⟩;exact k _ _ ((s.upd g).upd d) ⟨l,rfl,A0⟩
noncomputable def cV:Option Int->V
 |none=>.non
 |some c=>.int c
noncomputable def b0t(c:Option Int)(x:Int):Bool:=match c with|none=>true|some c=>decide (x<=c)
noncomputable def Wi(cs:List (Option Int))(xs:List Int):Bool:=(List.zipWith b0t cs xs).all id
theorem b7T(cs:List (Option Int))(xs:List Int):(List.zipWith (λc x=>V.bl (b0t c x)) cs xs).all trV=Wi cs xs:=by
 unfold Wi;induction cs generalizing xs with
 |nil=>rfl
 |cons c cs a =>
  cases xs with
  |nil=>rfl
  |cons x xs=>rw[aY,aY,cY,cY,a];rfl
inductive IspWithin(vs:List V)(H:Hp)(Q:VK)(E:XK):Prop
 |mk (a b:Addr) (cs:List (Option Int)) (xs:List Int) (_:vs=[.ref a,.ref b]) (_:H a=some (.tup (cs.map cV))) (_:H b=some (.tup (xs.map V.int))) (_:cs.length<=1000) (_:∀H',Same H H'->Q (.bl (Wi cs xs)) H'):IspWithin  vs H Q E
def a5I:Sp:=λvs H Q E=>IspWithin  vs H Q E
theorem a9D:FnScope ["caps","one"] ["caps","one"] (A2 a0B):=⟨rfl,rfl,rfl,by decide +kernel,rfl,by decide +kernel,by decide +kernel⟩
theorem a9T(F:FunAt K mg "within" a0B ["caps","one"])(T:Tx mg):Ok P w K mg base "within" 1 ["caps","one"] a5I:=by
 refine F.okJ a9D (λvs H Q E h=>?_) (λe f A d s H vs Q E m h=>?_)
 .obtain⟨a,b,cs,xs,rfl,_⟩:=h;rfl
 .obtain⟨a,b,cs,xs,rfl,ha,hb,hl,k⟩:=h;refine⟨_,(A4 (A9 (a4V K rfl T.b_all (jaC (D6 (N:=["cap","number"]) (src:=[none,none]) (a0q K rfl T.b_zip (jaC (jv 0) (jaC (jv 1) jaN))) (by show C7 _ _=true;rfl) (by rfl) (by rfl)
 (λ_ _ _ _ _=>(T7 K 2 (B7 (A7 (i:=0) (show(["cap","number"]:List Str).Nodup by decide +kernel) rfl (Or.inl rfl)) (B7 (A7 (i:=1) (show(["cap","number"]:List Str).Nodup by decide +kernel) rfl (Or.inl rfl)) M4)))) (λ_ _ _ _ _=>G2) (λ_ _ _ _ _=>(b8U (b7j (jv 0) N1) (a8O (b5R (jv 1) (jv 0)))))) jaN)))),?_⟩
  refine⟨_,rfl,_,rfl,true,true,a,b,rfl,⟨_,SqT.of ha⟩,⟨_,SqT.of hb⟩,?_⟩;refine b3z (caps:=[]) cV V.int (λc x=>V.bl (b0t c x)) hl (λH' s=>⟨sqt (s _ _ ha),sqt (s _ _ hb)⟩) rfl (λc x H1 l _ _ _ q=>?_) λH1 p s g=>?_
  .cases c with
   |none=>exact⟨_,rfl,rfl,true,rfl,N8 (q _ (Same.refl _))⟩
   |some c=>exact⟨_,rfl,rfl,false,rfl,G7 ⟨_,rfl,_,rfl,_,_,rfl,rfl,q _ (Same.refl _)⟩⟩
  refine⟨false,p,_,rfl,SqL.of A0,?_,?_⟩
  .rw[bI];intro v j;obtain⟨i,hi,rfl⟩:=bu.mp j;rw[List.getElem_zipWith];rfl
  .rw[b7T];exact k _ (s.upd g)
end
noncomputable def D4(n j:Nat):List Int:=(List.range n).map λi=>if i=j then(1:Int)else 0
noncomputable def K9(cs:List (Option Int)):LLI:=((List.range cs.length).map (D4 cs.length)).filter λu=>Wi cs u
noncomputable def a9k(c:Option Int)(x:Int):Bool:=match c with|none=>true|some c=>decide (x<c)
noncomputable def StP(rss:LLI)(cs:List (Option Int))(ys:List Int):List Nat:=((List.range ys.length).filter λj=>decide (a1q rss ys j<0)).filter λj=>a9k (cs.getD j none) (ys.getD j 0)
section
variable {P:Program}{w:World}{K:PySem.W.Frag}{mg:Str->Option Value}{base:Heap}
inductive IspFirst(vs:List V)(H:Hp)(Q:VK)(E:XK):Prop
 |mk (a:Addr) (cs:List (Option Int)) (_:vs=[.ref a]) (_:H a=some (.tup (cs.map cV))) (_:0<=cs.length) (_:cs.length<=100) (_:∀p zs tss H',Same H H'->H' p=some (.tup zs)->Its H' zs tss->tss.Perm (K9 cs)->D0 tss->Q (.ref p) H'):IspFirst  vs H Q E
def a4y:Sp:=λvs H Q E=>IspFirst  vs H Q E
theorem sc_first_steps:FnScope ["caps","units"] ["caps"] (A2 K2):=⟨rfl,rfl,rfl,by decide +kernel,rfl,by decide +kernel,by decide +kernel⟩
theorem a2z(F:FunAt K mg "first_steps" K2 ["caps"])(T:Tx mg)(c:Ok P w K mg base "unit" 1 ["width","j"] b1e)(b:Ok P w K mg base "within" 1 ["caps","one"] a5I):Ok P w K mg base "first_steps" 2 ["caps"] a4y:=by
 refine F.okJ sc_first_steps (λvs H Q E h=>?_) (λS f A L s H vs Q E n h=>?_)
 .obtain⟨a,cs,rfl,_⟩:=h;rfl
 .obtain⟨a,cs,rfl,ha,h1,h2,k⟩:=h;have X:(3000:Nat)<=sizeLine:=by rw[ba];decide
  refine⟨_,(A3 (a8M (i:=1) sc_first_steps.nd rfl (Or.inl rfl) (N:=["j","caps"]) (src:=[none,some 0]) (E8 rfl T.b_range (jaC (Q0 K rfl T.b_len (jaC (jv 0) jaN)) jaN)) (by show C7 _ _=true;rfl) (by rfl) (by rfl)
 (λ_ _ _ _ _=>(A7 (i:=0) (show(["j","caps"]:List Str).Nodup by decide +kernel) rfl (Or.inl rfl))) (λ_ _ _ _ _=>G2) (λ_ _ _ _ _=>(A8 c (n.mono (by omega)) rfl (jaC (Q0 K rfl T.b_len (jaC (jv 1) jaN)) (jaC (jv 0) jaN)))))
 (A4 (A9 (C0 K rfl T.b_tuple (jaC (a6t K rfl T.b_sorted (jaC (D6 (N:=["one","caps"]) (src:=[none,some 0]) (K7 K (jv 1)) (by show C7 _ _=true;rfl) (by rfl) (by rfl)
 (λ_ _ _ _ _=>(A7 (i:=0) (show(["one","caps"]:List Str).Nodup by decide +kernel) rfl (Or.inl rfl))) (λ_ _ _ _ _=>(a2N (G1 K (A8 b (n.mono (by omega)) rfl (jaC (jv 1) (jaC (jv 0) jaN)))))) (λ_ _ _ _ _=>(jv 0))) jaN)) jaN))))),?_⟩
  refine⟨_,rfl,a,_,rfl,.inr (SqT.of ha),_,rfl,by rw[aj];omega,by rw[aj];omega,?_⟩;rw[br,aj];refine V7 (caps:=[some (.ref a)]) (by omega) rfl (λi ys H'=>Same H H'/\Its H' ys ((List.range i).map (D4 cs.length))) ⟨Same.refl H,.nil⟩ (λi ys H' h=>by rw[h.2.1];simp) ?_ ?_
  .rintro i ys H' hi ⟨s',hI⟩;refine⟨_,rfl,a,_,rfl,.inr (SqT.of (s' _ _ ha)),_,rfl,_,cs.length,i,rfl,by rw[aj],by omega,hi,λv H2 s2 J=>⟨s'.trans s2,?_⟩⟩;rw[fT,cy];exact(hI.same s2).snoc J
  .rintro ys H' ⟨s',hI⟩ p hp;dsimp only[B0];have s1:=s'.upd (o:=.lst ys) hp;have e:=hI.same ((Same.refl H').upd (o:=.lst ys) hp);have y:upd H' p (.lst ys) p=some (.lst ys):=A0;generalize upd H' p (.lst ys)=H1 at s1 e y;refine⟨_,rfl,p,rfl,⟨_,SqL.of y⟩,?_⟩;have U:ys.length=cs.length:=by rw[hI.1];simp
   refine a2G (caps:=[some (.ref a)]) (λu=>Wi cs u) (by omega) (λH2 s2=>SqL.of (s2 _ _ y)) e rfl (λv r H2 W n J s2 q=>?_) λH2 p2 d s2 m z=>?_
   .obtain⟨va,rfl,hva⟩:=J;exact⟨_,rfl,_,rfl,a,va,cs,r,rfl,(s1.trans s2) _ _ ha,hva,by omega,λt x=>⟨Wi cs r,rfl,q t x⟩⟩
   have x:=(s1.trans s2).upd (o:=.lst d) m;have g:=z.same ((Same.refl H2).upd (o:=.lst d) m);have M:upd H2 p2 (.lst d) p2=some (.lst d):=A0;generalize upd H2 p2 (.lst d)=t at x g M;refine⟨p2,d,_,rfl,.inl (SqL.of M),g,λr n=>?_,λl zs tss C B G I _=>?_⟩
   .obtain⟨j,hj,rfl⟩:=aP.mp (aN.mp n).1;have:=aR.mp hj;simp[D4];omega
   refine⟨l,_,rfl,.inl ⟨SqL.of A0,λV D=>?_⟩⟩;have O:=(Same.refl t).upd (o:=.lst zs) C;have R:=(Same.refl (upd t l (.lst zs))).upd (o:=.tup zs) D;exact k V zs tss _ ((x.trans O).trans R) A0 ((B.same O).same R) G I
inductive IspRaised(vs:List V)(H:Hp)(Q:VK)(E:XK):Prop
 |mk (y:V) (ys:List Int) (j:Nat) (_:vs=[y,.int j]) (_:IT H y ys) (_:j<ys.length) (_:ys.length<=1000) (_:∀v H',Same H H'->IT H' v (bump ys j)->Q v H'):IspRaised  vs H Q E
def a5K:Sp:=λvs H Q E=>IspRaised  vs H Q E
theorem a9E:FnScope ["one","j"] ["one","j"] (A2 a0C):=⟨rfl,rfl,rfl,by decide +kernel,rfl,by decide +kernel,by decide +kernel⟩
theorem a9U(F:FunAt K mg "raised" a0C ["one","j"]):Ok P w K mg base "raised" 1 ["one","j"] a5K:=by
 refine F.okJ a9E (λvs H Q E h=>?_) (λc f A b s H vs Q E d h=>?_)
 .obtain⟨y,ys,j,rfl,_⟩:=h;rfl
 .obtain⟨_,ys,j,rfl,⟨a,rfl,ha⟩,hj,hl,k⟩:=h;refine⟨_,(A4 (A9 (a1Z (a1Z (b5T K (jv 0) Z2 (Z1 (jv 1))) (O9 (jaC (U7 (a0h K (jv 0) (jv 1)) A6) jaN))) (b5T K (jv 0) (Z1 (U7 (jv 1) A6)) Z2)))),?_⟩;exact b6s (i:=0) (j:=1) (a:=a) (xs:=ys) (k:=j) (z:=ys.getD j 0+1) rfl rfl ha hj hl (λH' N s' q=>⟨_,rfl,_,rfl,a,_,_,_,rfl,rfl,SqT.of (s' _ _ ha),a3o hj,_,_,rfl,rfl,q⟩) k
inductive IspSteps(vs:List V)(H:Hp)(Q:VK)(E:XK):Prop
 |mk (a c:Addr) (y:V) (us:List V) (rss:LLI) (cs:List (Option Int)) (ys:List Int) (_:vs=[.ref a,.ref c,y]) (_:H a=some (.tup us)) (_:Its H us rss) (_:H c=some (.tup (cs.map cV))) (_:IT H y ys) (_:us.length<=1000) (_:ys.length<=100) (_:cs.length=ys.length) (_:Rs ys.length rss) (_:Sm ys) (_:∀p ps H',Same H H'->H' p=some (.lst ps)->Prs H' ps (bump ys) (StP rss cs ys)->Q (.ref p) H'):IspSteps  vs H Q E
def a8k:Sp:=λvs H Q E=>IspSteps  vs H Q E
theorem b3k{cs:List (Option Int)}{j:Nat}(h:j<cs.length):atI (cs.map cV) (j:Int)=some (cV (cs.getD j none)):=by
 refine a0U ?_;rw[aW,ai h];simp[ao,h]
theorem sc_steps:FnScope ["rows","caps","one","places"] ["rows","caps","one"] (A2 a1U):=⟨rfl,rfl,rfl,by decide +kernel,rfl,by decide +kernel,by decide +kernel⟩
theorem b2h(F:FunAt K mg "steps" a1U ["rows","caps","one"])(T:Tx mg)(d:Ok P w K mg base "falls" 3 ["rows","one"] a8o)(b:Ok P w K mg base "raised" 1 ["one","j"] a5K):Ok P w K mg base "steps" 4 ["rows","caps","one"] a8k:=by
 refine F.okJ sc_steps (λvs H Q E h=>?_) (λR f A G s H vs Q E L h=>?_)
 .obtain⟨a,c,y,us,rss,cs,ys,rfl,_⟩:=h;rfl
 .obtain⟨a,c,_,us,rss,cs,ys,rfl,ha,hI,hc,⟨y,rfl,hy⟩,hl,hn,hcl,hR,hs,k⟩:=h;have Y:(3000:Nat)<=sizeLine:=by rw[ba];decide
  refine⟨_,(A3 (a8M (i:=3) sc_steps.nd rfl (Or.inl rfl) (N:=["j","caps","one"]) (src:=[none,some 1,some 2]) (T5 K (A8 d (L.mono (by omega)) rfl (jaC (jv 0) (jaC (jv 2) jaN)))) (by show C7 _ _=true;rfl) (by rfl) (by rfl)
 (λ_ _ _ _ _=>(A7 (i:=0) (show(["j","caps","one"]:List Str).Nodup by decide +kernel) rfl (Or.inl rfl))) (λ_ _ _ _ _=>(a2N (a3v (a8J (b2D (a0h K (jv 1) (jv 0)) N1) (a4S (b2C (a0h K (jv 2) (jv 0)) (a0h K (jv 1) (jv 0)))))))) (λ_ _ _ _ _=>(jv 0)))
 (A4 (A9 (D6 (N:=["j","one"]) (src:=[none,some 2]) (K7 K (jv 3)) (by show C7 _ _=true;rfl) (by rfl) (by rfl)
 (λ_ _ _ _ _=>(A7 (i:=0) (show(["j","one"]:List Str).Nodup by decide +kernel) rfl (Or.inl rfl))) (λ_ _ _ _ _=>G2) (λ_ _ _ _ _=>(O9 (jaC (jv 0) (jaC (A8 b (L.mono (by omega)) rfl (jaC (jv 1) (jaC (jv 0) jaN))) jaN)))))))),?_⟩
  refine⟨_,rfl,_,rfl,a,_,us,rss,ys,rfl,ha,hI,⟨y,rfl,hy⟩,hl,by omega,hR,hs,λv H1 s1 D=>?_⟩;obtain⟨W,rfl,l⟩:=D;refine⟨W,rfl,⟨_,SqT.of l⟩,?_⟩;rw[dz]at l;have n:∀j∈(List.range ys.length).filter (λj=>decide (a1q rss ys j<0)),j<ys.length:=λj g=>aR.mp (aN.mp g).1;have t:((List.range ys.length).filter (λj=>decide (a1q rss ys j<0))).length<=ys.length:=bf (bA _ _) (by simp);refine a9w (caps:=[some (.ref c),some (.ref y)]) (λ(j:Nat)=>V.int j) (λj=>a9k (cs.getD j none) (ys.getD j 0)) (by omega) (λH' s=>SqT.of (s _ _ l)) rfl (λj H2 X g s2 q=>?_) λH2 p2 s2 u=>?_
  .have hj':=n j g;refine⟨_,rfl,_,rfl,c,_,_,_,rfl,rfl,SqT.of ((s1.trans s2) _ _ hc),b3k (by omega),rfl,_,rfl,?_⟩;cases e:cs.getD j none with
   |none =>
    rw[e]at q;exact N8 (q _ (Same.refl _))
   |some z =>
    rw[e]at q;refine G7 ⟨_,rfl,_,rfl,y,_,_,_,rfl,rfl,SqT.of ((s1.trans s2) _ _ hy),a3o hj',_,rfl,_,rfl,c,_,_,_,rfl,rfl,SqT.of ((s1.trans s2) _ _ hc),b3k (by omega),?_⟩;rw[e];exact⟨_,_,rfl,rfl,_,rfl,q _ (Same.refl _)⟩
  have I:=(s1.trans s2).upd (o:=.lst ((StP rss cs ys).map λ(j:Nat)=>V.int j)) u;have r:upd H2 p2 (.lst ((StP rss cs ys).map λ(j:Nat)=>V.int j)) p2=some (.lst ((StP rss cs ys).map λ(j:Nat)=>V.int j)):=A0;have C:∀j∈StP rss cs ys,j<ys.length:=λj g=>n j (aN.mp g).1;have U:(StP rss cs ys).length<=ys.length:=bf (bA _ _) t;have S:((List.range ys.length).filter λj=>decide (a1q rss ys j<0)).filter (λj=>a9k (cs.getD j none) (ys.getD j 0))=StP rss cs ys:=rfl;rw[S];dsimp only[B0];generalize upd H2 p2 (.lst ((StP rss cs ys).map λ(j:Nat)=>V.int j))=J at I r;refine⟨_,rfl,p2,rfl,⟨_,SqL.of r⟩,?_⟩;refine a1n (xs:=(StP rss cs ys).map λ(j:Nat)=>V.int j) (by rw[aj];omega) (λi qs H'=>Same J H'/\Prs H' qs (bump ys) ((StP rss cs ys).take i)) ⟨Same.refl J,Prs.nil⟩ (λi qs H' _ h=>⟨SqL.of (h.1 _ _ r),by rw[h.2.1];exact cC _ _⟩) ?_ ?_
  .rintro i x qs H' hx ⟨s',hP⟩;rw[aW]at hx;cases p:(StP rss cs ys)[i]? with
   |none=>rw[p]at hx;cases hx
   |some j =>
    rw[p]at hx;cases hx;have g:=C j (aH p);refine⟨Sub.one,_,rfl,_,rfl,_,rfl,_,ys,j,rfl,⟨y,rfl,(I.trans s') _ _ hy⟩,g,by omega,λv O M D=>?_⟩;refine⟨by show 2<=sizeLine;omega,λZ B=>?_⟩;have m:=(Same.refl O).upd (o:=.tup [.int j,v]) B;refine⟨(s'.trans M).trans m,?_⟩;rw[bB,p];exact((hP.same M).same m).snoc A0 (D.same m)
  .rintro qs H' ⟨s',hP⟩ p4 hp4;rw[aj,bJ]at hP;have m:=(Same.refl H').upd (o:=.lst qs) hp4;exact k p4 qs _ ((I.trans s').trans m) A0 (hP.same m)
noncomputable def Bar(fss:LLI)(ys:List Int)(j:Nat):Bool:=fss.any λf=>decide (f.getD j 0=ys.getD j 0) && Bel f ys
inductive IspBarred(vs:List V)(H:Hp)(Q:VK)(E:XK):Prop
 |mk (l:Addr) (y:V) (fs:List V) (fss:LLI) (ys:List Int) (j:Nat) (_:vs=[.ref l,y,.int j]) (_:H l=some (.lst fs)) (_:Its H fs fss) (_:IT H y ys) (_:j<ys.length) (_:ys.length<=1000) (_:(∀f∈fss,f.length=ys.length)) (_:∀H',Same H H'->Q (.bl (Bar fss ys j)) H'):IspBarred  vs H Q E
def a5O:Sp:=λvs H Q E=>IspBarred  vs H Q E
theorem sc_is_barred:FnScope ["found","one","j","answer"] ["found","one","j"] (A2 O0):=⟨rfl,rfl,rfl,by decide +kernel,rfl,by decide +kernel,by decide +kernel⟩
theorem a4O(F:FunAt K mg "is_barred" O0 ["found","one","j"])(T:Tx mg)(b:Ok P w K mg base "below" 1 ["one","other"] a4A):Ok P w K mg base "is_barred" 2 ["found","one","j"] a5O:=by
 refine F.okJ sc_is_barred (λvs H Q E h=>?_) (λv f A q s H vs Q E m h=>?_)
 .obtain⟨l,y,fs,fss,ys,j,rfl,_⟩:=h;rfl
 .obtain⟨l,_,fs,fss,ys,j,rfl,hl,hI,⟨y,rfl,hy⟩,hj,hn,hL,k⟩:=h;refine⟨_,(A3 (J7 (K7 K (jv 0)) (A7 (i:=3) sc_is_barred.nd rfl (Or.inl rfl))
 (A4 (G0 (a3v (a1h (a2M (a0h K (jv 3) (jv 2)) (a0h K (jv 1) (jv 2))) (Z0 (G1 K (A8 b (m.mono (by omega)) rfl (jaC (jv 3) (jaC (jv 1) jaN)))))))
 (A4 (A9 a0J))
 C6)))
 (A4 (A9 a0J))),?_⟩
  refine⟨_,rfl,l,rfl,⟨_,SqL.of hl⟩,?_⟩;refine Q9 (K:=K) (a:=l) (xs:=fs) (λi σ H'=>Ex1 λo=>An3 (σ=[some (.ref l),some (.ref y),some (.int j),o]) (Same H H') (Bar (fss.take i) ys j=false)) ⟨none,rfl,Same.refl H,rfl⟩ (λi σ H' _ ⟨_,_,s',_⟩=>SqL.of (s' _ _ hl)) ?_ ?_
  .rintro i x σ H' hx ⟨o,rfl,s',hB⟩;obtain⟨r,m,n,p⟩:=hI.mem hx;obtain⟨u,rfl,g⟩:=p.same s';have B:=hL r m;have d:Bar (fss.take (i+1)) ys j=(decide (r.getD j 0=ys.getD j 0) && Bel r ys):=by
    unfold Bar at hB⊢;rw[bB,n,List.any_append,hB];simp
   have c:(decide (r.getD j 0=ys.getD j 0) && Bel r ys)=true->Bar fss ys j=true:=λe=>by
    unfold Bar;rw[bV];exact⟨r,m,e⟩
   dsimp only[B0];refine⟨_,rfl,_,rfl,u,_,_,_,rfl,rfl,SqT.of g,a3o (by omega),_,rfl,_,rfl,y,_,_,_,rfl,rfl,SqT.of (s' _ _ hy),a3o hj,rfl,_,rfl,?_⟩;have z:decide (V.int (r.getD j 0)=V.int (ys.getD j 0))=decide (r.getD j 0=ys.getD j 0):=by simp
   rw[z];cases e:decide (r.getD j 0=ys.getD j 0)with
   |false =>
    rw[e]at d;refine G7 (G7 ?_);exact⟨_,rfl,s',d⟩
   |true =>
    rw[e]at d c;refine N8 ⟨_,rfl,_,rfl,_,_,r,ys,rfl,⟨u,rfl,g⟩,⟨y,rfl,s' _ _ hy⟩,by omega,λH2 s2=>⟨_,rfl,?_⟩⟩;cases t:Bel r ys with
    |false =>
     rw[t]at d;exact G7 ⟨_,rfl,s'.trans s2,d⟩
    |true =>
     rw[t]at c;refine N8 ?_;have:=k H2 (s'.trans s2);rw[c rfl]at this;exact this
  .rintro σ H' ⟨o,rfl,s',hB⟩;rw[hI.1,bJ]at hB;have:=k H' s';rw[hB]at this;exact this
end
def a0t(rss:LLI)(cs:List (Option Int))(F:LLI)(u v:List Int):Prop:=∃j,j∈StP rss cs u/\v=bump u j/\Bar F v j=false
theorem a4Y{a b:List Int}(h:a.map (Sum.inl:Int->Key)=b.map Sum.inl):a=b:=by
 induction a generalizing b with
 |nil=>cases b with|nil=>rfl|cons _ _=>cases h
 |cons x a c =>
  cases b with
  |nil=>cases h
  |cons y b =>
   injection h with h1 h2
   injection h1 with h1
   rw[h1,c h2]
theorem a2L{kvs:List (List Key×V)}{a:LLI}{r:List Int}(e:kvs.map (·.1)=IK a):E7 kvs (r.map Sum.inl)=none↔r∉a:=by
 constructor
 .intro h hm;refine a5x h ?_;rw[e];exact aP.mpr ⟨r,hm,rfl⟩
 .intro h;cases d:E7 kvs (r.map Sum.inl)with
  |none=>rfl
  |some v =>
   have:=a7Y d;rw[e]at this;obtain⟨q,c,b⟩:=aP.mp this;exact absurd (a4Y b ▸ c) h
theorem b2B{kvs:List (List Key×V)}{a:LLI}{r:List Int}(e:kvs.map (·.1)=IK a):(E7 kvs (r.map Sum.inl)).isSome=decide (r∈a):=by
 by_cases h:r∈a
 .rw[bz h];cases b:E7 kvs (r.map Sum.inl)with
  |none=>exact absurd h ((a2L e).mp b)
  |some v=>rfl
 .rw[cp h,(a2L e).mpr h];rfl
theorem b2A(r:List Int):(r.map (Sum.inl:Int->Key)).map kV=r.map V.int:=by rw[dz];rfl
theorem b5d{H H':Hp}{vs:List V}{rss:LLI}{d:Addr}{kvs:List (List Key×V)}(h:Its H vs rss)(hd:H d=some (.dT kvs))(o:Off [d] H H'):Its H' vs rss :=
 ⟨h.1,λi v e=>let ⟨r,e1,a,e2,q⟩:=h.2 i v e;⟨r,e1,a,e2,o _ _ (by simpa using I0 q hd (by intro z;cases z)) q⟩⟩
theorem a5S{H H1 H2:Hp}{a:Addr}(s:Same H H1)(c:H a=none)(o:Off [a] H1 H2):Same H H2:=λb u e=>o b u (by simpa using A5 e c) (s b u e)
structure NxPre(H:Hp)(a c f l:Addr)(us:List V)(rss:LLI)(cs:List (Option Int))(fs:List V)(F:LLI)(ls:List V)(L:LLI):Prop where
 ha:H a=some (.tup us)
 hI:Its H us rss
 hc:H c=some (.tup (cs.map cV))
 hf:H f=some (.lst fs)
 hF:Its H fs F
 hl:H l=some (.lst ls)
 hL:Its H ls L
 us1:us.length<=1000
 n1:0<=cs.length
 n2:cs.length<=100
 hR:Rs cs.length rss
 fw:∀v∈F,v.length=cs.length
 lw:∀v∈L,v.length=cs.length/\Sm v
 big:L.length*cs.length+100<=100000
section
variable {P:Program}{w:World}{K:PySem.W.Frag}{mg:Str->Option Value}{base:Heap}
inductive IspNext(vs:List V)(H:Hp)(Q:VK)(E:XK):Prop
 |mk (a c f l:Addr) (r:V) (us:List V) (rss:LLI) (cs:List (Option Int)) (fs:List V) (F:LLI) (ls:List V) (L:LLI) (_:vs=[.ref a,.ref c,.ref f,.ref l,r]) (_:NxPre H a c f l us rss cs fs F ls L) (_:(r=.non∨∃m:Int,r=.int m/\0<=m)) (_:∀p zs tss H',Same H H'->H p=none->H' p=some (.lst zs)->Its H' zs tss->D0 tss->tss.Nodup->(∀v∈tss,∃u∈L,a0t rss cs F u v)->((∀u∈L,∀v,a0t rss cs F u v->v∈tss)∨∃m:Int,r=.int m/\m<tss.length)->tss.length<=L.length*cs.length->(∀m:Int,r=.int m->(tss.length:Int)<=m+cs.length)->Q (.ref p) H'):IspNext  vs H Q E
def b1g:Sp:=λvs H Q E=>IspNext  vs H Q E
theorem sc_next_level:FnScope ["rows","caps","found","level","room","met","one","j","more"] ["rows","caps","found","level","room"] (A2 L6):=⟨rfl,rfl,rfl,by decide +kernel,rfl,by decide +kernel,by decide +kernel⟩
theorem a3t(F':FunAt K mg "next_level" L6 ["rows","caps","found","level","room"])(T:Tx mg)(I:Ok P w K mg base "steps" 4 ["rows","caps","one"] a8k)(n:Ok P w K mg base "is_barred" 2 ["found","one","j"] a5O):Ok P w K mg base "next_level" 5 ["rows","caps","found","level","room"] b1g:=by
 refine F'.okJ sc_next_level (λvs H Q E h=>?_) (λc5 f A c2 s H vs Q E hr h=>?_)
 .obtain⟨a,c,f,l,r,us,rss,cs,fs,F,ls,L,rfl,_⟩:=h;rfl
 .obtain⟨a,c,f,l,r,us,rss,cs,fs,F,ls,L,rfl,N,hroom,k⟩:=h;have R:=hr.u60;have hz:(100000:Nat)<=sizeLine:=by rw[ba];decide
  have hbig:=N.big;refine⟨_,(A3 (B3 (i:=5) sc_next_level.nd rfl (Or.inl rfl) a8Q)
 (A3 (J7 (K7 K (jv 3)) (A7 (i:=6) sc_next_level.nd rfl (Or.inl rfl))
 (A3 (J7 (K7 K (A8 I (hr.mono (by omega)) rfl (jaC (jv 0) (jaC (jv 1) (jaC (jv 6) jaN))))) (T7 K 2 (B7 (A7 (i:=7) sc_next_level.nd rfl (Or.inl rfl)) (B7 (A7 (i:=8) sc_next_level.nd rfl (Or.inl rfl)) M4)))
 (A4 (G0 (a3v (a1h (b0g R (jv 8) (jv 5) (by with_unfolding_all rfl)) (Z0 (P9 (G1 K (A8 n (hr.mono (by omega)) rfl (jaC (jv 2) (jaC (jv 8) (jaC (jv 7) jaN)))))))))
 (A4 (b4V R (jv 5) (jv 8) a0J))
 C6)))
 (A4 (G0 (a3v (a1h (a4T (jv 4) N1) (Z0 (a8L (b4Y rfl T.b_len (jaC (jv 5) jaN)) (jv 4)))))
 (A4 b2H)
 C6))))
 (A4 (A9 (b2L rfl T.b_sorted (jaC (jv 5) jaN)))))),?_⟩
  intro d hd;dsimp only[B0];have s0:=(Same.refl H).upd (o:=.dT []) hd;have e0:upd H d (.dT []) d=some (.dT []):=A0;generalize upd H d (.dT [])=H0 at s0 e0;have fin:∀(kvs:List (List Key×V)) (g:LLI) (σ:L2.St) (H':Hp),σ[5]?=some (some (.ref d))->Same H H'->H' d=some (.dT kvs)->kvs.map (·.1)=IK g->g.Nodup->(∀v∈g,∃u∈L,a0t rss cs F u v)->((∀u∈L,∀v,a0t rss cs F u v->v∈g)∨∃m:Int,r=.int m/\m<g.length)->g.length<=L.length*cs.length->(∀m:Int,r=.int m->(g.length:Int)<=m+cs.length) ->
    b6j (tCB a7k (a5D (a0a 5) a1C)) {nx:=λx H'=>Q V.non H',rt:=Q} σ H':=by
   intro kvs g σ H' hσ s' M y D h1 h2 S J;refine⟨_,hσ,d,kvs,g,rfl,M,y,λv t=>?_,λp zs tss hp hI G b9=>?_⟩
   .obtain⟨u,R,j,hj,rfl,_⟩:=h1 v t;rw[E5];have:=aR.mp (aN.mp (aN.mp hj).1).1;omega
   refine k p zs tss _ (s'.upd hp) (s'.free hp) A0 (hI.same ((Same.refl H').upd hp)) b9 (G.symm.nodup D) (λv t=>h1 v (G.mem_iff.mp t)) ?_ (by rw[G.length_eq];exact S) λm e=>by rw[G.length_eq];exact J m e
   rcases h2 with h2|⟨m,e,h2⟩
   .exact .inl λu R v t=>G.mem_iff.mpr (h2 u R v t)
   .exact .inr ⟨m,e,by rw[G.length_eq];exact h2⟩
  refine⟨_,rfl,l,rfl,⟨_,SqL.of (s0 _ _ N.hl)⟩,?_⟩;refine Q9 (K:=K) (a:=l) (xs:=ls) (λi σ H'=>Ex5 λo6 W X kvs g=>An9 (σ=[some (.ref a),some (.ref c),some (.ref f),some (.ref l),some r,some (.ref d),o6,W,X]) (Same H H') (H' d=some (.dT kvs)) (kvs.map (·.1)=IK g) (g.Nodup) ((∀v∈g,∃u∈L,a0t rss cs F u v)) ((∀u∈L.take i,∀v,a0t rss cs F u v->v∈g)) (g.length<=i*cs.length) (∀m:Int,r=.int m->(g.length:Int)<=m))
   ⟨none,none,none,[],[],rfl,s0,e0,rfl,fh,(λ_ z=>nomatch z),(λ_ z=>by simp at z),by simp,λm e=>?_⟩ (λi σ H' _ h=>by obtain⟨_,_,_,_,_,_,s',_⟩:=h;exact SqL.of (s' _ _ N.hl)) ?_ ?_
  .rcases hroom with e'|⟨m',e',hm'⟩
   .rw[e']at e;cases e
   .rw[e']at e;cases e;simpa using hm'
  .rintro i x σ H' hx ⟨o6,W,X,kvs,g,rfl,s',M,y,D,h1,h2,S,J⟩;obtain⟨ys,a9,b0,c1⟩:=N.hL.mem hx;obtain⟨yw,c3⟩:=N.lw ys a9;have b6:i<L.length:=(aC.mp b0).1;have c8:(i+1)*cs.length<=L.length*cs.length:=fX _ b6;have c4:(i+1)*cs.length=i*cs.length+cs.length:=by rw[Nat.add_mul,Nat.one_mul]
   dsimp only[B0];have b2:Rs ys.length rss:=by rw[yw];exact N.hR
   refine⟨_,rfl,_,rfl,_,rfl,a,c,x,us,rss,cs,ys,rfl,s' _ _ N.ha,N.hI.same s',s' _ _ N.hc,c1.same s',N.us1,by rw[yw];exact N.n2,yw.symm,b2,c3,λp1 ps H1 s1 a0 Z=>?_⟩;have C:=s1 _ _ M;have a1:=s'.trans s1;refine⟨p1,rfl,⟨_,SqL.of a0⟩,?_⟩;have c0:∀j∈StP rss cs ys,j<ys.length:=λj hj=>aR.mp (aN.mp (aN.mp hj).1).1;have d1:(StP rss cs ys).length<=cs.length:=by rw[<-yw];exact bf (bA _ _) (bf (bA _ _) (by simp))
   have b4:d≠p1:=I0 C a0 (by intro z;cases z);refine Q9 (K:=K) (a:=p1) (xs:=ps) (λU σ H2=>Ex4 λW X kvs g=>An10 (σ=[some (.ref a),some (.ref c),some (.ref f),some (.ref l),some r,some (.ref d),some x,W,X]) (Off [d] H1 H2) (H2 d=some (.dT kvs)) (kvs.map (·.1)=IK g) (g.Nodup) ((∀v∈g,∃u∈L,a0t rss cs F u v)) ((∀u∈L.take i,∀v,a0t rss cs F u v->v∈g)) ((∀j∈(StP rss cs ys).take U,Bar F (bump ys j) j=false->bump ys j∈g)) (g.length<=i*cs.length+U) (∀m:Int,r=.int m->(g.length:Int)<=m+U))
    ⟨W,X,kvs,g,rfl,Off.refl _ _,C,y,D,h1,h2,(λ_ z=>by simp at z),S,λm e=>by have:=J m e;omega⟩ (λU σ H2 _ h=>by obtain⟨_,_,_,_,_,o2,_⟩:=h;exact SqL.of (o2 _ _ (by simpa using b4.symm) a0)) ?_ ?_
   .rintro U q σ H2 hq ⟨W,X,kvs,g,rfl,off2,hd2,y,D,h1,h2,h5,S,J⟩;obtain⟨j,b,v,ej,rfl,hb,t⟩:=Z.2 U q hq;obtain⟨va,rfl,a8⟩:=t;have a6:=aH ej;have hj:=c0 j a6;have b3:=off2 _ _ (by simpa using I0 hb C (by intro z;cases z)) hb;have O:=off2 _ _ (by simpa using I0 a8 C (by intro z;cases z)) a8;have hf1:=a1 _ _ N.hf;have b5:=off2 _ _ (by simpa using I0 hf1 C (by intro z;cases z)) hf1;have b1:=b5d (N.hF.same a1) C off2;have c7:U<(StP rss cs ys).length:=(aC.mp ej).1;have b8:kvs.length=g.length:=by
     have:=aO List.length y;simpa[IK]using this
    have Y:∀B:LLI,(∀v∈g,v∈B)->(Bar F (bump ys j) j=false->bump ys j∈B)->∀j'∈(StP rss cs ys).take (U+1),Bar F (bump ys j') j'=false->bump ys j'∈B:=λB a7 b7 j' a5 a3=>by
     rw[bB,ej]at a5;rcases aK.mp a5 with z|z
     .exact a7 _ (h5 j' z a3)
     .have:j'=j:=by simpa using z
      subst this;exact b7 a3
    refine⟨b,[.int j,.ref va],rfl,SqT.of b3,rfl,.int j,[.ref va],rfl,.ref va,[],rfl,rfl,?_⟩;refine⟨_,rfl,_,rfl,d,_,rfl,DGet.t hd2 (by rw[b2A];exact O),_,rfl,?_⟩;rw[b2B y];by_cases hm:bump ys j∈g
    .rw[bz hm];refine G7 (G7 ?_);exact⟨_,_,kvs,g,rfl,off2,hd2,y,D,h1,h2,Y g (λ_ z=>z) (λ_=>hm),by omega,λm e=>by have:=J m e;omega⟩
    .rw[cp hm];refine N8 ⟨_,rfl,_,rfl,_,rfl,f,.ref va,fs,F,bump ys j,j,rfl,b5,b1,⟨va,rfl,O⟩,by rw[E5];exact hj,by rw[E5,yw];have:=N.n2;omega,λv t=>by rw[E5,yw];exact N.fw v t,λH3 s3=>⟨_,rfl,?_⟩⟩;have a4:=s3 _ _ hd2;cases e:Bar F (bump ys j) j with
     |true =>
      refine G7 ?_;exact⟨_,_,kvs,g,rfl,off2.trans s3.off,a4,y,D,h1,h2,Y g (λ_ z=>z) (λz=>by rw[e]at z;cases z),by omega,λm e=>by have:=J m e;omega⟩
     |false =>
      refine N8 ?_;refine⟨_,rfl,_,rfl,d,_,rfl,DPut.t a4 (by rw[b2A];exact s3 _ _ O) (by omega),?_⟩;rw[a5X _ ((a2L y).mpr hm)];refine⟨_,_,_,g++[bump ys j],rfl,(off2.trans s3.off).set (by simp),A0,by rw[cy,y];simp[IK],a4Q D hm,λv t=>?_,λu R v t=>aT _ (h2 u R v t),Y _ (λv t=>aT _ t) (λ_=>by simp),by rw[az];simp;omega,λm e=>by have:=J m e;rw[az];simp;omega⟩;rcases aK.mp t with z|z
      .exact h1 v z
      .rw[aB.mp z];exact⟨ys,a9,j,a6,rfl,e⟩
   .rintro σ H2 ⟨W,X,kvs,g,rfl,off2,hd2,y,D,h1,h2,h5,S,J⟩;rw[Z.1,bJ]at h5;have b8:kvs.length=g.length:=by
     have:=aO List.length y;simpa[IK]using this
    have d0:=Z.1;have s2:Same H H2:=a5S a1 hd off2;have a2:∀u∈L.take (i+1),∀v,a0t rss cs F u v->v∈g:=λu R v t=>by
     rw[bB,b0]at R;rcases aK.mp R with z|z
     .exact h2 u z v t
     .have:u=ys:=by simpa using z
      subst this;obtain⟨j,hj,rfl,hb⟩:=t;exact h5 j hj hb
    rcases hroom with rfl|⟨m,rfl,c9⟩
    .refine⟨_,rfl,rfl,_,rfl,G7 (G7 ?_)⟩;exact⟨_,_,_,kvs,g,rfl,s2,hd2,y,D,h1,a2,by omega,λm e=>by cases e⟩
    .refine⟨_,rfl,rfl,_,rfl,N8 ?_⟩;refine⟨_,rfl,d,kvs,rfl,hd2,_,rfl,_,_,rfl,rfl,_,rfl,a1I (λe=>?_) (λe=>?_)⟩
     .have e':m<(kvs.length:Int):=bK e;have c6:=J m rfl;exact fin kvs g _ H2 rfl s2 hd2 y D h1 (.inr ⟨m,rfl,by omega⟩) (by omega) λm' e2=>by cases e2;omega
     .have e':¬m<(kvs.length:Int):=λz=>e (bz z);exact⟨_,_,_,kvs,g,rfl,s2,hd2,y,D,h1,a2,by omega,λm' e2=>by cases e2;omega⟩
  .rintro σ H' ⟨o6,W,X,kvs,g,rfl,s',M,y,D,h1,h2,S,J⟩;rw[N.hL.1,bJ]at h2;exact fin kvs g _ H' rfl s' M y D h1 (.inl h2) (by rw[N.hL.1]at S;exact S) λm e=>by have:=J m e;omega
end
noncomputable def ffl(ra ca:Addr)(b:Bool)(ah af aw:Addr):List (Str×V):=[("rows",.ref ra),("caps",.ref ca),("begun",.bl b),("here",.ref ah),("found",.ref af),("walked",.ref aw)]
section
variable (ra ca ah ah' af aw:Addr) (b b':Bool)
theorem a6x:(ffl ra ca b ah af aw).lookup ("rows" : Str)=some (.ref ra):=by with_unfolding_all rfl
theorem a6y:(ffl ra ca b ah af aw).lookup ("caps" : Str)=some (.ref ca):=by with_unfolding_all rfl
theorem a3Y:(ffl ra ca b ah af aw).lookup ("begun" : Str)=some (.bl b):=by with_unfolding_all rfl
theorem X1:(ffl ra ca b ah af aw).lookup ("here" : Str)=some (.ref ah):=by with_unfolding_all rfl
theorem a1l:(ffl ra ca b ah af aw).lookup ("found" : Str)=some (.ref af):=by with_unfolding_all rfl
theorem a3c:(ffl ra ca b ah af aw).lookup ("walked" : Str)=some (.ref aw):=by with_unfolding_all rfl
theorem a5W:J5 "here" (.ref ah') (ffl ra ca b ah af aw)=ffl ra ca b ah' af aw:=by with_unfolding_all rfl
theorem a9L:J5 "begun" (.bl b') (ffl ra ca b ah af aw)=ffl ra ca b' ah af aw:=by with_unfolding_all rfl
theorem a5V:J5 "walked" (.ref aw) (J5 "found" (.ref af) (J5 "here" (.ref ah) (J5 "begun" (.bl b) (J5 "caps" (.ref ca) (J5 "rows" (.ref ra) [])))))=ffl ra ca b ah af aw:=by with_unfolding_all rfl
theorem b3c:(ffl ra ca b ah af aw).lookup ("told" : Str)=none:=by with_unfolding_all rfl
theorem b0n:(ffl ra ca b ah af aw).lookup ("paper" : Str)=none:=by with_unfolding_all rfl
theorem b0o:(ffl ra ca b ah af aw).lookup ("ended" : Str)=none:=by with_unfolding_all rfl
theorem a1K:(ffl ra ca b ah af aw).lookup ("step_within" : Str)=none:=by with_unfolding_all rfl
end
structure FiTx(K:PySem.W.Frag)(C:Addr):Prop where
 cl:Cls K C
 n1:NoAttr K C "rows"
 n2:NoAttr K C "caps"
 n3:NoAttr K C "begun"
 n4:NoAttr K C "here"
 n5:NoAttr K C "found"
 n6:NoAttr K C "walked"
structure FAt(C:Addr)(H:Hp)(p ra ca af aw:Addr)(b:Bool)(L F W:LLI):Prop where
 ob:∃dx ah hs,H p=some (.ins C dx (ffl ra ca b ah af aw))/\H ah=some (.lst hs)/\Its H hs L/\ah≠af/\ah≠aw
 hf:∃fs,H af=some (.lst fs)/\Its H fs F
 hw:∃ws,H aw=some (.lst ws)/\Its H ws W
 ne:af≠aw
theorem FAt.same{C:Addr}{H H':Hp}{p ra ca af aw:Addr}{b:Bool}{L F W:LLI}(h:FAt C H p ra ca af aw b L F W)(s:Same H H'):FAt C H' p ra ca af aw b L F W:=by
 obtain⟨⟨dx,ah,hs,h1,h2,a,c,d⟩,⟨fs,f1,f2⟩,⟨g,e,f⟩,ne⟩:=h;exact⟨⟨dx,ah,hs,s _ _ h1,s _ _ h2,a.same s,c,d⟩,⟨fs,s _ _ f1,f2.same s⟩,⟨g,s _ _ e,f.same s⟩,ne⟩
structure SyAt(H:Hp)(a c:Addr)(rss:LLI)(cs:List (Option Int)):Prop where
 ex:∃us,H a=some (.tup us)/\Its H us rss/\us.length<=1000
 hc:H c=some (.tup (cs.map cV))
 n1:0<=cs.length
 n2:cs.length<=100
 hR:Rs cs.length rss
theorem SyAt.same{H H':Hp}{a c:Addr}{rss:LLI}{cs:List (Option Int)}(h:SyAt H a c rss cs)(s:Same H H'):SyAt H' a c rss cs:=by
 obtain⟨⟨g,h1,h2,b⟩,d,e,f,hR⟩:=h;exact⟨⟨g,s _ _ h1,h2.same s,b⟩,s _ _ d,e,f,hR⟩
structure StR(rss:LLI)(cs:List (Option Int))(b:Bool)(L F:LLI)(r:V)(L':LLI):Prop where
 ri:D0 L'
 nd:L'.Nodup
 fst:b=false->∀v,v∈L'↔v∈K9 cs
 snd:b=true->∀v∈L',∃u∈L,a0t rss cs F u v
 all:b=true->(∀u∈L,∀v,a0t rss cs F u v->v∈L')∨∃m:Int,r=.int m/\m<L'.length
 len:L'.length<=cs.length+L.length*cs.length
 few:∀m:Int,r=.int m->(L'.length:Int)<=m+cs.length
theorem D8(n j i:Nat)(hi:i<n):(D4 n j).getD i 0=if i=j then 1 else 0:=by
 unfold D4;simp[ao,hi]
theorem C2(n j:Nat):(D4 n j).length=n:=by simp[D4]
theorem a1j(cs:List (Option Int)):(K9 cs).Nodup:=by
 unfold K9;refine List.Nodup.sublist (dU) ?_;unfold List.Nodup;rw[ck];refine(fH (n:=cs.length)).imp_of_mem λ{i j} hi b a e=>?_;have h1:(D4 cs.length i).getD i 0=(D4 cs.length j).getD i 0:=aO (λl:List Int=>l.getD i 0) e;rw[D8 _ _ _ (aR.mp hi),D8 _ _ _ (aR.mp hi),ay rfl,ar a]at h1;omega
theorem lp{f:Str}{v:V}{fs:List (Str×V)}{k:Nat}(h:fs.length<=k):(J5 f v fs).length<=k+1:=by
 refine bf ?_ (Nat.succ_le_succ h);clear h;induction fs with
 |nil=>exact aq _
 |cons p r a =>
  obtain⟨g,x⟩:=p;show(if g=f then(g,v)::r else(g,x)::J5 f v r).length<=_;split
  .simp
  .simpa using a
section
variable {P:Program}{w:World}{K:PySem.W.Frag}{mg:Str->Option Value}{base:Heap}{C:Addr}
inductive IspFInit(C:Addr)(vs:List V)(H:Hp)(Q:VK)(E:XK):Prop
 |mk (p dx ra ca:Addr) (_:vs=[.ref p,.ref ra,.ref ca]) (_:H p=some (.ins C dx [])) (_:∀(af aw:Addr) (H':Hp),H af=none->H aw=none->FAt C H' p ra ca af aw false [] [] []->(∃dx ah,H' p=some (.ins C dx (ffl ra ca false ah af aw))/\H ah=none)->(∀b o,H b=some o->b≠p->H' b=some o)->Q .non H'):IspFInit C vs H Q E
def a8p(C:Addr):Sp:=λvs H Q E=>IspFInit C vs H Q E
theorem a0o:FnScope ["self","rows","caps"] ["self","rows","caps"] (A2 D9):=⟨rfl,rfl,rfl,by decide +kernel,rfl,by decide +kernel,by decide +kernel⟩
theorem b2l(J:MethAt K C "__init__" "Finder.__init__" D9 ["self","rows","caps"])(U:FiTx K C):MethOk P w K mg base C "__init__" 1 ["self","rows","caps"] (a8p C):=by
 refine J.fnJ a0o (λvs H Q E h=>?_) (λL f A G s H vs Q E M h=>?_)
 .obtain⟨p,dx,ra,ca,rfl,_⟩:=h;rfl
 .obtain⟨p,dx,ra,ca,rfl,hp,k⟩:=h;refine⟨_,(A3 (T4 K (jv 0) (jv 1))
 (A3 (T4 K (jv 0) (jv 2))
 (A3 (T4 K (jv 0) a0J)
 (A3 (T4 K (jv 0) (a0I jaN))
 (A3 (T4 K (jv 0) (a0I jaN))
 (A4 (T4 K (jv 0) (a0I jaN)))))))),?_⟩
  have t:([]:List (Str×V)).length<=0:=aq _;refine⟨_,rfl,_,rfl,p,C,dx,_,rfl,hp,U.cl,U.n1,dy t (by decide),?_⟩;refine⟨_,rfl,_,rfl,p,C,dx,_,rfl,A0,U.cl,U.n2,dy (lp t) (by decide),?_⟩;rw[a4q];refine⟨_,rfl,p,C,dx,_,rfl,A0,U.cl,U.n3,dy (lp (lp t)) (by decide),?_⟩;rw[a4q];generalize F:J5 "begun" (V.bl false) (J5 "caps" (.ref ca) (J5 "rows" (.ref ra) []))=r;have I:r.length<=3:=by rw[<-F];exact lp (lp (lp t))
  have k1:∀b o,H b=some o->b≠p->upd H p (.ins C dx r) b=some o:=λb o e c=>by rw[A1 c];exact e
  have D:upd H p (.ins C dx r) p=some (.ins C dx r):=A0;have u:∀b,upd H p (.ins C dx r) b=none->H b=none:=λb e=>by
   by_cases c:b=p
   .subst c;rw[A0]at e;cases e
   .rwa[A1 c]at e
  generalize upd H p (.ins C dx r)=H1 at k1 D u;refine⟨bq _,λah n=>?_⟩;have x:p≠ah:=A5 D n;refine⟨_,rfl,p,C,dx,_,rfl,by rw[A1 x];exact D,U.cl,U.n4,by omega,?_⟩;refine⟨bq _,λaf m=>?_⟩;have y:p≠af:=λz=>by subst z;rw[A0]at m;cases m
  have g:upd H1 ah (.lst []) af=none:=by rwa[A1 y.symm]at m
  have j:ah≠af:=A5 (o:=.lst []) A0 g;have d:H1 af=none:=by rwa[A1 j.symm]at g
  refine⟨_,rfl,p,C,dx,_,rfl,by rw[A1 y];exact A0,U.cl,U.n5,by have:=lp (f:="here") (v:=.ref ah) I;omega,?_⟩;refine⟨bq _,λaw q=>?_⟩;have B:p≠aw:=λz=>by subst z;rw[A0]at q;cases q
  have a:=q;rw[A1 B.symm]at a;have i:af≠aw:=A5 (o:=.lst []) A0 a;rw[A1 i.symm,A1 B.symm]at a;have l:ah≠aw:=A5 (o:=.lst []) A0 a;rw[A1 l.symm]at a;refine⟨_,rfl,p,C,dx,_,rfl,by rw[A1 B];exact A0,U.cl,U.n6,by have:=lp (f:="found") (v:=.ref af) (lp (f:="here") (v:=.ref ah) I);omega,?_⟩;refine k af aw _ (u _ d) (u _ a) ⟨⟨dx,ah,[],?_,?_,.nil,j,l⟩,⟨[],?_,.nil⟩,⟨[],?_,.nil⟩,i⟩ ⟨dx,ah,by rw[A0,<-F,<-a5V],u _ n⟩ λb o e c=>?_
  .rw[A0,<-F,<-a5V]
  .rw[A1 x.symm,A1 l,A1 x.symm,A1 j,A1 x.symm,A0]
  .rw[A1 y.symm,A1 i,A1 y.symm,A0]
  .rw[A1 B.symm,A0]
  .have e2:=k1 b o e c;rw[A1 c,A1 (A5 e2 a),A1 c,A1 (A5 e2 d),A1 c,A1 (A5 e2 n)];exact e2
theorem a8U{H:Hp}:∀{vs c:List V}{rss tss:LLI},Its H vs rss->Its H c tss->Its H (vs++c) (rss++tss):=by
 intro vs c rss tss h g;refine⟨by rw[az,az,h.1,g.1],λi v e=>?_⟩;rcases Nat.lt_or_ge i vs.length with hi|hi
 .rw[bo hi]at e;obtain⟨r,a,b⟩:=h.2 i v e;exact⟨r,by rw[bo (by rw[<-h.1];exact hi)];exact a,b⟩
 .rw[bb hi]at e;obtain⟨r,a,b⟩:=g.2 _ v e;exact⟨r,by rw[bb (by rw[<-h.1];exact hi),<-h.1];exact a,b⟩
theorem Z4{H:Hp}{vs:List V}{rss:LLI}{c:Addr}{o o':HO}(h:Its H vs rss)(b:H c=some o)(d:∀xs,HO.tup xs≠o):Its (upd H c o') vs rss :=
 ⟨h.1,λi v e=>let ⟨r,e1,a,e2,q⟩:=h.2 i v e;⟨r,e1,a,e2,by rw[A1 (I0 q b (d _))];exact q⟩⟩
theorem a2T{H H':Hp}{vs:List V}{rss:LLI}{c:Addr}{o:HO}(h:Its H vs rss)(b:H c=some o)(d:∀xs,HO.tup xs≠o)(off:Off [c] H H'):Its H' vs rss :=
 ⟨h.1,λi v e=>let ⟨r,e1,a,e2,q⟩:=h.2 i v e;⟨r,e1,a,e2,off _ _ (by simpa using I0 q b (d _)) q⟩⟩
theorem b3I{H H':Hp}{a c:Addr}{rss:LLI}{cs:List (Option Int)}{b:Addr}{o:HO}(h:SyAt H a c rss cs)(d:H b=some o)(e:∀xs,HO.tup xs≠o)(off:Off [b] H H'):SyAt H' a c rss cs:=by
 obtain⟨⟨k,h1,h2,g⟩,f,i,j,hR⟩:=h;exact⟨⟨k,off _ _ (by simpa using I0 h1 d (e _)) h1,a2T h2 d e off,g⟩,off _ _ (by simpa using I0 f d (e _)) f,i,j,hR⟩
theorem b3M{u:List Int}{B:Int}{j:Nat}(h:∀x∈u,0<=x/\x<=B)(b:B<=2 ^ 60):∀x∈bump u j,0<=x/\x<=2 ^ 60+1:=by
 intro x a;unfold bump at a;rcases eX a with z|z
 .have:=h x z;omega
 .by_cases hj:j<u.length
  .have:=h _ (cM (h:=hj));rw[ao,ai hj]at z;simp at z;omega
  .rw[ao,bG (by omega)]at z;simp at z;omega
inductive IspStepW(C:Addr)(vs:List V)(H:Hp)(Q:VK)(E:XK):Prop
 |mk (p ra ca af aw:Addr) (b:Bool) (L F W rss:LLI) (cs:List (Option Int)) (r:V) (B:Int) (_:vs=[.ref p,r]) (_:FAt C H p ra ca af aw b L F W) (_:SyAt H ra ca rss cs) (_:(r=.non∨∃m:Int,r=.int m/\0<=m)) (_:(∀v∈L,v.length=cs.length/\∀x∈v,0<=x/\x<=B)) (_:B<=2 ^ 60) (_:(∀v∈F,v.length=cs.length)) (_:L.length*cs.length+100<=100000) (_:F.length<=100000) (_:W.length<=100000) (_:∀L' H',StR rss cs b L F r L'->FAt C H' p ra ca af aw true L' (F++L'.filter λv=>Ans rss v) (W++L')->(∃dx ah,H' p=some (.ins C dx (ffl ra ca true ah af aw))/\H ah=none)->Off [p,af,aw] H H'->Q (.int L'.length) H'):IspStepW C vs H Q E
def a4v(C:Addr):Sp:=λvs H Q E=>IspStepW C vs H Q E
theorem b1v{σ:L2.St}{i j:Nat}{C p ra ca af aw:Addr}{b:Bool}{L F W rss:LLI}{cs:List (Option Int)}{r:V}{B:Int}{H:Hp}{Q:VK}(hi:σ[i]?=some (some (.ref p)))(l:σ[j]?=some (some r))(D:FAt C H p ra ca af aw b L F W)(Y:SyAt H ra ca rss cs)(h1:r=.non∨∃m:Int,r=.int m/\0<=m)(h2:∀v∈L,v.length=cs.length/\∀x∈v,0<=x/\x<=B)(d:B<=2 ^ 60)(e:∀v∈F,v.length=cs.length)(f:L.length*cs.length+100<=100000)(g:F.length<=100000)(h:W.length<=100000)
  (k:∀a H',StR rss cs b L F r a->FAt C H' p ra ca af aw true a (F++a.filter λv=>Ans rss v) (W++a)->(∃dx ah,H' p=some (.ins C dx (ffl ra ca true ah af aw))/\H ah=none)->Off [p,af,aw] H H'->Q (.int a.length) H'):a1v C "step_within" (a4v C) [] E0 (a0a i) (a5D (a0a j) a1C) σ H Q:=by
 obtain⟨⟨dx,ah,hs,c,_⟩,_,_,_⟩:=id D;exact⟨_,hi,p,dx,_,rfl,c,a1K _ _ _ _ _ _,_,l,p,ra,ca,af,aw,b,L,F,W,rss,cs,r,B,rfl,D,Y,h1,h2,d,e,f,g,h,k⟩
theorem V0:FnScope ["self","room"] ["self","room"] (A2 C3):=⟨rfl,rfl,rfl,by decide +kernel,rfl,by decide +kernel,by decide +kernel⟩
theorem b2g(FM:MethAt K C "step_within" "Finder.step_within" C3 ["self","room"])(U:FiTx K C)(T:Tx mg)(d:Ok P w K mg base "next_level" 5 ["rows","caps","found","level","room"] b1g)(a:Ok P w K mg base "first_steps" 2 ["caps"] a4y)(n:Ok P w K mg base "is_answer" 3 ["rows","one"] a8n) :
  MethOk P w K mg base C "step_within" 6 ["self","room"] (a4v C):=by
 refine FM.fnJ V0 (λvs H Q E h=>?_) (λc8 f A c4 s H vs Q E hr h=>?_)
 .obtain⟨p,ra,ca,af,aw,b,L,F,W,rss,cs,r,B,rfl,_⟩:=h;rfl
 .obtain⟨p,ra,ca,af,aw,b,L,F,W,rss,cs,r,B,rfl,D,Y,hroom,hL,hB,hF,hbig,hF1,hW1,k⟩:=h;have hz:(300000:Nat)<=sizeLine:=by rw[ba];decide
  obtain⟨⟨dx,ah,hs,h1,h2,h3,h4,h5⟩,⟨fs,f1,f2⟩,⟨ws,w1,w2⟩,ne⟩:=id D;have b4:p≠af:=I0 h1 f1 (by intro z;cases z);have b5:p≠aw:=I0 h1 w1 (by intro z;cases z);refine⟨_,(A3 (G0 (G1 K (L3 K (jv 0)))
 (A4 (T4 K (jv 0) (A8 d (hr.mono (by omega)) rfl (jaC (L3 K (jv 0)) (jaC (L3 K (jv 0)) (jaC (L3 K (jv 0)) (jaC (L3 K (jv 0)) (jaC (jv 1) jaN))))))))
 (A3 (T4 K (jv 0) (b4X K rfl T.b_list (jaC (A8 a (hr.mono (by omega)) rfl (jaC (L3 K (jv 0)) jaN)) jaN)))
 (A4 (T4 K (jv 0) a0J))))
 (A3 (O8 (a3R K (L3 K (jv 0)) (jaC (D6 (N:=["one","self"]) (src:=[none,some 0]) (K7 K (L3 K (jv 0))) (by show C7 _ _=true;rfl) (by rfl) (by rfl)
 (λ_ _ _ _ _=>(A7 (i:=0) (show(["one","self"]:List Str).Nodup by decide +kernel) rfl (Or.inl rfl))) (λ_ _ _ _ _=>(a2N (G1 K (A8 n (hr.mono (by omega)) rfl (jaC (L3 K (jv 1)) (jaC (jv 0) jaN)))))) (λ_ _ _ _ _=>(jv 0))) jaN)))
 (A3 (O8 (a3R K (L3 K (jv 0)) (jaC (L3 K (jv 0)) jaN)))
 (A4 (A9 (Q0 K rfl T.b_len (jaC (L3 K (jv 0)) jaN))))))),?_⟩
  refine a0A (λσ H'=>σ=[some (.ref p),some r]/\∃ah' c S,H' p=some (.ins C dx (ffl ra ca true ah' af aw))/\H' ah'=some (.lst c)/\Its H' c S/\H ah'=none/\StR rss cs b L F r S/\Off [p] H H'/\∀v∈S,v.length=cs.length/\Sm v) ?fin λfin=>?_
  case fin =>
   rintro σ H1 ⟨rfl,ah',c,S,p1,a1,i1,a0,R,g,b9⟩;have c1:=Y.n2;have b2:S.length<=100000:=by have:=R.len;omega
   have a7:=g _ _ (by simpa using b4.symm) f1;have c6:=g _ _ (by simpa using b5.symm) w1;have b7:=a2T f2 h1 (λ_ z=>by cases z) g;have c7:=a2T w2 h1 (λ_ z=>by cases z) g;have Y1:=b3I Y h1 (λ_ z=>by cases z) g;have a8:ah'≠af:=(A5 f1 a0).symm;have b0:ah'≠aw:=(A5 w1 a0).symm;have c9:p≠ah':=A5 h1 a0;refine⟨_,rfl,p,C,dx,_,_,rfl,p1,U.cl,U.n5,a1l _ _ _ _ _ _,.inl ⟨rfl,_,SqL.of a7⟩,?_⟩;refine⟨_,rfl,p,C,dx,_,_,rfl,p1,U.cl,U.n4,X1 _ _ _ _ _ _,ah',rfl,⟨_,SqL.of a1⟩,?_⟩;refine a2G (caps:=[some (.ref p)]) (λv=>Ans rss v) (by rw[i1.1];omega) (λH2 s2=>SqL.of (s2 _ _ a1)) i1 rfl (λv r' H2 Q2 c3 Z s2 q=>?_) λH2 p2 zs s2 b3 M=>?_
   .obtain⟨⟨us,u1,u2,u3⟩,_,_,_,hR⟩:=Y1.same s2;refine⟨_,rfl,p,C,dx,_,_,rfl,s2 _ _ p1,U.cl,U.n1,a6x _ _ _ _ _ _,_,rfl,ra,v,us,rss,r',rfl,u1,u2,Z,u3,λr hr=>by rw[(hR r hr).1];omega,(b9 r' c3).2,λJ t=>⟨_,rfl,q J t⟩⟩
   have c0:(S.filter λv=>Ans rss v).length<=S.length:=bA _ _;have t:=s2.upd (o:=.lst zs) b3;have c5:=(Same.refl H2).upd (o:=.lst zs) b3;have e3:upd H2 p2 (.lst zs) p2=some (.lst zs):=A0;have y:=M.same c5;generalize upd H2 p2 (.lst zs)=J at t e3 y;have f3:=t _ _ a7;refine⟨af,p2,fs,zs,rfl,rfl,f3,e3,by rw[f2.1,M.1];omega,?_⟩;have p4:upd J af (.lst (fs++zs)) p=some (.ins C dx (ffl ra ca true ah' af aw)):=by rw[A1 b4];exact t _ _ p1
   have w4:upd J af (.lst (fs++zs)) aw=some (.lst ws):=by rw[A1 ne.symm];exact t _ _ c6
   have a4:upd J af (.lst (fs++zs)) ah'=some (.lst c):=by rw[A1 a8];exact t _ _ a1
   refine⟨_,rfl,p,C,dx,_,_,rfl,p4,U.cl,U.n6,a3c _ _ _ _ _ _,.inl ⟨rfl,_,SqL.of w4⟩,?_⟩;refine⟨_,rfl,p,C,dx,_,_,rfl,p4,U.cl,U.n4,X1 _ _ _ _ _ _,aw,ah',ws,c,rfl,rfl,w4,a4,by rw[w2.1,i1.1];omega,?_⟩;have p5:upd (upd J af (.lst (fs++zs))) aw (.lst (ws++c)) p=some (.ins C dx (ffl ra ca true ah' af aw)):=by rw[A1 b5];exact p4
   have a5:upd (upd J af (.lst (fs++zs))) aw (.lst (ws++c)) ah'=some (.lst c):=by rw[A1 b0];exact a4
   refine⟨_,rfl,p,C,dx,_,_,rfl,p5,U.cl,U.n4,X1 _ _ _ _ _ _,ah',_,rfl,.inl (SqL.of a5),?_⟩;rw[i1.1];have I:∀{vs:List V}{rss:LLI},Its J vs rss->Its (upd (upd J af (.lst (fs++zs))) aw (.lst (ws++c))) vs rss:=λh=>Z4 (Z4 h f3 (λ_ z=>by cases z)) w4 (λ_ z=>by cases z);refine k S _ R ⟨⟨dx,ah',c,p5,a5,I (i1.same t),a8,b0⟩,⟨fs++zs,by rw[A1 ne];exact A0,I (a8U (b7.same t) y)⟩,⟨ws++c,A0,I (a8U (c7.same t) (i1.same t))⟩,ne⟩ ⟨dx,ah',p5,a0⟩ λb o hb e=>?_;have a2:b≠p/\b≠af/\b≠aw:=by simpa using hb
   rw[A1 a2.2.2,A1 a2.2.1];exact t _ _ (g _ _ (by simpa using a2.1) e)
  refine⟨_,rfl,p,C,dx,_,_,rfl,h1,U.cl,U.n3,a3Y _ _ _ _ _ _,b,rfl,?_⟩;obtain⟨us,u1,u2,u3⟩:=Y.ex;have c1:=Y.n2;cases b with
  |true =>
   refine N8 ?_;refine⟨_,rfl,p,C,dx,_,_,rfl,h1,U.cl,U.n1,a6x _ _ _ _ _ _,_,rfl,p,C,dx,_,_,rfl,h1,U.cl,U.n2,a6y _ _ _ _ _ _,_,rfl,p,C,dx,_,_,rfl,h1,U.cl,U.n5,a1l _ _ _ _ _ _,_,rfl,p,C,dx,_,_,rfl,h1,U.cl,U.n4,X1 _ _ _ _ _ _,_,rfl,?_⟩;refine⟨ra,ca,af,ah,r,us,rss,cs,fs,F,hs,L,rfl,⟨u1,u2,Y.hc,f1,f2,h2,h3,u3,Y.n1,Y.n2,Y.hR,hF,λv Z=>⟨(hL v Z).1,λx hx=>by have:=(hL v Z).2 x hx;omega⟩,hbig⟩,hroom,λp9 zs tss H9 s9 G h9 b8 a6 c2 X a9 b2 b1=>?_⟩;have b6:=s9 _ _ h1;have a3:p≠p9:=A5 h1 G;refine⟨_,rfl,p,C,dx,_,rfl,b6,U.cl,U.n4,by show 6<1000;decide,?_⟩;rw[a5W];refine fin _ _ ⟨rfl,p9,zs,tss,A0,by rw[A1 a3.symm];exact h9,Z4 b8 b6 (λ_ z=>by cases z),G,⟨a6,c2,(λz=>by cases z),λ_=>X,λ_=>a9,by omega,b1⟩,s9.off.set (by simp),λv Z=>?_⟩;obtain⟨u,hu,j,_,rfl,_⟩:=X v Z;have:=b3M (j:=j) (hL u hu).2 hB;exact⟨by rw[E5];exact(hL u hu).1,λx hx=>by have:=this x hx;omega⟩
  |false =>
   refine G7 ?_;refine⟨_,rfl,p,C,dx,_,_,rfl,h1,U.cl,U.n2,a6y _ _ _ _ _ _,ca,cs,rfl,Y.hc,Y.n1,Y.n2,λq zs tss H2 s2 hq M O a6=>?_⟩;refine⟨q,zs,rfl,.inr (SqT.of hq),λl hl=>?_⟩;have p3:=M7 (o:=.lst zs) (s2 _ _ h1) hl;have t:=s2.upd (o:=.lst zs) hl;have y:=M.same ((Same.refl H2).upd (o:=.lst zs) hl);have e3:upd H2 l (.lst zs) l=some (.lst zs):=A0;have G:=s2.free hl;generalize upd H2 l (.lst zs)=J at p3 t y e3;refine⟨_,rfl,p,C,dx,_,rfl,p3,U.cl,U.n4,by show 6<1000;decide,?_⟩;rw[a5W];refine⟨_,rfl,p,C,dx,_,rfl,A0,U.cl,U.n3,by show 6<1000;decide,?_⟩;rw[a4q,a9L];have a3:p≠l:=A5 h1 G;have c0:(K9 cs).length<=cs.length:=bf (bA _ _) (by simp);have d0:=O.length_eq;refine fin _ _ ⟨rfl,l,zs,tss,A0,by rw[A1 a3.symm];exact e3,Z4 y p3 (λ_ z=>by cases z),G,⟨a6,O.symm.nodup (a1j cs),λ_ v=>O.mem_iff,(λz=>by cases z),(λz=>by cases z),by omega,λm e=>?_⟩,t.off.set (by simp),λv Z=>?_⟩
   .rcases hroom with z|⟨m',z,hm'⟩
    .rw[z]at e;cases e
    .rw[z]at e;cases e;omega
   .obtain⟨j,_,rfl⟩:=aP.mp (aN.mp (O.mem_iff.mp Z)).1;refine⟨C2 _ _,λx hx=>?_⟩;unfold D4 at hx;obtain⟨i,_,rfl⟩:=aP.mp hx;split<;>omega
inductive IspEnded(C:Addr)(vs:List V)(H:Hp)(Q:VK)(E:XK):Prop
 |mk (p ra ca af aw:Addr) (b:Bool) (L F W:LLI) (_:vs=[.ref p]) (_:FAt C H p ra ca af aw b L F W) (_:Q (.bl (b && decide (L=[]))) H):IspEnded C vs H Q E
def a4z(C:Addr):Sp:=λvs H Q E=>IspEnded C vs H Q E
theorem b1x{σ:L2.St}{i:Nat}{C p ra ca af aw:Addr}{b:Bool}{L F W:LLI}{H:Hp}{Q:VK}(hi:σ[i]?=some (some (.ref p)))(D:FAt C H p ra ca af aw b L F W)(k:Q (.bl (b && decide (L=[]))) H):a1v C "ended" (a4z C) [] E0 (a0a i) a1C σ H Q:=by
 obtain⟨⟨dx,ah,hs,a,_⟩,_,_,_⟩:=id D;exact⟨_,hi,p,dx,_,rfl,a,b0o _ _ _ _ _ _,p,ra,ca,af,aw,b,L,F,W,rfl,D,k⟩
theorem a1F:FnScope ["self"] ["self"] (A2 J4):=⟨rfl,rfl,rfl,by decide +kernel,rfl,by decide +kernel,by decide +kernel⟩
theorem b2n(c:MethAt K C "ended" "Finder.ended" J4 ["self"])(U:FiTx K C)(T:Tx mg):MethOk P w K mg base C "ended" 1 ["self"] (a4z C):=by
 refine c.fnJ a1F (λvs H Q E h=>?_) (λd f A a s H vs Q E l h=>?_)
 .obtain⟨p,ra,ca,af,aw,b,L,F,W,rfl,_⟩:=h;rfl
 .obtain⟨p,ra,ca,af,aw,b,L,F,W,rfl,D,k⟩:=h;obtain⟨⟨dx,ah,hs,h1,h2,g,i,j⟩,⟨fs,f1,f2⟩,⟨o,m,n⟩,ne⟩:=id D;refine⟨_,(A4 (A9 (a6u (L3 K (jv 0)) (a8O (a8K (Q0 K rfl T.b_len (jaC (L3 K (jv 0)) jaN)) A6))))),?_⟩;refine⟨_,rfl,p,C,dx,_,_,rfl,h1,U.cl,U.n3,a3Y _ _ _ _ _ _,?_⟩;refine⟨b,rfl,?_⟩;cases b with
  |false=>exact G7 k
  |true =>
   refine N8 ⟨_,rfl,p,C,dx,_,_,rfl,h1,U.cl,U.n4,X1 _ _ _ _ _ _,ah,_,rfl,.inl (SqL.of h2),rfl,?_⟩;have e:decide (V.int (hs.length:Int)=V.int 0)=decide (L=[]):=by
    rw[g.1];cases L with
    |nil=>simp
    |cons x L=>simp;omega
   rw[e];exact k
inductive IspTold(C:Addr)(vs:List V)(H:Hp)(Q:VK)(E:XK):Prop
 |mk (p ra ca af aw:Addr) (b:Bool) (L F W:LLI) (_:vs=[.ref p]) (_:FAt C H p ra ca af aw b L F W) (_:(∀v∈F,0<v.length)) (_:∀q zs tss H',Same H H'->H' q=some (.tup zs)->Its H' zs tss->tss.Perm F->D0 tss->Q (.ref q) H'):IspTold C vs H Q E
def a7a(C:Addr):Sp:=λvs H Q E=>IspTold C vs H Q E
theorem b4a{σ:L2.St}{i:Nat}{C p ra ca af aw:Addr}{b:Bool}{L F W:LLI}{H:Hp}{Q:VK}(hi:σ[i]?=some (some (.ref p)))(D:FAt C H p ra ca af aw b L F W)(h:∀v∈F,0<v.length)(k:∀q zs tss H',Same H H'->H' q=some (.tup zs)->Its H' zs tss->tss.Perm F->D0 tss->Q (.ref q) H'):a1v C "told" (a7a C) [] E0 (a0a i) a1C σ H Q:=by
 obtain⟨⟨dx,ah,hs,a,_⟩,_,_,_⟩:=id D;exact⟨_,hi,p,dx,_,rfl,a,b3c _ _ _ _ _ _,p,ra,ca,af,aw,b,L,F,W,rfl,D,h,k⟩
theorem a2q:FnScope ["self"] ["self"] (A2 K5):=⟨rfl,rfl,rfl,by decide +kernel,rfl,by decide +kernel,by decide +kernel⟩
theorem b4J(e:MethAt K C "told" "Finder.told" K5 ["self"])(U:FiTx K C)(T:Tx mg):MethOk P w K mg base C "told" 1 ["self"] (a7a C):=by
 refine e.fnJ a2q (λvs H Q E h=>?_) (λg f A d s H vs Q E u h=>?_)
 .obtain⟨p,ra,ca,af,aw,b,L,F,W,rfl,_⟩:=h;rfl
 .obtain⟨p,ra,ca,af,aw,b,L,F,W,rfl,D,hF,k⟩:=h;obtain⟨⟨dx,ah,hs,h1,h2,n,r,t⟩,⟨fs,f1,f2⟩,⟨y,v,x⟩,ne⟩:=id D;refine⟨_,(A4 (A9 (C0 K rfl T.b_tuple (jaC (a6t K rfl T.b_sorted (jaC (L3 K (jv 0)) jaN)) jaN)))),?_⟩;refine⟨_,rfl,p,C,dx,_,_,rfl,h1,U.cl,U.n5,a1l _ _ _ _ _ _,af,fs,F,rfl,.inl (SqL.of f1),f2,hF,λl zs tss j i a c _=>?_⟩;refine⟨l,_,rfl,.inl ⟨SqL.of A0,λq m=>?_⟩⟩;have s2:=((Same.refl H).upd (o:=.lst zs) j).upd (o:=.tup zs) m;exact k q zs tss _ s2 A0 (i.same s2) a c
inductive IspPaper(C:Addr)(vs:List V)(H:Hp)(Q:VK)(E:XK):Prop
 |mk (p ra ca af aw:Addr) (b:Bool) (L F W:LLI) (_:vs=[.ref p]) (_:FAt C H p ra ca af aw b L F W) (_:∀q zs H',Same H H'->H' q=some (.tup zs)->Its H' zs W->Q (.ref q) H'):IspPaper C vs H Q E
def a4w(C:Addr):Sp:=λvs H Q E=>IspPaper C vs H Q E
theorem b1w{σ:L2.St}{i:Nat}{C p ra ca af aw:Addr}{b:Bool}{L F W:LLI}{H:Hp}{Q:VK}(hi:σ[i]?=some (some (.ref p)))(D:FAt C H p ra ca af aw b L F W)(k:∀q zs H',Same H H'->H' q=some (.tup zs)->Its H' zs W->Q (.ref q) H'):a1v C "paper" (a4w C) [] E0 (a0a i) a1C σ H Q:=by
 obtain⟨⟨dx,ah,hs,a,_⟩,_,_,_⟩:=id D;exact⟨_,hi,p,dx,_,rfl,a,b0n _ _ _ _ _ _,p,ra,ca,af,aw,b,L,F,W,rfl,D,k⟩
theorem a1E:FnScope ["self"] ["self"] (A2 J3):=⟨rfl,rfl,rfl,by decide +kernel,rfl,by decide +kernel,by decide +kernel⟩
theorem b2j(d:MethAt K C "paper" "Finder.paper" J3 ["self"])(U:FiTx K C)(T:Tx mg):MethOk P w K mg base C "paper" 1 ["self"] (a4w C):=by
 refine d.fnJ a1E (λvs H Q E h=>?_) (λe f A a s H vs Q E r h=>?_)
 .obtain⟨p,ra,ca,af,aw,b,L,F,W,rfl,_⟩:=h;rfl
 .obtain⟨p,ra,ca,af,aw,b,L,F,W,rfl,D,k⟩:=h;obtain⟨⟨dx,ah,hs,h1,h2,l,m,n⟩,⟨fs,f1,f2⟩,⟨c,i,j⟩,ne⟩:=id D;refine⟨_,(A4 (A9 (C0 K rfl T.b_tuple (jaC (L3 K (jv 0)) jaN)))),?_⟩;refine⟨_,rfl,p,C,dx,_,_,rfl,h1,U.cl,U.n6,a3c _ _ _ _ _ _,aw,_,rfl,.inl ⟨SqL.of i,λq g=>?_⟩⟩;have s2:=(Same.refl H).upd (o:=.tup c) g;exact k q c _ s2 A0 (j.same s2)
end
inductive Wk(rss:LLI)(cs:List (Option Int)):LLI->LLI->LLI->Nat->Prop
 |one {L:LLI}(ri:D0 L) (nd:L.Nodup) (h:∀v,v∈L↔v∈K9 cs):Wk rss cs (L.filter λv=>Ans rss v) L L 1
 |more {F W L L':LLI}{k:Nat}(h:Wk rss cs F W L k) (ne:L≠[]) (ri:D0 L') (nd:L'.Nodup) (hm:∀v,v∈L'↔∃u∈L,a0t rss cs F u v):Wk rss cs (F++L'.filter λv=>Ans rss v) (W++L') L' (k+1)
def a3z(rss:LLI)(cs:List (Option Int))(most:Int):Prop:=∃F W L k,Wk rss cs F W L k/\(most<W.length∨(L≠[]/\∃L':LLI,L'.Nodup/\(∀v∈L',∃u∈L,a0t rss cs F u v)/\most<W.length+L'.length))
theorem b2s{v:List Int}(h:∀x∈v,0<=x):∀x∈v,x<=v.sum:=by
 induction v with
 |nil=>intro x a;cases a
 |cons y v c =>
  intro x a;have h1:=h y au;have h2:=b1d v λz b=>h z (ak _ b);rw[bg];rcases aI.mp a with rfl|a
  .omega
  .have:=c (λz b=>h z (ak _ b)) x a;omega
theorem b5l{u:List Int}{j:Nat}(h:∀x∈u,0<=x):∀x∈bump u j,0<=x:=by
 intro x a;unfold bump at a;rcases eX a with z|z
 .exact h x z
 .by_cases hj:j<u.length
  .have:=h _ (cM (h:=hj));rw[ao,ai hj]at z;simp at z;omega
  .rw[ao,bG (by omega)]at z;simp at z;omega
theorem a5z(n j:Nat):∀x∈D4 n j,0<=x:=by
 intro x a;unfold D4 at a;obtain⟨i,_,rfl⟩:=aP.mp a;split<;>omega
theorem a6Q(n j:Nat)(c:j<n):D4 n j=bump (List.replicate n 0) j:=by
 refine dq (by rw[C2,E5,bh]) λi h1 h2=>?_;rw[C2]at h1;have a:=D8 n j i h1;have b:=a0Q (List.replicate n 0) j i (by simpa using c);rw[ao,ai (by rw[C2];exact h1)]at a;rw[ao,ai h2]at b;simp only[Option.getD_some]at a b;rw[a,b];simp only[ao,fk,c,h1,eR];by_cases e:i=j<;>simp[e]
theorem a2v(n:Nat):(List.replicate n (0:Int)).sum=0:=by
 induction n with
 |zero=>rfl
 |succ n a=>rw[bL,bg,a];rfl
theorem a0Y(n j:Nat)(a:j<n):(D4 n j).sum=1:=by
 rw[a6Q n j a,a6I _ _ (by simpa using a),a2v];rfl
theorem a6Z{rss:LLI}{cs:List (Option Int)}{u:List Int}{j:Nat}(h:j∈StP rss cs u):j<u.length/\a1q rss u j<0/\a9k (cs.getD j none) (u.getD j 0)=true:=by
 unfold StP at h;rw[aN,aN,aR,bY]at h;exact⟨h.1.1,h.1.2,h.2⟩
structure LvF(n k:Nat)(v:List Int):Prop where
 len:v.length=n
 nn:∀x∈v,0<=x
 sum:v.sum=k
theorem a1k{cs:List (Option Int)}{v:List Int}(h:v∈K9 cs):LvF cs.length 1 v:=by
 obtain⟨j,a,rfl⟩:=aP.mp (aN.mp h).1;exact⟨C2 _ _,a5z _ _,a0Y _ _ (aR.mp a)⟩
theorem a8F{rss:LLI}{cs:List (Option Int)}{F:LLI}{u v:List Int}{n k:Nat}(a:LvF n k u)(h:a0t rss cs F u v):LvF n (k+1) v:=by
 obtain⟨j,b,rfl,_⟩:=h;have:=(a6Z b).1;exact⟨by rw[E5];exact a.len,b5l a.nn,by rw[a6I _ _ this,a.sum];omega⟩
theorem Wk.lv{rss:LLI}{cs:List (Option Int)}{F W L:LLI}{k:Nat}(h:Wk rss cs F W L k):(∀v∈L,LvF cs.length k v)/\(∀v∈W,∃i,1<=i/\i<=k/\LvF cs.length i v)/\(∀v∈F,v∈W/\Ans rss v=true)/\F.length<=W.length/\L.length<=W.length/\1<=k/\k<=W.length+1/\(L≠[]->k<=W.length):=by
 induction h with
 |@one L ri nd h =>
  refine⟨λv a=>a1k ((h v).mp a),λv a=>⟨1,by omega,by omega,a1k ((h v).mp a)⟩,λv a=>aN.mp a,bA _ _,aq _,by omega,by omega,λne=>?_⟩;cases L with
  |nil=>exact absurd rfl ne
  |cons x L=>simp
 |@more F W L L' k h ne ri nd e n =>
  obtain⟨j,l,d,o,p,q,r,m⟩:=n;have b:∀v∈L',LvF cs.length (k+1) v:=λv a=>by
   obtain⟨u,f,g⟩:=(e v).mp a;exact a8F (j u f) g
  have:=bA (λv=>Ans rss v) L';have s:=m ne;refine⟨b,λv a=>?_,λv a=>?_,by rw[az,az];omega,by rw[az];omega,by omega,by rw[az];omega,λc=>?_⟩
  .rcases aK.mp a with z|z
   .obtain⟨i,q1,q2,q3⟩:=l v z;exact⟨i,q1,by omega,q3⟩
   .exact⟨k+1,by omega,by omega,b v z⟩
  .rcases aK.mp a with z|z
   .exact⟨aT _ (d v z).1,(d v z).2⟩
   .exact⟨aZ _ (aN.mp z).1,(aN.mp z).2⟩
  .rw[az];have:0<L'.length:=List.length_pos_iff.mpr c;omega
section
variable {P:Program}{w:World}{K:PySem.W.Frag}{mg:Str->Option Value}{base:Heap}{C:Addr}
inductive IspLeast(D:Addr)(vs:List V)(H:Hp)(Q:VK)(E:XK):Prop
 |mk (ra ca:Addr) (rss:LLI) (cs:List (Option Int)) (most:Nat) (mi:Int) (_:vs=[.ref ra,.ref ca,.int mi]) (_:mi=most) (_:SyAt H ra ca rss cs) (_:(most+1)*(cs.length+1)+200<=100000) (_:(∀q t pp zs tss ws F W k H',Same H H'->H' q=some (.tup [.ref t,.ref pp])->H' t=some (.tup zs)->Its H' zs tss->tss.Perm F->D0 tss->H' pp=some (.tup ws)->Its H' ws W->Wk rss cs F W [] k->W.length<=most->Q (.ref q) H')) (_:(∀H',Same H H'->a3z rss cs most->E (.ref D) none H')):IspLeast D vs H Q E
def a4x(D:Addr):Sp:=λvs H Q E=>IspLeast D vs H Q E
theorem sc_least:FnScope ["rows","caps","most","finder","room"] ["rows","caps","most"] (A2 a1V):=⟨rfl,rfl,rfl,by decide +kernel,rfl,by decide +kernel,by decide +kernel⟩
theorem b2k{r:Addr}(X:FunAt K mg "least" a1V ["rows","caps","most"])(T:Tx mg)(U:FiTx K C)(a:Cls K C)(I:MakeOk P w K mg base "Finder" C 1 ["self","rows","caps"] (a8p C))(g:MethOk P w K mg base C "step_within" 6 ["self","room"] (a4v C))(n:MethOk P w K mg base C "ended" 1 ["self"] (a4z C))(t:MethOk P w K mg base C "told" 1 ["self"] (a7a C))(p:MethOk P w K mg base C "paper" 1 ["self"] (a4w C))
  (D:OwnCls "TooMany" r [.type "ValueError",.type "Exception",.type "BaseException",.type "object"] "ValueError.__new__" mg base):OkE P w K mg base "least" 7 ["rows","caps","most"] (a4x r):=by
 refine X.okE sc_least (λvs H Q E h=>?_) (λc0 f A b8 s H vs Q E hr h=>?_)
 .obtain⟨ra,ca,rss,cs,most,mi,rfl,_⟩:=h;rfl
 .obtain⟨ra,ca,rss,cs,most,_,rfl,rfl,Y,hbig,kq,ke⟩:=h;refine⟨_,(A3 (B3 (i:=3) sc_least.nd rfl (Or.inl rfl) (b7q I (hr.mono (by omega)) rfl (jaC (jv 0) (jaC (jv 1) jaN))))
 (A3 (B3 (i:=4) sc_least.nd rfl (Or.inl rfl) (jv 2))
 (A3 (b2E (P9 (G1 K (a4W n a (hr.mono (by omega)) (jv 3))))
 (A3 (B3 (i:=4) sc_least.nd rfl (Or.inl rfl) (a3S (jv 4) (b7p g a (hr.mono (by omega)) (jv 3) (jaC (jv 4) jaN))))
 (A4 (G0 (b2C (jv 4) A6)
 (A4 (b2G D PySem.F.excBase_ValueError rfl PySem.F.excBase_ValueError rfl (jaC b8E jaN)))
 C6))) (hp:=PassesOwn.leaving))
 (A4 (A9 (O9 (jaC (a4W t a (hr.mono (by omega)) (jv 3)) (jaC (a4W p a (hr.mono (by omega)) (jv 3)) jaN)))))))),?_⟩
  refine⟨_,rfl,_,rfl,λx dx hx b0 N=>?_⟩;have b7:upd H dx (.own x) x=none:=by rw[A1 N.symm];exact hx
  have s0:Same H (upd (upd H dx (.own x)) x (.ins C dx [])):=((Same.refl H).upd b0).upd b7;refine⟨x,dx,ra,ca,rfl,A0,λaf aw H1 a8 a9 D1 _ kp=>⟨rfl,?_⟩⟩;have a0:H af=none:=s0.free a8;have a1:H aw=none:=s0.free a9;have s1:Same H H1:=λb o e=>kp b o (s0 b o e) (A5 e hx);dsimp only[B0];refine⟨_,rfl,?_⟩;dsimp only[B0];have hz:(300000:Nat)<=sizeLine:=by rw[ba];decide
  refine a0A (λσ H'=>σ=[some (.ref ra),some (.ref ca),some (.int most),some (.ref x),σ.getD 4 none]/\Same H H'/\∃F W k,FAt C H' x ra ca af aw true [] F W/\Wk rss cs F W [] k/\W.length<=most) ?fin λfin=>?_
  case fin =>
   rintro σ H2 ⟨hσ,s2,F,W,k,O,J,S⟩;obtain⟨⟨a4,ah,hs,h1,h2,h3,h4,h5⟩,_,_,_⟩:=id O;have a2:=J.lv;rw[hσ];refine b4a rfl O (λv M=>?_) λq1 zs tss H3 s3 b4 a5 b3 b6=>?_
   .obtain⟨i,i1,_,lv⟩:=a2.2.1 v (a2.2.2.1 v M).1;cases v with
    |nil=>have:=lv.sum;simp at this;omega
    |cons _ _=>simp
   have D3:=O.same s3;obtain⟨⟨c1,b9,c8,g1,_⟩,_,_,_⟩:=id D3;refine b1w rfl D3 λq2 ws H4 s4 b5 a6=>?_;refine⟨by show 2<=sizeLine;omega,λq hq=>?_⟩;have s5:=(Same.refl H4).upd (o:=.tup [.ref q1,.ref q2]) hq;exact kq q q1 q2 zs tss ws F W k _ (((s2.trans s3).trans s4).trans s5) A0 (s5 _ _ (s4 _ _ b4)) ((a5.same s4).same s5) b3 b6 (s5 _ _ b5) (a6.same s5) J S
  refine⟨λm σ H'=>∃(b:Bool) (L F W:LLI) (d:Int),σ=[some (.ref ra),some (.ref ca),some (.int most),some (.ref x),some (.int d)]/\Same H H'/\FAt C H' x ra ca af aw b L F W/\0<=d/\m=d.toNat+(if b=true/\L=[] then 0 else 1)/\((b=false/\L=[]/\F=[]/\W=[]/\d=most)∨(b=true/\∃k,Wk rss cs F W L k/\d=most-W.length)),
   ⟨_,false,[],[],[],_,rfl,s1,D1,by omega,rfl,.inl ⟨rfl,rfl,rfl,rfl,rfl⟩⟩,?_⟩
  rintro m σ H2 ⟨b,L,F,W,d,rfl,s2,O,r0,rfl,V⟩;obtain⟨⟨a4,ah,hs,h1,h2,h3,h4,h5⟩,_,_,_⟩:=id O;refine b1x rfl O ⟨_,rfl,?_⟩;have c5:most+1<=(most+1)*(cs.length+1):=Nat.le_mul_of_pos_right _ (eF _);have c6:(most+1)*(cs.length+1)=(most+1)*cs.length+(most+1):=by rw[Nat.mul_add,Nat.mul_one]
  by_cases he:b=true/\L=[]
  .obtain⟨rfl,rfl⟩:=he;refine G7 ?_;rcases V with⟨z,_⟩|⟨_,k,J,j⟩
   .cases z
   .exact fin _ _ ⟨rfl,s2,F,W,k,O,J,by omega⟩
  .have hb:(b && decide (L=[]))=false:=by
    cases b with
    |false=>rfl
    |true =>
     have:L≠[]:=λz=>he ⟨rfl,z⟩;simpa using this
   rw[hb,ar he];refine N8 ⟨λσ' H'=>∃(G X Z:LLI) (k:Nat) (l:Int),σ'=[some (.ref ra),some (.ref ca),some (.int most),some (.ref x),some (.int l)]/\Same H H'/\FAt C H' x ra ca af aw true G X Z/\0<=l/\Wk rss cs X Z G k/\l=most-Z.length/\l.toNat+(if G=[] then 0 else 1)<d.toNat+1,λσ' H' ⟨G,X,Z,k,l,e1,e2,e3,e4,e5,e6,e7⟩=>⟨_,e7,true,G,X,Z,l,e1,e2,e3,e4,by simp,.inr ⟨rfl,k,e5,e6⟩⟩,?_⟩;obtain⟨B,hB,hL,hF,c4,a7,c2⟩:∃B:Int,B<=2 ^ 60/\(∀v∈L,v.length=cs.length/\∀y∈v,0<=y/\y<=B)/\(∀v∈F,v.length=cs.length)/\W.length<=most/\L.length<=most/\F.length<=most:=by
    rcases V with⟨rfl,rfl,rfl,rfl,_⟩|⟨rfl,k,J,j⟩
    .exact⟨0,by omega,(λ_ z=>nomatch z),(λ_ z=>nomatch z),by simp,by simp,by simp⟩
    .obtain⟨i1,i2,i3,i4,i5,i6,i7,i8⟩:=J.lv;refine⟨k,by omega,λv M=>⟨(i1 v M).len,λy hy=>⟨(i1 v M).nn y hy,?_⟩⟩,λv M=>?_,by omega,by omega,by omega⟩
     .have:=b2s (i1 v M).nn y hy;rw[(i1 v M).sum]at this;exact this
     .obtain⟨i,_,_,lv⟩:=i2 v (i3 v M).1;exact lv.len
   have c3:L.length*cs.length<=most*cs.length:=fX _ a7;have c7:(most+1)*cs.length=most*cs.length+cs.length:=by rw[Nat.add_mul,Nat.one_mul]
   refine⟨_,rfl,b1v rfl rfl O (Y.same s2) (.inr ⟨d,rfl,r0⟩) hL hB hF (by omega) (by omega) (by omega) λG H3 R D3 _ a3=>?_⟩;refine⟨_,_,rfl,rfl,?_⟩;dsimp only[B0];have s3:Same H H3:=λc o e=>a3 c o (by simpa using⟨A5 e hx,A5 e a0,A5 e a1⟩) (s2 c o e);have key:(∃k,Wk rss cs (F++G.filter λv=>Ans rss v) (W++G) G k/\d=most-W.length)∨(d<G.length/\a3z rss cs most):=by
    rcases V with⟨rfl,rfl,rfl,rfl,j⟩|⟨rfl,k,J,j⟩
    .exact .inl ⟨1,by simpa using Wk.one R.ri R.nd (R.fst rfl),by simpa using j⟩
    .have N:L≠[]:=λz=>he ⟨rfl,z⟩;rcases R.all rfl with ha|⟨m',e',b2⟩
     .exact .inl ⟨k+1,.more J N R.ri R.nd λv=>⟨R.snd rfl v,λ⟨u,hu,M⟩=>ha u hu v M⟩,j⟩
     .cases e';exact .inr ⟨b2,F,W,L,k,J,.inr ⟨N,G,R.nd,R.snd rfl,by omega⟩⟩
   refine⟨_,rfl,_,_,rfl,rfl,_,rfl,a1I (λe=>?_) (λe=>?_)⟩
   .have e':d-(G.length:Int)<0:=bK e;refine⟨by rw[ba];decide,ke _ s3 ?_⟩;rcases key with⟨k,J,j⟩|⟨_,ho⟩
    .exact⟨_,_,_,k,J,.inl (by rw[az];omega)⟩
    .exact ho
   .have e':¬d-(G.length:Int)<0:=λz=>e (bz z);rcases key with⟨k,J,j⟩|⟨b1,_⟩
    .refine⟨G,_,_,k,_,rfl,s3,D3,by omega,J,by rw[az];omega,?_⟩;cases G with
     |nil=>simp
     |cons y G=>simp only[aU]at e'⊢;rw[ar (by simp)];omega
    .exact absurd b1 (by omega)
end
structure Answer(rss:LLI)(n:Nat)(v:List Int):Prop where
 len:v.length=n
 nn:∀x∈v,0<=x
 ans:Ans rss v=true
 pos:0<v.sum
structure Least(rss:LLI)(cs:List (Option Int))(v:List Int):Prop where
 an:Answer rss cs.length v
 wi:Wi cs v=true
 min:∀u,Answer rss cs.length u->Under u v->u=v
theorem Under.refl(v:List Int):Under v v:=⟨rfl,λ_ _=>ek _⟩
theorem Under.trans{a b c:List Int}(h:Under a b)(g:Under b c):Under a c :=
 ⟨h.1.trans g.1,λj d=>Int.le_trans (h.2 j (by rw[g.1];exact d)) (g.2 j d)⟩
theorem Under.eq{a b:List Int}(h:Under a b)(hs:b.sum<=a.sum):a=b:=by
 refine bF λne=>?_;have:=h.sum.2 ne;omega
theorem a2g{cs:List (Option Int)}{v:List Int}(h:v.length=cs.length):Wi cs v=true↔∀j,j<cs.length->b0t (cs.getD j none) (v.getD j 0)=true:=by
 unfold Wi;induction cs generalizing v with
 |nil=>simp
 |cons c cs b =>
  cases v with
  |nil=>cases h
  |cons x v =>
   rw[aY,cY,aQ,b (by simpa using h)];constructor
   .rintro⟨h1,h2⟩ j a;cases j with
    |zero=>exact h1
    |succ j=>exact h2 j (by simpa using a)
   .intro h1;exact⟨h1 0 (by simp),λj a=>h1 (j+1) (by simpa using a)⟩
theorem b0s{c:Option Int}{x y:Int}(h:b0t c y=true)(a:x<=y):b0t c x=true:=by
 cases c with
 |none=>rfl
 |some c =>
  have:y<=c:=bK h;exact bz (by omega)
theorem a1R{cs:List (Option Int)}{u v:List Int}(a:v.length=cs.length)(h:Wi cs v=true)(c:Under u v):Wi cs u=true:=by
 rw[a2g a]at h;rw[a2g (by rw[c.1];exact a)];intro j b;exact b0s (h j b) (c.2 j (by rw[a];exact b))
theorem b3w{rss:LLI}{v:List Int}(h:Ans rss v=true)(j:Nat):a1q rss v j=0:=by
 unfold a1q O5;unfold Ans at h;induction rss with
 |nil=>rfl
 |cons r rss a =>
  rw[cY,aQ,bY]at h;rw[aV,aY,bg,a h.2,h.1];omega
theorem J0{f v:List Int}(a:f.length=v.length):Bel f v=true↔Under f v:=by
 constructor
 .intro h;refine⟨a,?_⟩;unfold Bel at h;induction f generalizing v with
  |nil =>
   intro j b;rw[<-a]at b;simp at b
  |cons x f c =>
   cases v with
   |nil=>cases a
   |cons y v =>
    rw[aY,cY,aQ]at h;intro j b;cases j with
    |zero=>exact bK h.1
    |succ j=>exact c (by simpa using a) h.2 j (by simpa using b)
 .intro h;unfold Bel;induction f generalizing v with
  |nil=>rfl
  |cons x f c =>
   cases v with
   |nil=>cases a
   |cons y v =>
    obtain⟨h1,h2⟩:=h.tail;rw[aY,cY,c (by simpa using a) h2,Bool.and_true];exact bz h1
theorem J8{rss:LLI}{cs:List (Option Int)}:∀(m:Nat) {u:List Int},u.sum<=m->Answer rss cs.length u->Wi cs u=true->∃a,Least rss cs a/\Under a u
 |0,u,e,h,_=>absurd h.pos (by omega)
 |m+1,u,e,h,hw=>by
  by_cases c:∃t,Answer rss cs.length t/\Under t u/\t≠u
  .obtain⟨t,h1,h2,h3⟩:=c;have:=h2.sum.2 h3;obtain⟨a,d,b⟩:=J8 m (u:=t) (by omega) h1 (a1R h.len hw h2);exact⟨a,d,b.trans h2⟩
  .exact⟨u,⟨h,hw,λt f b=>bF λne=>c ⟨t,f,b,ne⟩⟩,Under.refl u⟩
theorem a4L:∀{v:List Int},(∀x∈v,0<=x)->0<v.sum->∃j,j<v.length/\1<=v.getD j 0
 |[],_,h=>by simp at h
 |x::v,a,h=>by
  by_cases b:1<=x
  .exact⟨0,by simp,by simpa using b⟩
  .have h0:=a x au;rw[bg]at h;obtain⟨j,h1,h2⟩:=a4L (v:=v) (λy c=>a y (ak _ c)) (by omega);exact⟨j+1,by simpa using h1,by simpa using h2⟩
theorem a6d{v:List Int}(h:∀x∈v,0<=x)(j:Nat):0<=v.getD j 0:=by
 rw[ao];cases e:v[j]? with
 |none=>simp
 |some x=>simpa using h x (aH e)
structure WkOk(rss:LLI)(cs:List (Option Int))(F L:LLI)(k:Nat):Prop where
 wi:∀v∈L,Wi cs v=true
 bar:∀v∈L,∀f∈F,Under f v->f=v
 snd:∀f∈F,Least rss cs f
 all:∀a,Least rss cs a->a.sum<=k->a∈F
 up:∀a,Least rss cs a->k<=a.sum->∃v∈L,Under v a
theorem Wk.ok{rss:LLI}{cs:List (Option Int)}{F W L:LLI}{k:Nat}(hR:∀r∈rss,r.length=cs.length)(h:Wk rss cs F W L k):WkOk rss cs F L k:=by
 induction h with
 |@one L ri nd h =>
  have l:∀v∈L,LvF cs.length 1 v:=λv g=>a1k ((h v).mp g);have o:∀v∈L,Wi cs v=true:=λv g=>(aN.mp ((h v).mp g)).2;have s:∀a,Least rss cs a->((1:Nat):Int)<=a.sum->∃v∈L,Under v a:=λa b _=>by
   obtain⟨j,h1,h2⟩:=a4L b.an.nn b.an.pos;rw[b.an.len]at h1;have d:Under (D4 cs.length j) a:=⟨by rw[C2,b.an.len],λi hi=>by
    rw[b.an.len]at hi;rw[D8 _ _ _ hi];by_cases e:i=j
    .rw[ay e,e];exact h2
    .rw[ar e];exact a6d b.an.nn i⟩
   exact⟨_,(h _).mpr (aN.mpr ⟨aP.mpr ⟨j,aR.mpr h1,rfl⟩,a1R b.an.len b.wi d⟩),d⟩
  refine⟨o,λv g f m d=>?_,λf m=>?_,λa b hs=>?_,s⟩
  .have h1:=(l v g).sum;have h2:=(l f (aN.mp m).1).sum;exact d.eq (by omega)
  .obtain⟨hf1,n⟩:=aN.mp m;have lv:=l f hf1;refine⟨⟨lv.len,lv.nn,n,by rw[lv.sum];decide⟩,o f hf1,λu p d=>d.eq ?_⟩;have:=p.pos;rw[lv.sum];omega
  .obtain⟨v,g,d⟩:=s a b (by have:=b.an.pos;omega);have h1:=(l v g).sum;have:v=a:=d.eq (by omega);subst this;exact aN.mpr ⟨g,b.an.ans⟩
 |@more F W L L' k h ne ri nd K C =>
  obtain⟨M,Z,T,i4,i5,i6,i7,i8⟩:=h.lv;have l:∀v∈L',LvF cs.length (k+1) v:=λv g=>by
   obtain⟨u,p,Y⟩:=(K v).mp g;exact a8F (M u p) Y
  have y:∀f∈F,f.length=cs.length/\f.sum<=k:=λf m=>by
   obtain⟨i,q1,q2,lv⟩:=Z f (T f m).1;exact⟨lv.len,by rw[lv.sum];omega⟩
  have s:∀a,Least rss cs a->((k+1:Nat):Int)<=a.sum->∃v∈L',Under v a:=λa b hs=>by
   obtain⟨v,g,d⟩:=C.up a b (by omega);have lv:=M v g;have I:v≠a:=λz=>by rw[<-z,lv.sum]at hs;omega
   have Q:Ans rss v=false:=by
    cases e:Ans rss v with
    |false=>rfl
    |true=>exact absurd (b.min v ⟨lv.len,lv.nn,e,by rw[lv.sum];omega⟩ d) I
   have V:=b8p rss v a (λr X=>by rw[hR r X,b.an.len]) d I b.an.ans;obtain⟨j,t⟩:=List.exists_mem_of_ne_nil _ V;have H:=b1R t;have O:a1q rss v j<0:=by
    unfold Pl at t;rw[aN,Q,Bool.false_or,aQ]at t;exact bK t.2.2
   have D:Under (bump v j) a:=d.bump t;have hw:=(a2g b.an.len).mp b.wi j (by rw[<-b.an.len];exact H.1);refine⟨bump v j,(K _).mpr ⟨v,g,j,?_,rfl,?_⟩,D⟩
   .unfold StP;rw[aN,aN,aR,bY];refine⟨⟨by rw[d.1];exact H.1,O⟩,?_⟩;cases e:cs.getD j none with
    |none=>rfl
    |some c =>
     rw[e]at hw;have:a.getD j 0<=c:=bK hw;exact bz (by omega)
   .cases e:Bar F (bump v j) j with
    |false=>rfl
    |true =>
     unfold Bar at e;obtain⟨f,m,n⟩:=bV.mp e;rw[aQ]at n;have A:=(y f m).1;have B:Under f a:=((J0 (by rw[A,E5,lv.len])).mp n.2).trans D;have:=b.min f (C.snd f m).an B;have h2:=(y f m).2;rw[this]at h2;omega
  have o:∀v∈L',Wi cs v=true:=λv g=>by
   obtain⟨u,p,j,t,rfl,_⟩:=(K v).mp g;have w:=(M u p).len;have q:=a6Z t;have hw:=C.wi u p;rw[a2g w]at hw;rw[a2g (by rw[E5];exact w)];intro i hi;rw[a0Q _ _ _ q.1];by_cases e:i=j
   .rw[ay e,e];have J:=q.2.2;cases U:cs.getD j none with
    |none=>rfl
    |some c =>
     rw[U]at J;have:u.getD j 0<c:=bK J;exact bz (by omega)
   .rw[ar e];exact hw i hi
  have x:∀v∈L',∀f∈F++L'.filter (λv=>Ans rss v),Under f v->f=v:=λv g f m d=>by
   rcases aK.mp m with z|z
   .obtain⟨u,p,j,t,rfl,hb⟩:=(K v).mp g;have w:=(M u p).len;have q:=a6Z t;have A:=(y f z).1;exfalso;by_cases e:f.getD j 0=(bump u j).getD j 0
    .have:Bar F (bump u j) j=true:=by
      unfold Bar;exact bV.mpr ⟨f,z,by rw[aQ];exact⟨bz e,(J0 d.1).mpr d⟩⟩
     rw[this]at hb;cases hb
    .have B:Under f u:=⟨by rw[A,w],λi hi=>by
      have h1:=d.2 i (by rw[E5];exact hi);rw[a0Q _ _ _ q.1]at h1;by_cases S:i=j
      .subst S;rw[a0Q _ _ _ q.1,ay rfl]at e;rw[ay rfl]at h1;omega
      .rw[ar S]at h1;exact h1⟩
     have h2:=C.bar u p f z B;have J:=b3w (T f z).2 j;rw[h2]at J;omega
   .have h1:=(l v g).sum;have h2:=(l f (aN.mp z).1).sum;exact d.eq (by omega)
  have E:∀a,Least rss cs a->a.sum<=((k+1:Nat):Int)->a∈F++L'.filter (λv=>Ans rss v):=λa b hs=>by
   by_cases h1:a.sum<=(k:Int)
   .exact aT _ (C.all a b h1)
   .obtain⟨v,g,d⟩:=s a b (by omega);have h2:=(l v g).sum;have:v=a:=d.eq (by omega);subst this;exact aZ _ (aN.mpr ⟨g,b.an.ans⟩)
  refine⟨o,x,λf m=>?_,E,s⟩;rcases aK.mp m with z|z
  .exact C.snd f z
  .obtain⟨hf1,n⟩:=aN.mp z;have lv:=l f hf1;refine⟨⟨lv.len,lv.nn,n,by rw[lv.sum];omega⟩,o f hf1,λu p d=>?_⟩;refine bF λR=>?_;have P:=d.sum.2 R;rw[lv.sum]at P;obtain⟨a,b,G⟩:=J8 (rss:=rss) (cs:=cs) u.sum.toNat (by have:=p.pos;omega) p (a1R lv.len (o f hf1) d);have hs:=G.sum.1;have N:=C.all a b (by omega);have:=x f hf1 a (aT _ N) (G.trans d);rw[this,lv.sum]at hs;omega
theorem Wk.least{rss:LLI}{cs:List (Option Int)}{F W:LLI}{k:Nat}(hR:∀r∈rss,r.length=cs.length)(h:Wk rss cs F W [] k)(v:List Int):v∈F↔Least rss cs v:=by
 have o:=h.ok hR;refine⟨o.snd v,λa=>?_⟩;by_cases hs:v.sum<=(k:Int)
 .exact o.all v a hs
 .obtain⟨u,hu,_⟩:=o.up v a (by omega);cases hu
theorem Wk.nd{rss:LLI}{cs:List (Option Int)}{F W L:LLI}{k:Nat}(h:Wk rss cs F W L k):W.Nodup/\F.Nodup:=by
 induction h with
 |@one L ri nd h=>exact⟨nd,nd.sublist dU⟩
 |@more F W L L' k h ne ri nd f d =>
  obtain⟨l,m,n,o,p,q,r,s⟩:=h.lv;have a:∀v∈W,∀u∈L',v≠u:=λv c u b e=>by
   obtain⟨i,q1,w,lv⟩:=m v c;obtain⟨t,g,j⟩:=(f u).mp b;have:=(a8F (l t g) j).sum;rw[<-e,lv.sum]at this;omega
  refine⟨fz.mpr ⟨d.1,nd,a⟩,fz.mpr ⟨d.2,nd.sublist dU,λv c u b=>a v (n v c).1 u (aN.mp b).1⟩⟩
theorem a0E:∀{a b:LLI},D0 a->D0 b->a.Nodup->b.Nodup->(∀v,v∈a↔v∈b)->a=b
 |[],[],_,_,_,_,_=>rfl
 |[],y::b,_,_,_,_,h=>by have:=(h y).mpr au;cases this
 |x::a,[],_,_,_,_,h=>by have:=(h x).mp au;cases this
 |x::a,y::b,ra,rb,na,nb,h=>by
  obtain⟨i,j⟩:=dv.mp ra;obtain⟨q1,g⟩:=dv.mp rb;obtain⟨d,f⟩:=cG.mp na;obtain⟨m1,c⟩:=cG.mp nb;have e:x=y:=by
   refine Q8 x y ?_ ?_
   .rcases aI.mp ((h x).mp au)with z|z
    .rw[z];exact T0 y
    .exact q1 x z
   .rcases aI.mp ((h y).mpr au)with z|z
    .rw[z];exact T0 x
    .exact i y z
  subst e;rw[a0E j g f c λv=>?_];constructor
  .intro hv;rcases aI.mp ((h v).mp (ak _ hv))with z|z
   .exact absurd (z ▸ hv) d
   .exact z
  .intro hv;rcases aI.mp ((h v).mpr (ak _ hv))with z|z
   .exact absurd (z ▸ hv) m1
   .exact z
theorem a8y{H:Hp}{a b:Addr}{n:Nat}(h:PotAt H a b n){c:Addr}(d:H c=none):c∉[a,b]:=by
 obtain⟨_,e,t,k,h1,h2,_⟩:=h;simp only[aI,bN,df,not_or];exact⟨(A5 h1 d).symm,(A5 h2 d).symm⟩
theorem a8z{H:Hp}{a b:Addr}{n:Nat}(h:PotAt H a b n){c:Addr}{o:HO}(d:c∉[a,b]):PotAt (upd H c o) a b n:=by
 simp only[aI,bN,df,not_or]at d;obtain⟨ne,e,t,j,f,g,i⟩:=h;exact⟨ne,e,t,j,by rw[A1 (dM d.1)];exact f,by rw[A1 (dM d.2)];exact g,i⟩
section
variable {P:Program}{w:World}{K:PySem.W.Frag}{mg:Str->Option Value}{base:Heap}
theorem b8F{n k:Nat}(h:k<n):ixN n (k:Int)=some k:=by
 unfold ixN;rw[ay (by omega),ay (by omega)];rfl
theorem a9I{src:List (Option Nat)}{σ caps:L2.St}{Q:VK}{n f c:Nat}{H:Hp}{a b:Addr}{te:TE}(R:Int->Prop)(s:n<=1000)(k:B5 src σ=none::caps)(o:PotAt H a b f)
  (m:∀(i:Nat) (H':Hp) (N:VK),i<n->PotAt H' a b (f+c*i)->(∀r d,R r->PotAt d a b (f+c*i+c)->Off [a,b] H' d->N (.int r) d)->te (some (.int i)::caps) H' N)
  (hd:∀H' p (xs:List Int),xs.length=n->(∀x∈xs,R x)->PotAt H' a b (f+c*n)->Off [a,b] H H'->H' p=none->Q (.ref p) (upd H' p (.lst (xs.map V.int)))):J9 src (B0 0) a0d te σ Q (Itr 0 n) H:=by
 refine V7 s k (λi ys H'=>Ex1 λ(xs:List Int)=>An5 (ys=xs.map V.int) (xs.length=i) ((∀x∈xs,R x)) (PotAt H' a b (f+c*i)) (Off [a,b] H H')) ⟨[],rfl,rfl,(λ_ z=>nomatch z),o,Off.refl _ _⟩ (λi ys H' h=>by obtain⟨xs,e,g,_⟩:=h;rw[e,aj,g];exact aq _) ?_ ?_
 .rintro i ys H' hi ⟨xs,rfl,g,hR,hP',off⟩;refine m i H' _ hi hP' λr d t j l=>⟨xs++[r],by simp,by simp[g],λx u=>?_,?_,off.trans l⟩
  .rcases aK.mp u with q|q
   .exact hR x q
   .rw[aB.mp q];exact t
  .have:f+c*(i+1)=f+c*i+c:=by rw[Nat.mul_add,Nat.mul_one,dW]
   rw[this];exact j
 .rintro ys H' ⟨xs,rfl,g,hR,hP',off⟩ p hp;exact hd H' p xs g hR hP' off hp
theorem a7s{l:List Addr}{H H':Hp}{p:Addr}{o:HO}(s:Off l H H')(hp:H p=none):Off l H (upd H' p o):=λb u a e=>by
 rw[A1 (A5 e hp)];exact s b u a e
theorem b2p{H H':Hp}{a b:Addr}{n:Nat}{p:Addr}(o:Off [a,b] H H')(c:PotAt H' a b n)(hp:H' p=none):H p=none:=by
 rcases e:H p with _|u
 .rfl
 .have:=o _ _ (a8y c hp) e;rw[hp]at this;cases this
theorem a4X{H H':Hp}{vs:List V}{rss:LLI}{a b:Addr}{n:Nat}(h:Its H vs rss)(c:PotAt H a b n)(o:Off [a,b] H H'):Its H' vs rss:=⟨h.1,λi v e=>let ⟨r,e1,e2⟩:=h.2 i v e;⟨r,e1,IT.off e2 c o⟩⟩
end
def SD(H:Hp):Nat->V->V->Prop
 |0,_,_=>False
 |n+1,x,y=>(∃i,x=.int i/\y=.int i)∨∃a b xs ys,x=.ref a/\y=.ref b/\H a=some (.tup xs)/\H b=some (.tup ys)/\xs.length=ys.length/\xs.length<=1000/\∀(i:Nat) x' y',xs[i]?=some x'->ys[i]?=some y'->SD H n x' y'
theorem SD.same{H H':Hp}(s:Same H H'):∀{n:Nat}{x y:V},SD H n x y->SD H' n x y
 |0,_,_,h=>h
 |n+1,x,y,h=>by
  rcases h with h|⟨a,b,xs,ys,h1,h2,d,f,g,j,k⟩
  .exact .inl h
  .exact .inr ⟨a,b,xs,ys,h1,h2,s _ _ d,s _ _ f,g,j,λi l m e c=>SD.same s (k i l m e c)⟩
theorem SD.ints{H:Hp}{x y:V}{ns:List Int}(h:IT H x ns)(j:IT H y ns)(g:ns.length<=1000):SD H 2 x y:=by
 obtain⟨a,rfl,d⟩:=h;obtain⟨b,rfl,f⟩:=j;refine .inr ⟨a,b,_,_,rfl,rfl,d,f,rfl,by rw[aj];exact g,λi k l e c=>?_⟩;rw[e]at c;cases c;obtain⟨z,_,rfl⟩:=P5 e;exact .inl ⟨z,rfl,rfl⟩
section
variable {P:Program}{w:World}{K:PySem.W.Frag}{mg:Str->Option Value}{base:Heap}
inductive IspSame(n:Nat)(vs:List V)(H:Hp)(Q:VK)(E:XK):Prop
 |mk (x:_) (y:_) (_:vs=[x,y]) (_:SD H n x y) (_:∀H',Same H H'->Q (.bl true) H'):IspSame n vs H Q E
def b1f(n:Nat):Sp:=λvs H Q E=>IspSame n vs H Q E
theorem b4H{x:Str}{st:Stmt}{ps:List Str}{k:Nat}(F:FunAt K mg x st ps):Ok P w K mg base x k ps (λ_ _ _ _=>False):=by
 obtain⟨f,fd,h1,h2,a⟩:=F.ex;exact⟨f,fd,h1,h2.kp,a,⟨λ_ _ _ _ z=>z.elim,λ_ _ _ _ _ _ _ _ _ _ _ _ _ z=>z.elim⟩⟩
theorem a4E:FnScope ["_law_found","_law_due"] ["_law_found","_law_due"] (A2 O4):=⟨rfl,rfl,rfl,by decide +kernel,rfl,by decide +kernel,by decide +kernel⟩
theorem a8E(F:FunAt K mg "_law_same" O4 ["_law_found","_law_due"])(T:Tx mg):∀n:Nat,Ok P w K mg base "_law_same" (n+1) ["_law_found","_law_due"] (b1f n)
 |0=>(b4H F).imp λvs H Q E ⟨_,_,_,z,_⟩=>z
 |n+1=>by
  have c:=a8E F T n;refine F.okJ a4E (λvs H Q E h=>?_) (λm f A k s H vs Q E q h=>?_)
  .obtain⟨x,y,rfl,_⟩:=h;rfl
  .obtain⟨x,y,rfl,hS,kk⟩:=h;refine⟨_,(A3 (G0 (G1 K (K8 K rfl T.b_isinstance (jaC (jv 1) (jaC (a2R (v:=.ty "tuple") rfl T.b_tuple a0T rfl) jaN))))
 (A3 (G0 (a3v (a8J (P9 (G1 K (K8 K rfl T.b_isinstance (jaC (jv 0) (jaC (a2R (v:=.ty "tuple") rfl T.b_tuple a0T rfl) jaN))))) (a4S (b8C (Q0 K rfl T.b_len (jaC (jv 0) jaN)) (Q0 K rfl T.b_len (jaC (jv 1) jaN))))))
 (A4 (A9 a0J))
 C6)
 (A4 (A9 (a4V K rfl T.b_all (jaC (D6 (N:=["_law_one","_law_other"]) (src:=[none,none]) (a0q K rfl T.b_zip (jaC (jv 0) (jaC (jv 1) jaN))) (by show C7 _ _=true;rfl) (by rfl) (by rfl)
 (λ_ _ _ _ _=>(T7 K 2 (B7 (A7 (i:=0) (show(["_law_one","_law_other"]:List Str).Nodup by decide +kernel) rfl (Or.inl rfl)) (B7 (A7 (i:=1) (show(["_law_one","_law_other"]:List Str).Nodup by decide +kernel) rfl (Or.inl rfl)) M4)))) (λ_ _ _ _ _=>G2) (λ_ _ _ _ _=>(A8 c (q.mono (by omega)) rfl (jaC (jv 0) (jaC (jv 1) jaN))))) jaN)))))
 C6)
 (A4 (A9 (a6u (K8 K rfl T.b_isinstance (jaC (jv 0) (jaC (a2R (v:=.ty "int") rfl T.b_int b3t rfl) jaN))) (a6u (b5V (K8 K rfl T.b_isinstance (jaC (jv 0) (jaC (a2R (v:=.ty "bool") rfl T.b_bool b5p rfl) jaN)))) (a8O (a8K (jv 0) (jv 1)))))))),?_⟩
   rcases hS with⟨i,rfl,rfl⟩|⟨a,b,xs,ys,rfl,rfl,d,g,o,l,hi⟩
   .refine⟨_,rfl,_,_,_,false,rfl,.int i,rfl,_,rfl,G7 ?_⟩;refine⟨_,rfl,_,_,_,true,rfl,.int i,rfl,_,rfl,N8 ?_⟩;refine⟨_,rfl,_,_,_,false,rfl,.int i,rfl,_,rfl,_,rfl,N8 ?_⟩;refine⟨_,rfl,_,rfl,rfl,?_⟩;rw[show decide (V.int i=V.int i)=true from bz rfl];exact kk H (Same.refl H)
   .refine⟨_,rfl,_,_,_,true,rfl,.tup g,rfl,_,rfl,N8 ?_⟩;refine⟨_,rfl,_,_,_,true,rfl,.tup d,rfl,_,rfl,G7 ?_⟩;refine⟨_,rfl,_,_,rfl,.inr (SqT.of d),_,rfl,_,_,rfl,.inr (SqT.of g),rfl,_,rfl,?_⟩;rw[show decide (V.int (xs.length:Int)=V.int (ys.length:Int))=true from bz (by rw[o])];refine G7 ?_;refine⟨_,rfl,_,rfl,true,true,a,b,rfl,⟨_,SqT.of d⟩,⟨_,SqT.of g⟩,?_⟩;have u:(1000:Nat)<=sizeLine:=by rw[ba];decide
    refine X4 (K:=K) (k1:=true) (k2:=true) (a:=a) (b:=b) (xs:=xs) (zs:=ys) (by omega) (λi zs H'=>Same H H'/\zs=List.replicate i (.bl true)) ⟨Same.refl H,rfl⟩
     (λi zs H' _ _ h=>⟨SqT.of (h.1 _ _ d),SqT.of (h.1 _ _ g),by rw[h.2,bh];exact aq _⟩) ?_ ?_
    .rintro i x z zs H' p hx hy ⟨s',rfl⟩ hp;have s2:Same H (upd H' p (.tup [x,z])):=s'.upd hp;refine⟨p,[x,z],rfl,SqT.of A0,rfl,x,[z],rfl,z,[],rfl,rfl,⟨rfl,λj v e=>?_⟩,?_⟩
     .match j,e with
      |0,e=>cases e
      |1,e=>cases e
     .refine⟨_,rfl,_,rfl,x,z,rfl,(hi i x z hx hy).same s2,λt r=>⟨s2.trans r,?_⟩⟩;rw[List.replicate_succ']
    .rintro zs H' ⟨s',rfl⟩ p hp;refine⟨false,p,_,rfl,SqL.of A0,?_,?_⟩
     .simp[b3b]
     .rw[show(List.replicate (min xs.length ys.length) (V.bl true)).all trV=true by simp[trV]];exact kk _ (s'.upd hp)
theorem a3X(n:Nat)(v:V):(List.replicate n [v]).flatten=List.replicate n v:=by
 induction n with
 |zero=>rfl
 |succ n a=>rw[bL,cQ,a,bL];rfl
inductive IspFree(vs:List V)(H:Hp)(Q:VK)(E:XK):Prop
 |mk (n:Int) (_:vs=[.int n]) (_:0<=n) (_:n<=1000) (_:∀p H',Same H H'->H' p=some (.tup ((List.replicate n.toNat (none:Option Int)).map cV))->Q (.ref p) H'):IspFree  vs H Q E
def a7c:Sp:=λvs H Q E=>IspFree  vs H Q E
theorem b3W:FnScope ["width"] ["width"] (A2 a4J):=⟨rfl,rfl,rfl,by decide +kernel,rfl,by decide +kernel,by decide +kernel⟩
theorem b4O(F:FunAt K mg "free" a4J ["width"]):Ok P w K mg base "free" 1 ["width"] a7c:=by
 refine F.okJ b3W (λvs H Q E h=>?_) (λb f A a s H vs Q E d h=>?_)
 .obtain⟨n,rfl,_⟩:=h;rfl
 .obtain⟨n,rfl,h1,h2,k⟩:=h;refine⟨_,(A4 (A9 (a7x (O9 (jaC N1 jaN)) (jv 0)))),?_⟩;have g:(1000:Nat)<=sizeLine:=by rw[ba];decide
  refine⟨by show 1<=sizeLine;omega,λp c=>⟨_,rfl,p,[.non],n,rfl,rfl,A0,by simp,h1,?_,λq H' s e=>?_⟩⟩
  .show(1:Int)*n<=_;omega
  .rw[a3X]at e;exact k _ _ (((Same.refl H).upd c).trans s) (by rw[e,List.map_replicate];rfl)
end
noncomputable def Lst(rss:LLI)(v:List Int):Bool:=!(rss.any λu=>!decide (u=v) && Bel u v)
structure Srt(rss srt:LLI):Prop where
 ri:D0 srt
 nd:srt.Nodup
 mem:∀r,r∈srt↔r∈rss
theorem b0c{rss a:LLI}(h:∀r,r∈rss↔r∈a)(v:List Int):Lst rss v=Lst a v:=by
 unfold Lst;congr 1;rw[cS,bV,bV];exact⟨λ⟨u,b,e⟩=>⟨u,(h u).mp b,e⟩,λ⟨u,b,e⟩=>⟨u,(h u).mpr b,e⟩⟩
theorem a9l:∀{u v:List Int},u.length=v.length->Bel u v=true->u≠v->HT.lexLt v u=false
 |[],[],_,_,ne=>absurd rfl ne
 |[],_::_,h,_,_=>by cases h
 |_::_,[],h,_,_=>by cases h
 |x::u,y::v,h,a,ne=>by
  unfold Bel at a;rw[aY,cY,aQ]at a;have h1:x<=y:=bK a.1;by_cases e:x=y
  .subst e;have c:=a9l (u:=u) (v:=v) (by simpa using h) a.2 λz=>ne (by rw[z]);simp[HT.lexLt,c]
  .have:¬y<x:=by omega
   have b:¬y=x:=λz=>e z.symm;simp[HT.lexLt,this,b]
theorem a8s{α:Type}{m:List α->Prop}(l:List α)(nil:m [])(snoc:∀(l:List α) (v:α),m l->m (l++[v])):m l:=by
 have:∀r:List α,m r.reverse:=λr=>by
  induction r with
  |nil=>exact nil
  |cons x r a=>rw[et];exact snoc _ x a
 have:=this l.reverse;rwa[List.reverse_reverse]at this
noncomputable def LO(l:LLI):LLI:=l.foldl (λacc v=>if acc.any (λu=>Bel u v)then acc else acc++[v]) []
theorem a5m(l:LLI)(v:List Int):LO (l++[v])=if (LO l).any (λu=>Bel u v)then LO l else LO l++[v]:=by
 unfold LO;rw[List.foldl_append];rfl
theorem b3r(v:List Int):Bel v v=true:=(J0 rfl).mpr (Under.refl v)
theorem b0E{a b c:List Int}(h1:a.length=b.length)(h2:b.length=c.length)(d:Bel a b=true)(e:Bel b c=true):Bel a c=true :=
 (J0 (h1.trans h2)).mpr (((J0 h1).mp d).trans ((J0 h2).mp e))
theorem a9p{n:Nat}:∀(l:LLI),(∀r∈l,r.length=n)->(∀x∈LO l,x∈l)/\∀u∈l,∃x∈LO l,Bel x u=true:=by
 intro l;induction l using a8s with
 |nil=>intro _;exact⟨λ_ z=>z,λ_ z=>nomatch z⟩
 |snoc l v h =>
  intro f;obtain⟨c,d⟩:=h λr g=>f r (aT _ g);rw[a5m];cases e:(LO l).any (λu=>Bel u v)with
  |true =>
   rw[ay rfl];refine⟨λx b=>aT _ (c x b),λu a=>?_⟩;rcases aK.mp a with z|z
   .exact d u z
   .rw[aB.mp z];exact bV.mp e
  |false =>
   rw[ar (by decide)];refine⟨λx b=>?_,λu a=>?_⟩
   .rcases aK.mp b with z|z
    .exact aT _ (c x z)
    .exact aZ _ z
   .rcases aK.mp a with z|z
    .obtain⟨x,h1,h2⟩:=d u z;exact⟨x,aT _ h1,h2⟩
    .rw[aB.mp z];exact⟨v,aZ _ au,b3r v⟩
theorem b0H{n:Nat}(a:LLI)(f:∀r∈a,r.length=n)(m:D0 a)(nd:a.Nodup):∀(l rest:LLI),a=l++rest->LO l=l.filter (λv=>Lst a v):=by
 intro l;induction l using a8s with
 |nil=>intro _ _;rfl
 |snoc l v t =>
  intro rest e;have c:a=l++(v::rest):=by rw[e,aF];rfl
  have k:v∈a:=by rw[c];simp
  have b:∀r∈l,r.length=n:=λr o=>f r (by rw[c];exact aT _ o);obtain⟨i,s⟩:=a9p l b;rw[a5m,List.filter_append,<-t _ c];have key:(LO l).any (λu=>Bel u v)=!Lst a v:=by
   rw[cS];unfold Lst;rw[Bool.not_not,bV,bV];constructor
   .rintro⟨u,hu,hb⟩;refine⟨u,by rw[c];exact aT _ (i u hu),?_⟩;have g:u≠v:=λz=>by
     rw[c]at nd;exact(fz.mp nd).2.2 u (i u hu) v au z
    rw[hb,cp g];rfl
   .rintro⟨u,hu,hb⟩;rw[aQ,fq,decide_eq_false_iff_not]at hb;have d:u∈l:=by
     rw[c]at hu;rcases aK.mp hu with z|z
     .exact z
     .rcases aI.mp z with q|q
      .exact absurd q hb.1
      .exfalso;have h:HT.lexLt u v=false:=by
        rw[c]at m;have:=(bx.mp m).2.1;exact(dv.mp this).1 u q
       have h2:=a9l (by rw[f u (by rw[c];exact aZ _ z),f v k]) hb.2 hb.1;exact hb.1 (Q8 u v h h2)
    obtain⟨x,h1,h2⟩:=s u d;exact⟨x,h1,b0E (by rw[b x (i x h1),b u d]) (by rw[b u d,f v k]) h2 hb.2⟩
  rw[key];cases j:Lst a v with
  |true=>rw[ar (by decide),List.filter_cons_of_pos (p:=λv=>Lst a v) j];rfl
  |false=>rw[ay (by decide),List.filter_cons_of_neg (p:=λv=>Lst a v) (by rw[j];decide)];simp
section
variable {P:Program}{w:World}{K:PySem.W.Frag}{mg:Str->Option Value}{base:Heap}
inductive IspAboveL(vs:List V)(H:Hp)(Q:VK)(E:XK):Prop
 |mk (l:Addr) (y:V) (fs:List V) (fss:LLI) (ys:List Int) (_:vs=[.ref l,y]) (_:H l=some (.lst fs)) (_:Its H fs fss) (_:IT H y ys) (_:(∀f∈fss,f.length<=1000)) (_:∀H',Same H H'->Q (.bl (fss.any λf=>Bel f ys)) H'):IspAboveL  vs H Q E
def a5P:Sp:=λvs H Q E=>IspAboveL  vs H Q E
theorem sc_above_any:FnScope ["some","one","other"] ["some","one"] (A2 O2):=⟨rfl,rfl,rfl,by decide +kernel,rfl,by decide +kernel,by decide +kernel⟩
theorem a3u(F:FunAt K mg "above_any" O2 ["some","one"])(T:Tx mg)(b:Ok P w K mg base "below" 1 ["one","other"] a4A):Ok P w K mg base "above_any" 2 ["some","one"] a5P:=by
 refine F.okJ sc_above_any (λvs H Q E h=>?_) (λn f A j s H vs Q E c h=>?_)
 .obtain⟨l,y,fs,fss,ys,rfl,_⟩:=h;rfl
 .obtain⟨l,y,fs,fss,ys,rfl,hl,hI,hy,hL,k⟩:=h;refine⟨_,(A3 (J7 (K7 K (jv 0)) (A7 (i:=2) sc_above_any.nd rfl (Or.inl rfl))
 (A4 (G0 (G1 K (A8 b (c.mono (by omega)) rfl (jaC (jv 2) (jaC (jv 1) jaN))))
 (A4 (A9 a0J))
 C6)))
 (A4 (A9 a0J))),?_⟩
  refine⟨_,rfl,l,rfl,⟨_,SqL.of hl⟩,?_⟩;refine Q9 (K:=K) (a:=l) (xs:=fs) (λi σ H'=>Ex1 λo=>An3 (σ=[some (.ref l),some y,o]) (Same H H') (((fss.take i).any λf=>Bel f ys)=false)) ⟨none,rfl,Same.refl H,rfl⟩ (λi σ H' _ h=>by obtain⟨_,_,s',_⟩:=h;exact SqL.of (s' _ _ hl)) ?_ ?_
  .rintro i x σ H' hx ⟨o,rfl,s',hB⟩;obtain⟨r,c,d,g⟩:=hI.mem hx;have m:((fss.take (i+1)).any λf=>Bel f ys)=Bel r ys:=by
    rw[bB,d,List.any_append,hB];simp
   dsimp only[B0];refine⟨_,rfl,_,rfl,x,y,r,ys,rfl,g.same s',hy.same s',hL r c,λH2 s2=>⟨_,rfl,?_⟩⟩;cases e:Bel r ys with
   |false =>
    rw[e]at m;exact G7 ⟨_,rfl,s'.trans s2,m⟩
   |true =>
    refine N8 ?_;have:=k H2 (s'.trans s2);rw[show(fss.any λf=>Bel f ys)=true from bV.mpr ⟨r,c,e⟩]at this;exact this
  .rintro σ H' ⟨o,rfl,s',hB⟩;rw[hI.1,bJ]at hB;have:=k H' s';rw[hB]at this;exact this
inductive IspLeastOf(vs:List V)(H:Hp)(Q:VK)(E:XK):Prop
 |mk (p:Addr) (us:List V) (rss:LLI) (n:Nat) (_:vs=[.ref p]) (_:H p=some (.tup us)) (_:Its H us rss) (_:us.length<=1000) (_:1<=n) (_:n<=1000) (_:(∀r∈rss,r.length=n)) (_:∀q zs srt H',Same H H'->Srt rss srt->H' q=some (.tup zs)->Its H' zs (srt.filter λv=>Lst rss v)->Q (.ref q) H'):IspLeastOf  vs H Q E
def a3H:Sp:=λvs H Q E=>IspLeastOf  vs H Q E
theorem sc_least_of:FnScope ["some","found","one"] ["some"] (A2 S7):=⟨rfl,rfl,rfl,by decide +kernel,rfl,by decide +kernel,by decide +kernel⟩
theorem a6b(F:FunAt K mg "least_of" S7 ["some"])(T:Tx mg)(c:Ok P w K mg base "above_any" 2 ["some","one"] a5P):Ok P w K mg base "least_of" 3 ["some"] a3H:=by
 refine F.okJ sc_least_of (λvs H Q E h=>?_) (λa6 f A a5 s H vs Q E m h=>?_)
 .obtain⟨p,us,rss,n,rfl,_⟩:=h;rfl
 .obtain⟨p,us,rss,n,rfl,hp,hI,hl,hn1,hn2,hR,k⟩:=h;have hu:=m.u60;have hz:(3000:Nat)<=sizeLine:=by rw[ba];decide
  refine⟨_,(A3 (B3 (i:=1) sc_least_of.nd rfl (Or.inl rfl) (a0I jaN))
 (A3 (J7 (K7 K (b2K P w rfl T.b_sorted (jaC (b4W K P w hu rfl T.b_set (jaC (jv 0) jaN)) jaN))) (A7 (i:=2) sc_least_of.nd rfl (Or.inl rfl))
 (A4 (G0 (P9 (G1 K (A8 c (m.mono (by omega)) rfl (jaC (jv 1) (jaC (jv 2) jaN)))))
 (A4 (O8 (Z3 K (jv 1) (jaC (jv 2) jaN))))
 C6)))
 (A4 (A9 (C0 K rfl T.b_tuple (jaC (jv 1) jaN)))))),?_⟩
  refine⟨bq _,λg M=>?_⟩;have s1:=(Same.refl H).upd (o:=.lst []) M;have V:upd H g (.lst []) g=some (.lst []):=A0;generalize upd H g (.lst [])=H1 at s1 V;dsimp only[B0];refine⟨_,rfl,true,p,us,rss,rfl,SqT.of (s1 _ _ hp),hI.same s1,hl,λa xs ha L j X=>?_⟩;have s2:=s1.upd (o:=a4C P w a xs) ha;have B:=(Same.refl H1).upd (o:=a4C P w a xs) ha;have U:upd H1 a (a4C P w a xs) a=some (a4C P w a xs):=A0;generalize upd H1 a (a4C P w a xs)=H2 at s2 B U;have a3:xs.length<=1000:=by
   have:=Tab.nodup_le (xs.map (·.1)) rss L λr m=>(j r).mp m;rw[aj,<-hI.1]at this;omega
  refine⟨a,xs,rfl,U,λx J=>(X x J).same B,λx J=>by rw[hR x.1 ((j x.1).mp (aP.mpr ⟨x,J,rfl⟩))];exact hn1,a3,λl zs b y d N a2=>?_⟩;have S:Srt rss b:=⟨a2,N.symm.nodup L,λr=>(N.mem_iff).trans (j r)⟩;have s3:=s2.upd (o:=.lst zs) y;have W:upd H2 l (.lst zs) l=some (.lst zs):=A0;have C:upd H2 l (.lst zs) g=some (.lst []):=M7 (B _ _ V) y;have d:=d.same ((Same.refl H2).upd (o:=.lst zs) y);have a4:l≠g:=(A5 (B _ _ V) y).symm;generalize upd H2 l (.lst zs)=H3 at s3 W C d;have I:∀r∈b,r.length=n:=λr m=>hR r ((S.mem r).mp m);have a8:zs.length<=1000:=by
   have:=Tab.nodup_le b rss S.nd λr m=>(S.mem r).mp m;rw[d.1];rw[<-hI.1]at this;omega
  have Z:H g=none:=M;refine⟨l,rfl,⟨_,SqL.of W⟩,?_⟩;refine Q9 (K:=K) (a:=l) (xs:=zs) (λi σ H'=>Ex2 λo2 fs=>An5 (σ=[some (.ref p),some (.ref g),o2]) (Off [g] H3 H') (H' g=some (.lst fs)) (Its H' fs (LO (b.take i))) (fs.length<=i)) ⟨none,[],rfl,Off.refl _ _,C,.nil,aq _⟩ (λi σ H' _ h=>by obtain⟨_,_,_,o',_⟩:=h;exact SqL.of (o' _ _ (by simpa using a4) W)) ?_ ?_
  .rintro i x σ H' J ⟨o2,fs,rfl,off,D,hIf,hfl⟩;obtain⟨r,m,a0,a1⟩:=d.mem J;have a7:i<zs.length:=(aC.mp J).1;have O:IT H' x r:=by
    obtain⟨xa,rfl,R⟩:=a1;exact⟨xa,rfl,off _ _ (by simpa using I0 R C (by intro z;cases z)) R⟩
   have Y:∀f∈LO (b.take i),f.length<=1000:=λf D=>by
    have:=(a9p (n:=n) (b.take i) λr m=>I r (bP m)).1 f D;rw[I f (bP this)];exact hn2
   have t:LO (b.take (i+1))=if (LO (b.take i)).any (λu=>Bel u r)then LO (b.take i)else LO (b.take i)++[r]:=by
    rw[bB,a0];exact a5m _ _
   dsimp only[B0];refine⟨_,rfl,_,rfl,g,x,fs,_,r,rfl,D,hIf,O,Y,λH2 s2=>⟨_,rfl,?_⟩⟩;cases e:(LO (b.take i)).any (λu=>Bel u r)with
   |true =>
    rw[e,ay rfl]at t;refine G7 ⟨_,fs,rfl,off.trans s2.off,s2 _ _ D,?_,by omega⟩;rw[t];exact hIf.same s2
   |false =>
    rw[e,ar (by decide)]at t;have G:=s2 _ _ D;refine N8 ⟨_,rfl,.inl ⟨rfl,_,SqL.of G⟩,_,rfl,g,_,_,rfl,rfl,G,by omega,?_⟩;refine⟨_,fs++[x],rfl,(off.trans s2.off).set (by simp),A0,?_,by simp;omega⟩;rw[t];exact Its.put ((hIf.same s2).snoc (O.same s2)) G
  .rintro σ H' ⟨o2,fs,rfl,off,D,hIf,_⟩;rw[d.1,bJ]at hIf;refine⟨_,rfl,g,fs,rfl,.inl ⟨SqL.of D,λq hq=>?_⟩⟩;have s4:=(Same.refl H').upd (o:=.tup fs) hq;refine k q fs b _ ((a5S s3 Z off).trans s4) S A0 ?_;have e:=b0H (n:=n) b I S.ri S.nd b [] (by simp);rw[e]at hIf;have U:(b.filter λv=>Lst b v)=b.filter λv=>Lst rss v:=by
    congr 1;funext v;exact b0c S.mem v
   rw[U]at hIf;exact hIf.same s4
end
theorem Wk.inv1{rss:LLI}{cs:List (Option Int)}{F W L:LLI}{k:Nat}(h:Wk rss cs F W L k)(e:k=1):D0 L/\L.Nodup/\(∀v,v∈L↔v∈K9 cs)/\(F=L.filter λv=>Ans rss v)/\W=L:=by
 induction h with
 |one ri nd h=>exact⟨ri,nd,h,rfl,rfl⟩
 |more h _ _ _ _ _=>have:=h.lv.2.2.2.2.2.1;omega
theorem Wk.inv2{rss:LLI}{cs:List (Option Int)}{F W L:LLI}{d:Nat}(h:Wk rss cs F W L d):∀k,d=k+1->1<=k->∃a c b,Wk rss cs a c b k/\b≠[]/\D0 L/\L.Nodup/\(∀v,v∈L↔∃u∈b,a0t rss cs a u v)/\(F=a++L.filter λv=>Ans rss v)/\W=c++L:=by
 cases h with
 |one ri nd h=>intro k e f;omega
 |more h ne ri nd g =>
  intro k e f;obtain rfl:_=k:=fc e;exact⟨_,_,_,h,ne,ri,nd,g,rfl,rfl⟩
theorem Wk.det{rss:LLI}{cs:List (Option Int)}:∀(k:Nat) {F W L b c a:LLI},Wk rss cs F W L k->Wk rss cs b c a k->F=b/\W=c/\L=a
 |0,_,_,_,_,_,_,h,_=>by have:=h.lv.2.2.2.2.2.1;omega
 |1,F,W,L,b,c,a,h,g=>by
  obtain⟨a1,d,e,f,i⟩:=h.inv1 rfl;obtain⟨j,l,m,n,o⟩:=g.inv1 rfl;have:L=a:=a0E a1 j d l λv=>(e v).trans (m v).symm;subst this;exact⟨f.trans n.symm,i.trans o.symm,rfl⟩
 |k+2,F,W,L,b,c,a,h,g=>by
  obtain⟨q,u,s,a0,_,a1,d,e,f,i⟩:=h.inv2 (k+1) rfl (by omega);obtain⟨r,w,t,p,_,j,l,m,n,o⟩:=g.inv2 (k+1) rfl (by omega);obtain⟨rfl,rfl,rfl⟩:=Wk.det (k+1) a0 p;have:L=a:=a0E a1 j d l λv=>(e v).trans (m v).symm;subst this;exact⟨f.trans n.symm,i.trans o.symm,rfl⟩
theorem Wk.back{rss:LLI}{cs:List (Option Int)}{F W L:LLI}{k:Nat}(h:Wk rss cs F W L k):∀st,1<=st->st<=k->∃a c b G R,Wk rss cs a c b st/\W=c++R/\F=a++G/\(∀v∈G,(st:Int)<v.sum)/\(st<k->b≠[]):=by
 induction h with
 |@one L ri nd h =>
  intro st h1 h2;have:st=1:=by omega
  subst this;exact⟨_,_,_,[],[],.one ri nd h,by simp,by simp,(λ_ z=>nomatch z),λz=>by omega⟩
 |@more F W L L' k h ne ri nd d i =>
  intro st h1 h2;by_cases e:st=k+1
  .subst e;exact⟨_,_,_,[],[],.more h ne ri nd d,by simp,by simp,(λ_ z=>nomatch z),λz=>by omega⟩
  .obtain⟨a,c,b,G,R,g1,g2,g3,g4,g5⟩:=i st h1 (by omega);refine⟨a,c,b,G++L'.filter (λv=>Ans rss v),R++L',g1,by rw[g2,aF],by rw[g3,aF],λv g=>?_,λ_=>?_⟩
   .rcases aK.mp g with z|z
    .exact g4 v z
    .obtain⟨u,hu,hx⟩:=(d v).mp (aN.mp z).1;have:=(a8F (h.lv.1 u hu) hx).sum;rw[this];omega
   .by_cases e2:st=k
    .subst e2;obtain⟨_,_,f⟩:=Wk.det _ h g1;rw[<-f];exact ne
    .exact g5 (by omega)
theorem Wk.stop{rss:LLI}{cs:List (Option Int)}{F W a c b:LLI}{k st:Nat}(h:Wk rss cs F W [] k)(g:Wk rss cs a c b st):st<=k:=by
 refine bF λl=>?_;obtain⟨i,j,L2,G,R,d,_,_,_,f⟩:=g.back k h.lv.2.2.2.2.2.1 (by omega);obtain⟨_,_,e⟩:=Wk.det _ h d;exact f (by omega) e.symm
theorem b7S{rss:LLI}{cs:List (Option Int)}{F W b a c:LLI}{k st:Nat}(h:Wk rss cs F W [] k)(g:Wk rss cs b a c st):a.length<=W.length:=by
 obtain⟨i,j,L2,G,R,d,f,_,_,_⟩:=h.back st g.lv.2.2.2.2.2.1 (h.stop g);obtain⟨_,e,_⟩:=Wk.det _ d g;rw[f,e,az];omega
theorem b5Q{α:Type}[DecidableEq α]:∀(a b:List α),a.Nodup->(∀x∈a,x∈b)->a.length<=b.length
 |[],b,_,_=>bq _
 |x::a,b,e,h=>by
  obtain⟨h1,h2⟩:=cG.mp e;have c:=h x au;have:=b5Q a (b.erase x) h2 λy d=>(List.mem_erase_of_ne (λz:y=x=>h1 (z ▸ d))).mpr (h y (ak _ d));rw[List.length_erase_of_mem c]at this;have:=List.length_pos_of_mem c;rw[aU];omega
theorem a3M{rss:LLI}{cs:List (Option Int)}{F W:LLI}{k:Nat}{most:Int}(h:Wk rss cs F W [] k)(B:(W.length:Int)<=most):¬a3z rss cs most:=by
 rintro⟨r,w,u,st,g,n⟩;have l:=b7S h g;rcases n with q|⟨ne,b,nd,m,q⟩
 .omega
 .have hst:=h.stop g;have a:st<k:=by
   rcases Nat.lt_or_ge st k with z|z
   .exact z
   .have e:st=k:=Nat.le_antisymm hst z;subst e;obtain⟨_,_,e⟩:=Wk.det _ g h;exact absurd e ne
  obtain⟨s,x,L2,G,R,i,j,_,_,_⟩:=h.back (st+1) (by omega) a;obtain⟨p,c,t,a0,_,_,_,d,_,f⟩:=i.inv2 st rfl g.lv.2.2.2.2.2.1;obtain⟨rfl,rfl,rfl⟩:=Wk.det _ a0 g;have y:b.length<=L2.length:=b5Q b L2 nd λv o=>(d v).mpr (m v o);have A:W.length=c.length+L2.length+R.length:=by rw[j,f,az,az]
  omega
end K35
namespace L2
open PySem PySem.Spec PyProof.Rows
section
variable {X:Cx}{a b:Expr}{ta tb:TE}{pos:Pos}
end
theorem Its.take{H:Hp}{vs:List V}{rss:LLI}(h:Its H vs rss)(n:Nat):Its H (vs.take n) (rss.take n):=by
 refine⟨by rw[aX,aX,h.1],λi v e=>?_⟩;rw[List.getElem?_take]at e;split at e
 .rename_i hi;obtain⟨r,a,b⟩:=h.2 i v e;exact⟨r,by rw[List.getElem?_take,ay hi];exact a,b⟩
 .cases e
theorem Its.drop{H:Hp}{vs:List V}{rss:LLI}(h:Its H vs rss)(n:Nat):Its H (vs.drop n) (rss.drop n):=by
 refine⟨by rw[cg,cg,h.1],λi v e=>?_⟩;rw[eY]at e⊢;exact h.2 _ v e
theorem Its.app{H:Hp}{vs b:List V}{rss a:LLI}(h:Its H vs rss)(g:Its H b a):Its H (vs++b) (rss++a):=by
 refine⟨by rw[az,az,h.1,g.1],λi v e=>?_⟩;rcases Nat.lt_or_ge i vs.length with hi|hi
 .rw[bo hi]at e;rw[bo (by rw[<-h.1];exact hi)];exact h.2 i v e
 .rw[bb hi]at e;rw[bb (by rw[<-h.1];exact hi),<-h.1];exact g.2 _ v e
theorem Its.one{H:Hp}{v:V}{r:List Int}(h:IT H v r):Its H [v] [r]:=Its.nil.snoc h
theorem b8I{xs:List V}{n:Nat}(h:n<=xs.length):N5 xs none (some (n:Int))=xs.take n:=by
 unfold N5;rw[HT.sIx_none,HT.sIx_nat,dG h,cZ,Nat.sub_zero]
structure Srt(rss srt:LLI):Prop where
 ri:D0 srt
 nd:srt.Nodup
 mem:∀r,r∈srt↔r∈rss
end L2
namespace L2
open PySem PySem.Spec PyProof.Rows PySem.Builtin PySem.Builtin.Str PySem.StrLaws
section
variable {X:Cx}
end
section
variable {X:Cx}
end
end L2
namespace L2
open PySem PySem.Spec PyProof.Rows PySem.NumText
section
variable {X:Cx}{e:Expr}{t:TA}{p pos:Pos}
end
section
variable {X:Cx}{o e:Expr}{es:List Expr}{to:TE}{t:TA}{apos cpos:Pos}
end
end L2
namespace L2
open PySem PySem.Spec PyProof.Rows
section
variable {X:Cx}{tg:Expr}
end
section
variable {prog:Program}{w:World}{A:Around}{E:Value->Shared->Prop}{s:Shared}
end
section
variable {M:Model}{A:Around}{E:Value->Shared->Prop}{s:Shared}{env:Env}
end
section
variable {X:Cx}
end
section
variable {X:Cx}{a b c e o i:Expr}{ta tb tc td ty te tv:TE}{t:TA}{p pos:Pos}
theorem b7r(b:X.A.units+60<cLine)(a:JE X o td)(hi:JE X i ty)(hs:b7Q i:=by intro _ _;rfl):JE X (.Subscript o i pos) (b5y td ty):=⟨b4x (by omega) a.h hi.h hs⟩
end
section
variable {X:Cx}{pos:Pos}{k v:Expr}{ks:List (Option Expr)}{vs:List Expr}{tk tv:TE}{trs:List (TE×TE)}
end
end L2
namespace K35
open PySem PySem.Spec PyProof.Rows L2
def a1Q(u t:List Int):List Int:=List.zipWith (λa b=>a+b) u t
def addk(u:List Int)(k:Nat)(t:List Int):List Int:=List.zipWith (λa b=>a+(k:Int)*b) u t
theorem N7{u t:List Int}(h:u.length=t.length):(a1Q u t).length=u.length:=by unfold a1Q;rw[cI];omega
theorem E6{u t:List Int}{k:Nat}(h:u.length=t.length):(addk u k t).length=u.length:=by unfold addk;rw[cI];omega
theorem a6L{g:Int->Int->Int}{u t:List Int}(h:u.length=t.length)(h0:g 0 0=0)(j:Nat):(List.zipWith g u t).getD j 0=g (u.getD j 0) (t.getD j 0):=by
 rw[ao,ao,ao,fL];by_cases a:j<u.length
 .rw[ai a,ai (by omega)];rfl
 .rw[bG (by omega),bG (by omega)];exact h0.symm
theorem a0V{u t:List Int}(h:u.length=t.length)(j:Nat):(a1Q u t).getD j 0=u.getD j 0+t.getD j 0:=a6L h rfl j
theorem U5{u t:List Int}{k:Nat}(h:u.length=t.length)(j:Nat):(addk u k t).getD j 0=u.getD j 0+(k:Int)*t.getD j 0:=a6L (g:=λa b=>a+(k:Int)*b) h (by simp) j
theorem a3e{u v:List Int}(h:u.length=v.length)(a:∀j,j<u.length->u.getD j 0=v.getD j 0):u=v:=by
 refine dq h λj h1 h2=>?_;have:=a j h1;rw[ao,ao,ai h1,ai h2]at this;exact this
theorem b0F{u t:List Int}(h:u.length=t.length):addk u 0 t=u:=a3e (E6 h) λj _=>by rw[U5 h];simp
theorem b0G{u t:List Int}{k:Nat}(h:u.length=t.length):addk u (k+1) t=a1Q (addk u k t) t:=a3e (by rw[E6 h,N7 (by rw[E6 h];exact h),E6 h]) λj _=>by
 rw[U5 h,a0V (by rw[E6 h];exact h),U5 h,Int.natCast_succ,Int.add_mul];omega
def Nv(n:Nat)(v:List Int):Prop:=v.length=n/\∀x∈v,0<=x
theorem Nv.at_{n:Nat}{v:List Int}(h:Nv n v)(j:Nat):0<=v.getD j 0:=a6d h.2 j
theorem b5P{n:Nat}{v:List Int}(a:v.length=n)(h:∀j,j<n->0<=v.getD j 0):Nv n v:=by
 refine⟨a,λx b=>?_⟩;obtain⟨i,hi,rfl⟩:=bu.mp b;have:=h i (by omega);rwa[ao,ai hi]at this
theorem Nv.addk{n k:Nat}{u t:List Int}(a:Nv n u)(b:Nv n t):Nv n (addk u k t):=b5P (by rw[E6 (by rw[a.1,b.1]),a.1]) λj _=>by
 rw[U5 (by rw[a.1,b.1])];have:=a.at_ j;have:=dP (Int.natCast_nonneg k) (b.at_ j);omega
theorem a9t{n:Nat}{u t:List Int}(b:Nv n u)(a:Nv n t):Under u (a1Q u t):=⟨by rw[N7 (by rw[b.1,a.1])],λj _=>by
 rw[a0V (by rw[b.1,a.1])];have:=a.at_ j;omega⟩
inductive SumOf(n:Nat):LLI->List Int->Prop
 |nil:SumOf n [] (List.replicate n 0)
 |snoc {tss:LLI}{u t:List Int}(k:Nat) (h:SumOf n tss u):SumOf n (tss++[t]) (addk u k t)
theorem b4Q(n:Nat):Nv n (List.replicate n 0):=⟨bh,λx a=>by rw[(List.mem_replicate.mp a).2];omega⟩
theorem SumOf.nv{n:Nat}{tss:LLI}{v:List Int}(h:SumOf n tss v)(a:∀t∈tss,Nv n t):Nv n v:=by
 induction h with
 |nil=>exact b4Q n
 |snoc k h b=>exact(b λt z=>a t (aT _ z)).addk (a _ (by simp))
theorem SumOf.more{n:Nat}{tss:LLI}{v a:List Int}(h:SumOf n tss v)(m:∀t∈tss,Nv n t)(l:a∈tss):SumOf n tss (a1Q v a):=by
 induction h with
 |nil=>cases l
 |@snoc tss u t k h o =>
  have b:∀x∈tss,Nv n x:=λx z=>m x (aT _ z);have i:=h.nv b;have f:=m t (by simp);by_cases e:a=t
  .subst e;rw[<-b0G (by rw[i.1,f.1])];exact .snoc _ h
  .have ha':a∈tss:=by
    rcases aK.mp l with z|z
    .exact z
    .exact absurd (aB.mp z) e
   have g:=b a ha';have:a1Q (addk u k t) a=addk (a1Q u a) k t:=by
    have c:u.length=t.length:=by rw[i.1,f.1]
    have d:u.length=a.length:=by rw[i.1,g.1]
    refine a3e (by rw[N7 (by rw[E6 c];exact d),E6 c,E6 (by rw[N7 d];exact c),N7 d]) λj _=>?_;rw[a0V (by rw[E6 c];exact d),U5 c,U5 (by rw[N7 d];exact c),a0V d];omega
   rw[this];exact .snoc k (o b ha')
theorem SumOf.zeroN{n:Nat}:∀(m:Nat) (tss:LLI),tss.length=m->(∀t∈tss,Nv n t)->SumOf n tss (List.replicate n 0)
 |0,tss,h,_=>by
  rw[fm.mp h];exact .nil
 |m+1,tss,h,b=>by
  have a:tss≠[]:=λz=>by rw[z]at h;cases h
  have e:=List.dropLast_concat_getLast a;have h1:=SumOf.zeroN m tss.dropLast (by rw[List.length_dropLast];omega) λx z=>b x ((List.dropLast_sublist tss).subset z);have h2:=SumOf.snoc (t:=tss.getLast a) 0 h1;rw[b0F (by rw[bh,(b _ (List.getLast_mem a)).1]),e]at h2;exact h2
theorem SumOf.zero{n:Nat}{tss:LLI}(a:∀t∈tss,Nv n t):SumOf n tss (List.replicate n 0):=SumOf.zeroN _ tss rfl a
theorem a3j:∀{r u t:List Int},u.length=t.length->dot r (a1Q u t)=dot r u+dot r t
 |[],_,_,_=>by simp[dot]
 |_::_,[],[],_=>by simp[dot,a1Q]
 |a::r,x::u,y::t,h=>by
  have b:=a3j (r:=r) (u:=u) (t:=t) (by simpa using h);unfold a1Q at b⊢;rw[aY,B9,B9,B9,b,fD];omega
theorem ans_iff{rss:LLI}{v:List Int}:Ans rss v=true↔∀r∈rss,dot r v=0:=by
 unfold Ans;rw[bI];exact⟨λh r a=>bK (h r a),λh r a=>bz (h r a)⟩
theorem a2j{n:Nat}{v:List Int}(h:Nv n v)(hs:¬0<v.sum):v=List.replicate n 0:=by
 refine List.eq_replicate_iff.mpr ⟨h.1,λx a=>?_⟩;have h1:=h.2 x a;have h2:=b2s h.2 x a;omega
theorem a6Y{rss tss:LLI}{cs:List (Option Int)}(hR:∀r∈rss,r.length=cs.length)(hL:∀v,v∈tss↔Least rss cs v):∀(m:Nat) (v:List Int),v.sum<=m->Nv cs.length v->Ans rss v=true->Wi cs v=true->SumOf cs.length tss v:=by
 have l:∀t∈tss,Nv cs.length t:=λt z=>⟨((hL t).mp z).an.len,((hL t).mp z).an.nn⟩;intro m;induction m with
 |zero =>
  intro v u d _ _;rw[a2j d (by omega)];exact SumOf.zero l
 |succ m w =>
  intro v u d n hw;by_cases hs:0<v.sum
  .obtain⟨a,hla,hU⟩:=J8 (rss:=rss) (cs:=cs) v.sum.toNat (by omega) ⟨d.1,d.2,n,hs⟩ hw;have c:Nv cs.length a:=⟨hla.an.len,hla.an.nn⟩;have o:v.length=a.length:=by rw[d.1,c.1]
   have hd:∀j,(List.zipWith (λx y=>x-y) v a).getD j 0=v.getD j 0-a.getD j 0:=λj=>a6L (g:=λx y=>x-y) o rfl j;have b:(List.zipWith (λx y:Int=>x-y) v a).length=cs.length:=by rw[cI,<-o,Nat.min_self,d.1]
   have h:Nv cs.length (List.zipWith (λx y=>x-y) v a):=b5P b λj q=>by
    rw[hd];have:=hU.2 j (by rw[d.1];exact q);omega
   have e:v=a1Q (List.zipWith (λx y=>x-y) v a) a:=a3e (by rw[N7 (by rw[b,c.1]),b,d.1]) λj _=>by
    rw[a0V (by rw[b,c.1]),hd];omega
   have f:Under (List.zipWith (λx y=>x-y) v a) v:=by
    have:=a9t h c;rwa[<-e]at this
   have i:Ans rss (List.zipWith (λx y=>x-y) v a)=true:=by
    rw[ans_iff];intro r p;have h1:=ans_iff.mp n r p;rw[e,a3j (by rw[b,c.1]),ans_iff.mp hla.an.ans r p]at h1;omega
   have k:List.zipWith (λx y=>x-y) v a≠v:=λz=>by
    obtain⟨j,A,B⟩:=a4L hla.an.nn hla.an.pos;have:=hd j;rw[z]at this;omega
   have s:=f.sum.2 k;have:=w _ (by omega) h i (a1R d.1 hw f);rw[e];exact this.more l ((hL a).mpr hla)
  .rw[a2j d hs];exact SumOf.zero l
theorem gdx{a b:List Int}(h:a.length=b.length)(e:∀j,j<b.length->a.getD j 0=b.getD j 0):a=b:=by
 refine dq h λi h1 h2=>?_;have:=e i h2;rw[ao,ao,ai h1,ai h2]at this;exact this
theorem b7y{xs:List Int}{j:Nat}(h:j<xs.length):xs.getD j 0∈xs:=by
 rw[ao,ai h];exact cM h
def a0l(a b:List Int):List Int:=List.zipWith (λa b=>a+b) a b
def V2(c:Int)(r:List Int):List Int:=r.map λz=>c*z
def TgA:List Int->LLI->List Int->List Int
 |acc,r::rss,c::cs=>TgA (a0l acc (V2 c r)) rss cs
 |acc,_,_=>acc
theorem M6(a b:List Int)(h:a.length=b.length):(a0l a b).length=b.length:=by unfold a0l;rw[cI];omega
theorem B6(c:Int)(r:List Int):(V2 c r).length=r.length:=aj ..
theorem a4p(a b:List Int)(h:a.length=b.length)(j:Nat):(a0l a b).getD j 0=a.getD j 0+b.getD j 0:=by
 unfold a0l;rw[ao,ao,ao,fL];by_cases c:j<a.length
 .rw[ai c,ai (by omega)];rfl
 .rw[bG (by omega),bG (by omega)];rfl
theorem a4o(c:Int)(r:List Int)(j:Nat):(V2 c r).getD j 0=c*r.getD j 0:=by
 unfold V2;rw[ao,aW,ao];cases r[j]? with
 |none=>show(0:Int)=c*0;omega
 |some z=>rfl
theorem a9s(a r:List Int)(h:a.length=r.length):a0l a (V2 0 r)=a:=by
 refine gdx (by rw[M6 _ _ (by rw[B6];exact h),B6];exact h.symm) λj _=>?_;rw[a4p _ _ (by rw[B6];exact h),a4o];omega
theorem a9o{n:Nat}:∀(rss:LLI) (cs acc:List Int),(∀r∈rss,r.length=n)->acc.length=n->(TgA acc rss cs).length=n
 |[],cs,acc,_,h=>by cases cs<;>exact h
 |r::rss,[],acc,_,h=>h
 |r::rss,c::cs,acc,a,h=>by
  have h1:=a r (au ..);exact a9o rss cs _ (λq b=>a q (ak _ b)) (by rw[M6 _ _ (by rw[B6];omega),B6,h1])
theorem a4a{α:Type}{xs:List α}{i:Nat}{x:α}(h:xs[i]?=some x):xs.drop i=x::xs.drop (i+1):=by
 obtain⟨h1,h2⟩:=aC.mp h;rw[cB h1,h2]
theorem a6K:∀(tss:LLI) (cs acc t:List Int) (c:Int),tss.length=cs.length->TgA acc (tss++[t]) (cs++[c])=a0l (TgA acc tss cs) (V2 c t)
 |[],[],acc,t,c,_=>rfl
 |r::tss,d::cs,acc,t,c,h=>a6K tss cs _ t c (by simpa using h)
theorem b3f:∀(r u t:List Int),u.length=t.length->dot r (a0l u t)=dot r u+dot r t:=λr u t h=>a3j (r:=r) (u:=u) (t:=t) h
theorem a6A:∀(r t:List Int) (c:Int),dot r (V2 c t)=c*dot r t
 |[],_,c=>by simp[dot]
 |_::_,[],c=>by simp[dot,V2]
 |a::r,y::t,c=>by
  show dot (a::r) ((c*y)::V2 c t)=_;rw[B9,B9,a6A r t c,fD,Int.mul_left_comm]
theorem a5c{n:Nat}(r:List Int):∀(tss:LLI) (cs acc:List Int),acc.length=n->(∀t∈tss,t.length=n)->dot r (TgA acc tss cs)=dot r acc+dot (tss.map (dot r)) cs
 |[],cs,acc,_,_=>by cases cs<;>simp[TgA,dot]
 |t::tss,[],acc,_,_=>by simp[TgA,dot]
 |t::tss,c::cs,acc,a,b=>by
  have h1:=b t au;show dot r (TgA (a0l acc (V2 c t)) tss cs)=_;rw[a5c r tss cs _ (by rw[M6 _ _ (by rw[B6,a,h1]),B6,h1]) (λq d=>b q (ak _ d)),b3f _ _ _ (by rw[B6,a,h1]),a6A,aV,B9,Int.mul_comm c];omega
theorem a5G:∀(u t:List Int),u.length=t.length->(a0l u t).sum=u.sum+t.sum
 |[],[],_=>rfl
 |x::u,y::t,h=>by
  show((x+y)::a0l u t).sum=_;rw[bg,bg,bg,a5G u t (by simpa using h)];omega
theorem a5F(c:Int):∀(t:List Int),(V2 c t).sum=c*t.sum
 |[]=>by simp[V2]
 |y::t=>by
  show((c*y)::V2 c t).sum=_;rw[bg,bg,a5F c t,fD]
theorem a4s{n:Nat}:∀(tss:LLI) (cs acc:List Int),acc.length=n->(∀t∈tss,t.length=n)->(TgA acc tss cs).sum=acc.sum+dot (tss.map List.sum) cs
 |[],cs,acc,_,_=>by cases cs<;>simp[TgA,dot]
 |t::tss,[],acc,_,_=>by simp[TgA,dot]
 |t::tss,c::cs,acc,a,b=>by
  have h1:=b t au;show(TgA (a0l acc (V2 c t)) tss cs).sum=_;rw[a4s tss cs _ (by rw[M6 _ _ (by rw[B6,a,h1]),B6,h1]) (λq d=>b q (ak _ d)),a5G _ _ (by rw[B6,a,h1]),a5F,aV,B9,Int.mul_comm c];omega
theorem a3p{n:Nat}(j:Nat):∀(tss:LLI) (cs acc:List Int),acc.length=n->(∀t∈tss,t.length=n)->(TgA acc tss cs).getD j 0=acc.getD j 0+dot (tss.map λt=>t.getD j 0) cs
 |[],cs,acc,_,_=>by cases cs<;>simp[TgA,dot]
 |t::tss,[],acc,_,_=>by simp[TgA,dot]
 |t::tss,c::cs,acc,a,b=>by
  have h1:=b t au;show(TgA (a0l acc (V2 c t)) tss cs).getD j 0=_;rw[a3p j tss cs _ (by rw[M6 _ _ (by rw[B6,a,h1]),B6,h1]) (λq d=>b q (ak _ d)),a4p _ _ (by rw[B6,a,h1]),a4o,aV,B9,Int.mul_comm c];omega
theorem b3g:∀(a c:List Int),(∀x∈a,0<=x)->(∀x∈c,0<=x)->0<=dot a c
 |[],_,_,_=>by simp[dot]
 |_::_,[],_,_=>by simp[dot]
 |x::a,y::c,d,e=>by
  rw[B9];have:=b3g a c (λz b=>d z (ak _ b)) (λz b=>e z (ak _ b));have:=dP (d x au) (e y au);omega
theorem b3h:∀(a c d:List Int),(∀x∈a,0<=x)->Under c d->dot a c<=dot a d
 |[],_,_,_,_=>by simp[dot]
 |_::_,[],[],_,_=>ek _
 |_::_,[],_::_,_,h=>by cases h.1
 |_::_,_::_,[],_,h=>by cases h.1
 |x::a,y::c,z::d,b,h=>by
  rw[B9,B9];have h1:=b3h a c d (λq f=>b q (ak _ f)) ⟨by have:=h.1;simpa using this,λj e=>by have:=h.2 (j+1) (by simpa using e);simpa using this⟩;have h2:y<=z:=by have:=h.2 0 (by simp);simpa using this
  have g:=cm h2 (b x au);omega
theorem a9a:∀(a c:List Int),a.length=c.length->(∀x∈a,1<=x)->(∀x∈c,0<=x)->c.sum<=dot a c
 |[],[],_,_,_=>by simp[dot]
 |x::a,y::c,h,d,e=>by
  rw[B9,bg];have h1:=a9a a c (by simpa using h) (λz b=>d z (ak _ b)) (λz b=>e z (ak _ b));have h2:=cx (d x au) (e y au);omega
theorem a9c{B:Int}:∀(a c:List Int),(∀x∈a,x<=B)->(∀x∈c,0<=x)->a.length=c.length->dot a c<=B*c.sum
 |[],[],_,_,_=>by simp[dot]
 |x::a,y::c,d,e,h=>by
  rw[B9,bg,fD];have h1:=a9c a c (λz b=>d z (ak _ b)) (λz b=>e z (ak _ b)) (by simpa using h);have h2:=cx (d x au) (e y au);omega
theorem b8B{v:List Int}(h:∀j,j<v.length->0<=v.getD j 0):∀x∈v,0<=x:=λx b=>by
 obtain⟨j,a,rfl⟩:=bu.mp b;have:=h j a;rwa[ao,ai a]at this
theorem a3A:∀(n:Nat) (ys:List Int),dot (List.replicate n 0) ys=0
 |0,_=>by simp[dot]
 |n+1,[]=>by simp[dot]
 |n+1,y::ys=>by rw[bL,B9,a3A n ys];omega
theorem a2h(n:Nat)(xs:List Int):Wi (List.replicate n none) xs=true:=by
 unfold Wi;induction n generalizing xs with
 |zero=>rfl
 |succ n a =>
  cases xs with
  |nil=>rfl
  |cons x xs=>rw[bL,aY,cY,a];rfl
abbrev tgl(n:Nat)(tss:LLI)(c:List Int):List Int:=TgA (List.replicate n 0) tss c
abbrev fre(m:Nat):List (Option Int):=List.replicate m none
theorem B1(m:Nat):(fre m).length=m:=bh
theorem a7O(n j:Nat):(List.replicate n (0:Int)).getD j 0=0:=by
 rw[ao,fk];split<;>rfl
abbrev Cnt(tss:LLI)(row c:List Int):Prop:=Least [tss.map (dot row)] (fre tss.length) c
structure NarR(tss:LLI)(row:List Int)(most:Nat)(fss:LLI):Prop where
 ri:D0 fss
 nd:fss.Nodup
 len:fss.length<=most
 mem:∀v,v∈fss↔(∃c,Cnt tss row c/\tgl row.length tss c=v)/\∀u,(∃c,Cnt tss row c/\tgl row.length tss c=u)->Under u v->u=v
 bd:∀v∈fss,∃c,Cnt tss row c/\tgl row.length tss c=v/\c.sum<=(most:Int)+1
section
variable {rss tss:LLI}{row:List Int}{n:Nat}
theorem a0w(h:∀t∈tss,t.length=n)(c:List Int):(tgl n tss c).length=n:=a9o tss c _ h bh
theorem b6g(h:∀t∈tss,t.length=n/\∀x∈t,0<=x){c:List Int}(b:∀x∈c,0<=x):∀x∈tgl n tss c,0<=x:=b8B λj e=>by
 rw[a3p j tss c _ bh λt a=>(h t a).1,a7O,dQ];refine b3g _ _ (λx d=>?_) b;obtain⟨t,a,rfl⟩:=aP.mp d;exact a6d (h t a).2 j
theorem b0U(h:∀t∈tss,t.length=n/\∀x∈t,0<=x){c d:List Int}(b:Under c d):Under (tgl n tss c) (tgl n tss d):=⟨by rw[a0w (λt a=>(h t a).1),a0w (λt a=>(h t a).1)],λj _=>by
 rw[a3p j tss c _ bh λt a=>(h t a).1,a3p j tss d _ bh λt a=>(h t a).1];have:=b3h (tss.map λt=>t.getD j 0) c d (λx e=>by
  obtain⟨t,a,rfl⟩:=aP.mp e;exact a6d (h t a).2 j) b
 omega⟩
theorem a6X{u:List Int}(h:SumOf n tss u)(d:∀t∈tss,Nv n t):∃c,c.length=tss.length/\(∀x∈c,0<=x)/\tgl n tss c=u:=by
 induction h with
 |nil=>exact⟨[],rfl,(λ_ z=>nomatch z),rfl⟩
 |@snoc tss u t k h g =>
  obtain⟨c,h1,h2,e⟩:=g λx z=>d x (aT _ z);have a:=d t (by simp);have b:=h.nv λx z=>d x (aT _ z);refine⟨c++[(k:Int)],by simp[h1],λx f=>?_,?_⟩
  .rcases aK.mp f with z|z
   .exact h2 x z
   .rw[aB.mp z];omega
  .show TgA _ _ _=_;rw[a6K _ _ _ _ _ h1.symm];rw[show TgA (List.replicate n 0) tss c=u from e];refine a3e (by rw[M6 _ _ (by rw[B6,b.1,a.1]),B6,E6 (by rw[b.1,a.1]),b.1,a.1]) λj _=>?_;rw[a4p _ _ (by rw[B6,b.1,a.1]),a4o,U5 (by rw[b.1,a.1])]
variable (hR:∀r∈rss,r.length=n) (hrow:row.length=n) (hL:∀v,v∈tss↔Least rss (fre n) v)
include hL in
theorem a8b:∀t∈tss,t.length=n/\∀x∈t,0<=x:=λt a=>⟨by have:=((hL t).mp a).an.len;rwa[B1]at this,((hL t).mp a).an.nn⟩
include hL hrow in
theorem a9i{c:List Int}(h:c.length=tss.length)(f:∀x∈c,0<=x)(g:dot (tss.map (dot row)) c=0)(hp:0<c.sum):Answer (rss++[row]) n (tgl n tss c):=by
 have e:=a8b hL;have a:∀t∈tss,t.length=n:=λt b=>(e t b).1;refine⟨a0w a c,b6g e f,ans_iff.mpr λr i=>?_,?_⟩
 .rw[a5c r tss c _ bh a,a0O,dQ];rcases aK.mp i with z|z
  .have:tss.map (dot r)=List.replicate tss.length 0:=List.eq_replicate_iff.mpr ⟨aj ..,λx d=>by
    obtain⟨t,b,rfl⟩:=aP.mp d;exact ans_iff.mp ((hL t).mp b).an.ans r z⟩
   rw[this];exact a3A _ _
  .rw[aB.mp z];exact g
 .rw[a4s tss c _ bh a,a2v,dQ];have:=a9a (tss.map List.sum) c (by rw[aj,h]) (λx d=>by
   obtain⟨t,b,rfl⟩:=aP.mp d;have:=((hL t).mp b).an.pos;omega) f
  omega
include hR hrow hL in
theorem a3P{a:List Int}(h:Least (rss++[row]) (fre n) a):∃c,Cnt tss row c/\tgl n tss c=a:=by
 have k:=a8b hL;have f:∀t∈tss,t.length=n:=λt x=>(k t x).1;have e:=h.an;rw[B1]at e;have b:=ans_iff.mp e.ans;have u:=a6Y (rss:=rss) (tss:=tss) (cs:=fre n) (by rw[B1];exact hR) hL a.sum.toNat a (by omega) (by rw[B1];exact⟨e.len,e.nn⟩) (ans_iff.mpr λr p=>b r (aT _ p)) (a2h _ _);rw[B1]at u;obtain⟨c,q,s,i⟩:=a6X u k;have m:dot (tss.map (dot row)) c=0:=by
  have:=a5c row tss c (List.replicate n 0) bh f;rw[show TgA (List.replicate n 0) tss c=a from i,a0O,dQ,b row (by simp)]at this;exact this.symm
 have l:0<c.sum:=by
  refine bF λz=>?_;have v:=a2j (n:=tss.length) ⟨q,s⟩ z;have hs:=a4s tss c (List.replicate n 0) bh f;rw[show TgA (List.replicate n 0) tss c=a from i,a2v,v,a0O]at hs;have:=e.pos;omega
 obtain⟨d,hd,w⟩:=J8 (rss:=[tss.map (dot row)]) (cs:=fre tss.length) c.sum.toNat (by omega) ⟨by rw[B1,q],s,ans_iff.mpr λr p=>by rw[aB.mp p];exact m,l⟩ (a2h _ _);have o:d.length=tss.length:=by have:=hd.an.len;rwa[B1]at this
 have j:=a9i hrow hL o hd.an.nn (ans_iff.mp hd.an.ans _ (by simp)) hd.an.pos;have g:=b0U k w;rw[i]at g;exact⟨d,hd,h.min _ (by rw[B1];exact j) g⟩
include hR hrow hL in
theorem a3N{most:Nat}{d:LLI}(h:NarR tss row most d)(v:List Int):v∈d↔Least (rss++[row]) (fre n) v:=by
 have j:∀{c:List Int},Cnt tss row c->Answer (rss++[row]) n (tgl n tss c):=λ{c} b=>a9i hrow hL (by have:=b.an.len;rwa[B1]at this) b.an.nn (ans_iff.mp b.an.ans _ (by simp)) b.an.pos;rw[h.mem v,hrow];constructor
 .rintro⟨⟨c,b,rfl⟩,hm⟩;refine⟨by rw[B1];exact j b,a2h _ _,λu i f=>?_⟩;obtain⟨a,k,g⟩:=J8 (rss:=rss++[row]) (cs:=fre n) u.sum.toNat (by have:=i.pos;omega) i (a2h _ _);have e:=hm a (a3P hR hrow hL k) (g.trans f);rw[<-e]at f⊢;have:=g.sum.1;exact f.eq this
 .intro hv;refine⟨a3P hR hrow hL hv,λu i f=>?_⟩;obtain⟨c,b,rfl⟩:=i;exact hv.min _ (by rw[B1];exact j b) f
end
section
variable {P:Program}{w:World}{K:PySem.W.Frag}{mg:Str->Option Value}{base:Heap}
inductive IspNought(vs:List V)(H:Hp)(Q:VK)(E:XK):Prop
 |mk (n:Int) (_:vs=[.int n]) (_:1<=n) (_:n<=1000) (_:∀v H',Same H H'->IT H' v (List.replicate n.toNat 0)->Q v H'):IspNought  vs H Q E
def a5N:Sp:=λvs H Q E=>IspNought  vs H Q E
theorem a9F:FnScope ["width"] ["width"] (A2 a0D):=⟨rfl,rfl,rfl,by decide +kernel,rfl,by decide +kernel,by decide +kernel⟩
theorem a9W(F:FunAt K mg "nought" a0D ["width"]):Ok P w K mg base "nought" 1 ["width"] a5N:=by
 refine F.okJ a9F (λvs H Q E h=>?_) (λb f A a s H vs Q E d h=>?_)
 .obtain⟨n,rfl,_⟩:=h;rfl
 .obtain⟨n,rfl,h1,h2,k⟩:=h;refine⟨_,(A4 (A9 (b2N (O9 (jaC A6 jaN)) (jv 0)))),?_⟩;have g:(1000:Nat)<=sizeLine:=by rw[ba];decide
  refine⟨by show 1<=sizeLine;omega,λp c=>⟨_,rfl,p,[.int 0],n,rfl,rfl,A0,by simp,h1,?_,λq H' s e=>?_⟩⟩
  .show(1:Int)*n<=_;omega
  .rw[a2Z]at e;exact k _ _ (((Same.refl H).upd c).trans s) ⟨q,rfl,e⟩
inductive IspZip(g:Int->Int->Int)(vs:List V)(H:Hp)(Q:VK)(E:XK):Prop
 |mk (x:_) (y:_) (xs:_) (ys:_) (_:vs=[x,y]) (_:IT H x xs) (_:IT H y ys) (_:xs.length<=1000) (_:∀v H',Same H H'->IT H' v (List.zipWith g xs ys)->Q v H'):IspZip g vs H Q E
def b5A(g:Int->Int->Int):Sp:=λvs H Q E=>IspZip g vs H Q E
theorem b3V:FnScope ["one","other"] ["one","other"] (A2 a4I):=⟨rfl,rfl,rfl,by decide +kernel,rfl,by decide +kernel,by decide +kernel⟩
theorem b4M(F:FunAt K mg "plus" a4I ["one","other"])(T:Tx mg):Ok P w K mg base "plus" 1 ["one","other"] (b5A λa b=>a+b):=by
 refine F.okJ b3V (λvs H Q E h=>?_) (λe f A d s H vs Q E m h=>?_)
 .obtain⟨x,y,xs,ys,rfl,_⟩:=h;rfl
 .obtain⟨_,_,xs,ys,rfl,⟨a,rfl,ha⟩,⟨b,rfl,hb⟩,c,k⟩:=h;refine⟨_,(A4 (A9 (C0 K rfl T.b_tuple (jaC (D6 (N:=["a","b"]) (src:=[none,none]) (a0q K rfl T.b_zip (jaC (jv 0) (jaC (jv 1) jaN))) (by show C7 _ _=true;rfl) (by rfl) (by rfl)
 (λ_ _ _ _ _=>(T7 K 2 (B7 (A7 (i:=0) (show(["a","b"]:List Str).Nodup by decide +kernel) rfl (Or.inl rfl)) (B7 (A7 (i:=1) (show(["a","b"]:List Str).Nodup by decide +kernel) rfl (Or.inl rfl)) M4)))) (λ_ _ _ _ _=>G2) (λ_ _ _ _ _=>(U7 (jv 0) (jv 1)))) jaN)))),?_⟩
  refine⟨_,rfl,_,rfl,true,true,a,b,rfl,⟨_,SqT.of ha⟩,⟨_,SqT.of hb⟩,?_⟩;refine a5o (caps:=[]) (λx y=>V.int (x+y)) (sqt ha) (sqt hb) c (λH' s=>⟨sqt (s _ _ ha),sqt (s _ _ hb)⟩) rfl (λx y H1 j _ q=>⟨_,rfl,_,rfl,_,_,rfl,rfl,q⟩) λH1 p s g=>?_;rw[a4m (λx y=>x+y) V.int];refine⟨p,_,rfl,.inl ⟨SqL.of A0,λl c=>?_⟩⟩;exact k _ _ ((s.upd g).upd c) ⟨l,rfl,A0⟩
inductive IspTimes(vs:List V)(H:Hp)(Q:VK)(E:XK):Prop
 |mk (m:Int) (x:V) (xs:List Int) (_:vs=[.int m,x]) (_:IT H x xs) (_:xs.length<=1000) (_:0<=m) (_:m<2 ^ 63) (_:∀v H',Same H H'->IT H' v (xs.map λz=>m*z)->Q v H'):IspTimes  vs H Q E
def a8j:Sp:=λvs H Q E=>IspTimes  vs H Q E
theorem b1q:FnScope ["many","one"] ["many","one"] (A2 a1T):=⟨rfl,rfl,rfl,by decide +kernel,rfl,by decide +kernel,by decide +kernel⟩
theorem b2f(F:FunAt K mg "times" a1T ["many","one"])(T:Tx mg):Ok P w K mg base "times" 1 ["many","one"] a8j:=by
 refine F.okJ b1q (λvs H Q E h=>?_) (λd f A c s H vs Q E j h=>?_)
 .obtain⟨m,x,xs,rfl,_⟩:=h;rfl
 .obtain⟨m,_,xs,rfl,⟨a,rfl,ha⟩,b,m0,m1,k⟩:=h;refine⟨_,(A4 (A9 (C0 K rfl T.b_tuple (jaC (D6 (N:=["a","many"]) (src:=[none,some 0]) (T5 K (jv 1)) (by show C7 _ _=true;rfl) (by rfl) (by rfl)
 (λ_ _ _ _ _=>(A7 (i:=0) (show(["a","many"]:List Str).Nodup by decide +kernel) rfl (Or.inl rfl))) (λ_ _ _ _ _=>G2) (λ_ _ _ _ _=>(a2O (jv 1) (jv 0)))) jaN)))),?_⟩
  refine⟨_,rfl,a,rfl,⟨_,SqT.of ha⟩,?_⟩;refine a5B (caps:=[some (.int m)]) (λz=>V.int (m*z)) b (λH' s=>SqT.of (s _ _ ha)) rfl (λx H1 g _ _ q=>⟨_,rfl,_,rfl,_,_,rfl,rfl,.inl ⟨by omega,by omega⟩,q⟩) λH1 p s e=>?_;rw[show(xs.map λx=>V.int (m*x))=(xs.map λx=>m*x).map V.int by rw[dz];rfl];refine⟨p,_,rfl,.inl ⟨SqL.of A0,λl b=>?_⟩⟩;exact k _ _ ((s.upd e).upd b) ⟨l,rfl,A0⟩
inductive IspTog(vs:List V)(H:Hp)(Q:VK)(E:XK):Prop
 |mk (t c:Addr) (us:List V) (rss:LLI) (cs:List Int) (n:Nat) (_:vs=[.ref t,.ref c,.int n]) (_:H t=some (.tup us)) (_:Its H us rss) (_:H c=some (.tup (cs.map V.int))) (_:1<=n) (_:n<=1000) (_:(∀r∈rss,r.length=n)) (_:(∀c∈cs,0<=c/\c<2 ^ 63)) (_:∀v H',Same H H'->IT H' v (TgA (List.replicate n 0) rss cs)->Q v H'):IspTog  vs H Q E
def b5B:Sp:=λvs H Q E=>IspTog  vs H Q E
theorem sc_together:FnScope ["told","counts","width","whole","one","many"] ["told","counts","width"] (A2 S5):=⟨rfl,rfl,rfl,by decide +kernel,rfl,by decide +kernel,by decide +kernel⟩
theorem a5Z(F:FunAt K mg "together" S5 ["told","counts","width"])(T:Tx mg)(d:Ok P w K mg base "nought" 1 ["width"] a5N)(g:Ok P w K mg base "times" 1 ["many","one"] a8j)(k:Ok P w K mg base "plus" 1 ["one","other"] (b5A λa b=>a+b)):Ok P w K mg base "together" 2 ["told","counts","width"] b5B:=by
 refine F.okJ sc_together (λvs H Q E h=>?_) (λR f A N s H vs Q E u h=>?_)
 .obtain⟨t,c,us,rss,cs,n,rfl,_⟩:=h;rfl
 .obtain⟨t,c,us,rss,cs,n,rfl,ht,hI,hc,hn1,hn,hR,hC,kk⟩:=h;refine⟨_,(A3 (B3 (i:=3) sc_together.nd rfl (Or.inl rfl) (A8 d (u.mono (by omega)) rfl (jaC (jv 2) jaN)))
 (A3 (J7 (a0q K rfl T.b_zip (jaC (jv 0) (jaC (jv 1) jaN))) (T7 K 2 (B7 (A7 (i:=4) sc_together.nd rfl (Or.inl rfl)) (B7 (A7 (i:=5) sc_together.nd rfl (Or.inl rfl)) M4)))
 (A4 (G0 (a8L (jv 5) A6)
 (A4 (B3 (i:=3) sc_together.nd rfl (Or.inl rfl) (A8 k (u.mono (by omega)) rfl (jaC (jv 3) (jaC (A8 g (u.mono (by omega)) rfl (jaC (jv 5) (jaC (jv 4) jaN))) jaN)))))
 C6)))
 (A4 (A9 (jv 3))))),?_⟩
  refine⟨_,rfl,_,rfl,by omega,by omega,λU H1 s1 y=>?_⟩;rw[br]at y;dsimp only[B0];refine⟨_,rfl,_,rfl,true,true,t,c,rfl,⟨_,SqT.of (s1 _ _ ht)⟩,⟨_,SqT.of (s1 _ _ hc)⟩,?_⟩;refine b5g (k1:=true) (k2:=true) (xs:=us) (zs:=cs.map V.int) (λi σ H'=>Ex4 λv L M acc=>An5 (σ=[some (.ref t),some (.ref c),some (.int n),some v,L,M]) (Same H H') (IT H' v acc) (acc.length=n) (TgA acc (rss.drop i) (cs.drop i)=TgA (List.replicate n 0) rss cs))
   ⟨U,none,none,_,rfl,s1,y,bh,rfl⟩ (λi σ H' _ _ h=>by obtain⟨_,_,_,_,_,s',_⟩:=h;exact⟨SqT.of (s' _ _ ht),SqT.of (s' _ _ hc)⟩) ?_ ?_
  .rintro i x z σ H' q hx hz' ⟨v,L,M,acc,rfl,s',hv',hal,hT⟩ hq;obtain⟨j,p,rfl⟩:=P5 hz';obtain⟨r,u,D,ra,rfl,C⟩:=hI.mem hx;have G:=hR r u;have m:=hC j (aH p);rw[a4a D,a4a p]at hT;refine⟨q,[.ref ra,.int j],rfl,SqT.of A0,rfl,.ref ra,[.int j],rfl,.int j,[],rfl,rfl,?_⟩;have B:=s'.upd (o:=.tup [.ref ra,.int j]) hq;have l:=hv'.same ((Same.refl H').upd (o:=.tup [.ref ra,.int j]) hq);generalize upd H' q (.tup [.ref ra,.int j])=Y at B l;dsimp only[B0];refine⟨_,rfl,_,_,rfl,rfl,_,rfl,a1I (λe=>?_) (λe=>?_)⟩
   .refine⟨_,rfl,_,rfl,_,rfl,j,.ref ra,r,rfl,⟨ra,rfl,B _ _ C⟩,by omega,m.1,m.2,λW Z O I=>?_⟩;refine⟨v,W,acc,_,rfl,l.same O,I,by omega,λX H5 S J=>?_⟩;exact⟨X,_,_,a0l acc (V2 j r),rfl,(B.trans O).trans S,J,by rw[M6 _ _ (by rw[B6];omega),B6];exact G,hT⟩
   .have e0:j=0:=by
     have:¬0<j:=λz=>e (bz z);omega
    subst e0;change TgA (a0l acc (V2 0 r)) _ _=_ at hT;rw[a9s acc r (by omega)]at hT;exact⟨v,_,_,acc,rfl,B,l,hal,hT⟩
  .rintro σ H' ⟨v,L,M,acc,rfl,s',hv',hal,hT⟩;have e:acc=TgA (List.replicate n 0) rss cs:=by
    rw[<-hT,aj,hI.1];by_cases h:rss.length<=cs.length
    .rw[dG h,fG];cases cs.drop rss.length<;>rfl
    .rw[Nat.min_eq_right (by omega),fG];cases rss.drop cs.length<;>rfl
   subst e;exact⟨_,rfl,kk _ _ s' hv'⟩
end
def Tk(H H':Hp):Prop:=∀c xs,H c=some (HO.tup xs)->H' c=some (.tup xs)
theorem Tk.trans{H H' a:Hp}(h:Tk H H')(g:Tk H' a):Tk H a:=λc xs e=>g c xs (h c xs e)
theorem Tk.same{H H':Hp}(s:Same H H'):Tk H H':=λc xs e=>s c _ e
theorem Tk.put{H:Hp}{c:Addr}{xs:List V}{o:HO}(e:H c=some (.lst xs)):Tk H (upd H c o):=λd ys q=>by rw[A1 (I0 q e (by intro z;cases z))];exact q
theorem Tk.it{H H':Hp}(h:Tk H H'){v:V}{r:List Int}(g:IT H v r):IT H' v r:=let ⟨a,e,q⟩:=g;⟨a,e,h _ _ q⟩
theorem Tk.its{H H':Hp}(h:Tk H H'){vs:List V}{rss:LLI}(g:Its H vs rss):Its H' vs rss:=⟨g.1,λi v e=>let ⟨r,e1,e2⟩:=g.2 i v e;⟨r,e1,h.it e2⟩⟩
theorem a8T{H:Hp}:∀{vs:List V}{rss:LLI},Its H vs rss->Its H vs.reverse rss.reverse
 |[],[],_=>.nil
 |[],_::_,h=>by cases h.1
 |_::_,[],h=>by cases h.1
 |v::vs,r::rss,h=>by
  obtain⟨c,a,b⟩:=h.2 0 v rfl;have a:r=c:=by injection a
  rw[et,et];exact(a8T (vs:=vs) (rss:=rss) (h.drop 1)).app (Its.one (by rw[a];exact b))
section
variable {P:Program}{w:World}{K:PySem.W.Frag}{mg:Str->Option Value}{base:Heap}
theorem b7v(a:LLI):(IK a).length=a.length:=aj ..
theorem a8I(v:List Int):(v.map (Sum.inl:Int->Key)).map kV=v.map V.int:=by rw[dz];rfl
theorem mem_IK{a:LLI}{v:List Int}:v.map (Sum.inl:Int->Key)∈IK a↔v∈a:=by
 unfold IK;rw[aP];constructor
 .rintro⟨u,hu,e⟩;rw[<-a4Y e];exact hu
 .intro h;exact⟨v,h,rfl⟩
def fir(n:Nat)(tss cts:LLI)(v:List Int):List Int:=(cts.find? λc=>decide (tgl n tss c=v)).getD []
theorem a8Y{n:Nat}{tss a:LLI}{v:List Int}(d:List Int)(h:∃c∈a,tgl n tss c=v):fir n tss (a++[d]) v=fir n tss a v:=by
 obtain⟨c,b,e⟩:=h;unfold fir;rw[List.find?_append];cases q:a.find? λc=>decide (tgl n tss c=v)with
 |some x=>rfl
 |none=>exact absurd (bz e) (List.find?_eq_none.mp q c b)
theorem b5h{n:Nat}{tss a:LLI}{v d:List Int}(h:¬∃c∈a,tgl n tss c=v)(e:tgl n tss d=v):fir n tss (a++[d]) v=d:=by
 unfold fir;rw[List.find?_append,List.find?_eq_none.mpr λc b z=>h ⟨c,b,bK z⟩];simp[e]
structure NarC(tss:LLI)(row:List Int)(most:Nat)(cts fss:LLI):Prop where
 ri:D0 cts
 wk:∃F W k,cts.Perm F/\Wk [tss.map (dot row)] (fre tss.length) F W [] k/\W.length<=most
 ex:∃mss srt,mss.Nodup/\(∀v,v∈mss↔∃c∈cts,tgl row.length tss c=v)/\Srt mss srt/\fss=srt.filter λv=>Lst mss v
inductive IspNarrow(D:Addr)(vs:List V)(H:Hp)(Q:VK)(E:XK):Prop
 |mk (t r:Addr) (zs:List V) (tss:LLI) (row:List Int) (most:Nat) (mi:Int) (_:vs=[.ref t,.ref r,.int mi]) (_:mi=most) (_:H t=some (.tup zs)) (_:Its H zs tss) (_:H r=some (.tup (row.map V.int))) (_:1<=row.length) (_:row.length<=100) (_:zs.length<=100) (_:most<=900) (_:(∀v∈tss,v.length=row.length/\Sm v)) (_:Sb (tss.map (dot row))) (_:(∀q f g fs fss gs cts H',Same H H'->H' q=some (.tup [.ref f,.ref g])->H' f=some (.tup fs)->Its H' fs fss->H' g=some (.tup gs)->Its H' gs (fss.map (fir row.length tss cts))->NarC tss row most cts fss->Q (.ref q) H')) (_:∀H',Same H H'->a3z [tss.map (dot row)] (fre tss.length) most->E (.ref D) none H'):IspNarrow D vs H Q E
def a2m(D:Addr):Sp:=λvs H Q E=>IspNarrow D vs H Q E
theorem sc_narrowed:FnScope ["told","row","most","totals","first","counts","found"] ["told","row","most"] (A2 S6):=⟨rfl,rfl,rfl,by decide +kernel,rfl,by decide +kernel,by decide +kernel⟩
theorem a6a{j:Addr}(F':FunAt K mg "narrowed" S6 ["told","row","most"])(T:Tx mg)(p:Ok P w K mg base "row_sum" 1 ["row","one"] a2l)(O:Ok P w K mg base "free" 1 ["width"] a7c)(n:Ok P w K mg base "together" 2 ["told","counts","width"] b5B)(m:Ok P w K mg base "least_of" 3 ["some"] a3H)(B:OkE P w K mg base "least" 7 ["rows","caps","most"] (a4x j)):OkE P w K mg base "narrowed" 8 ["told","row","most"] (a2m j):=by
 refine F'.okE sc_narrowed (λvs H Q E h=>?_) (λf4 f A e7 s H vs Q E hr h=>?_)
 .obtain⟨t,r,zs,tss,row,most,mi,rfl,_⟩:=h;rfl
 .obtain⟨t,r,zs,tss,row,most,_,rfl,rfl,ht,hI,hrw,r1,r2,hzl,hmo,hT,hS,kq,ke⟩:=h;have hu:=hr.u60;have hz:(30000:Nat)<=sizeLine:=by rw[ba];decide
  refine⟨_,(A3 (B3 (i:=3) sc_narrowed.nd rfl (Or.inl rfl) (C0 K rfl T.b_tuple (jaC (D6 (N:=["one","row"]) (src:=[none,some 1]) (T5 K (jv 0)) (by show C7 _ _=true;rfl) (by rfl) (by rfl)
 (λ_ _ _ _ _=>(A7 (i:=0) (show(["one","row"]:List Str).Nodup by decide +kernel) rfl (Or.inl rfl))) (λ_ _ _ _ _=>G2) (λ_ _ _ _ _=>(A8 p (hr.mono (by omega)) rfl (jaC (jv 1) (jaC (jv 0) jaN))))) jaN)))
 (A3 (B3 (i:=4) sc_narrowed.nd rfl (Or.inr rfl) a8Q)
 (A3 (J7 (T5 K (a0h K (a8R B (hr.mono (by omega)) rfl (jaC (O9 (jaC (jv 3) jaN)) (jaC (A8 O (hr.mono (by omega)) rfl (jaC (Q0 K rfl T.b_len (jaC (jv 0) jaN)) jaN)) (jaC (jv 2) jaN)))) A6)) (A7 (i:=5) sc_narrowed.nd rfl (Or.inl rfl))
 (A4 (O8 (b5a hu (jv 4) (A8 n (hr.mono (by omega)) rfl (jaC (jv 0) (jaC (jv 5) (jaC (Q0 K rfl T.b_len (jaC (jv 1) jaN)) jaN)))) (jv 5)))) (hp:=PassesOwn.leaving))
 (A3 (B3 (i:=6) sc_narrowed.nd rfl (Or.inl rfl) (A8 m (hr.mono (by omega)) rfl (jaC (b0h rfl T.b_tuple (jaC (jv 4) jaN)) jaN)))
 (A4 (A9 (O9 (jaC (jv 6) (jaC (C0 K rfl T.b_tuple (jaC (D6 (N:=["one","first"]) (src:=[none,some 4]) (T5 K (jv 6)) (by show C7 _ _=true;rfl) (by rfl) (by rfl)
 (λ_ _ _ _ _=>(A7 (i:=0) (show(["one","first"]:List Str).Nodup by decide +kernel) rfl (Or.inl rfl))) (λ_ _ _ _ _=>G2) (λ_ _ _ _ _=>(b7r hu (jv 1) (jv 0)))) jaN)) jaN))))))))),?_⟩
  refine⟨_,rfl,t,rfl,⟨_,SqT.of ht⟩,?_⟩;refine a8a (caps:=[some (.ref r)]) (λv=>V.int (dot row v)) (by omega) (λH' s=>SqT.of (s _ _ ht)) hI rfl (λv u H1 Q1 d5 D s1 q=>?_) λH1 p1 s1 d1=>?_
  .exact⟨_,rfl,_,rfl,.ref r,v,row,u,rfl,⟨r,rfl,s1 _ _ hrw⟩,D,by omega,(hT u d5).2,λH2 s2=>q H2 s2⟩
  rw[show(tss.map λv=>V.int (dot row v))=(tss.map (dot row)).map V.int by rw[dz];rfl];refine⟨p1,_,rfl,.inl ⟨SqL.of A0,λpt d4=>?_⟩⟩;have s2:=(s1.upd (o:=.lst ((tss.map (dot row)).map V.int)) d1).upd (o:=.tup ((tss.map (dot row)).map V.int)) d4;have e2:upd (upd H1 p1 (.lst ((tss.map (dot row)).map V.int))) pt (.tup ((tss.map (dot row)).map V.int)) pt=some (.tup ((tss.map (dot row)).map V.int)):=A0;generalize upd (upd H1 p1 (.lst ((tss.map (dot row)).map V.int))) pt (.tup ((tss.map (dot row)).map V.int))=H2 at s2 e2
  try dsimp only[B0,List.set]
  intro d hd
  try dsimp only[B0,List.set]
  have c8:H d=none:=s2.free hd;have a4:=(Same.refl H2).upd (o:=.dT []) hd;have s3:=s2.trans a4;have e3:upd H2 d (.dT []) d=some (.dT []):=A0;have e2:=a4 _ _ e2;generalize upd H2 d (.dT [])=H3 at s3 a4 e3 e2;refine⟨_,rfl,by show 1<=sizeLine;omega,λp4 d2=>?_⟩;have a0:=(Same.refl H3).upd (o:=.tup [.ref pt]) d2;have s4:=s3.trans a0;have e4:upd H3 p4 (.tup [.ref pt]) p4=some (.tup [.ref pt]):=A0;have e2:=a0 _ _ e2;have a8:=a0 _ _ e3;generalize upd H3 p4 (.tup [.ref pt])=H4 at s4 a0 e4 e2 a8;refine⟨_,rfl,t,_,rfl,.inr (SqT.of (s4 _ _ ht)),_,rfl,by omega,by omega,λca H5 s5 b3=>?_⟩;rw[br,hI.1]at b3;have c9:tss.length<=100:=by rw[<-hI.1];exact hzl
  have Y:SyAt H5 p4 ca [tss.map (dot row)] (fre tss.length):=⟨⟨[.ref pt],s5 _ _ e4,Its.nil.snoc ⟨pt,rfl,s5 _ _ e2⟩,by simp⟩,b3,bq _,by rw[B1];exact c9,λr' a1=>by
   rw[aB.mp a1,B1,aj];exact⟨rfl,hS⟩⟩
  have f3:(most+1)*(tss.length+1)<=901*101:=Nat.mul_le_mul (by omega) (by omega);refine⟨_,rfl,p4,ca,_,fre tss.length,most,_,rfl,rfl,Y,by rw[B1];omega,λq t0 pp ys l ws Fl W k H6 s6 hq b9 R X d6 f9 f5 hW b6=>?_,λH6 s6 ho=>ke H6 ((s4.trans s5).trans s6) ho⟩;have c1:=s5.trans s6;have f1:=s4.trans c1;have c4:=c1 _ _ a8;have c6:∀c,c∈l↔Cnt tss row c:=λc=>X.mem_iff.trans (hW.least (λr' a1=>(Y.hR r' a1).1) c);have f2:l.length<=most:=by rw[X.length_eq];have:=hW.lv;omega
  have b5:∀c∈l,c.sum<=(most:Int)+1:=λc hc=>by
   obtain⟨i1,i2,i3,i4,i5,i6,i7,i8⟩:=hW.lv;obtain⟨i,q1,q2,lv⟩:=i2 c (i3 c (X.mem_iff.mp hc)).1;rw[lv.sum];omega
  have b0:∀v∈tss,v.length=row.length:=λv D=>(hT v D).1;refine⟨q,_,0,_,rfl,rfl,SqT.of hq,rfl,t0,rfl,⟨_,SqT.of b9⟩,?_⟩;refine a5a (K:=K) (a:=t0) (xs:=ys) (λi σ H'=>Ex3 λ(o5:Option V) (kvs:List (List Key×V)) (g:LLI)=>An9 (σ=[some (.ref t),some (.ref r),some (.int most),some (.ref pt),some (.ref d),o5,none]) (Same H H') (Tk H6 H') (H' d=some (.dT kvs)) (kvs.map (·.1)=IK g) (g.Nodup) (g.length<=i) ((∀v,v∈g↔∃c∈l.take i,tgl row.length tss c=v)) (∀v∈g,∃y,E7 kvs (v.map Sum.inl)=some y/\IT H6 y (fir row.length tss (l.take i) v)))
   ⟨none,[],[],rfl,f1,λ_ _ e=>e,c4,rfl,fh,aq _,by simp,(λ_ z=>nomatch z)⟩ (λi σ H' _ h=>by obtain⟨_,_,_,_,_,tk,_⟩:=h;exact SqT.of (tk _ _ b9)) ?_ ?_
  .rintro i x σ H7 hx ⟨o5,kvs,g,rfl,s7,tk7,ed7,hk,hnd,hml7,hmem,hfir⟩;obtain⟨c,b1,c7,b2⟩:=R.mem hx;obtain⟨xa,rfl,a2⟩:=id b2;have f7:i<ys.length:=(aC.mp hx).1;have g0:=R.1;have b4:=((c6 c).mp b1).an;have Z:l.take (i+1)=l.take i++[c]:=by rw[bB,c7];rfl
   have f8:kvs.length=g.length:=by rw[<-b7v g,<-hk,aj]
   try dsimp only[B0,List.set]
   refine⟨_,rfl,d,rfl,.inr ⟨kvs,.inl ed7⟩,_,rfl,_,rfl,_,rfl,r,_,rfl,.inr (SqT.of (s7 _ _ hrw)),t,xa,zs,tss,c,row.length,by rw[aj];rfl,s7 _ _ ht,hI.same s7,tk7 _ _ a2,r1,by omega,b0,λy hy=>?_,λv8 H8 s8 e0=>?_⟩
   .have h1:=b4.nn y hy;have h2:=b2s b4.nn y hy;have:=b5 c b1;omega
   obtain⟨va,rfl,e1⟩:=e0;have C:=s8 _ _ ed7;have c2:=s7.trans s8;have a6:=tk7.trans (Tk.same s8);refine⟨_,rfl,kvs,(tgl row.length tss c).map Sum.inl,va,C,rfl,by rw[a8I];exact e1,by omega,λv' d7=>?_,λhn=>?_⟩
   .have hin:tgl row.length tss c∈g:=mem_IK.mp (by rw[<-hk];exact a7Y d7);refine⟨_,kvs,g,rfl,c2,a6,C,hk,hnd,by omega,λv=>?_,λv D=>by rw[Z,a8Y c ((hmem v).mp D)];exact hfir v D⟩;rw[hmem v,Z];constructor
    .rintro⟨c',h1,h2⟩;exact⟨c',aT _ h1,h2⟩
    .rintro⟨c',h1,rfl⟩;rcases aK.mp h1 with z|z
     .exact⟨c',z,rfl⟩
     .rw[aB.mp z];exact(hmem _).mp hin
   .have hni:tgl row.length tss c∉g:=λz=>a5x hn (by rw[hk];exact mem_IK.mpr z);refine⟨_,_,g++[tgl row.length tss c],rfl,λb o e=>by rw[A1 (A5 e c8)];exact c2 b o e,λb xs e=>by rw[A1 (I0 (a6 _ _ e) C (λz=>nomatch z))];exact a6 _ _ e,A0,by rw[a5X _ hn,cy,hk];unfold IK;rw[cy];rfl,a4Q hnd hni,by rw[az];show _+1<=_;omega,λv=>?_,λv D=>?_⟩
    rotate_left
    .rw[Z,b0Q];by_cases ev:v=tgl row.length tss c
     .rw[ay (by rw[ev]),b5h (λz=>hni (by rw[<-ev];exact(hmem v).mpr z)) ev.symm];exact⟨_,rfl,b2⟩
     .have D:v∈g:=by
       rcases aK.mp D with z|z
       .exact z
       .exact absurd (aB.mp z) ev
      rw[ar (λz=>ev (a4Y z)),a8Y c ((hmem v).mp D)];exact hfir v D
    rw[aK,hmem v,Z,aB];constructor
    .rintro(⟨c',h1,h2⟩|rfl)
     .exact⟨c',aT _ h1,h2⟩
     .exact⟨c,by simp,rfl⟩
    .rintro⟨c',h1,rfl⟩;rcases aK.mp h1 with z|z
     .exact .inl ⟨c',z,rfl⟩
     .rw[aB.mp z];exact .inr rfl
  .rintro σ H7 ⟨o5,kvs,g,rfl,s7,tk7,ed7,hk,hnd,hml7,hmem,hfir⟩;rw[R.1,bJ]at hmem hfir;rw[R.1]at hml7;have d0:∀v∈g,v.length=row.length:=λv D=>by
    obtain⟨c,_,rfl⟩:=(hmem v).mp D;exact a0w b0 c
   refine⟨_,rfl,d,kvs,g,rfl,ed7,hk,λp8 ms d3 F=>?_⟩;have L:=(Same.refl H7).upd (o:=.tup ms) d3;have e8:upd H7 p8 (.tup ms) p8=some (.tup ms):=A0;have s8:=s7.trans L;have F:=F.same L;have C:=L _ _ ed7;generalize upd H7 p8 (.tup ms)=H8 at s8 L e8 F C;refine⟨p8,ms,g,row.length,rfl,e8,F,by rw[F.1];omega,r1,by omega,d0,λp9 fs M H9 a5 S e9 U=>?_⟩;have s9:=s8.trans a5;have c5:=a5 _ _ C
   try dsimp only[B0,List.set]
   have a9:NarC tss row most l (M.filter λv=>Lst g v):=⟨d6,⟨Fl,W,k,X,hW,b6⟩,g,M,hnd,hmem,S,rfl⟩;have f6:fs.length<=most:=by
    rw[U.1];have:=Tab.nodup_le M g S.nd λr hr=>(S.mem r).mp hr;have:=bA (λv=>Lst g v) M;omega
   refine⟨_,rfl,_,rfl,p9,rfl,⟨_,SqT.of e9⟩,?_⟩;refine a0P (K:=K) (a:=p9) (xs:=fs) (by omega) (λi zs H'=>Same H9 H'/\zs.length<=i/\Its H' zs (((M.filter λv=>Lst g v).take i).map (fir row.length tss l))) ⟨Same.refl _,aq _,.nil⟩ (λi zs H' _ h=>⟨SqT.of (h.1 _ _ e9),h.2.1⟩) ?_ ?_
   .rintro i x zs' H10 hx ⟨s10,hzl',hIz⟩;obtain⟨v,d8,d9,xa,rfl,a2⟩:=U.mem hx;have e5:v∈g:=(S.mem v).mp (aN.mp d8).1;obtain⟨y,hy,e6⟩:=hfir v e5;refine⟨Sub.one,?_⟩;refine⟨_,rfl,_,rfl,d,y,rfl,?_,s10,by simp;omega,?_⟩
    .have:=DGet.t (k:=v.map Sum.inl) (s10 _ _ c5) (b:=xa) (by rw[a8I];exact s10 _ _ a2);rw[hy]at this;exact this
    .rw[bB,d9,cy];exact hIz.snoc ((((tk7.trans (Tk.same L)).trans (Tk.same a5)).trans (Tk.same s10)).it e6)
   .rintro zs' H10 ⟨s10,hzl',hIz⟩ p10 hp10;rw[U.1,bJ]at hIz;refine⟨p10,_,rfl,.inl ⟨SqL.of A0,λG b7=>?_⟩⟩;have I:=((Same.refl H10).upd (o:=.lst zs') hp10).upd (o:=.tup zs') b7;have c0:=s10.trans I;have a7:upd (upd H10 p10 (.lst zs')) G (.tup zs') G=some (.tup zs'):=A0;generalize upd (upd H10 p10 (.lst zs')) G (.tup zs')=c3 at c0 I a7;refine⟨by show 2<=sizeLine;omega,λf0 b8=>?_⟩;have J:=(Same.refl c3).upd (o:=.tup [.ref p9,.ref G]) b8;have a3:=c0.trans J;exact kq f0 p9 G fs _ _ _ _ (s9.trans a3) A0 (a3 _ _ e9) (U.same a3) (J _ _ a7) ((hIz.same I).same J) a9
end
end K35
namespace L2
open PySem PySem.Spec PyProof.Rows PySem.W
def a7y:V->Bool
 |.non=>true
 |_=>false
def a3U:Value->Bool
 |.none=>true
 |_=>false
def b8l(K:PySem.W.Frag):R2:=λx y H Q=>∃(p:Addr) (xs:List V),x=.non/\y=.ref p/\SqL K H p xs/\(∀v∈xs,v=.non∨∃a vs,v=.ref a/\H a=some (.tup vs))/\Q (.bl (xs.any a7y)) H
section
variable {X:Cx}
theorem b6Y(K:PySem.W.Frag)(f:X.A.units+60<cLine)(m:X.K=K:=by rfl):OpR X (compareOp .In) (b8l K):=by
 subst m;intro pins s σ H x y v u Q I C D h;obtain⟨p,xs,rfl,rfl,o,t,q⟩:=h;cases C;cases D;obtain⟨its,r,B,F⟩:=I.list o;have E:=r.length;have key:∀(i:Nat) (hi:i<its.length),SeqAt.EqAt X.A.in1 s its[i] .none (a3U its[i])/\∃b:i<xs.length,a3U its[i]=a7y xs[i]:=λi hi=>by
  have z:xs[i]?=some (xs[i]'(by omega)):=ai (by omega);obtain⟨G,k,d⟩:=r.get z;rw[ai hi]at k;cases k;rcases t _ (cM (by omega:i<xs.length))with e|⟨a,vs,e,j⟩
  .rw[e]at d;have c:its[i]=.none:=d;refine⟨?_,by omega,by rw[e,c];rfl⟩;rw[c];have:=(EqV.flat (K:=X.K) (H:=H) (n:=0) (x:=.non) (y:=.non) rfl rfl).at I (A:=X.A.in1) (u:=.none) (v:=.none) (by have:X.A.in1.units=X.A.units+1:=rfl;omega) rfl rfl;rw[a6z rfl]at this;exact this
  .rw[e]at d;have c:its[i]=.ref a:=d;obtain⟨l,_,pt,_⟩:=I.tuple (SqT.of (K:=X.K) j);refine⟨?_,by omega,by rw[e,c];rfl⟩;rw[c];exact SeqAt.EqAt.tuple_none pt (by have:X.A.in1.units=X.A.units+1:=rfl;omega)
 have j:its.any a3U=xs.any a7y:=by
  rw[cS,bV,bV];constructor
  .rintro⟨u,f,e⟩;obtain⟨i,hi,rfl⟩:=bu.mp f;obtain⟨_,b,g⟩:=key i hi;exact⟨_,cM b,by rw[<-g];exact e⟩
  .rintro⟨u,f,e⟩;obtain⟨i,hi,rfl⟩:=bu.mp f;obtain⟨_,b,g⟩:=key i (by omega);exact⟨its[i]'(by omega),cM _,by rw[g];exact e⟩
 refine SeqAt.in_listAt a3U B.isList (λw hw=>?_) ⟨.bl _,H,I,rfl,?_⟩
 .obtain⟨i,hi,rfl⟩:=bu.mp (show w∈its by simpa using hw);exact(key i hi).1
 .rw[show its.toArray.any a3U=its.any a3U by simp,j];exact q
variable {a b:Expr}{ta tb:TE}{pos:Pos}
theorem b7l(K:PySem.W.Frag)(g:X.A.units+60<cLine)(d:JE X a ta)(e:JE X b tb)(f:behindInMarks .In b=false)(c:X.K=K:=by rfl):JT X (.Compare a [.In] [b] pos) (V3 (tOp (b8l K) ta tb)):=⟨M0 (b6Y K g c) d.h e.h f⟩
end
end L2
namespace K35
open PySem PySem.Spec PyProof.Rows L2
theorem a0N{n:Nat}(v:List Int):v∈K9 (fre n)↔Least [] (fre n) v:=by
 have c:(fre n).length=n:=B1 n;have a:∀j,j<n->Answer [] (fre n).length (D4 n j):=λj b=>⟨by rw[c,C2],a5z n j,rfl,by rw[a0Y n j b];decide⟩;constructor
 .intro h;obtain⟨h1,_⟩:=aN.mp h;obtain⟨j,b,rfl⟩:=aP.mp h1;rw[c]at b⊢;have b:=aR.mp b;refine⟨a j b,a2h _ _,λu g f=>f.eq ?_⟩;rw[a0Y n j b];have:=g.pos;omega
 .intro h;obtain⟨j,h1,h2⟩:=a4L h.an.nn h.an.pos;have d:j<n:=by have:=h.an.len;rw[c]at this;omega
  have f:Under (D4 n j) v:=⟨by rw[C2,h.an.len,c],λi hi=>by
   rw[h.an.len,c]at hi;rw[D8 _ _ _ hi];by_cases e:i=j
   .rw[ay e,e];exact h2
   .rw[ar e];exact a6d h.an.nn i⟩
  rw[<-h.min _ (a j d) f];exact aN.mpr ⟨aP.mpr ⟨j,aR.mpr (by rw[c];exact d),by rw[c]⟩,a2h _ _⟩
theorem a5l{xs:List V}{v:V}(h:xs[xs.length-1]?=some v):atI xs (-1)=some v:=by
 have a:0<xs.length:=by
  have:=(aC.mp h).1;omega
 unfold atI ixN;rw[ar (by decide),ay (by omega),Option.bind_some,show((-1:Int)+(xs.length:Int)).toNat=xs.length-1 by omega];exact h
theorem NarC.toR{tss:LLI}{row:List Int}{most:Nat}{b m:LLI}(w:∀v∈tss,v.length=row.length)(h:NarC tss row most b m):NarR tss row most m:=by
 obtain⟨F,W,k,j,x,B⟩:=h.wk;obtain⟨s,t,D,a,S,rfl⟩:=h.ex;have hR:∀C∈[tss.map (dot row)],C.length=(fre tss.length).length:=λC y=>by rw[aB.mp y,B1,aj]
 have f:∀c,c∈b↔Cnt tss row c:=λc=>j.mem_iff.trans (x.least hR c);have A:b.length<=most:=by rw[j.length_eq];have:=x.lv;omega
 have n:∀c∈b,c.sum<=(most:Int)+1:=λc l=>by
  obtain⟨I,G,H,J,K,L,M,N⟩:=x.lv;obtain⟨i,q1,O,lv⟩:=G c (H c (j.mem_iff.mp l)).1;rw[lv.sum];omega
 have g:∀v∈s,v.length=row.length:=λv p=>by
  obtain⟨c,_,rfl⟩:=(a v).mp p;exact a0w w c
 have d:∀v,v∈s↔∃c,Cnt tss row c/\tgl row.length tss c=v:=λv=>(a v).trans ⟨λ⟨c,h1,h2⟩=>⟨c,(f c).mp h1,h2⟩,λ⟨c,h1,h2⟩=>⟨c,(f c).mpr h1,h2⟩⟩;have z:t.length<=most:=by
  have h1:=Tab.nodup_le t (b.map (tgl row.length tss)) S.nd λr E=>by
   obtain⟨c,l,e⟩:=(a r).mp ((S.mem r).mp E);exact aP.mpr ⟨c,l,e⟩
  rw[aj]at h1;omega
 refine⟨?_,S.nd.sublist dU,bf (bA _ _) z,λv=>?_,λv p=>?_⟩
 .exact List.Pairwise.sublist dU S.ri
 .rw[aN,S.mem v,d v];refine and_congr_right λp=>?_;have q:=g v ((d v).mpr p);unfold Lst;rw[fq,List.any_eq_false];constructor
  .intro h u hu hU;have o:=(d u).mpr hu;have:=h u o;rw[(J0 (by rw[g u o,q])).mpr hU,Bool.and_true]at this;simpa using this
  .intro h u hu hb;rw[aQ]at hb;have:=h u ((d u).mp hu) ((J0 (by rw[g u hu,q])).mp hb.2);rw[this]at hb;simp at hb
 .obtain⟨c,l,e⟩:=(a v).mp ((S.mem v).mp (aN.mp p).1);exact⟨c,(f c).mp l,e,n c l⟩
structure StO(n:Nat)(rss tss:LLI):Prop where
 ri:D0 tss
 nd:tss.Nodup
 mem:∀v,v∈tss↔Least rss (fre n) v
theorem StO.eq{n:Nat}{rss a b:LLI}(h:StO n rss a)(g:StO n rss b):a=b:=a0E h.ri g.ri h.nd g.nd λv=>(h.mem v).trans (g.mem v).symm
def OvB(n most:Nat)(rss:LLI):Prop:=∃i row tss,rss[i]?=some row/\StO n (rss.take i) tss/\a3z [tss.map (dot row)] (fre tss.length) most
def NoB(n most i:Nat)(rss:LLI):Prop:=∀j row tss,j<i->rss[j]?=some row->StO n (rss.take j) tss->¬a3z [tss.map (dot row)] (fre tss.length) most
theorem NoB.all{n most:Nat}{rss:LLI}(h:NoB n most rss.length rss):¬OvB n most rss:=λ⟨i,row,tss,h1,h2,a⟩=>h i row tss (aC.mp h1).1 h1 h2 a
theorem NoB.next{n most i:Nat}{rss tss:LLI}{row:List Int}(h:NoB n most i rss)(d:rss[i]?=some row)(S:StO n (rss.take i) tss)(c:¬a3z [tss.map (dot row)] (fre tss.length) most):NoB n most (i+1) rss:=λj a b f h1 h2=>by
 by_cases e:j=i
 .subst e;rw[d]at h1;cases h1;rw[h2.eq S];exact c
 .exact h j a b (by omega) h1 h2
structure Stg(H:Hp)(n:Nat)(rss:LLI)(B:Int)(x:V)(tss:LLI):Prop where
 ex:∃(a:Addr) (zs:List V),x=.ref a/\H a=some (.tup zs)/\Its H zs tss
 ri:D0 tss
 nd:tss.Nodup
 len:tss.length<=100
 bd:∀v∈tss,∀y∈v,y<=B
 mem:∀v,v∈tss↔Least rss (fre n) v
theorem Stg.o{H:Hp}{n:Nat}{rss:LLI}{B:Int}{x:V}{tss:LLI}(h:Stg H n rss B x tss):StO n rss tss:=⟨h.ri,h.nd,h.mem⟩
theorem Stg.tk{H H':Hp}{n:Nat}{rss:LLI}{B:Int}{x:V}{tss:LLI}(h:Stg H n rss B x tss)(k:Tk H H'):Stg H' n rss B x tss:=let ⟨a,zs,e1,e2,e3⟩:=h.ex;⟨⟨a,zs,e1,k _ _ e2,k.its e3⟩,h.ri,h.nd,h.len,h.bd,h.mem⟩
theorem a3i{R B:Int}(hR:0<=R)(c:0<=B):∀(r v:List Int),(∀z∈r,-R<=z/\z<=R)->(∀y∈v,0<=y/\y<=B) -> -(R*B*(v.length:Int))<=dot r v/\dot r v<=R*B*(v.length:Int)
 |[],v,_,_=>by
  have:=dP (dP hR c) (Int.natCast_nonneg v.length);simp only[dot,List.zipWith_nil_left,List.sum_nil];omega
 |z::r,[],_,_=>by simp[dot]
 |z::r,y::v,d,e=>by
  have h1:=a3i hR c r v (λq a=>d q (ak _ a)) (λq a=>e q (ak _ a));have f:=d z au;have b:=e y au;have h:z*y<=R*y:=cx f.2 b.1;have g : -R*y<=z*y:=cx f.1 b.1;have i:R*y<=R*B:=cm b.2 hR;rw[Int.neg_mul]at g;rw[B9,aU,Int.natCast_succ,fD,Int.mul_one];omega
theorem b2t{tss:LLI}{c:List Int}{n:Nat}{B M:Int}(g:∀t∈tss,t.length=n/\∀x∈t,0<=x/\x<=B)(f:0<=B)(h:c.length=tss.length)(a:∀x∈c,0<=x)(hs:c.sum<=M):∀y∈tgl n tss c,y<=B*M:=λy l=>by
 obtain⟨j,i,rfl⟩:=bu.mp l;have e:=a3p j tss c (List.replicate n 0) bh λt d=>(g t d).1;rw[ao,ai i,a7O,dQ]at e;have e:(tgl n tss c)[j]=dot (tss.map λt=>t.getD j 0) c:=e;rw[e];have h1:=a9c (B:=B) (tss.map λt=>t.getD j 0) c (λx k=>by
  obtain⟨t,d,rfl⟩:=aP.mp k;by_cases b:j<t.length
  .exact((g t d).2 _ (b7y b)).2
  .rw[ao,bG (by omega)];exact f) a (by rw[aj,h])
 have h2:=cm hs f;omega
section
variable {P:Program}{w:World}{K:PySem.W.Frag}{mg:Str->Option Value}{base:Heap}
def bnd(most i:Nat):Int:=((most+1:Nat):Int) ^ i
theorem a0R(most i:Nat):bnd most (i+1)=bnd most i*((most:Int)+1):=by unfold bnd;rw[Int.pow_succ];rfl
theorem a2e(most i:Nat):1<=bnd most i:=by
 induction i with
 |zero=>show(1:Int)<=_ ^ 0;rw[Int.pow_zero];exact ek _
 |succ i a =>
  rw[a0R];have:=cm (show(1:Int)<=(most:Int)+1 by omega) (show 0<=bnd most i by omega);omega
theorem a6J{most i j:Nat}(h:i<=j):bnd most i<=bnd most j:=by
 induction h with
 |refl=>exact ek _
 |step _ a =>
  rw[a0R];have:=a2e most ‹_›;have:=cm (show(1:Int)<=(most:Int)+1 by omega) (show 0<=bnd most ‹_› by omega);omega
inductive IspByRows(D:Addr)(vs:List V)(H:Hp)(Q:VK)(E:XK):Prop
 |mk (ra:Addr) (us:List V) (rss:LLI) (n most:Nat) (wi mi R:Int) (_:vs=[.ref ra,.int wi,.int mi]) (_:wi=n) (_:mi=most) (_:H ra=some (.tup us)) (_:Its H us rss) (_:us.length<=1000) (_:1<=n) (_:n<=100) (_:most<=100) (_:1<=R) (_:(∀r∈rss,r.length=n/\∀z∈r,-R<=z/\z<=R)) (_:R*bnd most rss.length*(n:Int)<2 ^ 190) (_:bnd most rss.length<2 ^ 60) (_:(∀q ss H',Same H H'->H' q=some (.tup ss)->ss.length=rss.length+1->(∀i x,ss[i]?=some x->∃tss,Stg H' n (rss.take i) (bnd most i) x tss)->¬OvB n most rss->Q (.ref q) H')) (_:∀H',Same H H'->OvB n most rss->E (.ref D) none H'):IspByRows D vs H Q E
def a2n(D:Addr):Sp:=λvs H Q E=>IspByRows D vs H Q E
theorem sc_by_rows:FnScope ["rows","width","most","stages","row"] ["rows","width","most"] (A2 Y7):=⟨rfl,rfl,rfl,by decide +kernel,rfl,by decide +kernel,by decide +kernel⟩
theorem a7r{d:Addr}(F':FunAt K mg "by_rows" Y7 ["rows","width","most"])(T:Tx mg)(G:Ok P w K mg base "free" 1 ["width"] a7c)(k:Ok P w K mg base "first_steps" 2 ["caps"] a4y)(p:OkE P w K mg base "narrowed" 8 ["told","row","most"] (a2m d)):OkE P w K mg base "by_rows" 9 ["rows","width","most"] (a2n d):=by
 refine F'.okE sc_by_rows (λvs H Q E h=>?_) (λc0 f A b9 s H vs Q E U h=>?_)
 .obtain⟨ra,us,rss,n,most,wi,mi,R,rfl,_⟩:=h;rfl
 .obtain⟨ra,us,rss,n,most,_,_,R,rfl,rfl,rfl,hra,hI,hul,n1,n2,hmo,hR0,hR,hbig,hbig2,kq,ke⟩:=h;have hu:=U.u60;have hz:(30000:Nat)<=sizeLine:=by rw[ba];decide
  refine⟨_,(A3 (B3 (i:=3) sc_by_rows.nd rfl (Or.inl rfl) (a0I (jaC (A8 k (U.mono (by omega)) rfl (jaC (A8 G (U.mono (by omega)) rfl (jaC (jv 1) jaN)) jaN)) jaN)))
 (A3 (J7 (T5 K (jv 0)) (A7 (i:=4) sc_by_rows.nd rfl (Or.inl rfl))
 (A4 (O8 (Z3 K (jv 3) (jaC (a0h K (a8R p (U.mono (by omega)) rfl (jaC (P0 K (jv 3) (a8P A6)) (jaC (jv 4) (jaC (jv 2) jaN)))) A6) jaN)))) (hp:=PassesOwn.leaving))
 (A4 (A9 (C0 K rfl T.b_tuple (jaC (jv 3) jaN)))))),?_⟩
  refine⟨_,rfl,_,rfl,by omega,by omega,λca H1 s1 X=>?_⟩;rw[br]at X;refine⟨ca,fre n,rfl,X,bq _,by rw[B1];exact n2,λp2 zs tss H2 s2 e2 a3 I b4=>?_⟩;have Z:=s1.trans s2;refine⟨by show 1<=sizeLine;omega,λl hl=>?_⟩;have b1:H l=none:=Z.free hl;have O:=(Same.refl H2).upd (o:=.lst [.ref p2]) hl;have s3:=Z.trans O;have e3:upd H2 l (.lst [.ref p2]) l=some (.lst [.ref p2]):=A0;have S0:Stg (upd H2 l (.lst [.ref p2])) n (rss.take 0) (bnd most 0) (.ref p2) tss:=⟨⟨p2,zs,rfl,O _ _ e2,a3.same O⟩,b4,I.symm.nodup (a1j _),by
   rw[I.length_eq];have:(K9 (fre n)).length<=(fre n).length:=bf (bA _ _) (by simp);rw[B1]at this;omega,λv C y F=>by
   obtain⟨j,_,rfl⟩:=aP.mp (aN.mp (I.mem_iff.mp C)).1;unfold D4 at F;obtain⟨i,_,rfl⟩:=aP.mp F;show _<=((most+1:Nat):Int) ^ 0;rw[Int.pow_zero];split<;>omega,λv=>I.mem_iff.trans (a0N v)⟩
  generalize upd H2 l (.lst [.ref p2])=H3 at s3 e3 S0
  try dsimp only[B0,List.set]
  refine⟨_,rfl,ra,rfl,⟨_,SqT.of (s3 _ _ hra)⟩,?_⟩;refine a5a (K:=K) (a:=ra) (xs:=us) (λi σ H'=>Ex2 λ(o4:Option V) (B:List V)=>An6 (σ=[some (.ref ra),some (.int n),some (.int most),some (.ref l),o4]) (Same H H') (H' l=some (.lst B)) (B.length=i+1) (NoB n most i rss) (∀j x,B[j]?=some x->∃tss,Stg H' n (rss.take j) (bnd most j) x tss))
   ⟨none,[.ref p2],rfl,s3,e3,rfl,(λ_ _ _ z=>by omega),λj x t=>by
    match j,t with
    |0,t=>cases t;exact⟨tss,S0⟩
    |j+1,t=>exact nomatch t⟩ (λi σ H' _ h=>by obtain⟨_,_,_,s',_⟩:=h;exact SqT.of (s' _ _ hra)) ?_ ?_
  .rintro i x σ H4 t ⟨o4,B,rfl,s4,e4,hsl,hNo,hst⟩;obtain⟨row,b3,J,xa,rfl,b7⟩:=hI.mem t;have c6:i<rss.length:=(aC.mp J).1;obtain⟨y,F⟩:∃y,B[B.length-1]?=some y:=⟨_,ai (by omega)⟩;have b8:B[i]?=some y:=by rw[show i=B.length-1 by omega];exact F
   obtain⟨m,M⟩:=hst i y b8;obtain⟨ya,ws,rfl,a1,W⟩:=M.ex
   try dsimp only[B0,List.set]
   have u:=hR row b3;have D:∀v∈m,v.length=n/\∀y∈v,0<=y/\y<=bnd most i:=λv C=>by
    have:=((M.mem v).mp C).an;exact⟨by have h:=this.len;rwa[B1]at h,λy F=>⟨this.nn y F,M.bd v C y F⟩⟩
   have c3:=a2e most i;have a7:bnd most i<=bnd most rss.length:=a6J (by omega);have c4:R*bnd most i*(n:Int)<2 ^ 190:=by
    have h1:=cm a7 (show 0<=R by omega);have h2:=cx h1 (Int.natCast_nonneg n);omega
   have c5:bnd most i<2 ^ 60:=by omega
   have b5:Sb (m.map (dot row)):=λz hz=>by
    obtain⟨v,C,rfl⟩:=aP.mp hz;have h:=a3i (by omega) (show 0<=bnd most i by omega) row v u.2 (D v C).2;rw[(D v C).1]at h;omega
   refine⟨_,rfl,.inl ⟨rfl,_,SqL.of e4⟩,?_⟩;refine⟨_,rfl,_,rfl,l,_,_,_,rfl,rfl,SqL.of e4,a5l F,_,rfl,_,rfl,ya,xa,ws,m,row,most,_,rfl,rfl,a1,W,s4 _ _ b7,by rw[u.1];exact n1,by rw[u.1];exact n2,by rw[W.1];exact M.len,by omega,λv C=>⟨by rw[(D v C).1,u.1],λy F=>by have:=(D v C).2 y F;omega⟩,b5,λq f g fs a2 gs c1 H5 L hq hf a4 hg c2 N=>?_,λH5 L ho=>ke H5 (s4.trans L) ⟨i,row,m,J,M.o,ho⟩⟩;have b2:¬a3z [m.map (dot row)] (fre m.length) most:=by
    obtain⟨F9,W9,k9,_,a6,c7⟩:=N.wk;exact a3M a6 (by omega)
   have N:=N.toR λv C=>by rw[(D v C).1,u.1]
   refine⟨q,_,0,_,rfl,rfl,SqT.of hq,rfl,?_⟩;have e5:=L _ _ e4;refine⟨l,_,_,rfl,rfl,e5,by have:=hI.1;omega,?_⟩;have S:Tk H5 (upd H5 l (.lst (B++[.ref f]))):=Tk.put e5;refine⟨_,B++[.ref f],rfl,λb o e=>by rw[A1 (A5 e b1)];exact(s4.trans L) b o e,A0,by simp[hsl],hNo.next J M.o b2,λj x t=>?_⟩;rw[List.getElem?_append]at t;by_cases hj:j<B.length
   .rw[ay hj]at t;obtain⟨t',S'⟩:=hst j x t;exact⟨t',(S'.tk (Tk.same L)).tk S⟩
   .rw[ar hj]at t;have a9:j-B.length=0:=by
     have:=(aC.mp t).1;simp at this;omega
    rw[a9]at t;cases t;have b0:j=i+1:=by omega
    subst b0;have b6:rss.take (i+1)=rss.take i++[row]:=by rw[bB,J];rfl
    have a5:∀r∈rss.take i,r.length=n:=λr U=>(hR r (bP U)).1;have Y:=a3N a5 u.1 M.mem N;refine⟨a2,⟨f,fs,rfl,S _ _ hf,S.its a4⟩,N.ri,N.nd,by have:=N.len;omega,λv C y F=>?_,λv=>by rw[b6];exact Y v⟩;obtain⟨c,hc,rfl,a8⟩:=N.bd v C;rw[a0R];rw[u.1]at F;exact b2t D (by omega) (by have:=hc.an.len;rwa[B1]at this) hc.an.nn a8 y F
  .rintro σ H4 ⟨o4,B,rfl,s4,e4,hsl,hNo,hst⟩;refine⟨_,rfl,l,_,rfl,.inl ⟨SqL.of e4,λq hq=>?_⟩⟩;have L:=(Same.refl H4).upd (o:=.tup B) hq;rw[hI.1]at hNo;refine kq q B _ (s4.trans L) A0 (by rw[hsl,hI.1]) (λi x t=>?_) hNo.all;obtain⟨a0,S'⟩:=hst i x t;exact⟨a0,S'.tk (Tk.same L)⟩
end
def Bd(B:Int)(r:List Int):Prop:=∀z∈r,-B<=z/\z<=B
section
variable {P:Program}{w:World}{K:PySem.W.Frag}{mg:Str->Option Value}{base:Heap}
inductive IspNumber(vs:List V)(H:Hp)(Q:VK)(E:XK):Prop
 |mk (a b:Addr) (n:Nat) (far:Int) (_:vs=[.ref a,.int far]) (_:0<=far) (_:far<=1000000000000) (_:PotAt H a b n) (_:n+10<2 ^ 60) (_:∀r H',-(far+3)<=r->r<=far+3->PotAt H' a b (n+3)->Off [a,b] H H'->Q (.int r) H'):IspNumber  vs H Q E
def a5M:Sp:=λvs H Q E=>IspNumber  vs H Q E
theorem a2p:FnScope ["_law_pot_here","_law_far"] ["_law_pot_here","_law_far"] (A2 K4):=⟨rfl,rfl,rfl,by decide +kernel,rfl,by decide +kernel,by decide +kernel⟩
theorem a9V(F:FunAt K mg "_law_number" K4 ["_law_pot_here","_law_far"])(T:Tx mg)(c:Ok P w K mg base "_law_take" 1 ["_law_pot_here","_law_many"] a4u):Ok P w K mg base "_law_number" 2 ["_law_pot_here","_law_far"] a5M:=by
 refine F.okJ a2p (λvs H Q E h=>?_) (λp f A m s H vs Q E l h=>?_)
 .obtain⟨a,b,n,far,rfl,_⟩:=h;rfl
 .obtain⟨a,b,n,far,rfl,hf0,hf1,hP,hn,k⟩:=h;refine⟨_,(A3 (G0 (a3v (a1h (a8L (jv 1) A6) (Z0 (a2M (A8 c (l.mono (by omega)) rfl (jaC (jv 0) (jaC A6 jaN))) A6))))
 (A4 (A9 (a3S (A8 c (l.mono (by omega)) rfl (jaC (jv 0) (jaC (U7 (a2O A6 (jv 1)) A6) jaN))) (jv 1))))
 C6)
 (A4 (A9 (a3S (A8 c (l.mono (by omega)) rfl (jaC (jv 0) (jaC A6 jaN))) A6)))),?_⟩
  refine⟨_,rfl,_,_,rfl,rfl,_,rfl,a1I (λe=>?_) (λe=>?_)⟩
  .have e':0<far:=bK e;refine⟨_,rfl,a,b,_,4,rfl,hP,by omega,by decide,by decide,λy H1 t u j i=>?_⟩;refine⟨rfl,_,rfl,a1I (λe=>?_) (λe=>⟨_,rfl,a,b,_,7,rfl,j,by omega,by decide,by decide,λr H2 q h1 g d=>⟨_,_,rfl,rfl,k _ _ (by show _<=r-3;omega) (by show r-3<=_;omega) (g.mono (by omega)) (i.trans d)⟩⟩)⟩;refine⟨_,rfl,_,rfl,_,_,rfl,rfl,.inl ⟨by omega,by omega⟩,_,_,rfl,rfl,a,b,_,_,rfl,j,by omega,by omega,by omega,λo H2 v x g d=>?_⟩;exact⟨_,rfl,_,_,rfl,rfl,k _ _ (by show _<=o-far;omega) (by show o-far<=_;omega) (g.mono (by omega)) (i.trans d)⟩
  .exact G7 (⟨_,rfl,a,b,_,7,rfl,hP,by omega,by decide,by decide,λr H2 q h1 g d=>⟨_,_,rfl,rfl,k _ _ (by show _<=r-3;omega) (by show r-3<=_;omega) (g.mono (by omega)) ((Off.refl _ _).trans d)⟩⟩)
inductive IspSys(vs:List V)(H:Hp)(Q:VK)(E:XK):Prop
 |mk (a b:Addr) (n:Nat) (wide far:Int) (_:vs=[.ref a,.int wide,.int far]) (_:1<=wide) (_:wide<=8) (_:0<=far) (_:far<=1000000000000) (_:PotAt H a b n) (_:n+1000<2 ^ 60) (_:∀q qr us rss (m:Nat) H',H' q=some (.tup [.ref qr,.int m])->H' qr=some (.tup us)->Its H' us rss->us.length<=6->(∀r∈rss,r.length=m/\Bd (far+3) r)->1<=m->m<=8->(m:Int)<=max 4 wide->PotAt H' a b (n+200)->Off [a,b] H H'->Q (.ref q) H'):IspSys  vs H Q E
def b5C:Sp:=λvs H Q E=>IspSys  vs H Q E
theorem sc__law_system:FnScope ["_law_pot_here","_law_wide","_law_far","_law_width","_law_many","_law_great","_law_rows","_law_k"] ["_law_pot_here","_law_wide","_law_far"] (A2 K3):=⟨rfl,rfl,rfl,by decide +kernel,rfl,by decide +kernel,by decide +kernel⟩
theorem b7a(F:FunAt K mg "_law_system" K3 ["_law_pot_here","_law_wide","_law_far"])(T:Tx mg)(d:Ok P w K mg base "_law_take" 1 ["_law_pot_here","_law_many"] a4u)(p:Ok P w K mg base "_law_number" 2 ["_law_pot_here","_law_far"] a5M):Ok P w K mg base "_law_system" 3 ["_law_pot_here","_law_wide","_law_far"] b5C:=by
 refine F.okJ sc__law_system (λvs H Q E h=>?_) (λf7 f A f5 s H vs Q E S h=>?_)
 .obtain⟨a,b,n,wide,far,rfl,_⟩:=h;rfl
 .obtain⟨a,b,n,wide,far,rfl,hw1,hw8,hf0,hf1,hP,hn,k⟩:=h;have hz:(3000:Nat)<=sizeLine:=by rw[ba];decide
  refine⟨_,(A3 (B3 (i:=3) sc__law_system.nd rfl (Or.inl rfl) (U7 A6 (A8 d (S.mono (by omega)) rfl (jaC (jv 0) (jaC A6 jaN)))))
 (A3 (G0 (a2M (A8 d (S.mono (by omega)) rfl (jaC (jv 0) (jaC A6 jaN))) A6)
 (A4 (B3 (i:=3) sc__law_system.nd rfl (Or.inl rfl) (U7 A6 (A8 d (S.mono (by omega)) rfl (jaC (jv 0) (jaC (jv 1) jaN))))))
 C6)
 (A3 (B3 (i:=4) sc__law_system.nd rfl (Or.inl rfl) (A8 d (S.mono (by omega)) rfl (jaC (jv 0) (jaC A6 jaN))))
 (A3 (G0 (a2M (A8 d (S.mono (by omega)) rfl (jaC (jv 0) (jaC A6 jaN))) A6)
 (A4 (B3 (i:=4) sc__law_system.nd rfl (Or.inl rfl) (A8 d (S.mono (by omega)) rfl (jaC (jv 0) (jaC A6 jaN)))))
 C6)
 (A3 (B3 (i:=5) sc__law_system.nd rfl (Or.inr rfl) (a2O (jv 2) (b7m rfl T.b_int (jaC (a8K (A8 d (S.mono (by omega)) rfl (jaC (jv 0) (jaC A6 jaN))) A6) jaN))))
 (A3 (B3 (i:=6) sc__law_system.nd rfl (Or.inl rfl) (a0I jaN))
 (A3 (J7 (E8 rfl T.b_range (jaC (jv 4) jaN)) (A7 (i:=7) sc__law_system.nd rfl (Or.inl rfl))
 (A3 (O8 (Z3 K (jv 6) (jaC (C0 K rfl T.b_tuple (jaC (D6 (N:=["_law_j","_law_pot_here","_law_great"]) (src:=[none,some 0,some 5]) (E8 rfl T.b_range (jaC (jv 3) jaN)) (by show C7 _ _=true;rfl) (by rfl) (by rfl)
 (λ_ _ _ _ _=>(A7 (i:=0) (show(["_law_j","_law_pot_here","_law_great"]:List Str).Nodup by decide +kernel) rfl (Or.inl rfl))) (λ_ _ _ _ _=>G2) (λ_ _ _ _ _=>(A8 p (S.mono (by omega)) rfl (jaC (jv 1) (jaC (jv 2) jaN))))) jaN)) jaN)))
 (A4 (G0 (a3v (a1h (a8L (jv 7) A6) (Z0 (a2M (A8 d (S.mono (by omega)) rfl (jaC (jv 0) (jaC A6 jaN))) A6))))
 (A4 (a4U (P0 K (jv 6) (a3S (jv 7) A6)) (a7w (jv 6) (jv 7))))
 C6))))
 (A4 (A9 (O9 (jaC (C0 K rfl T.b_tuple (jaC (jv 6) jaN)) (jaC (jv 3) jaN)))))))))))),?_⟩
  refine⟨_,rfl,a,b,_,4,rfl,hP,by omega,by decide,by decide,λr1 H1 d5 d6 c9 Z=>?_⟩;refine⟨_,_,rfl,rfl,?_⟩;dsimp only[B0];refine a0A (λσ H'=>Ex1 λ(m:Nat)=>An6 (σ=[some (.ref a),some (.int wide),some (.int far),some (.int m),none,none,none,none]) (1<=m) (m<=8) ((m:Int)<=max 4 wide) (PotAt H' a b (n+3)) (Off [a,b] H H')) ?fin λfin=>?_
  case fin =>
   rintro σ H3 ⟨m,rfl,e3,e4,e5,a6,G⟩;clear d5 d6 c9 Z hP;refine⟨_,rfl,a,b,_,3,rfl,a6,by omega,by decide,by decide,λr4 H4 d7 d8 d1 a2=>?_⟩;dsimp only[B0];refine a0A (λσ H'=>Ex1 λ(N:Nat)=>An4 (σ=[some (.ref a),some (.int wide),some (.int far),some (.int m),some (.int N),none,none,none]) (N<=6) (PotAt H' a b (n+6)) (Off [a,b] H H')) ?fin2 λfin2=>?_
   case fin2 =>
    rintro σ H5 ⟨N,rfl,hN,X,I⟩;clear d7 d8 d1 a2 a6 G;refine⟨_,rfl,_,rfl,a,b,_,8,rfl,X,by omega,by decide,by decide,λr6 H6 _ _ R u=>?_⟩;refine⟨rfl,.inr ⟨_,rfl,?_⟩⟩;have u:=I.trans u;generalize decide (V.int r6=V.int 0)=cb;refine⟨_,_,rfl,rfl,.inr ⟨by cases cb<;>decide,by cases cb<;>decide⟩,?_⟩;obtain⟨g,hg,e2,g2⟩:∃g:Int,far*(if cb=true then 1 else 0)=g/\0<=g/\g<=far:=by
     cases cb
     .exact⟨0,by simp,by omega,by omega⟩
     .exact⟨far,by simp,by omega,by omega⟩
    dsimp only[B0];rw[hg];refine⟨bq _,λU c3=>?_⟩;have O:=a8y R c3;have c1:=b2p u R c3;have s7:=(Same.refl H6).upd (o:=.lst []) c3;have e7:upd H6 U (.lst []) U=some (.lst []):=A0;have c0:=R.same s7;have b5:=a7s (o:=.lst []) u c1;generalize upd H6 U (.lst [])=H7 at s7 e7 c0 b5;dsimp only[B0];refine⟨_,rfl,_,rfl,by omega,by omega,?_⟩;rw[br];refine Z5 (lo:=0) (n:=N) (λi σ H'=>Ex3 λo7 y rss=>An7 (σ=[some (.ref a),some (.int wide),some (.int far),some (.int m),some (.int N),some (.int g),some (.ref U),o7]) (PotAt H' a b (n+7+30*i)) (Off [a,b] H H') (H' U=some (.lst y)) (Its H' y rss) (y.length=i) (∀r∈rss,r.length=m/\Bd (far+3) r)) ⟨none,[],[],rfl,c0.mono (by omega),b5,e7,.nil,rfl,λ_ z=>nomatch z⟩ ?_ ?_
    .rintro i σ H8 hi ⟨o7,y,rss,rfl,hP8,off8,e8,hI8,hul,hR8⟩;obtain⟨nn,d2⟩:∃nn,nn=n+7+30*i:=⟨_,rfl⟩;rw[<-d2]at hP8;have hb:nn+100<2 ^ 60:=by omega
     have en:nn+30=n+7+30*(i+1):=by omega
     clear d2 X I R c0 hn;dsimp only[B0];refine⟨_,rfl,.inl ⟨rfl,_,SqL.of e8⟩,?_⟩;refine⟨_,rfl,_,rfl,by omega,by omega,?_⟩;rw[br];refine a9I (caps:=[some (.ref a),some (.int g)]) (c:=3) (λz => -(far+3)<=z/\z<=far+3) (by omega) rfl hP8 (λi' H' N' g3 e0 q=>⟨_,rfl,_,rfl,a,b,_,g,rfl,e2,by omega,e0,by omega,λr d3 h0 h1 c8 f4=>q r d3 ⟨by omega,by omega⟩ c8 f4⟩) ?_;intro H9 pw xs f1 f3 e1 a3 e6;have e9:=a3 _ _ O e8;have d9:=a4X hI8 hP8 a3;have c4:=off8.trans a3;have J:=(Same.refl H9).upd (o:=.lst (xs.map V.int)) e6;have a8:upd H9 pw (.lst (xs.map V.int)) pw=some (.lst (xs.map V.int)):=A0;have c6:=J _ _ e9;have a9:=d9.same J;have b1:=e1.same J;have a0:=c4.trans (J.off (l:=[a,b]));generalize upd H9 pw (.lst (xs.map V.int))=b6 at J a8 c6 a9 b1 a0;refine⟨pw,_,rfl,.inl ⟨SqL.of a8,λq hq=>?_⟩⟩;have a4:=(Same.refl b6).upd (o:=.tup (xs.map V.int)) hq;have b8:=a4 _ _ c6;have a7:upd b6 q (.tup (xs.map V.int)) q=some (.tup (xs.map V.int)):=A0;have b2:=b1.same a4;have b0:=a9.same a4;have a1:=a0.trans (a4.off (l:=[a,b]));generalize upd b6 q (.tup (xs.map V.int))=b7 at a4 b8 a7 b2 b0 a1;refine⟨U,_,_,rfl,rfl,b8,by omega,?_⟩;have W:Its (upd b7 U (.lst (y++[.ref q]))) (y++[.ref q]) (rss++[xs]):=Z4 (b0.snoc ⟨q,rfl,a7⟩) b8 (λ_ z=>by cases z);have b9:upd b7 U (.lst (y++[.ref q])) U=some (.lst (y++[.ref q])):=A0;have L:=a8z (o:=.lst (y++[.ref q])) b2 O;have B:=a7s (o:=.lst (y++[.ref q])) a1 c1;generalize upd b7 U (.lst (y++[.ref q]))=f6 at W b9 L B;have M:∀r∈rss++[xs],r.length=m/\Bd (far+3) r:=λr S=>by
      rcases aK.mp S with z|z
      .exact hR8 r z
      .rw[aB.mp z];exact⟨f1,f3⟩
     have Y:(y++[V.ref q]).length=i+1:=by simp[hul]
     refine⟨_,rfl,_,_,rfl,rfl,_,rfl,a1I (λe=>?_) (λe=>?_)⟩
     .have hi0:0<i:=by have:=bK e;omega
      refine⟨_,rfl,a,b,_,8,rfl,L,by omega,by decide,by decide,λg5 d4 _ _ b3 C=>?_⟩;have a5:=C _ _ O b9;have D:=a4X W L C;refine⟨rfl,_,rfl,a1I (λe=>?_) (λe=>?_)⟩
      .obtain⟨x,hx⟩:∃x,(y++[V.ref q])[i-1]?=some x:=⟨_,ai (by omega)⟩;obtain⟨r,S,g4,f2⟩:=D.mem hx;refine⟨_,rfl,_,rfl,_,_,rfl,rfl,U,_,_,x,rfl,rfl,SqL.of a5,?_,?_⟩
       .rw[show(0+(i:Int)-1)=((i-1:Nat):Int) by omega];exact a0U hx
       refine⟨_,rfl,_,rfl,U,_,_,i,rfl,rfl,a5,?_,?_⟩
       .rw[dQ];exact b8F (by omega)
       have c7:Its d4 ((y++[V.ref q]).set i x) ((rss++[xs]).set i r):=by
        refine⟨by rw[eT,eT,D.1],λj v ej=>?_⟩;rw[fA]at ej;by_cases c2:i=j
        .subst c2;rw[ay rfl,ay (by omega)]at ej;cases ej;exact⟨r,by rw[fA,ay rfl,ay (by rw[<-D.1];omega)],f2⟩
        .rw[ar c2]at ej;obtain⟨q,q1,q2⟩:=D.2 j v ej;exact⟨q,by rw[fA,ar c2];exact q1,q2⟩
       refine⟨_,_,_,rfl,en ▸ a8z (b3.mono (by omega)) O,a7s (B.trans C) c1,A0,Z4 c7 a5 (λ_ z=>by cases z),by rw[eT];exact Y,λq hq=>?_⟩;rcases eX hq with z|z
       .exact M q z
       .rw[z];exact M r S
      .exact⟨_,_,_,rfl,en ▸ b3.mono (by omega),B.trans C,a5,D,Y,M⟩
     .exact⟨_,_,_,rfl,en ▸ L.mono (by omega),B,b9,W,Y,M⟩
    .rintro σ H8 ⟨o7,y,rss,rfl,hP8,off8,e8,hI8,hul,hR8⟩;refine⟨_,rfl,U,_,rfl,.inl ⟨SqL.of e8,λq hq=>?_⟩⟩;have s9:=(Same.refl H8).upd (o:=.tup y) hq;have e9:upd H8 q (.tup y) q=some (.tup y):=A0;generalize upd H8 q (.tup y)=H9 at s9 e9;refine⟨_,rfl,by show 2<=sizeLine;omega,λq2 f0=>?_⟩;have J:=(Same.refl H9).upd (o:=.tup [.ref q,.int m]) f0;have c5:=s9.trans J;exact k q2 q y rss m _ A0 (J _ _ e9) (hI8.same c5) (by omega) hR8 e3 e4 e5 ((hP8.same c5).mono (by omega)) (off8.trans c5.off)
   obtain⟨N4,rfl⟩:∃t:Nat,r4=t:=⟨r4.toNat,by omega⟩;refine⟨_,rfl,a,b,_,8,rfl,d1,by omega,by decide,by decide,λr5 H5 _ _ X I=>?_⟩;refine⟨rfl,_,rfl,a1I (λe=>?_) (λe=>fin2 _ _ ⟨N4,rfl,by omega,X.mono (by omega),(G.trans a2).trans I⟩)⟩;refine⟨_,rfl,a,b,_,7,rfl,X,by omega,by decide,by decide,λr6 H6 g0 g1 R u=>?_⟩;obtain⟨N6,rfl⟩:∃t:Nat,r6=t:=⟨r6.toNat,by omega⟩;exact fin2 _ _ ⟨N6,rfl,by omega,R.mono (by omega),((G.trans a2).trans I).trans u⟩
  obtain⟨t1,rfl⟩:∃t:Nat,r1=t:=⟨r1.toNat,by omega⟩;refine⟨_,rfl,a,b,_,8,rfl,c9,by omega,by decide,by decide,λr2 H2 _ _ d0 b4=>?_⟩;refine⟨rfl,_,rfl,a1I (λe=>?_) (λe=>fin _ _ ⟨t1+1,?_,by omega,by omega,by omega,d0.mono (by omega),Z.trans b4⟩)⟩
  .refine⟨_,rfl,_,rfl,a,b,_,_,rfl,d0,by omega,by omega,by omega,λr3 H3 f8 f9 a6 G=>?_⟩;obtain⟨t3,rfl⟩:∃t:Nat,r3=t:=⟨r3.toNat,by omega⟩;refine⟨_,_,rfl,rfl,fin _ _ ⟨t3+1,?_,by omega,by omega,by omega,a6.mono (by omega),(Z.trans b4).trans G⟩⟩;rw[show((t3+1:Nat):Int)=1+(t3:Int) by omega];rfl
  .rw[show((t1+1:Nat):Int)=1+(t1:Int) by omega];rfl
end
end K35
namespace K35
open PySem PySem.Spec PyProof.Rows L2
section
variable {P:Program}{w:World}{K:PySem.W.Frag}{mg:Str->Option Value}{base:Heap}
structure NaW(H:Hp)(t r:Addr)(zs:List V)(tss:LLI)(row:List Int):Prop where
 ht:H t=some (.tup zs)
 hI:Its H zs tss
 hr:H r=some (.tup (row.map V.int))
 r1:1<=row.length
 r2:row.length<=100
 zl:zs.length<=100
 hT:∀v∈tss,v.length=row.length/\Sm v
 hS:Sb (tss.map (dot row))
inductive IspLNar(vs:List V)(H:Hp)(Q:VK)(E:XK):Prop
 |mk (t r:Addr) (zs:List V) (tss:LLI) (row:List Int) (most:Nat) (mi:Int) (_:vs=[.ref t,.ref r,.int mi]) (_:mi=most) (_:NaW H t r zs tss row) (_:most<=900) (_:(∀H',Same H H'->a3z [tss.map (dot row)] (fre tss.length) most->Q .non H')) (_:∀f fs fss cts H',Same H H'->H' f=some (.tup fs)->Its H' fs fss->NarC tss row most cts fss->Q (.ref f) H'):IspLNar  vs H Q E
def b1h:Sp:=λvs H Q E=>IspLNar  vs H Q E
theorem sc__law_narrowed:FnScope ["_law_told","_law_row","_law_most","_law_found"] ["_law_told","_law_row","_law_most"] (A2 G4):=⟨rfl,rfl,rfl,by decide +kernel,rfl,by decide +kernel,by decide +kernel⟩
theorem b4N{a:Addr}(m:FunAt K mg "_law_narrowed" G4 ["_law_told","_law_row","_law_most"])(T:Tx mg)(b:OkE P w K mg base "narrowed" 8 ["told","row","most"] (a2m a))(c:mg "TooMany"=some (.ref a))(d:ClsX K a []):Ok P w K mg base "_law_narrowed" 9 ["_law_told","_law_row","_law_most"] b1h:=by
 refine m.okJ sc__law_narrowed (λvs H Q E h=>?_) (λn f A l s H vs Q E B h=>?_)
 .obtain⟨t,r,zs,tss,row,most,mi,rfl,_⟩:=h;rfl
 .obtain⟨t,r,zs,tss,row,most,_,rfl,rfl,N,hmo,kn,kq⟩:=h;refine⟨_,(A3 (B3 (i:=3) sc__law_narrowed.nd rfl (Or.inl rfl) N1)
 (A3 (a6s K (a6r K (i:=3) b (B.mono (by omega)) rfl sc__law_narrowed.nd rfl (Or.inl rfl) (jaC (jv 0) (jaC (jv 1) (jaC (jv 2) jaN)))) rfl c d (λ_=>(A4 (B3 (i:=3) sc__law_narrowed.nd rfl (Or.inl rfl) N1))))
 (A4 (A9 (jv 3))))),?_⟩
  try dsimp only[B0,List.set]
  refine⟨_,rfl,_,rfl,_,rfl,t,r,zs,tss,row,most,_,rfl,rfl,N.ht,N.hI,N.hr,N.r1,N.r2,N.zl,hmo,N.hT,N.hS,λq f g fs j C e H' s' z v k D o u=>?_,λH' s' x=>⟨a,rfl,rfl,λp y=>?_⟩⟩
  .exact⟨q,_,0,_,rfl,rfl,SqT.of z,rfl,_,rfl,kq f fs j e H' s' v k u⟩
  .exact⟨_,rfl,kn _ (s'.upd y) x⟩
structure RwP(H:Hp)(ra:Addr)(us:List V)(rss:LLI)(n:Nat):Prop where
 ha:H ra=some (.tup us)
 hI:Its H us rss
 ul:us.length<=6
 n1:1<=n
 n8:n<=8
 hR:∀r∈rss,r.length=n/\∀z∈r,-1000000000003<=z/\z<=1000000000003
theorem RwP.same{H H':Hp}{ra:Addr}{us:List V}{rss:LLI}{n:Nat}(h:RwP H ra us rss n)(s:Same H H'):RwP H' ra us rss n:=⟨s _ _ h.ha,h.hI.same s,h.ul,h.n1,h.n8,h.hR⟩
theorem b8g{r:List Int}{B:Int}(h:∀z∈r,-B<=z/\z<=B)(b:B<2 ^ 190):Sb r:=λz a=>by
 have:=h z a;omega
theorem b6l{r:List Int}(h:∀z∈r,-1000000000003<=z/\z<=1000000000003):Sb r:=b8g h (by decide)
inductive IspLLo(vs:List V)(H:Hp)(Q:VK)(E:XK):Prop
 |mk (ra:Addr) (us:List V) (rss:LLI) (n:Nat) (wi:Int) (_:vs=[.ref ra,.int wi]) (_:wi=n) (_:RwP H ra us rss n) (_:(∀H',Same H H'->Q .non H')) (_:∀t zs tss H',Same H H'->H' t=some (.tup zs)->Its H' zs tss->StO n rss tss->Q (.ref t) H'):IspLLo  vs H Q E
def b5E:Sp:=λvs H Q E=>IspLLo  vs H Q E
theorem sc__law_least_of:FnScope ["_law_rows","_law_width","_law_told"] ["_law_rows","_law_width"] (A2 G5):=⟨rfl,rfl,rfl,by decide +kernel,rfl,by decide +kernel,by decide +kernel⟩
theorem b7c{a:Addr}(I:FunAt K mg "_law_least_of" G5 ["_law_rows","_law_width"])(T:Tx mg)(d:OkE P w K mg base "least" 7 ["rows","caps","most"] (a4x a))(b:mg "TooMany"=some (.ref a))(c:ClsX K a []):Ok P w K mg base "_law_least_of" 8 ["_law_rows","_law_width"] b5E:=by
 refine I.okJ sc__law_least_of (λvs H Q E h=>?_) (λL f A y s H vs Q E U h=>?_)
 .obtain⟨ra,us,rss,n,wi,rfl,_⟩:=h;rfl
 .obtain⟨ra,us,rss,n,_,rfl,rfl,R,kn,kq⟩:=h;have hz:(3000:Nat)<=sizeLine:=by rw[ba];decide
  have n1:=R.n1;have n8:=R.n8;have V:=R.ul;refine⟨_,(A3 (B3 (i:=2) sc__law_least_of.nd rfl (Or.inl rfl) N1)
 (A3 (a6s K (a6r K (i:=2) d (U.mono (by omega)) rfl sc__law_least_of.nd rfl (Or.inl rfl) (jaC (jv 0) (jaC (b2N (O9 (jaC N1 jaN)) (jv 1)) (jaC A6 jaN)))) rfl b c (λ_=>(A4 (B3 (i:=2) sc__law_least_of.nd rfl (Or.inl rfl) N1))))
 (A4 (A9 (jv 2))))),?_⟩
  try dsimp only[B0,List.set]
  refine⟨_,rfl,by show 1<=sizeLine;omega,λp2 t=>⟨_,rfl,p2,[.non],_,rfl,rfl,A0,by simp,by omega,?_,λca J l C=>?_⟩⟩
  .show(1:Int)*_<=_;omega
  rw[br,a3X]at C;have l:=((Same.refl H).upd (o:=.tup [.non]) t).trans l;have R3:=R.same l;have Y:SyAt J ra ca rss (fre n):=⟨⟨us,R3.ha,R3.hI,by omega⟩,by rw[C,List.map_replicate];rfl,bq _,by rw[B1];omega,λg e=>by
   rw[B1];exact⟨(R.hR g e).1,b6l (R.hR g e).2⟩⟩
  have G:(100+1)*(n+1)<=101*9:=Nat.mul_le_mul (by omega) (by omega);refine⟨ra,ca,_,fre n,100,_,rfl,rfl,Y,by rw[B1];omega,λq X pp ys m ws Z W k B z S x r j u O M D F=>?_,λB z ho=>⟨a,rfl,rfl,λp N=>?_⟩⟩
  .have hR':∀g∈rss,g.length=(fre n).length:=λg e=>(Y.hR g e).1;exact⟨q,_,0,_,rfl,rfl,SqT.of S,rfl,_,rfl,kq X ys m B (l.trans z) x r ⟨u,j.symm.nodup D.nd.2,λv=>j.mem_iff.trans (D.least hR' v)⟩⟩
  .exact⟨_,rfl,kn _ ((l.trans z).upd N)⟩
theorem a3y:bootBuiltins "ValueError"=some (.type "ValueError"):=by kernel_rfl
theorem a5k{most i:Nat}(a:most<=40)(hi:i<=6):bnd most i<=4750104241:=by
 refine Int.le_trans (a6J hi) ?_;unfold bnd;rw[<-Int.natCast_pow];have:(most+1) ^ 6<=41 ^ 6:=Nat.pow_le_pow_left (by omega) 6;have h2:(41:Nat) ^ 6=4750104241:=by decide
 omega
theorem a5j{most i n:Nat}(a:most<=40)(hi:i<=6)(c:n<=8):1000000000003*bnd most i*(n:Int)<2 ^ 190:=by
 have h1:=a5k a hi;have b:=a2e most i;have h2:1000000000003*bnd most i*(n:Int)<=1000000000003*bnd most i*8:=cm (by omega) (by omega);omega
inductive IspRefused(vs:List V)(H:Hp)(Q:VK)(E:XK):Prop
 |mk (ra:Addr) (us:List V) (rss:LLI) (n most:Nat) (wi mi:Int) (_:vs=[.ref ra,.int wi,.int mi]) (_:wi=n) (_:mi=most) (_:RwP H ra us rss n) (_:most<=40) (_:OvB n most rss) (_:∀H',Same H H'->Q (.bl true) H'):IspRefused  vs H Q E
def a3G:Sp:=λvs H Q E=>IspRefused  vs H Q E
theorem sc__law_refused:FnScope ["_law_rows","_law_width","_law_most","_law_caught","e","_law_odd"] ["_law_rows","_law_width","_law_most"] (A2 J2):=⟨rfl,rfl,rfl,by decide +kernel,rfl,by decide +kernel,by decide +kernel⟩
theorem a7p{g b e c d a:Addr}(N:FunAt K mg "_law_refused" J2 ["_law_rows","_law_width","_law_most"])(T:Tx mg)(r:OkE P w K mg base "by_rows" 9 ["rows","width","most"] (a2n a))(l:mg "LayError"=some (.ref g))(t:ClsX K g [])(F:ClsX K a [.ref g])
  (m:mg "NoAnswer"=some (.ref b)) (z:mg "NoLay"=some (.ref e)) (x:mg "NoLine"=some (.ref c)) (y:mg "NoText"=some (.ref d)) (u:mg "TooMany"=some (.ref a))
  (Z:IsX K a) (h1:PySem.W.kitOne K (.ref a) (.ref a)=some true) (h2:PySem.W.kitOne K (.ref a) (.type "ValueError")=some true) (S:PySem.W.kitAny K (.ref a) [.ref b,.ref e,.ref c,.ref d]=some false):Ok P w K mg base "_law_refused" 10 ["_law_rows","_law_width","_law_most"] a3G:=by
 refine N.okJ sc__law_refused (λvs H Q E h=>?_) (λO f A I s H vs Q E V h=>?_)
 .obtain⟨ra,us,rss,n,most,wi,mi,rfl,_⟩:=h;rfl
 .obtain⟨ra,us,rss,n,most,_,_,rfl,rfl,rfl,R,hmo,hov,k⟩:=h;have C:rss.length<=6:=by rw[<-R.hI.1];exact R.ul
  have Y:=R.n8;refine⟨_,(A3 (B3 (i:=3) sc__law_refused.nd rfl (Or.inl rfl) N1)
 (A3 (b2F K (j:=4) (b4U r (V.mono (by omega)) rfl (jaC (jv 0) (jaC (jv 1) (jaC (jv 2) jaN)))) rfl l t sc__law_refused.nd rfl rfl (λ_=>(A4 (B3 (i:=3) sc__law_refused.nd rfl (Or.inl rfl) (jv 4)))))
 (A3 (B3 (i:=5) sc__law_refused.nd rfl (Or.inl rfl) (N0 K rfl T.b_isinstance (jaC (jv 3) (jaC (O9 (jaC (a2Q (v:=.ref b) rfl m rfl) (jaC (a2Q (v:=.ref e) rfl z rfl) (jaC (a2Q (v:=.ref c) rfl x rfl) (jaC (a2Q (v:=.ref d) rfl y rfl) jaN))))) jaN))))
 (A4 (A9 (a6u (N0 K rfl T.b_isinstance (jaC (jv 3) (jaC (a2Q (v:=.ref a) rfl u rfl) jaN))) (a6u (N0 K rfl T.b_isinstance (jaC (jv 3) (jaC (a2R (v:=.ty "ValueError") rfl T.b_ValueError a3y rfl) jaN))) (a8O (b5V (jv 5)))))))))),?_⟩
  try dsimp only[B0,List.set]
  refine⟨_,rfl,_,rfl,_,rfl,ra,us,rss,n,most,_,_,1000000000003,rfl,rfl,rfl,R.ha,R.hI,by have:=R.ul;omega,R.n1,by omega,by omega,by decide,R.hR,a5j hmo C Y,by have:=a5k hmo C;omega,λq ss H' s' hq W X G=>absurd hov G,λH' s' _=>⟨a,rfl,F,λp U=>?_⟩⟩;have s2:=s'.upd (o:=a1L p a) U;have J:upd H' p (a1L p a) p=some (a1L p a):=A0;generalize upd H' p (a1L p a)=H2 at s2 J;refine⟨_,rfl,?_⟩;refine⟨_,rfl,by show 4<=sizeLine;rw[ba];decide,λM B=>?_⟩;have L:=s2.upd (o:=.tup [.ref b,.ref e,.ref c,.ref d]) B;have D:=M7 (o:=.tup [.ref b,.ref e,.ref c,.ref d]) J B;refine⟨p,a,_,false,rfl,D,Z,.inr (.inr ⟨M,[b,e,c,d],rfl,A0,S⟩),?_⟩;generalize upd H2 M (.tup [.ref b,.ref e,.ref c,.ref d])=H3 at L D
  try dsimp only[B0,List.set]
  refine⟨_,rfl,p,a,_,true,rfl,D,Z,.inr (.inl ⟨_,rfl,h1⟩),?_⟩;refine⟨true,rfl,N8 ⟨_,rfl,p,a,_,true,rfl,D,Z,.inl ⟨_,rfl,h2⟩,true,rfl,N8 ⟨_,rfl,false,rfl,?_⟩⟩⟩;exact k _ L
end
end K35
namespace K35
open PySem PySem.Spec PyProof.Rows L2
section
variable {P:Program}{w:World}{K:PySem.W.Frag}{mg:Str->Option Value}{base:Heap}
theorem b2x:∀(a b:List Int) (k:Nat),a.length=b.length->k<a.length->(∀t,t<k->a.getD t 0=b.getD t 0)->b.getD k 0<a.getD k 0->HT.lexLt a b=false
 |[],_,_,_,h,_,_=>by simp at h
 |_::_,[],_,h,_,_,_=>by cases h
 |x::a,y::b,0,_,_,_,h=>by
  have h:y<x:=h;have h1:¬x<y:=by omega
  have h2:¬x=y:=by omega
  simp[HT.lexLt,h1,h2]
 |x::a,y::b,k+1,f,d,c,h=>by
  have e:x=y:=c 0 (by omega);subst e;have g:=b2x a b k (by simpa using f) (by simpa using d) (λt i=>c (t+1) (by omega)) h;simp[HT.lexLt,g]
theorem b0R(n:Nat):D0 ((List.range n).map (D4 n)).reverse:=by
 unfold D0;rw[List.pairwise_reverse,ck];refine List.Pairwise.imp_of_mem ?_ List.pairwise_lt_range;intro i j hi a b;have hi:=aR.mp hi;have a:=aR.mp a;refine b2x _ _ i (by rw[C2,C2]) (by rw[C2];exact hi) (λt c=>?_) ?_
 .rw[D8 _ _ _ (by omega),D8 _ _ _ (by omega),ar (by omega),ar (by omega)]
 .rw[D8 _ _ _ hi,D8 _ _ _ hi,ay rfl,ar (by omega)];decide
theorem a3b(n:Nat):K9 (fre n)=(List.range n).map (D4 n):=by
 unfold K9;rw[B1,List.filter_eq_self.mpr λv _=>a2h _ _]
theorem b3F(n:Nat):StO n [] ((List.range n).map (D4 n)).reverse:=by
 refine⟨b0R n,?_,λv=>?_⟩
 .have:=a1j (fre n);rw[a3b]at this;exact(List.reverse_perm _).symm.nodup this
 .rw[List.mem_reverse,<-a3b];exact a0N v
theorem a6R(n j:Nat)(h:j<n):List.replicate j (0:Int)++[1]++List.replicate (n-1-j) 0=D4 n j:=by
 refine dq (by simp[C2];omega) λi h1 h2=>?_;have hi:i<n:=by rwa[C2]at h2
 have e:=D8 n j i hi;rw[ao,ai h2]at e;have e:(D4 n j)[i]=if i=j then 1 else 0:=e
 rw[e];by_cases a:i<j
 .rw[fe (by simp;omega),fe (by simpa using a),List.getElem_replicate,ar (by omega)]
 .by_cases c2:i=j
  .subst c2;rw[fe (by simp),List.getElem_append_right (by simp)];simp
  .rw[List.getElem_append_right (by simp;omega),List.getElem_replicate,ar c2]
def a5J:Sp:=λvs H Q _=>∃(ra:Addr) (us:List V) (rss:LLI) (n most:Nat) (wi mi:Int),vs=[.ref ra,.int wi,.int mi]/\wi=n/\mi=most/\RwP H ra us rss n/\most<=40/\(∀H',Same H H'->OvB n most rss->Q .non H')/\∀q ss H',Same H H'->H' q=some (.tup ss)->ss.length=rss.length+1->(∀i x,ss[i]?=some x->∃tss,Stg H' n (rss.take i) (bnd most i) x tss)->¬OvB n most rss->Q (.ref q) H'
theorem sc__law_steps:FnScope ["_law_rows","_law_width","_law_most","_law_steps_here","_law_row"] ["_law_rows","_law_width","_law_most"] (A2 L7):=⟨rfl,rfl,rfl,by decide +kernel,rfl,by decide +kernel,by decide +kernel⟩
theorem a9X(F:FunAt K mg "_law_steps" L7 ["_law_rows","_law_width","_law_most"])(T:Tx mg)(d:Ok P w K mg base "_law_narrowed" 9 ["_law_told","_law_row","_law_most"] b1h):Ok P w K mg base "_law_steps" 10 ["_law_rows","_law_width","_law_most"] a5J:=by
 refine F.okJ sc__law_steps (λvs H Q E h=>?_) (λc8 f A c7 s H vs Q E hr h=>?_)
 .obtain⟨ra,us,rss,n,most,wi,mi,rfl,_⟩:=h;rfl
 .obtain⟨ra,us,rss,n,most,_,_,rfl,rfl,rfl,R,hmo,kn,kq⟩:=h;have hz:(3000:Nat)<=sizeLine:=by rw[ba];decide
  have hu:=hr.u60;have n1:=R.n1;have n8:=R.n8;have c4:=R.ul;have d5:rss.length<=6:=by rw[<-R.hI.1];exact c4
  refine⟨_,(A3 (B3 (i:=3) sc__law_steps.nd rfl (Or.inl rfl) (a0I (jaC (b7n K (C0 K rfl T.b_tuple (jaC (D6 (N:=["_law_j","_law_width"]) (src:=[none,some 1]) (E8 rfl T.b_range (jaC (jv 1) jaN)) (by show C7 _ _=true;rfl) (by rfl) (by rfl)
 (λ_ _ _ _ _=>(A7 (i:=0) (show(["_law_j","_law_width"]:List Str).Nodup by decide +kernel) rfl (Or.inl rfl))) (λ_ _ _ _ _=>G2) (λ_ _ _ _ _=>(a1Z (a1Z (a7x (O9 (jaC A6 jaN)) (jv 0)) (O9 (jaC A6 jaN))) (a7x (O9 (jaC A6 jaN)) (a3S (a3S (jv 1) A6) (jv 0)))))) jaN)) (a8P A6)) jaN)))
 (A3 (J7 (T5 K (jv 0)) (A7 (i:=4) sc__law_steps.nd rfl (Or.inl rfl))
 (A4 (G0 (a4T (P0 K (jv 3) (a8P A6)) N1)
 (A4 (O8 (Z3 K (jv 3) (jaC (A8 d (hr.mono (by omega)) rfl (jaC (P0 K (jv 3) (a8P A6)) (jaC (jv 4) (jaC (jv 2) jaN)))) jaN))))
 C6)))
 (A4 (A9 (b5W (b7l K hu N1 (jv 3) (by with_unfolding_all rfl)) N1 (C0 K rfl T.b_tuple (jaC (jv 3) jaN))))))),?_⟩
  refine⟨_,rfl,_,rfl,by omega,by omega,?_⟩;rw[br];refine V7 (n:=n) (caps:=[some (.int n)]) (by omega) rfl (λi ys H'=>Same H H'/\ys.length=i/\Its H' ys ((List.range i).map (D4 n))) ⟨Same.refl H,rfl,.nil⟩ (λi ys H' h=>by rw[h.2.1];exact aq _) ?_ ?_
  .rintro i ys H1 hi ⟨s1,hyl,hI1⟩;refine⟨by show 1<=sizeLine;omega,λp1 a0=>⟨_,rfl,p1,[.int 0],_,rfl,rfl,A0,by simp,by omega,?_,λq2 H2 s2 e2=>?_⟩⟩
   .show(1:Int)*_<=_;omega
   rw[br,a2Z]at e2;have s2:=((Same.refl H1).upd (o:=.tup [.int 0]) a0).trans s2;refine⟨by show 1<=sizeLine;omega,λJ a1=>?_⟩;have s3:=(Same.refl H2).upd (o:=.tup [.int 1]) a1;refine⟨q2,J,_,_,rfl,rfl,s3 _ _ e2,A0,by simp;omega,λq4 H4 s4 e4=>?_⟩;have s4:=s3.trans s4;refine⟨by show 1<=sizeLine;omega,λp5 c0=>⟨_,rfl,_,_,rfl,rfl,_,rfl,_,_,rfl,rfl,p5,[.int 0],_,rfl,rfl,A0,by simp,by omega,?_,λq6 H6 B X=>?_⟩⟩
   .show(1:Int)*_<=_;omega
   rw[show((n:Int)-1-(i:Int)).toNat=n-1-i by omega,a2Z]at X;have B:=((Same.refl H4).upd (o:=.tup [.int 0]) c0).trans B;refine⟨q4,q6,_,_,rfl,rfl,B _ _ e4,X,by simp;omega,λq7 H7 s7 e7=>?_⟩;have a9:=((s2.trans s4).trans B).trans s7;refine⟨s1.trans a9,by simp[hyl],?_⟩;rw[fT,cy];refine(hI1.same a9).snoc ⟨q7,rfl,?_⟩;rw[e7,<-a6R n i hi,cy,cy];rfl
  .rintro ys H1 ⟨s1,hyl,hI1⟩ p1 a0;refine⟨p1,_,rfl,.inl ⟨SqL.of A0,λp2 b9=>?_⟩⟩;have s2:=((Same.refl H1).upd (o:=.lst ys) a0).upd (o:=.tup ys) b9;have e2:upd (upd H1 p1 (.lst ys)) p2 (.tup ys) p2=some (.tup ys):=A0;generalize upd (upd H1 p1 (.lst ys)) p2 (.tup ys)=H2 at s2 e2;refine⟨_,rfl,rfl,p2,_,rfl,SqT.of e2,λJ a1=>?_⟩;have a2:=(Same.refl H2).upd (o:=.tup ys.reverse) a1;have e3:upd H2 J (.tup ys.reverse) J=some (.tup ys.reverse):=A0;have s3:=s1.trans (s2.trans a2);have a5:=a8T (hI1.same (s2.trans a2));generalize upd H2 J (.tup ys.reverse)=H3 at a2 e3 s3 a5;refine⟨by show 1<=sizeLine;omega,λl hl=>?_⟩;have a7:H l=none:=s3.free hl;have a3:=(Same.refl H3).upd (o:=.lst [.ref J]) hl;have s4:=s3.trans a3;have e4:upd H3 l (.lst [.ref J]) l=some (.lst [.ref J]):=A0;have u0:=b3F n;have S0:Stg (upd H3 l (.lst [.ref J])) n (rss.take 0) (bnd most 0) (.ref J) ((List.range n).map (D4 n)).reverse:=⟨⟨J,_,rfl,a3 _ _ e3,a5.same a3⟩,u0.ri,u0.nd,by simp;omega,λv g y u=>by
    obtain⟨j,_,rfl⟩:=aP.mp (List.mem_reverse.mp g);unfold D4 at u;obtain⟨i,_,rfl⟩:=aP.mp u;show _<=((most+1:Nat):Int) ^ 0;rw[Int.pow_zero];split<;>omega,u0.mem⟩
   generalize upd H3 l (.lst [.ref J])=H4 at s4 e4 S0;dsimp only[B0,List.set];refine⟨_,rfl,ra,rfl,⟨_,SqT.of (s4 _ _ R.ha)⟩,?_⟩;refine a5a (K:=K) (a:=ra) (xs:=us) (λi σ H'=>Ex2 λ(o4:Option V) (m:List V)=>An5 (σ=[some (.ref ra),some (.int n),some (.int most),some (.ref l),o4]) (Same H H') (H' l=some (.lst m)) (m.length<=i+1) (((m.length=i+1/\NoB n most i rss/\∀j x,m[j]?=some x->∃tss,Stg H' n (rss.take j) (bnd most j) x tss)∨(OvB n most rss/\∃p,m=p++[.non]/\∀v∈p,∃a vs,v=.ref a/\H' a=some (.tup vs)))))
    ⟨none,[.ref J],rfl,s4,e4,aq _,.inl ⟨rfl,(λ_ _ _ z=>by omega),λj x t=>by
     match j,t with
     |0,t=>cases t;exact⟨_,S0⟩
     |j+1,t=>exact nomatch t⟩⟩ (λi σ H' _ h=>by obtain⟨_,_,_,s',_⟩:=h;exact SqT.of (s' _ _ R.ha)) ?_ ?_
   .rintro i x σ H5 t ⟨o4,m,rfl,s5,e5,hsl,hmode⟩;obtain⟨row,c1,S,xa,rfl,c5⟩:=R.hI.mem t;have d3:i<rss.length:=(aC.mp S).1;dsimp only[B0,List.set];rcases hmode with⟨U,O,I⟩|⟨M,p,rfl,G⟩
    .obtain⟨y,u⟩:∃y,m[m.length-1]?=some y:=⟨_,ai (by omega)⟩;have c6:m[i]?=some y:=by rw[show i=m.length-1 by omega];exact u
     obtain⟨k,Z⟩:=I i y c6;obtain⟨ya,ws,rfl,b1,a6⟩:=Z.ex;have C:=R.hR row c1;have D:∀v∈k,v.length=n/\∀y∈v,0<=y/\y<=bnd most i:=λv g=>by
      have:=((Z.mem v).mp g).an;exact⟨by have h:=this.len;rwa[B1]at h,λy u=>⟨this.nn y u,Z.bd v g y u⟩⟩
     have d0:=a2e most i;have d1:=a5j (most:=most) (i:=i) (n:=n) hmo (by omega) n8;have d2:=a5k (most:=most) (i:=i) hmo (by omega);have c2:Sb (k.map (dot row)):=λz hz=>by
      obtain⟨v,g,rfl⟩:=aP.mp hz;have h:=a3i (R:=1000000000003) (by decide) (show 0<=bnd most i by omega) row v C.2 (D v g).2;rw[(D v g).1]at h;omega
     have N:NaW H5 ya xa ws k row:=⟨b1,a6,s5 _ _ c5,by rw[C.1];exact n1,by rw[C.1];omega,by rw[a6.1];exact Z.len,λv g=>⟨by rw[(D v g).1,C.1],λy u=>by have:=(D v g).2 y u;omega⟩,c2⟩;refine⟨_,rfl,_,rfl,l,_,_,_,rfl,rfl,SqL.of e5,a5l u,rfl,_,rfl,N8 ?_⟩;refine⟨_,rfl,.inl ⟨rfl,_,SqL.of e5⟩,?_⟩;refine⟨_,rfl,_,rfl,l,_,_,_,rfl,rfl,SqL.of e5,a5l u,_,rfl,_,rfl,ya,xa,ws,k,row,most,_,rfl,rfl,N,by omega,λH6 B ho=>?_,λf fs b2 c9 H6 B hf b3 hN=>?_⟩
     .have X:=B _ _ e5;refine⟨l,_,_,rfl,rfl,X,by omega,?_⟩;refine⟨_,m++[.non],rfl,λb o e=>by rw[A1 (A5 e a7)];exact(s5.trans B) b o e,A0,by simp;omega,.inr ⟨⟨i,row,k,S,Z.o,ho⟩,m,rfl,λv g=>?_⟩⟩;obtain⟨j,hj⟩:=bR.mp g;obtain⟨_,Y⟩:=I j v hj;obtain⟨a',W,rfl,ea,_⟩:=Y.ex;exact⟨a',W,rfl,by rw[A1 (I0 (B _ _ ea) X (by intro z;cases z))];exact B _ _ ea⟩
     .have X:=B _ _ e5;have M:¬a3z [k.map (dot row)] (fre k.length) most:=by
       obtain⟨F9,W9,k9,_,b5,d4⟩:=hN.wk;exact a3M b5 (by omega)
      have N':=hN.toR λv g=>by rw[(D v g).1,C.1]
      refine⟨l,_,_,rfl,rfl,X,by omega,?_⟩;have a4:Tk H6 (upd H6 l (.lst (m++[.ref f]))):=Tk.put X;refine⟨_,m++[.ref f],rfl,λb o e=>by rw[A1 (A5 e a7)];exact(s5.trans B) b o e,A0,by simp;omega,.inl ⟨by simp[U],O.next S Z.o M,λj x t=>?_⟩⟩;rw[List.getElem?_append]at t;by_cases hj:j<m.length
      .rw[ay hj]at t;obtain⟨t',Y⟩:=I j x t;exact⟨t',(Y.tk (Tk.same B)).tk a4⟩
      .rw[ar hj]at t;have b7:j-m.length=0:=by
        have:=(aC.mp t).1;simp at this;omega
       rw[b7]at t;cases t;have b8:j=i+1:=by omega
       subst b8;have c3:rss.take (i+1)=rss.take i++[row]:=by rw[bB,S];rfl
       have b4:∀r∈rss.take i,r.length=n:=λr hr=>(R.hR r (bP hr)).1;have a8:=a3N b4 C.1 Z.mem N';refine⟨b2,⟨f,fs,rfl,a4 _ _ hf,a4.its b3⟩,N'.ri,N'.nd,by have:=N'.len;omega,λv g y u=>?_,λv=>by rw[c3];exact a8 v⟩;obtain⟨c,hc,rfl,b6⟩:=N'.bd v g;rw[a0R];rw[C.1]at u;exact b2t D (by omega) (by have:=hc.an.len;rwa[B1]at this) hc.an.nn b6 y u
    .have u:(p++[V.non])[(p++[V.non]).length-1]?=some .non:=by simp
     refine⟨_,rfl,_,rfl,l,_,_,_,rfl,rfl,SqL.of e5,a5l u,rfl,_,rfl,G7 ?_⟩;exact⟨_,p++[.non],rfl,s5,e5,by omega,.inr ⟨M,p,rfl,G⟩⟩
   .rintro σ H5 ⟨o4,m,rfl,s5,e5,hsl,hmode⟩;rcases hmode with⟨U,O,I⟩|⟨M,p,rfl,G⟩
    .have G:∀v∈m,∃a vs,v=V.ref a/\H5 a=some (.tup vs):=λv g=>by
      obtain⟨j,hj⟩:=bR.mp g;obtain⟨_,Y⟩:=I j v hj;obtain⟨a',W,rfl,ea,_⟩:=Y.ex;exact⟨a',W,rfl,ea⟩
     have L:m.any a7y=false:=by
      rw[List.any_eq_false];intro v g;obtain⟨a',W,rfl,_⟩:=G v g;simp[a7y]
     refine⟨_,rfl,l,m,rfl,rfl,SqL.of e5,λv g=>.inr (G v g),_,rfl,?_⟩;rw[L];refine G7 ?_;refine⟨_,rfl,l,_,rfl,.inl ⟨SqL.of e5,λq hq=>?_⟩⟩;have B:=(Same.refl H5).upd (o:=.tup m) hq;rw[R.hI.1]at O U;refine kq q m _ (s5.trans B) A0 U (λi x t=>?_) O.all;obtain⟨b0,Y⟩:=I i x t;exact⟨b0,Y.tk (Tk.same B)⟩
    .have L:(p++[V.non]).any a7y=true:=by simp[a7y]
     refine⟨_,rfl,l,p++[.non],rfl,rfl,SqL.of e5,λv g=>?_,_,rfl,?_⟩
     .rcases aK.mp g with z|z
      .exact .inr (G v z)
      .exact .inl (aB.mp z)
     rw[L];exact N8 (kn H5 s5 M)
end
end K35
namespace K35
open PySem PySem.Spec PyProof.Rows L2
theorem OkE.no{P:Program}{w:World}{K:PySem.W.Frag}{mg:Str->Option Value}{base:Heap}{x:Str}{k:Nat}{ps:List Str}{sp:Sp}(O:OkE P w K mg base x k ps sp):Ok P w K mg base x k ps (λvs H Q _=>sp vs H Q λ_ _ _=>False):=by
 obtain⟨f,fd,h1,h2,d,c⟩:=O.ex;refine⟨f,fd,h1,h2,d,⟨λvs H Q E h=>c.len _ _ _ _ h,λA a s H b m vs Q E j i g l hs=>cU (c.run A a s H b m vs Q (λ_ _ _=>False) j i g l hs) λr s' h=>?_⟩⟩;cases r with
 |error e =>
  obtain⟨_,_,_,_,_,_,_,_,_,_,_,_,_,z⟩:=h;exact z.elim
 |ok fl=>cases fl<;>exact h
section
variable {P:Program}{w:World}{K:PySem.W.Frag}{mg:Str->Option Value}{base:Heap}
theorem b7s{H:Hp}{a b:Addr}{us vs:List V}{rss:LLI}(j:H a=some (.tup us))(k:H b=some (.tup vs))(d:Its H us rss)(e:Its H vs rss)(l:us.length<=1000)(m:∀r∈rss,r.length<=1000):SD H 3 (.ref a) (.ref b) :=
 .inr ⟨a,b,us,vs,rfl,rfl,j,k,by rw[d.1,e.1],l,λi x y ex f=>by
  obtain⟨r,h1,h2,h⟩:=d.mem ex;obtain⟨o,n,c,g⟩:=e.mem f;rw[h2]at c;cases c;exact SD.ints h g (m r h1)⟩
theorem SD.up{H:Hp}:∀{n:Nat}{x y:V},SD H n x y->SD H (n+1) x y
 |0,_,_,h=>h.elim
 |n+1,x,y,h=>by
  rcases h with h|⟨a,b,xs,ys,h1,h2,d,f,g,j,k⟩
  .exact .inl h
  .exact .inr ⟨a,b,xs,ys,h1,h2,d,f,g,j,λi l m e c=>(k i l m e c).up⟩
theorem b1j{H:Hp}{Q:VK}{t:Addr}{zs:List V}{k:Nat}(a:H t=some (.tup zs))(q:∀p H',Same H H'->H' p=some (.tup (zs.take k))->Q (.ref p) H'):b6o K (.ref t) none (some (k:Int)) H Q:=by
 refine⟨t,zs,rfl,SqT.of a,λh=>?_,λh p b=>?_⟩
 .have h1:=h.2;rw[HT.sIx_nat]at h1;exact q t H (Same.refl _) (by rw[bZ (by omega)];exact a)
 .rw[HT.sIx_none,HT.sIx_nat]at h;refine q p _ ((Same.refl H).upd b) ?_;rw[A0,b8I (by omega)]
theorem RwP.take{H:Hp}{ra p:Addr}{us:List V}{rss:LLI}{n:Nat}(h:RwP H ra us rss n)(k:Nat)(hp:H p=some (.tup (us.take k))):RwP H p (us.take k) (rss.take k) n :=
 ⟨hp,h.hI.take k,by have:=h.ul;rw[aX];omega,h.n1,h.n8,λr a=>h.hR r (bP a)⟩
theorem RwP.pot{H H':Hp}{ra a b:Addr}{us:List V}{rss:LLI}{n m:Nat}(h:RwP H ra us rss n)(c:PotAt H a b m)(o:Off [a,b] H H'):RwP H' ra us rss n:=⟨o _ _ (b1P c h.ha) h.ha,a4X h.hI c o,h.ul,h.n1,h.n8,h.hR⟩
theorem Stg.sd{H:Hp}{n:Nat}{rss:LLI}{B:Int}{x y:V}{tss:LLI}(h:Stg H n rss B x tss)(m:n<=100){b:Addr}{vs:List V}{c:LLI}(f:y=.ref b)(j:H b=some (.tup vs))(g:Its H vs c)(k:StO n rss c):SD H 3 x y:=by
 obtain⟨a,zs,rfl,i,d⟩:=h.ex;have e:=h.o.eq k;subst e f;exact b7s i j d g (by rw[d.1];have:=h.len;omega) λr l=>by
  have:=((h.mem r).mp l).an.len;rw[this,B1];omega
inductive IspRight(vs:List V)(H:Hp)(Q:VK)(E:XK):Prop
 |mk (ra:Addr) (us:List V) (rss:LLI) (n most:Nat) (wi mi:Int) (_:vs=[.ref ra,.int wi,.int mi]) (_:wi=n) (_:mi=most) (_:RwP H ra us rss n) (_:most<=40) (_:∀H',Same H H'->Q (.bl true) H'):IspRight  vs H Q E
def a8l:Sp:=λvs H Q E=>IspRight  vs H Q E
theorem sc__law_right:FnScope ["_law_rows","_law_width","_law_most","_law_steps_here","_law_again","_law_k","_law_due"] ["_law_rows","_law_width","_law_most"] (A2 L8):=⟨rfl,rfl,rfl,by decide +kernel,rfl,by decide +kernel,by decide +kernel⟩
theorem b2i{g:Addr}(F:FunAt K mg "_law_right" L8 ["_law_rows","_law_width","_law_most"])(T:Tx mg)(e:Ok P w K mg base "_law_steps" 10 ["_law_rows","_law_width","_law_most"] a5J)(d:Ok P w K mg base "_law_refused" 10 ["_law_rows","_law_width","_law_most"] a3G)(l:Ok P w K mg base "by_rows" 9 ["rows","width","most"] (λvs H Q _=>a2n g vs H Q λ_ _ _=>False))(c:Ok P w K mg base "_law_least_of" 8 ["_law_rows","_law_width"] b5E)(a:Ok P w K mg base "_law_same" 5 ["_law_found","_law_due"] (b1f 4)):Ok P w K mg base "_law_right" 11 ["_law_rows","_law_width","_law_most"] a8l:=by
 refine F.okJ sc__law_right (λvs H Q E h=>?_) (λa1 f A W s H vs Q E m h=>?_)
 .obtain⟨ra,us,rss,n,most,wi,mi,rfl,_⟩:=h;rfl
 .obtain⟨ra,us,rss,n,most,_,_,rfl,rfl,rfl,R,hmo,k⟩:=h;have hz:(3000:Nat)<=sizeLine:=by rw[ba];decide
  have hu:=m.u60;have S:=R.ul;have n8:=R.n8;have r:rss.length<=6:=by rw[<-R.hI.1];exact S
  refine⟨_,(A3 (B3 (i:=3) sc__law_right.nd rfl (Or.inl rfl) (A8 e (m.mono (by omega)) rfl (jaC (jv 0) (jaC (jv 1) (jaC (jv 2) jaN)))))
 (A3 (G0 (b2D (jv 3) N1)
 (A4 (A9 (A8 d (m.mono (by omega)) rfl (jaC (jv 0) (jaC (jv 1) (jaC (jv 2) jaN))))))
 C6)
 (A3 (J7 (E8 rfl T.b_range (jaC A6 jaN)) (A7 (i:=4) sc__law_right.nd rfl (Or.inl rfl))
 (A4 (G0 (P9 (G1 K (A8 a (m.mono (by omega)) rfl (jaC (A8 l (m.mono (by omega)) rfl (jaC (jv 0) (jaC (jv 1) (jaC (jv 2) jaN)))) (jaC (jv 3) jaN)))))
 (A4 (A9 a0J))
 C6)))
 (A3 (J7 (E8 rfl T.b_range (jaC (U7 (Q0 K rfl T.b_len (jaC (jv 0) jaN)) A6) jaN)) (A7 (i:=5) sc__law_right.nd rfl (Or.inl rfl))
 (A3 (B3 (i:=6) sc__law_right.nd rfl (Or.inl rfl) (A8 c (m.mono (by omega)) rfl (jaC (b5S K (jv 0) Z2 (Z1 (jv 5))) (jaC (jv 1) jaN))))
 (A4 (G0 (a3v (a1h (a4T (jv 6) N1) (Z0 (P9 (G1 K (A8 a (m.mono (by omega)) rfl (jaC (a0h K (jv 3) (jv 5)) (jaC (jv 6) jaN))))))))
 (A4 (A9 a0J))
 C6))))
 (A4 (A9 a0J)))))),?_⟩
  refine⟨_,rfl,_,rfl,_,rfl,ra,us,rss,n,most,_,_,rfl,rfl,rfl,R,hmo,λH1 s1 N=>?_,λq ss H1 s1 Z a2 u M=>?_⟩
  .dsimp only[B0,List.set];exact⟨_,rfl,rfl,_,rfl,N8 ⟨_,rfl,_,rfl,_,rfl,ra,us,rss,n,most,_,_,rfl,rfl,rfl,R.same s1,hmo,N,λH2 s2=>k H2 (s1.trans s2)⟩⟩
  dsimp only[B0,List.set];refine⟨_,rfl,rfl,_,rfl,G7 ?_⟩;refine⟨_,rfl,by decide,by decide,?_⟩;refine Z5 (lo:=0) (n:=2) (λi σ H'=>Ex1 λC=>An2 (σ=[some (.ref ra),some (.int n),some (.int most),some (.ref q),C,none,none]) (Same H1 H')) ⟨none,rfl,Same.refl _⟩ ?_ ?_
  .rintro i σ H2 hi ⟨C,rfl,s2⟩;have R2:=R.same (s1.trans s2);dsimp only[B0,List.set];refine⟨_,rfl,_,rfl,_,rfl,ra,us,rss,n,most,_,_,1000000000003,rfl,rfl,rfl,R2.ha,R2.hI,by omega,R.n1,by omega,by omega,by decide,R.hR,a5j hmo r n8,by have:=a5k hmo r;omega,λq2 X B p O a0 v _=>?_,λB p ho=>M ho⟩;have s13:=s2.trans p;refine⟨_,rfl,_,_,rfl,.inr ⟨q2,q,X,ss,rfl,rfl,O,s13 _ _ Z,by omega,by omega,λj x y ex ey=>?_⟩,λH4 D=>⟨true,rfl,G7 ⟨_,rfl,s13.trans D⟩⟩⟩;obtain⟨t1,I⟩:=v j x ex;obtain⟨t2,Y⟩:=u j y ey;have J:=Y.tk (Tk.same s13);obtain⟨b,vs,L,hb,hJ⟩:=J.ex;exact I.sd (by omega) L hb hJ Y.o
  .rintro σ H2 ⟨C,rfl,s2⟩;have R2:=R.same (s1.trans s2);refine⟨_,rfl,ra,us,rfl,.inr (SqT.of R2.ha),_,_,rfl,rfl,_,rfl,by omega,by omega,?_⟩;rw[show((us.length:Int)+1).toNat=us.length+1 by omega];refine Z5 (lo:=0) (n:=us.length+1) (λi σ H'=>Ex2 λU V=>An2 (σ=[some (.ref ra),some (.int n),some (.int most),some (.ref q),C,U,V]) (Same H2 H')) ⟨none,none,rfl,Same.refl _⟩ ?_ ?_
   .rintro i σ B hi ⟨U,V,rfl,p⟩;have R3:=R2.same p;dsimp only[B0,List.set];rw[show(0+(i:Int))=i from dQ _];refine⟨_,rfl,_,rfl,_,rfl,b1j R3.ha λp4 H4 D e4=>?_⟩;have R4:=(R3.same D).take i e4;have o:=p.trans D;refine⟨_,rfl,p4,_,_,n,_,rfl,rfl,R4,λH5 G=>?_,λt zs tss H5 G ht hI hO=>?_⟩
    .dsimp only[B0,List.set];exact⟨_,rfl,rfl,_,rfl,G7 (G7 ⟨_,_,rfl,o.trans G⟩)⟩
    .dsimp only[B0,List.set];have z:=(s2.trans o).trans G;obtain⟨x,hx⟩:∃x,ss[i]?=some x:=⟨_,ai (by have:=R.hI.1;omega)⟩;obtain⟨t1,I⟩:=u i x hx;refine⟨_,rfl,rfl,_,rfl,N8 ?_⟩;refine⟨_,rfl,_,rfl,q,_,_,_,rfl,rfl,SqT.of (z _ _ Z),a0U hx,_,rfl,_,_,rfl,?_,λH6 s6=>⟨true,rfl,G7 ⟨_,_,rfl,(o.trans G).trans s6⟩⟩⟩;have h3:=(I.tk (Tk.same z)).sd (by omega) rfl ht hI hO;exact h3.up
   .rintro σ B ⟨U,V,rfl,p⟩;exact k B ((s1.trans s2).trans p)
theorem sc_law:FnScope ["_law_script","_law_pot_here","_law_turn","_law_rows","_law_width"] ["_law_script"] (A2 a2r):=⟨rfl,rfl,rfl,by decide +kernel,rfl,by decide +kernel,by decide +kernel⟩
theorem b7d{f:Addr}{fd:FuncData}(F':Fun K "law" "law" a2r f fd)(T:Tx mg)(g:Ok P w K mg base "_law_pot" 1 ["_law_script"] (b5D K))(d:Ok P w K mg base "_law_take" 1 ["_law_pot_here","_law_many"] a4u)(e:Ok P w K mg base "_law_system" 3 ["_law_pot_here","_law_wide","_law_far"] b5C)(c:Ok P w K mg base "_law_right" 11 ["_law_rows","_law_width","_law_most"] a8l):FnOk P w K mg base CX0 12 f fd ["_law_script"] (a8m K):=by
 refine F'.okJ sc_law (λvs H Q E h=>?_) (λb3 A a4 s H vs Q E j h=>?_)
 .obtain⟨a,ns,rfl,_⟩:=h;rfl
 .obtain⟨a,ns,rfl,hS,hl,k⟩:=h;have hz:(3000:Nat)<=sizeLine:=by rw[ba];decide
  have hu:=j.u60;refine⟨_,(A3 (B3 (i:=1) sc_law.nd rfl (Or.inl rfl) (A8 g (j.mono (by omega)) rfl (jaC (jv 0) jaN)))
 (A3 (J7 (E8 rfl T.b_range (jaC A6 jaN)) (A7 (i:=2) sc_law.nd rfl (Or.inl rfl))
 (A3 (a4U (A8 e (j.mono (by omega)) rfl (jaC (jv 1) (jaC A6 (jaC (b2O A6 A6) jaN)))) (T7 K 2 (B7 (A7 (i:=3) sc_law.nd rfl (Or.inl rfl)) (B7 (A7 (i:=4) sc_law.nd rfl (Or.inl rfl)) M4))))
 (A3 (G0 (a3v (a8J (P9 (G1 K (A8 c (j.mono (by omega)) rfl (jaC (jv 3) (jaC (jv 4) (jaC A6 jaN)))))) (a4S (P9 (G1 K (A8 c (j.mono (by omega)) rfl (jaC (jv 3) (jaC (jv 4) (jaC (A8 d (j.mono (by omega)) rfl (jaC (jv 1) (jaC A6 jaN))) jaN)))))))))
 (A4 (A9 a0J))
 C6)
 (A4 (G0 (a3v (a8J (P9 (G1 K (A8 c (j.mono (by omega)) rfl (jaC (O9 jaN) (jaC (jv 4) (jaC (A8 d (j.mono (by omega)) rfl (jaC (jv 1) (jaC A6 jaN))) jaN)))))) (a4S (P9 (G1 K (A8 c (j.mono (by omega)) rfl (jaC (b5S K (jv 3) Z2 (Z1 A6)) (jaC (jv 4) (jaC (A8 d (j.mono (by omega)) rfl (jaC (jv 1) (jaC A6 jaN))) jaN)))))))))
 (A4 (A9 a0J))
 C6)))))
 (A4 (A9 a0J)))),?_⟩
  refine⟨_,rfl,a,ns,rfl,hS,hl,λp b H1 _ _ V s1=>?_⟩;dsimp only[B0,List.set];refine⟨_,rfl,by decide,by decide,?_⟩;refine Z5 (lo:=0) (n:=2) (λi σ H'=>Ex3 λo2 o3 o4=>An2 (σ=[some (.ref a),some (.ref p),o2,o3,o4]) (PotAt H' p b (5000*i))) ⟨none,none,none,rfl,V⟩ ?_ ?_
  .rintro i σ H2 hi ⟨o2,o3,o4,rfl,hP2⟩;obtain⟨M,F⟩:∃M,M=5000*i:=⟨_,rfl⟩;rw[<-F]at hP2;have hb:M+20000<2 ^ 60:=by omega
   have en:M+5000=5000*(i+1):=by omega
   clear F;dsimp only[B0,List.set];refine⟨_,rfl,_,_,rfl,rfl,⟨by decide,by decide,by decide⟩,p,b,_,8,_,rfl,by decide,by decide,by decide,by decide,hP2,by omega,λq I us rss m H3 hq a2 hI a3 hR C D _ W a9=>?_⟩;rw[show(10:Int) ^ Int.toNat 12=1000000000000 by decide]at hR;have R3:RwP H3 I us rss m:=⟨a2,hI,a3,C,D,λr j=>⟨(hR r j).1,λz hz=>(hR r j).2 z hz⟩⟩;refine⟨q,[.ref I,.int m],rfl,SqT.of hq,rfl,.ref I,[.int m],rfl,.int m,[],rfl,rfl,?_⟩;dsimp only[B0,List.set];refine⟨_,rfl,_,rfl,I,us,rss,m,40,_,_,rfl,rfl,rfl,R3,by decide,λH4 s4=>⟨true,rfl,G7 ?_⟩⟩;have R4:=R3.same s4;have B:=W.same s4;refine⟨_,rfl,_,rfl,_,rfl,p,b,_,30,rfl,B,by omega,by decide,by decide,λr5 H5 b4 b5 X G=>?_⟩;obtain⟨t5,rfl⟩:∃t:Nat,r5=t:=⟨r5.toNat,by omega⟩;have R5:=R4.pot B G;refine⟨I,us,rss,m,t5,_,_,rfl,rfl,rfl,R5,by omega,λO s6=>⟨true,rfl,G7 ?_⟩⟩;have R6:=R5.same s6;have Y:=X.same s6;refine⟨bq _,λN a1=>?_⟩;have s7:=(Same.refl O).upd (o:=.tup []) a1;have U:upd O N (.tup []) N=some (.tup []):=A0;have R7:=R6.same s7;have l:=Y.same s7;generalize upd O N (.tup [])=H7 at s7 U R7 l;refine⟨_,rfl,_,rfl,p,b,_,3,rfl,l,by omega,by decide,by decide,λr8 H8 b6 b7 Z v=>?_⟩;obtain⟨t8,rfl⟩:∃t:Nat,r8=t:=⟨r8.toNat,by omega⟩;have R8:=R7.pot l v;refine⟨N,[],[],m,t8,_,_,rfl,rfl,rfl,⟨v _ _ (b1P l U) U,.nil,by simp,C,D,(λ_ z=>nomatch z)⟩,by omega,λH9 s9=>⟨true,rfl,G7 ?_⟩⟩;have R9:=R8.same s9;have a0:=Z.same s9;refine⟨_,rfl,_,rfl,b1j (k:=1) R9.ha λp10 b0 L S=>?_⟩;have R:=(R9.same L).take 1 S;have u:=a0.same L;refine⟨_,rfl,_,rfl,p,b,_,10,rfl,u,by omega,by decide,by decide,λJ b1 a7 a8 y x=>?_⟩;obtain⟨a6,rfl⟩:∃t:Nat,J=t:=⟨J.toNat,by omega⟩;refine⟨p10,_,_,m,a6,_,_,rfl,rfl,rfl,R.pot u x,by omega,λb2 a5=>⟨true,rfl,G7 ?_⟩⟩;exact⟨_,_,_,rfl,en ▸ (y.same a5).mono (by omega)⟩
  .rintro σ H2 ⟨o2,o3,o4,rfl,hP2⟩;exact k H2
end
open PySem.W
theorem all_mk{l:PySem.W.OpenLaw}{w:World}{K:PySem.W.Frag}{h:Heap}{mg:Str->Option Value}{fa:Addr}(X:K.In h)(G:h.Ns mainGlobals mg)(I2:mg "law"=some (.ref fa))
 (a1:nsIn K mainGlobals "free"=some (some (.ref f1))) (l1:FnL K f1 "free" "free" a4J o1 d1 s1 v1 x1 p1 n1 c1 t1) (H2:codeIn K c1 "free"=true) (k1:keepIn K (.ref f1)=true)
 (a2:nsIn K mainGlobals "within"=some (some (.ref f2))) (l2:FnL K f2 "within" "within" a0B o2 d2 s2 v2 x2 p2 n2 c2 t2) (H3:codeIn K c2 "within"=true) (k2:keepIn K (.ref f2)=true)
 (a3:nsIn K mainGlobals "row_sum"=some (some (.ref f3))) (l3:FnL K f3 "row_sum" "row_sum" Y5 o3 d3 s3 v3 x3 p3 n3 c3 t3) (H4:codeIn K c3 "row_sum"=true) (k3:keepIn K (.ref f3)=true)
 (a4:nsIn K mainGlobals "sums"=some (some (.ref f4))) (l4:FnL K f4 "sums" "sums" a4H o4 d4 s4 v4 x4 p4 n4 c4 t4) (H5:codeIn K c4 "sums"=true) (k4:keepIn K (.ref f4)=true)
 (a5:nsIn K mainGlobals "is_answer"=some (some (.ref f5))) (l5:FnL K f5 "is_answer" "is_answer" O1 o5 d5 s5 v5 x5 p5 n5 c5 t5) (H6:codeIn K c5 "is_answer"=true) (k5:keepIn K (.ref f5)=true)
 (a6:nsIn K mainGlobals "pull_of"=some (some (.ref f6))) (l6:FnL K f6 "pull_of" "pull_of" Y6 o6 d6 s6 v6 x6 p6 n6 c6 t6) (H7:codeIn K c6 "pull_of"=true) (k6:keepIn K (.ref f6)=true)
 (a7:nsIn K mainGlobals "falls"=some (some (.ref f7))) (l7:FnL K f7 "falls" "falls" a1W o7 d7 s7 v7 x7 p7 n7 c7 t7) (H8:codeIn K c7 "falls"=true) (k7:keepIn K (.ref f7)=true)
 (a8:nsIn K mainGlobals "below"=some (some (.ref f8))) (l8:FnL K f8 "below" "below" a1X o8 d8 s8 v8 x8 p8 n8 c8 t8) (H9:codeIn K c8 "below"=true) (k8:keepIn K (.ref f8)=true)
 (a9:nsIn K mainGlobals "plus"=some (some (.ref f9))) (l9:FnL K f9 "plus" "plus" a4I o9 d9 s9 v9 x9 p9 n9 c9 t9) (I1:codeIn K c9 "plus"=true) (k9:keepIn K (.ref f9)=true)
 (w3:nsIn K mainGlobals "times"=some (some (.ref f10))) (W0:FnL K f10 "times" "times" a1T o10 d10 s10 v10 x10 p10 n10 c10 t10) (j3:codeIn K c10 "times"=true) (I3:keepIn K (.ref f10)=true)
 (w4:nsIn K mainGlobals "nought"=some (some (.ref f11))) (W1:FnL K f11 "nought" "nought" a0D o11 d11 s11 v11 x11 p11 n11 c11 t11) (j4:codeIn K c11 "nought"=true) (I4:keepIn K (.ref f11)=true)
 (w5:nsIn K mainGlobals "unit"=some (some (.ref f12))) (W2:FnL K f12 "unit" "unit" a4G o12 d12 s12 v12 x12 p12 n12 c12 t12) (j5:codeIn K c12 "unit"=true) (I5:keepIn K (.ref f12)=true)
 (w6:nsIn K mainGlobals "least_of"=some (some (.ref f13))) (W9:FnL K f13 "least_of" "least_of" S7 o13 d13 s13 v13 x13 p13 n13 c13 t13) (j6:codeIn K c13 "least_of"=true) (I6:keepIn K (.ref f13)=true)
 (w7:nsIn K mainGlobals "above_any"=some (some (.ref f14))) (X3:FnL K f14 "above_any" "above_any" O2 o14 d14 s14 v14 x14 p14 n14 c14 t14) (j7:codeIn K c14 "above_any"=true) (I7:keepIn K (.ref f14)=true)
 (w8:nsIn K mainGlobals "first_steps"=some (some (.ref f15))) (l15:FnL K f15 "first_steps" "first_steps" K2 o15 d15 s15 v15 x15 p15 n15 c15 t15) (j8:codeIn K c15 "first_steps"=true) (I8:keepIn K (.ref f15)=true)
 (w9:nsIn K mainGlobals "raised"=some (some (.ref f16))) (l16:FnL K f16 "raised" "raised" a0C o16 d16 s16 v16 x16 p16 n16 c16 t16) (j9:codeIn K c16 "raised"=true) (I9:keepIn K (.ref f16)=true)
 (x0:nsIn K mainGlobals "steps"=some (some (.ref f17))) (l17:FnL K f17 "steps" "steps" a1U o17 d17 s17 v17 x17 p17 n17 c17 t17) (k0:codeIn K c17 "steps"=true) (L0:keepIn K (.ref f17)=true)
 (y0:nsIn K mainGlobals "is_barred"=some (some (.ref f18))) (l18:FnL K f18 "is_barred" "is_barred" O0 o18 d18 s18 v18 x18 p18 n18 c18 t18) (l0:codeIn K c18 "is_barred"=true) (L1:keepIn K (.ref f18)=true)
 (y1:nsIn K mainGlobals "next_level"=some (some (.ref f19))) (l19:FnL K f19 "next_level" "next_level" L6 o19 d19 s19 v19 x19 p19 n19 c19 t19) (m0:codeIn K c19 "next_level"=true) (L2:keepIn K (.ref f19)=true)
 (y2:nsIn K mainGlobals "least"=some (some (.ref f20))) (l20:FnL K f20 "least" "least" a1V o20 d20 s20 v20 x20 p20 n20 c20 t20) (m1:codeIn K c20 "least"=true) (N4:keepIn K (.ref f20)=true)
 (y3:nsIn K mainGlobals "together"=some (some (.ref f21))) (l21:FnL K f21 "together" "together" S5 o21 d21 s21 v21 x21 p21 n21 c21 t21) (m2:codeIn K c21 "together"=true) (N6:keepIn K (.ref f21)=true)
 (y4:nsIn K mainGlobals "narrowed"=some (some (.ref f22))) (l22:FnL K f22 "narrowed" "narrowed" S6 o22 d22 s22 v22 x22 p22 n22 c22 t22) (m3:codeIn K c22 "narrowed"=true) (Q1:keepIn K (.ref f22)=true)
 (y5:nsIn K mainGlobals "by_rows"=some (some (.ref f23))) (l23:FnL K f23 "by_rows" "by_rows" Y7 o23 d23 s23 v23 x23 p23 n23 c23 t23) (m4:codeIn K c23 "by_rows"=true) (Q2:keepIn K (.ref f23)=true)
 (y6:nsIn K mainGlobals "_law_pot"=some (some (.ref f24))) (l24:FnL K f24 "_law_pot" "_law_pot" S8 o24 d24 s24 v24 x24 p24 n24 c24 t24) (m5:codeIn K c24 "_law_pot"=true) (R5:keepIn K (.ref f24)=true)
 (y7:nsIn K mainGlobals "_law_take"=some (some (.ref f25))) (l25:FnL K f25 "_law_take" "_law_take" O3 o25 d25 s25 v25 x25 p25 n25 c25 t25) (m6:codeIn K c25 "_law_take"=true) (R6:keepIn K (.ref f25)=true)
 (y8:nsIn K mainGlobals "_law_number"=some (some (.ref f26))) (l26:FnL K f26 "_law_number" "_law_number" K4 o26 d26 s26 v26 x26 p26 n26 c26 t26) (m7:codeIn K c26 "_law_number"=true) (R7:keepIn K (.ref f26)=true)
 (y9:nsIn K mainGlobals "_law_system"=some (some (.ref f27))) (l27:FnL K f27 "_law_system" "_law_system" K3 o27 d27 s27 v27 x27 p27 n27 c27 t27) (m8:codeIn K c27 "_law_system"=true) (R8:keepIn K (.ref f27)=true)
 (z0:nsIn K mainGlobals "_law_same"=some (some (.ref f28))) (l28:FnL K f28 "_law_same" "_law_same" O4 o28 d28 s28 v28 x28 p28 n28 c28 t28) (m9:codeIn K c28 "_law_same"=true) (R9:keepIn K (.ref f28)=true)
 (D1:nsIn K mainGlobals "_law_narrowed"=some (some (.ref f29))) (l29:FnL K f29 "_law_narrowed" "_law_narrowed" G4 o29 d29 s29 v29 x29 p29 n29 c29 t29) (n0:codeIn K c29 "_law_narrowed"=true) (S0:keepIn K (.ref f29)=true)
 (D2:nsIn K mainGlobals "_law_least_of"=some (some (.ref f30))) (l30:FnL K f30 "_law_least_of" "_law_least_of" G5 o30 d30 s30 v30 x30 p30 n30 c30 t30) (o0:codeIn K c30 "_law_least_of"=true) (S1:keepIn K (.ref f30)=true)
 (D3:nsIn K mainGlobals "_law_refused"=some (some (.ref f31))) (l31:FnL K f31 "_law_refused" "_law_refused" J2 o31 d31 s31 v31 x31 p31 n31 c31 t31) (p0:codeIn K c31 "_law_refused"=true) (S2:keepIn K (.ref f31)=true)
 (F0:nsIn K mainGlobals "_law_steps"=some (some (.ref f32))) (l32:FnL K f32 "_law_steps" "_law_steps" L7 o32 d32 s32 v32 x32 p32 n32 c32 t32) (q0:codeIn K c32 "_law_steps"=true) (S4:keepIn K (.ref f32)=true)
 (H0:nsIn K mainGlobals "_law_right"=some (some (.ref f33))) (l33:FnL K f33 "_law_right" "_law_right" L8 o33 d33 s33 v33 x33 p33 n33 c33 t33) (r0:codeIn K c33 "_law_right"=true) (T6:keepIn K (.ref f33)=true)
 (H1:nsIn K mainGlobals "law"=some (some (.ref f34))) (l34:FnL K f34 "law" "law" a2r o34 d34 s34 v34 x34 p34 n34 c34 t34) (r1:codeIn K c34 "law"=true) (U3:keepIn K (.ref f34)=true)
  (z1:PySem.W.nsIn K mainGlobals "ValueError"=some none) (z2:PySem.W.nsIn K mainGlobals "abs"=some none) (z3:PySem.W.nsIn K mainGlobals "all"=some none) (z4:PySem.W.nsIn K mainGlobals "bool"=some none) (z5:PySem.W.nsIn K mainGlobals "int"=some none) (z6:PySem.W.nsIn K mainGlobals "isinstance"=some none) (z7:PySem.W.nsIn K mainGlobals "len"=some none) (z8:PySem.W.nsIn K mainGlobals "list"=some none) (z9:PySem.W.nsIn K mainGlobals "range"=some none) (z10:PySem.W.nsIn K mainGlobals "set"=some none) (z11:PySem.W.nsIn K mainGlobals "sorted"=some none) (z12:PySem.W.nsIn K mainGlobals "sum"=some none) (z13:PySem.W.nsIn K mainGlobals "tuple"=some none) (z14:PySem.W.nsIn K mainGlobals "zip"=some none)
  {D:Addr}(e5:PySem.W.nsIn K mainGlobals "NoAnswer"=some (some (.ref D))) {o:Addr}(e4:PySem.W.nsIn K mainGlobals "LayError"=some (some (.ref o))) {e8:Addr}(i9:PySem.W.nsIn K mainGlobals "NoLay"=some (some (.ref e8))) {e2:Addr}(h8:PySem.W.nsIn K mainGlobals "NoLine"=some (some (.ref e2))) {e3:Addr}(h9:PySem.W.nsIn K mainGlobals "NoText"=some (some (.ref e3))) {b:Addr}(g0:PySem.W.nsIn K mainGlobals "TooMany"=some (some (.ref b))) {a:Addr}(h7:PySem.W.nsIn K mainGlobals "Finder"=some (some (.ref a))) (q1:a3k K o []=true) (q2:a3k K b [.ref o]=true) (q3:a3k K b []=true) (q4:PySem.W.mroIn K b (.type "object")=some true) (q5:PySem.W.findIn K (.ref b) "__class__"=some (some (.builtin "object.__class__"))) (q6:PySem.W.findIn K (.ref b) "__getattribute__"=some (some (.builtin "BaseException.__getattribute__"))) (q7:PySem.W.findIn K (.ref b) "__getattr__"=some none) (q8:PySem.W.kitOne K (.ref b) (.ref b)=some true) (q9:PySem.W.kitOne K (.ref b) (.type "ValueError")=some true) (q10:PySem.W.kitAny K (.ref b) [.ref D,.ref e8,.ref e2,.ref e3]=some false) {h2 h4:Str}{r:Addr}{g2 p e7:List Value}{g4 g1:Bool}{h5:List Str}{e6:Option Bool}{g3:Option Addr}{g6 g7 g8 g9 h0:Option Value}(h1:K.lookup b=some (excClassObj h2 h4 b r g2 p g4 h5 e7 g1 e6 g3 g6 g7 g8 g9 h0 "ValueError.__new__")) (h6:PySem.W.tailIn K [.type "ValueError",.type "Exception",.type "BaseException",.type "object"] p=true) (h3:PySem.W.nsOkIn K r=true) (g5:PySem.W.nsIn K r "__init__"=some none) (j2:p.contains (.type "BaseException")=true) (pg_Finder:PySem.W.plainGet K a Str.empty=true) (i0:PySem.W.hasDictIn K a=true) (i3:PySem.W.plainOver K a=true) (i4:PySem.W.findIn K (.ref a) "__setattr__"=some (some (.builtin "object.__setattr__"))) (i2:PySem.W.makesIn K a=true) (i1:PySem.W.keepIn K (.ref a)=true) (e1:PySem.W.findIn K (.ref a) "rows"=some none) (d0:PySem.W.findIn K (.ref a) "caps"=some none) (Z:PySem.W.findIn K (.ref a) "begun"=some none) (e0:PySem.W.findIn K (.ref a) "here"=some none) (a0:PySem.W.findIn K (.ref a) "found"=some none) (C:PySem.W.findIn K (.ref a) "walked"=some none) (t:findIn K (.ref a) "__init__"=some (some (.ref f_Finder___init__))) (x:isFn K (.ref f_Finder___init__)=true) (z:FnL K f_Finder___init__ "__init__" "Finder.__init__" D9 o_Finder___init__ d_Finder___init__ s0_Finder___init__ v_Finder___init__ x_Finder___init__ p_Finder___init__ n0_Finder___init__ c0_Finder___init__ t_Finder___init__) (u:codeIn K c0_Finder___init__ "Finder.__init__"=true) (y:keepIn K (.ref f_Finder___init__)=true) (b1:findIn K (.ref a) "step"=some (some (.ref f_Finder_step))) (b5:isFn K (.ref f_Finder_step)=true) (b9:FnL K f_Finder_step "step" "Finder.step" a0f o_Finder_step d_Finder_step s0_Finder_step v_Finder_step x_Finder_step p_Finder_step n0_Finder_step c0_Finder_step t_Finder_step) (b3:codeIn K c0_Finder_step "Finder.step"=true) (b7:keepIn K (.ref f_Finder_step)=true) (i:findIn K (.ref a) "step_within"=some (some (.ref f_Finder_step_within))) (k:isFn K (.ref f_Finder_step_within)=true) (n:FnL K f_Finder_step_within "step_within" "Finder.step_within" C3 o_Finder_step_within d_Finder_step_within s0_Finder_step_within v_Finder_step_within x_Finder_step_within p_Finder_step_within n0_Finder_step_within c0_Finder_step_within t_Finder_step_within) (j:codeIn K c0_Finder_step_within "Finder.step_within"=true) (m:keepIn K (.ref f_Finder_step_within)=true) (H:findIn K (.ref a) "level"=some (some (.ref f_Finder_level))) (O:isFn K (.ref f_Finder_level)=true) (W:FnL K f_Finder_level "level" "Finder.level" V6 o_Finder_level d_Finder_level s0_Finder_level v_Finder_level x_Finder_level p_Finder_level n0_Finder_level c0_Finder_level t_Finder_level) (L:codeIn K c0_Finder_level "Finder.level"=true) (S:keepIn K (.ref f_Finder_level)=true) (b2:findIn K (.ref a) "told"=some (some (.ref f_Finder_told))) (b6:isFn K (.ref f_Finder_told)=true) (c0:FnL K f_Finder_told "told" "Finder.told" K5 o_Finder_told d_Finder_told s0_Finder_told v_Finder_told x_Finder_told p_Finder_told n0_Finder_told c0_Finder_told t_Finder_told) (b4:codeIn K c0_Finder_told "Finder.told"=true) (b8:keepIn K (.ref f_Finder_told)=true) (I:findIn K (.ref a) "paper"=some (some (.ref f_Finder_paper))) (Q:isFn K (.ref f_Finder_paper)=true) (Y:FnL K f_Finder_paper "paper" "Finder.paper" J3 o_Finder_paper d_Finder_paper s0_Finder_paper v_Finder_paper x_Finder_paper p_Finder_paper n0_Finder_paper c0_Finder_paper t_Finder_paper) (M:codeIn K c0_Finder_paper "Finder.paper"=true) (U:keepIn K (.ref f_Finder_paper)=true) (F:findIn K (.ref a) "ended"=some (some (.ref f_Finder_ended))) (N:isFn K (.ref f_Finder_ended)=true) (V:FnL K f_Finder_ended "ended" "Finder.ended" J4 o_Finder_ended d_Finder_ended s0_Finder_ended v_Finder_ended x_Finder_ended p_Finder_ended n0_Finder_ended c0_Finder_ended t_Finder_ended) (J:codeIn K c0_Finder_ended "Finder.ended"=true) (R:keepIn K (.ref f_Finder_ended)=true) :
  ∃fd:FuncData,(∀(s:Shared) (v:Value),BindsTo s fd ⟨[v],[]⟩ [("_law_script",v)])/\∀base:Heap,K.In base->base.Ns mainGlobals mg->FnOk l.prog w K mg base CX0 12 fa fd ["_law_script"] (a8m K):=by
 have e:=I2.symm.trans (PySem.W.mg_of X G H1);cases e;have T:Tx mg:=⟨PySem.W.mg_none_of X G z1,PySem.W.mg_none_of X G z2,PySem.W.mg_none_of X G z3,PySem.W.mg_none_of X G z4,PySem.W.mg_none_of X G z5,PySem.W.mg_none_of X G z6,PySem.W.mg_none_of X G z7,PySem.W.mg_none_of X G z8,PySem.W.mg_none_of X G z9,PySem.W.mg_none_of X G z10,PySem.W.mg_none_of X G z11,PySem.W.mg_none_of X G z12,PySem.W.mg_none_of X G z13,PySem.W.mg_none_of X G z14⟩;have F1:FunAt K mg "free" a4J ["width"]:=C1 X G a1 l1 H2 k1 λ_ _ _ _ _ _ g c=>by obtain⟨_,rfl⟩:=a2I c;rfl
 have F2:FunAt K mg "within" a0B ["caps","one"]:=C1 X G a2 l2 H3 k2 λ_ _ _ _ _ _ g c=>by obtain⟨_,_,rfl⟩:=W5 c;rfl
 have F3:FunAt K mg "row_sum" Y5 ["row","one"]:=C1 X G a3 l3 H4 k3 λ_ _ _ _ _ _ g c=>by obtain⟨_,_,rfl⟩:=W5 c;rfl
 have F4:FunAt K mg "sums" a4H ["rows","one"]:=C1 X G a4 l4 H5 k4 λ_ _ _ _ _ _ g c=>by obtain⟨_,_,rfl⟩:=W5 c;rfl
 have F5:FunAt K mg "is_answer" O1 ["rows","one"]:=C1 X G a5 l5 H6 k5 λ_ _ _ _ _ _ g c=>by obtain⟨_,_,rfl⟩:=W5 c;rfl
 have F6:FunAt K mg "pull_of" Y6 ["rows","totals","j"]:=C1 X G a6 l6 H7 k6 λ_ _ _ _ _ _ g c=>by obtain⟨_,_,_,rfl⟩:=a0H c;rfl
 have F7:FunAt K mg "falls" a1W ["rows","one"]:=C1 X G a7 l7 H8 k7 λ_ _ _ _ _ _ g c=>by obtain⟨_,_,rfl⟩:=W5 c;rfl
 have F8:FunAt K mg "below" a1X ["one","other"]:=C1 X G a8 l8 H9 k8 λ_ _ _ _ _ _ g c=>by obtain⟨_,_,rfl⟩:=W5 c;rfl
 have F9:FunAt K mg "plus" a4I ["one","other"]:=C1 X G a9 l9 I1 k9 λ_ _ _ _ _ _ g c=>by obtain⟨_,_,rfl⟩:=W5 c;rfl
 have r2:FunAt K mg "times" a1T ["many","one"]:=C1 X G w3 W0 j3 I3 λ_ _ _ _ _ _ g c=>by obtain⟨_,_,rfl⟩:=W5 c;rfl
 have r3:FunAt K mg "nought" a0D ["width"]:=C1 X G w4 W1 j4 I4 λ_ _ _ _ _ _ g c=>by obtain⟨_,rfl⟩:=a2I c;rfl
 have r4:FunAt K mg "unit" a4G ["width","j"]:=C1 X G w5 W2 j5 I5 λ_ _ _ _ _ _ g c=>by obtain⟨_,_,rfl⟩:=W5 c;rfl
 have r5:FunAt K mg "least_of" S7 ["some"]:=C1 X G w6 W9 j6 I6 λ_ _ _ _ _ _ g c=>by obtain⟨_,rfl⟩:=a2I c;rfl
 have r6:FunAt K mg "above_any" O2 ["some","one"]:=C1 X G w7 X3 j7 I7 λ_ _ _ _ _ _ g c=>by obtain⟨_,_,rfl⟩:=W5 c;rfl
 have r7:FunAt K mg "first_steps" K2 ["caps"]:=C1 X G w8 l15 j8 I8 λ_ _ _ _ _ _ g c=>by obtain⟨_,rfl⟩:=a2I c;rfl
 have r8:FunAt K mg "raised" a0C ["one","j"]:=C1 X G w9 l16 j9 I9 λ_ _ _ _ _ _ g c=>by obtain⟨_,_,rfl⟩:=W5 c;rfl
 have r9:FunAt K mg "steps" a1U ["rows","caps","one"]:=C1 X G x0 l17 k0 L0 λ_ _ _ _ _ _ g c=>by obtain⟨_,_,_,rfl⟩:=a0H c;rfl
 have s0:FunAt K mg "is_barred" O0 ["found","one","j"]:=C1 X G y0 l18 l0 L1 λ_ _ _ _ _ _ g c=>by obtain⟨_,_,_,rfl⟩:=a0H c;rfl
 have t0:FunAt K mg "next_level" L6 ["rows","caps","found","level","room"]:=C1 X G y1 l19 m0 L2 λ_ _ _ _ _ _ g c=>by obtain⟨_,_,_,_,_,rfl⟩:=b8P c;rfl
 have u0:FunAt K mg "least" a1V ["rows","caps","most"]:=C1 X G y2 l20 m1 N4 λ_ _ _ _ _ _ g c=>by obtain⟨_,_,_,rfl⟩:=a0H c;rfl
 have u1:FunAt K mg "together" S5 ["told","counts","width"]:=C1 X G y3 l21 m2 N6 λ_ _ _ _ _ _ g c=>by obtain⟨_,_,_,rfl⟩:=a0H c;rfl
 have u2:FunAt K mg "narrowed" S6 ["told","row","most"]:=C1 X G y4 l22 m3 Q1 λ_ _ _ _ _ _ g c=>by obtain⟨_,_,_,rfl⟩:=a0H c;rfl
 have u3:FunAt K mg "by_rows" Y7 ["rows","width","most"]:=C1 X G y5 l23 m4 Q2 λ_ _ _ _ _ _ g c=>by obtain⟨_,_,_,rfl⟩:=a0H c;rfl
 have u4:FunAt K mg "_law_pot" S8 ["_law_script"]:=C1 X G y6 l24 m5 R5 λ_ _ _ _ _ _ g c=>by obtain⟨_,rfl⟩:=a2I c;rfl
 have u5:FunAt K mg "_law_take" O3 ["_law_pot_here","_law_many"]:=C1 X G y7 l25 m6 R6 λ_ _ _ _ _ _ g c=>by obtain⟨_,_,rfl⟩:=W5 c;rfl
 have u6:FunAt K mg "_law_number" K4 ["_law_pot_here","_law_far"]:=C1 X G y8 l26 m7 R7 λ_ _ _ _ _ _ g c=>by obtain⟨_,_,rfl⟩:=W5 c;rfl
 have u7:FunAt K mg "_law_system" K3 ["_law_pot_here","_law_wide","_law_far"]:=C1 X G y9 l27 m8 R8 λ_ _ _ _ _ _ g c=>by obtain⟨_,_,_,rfl⟩:=a0H c;rfl
 have u8:FunAt K mg "_law_same" O4 ["_law_found","_law_due"]:=C1 X G z0 l28 m9 R9 λ_ _ _ _ _ _ g c=>by obtain⟨_,_,rfl⟩:=W5 c;rfl
 have u9:FunAt K mg "_law_narrowed" G4 ["_law_told","_law_row","_law_most"]:=C1 X G D1 l29 n0 S0 λ_ _ _ _ _ _ g c=>by obtain⟨_,_,_,rfl⟩:=a0H c;rfl
 have v0:FunAt K mg "_law_least_of" G5 ["_law_rows","_law_width"]:=C1 X G D2 l30 o0 S1 λ_ _ _ _ _ _ g c=>by obtain⟨_,_,rfl⟩:=W5 c;rfl
 have w0:FunAt K mg "_law_refused" J2 ["_law_rows","_law_width","_law_most"]:=C1 X G D3 l31 p0 S2 λ_ _ _ _ _ _ g c=>by obtain⟨_,_,_,rfl⟩:=a0H c;rfl
 have w1:FunAt K mg "_law_steps" L7 ["_law_rows","_law_width","_law_most"]:=C1 X G F0 l32 q0 S4 λ_ _ _ _ _ _ g c=>by obtain⟨_,_,_,rfl⟩:=a0H c;rfl
 have w2:FunAt K mg "_law_right" L8 ["_law_rows","_law_width","_law_most"]:=C1 X G H0 l33 r0 T6 λ_ _ _ _ _ _ g c=>by obtain⟨_,_,_,rfl⟩:=a0H c;rfl
 refine⟨fnOf "law" "law" (P7 a2r) (E1 a2r) (A2 a2r) .none v34 x34 p34 n34 c34 t34,λs v=>.of_eq rfl,λbase XB GB=>?_⟩;have f0:=PySem.W.mg_of X G e5;have e9:=PySem.W.mg_of X G e4;have j1:=PySem.W.mg_of X G i9;have i7:=PySem.W.mg_of X G h8;have i8:=PySem.W.mg_of X G h9;have f:=PySem.W.mg_of X G g0;have i6:=PySem.W.mg_of X G h7;have b0:Cls K a:=⟨pg_Finder,i0,i3,i4⟩;have q:MethAt K a "__init__" "Finder.__init__" D9 ["self","rows","caps"]:=a2F t x z u y λ_ _ _ _ _ _ g c=>by obtain⟨_,_,_,rfl⟩:=a0H c;rfl
 have j0:MethAt K a "step" "Finder.step" a0f ["self"]:=a2F b1 b5 b9 b3 b7 λ_ _ _ _ _ _ g c=>by obtain⟨_,rfl⟩:=a2I c;rfl
 have d:MethAt K a "step_within" "Finder.step_within" C3 ["self","room"]:=a2F i k n j m λ_ _ _ _ _ _ g c=>by obtain⟨_,_,rfl⟩:=W5 c;rfl
 have i5:MethAt K a "level" "Finder.level" V6 ["self"]:=a2F H O W L S λ_ _ _ _ _ _ g c=>by obtain⟨_,rfl⟩:=a2I c;rfl
 have E:MethAt K a "told" "Finder.told" K5 ["self"]:=a2F b2 b6 c0 b4 b8 λ_ _ _ _ _ _ g c=>by obtain⟨_,rfl⟩:=a2I c;rfl
 have B:MethAt K a "paper" "Finder.paper" J3 ["self"]:=a2F I Q Y M U λ_ _ _ _ _ _ g c=>by obtain⟨_,rfl⟩:=a2I c;rfl
 have A:MethAt K a "ended" "Finder.ended" J4 ["self"]:=a2F F N V J R λ_ _ _ _ _ _ g c=>by obtain⟨_,rfl⟩:=a2I c;rfl
 have FL:=a2X (st:=a2r) l34 r1 U3;have RS:=a7o (base:=base) (P:=l.prog) (w:=w) F3 T;have SU:=b4L F4 T RS;have IA:=a4P F5 T SU;have FA:=b2m F7 T (a7q F6 T) SU;have BE:=b2o (base:=base) (P:=l.prog) (w:=w) F8 T;have ST:=b2h r9 T FA (a9U r8);have NX:=a3t t0 T ST (a4O s0 T BE);have FS:=a2z (base:=base) (P:=l.prog) (w:=w) r7 T (b4I r4 T) (a9T F2 T);have UF:FiTx K a:=⟨b0,e1,d0,Z,e0,a0,C⟩;have MI:=(b2l (base:=base) (P:=l.prog) (w:=w) (mg:=mg) q UF).make i6 i2 i1;have MS:=b2g d UF T NX FS IA;have ME:=b2n (base:=base) (P:=l.prog) (w:=w) A UF T;have MT:=b4J (base:=base) (P:=l.prog) (w:=w) E UF T;have MP:=b2j (base:=base) (P:=l.prog) (w:=w) B UF T;have LE:=b2k u0 T UF b0 MI MS ME MT MP (b6R XB f h1 h6 h3 g5);have TK:=b4K (base:=base) (P:=l.prog) (w:=w) u5 T;have SY:=b7a u7 T TK (a9V u6 T TK);have FR:=b4O (base:=base) (P:=l.prog) (w:=w) F1;have TG:=a5Z u1 T (a9W r3) (b2f (base:=base) (P:=l.prog) (w:=w) r2 T) (b4M F9 T);have LO:=a6b r5 T (a3u r6 T BE);have NR:=a6a u2 T RS FR TG LO LE;have BR:=a7r u3 T FR FS NR;have SM:=a8E (base:=base) (P:=l.prog) (w:=w) u8 T 4;have XT:=a2d q3;have ST:=a9X w1 T (b4N u9 T NR f XT);have RF:=a7p w0 T BR e9 (a2d q1) (a2d q2) f0 j1 i7 i8 f ⟨a2d q3,q4,q5,q6,q7⟩ q8 q9 q10;exact b7d FL T (b7b u4 T) TK SY (b2i w2 T ST RF (OkE.no BR) (b7c v0 T LE f XT) SM)
end K35
namespace PySem.W.Fast
theorem tw17816813942791021868:True:=⟨⟩
theorem tw12075362212845432666:True:=⟨⟩
theorem tw7899153297320535519:True:=⟨⟩
theorem tw2852877272869242734:True:=⟨⟩
theorem tw3256984627192568319:True:=⟨⟩
theorem tw4666406825067105491:True:=⟨⟩
theorem tw10896737575311971899:True:=⟨⟩
theorem tw12550783449921091504:True:=⟨⟩
theorem tw14154874194625587523:True:=⟨⟩
theorem tw10194044436626583279:True:=⟨⟩
theorem tw15145026477645613949:True:=⟨⟩
theorem tw5133957030027179243:True:=⟨⟩
theorem tw17415410887779138190:True:=⟨⟩
theorem tw280414410509891585:True:=⟨⟩
theorem tw6269318868545220286:True:=⟨⟩
theorem tw1677813317153749051:True:=⟨⟩
theorem tw16021842725960827754:True:=⟨⟩
theorem tw7302434073552736906:True:=⟨⟩
theorem tw5719074131169959331:True:=⟨⟩
theorem tw11394901386590940499:True:=⟨⟩
theorem tw2171372596038411430:True:=⟨⟩
theorem tw17512418197309715431:True:=⟨⟩
theorem tw10516258982286154911:True:=⟨⟩
theorem tw15931741101504799514:True:=⟨⟩
theorem tw12877799535082691230:True:=⟨⟩
theorem tw18065221785446592772:True:=⟨⟩
theorem tw9565297051182544414:True:=⟨⟩
theorem tw2226821969595574659:True:=⟨⟩
theorem tw4586845465717990703:True:=⟨⟩
theorem tw7332129354845585827:True:=⟨⟩
theorem tw10270485997436477897:True:=⟨⟩
theorem tw12612559288878507719:True:=⟨⟩
theorem tw9932320401059733353:True:=⟨⟩
theorem tw15524694075045387310:True:=⟨⟩
theorem tw5705318996879011706:True:=⟨⟩
theorem tw3563667353535653251:True:=⟨⟩
theorem tw18100565879134767631:True:=⟨⟩
theorem tw17326149701593354936:True:=⟨⟩
theorem tw10833306469439500130:True:=⟨⟩
theorem tw4449920382847130294:True:=⟨⟩
theorem tw12883588770368559407:True:=⟨⟩
theorem tw1274345057360106986:True:=⟨⟩
theorem tw3726088140244650919:True:=⟨⟩
theorem tw7827031514464860893:True:=⟨⟩
theorem tw16012290957301607496:True:=⟨⟩
theorem tw6513567273462787651:True:=⟨⟩
theorem tw15579475049923787357:True:=⟨⟩
theorem tw17280401385922877822:True:=⟨⟩
theorem tw7956069883125206056:True:=⟨⟩
theorem tw10709528128246977795:True:=⟨⟩
theorem tw15875981669801276803:True:=⟨⟩
theorem tw5771272230666620904:True:=⟨⟩
theorem tw14410547865404015004:True:=⟨⟩
theorem tw15734239348558068815:True:=⟨⟩
theorem tw15767113893684970326:True:=⟨⟩
theorem tw10157493757207147854:True:=⟨⟩
theorem tw16888468703698705386:True:=⟨⟩
theorem tw11823322549580781450:True:=⟨⟩
theorem tw8742495652402829068:True:=⟨⟩
theorem tw16102317510418054166:True:=⟨⟩
theorem tw8341045464705840534:True:=⟨⟩
theorem tw1915248536204824824:True:=⟨⟩
theorem tw4363724769363705449:True:=⟨⟩
theorem tw12965551906321051967:True:=⟨⟩
theorem tw6727787342646466553:True:=⟨⟩
theorem tw15887249994202749150:True:=⟨⟩
theorem tw10873378504575980986:True:=⟨⟩
theorem tw16199520865268727417:True:=⟨⟩
theorem tw4547771163726521075:True:=⟨⟩
theorem tw15180974449920008269:True:=⟨⟩
theorem tw4076329099702531033:True:=⟨⟩
theorem tw10596055266465683522:True:=⟨⟩
theorem tw14010296447166269936:True:=⟨⟩
theorem tw10855699979844393146:True:=⟨⟩
theorem tw15852198772308839902:True:=⟨⟩
theorem tw11375461975545043824:True:=⟨⟩
theorem tw13315688015517789967:True:=⟨⟩
theorem tw17852952136585196291:True:=⟨⟩
theorem tw15865120845276393924:True:=⟨⟩
theorem tw354350253935592930:True:=⟨⟩
theorem tw3165247076940209708:True:=⟨⟩
theorem tw16816715104748176393:True:=⟨⟩
theorem tw767848284006405249:True:=⟨⟩
theorem tw14371949123400525184:True:=⟨⟩
theorem tw10423123785045015438:True:=⟨⟩
theorem tw6128785381702084815:True:=⟨⟩
theorem tw12327704325445258462:True:=⟨⟩
theorem tw14570212439639303301:True:=⟨⟩
theorem tw12902915084135625970:True:=⟨⟩
theorem tw17480397572087531545:True:=⟨⟩
theorem tw8377205351831901928:True:=⟨⟩
theorem tw12639273737607760162:True:=⟨⟩
theorem tw16652074025240812096:True:=⟨⟩
theorem tw13043095807329066777:True:=⟨⟩
theorem tw15156660983261074191:True:=⟨⟩
theorem tw9890724533261879848:True:=⟨⟩
theorem tw18230456764633294898:True:=⟨⟩
theorem tw4477642179897831842:True:=⟨⟩
theorem tw5962242698631608336:True:=⟨⟩
theorem tw2741361986972663857:True:=⟨⟩
theorem tw3499792017429176560:True:=⟨⟩
end PySem.W.Fast
open PySem PySem.W PyProof.Rows
set_option maxRecDepth 100000 in
set_option maxHeartbeats 0 in
theorem PySem.Challenge.cw_leastlays_k35_by_rows_holds : PySem.Challenge.rw_leastlays_k35_by_rows.Holds := by
 w_on;o_law;k_head;(case hw=>w_witness2)
 k_fill
 refine L2.law_walk (l:=PySem.Challenge.rw_leastlays_k35_by_rows) 12 rfl rfl ⟨rfl,by decide,by decide⟩ (λw h Y=>PySem.W.kIn_of Y) ?F
 case F =>
  intro w mg fa h KX G hmg
  refine' K35.all_mk KX G hmg ?a1 ?l1 ?c_1 ?k1 ?a2 ?l2 ?c_2 ?k2 ?a3 ?l3 ?c_3 ?k3 ?a4 ?l4 ?c_4 ?k4 ?a5 ?l5 ?c_5 ?k5 ?a6 ?l6 ?c_6 ?k6 ?a7 ?l7 ?c_7 ?k7 ?a8 ?l8 ?c_8 ?k8 ?a9 ?l9 ?c_9 ?k9 ?a10 ?l10 ?c_10 ?k10 ?a11 ?l11 ?c_11 ?k11 ?a12 ?l12 ?c_12 ?k12 ?a13 ?l13 ?c_13 ?k13 ?a14 ?l14 ?c_14 ?k14 ?a15 ?l15 ?c_15 ?k15 ?a16 ?l16 ?c_16 ?k16 ?a17 ?l17 ?c_17 ?k17 ?a18 ?l18 ?c_18 ?k18 ?a19 ?l19 ?c_19 ?k19 ?a20 ?l20 ?c_20 ?k20 ?a21 ?l21 ?c_21 ?k21 ?a22 ?l22 ?c_22 ?k22 ?a23 ?l23 ?c_23 ?k23 ?a24 ?l24 ?c_24 ?k24 ?a25 ?l25 ?c_25 ?k25 ?a26 ?l26 ?c_26 ?k26 ?a27 ?l27 ?c_27 ?k27 ?a28 ?l28 ?c_28 ?k28 ?a29 ?l29 ?c_29 ?k29 ?a30 ?l30 ?c_30 ?k30 ?a31 ?l31 ?c_31 ?k31 ?a32 ?l32 ?c_32 ?k32 ?a33 ?l33 ?c_33 ?k33 ?a34 ?l34 ?c_34 ?k34 ?z1 ?z2 ?z3 ?z4 ?z5 ?z6 ?z7 ?z8 ?z9 ?z10 ?z11 ?z12 ?z13 ?z14 ?aD_NoAnswer ?aD_LayError ?aD_NoLay ?aD_NoLine ?aD_NoText ?aD_TooMany ?aD_Finder ?q1 ?q2 ?q3 ?q4 ?q5 ?q6 ?q7 ?q8 ?q9 ?q10 ?lx_TooMany ?tx_TooMany ?ok_TooMany ?in_TooMany ?be_TooMany ?pg_Finder ?hd_Finder ?po_Finder ?sa_Finder ?mk_Finder ?kc_Finder ?n_Finder_rows ?n_Finder_caps ?n_Finder_begun ?n_Finder_here ?n_Finder_found ?n_Finder_walked ?a_Finder___init__ ?i_Finder___init__ ?l_Finder___init__ ?c_Finder___init__ ?k_Finder___init__ ?a_Finder_step ?i_Finder_step ?l_Finder_step ?c_Finder_step ?k_Finder_step ?a_Finder_step_within ?i_Finder_step_within ?l_Finder_step_within ?c_Finder_step_within ?k_Finder_step_within ?a_Finder_level ?i_Finder_level ?l_Finder_level ?c_Finder_level ?k_Finder_level ?a_Finder_told ?i_Finder_told ?l_Finder_told ?c_Finder_told ?k_Finder_told ?a_Finder_paper ?i_Finder_paper ?l_Finder_paper ?c_Finder_paper ?k_Finder_paper ?a_Finder_ended ?i_Finder_ended ?l_Finder_ended ?c_Finder_ended ?k_Finder_ended
  (case a1|l1|c_1|k1|a2|l2|c_2|k2|a3|l3|c_3|k3|a4|l4|c_4|k4|a5|l5|c_5|k5|a6|l6|c_6|k6|a7|l7|c_7|k7|a8|l8|c_8|k8|a9|l9|c_9|k9|a10|l10|c_10|k10|a11|l11|c_11|k11|a12|l12|c_12|k12|a13|l13|c_13|k13|a14|l14|c_14|k14|a15|l15|c_15|k15|a16|l16|c_16|k16|a17|l17|c_17|k17|a18|l18|c_18|k18|a19|l19|c_19|k19|a20|l20|c_20|k20|a21|l21|c_21|k21|a22|l22|c_22|k22|a23|l23|c_23|k23|a24|l24|c_24|k24|a25|l25|c_25|k25|a26|l26|c_26|k26|a27|l27|c_27|k27|a28|l28|c_28|k28|a29|l29|c_29|k29|a30|l30|c_30|k30|a31|l31|c_31|k31|a32|l32|c_32|k32|a33|l33|c_33|k33|a34|l34|c_34|k34|z1|z2|z3|z4|z5|z6|z7|z8|z9|z10|z11|z12|z13|z14|aD_NoAnswer|aD_LayError|aD_NoLay|aD_NoLine|aD_NoText|aD_TooMany|aD_Finder=>(try unfold L2.FnL);k_is)
  (case q1|q2|q3|q4|q5|q6|q7|q8|q9|q10|lx_TooMany|tx_TooMany|ok_TooMany|in_TooMany|be_TooMany=>first|k_is|kernel_rfl|rfl)
  (case pg_Finder|hd_Finder|po_Finder|sa_Finder|mk_Finder|kc_Finder|n_Finder_rows|n_Finder_caps|n_Finder_begun|n_Finder_here|n_Finder_found|n_Finder_walked|a_Finder___init__|i_Finder___init__|l_Finder___init__|c_Finder___init__|k_Finder___init__|a_Finder_step|i_Finder_step|l_Finder_step|c_Finder_step|k_Finder_step|a_Finder_step_within|i_Finder_step_within|l_Finder_step_within|c_Finder_step_within|k_Finder_step_within|a_Finder_level|i_Finder_level|l_Finder_level|c_Finder_level|k_Finder_level|a_Finder_told|i_Finder_told|l_Finder_told|c_Finder_told|k_Finder_told|a_Finder_paper|i_Finder_paper|l_Finder_paper|c_Finder_paper|k_Finder_paper|a_Finder_ended|i_Finder_ended|l_Finder_ended|c_Finder_ended|k_Finder_ended=>(try unfold L2.FnL);k_is)
#print axioms PySem.Challenge.cw_leastlays_k35_by_rows_holds
