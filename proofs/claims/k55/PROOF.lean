import PyProof.Rows.All
import Wide.All
import OpenK.AllK
import Wide.FinOn
import Lean
import PyProof.EqAt
import PyProof.EqKinds
import PyProof.TupleCall
import PyProof.ZipIter
import PyProof.ExcArgsOwn
import PyProof.ExcAttrAll.ValueError
import KE.KSortTup
import PyProof.AutoSeq1
import PySem.SetTable
import PyProof.SetNew
import PyProof.TupleKey
import PyProof.DictRoadsH
import PyProof.DictKinds
import PyProof.IsRules
import PyProof.Rows.SetFrom
import PyProof.WalksMore
import KE.KDictSum
import KE.KDictOf
import PyProof.AttrMissHeap
import PyProof.MeetsStr
import PyProof.MeetsStr2
import PyProof.StrLawsJoin
import PyProof.StrLawsChain
import PyProof.Rows.StrItems
import KE.KIntText
import PyProof.Rows.ReprOcc
import PyProof.StrWalks
import PyProof.CallType
import PyProof.StrOps
import PyProof.StrLawsIn
import PyProof.Rows.CallKwBuiltin
import PyProof.MinMaxWalk
import PySem.Challenge.RW_leastlays_k55_whole_papers_through_texts
set_option compiler.extract_closed false
set_option bootstrap.genMatcherCode false
set_option genSizeOf false
set_option Elab.async false
set_option linter.all false
set_option maxRecDepth 100000
set_option maxHeartbeats 4000000
def aa:=@PySem.wpAny_bind
def ae:=@PySem.Heap.get?_push_of_some
def ag:=@List.length_map
def ai:=@PySem.wpAny_pure
def aj:=@List.getElem?_eq_getElem
def ak:=@Nat.le_refl
def ao:=@List.mem_cons_self
def aq:=@if_neg
def ar:=@List.mem_cons_of_mem
def au:=@List.length_append
def av:=@Array.getElem?_toList
def ax:=@Array.length_toList
def ay:=@List.mem_append
def az:=@List.mem_cons
def aA:=@List.mem_of_getElem?
def aB:=@List.getD_eq_getElem?_getD
def aC:=@PySem.Heap.get?_push_size
def aD:=@if_pos
def aE:=@PyProof.Rows.wpS_bind
def aF:=@List.size_toArray
def aG:=@List.append_assoc
def aH:=@List.all_eq_true
def aI:=@PySem.Heap.lt_size
def aJ:=@Bool.and_eq_true
def aK:=@List.getElem?_eq_some_iff
def aL:=@congrArg
def aM:=@PyProof.Rows.wpS_pure
def aN:=@List.getElem?_map
def aO:=@Nat.lt_of_lt_of_le
def aP:=@List.mem_singleton
def aQ:=@List.mem_append_right
def aR:=@List.mem_append_left
def aS:=@List.length_take
def aT:=@List.mem_map
def aU:=@decide_eq_true
def aV:=@Nat.ne_of_lt
def aW:=@List.map_cons
def aX:=@PySem.sizeLine_eq
def aY:=@List.length_cons
def aZ:=@List.mem_filter
def a':=@Bool.false_ne_true
def a_:=@Nat.le_trans
def ba:=@List.getElem?_append_right
def bb:=@List.mem_range
def bf:=@List.take_add_one
def bg:=@decide_eq_false
def bh:=@List.take_append_drop
def bj:=@beq_iff_eq
def bo:=@List.take_of_length_le
def bp:=@List.zipWith_cons_cons
def bq:=@PySem.Heap.size_push
def br:=@Nat.zero_le
def bt:=@List.length_take_le
def bu:=@List.not_mem_nil
def bw:=@List.getElem?_append_left
def bx:=@List.take_length
def bz:=@decide_eq_true_eq
def bA:=@List.any_eq_true
def bB:=@List.pairwise_append
def bC:=@List.mem_of_mem_take
def bD:=@List.length_filter_le
def bE:=@of_decide_eq_true
def bF:=@Option.some.inj
def bG:=@List.length_drop
def bH:=@PySem.wpAny_callSpecial?_slot
def bI:=@PySem.wpAny_call_entry
def bJ:=@Array.toList_append
def bK:=@List.sum_cons
def bL:=@List.map_append
def bM:=@Array.getElem?_eq_getElem
def bN:=@Array.getD_eq_getD_getElem?
def bO:=@PyProof.Rows.KeyOrd.kle_trans
def bP:=@PyProof.Rows.KeyOrd.kle_of_klt
def bQ:=@PySem.wpAny_field
def bR:=@Classical.byContradiction
def bS:=@Nat.lt_succ_self
def bT:=@List.lookup_cons
def bU:=@Nat.le_add_right
def bV:=@Nat.lt_irrefl
def bW:=@PySem.wpAny_holding
def bX:=@Int.toNat_natCast
def bY:=@PySem.wpAny_newObj_type
def bZ:=@Nat.lt_succ_of_lt
def b_:=@List.nil_append
def cb:=@PySem.wpAny_setField_rec
def cc:=@List.drop_eq_nil_of_le
def cf:=@eq_of_heq
def cg:=@Bool.eq_iff_iff
def cj:=@PyProof.Rows.wpS_forRange
def ck:=@List.Perm.append_left
def cm:=@List.mem_iff_getElem?
def cn:=@List.pairwise_map
def cp:=@PySem.wpAny_setState_of
def cq:=@List.nodup_cons
def cu:=@List.mem_iff_getElem
def cv:=@List.mem_of_mem_drop
def cw:=@PyProof.Rows.KeyOrd.kle_refl
def cx:=@or_false
def cy:=@List.drop_eq_getElem_cons
def cz:=@beq_eq_false_iff_ne
def cA:=@PySem.Heap.SameBut.update
def cB:=@PyProof.Rows.wpS_mono
def cC:=@List.perm_append_comm
def cD:=@List.pairwise_cons
def cE:=@Nat.le_of_lt
def cF:=@PySem.wpAny_seqItems
def cG:=@PySem.wpAny_truthy_bool
def cH:=@PySem.Heap.get?_update_self
def cI:=@List.getElem?_eq_none
def cJ:=@List.drop_append_of_le_length
def cK:=@Nat.ne_of_gt
def cL:=@List.mem_filterMap
def cM:=@PySem.Obj.data_mapFields
def cN:=@List.map_map
def cO:=@Nat.mod_eq_of_lt
def cP:=@List.all_cons
def cQ:=@Bool.false_or
def cR:=@List.drop_zero
def cS:=@Array.toList_push
def cT:=@Nat.min_eq_left
def cU:=@PySem.codeAny_mono
def cW:=@PySem.wpAny_mono
def cX:=@Array.getElem?_eq_some_iff
def cY:=@List.getElem_mem
def cZ:=@PySem.wpAny_Call_Name_kw
def c_:=@Int.emod_lt_of_pos
def de:=@List.append_nil
def df:=@List.getElem?_take_of_lt
def dg:=@Nat.pow_succ
def dh:=@PySem.codeAny_builtin
def di:=@Nat.lt_trichotomy
def dj:=@PySem.wpAny_attempt
def dk:=@List.take_append_of_le_length
def dm:=@PySem.wpAny_typeNameOfWhole_keyiter
def dn:=@List.getElem?_cons_succ
def dq:=@Array.getElem?_eq_none
def dr:=@Nat.zero_add
def dt:=@List.set_cons_zero
def du:=@PyProof.Rows.F.plain_set_update_loop
def dv:=@Ne.symm
def dw:=@PySem.wpAny_passesOwn
def dy:=@Int.emod_nonneg
def dz:=@PySem.F.slot_tuple_iterator_next
def dC:=@Array.perm_iff_toList_perm
def dD:=@PySem.Around.under_plainId
def dE:=@ite_congr
def dF:=@PySem.wpAny_setField
def dG:=@PySem.isSubtype_type
def dH:=@List.map_nil
def dI:=@List.cons_append
def dJ:=@PySem.wpAny_typeNameOf_keyiter
def dM:=@List.replicate_succ
def dN:=@PyProof.Rows.slot_tuple_getitem
def dO:=@List.getElem?_cons_zero
def dP:=@Nat.add_assoc
def dQ:=@PySem.wpAny_execs_nil
def dR:=@PySem.call_meets
def dS:=@List.foldl_cons
def dU:=@List.find?_cons
def dV:=@List.set_cons_succ
def dW:=@Nat.le_succ
def dX:=@List.any_eq_false
def dY:=@Nat.le_of_lt_succ
def dZ:=@Bool.not_eq_true'
def d_:=@Bool.false_and
def ed:=@List.length_replicate
def eh:=@PySem.Obj.isFreed_of_fields
def ei:=@Nat.lt_trans
def ek:=@List.take_zero
def el:=@PySem.F.slot_enumerate_next
def ez:=@PyProof.Rows.callWith_type1
def eB:=@heq_of_eq
def eC:=@Array.mem_toList_iff
def eD:=@PySem.wpAny_isInstance
def eE:=@beq_self_eq_true
def eF:=@Array.toList_extract
def eG:=@Nat.mod_lt
def eH:=@PySem.wpAny_askSetting
def eI:=@PySem.codeAny_call_builtin
def eJ:=@Option.bind_some
def eM:=@List.nodup_iff_pairwise_ne
def eN:=@Bool.true_and
def eO:=@List.length_zipWith
def eQ:=@List.replicate_zero
def eR:=@List.length_nil
def eS:=@List.pairwise_iff_getElem
def eT:=@PySem.Calls.call_function_entry
def eU:=@List.mem_or_eq_of_mem_set
def eV:=@PyProof.Rows.KeyOrd.klt_of_kle_of_klt
def eW:=@Nat.add_sub_cancel
def eX:=@Array.size_setIfInBounds
def eY:=@Nat.lt_of_le_of_lt
def eZ:=@Nat.succ_pos
def e_:=@Bool.and_false
def fb:=@if_true
def fc:=@List.nodup_nil
def fe:=@PyProof.Rows.wpS_get
def ff:=@List.length_eq_zero_iff
def fg:=@PySem.wpAny_pyIter_list
def fh:=@PySem.Obj.cls_mapFields
def fi:=@List.getElem_take
def fj:=@List.getElem_drop
def fk:=@List.ext_getElem?
def fm:=@PySem.wpAny_dictEntries
def fo:=@List.length_range
def fq:=@List.nodup_append
def ft:=@Option.some.injEq
def fu:=@PySem.Heap.get?_update_other
def fz:=@Option.map_eq_some_iff
def fA:=@Bool.or_false
def fB:=@List.any_cons
def fC:=@List.map_take
def fD:=@List.map_drop
def fE:=@List.ext_getElem
def fF:=@Array.toList_inj
def fG:=@List.nodup_range
def fH:=@Option.bind_none
def fJ:=@Option.join_some
def fK:=@List.length_singleton
def fL:=@PySem.weight_type_call_type
def fM:=@PySem.builtinLookup_eq_fast
def fN:=@PySem.wpAny_call
def fO:=@PySem.wpAny_typeOf
def fP:=@PySem.typeIs_str
def fQ:=@PySem.pushCells_keeps
def fR:=@PySem.wpAny_rule
def fS:=@PySem.wpAny_updateSeq_pair
def fT:=@PySem.F.slot_zip_next
def fU:=@Array.toList_reverse
def fV:=@Nat.lt_or_ge
def fW:=@Nat.succ.inj
def fX:=@Nat.mul_comm
def fY:=@PySem.codeAny_of_tree
def fZ:=@exists_eq_left'
def f':=@exists_and_left
abbrev LLI:=List (List Int)
abbrev qA:=@List
abbrev qB:=@PySem.Value
abbrev qC:=@PySem.Shared
abbrev qD:=@Option
abbrev qE:=@PySem.Addr
abbrev qF:=@PySem.W.Frag
abbrev qG:=@PySem.Program
abbrev qH:=PySem.Value->PySem.Shared->Prop
abbrev qI:=List Int
abbrev qJ:=Option Nat
noncomputable section
def L2.nd(l:qA PySem.Str)(h:l.Nodup:=by decide +kernel):l.Nodup:=h
namespace L2
open PySem PySem.Spec PyProof.Rows
variable {A:Around}{C a b dx:qE}{E Q:qH}{K:qF}{M:Model}{P:qG}{base h h':Heap}{body:qA Stmt}{c e l tg:Expr}{ch fp:qA qE}{es:qA Expr}{f:qB->qB->Sem qB}{fd:FuncData}{i k n t':Nat}{kw:qA (Str×qB)}{mA mg:Str->qD qB}{qK:qA (qE×Obj)}{pl:Sem Bool}{pos:Pos}{ps:qA Str}{s:qC}{u:qB}{us:qA qB}{w:World}{x:Str}
abbrev Key:=Sum Int Str
def a4E:Key->qB->Bool
 |.inl k,v=>Value.isInt k v
 |.inr x,v=>Value.isStrOf x v
def c0l(w:World):Key->Int
 |.inl k=>hashInt k
 |.inr x=>hashStr w x
def D0:∀{k:Key}{v:qB},a4E k v=true->(∃i t,k=Sum.inl i/\v=Value.int i t)∨(∃x t,k=Sum.inr x/\v=Value.str x t)
 |.inl i,v,h=>by
  obtain⟨t,e⟩:=Value.isInt_shape (k:=i) (v:=v) h;exact .inl ⟨i,t,rfl,e⟩
 |.inr x,v,h=>by
  obtain⟨t,e⟩:=Value.isStrOf_shape (x:=x) (v:=v) h;exact .inr ⟨x,t,rfl,e⟩
def b0V(i:Int)(t:Tok):a4E (.inl i) (.int i t)=true:=by simp[a4E,Value.isInt]
def b0U(x:Str)(t:Tok):a4E (.inr x) (.str x t)=true:=by simp[a4E,Value.isStrOf]
def b8Q(a b:Int):decide ((Sum.inl a:Key)=Sum.inl b)=(a==b):=by
 by_cases e:a=b
 .subst e;simp
 .have h:¬(Sum.inl a:Key)=Sum.inl b:=λq=>e (Sum.inl.inj q);rw[bg h];exact(cz.mpr e).symm
def b8N(a b:Str):decide ((Sum.inr a:Key)=Sum.inr b)=decide (a=b):=by
 by_cases e:a=b
 .subst e;simp
 .have h:¬(Sum.inr a:Key)=Sum.inr b:=λq=>e (Sum.inr.inj q);rw[bg h,bg e]
def b8P(a:Int)(b:Str):decide ((Sum.inl a:Key)=Sum.inr b)=false:=bg (λq=>nomatch q)
def b8O(a:Str)(b:Int):decide ((Sum.inr a:Key)=Sum.inl b)=false:=bg (λq=>nomatch q)
def C0(prog:qG)(w:World):PySem.KeyKind prog w Key where
 is:=a4E
 hash:=c0l w
 inj:=λv a b ha hb=>by
  rcases D0 ha with⟨i,t,rfl,rfl⟩|⟨x,t,rfl,rfl⟩
  .rcases D0 hb with⟨j,u,rfl,e⟩|⟨y,u,rfl,e⟩
   .injection e with e1 _;rw[e1]
   .exact nomatch e
  .rcases D0 hb with⟨j,u,rfl,e⟩|⟨y,u,rfl,e⟩
   .exact nomatch e
   .injection e with e1 _;rw[e1]
 byValue:=λk v h=>by
  rcases D0 h with⟨i,t,rfl,rfl⟩|⟨x,t,rfl,rfl⟩<;>rfl
 pyHash:=λhv h=>by
  rcases D0 hv with⟨i,t,rfl,rfl⟩|⟨x,t,rfl,rfl⟩
  .exact wpAny_pyHash_int h
  .exact wpAny_pyHash_str h
 eqBool:=λhu hv h=>by
  rcases D0 hu with⟨i,t,rfl,rfl⟩|⟨x,t,rfl,rfl⟩
  .rcases D0 hv with⟨j,u,rfl,rfl⟩|⟨y,u,rfl,rfl⟩
   .rw[b8Q]at h;exact wpAny_eqBool_int h
   .rw[b8P]at h;exact SeqAt.EqAt.int_str i t y u _ _ _ _ h
  .rcases D0 hv with⟨j,u,rfl,rfl⟩|⟨y,u,rfl,rfl⟩
   .rw[b8O]at h;exact SeqAt.EqAt.str_int x t j u _ _ _ _ h
   .rw[b8N]at h;exact wpAny_eqBool_str h
 «strs»:=λk x t v h=>by
  rcases D0 h with⟨i,u,rfl,e⟩|⟨y,u,rfl,e⟩
  .exact nomatch e
  .injection e with e1 _
   subst e1;cases v<;>rfl
def a6U(prog:qG)(w:World)(i:Int)(t:Tok):(C0 prog w).is (.inl i) (.int i t)=true:=b0V i t
def a6T(prog:qG)(w:World)(x:Str)(t:Tok):(C0 prog w).is (.inr x) (.str x t)=true:=b0U x t
inductive V where
 |non|bl (b:Bool)|int (i:Int)|str (x:Str)|byt (b:Array UInt8)|flt (b:UInt64)|ref (a:qE)|ty (n:String)
 deriving DecidableEq
variable {v:V}{vs xs:qA V}
def RelV:V->qB->Prop
 |.non,u=>u=Value.none
 |.bl b,u=>u=Value.bool b
 |.int i,u=>∃t,u=Value.int i t
 |.str x,u=>∃t,u=Value.str x t
 |.byt b,u=>∃t,u=Value.bytes b t
 |.flt b,u=>∃t,u=Value.float b t
 |.ref a,u=>u=Value.ref a
 |.ty n,u=>u=Value.type n
abbrev Vals:qA V->qA qB->Prop:=Paired RelV
def Vals.length{xs:qA V}{us:qA qB}(r:Vals xs us):xs.length=us.length:=Paired.length r
def Vals.get:∀{xs:qA V}{us:qA qB}{i:Nat}{x:V},Vals xs us->xs[i]?=some x->∃u,us[i]?=some u/\RelV x u
 |_,_,_,_,.nil,e=>by simp at e
 |_,_,0,_,.cons r _,e=>by simp at e;subst e;exact⟨_,rfl,r⟩
 |_,_,i+1,x,.cons _ t,e=>by
  obtain⟨u,h1,h2⟩:=Vals.get (i:=i) (x:=x) t (by simpa using e);exact⟨u,by simpa using h1,h2⟩
def Vals.set{x:V}{u:qB}(r:RelV x u):∀{xs:qA V}{us:qA qB}(i:Nat),Vals xs us->Vals (xs.set i x) (us.set i u)
 |_,_,_,.nil=>.nil
 |_,_,0,.cons _ t=>.cons r t
 |_,_,i+1,.cons q t=>.cons q (Vals.set r i t)
def Vals.append:∀{xs ys:qA V}{us a:qA qB},Vals xs us->Vals ys a->Vals (xs++ys) (us++a)
 |_,_,_,_,.nil,s=>s
 |_,_,_,_,.cons r t,s=>.cons r (Vals.append t s)
def Vals.take:∀{xs:qA V}{us:qA qB}(n:Nat),Vals xs us->Vals (xs.take n) (us.take n)
 |_,_,0,_=>.nil
 |_,_,_+1,.nil=>.nil
 |_,_,n+1,.cons r t=>.cons r (Vals.take n t)
def Vals.drop:∀{xs:qA V}{us:qA qB}(n:Nat),Vals xs us->Vals (xs.drop n) (us.drop n)
 |_,_,0,r=>r
 |_,_,_+1,.nil=>.nil
 |_,_,n+1,.cons _ t=>Vals.drop n t
def RelO:qD V->qD qB->Prop
 |some v,some u=>RelV v u
 |none,none=>True
 |_,_=>False
def KV{κ:Type}:qA (κ×V)->qA (κ×qB)->Prop:=Paired λ(p:κ×V) (q:κ×qB)=>p.1=q.1/\RelV p.2 q.2
def kV:Key->V
 |.inl i=>.int i
 |.inr x=>.str x
inductive HO where
 |lst (xs:qA V)
 |tup (xs:qA V)
 |dK (qL:qA (Key×V))|dT (qL:qA (qA Key×V))
 |set (S:Int->Bool) (n:Nat)
 |ins (C dx:qE) (fs:qA (Str×V))
 |own (x:qE)
 |xd (fs:qA (Str×V))
 |met (f x:qE)
 |rng (lo hi:Int)
 |frz (o:Obj) (u:HO)
 |tbl (ps:Array qB)
 |ext (φ:Heap->Prop)
variable {o:HO}
abbrev Hp:=qE->qD HO
variable {H H':Hp}
def upd(H:Hp)(a:qE)(o:HO):Hp:=λb=>if b=a then some o else H b
def A0:upd H a o a=some o:=by unfold upd;rw[aD rfl]
def A2(h:b≠a):upd H a o b=H b:=by unfold upd;rw[aq h]
def a4Z{u:HO}:upd (upd H a o) a u=upd H a u:=by
 funext b;unfold upd;split<;>rfl
def J7{u:HO}(h:H a=some o)(h':H b=some u)(d:o≠u):a≠b:=by
 intro e;subst e;rw[h]at h';exact d (bF h')
def A5(h:H a=some o)(h':H b=none):a≠b:=by
 intro e;subst e;rw[h]at h';cases h'
section
variable (P:qG)(w:World)
def ObjOk(H:Hp)(h:Heap)(a:qE):HO->Prop
 |.lst xs=>xs.length<=sizeLine/\∃(its:qA qB) (n:Nat),Vals xs its/\h.get? a=some {cls:=.type "list",data:=.seq its.toArray n}
 |.tup xs=>xs.length<=sizeLine/\∃its:qA qB,Vals xs its/\IsTup h a its.toArray
 |.dK qL=>qL.length<=sizeLine/\(a==sysModules)=false/\∃vs,KV qL vs/\h.DictOf (C0 P w) a vs
 |.dT qL=>qL.length<=sizeLine/\(a==sysModules)=false/\∃xs:qA (qA Key×qE×qB),
   Paired (λ(p:qA Key×V) (q:qA Key×qE×qB)=>p.1=q.1/\H q.2.1=some (.tup (p.1.map kV))/\RelV p.2 q.2.2) qL xs /\
   ∃o es ep,h.get? a=some o/\o.ExactDict/\o.data=.dict es ep/\es.toList=xs.map (entryOfKey (tupleKind (C0 P w)))/\(xs.map (·.1)).Nodup
 |.set S n=>h.SetOf (intKind P w) a S n
 |.ins C dx fs=>H dx=some (.own a)/\fs.length<=1000/\dx≠a/\h.get? a=some (PySem.W.instObj C dx) /\
   ∃mA,h.Ns1 dx mA/\(∀f,RelO (fs.lookup f) (mA f))/\PySem.Within mA (fs.map (·.1))
 |.own _=>∃o,h.get? a=some o
 |.xd fs=>∃mA,h.Ns1 a mA/\∀f,RelO (fs.lookup f) (mA f)
 |.rng lo hi=>∃t u v,h.get? a=some {cls:=.type "range",data:=.fields #[.int lo t,.int hi u,.int 1 v]}
 |.frz o u=>h.get? a=some o/\ObjOk H h a u
 |.tbl ps=>h.get? a=some {cls:=.none,data:=.fields ps}
 |.met f x=>h.get? a=some (PySem.W.methodObj (.ref f) (.ref x))
 |.ext φ=>φ h/\(∃o,h.get? a=some o)/\∀h1 h2:Heap,φ h1->(∀o,h1.get? a=some o->h2.get? a=some o)->φ h2
def HOk(H:Hp)(h:Heap):Prop:=∀a o,H a=some o->ObjOk P w H h a o
end
def ObjOk.lt(x:ObjOk P w H h a o):a<h.objs.size:=by
 cases o with
 |lst xs=>obtain⟨_,_,_,_,e⟩:=x;exact aI e
 |tup xs=>obtain⟨_,_,_,p⟩:=x;exact p.lt
 |dK qL=>obtain⟨_,_,_,_,o,_,_,e,_⟩:=x;exact aI e
 |dT qL=>obtain⟨_,_,_,_,o,_,_,e,_⟩:=x;exact aI e
 |set S n=>obtain⟨o,_,_,_,e,_⟩:=x;exact aI e
 |ins C dx fs=>obtain⟨_,_,_,e,_⟩:=x;exact aI e
 |own y=>obtain⟨_,e⟩:=x;exact aI e
 |xd fs=>obtain⟨_,⟨_,_,_,e,_⟩,_⟩:=x;exact aI e
 |rng lo hi=>obtain⟨_,_,_,e⟩:=x;exact aI e
 |frz ob u=>obtain⟨e,_⟩:=x;exact aI e
 |tbl ps=>exact aI (show h.get? a=some _ from x)
 |met f y=>exact aI (show h.get? a=some _ from x)
 |ext φ=>obtain⟨_,⟨_,e⟩,_⟩:=x;exact aI e
def Paired.mapP{α β:Type}{F G:α->β->Prop}:∀{l₁:qA α}{l₂:qA β},Paired F l₁ l₂->(∀a b,F a b->G a b)->Paired G l₁ l₂
 |_,_,.nil,_=>.nil
 |_,_,.cons r t,f=>.cons (f _ _ r) (Paired.mapP t f)
def Paired.imp'{α β:Type}{F G:α->β->Prop}(f:∀a b,F a b->G a b){l₁:qA α}{l₂:qA β}(r:Paired F l₁ l₂):Paired G l₁ l₂:=Paired.mapP r f
def ObjOk.stay(x:ObjOk P w H h a o)(k:∀b u,(b=a∨H b=some (.own a))->h.get? b=some u->h'.get? b=some u)
  (j:∀b,H b=some (.own a)->H' b=some (.own a)) (l:∀b xs,H b=some (.tup xs)->H' b=some (.tup xs)):ObjOk P w H' h' a o:=by
 induction o with
 |lst xs=>obtain⟨z,its,n,r,e⟩:=x;exact⟨z,its,n,r,k _ _ (.inl rfl) e⟩
 |tup xs=>obtain⟨z,its,r,g,e,c⟩:=x;exact⟨z,its,r,g,k _ _ (.inl rfl) e,c⟩
 |dK qL=>obtain⟨z,y,vs,r,g,es,ep,e,c⟩:=x;exact⟨z,y,vs,r,g,es,ep,k _ _ (.inl rfl) e,c⟩
 |dT qL =>
  obtain⟨z,y,xs,r,g,es,ep,e,c⟩:=x;exact⟨z,y,xs,Paired.mapP r λp q z=>⟨z.1,l _ _ z.2.1,z.2.2⟩,g,es,ep,k _ _ (.inl rfl) e,c⟩
 |set S n=>obtain⟨g,es,ep,t,e,c⟩:=x;exact⟨g,es,ep,t,k _ _ (.inl rfl) e,c⟩
 |ins C dx fs =>
  obtain⟨d,z,ne,e,mA,⟨od,es,ep,i,c⟩,r⟩:=x;exact⟨j _ d,z,ne,k _ _ (.inl rfl) e,mA,⟨od,es,ep,k _ _ (.inr d) i,c⟩,r⟩
 |own y=>obtain⟨g,e⟩:=x;exact⟨g,k _ _ (.inl rfl) e⟩
 |xd fs=>obtain⟨mA,⟨od,es,ep,e,c⟩,r⟩:=x;exact⟨mA,⟨od,es,ep,k _ _ (.inl rfl) e,c⟩,r⟩
 |rng lo hi=>obtain⟨t,u,v,e⟩:=x;exact⟨t,u,v,k _ _ (.inl rfl) e⟩
 |frz g u m=>obtain⟨e,q⟩:=x;exact⟨k _ _ (.inl rfl) e,m q⟩
 |tbl ps =>
  have e:h.get? a=some {cls:=.none,data:=.fields ps}:=x;show h'.get? a=some {cls:=.none,data:=.fields ps};exact k a _ (.inl rfl) e
 |met f y =>
  have e:h.get? a=some (PySem.W.methodObj (.ref f) (.ref y)):=x;show h'.get? a=some (PySem.W.methodObj (.ref f) (.ref y));exact k a _ (.inl rfl) e
 |ext φ=>obtain⟨p,⟨o,e⟩,st⟩:=x;exact⟨st _ _ p λo q=>k _ _ (.inl rfl) q,⟨o,k _ _ (.inl rfl) e⟩,st⟩
def HOk.lt(x:HOk P w H h)(e:H a=some o):a<h.objs.size:=(x a o e).lt
def HOk.fresh(x:HOk P w H h)(e:h.objs.size<=a):H a=none:=by
 cases q:H a with
 |none=>rfl
 |some u=>exact absurd (aO (x.lt q) e) (bV _)
def HOk.kept(x:HOk P w H h)(k:∀b u,h.get? b=some u->h'.get? b=some u):HOk P w H h':=λa o e =>
 (x a o e).stay (λb u _ q=>k b u q) (λ_ q=>q) λ_ _ q=>q
def HOk.laid(x:HOk P w H h)(k:∀b u,h.get? b=some u->h'.get? b=some u)(hp:h.objs.size<=a)(new:ObjOk P w (upd H a o) h' a o):HOk P w (upd H a o) h':=λb u e=>by
 have f:=x.fresh hp;by_cases d:b=a
 .subst d;rw[A0]at e;cases e;exact new
 .rw[A2 d]at e;exact(x b u e).stay (λc v _ q=>k c v q) (λc q=>by rw[A2 (A5 q f)];exact q) λc xs q=>by rw[A2 (A5 q f)];exact q
def Rd(H:Hp)(a:qE)(u:HO):Prop:=H a=some u∨∃o,H a=some (.frz o u)
def Rd.ok{u:HO}(r:Rd H a u)(x:HOk P w H h):ObjOk P w H h a u:=by
 rcases r with r|⟨o,r⟩
 .exact x a u r
 .obtain⟨_,q⟩:=x a _ r;exact q
def Mut:qD HO->Prop
 |some (.lst _)=>True
 |some (.dK _)=>True
 |some (.dT _)=>True
 |some (.set _ _)=>True
 |some (.ins _ _ _)=>True
 |some (.ext _)=>True
 |_=>False
section
variable {x e:qE}{o':HO}
def HOk.write(ok:HOk P w H h)(j:Mut (H x))(m:e=x∨H e=some (.own x))(k:∀b u,b≠e->h.get? b=some u->h'.get? b=some u)(l:∃u,h'.get? e=some u)
  (new:ObjOk P w (upd H x o') h' x o'):HOk P w (upd H x o') h':=λb u q=>by
 have d:∀c y,H c=some (.own y)->c≠x:=λc y r z=>by subst z;rw[r]at j;exact j
 have f:∀c xs,H c=some (.tup xs)->c≠x:=λc xs r z=>by subst z;rw[r]at j;exact j
 by_cases g:b=x
 .subst g;rw[A0]at q;cases q;exact new
 .rw[A2 g]at q;by_cases a:b=e
  .have q':H b=some (.own x):=by
    rcases m with z|z
    .exact absurd (a.trans z) g
    .rw[a];exact z
   rw[q]at q';cases q';obtain⟨v,n⟩:=l;exact⟨v,by rw[a];exact n⟩
  .refine(ok b u q).stay (λc v i r=>k c v ?_ r) (λc r=>by rw[A2 (d c b r)];exact r) λc xs r=>by rw[A2 (f c xs r)];exact r
   rcases i with rfl|i
   .exact a
   .rintro rfl;rcases m with z|z
    .exact d c b i z
    .rw[i]at z;cases z;exact g rfl
end
structure Un(fs ex:qA qE)(H H':Hp)(h h':Heap):Prop where
 keep:∀b o,h.get? b=some o->H b=none->b∉fs->b∉ex->h'.get? b=some o
 slot:∀b o,h.get? b=some o->H b=none->b∈fs->b∉ex->∃sl,h'.get? b=some {o with slots:=sl}
 free:∀b o,h.get? b=some o->H b=none->b∉ex->H' b=none
 there:∀b o,h.get? b=some o->b∉ex->∃o',h'.get? b=some o'
 tups:∀b xs,H b=some (.tup xs)->H' b=some (.tup xs)
 frzs:∀b o u,H b=some (.frz o u)->H' b=some (.frz o u)
 tbls:∀b ps,H b=some (.tbl ps)->∃more,H' b=some (.tbl (ps++more))
section
variable {fs fs' ex ex':qA qE}{H1 H2:Hp}{h1 h2:Heap}{x e:qE}
def Un.any(u:Un fs ex H H1 h h1){a:Obj}(q:h.get? b=some a)(n:H b=none)(d:b∉ex):∃sl,h1.get? b=some {a with slots:=sl}:=by
 by_cases c:b∈fs
 .exact u.slot b a q n c d
 .exact⟨a.slots,u.keep b a q n c d⟩
def Un.kept(k:∀b u,h.get? b=some u->h'.get? b=some u):Un fs ex H H h h' :=
 ⟨λb a q _ _ _=>k b a q,λb a q _ _ _=>⟨a.slots,k b a q⟩,λ_ _ _ n _=>n,λb a q _=>⟨a,k b a q⟩,λ_ _ q=>q,λ_ _ _ q=>q,λ_ ps q=>⟨#[],by rw[q];simp⟩⟩
def Un.refl:Un fs ex H H h h:=Un.kept λ_ _ q=>q
def Un.laid(k:∀b u,h.get? b=some u->h'.get? b=some u)(hp:h.objs.size<=a)(c:H a=none):Un fs ex H (upd H a o) h h' where
 keep:=λb u q _ _ _=>k b u q
 slot:=λb u q _ _ _=>⟨u.slots,k b u q⟩
 free:=λb u q n _=>by rw[A2 (aV (aO (aI q) hp))];exact n
 there:=λb u q _=>⟨u,k b u q⟩
 tups:=λb xs q=>by rw[A2 (A5 q c)];exact q
 frzs:=λb u xs q=>by rw[A2 (A5 q c)];exact q
 tbls:=λb ps q=>⟨#[],by rw[A2 (A5 q c),q];simp⟩
def Un.write(c:Mut (H x))(j:e=x∨H e=some (.own x))(k:∀b u,b≠e->h.get? b=some u->h'.get? b=some u)(d:∃u,h'.get? e=some u):Un fs ex H (upd H x o) h h':=by
 have i:∀b,H b=none->b≠x:=λb n z=>by subst z;rw[n]at c;exact c
 have g:∀b,H b=none->b≠e:=λb n z=>by
  subst z;rcases j with r|r
  .exact i b n r
  .rw[n]at r;cases r
 have f:∀b u,H b=some u->¬Mut (some u)->b≠x:=λb u q nm z=>by subst z;rw[q]at c;exact nm c
 refine⟨λb u q n _ _=>k b u (g b n) q,λb u q n _ _=>⟨u.slots,k b u (g b n) q⟩,λb u q n _=>by rw[A2 (i b n)];exact n,λb u q _=>?_,
  λb xs q=>by rw[A2 (f b _ q λz=>z)];exact q,λb u xs q=>by rw[A2 (f b _ q λz=>z)];exact q,λb ps q=>⟨#[],by rw[A2 (f b _ q λz=>z),q];simp⟩⟩
 by_cases a:b=e
 .subst a;exact d
 .exact⟨u,k b u a q⟩
end
def trk(h:Heap)(H:Hp):qA qE:=(List.range h.objs.size).filter λa=>(H a).isSome
def a5O(h:Heap)(H:Hp):Heap:=PySem.W.hideAll h (trk h H)
def b0Z(h:Heap)(H:Hp):(a5O h H).objs.size=h.objs.size:=PySem.W.hideAll_size _ _
def b4a{o:Obj}(e:h.get? b=some o)(n:H b=none):(a5O h H).get? b=some o :=
 PySem.W.hideAll_get _ e λa=>by
  have q:(H b).isSome=true:=(aZ.mp a).2;rw[n]at q;simp at q
def b6c{o:Obj}(e:(a5O h H).get? b=some o):h.get? b=some o/\H b=none:=by
 have a:h.get? b=some o:=PySem.W.of_hideAll (trk h H) e;refine⟨a,?_⟩;cases q:H b with
 |none=>rfl
 |some x =>
  have c:b∈trk h H:=aZ.mpr ⟨bb.mpr (aI a),by simp[q]⟩;have z:(a5O h H).get? b=none:=PySem.W.hideAll_none (trk h H) c;rw[z]at e;cases e
def b6S(g h:Heap)(L:qE):qA (qE×Obj):=(List.range h.objs.size).filterMap λa=>if a=L∨(g.get? a).isSome=true then none else(h.get? a).map λo=>(a,o)
def rest(g h:Heap)(L d:qE):qA (qE×Obj):=(b6S g h L).filter λp=>decide (p.1≠d)
structure Mod(K:qF)(mg:Str->qD qB)(base:Heap):Prop where
 kin:K.In base
 glob:base.Ns mainGlobals mg
 blt:∃mb,base.Ns builtinsNs mb/\∀x:Str,x≠"__name__"->mb x=bootBuiltins x
 nolimit:base.NoLimit
structure Cx where
 prog:qG
 w:World
 K:qF
 mg:Str->qD qB
 base:Heap
 A:Around
 N:qA Str
 s₀:qC
 H₀:Hp
 env:Env
 outer:qA Env
 stack:qA Env
 ex:qA qE
 fn:Str->Bool
 calm:Bool
 pn:qA (qE×Obj)
 xe:qH
variable {X:Cx}
def frs(l:qA Env):qA qE:=l.filterMap (·.frame)
abbrev Cx.fs(X:Cx):qA qE:=frs X.outer
def Vis(sc:Scope)(x:Str):Prop:=sc.names.lookup x=some .local∨sc.names.lookup x=some .cell∨sc.names.lookup x=some .free
def Loc(sc:Scope)(x:Str):Prop:=sc.names.lookup x=some .local∨sc.names.lookup x=some .cell
def c0r(env:Env)(h:Heap)(m:Str->qD qB)(x:Str)(u:qB):Prop :=
 (env.kindOf x=some .local/\m x=some u)∨((env.kindOf x=some .cell∨env.kindOf x=some .free)/\∃c,env.cells.lookup x=some c/\h.IsCell c (some u))
structure Cx.Ok(X:Cx):Prop where
 mod:Mod X.K X.mg X.base
 kind:X.env.scope.kind=.function
 glob:X.env.globals=mainGlobals
 blt:X.env.builtins=builtinsNs
 above:X.s₀.heap.objs.size<=X.env.locals
 inj:∀x y c,X.env.cells.lookup x=some c->X.env.cells.lookup y=some c->x=y
 has:∀x,(X.env.kindOf x=some .cell∨X.env.kindOf x=some .free)->∃c,X.env.cells.lookup x=some c
 cab:∀x c,X.fn x=true->X.env.cells.lookup x=some c->X.s₀.heap.objs.size<=c
 hd:X.calm=true->X.A.handled=none
 frames:X.A.frames=some X.stack
 stk:X.stack=X.outer∨(X.stack=X.env::X.outer/\X.env.frame=some X.env.locals)
 exf:∀b∈X.ex,b≠X.env.locals/\∀x c,X.env.cells.lookup x=some c->c≠b
 bs:∀b o,X.base.get? b=some o->X.s₀.heap.get? b=some o/\X.H₀ b=none
 bsz:X.base.objs.size<=X.s₀.heap.objs.size
 noex:∀b o,X.base.get? b=some o->b∉X.ex
 exfs:∀b∈X.ex,b∉X.fs
 funs:X.s₀.heap.FunFrames X.base X.outer
 frf:∀b∈X.fs,X.H₀ b=none
structure Inv(X:Cx)(qK:qA (qE×Obj))(σ:qA (qD V))(H:Hp)(s:qC):Prop where
 ok:X.Ok
 os:s.os=X.s₀.os
 bare:AllBare s.gens
 base:Un X.fs X.ex X.H₀ H X.s₀.heap s.heap
 loc:∃m,s.heap.Ns X.env.locals m/\∀(i:Nat) (x:Str) (v:V),X.N[i]?=some x->σ[i]?=some (some v)->Vis X.env.scope x->∃u,RelV v u/\c0r X.env s.heap m x u
 cell:∀x c,X.env.cells.lookup x=some c->∃v,s.heap.IsCell c v
 free:H X.env.locals=none
 freeC:∀x c,X.env.cells.lookup x=some c->H c=none
 pin:∀p∈X.pn++qK,s.heap.get? p.1=some p.2/\H p.1=none/\p.1≠X.env.locals/\p.1∉X.fs/\∀v,p.2.data≠.cell v
 hok:HOk X.prog X.w H s.heap
 len:σ.length=X.N.length
section
variable {σ:qA (qD V)}
def Cx.Ok.nofr(ok:X.Ok){o:Obj}(e:X.base.get? b=some o):b∉X.fs:=λa=>by
 have:=(ok.funs.mem a).1;rw[e]at this;cases this
def Inv.bs(I:Inv X qK σ H s):∀b o,X.base.get? b=some o->s.heap.get? b=some o/\H b=none:=λb o e =>
 ⟨I.base.keep b o (I.ok.bs b o e).1 (I.ok.bs b o e).2 (I.ok.nofr e) (I.ok.noex b o e),I.base.free b o (I.ok.bs b o e).1 (I.ok.bs b o e).2 (I.ok.noex b o e)⟩
def Inv.bk(I:Inv X qK σ H s):∀b o,X.base.get? b=some o->s.heap.get? b=some o:=λb o e=>(I.bs b o e).1
def Inv.mod(I:Inv X qK σ H s):Mod X.K X.mg X.base:=I.ok.mod
def Inv.kIn(I:Inv X qK σ H s):X.K.In s.heap:=I.ok.mod.kin.keeps I.bk
def Inv.lt(I:Inv X qK σ H s):X.env.locals<s.heap.objs.size:=let ⟨_,hn,_⟩:=I.loc;hn.lt
def Inv.sz(I:Inv X qK σ H s):X.s₀.heap.objs.size<=s.heap.objs.size:=a_ I.ok.above (cE I.lt)
def Inv.nofs(I:Inv X qK σ H s)(h:s.heap.objs.size<=a):a∉X.fs:=λb=>by
 obtain⟨_,o,c,_⟩:=I.ok.funs.mem b;exact absurd (aO (aI c) (a_ I.sz h)) (bV _)
def Inv.cne(I:Inv X qK σ H s):∀x c,X.env.cells.lookup x=some c->c≠X.env.locals:=λx c e z=>by
 obtain⟨v,o,d,hd⟩:=I.cell x c e;obtain⟨m,⟨o',es,ep,b,a,_⟩,_⟩:=I.loc;rw[z,b]at d;cases d;rw[a]at hd;cases hd
def Inv.funs(I:Inv X qK σ H s):s.heap.FunFrames X.base X.outer:=by
 have all:∀(l:qA Env),(∀b∈frs l,b∈X.fs)->X.s₀.heap.FunFrames X.base l->s.heap.FunFrames X.base l:=by
  intro l;induction l with
  |nil=>intro _ _;trivial
  |cons env r k =>
   intro hs g;obtain⟨f,⟨L,o,d,h,i,hd⟩,j⟩:=g;have a:L∈X.fs:=hs L (by unfold frs;rw[List.filterMap_cons,d];exact ao);obtain⟨sl,e⟩:=I.base.slot L o i (I.ok.frf L a) a λz=>I.ok.exfs L z a;exact⟨f,⟨L,_,d,h,e,hd⟩,k (λb c=>hs b (by unfold frs;rw[List.filterMap_cons,d];exact ar _ c)) j⟩
 exact all X.outer (λ_ c=>c) I.ok.funs
def Inv.stack(I:Inv X qK σ H s):s.heap.FunFrames X.base X.stack:=by
 rcases I.ok.stk with e|⟨e,a⟩
 .rw[e];exact I.funs
 .rw[e];obtain⟨m,b,_⟩:=I.loc;refine .cons (by rw[I.ok.kind];decide) a b ?_ I.funs;exact Heap.get?_none_of_le (a_ I.ok.bsz I.ok.above)
def Inv.stkSub(I:Inv X qK σ H s):∀b∈frs X.stack,b∈X.env.locals::X.fs:=λb a=>by
 rcases I.ok.stk with e|⟨e,c⟩
 .rw[e]at a;exact ar _ a
 .rw[e]at a;unfold frs at a;rw[List.filterMap_cons,c]at a;exact a
def Inv.stkFree(I:Inv X qK σ H s):∀b∈frs X.stack,H b=none:=λb a=>by
 rcases az.mp (I.stkSub b a)with e|a
 .rw[e];exact I.free
 .obtain⟨_,o,ho,_⟩:=I.ok.funs.mem a;exact I.base.free b o ho (I.ok.frf b a) λz=>I.ok.exfs b z a
def Inv.step{g':Array GenState}{d':Drawn}(I:Inv X qK σ H s)
  (g:∀b∈ch,(b∈X.ex∨X.s₀.heap.objs.size<=b)/\b≠X.env.locals/\(∀x c,X.env.cells.lookup x=some c->c≠b)/\∀p∈X.pn++qK,p.1≠b)
  (keep:∀b o,b≠X.env.locals->b∉X.fs->b∉ch->s.heap.get? b=some o->H b=none->h'.get? b=some o)
  (w:∀b o,b≠X.env.locals->b∈X.fs->b∉ch->s.heap.get? b=some o->H b=none->∃sl,h'.get? b=some {o with slots:=sl}) (free:∀b o,b∉ch->s.heap.get? b=some o->H b=none->H' b=none)
  (there:∀b o,b∉ch->s.heap.get? b=some o->∃o',h'.get? b=some o')
  (F:∀b xs,H b=some (.tup xs)->H' b=some (.tup xs)) (C:∀b o u,H b=some (.frz o u)->H' b=some (.frz o u)) (E:∀b ps,H b=some (.tbl ps)->∃more,H' b=some (.tbl (ps++more)))
  (P:∀m,s.heap.Ns X.env.locals m->h'.Ns X.env.locals m) (G:HOk X.prog X.w H' h') (N:AllBare g') :
  Inv X qK σ H' {s with heap:=h',gens:=g',drawn:=d',toks:=t'}:=by
 have D:∀b o,X.s₀.heap.get? b=some o->b≠X.env.locals:=λb o e=>aV (aO (aI e) I.ok.above);have t:∀b o,X.s₀.heap.get? b=some o->b∉X.ex->b∉ch:=λb o e a y=>by
  rcases(g b y).1 with z|z
  .exact a z
  .exact absurd (aO (aI e) z) (bV _)
 have f:∀x c,X.env.cells.lookup x=some c->∀v,s.heap.IsCell c v->h'.IsCell c v:=λx c e v ⟨o,A,hd⟩=>by
  have h:c∉ch:=λz=>(g c z).2.2.1 x c e rfl;by_cases K:c∈X.fs
  .obtain⟨sl,q⟩:=w c o (I.cne x c e) K h A (I.freeC x c e);exact⟨_,q,hd⟩
  .exact⟨o,keep c o (I.cne x c e) K h A (I.freeC x c e),hd⟩
 refine⟨I.ok,I.os,N,⟨λb o e n y a=>?_,λb o e n y a=>?_,λb o e n a=>?_,λb o e a=>?_,λb xs e=>F b xs (I.base.tups b xs e),λb o xs e=>C b o xs (I.base.frzs b o xs e),λb ps e=>?_⟩,?_,λx c e=>?_,?_,λx c e=>?_,λp L=>?_,G,I.len⟩
 .exact keep b o (D b o e) y (t b o e a) (I.base.keep b o e n y a) (I.base.free b o e n a)
 .obtain⟨sl,j⟩:=I.base.slot b o e n y a;obtain⟨J,B⟩:=w b _ (D b o e) y (t b o e a) j (I.base.free b o e n a);exact⟨J,B⟩
 .obtain⟨o',j⟩:=I.base.there b o e a;exact free b o' (t b o e a) j (I.base.free b o e n a)
 .obtain⟨o',j⟩:=I.base.there b o e a;exact there b o' (t b o e a) j
 .obtain⟨m1,j⟩:=I.base.tbls b ps e;obtain⟨O,B⟩:=E b _ j;exact⟨m1++O,by rw[B,Array.append_assoc]⟩
 .obtain⟨m,hn,hl⟩:=I.loc;refine⟨m,P m hn,λi x v j B M=>?_⟩;obtain⟨u,r,l⟩:=hl i x v j B M;refine⟨u,r,?_⟩;rcases l with l|⟨k,c,e,z⟩
  .exact .inl l
  .exact .inr ⟨k,c,e,f x c e _ z⟩
 .obtain⟨v,z⟩:=I.cell x c e;exact⟨v,f x c e v z⟩
 .obtain⟨m,⟨o,_,_,A,_⟩,_⟩:=I.loc;exact free _ o (λz=>(g _ z).2.1 rfl) A I.free
 .obtain⟨v,o,A,hd⟩:=I.cell x c e;exact free c o (λz=>(g c z).2.2.1 x c e rfl) A (I.freeC x c e)
 .obtain⟨e,n,ne,nf,d⟩:=I.pin p L;have h:p.1∉ch:=λz=>(g p.1 z).2.2.2 p L rfl;exact⟨keep p.1 p.2 ne nf h e n,free p.1 p.2 h e n,ne,nf,d⟩
def Inv.un(I:Inv X qK σ H s)(u:Un X.fs [] H H' s.heap h')(g:HOk X.prog X.w H' h'):Inv X qK σ H' {s with heap:=h',toks:=t'}:=by
 obtain⟨m,⟨o,es,ep,h,r⟩,_⟩:=id I.loc;obtain⟨sl,i⟩:=u.any h I.free (by simp);exact I.step (g':=s.gens) (d':=s.drawn) (ch:=[]) (λ_ z=>nomatch z) (λb o _ f _ e n=>u.keep b o e n f (by simp)) (λb o _ f _ e n=>u.slot b o e n f (by simp)) (λb o _ e n=>u.free b o e n (by simp)) (λb o _ e=>u.there b o e (by simp)) u.tups u.frzs u.tbls (λl j=>by
  obtain⟨o',d,c,a,k⟩:=j;rw[h]at a;cases a;exact⟨_,d,c,i,k⟩) g I.bare
def Inv.call{g':Array GenState}{d':Drawn}(I:Inv X qK σ H s)(u:Un (frs X.stack) ch H H' s.heap h')(j:HOk X.prog X.w H' h')(q:AllBare g')
  (d:∀b∈ch,(b∈X.ex∨X.s₀.heap.objs.size<=b)/\b≠X.env.locals/\(∀x c,X.env.cells.lookup x=some c->c≠b)/\∀p∈X.pn++qK,p.1≠b) :
  Inv X qK σ H' {s with heap:=h',gens:=g',drawn:=d',toks:=t'}:=by
 obtain⟨m,⟨o,es,ep,k,r⟩,_⟩:=id I.loc;obtain⟨sl,i⟩:=u.any k I.free λz=>(d _ z).2.1 rfl;exact I.step (ch:=ch) d (λb o i l a e n=>u.keep b o e n (λz=>(az.mp (I.stkSub b z)).elim i l) a) (λb o _ _ a e n=>u.any e n a) (λb o a e n=>u.free b o e n a) (λb o a e=>u.there b o e a) u.tups u.frzs u.tbls (λw t=>by
  obtain⟨o',h,g,f,v⟩:=t;rw[k]at f;cases f;exact⟨_,h,g,i,v⟩) j q
def Inv.turned{it:qE}(I:Inv X qK σ H s)(k:∀b o,b≠it->s.heap.get? b=some o->h'.get? b=some o)(j:H it=none)(f:it≠X.env.locals)
  (h1:it∈X.ex∨X.s₀.heap.objs.size<=it) (h2:∀x c,X.env.cells.lookup x=some c->c≠it) (g:∀p∈X.pn++qK,p.1≠it):Inv X qK σ H {s with heap:=h',toks:=t'}:=by
 have d:∀b u,H b=some u->b≠it:=λb u e z=>by rw[z,j]at e;cases e
 refine I.step (g':=s.gens) (d':=s.drawn) (ch:=[it]) (λb h=>?_) (λb o _ _ a e _=>k b o (λz=>a (by simp[z])) e) (λb o _ _ a e _=>⟨o.slots,k b o (λz=>a (by simp[z])) e⟩) (λ_ _ _ _ n=>n)
  (λb o a e=>⟨o,k b o (λz=>a (by simp[z])) e⟩) (λ_ _ e=>e) (λ_ _ _ e=>e) (λb ps e=>⟨#[],by rw[e];simp⟩) (λm i=>?_) (λb u e=>?_) I.bare
 .have e:b=it:=by simpa using h
  subst e;exact⟨h1,f,h2,g⟩
 .obtain⟨o,es,ep,ho,r⟩:=i;exact⟨o,es,ep,k _ o (dv f) ho,r⟩
 .refine(I.hok b u e).stay (λc v a q=>k c v ?_ q) (λ_ q=>q) λ_ _ q=>q;rcases a with z|z
  .rw[z];exact d b u e
  .exact d c _ z
def Inv.tok(I:Inv X qK σ H s)(t:Nat):Inv X qK σ H {s with toks:=t}:=I.un (h':=s.heap) (t':=t) Un.refl I.hok
def Inv.kept{t':Nat}(I:Inv X qK σ H s)(k:∀b u,s.heap.get? b=some u->h'.get? b=some u):Inv X qK σ H {s with heap:=h',toks:=t'}:=I.un (Un.kept k) (I.hok.kept k)
def Inv.laid{a:qE}{o:HO}{t':Nat}(I:Inv X qK σ H s)(k:∀b u,s.heap.get? b=some u->h'.get? b=some u)(hp:s.heap.objs.size<=a)(new:ObjOk X.prog X.w (upd H a o) h' a o) :
  Inv X qK σ (upd H a o) {s with heap:=h',toks:=t'}:=I.un (Un.laid k hp (I.hok.fresh hp)) (I.hok.laid k hp new)
def Inv.write{x e:qE}{o:HO}{t':Nat}(I:Inv X qK σ H s)(d:Mut (H x))(c:e=x∨H e=some (.own x))(k:∀b u,b≠e->s.heap.get? b=some u->h'.get? b=some u)(a:∃u,h'.get? e=some u)
  (new:ObjOk X.prog X.w (upd H x o) h' x o):Inv X qK σ (upd H x o) {s with heap:=h',toks:=t'}:=I.un (Un.write d c k a) (I.hok.write d c k a new)
def Inv.weak{σ':qA (qD V)}(I:Inv X qK σ H s)(d:σ'.length=σ.length)(w:∀(i:Nat) v,σ'[i]?=some (some v)->σ[i]?=some (some v)):Inv X qK σ' H s :=
 ⟨I.ok,I.os,I.bare,I.base,let ⟨m,hn,hl'⟩:=I.loc;⟨m,hn,λi x v a b c=>hl' i x v a (w i v b) c⟩,I.cell,I.free,I.freeC,I.pin,I.hok,d.trans I.len⟩
def Inv.pins_of{pins':qA (qE×Obj)}(I:Inv X qK σ H s)(h:∀p∈pins',s.heap.get? p.1=some p.2/\H p.1=none/\p.1≠X.env.locals/\p.1∉X.fs/\∀v,p.2.data≠.cell v):Inv X pins' σ H s :=
 ⟨I.ok,I.os,I.bare,I.base,I.loc,I.cell,I.free,I.freeC,λp a=>(ay.mp a).elim (λz=>I.pin p (aR _ z)) (h p),I.hok,I.len⟩
def a6Q{N:qA Str}(e:N.Nodup){j:Nat}(a:N[i]?=some x)(b:N[j]?=some x):i=j:=by
 obtain⟨h1,c⟩:=aK.mp a;obtain⟨h2,d⟩:=aK.mp b;exact(List.getElem_inj e).mp (c.trans d.symm)
def a4q{Q:Unit->qC->Prop}(I:Inv X qK σ H s)(Z:X.N.Nodup)(hi:X.N[i]?=some x)(t:Loc X.env.scope x)(r:RelV v u)
  (h:∀s',Inv X qK (σ.set i (some v)) H s'->(∃a,Heap.SameBut a s.heap s'.heap/\(a=X.env.locals∨X.env.cells.lookup x=some a))->Q () s') (hf:X.fn x=true∨X.env.scope.names.lookup x=some .local:=by first|exact .inl rfl|exact .inr rfl|assumption):wpAny M A (storeName X.env x u) Q E s:=by
 obtain⟨m,P,hl⟩:=id I.loc;have G:(X.env.scope.kind==.class || (X.env.scope.kind==.module && X.env.locals != X.env.globals))=false:=by rw[I.ok.kind];rfl
 have hiσ:i<σ.length:=by rw[I.len];exact(aK.mp hi).1
 have cne:=I.cne;have g:∀{a:qE}{h':Heap},(∃o,s.heap.get? a=some o/\H a=none)->Heap.SameBut a s.heap h'->HOk X.prog X.w H h':=λ{a h'} ha hs b ob e=>by
  obtain⟨_,_,w⟩:=ha;refine(I.hok b ob e).stay (λc N l q=>(hs.2 c ?_).trans q) (λ_ q=>q) λ_ _ q=>q;rintro rfl;rcases l with rfl|l
  .rw[w]at e;cases e
  .rw[w]at l;cases l
 rcases t with C|C
 .refine wpAny_storeName_local C P (λh' R hs=>?_) G;obtain⟨oL,_,_,S,_⟩:=id P;refine h _ ⟨I.ok,I.os,I.bare,⟨λb o e n D t=>?_,λb o e n D t=>?_,I.base.free,λb o e t=>?_,I.base.tups,I.base.frzs,I.base.tbls⟩,⟨_,R,λj y Y f B O=>?_⟩,λy c e=>?_,I.free,I.freeC,λp T=>?_,g ⟨oL,S,I.free⟩ hs,by simpa using I.len⟩ ⟨_,hs,.inl rfl⟩
  .exact(hs.2 b (aV (aO (aI e) I.ok.above))).trans (I.base.keep b o e n D t)
  .obtain⟨sl,f⟩:=I.base.slot b o e n D t;exact⟨sl,(hs.2 b (aV (aO (aI e) I.ok.above))).trans f⟩
  .obtain⟨o',f⟩:=I.base.there b o e t;exact⟨o',(hs.2 b (aV (aO (aI e) I.ok.above))).trans f⟩
  .by_cases hj:j=i
   .subst hj;rw[hi]at f;cases f;rw[List.getElem?_set_self hiσ]at B;cases B;exact⟨u,r,.inl ⟨C,by simp⟩⟩
   .rw[List.getElem?_set_ne (dv hj)]at B;obtain⟨W,U,q⟩:=hl j y Y f B O;refine⟨W,U,?_⟩;rcases q with⟨k,e⟩|⟨k,c,e,z⟩
    .refine .inl ⟨k,?_⟩;have:y≠x:=λe=>hj (a6Q Z f (e ▸ hi));simp[this,e]
    .exact .inr ⟨k,c,e,z.sameBut hs (cne y c e)⟩
  .obtain⟨N,z⟩:=I.cell y c e;exact⟨N,z.sameBut hs (cne y c e)⟩
  .obtain⟨e,n,ne,nf,d⟩:=I.pin p T;exact⟨(hs.2 p.1 ne).trans e,n,ne,nf,d⟩
 .have hfn:X.fn x=true:=by
   rcases hf with z|z
   .exact z
   .rw[z]at C;cases C
  obtain⟨c,l⟩:=I.ok.has x (.inl C);obtain⟨N,z⟩:=I.cell x c l;refine wpAny_storeName_cell I.ok.kind C l z (λh' F hs=>?_);obtain⟨oc,J,K⟩:=id z;refine h {s with heap:=h'} ⟨I.ok,I.os,I.bare,⟨λb o e n D t=>?_,λb o e n D t=>?_,I.base.free,λb o e t=>?_,I.base.tups,I.base.frzs,I.base.tbls⟩,⟨m,P.sameBut hs (dv (cne x c l)),λj y Y f B O=>?_⟩,λy L e=>?_,I.free,I.freeC,λp T=>?_,g ⟨oc,J,I.freeC x c l⟩ hs,by simpa using I.len⟩ ⟨c,hs,.inr l⟩
  .exact(hs.2 b (aV (aO (aI e) (I.ok.cab x c hfn l)))).trans (I.base.keep b o e n D t)
  .obtain⟨sl,f⟩:=I.base.slot b o e n D t;exact⟨sl,(hs.2 b (aV (aO (aI e) (I.ok.cab x c hfn l)))).trans f⟩
  .obtain⟨o',f⟩:=I.base.there b o e t;exact⟨o',(hs.2 b (aV (aO (aI e) (I.ok.cab x c hfn l)))).trans f⟩
  .by_cases hj:j=i
   .subst hj;rw[hi]at f;cases f;rw[List.getElem?_set_self hiσ]at B;cases B;exact⟨u,r,.inr ⟨.inl C,c,l,F⟩⟩
   .rw[List.getElem?_set_ne (dv hj)]at B;obtain⟨W,U,q⟩:=hl j y Y f B O;refine⟨W,U,?_⟩;rcases q with q|⟨k,L,e,z'⟩
    .exact .inl q
    .refine .inr ⟨k,L,e,z'.sameBut hs ?_⟩;rintro rfl;exact hj (a6Q Z f (I.ok.inj _ _ _ e l ▸ hi))
  .by_cases hcc:L=c
   .subst hcc;exact⟨_,F⟩
   .obtain⟨w2,z2⟩:=I.cell y L e;exact⟨w2,z2.sameBut hs hcc⟩
  .obtain⟨e,n,ne,nf,d⟩:=I.pin p T;refine⟨(hs.2 p.1 ?_).trans e,n,ne,nf,d⟩;intro q;rw[q,J]at e;have q':oc=p.2:=bF e;exact d N (by rw[<-q'];exact K)
def a2I{Q:Unit->qC->Prop}(I:Inv X qK σ H s)(b:X.N.Nodup)(hi:X.N[i]?=some x)(d:Loc X.env.scope x)(r:RelV v u)
  (h:∀s',Inv X qK (σ.set i (some v)) H s'->Q () s') (c:X.fn x=true∨X.env.scope.names.lookup x=some .local:=by first|exact .inl rfl|exact .inr rfl|assumption):wpAny M A (storeName X.env x u) Q E s :=
 a4q I b hi d r (λs' a _=>h s' a) c
def Inv.call'{s':qC}(I:Inv X qK σ H s)(i:s'.os=s.os)(u:Un (frs X.stack) ch H H' s.heap s'.heap)(d:HOk X.prog X.w H' s'.heap)(h:AllBare s'.gens)
  (a:∀b∈ch,(b∈X.ex∨X.s₀.heap.objs.size<=b)/\b≠X.env.locals/\(∀x c,X.env.cells.lookup x=some c->c≠b)/\∀p∈X.pn++qK,p.1≠b):Inv X qK σ H' s':=by
 obtain⟨h',g,f,t',o'⟩:=s';have e:o'=s.os:=i;subst e;exact I.call (g':=g) (t':=t') (d':=f) u d h a
end
abbrev XK:=qB->qD qE->Hp->Prop
abbrev St:=qA (qD V)
variable {σ:St}
abbrev VK:=V->Hp->Prop
abbrev TE:=St->Hp->VK->Prop
variable {ta te:TE}
abbrev TT:=St->Hp->(Bool->Hp->Prop)->Prop
abbrev TA:=St->Hp->(qA V->Hp->Prop)->Prop
variable {t:TA}
structure Ends where
 nx:St->Hp->Prop
 rt:VK
 bk:St->Hp->Prop:=λ_ _=>False
 ct:St->Hp->Prop:=λ_ _=>False
variable {D:Ends}
abbrev TS:=Ends->St->Hp->Prop
variable {tb:TS}
def EP(X:Cx)(qK:qA (qE×Obj))(σ:St)(Q:VK)(u:qB)(s':qC):Prop:=∃v H',Inv X qK σ H' s'/\RelV v u/\Q v H'
def TP(X:Cx)(qK:qA (qE×Obj))(σ:St)(Q:Bool->Hp->Prop)(b:Bool)(s':qC):Prop:=∃H',Inv X qK σ H' s'/\Q b H'
def AP(X:Cx)(qK:qA (qE×Obj))(σ:St)(Q:qA V->Hp->Prop)(us:qA qB)(s':qC):Prop:=∃vs H',Inv X qK σ H' s'/\Vals vs us/\Q vs H'
def SP(X:Cx)(qK:qA (qE×Obj))(D:Ends)(f:Flow)(s':qC):Prop :=
 match f with
 |.next=>∃σ' H',Inv X qK σ' H' s'/\D.nx σ' H'
 |.brk=>∃σ' H',Inv X qK σ' H' s'/\D.bk σ' H'
 |.cont=>∃σ' H',Inv X qK σ' H' s'/\D.ct σ' H'
 |.ret u=>∃v σ' H',Inv X qK σ' H' s'/\RelV v u/\D.rt v H'
def PE(X:Cx)(e:Expr)(t:TE):Prop :=
 ∀(qK:qA (qE×Obj)) (s:qC) (σ:St) (H:Hp) (Q:VK),Inv X qK σ H s->t σ H Q->wpAny (model X.prog X.w) X.A (eval e X.env) (EP X qK σ Q) X.xe s
def PT(X:Cx)(e:Expr)(t:TT):Prop :=
 ∀(qK:qA (qE×Obj)) (s:qC) (σ:St) (H:Hp) (Q:Bool->Hp->Prop),Inv X qK σ H s->t σ H Q->wpAny (model X.prog X.w) X.A (isTrue e X.env (eval e X.env)) (TP X qK σ Q) X.xe s
def PW(X:Cx)(e:Expr)(t:TT):Prop :=
 ∀(whole:Sem qB) (qK:qA (qE×Obj)) (s:qC) (σ:St) (H:Hp) (Q:Bool->Hp->Prop),Inv X qK σ H s->t σ H Q->wpAny (model X.prog X.w) X.A (isTrue e X.env whole) (TP X qK σ Q) X.xe s
def PW.pt{t:TT}(h:PW X e t):PT X e t:=h _
def PA(X:Cx)(es:qA Expr)(t:TA):Prop :=
 ∀(pos:Pos) (qK:qA (qE×Obj)) (s:qC) (σ:St) (H:Hp) (Q:qA V->Hp->Prop),Inv X qK σ H s->t σ H Q->wpAny (model X.prog X.w) X.A (spliced (backTo pos (starEach es X.env))) (AP X qK σ Q) X.xe s
def PS(X:Cx)(st:Stmt)(t:TS):Prop :=
 ∀(qK:qA (qE×Obj)) (s:qC) (σ:St) (H:Hp) (D:Ends),Inv X qK σ H s->t D σ H->wpAny (model X.prog X.w) X.A (exec st X.env) (SP X qK D) X.xe s
def PSs(X:Cx)(st:qA Stmt)(t:TS):Prop :=
 ∀(qK:qA (qE×Obj)) (s:qC) (σ:St) (H:Hp) (D:Ends),Inv X qK σ H s->t D σ H->wpAny (model X.prog X.w) X.A (execs st X.env) (SP X qK D) X.xe s
def thn{α:Type}{t:Sem α}{Q b:α->qC->Prop}(h:wpAny M A t Q E s)(c:∀a s,Q a s->b a s):wpAny M A t b E s:=cW h c λ_ _ x=>x
section
def P0(i:Nat):TE:=λσ H Q=>∃v,σ[i]?=some (some v)/\Q v H
def tC(v:V):TE:=λ_ H Q=>Q v H
def b2X(g:X.N[i]?=some x)(o:Vis X.env.scope x)(hd:(x==("__debug__" : Str))=false:=by decide)(d:(x==("__classdict__" : Str))=false:=by decide):PE X (.Name x pos) (P0 i):=by
 intro qK s σ H Q I h;obtain⟨v,e,h⟩:=h;obtain⟨m,n,j⟩:=I.loc;obtain⟨u,r,l⟩:=j i x v g e o;have fin:EP X qK σ Q u s:=⟨v,H,I,r,h⟩;rcases l with⟨b,k⟩|⟨b,c,f,a⟩
 .exact wpAny_Name (wpAny_loadName_local I.ok.kind b n k fin) hd
 .rcases b with b|b
  .exact wpAny_Name (wpAny_loadName_cell I.ok.kind b f a fin) hd
  .exact wpAny_Name (wpAny_loadName_free I.ok.kind b f a fin d) hd
def b8n{i j pos}:PE X (.Constant (.int i) j pos) (tC (.int i)):=λ_ _ _ H _ I h=>wpAny_Constant_int ⟨.int i,H,I.tok _,⟨_,rfl⟩,h⟩
def b9U{b j pos}:PE X (.Constant (.bool b) j pos) (tC (.bl b)):=λ_ _ _ H _ I h=>Constant_bool ⟨.bl b,H,I,rfl,h⟩
def b8l{j pos}:PE X (.Constant .none j pos) (tC .non):=λ_ _ _ H _ I h=>Constant_none ⟨.non,H,I,rfl,h⟩
def b8i{x j pos}:PE X (.Constant (.str x) j pos) (tC (.str x)):=λ_ _ _ H _ I h=>Calls.Constant_str ⟨.str x,H,I.tok _,⟨_,rfl⟩,h⟩
def Gl(X:Cx)(x:Str):Prop:=X.env.kindOf x=some .globalImplicit
def V3(I:Inv X qK σ H s)(a:Gl X x)(b:X.mg x=some u)(h:Q u s)
  (hd:(x==("__debug__" : Str))=false:=by decide):wpAny (model X.prog X.w) X.A (eval (.Name x pos) X.env) Q E s :=
 Calls.Name_function_global I.ok.kind a (Calls.loadGlobal_global (by rw[I.ok.glob];exact I.mod.glob.keeps I.bk) b h) hd
def a1t(I:Inv X qK σ H s)(a:Gl X x)(b:X.mg x=none)(d:bootBuiltins x=some u)(h:Q u s)
  (c:x≠"__name__":=by decide) (hd:(x==("__debug__" : Str))=false:=by decide):wpAny (model X.prog X.w) X.A (eval (.Name x pos) X.env) Q E s:=by
 obtain⟨e,h1,h2⟩:=I.mod.blt;exact Calls.Name_function_global I.ok.kind a (Calls.loadGlobal_builtin (by rw[I.ok.glob];exact I.mod.glob.keeps I.bk) b (by rw[I.ok.blt];exact h1.keeps I.bk) ((h2 x c).trans d) h) hd
def b5K(a:Gl X x)(b:X.mg x=some u)(r:RelV v u)(hd:(x==("__debug__" : Str))=false:=by decide):PE X (.Name x pos) (tC v) :=
 λ_ _ _ H _ I h=>V3 I a b ⟨v,H,I,r,h⟩ hd
def b5N(a:Gl X x)(b:X.mg x=none)(d:bootBuiltins x=some u)(r:RelV v u)(c:x≠"__name__":=by decide)(hd:(x==("__debug__" : Str))=false:=by decide):PE X (.Name x pos) (tC v) :=
 λ_ _ _ H _ I h=>a1t I a b d ⟨v,H,I,r,h⟩ c hd
variable {a b:Expr}{tb:TE}
def PC(X:Cx)(op:CmpOp)(a b:Expr)(t:TE):Prop :=
 ∀(qK:qA (qE×Obj)) (s:qC) (σ:St) (H:Hp) (Q:VK),Inv X qK σ H s->t σ H Q ->
  wpAny (model X.prog X.w) X.A (eval a X.env) (λv s₁=>wpAny (model X.prog X.w) X.A (eval b X.env) (λu s₂=>wpAny (model X.prog X.w) X.A (compareOp op v u) (EP X qK σ Q) X.xe s₂) X.xe s₁) X.xe s
def tB(t:TE):TT:=λσ H Q=>t σ H λx H1=>∃c,x=.bl c/\Q c H1
def b8p{c:CmpOp}{t:TE}(h:PC X c a b t)(h1:behindInMarks c b=false:=by first|exact nobehind _ (by decide) (by decide)|rfl):PE X (.Compare a [c] [b] pos) t:=λqK s σ H Q I hw=>wpAny_Compare1 (h qK s σ H Q I hw) h1
def b7X{e:CmpOp}{t:TE}(h:PC X e a b t)(h1:behindInMarks e b=false:=by first|exact nobehind _ (by decide) (by decide)|rfl):PT X (.Compare a [e] [b] pos) (tB t):=by
 intro qK s σ H Q I hw;refine wpAny_isTrue_Compare1 (thn (h qK s σ H _ I hw) λv s1 h1=>thn h1 λu s2 h2=>thn h2 λc j ⟨x,H1,f,i,g⟩=>?_) h1;obtain⟨d,rfl,q⟩:=g;cases i;exact cG ⟨H1,f,q⟩
variable {tA tB':TT}{rest:qA Expr}
def b0j(t u:TT):TT:=λσ H Q=>t σ H λc H1=>if c=true then u σ H1 Q else Q false H1
def tOr(t u:TT):TT:=λσ H Q=>t σ H λc H1=>if c=true then Q true H1 else u σ H1 Q
def b0h(t:TT):TT:=λσ H Q=>t σ H λc H1=>Q (!c) H1
def pw_and1(b:PT X a tA):PW X (.BoolOp .And [a] pos) tA:=by
 intro d qK s σ H Q I h;refine isTrue_and (thn (b qK s σ H Q I h) λc s1 e=>?_);cases c with
 |true=>exact isTrue_and_nil e
 |false=>exact e
def pw_or1(b:PT X a tA):PW X (.BoolOp .Or [a] pos) tA:=by
 intro d qK s σ H Q I h;refine isTrue_or (thn (b qK s σ H Q I h) λc s1 e=>?_);cases c with
 |false=>exact isTrue_or_nil e
 |true=>exact e
def pw_and(f:PT X a tA)(g:PW X (.BoolOp .And (b::rest) pos) tB'):PW X (.BoolOp .And (a::b::rest) pos) (b0j tA tB'):=by
 intro i qK s σ H Q I h;refine isTrue_and (thn (f qK s σ H _ I h) λc s1 ⟨H1,d,e⟩=>?_);cases c with
 |true=>exact g i qK s1 σ H1 Q d e
 |false=>exact⟨H1,d,e⟩
def pw_or(f:PT X a tA)(g:PW X (.BoolOp .Or (b::rest) pos) tB'):PW X (.BoolOp .Or (a::b::rest) pos) (tOr tA tB'):=by
 intro i qK s σ H Q I h;refine isTrue_or (thn (f qK s σ H _ I h) λc s1 ⟨H1,d,e⟩=>?_);cases c with
 |true=>exact⟨H1,d,e⟩
 |false=>exact g i qK s1 σ H1 Q d e
def b7W(b:PT X a tA):PT X (.UnaryOp .Not a pos) (b0h tA):=by
 intro qK s σ H Q I h;exact isTrue_not (b qK s σ H (λc H1=>Q (!c) H1) I h)
def a4o(ta tb:TE):TE:=λσ H Q=>ta σ H λx H1=>∃c,x=.bl c/\if c=true then tb σ H1 Q else Q (.bl false) H1
def b0g(ta tb:TE):TE:=λσ H Q=>ta σ H λx H1=>∃c,x=.bl c/\if c=true then Q (.bl true) H1 else tb σ H1 Q
def a4l(ta:TE):TE:=λσ H Q=>ta σ H λx H1=>∃c,x=.bl c/\Q (.bl (!c)) H1
def b8j{op}{t:TE}(h:PE X a t):PE X (.BoolOp op [a] pos) t:=λqK s σ H Q I hw=>BoolOp_one (h qK s σ H Q I hw)
def b8q(f:PE X a ta)(g:PE X (.BoolOp .And (b::rest) pos) tb):PE X (.BoolOp .And (a::b::rest) pos) (a4o ta tb):=by
 intro qK s σ H Q I h;refine BoolOp_and (thn (f qK s σ H _ I h) λv s1 ⟨x,H1,e,i,d⟩=>?_);obtain⟨c,rfl,d⟩:=d;cases i;refine cG ?_;cases c with
 |true=>exact g qK s1 σ H1 Q e d
 |false=>exact⟨.bl false,H1,e,rfl,d⟩
def b9S(f:PE X a ta)(g:PE X (.BoolOp .Or (b::rest) pos) tb):PE X (.BoolOp .Or (a::b::rest) pos) (b0g ta tb):=by
 intro qK s σ H Q I h;refine BoolOp_or (thn (f qK s σ H _ I h) λv s1 ⟨x,H1,e,i,d⟩=>?_);obtain⟨c,rfl,d⟩:=d;cases i;refine cG ?_;cases c with
 |false=>exact g qK s1 σ H1 Q e d
 |true=>exact⟨.bl true,H1,e,rfl,d⟩
def b8k(e:PE X a ta):PE X (.UnaryOp .Not a pos) (a4l ta):=by
 intro qK s σ H Q I h;refine UnaryOp_ (thn (e qK s σ H _ I h) λv s1 ⟨x,H1,d,f,b⟩=>?_);obtain⟨c,rfl,b⟩:=b;cases f;exact not_of (cG ⟨.bl (!c),H1,d,rfl,b⟩)
def tIf(t:TT)(ta tb:TE):TE:=λσ H Q=>t σ H λc H1=>if c=true then ta σ H1 Q else tb σ H1 Q
def b3b(j:PT X c tA)(g:PE X a ta)(i:PE X b tb):PE X (.IfExp c a b pos) (tIf tA ta tb):=by
 intro qK s σ H Q I h;refine wpAny_IfExp (thn (j qK s σ H _ I h) λd s1 ⟨H1,e,f⟩=>?_);cases d with
 |true=>exact g qK s1 σ H1 Q e f
 |false=>exact i qK s1 σ H1 Q e f
end
def SqL(K:qF)(H:Hp)(a:qE)(xs:qA V):Prop :=
 Rd H a (.lst xs) ∨
  ∃(o:Obj) (its:Array qB) (n:Nat),K.lookup a=some o/\o.cls=.type "list"/\o.dict=none/\o.data=.seq its n/\its.size<=sizeLine/\Vals xs its.toList
def SqT(K:qF)(H:Hp)(a:qE)(xs:qA V):Prop :=
 Rd H a (.tup xs) ∨
  ∃(o:Obj) (its:Array qB) (n:Nat),K.lookup a=some o/\o.cls=.type "tuple"/\o.data=.seq its n/\its.size<=sizeLine/\Vals xs its.toList
def c0p:qB->qD V
 |.none=>some .non
 |.bool b=>some (.bl b)
 |.int i _=>some (.int i)
 |.str x _=>some (.str x)
 |.bytes b _=>some (.byt b)
 |.float b _=>some (.flt b)
 |.ref a=>some (.ref a)
 |.type n=>some (.ty n)
 |_=>none
def RelV.abs{x:V}(r:RelV x u):c0p u=some x:=by
 cases x with
 |non=>cases r;rfl
 |bl _=>cases r;rfl
 |int _=>obtain⟨t,rfl⟩:=r;rfl
 |str _=>obtain⟨t,rfl⟩:=r;rfl
 |byt _=>obtain⟨t,rfl⟩:=r;rfl
 |flt _=>obtain⟨t,rfl⟩:=r;rfl
 |ref _=>cases r;rfl
 |ty _=>cases r;rfl
def RelV.inj{x y:V}(r:RelV x u)(q:RelV y u):x=y:=bF (r.abs.symm.trans q.abs)
def Vals.inj:∀{xs ys:qA V}{us:qA qB},Vals xs us->Vals ys us->xs=ys
 |_,_,_,.nil,.nil=>rfl
 |_,_,_,.cons r t,.cons r' t'=>by rw[r.inj r',Vals.inj t t']
section
variable {ys:qA V}
def SqL.of(h:H a=some (.lst xs)):SqL K H a xs:=.inl (.inl h)
def SqT.of(h:H a=some (.tup xs)):SqT K H a xs:=.inl (.inl h)
def Inv.list(I:Inv X qK σ H s)(h:SqL X.K H a xs):∃its:qA qB,Vals xs its/\PlainL s.heap a its.toArray/\xs.length<=sizeLine:=by
 rcases h with h|⟨o,its,n,c,b,hd,hs,d,r⟩
 .obtain⟨z,its,n,r,e⟩:=h.ok I.hok;exact⟨its,r,⟨_,n,e,rfl,rfl,rfl⟩,z⟩
 .refine⟨its.toList,r,⟨o,n,I.kIn a o c,b,hd,by simpa using hs⟩,?_⟩;have e:=r.length;simp only[ax]at e;omega
def Inv.tuple(I:Inv X qK σ H s)(h:SqT X.K H a xs):∃its:qA qB,Vals xs its/\IsTup s.heap a its.toArray/\xs.length<=sizeLine:=by
 rcases h with h|⟨o,its,n,c,b,hs,d,r⟩
 .obtain⟨z,its,r,p⟩:=h.ok I.hok;exact⟨its,r,p,z⟩
 .refine⟨its.toList,r,⟨o,I.kIn a o c,b,n,by simpa using hs⟩,?_⟩;have e:=r.length;simp only[ax]at e;omega
def Inv.list_inj(I:Inv X qK σ H s)(h:SqL X.K H a xs)(h':SqL X.K H a ys):xs=ys:=by
 obtain⟨its,r,⟨o,n,e,_,_,d⟩,_⟩:=I.list h;obtain⟨b,g,⟨o',i,f,_,_,c⟩,_⟩:=I.list h';rw[e]at f;cases f;rw[d]at c;injection c with d1 _
 have:its=b:=by simpa using aL Array.toList d1
 subst this;exact r.inj g
def Inv.tuple_inj(I:Inv X qK σ H s)(h:SqT X.K H a xs)(h':SqT X.K H a ys):xs=ys:=by
 obtain⟨its,r,⟨o,e,_,n,d⟩,_⟩:=I.tuple h;obtain⟨b,g,⟨o',f,_,i,c⟩,_⟩:=I.tuple h';rw[e]at f;cases f;rw[d]at c;injection c with d1 _
 have:its=b:=by simpa using aL Array.toList d1
 subst this;exact r.inj g
end
abbrev Cx.wish(X:Cx)(E:qH):Cx:={X with xe:=E}
abbrev Cx.nox(X:Cx):Cx:=X.wish λ_ _=>False
def Cx.Ok.wish(ok:X.Ok)(E:qH):(X.wish E).Ok :=
 ⟨ok.mod,ok.kind,ok.glob,ok.blt,ok.above,ok.inj,ok.has,ok.cab,ok.hd,ok.frames,ok.stk,ok.exf,ok.bs,ok.bsz,ok.noex,ok.exfs,ok.funs,ok.frf⟩
def Cx.Ok.unwish(ok:(X.wish E).Ok):X.Ok :=
 ⟨ok.mod,ok.kind,ok.glob,ok.blt,ok.above,ok.inj,ok.has,ok.cab,ok.hd,ok.frames,ok.stk,ok.exf,ok.bs,ok.bsz,ok.noex,ok.exfs,ok.funs,ok.frf⟩
def Inv.wish(I:Inv X qK σ H s)(E:qH):Inv (X.wish E) qK σ H s:=⟨I.ok.wish E,I.os,I.bare,I.base,I.loc,I.cell,I.free,I.freeC,I.pin,I.hok,I.len⟩
def Inv.unwish(I:Inv (X.wish E) qK σ H s):Inv X qK σ H s:=⟨I.ok.unwish,I.os,I.bare,I.base,I.loc,I.cell,I.free,I.freeC,I.pin,I.hok,I.len⟩
def SP.unwish{D:Ends}{f:Flow}{s':qC}(h:SP (X.wish E) qK D f s'):SP X qK D f s':=by
 cases f with
 |next=>obtain⟨σ',H',I,q⟩:=h;exact⟨σ',H',I.unwish,q⟩
 |brk=>obtain⟨σ',H',I,q⟩:=h;exact⟨σ',H',I.unwish,q⟩
 |cont=>obtain⟨σ',H',I,q⟩:=h;exact⟨σ',H',I.unwish,q⟩
 |ret u=>obtain⟨v,σ',H',I,r,q⟩:=h;exact⟨v,σ',H',I.unwish,r,q⟩
def PSs.nox{st:qA Stmt}{t:TS}(h:PSs X.nox st t):PSs X st t:=λqK s σ H D I hw =>
 cW (h qK s σ H D (I.wish _) hw) (λ_ _ q=>q.unwish) λ_ _ z=>False.elim z
section
variable {st:Stmt}{rest:qA Stmt}{t u:TS}
def a4m:TS:=λD σ H=>D.nx σ H
def a7J(t u:TS):TS:=λD σ H=>t {D with nx:=u D} σ H
def b5q:PSs X [] a4m:=λ_ _ σ H _ I h=>dQ ⟨σ,H,I,h⟩
def b2N(h1:PS X st t)(h2:PSs X rest u):PSs X (st::rest) (a7J t u):=by
 intro qK s σ H D I h;refine wpAny_execs_cons (thn (h1 qK s σ H {D with nx:=u D} I h) λf s1 q=>?_);cases f with
 |next =>
  obtain⟨σ',H',a,q⟩:=q;exact h2 qK s1 σ' H' D a q
 |ret v=>exact q
 |brk=>exact q
 |cont=>exact q
def b5p(h1:PS X st t):PSs X [st] t:=by
 intro qK s σ H D I h;refine wpAny_execs_cons (thn (h1 qK s σ H D I h) λf s1 q=>?_);cases f with
 |next=>exact dQ q
 |ret v=>exact q
 |brk=>exact q
 |cont=>exact q
def b1X:TS:=λD σ H=>D.bk σ H
def b2R:PS X (.Break pos) b1X:=λ_ _ σ H _ I h=>wpAny_Break ⟨σ,H,I,h⟩
def Inv.quiet(I:Inv X qK σ H s):interactive X.env=false:=by simp[interactive,I.ok.kind]
def a4n(te:TE):TS:=λD σ H=>te σ H λ_ H1=>D.nx σ H1
def b5s(b:PE X e te)(hs:swapsWith e none pos.line X.env=pure false:=by rfl):PS X (.Expr e pos) (a4n te):=by
 intro qK s σ H D I h;exact wpAny_Expr_any (thn (b qK s σ H _ I h) λv s1 ⟨x,H1,a,d,c⟩=>⟨σ,H1,a,c⟩) I.quiet hs
def a7K(te:TE):TS:=λD σ H=>te σ H D.rt
def b7Z(b:PE X e te):PS X (.Return (some e) pos) (a7K te):=by
 intro qK s σ H D I h;exact wpAny_Return_some (thn (b qK s σ H _ I h) λv s1 ⟨x,H1,a,d,c⟩=>⟨x,σ,H1,a,d,c⟩)
def a8Z:TS:=λD _ H=>D.rt .non H
def b0i(c:TT)(t u:TS):TS:=λD σ H=>c σ H λb H1=>if b=true then t D σ H1 else u D σ H1
def b9Q{a b:qA Stmt}{tc:TT}(j:PT X c tc)(g:PSs X a t)(i:PSs X b u):PS X (.If c a b pos) (b0i tc t u):=by
 intro qK s σ H D I h;refine wpAny_If (thn (j qK s σ H _ I h) λd s1 ⟨H1,e,f⟩=>?_);cases d with
 |true=>exact g qK s1 σ H1 D e f
 |false=>exact i qK s1 σ H1 D e f
end
abbrev TG:=V->St->Hp->(St->Hp->Prop)->Prop
abbrev TGs:=qA V->St->Hp->(St->Hp->Prop)->Prop
def PG(X:Cx)(target:Expr)(t:TG):Prop :=
 ∀(qK:qA (qE×Obj)) (s:qC) (σ:St) (H:Hp) (v:V) (u:qB) (Q:St->Hp->Prop),Inv X qK σ H s->RelV v u->t v σ H Q ->
  wpAny (model X.prog X.w) X.A (assign target X.env u) (λ_ s'=>∃σ' H',Inv X qK σ' H' s'/\Q σ' H') X.xe s
def PGs(X:Cx)(ts:qA Expr)(t:TGs):Prop :=
 ∀(qK:qA (qE×Obj)) (s:qC) (σ:St) (H:Hp) (vs:qA V) (us:qA qB) (Q:St->Hp->Prop),Inv X qK σ H s->Vals vs us->t vs σ H Q ->
  wpAny (model X.prog X.w) X.A (assignInOrder ((assignEach ts X.env).map (·.2)) us) (λ_ s'=>∃σ' H',Inv X qK σ' H' s'/\Q σ' H') X.xe s
abbrev b4H:=V->V->V->Hp->(Hp->Prop)->Prop
def b9x(X:Cx)(t:b4H):Prop :=
 ∀(qK:qA (qE×Obj)) (s:qC) (σ:St) (H:Hp) (o i v:V) (ov iv u:qB) (Q:Hp->Prop),Inv X qK σ H s->RelV o ov->RelV i iv->RelV v u->t o i v H Q ->
  wpAny (model X.prog X.w) X.A (setItem ov iv u) (λ_ s'=>∃H',Inv X qK σ H' s'/\Q H') X.xe s
abbrev TIp:=V->V->Hp->VK->Prop
def PIp(X:Cx)(op:Operator)(t:TIp):Prop :=
 ∀(qK:qA (qE×Obj)) (s:qC) (σ:St) (H:Hp) (x y:V) (v u:qB) (Q:VK),Inv X qK σ H s->RelV x v->RelV y u->t x y H Q ->
  wpAny (model X.prog X.w) X.A (inplaceOp op v u) (EP X qK σ Q) X.xe s
def B0(i:Nat):TG:=λv σ H Q=>Q (σ.set i (some v)) H
def b5H(b:X.N.Nodup)(hi:X.N[i]?=some x)(d:Loc X.env.scope x)(c:X.fn x=true∨X.env.scope.names.lookup x=some .local:=by first|exact .inl rfl|exact .inr rfl|assumption):PG X (.Name x pos) (B0 i):=by
 intro qK s σ H v u Q I r h;exact wpAny_assign_Name (a2I I b hi d r (λs' a=>⟨_,H,a,h⟩) c)
def a8w:TGs:=λvs σ H Q=>vs=[]/\Q σ H
def W7(t:TG)(u:TGs):TGs:=λvs σ H Q=>∃v r,vs=v::r/\t v σ H λσ' H'=>u r σ' H' Q
def b5F:PGs X [] a8w:=by
 intro qK s σ H vs a Q I r h;obtain⟨e,h⟩:=h;subst e;cases r;exact assignInOrder_nil ⟨σ,H,I,h⟩
def b2W{t:TG}{u:TGs}(h1:PG X e t)(h2:PGs X es u)
  (hs:(assignEach (e::es) X.env).map (·.2)=assign e X.env::(assignEach es X.env).map (·.2):=by rfl):PGs X (e::es) (W7 t u):=by
 intro qK s σ H vs d Q I r h;obtain⟨v,f,b,h⟩:=h;subst b;cases r with
 |cons r rr =>
  rw[hs];refine assignInOrder_cons (thn (h1 qK s σ H _ _ _ I r h) λ_ s1 ⟨σ1,H1,a,c⟩=>?_);exact h2 qK s1 σ1 H1 _ _ Q a rr c
def a7n(K:qF)(n:Nat)(t:TGs):TG:=λv σ H Q=>∃a xs,v=.ref a/\SqT K H a xs/\xs.length=n/\t xs σ H Q
def b8f{t:TGs}(i:X.calm=true)(h:PGs X es t)
  (l:(assignEach es X.env).length=n:=by rfl) (c:(assignEach es X.env).findIdx? (·.1)=none:=by rfl):PG X (.Tuple es k pos) (a7n X.K n t):=by
 intro qK s σ H v u Q I r hw;obtain⟨a,xs,g,m,j,hw⟩:=hw;subst g;cases r;obtain⟨its,d,p,w⟩:=I.tuple m;refine assign_Tuple_tuple (I.ok.hd i) p (by simp[l,<-j,d.length]) c λh' q=>?_;have f:Inv X qK σ H {s with heap:=h'}:=I.kept (t':=s.toks) λb o e=>q b o (aV (aI e)) e;exact h qK _ σ H xs _ Q f (by simpa using d) hw
def c0e(to ti:TE)(t:b4H):TG:=λv σ H Q=>to σ H λo H1=>ti σ H1 λi H2=>t o i v H2 λH3=>Q σ H3
def b8g{o i:Expr}{to c:TE}{t:b4H}(k:PE X o to)(hi:PE X i c)(hs:b9x X t)
  (j:∀v,assign (.Subscript o i pos) X.env v=(do
   let a <-holding [v] (eval o X.env)
   let b <-holding [v,a] (eval i X.env)
   standAt pos
   holding [v,a,b] (setItem a b v)
   release [v,a,b] []):=by intro _;rfl):PG X (.Subscript o i pos) (c0e to c t):=by
 intro qK s σ H v u Q I r h;rw[j];refine aa (bW (thn (k qK s σ H _ I h) λa s1 ⟨x,H1,e,p,l⟩=>?_));refine aa (bW (thn (hi qK s1 σ H1 _ e l) λb s2 ⟨y,H2,f,q,m⟩=>?_));refine aa (wpAny_standAt (aa (bW (thn (hs qK s2 σ H2 x y v a b u _ f p q r m) λ_ w ⟨d,g,n⟩=>?_))));exact wpAny_release ⟨σ,d,g,n⟩
def a3O(te:TE)(g:TG):TS:=λD σ H=>te σ H λx H1=>g x σ H1 D.nx
def b8c{g:TG}(b:PE X e te)(c:PG X tg g)(hs:swapsWithSole [tg] e pos.line X.env=pure false:=by rfl)(hw:swappedStores [tg] e X.env=pure none:=by rfl)
  (h1:(assignEach [tg] X.env).map (·.2)=[assign tg X.env]:=by rfl):PS X (.Assign [tg] e pos) (a3O te g):=by
 intro qK s σ H D I h;refine wpAny_Assign_stores (thn (b qK s σ H _ I h) λv s1 ⟨x,H1,a,f,d⟩=>?_) hs hw;rw[h1];exact thn (c qK s1 σ H1 x v _ a f d) λ_ s2 q=>q
def b7Y{pos':Pos}(c:X.N.Nodup)(hi:X.N[i]?=some x)(g:Loc X.env.scope x)(d:PE X e te)(hs:swapsWith e (some (.Name x pos')) pos.line X.env=pure false:=by rfl)(f:X.fn x=true∨X.env.scope.names.lookup x=some .local:=by first|exact .inl rfl|exact .inr rfl|assumption) :
  PS X (.Assign [.Name x pos'] e pos) (a3O te (B0 i)):=by
 intro qK s σ H D I h;refine wpAny_Assign_Name (thn (d qK s σ H _ I h) λv s1 ⟨y,H1,a,k,j⟩=>?_) hs;exact a2I a c hi g k (λs2 b=>⟨_,H1,b,j⟩) f
def b6X(to ti te:TE)(tget:V->V->Hp->VK->Prop)(tip:TIp)(tset:b4H):TS:=λD σ H=>to σ H λo H1=>ti σ H1 λi H2=>tget o i H2 λx H3=>te σ H3 λy H4=>tip x y H4 λz H5=>tset o i z H5 λH6=>D.nx σ H6
def b9y(X:Cx)(t:V->V->Hp->VK->Prop):Prop :=
 ∀(qK:qA (qE×Obj)) (s:qC) (σ:St) (H:Hp) (o i:V) (ov iv:qB) (Q:VK),Inv X qK σ H s->RelV o ov->RelV i iv->t o i H Q ->
  wpAny (model X.prog X.w) X.A (getItem ov iv) (EP X qK σ Q) X.xe s
def b5u{o i:Expr}{to l:TE}{a:V->V->Hp->VK->Prop}{f:TIp}{b:b4H}{g:Operator}{tpos:Pos}(F:PE X o to)(hi:PE X i l)(E:b9y X a)(C:PE X e te)(hp:PIp X g f)(hs:b9x X b)
  (B:∀d c new,augStore i d c new=(do holding [new,d,c] (setItem d c new);release [new,d,c] [];pure .next):=by intros;rfl):PS X (.AugAssign (.Subscript o i tpos) g e pos) (b6X to l te a f b):=by
 intro qK s σ H D I h;refine wpAny_AugAssign_SubscriptAny (thn (F qK s σ H _ I h) λd s1 ⟨m,H1,u,j,G⟩=>?_) B;refine thn (hi qK s1 σ H1 _ u G) λc s2 ⟨n,H2,w,k,J⟩=>?_;refine thn (E qK s2 σ H2 m n d c _ w j k J) λold R ⟨U,p,x,O,K⟩=>?_;refine thn (C qK R σ p _ x K) λv S ⟨W,q,y,P,L⟩=>?_;refine thn (hp qK S σ q U W old v _ y O P L) λnew T ⟨Y,r,z,Q,M⟩=>?_;exact thn (hs qK T σ r m n Y d c new _ z j k Q M) λ_ Z ⟨t,A,N⟩=>⟨σ,t,A,N⟩
def ipI(f:Int->Int->Int):TIp:=λx y H Q=>∃i j,x=.int i/\y=.int j/\Q (.int (f i j)) H
def b9d:PIp X .Add (ipI λi j=>i+j):=by
 intro qK s σ H x y v u Q I c d h;obtain⟨i,j,a,b,q⟩:=h;subst a;subst b;obtain⟨t,rfl⟩:=c;obtain⟨t',rfl⟩:=d;exact iadd_int ⟨.int _,H,I.tok _,⟨_,rfl⟩,q⟩
def b1S(c:TT)(tb:TS):TS:=λD σ H=>∃W:Nat->St->Hp->Prop,(∃m,W m σ H)/\∀m σ H,W m σ H ->
 c σ H λb H1=>if b=true then ∃N:St->Hp->Prop,(∀σ' H',N σ' H'->∃m',m'<m/\W m' σ' H')/\tb {D with nx:=N,ct:=N,bk:=D.nx} σ H1 else D.nx σ H1
def b2O{tc:TT}(hp:PassesOwn (model X.prog X.w) X.A X.env X.xe)(t:PT X c tc)(r:PSs X body tb):PS X (.While c body [] pos) (b1S tc tb):=by
 intro qK s σ H D I h;obtain⟨W,⟨u,w⟩,d⟩:=h;refine wpAny_While (codeAny_whileLoop (λn s'=>∃σ' H',Inv X qK σ' H' s'/\W n σ' H') ?_ u ⟨σ,H,I,w⟩);rintro n s1 ⟨σ1,H1,q,x⟩;refine dw hp (thn (t qK s1 σ1 H1 _ q (d n σ1 H1 x)) λb s2 ⟨H2,o,e⟩=>?_);cases b with
 |true =>
  obtain⟨N,p,e⟩:=e;rw[aD rfl];refine dw hp (thn (r qK s2 σ1 H2 _ o e) λf y g=>?_);cases f with
  |next =>
   obtain⟨σ3,a,i,l⟩:=g;obtain⟨k,j,m⟩:=p σ3 a l;exact⟨k,j,σ3,a,i,m⟩
  |cont =>
   obtain⟨σ3,a,i,l⟩:=g;obtain⟨k,j,m⟩:=p σ3 a l;exact⟨k,j,σ3,a,i,m⟩
  |brk=>exact g
  |ret v=>exact g
 |false =>
  rw[aq a'];exact dQ ⟨σ1,H2,o,e⟩
structure It where
 go:Nat->Hp->Prop
 yld:Nat->Hp->V->Hp->Prop
 stop:Nat->Hp->Prop
def a1I(X:Cx)(qK:qA (qE×Obj))(H:Hp)(b:qE):Prop :=
 H b=none/\b≠X.env.locals/\b∉X.fs/\(b∈X.ex∨X.s₀.heap.objs.size<=b)/\(∀x c,X.env.cells.lookup x=some c->c≠b)/\∀p∈X.pn++qK,p.1≠b
def Inv.fpOk(I:Inv X qK σ H s)(a:s.heap.objs.size<=b)(d:H' b=none):a1I X qK H' b:=by
 refine⟨d,cK (aO I.lt a),I.nofs a,.inr (a_ I.sz a),λx c e z=>?_,λp f z=>?_⟩
 .obtain⟨v,q⟩:=I.cell x c e;exact absurd (aO q.lt (by rw[z];exact a)) (bV _)
 .exact absurd (aO (aI (I.pin p f).1) (by rw[z];exact a)) (bV _)
structure Turn(P:qG)(w:World)(K:qF)(tg:Expr)(J:It)(fp:qA qE)(it:qE)(tn:Nat->Heap->Prop):Prop where
 mem:it∈fp
 obj:∀i h,tn i h->∀b∈fp,∃o,h.get? b=some o/\∀v,o.data≠.cell v
 keep:∀i h h',tn i h->(∀b∈fp,∀o,h.get? b=some o->h'.get? b=some o)->tn i h'
 item:∀(X:Cx),X.prog=P->X.w=w->X.K=K->X.calm=true->∀(i:Nat) (qK:qA (qE×Obj)) (s:qC) (σ:St) (H:Hp) (E:qH),Inv X qK σ H s->(∀b∈fp,a1I X qK H b)->tn i s.heap->J.go i H ->
  wpAny (model P w) X.A (pyNext (.ref it)) (λr s1=>∃u,r=some u /\
   wpAny (model P w) X.A (letOwnedTupleGo tg (.ref it) u) (λ_ s2=>∃x H',Inv X qK σ H' s2/\RelV x u/\J.yld i H x H'/\tn (i+1) s2.heap/\∀b∈fp,H' b=none) E s1) E s
 done:∀(X:Cx),X.prog=P->X.w=w->X.K=K->X.calm=true->∀(i:Nat) (qK:qA (qE×Obj)) (s:qC) (σ:St) (H:Hp) (E:qH),Inv X qK σ H s->(∀b∈fp,a1I X qK H b)->tn i s.heap->J.stop i H ->
  wpAny (model P w) X.A (pyNext (.ref it)) (λr s1=>r=none/\Inv X qK σ H s1) E s
 self:∀(A:Around) (i:Nat) (s:qC) (Q:qH) (E:qH),tn i s.heap->Q (.ref it) s->wpAny (model P w) A (pyIter (.ref it)) Q E s
abbrev TI:=St->Hp->(It->Hp->Prop)->Prop
def PIE(X:Cx)(qK:qA (qE×Obj))(σ:St)(tg:Expr)(R:It->Hp->Prop)(itv:qB)(s2:qC):Prop :=
 ∃(it:qE) (fp:qA qE) (tn:Nat->Heap->Prop) (J:It) (H':Hp),itv=.ref it/\Inv X qK σ H' s2/\Turn X.prog X.w X.K tg J fp it tn/\tn 0 s2.heap/\(∀b∈fp,a1I X qK H' b)/\R J H'
def PI(X:Cx)(tg iter:Expr)(wi:TI):Prop :=
 ∀(qK:qA (qE×Obj)) (s:qC) (σ:St) (H:Hp) (R:It->Hp->Prop),Inv X qK σ H s->wi σ H R ->
  wpAny (model X.prog X.w) X.A (eval iter X.env) (λv s1=>wpAny (model X.prog X.w) X.A (pyIter v) (PIE X qK σ tg R) X.xe s1) X.xe s
def a7m{it:qE}{o:Obj}{n:String}{vs:Array qB}{Q:Unit->qC->Prop}(d:s.heap.get? it=some o)(b:o.cls=.type n)(hd:o.data=.fields vs)
  (c:["enumerate","zip","dict_itemiterator","dict_reverseitemiterator","odict_iterator","itertools.zip_longest","itertools.pairwise"].contains n=false) (a:Q () s):wpAny M A (letOwnedTupleGo tg (.ref it) u) Q E s:=by
 unfold letOwnedTupleGo;cases tg<;>first
  |exact ai a
  | (cases u <;> first
    |exact ai a
    | (refine aa (wpAny_load d ?_)
       rw[b,hd];show wpAny M A (if (["enumerate","zip","dict_itemiterator","dict_reverseitemiterator","odict_iterator","itertools.zip_longest","itertools.pairwise"].contains n && vs[0]? == some (rawInt _))=true then _ else _) Q E s;rw[aq (by intro h;rw[c,d_]at h;cases h)];exact ai a))
def Itl(K:qF)(a:qE):It :=
 ⟨λi H=>∃xs x,SqL K H a xs/\xs[i]?=some x,λi H x H'=>H'=H/\∀xs,SqL K H a xs->xs[i]?=some x,λi H=>∃xs,SqL K H a xs/\xs.length<=i⟩
def Itt(K:qF)(a:qE):It :=
 ⟨λi H=>∃xs x,SqT K H a xs/\xs[i]?=some x,λi H x H'=>H'=H/\∀xs,SqT K H a xs->xs[i]?=some x,λi H=>∃xs,SqT K H a xs/\xs.length<=i⟩
def Itr(lo:Int)(n:Nat):It:=⟨λi _=>i<n,λi H x H'=>H'=H/\x=.int (lo+i),λi _=>n<=i⟩
def b0c(a it:qE):Turn P w K tg (Itl K a) [it] it (λi h=>h.IsListIter it a i) where
 mem:=by simp
 obj:=λi h st b f=>by
  have e:b=it:=by simpa using f
  subst e;obtain⟨o,e,c,d⟩:=st;exact⟨o,e,λv z=>by rw[d]at z;cases z⟩
 keep:=λi h h' st k=>st.at λo e=>k it (by simp) o e
 item:=by
  intro X t hw r C i qK s σ H E I g st y;subst t hw r;obtain⟨xs,x,j,A⟩:=y;obtain⟨its,B,p,L⟩:=I.list j;obtain⟨u,G,M⟩:=B.get A;obtain⟨l,f1,f2,m,n,q⟩:=g it (by simp);refine wpAny_pyNext_list_item st p.isList (x:=u) (by simpa using G) λh' st' N=>?_;have D:Inv X qK σ H {s with heap:=h'}:=I.turned (t':=s.toks) (λb o f e=>(N.2 b f).trans e) l f1 m n q;obtain⟨o,e,c,d⟩:=id st';exact⟨u,rfl,a7m (s:={s with heap:=h'}) e c d (by decide) ⟨x,H,D,M,⟨rfl,λys J=>by rw[I.list_inj J j];exact A⟩,st',λb f=>(g b f).1⟩⟩
 done:=by
  intro X t hw r C i qK s σ H E I g st y;subst t hw r;obtain⟨xs,j,A⟩:=y;obtain⟨its,B,p,L⟩:=I.list j;obtain⟨l,f1,f2,m,n,q⟩:=g it (by simp);have O:=B.length;exact wpAny_pyNext_list_end (I.ok.hd C) st p.isList (by simp;omega) λh' F=>⟨rfl,I.turned (t':=s.toks) (λb o f e=>F b o f e) l f1 m n q⟩
 self:=λ_ _ _ _ _ st h=>wpAny_pyIter_listiter st h
def a7E(a it:qE):Turn P w K tg (Itt K a) [it] it (λi h=>h.IsTupleIter it a i) where
 mem:=by simp
 obj:=λi h st b f=>by
  have e:b=it:=by simpa using f
  subst e;obtain⟨o,e,c,d⟩:=st;exact⟨o,e,λv z=>by rw[d]at z;cases z⟩
 keep:=λi h h' st k=>st.at λo e=>k it (by simp) o e
 item:=by
  intro X t hw r C i qK s σ H E I g st y;subst t hw r;obtain⟨xs,x,j,A⟩:=y;obtain⟨its,B,p,L⟩:=I.tuple j;obtain⟨u,G,M⟩:=B.get A;obtain⟨l,f1,f2,m,n,q⟩:=g it (by simp);refine wpAny_pyNext_tuple_item st (show s.heap.IsTuple a its.toArray from p) (x:=u) (by simpa using G) λh' st' N=>?_;have D:Inv X qK σ H {s with heap:=h'}:=I.turned (t':=s.toks) (λb o f e=>(N.2 b f).trans e) l f1 m n q;obtain⟨o,e,c,d⟩:=id st';exact⟨u,rfl,a7m (s:={s with heap:=h'}) e c d (by decide) ⟨x,H,D,M,⟨rfl,λys J=>by rw[I.tuple_inj J j];exact A⟩,st',λb f=>(g b f).1⟩⟩
 done:=by
  intro X t hw r C i qK s σ H E I g st y;subst t hw r;obtain⟨xs,j,A⟩:=y;obtain⟨its,B,p,L⟩:=I.tuple j;obtain⟨l,f1,f2,m,n,q⟩:=g it (by simp);have O:=B.length;exact wpAny_pyNext_tuple_end (I.ok.hd C) st (show s.heap.IsTuple a its.toArray from p) (by simp;omega) λh' F=>⟨rfl,I.turned (t':=s.toks) (λb o f e=>F b o f e) l f1 m n q⟩
 self:=λ_ _ _ _ _ st h=>wpAny_pyIter_tupleiter st h
def a7F(it:qE)(lo:Int)(n:Nat):Turn P w K tg (Itr lo n) [it] it (λi h=>IsRangeIter h it (lo+(i:Nat)*1) ((n:Int)-(i:Nat)) 1) where
 mem:=by simp
 obj:=λi h st b a=>by
  have e:b=it:=by simpa using a
  subst e;exact⟨_,st,λv z=>by
   have y:Data.fields _=Data.cell v:=z;cases y⟩
 keep:=λi h h' st k=>k it (by simp) _ st
 item:=by
  intro X m hw l p i qK s σ H E I c st q;subst m hw l;obtain⟨d,f1,f2,f,g,j⟩:=c it (by simp);have W:=Walks.range (prog:=X.prog) (w:=X.w) (I.ok.hd p) it lo 1 n;refine W.item i s _ _ q st λv h' tk x st' kk=>?_;obtain⟨t,rfl⟩:=x;have r:Inv X qK σ H {s with heap:=h',toks:=tk}:=I.turned (λb o a e=>kk b o (by simpa using a) e) d f1 f g j;refine⟨_,rfl,a7m (s:={s with heap:=h',toks:=tk}) (n:="range_iterator") st' rfl rfl (by decide) ⟨.int (lo+i),H,r,⟨t,?_⟩,⟨rfl,rfl⟩,st',λb a=>(c b a).1⟩⟩;rw[Int.mul_one]
 done:=by
  intro X m hw l p i qK s σ H E I c st q;subst m hw l;obtain⟨d,f1,f2,f,g,j⟩:=c it (by simp);exact wpAny_pyNext_range_end (I.ok.hd p) st (by have:n<=i:=q;omega) λh' u=>⟨rfl,I.turned (t':=s.toks) (λb o a e=>u b o a e) d f1 f g j⟩
 self:=λ_ _ _ _ _ st h=>wpAny_pyIter_rangeiter st h
def b3Y(K:qF)(tl:TE):TI:=λσ H R=>tl σ H λx H1=>∃a,x=.ref a/\(∃xs,SqL K H1 a xs)/\R (Itl K a) H1
def b9g(K:qF)(tl:TE):TI:=λσ H R=>tl σ H λx H1=>∃a,x=.ref a/\(∃xs,SqT K H1 a xs)/\R (Itt K a) H1
def b5D{tl:TE}(f:PE X l tl):PI X tg l (b3Y X.K tl):=by
 intro qK s σ H R I h;refine thn (f qK s σ H _ I h) λv s1 ⟨x,H1,c,j,i⟩=>?_;obtain⟨a,e,⟨xs,g⟩,q⟩:=i;subst e;cases j;obtain⟨its,m,p,k⟩:=c.list g;refine fg p.isList ?_;refine⟨s1.heap.objs.size,[s1.heap.objs.size],_,_,H1,rfl,c.kept (t':=s1.toks) λb o e=>ae _ e,b0c a _,⟨_,aC _ rfl,rfl,rfl⟩,λb d=>?_,q⟩;have e:b=s1.heap.objs.size:=by simpa using d
 subst e;exact c.fpOk (ak _) (c.hok.fresh (ak _))
def b8e{tl:TE}(f:PE X l tl):PI X tg l (b9g X.K tl):=by
 intro qK s σ H R I h;refine thn (f qK s σ H _ I h) λv s1 ⟨x,H1,c,j,i⟩=>?_;obtain⟨a,e,⟨xs,g⟩,q⟩:=i;subst e;cases j;obtain⟨its,m,p,k⟩:=c.tuple g;refine wpAny_pyIter_tuple (show s1.heap.IsTuple a its.toArray from p) ?_;refine⟨s1.heap.objs.size,[s1.heap.objs.size],_,_,H1,rfl,c.kept (t':=s1.toks) λb o e=>ae _ e,a7E a _,⟨_,aC _ rfl,rfl,rfl⟩,λb d=>?_,q⟩;have e:b=s1.heap.objs.size:=by simpa using d
 subst e;exact c.fpOk (ak _) (c.hok.fresh (ak _))
def b2z{R:It->Hp->Prop}{lo hi:Int}{t u v:Tok}{tk:Nat}(I:Inv X qK σ H s)(h1 : -(2 ^ 62)<=lo)(h2:lo<2 ^ 62)(d : -(2 ^ 62)<=hi)(f:hi<2 ^ 62)
  (q:R (Itr lo (hi-lo).toNat) H):wpAny (model X.prog X.w) X.A (pyIter (.ref s.heap.objs.size)) (PIE X qK σ tg R) E {s with heap:=s.heap.push {cls:=.type "range",data:=.fields #[.int lo t,.int hi u,.int 1 v]},toks:=tk}:=by
 refine wpAny_pyIter_range (IsRange.new ..) (small_one h1 h2 d f) ?_;have a:Inv X qK σ H {s with heap:=s.heap.push {cls:=.type "range",data:=.fields #[.int lo t,.int hi u,.int 1 v]},toks:=tk}:=I.kept λb o e=>ae _ e;refine⟨(s.heap.push {cls:=.type "range",data:=.fields #[.int lo t,.int hi u,.int 1 v]}).objs.size,[(s.heap.push {cls:=.type "range",data:=.fields #[.int lo t,.int hi u,.int 1 v]}).objs.size],_,_,H,rfl,
  a.kept (t':=tk) λb o e=>ae _ e,a7F _ lo (hi-lo).toNat,?_,λb g=>?_,q⟩
 .have e1:lo+((0:Nat):Int)*1=lo:=by simp
  have c:(((hi-lo).toNat:Nat):Int)-((0:Nat):Int)=Builtin.Range.rangeSize lo hi 1:=by rw[rangeSize_one];split<;>omega
  show IsRangeIter _ _ (lo+((0:Nat):Int)*1) ((((hi-lo).toNat:Nat):Int)-((0:Nat):Int)) 1;rw[e1,c];exact aC _ rfl
 .have e:b=(s.heap.push {cls:=.type "range",data:=.fields #[.int lo t,.int hi u,.int 1 v]}).objs.size:=by simpa using g
  subst e;exact a.fpOk (ak _) (a.hok.fresh (ak _))
def b7z(ta:TA):TI:=λσ H R=>ta σ H λvs H1=>∃j:Int,vs=[.int j] /\ -(2 ^ 62)<=j/\j<2 ^ 62/\R (Itr 0 j.toNat) H1
def b0C{a:Expr}{ta:TA}{p:Pos}(f:Gl X "range")(g:X.mg "range"=none)(d:PA X [a] ta)(hs:starEach [a] X.env=[(false,eval a X.env)]:=by rfl):PI X tg (.Call (.Name "range" p) [a] [] pos) (b7z ta):=by
 intro qK s σ H R I h;refine Call_ (a1t I f g boot_range (ez (thn (d pos qK s σ H _ I h) λl s1 ⟨vs,H1,c,k,b⟩=>?_) hs rfl));obtain⟨j,e,b,i,q⟩:=b;subst e;cases k with
 |cons r rr =>
  cases rr;obtain⟨t,rfl⟩:=r;exact call_range_1 (b2z c (by omega) (by omega) b i (by simpa using q))
def b9D(wi:TI)(g:TG)(tb:TS):TS:=λD σ H=>wi σ H λJ H1=>∃W:Nat->Nat->St->Hp->Prop,(∃m,W 0 m σ H1)/\∀i m σ H,W i m σ H ->
 (J.stop i H/\D.nx σ H)∨(J.go i H/\∃N:St->Hp->Prop,(∀σ' H',N σ' H'->∃m',m'<m/\W (i+1) m' σ' H')/\∀x H',J.yld i H x H'->g x σ H' λσ2 H2=>tb {D with nx:=N,ct:=N,bk:=D.nx} σ2 H2)
def a3a(fp:qA qE)(h:Heap):qA (qE×Obj):=fp.filterMap λb=>(h.get? b).map λo=>(b,o)
def V2{o:Obj}(a:b∈fp)(e:h.get? b=some o):(b,o)∈a3a fp h:=cL.mpr ⟨b,a,by rw[e];rfl⟩
def b0O{p:qE×Obj}(hp:p∈a3a fp h):p.1∈fp/\h.get? p.1=some p.2:=by
 obtain⟨b,c,e⟩:=cL.mp hp;cases q:h.get? b with
 |none=>rw[q]at e;cases e
 |some o =>
  rw[q]at e;have a:(b,o)=p:=bF e;subst a;exact⟨c,q⟩
def Inv.pinned(I:Inv X qK σ H s)(g:∀b∈fp,a1I X qK H b)(h:∀b∈fp,∃o,s.heap.get? b=some o/\∀v,o.data≠.cell v):Inv X (qK++a3a fp s.heap) σ H s :=
 I.pins_of λp i=>(ay.mp i).elim (λz=>I.pin p (aQ _ z)) λz=>by
  obtain⟨c,e⟩:=b0O z;obtain⟨f,f1,f2,_⟩:=g p.1 c;obtain⟨o,a,d⟩:=h p.1 c;rw[e]at a;cases a;exact⟨e,f,f1,f2,d⟩
def Inv.unpinned{pl:qA (qE×Obj)}(I:Inv X (qK++pl) σ H s):Inv X qK σ H s:=I.pins_of λp a=>I.pin p (aQ _ (aR _ a))
def b8a{U:TI}{g:TG}(hp:PassesOwn (model X.prog X.w) X.A X.env X.xe)(P:X.calm=true)(hi:PI X tg l U)(hg:PG X tg g)(k:PSs X body tb)
  (hs:∀x,foldedSetIterable l X.env x=pure x:=by intro _;rfl):PS X (.For tg l body [] pos) (b9D U g tb):=by
 intro qK s σ H D I h;refine wpAny_For (thn (hi qK s σ H _ I h) λv s1 h1=>thn h1 λa0 s2 h2=>?_) hs;obtain⟨it,fp,S,J,H2,e,Y,T,L,f2,W,⟨m0,w0⟩,B⟩:=h2;subst e;have p:∀{H':Hp},(∀b∈fp,H' b=none)->∀b∈fp,a1I X qK H' b:=λhn b k=>⟨hn b k,(f2 b k).2⟩;refine codeAny_forLoop_any (λn s'=>∃i σ' H',Inv X qK σ' H' s'/\S i s'.heap/\(∀b∈fp,H' b=none)/\W i n σ' H') ?_ m0 ⟨0,σ,H2,Y,L,λb k=>(f2 b k).1,w0⟩;rintro n Q ⟨i,σ3,C,O,z,w,w3⟩;rcases B i n σ3 C w3 with⟨A,qn⟩|⟨go,N,hN,step⟩
 .refine dw hp (thn (T.done X rfl rfl rfl P i qK Q σ3 C X.xe O (p w) z A) λr s4 ⟨G,Z⟩=>?_);subst G;exact dQ ⟨σ3,C,Z,qn⟩
 .refine dw hp (thn (T.item X rfl rfl rfl P i qK Q σ3 C X.xe O (p w) z go) λr s4 ⟨u,G,h4⟩=>?_);subst G;refine dw hp (thn h4 λ_ R ⟨x,M,I5,r5,y5,t,F⟩=>?_);have E:=I5.pinned (p F) (T.obj _ _ t);refine dw hp (thn (hg _ R σ3 M x u _ E r5 (step x M y5)) λ_ s6 ⟨σ6,V,I6,q6⟩=>?_);refine dw hp (thn (k _ s6 σ6 V _ I6 q6) λf K q=>?_);have j:∀{σ7:St}{a:Hp},Inv X (qK++a3a fp R.heap) σ7 a K->N σ7 a->∃m,m<n/\∃i σ' H',Inv X qK σ' H' K/\S i K.heap/\(∀b∈fp,H' b=none)/\W i m σ' H':=λ{σ7 a} c y=>by
   obtain⟨m',hm,w7⟩:=hN σ7 a y;refine⟨m',hm,i+1,σ7,a,c.unpinned,T.keep _ _ _ t λb k o e=>(c.pin (b,o) (aQ _ (aQ _ (V2 k e)))).1,λb k=>?_,w7⟩;obtain⟨o,e,d⟩:=T.obj _ _ t b k;exact(c.pin (b,o) (aQ _ (aQ _ (V2 k e)))).2.1
  cases f with
  |next=>obtain⟨σ7,a,c,y⟩:=q;exact j c y
  |cont=>obtain⟨σ7,a,c,y⟩:=q;exact j c y
  |brk=>obtain⟨σ7,a,c,q⟩:=q;exact⟨σ7,a,c.unpinned,q⟩
  |ret v=>obtain⟨x7,σ7,a,c,r7,q⟩:=q;exact⟨x7,σ7,a,c.unpinned,r7,q⟩
def U4{g:TG}(b:Nat->St->Hp->Prop)(h0:b 0 σ H)(f:∀i σ H,i<=xs.length->b i σ H->SqL K H a xs)
  (hs:∀i x σ H,xs[i]?=some x->b i σ H->g x σ H λσ2 H2=>tb {D with nx:=b (i+1),ct:=b (i+1),bk:=D.nx} σ2 H2) (hd:∀σ H,b xs.length σ H->D.nx σ H) :
  ∃W:Nat->Nat->St->Hp->Prop,(∃m,W 0 m σ H)/\∀i m σ H,W i m σ H ->
   ((Itl K a).stop i H/\D.nx σ H)∨((Itl K a).go i H/\∃N:St->Hp->Prop,(∀σ' H',N σ' H'->∃d,d<m/\W (i+1) d σ' H')/\∀x H',(Itl K a).yld i H x H'->g x σ H' λσ2 H2=>tb {D with nx:=N,ct:=N,bk:=D.nx} σ2 H2):=by
 refine⟨λi m σ H=>m=xs.length-i/\i<=xs.length/\b i σ H,⟨xs.length,by simp,br _,h0⟩,?_⟩;rintro i m σ H ⟨rfl,hi,p⟩;have q:=f i σ H hi p;by_cases c:i<xs.length
 .refine .inr ⟨⟨xs,xs[i],q,by simp[c]⟩,b (i+1),λσ' H' h=>⟨xs.length-(i+1),by omega,rfl,c,h⟩,λx H' y=>?_⟩;obtain⟨e,y⟩:=y;subst e;exact hs i x σ _ (y xs q) p
 .have e:i=xs.length:=by omega
  subst e;exact .inl ⟨⟨xs,q,ak _⟩,hd σ H p⟩
def b6D{g:TG}(b:Nat->St->Hp->Prop)(h0:b 0 σ H)(f:∀i σ H,i<=xs.length->b i σ H->SqT K H a xs)
  (hs:∀i x σ H,xs[i]?=some x->b i σ H->g x σ H λσ2 H2=>tb {D with nx:=b (i+1),ct:=b (i+1),bk:=D.nx} σ2 H2) (hd:∀σ H,b xs.length σ H->D.nx σ H) :
  ∃W:Nat->Nat->St->Hp->Prop,(∃m,W 0 m σ H)/\∀i m σ H,W i m σ H ->
   ((Itt K a).stop i H/\D.nx σ H)∨((Itt K a).go i H/\∃N:St->Hp->Prop,(∀σ' H',N σ' H'->∃d,d<m/\W (i+1) d σ' H')/\∀x H',(Itt K a).yld i H x H'->g x σ H' λσ2 H2=>tb {D with nx:=N,ct:=N,bk:=D.nx} σ2 H2):=by
 refine⟨λi m σ H=>m=xs.length-i/\i<=xs.length/\b i σ H,⟨xs.length,by simp,br _,h0⟩,?_⟩;rintro i m σ H ⟨rfl,hi,p⟩;have q:=f i σ H hi p;by_cases c:i<xs.length
 .refine .inr ⟨⟨xs,xs[i],q,by simp[c]⟩,b (i+1),λσ' H' h=>⟨xs.length-(i+1),by omega,rfl,c,h⟩,λx H' y=>?_⟩;obtain⟨e,y⟩:=y;subst e;exact hs i x σ _ (y xs q) p
 .have e:i=xs.length:=by omega
  subst e;exact .inl ⟨⟨xs,q,ak _⟩,hd σ H p⟩
def a1B{lo:Int}{g:TG}(a:Nat->St->Hp->Prop)(h0:a 0 σ H)
  (hs:∀i σ H,i<n->a i σ H->g (.int (lo+i)) σ H λσ2 H2=>tb {D with nx:=a (i+1),ct:=a (i+1),bk:=D.nx} σ2 H2) (hd:∀σ H,a n σ H->D.nx σ H) :
  ∃W:Nat->Nat->St->Hp->Prop,(∃m,W 0 m σ H)/\∀i m σ H,W i m σ H ->
   ((Itr lo n).stop i H/\D.nx σ H)∨((Itr lo n).go i H/\∃N:St->Hp->Prop,(∀σ' H',N σ' H'->∃c,c<m/\W (i+1) c σ' H')/\∀x H',(Itr lo n).yld i H x H'->g x σ H' λσ2 H2=>tb {D with nx:=N,ct:=N,bk:=D.nx} σ2 H2):=by
 refine⟨λi m σ H=>m=n-i/\i<=n/\a i σ H,⟨n,by simp,br _,h0⟩,?_⟩;rintro i m σ H ⟨rfl,hi,p⟩;by_cases b:i<n
 .refine .inr ⟨b,a (i+1),λσ' H' d=>⟨n-(i+1),by omega,rfl,b,d⟩,λx H' y=>?_⟩;obtain⟨e,y⟩:=y;subst e y;exact hs i σ _ b p
 .have e:i=n:=by omega
  subst e;exact .inl ⟨ak _,hd σ H p⟩
abbrev R2:=V->V->Hp->VK->Prop
def OpR(X:Cx)(f:qB->qB->Sem qB)(r:R2):Prop :=
 ∀(qK:qA (qE×Obj)) (s:qC) (σ:St) (H:Hp) (x y:V) (v u:qB) (Q:VK),Inv X qK σ H s->RelV x v->RelV y u->r x y H Q ->
  wpAny (model X.prog X.w) X.A (f v u) (EP X qK σ Q) X.xe s
def UnR(X:Cx)(f:qB->Sem qB)(r:V->Hp->VK->Prop):Prop :=
 ∀(qK:qA (qE×Obj)) (s:qC) (σ:St) (H:Hp) (x:V) (v:qB) (Q:VK),Inv X qK σ H s->RelV x v->r x H Q ->
  wpAny (model X.prog X.w) X.A (f v) (EP X qK σ Q) X.xe s
def D6(X:Cx)(f:qB)(r:qA V->Hp->VK->Prop):Prop :=
 ∀(qK:qA (qE×Obj)) (s:qC) (σ:St) (H:Hp) (xs:qA V) (us:qA qB) (Q:VK),Inv X qK σ H s->Vals xs us->r xs H Q ->
  wpAny (model X.prog X.w) X.A (call f us) (EP X qK σ Q) X.xe s
def c0q(X:Cx)(r:V->Hp->(Bool->Hp->Prop)->Prop):Prop :=
 ∀(qK:qA (qE×Obj)) (s:qC) (σ:St) (H:Hp) (x:V) (v:qB) (Q:Bool->Hp->Prop),Inv X qK σ H s->RelV x v->r x H Q ->
  wpAny (model X.prog X.w) X.A (truthy v) (TP X qK σ Q) X.xe s
def tOp(r:R2)(ta tb:TE):TE:=λσ H Q=>ta σ H λx H1=>tb σ H1 λy H2=>r x y H2 Q
def tUn(r:V->Hp->VK->Prop)(ta:TE):TE:=λσ H Q=>ta σ H λx H1=>r x H1 Q
def rI(C:Int->Int->Prop)(g:Int->Int->V):R2:=λx y H Q=>∃i j,x=.int i/\y=.int j/\C i j/\Q (g i j) H
def rI0(g:Int->Int->V):R2:=λx y H Q=>∃i j,x=.int i/\y=.int j/\Q (g i j) H
def rU(g:Int->V):V->Hp->VK->Prop:=λx H Q=>∃i,x=.int i/\Q (g i) H
section
variable {a b:Expr}{tb tc:TE}
def b9n(e:PE X a ta)(g:PE X b tb){R:V->V->Hp->Prop}(I:Inv X qK σ H s)
  (h:ta σ H λx H1=>tb σ H1 λy H2=>R x y H2)
  (i:∀v u s2 x y H2,Inv X qK σ H2 s2->RelV x v->RelV y u->R x y H2->wpAny (model X.prog X.w) X.A (f v u) Q X.xe s2) :
  wpAny (model X.prog X.w) X.A (eval a X.env) (λv s₁=>wpAny (model X.prog X.w) X.A (eval b X.env) (λu s₂=>wpAny (model X.prog X.w) X.A (f v u) Q X.xe s₂) X.xe s₁) X.xe s:=by
 refine thn (e qK s σ H _ I h) λv s1 ⟨x,H1,c,l,j⟩=>?_;refine thn (g qK s1 σ H1 _ c j) λu s2 ⟨y,H2,d,m,k⟩=>?_;exact i v u s2 x y H2 d l m k
def a0Y{c:Operator}{r:R2}(g:OpR X (binaryOp c) r)(e:PE X a ta)(f:PE X b tb):PE X (.BinOp a c b pos) (tOp r ta tb):=by
 intro qK s σ H Q I h;exact wpAny_BinOp (b9n e f I h λv u s2 x y H2 d i j q=>g qK s2 σ H2 x y v u Q d i j q)
def b9R{b:UnaryOp}{r:V->Hp->VK->Prop}(e:UnR X (unaryOp b) r)(d:PE X a ta):PE X (.UnaryOp b a pos) (tUn r ta):=by
 intro qK s σ H Q I h;exact UnaryOp_ (thn (d qK s σ H _ I h) λv s1 ⟨x,H1,c,g,f⟩=>e qK s1 σ H1 x v Q c g f)
def opI{C:Int->Int->Prop}{g:Int->Int->Int}
  (a:∀(i j:Int) (t u:Tok) (s:qC) (Q:qH) (E:qH),C i j->Q (.int (g i j) s.toks) {s with toks:=s.toks+1}->wpAny (model X.prog X.w) X.A (f (.int i t) (.int j u)) Q E s) :
  OpR X f (rI C λi j=>.int (g i j)):=by
 intro qK s σ H x y v u Q I c d h;obtain⟨i,j,rfl,rfl,b,q⟩:=h;obtain⟨t,rfl⟩:=c;obtain⟨t',rfl⟩:=d;exact a i j t t' s _ _ b ⟨.int (g i j),H,I.tok _,⟨_,rfl⟩,q⟩
def b9X{g:Int->Int->Int}
  (a:∀(i j:Int) (t u:Tok) (s:qC) (Q:qH) (E:qH),Q (.int (g i j) s.toks) {s with toks:=s.toks+1}->wpAny (model X.prog X.w) X.A (f (.int i t) (.int j u)) Q E s) :
  OpR X f (rI0 λi j=>.int (g i j)):=by
 intro qK s σ H x y v u Q I b c h;obtain⟨i,j,rfl,rfl,q⟩:=h;obtain⟨t,rfl⟩:=b;obtain⟨t',rfl⟩:=c;exact a i j t t' s _ _ ⟨.int (g i j),H,I.tok _,⟨_,rfl⟩,q⟩
def b5S{g:Int->Int->Bool}
  (a:∀(i j:Int) (t u:Tok) (s:qC) (Q:qH) (E:qH),Q (.bool (g i j)) s->wpAny (model X.prog X.w) X.A (f (.int i t) (.int j u)) Q E s) :
  OpR X f (rI0 λi j=>.bl (g i j)):=by
 intro qK s σ H x y v u Q I b c h;obtain⟨i,j,rfl,rfl,q⟩:=h;obtain⟨t,rfl⟩:=b;obtain⟨t',rfl⟩:=c;exact a i j t t' s _ _ ⟨.bl (g i j),H,I,rfl,q⟩
def c0j(i j:Int):Prop:=0<j/\j<1073741824
def c0i(i j:Int):Prop:=0<=j/\j<=1000000/\i.natAbs<2 ^ 64
def CMul(i j:Int):Prop:=(-(2 ^ 64)<i/\i<2 ^ 64)∨(-(2 ^ 64)<j/\j<2 ^ 64)
def CMul.ok{i j:Int}(h:CMul i j):IntMulOk i j:=by
 rcases h with⟨h1,h2⟩|⟨h1,h2⟩
 .exact .of_left (intBits_le_64 h1 h2)
 .exact .of_right (intBits_le_64 h1 h2)
def b8G:OpR X (binaryOp .Add) (rI0 λi j=>.int (i+j)):=b9X λ_ _ _ _ _ _ _ q=>add_int q
def b8u:OpR X (binaryOp .Sub) (rI0 λi j=>.int (i-j)):=b9X λ_ _ _ _ _ _ _ q=>sub_int q
def b8y:OpR X (binaryOp .Mult) (rI CMul λi j=>.int (i*j)):=opI λ_ _ _ _ _ _ _ a q=>mul_int q a.ok
def b5Q:OpR X (binaryOp .FloorDiv) (rI c0j λi j=>.int (i / j)):=opI λi j _ _ _ _ _ a q=>by
 have h1:(0:Int)<j:=a.1;have h2:j<1073741824:=a.2;exact floordiv_int (by omega) (by rw[Int.fdiv_eq_ediv_of_nonneg i (by omega)];exact q) (.inl (PyProof.noPylong_small (by omega)))
def b8z:OpR X (binaryOp .Mod) (rI (λ_ j=>0<j) λi j=>.int (i % j)):=opI λi j _ _ _ _ _ a q=>by
 have h1:(0:Int)<j:=a;exact mod_int' (by omega) (by rw[Int.fmod_eq_emod_of_nonneg i (by omega)];exact q)
def b8v:OpR X (binaryOp .Pow) (rI c0i λi j=>.int (i ^ j.toNat)):=opI λ_ _ _ _ _ _ _ a q=>pow_int_small a.1 a.2.1 a.2.2 q
def unI{f:qB->Sem qB}{g:Int->Int}
  (a:∀(i:Int) (t:Tok) (s:qC) (Q:qH) (E:qH),Q (.int (g i) s.toks) {s with toks:=s.toks+1}->wpAny (model X.prog X.w) X.A (f (.int i t)) Q E s) :
  UnR X f (rU λi=>.int (g i)):=by
 intro qK s σ H x v Q I b h;obtain⟨i,rfl,q⟩:=h;obtain⟨t,rfl⟩:=b;exact a i t s _ _ ⟨.int (g i),H,I.tok _,⟨_,rfl⟩,q⟩
def b7G:UnR X (unaryOp .USub) (rU λi=>.int (-i)):=unI λ_ _ _ _ _ q=>neg_int q
end
def b7O:V->V->Bool
 |.non,.non=>true | .non,.int _=>true | .int _,.non=>true | .non,.bl _=>true | .bl _,.non=>true | .non,.str _=>true | .str _,.non=>true
 |.int _,.int _=>true | .bl _,.bl _=>true | .str _,.str _=>true | .byt _,.byt _=>true
 |.int _,.str _=>true | .str _,.int _=>true | .bl _,.str _=>true | .str _,.bl _=>true
 |_,_=>false
def a2n(a b:Int):b7O (.int a) (.int b)=true:=rfl
def rEq:R2:=λx y H Q=>b7O x y=true/\Q (.bl (decide (x=y))) H
def rNe:R2:=λx y H Q=>b7O x y=true/\Q (.bl (!decide (x=y))) H
def a9P{i j:Int}:decide (V.int i=V.int j)=(i==j):=by
 rw[cg];simp
def b4s{i j:Bool}:decide (V.bl i=V.bl j)=(i==j):=by
 rw[cg];simp
def a9O{i j:Str}:decide (V.str i=V.str j)=(i==j):=by
 rw[cg];simp
def a9Q{i j:Array UInt8}:decide (V.byt i=V.byt j)=(i.toList==j.toList):=by
 rw[cg];cases i;cases j;simp
section
variable {a b:Expr}{tb tc:TE}
def B5{Q:VK}{k a:Bool}(I:Inv X qK σ H s)(q:Q (.bl k) H)(e:k=a):EP X qK σ Q (.bool a) s:=by
 subst e;exact⟨.bl k,H,I,rfl,q⟩
def b7k:OpR X (compareOp .Eq) rEq:=by
 intro qK s σ H x y v u Q I b a h;obtain⟨hs,q⟩:=h;cases x with
 |non =>
  cases b;cases y with
  |non=>cases a;exact PySem.EqNone.eq_none_none (B5 I q (by simp))
  |bl j=>cases a;exact PySem.EqNone.eq_none_bool (B5 I q (by simp))
  |int j=>obtain⟨t',rfl⟩:=a;exact PySem.EqNone.eq_none_int (B5 I q (by simp))
  |str j=>obtain⟨t',rfl⟩:=a;exact PySem.EqNone.eq_none_str (B5 I q (by simp))
  |_=>exact absurd (show false=true from hs) a'
 |bl i =>
  cases b;cases y with
  |non=>cases a;exact PySem.EqNone.eq_bool_none (B5 I q (by simp))
  |bl j=>cases a;exact eq_bool (B5 I q b4s)
  |str j=>obtain⟨t',rfl⟩:=a;exact PySem.EqMixed.eq_bool_str (B5 I q (by simp))
  |_=>exact absurd (show false=true from hs) a'
 |int i =>
  obtain⟨t,rfl⟩:=b;cases y with
  |non=>cases a;exact PySem.EqNone.eq_int_none (B5 I q (by simp))
  |int j=>obtain⟨t',rfl⟩:=a;exact eq_int (B5 I q a9P)
  |str j=>obtain⟨t',rfl⟩:=a;exact PySem.EqMixed.eq_int_str (B5 I q (by simp))
  |_=>exact absurd (show false=true from hs) a'
 |str i =>
  obtain⟨t,rfl⟩:=b;cases y with
  |non=>cases a;exact PySem.EqNone.eq_str_none (B5 I q (by simp))
  |bl j=>cases a;exact PySem.EqMixed.eq_str_bool (B5 I q (by simp))
  |int j=>obtain⟨t',rfl⟩:=a;exact PySem.EqMixed.eq_str_int (B5 I q (by simp))
  |str j=>obtain⟨t',rfl⟩:=a;exact eq_str (B5 I q a9O)
  |_=>exact absurd (show false=true from hs) a'
 |byt i =>
  obtain⟨t,rfl⟩:=b;cases y with
  |byt j=>obtain⟨t',rfl⟩:=a;exact PySem.W.eq_bytes (B5 I q a9Q)
  |_=>exact absurd (show false=true from hs) a'
 |_=>cases y<;>exact absurd (show false=true from hs) a'
def b7i:OpR X (compareOp .NotEq) rNe:=by
 intro qK s σ H x y v u Q I b a h;obtain⟨hs,q⟩:=h;cases x with
 |non =>
  cases b;cases y with
  |non=>cases a;exact PySem.EqNone.ne_none_none (B5 I q (by simp))
  |bl j=>cases a;exact PySem.EqNone.ne_none_bool (B5 I q (by simp))
  |int j=>obtain⟨t',rfl⟩:=a;exact PySem.EqNone.ne_none_int (B5 I q (by simp))
  |str j=>obtain⟨t',rfl⟩:=a;exact PySem.EqNone.ne_none_str (B5 I q (by simp))
  |_=>exact absurd (show false=true from hs) a'
 |bl i =>
  cases b;cases y with
  |non=>cases a;exact PySem.EqNone.ne_bool_none (B5 I q (by simp))
  |bl j=>cases a;exact ne_bool (B5 I q (aL not b4s))
  |str j=>obtain⟨t',rfl⟩:=a;exact PySem.EqMixed.ne_bool_str (B5 I q (by simp))
  |_=>exact absurd (show false=true from hs) a'
 |int i =>
  obtain⟨t,rfl⟩:=b;cases y with
  |non=>cases a;exact PySem.EqNone.ne_int_none (B5 I q (by simp))
  |int j=>obtain⟨t',rfl⟩:=a;exact ne_int (B5 I q (aL not a9P))
  |str j=>obtain⟨t',rfl⟩:=a;exact PySem.EqMixed.ne_int_str (B5 I q (by simp))
  |_=>exact absurd (show false=true from hs) a'
 |str i =>
  obtain⟨t,rfl⟩:=b;cases y with
  |non=>cases a;exact PySem.EqNone.ne_str_none (B5 I q (by simp))
  |bl j=>cases a;exact PySem.EqMixed.ne_str_bool (B5 I q (by simp))
  |int j=>obtain⟨t',rfl⟩:=a;exact PySem.EqMixed.ne_str_int (B5 I q (by simp))
  |str j=>obtain⟨t',rfl⟩:=a;exact ne_str (B5 I q (aL not a9O))
  |_=>exact absurd (show false=true from hs) a'
 |byt i =>
  obtain⟨t,rfl⟩:=b;cases y with
  |byt j=>obtain⟨t',rfl⟩:=a;exact PySem.W.ne_bytes (B5 I q (aL not a9Q))
  |_=>exact absurd (show false=true from hs) a'
 |_=>cases y<;>exact absurd (show false=true from hs) a'
def b9V:OpR X (compareOp .Lt) (rI0 λi j=>.bl (decide (i<j))):=b5S λ_ _ _ _ _ _ _ q=>lt_int q
def b3g:OpR X (compareOp .LtE) (rI0 λi j=>.bl (decide (i<=j))):=b5S λ_ _ _ _ _ _ _ q=>le_int q
def b9W:OpR X (compareOp .Gt) (rI0 λi j=>.bl (decide (j<i))):=b5S λ_ _ _ _ _ _ _ q=>gt_int q
def b7j:OpR X (compareOp .GtE) (rI0 λi j=>.bl (decide (j<=i))):=b5S λ_ _ _ _ _ _ _ q=>ge_int q
def b3h:OpR X (compareOp .Is) (λx y H Q=>y=.non/\Q (.bl (decide (x=.non))) H):=by
 intro qK s σ H x y v u Q I a b h;obtain⟨rfl,q⟩:=h;cases b;refine is_none_gen (B5 I q ?_);cases x<;>first
  |(cases a;rfl)
  |(obtain⟨t,rfl⟩:=a;rfl)
def b5P:OpR X (compareOp .IsNot) (λx y H Q=>y=.non/\Q (.bl (!decide (x=.non))) H):=by
 intro qK s σ H x y v u Q I a b h;obtain⟨rfl,q⟩:=h;cases b;refine isnot_none_gen (B5 I q ?_);cases x<;>first
  |(cases a;rfl)
  |(obtain⟨t,rfl⟩:=a;rfl)
def G3(b:Expr){a:CmpOp}(h:a≠.In:=by decide)(h2:a≠.NotIn:=by decide):behindInMarks a b=false:=by
 have c:(a==CmpOp.In)=false:=by cases a<;>first|rfl|exact absurd rfl h
 have d:(a==CmpOp.NotIn)=false:=by cases a<;>first|rfl|exact absurd rfl h2
 cases b with
 |Set elts k p=>show(k==0 && (a==CmpOp.In || a==CmpOp.NotIn) && elts.all (constantsAlone 8))=false;rw[c,d,fA,e_,d_]
 |_=>rfl
def S3{c:CmpOp}{r:R2}(i:OpR X (compareOp c) r)(e:PE X a ta)(f:PE X b tb)(g:behindInMarks c b=false):PE X (.Compare a [c] [b] pos) (tOp r ta tb):=by
 intro qK s σ H Q I h;exact wpAny_Compare1 (b9n e f I h λv u s2 x y H2 d j k q=>i qK s2 σ H2 x y v u Q d j k q) g
def K5(t:TE):TT:=λσ H Q=>t σ H λx H'=>∃k,x=.bl k/\Q k H'
def M4{d:CmpOp}{r:R2}(o:OpR X (compareOp d) r)(l:PE X a ta)(m:PE X b tb)(n:behindInMarks d b=false):PT X (.Compare a [d] [b] pos) (K5 (tOp r ta tb)):=by
 intro qK s σ H Q I h;refine wpAny_isTrue_Compare1 (thn (l qK s σ H _ I h) λv s1 ⟨x,H1,g,w,p⟩=>thn (m qK s1 σ H1 _ g p) λu s2 ⟨y,H2,i,A,q⟩ =>
  thn (o qK s2 σ H2 x y v u _ i w A q) λc C ⟨z,f,j,B,k,e,t⟩=>?_) n
 subst e;cases B;exact cG ⟨f,j,t⟩
def b1W(r r':R2)(ta tb tc:TE):TE:=λσ H Q=>ta σ H λx H1=>tb σ H1 λy H2=>r x y H2 λz H3=>∃k,z=.bl k /\
 (if k=true then tc σ H3 λw' H4=>r' y w' H4 Q else Q (.bl false) H3)
def b2M{i f:CmpOp}{r n:R2}(K:OpR X (compareOp i) r)(g:OpR X (compareOp f) n)(E:PE X a ta)(F:PE X b tb)(G:PE X c tc)
  (J:lastMarks [i,f] [b,c]=false:=by with_unfolding_all rfl):PT X (.Compare a [i,f] [b,c] pos) (K5 (b1W r n ta tb tc)):=by
 intro qK s σ H Q I h;refine isTrue_chain (thn (E qK s σ H _ I h) λv s1 ⟨x,H1,t,R,M⟩=>test_link (thn (F qK s1 σ H1 _ t M) λu s2 ⟨y,H2,w,o,N⟩ =>
  thn (K qK s2 σ H2 x y v u _ w R o N) λd V ⟨z,j,l,S,k,e,m⟩=>?_)) J
 subst e;cases S;refine cG ?_;cases k with
 |false =>
  obtain⟨k',C,L⟩:=m;cases C;exact ite_ff ⟨j,l,L⟩
 |true =>
  refine ite_tt (test_last (thn (G qK V σ j _ l m) λY W ⟨Z,p,A,T,O⟩=>thn (g qK W σ p y Z u Y _ A o T O) λd' s5 ⟨z2,q,B,U,k2,D,P⟩=>?_));subst D;cases U;exact cG ⟨q,B,P⟩
def b9w(K:qF)(x:V)(H:Hp)(k:Bool):Prop :=
 match x with
 |.non=>k=false
 |.bl b=>k=b
 |.int i=>k=(i != 0)
 |.str y=>y.length<=sizeLine/\k=((y.length:Int) != 0)
 |.byt y=>y.size<=sizeLine/\k=((y.size:Int) != 0)
 |.ref p=>(∃xs,SqL K H p xs/\k=!xs.isEmpty)∨(∃xs,SqT K H p xs/\k=!xs.isEmpty)∨∃qL,H p=some (.dK qL)/\k=!qL.isEmpty
 |_=>False
def a8s{κ:Type}{qL:qA (κ×V)}{vs:qA (κ×qB)}(r:KV qL vs):(!vs.isEmpty)=!qL.isEmpty:=by
 cases r<;>rfl
def a3w{its:qA qB}(r:Vals xs its):(!its.toArray.isEmpty)=!xs.isEmpty:=by
 cases r<;>simp
def X9:(sizeLine:Nat)<2 ^ 63:=by rw[aX];decide
def b7I:c0q X (λx H Q=>∃k,b9w X.K x H k/\Q k H):=by
 intro qK s σ H x v Q I d h;obtain⟨k,e,q⟩:=h;have o:=X9;have hs:sizeLine=16777216:=aX;cases x with
 |non =>
  cases d;have a:k=false:=e;subst a;exact truthy_none ⟨H,I,q⟩
 |bl b =>
  cases d;have a:k=b:=e;subst a;exact cG ⟨H,I,q⟩
 |int i =>
  obtain⟨t,rfl⟩:=d;have a:k=(i != 0):=e;subst a;exact PySem.P.truthy_int ⟨H,I,q⟩
 |str y =>
  obtain⟨t,rfl⟩:=d;obtain⟨n,a⟩:y.length<=sizeLine/\k=((y.length:Int) != 0):=e;subst a;exact PySem.P.truthy_str (by omega) ⟨H,I.tok _,q⟩
 |byt y =>
  obtain⟨t,rfl⟩:=d;obtain⟨n,a⟩:y.size<=sizeLine/\k=((y.size:Int) != 0):=e;subst a;exact PySem.W.truthy_bytes (by omega) ⟨H,I.tok _,q⟩
 |ref p =>
  cases d;have a:(∃xs,SqL X.K H p xs/\k=!xs.isEmpty)∨(∃xs,SqT X.K H p xs/\k=!xs.isEmpty)∨∃qL,H p=some (.dK qL)/\k=!qL.isEmpty:=e;rcases a with⟨xs,f,a⟩|⟨xs,f,a⟩|⟨qL,f,a⟩
  .subst a;obtain⟨its,r,g,j⟩:=I.list f;have c:=r.length;exact wpAny_truthy_list g.isList (by simp only[aF];omega) ⟨H,I.tok _,by rw[a3w r];exact q⟩
  .subst a;obtain⟨its,r,g,j⟩:=I.tuple f;have c:=r.length;exact truthy_tuple g (by simp only[aF];omega) ⟨H,I.tok _,by rw[a3w r];exact q⟩
  .subst a;obtain⟨j,l,vs,r,m⟩:qL.length<=sizeLine/\(p==sysModules)=false/\∃vs,KV qL vs/\s.heap.DictOf (C0 X.prog X.w) p vs:=I.hok p _ f;have c:qL.length=vs.length:=Paired.length r;exact wpAny_truthy_dict l m (by omega) ⟨H,I.tok _,by rw[a8s r];exact q⟩
 |_=>exact(show False from e).elim
def b2K(d:PE X a ta)(e:∀b,isTrue a X.env b=(do let v <-b;standAt a.pos;holding [v] (truthy v))) :
  PT X a (λσ H Q=>ta σ H λx H'=>∃k,b9w X.K x H' k/\Q k H'):=by
 intro qK s σ H Q I h;exact isTrue_plain (thn (d qK s σ H _ I h) λv s1 ⟨x,H1,c,g,f⟩=>b7I qK s1 σ H1 x v Q c g f) (e _)
def a8a:OpR X (binaryOp .Add) (λx y H Q=>∃i j,x=.str i/\y=.str j/\i.length+j.length<=sizeLine/\Q (.str (i++j)) H):=by
 intro qK s σ H x y v u Q I b c h;obtain⟨i,j,rfl,rfl,a,q⟩:=h;obtain⟨t,rfl⟩:=b;obtain⟨t',rfl⟩:=c;exact add_str (λt' tk=>⟨.str (i++j),H,I.tok _,⟨_,rfl⟩,q⟩) a
def a2D{x:V}(r:Vals [x] us):∃u,us=[u]/\RelV x u:=by
 cases r with
 |cons r1 r2=>cases r2;exact⟨_,rfl,r1⟩
def b1B:D6 X (.type "int") (λxs H Q=>(∃i,xs=[.int i]/\Q (.int i) H)∨∃k,xs=[.bl k]/\Q (.int (if k then 1 else 0)) H):=by
 intro qK s σ H xs a Q I r h;rcases h with⟨i,rfl,q⟩|⟨k,rfl,q⟩
 .obtain⟨u,rfl,t,rfl⟩:=a2D r;exact call_int_int ⟨.int i,H,I,⟨_,rfl⟩,q⟩
 .obtain⟨u,rfl,r1⟩:=a2D r;cases r1;exact call_int_bool ⟨.int (if k then 1 else 0),H,I.tok _,⟨_,rfl⟩,q⟩
def a5U:D6 X (.type "str") (λxs H Q=>∃i,xs=[.int i]/\i.natAbs.log2<1920/\Q (.str (toString i)) H):=by
 intro qK s σ H xs b Q I r h;obtain⟨i,rfl,a,q⟩:=h;obtain⟨u,rfl,t,rfl⟩:=a2D r;exact PySem.P.str_of_int a ⟨.str _,H,I.tok _,⟨_,rfl⟩,q⟩
end
structure ObjM(h:Heap)(x dx C:qE)(mA:Str->qD qB):Prop where
 obj:h.get? x=some (PySem.W.instObj C dx)
 ns:h.Ns1 dx mA
 ne:dx≠x
def b0S(n:h.Ns1 dx mA):∃od,h.get? dx=some od/\∀name,PySem.W.lookIn name od=some (mA name):=by
 obtain⟨o,es,ep,g,hd,d,_,f⟩:=n;refine⟨o,g,λname=>?_⟩;have e:=f name;unfold nsFind findBy at e;rw[<-Array.find?_toList]at e;unfold PySem.W.lookIn;rw[hd];dsimp only;split
 .rename_i y q;rw[q]at e;exact aL some e
 .rename_i q;rw[q]at e;have a:es.toList.any (·.refKey)=false:=by
   rw[dX];intro y i;obtain⟨z,t,b⟩:=d y (eC.mp i);simp[DictEntry.refKey,b]
  have c:¬es.toList.any (·.refKey)=true:=by rw[a];exact a'
  rw[aq c];exact aL some e
def ObjM.look{x:qE}(I:ObjM h x dx C mA):∃od,PySem.W.InstAt h x (PySem.W.instObj C dx) C (some od)/\∀name,PySem.W.lookIn name od=some (mA name) :=
 let ⟨od,ho,hl⟩:=b0S I.ns
 ⟨od,⟨I.obj,rfl,rfl,ho⟩,hl⟩
section
variable {prog:qG}{x f:qE}{name:Str}{v:qB}
def b6B{a:Bool}(X:K.In s.heap)(I:ObjM s.heap x dx C mA)(d:PySem.W.plainGet K C name=true)(e:PySem.W.hasDictIn K C=true)
  (c:PySem.W.findIn K (.ref C) name=some none) (g:mA name=some v) (b:PySem.W.handedIn v=true) (h:Q v {s with toks:=s.toks+1}) :
  wpAny (model prog w) A (getAttr (.ref x) name a) Q E s:=by
 obtain⟨od,J,f⟩:=I.look;exact PySem.W.get_value X J (PySem.W.plainGet_of d).1 (PySem.W.findObj_own e c rfl (by rw[f,g])) b h
def b4c{Q:qB×qA qB->qC->Prop}(X:K.In s.heap)(I:ObjM s.heap x dx C mA)(a:PySem.W.plainGet K C name=true)
  (b:PySem.W.findIn K (.ref C) name=some (some (.ref f))) (d:PySem.W.isFn K (.ref f)=true) (e:mA name=none) (h:Q (.ref f,[.ref x]) s) :
  wpAny (model prog w) A (getMethod (.ref x) name pl) Q E s:=by
 obtain⟨od,J,c⟩:=I.look;exact PySem.W.method_fn X J (PySem.W.plainGet_of a).1 (PySem.W.plainGet_of a).2 b (bj.mp d) (by show(PySem.W.lookIn name od).map (·.isSome)=some false;rw[c,e];rfl) h
def b5a{ns:qA Str}{Q:Unit->qC->Prop}(X:K.In s.heap)(I:ObjM s.heap x dx C mA)
  (hs:PySem.W.findIn K (.ref C) "__setattr__"=some (some (.builtin "object.__setattr__"))) (hp:PySem.W.plainOver K C=true) (n:PySem.W.takerIn K C name=some none) (m:PySem.W.hasDictIn K C=true)
  (hw:PySem.Within mA ns) (hsz:ns.length<=sizeLine)
  (h:∀h',ObjM h' x dx C (λy=>if y=name then some v else mA y)->Heap.SameBut dx s.heap h'->Q () {s with heap:=h',toks:=s.toks+2}) :
  wpAny (model prog w) A (setAttr (.ref x) name v) Q E s:=by
 obtain⟨od,J,p⟩:=I.look;refine PySem.W.set_plain X J hs (PySem.W.osa_open (s:={s with toks:=s.toks+1}) (r:=none) X J hp n λb=>?_);obtain⟨cd,l,f⟩:=PySem.W.any_some m;have o:s.heap.get? x=some ⟨.ref C,some dx,.plain,#[]⟩:=I.obj;refine aa (ai (aa (aa (wpAny_loadPart o (aa (PySem.W.Looks.here (s:={s with toks:=s.toks+1}) (PySem.W.looks_clsIn X l) ?_))))));rw[f];refine ai (a:=some dx) (aa (ai (aa ?_)));refine wpAny_nsSet1 (s:={s with toks:=s.toks+1}) I.ns λh' c d=>?_;obtain⟨q,k,j,i,g,e⟩:=c.count (PySem.Within.cons name v hw);refine aa (wpAny_lookBehind i (by rw[g];exact pastItsLine_dict (a_ e (by rw[aY];omega))) ?_);exact ai (h _ ⟨(d.2 _ (dv I.ne)).trans I.obj,c,I.ne⟩ d)
def b3B{R:Result->qC->Prop}{vs:qA qB}(X:K.In s.heap)(b:PySem.W.makesIn K C=true)
  (hi:PySem.W.findIn K (.ref C) "__init__"=some (some (.ref f))) (a:PySem.W.typeIn K (.ref f)=some (.type "function"))
  (h:codeAny (model prog w) (A.under (.builtin "type.__call__" ⟨.ref C::vs,kw⟩)) (.call (.ref f) ⟨.ref (s.heap.objs.size+1)::vs,kw⟩) (PySem.W.InitBack (s.heap.objs.size+1) R)
   {s with heap:=(s.heap.push PySem.W.emptyDict).push (PySem.W.instObj C s.heap.objs.size)}) :
  codeAny (model prog w) A (.call (.ref C) ⟨vs,kw⟩) R s:=by
 obtain⟨c,g,d,t,os⟩:=s;exact PySem.W.make_core (PySem.W.makes_of X b) (PySem.W.looks_findIn X hi) (λself=>PySem.W.bind_fn X self a) (.inl rfl) h
end
def G8(f:Str)(v:V):qA (Str×V)->qA (Str×V)
 |[]=>[(f,v)]
 |(g,x)::r=>if g=f then(g,v)::r else(g,x)::G8 f v r
def a1R(f g:Str)(v:V):∀fs:qA (Str×V),(G8 f v fs).lookup g=if g=f then some v else fs.lookup g
 |[]=>by
  show List.lookup g [(f,v)]=_;by_cases h:g=f
  .have hb:(g==f)=true:=bj.mpr h;simp only[List.lookup,hb,aD h]
  .have hb:(g==f)=false:=cz.mpr h;simp only[List.lookup,hb,aq h]
 |(k,x)::r=>by
  have b:=a1R f g v r;rw[show G8 f v ((k,x)::r)=(if k=f then(k,v)::r else(k,x)::G8 f v r)from rfl];by_cases a:k=f
  .rw[aD a];by_cases h:g=k
   .have hb:(g==k)=true:=bj.mpr h;simp only[List.lookup,hb,aD (h.trans a)]
   .have hb:(g==k)=false:=cz.mpr h;simp only[List.lookup,hb,aq (λe:g=f=>h (e.trans a.symm))]
  .rw[aq a];by_cases h:g=k
   .have hb:(g==k)=true:=bj.mpr h;simp only[List.lookup,hb,aq (λe:g=f=>a (h.symm.trans e))]
   .have hb:(g==k)=false:=cz.mpr h;simp only[List.lookup,hb];exact b
def a1w(f:Str)(v:V):∀fs:qA (Str×V),f∈(G8 f v fs).map (·.1)/\∀g,g∈fs.map (·.1)->g∈(G8 f v fs).map (·.1)
 |[]=>⟨by simp[G8],λg h=>by simp at h⟩
 |(k,x)::r=>by
  obtain⟨b,c⟩:=a1w f v r;rw[show G8 f v ((k,x)::r)=(if k=f then(k,v)::r else(k,x)::G8 f v r)from rfl];by_cases a:k=f
  .rw[aD a];subst a;exact⟨by simp,λg h=>by simpa using h⟩
  .rw[aq a];refine⟨?_,λg h=>?_⟩
   .rw[aW];exact ar _ b
   .rw[aW]at h⊢;rcases az.mp h with e|e
    .exact az.mpr (.inl e)
    .exact ar _ (c g e)
def a1T(f:Str)(v:V):∀fs:qA (Str×V),(G8 f v fs).length<=fs.length+1
 |[]=>by simp[G8]
 |(k,x)::r=>by
  have b:=a1T f v r;rw[show G8 f v ((k,x)::r)=(if k=f then(k,v)::r else(k,x)::G8 f v r)from rfl];by_cases a:k=f
  .rw[aD a,aY,aY];omega
  .rw[aq a,aY,aY];omega
def RelO.some_of{o:qD qB}(r:RelO (some v) o):∃u,o=some u/\RelV v u:=by
 cases o with
 |none=>exact(show False from r).elim
 |some u=>exact⟨u,rfl,r⟩
def RelO.none_of{o:qD qB}(r:RelO none o):o=none:=by
 cases o with
 |none=>rfl
 |some u=>exact(show False from r).elim
def b1a(r:RelV v u):PySem.W.handedIn u=true:=by
 cases v with
 |non=>cases(show u=Value.none from r);rfl
 |bl b=>cases(show u=Value.bool b from r);rfl
 |int i=>obtain⟨t,e⟩:=(show ∃t,u=Value.int i t from r);cases e;rfl
 |str x=>obtain⟨t,e⟩:=(show ∃t,u=Value.str x t from r);cases e;rfl
 |byt b=>obtain⟨t,e⟩:=(show ∃t,u=Value.bytes b t from r);cases e;rfl
 |flt b=>obtain⟨t,e⟩:=(show ∃t,u=Value.float b t from r);cases e;rfl
 |ref a=>cases(show u=Value.ref a from r);rfl
 |ty n=>cases(show u=Value.type n from r);rfl
section
variable {fs fs':qA (Str×V)}
def a2x(b:HOk P w H h)(e:H a=some (.ins C dx fs)):∃mA,ObjM h a dx C mA/\(∀f,RelO (fs.lookup f) (mA f))/\PySem.Within mA (fs.map (·.1))/\fs.length<=1000/\H dx=some (.own a):=by
 obtain⟨d,z,ne,c,mA,n,r,q⟩:=(show ObjOk P w H h a (.ins C dx fs)from b a _ e);exact⟨mA,⟨c,n,ne⟩,r,q,z,d⟩
end
structure Cls(K:qF)(C:qE):Prop where
 pg:PySem.W.plainGet K C Str.empty=true
 hd:PySem.W.hasDictIn K C=true
 po:PySem.W.plainOver K C=true
 sa:PySem.W.findIn K (.ref C) "__setattr__"=some (some (.builtin "object.__setattr__"))
def Cls.get(c:Cls K C)(f:Str):PySem.W.plainGet K C f=true:=c.pg
def NoAttr(K:qF)(C:qE)(f:Str):Prop:=PySem.W.findIn K (.ref C) f=some none
def NoAttr.taker{f:Str}(n:NoAttr K C f):PySem.W.takerIn K C f=some none:=by
 unfold PySem.W.takerIn;rw[show PySem.W.findIn K (.ref C) f=some none from n];rfl
structure Meth(K:qF)(C:qE)(m:Str)(f:qE):Prop where
 at_:PySem.W.findIn K (.ref C) m=some (some (.ref f))
 fn:PySem.W.isFn K (.ref f)=true
 kp:PySem.W.keepIn K (.ref f)=true
section
variable {fs:qA (Str×V)}{f:Str}
def a8u{b:Bool}(I:Inv X qK σ H s)(e:H a=some (.ins C dx fs))(c:Cls X.K C)(n:NoAttr X.K C f)(l:fs.lookup f=some v)
  (h:∀u s',Inv X qK σ H s'->RelV v u->Q u s'):wpAny (model X.prog X.w) A (getAttr (.ref a) f b) Q E s:=by
 obtain⟨mA,O,r,_,_,_⟩:=a2x I.hok e;obtain⟨u,g,d⟩:=RelO.some_of (v:=v) (o:=mA f) (by rw[<-l];exact r f);exact b6B I.kIn O (c.get f) c.hd n g (b1a d) (h u _ (I.tok _) d)
def a3x{m:Str}{g:qE}{Q:qB×qA qB->qC->Prop}(I:Inv X qK σ H s)(e:H a=some (.ins C dx fs))(c:Cls X.K C)(k:Meth X.K C m g)(l:fs.lookup m=none)
  (h:Q (.ref g,[.ref a]) s):wpAny (model X.prog X.w) A (getMethod (.ref a) m pl) Q E s:=by
 obtain⟨mA,O,r,_,_,_⟩:=a2x I.hok e;have b:mA m=none:=RelO.none_of (by rw[<-l];exact r m);exact b4c I.kIn O (c.get m) k.at_ k.fn b h
def a7N{y:V}{Q:Unit->qC->Prop}(I:Inv X qK σ H s)(e:H a=some (.ins C dx fs))(c:Cls X.K C)(n:NoAttr X.K C f)(v:fs.length<1000)(p:RelV y u)
  (h:∀s',Inv X qK σ (upd H a (.ins C dx (G8 f y fs))) s'->Q () s'):wpAny (model X.prog X.w) A (setAttr (.ref a) f u) Q E s:=by
 obtain⟨mA,O,r,j,_,i⟩:=a2x I.hok e;have m:(fs.map (·.1)).length<=sizeLine:=by rw[ag,aX];omega
 refine b5a I.kIn O c.sa c.po n.taker c.hd j m λh' d t=>h _ ?_;have hd:∃o,h'.get? dx=some o:=let ⟨o,_,_,e',_⟩:=d.ns;⟨o,e'⟩
 refine I.write (x:=a) (e:=dx) (by rw[e];exact True.intro) (.inr i) (λb q k z=>(t.2 b k).trans z) hd ?_;refine⟨by rw[A2 O.ne];exact i,?_,O.ne,d.obj,_,d.ns,λg=>?_,λg l=>?_⟩
 .have:=a1T f y fs;omega
 .show RelO ((G8 f y fs).lookup g) (if g=f then some u else mA g);rw[a1R];by_cases q:g=f
  .rw[aD q,aD q];exact p
  .rw[aq q,aq q];exact r g
 .by_cases q:g=f
  .rw[q];exact(a1w f y fs).1
  .refine(a1w f y fs).2 g (j g λz=>l ?_);show(if g=f then some u else mA g)=none;rw[aq q];exact z
def Inv.made(I:Inv X qK σ H s):Inv X qK σ (upd (upd H s.heap.objs.size (.own (s.heap.objs.size+1))) (s.heap.objs.size+1) (.ins C s.heap.objs.size []))
  {s with heap:=(s.heap.push PySem.W.emptyDict).push (PySem.W.instObj C s.heap.objs.size)}:=by
 have c:(s.heap.push PySem.W.emptyDict).get? s.heap.objs.size=some PySem.W.emptyDict:=aC s.heap rfl;have f:((s.heap.push PySem.W.emptyDict).push (PySem.W.instObj C s.heap.objs.size)).get? (s.heap.objs.size+1)=some (PySem.W.instObj C s.heap.objs.size):=by
  have:=aC (s.heap.push PySem.W.emptyDict) (o:=PySem.W.instObj C s.heap.objs.size) rfl;rwa[bq]at this
 have g:(s.heap.push PySem.W.emptyDict).Ns s.heap.objs.size (λ_=>none):=⟨PySem.W.emptyDict,#[],_,c,rfl,(λe h=>absurd h (by simp)),λ_=>rfl⟩;have d:=I.laid (a:=s.heap.objs.size) (o:=.own (s.heap.objs.size+1)) (h':=s.heap.push PySem.W.emptyDict) (t':=s.toks) (λb u q=>ae _ q) (ak _) ⟨_,c⟩;refine d.laid (a:=s.heap.objs.size+1) (o:=.ins C s.heap.objs.size []) (t':=s.toks) (λb u q=>ae _ q) (Nat.le_of_eq (bq _ _)) ?_;have ne:s.heap.objs.size≠s.heap.objs.size+1:=aV (bS _);refine⟨by rw[A2 ne,A0],br _,ne,f,λ_=>none,(Heap.Ns1.of_empty g).at λo q=>ae _ q,λ_=>True.intro,λy i=>absurd rfl i⟩
def b6N{prog:qG}{env:Env}{f:Str}(a:attributeBase e f env (eval e env)=eval e env)
  (h:wpAny (model prog w) A (eval e env) (λo s₁=>wpAny (model prog w) A (getAttr o f true) Q E s₁) E s):wpAny (model prog w) A (eval (.Attribute e f pos) env) Q E s :=
 Attribute_any_ h (by rw[arm_eval_Attribute,a])
end
def b9E(K:qF)(ta:TE)(f:Str):TE:=λσ H Q=>ta σ H λx H1=>∃a C dx fs v,x=.ref a/\H1 a=some (.ins C dx fs)/\Cls K C/\NoAttr K C f/\fs.lookup f=some v/\Q v H1
def b9I(K:qF)(ta tv:TE)(f:Str):TS:=λD σ H=>tv σ H λy H1=>ta σ H1 λx H2=>∃a C dx fs,x=.ref a/\H2 a=some (.ins C dx fs)/\Cls K C/\NoAttr K C f/\fs.length<1000 /\
 D.nx σ (upd H2 a (.ins C dx (G8 f y fs)))
section
variable {o value:Expr}{f:Str}{pos' tpos:Pos}{tv:TE}
def b8o(j:PE X e ta)(i:attributeBase e f X.env (eval e X.env)=eval e X.env):PE X (.Attribute e f pos) (b9E X.K ta f):=by
 intro qK s σ H Q I h;refine b6N i (thn (j qK s σ H _ I h) λu s1 ⟨x,H1,b,m,a,C,dx,fs,v,ex,g,c,n,l,q⟩=>?_);subst ex;obtain rfl:u=Value.ref a:=m;exact a8u b g c n l λo s2 d k=>⟨v,H1,d,k,q⟩
def b8b(i:PE X o ta)(j:PE X value tv)(hs:swapsWith value (some (.Attribute o f pos')) pos.line X.env=pure false):PS X (.Assign [.Attribute o f pos'] value pos) (b9I X.K ta tv f):=by
 intro qK s σ H D I h;refine plainObj_wpAny_Assign_Attribute (thn (j qK s σ H _ I h) λu s1 ⟨y,H1,b,r,q⟩=>thn (i qK s1 σ H1 _ b q) λk s2 ⟨x,H2,d,p,a,C,dx,fs,ex,g,c,n,l,m⟩=>?_) hs;subst ex;obtain rfl:k=Value.ref a:=p;exact a7N d g c n l r λt e=>⟨σ,_,e,m⟩
end
section
variable {c:qB}{b:Bool}
inductive TyOf(K:qF)(H:Hp):V->qB->Prop where
 |non:TyOf K H .non (.type "NoneType")
 |bl (x:Bool):TyOf K H (.bl x) (.type "bool")
 |int (i:Int):TyOf K H (.int i) (.type "int")
 |str (x:Str):TyOf K H (.str x) (.type "str")
 |flt (x:UInt64):TyOf K H (.flt x) (.type "float")
 |lst {a:qE}{xs:qA V}(e:H a=some (.lst xs)):TyOf K H (.ref a) (.type "list")
 |frz {a:qE}{o:Obj}{xs:qA V}(e:H a=some (.frz o (.lst xs))):TyOf K H (.ref a) (.type "list")
 |tup {a:qE}{xs:qA V}(e:H a=some (.tup xs)):TyOf K H (.ref a) (.type "tuple")
 |dK {a:qE}{qL:qA (Key×V)}(e:H a=some (.dK qL)):TyOf K H (.ref a) (.type "dict")
 |dT {a:qE}{qL:qA (qA Key×V)}(e:H a=some (.dT qL)):TyOf K H (.ref a) (.type "dict")
 |ins {a C dx:qE}{fs:qA (Str×V)}(e:H a=some (.ins C dx fs)) (cl:Cls K C) (ha:PySem.W.findIn K (.ref C) "__class__"=some (some (.builtin "object.__class__")))
   (hn:PySem.W.specialIn K (.builtin "object.__class__") "__get__"=some (some (.builtin "getset_descriptor.__get__"))) (htk:PySem.W.takesIn K (.builtin "object.__class__")=some true)
   (hm:PySem.W.mroIn K C (.type "object")=some true):TyOf K H (.ref a) (.ref C)
def b0X{x:V}{t:qB}(I:Inv X qK σ H s)(d:RelV x u)(ty:TyOf X.K H x t)(e:PySem.W.kitOne X.K t c=some b)(h:∀tk,Q (.bool b) {s with toks:=tk}) :
  wpAny (model X.prog X.w) A (call (.builtin "isinstance") [u,c]) Q E s:=by
 cases ty with
 |non=>cases(show u=Value.none from d);exact PySem.W.kia_one PySem.W.kitx_none I.kIn True.intro e (λz=>nomatch z) h
 |bl y=>cases(show u=Value.bool y from d);exact PySem.W.kia_one PySem.W.kitx_bool I.kIn True.intro e (λz=>nomatch z) h
 |int i=>obtain⟨t,q⟩:=(show ∃t,u=Value.int i t from d);cases q;exact PySem.W.kia_one PySem.W.kitx_int I.kIn True.intro e (λz=>nomatch z) h
 |str y=>obtain⟨t,q⟩:=(show ∃t,u=Value.str y t from d);cases q;exact PySem.W.kia_one PySem.W.kitx_str I.kIn True.intro e (λz=>nomatch z) h
 |flt y=>obtain⟨t,q⟩:=(show ∃t,u=Value.float y t from d);cases q;exact PySem.W.kia_one PySem.W.kitx_float I.kIn True.intro e (λz=>nomatch z) h
 |@lst a xs ea =>
  cases(show u=Value.ref a from d);obtain⟨_,_,n,_,h1⟩:=(show ObjOk X.prog X.w H s.heap a (.lst xs)from I.hok a _ ea);exact PySem.W.kia_one PySem.W.kitx_list I.kIn ⟨_,h1,rfl⟩ e (λz=>nomatch z) h
 |@frz a ob xs ea =>
  cases(show u=Value.ref a from d);obtain⟨_,_,_,n,_,h1⟩:=(show ObjOk X.prog X.w H s.heap a (.frz ob (.lst xs))from I.hok a _ ea);exact PySem.W.kia_one PySem.W.kitx_list I.kIn ⟨_,h1,rfl⟩ e (λz=>nomatch z) h
 |@tup a xs ea =>
  cases(show u=Value.ref a from d);obtain⟨_,_,_,p⟩:=(show ObjOk X.prog X.w H s.heap a (.tup xs)from I.hok a _ ea);obtain⟨o,h1,h2,_⟩:=p;exact PySem.W.kia_one PySem.W.kitx_tuple I.kIn ⟨o,h1,h2⟩ e (λz=>nomatch z) h
 |@dK a qL ea =>
  cases(show u=Value.ref a from d);obtain⟨_,_,vs,_,p⟩:=(show ObjOk X.prog X.w H s.heap a (.dK qL)from I.hok a _ ea);obtain⟨o,es,ep,h1,h2,_⟩:=p;exact PySem.W.kia_one PySem.W.kitx_dict I.kIn ⟨o,h1,h2.1⟩ e (λz=>nomatch z) h
 |@dT a qL ea =>
  cases(show u=Value.ref a from d);obtain⟨_,_,xs,_,o,es,ep,h1,h2,_⟩:=(show ObjOk X.prog X.w H s.heap a (.dT qL)from I.hok a _ ea);exact PySem.W.kia_one PySem.W.kitx_dict I.kIn ⟨o,h1,h2.1⟩ e (λz=>nomatch z) h
 |@ins a C dx fs ea cl g k f j =>
  cases(show u=Value.ref a from d);obtain⟨mA,O,_⟩:=a2x I.hok ea;obtain⟨od,J,_⟩:=O.look;exact PySem.W.kia_one (PySem.W.kitx_own (cl.get _) cl.hd g k f j) I.kIn J e (λz=>nomatch z) h
end
structure Room(k:Nat)(A:Around):Prop where
 hd:A.handled=none
 dp:A.depth+3*k+5<recursionLimit
 un:A.units+16*k+200<cLine
def Room.mono{j:Nat}(r:Room k A)(h:j<=k):Room j A:=⟨r.hd,by have:=r.dp;omega,by have:=r.un;omega⟩
def Room.deeper(r:Room (k+1) A)(env:Env):Room k (A.deeper env) :=
 ⟨r.hd,by have:=r.dp;show A.depth+1+3*k+5<_;omega,by have:=r.un;show A.units+3+16*k+200<_;omega⟩
def a8j:(A.under (.builtin "type.__call__" ⟨.ref C::us,kw⟩)).depth=A.depth+1:=by
 first|rfl|simp[Around.under,Code.weight,Code.isCreation,Code.isGuard,Code.isCaller,Code.frames,Code.isFrame,guardIds]
def a8i:(A.under (.builtin "type.__call__" ⟨.ref C::us,kw⟩)).units=A.units+1:=by
 first|rfl|simp[Around.under,Code.cUnits,Code.frames,Code.isFrame]
def Room.make(r:Room (k+1) A)(C:qE)(us:qA qB)(kw:qA (Str×qB)):Room k (A.under (.builtin "type.__call__" ⟨.ref C::us,kw⟩)) :=
 ⟨r.hd,by have:=r.dp;rw[a8j];omega,by have:=r.un;rw[a8i];omega⟩
def Room.depth(r:Room k A):A.depth<recursionLimit:=by have:=r.dp;omega
def U0:TA:=λ_ H Q=>Q [] H
def a0z(ta:TE)(tr:TA):TA:=λσ H Q=>ta σ H λx H1=>tr σ H1 λxs H2=>Q (x::xs) H2
def b8s:PA X [] U0:=λ_ _ _ _ H Q I h=>Calls.spliced_nil ⟨[],H,I,.nil,h⟩
def b5O(c:PE X e te)(d:PA X es t)(hs:starEach (e::es) X.env=(false,eval e X.env)::starEach es X.env:=by rfl):PA X (e::es) (a0z te t):=by
 intro pos qK s σ H Q I h;rw[hs];show wpAny _ _ (spliced ((false,eval e X.env)::backTo pos (starEach es X.env))) _ _ s;refine Calls.spliced_cons (thn (c qK s σ H _ I h) λu s1 ⟨x,H1,a,i,f⟩=>?_);exact thn (d pos qK s1 σ H1 _ a f) λk s2 ⟨xs,H2,b,j,g⟩=>⟨x::xs,H2,b,.cons i j,g⟩
def a7I(t:TA):TE:=λσ H Q=>t σ H λxs H1=>xs.length<=sizeLine/\∀p,H1 p=none->Q (.ref p) (upd H1 p (.tup xs))
def a5a(t:TA):TE:=λσ H Q=>t σ H λxs H1=>xs.length<=sizeLine/\∀p,H1 p=none->Q (.ref p) (upd H1 p (.lst xs))
def b8h{x1}(h:PA X es t):PE X (.Tuple es x1 pos) (a7I t):=by
 intro qK s σ H Q I d;refine wpAny_Tuple_spliced (thn (h pos qK s σ H _ I d) λf s1 ⟨xs,H1,a,r,z,q⟩=>⟨by rw[<-r.length];exact z,?_⟩);have c:H1 s1.heap.objs.size=none:=a.hok.fresh (ak _);refine⟨.ref s1.heap.objs.size,upd H1 s1.heap.objs.size (.tup xs),a.laid (t':=s1.toks) (λb u e=>ae _ e) (ak _) ?_,rfl,q _ c⟩;exact⟨z,f,r,⟨_,aC _ rfl,rfl,_,rfl⟩⟩
def b8m(h:PA X es t):PE X (.List es pos) (a5a t):=by
 intro qK s σ H Q I d;refine wpAny_List_spliced (thn (h pos qK s σ H _ I d) λf s1 ⟨xs,H1,a,r,z,q⟩=>⟨by rw[<-r.length];exact z,?_⟩);have c:H1 s1.heap.objs.size=none:=a.hok.fresh (ak _);refine⟨.ref s1.heap.objs.size,upd H1 s1.heap.objs.size (.lst xs),a.laid (t':=s1.toks) (λb u e=>ae _ e) (ak _) ?_,rfl,q _ c⟩;exact⟨z,f,0,r,aC _ rfl⟩
abbrev Sp:=qA V->Hp->VK->XK->Prop
variable {sp:Sp}
abbrev CXT:=qA Env->Hp->qC->XK->qH
variable {CX:CXT}
structure Env0(P:qG)(w:World)(K:qF)(mg:Str->qD qB)(base:Heap)(A:Around)(outer:qA Env)(s:qC)(H:Hp):Prop where
 frames:A.frames=some outer
 mod:Mod K mg base
 bs:∀b o,base.get? b=some o->s.heap.get? b=some o/\H b=none
 bsz:base.objs.size<=s.heap.objs.size
 funs:s.heap.FunFrames base outer
 frf:∀b∈frs outer,H b=none
 hok:HOk P w H s.heap
 bare:AllBare s.gens
def CE(outer:qA Env)(P:qG)(w:World)(H:Hp)(s:qC)(Q:VK)(u:qB)(s':qC):Prop :=
 ∃v H',s'.os=s.os/\AllBare s'.gens/\Un (frs outer) [] H H' s.heap s'.heap/\HOk P w H' s'.heap/\RelV v u/\Q v H'
def CR(CX:CXT)(outer:qA Env)(P:qG)(w:World)(H:Hp)(s:qC)(Q:VK)(E:XK)(r:Result)(s':qC):Prop :=
 match r with
 |.ok (.ret u)=>CE outer P w H s Q u s'
 |.ok _=>False
 |.error e=>CX outer H s E e s'
structure FnOk(P:qG)(w:World)(K:qF)(mg:Str->qD qB)(base:Heap)(CX:CXT)(k:Nat)(f:qE)(fd:FuncData)(ps:qA Str)(sp:Sp):Prop where
 len:∀vs H Q E,sp vs H Q E->vs.length=ps.length
 run:∀(A:Around) (outer:qA Env) (s:qC) (H:Hp) (args:Args) (us:qA qB) (vs:qA V) (Q:VK) (E:XK),Room k A->Env0 P w K mg base A outer s H->BindsTo s fd args (ps.zip us)->Vals vs us->sp vs H Q E ->
  codeAny (model P w) A (.call (.ref f) args) (CR CX outer P w H s Q E) s
def FnOk.imp{f:qE}{sp':Sp}(F:FnOk P w K mg base CX k f fd ps sp)
  (h:∀vs H Q E,sp' vs H Q E->sp vs H Q E):FnOk P w K mg base CX k f fd ps sp' :=
 ⟨λvs H Q E q=>F.len vs H Q E (h _ _ _ _ q),λA a s H b i vs Q E e d c g hs=>F.run A a s H b i vs Q E e d c g (h _ _ _ _ hs)⟩
def Env0.make{outer:qA Env}(e:Env0 P w K mg base A outer s H)(C:qE)(us:qA qB)(kw:qA (Str×qB)) :
  Env0 P w K mg base (A.under (.builtin "type.__call__" ⟨.ref C::us,kw⟩)) outer s H:=⟨by first|exact e.frames | (simpa[Around.under,Code.envs,Code.isFrame,pushEnvs]using e.frames),e.mod,e.bs,e.bsz,e.funs,e.frf,e.hok,e.bare⟩
section
variable {s':qC}
def Inv.env0(I:Inv X qK σ H s):Env0 X.prog X.w X.K X.mg X.base X.A X.stack s H :=
 ⟨I.ok.frames,I.ok.mod,I.bs,a_ I.ok.bsz I.sz,I.stack,I.stkFree,I.hok,I.bare⟩
def Inv.after{Q:VK}(I:Inv X qK σ H s)(h:CE X.stack X.prog X.w H s Q u s'):EP X qK σ Q u s':=by
 obtain⟨v,H',os,a,un,c,r,q⟩:=h;obtain⟨f,g,d,t,e⟩:=s';obtain rfl:e=s.os:=os;exact⟨v,H',I.call (h':=f) (g':=g) (d':=d) (t':=t) (ch:=[]) un c a (λb z=>absurd z (by simp)),r,q⟩
end
def a1O(sp:Sp)(dvs:qA V)(E:XK)(t:TA):TE:=λσ H Q=>t σ H λvs H1=>sp (vs++dvs) H1 Q E
def a1N(C:qE)(m:Str)(sp:Sp)(dvs:qA V)(E:XK)(ta:TE)(t:TA):TE:=λσ H Q=>ta σ H λx H1=>∃a dx fs,x=.ref a/\H1 a=some (.ins C dx fs)/\fs.lookup m=none /\
 t σ H1 λvs H2=>sp (x::(vs++dvs)) H2 Q E
def a9a(C:qE)(sp:Sp)(dvs:qA V)(E:XK)(t:TA):TE:=λσ H Q=>t σ H λvs H1=>∀x dx,H1 x=none->H1 dx=none->dx≠x ->
 sp (.ref x::(vs++dvs)) (upd (upd H1 dx (.own x)) x (.ins C dx [])) (λv H2=>v=.non/\Q (.ref x) H2) E
def Binds(K:qF)(fd:FuncData)(ps:qA Str)(ds:qA qB):Prop :=
 ∀(s:qC) (us:qA qB),K.In s.heap->(us++ds).length=ps.length->BindsTo s fd ⟨us,[]⟩ (ps.zip (us++ds))
def Binds.all(h:∀us:qA qB,us.length=ps.length->bindArgs fd ⟨us,[]⟩=pure (ps.zip us)):Binds K fd ps []:=λs us _ a=>by
 rw[de]at a⊢;exact .of_eq (h us a)
def a0b(CX:CXT)(X:Cx)(E:XK):Prop:=∀(qK:qA (qE×Obj)) (σ:St) (H:Hp) (s:qC) (e:qB) (s':qC),Inv X qK σ H s->CX X.stack H s E e s'->X.xe e s'
section
variable {f:qE}{dvs:qA V}{ds:qA qB}{E:XK}{m:Str}{p qO:Pos}{o:Expr}
def a7T{Q:VK}(F:FnOk X.prog X.w X.K X.mg X.base CX k f fd ps sp)(g:Room k X.A)(c:Binds X.K fd ps ds)(hd:Vals dvs ds)(i:a0b CX X E)
  (I:Inv X qK σ H s) (r:Vals vs us) (h:sp (vs++dvs) H Q E):wpAny (model X.prog X.w) X.A (call (.ref f) us) (EP X qK σ Q) X.xe s:=by
 have b:Vals (vs++dvs) (us++ds):=r.append hd;have d:(us++ds).length=ps.length:=by rw[<-b.length];exact F.len _ _ _ _ h
 refine fN (cU (F.run X.A X.stack s H ⟨us,[]⟩ (us++ds) (vs++dvs) Q E g I.env0 (c s us I.kIn d) b h) λr s' a=>?_);cases r with
 |error e=>exact i qK σ H s e s' I a
 |ok fl =>
  cases fl with
  |ret u=>exact I.after a
  |next=>exact False.elim a
  |brk=>exact False.elim a
  |cont=>exact False.elim a
def b5M(F:FnOk X.prog X.w X.K X.mg X.base CX k f fd ps sp)(n:Room k X.A)(j:Gl X x)(m:X.mg x=some (.ref f))(l:PySem.W.keepIn X.K (.ref f)=true)(g:Binds X.K fd ps ds)(hd:Vals dvs ds)(o:a0b CX X E)
  (d:PA X (e::es) t) (a:(x==("__debug__" : Str))=false:=by decide) (i:starEach (e::es) X.env=(false,eval e X.env)::starEach es X.env:=by rfl) (b:(backTo pos (starEach es X.env)).any (·.1)=false:=by rfl) :
  PE X (.Call (.Name x p) (e::es) [] pos) (a1O sp dvs E t):=by
 intro qK s σ H Q I h;refine cZ (V3 I j m ?_ a);refine PySem.W.callWith_K (h₀:=X.base) I.ok.mod.kin l (thn (d pos qK s σ H _ I h) λu s1 ⟨vs,H1,c,r,q⟩=>⟨c.kIn,?_⟩) i b;exact a7T F n g hd o c r q
def b5I(w:PE X o ta)(c:Cls X.K C)(j:Meth X.K C m f)(F:FnOk X.prog X.w X.K X.mg X.base CX k f fd ps sp)(y:Room k X.A)(v:Binds X.K fd ps ds)(hd:Vals dvs ds)(A:a0b CX X E)(p:PA X (e::es) t)
  (d:starEach (e::es) X.env=(false,eval e X.env)::starEach es X.env:=by rfl) (b:(backTo pos (starEach es X.env)).any (·.1)=false:=by rfl)
  (z:eval (.Call (.Attribute o m qO) (e::es) [] pos) X.env=(do
   let ov <-eval o X.env
   standAt qO.atName
   let (f,first) <-holding [ov] (getMethod ov m pl)
   callWith pos f first (backTo pos (starEach (e::es) X.env)) (backToKw pos (keywordEach [] X.env))):=by rfl) :
  PE X (.Call (.Attribute o m qO) (e::es) [] pos) (a1N C m sp dvs E ta t):=by
 intro qK s σ H Q I h;refine PySem.W.methodCall_KW (pl:=pl) (thn (w qK s σ H _ I h) λu s1 ⟨x,H1,g,D,a,dx,fs,ex,n,l,q⟩=>?_) z;subst ex;obtain rfl:u=Value.ref a:=D;refine a3x g n c j l ?_;refine PySem.W.callWith_K (first:=[.ref a]) (h₀:=X.base) I.ok.mod.kin j.kp (thn (p pos qK s1 σ H1 _ g q) λG s2 ⟨vs,H2,i,r,B⟩=>⟨i.kIn,?_⟩) d b;exact a7T (us:=.ref a::G) (vs:=.ref a::vs) F y v hd A i (.cons rfl r) B
def b2Y(i:PE X o ta)(c:Cls X.K C)(d:Meth X.K C m f)(F:FnOk X.prog X.w X.K X.mg X.base CX k f fd ps sp)(j:Room k X.A)(g:Binds X.K fd ps ds)(hd:Vals dvs ds)(p:a0b CX X E)
  (n:eval (.Call (.Attribute o m qO) [] [] pos) X.env=(do
   let ov <-eval o X.env
   standAt qO.atName
   let (f,first) <-holding [ov] (getMethod ov m pl)
   callWith pos f first (backTo pos (starEach [] X.env)) (backToKw pos (keywordEach [] X.env))):=by rfl) :
  PE X (.Call (.Attribute o m qO) [] [] pos) (a1N C m sp dvs E ta U0):=by
 intro qK s σ H Q I h;refine PySem.W.methodCall_KW (pl:=pl) (thn (i qK s σ H _ I h) λu s1 ⟨x,H1,b,r,a,dx,fs,ex,e,l,q⟩=>?_) n;subst ex;obtain rfl:u=Value.ref a:=r;refine a3x b e c d l ?_;exact PySem.W.callWith_K0 (first:=[.ref a]) b.kIn d.kp (a7T (us:=[.ref a]) (vs:=[.ref a]) F j g hd p b (.cons rfl .nil) q)
structure Mk(K:qF)(C f:qE):Prop where
 makes:PySem.W.makesIn K C=true
 init:PySem.W.findIn K (.ref C) "__init__"=some (some (.ref f))
 fn:PySem.W.isFn K (.ref f)=true
 kp:PySem.W.keepIn K (.ref C)=true
def a6D{Q:VK}(M:Mk X.K C f)(F:FnOk X.prog X.w X.K X.mg X.base CX k f fd ps sp)(m:Room (k+1) X.A)(j:Binds X.K fd ps ds)(hd:Vals dvs ds)
  (n:a0b CX X E) (I:Inv X qK σ H s) (r:Vals vs us)
  (h:∀x dx,H x=none->H dx=none->dx≠x->sp (.ref x::(vs++dvs)) (upd (upd H dx (.own x)) x (.ins C dx [])) (λv H2=>v=.non/\Q (.ref x) H2) E) :
  wpAny (model X.prog X.w) X.A (call (.ref C) us) (EP X qK σ Q) X.xe s:=by
 have c:=h (s.heap.objs.size+1) s.heap.objs.size (I.hok.fresh (dW _)) (I.hok.fresh (ak _)) (aV (bS _));have b:=Inv.made (C:=C) I;have d:Vals (V.ref (s.heap.objs.size+1)::(vs++dvs)) (Value.ref (s.heap.objs.size+1)::(us++ds)):=.cons rfl (r.append hd);have l:(Value.ref (s.heap.objs.size+1)::us++ds).length=ps.length:=by
  have e:=d.length;rw[F.len _ _ _ _ c]at e;exact e.symm
 refine fN (b3B (f:=f) I.kIn M.makes M.init (bj.mp M.fn) (cU (F.run _ X.stack _ _ ⟨Value.ref (s.heap.objs.size+1)::us,[]⟩ (Value.ref (s.heap.objs.size+1)::(us++ds)) _ _ E (m.make C us [])
  (b.env0.make C us []) (j _ (Value.ref (s.heap.objs.size+1)::us) b.kIn l) d c) λr s' a=>?_))
 cases r with
 |error e=>exact n qK σ _ _ e s' b a
 |ok fl =>
  cases fl with
  |ret u =>
   obtain⟨v,H',g,p,i,o⟩:=b.after a;subst i;exact⟨p,⟨V.ref (s.heap.objs.size+1),H',g,rfl,o⟩⟩
  |next=>exact False.elim a
  |brk=>exact False.elim a
  |cont=>exact False.elim a
def b5J(M:Mk X.K C f)(F:FnOk X.prog X.w X.K X.mg X.base CX k f fd ps sp)(m:Room (k+1) X.A)(j:Gl X x)(l:X.mg x=some (.ref C))(g:Binds X.K fd ps ds)(hd:Vals dvs ds)(n:a0b CX X E)
  (d:PA X (e::es) t) (a:(x==("__debug__" : Str))=false:=by decide) (i:starEach (e::es) X.env=(false,eval e X.env)::starEach es X.env:=by rfl) (b:(backTo pos (starEach es X.env)).any (·.1)=false:=by rfl) :
  PE X (.Call (.Name x p) (e::es) [] pos) (a9a C sp dvs E t):=by
 intro qK s σ H Q I h;refine cZ (V3 I j l ?_ a);refine PySem.W.callWith_K (h₀:=X.base) I.ok.mod.kin M.kp (thn (d pos qK s σ H _ I h) λo s1 ⟨vs,H1,c,r,q⟩=>⟨c.kIn,?_⟩) i b;exact a6D M F m g hd n c r q
def b2Z(M:Mk X.K C f)(F:FnOk X.prog X.w X.K X.mg X.base CX k f fd ps sp)(e:Room (k+1) X.A)(c:Gl X x)(d:X.mg x=some (.ref C))(b:Binds X.K fd ps ds)(hd:Vals dvs ds)(g:a0b CX X E)
  (a:(x==("__debug__" : Str))=false:=by decide):PE X (.Call (.Name x p) [] [] pos) (a9a C sp dvs E U0):=by
 intro qK s σ H Q I h;refine cZ (V3 I c d ?_ a);exact PySem.W.callWith_K0 I.kIn M.kp (a6D (us:=[]) M F e b hd g I .nil h)
end
section
variable {f:qE}{ks:qA Str}{E:XK}{m:Str}{p qO kpos:Pos}{o:Expr}{kws:qA Keyword}{tk:TA}{nm:qD Str}
variable {g:qA qB->qA qB->qA qB}{gV:qA V->qA V->qA V}
end
structure FnScope(N P:qA Str)(sc:Scope):Prop where
 kind:sc.kind=.function:=by rfl
 co:sc.isCoroutine=false:=by rfl
 gen:sc.isGenerator=false:=by rfl
 nd:N.Nodup:=by decide +kernel
 pre:N.take P.length=P:=by rfl
 par:∀x∈P,sc.names.lookup x=some .local∨sc.names.lookup x=some .cell:=by decide +kernel
 nofree:∀y∈sc.names,y.2≠.free:=by decide +kernel
def a4S{kindOf:Str->qD NameKind}{x:Str}:∀{binds:qA (Str×qB)}{m:Str->qD qB},(∀v,(x,v)∉binds)->bindL kindOf binds m x=m x
 |[],_,_=>rfl
 |(n,v)::r,m,h=>by
  unfold bindL;rw[a4S λw hw=>h w (ar _ hw)];split
  .have:x≠n:=by rintro rfl;exact h v ao
   simp[this]
  .rfl
def a4U{kindOf:Str->qD NameKind}{x:Str}:∀{binds:qA (Str×qB)}{m:Str->qD qB},(∀v,(x,v)∉binds)->bindC kindOf binds m x=m x
 |[],_,_=>rfl
 |(n,v)::r,m,h=>by
  unfold bindC;rw[a4U λw hw=>h w (ar _ hw)];split
  .rfl
  .have:x≠n:=by rintro rfl;exact h v ao
   simp[this]
def a4T{kindOf:Str->qD NameKind}{x:Str}{v:qB}:∀{P:qA Str}{vs:qA qB}{i:Nat}{m:Str->qD qB},P.Nodup->P[i]?=some x->vs[i]?=some v->kindOf x=some .local ->
  bindL kindOf (P.zip vs) m x=some v
 |[],_,_,_,_,h,_,_=>by simp at h
 |_::_,[],_,_,_,_,h,_=>by simp at h
 |p::P,w::vs,0,m,nd,h1,h2,a=>by
  simp at h1 h2;subst h1;subst h2;show bindL kindOf ((p,w)::P.zip vs) m p=_;unfold bindL;rw[a4S λv b=>(cq.mp nd).1 (List.of_mem_zip b).1,aD a];simp
 |p::P,w::vs,i+1,m,nd,h1,h2,a=>by
  show bindL kindOf ((p,w)::P.zip vs) m x=_;unfold bindL;exact a4T (i:=i) (cq.mp nd).2 (by simpa using h1) (by simpa using h2) a
def a4V{kindOf:Str->qD NameKind}{x:Str}{v:qB}:∀{P:qA Str}{vs:qA qB}{i:Nat}{m:Str->qD qB},P.Nodup->P[i]?=some x->vs[i]?=some v->kindOf x≠some .local ->
  bindC kindOf (P.zip vs) m x=some v
 |[],_,_,_,_,h,_,_=>by simp at h
 |_::_,[],_,_,_,_,h,_=>by simp at h
 |p::P,w::vs,0,m,nd,h1,h2,a=>by
  simp at h1 h2;subst h1;subst h2;show bindC kindOf ((p,w)::P.zip vs) m p=_;unfold bindC;rw[a4U λv b=>(cq.mp nd).1 (List.of_mem_zip b).1,aq a];simp
 |p::P,w::vs,i+1,m,nd,h1,h2,a=>by
  show bindC kindOf ((p,w)::P.zip vs) m x=_;unfold bindC;exact a4V (i:=i) (cq.mp nd).2 (by simpa using h1) (by simpa using h2) a
def start(N:qA Str)(vs:qA V):St:=vs.map some++List.replicate (N.length-vs.length) none
def X2(CX:CXT)(P:qG)(w:World)(K:qF)(mg:Str->qD qB)(base:Heap)(N:qA Str)(qual:Str)(scope:Scope)(f:qE)(cd:qB)(A:Around)(outer:qA Env)(s:qC)(H:Hp)(E:XK):Cx where
 prog:=P
 w:=w
 K:=K
 mg:=mg
 base:=base
 A:=A.deeper (envOfC qual scope s.heap.objs.size f cd)
 N:=N
 s₀:=s
 H₀:=H
 env:=envOfC qual scope s.heap.objs.size f cd
 outer:=outer
 stack:=envOfC qual scope s.heap.objs.size f cd::outer
 ex:=[]
 calm:=true
 fn:=λ_=>true
 pn:=[]
 xe:=λe s'=>wpAny (model P w) (A.deeper (envOfC qual scope s.heap.objs.size f cd)) (leaving (envOfC qual scope s.heap.objs.size f cd) e) (λ_ s''=>CX outer H s E e s'') (λe' s''=>CX outer H s E e' s'') s'
def a7u{a:Scope}(h:a.names.lookup x=some .cell):∃c,(cellsFrom n a.names []).lookup x=some c:=by
 have q:=PySem.W.cellsFrom_some a.names n [] (.inl h);exact Option.isSome_iff_exists.mp q
def b0Y{N:qA Str}{qual:Str}{scope:Scope}{f:qE}{cd:qB}{outer:qA Env}{s1:qC}{E:XK}
  (S:FnScope N ps scope) (hd:A.handled=none) (d:Env0 P w K mg base A outer s H) (G:vs.length=ps.length) (r:Vals vs us)
  (x:InCallC s s.heap.objs.size (bindL (envOfC qual scope s.heap.objs.size f cd).kindOf (ps.zip us) λ_=>none) (cellsFrom (s.heap.objs.size+1) scope.names []) (bindC (envOfC qual scope s.heap.objs.size f cd).kindOf (ps.zip us) λ_=>none) s1) :
  Inv (X2 CX P w K mg base N qual scope f cd A outer s H E) [] (start N vs) H s1:=by
 have C:ps.length<=N.length:=by have:=aL List.length S.pre;rw[aS]at this;omega
 obtain⟨h1,tk,rfl,o⟩:=x.done;have j:∀b:qE,b∉(X2 CX P w K mg base N qual scope f cd A outer s H E).ex:=λb z=>absurd (show b∈([]:qA qE)from z) (by simp);refine⟨⟨d.mod,S.kind,rfl,rfl,ak _,λy z c h1 h2=>?_,λy g=>?_,λy c _ h=>?_,λ_=>hd,Around.frames_deeper d.frames,.inr ⟨rfl,rfl⟩,λb z=>absurd z (j b),d.bs,d.bsz,λb _ _=>j b,λb z=>absurd z (j b),d.funs,d.frf⟩,
  rfl,d.bare,Un.kept o,⟨_,x.toInCall.ns,λi y v h1 h2 F=>?_⟩,λy c h=>⟨_,x.cell y c h⟩,d.hok.fresh (ak _),λy c h=>?_,λp l=>absurd (show p∈([]:qA (qE×Obj))from l) (by simp),d.hok.kept o,?_⟩
 .exact name_of_addr x.apart (PySem.mem_of_lookup h1) (PySem.mem_of_lookup h2)
 .have g:scope.names.lookup y=some .cell∨scope.names.lookup y=some .free:=g;rcases g with g|g
  .exact a7u g
  .exact absurd rfl (S.nofree _ (PySem.mem_of_lookup g))
 .exact cE (x.above y c (PySem.mem_of_lookup h))
 .have hi:i<vs.length:=by
   unfold start at h2;by_cases hi:i<vs.length
   .exact hi
   .rw[ba (by simpa using hi)]at h2;rw[List.getElem?_replicate]at h2;split at h2<;>cases h2
  have B:vs[i]?=some v:=by
   unfold start at h2;rw[bw (by simpa using hi),aN]at h2;cases e:vs[i]? with
   |none=>rw[e]at h2;cases h2
   |some a=>rw[e]at h2;cases h2;rfl
  obtain⟨u,t,D⟩:=r.get B;have l:ps[i]?=some y:=by
   rw[<-S.pre,df (by omega)];exact h1
  have m:ps.Nodup:=by rw[<-S.pre];exact S.nd.sublist (List.take_sublist _ _)
  refine⟨u,D,?_⟩;rcases S.par y (aA l)with k|k
  .exact .inl ⟨k,a4T m l t k⟩
  .obtain⟨c,e⟩:=a7u (n:=s.heap.objs.size+1) k;refine .inr ⟨.inl k,c,e,?_⟩;have q:=x.cell y c e;rw[a4V m l t (by show scope.names.lookup y≠_;rw[k];decide)]at q;exact q
 .exact d.hok.fresh (cE (x.above y c (PySem.mem_of_lookup h)))
 .unfold start;show _=N.length;rw[au,ag,ed];omega
def b7C{f:qE}{name qual:Str}{c:Arguments}{scope:Scope}{G kV h pm a ct oc:qB}{an od:qD qE}
  {B:Array (qD qB)}{N:qA Str}(W:K.lookup f=some ⟨oc,od,.func (PySem.W.fnOf name qual c body scope G kV h pm an a ct),B⟩) (m:PySem.W.codeIn K a qual=true) (S:FnScope N ps scope)
  (l:∀vs H Q E,sp vs H Q E->vs.length=ps.length)
  (d:∀(A:Around) (outer:qA Env) (s:qC) (H:Hp) (vs:qA V) (Q:VK) (E:XK),Room k (A.deeper (envOfC qual scope s.heap.objs.size f a))->sp vs H Q E ->
   ∃t,PSs (X2 CX P w K mg base N qual scope f a A outer s H E) body t/\t {nx:=λ_ H'=>Q .non H',rt:=Q} (start N vs) H) :
  FnOk P w K mg base CX (k+1) f (PySem.W.fnOf name qual c body scope G kV h pm an a ct) ps sp:=by
 refine⟨l,λA outer s H F X vs Q E p i L r j=>?_⟩;have O:=l _ _ _ _ j;have D:K.In s.heap:=i.mod.kin.keeps λb o e=>(i.bs b o e).1;have z:s.heap.NoLimit:=i.mod.nolimit.keeps λb o e=>(i.bs b o e).1;have g:∀y∈ps.zip X,scope.names.lookup y.1=some .local∨(scope.names.lookup y.1=some .cell/\((cellsFrom (s.heap.objs.size+1) scope.names []).lookup y.1).isSome=true):=λ⟨n,v⟩ U=>by
  rcases S.par n (List.of_mem_zip U).1 with q|q
  .exact .inl q
  .exact .inr ⟨q,PySem.W.cellsFrom_some _ _ _ (.inl q)⟩
 refine codeAny_call_function p.depth (D _ _ W) rfl S.co S.gen rfl (PySem.W.codeRec_of D m) (L _ _ _ _ ?_);refine wpAny_newFunctionEnv_cells S.kind g λenv M s1 x=>?_;subst M;refine⟨z.keeps x.toInCall.keep,codeAny_func ?_⟩;obtain⟨t,T,R⟩:=d A outer s H vs Q E (p.deeper _) j;have I:Inv (X2 CX P w K mg base N qual scope f a A outer s H E) [] (start N vs) H s1:=b0Y S p.hd i O r x;refine cW (T [] s1 (start N vs) H _ I R) (λfl s' hs=>?_) λe s' hs=>hs;have fin:∀{σ':St}{H':Hp}{v:V}{u:qB},Inv (X2 CX P w K mg base N qual scope f a A outer s H E) [] σ' H' s'->RelV v u->Q v H'->CE outer P w H s Q u s' :=
  λ{σ' H' v u} J C q=>⟨v,H',J.os,J.bare,J.base,J.hok,C,q⟩
 cases fl with
 |ret u =>
  obtain⟨v,σ',H',J,C,q⟩:=hs;exact fin J C q
 |next =>
  obtain⟨σ',H',J,q⟩:=hs;exact fin (v:=V.non) (u:=Value.none) J rfl q
 |brk =>
  obtain⟨_,_,_,q⟩:=hs;exact False.elim q
 |cont =>
  obtain⟨_,_,_,q⟩:=hs;exact False.elim q
section
variable {p:Pos}{id T:String}{r:qA V->Hp->VK->Prop}
def tCB(r:qA V->Hp->VK->Prop)(t:TA):TE:=λσ H Q=>t σ H λvs H1=>r vs H1 Q
def G4(f:D6 X (.builtin id) r)(i:Gl X x)(j:X.mg x=none)(l:bootBuiltins x=some (.builtin id))(d:PA X (e::es) t)(k:x≠"__name__":=by decide)(a:(x==("__debug__" : Str))=false:=by decide)
  (g:starEach (e::es) X.env=(false,eval e X.env)::starEach es X.env:=by rfl) (b:(backTo pos (starEach es X.env)).any (·.1)=false:=by rfl):PE X (.Call (.Name x p) (e::es) [] pos) (tCB r t):=by
 intro qK s σ H Q I h;refine cZ (a1t I i j l ?_ k a);exact PyProof.Rows.callWith_builtin1 (thn (d pos qK s σ H _ I h) λo s1 ⟨vs,H1,c,n,m⟩=>f qK s1 σ H1 vs o Q c n m) g b
def L0(f:D6 X (.type T) r)(i:Gl X x)(j:X.mg x=none)(l:bootBuiltins x=some (.type T))(d:PA X (e::es) t)(k:x≠"__name__":=by decide)(a:(x==("__debug__" : Str))=false:=by decide)
  (g:starEach (e::es) X.env=(false,eval e X.env)::starEach es X.env:=by rfl) (b:(backTo pos (starEach es X.env)).any (·.1)=false:=by rfl):PE X (.Call (.Name x p) (e::es) [] pos) (tCB r t):=by
 intro qK s σ H Q I h;refine cZ (a1t I i j l ?_ k a);exact ez (thn (d pos qK s σ H _ I h) λo s1 ⟨vs,H1,c,n,m⟩=>f qK s1 σ H1 vs o Q c n m) g b
end
end L2
namespace HT
open PySem PyProof.Rows
def lexLt:qI->qI->Bool
 |[],[]=>false
 |[],_::_=>true
 |_::_,[]=>false
 |x::xs,y::ys=>if x=y then lexLt xs ys else decide (x<y)
def lexLt_cons(x y:Int)(xs ys:qI):lexLt (x::xs) (y::ys)=if x=y then lexLt xs ys else decide (x<y):=rfl
section
open PySem.SeqAt
open PySem.AutoSeq1 (wpAny_loadPart')
open PySem.MeetsSeq PySem.MeetsSeq2 PySem.MeetsSeq3
end
section
variable {prog:qG}{w:World}{A:Around}{E:qH}{s:qC}
def cat_tup{t b:qE}{vs a:qA qB}{Q:qH}(r:IsTup s.heap t vs.toArray)(q:IsTup s.heap b a.toArray)(o:vs≠[])
  (h1:a=[]->Q (.ref t) s) (h2:a≠[]->Q (.ref s.heap.objs.size) {s with heap:=s.heap.push {cls:=.type "tuple",data:=.seq (vs++a).toArray}})
  (k:vs.length+a.length<=sizeLine):wpAny (model prog w) A (binaryOp .Add (.ref t) (.ref b)) Q E s:=by
 obtain⟨⟨cls,dd,data,sl⟩,i,m,n,hd⟩:=id r;obtain⟨⟨l,d,j,h⟩,c,f,p,g⟩:=id q;simp only at m hd f g;subst m hd f g;have e:vs.toArray++a.toArray=(vs++a).toArray:=by simp
 by_cases hw:a=[]
 .exact concat_meets ⟨_,i,rfl⟩ ⟨_,c,rfl⟩ noFill_tuple_add seq_tuple_add PySem.F.slot_tuple_add PySem.F.entry_tuple_add (PySem.F.args_tuple_add_2 _ _)
   (tuple_addW1 t b vs.toArray a.toArray n p dd d sl h (by simpa using o) (by simp[hw])) ⟨i,c,h1 hw⟩
 .refine concat_meets ⟨_,i,rfl⟩ ⟨_,c,rfl⟩ noFill_tuple_add seq_tuple_add PySem.F.slot_tuple_add PySem.F.entry_tuple_add (PySem.F.args_tuple_add_2 _ _)
   (tuple_addW2 t b vs.toArray a.toArray n p dd d sl h (by simpa using o) (by simpa using hw) (by rw[aF,aF];exact k)) ⟨i,c,?_⟩
  rw[e];exact h2 hw
def sIx(n d:Nat):qD Int->Nat
 |none=>d
 |some v=>if v<0 then(v+(n:Int)).toNat else min v.toNat n
def sIx_none(n d:Nat):sIx n d none=d:=rfl
def sIx_nat(n d k:Nat):sIx n d (some (k:Int))=min k n:=by
 show(if (k:Int)<0 then((k:Int)+(n:Int)).toNat else min (k:Int).toNat n)=min k n;rw[aq (by omega),bX]
def b7P(n d:Nat)(hd:d<=n)(o:qD Int):sIx n d o<=n:=by
 cases o with
 |none=>exact hd
 |some v =>
  show(if v<0 then(v+(n:Int)).toNat else min v.toNat n)<=n;by_cases a:v<0
  .rw[aD a];omega
  .rw[aq a];exact Nat.min_le_right _ _
def a9T(v:Int)(n d:Nat):(if v<0 then max (v+(n:Int)) 0 else min v (n:Int))=((sIx n d (some v):Nat):Int):=by
 show(if v<0 then max (v+(n:Int)) 0 else min v (n:Int))=(((if v<0 then(v+(n:Int)).toNat else min v.toNat n):Nat):Int);by_cases a:v<0
 .simp only[aD a];omega
 .simp only[aq a];omega
def a8N(lo hi:qD Int)(n:Nat):Builtin.Slice.sliceAdjust lo hi 1 (n:Int)=(((sIx n 0 lo:Nat):Int),((sIx n n hi:Nat):Int)):=by
 have h1:¬((1:Int)<0):=by omega
 unfold Builtin.Slice.sliceAdjust;simp only[h1,if_false];refine Prod.ext ?_ ?_
 .cases lo with
  |none=>rfl
  |some v=>exact a9T v n 0
 .cases hi with
  |none=>rfl
  |some v=>exact a9T v n n
def a7Y(i j:Nat):Builtin.Slice.slicePlaces (i:Int) (j:Int) 1=j-i:=by
 unfold Builtin.Slice.slicePlaces;have h1:(1:Int) > 0:=by omega
 simp only[h1,fb,Int.ediv_one];split<;>omega
def a2O{v:qB}{o:qD Int}{Q:qD Int->qC->Prop}(p:IsPart v o)(h:Q o s):wpAny (model prog w) A (Builtin.Slice.slicePartIndex v) Q E s:=by
 cases p with
 |none=>exact slicePart_none h
 |int i t=>exact slicePart_int h
def a1o{sl:qE}{c d:qB}{lo hi:qD Int}{n:Nat}{Q:Int×Int×Nat->qC->Prop}(hs:s.heap.IsSliceOf sl c d .none)(pl:IsPart c lo)(f:IsPart d hi)
  (h:Q (((sIx n 0 lo:Nat):Int),1,sIx n n hi-sIx n 0 lo) s):wpAny (model prog w) A (Builtin.Slice.sliceApplied (.ref sl) (pure (n:Int))) Q E s:=by
 obtain⟨os,b,e,a⟩:=id hs;unfold Builtin.Slice.sliceApplied Builtin.Slice.sliceFields;refine aa (aa (bQ b a (x:=c) rfl (aa (bQ b a (x:=d) rfl (aa (bQ b a (x:=.none) rfl (ai ?_)))))));refine aa (slicePart_none ?_);show wpAny _ _ (if ((1:Int)==0)=true then _ else _) _ _ s;rw[aq (by decide)];refine aa (a2O pl (aa (a2O f (aa (ai ?_)))));show wpAny _ _ (match Builtin.Slice.sliceAdjust lo hi 1 (n:Int)with | (lo,hi)=>pure (lo,(1:Int),Builtin.Slice.slicePlaces lo hi 1)) _ _ s;rw[a8N lo hi n];show wpAny _ _ (pure (((sIx n 0 lo:Nat):Int),(1:Int),Builtin.Slice.slicePlaces ((sIx n 0 lo:Nat):Int) ((sIx n n hi:Nat):Int) 1)) _ _ s;rw[a7Y];exact ai h
def b2U(xs:Array qB)(i k:Nat):((List.range k).filterMap λ(m:Nat)=>xs[((i:Int)+(m:Int)*1).toNat]?).toArray=((xs.toList.drop i).take k).toArray:=by
 have e:(λ(m:Nat)=>xs[((i:Int)+(m:Int)*1).toNat]?)=λm=>xs[i+m]?:=by
  funext m;have:((i:Int)+(m:Int)*1).toNat=i+m:=by omega
  rw[this]
 rw[e];have:=pick_run xs i k;rw[List.filterMap_map]at this;have a:((λx=>xs[x]?) ∘ λx=>i+x)=λm=>xs[i+m]?:=rfl;rw[a]at this;rw[this]
def getItem_tuple_cut{t sl:qE}{items:Array qB}{g i:qB}{lo hi:qD Int}{Q:qH}(b:IsTup s.heap t items)(hs:s.heap.IsSliceOf sl g i .none)(pl:IsPart g lo)(l:IsPart i hi)
  (hw:¬(sIx items.size 0 lo=0/\sIx items.size items.size hi=items.size))
  (h:Q (.ref s.heap.objs.size) {s with heap:=s.heap.push {cls:=.type "tuple",data:=.seq ((items.toList.drop (sIx items.size 0 lo)).take (sIx items.size items.size hi-sIx items.size 0 lo)).toArray}})
  (k:items.size<=sizeLine):wpAny (model prog w) A (getItem (.ref t) (.ref sl)) Q E s:=by
 have a:sizeOk (.seq ((items.toList.drop (sIx items.size 0 lo)).take (sIx items.size items.size hi-sIx items.size 0 lo)).toArray):=by
  show((items.toList.drop (sIx items.size 0 lo)).take (sIx items.size items.size hi-sIx items.size 0 lo)).toArray.size<=sizeLine;rw[aF,aS,bG,ax];omega
 have n:sIx items.size items.size hi<=items.size:=b7P _ _ (ak _) hi;obtain⟨os,f,d,j⟩:=id hs;have c:s.TypeIs (.ref sl) "slice":=⟨os,f,d⟩;unfold getItem
 try with_reducible refine bW ?_
 first|refine aa (ai ?_)|skip
 refine aa (wpAny_sequenceKey b.typeIs (by decide) ?_);refine aa (bH (name:=Str.ofString "__getitem__") b.typeIs dN
  (bI dN b.typeIs entry_tuple_getitem ?_ (args_tuple_getitem _ _)))
 show wpAny _ _ (Builtin.Tuple.tupleItemsOf (.ref t)>>=_) _ _ s;refine aa (tupleItemsOf_ b ?_);refine aa (fO c ?_);rw[aD (by decide)];refine aa (a1o hs pl l ?_);have e:¬((((sIx items.size 0 lo:Nat):Int)==0 && (1:Int)==1 && (sIx items.size items.size hi-sIx items.size 0 lo)==items.size)=true):=by
  intro q;rw[aJ,aJ]at q;have o:((sIx items.size 0 lo:Nat):Int)=0:=eq_of_beq q.1.1;have p:sIx items.size items.size hi-sIx items.size 0 lo=items.size:=eq_of_beq q.2;exact hw ⟨by omega,by omega⟩
 show wpAny _ _ (if (((sIx items.size 0 lo:Nat):Int)==0 && (1:Int)==1 && (sIx items.size items.size hi-sIx items.size 0 lo)==items.size)=true then _ else _) _ _ s;rw[aq e,b2U]
 first
  |exact aa (m:=Builtin.Tuple.tupleExact _) (bY (ai ⟨_,rfl,ai h⟩) a)
  |exact aa (m:=Builtin.Tuple.tupleExact _) (bY (aa (ai (ai ⟨_,rfl,ai h⟩))) a)
  |exact aa (aa (m:=Builtin.Tuple.tupleExact _) (bY (ai (ai ⟨_,rfl,ai h⟩)) a))
  |exact aa (aa (m:=Builtin.Tuple.tupleExact _) (bY (ai ⟨_,rfl,ai h⟩) a))
end
end HT
namespace L2
open PySem PySem.Spec PyProof.Rows
variable {H:Hp}{X:Cx}{n:Nat}{qK:qA (qE×Obj)}{s:qC}{us:qA qB}{x:V}{xs:qA V}{σ:St}
abbrev TO:=St->Hp->(qD Int->Hp->Prop)->Prop
def PO(X:Cx)(e:qD Expr)(t:TO):Prop :=
 ∀(qK:qA (qE×Obj)) (s:qC) (σ:St) (H:Hp) (Q:qD Int->Hp->Prop),Inv X qK σ H s->t σ H Q ->
  wpAny (model X.prog X.w) X.A (evalPart e X.env) (λu s'=>∃o H',Inv X qK σ H' s'/\IsPart u o/\Q o H') X.xe s
def G5:TO:=λ_ H Q=>Q none H
def a1M(t:TE):TO:=λσ H Q=>t σ H λx H1=>∃i,x=.int i/\Q (some i) H1
def a8t{ns:qI}:∀{us:qA qB},Vals (ns.map V.int) us->IntsAre us ns:=by
 induction ns with
 |nil=>intro us r;rw[dH]at r;cases r;exact .nil
 |cons n ns a =>
  intro us r;rw[aW]at r;cases r with
  |cons r1 r2 =>
   obtain⟨t,e⟩:=r1;subst e;exact .cons n t (a r2)
section
variable {e:Expr}{te:TE}{lo hi:qD Expr}{tl th:TO}{pos p2:Pos}
def b5x:PO X none G5:=by
 intro qK s σ H Q I h;rw[evalPart_none];exact ai ⟨none,H,I,.none,h⟩
def b5w(h:PE X e te):PO X (some e) (a1M te):=by
 intro qK s σ H Q I hw;rw[evalPart_some];refine thn (h qK s σ H _ I hw) λu s1 ⟨x,H1,a,c,b⟩=>?_;obtain⟨i,rfl,q⟩:=b;obtain⟨t,rfl⟩:=c;exact⟨some i,H1,a,.int i t,q⟩
def SlR(X:Cx)(r:V->qD Int->qD Int->Hp->VK->Prop):Prop :=
 ∀(qK:qA (qE×Obj)) (s:qC) (σ:St) (H:Hp) (x:V) (v vl vu:qB) (lo hi:qD Int) (sl:qE) (Q:VK),Inv X qK σ H s->RelV x v->s.heap.IsSliceOf sl vl vu .none->IsPart vl lo->IsPart vu hi->r x lo hi H Q ->
  ∃T id,typeLookup (.type T) "__getitem__"=pure (some (.builtin id))/\s.TypeIs v T/\wpAny (model X.prog X.w) X.A (getItem v (.ref sl)) (EP X qK σ Q) X.xe s
def tSl(r:V->qD Int->qD Int->Hp->VK->Prop)(te:TE)(tl th:TO):TE:=λσ H Q=>te σ H λx H1=>tl σ H1 λl H2=>th σ H2 λu H3=>r x l u H3 Q
def a6M{r:V->qD Int->qD Int->Hp->VK->Prop}(p:SlR X r)(m:PE X e te)(o:PO X lo tl)(w:PO X hi th):PE X (.Subscript e (.Slice lo hi none p2) pos) (tSl r te tl th):=by
 intro qK s σ H Q I h;refine Subscript_ (thn (m qK s σ H _ I h) λv s1 ⟨x,H1,f,D,A⟩=>?_);refine wpAny_Slice (thn (o qK s1 σ H1 _ f A) λc s2 ⟨l,H2,g,y,B⟩=>thn (w qK s2 σ H2 _ g B) λvu a ⟨u,d,i,z,C⟩=>?_);rw[evalPart_none];refine ai ?_;have j:Inv X qK σ d {a with heap:=a.heap.push {cls:=.type "slice",data:=.fields #[c,vu,.none]}}:=i.kept (t':=a.toks) λb E q=>ae _ q;obtain⟨T,id,k,t,n⟩:=p qK {a with heap:=a.heap.push {cls:=.type "slice",data:=.fields #[c,vu,.none]}} σ d x v c vu l u a.heap.objs.size Q j D (Heap.IsSliceOf.new ..) y z C;show wpAny (model X.prog X.w) X.A (subscriptTail e (.Slice lo hi none p2) v (.ref a.heap.objs.size)) (EP X qK σ Q) X.xe {a with heap:=a.heap.push {cls:=.type "slice",data:=.fields #[c,vu,.none]}};exact tail_any (ops:=[.ref a.heap.objs.size,v]) t k n (by with_unfolding_all rfl)
def J1(xs:qA V)(lo hi:qD Int):qA V:=(xs.drop (HT.sIx xs.length 0 lo)).take (HT.sIx xs.length xs.length hi-HT.sIx xs.length 0 lo)
def Z6(xs:qA V)(lo hi:qD Int):(J1 xs lo hi).length<=xs.length:=by
 unfold J1;rw[aS,bG];omega
def b2G(K:qF):V->qD Int->qD Int->Hp->VK->Prop:=λx lo hi H Q=>∃a xs,x=.ref a/\SqT K H a xs /\
 ¬(HT.sIx xs.length 0 lo=0/\HT.sIx xs.length xs.length hi=xs.length)/\∀p,H p=none->Q (.ref p) (upd H p (.tup (J1 xs lo hi)))
def b7K:SlR X (b2G X.K):=by
 intro qK s σ H x v l m lo hi sl Q I j hs g i h;obtain⟨a,xs,rfl,f,hw,q⟩:=h;cases j;obtain⟨its,r,d,e⟩:=I.tuple f;have c:its.toArray.size=xs.length:=by rw[aF];exact r.length.symm
 refine⟨"tuple",_,dN.lookup,d.typeIs,?_⟩;refine HT.getItem_tuple_cut d hs g i (by rw[c];exact hw) ?_ (by rw[c];exact e);rw[c];refine⟨.ref s.heap.objs.size,_,I.laid (t':=s.toks) (o:=.tup (J1 xs lo hi)) (λb k q=>ae _ q) (ak _) ?_,rfl,q _ (I.hok.fresh (ak _))⟩;exact⟨a_ (Z6 xs lo hi) e,_,(r.drop (HT.sIx xs.length 0 lo)).take (HT.sIx xs.length xs.length hi-HT.sIx xs.length 0 lo),IsTup.new _ _⟩
def b9O(K:qF):R2:=λx y H Q=>∃a b xs ys,x=.ref a/\y=.ref b/\SqT K H a xs/\SqT K H b ys/\xs≠[]/\xs.length+ys.length<=sizeLine /\
 (ys=[]->Q (.ref a) H)/\(ys≠[]->∀p,H p=none->Q (.ref p) (upd H p (.tup (xs++ys))))
def Vals.nil_iff(r:Vals xs us):us=[]↔xs=[]:=by
 cases r with
 |nil=>simp
 |cons _ _=>simp
def b5R:OpR X (binaryOp .Add) (b9O X.K):=by
 intro qK s σ H x y v u Q I m n h;obtain⟨a,b,xs,ys,rfl,rfl,g,i,j,e,k,l⟩:=h;cases m;cases n;obtain⟨its,d,p1,_⟩:=I.tuple g;obtain⟨f,c,p2,_⟩:=I.tuple i;refine HT.cat_tup p1 p2 (λz=>j (d.nil_iff.mp z)) (λz=>⟨.ref a,H,I,rfl,k (c.nil_iff.mp z)⟩) (λz=>?_) (by rw[<-d.length,<-c.length];exact e);refine⟨.ref s.heap.objs.size,_,I.laid (t':=s.toks) (o:=.tup (xs++ys)) (λb p q=>ae _ q) (ak _) ?_,rfl,l (λw=>z (c.nil_iff.mpr w)) _ (I.hok.fresh (ak _))⟩;exact⟨by rw[au];exact e,_,d.append c,IsTup.new _ _⟩
end
def ixN(n:Nat)(i:Int):qJ:=if 0<=i then(if i<n then some i.toNat else none)else if -(n:Int)<=i then some (i+n).toNat else none
def atI{α:Type}(xs:qA α)(i:Int):qD α:=(ixN xs.length i).bind λj=>xs[j]?
def a9H{i:Int}{j:Nat}(h:ixN n i=some j):seqIndex? i n=some j/\j<n /\ -(n:Int)<=i/\i<n:=by
 unfold ixN at h;by_cases a:0<=i
 .rw[aD a]at h;by_cases h1:i<n
  .rw[aD h1]at h;have e:i.toNat=j:=bF h;exact⟨by rw[seqIndex_of a h1,e],by omega,by omega,h1⟩
  .rw[aq h1]at h;cases h
 .rw[aq a]at h;by_cases h1 : -(n:Int)<=i
  .rw[aD h1]at h;have e:(i+n).toNat=j:=bF h;exact⟨by rw[seqIndex_neg (by omega) h1,e],by omega,h1,by omega⟩
  .rw[aq h1]at h;cases h
def a2z{α:Type}{xs:qA α}{i:Int}{v:α}(h:atI xs i=some v):∃j,seqIndex? i xs.length=some j/\xs[j]?=some v/\j<xs.length /\ -(xs.length:Int)<=i/\i<xs.length:=by
 unfold atI at h;cases e:ixN xs.length i with
 |none=>rw[e]at h;cases h
 |some j =>
  rw[e]at h;obtain⟨h1,h2,a,b⟩:=a9H e;exact⟨j,h1,h,h2,a,b⟩
def a0u{α:Type}{xs:qA α}{j:Nat}{v:α}(h:xs[j]?=some v):atI xs (j:Int)=some v:=by
 have a:j<xs.length:=(aK.mp h).1;have e:ixN xs.length (j:Int)=some j:=by
  unfold ixN;rw[aD (by omega),aD (by omega)];simp
 unfold atI;rw[e];exact h
def a2A(b:Expr):Prop:=∀o i,subscripted b false o i=operate [o,i] (getItem o i)
def IxR(X:Cx)(r:R2):Prop :=
 ∀(value slice:Expr) (qK:qA (qE×Obj)) (s:qC) (σ:St) (H:Hp) (x y:V) (v u:qB) (Q:VK),Inv X qK σ H s->RelV x v->RelV y u->r x y H Q ->
  subscripted slice false v u=operate [v,u] (getItem v u)->wpAny (model X.prog X.w) X.A (subscriptTail value slice v u) (EP X qK σ Q) X.xe s
def MtR(X:Cx)(id:String)(r:V->qA V->Hp->VK->Prop):Prop :=
 ∀(qK:qA (qE×Obj)) (s:qC) (σ:St) (H:Hp) (x:V) (xs:qA V) (v:qB) (us:qA qB) (Q:VK),Inv X qK σ H s->RelV x v->Vals xs us->r x xs H Q ->
  wpAny (model X.prog X.w) X.A (call (.builtin id) (v::us)) (EP X qK σ Q) X.xe s
section
variable {a b:Expr}{ta tb:TE}{pos:Pos}
def b3a{r:R2}(f:IxR X r)(d:PE X a ta)(e:PE X b tb)(hs:a2A b):PE X (.Subscript a b pos) (tOp r ta tb):=by
 intro qK s σ H Q I h;exact Subscript_ (b9n d e I h λv u s2 x y H2 c g i q=>f a b qK s2 σ H2 x y v u Q c g i q (hs _ _))
def a7X(K:qF):R2:=λx y H Q=>∃p xs i v,x=.ref p/\y=.int i/\SqL K H p xs/\atI xs i=some v/\Q v H
def b7R(K:qF):R2:=λx y H Q=>∃p xs i v,x=.ref p/\y=.int i/\SqT K H p xs/\atI xs i=some v/\Q v H
def b9L:R2:=λx y H Q=>∃z i c,x=.str z/\y=.int i/\z.length<=sizeLine/\atI z.cps.toList i=some c/\Q (.str ⟨#[c]⟩) H
def b6y:IxR X (a7X X.K):=by
 intro value c qK s σ H x y v u Q I n o h hs;obtain⟨p,xs,i,z,rfl,rfl,m,k,q⟩:=h;cases n;obtain⟨t,rfl⟩:=o;obtain⟨its,r,a,C⟩:=I.list m;obtain⟨j,h1,h2,A,f,g⟩:=a2z k;obtain⟨w,d,b⟩:=r.get h2;have l:=r.length;have B:=X9;have fin:EP X qK σ Q w s:=⟨z,H,I,b,q⟩;by_cases e:0<=i
 .have hj:i.toNat=j:=by
   rw[seqIndex_of e g]at h1;exact bF h1
  exact item_listR a.isList e (by omega) (by rw[hj];simpa using d) fin hs
 .have hj:(i+(its.toArray.size:Int)).toNat=j:=by
   rw[seqIndex_neg (by omega) f]at h1;rw[aF,<-l];exact bF h1
  exact subscriptTail_builtinR (x:=w) a.isList.typeIs slot_list_getitem.lookup
   (wpAny_getItem_list_neg (Q:=λr s'=>r=w/\EP X qK σ Q r s') a.isList (by omega) (by rw[aF]<;>omega) (by omega) (by rw[hj];simpa using d) ⟨rfl,fin⟩) hs
def b9a:IxR X (b7R X.K):=by
 intro value b qK s σ H x y v u Q I k l h hs;obtain⟨p,xs,i,z,rfl,rfl,g,e,q⟩:=h;cases k;obtain⟨t,rfl⟩:=l;obtain⟨its,r,c,B⟩:=I.tuple g;obtain⟨j,h1,h2,m,n,o⟩:=a2z e;obtain⟨w,d,a⟩:=r.get h2;have f:=r.length;have A:=X9;have fin:EP X qK σ Q w s:=⟨z,H,I,a,q⟩;exact subscriptTail_builtinR (x:=w) c.typeIs slot_tuple_getitem.lookup
  (getItem_tuple (j:=j) (Q:=λr s'=>r=w/\EP X qK σ Q r s') c (by omega) (by omega) (by rw[aF,<-f];exact h1) (by simpa using d) ⟨rfl,fin⟩) hs
def b9b:IxR X b9L:=by
 intro value a qK s σ H x y v u Q I l m h hs;obtain⟨z,i,c,rfl,rfl,p,g,q⟩:=h;obtain⟨t,rfl⟩:=l;obtain⟨t',rfl⟩:=m;obtain⟨j,h1,h2,n,e,f⟩:=a2z g;have k:z.cps.toList.length=z.length:=by simp[Str.length]
 rw[k]at h1 e f;have o:=X9;exact tail_any (fP s z t) slot_str_getitem.lookup (getItem_str (c:=c) (by
  have b:decide (i < -(2 ^ 63:Int))=false:=bg (by omega);have d:decide (i ≥ 2 ^ 63)=false:=bg (by omega);rw[b,d,fA]) (by rw[h1];simpa using h2) ⟨.str ⟨#[c]⟩,H,I.tok _,⟨_,rfl⟩,q⟩) hs
def a8h(its:qA qB)(n j:Nat)(u:qB):Obj.mapSeq (·.setIfInBounds j u) {cls:=.type "list",data:=.seq its.toArray n}={cls:=.type "list",data:=.seq (its.set j u).toArray n}:=by
 simp[Obj.mapSeq]
def Inv.lst{p:qE}(I:Inv X qK σ H s)(h:H p=some (.lst xs)) :
  ∃(its:qA qB) (n:Nat),Vals xs its/\s.heap.get? p=some {cls:=.type "list",data:=.seq its.toArray n}/\xs.length<=sizeLine:=by
 obtain⟨z,its,n,r,e⟩:=I.hok p _ h;exact⟨its,n,r,e,z⟩
def Inv.lstUpd{p:qE}{ys:qA V}{its its':qA qB}{a:Nat}{f:Obj->Obj}(I:Inv X qK σ H s)(h:H p=some (.lst xs))
  (g:s.heap.get? p=some {cls:=.type "list",data:=.seq its.toArray n}) (c:f {cls:=.type "list",data:=.seq its.toArray n}={cls:=.type "list",data:=.seq its'.toArray a}) (r:Vals ys its') (i:ys.length<=sizeLine) (t:Nat) :
  Inv X qK σ (upd H p (.lst ys)) {s with heap:=s.heap.update p f,toks:=t}:=by
 have e:(s.heap.update p f).get? p=some {cls:=.type "list",data:=.seq its'.toArray a}:=by
  rw[cH f g (by rw[c]<;>rfl),c]
 refine I.write (x:=p) (e:=p) (by rw[h];trivial) (.inl rfl) (λb u d q=>(fu _ _ (dv d)).trans q) ⟨_,e⟩ ?_;exact⟨i,its',a,r,e⟩
def b2H:V->V->V->Hp->(Hp->Prop)->Prop:=λo i v H Q=>∃p xs k j,o=.ref p/\i=.int k/\H p=some (.lst xs)/\ixN xs.length k=some j/\Q (upd H p (.lst (xs.set j v)))
def a6A:b9x X b2H:=by
 intro qK s σ H o i v B A u Q I x w y h;obtain⟨p,xs,k,j,rfl,rfl,g,l,q⟩:=h;cases x;obtain⟨t,rfl⟩:=w;obtain⟨its,n,r,b,m⟩:=I.lst g;obtain⟨h1,h2,e,f⟩:=a9H l;have a:=r.length;have z:=X9;have c:Inv X qK σ (upd H p (.lst (xs.set j v))) {s with heap:=s.heap.update p (Obj.mapSeq (·.setIfInBounds j u))} :=
  I.lstUpd g b (a8h its n j u) (r.set y j) (by rw[List.length_set];exact m) s.toks
 by_cases d:0<=k
 .have hk:k.toNat=j:=by
   rw[seqIndex_of d f]at h1;exact bF h1
  exact PySem.W.ki_setAt b d (by omega) (by rw[aF,<-a];exact f) (by rw[hk];exact⟨_,c,q⟩)
 .have hk:(k+(its.toArray.size:Int)).toNat=j:=by
   rw[seqIndex_neg (by omega) e]at h1;rw[aF,<-a];exact bF h1
  exact PySem.W.ki_setBack b (by omega) (by rw[aF,<-a];exact e) (by omega) (by rw[hk];exact⟨_,c,q⟩)
def a5m(lo hi:qD Int)(n:Nat):(sliceBounds lo hi none n).1=((HT.sIx n 0 lo:Nat):Int)/\(sliceBounds lo hi none n).2.1=((HT.sIx n n hi:Nat):Int)/\(sliceBounds lo hi none n).2.2=1:=by
 refine⟨?_,?_,rfl⟩
 .cases lo with
  |none=>simp[sliceBounds,HT.sIx]
  |some i =>
   simp only[sliceBounds,HT.sIx,Option.getD_none,show(1:Int) > 0 by decide,fb];by_cases h:i<0
   .simp only[h,fb]<;>omega
   .simp only[h,if_false]<;>omega
 .cases hi with
  |none=>simp[sliceBounds,HT.sIx]
  |some i =>
   simp only[sliceBounds,HT.sIx,Option.getD_none,show(1:Int) > 0 by decide,fb];by_cases h:i<0
   .simp only[h,fb]<;>omega
   .simp only[h,if_false]<;>omega
def a3Q(its:qA qB)(lo hi:qD Int):slicePick its.toArray lo hi none=((its.drop (HT.sIx its.length 0 lo)).take (HT.sIx its.length its.length hi-HT.sIx its.length 0 lo)).toArray:=by
 obtain⟨h1,h2,a⟩:=a5m lo hi its.toArray.size;unfold slicePick;rw[h1,h2,a];simp only[sliceRange_one,pick_run,aF]<;>rfl
def b0w(K:qF):V->qD Int->qD Int->Hp->VK->Prop:=λx lo hi H Q=>∃a xs,x=.ref a/\SqL K H a xs/\∀p,H p=none->Q (.ref p) (upd H p (.lst (J1 xs lo hi)))
def b4U:SlR X (b0w X.K):=by
 intro qK s σ H x v l m lo hi sl Q I j hs g i h;obtain⟨a,xs,rfl,e,q⟩:=h;cases j;obtain⟨its,r,d,f⟩:=I.list e;have c:=r.length;refine⟨"list",_,slot_list_getitem.lookup,d.isList.typeIs,?_⟩;refine wpAny_getItem_list_slice d.isList hs g i .none (by simp) ?_ (by rw[aF]<;>omega);rw[a3Q,<-c];refine⟨.ref s.heap.objs.size,_,I.laid (t':=s.toks) (o:=.lst (J1 xs lo hi)) (λb k q=>ae _ q) (ak _) ?_,rfl,q _ (I.hok.fresh (ak _))⟩;exact⟨a_ (Z6 xs lo hi) f,_,0,(r.drop (HT.sIx xs.length 0 lo)).take (HT.sIx xs.length xs.length hi-HT.sIx xs.length 0 lo),aC _ rfl⟩
def W8:V->Bool
 |.non=>true
 |.bl _=>true
 |.int _=>true
 |.str _=>true
 |_=>false
def eqV:V->V->Bool
 |.non,.non=>true
 |.bl a,.bl b=>a==b
 |.bl a,.int b=>(if a then 1 else 0)==b
 |.int a,.bl b=>a==(if b then 1 else 0)
 |.int a,.int b=>a==b
 |.str a,.str b=>a==b
 |_,_=>false
def b4m{A:Around}{y:V}{u v:qB}(d:RelV y u)(c:RelV x v)(fy:W8 y=true)(fx:W8 x=true):SeqAt.EqAt A s u v (eqV y x):=by
 cases y with
 |non =>
  cases d;cases x with
  |non=>cases c;exact SeqAt.EqAt.same _
  |bl b=>cases c;exact SeqAt.EqAt.none_bool b
  |int b=>obtain⟨t,rfl⟩:=c;exact SeqAt.EqAt.none_int b t
  |str b=>obtain⟨t,rfl⟩:=c;exact SeqAt.EqAt.none_str b t
  |_=>exact absurd (show false=true from fx) a'
 |bl a =>
  cases d;cases x with
  |non=>cases c;exact SeqAt.EqAt.bool_none a
  |bl b=>cases c;exact SeqAt.EqAt.bool_bool a b
  |int b=>obtain⟨t,rfl⟩:=c;exact SeqAt.EqAt.bool_int a b t
  |str b=>obtain⟨t,rfl⟩:=c;exact SeqAt.EqAt.bool_str a b t
  |_=>exact absurd (show false=true from fx) a'
 |int a =>
  obtain⟨t',rfl⟩:=d;cases x with
  |non=>cases c;exact SeqAt.EqAt.int_none a t'
  |bl b=>cases c;exact SeqAt.EqAt.int_bool a t' b
  |int b=>obtain⟨t,rfl⟩:=c;exact SeqAt.EqAt.int_int a t' b t
  |str b=>obtain⟨t,rfl⟩:=c;exact SeqAt.EqAt.int_str a t' b t
  |_=>exact absurd (show false=true from fx) a'
 |str a =>
  obtain⟨t',rfl⟩:=d;cases x with
  |non=>cases c;exact SeqAt.EqAt.str_none a t'
  |bl b=>cases c;exact SeqAt.EqAt.str_bool a t' b
  |int b=>obtain⟨t,rfl⟩:=c;exact SeqAt.EqAt.str_int a t' b t
  |str b=>obtain⟨t,rfl⟩:=c;exact SeqAt.EqAt.str_str a t' b t
  |_=>exact absurd (show false=true from fx) a'
 |_=>exact absurd (show false=true from fy) a'
def eqU(x:V)(u:qB):Bool:=match u with
 |.none=>eqV .non x
 |.bool b=>eqV (.bl b) x
 |.int i _=>eqV (.int i) x
 |.str z _=>eqV (.str z) x
 |_=>false
def b4l{y:V}{u:qB}(r:RelV y u)(f:W8 y=true):eqU x u=eqV y x:=by
 cases y with
 |non=>cases r;rfl
 |bl b=>cases r;rfl
 |int i=>obtain⟨t,rfl⟩:=r;rfl
 |str z=>obtain⟨t,rfl⟩:=r;rfl
 |_=>exact absurd (show false=true from f) a'
def a6b{x:V}:∀{xs:qA V}{us:qA qB},Vals xs us->xs.all W8=true->us.any (eqU x)=xs.any λy=>eqV y x
 |_,_,.nil,_=>rfl
 |y::xs,u::us,.cons r t,f=>by
  rw[cP,aJ]at f;rw[fB,fB,b4l r f.1,a6b t f.2]
def a3l{A:Around}{s:qC}{x:V}{v:qB}(b:RelV x v)(fx:W8 x=true):∀{xs:qA V}{us:qA qB},Vals xs us->xs.all W8=true->∀u∈us,SeqAt.EqAt A s u v (eqU x u)
 |_,_,.nil,_=>λu a=>by cases a
 |y::xs,u::us,.cons r t,f=>λc a=>by
  rw[cP,aJ]at f;rcases az.mp a with rfl|a
  .rw[b4l r f.1];exact b4m r b f.1 fx
  .exact a3l b fx t f.2 c a
def inV(x:V)(xs:qA V):Bool:=xs.any λy=>eqV y x
def rIn(K:qF)(neg:Bool):R2:=λx y H Q=>∃p xs,y=.ref p/\(SqL K H p xs∨SqT K H p xs)/\W8 x=true/\xs.all W8=true/\Q (.bl (if neg then !inV x xs else inV x xs)) H
def b0G:OpR X (compareOp .In) (rIn X.K false):=by
 intro qK s σ H x y v u Q I b c h;obtain⟨p,xs,rfl,a,fx,fs,q⟩:=h;cases c;rcases a with a|a
 .obtain⟨its,r,pl,hz⟩:=I.list a;refine SeqAt.in_listAt (eqU x) pl.isList (λw hw=>a3l b fx r fs w (by simpa using hw)) ⟨.bl _,H,I,rfl,?_⟩;rw[show its.toArray.any (eqU x)=its.any (eqU x) by simp,a6b r fs];exact q
 .obtain⟨its,r,pl,hz⟩:=I.tuple a;refine SeqAt.in_tupleAt (eqU x) pl (λw hw=>a3l b fx r fs w (by simpa using hw)) ⟨.bl _,H,I,rfl,?_⟩;rw[show its.toArray.any (eqU x)=its.any (eqU x) by simp,a6b r fs];exact q
def a5X:D6 X (.builtin "len") (λxs H Q=>∃p ys,xs=[.ref p]/\(SqL X.K H p ys∨SqT X.K H p ys)/\Q (.int ys.length) H):=by
 intro qK s σ H xs e Q I r h;obtain⟨p,ys,rfl,b,q⟩:=h;obtain⟨u,rfl,c⟩:=a2D r;cases c;have d:=X9;rcases b with b|b
 .obtain⟨its,r',pl,hz⟩:=I.list b;have a:=r'.length;exact Calls.call_len_list pl.isList (by simp only[aF]<;>omega) ⟨.int ys.length,H,I.tok _,⟨s.toks+1,by rw[aF,a]⟩,q⟩
 .obtain⟨its,r',pl,hz⟩:=I.tuple b;have a:=r'.length;exact len_tuple pl (by simp only[aF]<;>omega) ⟨.int ys.length,H,I.tok _,⟨s.toks+1,by rw[aF,a]⟩,q⟩
def a5W:D6 X (.builtin "len") (λxs H Q=>∃z,xs=[.str z]/\z.length<=sizeLine/\Q (.int z.length) H):=by
 intro qK s σ H xs c Q I r h;obtain⟨z,rfl,b,q⟩:=h;obtain⟨u,rfl,t,rfl⟩:=a2D r;have a:=X9;exact len_str (by omega) ⟨.int z.length,H,I.tok _,⟨_,rfl⟩,q⟩
def a5V:D6 X (.type "list") (λxs H Q=>∃p ys,xs=[.ref p]/\(SqL X.K H p ys∨SqT X.K H p ys)/\∀l,H l=none->Q (.ref l) (upd H l (.lst ys))):=by
 intro qK s σ H xs m Q I r h;obtain⟨p,ys,rfl,f,q⟩:=h;obtain⟨u,rfl,k⟩:=a2D r;cases k;have fin:∀(its:qA qB),Vals ys its->ys.length<=sizeLine->∀(h':Heap) (a:Nat),(∀b o',s.heap.get? b=some o'->h'.get? b=some o') ->
   h'.get? s.heap.objs.size=some {cls:=.type "list",dict:=none,data:=.seq its.toArray a,slots:=#[]}->EP X qK σ Q (.ref s.heap.objs.size) {s with heap:=h'}:=λits c g h' a kp e =>
  ⟨.ref s.heap.objs.size,_,I.laid (t':=s.toks) kp (ak _) (show ObjOk X.prog X.w _ h' _ (.lst ys)from⟨g,its,a,c,e⟩),rfl,q _ (I.hok.fresh (ak _))⟩
 rcases f with f|f
 .obtain⟨its,c,pl,g⟩:=I.list f;have d:=c.length;obtain⟨o,j,i,n,hd⟩:=pl.isList;exact call_list_seq p (.inl rfl) j i hd (λh' a kp e=>fin its c g h' a kp e) (by simp only[aF]<;>omega)
 .obtain⟨its,c,pl,g⟩:=I.tuple f;have d:=c.length;obtain⟨o,j,i,n,hd⟩:=pl;exact call_list_seq p (.inr rfl) j i hd (λh' a kp e=>fin its c g h' a kp e) (by simp only[aF]<;>omega)
def a4e:D6 X (.type "tuple") (λxs H Q=>∃p ys,xs=[.ref p]/\((SqL X.K H p ys/\∀l,H l=none->Q (.ref l) (upd H l (.tup ys)))∨(SqT X.K H p ys/\Q (.ref p) H))):=by
 intro qK s σ H xs i Q I r h;obtain⟨p,ys,rfl,h⟩:=h;obtain⟨u,rfl,g⟩:=a2D r;cases g;rcases h with⟨a,q⟩|⟨a,q⟩
 .obtain⟨its,r',pl,hz⟩:=I.list a;have d:=r'.length;refine call_tuple_list pl.isList (λh' kp=>?_) (by simp only[aF]<;>omega);have c:Inv X qK σ H {s with heap:=h'}:=I.kept (t':=s.toks) kp;have f:Inv X qK σ (upd H h'.objs.size (.tup ys)) {s with heap:=h'.push {cls:=.type "tuple",data:=.seq its.toArray}} :=
   c.laid (t':=s.toks) (λb o e=>ae _ e) (ak _) (show ObjOk X.prog X.w _ _ _ (.tup ys)from⟨hz,its,r',IsTup.new _ _⟩)
  exact⟨.ref h'.objs.size,_,f,rfl,q _ (c.hok.fresh (ak _))⟩
 .obtain⟨its,r',pl,hz⟩:=I.tuple a;exact call_tuple_same pl ⟨.ref p,H,I,rfl,q⟩
def tyV(K:qF)(T:String)(x:V)(H:Hp):Prop:=match x with
 |.str _=>T="str"
 |.int _=>T="int"
 |.ref p=>(T="list" /\ ∃xs,SqL K H p xs)∨(T="tuple" /\ ∃o,K.lookup p=some o/\o.cls=.type "tuple"/\o.dict=none) ∨
   (T="dict"/\((∃qL,H p=some (.dK qL))∨∃qL,H p=some (.dT qL)))∨(T="set" /\ ∃S n,H p=some (.set S n))
 |_=>False
def b7H{T:String}{v:qB}(I:Inv X qK σ H s)(r:RelV x v)(ty:tyV X.K T x H) :
  s.TypeIs v T/\∀a,v=.ref a->∃f,s.heap.get? a=some f/\f.dict=none:=by
 cases x with
 |str z =>
  obtain⟨t,rfl⟩:=r;cases(show T="str" from ty);exact⟨fP s z t,λ_ e=>nomatch e⟩
 |int i =>
  obtain⟨t,rfl⟩:=r;cases(show T="int" from ty);exact⟨typeIs_int s i t,λ_ e=>nomatch e⟩
 |ref p =>
  cases r;rcases ty with⟨rfl,xs,h⟩|⟨rfl,o,b,g,hd⟩|⟨rfl,b⟩|⟨rfl,S,n,b⟩
  .obtain⟨its,_,pl,_⟩:=I.list h;refine⟨pl.isList.typeIs,λa e=>?_⟩;cases e;obtain⟨o,n,e,c,hd,_⟩:=pl;exact⟨o,e,hd⟩
  .refine⟨⟨o,I.kIn p o b,g⟩,λa e=>?_⟩;cases e;exact⟨o,I.kIn _ o b,hd⟩
  .have z:∃o,s.heap.get? p=some o/\o.ExactDict:=by
    rcases b with⟨qL,b⟩|⟨qL,b⟩
    .obtain⟨_,_,_,_,o,_,_,e,ex,_⟩:=I.hok p _ b;exact⟨o,e,ex⟩
    .obtain⟨_,_,_,_,o,_,_,e,ex,_⟩:=I.hok p _ b;exact⟨o,e,ex⟩
   obtain⟨o,e,ex⟩:=z;refine⟨⟨o,e,ex.1⟩,λa d=>?_⟩;cases d;exact⟨o,e,ex.2.1⟩
  .obtain⟨o,_,_,_,e,ex,_⟩:=I.hok p _ b;refine⟨⟨o,e,ex.1⟩,λa d=>?_⟩;cases d;exact⟨o,e,ex.2.1⟩
 |_=>exact False.elim ty
def tBM(K:qF)(T:String)(r:V->qA V->Hp->VK->Prop)(to:TE)(t:TA):TE:=λσ H Q=>to σ H λx H1=>tyV K T x H1/\t σ H1 λxs H2=>r x xs H2 Q
variable {o e:Expr}{es:qA Expr}{to:TE}{t:TA}{name:Str}{qO qM:Pos}{T id:String}{r:V->qA V->Hp->VK->Prop}
def b9T(q:PlainAttrs T)(f:Slot T name id)(g:typeOf (.builtin id)=pure (.type "method_descriptor"))(n:MtR X id r)(p:PE X o to)(m:PA X (e::es) t)
  (b:attributeBase o name X.env (eval o X.env)=eval o X.env:=by rfl)
  (d:((backTo qM (starEach (e::es) X.env)).all (λx=>!x.1) && (backToKw qM (keywordEach [] X.env)).all (λx=>x.1.isSome)
   && decide ((e::es).length+([]:qA Keyword).length+(if ([]:qA Keyword).isEmpty then 0 else 1)<30))=true:=by rfl)
  (c:(qO.endLine==qM.line)=true:=by rfl) (hs:starEach (e::es) X.env=(false,eval e X.env)::starEach es X.env:=by rfl) (a:(backTo qM (starEach es X.env)).any (·.1)=false:=by rfl) :
  PE X (.Call (.Attribute o name qO) (e::es) [] qM) (tBM X.K T r to t):=by
 intro qK s σ H Q I h;refine wpAny_Call_method_late b d c rfl (thn (p qK s σ H _ I h) λv s1 ⟨x,H1,i,k,ty,u⟩=>?_);obtain⟨h1,h2⟩:=b7H i k ty;refine⟨T,id,q,f,g,h1,h2,?_⟩;have j:=m qM qK s1 σ H1 _ i u;rw[hs]at j⊢;refine Calls.callWith_builtin (by show(false || (backTo qM (starEach es X.env)).any (·.1))=false;rw[a]<;>rfl) (Calls.evalArgs_plain ?_);exact thn j λz s2 ⟨vs,H2,l,y,w⟩=>n qK s2 σ H2 x vs v z Q l k y w
end
def MtM(X:Cx)(id:String)(r:V->qA V->Hp->VK->Prop):Prop :=
 ∀(qK:qA (qE×Obj)) (s:qC) (σ:St) (H:Hp) (x:V) (xs:qA V) (v:qB) (us:qA qB) (Q:VK),Inv X qK σ H s->RelV x v->Vals xs us->r x xs H Q ->
  wpAny (model X.prog X.w) X.A (call (.builtin id) (v::us)) (EP X qK σ Q) X.xe s
def Vals.one(h:Vals [x] us):∃u,us=[u]/\RelV x u:=by
 cases h with
 |cons r q=>cases q;exact⟨_,rfl,r⟩
def Vals.two{y:V}(h:Vals [x,y] us):∃u v,us=[u,v]/\RelV x u/\RelV y v:=by
 cases h with
 |cons r h=>obtain⟨v,rfl,q⟩:=Vals.one (x:=y) h;exact⟨_,_,rfl,r,q⟩
def Vals.eraseIdx:∀{xs:qA V}{us:qA qB}(i:Nat),Vals xs us->Vals (xs.eraseIdx i) (us.eraseIdx i)
 |_,_,_,.nil=>.nil
 |_,_,0,.cons _ t=>t
 |_,_,i+1,.cons r t=>.cons r (Vals.eraseIdx i t)
def a4D{α:Type}:∀(l:qA α) (i:Nat),(l.eraseIdx i).length<=l.length
 |[],_=>ak _
 |_::_,0=>dW _
 |_::r,i+1=>Nat.succ_le_succ (a4D r i)
section
variable {l b:qE}{ys zs:qA V}
def Inv.lset{its its':qA qB}{f:Array qB->Array qB}{t':Nat}(I:Inv X qK σ H s)(a:H l=some (.lst xs))
  (e:s.heap.get? l=some {cls:=.type "list",data:=.seq its.toArray n}) (c:f its.toArray=its'.toArray) (g:Vals ys its') (h:ys.length<=sizeLine) :
  Inv X qK σ (upd H l (.lst ys)) {s with heap:=s.heap.update l (Obj.mapSeq f),toks:=t'}:=by
 have q:=PySem.IsL.update e f;rw[c]at q;refine I.write (x:=l) (e:=l) (by rw[a];exact trivial) (.inl rfl) (λb' u b d=>(fu s.heap (Obj.mapSeq f) (dv b)).trans d) ⟨_,q⟩ ?_;exact⟨h,its',_,g,q⟩
def Inv.lnew{its:qA qB}{t':Nat}(I:Inv X qK σ H s)(a:Vals ys its)(b:ys.length<=sizeLine) :
  Inv X qK σ (upd H s.heap.objs.size (.lst ys)) {s with heap:=s.heap.push {cls:=.type "list",data:=.seq its.toArray},toks:=t'} :=
 I.laid (λ_ _ q=>ae _ q) (ak _) ⟨b,its,0,a,aC _ rfl⟩
def Inv.fresh(I:Inv X qK σ H s):H s.heap.objs.size=none:=I.hok.fresh (ak _)
def Inv.lstM(I:Inv X qK σ H s)(a:H l=some (.lst xs)):xs.length<=sizeLine/\∃(its:qA qB) (n:Nat),Vals xs its/\xs.length=its.length/\s.heap.get? l=some {cls:=.type "list",data:=.seq its.toArray n}:=by
 obtain⟨z,its,n,r,e⟩:=I.hok l _ a;exact⟨z,its,n,r,r.length,e⟩
def b3x(h:n<=sizeLine):Builtin.List.listTooLong n=false:=by
 unfold Builtin.List.listTooLong;exact bg (by omega)
end
def a9x:V->qA V->Hp->VK->Prop:=λx vs H Q=>∃l xs y,x=.ref l/\vs=[y]/\H l=some (.lst xs)/\xs.length<sizeLine/\Q .non (upd H l (.lst (xs++[y])))
def b0Q:MtM X "list.append" a9x:=by
 intro qK s σ H x vs v i Q I d c h;obtain⟨l,xs,y,rfl,rfl,a,g,q⟩:=h;cases d;obtain⟨u,rfl,b⟩:=c.one;obtain⟨z,its,n,r,f,e⟩:=I.lstM a;refine dR F.slot_list_append ⟨_,e,rfl⟩ F.entry_list_append (F.args_list_append_2 _ _) (PySem.list_append l its.toArray n u (by rw[aF];omega)) ⟨e,?_⟩;refine⟨.non,_,I.lset (its':=its++[u]) a e (by simp) (r.append (.cons b .nil)) ?_,rfl,q⟩;rw[au,fK];omega
def a9w:V->qA V->Hp->VK->Prop:=λx vs H Q=>∃l b xs zs,x=.ref l/\vs=[.ref b]/\H l=some (.lst xs)/\H b=some (.lst zs)/\xs.length+zs.length<=sizeLine/\Q .non (upd H l (.lst (xs++zs)))
def b0P:MtM X "list.extend" a9w:=by
 intro qK s σ H x vs v A Q I t p h;obtain⟨l,b,xs,zs,rfl,rfl,f,i,y,q⟩:=h;cases t;obtain⟨u,rfl,o⟩:=p.one;cases o;obtain⟨z,its,n,r,w,e⟩:=I.lstM f;obtain⟨B,a,k,m,j,g⟩:=I.lstM i;have d:its.toArray.size+a.toArray.size<=sizeLine:=by rw[aF,aF];omega
 have c:¬(!its.toArray.isEmpty && Builtin.List.listTooLong (its.toArray.size+a.toArray.size))=true:=by
  rw[b3x d,e_];exact a'
 refine dR F.slot_list_extend ⟨_,e,rfl⟩ F.entry_list_extend (F.args_list_extend_2 _ _)
  (AutoSeq1.list_extend_list_list_0 l its.toArray n b a.toArray k c (by rw[aF];omega) (by omega)) ⟨e,g,?_⟩
 refine⟨.non,_,I.lset (its':=its++a) f e (by simp) (r.append m) ?_,rfl,q⟩;rw[au];omega
def b2I:V->qA V->Hp->VK->Prop:=λx vs H Q=>∃l xs i k y,x=.ref l/\vs=[.int i]/\H l=some (.lst xs) /\ -(2 ^ 63)<=i/\i<2 ^ 63/\seqIndex? i xs.length=some k/\xs[k]?=some y/\Q y (upd H l (.lst (xs.eraseIdx k)))
def b3z:MtM X "list.pop" b2I:=by
 intro qK s σ H x vs v o Q I m j h;obtain⟨l,xs,i,k,y,rfl,rfl,b,h1,h2,c,f,q⟩:=h;cases m;obtain⟨u,rfl,g⟩:=j.one;obtain⟨t,rfl⟩:=g;obtain⟨z,its,n,r,d,e⟩:=I.lstM b;obtain⟨w,hw,a⟩:=r.get f;refine dR F.slot_list_pop ⟨_,e,rfl⟩ F.entry_list_pop (F.args_list_pop_2 _ _)
  (MeetsSeq.list_pop_at l its.toArray n i t k w (fitsIndex_both h1 h2) (by rw[aF,<-d];exact c) (by rw[<-av];exact hw) (by rw[aF];omega)) ⟨e,?_⟩
 refine⟨y,_,I.lset (its':=its.eraseIdx k) b e ?_ (r.eraseIdx k) ?_,a,q⟩
 .show its.toArray.eraseIdxIfInBounds k=(its.eraseIdx k).toArray;rw[List.eraseIdxIfInBounds_toArray]
 .have:=a4D xs k;omega
def b9P:R2:=λx y H Q=>∃l b xs zs,x=.ref l/\y=.ref b/\H l=some (.lst xs)/\H b=some (.lst zs)/\xs.length+zs.length<=sizeLine/\∀p,H p=none->Q (.ref p) (upd H p (.lst (xs++zs)))
def b8F:OpR X (binaryOp .Add) b9P:=by
 intro qK s σ H x y v u Q I k m h;obtain⟨l,b,xs,zs,rfl,rfl,g,f,p,q⟩:=h;cases k;cases m;obtain⟨z,its,n,r,o,e⟩:=I.lstM g;obtain⟨w,a,t,j,i,c⟩:=I.lstM f;refine PySem.P.add_list e c ?_ (by rw[aF,aF];omega);have d:its.toArray++a.toArray=(its++a).toArray:=by simp
 rw[d];exact⟨.ref _,_,I.lnew (t':=s.toks) (r.append j) (by rw[au];omega),rfl,q _ I.fresh⟩
section
variable {prog:qG}{w:World}{A:Around}{E:qH}
end
end L2
namespace Att
open PySem PySem.W PySem.Calls PyProof.Rows
def a2f{P:Params}{h:Heap}:∀(ns:qI) (vs:qA qB),WellAll P h vs (ns.map WData.int)->IntsAre vs ns:=by
 intro ns;induction ns with
 |nil =>
  intro vs w;rw[dH]at w;cases w;exact .nil
 |cons n ns c =>
  intro vs w;rw[aW]at w;cases w with
  |cons a b =>
   cases a;exact .cons _ _ (c _ b)
def b0o{l:OpenLaw}{n:Nat}(o:l.most=some n){P:Params}{h:Heap}{args:qA WData}{c:qA qB}
  (b:l.row.toRowW.claim.pre args=true) (j:WellAll P h c args) :
  ∃a vs ns,c=[Value.ref a]/\args=[WData.list (ns.map WData.int)]/\h.get? a=some {cls:=.type "list",data:=.seq vs.toArray}/\IntsAre vs ns/\ns.length<=n:=by
 have hsh:WShape.hasAll [] args [.list .int]=true:=(pre_splitW b).1;have k:l.pre.holds [] {args:=args}=true:=(pre_splitW b).2;obtain⟨d,r,rfl,h1,h2⟩:=hasAllW_cons hsh;obtain rfl:=hasAllW_nil h2;obtain⟨xs,rfl,m⟩:=hasW_list h1;obtain⟨ns,rfl⟩:=items_int m;have f:ns.length<=n:=by
  unfold OpenLaw.pre at k;have g:(WTm.not (.lt (.lit (.int (n:Int))) (.len (.arg 0)))).holds [] {args:=[.list (ns.map .int)]}=true:=by
   have g:=(holds_andW k).1;rw[o]at g;exact g
  have i:=condW_of g (w_not (w_lt w_lit (w_len_list (w_arg rfl))));rw[ag]at i;refine Nat.le_of_not_lt λq=>?_;have s:(n:Int)<((ns.length:Nat):Int):=by omega
  first
   |(rw[aU s]at i;exact absurd i (by decide))
   |(simp at i;omega)
 cases j with
 |cons w1 w2 =>
  cases w2;cases w1 with
  |list p e=>exact⟨_,_,ns,rfl,rfl,p,a2f ns _ e,f⟩
def b0A(l:OpenLaw)(args:qA WData):l.row.toRowW.claim.post args (.bool true) args=true :=
 postW_of (r:=l.row.toRowW) (X:=(true==true))
  (show WShape.has [] (.bool true) .bool=true by first|rfl|decide|simp[WShape.has,WShape.arms,WShape.armsAll])
  (show(WTm.eq .res (.lit (.bool true))).value [] {args:=args,res:=some (.bool true),after:=args}=some (.bool (true==true))from w_eq_bool (w_res rfl) w_lit) rfl
def attach_call{l:OpenLaw}{n:Nat}{q:qG}{b:qA Str}{XP:(Str->qD qB)->Heap->Prop}{u:World->Heap->Prop}{d:DefRec}
  (H:l.most=some n) (m:d.params.defaults=[])
  (call:∀(w:World) (s₀ s₁:qC) (mg t:Str->qD qB) (g:qE) (o:Obj) (pm cd c:qB) (a:qE) (vs:qA qB) (ns:qI),
   Ground q b [] XP w s₀ mg t s₁.heap->u w s₁.heap ->
   s₁.heap.get? g=some o->o.data=.func (docDef d.name d.params d.body d.scope pm cd c)->s₁.heap.CodeRec cd d.name->mg d.name=some (.ref g) ->
   s₁.heap.get? a=some {cls:=.type "list",data:=.seq vs.toArray}->IntsAre vs ns->ns.length<=n->s₁.gens=#[] ->
   codeAny (model l.prog w) callerA (.call (.ref g) ⟨[.ref a],[]⟩) (λr s'=>r=.ok (.ret (.bool true))/\OldK s₁.heap s'.heap/\s'.os=s₁.os/\AllBare s'.gens) s₁) :
  WalkO q b XP u l.row.toRowW d [] (λf vs=>PySem.call f vs):=by
 intro w s₀ s₁ mg t G Y g o pm cd c A kV I hd k x p D v z as j y K s E;obtain rfl:A=.none:=Dflts.none x m;obtain rfl:kV=.none:=Dflts.noKw x;obtain⟨a,vs,ns,rfl,rfl,i,e,h⟩:=b0o H j s;refine enter_call (cU (call w s₀ s₁ mg t g o pm cd c a vs ns G Y I (fd_plain hd) k p i e h D) λr s' J=>?_);obtain⟨rfl,h2,B,C⟩:=J;exact⟨.inl ⟨.bool true,.bool true,[],rfl,λ_=>rfl,.bool true,b0A l _,λ_=>⟨List.Pairwise.nil,λ_ F=>(nomatch F)⟩⟩,h2,B,C⟩
section
variable {prog:qG}{w:World}{A:Around}{E:qH}{s:qC}{K:Frag}
end
end Att
namespace L2
open PySem PySem.Spec PyProof.Rows
def a4k:∀{vs:qA qB}{ns:qI},IntsAre vs ns->Vals (ns.map V.int) vs
 |_,_,.nil=>.nil
 |_,_,.cons n t h=>.cons ⟨t,rfl⟩ (a4k h)
def b9A(H:Hp):Prop:=∀b,H b=none∨∃o xs,H b=some (.frz o (.lst xs))
def b3F{P:qG}{w:World}{K:qF}{mg O:Str->qD qB}{CX:CXT}{k:Nat}{I a:qE}{fd:FuncData}{x:Str}{sp:Sp}{s₁:qC}{vs:qA qB}{ns:qI}
  (R:K.In s₁.heap) (y:s₁.heap.Ns mainGlobals mg) (f:s₁.heap.Ns builtinsNs O) (L:∀x:Str,x≠"__name__"->O x=bootBuiltins x) (t:s₁.heap.NoLimit) (hg:s₁.gens=#[])
  (E:s₁.heap.get? a=some {cls:=.type "list",data:=.seq vs.toArray}) (hi:IntsAre vs ns) (W:ns.length<=sizeLine) (hr:Room k callerA)
  (F:∀base:Heap,K.In base->base.Ns mainGlobals mg->FnOk P w K mg base CX k I fd [x] sp) (j:∀(s:qC) (u:qB),BindsTo s fd ⟨[u],[]⟩ [(x,u)])
  (N:∀H:Hp,b9A H->SqL K H a (ns.map V.int)->sp [.ref a] H (λv _=>v=.bl true) λ_ _ _=>False)
  (J:∀H e s',CX [] H s₁ (λ_ _ _=>False) e s'->False) :
  codeAny (model P w) callerA (.call (.ref I) ⟨[.ref a],[]⟩) (λr s'=>r=.ok (.ret (.bool true))/\OldK s₁.heap s'.heap/\s'.os=s₁.os/\AllBare s'.gens) s₁:=by
 have X:=a4k hi;have C:=hi.length;have i:∀H:Hp,b9A H->SqL K H a (ns.map V.int)->HOk P w H s₁.heap->(∀b,H b≠none->b=a)->(H a≠none->K.lookup a=none) ->
   codeAny (model P w) callerA (.call (.ref I) ⟨[.ref a],[]⟩) (λr s'=>r=.ok (.ret (.bool true))/\OldK s₁.heap s'.heap/\s'.os=s₁.os/\AllBare s'.gens) s₁:=by
  intro H U hS A T hK;have c:∀{b:qE}{o:Obj},s₁.heap.get? b=some o->H b=none->(a5O s₁.heap H).get? b=some o:=λe n=>b4a e n;have Q:∀{b:qE}{o:Obj}{es:Array DictEntry}{ep:Nat},s₁.heap.get? b=some o->o.data=.dict es ep->H b=none:=λ{b o es ep} e d=>by
   cases q:H b with
   |none=>rfl
   |some u =>
    have G:b=a:=T b (by rw[q];simp);subst G;rw[E]at e;cases e;have Y:Data.seq vs.toArray _=Data.dict es ep:=d;cases Y
  have g:∀{b:qE}{m:Str->qD qB},s₁.heap.Ns b m->(a5O s₁.heap H).Ns b m:=λ{b m} ⟨o,es,ep,e,d,r⟩=>⟨o,es,ep,c e (Q e d),d,r⟩;have p:K.In (a5O s₁.heap H):=λb o e=>c (R b o e) (by
   cases q:H b with
   |none=>rfl
   |some u =>
    have G:b=a:=T b (by rw[q];simp);subst G;rw[hK (by rw[q];simp)]at e;cases e)
  have hM:Mod K mg (a5O s₁.heap H):=⟨p,g y,⟨O,g f,L⟩,let ⟨mc,h1,h2⟩:=t;⟨mc,g h1,h2⟩⟩;have Z:Env0 P w K mg (a5O s₁.heap H) callerA [] s₁ H:=⟨rfl,hM,λb o e=>b6c e,Nat.le_of_eq (b0Z _ _),trivial,λb f=>absurd (show b∈([]:qA qE)from f) (by simp),A,.of_eq hg⟩;refine cU ((F _ p (g y)).run callerA [] s₁ H ⟨[.ref a],[]⟩ [.ref a] [.ref a] _ _ hr Z (j s₁ (.ref a)) (.cons rfl .nil) (N H U hS)) λr s' h=>?_;cases r with
  |error e=>exact(J H e s' h).elim
  |ok fl =>
   cases fl with
   |next=>exact False.elim h
   |brk=>exact False.elim h
   |cont=>exact False.elim h
   |ret u =>
    obtain⟨v,H',os,l,un,B,r',q⟩:=h;have q':v=.bl true:=q;subst q';obtain rfl:u=Value.bool true:=r';refine⟨rfl,OldK.of_keep λb o e=>?_,os,l⟩;cases q:H b with
    |none=>exact un.keep b o e q (by intro z;exact absurd (show b∈([]:qA qE)from z) (by simp)) (by simp)
    |some u =>
     rcases U b with z|⟨ob,xs,z⟩
     .rw[q]at z;cases z
     .have z2:=un.frzs b ob _ z;obtain⟨S,_⟩:=A b _ z;obtain⟨e2,_⟩:=B b _ z2;rw[e]at S;cases S;exact e2
 cases M:K.lookup a with
 |some o =>
  have e:=R a o M;rw[E]at e;cases e;refine i (λ_=>none) (λ_=>.inl rfl) (.inr ⟨_,vs.toArray,_,M,rfl,rfl,rfl,by rw[aF,C];exact W,by simpa using X⟩) (λb u z=>by have D:(none:qD HO)=some u:=z;cases D) (λb z=>absurd rfl z) λz=>absurd rfl z
 |none =>
  refine i (λb=>if b=a then some (.frz {cls:=.type "list",data:=.seq vs.toArray} (.lst (ns.map V.int)))else none) (λb=>?_) (.inl (.inr ⟨{cls:=.type "list",data:=.seq vs.toArray},aD rfl⟩)) (λb u z=>?_) (λb z=>?_) λ_=>M
  .by_cases f:b=a
   .exact .inr ⟨_,_,aD f⟩
   .exact .inl (aq f)
  .by_cases f:b=a
   .have D:=(aD f).symm.trans z;cases D;subst f;exact⟨E,by rw[ag];exact W,vs,_,X,E⟩
   .have D:=(aq f).symm.trans z;cases D
  .by_cases f:b=a
   .exact f
   .exact absurd (aq f) z
def walk_of{l:PySem.W.OpenLaw}{n k:Nat}{q:qG}{g:qA Str}{XP:(Str->qD qB)->Heap->Prop}{A:World->Heap->Prop}{d:DefRec}{K:Params->qF}{CX:World->CXT}{sp:World->Sp}{x:Str}
  (N:l.most=some n) (t:n<=sizeLine) (p:d.params.defaults=[]) (O:Room k callerA)
  (I:∀(w:World) (h:Heap),A w h->(K w.params).In h)
  (F:∀(w:World) (mg:Str->qD qB) (j:qE) (h:Heap),(K w.params).In h->h.Ns mainGlobals mg->mg d.name=some (.ref j) ->
   ∃fd:FuncData,(∀(s:qC) (u:qB),BindsTo s fd ⟨[u],[]⟩ [(x,u)]) /\
    ∀base:Heap,(K w.params).In base->base.Ns mainGlobals mg->FnOk l.prog w (K w.params) mg base (CX w) k j fd [x] (sp w))
  (y:∀(w:World) (H:Hp) (a:qE) (ns:qI),ns.length<=n->b9A H->SqL (K w.params) H a (ns.map V.int)->sp w [.ref a] H (λv _=>v=.bl true) λ_ _ _=>False)
  (m:∀(w:World) (H:Hp) (s:qC) (e:qB) (s':qC),CX w [] H s (λ_ _ _=>False) e s'->False) :
  PySem.W.WalkO q g XP A l.row.toRowW d [] (λf vs=>PySem.call f vs):=by
 refine Att.attach_call N p λw s₀ s₁ mg Q j o pm cd B a vs ns G Y P hd L r i c b M=>?_;have z:=I w _ Y;obtain⟨fd,J,C⟩:=F w mg j _ z G.T.g r;exact b3F z G.T.g G.T.b G.T.builtins G.T.nolimit M i c (a_ b t) O C J (λH D E=>y w H a ns b D E) λH e s'=>m w H s₁ e s'
end L2
namespace L2
open PySem PySem.Spec PyProof.Rows
variable {A:Around}{E Q:qH}{H H1:Hp}{K:qF}{M:Model}{N ps:qA Str}{P prog:qG}{X:Cx}{a b f it l:qE}{env:Env}{es:qA Expr}{g:TG}{h h':Heap}{i n:Nat}{items:Array qB}{k:Bool}{qK:qA (qE×Obj)}{pos:Pos}{qual x:Str}{s:qC}{scope:Scope}{src:qA (qJ)}{st:Stmt}{te:TE}{w:World}{xs:qA V}{α:Type}{σ:St}
def M7(s:Stmt)(j:Nat):Stmt:=match s with
 |.ClassDef _ _ _ body _ _ _ _ _ _ _=>body.getD j (.Pass ⟨0,0,0,0⟩)
 |_=>.Pass ⟨0,0,0,0⟩
def T0(s:Stmt):Arguments:=match s with
 |.FunctionDef _ a _ _ _ _ _ _ _ _=>a
 |_=>{posonlyargs:=[],args:=[],vararg:=none,kwonlyargs:=[],kw_defaults:=[],kwarg:=none,defaults:=[]}
def E8(s:Stmt):qA Stmt:=match s with
 |.FunctionDef _ _ b _ _ _ _ _ _ _=>b
 |_=>[]
def A1(s:Stmt):Scope:=match s with
 |.FunctionDef _ _ _ _ _ _ sc _ _ _=>sc
 |_=>{kind:=.function,names:=[],isGenerator:=false,isCoroutine:=false}
abbrev CX0:CXT:=λ_ _ _ _ _ _=>False
abbrev E0:XK:=λ_ _ _=>False
def a6N:a0b CX0 X E0:=λ_ _ _ _ _ _ _ h=>h.elim
structure Fun(K:qF)(x qual:Str)(st:Stmt)(f:qE)(fd:FuncData):Prop where
 ex:∃(oc:qB) (od:qD qE) (kV doc pm:qB) (an:qD qE) (cdv ct:qB) (osl:Array (qD qB)),
  fd=PySem.W.fnOf x qual (T0 st) (E8 st) (A1 st) .none kV doc pm an cdv ct/\K.lookup f=some ⟨oc,od,.func fd,osl⟩/\PySem.W.codeIn K cdv qual=true
 kp:PySem.W.keepIn K (.ref f)=true
section
variable {mg:Str->qD qB}{base:Heap}
def Fun.ok{fd:FuncData}{k:Nat}{sp:Sp}(F:Fun K x qual st f fd)(S:FnScope N ps (A1 st))(e:∀vs H Q E,sp vs H Q E->vs.length=ps.length)
  (b:∀(a:qB) (A:Around) (outer:qA Env) (s:qC) (H:Hp) (vs:qA V) (Q:VK) (E:XK),Room k (A.deeper (envOfC qual (A1 st) s.heap.objs.size f a))->sp vs H Q E ->
   ∃t,PSs (X2 CX0 P w K mg base N qual (A1 st) f a A outer s H E).nox (E8 st) t/\t {nx:=λ_ H'=>Q .non H',rt:=Q} (start N vs) H):FnOk P w K mg base CX0 (k+1) f fd ps sp:=by
 obtain⟨oc,od,kV,g,pm,an,a,ct,l,rfl,j,c⟩:=F.ex;refine b7C j c S e λA outer s H vs Q E i d=>?_;obtain⟨t,h,q⟩:=b a A outer s H vs Q E i d;exact⟨t,h.nox,q⟩
def Fun.binds{fd:FuncData}(F:Fun K x qual st f fd)
  (h:∀(kV b pm:qB) (an:qD qE) (a ct:qB) (us:qA qB),us.length=ps.length->bindArgs (PySem.W.fnOf x qual (T0 st) (E8 st) (A1 st) .none kV b pm an a ct) ⟨us,[]⟩=pure (ps.zip us)):Binds K fd ps []:=by
 obtain⟨oc,od,kV,b,pm,an,a,ct,d,rfl,e,c⟩:=F.ex;exact .all (h kV b pm an a ct)
def a3z{oc:qB}{od an:qD qE}{d:Array (qD qB)}{kV b pm a ct:qB}(l:K.lookup f=some ⟨oc,od,.func (PySem.W.fnOf x qual (T0 st) (E8 st) (A1 st) .none kV b pm an a ct),d⟩)
  (c:PySem.W.codeIn K a qual=true) (k:PySem.W.keepIn K (.ref f)=true):Fun K x qual st f (PySem.W.fnOf x qual (T0 st) (E8 st) (A1 st) .none kV b pm an a ct):=⟨⟨oc,od,kV,b,pm,an,a,ct,d,rfl,l,c⟩,k⟩
end
def pv(i:Nat)(b:X.N[i]?=some x:=by rfl)(c:Vis X.env.scope x:=by first|exact Or.inl rfl|exact Or.inr (Or.inl rfl)|exact Or.inr (Or.inr rfl))(hd:(x==("__debug__" : Str))=false:=by decide)
  (a:(x==("__classdict__" : Str))=false:=by decide):PE X (.Name x pos) (P0 i):=b2X b c hd a
def C3{A B:Prop}(h:B):if false=true then A else B:=by
 rw[aq a'];exact h
def E1{A B:Prop}(h:A):if true=true then A else B:=by
 rw[aD rfl];exact h
def a3v{c A B:Prop}[Decidable c](h1:c->A)(h2:¬c->B):if c then A else B:=by
 by_cases h:c
 .rw[aD h];exact h1 h
 .rw[aq h];exact h2 h
def Same(H H':Hp):Prop:=∀b o,H b=some o->H' b=some o
def Same.refl(H:Hp):Same H H:=λ_ _ h=>h
def Same.trans{H2:Hp}(a:Same H H1)(b:Same H1 H2):Same H H2:=λc o h=>b c o (a c o h)
def Same.free{H':Hp}(e:Same H H')(h:H' l=Option.none):H l=Option.none:=by
 cases q:H l with
 |none=>rfl
 |some o =>
  rw[e l o q]at h;cases h
def Same.seq{H':Hp}(e:Same H H')(h:SqL K H a xs):SqL K H' a xs:=by
 rcases h with(h|⟨o,h⟩)|h
 .exact .inl (.inl (e _ _ h))
 .exact .inl (.inr ⟨o,e _ _ h⟩)
 .exact .inr h
def G9(env:Env)(cs:qA (Str×qE))(x:Str×NameKind):qA (Str×qE) :=
 if x.2==.free then(match env.cells.lookup x.1 with|some a=>(x.1,a)::cs|none=>cs)else cs
def a2j(scope:Scope)(env:Env):qA (Str×qE):=scope.names.foldl (G9 env) []
def a3I{env:Env}(f:Str×NameKind->qA (Str×qE)->Sem (ForInStep (qA (Str×qE))))
  (c:∀n k r,f (n,k) r=if (k==NameKind.free)=true then(do let a <-cellOf env n;pure (ForInStep.yield ((n,a)::r)))else pure (ForInStep.yield r)) :
  ∀(names:qA (Str×NameKind)) (cs:qA (Str×qE)),(∀x∈names,x.2=.free->∃a,env.cells.lookup x.1=some a)->forIn names cs f=pure (names.foldl (G9 env) cs)
 |[],cs,_=>rfl
 |(n,k)::r,cs,h=>by
  rw[List.forIn_cons,dS,c];have g:=λy j=>h y (ar _ j);by_cases e:k=.free
  .subst e;obtain⟨a,d⟩:=h (n,NameKind.free) ao rfl;have i:cellOf env n=pure a:=by unfold cellOf;rw[d]
   have b:G9 env cs (n,NameKind.free)=(n,a)::cs:=by unfold G9;rw[d];rfl
   rw[b,<-a3I f c r _ g,i];rfl
  .have hb:(k==NameKind.free)=false:=by simpa using e
   have b:G9 env cs (n,k)=cs:=by unfold G9;rw[hb];rfl
   rw[b,<-a3I f c r _ g,hb];rfl
def b4u(h:∀x∈scope.names,x.2=.free->∃a,env.cells.lookup x.1=some a):closureFor scope env=pure (a2j scope env):=by
 simp only[closureFor];rw[a3I (env:=env) _ (λn k r=>by cases b:k==NameKind.free<;>simp[b]) scope.names [] h];rfl
def a4P{env:Env}{x:Str}{c:qE}:∀(names:qA (Str×NameKind)) (cs:qA (Str×qE)),(names.foldl (G9 env) cs).lookup x=some c->env.cells.lookup x=some c∨cs.lookup x=some c
 |[],cs,h=>.inr h
 |y::r,cs,h=>by
  rw[dS]at h;rcases a4P r _ h with z|z
  .exact .inl z
  .unfold G9 at z;split at z
   .split at z
    .rename_i a ha;rw[bT]at z;cases b:x==y.1 with
     |true =>
      rw[b]at z;rw[bj.mp b];exact .inl (ha.trans z)
     |false =>
      rw[b]at z;exact .inr z
    .exact .inr z
   .exact .inr z
def a0t{c:qE}(h:(a2j scope env).lookup x=some c):env.cells.lookup x=some c :=
 (a4P scope.names [] h).elim id λz=>by cases z
def a0K{env:Env}{x:Str}{a:qE}(d:env.cells.lookup x=some a):∀(names:qA (Str×NameKind)) (cs:qA (Str×qE)),((x,NameKind.free)∈names∨cs.lookup x=some a)->(∀c,cs.lookup x=some c->c=a)->(names.foldl (G9 env) cs).lookup x=some a
 |[],cs,h,_=>h.elim (λz=>by cases z) id
 |y::r,cs,h,i=>by
  rw[dS];by_cases b:y.2=.free/\y.1=x
  .have e2:G9 env cs y=(x,a)::cs:=by unfold G9;rw[b.2,d,b.1];rfl
   rw[e2];have f:((x,a)::cs).lookup x=some a:=by rw[bT];simp
   exact a0K d r _ (.inr f) λc z=>by rw[f]at z;exact(bF z).symm
  .have same:(G9 env cs y).lookup x=cs.lookup x:=by
    unfold G9;split
    .rename_i hk;split
     .have hne:(x==y.1)=false:=by
       cases g:x==y.1 with
       |false=>rfl
       |true=>exact absurd ⟨by simpa using hk,(bj.mp g).symm⟩ b
      rw[bT,hne]
     .rfl
    .rfl
   refine a0K d r _ ?_ (by rw[same];exact i);rw[same];rcases h with z|z
   .rcases az.mp z with e|z
    .exact absurd ⟨by rw[<-e],by rw[<-e]⟩ b
    .exact .inl z
   .exact .inr z
def a7t(b:env.cells.lookup x=some a)(d:(x,NameKind.free)∈scope.names):(a2j scope env).lookup x=some a :=
 a0K b _ _ (.inl d) λc z=>by cases z
def U6{x:Str}{c:qE}:∀(names:qA (Str×NameKind)) (n:Nat) (a:qA (Str×qE)),(cellsFrom n names a).lookup x=some c->(n<=c/\(x,NameKind.cell)∈names)∨a.lookup x=some c
 |[],_,_,h=>.inr h
 |(y,k)::r,n,a,h=>by
  unfold cellsFrom at h;split at h
  .rename_i hk;have d:k=.cell:=by simpa using hk
   rcases U6 r _ _ h with⟨f,e⟩|z
   .exact .inl ⟨by omega,ar _ e⟩
   .rw[bT]at z;cases b:x==y with
    |true =>
     rw[b]at z;cases z;exact .inl ⟨ak _,by rw[d,bj.mp b];exact ao⟩
    |false =>
     rw[b]at z;exact .inr z
  .rcases U6 r _ _ h with⟨f,e⟩|z
   .exact .inl ⟨f,ar _ e⟩
   .exact .inr z
def a8E:∀(names:qA (Str×NameKind)) (n:Nat) (a:qA (Str×qE)),(∀x c,a.lookup x=some c->c<n)->(∀x y c,a.lookup x=some c->a.lookup y=some c->x=y) ->
  ∀x y c,(cellsFrom n names a).lookup x=some c->(cellsFrom n names a).lookup y=some c->x=y
 |[],_,_,_,h2=>h2
 |(z,k)::r,n,a,h1,h2=>by
  unfold cellsFrom;split
  .have lk:∀x c,List.lookup x ((z,n)::a)=some c->(x=z/\c=n)∨a.lookup x=some c:=λx c e=>by
    rw[bT]at e;cases b:x==z with
    |true=>rw[b]at e;cases e;exact .inl ⟨bj.mp b,rfl⟩
    |false=>rw[b]at e;exact .inr e
   refine a8E r (n+1) _ (λx c e=>?_) λx y c e d=>?_
   .rcases lk x c e with⟨_,q⟩|q
    .rw[q];exact bS _
    .exact bZ (h1 x c q)
   .rcases lk x c e with⟨q1,q2⟩|q<;>rcases lk y c d with⟨p1,p2⟩|p
    .rw[q1,p1]
    .exact absurd (h1 y c p) (by rw[q2];exact bV _)
    .exact absurd (h1 x c q) (by rw[p2];exact bV _)
    .exact h2 x y c q p
  .exact a8E r n a h1 h2
def a5T{x:Str}:∀(names:qA (Str×NameKind)) (n:Nat) (a:qA (Str×qE)),((x,NameKind.cell)∈names∨∃c,a.lookup x=some c)->∃c,(cellsFrom n names a).lookup x=some c
 |[],_,_,h=>h.elim (λz=>by cases z) id
 |(y,k)::r,n,a,h=>by
  unfold cellsFrom;split
  .rename_i hk;refine a5T r _ _ ?_;by_cases b:x=y
   .exact .inr ⟨n,by rw[bT,b];simp⟩
   .have hb:(x==y)=false:=cz.mpr b;rcases h with z|⟨c,z⟩
    .rcases az.mp z with e|z
     .exact absurd (Prod.mk.inj e).1 b
     .exact .inl z
    .exact .inr ⟨c,by rw[bT,hb];exact z⟩
  .rename_i hk;refine a5T r _ _ ?_;rcases h with z|z
   .rcases az.mp z with e|z
    .exact absurd (by rw[<-(Prod.mk.inj e).2];rfl) hk
    .exact .inl z
   .exact .inr z
def a5C{x:Str}{c:qE}:∀(names:qA (Str×NameKind)) (h:Heap) (a:qA (Str×qE)),(∀x c,a.lookup x=some c->∃v,h.IsCell c v)->(cellsFrom h.objs.size names a).lookup x=some c->∃v,(pushCells h names).IsCell c v
 |[],h,a,f,e=>f x c e
 |(y,k)::r,h,a,f,e=>by
  unfold cellsFrom at e;unfold pushCells;split at e
  .rename_i hk;rw[aD hk];rw[show h.objs.size+1=(h.push {cls:=.type "cell",data:=.cell none}).objs.size from(bq ..).symm]at e;refine a5C r _ _ (λi j d=>?_) e;rw[bT]at d;cases g:i==y with
   |true=>rw[g]at d;cases d;exact⟨_,_,aC _ rfl,rfl⟩
   |false =>
    rw[g]at d;obtain⟨v,z⟩:=f i j d;exact⟨v,z.keeps λb o q=>ae _ q⟩
  .rename_i hk;rw[aq hk];exact a5C r _ _ f e
def a7z{a:qA (Str×qE)}{outer:Env}{Q:Env->qC->Prop}
  (f:Q (newEnv scope s.heap.objs.size b (cellsFrom (s.heap.objs.size+1) scope.names a) qual none .none (some outer) builtinsNs) {s with heap:=pushCells (s.heap.push {cls:=.type "dict",data:=.dict #[]}) scope.names}) :
  wpAny M A (newFunctionEnv scope b a [] qual none .none (some outer)) Q E s:=by
 simp only[newFunctionEnv,Option.isSome_some,fb];refine aa (wpAny_alloc ?_);refine aa (wpAny_layCells _ (λname c d=>by cases e:c==NameKind.cell<;>simp[e]) _ _ _ _ ?_);rw[show({s with heap:=s.heap.push {cls:=.type "dict",data:=.dict #[]}}:qC).heap.objs.size=s.heap.objs.size+1 from bq ..];exact aa (ai (ai f))
abbrev NoX:qH:=λ_ _=>False
def toE{t:Sem α}{Q b:α->qC->Prop}(h:wpAny M A t Q NoX s)(c:∀a s,Q a s->b a s):wpAny M A t b E s :=
 cW h c λ_ _ z=>z.elim
def a5S{e a b:Expr}{f:qA Expr}{it d:qB}{R:Result->qC->Prop}(I:Nat->qC->Prop)
  (g:∀n s,I n s->wpAny (model prog w) A (pyNext it) (λr s₁=>match r with
   |none=>R (.ok .next) s₁
   |some v=>wpAny (model prog w) A (letOwnedTupleGo a it v) (λ_ s₂=>wpAny (model prog w) A (assign a env v) (λ_ s₃ =>
     wpAny (model prog w) A (forIn f true λc r=>if r=true then do let ok <-isTrue c env (eval c env);pure (ForInStep.yield ok)else pure (ForInStep.yield r)) (λok s₄ =>
      if ok=true then wpAny (model prog w) A (eval e env) (λx s₅=>wpAny (model prog w) A (call (.builtin "list.append") [d,x]) (λ_ s₆=>∃m,m<n/\I m s₆) NoX s₅) NoX s₄
      else ∃m,m<n/\I m s₄) NoX s₃) NoX s₂) NoX s₁) NoX s)
  (n:Nat) (h:I n s):codeAny (model prog w) A (.compLoop (.ListComp e [⟨a,b,f,0⟩] scope pos) 0 it d env) R s:=by
 refine codeAny_loop rfl I (λn s i=>?_) n h;show wpAny _ A ((compTurn (.ListComp e [⟨a,b,f,0⟩] scope pos) 0 it d env).onRaise (λx=>do noteFrame x env;theTreesLotGoes x)) _ _ s;refine wpAny_noted ?_;rw[compTurn_list];refine aa (wpAny_standAt (aa (toE (g n s i) λr s₁ h₁=>?_)));cases r with
 |none=>exact ai h₁
 |some v =>
  refine aa (toE h₁ λ_ s₂ h₂=>aa (toE h₂ λ_ s₃ h₃=>aa (toE h₃ λok s₄ h₄=>?_)));cases ok with
  |false=>exact ai ⟨rfl,h₄⟩
  |true=>exact aa (aa (toE h₄ λx s₅ h₅=>aa (toE h₅ λ_ s₆ h₆=>ai (ai ⟨rfl,h₆⟩))))
def Cx.blk(X:Cx)(N:qA Str)(scope:Scope)(cells:qA (Str×qE))(C:qE)(s:qC)(H:Hp)(ex:qA qE):Cx :=
 {X with N:=N,s₀:=s,H₀:=H,env:=compEnvC scope cells C X.env,outer:=X.stack,stack:=X.stack,ex:=ex,fn:=λx=>scope.names.any λy=>y.1==x && y.2==.cell,pn:=[],xe:=NoX}
def B1(src:qA (qJ))(σ:St):St:=src.map λo=>o.bind λj=>(σ[j]?).join
def B8(sc out:Scope):Bool:=sc.names.all λx=>x.2 != .free || (out.names.lookup x.1==some .cell || out.names.lookup x.1==some .free)
def N1:qA Str->qA (qJ)->qA Str->Scope->Bool
 |[],[],_,_=>true
 |x::N,o::src,M,sc=>(match o with|none=>true|some j=>M[j]? == some x && sc.names.lookup x==some .free) && N1 N src M sc
 |_,_,_,_=>false
def a5u(sc:Scope):Bool:=sc.kind==.function && sc.names.all λx=>sc.names.lookup x.1==some x.2
def a4Q:∀{N:qA Str}{src:qA (qJ)}{M:qA Str}{a:Scope},N1 N src M a=true->src.length=N.length
 |[],[],_,_,_=>rfl
 |_::N,_::src,M,a,h=>by
  unfold N1 at h;rw[aJ]at h;rw[aY,aY,a4Q h.2]
 |[],_::_,_,_,h=>by simp[N1]at h
 |_::_,[],_,_,h=>by simp[N1]at h
def a4R:∀{N:qA Str}{src:qA (qJ)}{M:qA Str}{a:Scope}{i:Nat}{x:Str}{j:Nat},N1 N src M a=true->N[i]?=some x->src[i]?=some (some j)->M[j]?=some x/\a.names.lookup x=some .free
 |[],[],_,_,_,_,_,_,h,_=>by simp at h
 |y::N,o::src,M,a,0,x,j,h,h1,h2=>by
  unfold N1 at h;rw[aJ]at h;simp at h1 h2;subst h1 h2;have q:=h.1;rw[aJ]at q;exact⟨bj.mp q.1,bj.mp q.2⟩
 |y::N,o::src,M,a,i+1,x,j,h,h1,h2=>by
  unfold N1 at h;rw[aJ]at h;exact a4R h.2 (by simpa using h1) (by simpa using h2)
 |[],_::_,_,_,_,_,_,h,_,_=>by simp[N1]at h
 |_::_,[],_,_,_,_,_,h,_,_=>by simp[N1]at h
def b1E{v:V}(h:(B1 src σ)[i]?=some (some v)):∃j,src[i]?=some (some j)/\σ[j]?=some (some v):=by
 unfold B1 at h;rw[aN]at h;cases e:src[i]? with
 |none=>rw[e]at h;cases h
 |some o =>
  rw[e]at h;cases o with
  |none=>cases h
  |some j =>
   refine⟨j,rfl,?_⟩;have h':(σ[j]?).join=some v:=bF h;cases q:σ[j]? with
   |none=>rw[q]at h';cases h'
   |some z=>rw[q]at h';rw[show z=some v from h']
def X8{env:Env}:∀{names:qA (Str×NameKind)}{x:Str}{k:NameKind},
  (names.map λ(n,k)=>if (k==NameKind.free && env.scope.kind==.function && env.kindOf n==some .cell)then(n,NameKind.cell)else(n,k)).lookup x=some k ->
  ∃b,names.lookup x=some b/\(k=b∨(b=.free/\k=.cell))
 |[],_,_,h=>by cases h
 |(n,k0)::r,x,k,h=>by
  rw[aW,bT]at h;rw[bT];dsimp only at h;split at h
  .rename_i h0;have a:x==n:=by
    split at h0<;>exact h0
   rw[a];refine⟨k0,rfl,?_⟩;split at h
   .rename_i hc;cases h;simp only[aJ]at hc;exact .inr ⟨by simpa using hc.1.1,rfl⟩
   .cases h;exact .inl rfl
  .rename_i h0;have a:(x==n)=false:=by
    split at h0<;>exact h0
   rw[a];exact X8 h
def J8{env:Env}:∀{names:qA (Str×NameKind)}{x:Str}{c:NameKind},names.lookup x=some c ->
  ∃k,(names.map λ(n,k)=>if (k==NameKind.free && env.scope.kind==.function && env.kindOf n==some .cell)then(n,NameKind.cell)else(n,k)).lookup x=some k/\(k=c∨(c=.free/\k=.cell))
 |[],_,_,h=>by cases h
 |(n,k0)::r,x,c,h=>by
  rw[bT]at h;rw[aW];by_cases b:(k0==NameKind.free && env.scope.kind==.function && env.kindOf n==some .cell)=true
  .simp only[b,fb];rw[bT];cases a:x==n with
   |true =>
    rw[a]at h;cases h;simp only[aJ]at b;exact⟨_,rfl,.inr ⟨by simpa using b.1.1,rfl⟩⟩
   |false=>rw[a]at h;exact J8 h
  .simp only[aq b];rw[bT];cases a:x==n with
   |true=>rw[a]at h;cases h;exact⟨_,rfl,.inl rfl⟩
   |false=>rw[a]at h;exact J8 h
def PIf(X:Cx)(ifs:qA Expr)(t:TT):Prop :=
 ∀(qK:qA (qE×Obj)) (s:qC) (σ:St) (H:Hp) (Q:Bool->Hp->Prop),Inv X qK σ H s->t σ H Q ->
  wpAny (model X.prog X.w) X.A (forIn ifs true λc r=>if r=true then do let ok <-isTrue c X.env (eval c X.env);pure (ForInStep.yield ok)else pure (ForInStep.yield r)) (TP X qK σ Q) X.xe s
def I9:TT:=λ_ H Q=>Q true H
def b5z:PIf X [] I9:=λqK s σ H Q I h=>wpAny_tests_nil ⟨H,I,h⟩
def b5y{c:Expr}{t:TT}(h:PT X c t):PIf X [c] t:=λqK s σ H Q I q=>wpAny_tests_one (h qK s σ H Q I q)
def Sub(σ σ':St):Prop:=σ.length=σ'.length/\∀(i:Nat) (v:V),σ[i]?=some (some v)->σ'[i]?=some (some v)
def E3(src:qA (qJ))(g:TG)(tt:TT)(te:TE)(σ:St)(Q:VK)(J:It)(H1:Hp):Prop :=
 ∃W:Nat->Nat->qA V->Hp->Prop,(∃m,W 0 m [] H1)/\∀i m ys H,W i m ys H ->
  (J.stop i H/\ys.length<=sizeLine/\∀p,H p=none->Q (.ref p) (upd H p (.lst ys))) ∨
  (J.go i H/\ys.length<sizeLine/\∃N:qA V->Hp->Prop,(∀zs H',N zs H'->∃m',m'<m/\W (i+1) m' zs H')/\∀x H',J.yld i H x H'->g x (B1 src σ) H' λσ2 H2=>Sub (B1 src σ) σ2/\tt σ2 H2 λb H3 =>
   if b=true then te σ2 H3 λv H4=>N (ys++[v]) H4 else N ys H3)
def a6n(src:qA (qJ))(wi:TI)(g:TG)(tt:TT)(te:TE):TE:=λσ H Q=>wi σ H (E3 src g tt te σ Q)
def Inv.block{fp:qA qE}(I:Inv X qK σ H s)(P:∀b∈fp,a1I X qK H b)(Z:∀b∈fp,∃o,s.heap.get? b=some o)
  (J:B8 scope X.env.scope=true) (D:N1 N src X.N scope=true) (C:a5u scope=true) {lo:Obj} :
  Inv (X.blk N scope (cellsFrom (s.heap.objs.size+2) scope.names (a2j scope X.env)) (s.heap.objs.size+1) s H fp) [] (B1 src σ) H
   {s with heap:=pushCells ((s.heap.push lo).push {cls:=.type "dict",data:=.dict #[]}) scope.names}:=by
 unfold a5u at C;rw[aJ]at C;have E:scope.kind=.function:=by simpa using C.1
 have F:∀x∈scope.names,scope.names.lookup x.1=some x.2:=λx A=>by simpa using aH.mp C.2 x A
 have t:∀x∈scope.names,x.2=.free->X.env.kindOf x.1=some .cell∨X.env.kindOf x.1=some .free:=λx A f=>by
  have q:=aH.mp J x A;rw[f]at q;have V:(X.env.scope.names.lookup x.1==some .cell || X.env.scope.names.lookup x.1==some .free)=true:=by simpa using q
  rw[Bool.or_eq_true]at V;exact V.imp (λz=>bj.mp z) λz=>bj.mp z
 have keep:∀b o,s.heap.get? b=some o->(pushCells ((s.heap.push lo).push {cls:=.type "dict",data:=.dict #[]}) scope.names).get? b=some o:=λb o e =>
  fQ _ _ _ _ (ae _ (ae _ e))
 have R:∀x c,(a2j scope X.env).lookup x=some c->c<s.heap.objs.size:=λx c e=>by
  obtain⟨v,z⟩:=I.cell x c (a0t e);exact z.lt
 have d:∀x c,(cellsFrom (s.heap.objs.size+2) scope.names (a2j scope X.env)).lookup x=some c->(s.heap.objs.size+2<=c/\(x,NameKind.cell)∈scope.names)∨X.env.cells.lookup x=some c:=λx c e =>
  (U6 _ _ _ e).imp id a0t
 have K:∀x k,(compEnvC scope (cellsFrom (s.heap.objs.size+2) scope.names (a2j scope X.env)) (s.heap.objs.size+1) X.env).kindOf x=some k->∃g,scope.names.lookup x=some g/\(k=g∨(g=.free/\k=.cell)):=λx k e =>
  X8 (env:=X.env) e
 have mem:∀{x k},scope.names.lookup x=some k->(x,k)∈scope.names:=λe=>mem_of_lookup e;refine⟨⟨I.ok.mod,?_,I.ok.glob,I.ok.blt,?_,?_,?_,?_,I.ok.hd,I.ok.frames,.inl rfl,?_,I.bs,a_ I.ok.bsz I.sz,?_,?_,I.stack,I.stkFree⟩,rfl,I.bare,Un.kept keep,?_,?_,?_,?_,?_,I.hok.kept keep,?_⟩
 .exact E
 .exact dW _
 .-- inj
  refine a8E _ _ _ (λx c e=>?_) λx y c e S=>I.ok.inj x y c (a0t e) (a0t S);exact aO (R x c e) (bU _ 2)
 .-- has
  intro x A;refine a5T _ _ _ ?_;have f:∃g,scope.names.lookup x=some g/\(g=.cell∨g=.free):=by
   rcases A with A|A
   .obtain⟨g,e,z⟩:=K x _ A;exact⟨g,e,z.elim (λz=>.inl z.symm) λz=>.inr z.1⟩
   .obtain⟨g,e,z⟩:=K x _ A;exact⟨g,e,z.elim (λz=>.inr z.symm) λz=>by cases z.2⟩
  obtain⟨g,e,rfl|rfl⟩:=f
  .exact .inl (mem e)
  .obtain⟨a,ha⟩:=I.ok.has x (t _ (mem e) rfl);exact .inr ⟨a,a7t ha (mem e)⟩
 .-- cab
  intro x c A e;rcases d x c e with z|z
  .exact a_ (bU _ 2) z.1
  .-- x is the block's own cell, so it is not in the closure's part
   exfalso;obtain⟨y,hy,G⟩:=bA.mp A;rw[aJ]at G;have T:y.1=x:=bj.mp G.1;have U:y.2=.cell:=by simpa using G.2
   have l1:scope.names.lookup x=some .cell:=by rw[<-T,<-U];exact F y hy
   rcases U6 _ _ _ e with q|q
   .obtain⟨v,z'⟩:=I.cell x c z;exact absurd (aO z'.lt (a_ (bU _ 2) q.1)) (bV _)
   .-- the closure holds free names alone
    have fr:∀(names:qA (Str×NameKind)) (L:qA (Str×qE)),(names.foldl (G9 X.env) L).lookup x=some c->(x,NameKind.free)∈names∨L.lookup x=some c:=by
     intro names;induction names with
     |nil=>intro L h;exact .inr h
     |cons n r ih =>
      intro L h;rw[dS]at h;rcases ih _ h with w|w
      .exact .inl (ar _ w)
      .unfold G9 at w;split at w
       .rename_i f;split at w
        .rw[bT]at w;cases B:x==n.1 with
         |true =>
          have:n=(x,NameKind.free):=Prod.ext (bj.mp B).symm (by simpa using f);exact .inl (by rw[this];exact ao)
         |false=>rw[B]at w;exact .inr w
        .exact .inr w
       .exact .inr w
    rcases fr _ _ q with w|w
    .have:=F _ w;rw[l1]at this;cases this
    .cases w
 .-- exf
  intro b B;obtain⟨o,e⟩:=Z b B;have lt:=aI e;refine⟨aV (bZ lt),λx c O=>?_⟩;rcases d x c O with z|z
  .exact cK (aO lt (a_ (bU _ 2) z.1))
  .exact(P b B).2.2.2.2.1 x c z
 .-- noex
  intro b o e B;rcases(P b B).2.2.2.1 with z|z
  .exact I.ok.noex b o e z
  .exact absurd (aO (aI (I.ok.bs b o e).1) z) (bV _)
 .-- exfs
  intro b B z;rcases az.mp (I.stkSub b z)with q|q
  .exact(P b B).2.1 q
  .exact(P b B).2.2.1 q
 .-- loc
  refine⟨λ_=>none,?_,λi x v T U e3=>?_⟩
  .have:=(Heap.Ns.new (s.heap.push lo) (.type "dict")).keeps (fQ scope.names _);rw[bq]at this;exact this
  .obtain⟨j,e4,e5⟩:=b1E U;obtain⟨W,M⟩:=a4R D T e4;obtain⟨m,_,Y⟩:=I.loc;have f:=t _ (mem M) rfl;have hv:Vis X.env.scope x:=.inr (f.imp id id);obtain⟨u,r,l⟩:=Y j x v W e5 hv;refine⟨u,r,.inr ⟨?_,?_⟩⟩
   .obtain⟨k,q,z⟩:=J8 (env:=X.env) M;rcases z with z|z
    .exact .inr (by rw[<-z];exact q)
    .exact .inl (by rw[<-z.2];exact q)
   .rcases l with l|⟨_,c,O,z⟩
    .exfalso;rcases f with f|f<;>rw[l.1]at f<;>cases f
    .refine⟨c,?_,z.keeps keep⟩;have own:¬(x,NameKind.cell)∈scope.names:=λw=>by
      have:=F _ w;rw[M]at this;cases this
     obtain⟨Q,q⟩:=a5T (x:=x) scope.names (s.heap.objs.size+2) (a2j scope X.env) (.inr ⟨c,a7t O (mem M)⟩);rcases d x Q q with w|w
     .exact absurd w.2 own
     .rw[O]at w;cases w;exact q
 .-- cell
  intro x c e;have S:(cellsFrom ((s.heap.push lo).push {cls:=.type "dict",data:=.dict #[]}).objs.size scope.names (a2j scope X.env)).lookup x=some c:=by
   rw[bq,bq];exact e
  refine a5C _ _ _ (λx' Q q=>?_) S;obtain⟨v,z⟩:=I.cell x' Q (a0t q);exact⟨v,z.keeps λb o q=>ae _ (ae _ q)⟩
 .exact I.hok.fresh (dW _)
 .intro x c e;rcases d x c e with z|z
  .exact I.hok.fresh (a_ (bU _ 2) z.1)
  .exact I.freeC x c z
 .intro p hp;cases hp
 .show(B1 src σ).length=N.length;unfold B1;rw[ag];exact a4Q D
def Inv.unblock{d:qA (Str×qE)}{C:qE}{fp:qA qE}{pins':qA (qE×Obj)}{σ':St}{H':Hp}{s':qC}{ys:qA V}{us:qA qB}
  (I:Inv X qK σ H s) (y:∀b∈fp,a1I X qK H b) (x:s.heap.objs.size<=C) (v:s.heap.objs.size<=a) (m:a≠C) (J:Inv (X.blk N scope d C s H fp) pins' σ' H' s')
  (w:H' a=none) (A:s'.heap.get? a=some {cls:=.type "list",data:=.seq us.toArray n}) (B:Vals ys us) (D:ys.length<=sizeLine) (l:Heap.SameBut C s'.heap h') :
  Inv X qK σ (upd H' a (.lst ys)) {s' with heap:=h'}:=by
 have base:Un (frs X.stack) fp H H' s.heap s'.heap:=J.base;have kp:∀b o,b≠C->s'.heap.get? b=some o->h'.get? b=some o:=λb o q e=>l.extBut b o q e;have old:∀b o,s.heap.get? b=some o->b≠C/\b≠a:=λb o e=>by
  have:=aI e;exact⟨aV (aO this x),aV (aO this v)⟩
 have g:H' C=none:=J.free;have h:H a=none:=I.hok.fresh v;have j:HOk X.prog X.w H' s'.heap:=J.hok;have p:HOk X.prog X.w (upd H' a (.lst ys)) h':=by
  intro b o e;by_cases i:b=a
  .subst i;rw[A0]at e;cases e;exact⟨D,us,n,B,kp _ _ m A⟩
  .rw[A2 i]at e;refine(j b o e).stay (λc u k q=>kp c u ?_ q) (λc q=>?_) λc xs q=>?_
   .rintro rfl;rcases k with rfl|k
    .rw[g]at e;cases e
    .rw[g]at k;cases k
   .rw[A2 (by rintro rfl;rw[w]at q;cases q)];exact q
   .rw[A2 (by rintro rfl;rw[w]at q;cases q)];exact q
 have f:∀b u,H b=some u->b≠a:=λb u e=>by rintro rfl;rw[h]at e;cases e
 refine I.call' (s':={s' with heap:=h'}) (ch:=fp) (J.os) ⟨λb o e q r t=>?_,λb o e q r t=>?_,λb o e q t=>?_,λb o e t=>?_,λb xs e=>?_,λb o u e=>?_,λb ps e=>?_⟩ p J.bare λb l=>?_
 .exact kp b o (old b o e).1 (base.keep b o e q r t)
 .obtain⟨sl,z⟩:=base.slot b o e q r t;exact⟨sl,kp b _ (old b o e).1 z⟩
 .rw[A2 (old b o e).2];exact base.free b o e q t
 .obtain⟨o',z⟩:=base.there b o e t;exact⟨o',kp b _ (old b o e).1 z⟩
 .rw[A2 (f b _ e)];exact base.tups b xs e
 .rw[A2 (f b _ e)];exact base.frzs b o u e
 .rw[A2 (f b _ e)];exact base.tbls b ps e
 .obtain⟨_,h1,_,h3,h4,h5⟩:=y b l;exact⟨h3,h1,h4,h5⟩
set_option maxHeartbeats 4000000 in
def a4O{tg t E:Expr}{K:qA Expr}{wi:TI}{tt:TT}{Q:VK}{RR:qB->qE->Result->qC->Prop}(hc:X.calm=true)(hi:PI X tg t wi)
  (b9:B8 scope X.env.scope=true) (b8:N1 N src X.N scope=true) (d6:a5u scope=true)
  (hg:∀a C s H ex,PG (X.blk N scope a C s H ex) tg g) (ht:∀a C s H ex,PIf (X.blk N scope a C s H ex) K tt) (he:∀a C s H ex,PE (X.blk N scope a C s H ex) E te)
  (I:Inv X qK σ H s) (h:a6n src wi g tt te σ H Q)
  (c0:∀(s2 s4:qC) (H2 H4:Hp) (fp:qA qE) (a:qA (Str×qE)) (pl:qA (qE×Obj)) (σ4:St) (ys:qA V) (us:qA qB) (k:Nat),Inv X qK σ H2 s2->(∀b∈fp,a1I X qK H2 b) ->
   Inv (X.blk N scope a (s2.heap.objs.size+1) s2 H2 fp) pl σ4 H4 s4->H4 s2.heap.objs.size=none->s4.heap.get? s2.heap.objs.size=some {cls:=.type "list",data:=.seq us.toArray k}->Vals ys us->ys.length<=sizeLine ->
   Q (.ref s2.heap.objs.size) (upd H4 s2.heap.objs.size (.lst ys))->RR (.ref s2.heap.objs.size) (s2.heap.objs.size+1) (.ok .next) s4) :
  wpAny (model X.prog X.w) X.A (eval t X.env) (λx s₁=>wpAny (model X.prog X.w) X.A (pyIter x) (λit s₂=>wpAny (model X.prog X.w) X.A (newList []) (λb0 s₃ =>
   wpAny (model X.prog X.w) X.A (newFunctionEnv scope X.env.globals (a2j scope X.env) [] X.env.qual none .none (some X.env)) (λP s₄ =>
    codeAny (model X.prog X.w) X.A (.compStart (.ListComp E [⟨tg,t,K,0⟩] scope pos) 0 it b0 {P with scope:=relabel scope X.env}) (RR b0 P.locals) s₄) X.xe s₃) X.xe s₂) X.xe s₁) X.xe s:=by
 refine thn (hi qK s σ H _ I h) λv s1 h1=>thn h1 λd8 s2 h2=>?_;obtain⟨it,fp,tn,J,H2,e,Z,T,c5,f2,W,⟨m0,w0⟩,c7⟩:=h2;subst e;have c1:∀b∈fp,∃o,s2.heap.get? b=some o:=λb l=>(T.obj _ _ c5 b l).imp λ_ q=>q.1;refine bY (a7z ?_);have hB:=Z.block (lo:={cls:=.type "list",dict:=none,data:=.seq ([]:qA qB).toArray}) f2 c1 b9 b8 d6;rw[show({s2 with heap:=s2.heap.push {cls:=.type "list",dict:=none,data:=.seq ([]:qA qB).toArray}}:qC).heap.objs.size=s2.heap.objs.size+1 from bq ..];generalize G:cellsFrom (s2.heap.objs.size+1+1) scope.names (a2j scope X.env)=a at hB⊢;generalize B:pushCells ((s2.heap.push {cls:=.type "list",dict:=none,data:=.seq ([]:qA qB).toArray}).push {cls:=.type "dict",data:=.dict #[]}) scope.names=h4 at hB⊢;have a6:∀b o,s2.heap.get? b=some o->h4.get? b=some o:=λb o q=>by
  rw[<-B];exact fQ _ _ _ _ (ae _ (ae _ q))
 have b6:h4.get? s2.heap.objs.size=some {cls:=.type "list",data:=.seq ([]:qA qB).toArray 0}:=by
  rw[<-B];exact fQ _ _ _ _ (ae _ (aC _ rfl))
 have c6:tn 0 h4:=T.keep _ _ _ c5 λb _ o q=>a6 b o q;generalize f:X.blk N scope a (s2.heap.objs.size+1) s2 H2 fp=j at hB;have eA:j.A=X.A:=by rw[<-f];rfl
 have eP:j.prog=X.prog:=by rw[<-f];rfl
 have ew:j.w=X.w:=by rw[<-f];rfl
 have eK:j.K=X.K:=by rw[<-f];rfl
 have ec:j.calm=true:=by rw[<-f];exact hc
 have ee:j.env=compEnvC scope a (s2.heap.objs.size+1) X.env:=by rw[<-f];rfl
 have ex:j.ex=fp:=by rw[<-f];rfl
 have b7:j.pn=[]:=by rw[<-f];rfl
 have d1:j.s₀=s2:=by rw[<-f];rfl
 have a4:j.xe=NoX:=by rw[<-f];rfl
 have eL:j.env.locals=s2.heap.objs.size+1:=by rw[ee];rfl
 have d0:j.fs=frs X.stack:=by rw[<-f];rfl
 have c4:=hB.ok;have cne:∀x c,j.env.cells.lookup x=some c->c≠s2.heap.objs.size:=λx c q=>by
  rw[ee]at q;have q':a.lookup x=some c:=q;rw[<-G]at q';rcases U6 _ _ _ q' with z|z
  .exact cK (aO (bS _) (a_ (dW _) z.1))
  .obtain⟨v,z'⟩:=Z.cell x c (a0t z);exact aV z'.lt
 have R:∀b∈fp,b≠s2.heap.objs.size:=λb l=>by
  obtain⟨o,q⟩:=c1 b l;exact aV (aI q)
 have A:s2.heap.objs.size∉j.fs:=by
  rw[d0];intro z;rcases az.mp (Z.stkSub _ z)with q|q
  .exact absurd Z.lt (by rw[<-q];exact bV _)
  .exact Z.nofs (ak _) q
 have w:∀{H':Hp}{pl:qA (qE×Obj)},(∀b∈fp,H' b=none)->(∀p∈pl,p.1=s2.heap.objs.size)->∀b∈fp,a1I j pl H' b:=λ{H' pl} hn D b l=>by
  obtain⟨x1,x2⟩:=c4.exf b (by rw[ex];exact l);refine⟨hn b l,x1,c4.exfs b (by rw[ex];exact l),.inl (by rw[ex];exact l),x2,λp c2=>?_⟩;rw[b7,b_]at c2;rw[D p c2];exact(R b l).symm
 have c3:∀s5:qC,s5={s2 with heap:=h4}->codeAny (model X.prog X.w) X.A (.compLoop (.ListComp E [⟨tg,t,K,0⟩] scope pos) 0 (.ref it) (.ref s2.heap.objs.size) j.env)
   (RR (.ref s2.heap.objs.size) (s2.heap.objs.size+1)) s5:=by
  rintro s5 rfl;refine a5S (λn s'=>∃i H' ys us k,Inv j [] (B1 src σ) H' s'/\tn i s'.heap/\(∀b∈fp,H' b=none)/\H' s2.heap.objs.size=none /\
   s'.heap.get? s2.heap.objs.size=some {cls:=.type "list",data:=.seq (us:qA qB).toArray k}/\Vals ys us/\W i n ys H') ?_ m0
   ⟨0,H2,[],[],0,hB,c6,λb l=>(f2 b l).1,Z.hok.fresh (ak _),b6,.nil,w0⟩
  rintro n s3 ⟨i,U,ys,us,k,I3,a7,a5,L,a9,r3,w3⟩;rcases c7 i n ys U w3 with⟨S,hz,qn⟩|⟨go,hz,Nn,hN,step⟩
  .have d:=T.done j eP ew eK ec i [] s3 (B1 src σ) U NoX I3 (w a5 (λ_ z=>by cases z)) a7 S;rw[eA]at d;have a0:Inv j [(s2.heap.objs.size,{cls:=.type "list",data:=.seq us.toArray k})] (B1 src σ) U s3:=I3.pins_of λp D=>by
    rw[aP.mp D];exact⟨a9,L,by rw[eL];exact aV (bS _),A,λv z=>by cases z⟩
   have d:=T.done j eP ew eK ec i _ s3 (B1 src σ) U NoX a0 (w a5 (λp z=>by rw[aP.mp z])) a7 S;rw[eA]at d;refine thn d λr s4 ⟨hr,I4⟩=>?_;subst hr;have c9:=(I4.pin (s2.heap.objs.size,{cls:=.type "list",data:=.seq us.toArray k}) (aQ _ ao)).1;rw[<-f]at I4;exact c0 s2 s4 H2 U fp a _ _ ys us k Z f2 I4 L c9 r3 hz (qn _ L)
  .have a0:Inv j [(s2.heap.objs.size,{cls:=.type "list",data:=.seq us.toArray k})] (B1 src σ) U s3:=I3.pins_of λp D=>by
    rw[aP.mp D];exact⟨a9,L,by rw[eL];exact aV (bS _),A,λv z=>by cases z⟩
   have d:=T.item j eP ew eK ec i _ s3 (B1 src σ) U NoX a0 (w a5 (λp z=>by rw[aP.mp z])) a7 go;rw[eA]at d;refine thn d λr s4 ⟨u,hr,d3⟩=>?_;subst hr;refine thn d3 λ_ s5 ⟨x,H5,I5,r5,y5,a8,d2⟩=>?_;have c8:=I5.pinned (w d2 (λp z=>by rw[aP.mp z])) (T.obj _ _ a8);have d5:PG j tg g:=by rw[<-f];exact hg _ _ _ _ _
   have d7:PIf j K tt:=by rw[<-f];exact ht _ _ _ _ _
   have d4:PE j E te:=by rw[<-f];exact he _ _ _ _ _
   have a1:=d5 _ s5 _ H5 x u _ c8 r5 (step x H5 y5);rw[eP,ew,eA,a4]at a1;refine thn a1 λ_ s6 ⟨σ6,H6,I6,sb,q6⟩=>?_;have a2:=d7 _ s6 σ6 H6 _ I6 q6;rw[eP,ew,eA,a4]at a2;refine thn a2 λok s7 ⟨H7,I7,q7⟩=>?_;have O:∀{Y:Hp}{M:qC}{pl:qA (qE×Obj)},Inv j ([(s2.heap.objs.size,{cls:=.type "list",data:=.seq us.toArray k})]++a3a fp s5.heap) σ6 Y M ->
     Inv j [] (B1 src σ) Y M/\tn (i+1) M.heap/\(∀b∈fp,Y b=none)/\Y s2.heap.objs.size=none/\M.heap.get? s2.heap.objs.size=some {cls:=.type "list",data:=.seq us.toArray k}:=λ{Y M pl} I8=>by
    have p0:=I8.pin (s2.heap.objs.size,{cls:=.type "list",data:=.seq us.toArray k}) (aQ _ (aR _ ao));refine⟨(I8.pins_of (pins':=[]) λp D=>by cases D).weak sb.1 sb.2,T.keep _ _ _ a8 λb l o e=>(I8.pin (b,o) (aQ _ (aQ _ (V2 l e)))).1,λb l=>?_,p0.2.1,p0.1⟩;obtain⟨o,e,_⟩:=T.obj _ _ a8 b l;exact(I8.pin (b,o) (aQ _ (aQ _ (V2 l e)))).2.1
   cases ok with
   |false =>
    obtain⟨m',hm,w7⟩:=hN _ _ q7;obtain⟨b1,b2,b3,b4,b5⟩:=O (pl:=[]) I7;exact⟨m',hm,i+1,H7,ys,us,k,b1,b2,b3,b4,b5,r3,w7⟩
   |true =>
    have a3:=d4 _ s7 σ6 H7 _ I7 q7;rw[eP,ew,eA,a4]at a3;refine thn a3 λy M ⟨vy,Y,I8,ry,n8⟩=>?_;obtain⟨m',hm,w8⟩:=hN _ _ n8;obtain⟨b1,b2,b3,b4,b5⟩:=O (pl:=[]) I8;refine dR F.slot_list_append ⟨_,b5,rfl⟩ F.entry_list_append (F.args_list_append_2 _ _) (PySem.list_append s2.heap.objs.size us.toArray k y (by rw[aF,<-r3.length];omega)) ⟨b5,?_⟩;have q:=PySem.IsL.update b5 (λxs=>xs.push y);rw[show us.toArray.push y=(us++[y]).toArray by simp]at q;have nb:∀b o,b≠s2.heap.objs.size->M.heap.get? b=some o->(M.heap.update s2.heap.objs.size (Obj.mapSeq λxs=>xs.push y)).get? b=some o:=λb o l e =>
     (fu M.heap _ (dv l)).trans e
    refine⟨m',hm,i+1,Y,ys++[vy],us++[y],_,?_,?_,b3,b4,q,r3.append (.cons ry .nil),w8⟩
    .exact b1.turned nb b4 (by rw[eL];exact aV (bS _)) (.inr (by rw[d1];exact ak _)) cne λp D=>by rw[b7]at D;cases D
    .exact T.keep _ _ _ b2 λb l o e=>nb b o (R b l) e
 have m:=c3 _ rfl;rw[ee]at m;exact codeAny_compStart_list m (T.self _ 0 _ _ _ c6 m)
def a4v(a:a5u scope=true):scope.kind=.function/\∀x∈scope.names,scope.names.lookup x.1=some x.2:=by
 unfold a5u at a;rw[aJ]at a;exact⟨by simpa using a.1,λx b=>by simpa using aH.mp a.2 x b⟩
def Inv.clos(I:Inv X qK σ H s)(a:B8 scope X.env.scope=true):closureFor scope X.env=pure (a2j scope X.env):=b4u λx d c=>by
 have q:=aH.mp a x d;rw[c]at q;have b:(X.env.scope.names.lookup x.1==some .cell || X.env.scope.names.lookup x.1==some .free)=true:=by simpa using q
 rw[Bool.or_eq_true]at b;exact I.ok.has x.1 (b.imp (λz=>bj.mp z) λz=>bj.mp z)
def b5L{tg b e:Expr}{j:qA Expr}{u:TI}{t:TT}(y:X.calm=true)(hi:PI X tg b u)
  (c:B8 scope X.env.scope=true) (f:N1 N src X.N scope=true) (i:a5u scope=true)
  (A:∀a C s H ex,PG (X.blk N scope a C s H ex) tg g) (D:∀a C s H ex,PIf (X.blk N scope a C s H ex) j t) (z:∀a C s H ex,PE (X.blk N scope a C s H ex) e te)
  (hs:∀x,foldedSetIterable b X.env x=pure x:=by intro _;rfl):PE X (.ListComp e [⟨tg,b,j,0⟩] scope pos) (a6n src u g t te):=by
 intro qK s σ H Q I h;obtain⟨d,n⟩:=a4v i;rw[eval_ListComp];refine wpAny_comprehension_free (use:=none) rfl hs (I.clos c) d (λx E B=>by rw[<-B];exact n x E) (a4O (RR:=compPost (model X.prog X.w) X.A X.xe none (EP X qK σ Q)) y hi c f i A D z I h ?_);intro s2 L H2 J fp a K σ4 ys M k v f2 r p l G F q;obtain⟨m,o,_⟩:=r.loc;exact⟨m,o,λh' w=>⟨.ref s2.heap.objs.size,_,Inv.unblock v f2 (dW _) (ak _) (aV (bS _)) r p l G F w,rfl,q⟩⟩
def b5r{y:Str}{u r:Pos}{tg f j:Expr}{l:qA Expr}{wi:TI}{tt:TT}
  (hN:X.N.Nodup) (hy:X.N[i]?=some y) (Y:Loc X.env.scope y)
  (hc:X.calm=true) (hi:PI X tg f wi) (n:B8 scope X.env.scope=true) (B:N1 N src X.N scope=true) (F:a5u scope=true)
  (hg:∀d C s H ex,PG (X.blk N scope d C s H ex) tg g) (ht:∀d C s H ex,PIf (X.blk N scope d C s H ex) l tt) (S:∀d C s H ex,PE (X.blk N scope d C s H ex) j te)
  (W:swapsWith (.ListComp j [⟨tg,f,l,0⟩] scope pos) (some (.Name y u)) r.line X.env=pure true:=by rfl) (hs:∀x,foldedSetIterable f X.env x=pure x:=by intro _;rfl)
  (hf:X.fn y=true∨X.env.scope.names.lookup y=some .local:=by first|exact .inl rfl|exact .inr rfl|assumption) :
  PS X (.Assign [.Name y u] (.ListComp j [⟨tg,f,l,0⟩] scope pos) r) (a3O (a6n src wi g tt te) (B0 i)):=by
 intro qK s σ H D I h;obtain⟨t,T⟩:=a4v F;rw[exec_Assign_Name_used _ _ _ _ W];refine aa (wpAny_standAt (aa ?_));show wpAny _ X.A (do let _ <-comprehension (.ListComp j [⟨tg,f,l,0⟩] scope pos) scope X.env _ (newList []) false (eval f X.env) (some (assign (.Name y u) X.env))) _ _ s;refine aa (cW (wpAny_comprehension_free (use:=some (assign (.Name y u) X.env)) (Q:=λ_ s'=>SP X qK D .next s') rfl hs (I.clos n) t (λx Y hk=>by rw[<-hk];exact T x Y)
  (a4O (RR:=compPost (model X.prog X.w) X.A X.xe (some (assign (.Name y u) X.env)) (λ_ s'=>SP X qK D .next s')) hc hi n B F hg ht S I h ?_)) (λ_ s' hq=>ai (ai hq)) λ_ _ e=>e)
 intro s2 s4 H2 H4 fp d pl σ4 ys us k w f2 L Z M r4 hz q;obtain⟨m,V,_⟩:=L.loc;have E:s4.heap.Ns (s2.heap.objs.size+1) m:=V;have O:H4 (s2.heap.objs.size+1)=none:=L.free;have J:=Inv.unblock w f2 (dW _) (ak _) (aV (bS _)) L Z M r4 hz (Heap.SameBut.refl _ _);have K:s2.heap.objs.size+1≠X.env.locals:=cK (bZ w.lt);have G:∀x c,X.env.cells.lookup x=some c->c≠s2.heap.objs.size+1:=λx c e=>by
  obtain⟨v,z⟩:=w.cell x c e;exact aV (bZ z.lt)
 show wpAny _ X.A (assign (.Name y u) X.env (.ref s2.heap.objs.size)) _ _ s4;refine wpAny_assign_Name (a4q (v:=.ref s2.heap.objs.size) J hN hy Y rfl (λs' I' hb=>?_) hf);obtain⟨a,sb,P⟩:=hb;have A:s2.heap.objs.size+1≠a:=by
  rcases P with rfl|P
  .exact K
  .exact(G _ _ P).symm
 refine⟨m,E.sameBut sb A,λh' R=>⟨_,_,I'.turned (t':=s'.toks) (it:=s2.heap.objs.size+1) (λb o U e=>R.extBut b o U e) ?_ K (.inr (a_ w.sz (dW _))) G λp hp=>?_,q⟩⟩
 .rw[A2 (cK (bS _))];exact O
 .exact aV (bZ (aI (w.pin p hp).1))
def SqAt(k:Bool)(h:Heap)(l:qE)(xs:Array qB):Prop:=match k with|true=>h.IsTuple l xs|false=>h.IsList l xs
def ItAt(k:Bool)(h:Heap)(i l:qE)(n:Nat):Prop:=match k with|true=>h.IsTupleIter i l n|false=>h.IsListIter i l n
def b9c:Bool->String|true => "tuple_iterator" | false => "list_iterator"
def Q0(k:Bool)(l:qE):Obj:={cls:=.type (b9c k),data:=.fields #[.ref l,.int 0 0]}
def ItAt.extBut{k:Bool}{h h':Heap}{i l b:qE}{n:Nat}(x:ItAt k h i l n)(hs:Heap.ExtBut b h h')(a:i≠b):ItAt k h' i l n:=by
 cases k
 .exact Heap.IsListIter.extBut x hs a
 .exact Heap.IsTupleIter.extBut x hs a
def ItAt.at{k:Bool}{h h':Heap}{i l:qE}{n:Nat}(x:ItAt k h i l n)(e:∀o,h.get? i=some o->h'.get? i=some o):ItAt k h' i l n:=by
 cases k
 .exact Heap.IsListIter.at x e
 .exact Heap.IsTupleIter.at x e
def ItAt.get{i:qE}(x:ItAt k h i l n):∃o,h.get? i=some o/\o.data=.fields #[.ref l,.int n 0]:=by
 cases k<;>obtain⟨o,e,c,d⟩:=x<;>exact⟨o,e,d⟩
def SqAt.extBut{k:Bool}{h h':Heap}{l b:qE}{xs:Array qB}(x:SqAt k h l xs)(hs:Heap.ExtBut b h h')(a:l≠b):SqAt k h' l xs:=by
 cases k
 .exact Heap.IsList.extBut x hs a
 .exact Heap.IsTuple.extBut x hs a
def SqAt.at{xs:Array qB}(x:SqAt k h l xs)(e:∀o,h.get? l=some o->h'.get? l=some o):SqAt k h' l xs:=by
 cases k<;>obtain⟨o,q,r⟩:=x<;>exact⟨o,e o q,r⟩
def SqAt.get{xs:Array qB}(x:SqAt k h l xs):∃o,h.get? l=some o:=by
 cases k<;>obtain⟨o,q,r⟩:=x<;>exact⟨o,q⟩
def a2e{t:qE}{x:qB}(a:s.heap.IsTupleIter it t i)(g:s.heap.IsTuple t items)(h:items[i]?=some x)
  (e:∀h',h'.IsTupleIter it t (i+1)->Heap.SameBut it s.heap h'->Q x {s with heap:=h'}):wpAny (model prog w) A (Builtin.SmallTypes.nextOf (.ref it)) Q E s:=by
 obtain⟨o,b,f,hd⟩:=id a;obtain⟨k,d,_,j,c⟩:=g;unfold Builtin.SmallTypes.nextOf;refine aa (bH (name:=Str.ofString "__next__") a.typeIs dz
  (bI dz a.typeIs F.entry_tuple_iterator_next ?_ (F.args_tuple_iterator_next_1 _)))
 show wpAny _ _ (field (.ref it) 0>>=_) _ _ s;refine aa (bQ b hd (x:=.ref t) rfl ?_);show wpAny _ _ (if (Value.ref t==Value.none)=true then _ else _) _ _ s;rw[aq (show ¬((Value.ref t==Value.none)=true)from a')];show wpAny _ _ (field (.ref it) 1>>=_) _ _ s;refine aa (bQ b hd (x:=.int i 0) rfl ?_);show wpAny _ _ (seqItems? (.ref t)>>=_) _ _ s;refine aa (cF d c ?_);simp only[bX,h];refine aa (dF b hd (by simp) (ai ⟨x,rfl,ai (e _ ?_ (cA ..))⟩));exact⟨_,cH _ b (eh (cM hd _)),(fh ..).trans f,by
  rw[cM hd];simp[rawInt]⟩
def a3i{t:qE}(g:A.handled=none)(b:s.heap.IsTupleIter it t i)(j:s.heap.IsTuple t items)(k:items[i]?=none)
  (h:∀h' e,Heap.ExtBut it s.heap h'->(∃o,h'.get? e=some o/\o.cls=.type "StopIteration")->E (.ref e) {s with heap:=h'}) :
  wpAny (model prog w) A (Builtin.SmallTypes.nextOf (.ref it)) Q E s:=by
 obtain⟨o,d,l,hd⟩:=id b;obtain⟨p,f,_,n,c⟩:=j;unfold Builtin.SmallTypes.nextOf;refine aa (bH (name:=Str.ofString "__next__") b.typeIs dz
  (bI dz b.typeIs F.entry_tuple_iterator_next ?_ (F.args_tuple_iterator_next_1 _)))
 show wpAny _ _ (field (.ref it) 0>>=_) _ _ s;refine aa (bQ d hd (x:=.ref t) rfl ?_);show wpAny _ _ (if (Value.ref t==Value.none)=true then _ else _) _ _ s;rw[aq (show ¬((Value.ref t==Value.none)=true)from a')];show wpAny _ _ (field (.ref it) 1>>=_) _ _ s;refine aa (bQ d hd (x:=.int i 0) rfl ?_);show wpAny _ _ (seqItems? (.ref t)>>=_) _ _ s;refine aa (cF f c ?_);simp only[bX,k];refine aa (fR (aa (dF d hd (by simp) ?_)));show wpAny _ _ (newExc (.type "StopIteration") []>>=_) _ _ _;refine aa ?_;simp only[newExc,newTuple];refine aa (bY ?_ (by size_fits));refine aa (m:=firstArgMember _ _) (wpAny_of_eq (a:=Value.none) (by first|rfl | (simp only[firstArgMember];rfl)) ?_);refine bY ?_ (by size_fits);simp only[raiseNew];refine aa (wpAny_handled ?_)
 first|rw[show A.in1.handled=none from g]|rw[g]
 refine aa (ai (wpAny_throw ?_));exact h _ _ (((cA ..).extBut.push _).push _) ⟨_,aC _ rfl,rfl⟩
def a0Q{x:qB}(a:ItAt k s.heap it l i)(c:SqAt k s.heap l items)(d:items[i]?=some x)
  (b:∀h',ItAt k h' it l (i+1)->Heap.SameBut it s.heap h'->Q x {s with heap:=h'}):wpAny (model prog w) A (Builtin.SmallTypes.nextOf (.ref it)) Q E s:=by
 cases k
 .exact wpAny_nextOf_list_item a c d b
 .exact a2e a c d b
def a5e(c:A.handled=none)(a:ItAt k s.heap it l i)(d:SqAt k s.heap l items)(f:items[i]?=none)
  (b:∀h' e,Heap.ExtBut it s.heap h'->(∃o,h'.get? e=some o/\o.cls=.type "StopIteration")->E (.ref e) {s with heap:=h'}) :
  wpAny (model prog w) A (Builtin.SmallTypes.nextOf (.ref it)) Q E s:=by
 cases k
 .exact wpAny_nextOf_list_end c a d f b
 .exact a3i c a d f b
def M9(b:SqAt k s.heap l items)(a:Q (.ref s.heap.objs.size) {s with heap:=s.heap.push (Q0 k l)}):wpAny (model prog w) A (pyIter (.ref l)) Q E s:=by
 cases k
 .exact fg b a
 .exact wpAny_pyIter_tuple b a
section
variable {k1 k2:Bool}
def b1I{z TI TO g m:qE}{p q:Nat}{xs ys:Array qB}{x y a b:qB}(D:ZipApart z TI TO f g l m)
  (j:IsZip s.heap z TI TO .none) (B:IsPair s.heap TI (.ref f) (.ref g)) (C:IsPair s.heap TO a b)
  (h1:ItAt k1 s.heap f l p) (h2:ItAt k2 s.heap g m q) (F:SqAt k1 s.heap l xs) (G:SqAt k2 s.heap m ys) (I:xs[p]?=some x) (J:ys[q]?=some y)
  (H:∀h',IsZip h' z TI TO (rawInt s.heap.objs.size)->IsPair h' TO x y->ItAt k1 h' f l (p+1)->ItAt k2 h' g m (q+1)->IsPair h' s.heap.objs.size x y->h'.objs.size=s.heap.objs.size+1 ->
   (∀c o,c≠z->c≠TO->c≠f->c≠g->s.heap.get? c=some o->h'.get? c=some o)->Q (.ref s.heap.objs.size) {s with heap:=h'}) :
  wpAny (model prog w) A (Builtin.«zip.__next__» ⟨[.ref z],[]⟩) (λfin s'=>∃v,fin=.done (.ret v)/\Q v s') E s:=by
 show wpAny _ _ (field (.ref z) 2>>=_) _ _ _;refine aa (bQ j rfl (x:=.bool false) rfl ?_);show wpAny _ _ (field (.ref z) 3>>=_) _ _ _;refine aa (bQ j rfl (x:=.ref TI) rfl ?_);refine aa (cF B rfl ?_);show wpAny _ _ (Builtin.SmallTypes.ownedTupleIsFree (.ref z)>>=_) _ _ _;refine aa ?_;unfold Builtin.SmallTypes.ownedTupleIsFree;refine aa (bQ j rfl (x:=.none) rfl (ai ?_));simp only[fb];refine aa (fR ?_);refine aa (bQ j rfl (x:=.ref TO) rfl ?_);refine aa (cb j (by simp) λh₁ hz₁ hs₁=>?_);replace hz₁:IsZip h₁ z TI TO .ellipsis:=hz₁;refine aa ?_;simp only[List.zipIdx_cons,List.zipIdx_nil,List.forIn_cons,List.forIn_nil];refine aa (aa (wpAny_onRaise ?_));show wpAny _ _ (Builtin.SmallTypes.nextOf (.ref f)>>=_) _ _ _;refine aa (a0Q (h1.extBut hs₁.extBut D.i1z) (F.extBut hs₁.extBut D.l1z) I λh₂ h1₂ hs₂=>ai ?_);have hTO₂:IsPair h₂ TO a b:=hs₂.extBut _ _ D.TOi1 (hs₁.extBut _ _ D.TOz C);refine aa (cF hTO₂ rfl ?_);refine aa (fS hTO₂ λh₃ hTO₃ hs₃=>?_);replace hTO₃:IsPair h₃ TO x b:=hTO₃;refine aa (wpAny_letGo (ai ?_));refine aa (aa (wpAny_onRaise ?_));show wpAny _ _ (Builtin.SmallTypes.nextOf (.ref g)>>=_) _ _ _;refine aa (a0Q (((h2.extBut hs₁.extBut D.i2z).extBut hs₂.extBut D.i12.symm).extBut hs₃.extBut D.TOi2.symm)
  (((G.extBut hs₁.extBut D.l2z).extBut hs₂.extBut D.l2i1).extBut hs₃.extBut D.l2TO) J λh₄ h2₄ hs₄=>ai ?_)
 have hTO₄:IsPair h₄ TO x b:=hs₄.extBut _ _ D.TOi2 hTO₃;refine aa (cF hTO₄ rfl ?_);refine aa (fS hTO₄ λh₅ hTO₅ hs₅=>?_);replace hTO₅:IsPair h₅ TO x y:=hTO₅;refine aa (wpAny_letGo (ai (ai ?_)));refine aa (cF hTO₅ rfl ?_);refine aa (wpAny_newTuple ?_);have i:h₅.objs.size=s.heap.objs.size:=by rw[hs₅.1,hs₄.1,hs₃.1,hs₂.1,hs₁.1]
 have hz₅:IsZip h₅ z TI TO .ellipsis:=hs₅.extBut _ _ D.TOz.symm (hs₄.extBut _ _ D.i2z.symm (hs₃.extBut _ _ D.TOz.symm (hs₂.extBut _ _ D.i1z.symm hz₁)));have hk₅:∀c o,c≠z->c≠TO->c≠f->c≠g->s.heap.get? c=some o->h₅.get? c=some o:=λc o h n t u e =>
  hs₅.extBut _ _ n (hs₄.extBut _ _ u (hs₃.extBut _ _ n (hs₂.extBut _ _ t (hs₁.extBut _ _ h e))))
 have h1₅:ItAt k1 h₅ f l (p+1):=((h1₂.extBut hs₃.extBut D.TOi1.symm).extBut hs₄.extBut D.i12).extBut hs₅.extBut D.TOi1.symm;have h2₅:ItAt k2 h₅ g m (q+1):=h2₄.extBut hs₅.extBut D.TOi2.symm;have d:z<h₅.objs.size:=aI hz₅;show wpAny _ _ (Builtin.SmallTypes.ownedTupleHandOut (.ref z) (.ref h₅.objs.size)>>=_) _ _ _;refine aa ?_;unfold Builtin.SmallTypes.ownedTupleHandOut;have hz₆:IsZip (h₅.push {cls:=.type "tuple",data:=.seq #[x,y]}) z TI TO .ellipsis:=ae _ hz₅;refine aa (cb hz₆ (by simp) λh₇ hz₇ hs₇=>?_);replace hz₇:IsZip h₇ z TI TO (rawInt h₅.objs.size):=hz₇;refine cb hz₇ (by simp) λh₈ hz₈ hs₈=>?_;replace hz₈:IsZip h₈ z TI TO (rawInt h₅.objs.size):=hz₈;have r:∀c o,c≠z->h₅.get? c=some o->h₈.get? c=some o:=λc o h e=>hs₈.extBut _ _ h (hs₇.extBut _ _ h (ae _ e));have hT₈:IsPair h₈ h₅.objs.size x y:=hs₈.extBut _ _ (cK d) (hs₇.extBut _ _ (cK d) (aC _ rfl));have k:h₈.objs.size=h₅.objs.size+1:=by rw[hs₈.1,hs₇.1,bq]
 rw[i]at hz₈ hT₈ k;refine ai ⟨_,rfl,?_⟩;show Q (.ref h₅.objs.size) _;rw[i];exact H h₈ hz₈ (r _ _ D.TOz hTO₅) (h1₅.at λo e=>r _ o D.i1z e) (h2₅.at λo e=>r _ o D.i2z e) hT₈ k λc o h n t u e=>r c o h (hk₅ c o h n t u e)
def b4K{z TI TO m n y B:qE}{C F:Nat}{xs ys:Array qB}{a b:qB}{Q:Fin->qC->Prop}(I:A.handled=none)(D:ZipApart z TI TO m n y B)
  (l:IsZip s.heap z TI TO .none) (q:IsPair s.heap TI (.ref m) (.ref n)) (r:IsPair s.heap TO a b)
  (h1:ItAt k1 s.heap m y C) (h2:ItAt k2 s.heap n B F) (k:SqAt k1 s.heap y xs) (u:SqAt k2 s.heap B ys) (j:xs[C]?=none∨ys[F]?=none)
  (H:∀h' e,(∀c o,c≠z->c≠TO->c≠m->c≠n->s.heap.get? c=some o->h'.get? c=some o)->(∃o,h'.get? e=some o/\o.cls=.type "StopIteration")->E (.ref e) {s with heap:=h'}) :
  wpAny (model prog w) A (Builtin.«zip.__next__» ⟨[.ref z],[]⟩) Q E s:=by
 show wpAny _ _ (field (.ref z) 2>>=_) _ _ _;refine aa (bQ l rfl (x:=.bool false) rfl ?_);show wpAny _ _ (field (.ref z) 3>>=_) _ _ _;refine aa (bQ l rfl (x:=.ref TI) rfl ?_);refine aa (cF q rfl ?_);show wpAny _ _ (Builtin.SmallTypes.ownedTupleIsFree (.ref z)>>=_) _ _ _;refine aa ?_;unfold Builtin.SmallTypes.ownedTupleIsFree;refine aa (bQ l rfl (x:=.none) rfl (ai ?_));simp only[fb];refine aa (fR ?_);refine aa (bQ l rfl (x:=.ref TO) rfl ?_);refine aa (cb l (by simp) λh₁ hz₁ hs₁=>?_);replace hz₁:IsZip h₁ z TI TO .ellipsis:=hz₁;refine aa ?_;simp only[List.zipIdx_cons,List.zipIdx_nil,List.forIn_cons,List.forIn_nil];refine aa (aa (wpAny_onRaise ?_));show wpAny _ _ (Builtin.SmallTypes.nextOf (.ref m)>>=_) _ _ _;cases v:xs[C]? with
 |none =>
  refine aa (a5e I (h1.extBut hs₁.extBut D.i1z) (k.extBut hs₁.extBut D.l1z) v λh₂ e hs₂ t=>?_);obtain⟨G,d,f⟩:=t;have hz₂:IsZip h₂ z TI TO .ellipsis:=hs₂ _ _ D.i1z.symm hz₁;have g:e≠z:=λx=>by subst x;rw[hz₂]at d;cases d;simp at f
  refine cb hz₂ (by simp) λh₃ _ hs₃=>H h₃ e (λc o i _ p _ x=>hs₃.extBut _ _ i (hs₂ _ _ p (hs₁.extBut _ _ i x))) ⟨G,hs₃.extBut _ _ g d,f⟩
 |some x =>
  have L:ys[F]?=none:=by rcases j with h|h;rw[v]at h;cases h;exact h
  refine aa (a0Q (h1.extBut hs₁.extBut D.i1z) (k.extBut hs₁.extBut D.l1z) v λh₂ h1₂ hs₂=>ai ?_);have hTO₂:IsPair h₂ TO a b:=hs₂.extBut _ _ D.TOi1 (hs₁.extBut _ _ D.TOz r);refine aa (cF hTO₂ rfl ?_);refine aa (fS hTO₂ λh₃ hTO₃ hs₃=>?_);refine aa (wpAny_letGo (ai ?_));refine aa (aa (wpAny_onRaise ?_));show wpAny _ _ (Builtin.SmallTypes.nextOf (.ref n)>>=_) _ _ _;refine aa (a5e I (((h2.extBut hs₁.extBut D.i2z).extBut hs₂.extBut D.i12.symm).extBut hs₃.extBut D.TOi2.symm)
   (((u.extBut hs₁.extBut D.l2z).extBut hs₂.extBut D.l2i1).extBut hs₃.extBut D.l2TO) L λh₄ e hs₄ t=>?_)
  obtain⟨G,d,f⟩:=t;have hz₄:IsZip h₄ z TI TO .ellipsis:=hs₄ _ _ D.i2z.symm (hs₃.extBut _ _ D.TOz.symm (hs₂.extBut _ _ D.i1z.symm hz₁));have g:e≠z:=λx=>by subst x;rw[hz₄]at d;cases d;simp at f
  refine cb hz₄ (by simp) λh₅ _ hs₅=>H h₅ e (λc o i J p K x=>hs₅.extBut _ _ i (hs₄ _ _ K (hs₃.extBut _ _ J (hs₂.extBut _ _ p (hs₁.extBut _ _ i x))))) ⟨G,hs₅.extBut _ _ g d,f⟩
abbrev zH1(k1:Bool)(h:Heap)(l1:qE):Heap:=h.push (Q0 k1 l1)
abbrev zH2(k1 k2:Bool)(h:Heap)(l1 l2:qE):Heap:=(zH1 k1 h l1).push (Q0 k2 l2)
abbrev zH3(k1 k2:Bool)(h:Heap)(l1 l2:qE):Heap:=(zH2 k1 k2 h l1 l2).push {cls:=.type "tuple",data:=.seq #[.ref h.objs.size,.ref (zH1 k1 h l1).objs.size]}
abbrev zH4(k1 k2:Bool)(h:Heap)(l1 l2:qE):Heap:=(zH3 k1 k2 h l1 l2).push {cls:=.type "tuple",data:=.seq #[.none,.none]}
abbrev zH5(k1 k2:Bool)(h:Heap)(l1 l2:qE):Heap:=(zH4 k1 k2 h l1 l2).push {cls:=.type "zip",data:=.fields #[.none,.bool false,.bool false,.ref (zH2 k1 k2 h l1 l2).objs.size,.ref (zH3 k1 k2 h l1 l2).objs.size]}
def b4I(a b:qE)(xs ys:Array qB) :
  Meets (Builtin.«zip.__new__» ⟨[.type "zip",.ref a,.ref b],[]⟩) (λ_ R s=>SqAt k1 s.heap a xs/\SqAt k2 s.heap b ys /\
   R (.ok (.ret (.ref (zH4 k1 k2 s.heap a b).objs.size))) {s with heap:=zH5 k1 k2 s.heap a b}) :=
 .of_wp λprog w A R s h=>by
  obtain⟨k,g,d,tk,os⟩:=s;obtain⟨i,j,h⟩:=h;have l:=sub_zip;have c:SqAt k1 (Shared.heap ⟨k,g,d,tk,os⟩) a xs:=i;have f:SqAt k2 (Shared.heap ⟨k.push (Q0 k1 a),g,d,tk,os⟩) b ys:=j.at λo e=>ae _ e
  wp_walk using M9 c,M9 f
  exact⟨_,rfl,h⟩
def b1K{xs ys:Array qB}(e:SqAt k1 s.heap a xs)(f:SqAt k2 s.heap b ys)
  (h:∀h',IsZip h' (s.heap.objs.size+4) (s.heap.objs.size+2) (s.heap.objs.size+3) .none->IsPair h' (s.heap.objs.size+2) (.ref s.heap.objs.size) (.ref (s.heap.objs.size+1)) ->
   IsPair h' (s.heap.objs.size+3) .none .none->ItAt k1 h' s.heap.objs.size a 0->ItAt k2 h' (s.heap.objs.size+1) b 0->h'.objs.size=s.heap.objs.size+5 ->
   (∀c o,s.heap.get? c=some o->h'.get? c=some o)->Q (.ref (s.heap.objs.size+4)) {s with heap:=h'}) :
  wpAny (model prog w) A (call (.type "zip") [.ref a,.ref b]) Q E s:=by
 refine callType_new F.called_zip (by decide) (F.typeCall_zip_2 _ _) (F.newCall_zip_2 _ _) (λobj=>F.args_object_init_3 obj _ _) F.entry_zip_new
  (b4I (k1:=k1) (k2:=k2) a b xs ys) ⟨e,f,?_⟩
 have g:(zH1 k1 s.heap a).objs.size=s.heap.objs.size+1:=bq ..;have i:(zH2 k1 k2 s.heap a b).objs.size=s.heap.objs.size+2:=by rw[bq,g]
 have j:(zH3 k1 k2 s.heap a b).objs.size=s.heap.objs.size+3:=by rw[bq,i]
 have k:(zH4 k1 k2 s.heap a b).objs.size=s.heap.objs.size+4:=by rw[bq,j]
 have q:(zH5 k1 k2 s.heap a b).objs.size=s.heap.objs.size+5:=by rw[bq,k]
 have d:(zH5 k1 k2 s.heap a b).get? (zH4 k1 k2 s.heap a b).objs.size=some _:=aC _ rfl;have n:(zH5 k1 k2 s.heap a b).get? (zH3 k1 k2 s.heap a b).objs.size=some _:=ae _ (aC _ rfl);have m:(zH5 k1 k2 s.heap a b).get? (zH2 k1 k2 s.heap a b).objs.size=some _:=ae _ (ae _ (aC _ rfl));have l:(zH5 k1 k2 s.heap a b).get? (zH1 k1 s.heap a).objs.size=some (Q0 k2 b):=ae _ (ae _ (ae _ (aC _ rfl)));have p:(zH5 k1 k2 s.heap a b).get? s.heap.objs.size=some (Q0 k1 a):=ae _ (ae _ (ae _ (ae _ (aC _ rfl))));show _/\_;rw[i,j,k]at d;rw[g,i]at m;rw[j]at n;rw[g]at l;rw[k];refine⟨⟨_,d,rfl⟩,h _ d m n ?_ ?_ q λc o x =>
  ae _ (ae _ (ae _ (ae _ (ae _ x))))⟩
 .cases k1<;>exact⟨_,p,rfl,rfl⟩
 .cases k2<;>exact⟨_,l,rfl,rfl⟩
end
def SqK(k:Bool)(K:qF)(H:Hp)(a:qE)(xs:qA V):Prop:=match k with|true=>SqT K H a xs|false=>SqL K H a xs
def Inv.sqk(I:Inv X qK σ H s)(h:SqK k X.K H a xs):∃its:qA qB,Vals xs its/\SqAt k s.heap a its.toArray/\xs.length<=sizeLine:=by
 cases k
 .obtain⟨its,r,p,z⟩:=I.list h;exact⟨its,r,p.isList,z⟩
 .obtain⟨its,r,p,z⟩:=I.tuple h;exact⟨its,r,p,z⟩
def Inv.sqk_inj{ys:qA V}(I:Inv X qK σ H s)(h:SqK k X.K H a xs)(h':SqK k X.K H a ys):xs=ys:=by
 cases k
 .exact I.list_inj h h'
 .exact I.tuple_inj h h'
def Itz(K:qF)(k1 k2:Bool)(a b:qE):It :=
 ⟨λi H=>∃xs ys x y,SqK k1 K H a xs/\SqK k2 K H b ys/\xs[i]?=some x/\ys[i]?=some y,
  λi H v H'=>∃p x y,v=.ref p/\H p=none/\H'=upd H p (.tup [x,y])/\(∀xs,SqK k1 K H a xs->xs[i]?=some x)/\∀ys,SqK k2 K H b ys->ys[i]?=some y,
  λi H=>∃xs ys,SqK k1 K H a xs/\SqK k2 K H b ys/\(xs.length<=i∨ys.length<=i)⟩
structure ZTurn(k1 k2:Bool)(z TI TO i1 i2 a b:qE)(i:Nat)(f0:qB)(h:Heap):Prop where
 zz:IsZip h z TI TO f0
 ti:IsPair h TI (.ref i1) (.ref i2)
 to:∃u v,IsPair h TO u v
 t1:ItAt k1 h i1 a i
 t2:ItAt k2 h i2 b i
structure ZNe(z TI TO i1 i2:qE):Prop where
 TIz:TI≠z
 TOz:TO≠z
 i1z:i1≠z
 i2z:i2≠z
 TITO:TI≠TO
 TIi1:TI≠i1
 TIi2:TI≠i2
 TOi1:TO≠i1
 TOi2:TO≠i2
 i12:i1≠i2
def Inv.turnedT{ch:qA qE}{p:qE}{o:HO}(I:Inv X qK σ H s)(h:∀b∈ch,a1I X qK H b)(hp:s.heap.objs.size=p)(k:∀b o,b∉ch->s.heap.get? b=some o->h'.get? b=some o)
  (new:ObjOk X.prog X.w (upd H p o) h' p o):Inv X qK σ (upd H p o) {s with heap:=h'}:=by
 have l:H p=none:=I.hok.fresh (Nat.le_of_eq hp);have f:∀b u,H b=some u->b∉ch:=λb u e z=>by rw[(h b z).1]at e;cases e
 have a:∀b u,H b=some u->b≠p:=λb u e z=>by rw[z,l]at e;cases e
 have i:∀b u,s.heap.get? b=some u->b≠p:=λb u e=>by
  rw[<-hp];exact aV (aI e)
 refine I.step (g':=s.gens) (d':=s.drawn) (t':=s.toks) (ch:=ch) (λb g=>?_) (λb o _ _ d e _=>k b o d e) (λb o _ _ d e _=>⟨o.slots,k b o d e⟩) (λb u _ e n=>by rw[A2 (i b u e)];exact n)
  (λb o d e=>⟨o,k b o d e⟩) (λb xs e=>by rw[A2 (a b _ e)];exact e) (λb u v e=>by rw[A2 (a b _ e)];exact e) (λb ps e=>⟨#[],by rw[A2 (a b _ e),e];simp⟩) (λm j=>?_) (λb u e=>?_) I.bare
 .obtain⟨_,h1,_,h3,h4,h5⟩:=h b g;exact⟨h3,h1,h4,h5⟩
 .obtain⟨o,es,ep,ho,r⟩:=j;exact⟨o,es,ep,k _ o (λz=>(h _ z).2.1 rfl) ho,r⟩
 .by_cases g:b=p
  .subst g;rw[A0]at e;cases e;exact new
  .rw[A2 g]at e;refine(I.hok b u e).stay (λc v d q=>k c v ?_ q) (λc q=>by rw[A2 (a c _ q)];exact q) λc xs q=>by rw[A2 (a c _ q)];exact q
   rcases d with z|z
   .rw[z];exact f b u e
   .exact f c _ z
def Inv.turnedL{ch:qA qE}(I:Inv X qK σ H s)(f:∀b∈ch,a1I X qK H b)(k:∀b o,b∉ch->s.heap.get? b=some o->h'.get? b=some o):Inv X qK σ H {s with heap:=h'}:=by
 have d:∀b u,H b=some u->b∉ch:=λb u e z=>by rw[(f b z).1]at e;cases e
 refine I.step (g':=s.gens) (d':=s.drawn) (t':=s.toks) (ch:=ch) (λb g=>?_) (λb o _ _ a e _=>k b o a e) (λb o _ _ a e _=>⟨o.slots,k b o a e⟩) (λb u _ e n=>n)
  (λb o a e=>⟨o,k b o a e⟩) (λb xs e=>e) (λb u v e=>e) (λb ps e=>⟨#[],by rw[e];simp⟩) (λm h=>?_) (λb u e=>?_) I.bare
 .obtain⟨_,h1,_,h3,h4,h5⟩:=f b g;exact⟨h3,h1,h4,h5⟩
 .obtain⟨o,es,ep,ho,r⟩:=h;exact⟨o,es,ep,k _ o (λz=>(f _ z).2.1 rfl) ho,r⟩
 .refine(I.hok b u e).stay (λc v a q=>k c v ?_ q) (λc q=>q) λc xs q=>q;rcases a with z|z
  .rw[z];exact d b u e
  .exact d c _ z
def Inv.apart{o:Obj}(I:Inv X qK σ H s)(hs:SqK k X.K H a xs)(h:a1I X qK H b):a≠b:=by
 rintro rfl;have c:∀{u:HO},Rd H a u->False:=λr=>by
  rcases r with r|⟨o,r⟩<;>rw[h.1]at r<;>cases r
 have d:∀{f:Obj},X.K.lookup a=some f->False:=λe=>by
  have g:=I.mod.kin a _ e;rcases h.2.2.2.1 with z|z
  .exact I.ok.noex _ _ g z
  .exact absurd (aO (aI (I.ok.bs _ _ g).1) z) (bV _)
 cases k
 .rcases hs with r|⟨f,_,_,e,_⟩
  .exact c r
  .exact d e
 .rcases hs with r|⟨f,_,_,e,_⟩
  .exact c r
  .exact d e
def b1R{kt:Nat}{tp:Pos}{k1 k2:Bool}{z TI TO j:qE}(D:ZNe z TI TO j l) :
  Turn P w K (.Tuple es kt tp) (Itz K k1 k2 a b) [z,TI,TO,j,l] z (λi h=>ZTurn k1 k2 z TI TO j l a b i .none h) where
 mem:=by simp
 obj:=λi h st c f=>by
  simp only[az,bu,cx]at f;rcases f with rfl|rfl|rfl|rfl|rfl
  .exact⟨_,st.zz,λv z=>by cases z⟩
  .exact⟨_,st.ti,λv z=>by cases z⟩
  .obtain⟨u,v,q⟩:=st.to;exact⟨_,q,λv z=>by cases z⟩
  .obtain⟨o,e,d⟩:=st.t1.get;exact⟨o,e,λv z=>by rw[d]at z;cases z⟩
  .obtain⟨o,e,d⟩:=st.t2.get;exact⟨o,e,λv z=>by rw[d]at z;cases z⟩
 keep:=λi h h' st k=>⟨k z (by simp) _ st.zz,k TI (by simp) _ st.ti,let ⟨u,v,q⟩:=st.to;⟨u,v,k TO (by simp) _ q⟩,st.t1.at λo e=>k j (by simp) o e,st.t2.at λo e=>k l (by simp) o e⟩
 item:=by
  intro X N hw M f i qK s σ H E I t st O;subst N hw M;obtain⟨xs,ys,x,y,n,p,hx,hy⟩:=O;obtain⟨us,Y,V,zu⟩:=I.sqk n;obtain⟨ws,C,W,zw⟩:=I.sqk p;obtain⟨u,hu,Z⟩:=Y.get hx;obtain⟨v,hv,a0⟩:=C.get hy;have g:∀c∈[z,TI,TO,j,l],a≠c/\b≠c:=λc f=>⟨I.apart (o:=default) n (t c f),I.apart (o:=default) p (t c f)⟩;have L:ZipApart z TI TO j l a b:=⟨D.TIz,D.TOz,D.i1z,D.i2z,D.TITO,D.TIi1,D.TIi2,D.TOi1,D.TOi2,D.i12,(g z (by simp)).1,(g TO (by simp)).1,(g j (by simp)).1,(g l (by simp)).1,(g z (by simp)).2,(g TO (by simp)).2,(g j (by simp)).2,(g l (by simp)).2⟩;obtain⟨ua,ub,r⟩:=st.to;have G:s.TypeIs (.ref z) "zip":=⟨_,st.zz,rfl⟩;unfold pyNext;refine aa (dj (bH (name:=Str.ofString "__next__") G fT
   (bI fT G F.entry_zip_next
    (b1I L st.zz st.ti r st.t1 st.t2 V W (x:=u) (y:=v) (by simpa using hu) (by simpa using hv) λh' a1 a2 a3 a4 a5 a6 a7=>ai ?_) (F.args_zip_next_1 _))))
  refine⟨_,rfl,?_⟩;refine wpAny_letOwnedTupleGo_zip (s:={s with heap:=h'}) a1 λh2 S m=>?_;have ne:∀c∈[z,TI,TO,j,l],c≠s.heap.objs.size:=λc f e=>by
   have:∃o,s.heap.get? c=some o:=by
    simp only[az,bu,cx]at f;rcases f with rfl|rfl|rfl|rfl|rfl
    .exact⟨_,st.zz⟩
    .exact⟨_,st.ti⟩
    .exact⟨_,r⟩
    .obtain⟨o,e,d⟩:=st.t1.get;exact⟨o,e⟩
    .obtain⟨o,e,d⟩:=st.t2.get;exact⟨o,e⟩
   obtain⟨o,q⟩:=this;exact absurd (aI q) (by rw[e];exact bV _)
  have B:H s.heap.objs.size=none:=I.hok.fresh (ak _);have U:IsPair h2 s.heap.objs.size u v:=m.extBut _ _ (ne z (by simp)).symm a5;have kk:∀c o,c∉[z,TI,TO,j,l]->s.heap.get? c=some o->h2.get? c=some o:=λc o f e=>by
   simp only[az,bu,cx,not_or]at f;exact m.extBut _ _ f.1 (a7 c o f.1 f.2.2.1 f.2.2.2.1 f.2.2.2.2 e)
  have I2:Inv X qK σ (upd H s.heap.objs.size (.tup [x,y])) {s with heap:=h2} :=
   I.turnedT (ch:=[z,TI,TO,j,l]) t rfl kk ⟨by show 2<=sizeLine;decide,[u,v],.cons Z (.cons a0 .nil),⟨_,U,rfl,0,rfl⟩⟩
  refine⟨.ref s.heap.objs.size,_,I2,rfl,⟨_,x,y,rfl,B,rfl,λzs R=>?_,λzs R=>?_⟩,⟨S,m.extBut _ _ D.TIz (a7 _ _ D.TIz D.TITO D.TIi1 D.TIi2 st.ti),⟨u,v,m.extBut _ _ D.TOz a2⟩,a3.extBut m.extBut D.i1z,a4.extBut m.extBut D.i2z⟩,λc f=>?_⟩
  .rw[I.sqk_inj R n];exact hx
  .rw[I.sqk_inj R p];exact hy
  .rw[A2 (ne c f)];exact(t c f).1
 done:=by
  intro X N hw M f i qK s σ H E I t st O;subst N hw M;obtain⟨xs,ys,n,p,J⟩:=O;obtain⟨us,Y,V,zu⟩:=I.sqk n;obtain⟨ws,C,W,zw⟩:=I.sqk p;have l1:=Y.length;have l2:=C.length;have g:∀c∈[z,TI,TO,j,l],a≠c/\b≠c:=λc f=>⟨I.apart (o:=default) n (t c f),I.apart (o:=default) p (t c f)⟩;have L:ZipApart z TI TO j l a b:=⟨D.TIz,D.TOz,D.i1z,D.i2z,D.TITO,D.TIi1,D.TIi2,D.TOi1,D.TOi2,D.i12,(g z (by simp)).1,(g TO (by simp)).1,(g j (by simp)).1,(g l (by simp)).1,(g z (by simp)).2,(g TO (by simp)).2,(g j (by simp)).2,(g l (by simp)).2⟩;obtain⟨ua,ub,r⟩:=st.to;have G:s.TypeIs (.ref z) "zip":=⟨_,st.zz,rfl⟩;unfold pyNext;refine aa (dj (bH (name:=Str.ofString "__next__") G fT
   (bI fT G F.entry_zip_next (b4K (I.ok.hd f) L st.zz st.ti r st.t1 st.t2 V W ?_ λh' e hk he=>?_) (F.args_zip_next_1 _))))
  .rcases J with q|q
   .exact .inl (by simp;omega)
   .exact .inr (by simp;omega)
  .obtain⟨o,ho,f⟩:=he;refine aa (eD (T:="StopIteration") (b:=true) ⟨o,ho,f⟩ isSubtype_stop ?_);refine ai ⟨rfl,I.turnedL (ch:=[z,TI,TO,j,l]) t λc o f e=>?_⟩;simp only[az,bu,cx,not_or]at f;exact hk c o f.1 f.2.2.1 f.2.2.2.1 f.2.2.2.2 e
 self:=λA i s Q E st h=>wpAny_pyIter_zip st.zz h
def nne{a b:Nat}(h:a≠b):@Ne qE a b:=h
def zne(n:Nat):ZNe (n+4) (n+2) (n+3) n (n+1) :=
 ⟨nne (by omega),nne (by omega),nne (by omega),nne (by omega),nne (by omega),nne (by omega),nne (by omega),nne (by omega),nne (by omega),nne (by omega)⟩
def b9f(K:qF)(ta:TA):TI:=λσ H R=>ta σ H λvs H1=>∃k1 k2 a b,vs=[.ref a,.ref b]/\(∃xs,SqK k1 K H1 a xs)/\(∃ys,SqK k2 K H1 b ys)/\R (Itz K k1 k2 a b) H1
def b8d{u:Nat}{A:Pos}{a b:Expr}{ta:TA}{p:Pos}(m:Gl X "zip")(n:X.mg "zip"=none)(l:PA X [a,b] ta)(i:bootBuiltins "zip"=some (.type "zip"))
  (hs:starEach [a,b] X.env=[(false,eval a X.env),(false,eval b X.env)]:=by rfl) (g:starEach [b] X.env=[(false,eval b X.env)]:=by rfl) :
  PI X (.Tuple es u A) (.Call (.Name "zip" p) [a,b] [] pos) (b9f X.K ta):=by
 intro qK s σ H R I h;refine Call_ (a1t I m n i (ez (thn (l pos qK s σ H _ I h) λB s1 ⟨vs,H1,d,y,x⟩=>?_) (by rw[hs,g]) (by rw[g];rfl)));obtain⟨k1,k2,J,K,e,⟨xs,o⟩,⟨ys,t⟩,q⟩:=x;subst e;cases y with
 |cons r rr =>
  cases rr with
  |cons r' rr =>
   cases rr;cases r;cases r';obtain⟨B,L,v,O⟩:=d.sqk o;obtain⟨M,z,w,P⟩:=d.sqk t;refine b1K v w λh' k C D E F N G=>?_;refine wpAny_pyIter_zip (s:={s1 with heap:=h'}) k ?_;refine⟨s1.heap.objs.size+4,[s1.heap.objs.size+4,s1.heap.objs.size+2,s1.heap.objs.size+3,s1.heap.objs.size,s1.heap.objs.size+1],_,_,H1,rfl,d.kept (t':=s1.toks) G,b1R (zne _),
    ⟨k,C,⟨_,_,D⟩,E,F⟩,λc j=>?_,q⟩
   have f:s1.heap.objs.size<=c:=by
    simp only[az,bu,cx]at j;rcases j with rfl|rfl|rfl|rfl|rfl
    .exact bU _ _
    .exact bU _ _
    .exact bU _ _
    .exact ak _
    .exact bU _ _
   exact d.fpOk f (d.hok.fresh f)
def a2C{I:qE}(b:A.handled=none)(a:l≠I) :
  Walks prog w A I [I,l] [I] items.size (λi v=>items[i]?=some v) (λi h=>ItAt k h I l i/\SqAt k h l items):=by
 cases k
 .exact Walks.list b I l a items
 .exact Walks.tuple b I l a items
def trV:V->Bool
 |.bl b=>b
 |.int i=>i != 0
 |.non=>false
 |_=>true
def a3B:V->Bool
 |.bl _=>true
 |.int _=>true
 |.non=>true
 |_=>false
def a1L{x:V}{v:qB}{Q:Bool->qC->Prop}(r:RelV x v)(f:a3B x=true)(h:Q (trV x) s):wpAny (model prog w) A (truthy v) Q E s:=by
 cases x with
 |non=>cases r;exact truthy_none h
 |bl b=>cases r;exact cG h
 |int i=>obtain⟨t,rfl⟩:=r;exact PySem.P.truthy_int h
 |_=>cases f
def a4z(xs:qA α)(p:α->Bool)(d:α):(List.range xs.length).all (λi=>p (xs.getD i d))=xs.all p:=by
 rw[cg,aH,aH];constructor
 .intro h x hx;obtain⟨i,hi,rfl⟩:=cu.mp hx;have:=h i (bb.mpr hi);simpa[aB,hi]using this
 .intro h i hi;have a:=bb.mp hi;simpa[aB,a]using h xs[i] (cY a)
def b0v(xs:qA α)(p:α->Bool)(d:α):(List.range xs.length).any (λi=>p (xs.getD i d))=xs.any p:=by
 have:=a4z xs (λx=>!p x) d;rw[<-List.not_any_eq_all_not,<-List.not_any_eq_all_not]at this;simpa using this
def a9y(xs:qI):∀n,n<=xs.length->preSum (λi=>xs.getD i 0) n=(xs.take n).sum
 |0,_=>by simp[preSum]
 |n+1,h=>by
  have this:xs[n]?=some xs[n]:=aj (by omega);have e:xs.take (n+1)=xs.take n++[xs[n]]:=by rw[bf,this];rfl
  rw[preSum,a9y xs n (by omega),e,List.sum_append];simp[aB,this]
abbrev RL:=qA V->Hp->VK->Prop
def b7U(K:qF):RL:=λxs H Q=>∃(k:Bool) (p:qE) (ys:qA V),xs=[.ref p]/\SqK k K H p ys/\ys.all a3B=true/\Q (.bl (ys.all trV)) H
def b7T(K:qF):RL:=λxs H Q=>∃(k:Bool) (p:qE) (ys:qA V),xs=[.ref p]/\SqK k K H p ys/\ys.all a3B=true/\Q (.bl (ys.any trV)) H
def b7Q(K:qF):RL:=λxs H Q=>∃(k:Bool) (p:qE) (ns:qI),xs=[.ref p]/\SqK k K H p (ns.map V.int)/\Q (.int ns.sum) H
def a8r(h:SqAt k s.heap l items):ItAt k (s.heap.push (Q0 k l)) s.heap.objs.size l 0/\SqAt k (s.heap.push (Q0 k l)) l items:=by
 refine⟨?_,h.at λo e=>ae _ e⟩;cases k<;>exact⟨_,aC _ rfl,rfl,rfl⟩
def a3n(h:SqAt k s.heap l items):l≠s.heap.objs.size:=by
 obtain⟨o,e⟩:=h.get;exact aV (aI e)
def a3q{c:Obj}(a:∀b o,b∉[s.heap.objs.size]->(s.heap.push c).get? b=some o->h'.get? b=some o):∀b o,s.heap.get? b=some o->h'.get? b=some o:=λb o e =>
 a b o (λz=>by have:=aI e;rw[aP.mp z]at this;exact bV _ this) (ae _ e)
def b4z(m:X.calm=true):D6 X (.builtin "all") (b7U X.K):=by
 intro qK s σ H xs y Q I w h;obtain⟨k,p,ys,rfl,hs,n,q⟩:=h;obtain⟨u,rfl,t⟩:=w.one;cases t;obtain⟨its,c,d,x⟩:=I.sqk hs;have o:X.A.in1.handled=none:=I.ok.hd m;refine call_all_walk (M9 d ?_);refine⟨s.heap.objs.size,_,_,_,_,_,λi=>trV (ys.getD i .non),rfl,a2C (k:=k) (l:=p) (items:=its.toArray) o (a3n d),a8r d,?_,λh' tk r=>?_⟩
 .intro i v s' Q' E' hv hq;have b:its[i]?=some v:=by simpa using hv
  obtain⟨hi,_⟩:=aK.mp b;have a:i<ys.length:=by rw[c.length];exact hi
  have g:ys[i]?=some ys[i]:=aj a;obtain⟨z,f,j⟩:=c.get g;rw[b]at f;cases f;refine a1L j (aH.mp n _ (cY a)) ?_;simpa[aB,g]using hq
 .have e:(List.range its.toArray.size).all (λi=>trV (ys.getD i .non))=ys.all trV:=by
   rw[aF,<-c.length];exact a4z ys trV .non
  rw[e];exact⟨.bl _,H,I.kept (a3q r),rfl,q⟩
def b4y(m:X.calm=true):D6 X (.builtin "any") (b7T X.K):=by
 intro qK s σ H xs y Q I w h;obtain⟨k,p,ys,rfl,hs,n,q⟩:=h;obtain⟨u,rfl,t⟩:=w.one;cases t;obtain⟨its,c,d,x⟩:=I.sqk hs;have o:X.A.in1.handled=none:=I.ok.hd m;refine call_any_walk (M9 d ?_);refine⟨s.heap.objs.size,_,_,_,_,_,λi=>trV (ys.getD i .non),rfl,a2C (k:=k) (l:=p) (items:=its.toArray) o (a3n d),a8r d,?_,λh' tk r=>?_⟩
 .intro i v s' Q' E' hv hq;have b:its[i]?=some v:=by simpa using hv
  obtain⟨hi,_⟩:=aK.mp b;have a:i<ys.length:=by rw[c.length];exact hi
  have g:ys[i]?=some ys[i]:=aj a;obtain⟨z,f,j⟩:=c.get g;rw[b]at f;cases f;refine a1L j (aH.mp n _ (cY a)) ?_;simpa[aB,g]using hq
 .have e:(List.range its.toArray.size).any (λi=>trV (ys.getD i .non))=ys.any trV:=by
   rw[aF,<-c.length];exact b0v ys trV .non
  rw[e];exact⟨.bl _,H,I.kept (a3q r),rfl,q⟩
def b4w(w:X.calm=true):D6 X (.builtin "sum") (b7Q X.K):=by
 intro qK s σ H xs D Q I B h;obtain⟨k,p,a,rfl,hs,q⟩:=h;obtain⟨u,rfl,A⟩:=B.one;cases A;obtain⟨its,n,d,C⟩:=I.sqk hs;have m:=n.length;rw[ag]at m;have x:X.A.in1.handled=none:=I.ok.hd w;refine call_sum_walkG (M9 d ?_);refine⟨s.heap.objs.size,_,_,_,_,_,λi=>a.getD i 0,rfl,a2C (k:=k) (l:=p) (items:=its.toArray) x (a3n d),a8r d,λb j=>?_,?_,λh' tk t' y=>?_⟩
 .rw[bq];obtain⟨o,e⟩:=d.get;have f:=aI e;simp only[az,bu,cx]at j;rcases j with rfl|rfl
  .exact bS _
  .exact bZ f
 .intro i v hv;have c:its[i]?=some v:=by simpa using hv
  obtain⟨hi,_⟩:=aK.mp c;have z:(a.map V.int)[i]?=some (.int a[i]):=by rw[aN,aj (by omega)];rfl
  obtain⟨E,g,t,r⟩:=n.get z;rw[c]at g;cases g;exact⟨t,by rw[r];show _=Value.int (a.getD i 0) t;rw[aB,aj (by omega)];rfl⟩
 .have e:preSum (λi=>a.getD i 0) its.toArray.size=a.sum:=by
   rw[aF,<-m,a9y a _ (ak _),bx]
  rw[e];exact⟨.int a.sum,H,I.kept (a3q y),⟨t',rfl⟩,q⟩
def b7S(K:qF):RL:=λxs H Q=>∃x n t b,xs=[x,.ty n]/\TyOf K H x t/\PySem.W.kitOne K t (.type n)=some b/\Q (.bl b) H
def b4x:D6 X (.builtin "isinstance") (b7S X.K):=by
 intro qK s σ H xs f Q I d h;obtain⟨x,n,t,b,rfl,ty,e,q⟩:=h;obtain⟨u,v,rfl,c,a⟩:=d.two;cases a;exact b0X I c ty e λtk=>⟨.bl b,H,I.tok tk,rfl,q⟩
def a4w(x:V)(b:Bool):Bool:=decide (x=.bl b)
def a1V{x:V}{v:qB}{b:Bool}{Q:Bool->qC->Prop}(r:RelV x v)(h:Q (a4w x b) s):wpAny M A (isSame v (.bool b)) Q E s:=by
 unfold isSame;cases x with
 |non=>cases r;exact ai h
 |bl c=>cases r;exact ai (by
   have e:a4w (.bl c) b=(Value.bool c==Value.bool b):=by cases c<;>cases b<;>rfl
   rw[e]at h;exact h)
 |int i=>obtain⟨t,rfl⟩:=r;exact ai h
 |str y=>obtain⟨t,rfl⟩:=r;exact ai h
 |byt y=>obtain⟨t,rfl⟩:=r;exact ai h
 |flt y=>obtain⟨t,rfl⟩:=r;exact ai h
 |ref p=>cases r;exact ai h
 |ty n=>cases r;exact ai h
def b8A{b:Bool}:OpR X (compareOp .Is) (λx y H Q=>y=.bl b/\Q (.bl (a4w x b)) H):=by
 intro qK s σ H x y v u Q I a c h;obtain⟨rfl,q⟩:=h;cases c;unfold compareOp;exact aa (a1V a (ai ⟨.bl _,H,I,rfl,q⟩))
def b0F{b:Bool}:OpR X (compareOp .IsNot) (λx y H Q=>y=.bl b/\Q (.bl (!a4w x b)) H):=by
 intro qK s σ H x y v u Q I a c h;obtain⟨rfl,q⟩:=h;cases c;unfold compareOp;exact aa (a1V a (ai ⟨.bl _,H,I,rfl,q⟩))
def a8L:bootBuiltins "len"=some (.builtin "len"):=boot_len
def b9o:bootBuiltins "zip"=some (.type "zip"):=by kernel_rfl
def b9s:bootBuiltins "all"=some (.builtin "all"):=by kernel_rfl
def b9r:bootBuiltins "any"=some (.builtin "any"):=by kernel_rfl
def b9p:bootBuiltins "sum"=some (.builtin "sum"):=by kernel_rfl
def a4g:bootBuiltins "isinstance"=some (.builtin "isinstance"):=by kernel_rfl
def a1G:bootBuiltins "sorted"=some (.builtin "sorted"):=by kernel_rfl
def Z8:bootBuiltins "tuple"=some (.type "tuple"):=by kernel_rfl
def b6L:bootBuiltins "list"=some (.type "list"):=by kernel_rfl
def a5Z:bootBuiltins "int"=some (.type "int"):=by kernel_rfl
def a9V:bootBuiltins "bool"=some (.type "bool"):=by kernel_rfl
def b4D:bootBuiltins "str"=some (.type "str"):=by kernel_rfl
def b9q:bootBuiltins "set"=some (.type "set"):=by kernel_rfl
def b6M:bootBuiltins "dict"=some (.type "dict"):=by kernel_rfl
def a0s{f:TT}{Q:VK}{J:It}(n:Nat)(a:Nat->qA V->Hp->Prop)(h0:a 0 [] H1)
  (hs:∀i ys H,i<n->a i ys H->J.go i H/\ys.length<sizeLine/\∀x H',J.yld i H x H'->g x (B1 src σ) H' λσ2 H2=>Sub (B1 src σ) σ2/\f σ2 H2 λb d=>if b=true then te σ2 d λv h=>a (i+1) (ys++[v]) h else a (i+1) ys d)
  (hd:∀ys H,a n ys H->J.stop n H/\ys.length<=sizeLine/\∀p,H p=none->Q (.ref p) (upd H p (.lst ys))):E3 src g f te σ Q J H1:=by
 refine⟨λi m ys H=>m=n-i/\i<=n/\a i ys H,⟨n,by omega,br _,h0⟩,?_⟩;rintro i m ys H ⟨rfl,hi,p⟩;by_cases c:i<n
 .obtain⟨q1,q2,q3⟩:=hs i ys H c p;exact .inr ⟨q1,q2,a (i+1),λzs H' j=>⟨n-(i+1),by omega,rfl,c,j⟩,q3⟩
 .have e:i=n:=by omega
  subst e;exact .inl (hd ys H p)
def a8D{f:TT}{Q:VK}{lo:Int}(j:n<=sizeLine)(a:Nat->qA V->Hp->Prop)(h0:a 0 [] H1)
  (d:∀i ys H,a i ys H->ys.length<=i)
  (hs:∀i ys H,i<n->a i ys H->g (.int (lo+i)) (B1 src σ) H λσ2 H2=>Sub (B1 src σ) σ2/\f σ2 H2 λb c=>if b=true then te σ2 c λv h=>a (i+1) (ys++[v]) h else a (i+1) ys c)
  (hd:∀ys H,a n ys H->∀p,H p=none->Q (.ref p) (upd H p (.lst ys))):E3 src g f te σ Q (Itr lo n) H1 :=
 a0s n a h0 (λi ys H hi p=>⟨hi,by have:=d i ys H p;omega,λx H' y=>by obtain⟨e,y⟩:=y;subst e y;exact hs i ys _ hi p⟩)
  λys H p=>⟨ak _,a_ (d n ys H p) j,hd ys H p⟩
def O8{j:TT}{Q:VK}(m:xs.length<=sizeLine)(c:Nat->qA V->Hp->Prop)(h0:c 0 [] H1)
  (h:∀i ys H,i<=xs.length->c i ys H->SqL K H a xs/\ys.length<=i)
  (hs:∀i x ys H,xs[i]?=some x->c i ys H->g x (B1 src σ) H λσ2 H2=>Sub (B1 src σ) σ2/\j σ2 H2 λb f=>if b=true then te σ2 f λv k=>c (i+1) (ys++[v]) k else c (i+1) ys f)
  (hd:∀ys H,c xs.length ys H->∀p,H p=none->Q (.ref p) (upd H p (.lst ys))):E3 src g j te σ Q (Itl K a) H1 :=
 a0s xs.length c h0 (λi ys H hi p=>by
   obtain⟨d,l⟩:=h i ys H (cE hi) p;refine⟨⟨xs,xs[i],d,aj hi⟩,by omega,λx H' y=>?_⟩;obtain⟨e,y⟩:=y;subst e;exact hs i x ys _ (y xs d) p)
  λys H p=>by
   obtain⟨d,l⟩:=h _ ys H (ak _) p;exact⟨⟨xs,d,ak _⟩,by omega,hd ys H p⟩
def U5{j:TT}{Q:VK}(m:xs.length<=sizeLine)(c:Nat->qA V->Hp->Prop)(h0:c 0 [] H1)
  (h:∀i ys H,i<=xs.length->c i ys H->SqT K H a xs/\ys.length<=i)
  (hs:∀i x ys H,xs[i]?=some x->c i ys H->g x (B1 src σ) H λσ2 H2=>Sub (B1 src σ) σ2/\j σ2 H2 λb f=>if b=true then te σ2 f λv k=>c (i+1) (ys++[v]) k else c (i+1) ys f)
  (hd:∀ys H,c xs.length ys H->∀p,H p=none->Q (.ref p) (upd H p (.lst ys))):E3 src g j te σ Q (Itt K a) H1 :=
 a0s xs.length c h0 (λi ys H hi p=>by
   obtain⟨d,l⟩:=h i ys H (cE hi) p;refine⟨⟨xs,xs[i],d,aj hi⟩,by omega,λx H' y=>?_⟩;obtain⟨e,y⟩:=y;subst e;exact hs i x ys _ (y xs d) p)
  λys H p=>by
   obtain⟨d,l⟩:=h _ ys H (ak _) p;exact⟨⟨xs,d,ak _⟩,by omega,hd ys H p⟩
def Z7{m:TT}{Q:VK}{k1 k2:Bool}{zs:qA V}(B:xs.length<=sizeLine)(c:Nat->qA V->Hp->Prop)(h0:c 0 [] H1)
  (l:∀i ys H,i<=xs.length->i<=zs.length->c i ys H->SqK k1 K H a xs/\SqK k2 K H b zs/\ys.length<=i)
  (hs:∀i x z ys H p,xs[i]?=some x->zs[i]?=some z->c i ys H->H p=none->g (.ref p) (B1 src σ) (upd H p (.tup [x,z])) λσ2 H2=>Sub (B1 src σ) σ2/\m σ2 H2 λb k=>if b=true then te σ2 k λv n=>c (i+1) (ys++[v]) n else c (i+1) ys k)
  (hd:∀ys H,c (min xs.length zs.length) ys H->∀p,H p=none->Q (.ref p) (upd H p (.lst ys))):E3 src g m te σ Q (Itz K k1 k2 a b) H1 :=
 a0s (min xs.length zs.length) c h0 (λi ys H hi p=>by
   have h:i<xs.length:=by omega
   have j:i<zs.length:=by omega
   obtain⟨d,f,s⟩:=l i ys H (by omega) (by omega) p;refine⟨⟨xs,zs,xs[i],zs[i],d,f,aj h,aj j⟩,by omega,λx H' y=>?_⟩;obtain⟨r,t,A,e,o,q,u,w⟩:=y;subst e q;exact hs i t A ys _ r (u xs d) (w zs f) p o)
  λys H p=>by
   obtain⟨d,f,s⟩:=l _ ys H (by omega) (by omega) p;exact⟨⟨xs,zs,d,f,by omega⟩,by omega,hd ys H p⟩
structure Ok(P:qG)(w:World)(K:qF)(mg:Str->qD qB)(base:Heap)(x:Str)(k:Nat)(ps:qA Str)(sp:Sp):Prop where
 ex:∃f fd,mg x=some (.ref f)/\PySem.W.keepIn K (.ref f)=true/\Binds K fd ps []/\FnOk P w K mg base CX0 k f fd ps sp
structure FunAt(K:qF)(mg:Str->qD qB)(x:Str)(st:Stmt)(ps:qA Str):Prop where
 ex:∃f fd,mg x=some (.ref f)/\Fun K x x st f fd/\Binds K fd ps []
section
variable {mg:Str->qD qB}{base:Heap}
def Ok.imp{x:Str}{k:Nat}{ps:qA Str}{sp sp':Sp}(O:Ok P w K mg base x k ps sp)(h:∀vs H Q E,sp' vs H Q E->sp vs H Q E):Ok P w K mg base x k ps sp':=by
 obtain⟨f,fd,h1,h2,a,b⟩:=O.ex;exact⟨f,fd,h1,h2,a,b.imp h⟩
def FunAt.ok{x:Str}{st:Stmt}{N ps:qA Str}{k:Nat}{sp:Sp}(F:FunAt K mg x st ps)(S:FnScope N ps (A1 st))(c:∀vs H Q E,sp vs H Q E->vs.length=ps.length)
  (b:∀(a:qB) (f:qE) (A:Around) (outer:qA Env) (s:qC) (H:Hp) (vs:qA V) (Q:VK) (E:XK),Room k (A.deeper (envOfC x (A1 st) s.heap.objs.size f a))->sp vs H Q E ->
   ∃t,PSs (X2 CX0 P w K mg base N x (A1 st) f a A outer s H E).nox (E8 st) t/\t {nx:=λ_ H'=>Q .non H',rt:=Q} (start N vs) H):Ok P w K mg base x (k+1) ps sp:=by
 obtain⟨f,fd,h1,h2,d⟩:=F.ex;exact⟨f,fd,h1,h2.kp,d,h2.ok S c λa=>b a f⟩
end
section
variable {k:Nat}{sp:Sp}{p:Pos}{e:Expr}{t:TA}
def b3d(O:Ok X.prog X.w X.K X.mg X.base x k ps sp)(j:Room k X.A)(i:Gl X x)(g:PA X (e::es) t)(a:(x==("__debug__" : Str))=false:=by decide)
  (h:starEach (e::es) X.env=(false,eval e X.env)::starEach es X.env:=by rfl) (b:(backTo pos (starEach es X.env)).any (·.1)=false:=by rfl):PE X (.Call (.Name x p) (e::es) [] pos) (a1O sp [] E0 t):=by
 obtain⟨f,fd,h1,h2,c,d⟩:=O.ex;exact b5M d j i h1 h2 c .nil a6N g a h b
end
inductive EqV(K:qF)(H:Hp):Nat->V->V->Bool->Prop
 |flat {n:Nat}{x y:V}(fx:W8 x=true) (fy:W8 y=true):EqV K H n x y (eqV x y)
 |tup {n:Nat}{a b:qE}{xs ys:qA V}(e:Nat->Bool) (ha:SqT K H a xs) (hb:SqT K H b ys) (he:∀j x y,xs[j]?=some x->ys[j]?=some y->EqV K H n x y (e j)) :
   EqV K H (n+1) (.ref a) (.ref b) ((List.range (min xs.length ys.length)).all e && xs.length==ys.length)
 |lst {n:Nat}{a b:qE}{xs ys:qA V}(e:Nat->Bool) (ha:SqL K H a xs) (hb:SqL K H b ys) (he:∀j x y,xs[j]?=some x->ys[j]?=some y->EqV K H n x y (e j)) :
   EqV K H (n+1) (.ref a) (.ref b) ((List.range (min xs.length ys.length)).all e && xs.length==ys.length)
def b4k:∀{x:V},W8 x=true->eqV x x=true
 |.non,_=>rfl
 |.bl b,_=>eE b
 |.int i,_=>eE i
 |.str y,_=>eE y
 |.byt _,h=>by cases h
 |.flt _,h=>by cases h
 |.ref _,h=>by cases h
 |.ty _,h=>by cases h
def EqV.same{x y:V}{b:Bool}(I:Inv X qK σ H s)(h:EqV X.K H n x y b):x=y->b=true:=by
 induction h with
 |flat fx fy=>rintro rfl;exact b4k fx
 |tup e c d g f =>
  intro z;cases z;have q:=I.tuple_inj c d;subst q;simp only[Nat.min_self,aJ,eE,and_true,aH,bb];intro j a;exact f j _ _ (aj a) (aj a) rfl
 |lst e c d g f =>
  intro z;cases z;have q:=I.list_inj c d;subst q;simp only[Nat.min_self,aJ,eE,and_true,aH,bb];intro j a;exact f j _ _ (aj a) (aj a) rfl
def E4{us:qA qB}{j:Nat}{u:qB}(r:Vals xs us)(h:us[j]?=some u):∃x,xs[j]?=some x/\RelV x u:=by
 obtain⟨c,_⟩:=aK.mp h;have a:j<xs.length:=by rw[r.length];exact c
 have b:xs[j]?=some xs[j]:=aj a;obtain⟨d,e,q⟩:=r.get b;rw[h]at e;cases e;exact⟨_,b,q⟩
def EqV.at{n:Nat}{x y:V}{b:Bool}(I:Inv X qK σ H s)(h:EqV X.K H n x y b):∀{A:Around}{u v:qB},A.units+n<cLine->RelV x u->RelV y v->SeqAt.EqAt A s u v b:=by
 induction h with
 |flat fx fy=>intro A u v _ l m;exact b4m l m fx fy
 |@tup n a b xs ys e g i q r =>
  intro A u v B l m;cases l;cases m;by_cases c:a=b
  .have:=(EqV.tup e g i q).same I (by rw[c]);rw[this,c];exact SeqAt.EqAt.same _
  .obtain⟨us,r1,p1,_⟩:=I.tuple g;obtain⟨d,k,p2,_⟩:=I.tuple i;rw[r1.length,k.length];refine SeqAt.EqAt.of_refs c ?_;have:=SeqAt.RcAt.tuples (A:=A) (s:=s) (e:=e) (show s.heap.IsTuple a us.toArray from p1) (show s.heap.IsTuple b d.toArray from p2) (by omega) (λj h1 h2=>?_)
   .simpa using this
   .have h1':us[j]?=some us.toArray[j]:=by simp at h1⊢
    have f:d[j]?=some d.toArray[j]:=by simp at h2⊢
    obtain⟨x,ex,t⟩:=E4 r1 h1';obtain⟨y,p,w⟩:=E4 k f;exact r j x y ex p (by show A.units+1+n<cLine;omega) t w
 |@lst n a b xs ys e g i q r =>
  intro A u v B l m;cases l;cases m;by_cases c:a=b
  .have:=(EqV.lst e g i q).same I (by rw[c]);rw[this,c];exact SeqAt.EqAt.same _
  .obtain⟨us,r1,p1,_⟩:=I.list g;obtain⟨d,k,p2,_⟩:=I.list i;rw[r1.length,k.length];refine SeqAt.EqAt.of_refs c ?_;by_cases o:us.length=d.length
   .have:=SeqAt.RcAt.lists (A:=A) (s:=s) (e:=e) p1.isList p2.isList (by simpa using o) (by omega) (λj h1 h2=>?_)
    .simpa[o]using this
    .have h1':us[j]?=some us.toArray[j]:=by simp at h1⊢
     have f:d[j]?=some d.toArray[j]:=by simp at h2⊢
     obtain⟨x,ex,t⟩:=E4 r1 h1';obtain⟨y,p,w⟩:=E4 k f;exact r j x y ex p (by show A.units+1+n<cLine;omega) t w
   .have:=SeqAt.RcAt.lists_lengths (A:=A) (s:=s) p1.isList p2.isList (by simpa using o) (by omega);have z:(us.length==d.length)=false:=by simpa using o
    rw[z,e_];exact this
def a5y(K:qF)(neg:Bool):R2:=λx y H Q=>∃n b,n<=50/\EqV K H n x y b/\(∃a c,x=.ref a/\y=.ref c)/\Q (.bl (if neg then !b else b)) H
def b8E(C:X.A.units+60<cLine):OpR X (compareOp .Eq) (a5y X.K false):=by
 intro qK s σ H x y v u Q I m o h;obtain⟨n,b,B,i,⟨a,c,rfl,rfl⟩,q⟩:=h;cases m;cases o;show wpAny _ _ (richCompare .Eq (.ref a) (.ref c)) _ _ s;have key:SeqAt.RcAt X.A s (.ref a) (.ref c) b:=by
  cases i with
  |flat fx fy=>cases fx
  |@tup n _ _ xs ys e t w i =>
   obtain⟨d,k,p1,_⟩:=I.tuple t;obtain⟨f,l,p2,_⟩:=I.tuple w;rw[k.length,l.length];have:=SeqAt.RcAt.tuples (A:=X.A) (s:=s) (e:=e) (show s.heap.IsTuple a d.toArray from p1) (show s.heap.IsTuple c f.toArray from p2) (by omega) (λj h1 h2=>?_)
   .simpa using this
   .have h1':d[j]?=some d.toArray[j]:=by simp at h1⊢
    have g:f[j]?=some f.toArray[j]:=by simp at h2⊢
    obtain⟨x,ex,m⟩:=E4 k h1';obtain⟨y,r,o⟩:=E4 l g;exact(i j x y ex r).at I (by show X.A.units+1+n<cLine;omega) m o
  |@lst n _ _ xs ys e t w i =>
   obtain⟨d,k,p1,_⟩:=I.list t;obtain⟨f,l,p2,_⟩:=I.list w;rw[k.length,l.length];by_cases p:d.length=f.length
   .have:=SeqAt.RcAt.lists (A:=X.A) (s:=s) (e:=e) p1.isList p2.isList (by simpa using p) (by omega) (λj h1 h2=>?_)
    .simpa[p]using this
    .have h1':d[j]?=some d.toArray[j]:=by simp at h1⊢
     have g:f[j]?=some f.toArray[j]:=by simp at h2⊢
     obtain⟨x,ex,m⟩:=E4 k h1';obtain⟨y,r,o⟩:=E4 l g;exact(i j x y ex r).at I (by show X.A.units+1+n<cLine;omega) m o
   .have:=SeqAt.RcAt.lists_lengths (A:=X.A) (s:=s) p1.isList p2.isList (by simpa using p) (by omega);have z:(d.length==f.length)=false:=by simpa using p
    rw[z,e_];exact this
 exact key _ _ _ _ ⟨.bl _,H,I,rfl,q⟩
def b8x(C:X.A.units+60<cLine):OpR X (compareOp .NotEq) (a5y X.K true):=by
 intro qK s σ H x y v u Q I m o h;obtain⟨n,b,B,i,⟨a,c,rfl,rfl⟩,q⟩:=h;cases m;cases o;show wpAny _ _ (richCompare .NotEq (.ref a) (.ref c)) _ _ s;have key:SeqAt.RcNeAt X.A s (.ref a) (.ref c) (!b):=by
  cases i with
  |flat fx fy=>cases fx
  |@tup n _ _ xs ys e t w i =>
   obtain⟨d,k,p1,_⟩:=I.tuple t;obtain⟨f,l,p2,_⟩:=I.tuple w;rw[k.length,l.length];have:=SeqAt.RcNeAt.tuples (A:=X.A) (s:=s) (e:=e) (show s.heap.IsTuple a d.toArray from p1) (show s.heap.IsTuple c f.toArray from p2) (by omega) (λj h1 h2=>?_)
   .simpa using this
   .have h1':d[j]?=some d.toArray[j]:=by simp at h1⊢
    have g:f[j]?=some f.toArray[j]:=by simp at h2⊢
    obtain⟨x,ex,m⟩:=E4 k h1';obtain⟨y,r,o⟩:=E4 l g;exact(i j x y ex r).at I (by show X.A.units+1+n<cLine;omega) m o
  |@lst n _ _ xs ys e t w i =>
   obtain⟨d,k,p1,_⟩:=I.list t;obtain⟨f,l,p2,_⟩:=I.list w;rw[k.length,l.length];by_cases p:d.length=f.length
   .have:=SeqAt.RcNeAt.lists (A:=X.A) (s:=s) (e:=e) p1.isList p2.isList (by simpa using p) (by omega) (λj h1 h2=>?_)
    .simpa[p]using this
    .have h1':d[j]?=some d.toArray[j]:=by simp at h1⊢
     have g:f[j]?=some f.toArray[j]:=by simp at h2⊢
     obtain⟨x,ex,m⟩:=E4 k h1';obtain⟨y,r,o⟩:=E4 l g;exact(i j x y ex r).at I (by show X.A.units+1+n<cLine;omega) m o
   .have:=SeqAt.RcNeAt.lists_lengths (A:=X.A) (s:=s) p1.isList p2.isList (by simpa using p) (by omega);have z:(d.length==f.length)=false:=by simpa using p
    rw[z,e_];exact this
 exact key _ _ _ _ ⟨.bl _,H,I,rfl,q⟩
def b6R{ns ms:qI}:((List.range (min ns.length ms.length)).all (λj=>decide (ns.getD j 0=ms.getD j 0)) && ns.length==ms.length)=decide (ns=ms):=by
 rw[cg];simp only[aJ,aH,bb,bz,bj];constructor
 .rintro⟨h1,h2⟩;refine fE h2 λi a b=>?_;have:=h1 i (by omega);simpa[aB,a,b]using this
 .rintro rfl;exact⟨λ_ _=>rfl,rfl⟩
def b3W{ns:qI}{j:Nat}{x:V}(h:(ns.map V.int)[j]?=some x):x=.int (ns.getD j 0)/\j<ns.length:=by
 rw[aN]at h;cases e:ns[j]? with
 |none=>rw[e]at h;cases h
 |some z =>
  rw[e]at h;obtain⟨a,_⟩:=aK.mp e;exact⟨by rw[aB,e];exact(bF h).symm,a⟩
def EqV.ints{ns ms:qI}(c:SqK k K H a (ns.map V.int))(d:SqK k K H b (ms.map V.int)):EqV K H 1 (.ref a) (.ref b) (decide (ns=ms)):=by
 have step:∀j x y,(ns.map V.int)[j]?=some x->(ms.map V.int)[j]?=some y->EqV K H 0 x y (decide (ns.getD j 0=ms.getD j 0)):=λj x y e f=>by
  obtain⟨rfl,_⟩:=b3W e;obtain⟨rfl,_⟩:=b3W f;have:=EqV.flat (K:=K) (H:=H) (n:=0) (x:=.int (ns.getD j 0)) (y:=.int (ms.getD j 0)) rfl rfl;rw[show eqV (.int (ns.getD j 0)) (.int (ms.getD j 0))=decide (ns.getD j 0=ms.getD j 0)from rfl]at this;exact this
 rw[<-b6R];cases k
 .have:=EqV.lst (λj=>decide (ns.getD j 0=ms.getD j 0)) c d step;simpa using this
 .have:=EqV.tup (λj=>decide (ns.getD j 0=ms.getD j 0)) c d step;simpa using this
def b4d:b9y X (a7X X.K):=by
 intro qK s σ H x y v u Q I m n h;obtain⟨p,xs,i,z,rfl,rfl,l,g,q⟩:=h;cases m;obtain⟨t,rfl⟩:=n;obtain⟨its,r,d,B⟩:=I.list l;obtain⟨j,h1,h2,o,e,f⟩:=a2z g;obtain⟨w,b,a⟩:=r.get h2;have k:=r.length;have A:=X9;have fin:EP X qK σ Q w s:=⟨z,H,I,a,q⟩;by_cases c:0<=i
 .have hj:i.toNat=j:=by
   rw[seqIndex_of c f]at h1;exact bF h1
  exact wpAny_getItem_list d.isList c (by omega) (by rw[hj];simpa using b) fin
 .have hj:(i+(its.toArray.size:Int)).toNat=j:=by
   rw[seqIndex_neg (by omega) e]at h1;rw[aF,<-k];exact bF h1
  exact wpAny_getItem_list_neg d.isList (by omega) (by rw[aF]<;>omega) (by omega) (by rw[hj];simpa using b) fin
def a5x:R2:=λx y H Q=>∃a b xs ys,x=.ref a/\y=.ref b/\H a=some (.tup xs)/\H b=some (.tup ys)/\xs.length+ys.length<=sizeLine/\∀p H',Same H H'->H' p=some (.tup (xs++ys))->Q (.ref p) H'
def b3f:OpR X (binaryOp .Add) a5x:=by
 intro qK s σ H x y v u Q I B C h;obtain⟨a,b,xs,ys,rfl,rfl,k,l,E,q⟩:=h;by_cases z:xs=[]
 .subst z;cases B;cases C;obtain⟨its,G,p1,_⟩:=I.tuple (.inl (.inl k));obtain⟨A,J,p2,_⟩:=I.tuple (.inl (.inl l));cases G;obtain⟨⟨cls,dd,data,sl⟩,w,t,n,hd⟩:=id p1;obtain⟨⟨r,j,i,m⟩,g,d,F,f⟩:=id p2;simp only at t hd d f;subst t hd d f;exact concat_meets ⟨_,w,rfl⟩ ⟨_,g,rfl⟩ noFill_tuple_add seq_tuple_add PySem.F.slot_tuple_add PySem.F.entry_tuple_add (PySem.F.args_tuple_add_2 _ _)
   (tuple_addW0 a b _ _ n F dd j sl m (by simp)) ⟨w,g,⟨.ref b,H,I,rfl,q b H (Same.refl H) l⟩⟩
 .refine b5R qK s σ H _ _ v u Q I B C ⟨a,b,xs,ys,rfl,rfl,.inl (.inl k),.inl (.inl l),z,E,λe=>?_,λ_ p D=>?_⟩
  .subst e;exact q a H (Same.refl H) (by rw[de];exact k)
  .exact q p _ (λc o e=>by rw[A2 (A5 e D)];exact e) A0
open PySem.AutoSeq1 (wpAny_loadPart')
end L2
namespace L2
open PySem PySem.Spec PyProof.Rows
variable {B:qA Stmt}{H H':Hp}{K:qF}{N:qA Str}{Q:VK}{X:Cx}{a b p:qE}{caps σ:St}{cs xs:qI}{es:qA Expr}{g:TG}{i k n:Nat}{l:qA qE}{o:HO}{rss:LLI}{sp:Sp}{src:qA (qJ)}{st:Stmt}{te tl:TE}{tg:Expr}{v:V}{vs:qA V}{x:Str}
section
variable {pos:Pos}
def b5G(K:qF){t:TGs}(c:X.calm=true)(h:PGs X es t)(b:X.K=K:=by rfl)
  (d:(assignEach es X.env).length=n:=by rfl) (a:(assignEach es X.env).findIdx? (·.1)=none:=by rfl):PG X (.Tuple es k pos) (a7n K n t):=by
 subst b;exact b8f c h d a
def b2V(K:qF){l:Expr}(b:PE X l tl)(a:X.K=K:=by rfl):PI X tg l (b3Y K tl):=by subst a;exact b5D b
def b5B(K:qF){l:Expr}(b:PE X l tl)(a:X.K=K:=by rfl):PI X tg l (b9g K tl):=by subst a;exact b8e b
def b5A(K:qF){h:Nat}{i:Pos}{a b:Expr}{ta:TA}{p pos:Pos}(f:Gl X "zip")(g:X.mg "zip"=none)(e:PA X [a,b] ta)(d:X.K=K:=by rfl)
  (hs:starEach [a,b] X.env=[(false,eval a X.env),(false,eval b X.env)]:=by rfl) (c:starEach [b] X.env=[(false,eval b X.env)]:=by rfl) :
  PI X (.Tuple es h i) (.Call (.Name "zip" p) [a,b] [] pos) (b9f K ta):=by subst d;exact b8d f g e b9o hs c
def b0f(K:qF)(ta:TE):TT:=λσ H Q=>ta σ H λx H'=>∃k,b9w K x H' k/\Q k H'
def b0z(K:qF){a:Expr}{ta:TE}(d:PE X a ta)(e:∀b,isTrue a X.env b=(do let v <-b;standAt a.pos;holding [v] (truthy v)))(c:X.K=K:=by rfl):PT X a (b0f K ta):=by
 subst c;exact b2K d e
def b3V(K:qF)(a:X.K=K:=by rfl):IxR X (a7X K):=by subst a;exact b6y
def b6x(K:qF)(a:X.K=K:=by rfl):IxR X (b7R K):=by subst a;exact b9a
def b1b(K:qF)(a:X.K=K:=by rfl):b9y X (a7X K):=by subst a;exact b4d
def b2j(K:qF)(a:X.K=K:=by rfl):SlR X (b0w K):=by subst a;exact b4U
def b4T(K:qF)(a:X.K=K:=by rfl):SlR X (b2G K):=by subst a;exact b7K
def b8C(K:qF)(a:X.K=K:=by rfl):OpR X (compareOp .In) (rIn K false):=by subst a;exact b0G
def b8D(K:qF)(b:X.A.units+60<cLine)(a:X.K=K:=by rfl):OpR X (compareOp .Eq) (a5y K false):=by subst a;exact b8E b
def b8w(K:qF)(b:X.A.units+60<cLine)(a:X.K=K:=by rfl):OpR X (compareOp .NotEq) (a5y K true):=by subst a;exact b8x b
def b1D(K:qF)(b:X.calm=true)(a:X.K=K:=by rfl):D6 X (.builtin "all") (b7U K):=by subst a;exact b4z b
def b1C(K:qF)(b:X.calm=true)(a:X.K=K:=by rfl):D6 X (.builtin "any") (b7T K):=by subst a;exact b4y b
def b1t(K:qF)(b:X.calm=true)(a:X.K=K:=by rfl):D6 X (.builtin "sum") (b7Q K):=by subst a;exact b4w b
def b1y(K:qF)(a:X.K=K:=by rfl):D6 X (.builtin "isinstance") (b7S K):=by subst a;exact b4x
def b9K(K:qF):RL:=λxs H Q=>∃p ys,xs=[.ref p]/\(SqL K H p ys∨SqT K H p ys)/\Q (.int ys.length) H
def b7d(K:qF):RL:=λxs H Q=>∃p ys,xs=[.ref p]/\(SqL K H p ys∨SqT K H p ys)/\∀l,H l=none->Q (.ref l) (upd H l (.lst ys))
def b2B(K:qF):RL:=λxs H Q=>∃p ys,xs=[.ref p]/\((SqL K H p ys/\∀l,H l=none->Q (.ref l) (upd H l (.tup ys)))∨(SqT K H p ys/\Q (.ref p) H))
def b1x(K:qF)(a:X.K=K:=by rfl):D6 X (.builtin "len") (b9K K):=by subst a;exact a5X
def a8I(K:qF)(a:X.K=K:=by rfl):D6 X (.type "list") (b7d K):=by subst a;exact a5V
def a7w(K:qF)(a:X.K=K:=by rfl):D6 X (.type "tuple") (b2B K):=by subst a;exact a4e
def b5l:RL:=λxs H Q=>∃i j,xs=[.int i,.int j]/\Q (.int (if j<i then j else i)) H
def b5m:RL:=λxs H Q=>∃i j,xs=[.int i,.int j]/\Q (.int (if j > i then j else i)) H
def b9M:RL:=λxs H Q=>(∃i,xs=[.int i]/\Q (.int i) H)∨∃k,xs=[.bl k]/\Q (.int (if k then 1 else 0)) H
def b1A:D6 X (.type "int") b9M:=b1B
variable {o e:Expr}{to:TE}{t:TA}{name:Str}{qO qM:Pos}{T id:String}{r:V->qA V->Hp->VK->Prop}
def a3b(K:qF)(l:PlainAttrs T)(f:Slot T name id)(g:typeOf (.builtin id)=pure (.type "method_descriptor"))(j:MtR X id r)(k:PE X o to)(i:PA X (e::es) t)(h:X.K=K:=by rfl)
  (b:attributeBase o name X.env (eval o X.env)=eval o X.env:=by rfl)
  (d:((backTo qM (starEach (e::es) X.env)).all (λx=>!x.1) && (backToKw qM (keywordEach [] X.env)).all (λx=>x.1.isSome)
   && decide ((e::es).length+([]:qA Keyword).length+(if ([]:qA Keyword).isEmpty then 0 else 1)<30))=true:=by rfl)
  (c:(qO.endLine==qM.line)=true:=by rfl) (hs:starEach (e::es) X.env=(false,eval e X.env)::starEach es X.env:=by rfl) (a:(backTo qM (starEach es X.env)).any (·.1)=false:=by rfl) :
  PE X (.Call (.Attribute o name qO) (e::es) [] qM) (tBM K T r to t):=by subst h;exact b9T l f g j k i b d c hs a
end
def IT(H:Hp)(v:V)(ns:qI):Prop:=∃a,v=.ref a/\H a=some (.tup (ns.map V.int))
def IT.same{ns:qI}(h:IT H v ns)(s:Same H H')   : IT H' v ns:=let ⟨a,e,q⟩:=h;⟨a,e,s a _ q⟩
def Same.upd(s:Same H H')(hp:H' p=none):Same H (upd H' p o):=λb u e=>by
 rw[A2 (A5 (s b u e) hp)];exact s b u e
def O9{u:HO}(a:H b=some u)(hp:H p=none):upd H p o b=some u:=by rw[A2 (A5 a hp)];exact a
def Off(l:qA qE)(H H':Hp):Prop:=∀b o,b∉l->H b=some o->H' b=some o
def Off.refl(l:qA qE)(H:Hp):Off l H H:=λ_ _ _ e=>e
def Off.trans{H1 H2:Hp}(a:Off l H H1)(b:Off l H1 H2):Off l H H2:=λc o d e=>b c o d (a c o d e)
def Same.off(s:Same H H'):Off l H H':=λb o _ e=>s b o e
def Off.upd(s:Off l H H')(hp:H' p=none):Off l H (upd H' p o):=λb u a e=>by
 rw[A2 (A5 (s b u a e) hp)];exact s b u a e
def Off.set(s:Off l H H')(hp:p∈l):Off l H (L2.upd H' p o):=λb u a e=>by
 rw[A2 (by rintro rfl;exact a hp)];exact s b u a e
def G6(ns:qI):(ns.map V.int).length=ns.length:=ag _
def S7{ns:qI}{x:V}(h:(ns.map V.int)[i]?=some x):∃z,ns[i]?=some z/\x=.int z:=by
 rw[aN]at h;cases e:ns[i]? with
 |none=>rw[e]at h;cases h
 |some z=>rw[e]at h;exact⟨z,rfl,(bF h).symm⟩
def N2{α β γ:Type}(f:α->β->γ){xs:qA α}{ys:qA β}{x:α}{y:β}(a:xs[i]?=some x)(b:ys[i]?=some y):(List.zipWith f xs ys).take (i+1)=(List.zipWith f xs ys).take i++[f x y]:=by
 have:(List.zipWith f xs ys)[i]?=some (f x y):=by rw[List.getElem?_zipWith,a,b]
 rw[bf,this];rfl
def b1J{k1 k2:Bool}{ys:qI}(f:Int->Int->V)(t:SqK k1 K H a (xs.map V.int))(u:SqK k2 K H b (ys.map V.int))(w:xs.length<=1000)
  (c:∀H',Same H H'->SqK k1 K H' a (xs.map V.int)/\SqK k2 K H' b (ys.map V.int))
  (g:B1 src σ=none::none::caps) (l:∀x y H1 o,Same H H1->o (f x y) H1->te (some (.int x)::some (.int y)::caps) H1 o)
  (hd:∀H1 p,Same H H1->H1 p=none->Q (.ref p) (upd H1 p (.lst (List.zipWith f xs ys)))) :
  E3 src (a7n K 2 (W7 (B0 0) (W7 (B0 1) a8w))) I9 te σ Q (Itz K k1 k2 a b) H:=by
 have A:(1000:Nat)<=sizeLine:=by rw[aX];decide
 refine Z7 (xs:=xs.map V.int) (zs:=ys.map V.int) (by rw[G6];omega) (λi zs H'=>Same H H'/\zs=(List.zipWith f xs ys).take i) ⟨Same.refl H,by simp⟩ (λi zs H' _ _ h=>⟨(c H' h.1).1,(c H' h.1).2,by rw[h.2];exact bt _ _⟩) ?_ ?_
 .rintro i x z zs H' p hx hy ⟨s,rfl⟩ hp;obtain⟨k,m,q⟩:=S7 hx;obtain⟨d,n,r⟩:=S7 hy;subst q r;clear hx hy;have s':Same H (upd H' p (.tup [.int k,.int d])):=s.upd hp;refine⟨p,[.int k,.int d],rfl,SqT.of A0,rfl,.int k,[.int d],rfl,.int d,[],rfl,rfl,?_⟩;rw[g];show Sub _ (some (.int k)::some (.int d)::caps)/\_;refine⟨⟨rfl,λj v e=>?_⟩,?_⟩
  .match j,e with
   |0,e=>cases e
   |1,e=>cases e
   |j+2,e=>exact e
  .exact l k d _ _ s' ⟨s',(N2 f m n).symm⟩
 .rintro zs H' ⟨s,rfl⟩ p hp;have e:(List.zipWith f xs ys).take (min (xs.map V.int).length (ys.map V.int).length)=List.zipWith f xs ys:=by
   rw[G6,G6,bo];rw[eO];exact ak _
  rw[e];exact hd H' p s hp
def Sub.one:Sub (none::caps) (some v::caps):=⟨rfl,λj u e=>by
 match j,e with
 |0,e=>cases e
 |j+1,e=>exact e⟩
def a0W{e:TT}(h:n<=1000)(c:B1 src σ=none::caps)(a:Nat->qA V->Hp->Prop)(h0:a 0 [] H)(g:∀i ys H,a i ys H->ys.length<=i)
  (hs:∀i ys H,i<n->a i ys H->e (some (.int i)::caps) H λb d=>if b=true then te (some (.int i)::caps) d λv f=>a (i+1) (ys++[v]) f else a (i+1) ys d)
  (hd:∀ys H,a n ys H->∀p,H p=none->Q (.ref p) (upd H p (.lst ys))):E3 src (B0 0) e te σ Q (Itr 0 n) H:=by
 have j:(1000:Nat)<=sizeLine:=by rw[aX];decide
 refine a8D (by omega) a h0 g (λi ys H hi p=>?_) hd;show Sub _ ((B1 src σ).set 0 (some (.int (0+(i:Int)))))/\_;rw[c,Int.zero_add];exact⟨Sub.one,hs i ys H hi p⟩
def a6m(f:Int->V)(j:xs.length<=1000)(b:∀H',Same H H'->SqT K H' a (xs.map V.int))(c:B1 src σ=none::caps)
  (e:∀x H1 g,x∈xs->Same H H1->g (f x) H1->te (some (.int x)::caps) H1 g) (hd:∀H1 p,Same H H1->H1 p=none->Q (.ref p) (upd H1 p (.lst (xs.map f)))):E3 src (B0 0) I9 te σ Q (Itt K a) H:=by
 have k:(1000:Nat)<=sizeLine:=by rw[aX];decide
 refine U5 (xs:=xs.map V.int) (by rw[G6];omega) (λi ys H'=>Same H H'/\ys=(xs.take i).map f) ⟨Same.refl H,by simp⟩ (λi ys H' _ h=>⟨b H' h.1,by rw[h.2,ag];exact bt _ _⟩) ?_ ?_
 .rintro i x ys H' hx ⟨s,rfl⟩;obtain⟨z,d,rfl⟩:=S7 hx;show Sub _ ((B1 src σ).set 0 (some (.int z)))/\_;rw[c];refine⟨Sub.one,e z H' _ (aA d) s ⟨s,?_⟩⟩;rw[bf,d];simp
 .rintro ys H' ⟨s,rfl⟩ p hp;rw[G6,bx];exact hd H' p s hp
def a7U(f:Nat->V)(c:n<=1000)(a:B1 src σ=none::caps)(b:∀(i:Nat) H1 Q1,i<n->Same H H1->Q1 (f i) H1->te (some (.int i)::caps) H1 Q1)
  (hd:∀H1 p,Same H H1->H1 p=none->Q (.ref p) (upd H1 p (.lst ((List.range n).map f)))):E3 src (B0 0) I9 te σ Q (Itr 0 n) H:=by
 refine a0W c a (λi ys H'=>Same H H'/\ys=(List.range i).map f) ⟨Same.refl H,rfl⟩ (λi ys H' h=>by rw[h.2];simp) ?_ ?_
 .rintro i ys H' hi ⟨s,rfl⟩;refine b i H' _ hi s ⟨s,?_⟩;rw[List.range_succ,bL];rfl
 .rintro ys H' ⟨s,rfl⟩ p hp;exact hd H' p s hp
def Room.u60{A:Around}(r:Room k A):A.units+60<cLine:=by have:=r.un;omega
def a0g{t u:TS}{D:Ends}(a:St->Hp->Prop)(fin:∀σ H,a σ H->u D σ H)(h:(∀σ H,a σ H->u D σ H)->t {D with nx:=u D} σ H):a7J t u D σ H:=h fin
def b6T{a:Bool}(c:∀d:VK,d (.ref b) H->te σ H d)(f:H b=some (.lst (cs.map V.int)))
  (q:∀p,H p=none->Q (.bl (if a then !decide (cs=[])else decide (cs=[]))) (upd H p (.lst []))):tOp (a5y K a) te (a5a U0) σ H Q :=
 c _ ⟨br _,λp e=>⟨1,_,by decide,EqV.ints (k:=false) (ms:=[]) (SqL.of (O9 f e)) (SqL.of A0),⟨_,_,rfl,rfl⟩,q p e⟩⟩
def b6W{a:Bool}{Q:Bool->Hp->Prop}(c:∀d:VK,d (.ref b) H->te σ H d)(e:H b=some (.lst (cs.map V.int)))
  (q:∀p,H p=none->Q (if a then !decide (cs=[])else decide (cs=[])) (upd H p (.lst []))):K5 (tOp (a5y K a) te (a5a U0)) σ H Q :=
 b6T c e λp f=>⟨_,rfl,q p f⟩
def b6e{a:Bool}(d:H b=some (.lst (cs.map V.int)))
  (q:∀p,H p=none->Q (.bl (if a then !decide (cs=[])else decide (cs=[]))) (upd H p (.lst []))):a5a U0 σ H λy H2=>a5y K a (.ref b) y H2 Q :=
 b6T (te:=λ_ H' c=>c (.ref b) H') (λ_ q=>q) d q
def ixL{ta tb:TE}{xs:qA V}{i:Int}(b:∀a:VK,a (.ref p) H->ta σ H a)(c:∀a:VK,a (.int i) H->tb σ H a)(hp:H p=some (.lst xs))(e:atI xs i=some v)(q:Q v H):tOp (a7X K) ta tb σ H Q :=
 b _ (c _ ⟨p,xs,i,v,rfl,rfl,SqL.of hp,e,q⟩)
def b9l(xs:qI)(k:Nat)(a:k<=xs.length):J1 (xs.map V.int) none (some (k:Int))=(xs.take k).map V.int:=by
 unfold J1;rw[HT.sIx_none,HT.sIx_nat,ag,cT a,cR,Nat.sub_zero,fC]
def b9m(xs:qI)(k:Nat)(a:k<=xs.length):J1 (xs.map V.int) (some (k:Int)) none=(xs.drop k).map V.int:=by
 unfold J1;rw[HT.sIx_none,HT.sIx_nat,ag,cT a,bo (by simp),fD]
def b0n(xs:qI)(k:Nat)(z:Int)(a:k<xs.length):xs.take k++[z]++xs.drop (k+1)=xs.set k z:=by
 rw[List.set_eq_take_append_cons_drop,aD a,aG];rfl
def b7V{j:Nat}{tx:TE}{z:Int}(hi:σ[i]?=some (some (.ref a)))(l:σ[j]?=some (some (.int k)))(h:H a=some (.tup (xs.map V.int)))(s:k<xs.length)(B:xs.length<=1000)
  (e:∀H' (N:VK),Same H H'->N (.int z) H'->tx σ H' N) (q:∀v H',Same H H'->IT H' v (xs.set k z)->Q v H') :
  tOp a5x (tOp a5x (tSl (b2G K) (P0 i) G5 (a1M (P0 j))) (a7I (a0z tx U0))) (tSl (b2G K) (P0 i) (a1M (tOp (rI0 λi j=>.int (i+j)) (P0 j) (tC (.int 1)))) G5) σ H Q:=by
 have C:(3000:Nat)<=sizeLine:=by rw[aX];decide
 refine⟨_,hi,_,l,k,rfl,a,_,rfl,SqT.of h,?_,λp t=>?_⟩
 .rw[HT.sIx_none,HT.sIx_nat,ag];omega
 .rw[b9l xs k (by omega)];have s1:Same H (upd H p (.tup ((xs.take k).map V.int))):=(Same.refl H).upd t;have f:upd H p (.tup ((xs.take k).map V.int)) p=some (.tup ((xs.take k).map V.int)):=A0;generalize upd H p (.tup ((xs.take k).map V.int))=H1 at s1 f;refine e H1 _ s1 ⟨by show 1<=sizeLine;omega,λp2 c=>?_⟩;have s2:Same H1 (upd H1 p2 (.tup [.int z])):=(Same.refl H1).upd c;have g:upd H1 p2 (.tup [.int z]) p2=some (.tup [.int z]):=A0;generalize upd H1 p2 (.tup [.int z])=H2 at s2 g;refine⟨p,p2,_,_,rfl,rfl,s2 _ _ f,g,?_,λu b x o=>?_⟩
  .rw[ag,aS];show min k xs.length+1<=_;omega
  .have s13:Same H b:=(s1.trans s2).trans x;refine⟨_,hi,_,l,_,_,rfl,rfl,_,rfl,a,_,rfl,SqT.of (s13 _ _ h),?_,λm d=>?_⟩
   .rw[show((k:Int)+1)=((k+1:Nat):Int) by push_cast;rfl,HT.sIx_nat,ag];omega
   .rw[show((k:Int)+1)=((k+1:Nat):Int) by push_cast;rfl,b9m xs (k+1) (by omega)];have n:Same b (upd b m (.tup ((xs.drop (k+1)).map V.int))):=(Same.refl b).upd d;refine⟨u,m,_,_,rfl,rfl,n _ _ o,A0,?_,λw A y r=>?_⟩
    .rw[au,ag,aS,ag,bG];show min k xs.length+1+_<=_;omega
    .refine q _ _ ((s13.trans n).trans y) ⟨w,rfl,?_⟩;rw[r,<-b0n xs k z s];simp
def var(e:σ[i]?=some (some v)):∀Q:VK,Q v H->P0 i σ H Q:=λQ q=>⟨v,e,q⟩
def con:∀Q:VK,Q v H->tC v σ H Q:=λQ q=>q
structure JE(X:Cx)(e:Expr)(t:TE):Prop where
 h:PE X e t
structure JT(X:Cx)(e:Expr)(t:TT):Prop where
 h:PT X e t
structure JW(X:Cx)(e:Expr)(t:TT):Prop where
 h:PW X e t
structure JA(X:Cx)(es:qA Expr)(t:TA):Prop where
 h:PA X es t
structure JS(X:Cx)(st:Stmt)(t:TS):Prop where
 h:PS X st t
structure JB(X:Cx)(st:qA Stmt)(t:TS):Prop where
 h:PSs X st t
structure JG(X:Cx)(tg:Expr)(t:TG):Prop where
 h:PG X tg t
structure JGs(X:Cx)(ts:qA Expr)(t:TGs):Prop where
 h:PGs X ts t
structure JI(X:Cx)(tg iter:Expr)(t:TI):Prop where
 h:PI X tg iter t
structure JF(X:Cx)(ifs:qA Expr)(t:TT):Prop where
 h:PIf X ifs t
structure JO(X:Cx)(e:qD Expr)(t:TO):Prop where
 h:PO X e t
section
variable {a b c e o:Expr}{rest:qA Expr}{ta tb tc to:TE}{tA tB:TT}{t:TA}{pos p qO qM p2:Pos}
def jv(i:Nat)(b:X.N[i]?=some x:=by rfl)(c:Vis X.env.scope x:=by first|exact Or.inl rfl|exact Or.inr (Or.inl rfl)|exact Or.inr (Or.inr rfl))(hd:(x==("__debug__" : Str))=false:=by decide)
  (a:(x==("__classdict__" : Str))=false:=by decide):JE X (.Name x pos) (P0 i):=⟨b2X b c hd a⟩
def A6{i j}:JE X (.Constant (.int i) j pos) (tC (.int i)):=⟨b8n⟩
def K3{i j}:JE X (.Constant (.bool i) j pos) (tC (.bl i)):=⟨b9U⟩
def Y7{j}:JE X (.Constant .none j pos) (tC .non):=⟨b8l⟩
def P9{x j}:JE X (.Constant (.str x) j pos) (tC (.str x)):=⟨b8i⟩
def V7{u:qB}(a:Gl X x)(b:X.mg x=none)(d:bootBuiltins x=some u)(r:RelV v u)(c:x≠"__name__":=by decide)(hd:(x==("__debug__" : Str))=false:=by decide):JE X (.Name x pos) (tC v):=⟨b5N a b d r c hd⟩
def S6(c:JE X a ta)(d:JE X b tb):JE X (.BinOp a .Add b pos) (tOp (rI0 λi j=>.int (i+j)) ta tb):=⟨a0Y b8G c.h d.h⟩
def a9G(c:JE X a ta)(d:JE X b tb):JE X (.BinOp a .Sub b pos) (tOp (rI0 λi j=>.int (i-j)) ta tb):=⟨a0Y b8u c.h d.h⟩
def Z0(c:JE X a ta)(d:JE X b tb):JE X (.BinOp a .Mult b pos) (tOp (rI CMul λi j=>.int (i*j)) ta tb):=⟨a0Y b8y c.h d.h⟩
def a1c(c:JE X a ta)(d:JE X b tb):JE X (.BinOp a .Mod b pos) (tOp (rI (λ_ j=>0<j) λi j=>.int (i % j)) ta tb):=⟨a0Y b8z c.h d.h⟩
def b3U(c:JE X a ta)(d:JE X b tb):JE X (.BinOp a .FloorDiv b pos) (tOp (rI c0j λi j=>.int (i / j)) ta tb):=⟨a0Y b5Q c.h d.h⟩
def a4H(c:JE X a ta)(d:JE X b tb):JE X (.BinOp a .Pow b pos) (tOp (rI c0i λi j=>.int (i ^ j.toNat)) ta tb):=⟨a0Y b8v c.h d.h⟩
def a5L(c:JE X a ta)(d:JE X b tb):JE X (.BinOp a .Add b pos) (tOp (a5x) ta tb):=⟨a0Y b3f c.h d.h⟩
def a7k(c:JE X a ta)(d:JE X b tb):JE X (.BinOp a .Add b pos) (tOp (b9P) ta tb):=⟨a0Y b8F c.h d.h⟩
def b5n:R2:=λx y H Q=>∃i j,x=.str i/\y=.str j/\i.length+j.length<=sizeLine/\Q (.str (i++j)) H
def a7l(c:JE X a ta)(d:JE X b tb):JE X (.BinOp a .Add b pos) (tOp b5n ta tb):=⟨a0Y a8a c.h d.h⟩
def b7x(b:JE X a ta):JE X (.UnaryOp .USub a pos) (tUn (rU λi=>.int (-i)) ta):=⟨b9R b7G b.h⟩
def b7w(b:JE X a ta):JE X (.UnaryOp .Not a pos) (a4l ta):=⟨b8k b.h⟩
def W5{op}(h:JE X a ta):JE X (.BoolOp op [a] pos) ta:=⟨b8j h.h⟩
def W6(c:JE X a ta)(d:JE X (.BoolOp .And (b::rest) pos) tb):JE X (.BoolOp .And (a::b::rest) pos) (a4o ta tb):=⟨b8q c.h d.h⟩
def b8X(c:JE X a ta)(d:JE X (.BoolOp .Or (b::rest) pos) tb):JE X (.BoolOp .Or (a::b::rest) pos) (b0g ta tb):=⟨b9S c.h d.h⟩
def c0b(f:JT X c tA)(d:JE X a ta)(e:JE X b tb):JE X (.IfExp c a b pos) (tIf tA ta tb):=⟨b3b f.h d.h e.h⟩
def a1a(c:JE X a ta)(d:JE X b tb):JE X (.Compare a [.Eq] [b] pos) (tOp (rEq) ta tb):=⟨S3 b7k c.h d.h (G3 _)⟩
def a3r(c:JE X a ta)(d:JE X b tb):JT X (.Compare a [.Eq] [b] pos) (K5 (tOp (rEq) ta tb)):=⟨M4 b7k c.h d.h (G3 _)⟩
def b7q(c:JE X a ta)(d:JE X b tb):JE X (.Compare a [.NotEq] [b] pos) (tOp (rNe) ta tb):=⟨S3 b7i c.h d.h (G3 _)⟩
def a9E(c:JE X a ta)(d:JE X b tb):JT X (.Compare a [.NotEq] [b] pos) (K5 (tOp (rNe) ta tb)):=⟨M4 b7i c.h d.h (G3 _)⟩
def b3H(c:JE X a ta)(d:JE X b tb):JT X (.Compare a [.Lt] [b] pos) (K5 (tOp (rI0 λi j=>.bl (decide (i<j))) ta tb)):=⟨M4 b9V c.h d.h (G3 _)⟩
def b7r(c:JE X a ta)(d:JE X b tb):JE X (.Compare a [.LtE] [b] pos) (tOp (rI0 λi j=>.bl (decide (i<=j))) ta tb):=⟨S3 b3g c.h d.h (G3 _)⟩
def b7t(c:JE X a ta)(d:JE X b tb):JT X (.Compare a [.Gt] [b] pos) (K5 (tOp (rI0 λi j=>.bl (decide (j<i))) ta tb)):=⟨M4 b9W c.h d.h (G3 _)⟩
def b7s(c:JE X a ta)(d:JE X b tb):JE X (.Compare a [.GtE] [b] pos) (tOp (rI0 λi j=>.bl (decide (j<=i))) ta tb):=⟨S3 b7j c.h d.h (G3 _)⟩
def b7u(c:JE X a ta)(d:JE X b tb):JT X (.Compare a [.GtE] [b] pos) (K5 (tOp (rI0 λi j=>.bl (decide (j<=i))) ta tb)):=⟨M4 b7j c.h d.h (G3 _)⟩
def a8m(K:qF)(f:X.A.units+60<cLine)(d:JE X a ta)(e:JE X b tb)(c:X.K=K:=by rfl):JE X (.Compare a [.Eq] [b] pos) (tOp (a5y K false) ta tb):=⟨S3 (b8D K f c) d.h e.h (G3 _)⟩
def a8n(K:qF)(f:X.A.units+60<cLine)(d:JE X a ta)(e:JE X b tb)(c:X.K=K:=by rfl):JT X (.Compare a [.NotEq] [b] pos) (K5 (tOp (a5y K true) ta tb)):=⟨M4 (b8w K f c) d.h e.h (G3 _)⟩
def b8S(c:JE X a ta)(d:JE X b tb):JE X (.Compare a [.Is] [b] pos) (tOp (λx y H Q=>y=.non/\Q (.bl (decide (x=.non))) H) ta tb):=⟨S3 b3h c.h d.h (G3 _)⟩
def b3I(c:JE X a ta)(d:JE X b tb):JT X (.Compare a [.Is] [b] pos) (K5 (tOp (λx y H Q=>y=.non/\Q (.bl (decide (x=.non))) H) ta tb)):=⟨M4 b3h c.h d.h (G3 _)⟩
def a9D(c:JE X a ta)(d:JE X b tb):JT X (.Compare a [.IsNot] [b] pos) (K5 (tOp (λx y H Q=>y=.non/\Q (.bl (!decide (x=.non))) H) ta tb)):=⟨M4 b5P c.h d.h (G3 _)⟩
def b3G(k:Bool)(c:JE X a ta)(d:JE X b tb):JE X (.Compare a [.Is] [b] pos) (tOp (λx y H Q=>y=.bl k/\Q (.bl (a4w x k)) H) ta tb):=⟨S3 (b8A (b:=k)) c.h d.h (G3 _)⟩
def a4F(k:Bool)(c:JE X a ta)(d:JE X b tb):JT X (.Compare a [.IsNot] [b] pos) (K5 (tOp (λx y H Q=>y=.bl k/\Q (.bl (!a4w x k)) H) ta tb)):=⟨M4 (b0F (b:=k)) c.h d.h (G3 _)⟩
def b8V(K:qF)(d:JE X a ta)(e:JE X b tb)(f:behindInMarks .In b=false)(c:X.K=K:=by rfl):JT X (.Compare a [.In] [b] pos) (K5 (tOp (rIn K false) ta tb)):=⟨M4 (b8C K c) d.h e.h f⟩
def a0y(h:JW X e tA):JT X e tA:=⟨h.h.pt⟩
def V6(b:JT X a tA):JW X (.BoolOp .And [a] pos) tA:=⟨pw_and1 b.h⟩
def V5(b:JT X a tA):JW X (.BoolOp .Or [a] pos) tA:=⟨pw_or1 b.h⟩
def a0J(c:JT X a tA)(d:JW X (.BoolOp .And (b::rest) pos) tB):JW X (.BoolOp .And (a::b::rest) pos) (b0j tA tB):=⟨pw_and c.h d.h⟩
def a0Z(c:JT X a tA)(d:JW X (.BoolOp .Or (b::rest) pos) tB):JW X (.BoolOp .Or (a::b::rest) pos) (tOr tA tB):=⟨pw_or c.h d.h⟩
def E9(b:JT X a tA):JT X (.UnaryOp .Not a pos) (b0h tA):=⟨b7W b.h⟩
def C1(K:qF)(d:JE X a ta)(e:∀b,isTrue a X.env b=(do let v <-b;standAt a.pos;holding [v] (truthy v)):=by intro _;rfl)(c:X.K=K:=by rfl):JT X a (b0f K ta):=⟨b0z K d.h e c⟩
def jaN:JA X [] U0:=⟨b8s⟩
def jaC(a:JE X e te)(b:JA X es t)(hs:starEach (e::es) X.env=(false,eval e X.env)::starEach es X.env:=by rfl):JA X (e::es) (a0z te t):=⟨b5O a.h b.h hs⟩
def W4{x1}(h:JA X es t):JE X (.Tuple es x1 pos) (a7I t):=⟨b8h h.h⟩
def K6(h:JA X es t):JE X (.List es pos) (a5a t):=⟨b8m h.h⟩
def J0(K:qF)(d:JE X a ta)(e:JE X b tb)(hs:a2A b:=by intro _ _;rfl)(c:X.K=K:=by rfl):JE X (.Subscript a b pos) (tOp (a7X K) ta tb):=⟨b3a (b3V K c) d.h e.h hs⟩
def K7(K:qF)(d:JE X a ta)(e:JE X b tb)(hs:a2A b:=by intro _ _;rfl)(c:X.K=K:=by rfl):JE X (.Subscript a b pos) (tOp (b7R K) ta tb):=⟨b3a (b6x K c) d.h e.h hs⟩
def K0:JO X none G5:=⟨b5x⟩
def J9(h:JE X e te):JO X (some e) (a1M te):=⟨b5w h.h⟩
def a1b(K:qF){lo hi:qD Expr}{tl th:TO}(b:JE X e te)(c:JO X lo tl)(d:JO X hi th)(a:X.K=K:=by rfl):JE X (.Subscript e (.Slice lo hi none p2) pos) (tSl (b0w K) te tl th):=⟨a6M (b2j K a) b.h c.h d.h⟩
def b7v(K:qF){lo hi:qD Expr}{tl th:TO}(b:JE X e te)(c:JO X lo tl)(d:JO X hi th)(a:X.K=K:=by rfl):JE X (.Subscript e (.Slice lo hi none p2) pos) (tSl (b2G K) te tl th):=⟨a6M (b4T K a) b.h c.h d.h⟩
def A7{ps:qA Str}(O:Ok X.prog X.w X.K X.mg X.base x k ps sp)(g:Room k X.A)(f:Gl X x)(c:JA X (e::es) t)(a:(x==("__debug__" : Str))=false:=by decide)
  (d:starEach (e::es) X.env=(false,eval e X.env)::starEach es X.env:=by rfl) (b:(backTo pos (starEach es X.env)).any (·.1)=false:=by rfl):JE X (.Call (.Name x p) (e::es) [] pos) (a1O sp [] E0 t):=⟨b3d O g f c.h a d b⟩
def C7(K:qF)(f:Gl X "len")(g:X.mg "len"=none)(c:JA X (e::es) t)(b:X.K=K:=by rfl)(d:starEach (e::es) X.env=(false,eval e X.env)::starEach es X.env:=by rfl)(a:(backTo pos (starEach es X.env)).any (·.1)=false:=by rfl):JE X (.Call (.Name "len" p) (e::es) [] pos) (tCB (b9K K) t):=⟨G4 (b1x K b) f g a8L c.h (by decide) (by decide) d a⟩
def a8p(K:qF)(g:Gl X "sum")(h:X.mg "sum"=none)(c:JA X (e::es) t)(d:X.calm=true:=by rfl)(b:X.K=K:=by rfl)(f:starEach (e::es) X.env=(false,eval e X.env)::starEach es X.env:=by rfl)(a:(backTo pos (starEach es X.env)).any (·.1)=false:=by rfl):JE X (.Call (.Name "sum" p) (e::es) [] pos) (tCB (b7Q K) t):=⟨G4 (b1t K d b) g h b9p c.h (by decide) (by decide) f a⟩
def L4(K:qF)(g:Gl X "all")(h:X.mg "all"=none)(c:JA X (e::es) t)(d:X.calm=true:=by rfl)(b:X.K=K:=by rfl)(f:starEach (e::es) X.env=(false,eval e X.env)::starEach es X.env:=by rfl)(a:(backTo pos (starEach es X.env)).any (·.1)=false:=by rfl):JE X (.Call (.Name "all" p) (e::es) [] pos) (tCB (b7U K) t):=⟨G4 (b1D K d b) g h b9s c.h (by decide) (by decide) f a⟩
def b8W(K:qF)(g:Gl X "any")(h:X.mg "any"=none)(c:JA X (e::es) t)(d:X.calm=true:=by rfl)(b:X.K=K:=by rfl)(f:starEach (e::es) X.env=(false,eval e X.env)::starEach es X.env:=by rfl)(a:(backTo pos (starEach es X.env)).any (·.1)=false:=by rfl):JE X (.Call (.Name "any" p) (e::es) [] pos) (tCB (b7T K) t):=⟨G4 (b1C K d b) g h b9r c.h (by decide) (by decide) f a⟩
def C5(K:qF)(f:Gl X "isinstance")(g:X.mg "isinstance"=none)(c:JA X (e::es) t)(b:X.K=K:=by rfl)(d:starEach (e::es) X.env=(false,eval e X.env)::starEach es X.env:=by rfl)(a:(backTo pos (starEach es X.env)).any (·.1)=false:=by rfl):JE X (.Call (.Name "isinstance" p) (e::es) [] pos) (tCB (b7S K) t):=⟨G4 (b1y K b) f g a4g c.h (by decide) (by decide) d a⟩
def D9(K:qF)(f:Gl X "tuple")(g:X.mg "tuple"=none)(c:JA X (e::es) t)(b:X.K=K:=by rfl)(d:starEach (e::es) X.env=(false,eval e X.env)::starEach es X.env:=by rfl)(a:(backTo pos (starEach es X.env)).any (·.1)=false:=by rfl):JE X (.Call (.Name "tuple" p) (e::es) [] pos) (tCB (b2B K) t):=⟨L0 (a7w K b) f g Z8 c.h (by decide) (by decide) d a⟩
def b6r(K:qF)(f:Gl X "list")(g:X.mg "list"=none)(c:JA X (e::es) t)(b:X.K=K:=by rfl)(d:starEach (e::es) X.env=(false,eval e X.env)::starEach es X.env:=by rfl)(a:(backTo pos (starEach es X.env)).any (·.1)=false:=by rfl):JE X (.Call (.Name "list" p) (e::es) [] pos) (tCB (b7d K) t):=⟨L0 (a8I K b) f g b6L c.h (by decide) (by decide) d a⟩
def b3S(d:Gl X "int")(f:X.mg "int"=none)(b:JA X (e::es) t)(c:starEach (e::es) X.env=(false,eval e X.env)::starEach es X.env:=by rfl)(a:(backTo pos (starEach es X.env)).any (·.1)=false:=by rfl):JE X (.Call (.Name "int" p) (e::es) [] pos) (tCB (b9M) t):=⟨L0 b1A d f a5Z b.h (by decide) (by decide) c a⟩
def O7(K:qF)(h:JE X o to)(g:JA X (e::es) t)(f:X.K=K:=by rfl)(b:attributeBase o "append" X.env (eval o X.env)=eval o X.env:=by rfl)
  (d:((backTo qM (starEach (e::es) X.env)).all (λx=>!x.1) && (backToKw qM (keywordEach [] X.env)).all (λx=>x.1.isSome) && decide ((e::es).length+([]:qA Keyword).length+(if ([]:qA Keyword).isEmpty then 0 else 1)<30))=true:=by rfl)
  (c:(qO.endLine==qM.line)=true:=by rfl) (hs:starEach (e::es) X.env=(false,eval e X.env)::starEach es X.env:=by rfl) (a:(backTo qM (starEach es X.env)).any (·.1)=false:=by rfl) :
  JE X (.Call (.Attribute o "append" qO) (e::es) [] qM) (tBM K "list" a9x to t):=⟨a3b K PySem.F.plainAttrs_list PySem.F.slot_list_append PySem.F.type_list_append b0Q h.h g.h f b d c hs a⟩
def b3N(K:qF)(h:JE X o to)(g:JA X (e::es) t)(f:X.K=K:=by rfl)(b:attributeBase o "pop" X.env (eval o X.env)=eval o X.env:=by rfl)
  (d:((backTo qM (starEach (e::es) X.env)).all (λx=>!x.1) && (backToKw qM (keywordEach [] X.env)).all (λx=>x.1.isSome) && decide ((e::es).length+([]:qA Keyword).length+(if ([]:qA Keyword).isEmpty then 0 else 1)<30))=true:=by rfl)
  (c:(qO.endLine==qM.line)=true:=by rfl) (hs:starEach (e::es) X.env=(false,eval e X.env)::starEach es X.env:=by rfl) (a:(backTo qM (starEach es X.env)).any (·.1)=false:=by rfl) :
  JE X (.Call (.Attribute o "pop" qO) (e::es) [] qM) (tBM K "list" b2I to t):=⟨a3b K PySem.F.plainAttrs_list PySem.F.slot_list_pop PySem.F.type_list_pop b3z h.h g.h f b d c hs a⟩
def a4G(K:qF)(h:JE X o to)(g:JA X (e::es) t)(f:X.K=K:=by rfl)(b:attributeBase o "extend" X.env (eval o X.env)=eval o X.env:=by rfl)
  (d:((backTo qM (starEach (e::es) X.env)).all (λx=>!x.1) && (backToKw qM (keywordEach [] X.env)).all (λx=>x.1.isSome) && decide ((e::es).length+([]:qA Keyword).length+(if ([]:qA Keyword).isEmpty then 0 else 1)<30))=true:=by rfl)
  (c:(qO.endLine==qM.line)=true:=by rfl) (hs:starEach (e::es) X.env=(false,eval e X.env)::starEach es X.env:=by rfl) (a:(backTo qM (starEach es X.env)).any (·.1)=false:=by rfl) :
  JE X (.Call (.Attribute o "extend" qO) (e::es) [] qM) (tBM K "list" a9w to t):=⟨a3b K PySem.F.plainAttrs_list PySem.F.slot_list_extend PySem.F.type_list_extend b0P h.h g.h f b d c hs a⟩
def A8(a:X.N.Nodup)(hi:X.N[i]?=some x)(c:Loc X.env.scope x)(b:X.fn x=true∨X.env.scope.names.lookup x=some .local:=by first|exact .inl rfl|exact .inr rfl|assumption):JG X (.Name x pos) (B0 i):=⟨b5H a hi c b⟩
def K2:JGs X [] a8w:=⟨b5F⟩
def B3{u:TGs}(h1:JG X e g)(h2:JGs X es u)(hs:(assignEach (e::es) X.env).map (·.2)=assign e X.env::(assignEach es X.env).map (·.2):=by rfl):JGs X (e::es) (W7 g u):=⟨b2W h1.h h2.h hs⟩
def P8(K:qF)(n:Nat){u:TGs}(h:JGs X es u)(c:X.calm=true:=by rfl)(b:X.K=K:=by rfl)(d:(assignEach es X.env).length=n:=by rfl)(a:(assignEach es X.env).findIdx? (·.1)=none:=by rfl):JG X (.Tuple es k pos) (a7n K n u):=⟨b5G K c h.h b d a⟩
def b3P{i:Expr}{a:TE}(c:JE X o to)(hi:JE X i a)
  (b:∀v,assign (.Subscript o i pos) X.env v=(do
   let ov <-holding [v] (eval o X.env)
   let iv <-holding [v,ov] (eval i X.env)
   standAt pos
   holding [v,ov,iv] (setItem ov iv v)
   release [v,ov,iv] []):=by intro _;rfl):JG X (.Subscript o i pos) (c0e to a b2H):=⟨b8g c.h hi.h a6A b⟩
def E7(K:qF){l:Expr}(b:JE X l tl)(a:X.K=K:=by rfl):JI X tg l (b3Y K tl):=⟨b2V K b.h a⟩
def K1(K:qF){l:Expr}(b:JE X l tl)(a:X.K=K:=by rfl):JI X tg l (b9g K tl):=⟨b5B K b.h a⟩
def a1y(K:qF){h:Nat}{i:Pos}(f:Gl X "zip")(g:X.mg "zip"=none)(e:JA X [a,b] t)(d:X.K=K:=by rfl)(hs:starEach [a,b] X.env=[(false,eval a X.env),(false,eval b X.env)]:=by rfl)(c:starEach [b] X.env=[(false,eval b X.env)]:=by rfl) :
  JI X (.Tuple es h i) (.Call (.Name "zip" p) [a,b] [] pos) (b9f K t):=⟨b5A K f g e.h d hs c⟩
def L3(c:Gl X "range")(d:X.mg "range"=none)(b:JA X [a] t)(hs:starEach [a] X.env=[(false,eval a X.env)]:=by rfl):JI X tg (.Call (.Name "range" p) [a] [] pos) (b7z t):=⟨b0C c d b.h hs⟩
def C2:JF X [] I9:=⟨b5z⟩
def a1z(h:JT X c tA):JF X [c] tA:=⟨b5y h.h⟩
def B9{b c:Expr}{f:qA Expr}{scope:Scope}{j:TI}{i:TT}(hi:JI X tg b j)(e:B8 scope X.env.scope=true)(d:N1 N src X.N scope=true)(h:a5u scope=true)
  (m:∀a C s H ex,JG (X.blk N scope a C s H ex) tg g) (n:∀a C s H ex,JF (X.blk N scope a C s H ex) f i) (l:∀a C s H ex,JE (X.blk N scope a C s H ex) c te)
  (k:X.calm=true:=by rfl) (hs:∀x,foldedSetIterable b X.env x=pure x:=by intro _;rfl):JE X (.ListComp c [⟨tg,b,f,0⟩] scope pos) (a6n src j g i te) :=
 ⟨b5L k hi.h e d h (λ_ _ _ _ _=>(m _ _ _ _ _).h) (λ_ _ _ _ _=>(n _ _ _ _ _).h) (λ_ _ _ _ _=>(l _ _ _ _ _).h) hs⟩
variable {sts:qA Stmt}{u v:TS}
def B7:JB X [] a4m:=⟨b5q⟩
def A3(h1:JS X st u)(h2:JB X sts v):JB X (st::sts) (a7J u v):=⟨b2N h1.h h2.h⟩
def A4(h1:JS X st u):JB X [st] u:=⟨b5p h1.h⟩
def b3M:JS X (.Break pos) b1X:=⟨b2R⟩
def A9(a:JE X e te):JS X (.Return (some e) pos) (a7K te):=⟨b7Z a.h⟩
def M6(a:JE X e te)(hs:swapsWith e none pos.line X.env=pure false:=by rfl):JS X (.Expr e pos) (a4n te):=⟨b5s a.h hs⟩
def C6{A:qA Stmt}(d:JT X c tA)(a:JB X A u)(b:JB X B v):JS X (.If c A B pos) (b0i tA u v):=⟨b9Q d.h a.h b.h⟩
def a7h(b:JT X c tA)(a:JB X B v)(hp:PassesOwn (model X.prog X.w) X.A X.env X.xe:=by exact PassesOwn.never):JS X (.While c B [] pos) (b1S tA v):=⟨b2O hp b.h a.h⟩
def P6{a:Expr}{b:TI}(hi:JI X tg a b)(e:JG X tg g)(c:JB X B v)(hp:PassesOwn (model X.prog X.w) X.A X.env X.xe:=by exact PassesOwn.never)(d:X.calm=true:=by rfl)
  (hs:∀x,foldedSetIterable a X.env x=pure x:=by intro _;rfl):JS X (.For tg a B [] pos) (b9D b g v):=⟨b8a hp d hi.h e.h c.h hs⟩
def B2{pos':Pos}(a:X.N.Nodup)(hi:X.N[i]?=some x)(d:Loc X.env.scope x)(b:JE X e te)(hs:swapsWith e (some (.Name x pos')) pos.line X.env=pure false:=by rfl)
  (c:X.fn x=true∨X.env.scope.names.lookup x=some .local:=by first|exact .inl rfl|exact .inr rfl|assumption):JS X (.Assign [.Name x pos'] e pos) (a3O te (B0 i)):=⟨b7Y a hi d b.h hs c⟩
def a2v{y:Str}{m c:Pos}{b d:Expr}{e:qA Expr}{scope:Scope}{o:TI}{n:TT}
  (p:X.N.Nodup) (w:X.N[i]?=some y) (v:Loc X.env.scope y) (hi:JI X tg b o) (h:B8 scope X.env.scope=true) (f:N1 N src X.N scope=true) (k:a5u scope=true)
  (t:∀a C s H ex,JG (X.blk N scope a C s H ex) tg g) (u:∀a C s H ex,JF (X.blk N scope a C s H ex) e n) (j:∀a C s H ex,JE (X.blk N scope a C s H ex) d te)
  (q:X.calm=true:=by rfl) (l:swapsWith (.ListComp d [⟨tg,b,e,0⟩] scope pos) (some (.Name y m)) c.line X.env=pure true:=by rfl) (hs:∀x,foldedSetIterable b X.env x=pure x:=by intro _;rfl)
  (r:X.fn y=true∨X.env.scope.names.lookup y=some .local:=by first|exact .inl rfl|exact .inr rfl|assumption) :
  JS X (.Assign [.Name y m] (.ListComp d [⟨tg,b,e,0⟩] scope pos) c) (a3O (a6n src o g n te) (B0 i)) :=
 ⟨b5r p w v q hi.h h f k (λ_ _ _ _ _=>(t _ _ _ _ _).h) (λ_ _ _ _ _=>(u _ _ _ _ _).h) (λ_ _ _ _ _=>(j _ _ _ _ _).h) l hs r⟩
def a5J(a:JE X e te)(b:JG X tg g)(hs:swapsWithSole [tg] e pos.line X.env=pure false:=by rfl)(hw:swappedStores [tg] e X.env=pure none:=by rfl)
  (h1:(assignEach [tg] X.env).map (·.2)=[assign tg X.env]:=by rfl):JS X (.Assign [tg] e pos) (a3O te g):=⟨b8c a.h b.h hs hw h1⟩
def a8o(K:qF){i:Expr}{c:TE}{tpos:Pos}(h:JE X o to)(hi:JE X i c)(g:JE X e te)(d:X.K=K:=by rfl)
  (f:∀b a new,augStore i b a new=(do holding [new,b,a] (setItem b a new);release [new,b,a] [];pure .next):=by intros;rfl):JS X (.AugAssign (.Subscript o i tpos) .Add e pos) (b6X to c te (a7X K) (ipI λi j=>i+j) b2H):=⟨b5u h.h hi.h (b1b K d) g.h b9d a6A f⟩
end
section
variable {P:qG}{w:World}{mg:Str->qD qB}{base:Heap}
def FunAt.okJ{ps:qA Str}(F:FunAt K mg x st ps)(S:FnScope N ps (A1 st))(c:∀vs H Q E,sp vs H Q E->vs.length=ps.length)
  (b:∀(a:qB) (f:qE) (A:Around) (outer:qA Env) (s:qC) (H:Hp) (vs:qA V) (Q:VK) (E:XK),Room k (A.deeper (envOfC x (A1 st) s.heap.objs.size f a))->sp vs H Q E ->
   ∃t,JB (X2 CX0 P w K mg base N x (A1 st) f a A outer s H E).nox (E8 st) t/\t {nx:=λ_ H'=>Q .non H',rt:=Q} (start N vs) H):Ok P w K mg base x (k+1) ps sp :=
 F.ok S c λa f A outer s H vs Q E e h=>let ⟨t,d,r⟩:=b a f A outer s H vs Q E e h;⟨t,d.h,r⟩
def Fun.okJ{qual:Str}{f:qE}{fd:FuncData}{ps:qA Str}(F:Fun K x qual st f fd)(S:FnScope N ps (A1 st))(c:∀vs H Q E,sp vs H Q E->vs.length=ps.length)
  (b:∀(a:qB) (A:Around) (outer:qA Env) (s:qC) (H:Hp) (vs:qA V) (Q:VK) (E:XK),Room k (A.deeper (envOfC qual (A1 st) s.heap.objs.size f a))->sp vs H Q E ->
   ∃t,JB (X2 CX0 P w K mg base N qual (A1 st) f a A outer s H E).nox (E8 st) t/\t {nx:=λ_ H'=>Q .non H',rt:=Q} (start N vs) H):FnOk P w K mg base CX0 (k+1) f fd ps sp :=
 F.ok S c λa A outer s H vs Q E e h=>let ⟨t,d,r⟩:=b a A outer s H vs Q E e h;⟨t,d.h,r⟩
end
def a9n(K:qF):Sp:=λvs H Q _=>∃(a:qE) (ns:qI),vs=[.ref a]/\SqL K H a (ns.map V.int)/\ns.length<=63/\∀H',Q (.bl true) H'
def law_walk{l:PySem.W.OpenLaw}{q:qG}{b:qA Str}{XP:(Str->qD qB)->Heap->Prop}{e:World->Heap->Prop}{d:DefRec}{K:Params->qF}(k:Nat)(o:l.most=some 63)(c:d.params.defaults=[])(p:Room k callerA)
  (j:∀(w:World) (h:Heap),e w h->(K w.params).In h)
  (F:∀(w:World) (mg:Str->qD qB) (g:qE) (h:Heap),(K w.params).In h->h.Ns mainGlobals mg->mg d.name=some (.ref g) ->
   ∃fd:FuncData,(∀(s:qC) (u:qB),BindsTo s fd ⟨[u],[]⟩ [("_law_script",u)])/\∀base:Heap,(K w.params).In base->base.Ns mainGlobals mg->FnOk l.prog w (K w.params) mg base CX0 k g fd ["_law_script"] (a9n (K w.params))) :
  PySem.W.WalkO q b XP e l.row.toRowW d [] (λf vs=>PySem.call f vs) :=
 L2.walk_of (n:=63) (k:=k) (x:="_law_script") (CX:=λ_=>CX0) (sp:=λw=>a9n (K w.params)) o (by decide) c p j F (λ_ _ a r m _ i=>⟨a,r,rfl,i,m,λ_=>rfl⟩) λ_ _ _ _ _ z=>z
def Its(H:Hp)(vs:qA V)(rss:LLI):Prop:=vs.length=rss.length/\∀(i:Nat) (v:V),vs[i]?=some v->∃r,rss[i]?=some r/\IT H v r
def Its.same{H H':Hp}{vs:qA V}{rss:LLI}(h:Its H vs rss)(s:Same H H'):Its H' vs rss:=⟨h.1,λi v e=>let ⟨r,e1,e2⟩:=h.2 i v e;⟨r,e1,e2.same s⟩⟩
def Its.nil:Its H [] []:=⟨rfl,λi v e=>by simp at e⟩
def Its.snoc{r:qI}(h:Its H vs rss)(d:IT H v r):Its H (vs++[v]) (rss++[r]):=by
 refine⟨by simp[h.1],λi u e=>?_⟩;by_cases hi:i<vs.length
 .rw[bw hi]at e;obtain⟨q,b,c⟩:=h.2 i u e;exact⟨q,by rw[bw (by rw[<-h.1];exact hi)];exact b,c⟩
 .rw[ba (by omega)]at e;have a:i-vs.length=0:=by
   have:=(aK.mp e).1;simp at this;omega
  rw[a]at e;simp at e;subst e;refine⟨r,?_,d⟩;rw[ba (by rw[<-h.1];omega),<-h.1,a];rfl
def Its.mem(h:Its H vs rss)(e:vs[i]?=some v):∃r,r∈rss/\rss[i]?=some r/\IT H v r :=
 let ⟨r,e1,e2⟩:=h.2 i v e
 ⟨r,aA e1,e1,e2⟩
def a4h{k1 k2:Bool}{ys:qI}(f:Int->Int->V)(t:xs.length<=1000)
  (c:∀H',Same H H'->SqK k1 K H' a (xs.map V.int)/\SqK k2 K H' b (ys.map V.int))
  (g:B1 src σ=none::none::caps) (n:∀x y H1 o,x∈xs->y∈ys->Same H H1->o (f x y) H1->te (some (.int x)::some (.int y)::caps) H1 o)
  (hd:∀H1 p,Same H H1->H1 p=none->Q (.ref p) (upd H1 p (.lst (List.zipWith f xs ys)))) :
  E3 src (a7n K 2 (W7 (B0 0) (W7 (B0 1) a8w))) I9 te σ Q (Itz K k1 k2 a b) H:=by
 have u:(1000:Nat)<=sizeLine:=by rw[aX];decide
 refine Z7 (xs:=xs.map V.int) (zs:=ys.map V.int) (by rw[G6];omega) (λi zs H'=>Same H H'/\zs=(List.zipWith f xs ys).take i) ⟨Same.refl H,by simp⟩ (λi zs H' _ _ h=>⟨(c H' h.1).1,(c H' h.1).2,by rw[h.2];exact bt _ _⟩) ?_ ?_
 .rintro i x z zs H' p hx hy ⟨s,rfl⟩ hp;obtain⟨m,k,q⟩:=S7 hx;obtain⟨d,l,r⟩:=S7 hy;subst q r;clear hx hy;have s':Same H (upd H' p (.tup [.int m,.int d])):=s.upd hp;refine⟨p,[.int m,.int d],rfl,SqT.of A0,rfl,.int m,[.int d],rfl,.int d,[],rfl,rfl,?_⟩;rw[g];show Sub _ (some (.int m)::some (.int d)::caps)/\_;refine⟨⟨rfl,λj v e=>?_⟩,?_⟩
  .match j,e with
   |0,e=>cases e
   |1,e=>cases e
   |j+2,e=>exact e
  .exact n m d _ _ (aA k) (aA l) s' ⟨s',(N2 f k l).symm⟩
 .rintro zs H' ⟨s,rfl⟩ p hp;have e:(List.zipWith f xs ys).take (min (xs.map V.int).length (ys.map V.int).length)=List.zipWith f xs ys:=by
   rw[G6,G6,bo];rw[eO];exact ak _
  rw[e];exact hd H' p s hp
def a8Y(f:qI->V)(m:vs.length<=1000)(b:∀H',Same H H'->SqT K H' a vs)(k:Its H vs rss)(c:B1 src σ=none::caps)
  (g:∀v r H1 j,r∈rss->IT H1 v r->Same H H1->(∀H2,Same H1 H2->j (f r) H2)->te (some v::caps) H1 j) (hd:∀H1 p,Same H H1->H1 p=none->Q (.ref p) (upd H1 p (.lst (rss.map f)))):E3 src (B0 0) I9 te σ Q (Itt K a) H:=by
 have n:(1000:Nat)<=sizeLine:=by rw[aX];decide
 refine U5 (xs:=vs) (by omega) (λi ys H'=>Same H H'/\ys=(rss.take i).map f) ⟨Same.refl H,by simp⟩ (λi ys H' _ h=>⟨b H' h.1,by rw[h.2,ag];exact bt _ _⟩) ?_ ?_
 .rintro i x ys H' hx ⟨s,rfl⟩;obtain⟨r,l,d,e⟩:=k.mem hx;show Sub _ ((B1 src σ).set 0 (some x))/\_;rw[c];refine⟨Sub.one,g x r H' _ l (e.same s) s λH2 s2=>⟨s.trans s2,?_⟩⟩;rw[bf,d];simp
 .rintro ys H' ⟨s,rfl⟩ p hp;rw[k.1,bx];exact hd H' p s hp
def b0T{j:TT}(t:Int->Bool)(k:xs.length<=1000)(b:∀H',Same H H'->SqL K H' a (xs.map V.int))(c:B1 src σ=none::caps)
  (f:∀x H1 g,x∈xs->Same H H1->g (t x) H1->j (some (.int x)::caps) H1 g) (hd:∀H1 p,Same H H1->H1 p=none->Q (.ref p) (upd H1 p (.lst ((xs.filter t).map V.int)))):E3 src (B0 0) j (P0 0) σ Q (Itl K a) H:=by
 have l:(1000:Nat)<=sizeLine:=by rw[aX];decide
 refine O8 (xs:=xs.map V.int) (by rw[G6];omega) (λi ys H'=>Same H H'/\ys=((xs.take i).filter t).map V.int) ⟨Same.refl H,by simp⟩ (λi ys H' _ h=>⟨b H' h.1,by rw[h.2,ag];exact a_ (bD _ _) (bt _ _)⟩) ?_ ?_
 .rintro i x ys H' hx ⟨s,rfl⟩;obtain⟨z,d,rfl⟩:=S7 hx;show Sub _ ((B1 src σ).set 0 (some (.int z)))/\_;rw[c];refine⟨Sub.one,f z H' _ (aA d) s ?_⟩;rw[bf,d];cases e:t z with
  |true=>exact⟨_,rfl,s,by simp[e]⟩
  |false=>exact⟨s,by simp[e]⟩
 .rintro ys H' ⟨s,rfl⟩ p hp;rw[G6,bx];exact hd H' p s hp
def b1H{k1 k2:Bool}{us:qA V}(f:Int->qI->V)(w:xs.length<=1000)
  (c:∀H',Same H H'->SqK k1 K H' a (xs.map V.int)/\SqK k2 K H' b us) (q:Its H us rss)
  (d:B1 src σ=none::none::caps) (n:∀x v r H1 o,x∈xs->r∈rss->IT H1 v r->Same H H1->o (f x r) H1->te (some (.int x)::some v::caps) H1 o)
  (hd:∀H1 p,Same H H1->H1 p=none->Q (.ref p) (upd H1 p (.lst (List.zipWith f xs rss)))) :
  E3 src (a7n K 2 (W7 (B0 0) (W7 (B0 1) a8w))) I9 te σ Q (Itz K k1 k2 a b) H:=by
 have y:(1000:Nat)<=sizeLine:=by rw[aX];decide
 refine Z7 (xs:=xs.map V.int) (zs:=us) (by rw[G6];omega) (λi zs H'=>Same H H'/\zs=(List.zipWith f xs rss).take i) ⟨Same.refl H,by simp⟩ (λi zs H' _ _ h=>⟨(c H' h.1).1,(c H' h.1).2,by rw[h.2];exact bt _ _⟩) ?_ ?_
 .rintro i x z zs H' p hx hy ⟨s,rfl⟩ hp;obtain⟨k,g,t⟩:=S7 hx;subst t;obtain⟨r,u,l,m⟩:=q.mem hy;have s':Same H (upd H' p (.tup [.int k,z])):=s.upd hp;refine⟨p,[.int k,z],rfl,SqT.of A0,rfl,.int k,[z],rfl,z,[],rfl,rfl,?_⟩;rw[d];show Sub _ (some (.int k)::some z::caps)/\_;refine⟨⟨rfl,λj v e=>?_⟩,?_⟩
  .match j,e with
   |0,e=>cases e
   |1,e=>cases e
   |j+2,e=>exact e
  .exact n k z r _ _ (aA g) u (m.same s') s' ⟨s',(N2 f g l).symm⟩
 .rintro zs H' ⟨s,rfl⟩ p hp;have e:(List.zipWith f xs rss).take (min (xs.map V.int).length us.length)=List.zipWith f xs rss:=by
   rw[G6,q.1,bo];rw[eO];exact ak _
  rw[e];exact hd H' p s hp
def a7V{d:TT}(t:Nat->Bool)(f:n<=1000)(a:B1 src σ=none::caps)(b:∀(i:Nat) H1 (c:Bool->Hp->Prop),i<n->Same H H1->(∀H2,Same H1 H2->c (t i) H2)->d (some (.int i)::caps) H1 c)
  (hd:∀H1 p,Same H H1->H1 p=none->Q (.ref p) (upd H1 p (.lst ((((List.range n).filter t).map λ(i:Nat)=>(i:Int)).map V.int)))):E3 src (B0 0) d (P0 0) σ Q (Itr 0 n) H:=by
 refine a0W f a (λi ys H'=>Same H H'/\ys=(((List.range i).filter t).map λ(i:Nat)=>(i:Int)).map V.int) ⟨Same.refl H,rfl⟩ (λi ys H' h=>by rw[h.2,ag,ag];exact a_ (bD _ _) (by simp)) ?_ ?_
 .rintro i ys H' hi ⟨s,rfl⟩;refine b i H' _ hi s λH2 s2=>?_;rw[List.range_succ,List.filter_append];cases e:t i with
  |true=>exact⟨_,rfl,s.trans s2,by simp[e]⟩
  |false=>exact⟨s.trans s2,by simp[e]⟩
 .rintro ys H' ⟨s,rfl⟩ p hp;exact hd H' p s hp
def b3L:JS X st (λ_ _ _=>False):=⟨λ_ _ _ _ _ _ h=>h.elim⟩
end L2
namespace L2
open PySem PySem.Spec PyProof.Rows PySem.W
variable {A:Around}{C:qE}{H:Hp}{K:qF}{N ps:qA Str}{P:qG}{X:Cx}{base:Heap}{qM:Pos}{e:Expr}{es:qA Expr}{k:Nat}{mg:Str->qD qB}{sp:Sp}{t:TA}{w:World}{x:Str}
def b4j(p C:qE):HO:=.ext λh=>∃o,h.get? p=some o/\o.cls=.ref C
def ObjOk.there{h:Heap}{a:qE}{o:HO}(x:ObjOk P w H h a o):∃u,h.get? a=some u:=by
 induction o with
 |lst xs=>obtain⟨_,_,_,_,e⟩:=x;exact⟨_,e⟩
 |tup xs=>obtain⟨_,_,_,b,e,_⟩:=x;exact⟨_,e⟩
 |dK qL=>obtain⟨_,_,_,_,o,_,_,e,_⟩:=x;exact⟨_,e⟩
 |dT qL=>obtain⟨_,_,_,_,o,_,_,e,_⟩:=x;exact⟨_,e⟩
 |set S n=>obtain⟨o,_,_,_,e,_⟩:=x;exact⟨_,e⟩
 |ins C dx fs=>obtain⟨_,_,_,e,_⟩:=x;exact⟨_,e⟩
 |own y=>obtain⟨_,e⟩:=x;exact⟨_,e⟩
 |xd fs=>obtain⟨_,⟨_,_,_,e,_⟩,_⟩:=x;exact⟨_,e⟩
 |rng lo hi=>obtain⟨_,_,_,e⟩:=x;exact⟨_,e⟩
 |frz b u c=>obtain⟨e,_⟩:=x;exact⟨_,e⟩
 |tbl ps=>exact⟨_,x⟩
 |met f y=>exact⟨_,x⟩
 |ext φ=>exact x.2.1
def Cov(l:qA Env)(H:Hp)(h0 h B:Heap):Prop:=∀b o,h.get? b=some o->b∉frs l->(H b≠none∨∃o',h0.get? b=some o')->B.get? b=some o
def a3A{l:qA Env}{H':Hp}{h0 h1 h2 B:Heap}(f:Un (frs l) [] H H' h0 h1)(j:HOk P w H' h1)(d:Cov l H' h0 h1 B)(st:B.StaysIn h2)(t:h1.UpToSlots h2)(r:h1.FunFrames base l)(v:∀b∈frs l,H' b=none) :
  Un (frs l) [] H H' h0 h2/\HOk P w H' h2/\Cov l H' h0 h2 B:=by
 have A:∀b,H' b≠none->b∉frs l:=λb n c=>n (v b c);refine⟨⟨?_,?_,f.free,?_,f.tups,f.frzs,f.tbls⟩,?_,?_⟩
 .intro b o e n c hx;exact st b o (d b o (f.keep b o e n c hx) c (.inr ⟨o,e⟩))
 .intro b o e n c hx;obtain⟨sl,q⟩:=f.slot b o e n c hx;obtain⟨_,x,i,p⟩:=r.mem c;rw[q]at i;cases i;obtain⟨k,h⟩:=t b _ q p;exact⟨k,h⟩
 .intro b o e hx;obtain⟨g,q⟩:=f.there b o e hx;by_cases c:b∈frs l
  .obtain⟨_,x,i,p⟩:=r.mem c;rw[q]at i;cases i;obtain⟨k,h⟩:=t b _ q p;exact⟨_,h⟩
  .exact⟨g,st b g (d b g q c (.inr ⟨o,e⟩))⟩
 .intro a o e;refine(j a o e).stay (λb u c q=>?_) (λ_ q=>q) λ_ _ q=>q;have m:H' b≠none:=by
   rcases c with rfl|c
   .rw[e];intro z;cases z
   .rw[c];intro z;cases z
  exact st b u (d b u q (A b m) (.inl m))
 .intro b o e c ho;have ex:∃g,h1.get? b=some g:=by
   rcases ho with m|⟨o',q⟩
   .cases eq:H' b with
    |none=>exact absurd eq m
    |some u=>exact(j b u eq).there
   .exact f.there b o' q (by simp)
  obtain⟨g,y⟩:=ex;have h:=d b g y c ho;have s:=st b g h;rw[e]at s;cases s;exact h
def CXE(P:qG)(w:World):CXT:=λouter H s E e s' =>
 ∃(p C:qE) (H':Hp) (B:Heap) (a0:qB),e=.ref p/\s'.os=s.os/\AllBare s'.gens/\Un (frs outer) [] H H' s.heap s'.heap/\HOk P w H' s'.heap /\
  H' p=none/\Heap.FlyingW B outer p (.ref C) a0 s'.heap/\Cov outer H' s.heap s'.heap B/\E (.ref C) none H'
def b1U(C:qE)(E:XK)(t:TA):TS:=λ_ σ H=>t σ H λvs H1=>vs.length<=sizeLine/\E (.ref C) none H1
def b2Q{qual:Str}{scope:Scope}{f:qE}{cd:qB}{outer:qA Env}{s0:qC}{g:Hp}{E:XK}{bmB y:qA qB}{B X qP U d S:String}{np pos:Pos}
  (O:OwnCls x C bmB qP mg base) (Fn:ExcBaseFacts X qP S y) (G:bmB.contains (.type X)=true) (Y:ExcBaseFacts B U d bmB)
  (hg:Gl (X2 (CXE P w) P w K mg base N qual scope f cd A outer s0 g E) x)
  (ha:PA (X2 (CXE P w) P w K mg base N qual scope f cd A outer s0 g E) (e::es) t) (hd:(x==("__debug__" : Str))=false:=by decide)
  (v:starEach (e::es) (envOfC qual scope s0.heap.objs.size f cd)=(false,eval e (envOfC qual scope s0.heap.objs.size f cd))::starEach es (envOfC qual scope s0.heap.objs.size f cd):=by rfl)
  (R:(backTo qM (starEach es (envOfC qual scope s0.heap.objs.size f cd))).any (·.1)=false:=by rfl) :
  PS (X2 (CXE P w) P w K mg base N qual scope f cd A outer s0 g E) (.Raise (some (.Call (.Name x np) (e::es) [] qM)) none pos) (b1U C E t):=by
 intro qK s σ H D I h;obtain⟨tl,NC,nm,q,bs,k,sn,sub,ab,col,dd,k0,k1,k2,k3,k5,mN,hC,hN,Q,T⟩:=O.obj;refine wpAny_Raise_call_subU (C:=C) (nm:=nm) (q:=q) (N:=NC) (bs:=bs) (bm:=tl) (hdct:=k) (sn:=sn) (sub:=sub) (ab:=ab) (col:=col) (dd:=dd) (k0:=k0) (k1:=k1) (k2:=k2) (k3:=k3) (k5:=k5)
  Fn G Y (mN:=mN) (T.hasType Y.hasBase) (I.ok.hd rfl) (by show(backTo qM (starEach (e::es) (envOfC qual scope s0.heap.objs.size f cd))).any _=false;rw[v];show(false || (backTo qM (starEach es (envOfC qual scope s0.heap.objs.size f cd))).any (·.1))=false;rw[R];rfl) Q (V3 I hg O.bound ⟨rfl,?_⟩ hd)
 have j:=ha qM qK s σ H _ I h;have J:starEach (e::es) (X2 (CXE P w) P w K mg base N qual scope f cd A outer s0 g E).env=_:=v;rw[J]at j⊢;refine Calls.evalArgs_plain (cW j (λus s2 ⟨vs,H1,a,r,hl,q⟩=>⟨rfl,by rw[<-r.length];exact hl,a.bk _ _ hC,hN.keeps a.bk,T.keeps a.bk,λh' p M=>?_⟩) λ_ _ z=>z);have L:∀env∈(envOfC qual scope s0.heap.objs.size f cd::outer),∀b,env.frame=some b->b∈frs (envOfC qual scope s0.heap.objs.size f cd::outer):=λenv v b c=>cL.mpr ⟨env,v,c⟩;refine wpAny_leaves_madeW (base:=hideAll s2.heap (frs (envOfC qual scope s0.heap.objs.size f cd::outer))) (h:=s2.heap) a.ok.frames rfl (λb o q=>of_hideAll _ q) (funFrames_hide a.stack L) M λh2 t x1 x2 x3 x4=>?_;have n:∀b∈frs outer,b∈frs (envOfC qual scope s0.heap.objs.size f cd::outer):=λb c=>by
  obtain⟨env,h1,h2⟩:=cL.mp c;exact cL.mpr ⟨env,ar _ h1,h2⟩
 have m:∀b,b∉frs outer->b≠s0.heap.objs.size->b∉frs (envOfC qual scope s0.heap.objs.size f cd::outer):=λb h1 h2 h3=>by
  obtain⟨env,W,q2⟩:=cL.mp h3;rcases az.mp W with rfl|W
  .exact h2 (bF q2).symm
  .exact h1 (cL.mpr ⟨env,W,q2⟩)
 have F:Cov outer H1 s0.heap s2.heap (hideAll s2.heap (frs (envOfC qual scope s0.heap.objs.size f cd::outer))):=λb o eb nb c=>by
  refine hideAll_get _ eb (m b nb λz=>?_);subst z;rcases c with c|⟨o',c⟩
  .exact c a.free
  .exact absurd (aI c) (bV _)
 have hp:H1 p=none:=by
  cases eq:H1 p with
  |none=>rfl
  |some u =>
   obtain⟨o,Z⟩:=(a.hok p u eq).there;rw[M.new]at Z;cases Z
 obtain⟨U2,V,i⟩:=a3A (P:=P) (w:=w) (l:=outer) (H:=g) (H':=H1) (h0:=s0.heap) (h1:=s2.heap) (h2:=h2) a.base a.hok F x1.1 ((Heap.UpToSlots.of_keeps M.keeps).trans x4) a.funs λb c=>a.stkFree b (n b c);exact⟨p,C,H1,_,.ref t,rfl,a.os,a.bare,U2,V,hp,x1,i,q⟩
def XP(X:Cx)(qK:qA (qE×Obj))(R:St->qE->Hp->Prop)(e:qB)(s':qC):Prop :=
 ∃(σ1:St) (H1:Hp) (s1:qC) (p C:qE) (H':Hp) (B:Heap) (a0:qB),e=.ref p/\Inv X qK σ1 H1 s1/\s'.os=s1.os/\AllBare s'.gens/\Un (frs X.stack) [] H1 H' s1.heap s'.heap/\HOk X.prog X.w H' s'.heap /\
  H' p=none/\Heap.FlyingW B X.stack p (.ref C) a0 s'.heap/\Cov X.stack H' s1.heap s'.heap B/\R σ1 C H'
abbrev TX:=Ends->(St->qE->Hp->Prop)->St->Hp->Prop
def PSx(X:Cx)(sts:qA Stmt)(t:TX):Prop :=
 ∀(qK:qA (qE×Obj)) (s:qC) (σ:St) (H:Hp) (D:Ends) (R:St->qE->Hp->Prop),Inv X qK σ H s->t D R σ H->wpAny (model X.prog X.w) X.A (execs sts X.env) (SP X qK D) (XP X qK R) s
structure OkE(P:qG)(w:World)(K:qF)(mg:Str->qD qB)(base:Heap)(x:Str)(k:Nat)(ps:qA Str)(sp:Sp):Prop where
 ex:∃f fd,mg x=some (.ref f)/\PySem.W.keepIn K (.ref f)=true/\Binds K fd ps []/\FnOk P w K mg base (CXE P w) k f fd ps sp
def FunAt.okE{st:Stmt}(F:FunAt K mg x st ps)(S:FnScope N ps (A1 st))(e:∀vs H Q E,sp vs H Q E->vs.length=ps.length)
  (b:∀(a:qB) (f:qE) (A:Around) (outer:qA Env) (s:qC) (H:Hp) (vs:qA V) (Q:VK) (E:XK),Room k (A.deeper (envOfC x (A1 st) s.heap.objs.size f a))->sp vs H Q E ->
   ∃t,JB (X2 (CXE P w) P w K mg base N x (A1 st) f a A outer s H E) (E8 st) t/\t {nx:=λ_ H'=>Q .non H',rt:=Q} (start N vs) H):OkE P w K mg base x (k+1) ps sp:=by
 obtain⟨f,fd,h1,h2,i⟩:=F.ex;refine⟨f,fd,h1,h2.kp,i,?_⟩;obtain⟨oc,od,kV,g,pm,an,a,ct,m,rfl,l,c⟩:=h2.ex;refine b7C l c S e λA outer s H vs Q E j d=>?_;obtain⟨t,h,q⟩:=b a f A outer s H vs Q E j d;exact⟨t,h.h,q⟩
def b6U(i:Nat)(sp:Sp)(t:TA):TX:=λD R σ H=>t σ H λvs H1=>sp vs H1 (λv H2=>D.nx (σ.set i (some v)) H2) λc _ H'=>∃C,c=.ref C/\R σ C H'
def b5o{y:Str}{p pos pos':Pos}{i:Nat}(m:∀e s,¬X.xe e s)(O:OkE X.prog X.w X.K X.mg X.base x k ps sp)(Y:Room k X.A)(T:Gl X x)
  (M:X.N.Nodup) (hi:X.N[i]?=some y) (Z:Loc X.env.scope y) (N:PA X (e::es) t) (j:(x==("__debug__" : Str))=false:=by decide)
  (Q:starEach (e::es) X.env=(false,eval e X.env)::starEach es X.env:=by rfl) (l:(backTo qM (starEach es X.env)).any (·.1)=false:=by rfl)
  (hs:swapsWith (.Call (.Name x p) (e::es) [] qM) (some (.Name y pos')) pos.line X.env=pure false:=by rfl) (S:X.fn y=true∨X.env.scope.names.lookup y=some .local:=by first|exact .inl rfl|exact .inr rfl|assumption) :
  PSx X [.Assign [.Name y pos'] (.Call (.Name x p) (e::es) [] qM) pos] (b6U i sp t):=by
 intro qK s σ H D R I h;obtain⟨f,fd,W,U,P,F⟩:=O.ex;refine wpAny_execs_cons (wpAny_Assign_Name ?_ hs);refine cZ (V3 I T W ?_ j);refine PySem.W.callWith_K (h₀:=X.base) I.ok.mod.kin U (cW (N qM qK s σ H _ I h) (λd s1 ⟨vs,H1,a,r,q⟩=>⟨a.kIn,?_⟩) λe s z=>absurd z (m e s)) Q l;have V:d.length=ps.length:=by rw[<-r.length];exact F.len _ _ _ _ q
 have b:=P s1 d a.kIn (by rw[de];exact V);rw[de]at b;refine fN (cU (F.run X.A X.stack s1 H1 ⟨d,[]⟩ d vs _ _ Y a.env0 b r q) λr s' c=>?_);cases r with
 |error e =>
  obtain⟨p,C,H',B,a0,h1,h2,w,A,E,G,J,K,C',L,g⟩:=c;cases L;exact⟨σ,H1,s1,p,C,H',B,a0,h1,a,h2,w,A,E,G,J,K,g⟩
 |ok fl =>
  cases fl with
  |ret u =>
   obtain⟨v,H2,n,rv,q2⟩:=a.after c;exact a2I n M hi Z rv (λs2 o=>dQ ⟨_,H2,o,q2⟩) S
  |next=>exact False.elim c
  |brk=>exact False.elim c
  |cont=>exact False.elim c
section
variable {M:Model}{E:qH}
structure ClsX(K:qF)(C:qE)(above:qA qB):Prop where
 ex:∃nm q N bs bm hdct sn sub ab col dd k0 k1 k2 k3 k5 qP,K.lookup C=some (excClassObj nm q C N bs bm hdct sn sub ab col dd k0 k1 k2 k3 k5 qP)/\bm.contains (.type "BaseException")=true/\∀v∈above,bm.contains v=true
end
section
variable {qK:qA (qE×Obj)}{σ:St}{H1 H':Hp}{s1 s':qC}{p:qE}{B:Heap}{a0:qB}{h2:Heap}
def Inv.land(a:Inv X qK σ H1 s1)(e:s'.os=s1.os)(k:AllBare s'.gens)(g:Un (frs X.stack) [] H1 H' s1.heap s'.heap)(d:HOk X.prog X.w H' s'.heap)(i:s'.heap.FunFrames B X.stack)(c:Cov X.stack H' s1.heap s'.heap B)(st:B.StaysIn h2)(m:s'.heap.UpToSlots h2) :
  Inv X qK σ H' {s' with heap:=h2}:=by
 have j:∀b∈frs X.stack,H' b=none:=λb h=>by
  obtain⟨_,o,l,_⟩:=a.stack.mem h;exact g.free b o l (a.stkFree b h) (by simp)
 obtain⟨U2,f,_⟩:=a3A g d c st m i j;exact a.call' (ch:=[]) e U2 f k (λb z=>absurd z (by simp))
def Inv.landX(i:Inv X qK σ H1 s1)(t:s'.os=s1.os)(H:AllBare s'.gens)(A:Un (frs X.stack) [] H1 H' s1.heap s'.heap)(s:HOk X.prog X.w H' s'.heap)(hp:H' p=none)(F:s'.heap.FunFrames B X.stack)(j:Cov X.stack H' s1.heap s'.heap B)(c:Heap.FlyingW B X.stack p (.ref C) a0 h2)(N:s'.heap.UpToSlots h2) :
  Inv X qK σ (upd H' p (b4j p C)) {s' with heap:=h2}:=by
 have G:∀b∈frs X.stack,H' b=none:=λb h=>by
  obtain⟨_,o,r,_⟩:=i.stack.mem h;exact A.free b o r (i.stkFree b h) (by simp)
 obtain⟨U2,x,f⟩:=a3A A s j c.1 N F G;obtain⟨w,d,hcl⟩:=c.there;have v:p∉frs X.stack:=λh=>by
  obtain⟨_,o,r,J⟩:=c.2.2.1.mem h;obtain⟨K,vs,_,_,_,g,_,l,_⟩:=c.2.2.2;rw[r]at g;cases g;exact J vs l
 have m:∀o,s1.heap.get? p≠some o:=λo e=>by
  have:=f p w d v (.inr ⟨o,e⟩);rw[c.2.1]at this;cases this
 have E:Un (frs X.stack) [] H1 (upd H' p (b4j p C)) s1.heap h2:=by
  refine⟨U2.keep,U2.slot,λb o e n I=>?_,U2.there,λb xs e=>?_,λb o u e=>?_,λb ps e=>?_⟩
  .rw[A2 (by rintro rfl;exact m o e)];exact U2.free b o e n I
  .have q:=U2.tups b xs e;rw[A2 (by rintro rfl;rw[hp]at q;cases q)];exact q
  .have q:=U2.frzs b o u e;rw[A2 (by rintro rfl;rw[hp]at q;cases q)];exact q
  .obtain⟨more,q⟩:=U2.tbls b ps e;exact⟨more,by rw[A2 (by rintro rfl;rw[hp]at q;cases q)];exact q⟩
 have y:HOk X.prog X.w (upd H' p (b4j p C)) h2:=λa o e=>by
  by_cases D:a=p
  .subst D;rw[A0]at e;cases e;exact⟨⟨w,d,hcl⟩,⟨w,d⟩,λO P ⟨o,L,M⟩ k=>⟨o,k o L,M⟩⟩
  .rw[A2 D]at e;refine(x a o e).stay (λb u _ q=>q) (λb q=>?_) λb xs q=>?_
   .rw[A2 (by rintro rfl;rw[hp]at q;cases q)];exact q
   .rw[A2 (by rintro rfl;rw[hp]at q;cases q)];exact q
 exact i.call' (ch:=[]) t E y H (λb z=>absurd z (by simp))
end
section
variable {qK:qA (qE×Obj)}{σ:St}{s:qC}
abbrev Cx.held(X:Cx)(p:qE):Cx:={X with A:=X.A.mark (some (.ref p)),calm:=false,xe:=λ_ _=>False}
def Inv.held(I:Inv X qK σ H s)(p:qE):Inv (X.held p) qK σ H s :=
 ⟨⟨I.ok.mod,I.ok.kind,I.ok.glob,I.ok.blt,I.ok.above,I.ok.inj,I.ok.has,I.ok.cab,(λz=>by cases z),I.ok.frames,I.ok.stk,I.ok.exf,I.ok.bs,I.ok.bsz,I.ok.noex,I.ok.exfs,I.ok.funs,I.ok.frf⟩,I.os,I.bare,I.base,I.loc,I.cell,I.free,I.freeC,I.pin,I.hok,I.len⟩
def Inv.unheld{p:qE}(J:X.Ok)(I:Inv (X.held p) qK σ H s):Inv X qK σ H s :=
 ⟨J,I.os,I.bare,I.base,I.loc,I.cell,I.free,I.freeC,I.pin,I.hok,I.len⟩
end
structure JX(X:Cx)(sts:qA Stmt)(t:TX):Prop where
 h:PSx X sts t
section
variable {y:Str}{p pos pos':Pos}{i:Nat}
def b8R(O:OkE X.prog X.w X.K X.mg X.base x k ps sp)(l:Room k X.A)(j:Gl X x)(d:X.N.Nodup)(hi:X.N[i]?=some y)(m:Loc X.env.scope y)(f:JA X (e::es) t)(c:∀e s,¬X.xe e s:=by exact λ_ _ z=>z)(a:(x==("__debug__" : Str))=false:=by decide)
  (g:starEach (e::es) X.env=(false,eval e X.env)::starEach es X.env:=by rfl) (b:(backTo qM (starEach es X.env)).any (·.1)=false:=by rfl)
  (hs:swapsWith (.Call (.Name x p) (e::es) [] qM) (some (.Name y pos')) pos.line X.env=pure false:=by rfl) (h:X.fn y=true∨X.env.scope.names.lookup y=some .local:=by first|exact .inl rfl|exact .inr rfl|assumption) :
  JX X [.Assign [.Name y pos'] (.Call (.Name x p) (e::es) [] qM) pos] (b6U i sp t):=⟨b5o c O l j d hi m f.h a g b hs h⟩
end
def b3K{qual:Str}{scope:Scope}{f:qE}{cd:qB}{outer:qA Env}{s0:qC}{b:Hp}{E:XK}{bmB c:qA qB}{B j qP i a h:String}{np pos:Pos}
  (O:OwnCls x C bmB qP mg base) (l:ExcBaseFacts j qP h c) (d:bmB.contains (.type j)=true) (k:ExcBaseFacts B i a bmB)
  (o:Gl (X2 (CXE P w) P w K mg base N qual scope f cd A outer s0 b E) x)
  (m:JA (X2 (CXE P w) P w K mg base N qual scope f cd A outer s0 b E) (e::es) t) (hd:(x==("__debug__" : Str))=false:=by decide)
  (n:starEach (e::es) (envOfC qual scope s0.heap.objs.size f cd)=(false,eval e (envOfC qual scope s0.heap.objs.size f cd))::starEach es (envOfC qual scope s0.heap.objs.size f cd):=by rfl)
  (g:(backTo qM (starEach es (envOfC qual scope s0.heap.objs.size f cd))).any (·.1)=false:=by rfl) :
  JS (X2 (CXE P w) P w K mg base N qual scope f cd A outer s0 b E) (.Raise (some (.Call (.Name x np) (e::es) [] qM)) none pos) (b1U C E t):=⟨b2Q O l d k o m.h hd n g⟩
end L2
namespace L2
open PySem PySem.Spec PyProof.Rows PySem.W Builtin Builtin.ObjectAttr Builtin.Getset_descriptor
section
variable {K:qF}{prog:qG}{w:World}{A:Around}{E:qH}{h:Heap}{g:Array GenState}{d:Drawn}{t:Nat}{os:OsState}{a:qE}{o:Obj}{nm q:Str}{C N:qE}{bs bm:qA qB}{hdct:Bool}{sn:qA Str}{sub:qA qB}{ab:Bool}{col:qD Bool}{dd:qD qE}{k0 k1 k2 k3 k5:qD qB}{qP:String}
end
section
variable {X:Cx}{es:qA Expr}{e:Expr}{t:TA}{pos p:Pos}
def b8Z{x:Str}{v:V}{u:qB}(a:Gl X x)(b:X.mg x=some u)(r:RelV v u)(hd:(x==("__debug__" : Str))=false:=by decide):JE X (.Name x pos) (tC v):=⟨b5K a b r hd⟩
end
end L2
namespace L2
open PySem PySem.Spec PyProof.Rows
variable {H:Hp}{K:qF}{Q:VK}{a:qE}{rss:LLI}{src:qA (qJ)}{te:TE}{vs:qA V}{α:Type}
def a3y{ca:α->V}{xs:qA α}{i:Nat}{x:V}(h:(xs.map ca)[i]?=some x):∃z,xs[i]?=some z/\x=ca z:=by
 rw[aN]at h;cases e:xs[i]? with
 |none=>rw[e]at h;cases h
 |some z=>rw[e]at h;exact⟨z,rfl,(bF h).symm⟩
def b4J{β:Type}{σ caps:St}{k1 k2:Bool}{b:qE}(ca:α->V)(d:β->V){xs:qA α}{ys:qA β}(f:α->β->V)(u:xs.length<=1000)
  (c:∀H',Same H H'->SqK k1 K H' a (xs.map ca)/\SqK k2 K H' b (ys.map d))
  (k:B1 src σ=none::none::caps) (o:∀x y H1 q,x∈xs->y∈ys->Same H H1->(∀H2,Same H1 H2->q (f x y) H2)->te (some (ca x)::some (d y)::caps) H1 q)
  (hd:∀H1 p,Same H H1->H1 p=none->Q (.ref p) (upd H1 p (.lst (List.zipWith f xs ys)))) :
  E3 src (a7n K 2 (W7 (B0 0) (W7 (B0 1) a8w))) I9 te σ Q (Itz K k1 k2 a b) H:=by
 have w:(1000:Nat)<=sizeLine:=by rw[aX];decide
 refine Z7 (xs:=xs.map ca) (zs:=ys.map d) (by rw[ag];omega) (λi zs H'=>Same H H'/\zs=(List.zipWith f xs ys).take i) ⟨Same.refl H,by simp⟩ (λi zs H' _ _ h=>⟨(c H' h.1).1,(c H' h.1).2,by rw[h.2];exact bt _ _⟩) ?_ ?_
 .rintro i x z zs H' p hx hy ⟨s,rfl⟩ hp;obtain⟨n,l,r⟩:=a3y hx;obtain⟨g,m,t⟩:=a3y hy;subst r t;clear hx hy;have s':Same H (upd H' p (.tup [ca n,d g])):=s.upd hp;refine⟨p,[ca n,d g],rfl,SqT.of A0,rfl,ca n,[d g],rfl,d g,[],rfl,rfl,?_⟩;rw[k];show Sub _ (some (ca n)::some (d g)::caps)/\_;refine⟨⟨rfl,λj v e=>?_⟩,?_⟩
  .match j,e with
   |0,e=>cases e
   |1,e=>cases e
   |j+2,e=>exact e
  .exact o n g _ _ (aA l) (aA m) s' λH2 s2=>⟨s'.trans s2,(N2 f l m).symm⟩
 .rintro zs H' ⟨s,rfl⟩ p hp;have e:(List.zipWith f xs ys).take (min (xs.map ca).length (ys.map d).length)=List.zipWith f xs ys:=by
   rw[ag,ag,bo];rw[eO];exact ak _
  rw[e];exact hd H' p s hp
def b0e{σ caps:St}(ca:α->V){xs:qA α}{j:TT}(t:α->Bool)(k:xs.length<=1000)(b:∀H',Same H H'->SqT K H' a (xs.map ca))(c:B1 src σ=none::caps)
  (f:∀x H1 (g:Bool->Hp->Prop),x∈xs->Same H H1->(∀H2,Same H1 H2->g (t x) H2)->j (some (ca x)::caps) H1 g) (hd:∀H1 p,Same H H1->H1 p=none->Q (.ref p) (upd H1 p (.lst ((xs.filter t).map ca)))):E3 src (B0 0) j (P0 0) σ Q (Itt K a) H:=by
 have l:(1000:Nat)<=sizeLine:=by rw[aX];decide
 refine U5 (xs:=xs.map ca) (by rw[ag];omega) (λi ys H'=>Same H H'/\ys=((xs.take i).filter t).map ca) ⟨Same.refl H,by simp⟩ (λi ys H' _ h=>⟨b H' h.1,by rw[h.2,ag];exact a_ (bD _ _) (bt _ _)⟩) ?_ ?_
 .rintro i x ys H' hx ⟨s,rfl⟩;obtain⟨z,d,rfl⟩:=a3y hx;show Sub _ ((B1 src σ).set 0 (some (ca z)))/\_;rw[c];refine⟨Sub.one,f z H' _ (aA d) s λH2 s2=>?_⟩;rw[bf,d];cases e:t z with
  |true=>exact⟨_,rfl,s.trans s2,by simp[e]⟩
  |false=>exact⟨s.trans s2,by simp[e]⟩
 .rintro ys H' ⟨s,rfl⟩ p hp;rw[ag,bx];exact hd H' p s hp
def b6Q{c:LLI}:((List.range (min rss.length c.length)).all (λj=>decide (rss.getD j []=c.getD j [])) && rss.length==c.length)=decide (rss=c):=by
 rw[cg];simp only[aJ,aH,bb,bz,bj];constructor
 .rintro⟨h1,h2⟩;refine fE h2 λi a b=>?_;have:=h1 i (by omega);simpa[aB,a,b]using this
 .rintro rfl;exact⟨λ_ _=>rfl,rfl⟩
def EqV.its{k:Bool}{b:qE}{d:qA V}{c:LLI}(e:SqK k K H a vs)(f:SqK k K H b d)(h1:Its H vs rss)(h2:Its H d c):EqV K H 2 (.ref a) (.ref b) (decide (rss=c)):=by
 have step:∀j x y,vs[j]?=some x->d[j]?=some y->EqV K H 1 x y (decide (rss.getD j []=c.getD j [])):=λj x y l m=>by
  obtain⟨r,g,ra,rfl,i⟩:=h1.2 j x l;obtain⟨q,eq,n,rfl,h⟩:=h2.2 j y m;rw[aB,aB,g,eq];exact EqV.ints (k:=true) (SqT.of i) (SqT.of h)
 rw[<-b6Q,<-h1.1,<-h2.1];cases k
 .exact EqV.lst (λj=>decide (rss.getD j []=c.getD j [])) e f step
 .exact EqV.tup (λj=>decide (rss.getD j []=c.getD j [])) e f step
def a0P{σ caps:St}(f:qI->V)(m:vs.length<=sizeLine)(b:∀H',Same H H'->SqT K H' a vs)(k:Its H vs rss)(c:B1 src σ=none::caps)
  (g:∀v r H1 j,r∈rss->IT H1 v r->Same H H1->(∀H2,Same H1 H2->j (f r) H2)->te (some v::caps) H1 j) (hd:∀H1 p,Same H H1->H1 p=none->Q (.ref p) (upd H1 p (.lst (rss.map f)))):E3 src (B0 0) I9 te σ Q (Itt K a) H:=by
 refine U5 (xs:=vs) (by omega) (λi ys H'=>Same H H'/\ys=(rss.take i).map f) ⟨Same.refl H,by simp⟩ (λi ys H' _ h=>⟨b H' h.1,by rw[h.2,ag];exact bt _ _⟩) ?_ ?_
 .rintro i x ys H' hx ⟨s,rfl⟩;obtain⟨r,l,d,e⟩:=k.mem hx;show Sub _ ((B1 src σ).set 0 (some x))/\_;rw[c];refine⟨Sub.one,g x r H' _ l (e.same s) s λH2 s2=>⟨s.trans s2,?_⟩⟩;rw[bf,d];simp
 .rintro ys H' ⟨s,rfl⟩ p hp;rw[k.1,bx];exact hd H' p s hp
def Its.put{c:qE}{xs:qA V}{o:HO}(h:Its H vs rss)(b:H c=some (.lst xs)):Its (upd H c o) vs rss:=⟨h.1,λi v e=>let ⟨r,e1,a,e2,q⟩:=h.2 i v e;⟨r,e1,a,e2,by rw[A2 (J7 q b (by intro z;cases z))];exact q⟩⟩
open _root_.HT
section
variable {prog:qG}{w:World}{A:Around}{E:qH}{s:qC}
end
section
variable {X:Cx}{e:Expr}{lo hi:qD Expr}{tl th:TO}{pos p2:Pos}
def map_int_inj{a b:qI}:a.map V.int=b.map V.int↔a=b:=by
 constructor
 .intro h;induction a generalizing b with
  |nil=>cases b with
   |nil=>rfl
   |cons _ _=>cases h
  |cons x a c=>cases b with
   |nil=>cases h
   |cons y b =>
    rw[aW,aW]at h;injection h with h1 h2
    injection h1 with h1
    rw[h1,c h2]
 .rintro rfl;rfl
end
end L2
namespace L2
open PySem PySem.Spec PyProof.Rows
variable {A:Around}{C a:qE}{E Q:qH}{H H':Hp}{P:qG}{X:Cx}{e:Expr}{es:qA Expr}{h h':Heap}{qL:qA (qA Key×V)}{o:qD V}{qK:qA (qE×Obj)}{pos:Pos}{ps:qA Str}{s:qC}{sp:Sp}{ta te:TE}{u:qB}{v y:V}{w:World}{x:Str}{xs:qA (qA Key×qE×qB)}{σ:St}
section
variable {prog:qG}{k:Bool}
def b7F{α:Type}{M:Model}{c:Bool}{t u:Sem α}{Q:α->qC->Prop}(h1:wpAny M A t Q E s)(h2:wpAny M A u Q E s):wpAny M A (if c=true then t else u) Q E s:=by
 cases c
 .exact h2
 .exact h1
end
def a6a:bootBuiltins "enumerate"=some (.type "enumerate"):=by kernel_rfl
section
variable {M:Model}
def a2h{nm q:Str}{N:qE}{bs bm:qA qB}{hdct:Bool}{sn:qA Str}{sub:qA qB}{ab:Bool}{col:qD Bool}{dd:qD qE}{k0 k1 k2 k3 k5:qD qB}{qP:String}{g:Array GenState}{d:Drawn}{t:Nat}{os:OsState}{e:qE}{k:Obj}{Q:Bool->qC->Prop}
  (j:h.get? C=some (excClassObj nm q C N bs bm hdct sn sub ab col dd k0 k1 k2 k3 k5 qP)) (l:h.get? e=some k) (b:k.cls=.ref C)
  (a:bm.contains (.type "BaseException")=true) (m:Q true ⟨h,g,d,t,os⟩):wpAny M A (excMatches (.ref e) (.ref C)) Q E ⟨h,g,d,t,os⟩:=by
 have c:(Value.ref C::bm).contains (.type "BaseException")=true:=by rw[List.contains_cons,a,Bool.or_true]
 have i:(Value.ref C::bm).contains (.ref C)=true:=by rw[List.contains_cons];simp
 have f:=tc_notTuple;unfold excMatches
 repeat (first | (with_reducible refine wpAny_loadPart_at l ?_;rw[b])|with_reducible refine wpAny_loadPart_at j ?_ | (with_reducible refine wpAny_isSubtype_exc j ?_;first|rw[c]|rw[i])|wp_step)
 exact m
end
def b1T(K:qF)(D:qE)(tx:TX)(ts:TS):TS:=λDe σ H=>tx De (λσ1 C H'=>C=D/\∀p,H' p=none->ts De σ1 (upd H' p (b4j p C))) σ H
def b2P{body:qA Stmt}{tx:TX}{P:TS}{n:Str}{np m:Pos}{K:Stmt}{b:qA Stmt}{D:qE}(j:X.stack=X.env::X.outer)(w:X.env.frame=some X.env.locals)(hx:PSx X body tx)
  (hg:Gl X n) (hm:X.mg n=some (.ref D)) (Z:ClsX X.K D [])
  (y:∀p,PSs (X.held p) (K::b) P) (hd:(n==("__debug__" : Str))=false:=by decide) :
  PS X (.Try body [.ExceptHandler (some (.Name n np)) none (K::b) m] [] [] pos) (b1T X.K D tx P):=by
 intro qK s σ H G I h;refine wpAny_Try_except (cW (hx qK s σ H G _ I h) (λf s1 q=>?_) λe s' q=>?_)
 .cases f with
  |next=>exact dQ q
  |brk=>exact q
  |cont=>exact q
  |ret v=>exact q
 .obtain⟨σ1,H1,s1,p,C,H',B,a0,rfl,I1,hos,hbare,hU,hok,hp,fl,cov,hC,k⟩:=q;subst hC;have N:=fl.2.2.1;have l:=fl;rw[j]at l;refine wpAny_looks_onW (L:=X.env.locals) (by rw[<-j];exact I1.ok.frames) w l λh4 i E=>?_;refine wpAny_landsW i λW c d=>?_;rw[<-j]at c;have d:=E.trans d;have J:Inv X qK σ1 H' {s' with heap:=W}:=I1.land hos hbare hU hok N cov c.1 d;refine wpAny_handleBy_cons (codeAny_handlers_test ?_) (by intro q;cases q);refine V3 (X:=X.held p) (J.held p) hg hm ?_ hd;obtain⟨oe,x,hcl⟩:=c.there;obtain⟨a1,q',R,U,T,u,a2,O,S,M,V,j0,j1,j2,j3,j5,o,A,t,_⟩:=Z.ex;refine a2h (J.kIn _ _ A) x hcl t ?_;refine codeAny_handlers_suite ?_;refine lands_againW c λY r F=>?_;have Q:Inv X qK σ1 (upd H' p (b4j p C)) {s' with heap:=Y}:=I1.landX hos hbare hU hok hp N cov r (d.trans F);refine cW (y p qK _ _ _ G (Q.held p) (k p hp)) (λf s8 a=>?_) λ_ _ z=>False.elim z;cases f with
  |next=>obtain⟨σ2,H2,g,a⟩:=a;exact⟨σ2,H2,g.unheld I.ok,a⟩
  |brk=>obtain⟨σ2,H2,g,a⟩:=a;exact⟨σ2,H2,g.unheld I.ok,a⟩
  |cont=>obtain⟨σ2,H2,g,a⟩:=a;exact⟨σ2,H2,g.unheld I.ok,a⟩
  |ret v=>obtain⟨v',σ2,H2,g,rv,a⟩:=a;exact⟨v',σ2,H2,g.unheld I.ok,rv,a⟩
section
variable {k:Nat}{p qM:Pos}{t:TA}
def b3J(K:qF){body:qA Stmt}{tx:TX}{h:TS}{c:Str}{np b:Pos}{g:Stmt}{a:qA Stmt}{D:qE}(m:JX X body tx)(k:Gl X c)(l:X.mg c=some (.ref D))(i:ClsX K D [])
  (f:∀p,JB (X.held p) (g::a) h) (j:X.K=K:=by rfl) (e:X.stack=X.env::X.outer:=by rfl) (d:X.env.frame=some X.env.locals:=by rfl) (hd:(c==("__debug__" : Str))=false:=by decide) :
  JS X (.Try body [.ExceptHandler (some (.Name c np)) none (g::a) b] [] [] pos) (b1T K D tx h):=by
 subst j;exact⟨b2P e d m.h k l i (λp=>(f p).h) hd⟩
end
section
variable (P:qG)(w:World)
end
section
variable {o:HO}
end
section
variable {x e:qE}{o':HO}
end
section
variable {fs fs' ex ex':qA qE}{H1 H2:Hp}{h1 h2:Heap}{x e:qE}{o:HO}
end
section
variable {σ:qA (qD V)}
end
section
variable {a b:Expr}{tb:TE}
variable {tA tB':TT}{rest:qA Expr}
end
section
variable {xs ys:qA V}
end
section
variable {st:Stmt}{rest:qA Stmt}{t u:TS}
end
section
variable {tg:Expr}
end
section
variable {a b c:Expr}{tb tc:TE}
end
section
variable {prog:qG}{K:qF}{x dx f:qE}{mA:Str->qD qB}{name:Str}{v:qB}
end
section
variable {dx:qE}{fs fs':qA (Str×V)}
end
section
variable {dx:qE}{fs:qA (Str×V)}{f:Str}
end
section
variable {o value:Expr}{f:Str}{pos' tpos:Pos}{tv:TE}
end
section
variable {c:qB}{b:Bool}
end
section
variable {t:TA}
end
section
variable {s':qC}
end
section
variable {CX:CXT}{k:Nat}{f:qE}{fd:FuncData}{dvs:qA V}{ds:qA qB}{E:XK}{m:Str}{p qO:Pos}{o:Expr}{t:TA}
end
section
variable {CX:CXT}{k:Nat}{f:qE}{fd:FuncData}{ks:qA Str}{E:XK}{m:Str}{p qO kpos:Pos}{o:Expr}{kws:qA Keyword}{t tk:TA}{nm:qD Str}
variable {g:qA qB->qA qB->qA qB}{gV:qA V->qA V->qA V}
end
section
variable {p:Pos}{t:TA}{id T:String}{r:qA V->Hp->VK->Prop}
end
section
variable {κ:Type}[DecidableEq κ]
def T8(qL:qA (κ×V))(k:κ):qD V:=(qL.find? λkv=>decide (kv.1=k)).map (·.2)
def a0w(qL:qA (κ×V))(k:κ)(v:V):qA (κ×V) :=
 if (qL.any λkv=>decide (kv.1=k))=true then qL.map (λkv=>if kv.1=k then(kv.1,v)else kv)else qL++[(k,v)]
def a2E{p:κ×V}{r:qA (κ×V)}{k:κ}(e:p.1=k):T8 (p::r) k=some p.2:=by simp[T8,dU,e]
def a2F{p:κ×V}{r:qA (κ×V)}{k:κ}(e:¬p.1=k):T8 (p::r) k=T8 r k:=by simp[T8,dU,e]
def T7(k:κ):∀qL:qA (κ×V),(qL.any λa=>decide (a.1=k))=(T8 qL k).isSome
 |[]=>rfl
 |p::r=>by
  rw[fB];by_cases e:p.1=k
  .simp only[a2E e,aU e,Bool.true_or,Option.isSome_some]
  .rw[a2F e,bg e,cQ];exact T7 k r
def a1S(qL:qA (κ×V))(k:κ)(v:V):(a0w qL k v).length<=qL.length+1:=by
 unfold a0w;split
 .rw[ag];omega
 .rw[au,aY,eR];omega
def a6J{qL:qA (κ×V)}{k:κ}(v:V)(h:T8 qL k=none):a0w qL k v=qL++[(k,v)]:=by
 unfold a0w;rw[T7,h];exact aq (by decide)
def RelO.isSome_eq{u:qD qB}(r:RelO o u):o.isSome=u.isSome:=by
 cases o with
 |none=>cases u with
  |none=>rfl
  |some _=>exact(show False from r).elim
 |some _=>cases u with
  |none=>exact(show False from r).elim
  |some _=>rfl
def KV.val{qL:qA (κ×V)}{vs:qA (κ×qB)}(r:KV qL vs)(k:κ):RelO (T8 qL k) (valueAt vs k):=by
 unfold KV at r;induction r with
 |nil=>exact True.intro
 |@cons p q ps qs h t a =>
  obtain⟨h1,h2⟩:=h;by_cases e:p.1=k
  .have e':q.1=k:=h1.symm.trans e;have b:valueAt (q::qs) k=some q.2:=by simp[valueAt,dU,e']
   rw[a2E e,b];exact h2
  .have e':¬q.1=k:=λz=>e (h1.trans z);have b:valueAt (q::qs) k=valueAt qs k:=by simp[valueAt,dU,e']
   rw[a2F e,b];exact a
def KV.any{qL:qA (κ×V)}{vs:qA (κ×qB)}(r:KV qL vs)(k:κ):(qL.any λa=>decide (a.1=k))=vs.any λa=>decide (a.1=k):=by
 unfold KV at r;induction r with
 |nil=>rfl
 |cons h t b=>rw[fB,fB,b,h.1]
def KV.repl{qL:qA (κ×V)}{vs:qA (κ×qB)}(r:KV qL vs)(k:κ)(c:RelV y u) :
  KV (qL.map λa=>if a.1=k then(a.1,y)else a) (vs.map λa=>if a.1=k then(a.1,u)else a):=by
 unfold KV at r⊢;induction r with
 |nil=>exact .nil
 |@cons p q ps qs h t b =>
  rw[aW,aW];refine .cons ?_ b;obtain⟨h1,h2⟩:=h;by_cases e:p.1=k
  .rw[aD e,aD (h1.symm.trans e)];exact⟨h1,c⟩
  .rw[aq e,aq (λz=>e (h1.trans z))];exact⟨h1,h2⟩
def KV.put{qL:qA (κ×V)}{vs:qA (κ×qB)}(r:KV qL vs)(k:κ)(a:RelV y u):KV (a0w qL k y) (stored vs k u):=by
 unfold a0w stored;rw[r.any k];by_cases e:(vs.any λb=>decide (b.1=k))=true
 .rw[aD e,aD e];exact r.repl k a
 .rw[aq e,aq e];exact Paired.snoc r ⟨rfl,a⟩
def KV.length{qL:qA (κ×V)}{vs:qA (κ×qB)}(r:KV qL vs):qL.length=vs.length:=Paired.length r
end
def a9C{k:Key}(r:RelV (kV k) u):(C0 P w).is k u=true:=by
 cases k with
 |inl i=>obtain⟨t,e⟩:=(show ∃t,u=Value.int i t from r);subst e;exact a6U P w i t
 |inr x=>obtain⟨t,e⟩:=(show ∃t,u=Value.str x t from r);subst e;exact a6T P w x t
def a4I{P:qG}{w:World}:∀{ks:qA Key}{us:qA qB},Vals (ks.map kV) us->ItemsAre (C0 P w) ks us
 |[],_,r=>by rw[dH]at r;cases r;exact .nil
 |k::ks,_,r=>by
  rw[aW]at r;cases r with
  |cons h t=>exact .cons (a9C h) (a4I t)
abbrev KT(H:Hp):qA (qA Key×V)->qA (qA Key×qE×qB)->Prop:=Paired λp q=>p.1=q.1/\H q.2.1=some (.tup (p.1.map kV))/\RelV p.2 q.2.2
def KT.val(r:KT H qL xs)(k:qA Key):RelO (T8 qL k) ((atKey xs k).map (·.2)):=by
 induction r with
 |nil=>exact True.intro
 |@cons p q ps qs h t a =>
  obtain⟨h1,_,h2⟩:=h;by_cases e:p.1=k
  .have e':q.1=k:=h1.symm.trans e;have b:atKey (q::qs) k=some q.2:=by simp[atKey,dU,e']
   rw[a2E e,b];exact h2
  .have e':¬q.1=k:=λz=>e (h1.trans z);have b:atKey (q::qs) k=atKey qs k:=by simp[atKey,dU,e']
   rw[a2F e,b];exact a
def KT.repl(r:KT H qL xs)(k:qA Key)(d:RelV y u) :
  KT H (qL.map λa=>if a.1=k then(a.1,y)else a) (xs.map (putAt k u)):=by
 induction r with
 |nil=>exact .nil
 |@cons p q ps qs h t c =>
  rw[aW,aW];refine .cons ?_ c;obtain⟨h1,h2,b⟩:=h;unfold putAt;by_cases e:p.1=k
  .rw[aD e,aD (h1.symm.trans e)];exact⟨h1,h2,d⟩
  .rw[aq e,aq (λz=>e (h1.trans z))];exact⟨h1,h2,b⟩
def KT.put(r:KT H qL xs)(k:qA Key){b:qE}(c:H b=some (.tup (k.map kV)))(a:RelV y u) :
  KT H (a0w qL k y) (storedH xs k b u):=by
 have e:(qL.any λd=>decide (d.1=k))=(atKey xs k).isSome:=by
  rw[T7,(r.val k).isSome_eq,Option.isSome_map]
 unfold a0w storedH;rw[e];by_cases q:(atKey xs k).isSome=true
 .rw[aD q,aD q];exact r.repl k a
 .rw[aq q,aq q];exact Paired.snoc r ⟨rfl,c,a⟩
def KT.keeps(r:KT H qL xs)(a:∀b ys,H b=some (.tup ys)->H' b=some (.tup ys)):KT H' qL xs :=
 Paired.mapP r λ_ _ z=>⟨z.1,a _ _ z.2.1,z.2.2⟩
def b7b{u:HO}(ok:HOk P w H h)(e:Rd H a u):ObjOk P w H h a u:=e.ok ok
def b4r{qL:qA (Key×V)}(ok:HOk P w H h)(e:Rd H a (.dK qL)):qL.length<=sizeLine/\(a==sysModules)=false/\∃vs,KV qL vs/\h.DictOf (C0 P w) a vs :=
 show ObjOk P w H h a (.dK qL)from b7b ok e
def c0g{qL:qA (Key×V)}(ok:HOk P w H h)(e:H a=some (.dK qL)):qL.length<=sizeLine/\(a==sysModules)=false/\∃vs,KV qL vs/\h.DictOf (C0 P w) a vs:=b4r ok (.inl e)
def a1x{ks:qA Key}(ok:HOk P w H h)(e:H a=some (.tup (ks.map kV))):(tupleKind (C0 P w)).is h ks a:=by
 obtain⟨_,its,r,o,h1,h2,n,b⟩:=(show ObjOk P w H h a (.tup (ks.map kV))from ok a _ e);exact⟨o,its.toArray,n,h1,h2,b,by simpa using a4I r⟩
def b4o(ok:HOk P w H h)(e:Rd H a (.dT qL)):qL.length<=sizeLine/\(a==sysModules)=false /\
  ∃xs,KT H qL xs/\h.DictOfH (tupleKind (C0 P w)) a xs:=by
 obtain⟨z,y,xs,r,o,es,ep,h1,h2,d,f,g⟩:=(show ObjOk P w H h a (.dT qL)from b7b ok e);refine⟨z,y,xs,r,o,es,ep,h1,h2,d,f,λx b=>?_,g⟩;have all:∀{l:qA (qA Key×V)}{m:qA (qA Key×qE×qB)},KT H l m->∀x∈m,(tupleKind (C0 P w)).is h x.1 x.2.1:=by
  intro l m q;induction q with
  |nil=>intro x b;exact nomatch b
  |@cons p q ps qs c t i =>
   intro x b;rcases az.mp b with e|b
   .subst e;exact a1x ok (by rw[<-c.1];exact c.2.1)
   .exact i x b
 exact all r x b
def c0f(ok:HOk P w H h)(e:H a=some (.dT qL)):qL.length<=sizeLine/\(a==sysModules)=false /\
  ∃xs,KT H qL xs/\h.DictOfH (tupleKind (C0 P w)) a xs:=b4o ok (.inl e)
def DGet(H:Hp)(a:qE)(y:V)(r:qD V):Prop :=
 (∃qL k,Rd H a (.dK qL)/\y=kV k/\r=T8 qL k)∨∃qL k b,Rd H a (.dT qL)/\y=.ref b/\H b=some (.tup (k.map kV))/\r=T8 qL k
def DPut(H:Hp)(a:qE)(y v:V)(H':Hp):Prop :=
 (∃qL k,H a=some (.dK qL)/\y=kV k/\qL.length<sizeLine/\H'=upd H a (.dK (a0w qL k v))) ∨
 ∃qL k b,H a=some (.dT qL)/\y=.ref b/\H b=some (.tup (k.map kV))/\qL.length<sizeLine/\H'=upd H a (.dT (a0w qL k v))
def DGet.t{b:qE}{k:qA Key}(e:H a=some (.dT qL))(c:H b=some (.tup (k.map kV))):DGet H a (.ref b) (T8 qL k):=.inr ⟨qL,k,b,.inl e,rfl,c,rfl⟩
def DPut.t{b:qE}{k:qA Key}(e:H a=some (.dT qL))(c:H b=some (.tup (k.map kV)))(d:qL.length<sizeLine) :
  DPut H a (.ref b) v (upd H a (.dT (a0w qL k v))):=.inr ⟨qL,k,b,e,rfl,c,d,rfl⟩
section
variable {r:qB}
def Inv.big(I:Inv X qK σ H s):sysModules<s.heap.objs.size:=by
 have h:mainGlobals<s.heap.objs.size:=(I.mod.glob.keeps I.bk).lt;exact ei (by decide) h
def c0n(j:A.units+1<cLine)(I:Inv X qK σ H s)(g:DGet H a y o)(f:RelV y u)(h:∀s',Inv X qK σ H s'->Q (.bool o.isSome) s') :
  wpAny (model X.prog X.w) A (compareOp .In u (.ref a)) Q E s:=by
 rcases g with⟨qL,k,e,d,l⟩|⟨qL,k,b,e,d,i,l⟩
 .subst d;obtain⟨z,hd,vs,c,dd⟩:=b4r I.hok e;refine wpAny_in_of (a9C f) hd dd.mapOf ?_;rw[<-(c.val k).isSome_eq,<-l];exact h _ (I.tok _)
 .subst d;cases(show u=Value.ref b from f);obtain⟨z,hd,xs,c,dd⟩:=b4o I.hok e;refine wpAny_in_heap (tupleKind_room_in1 j) (a1x I.hok i) hd dd ?_;have q:=(c.val k).isSome_eq;rw[Option.isSome_map]at q;rw[<-q,<-l];exact h _ (I.tok _)
def b6F(j:A.units+1<cLine)(I:Inv X qK σ H s)(g:DGet H a y o)(f:RelV y u)(h:∀s',Inv X qK σ H s'->Q (.bool (!o.isSome)) s') :
  wpAny (model X.prog X.w) A (compareOp .NotIn u (.ref a)) Q E s:=by
 rcases g with⟨qL,k,e,d,l⟩|⟨qL,k,b,e,d,i,l⟩
 .subst d;obtain⟨z,hd,vs,c,dd⟩:=b4r I.hok e;refine wpAny_notIn_of (a9C f) hd dd.mapOf ?_;rw[<-(c.val k).isSome_eq,<-l];exact h _ (I.tok _)
 .subst d;cases(show u=Value.ref b from f);obtain⟨z,hd,xs,c,dd⟩:=b4o I.hok e;refine wpAny_notIn_heap (tupleKind_room_in1 j) (a1x I.hok i) hd dd ?_;have q:=(c.val k).isSome_eq;rw[Option.isSome_map]at q;rw[<-q,<-l];exact h _ (I.tok _)
def a9R{t':Nat}{c:HO}(I:Inv X qK σ H s)(g:Mut (H a))(hs:Heap.SameBut a s.heap h')(f:∃q,h'.get? a=some q)(new:ObjOk X.prog X.w (upd H a c) h' a c) :
  Inv X qK σ (upd H a c) {s with heap:=h',toks:=t'} :=
 I.write (x:=a) (e:=a) g (.inl rfl) (λb q d z=>(hs.2 b d).trans z) f new
def b9j{qL:qA (Key×V)}{vs:qA (Key×qB)}(z:qL.length<=sizeLine)(hd:(a==sysModules)=false)(b:KV qL vs)(dd:h'.DictOf (C0 P w) a vs) :
  ObjOk P w H' h' a (.dK qL):=⟨z,hd,vs,b,dd⟩
def b1n{Q:Unit->qC->Prop}(G:A.units+1<cLine)(I:Inv X qK σ H s)(g:DPut H a y v H')(x:RelV y u)(w:RelV v r)(h:∀s',Inv X qK σ H' s'->Q () s') :
  wpAny (model X.prog X.w) A (setItem (.ref a) u r) Q E s:=by
 rcases g with⟨qL,k,e,m,l,j⟩|⟨qL,k,b,e,m,p,l,j⟩
 .subst m j;obtain⟨z,hd,vs,d,dd⟩:=c0g I.hok e;have o:vs.length<=sizeLine:=by rw[<-d.length];exact z
  have n:(a0w qL k v).length<=sizeLine:=by have:=a1S qL k v;omega
  refine wpAny_setItem_pairs (hsz:=o) (a9C x) dd λh' f hs=>h _ ?_;have F:∃q,h'.get? a=some q:=let ⟨q,_,_,i,_⟩:=f;⟨q,i⟩
  exact a9R I (by rw[e];exact True.intro) hs F (b9j n hd (d.put k w) f)
 .subst m j;cases(show u=Value.ref b from x);obtain⟨z,hd,xs,d,dd⟩:=c0f I.hok e;have o:xs.length<=sizeLine:=by rw[<-Paired.length d];exact z
  have n:(a0w qL k v).length<=sizeLine:=by have:=a1S qL k v;omega
  refine wpAny_setItem_heap (hsz:=o) (tupleKind_room_in1 G) (a1x I.hok p) dd λh' f hs=>h _ ?_;obtain⟨q,es,ep,i,h2,B,C,_,D⟩:=f;refine a9R I (by rw[e];exact True.intro) hs ⟨q,i⟩ ⟨n,hd,_,(d.put k p w).keeps λc ys t=>?_,q,es,ep,i,h2,B,C,D⟩;rw[A2 (J7 t e (λz=>nomatch z))];exact t
end
section
variable {qL:qA (Key×V)}{k:Key}
end
def b9F(ty td:TE):TE:=λσ H Q=>ty σ H λy H1=>td σ H1 λx H2=>∃a o,x=.ref a/\DGet H2 a y o/\Q (.bl o.isSome) H2
def a9b(ty td:TE):TE:=λσ H Q=>ty σ H λy H1=>td σ H1 λx H2=>∃a o,x=.ref a/\DGet H2 a y o/\Q (.bl (!o.isSome)) H2
def b7a(td ty tv:TE):TS:=λD σ H=>tv σ H λv H1=>td σ H1 λx H2=>ty σ H2 λy H3=>∃a H4,x=.ref a/\DPut H3 a y v H4/\D.nx σ H4
section
variable {o i value:Expr}{pos' tpos:Pos}{td ty tv:TE}
def b8r(f:X.A.units+1<cLine)(hi:PE X i ty)(e:PE X o td):PC X .In i o (b9F ty td):=by
 intro qK s σ H Q I h;refine thn (hi qK s σ H _ I h) λp s1 ⟨y,H1,b,n,k⟩=>thn (e qK s1 σ H1 _ b k) λu s2 ⟨x,H2,c,m,a,j,ex,g,l⟩=>?_;subst ex;obtain rfl:u=Value.ref a:=m;exact c0n f c g n λq d=>⟨.bl j.isSome,H2,d,rfl,l⟩
def b0D(f:X.A.units+1<cLine)(hi:PE X i ty)(e:PE X o td):PC X .NotIn i o (a9b ty td):=by
 intro qK s σ H Q I h;refine thn (hi qK s σ H _ I h) λp s1 ⟨y,H1,b,n,k⟩=>thn (e qK s1 σ H1 _ b k) λu s2 ⟨x,H2,c,m,a,j,ex,g,l⟩=>?_;subst ex;obtain rfl:u=Value.ref a:=m;exact b6F f c g n λq d=>⟨.bl (!j.isSome),H2,d,rfl,l⟩
def b5t(k:X.A.units+1<cLine)(j:PE X o td)(hi:PE X i ty)(l:PE X value tv)(hs:swapsWith value (some (.Subscript o i pos')) pos.line X.env=pure false) :
  PS X (.Assign [.Subscript o i pos'] value pos) (b7a td ty tv):=by
 intro qK s σ H D I h;refine wpAny_Assign_Subscript (thn (l qK s σ H _ I h) λr s1 ⟨v,H1,c,q,m⟩=>thn (j qK s1 σ H1 _ c m) λu s2 ⟨x,H2,d,t,n⟩=>thn (hi qK s2 σ H2 _ d n) λA B ⟨y,z,e,w,a,b,ex,g,p⟩=>?_) hs;subst ex;obtain rfl:u=Value.ref a:=t;exact b1n k e g w q λC f=>⟨σ,b,f,p⟩
end
def b4p(h:Heap)(a:sysModules<h.objs.size):ObjOk P w H (h.push {cls:=.type "dict",data:=.dict #[]}) h.objs.size (.dT []) :=
 ⟨br _,cz.mpr (dv (aV a)),[],.nil,_,#[],0,aC _ rfl,⟨rfl,rfl,rfl⟩,rfl,rfl,fc⟩
def b1V:TE:=λ_ H Q=>∀p,H p=none->Q (.ref p) (upd H p (.dT []))
def b3c:PE X (.Dict [] [] pos) b1V:=λqK s σ H Q I h =>
 wpAny_Dict_empty ⟨.ref s.heap.objs.size,_,I.laid (a:=s.heap.objs.size) (o:=.dT []) (t':=s.toks) (λ_ _ q=>ae _ q) (ak _) (b4p s.heap I.big),rfl,h _ (I.hok.fresh (ak _))⟩
section
variable {d:V}{r:qB}
end
section
variable {o f:Expr}{qO qM:Pos}{td ty tx:TE}
end
section
variable {qL:qA (Key×V)}
end
end L2
namespace Att
open PySem PySem.W PySem.Calls PyProof.Rows
section
variable {prog:qG}{w:World}{A:Around}{E:qH}{s:qC}{K:Frag}
end
end Att
namespace L2
open PySem PySem.Spec PyProof.Rows
end L2
namespace L2
open PySem PySem.Spec PyProof.Rows
section
variable {P:qG}{w:World}{K:qF}{mg:Str->qD qB}{base:Heap}
end
section
variable {X:Cx}
end
section
variable {κ:Type}[DecidableEq κ]
def b1P{qL:qA (κ×V)}{k:κ}(h:T8 qL k=none):¬k∈qL.map (·.1):=by
 intro m;obtain⟨p,a,e⟩:=aT.mp m;have q:(qL.any λb=>decide (b.1=k))=true:=bA.mpr ⟨p,a,aU e⟩;rw[T7,h]at q;exact absurd q (by simp)
def b4O{qL:qA (κ×V)}{k:κ}{v:V}(h:T8 qL k=some v):k∈qL.map (·.1):=by
 have q:(qL.any λb=>decide (b.1=k))=true:=by
  rw[T7,h]
  all_goals rfl
 obtain⟨p,a,e⟩:=bA.mp q;exact aT.mpr ⟨p,a,bE e⟩
def a9B:∀{l:qA κ}{k:κ},l.Nodup->¬k∈l->(l++[k]).Nodup
 |[],k,_,_=>by simp
 |a::r,k,h,b=>by
  obtain⟨h1,h2⟩:=cq.mp h;show(a::(r++[k])).Nodup;refine cq.mpr ⟨λm=>?_,a9B h2 λm=>b (az.mpr (Or.inr m))⟩;rcases ay.mp m with q|q
  .exact h1 q
  .exact b (az.mpr (Or.inl (aP.mp q).symm))
end
end L2
namespace L2
open PySem PySem.Spec PyProof.Rows PySem.W
variable {A:Around}{D:Keyed->Prop}{E:qH}{O:KeyOrd}{Q:qJ->SortSt->Prop}{X:Cx}{a ep i j k lo n:Nat}{a0 qN:Array Keyed}{d:qE}{es:Array DictEntry}{h:Heap}{key x:Keyed}{l rest:qA Keyed}{left:Bool}{prog:qG}{rss:LLI}{runs:qA (qA Keyed)}{s:qC}{st st':SortSt}{vs:qA qB}{w:World}{α:Type}{κ:SortKind}
section
variable {key:Nat->O.α}{N:Nat}{p:Array Nat}
def kk(key:Nat->O.α)(p:Array Nat)(i:Nat):O.α:=key (p[i]?.getD 0)
end
def L1:∀a:qI,HT.lexLt a a=false
 |[]=>rfl
 |x::xs=>by rw[HT.lexLt_cons,aD rfl];exact L1 xs
def a1s:∀a b c:qI,HT.lexLt a b=true->HT.lexLt b c=true->HT.lexLt a c=true
 |[],[],_,h,_=>by cases h
 |_::_,[],_,h,_=>by cases h
 |_,_::_,[],_,h=>by cases h
 |[],_::_,_::_,_,_=>rfl
 |x::xs,y::ys,z::zs,h1,h2=>by
  rw[HT.lexLt_cons]at h1 h2⊢;by_cases e:x=y
  .rw[aD e]at h1;by_cases d:y=z
   .rw[aD d]at h2;rw[aD (e.trans d)];exact a1s xs ys zs h1 h2
   .rw[aq d]at h2;rw[aq (by rw[e];exact d),e];exact h2
  .rw[aq e]at h1;have h1:=bE h1;by_cases d:y=z
   .rw[aq (by rw[<-d];exact e),<-d];exact aU h1
   .rw[aq d]at h2;have h2:=bE h2;rw[aq (by omega)];exact aU (by omega)
def O6:∀a b:qI,HT.lexLt a b=false->HT.lexLt b a=false->a=b
 |[],[],_,_=>rfl
 |[],_::_,h,_=>by cases h
 |_::_,[],_,h=>by cases h
 |x::xs,y::ys,h1,h2=>by
  rw[HT.lexLt_cons]at h1 h2;by_cases e:x=y
  .subst e;rw[aD rfl]at h1 h2;rw[O6 xs ys h1 h2]
  .rw[aq e]at h1;rw[aq (dv e)]at h2;have h1:=of_decide_eq_false h1;have h2:=of_decide_eq_false h2;omega
def b6h(a b c:qI)(h:HT.lexLt a c=true):HT.lexLt a b=true∨HT.lexLt b c=true:=by
 cases h1:HT.lexLt a b with
 |true=>exact .inl rfl
 |false =>
  refine .inr ?_;cases h2:HT.lexLt b a with
  |true=>exact a1s b a c h2 h
  |false=>rw[<-O6 a b h1 h2];exact h
def OL:KeyOrd:=⟨qI,HT.lexLt,L1,a1s,b6h,O6⟩
def E2(tss:LLI):Prop:=tss.Pairwise λa b=>HT.lexLt b a=false
def b6i(fin:Bool):qI->qI->Bool
 |[],_=>fin
 |_::_,[]=>fin
 |x::xs,y::ys=>if x=y then b6i fin xs ys else decide (x<y)
def a7b:∀(xs ys:qI),b6i (decide (xs.length<ys.length)) xs ys=HT.lexLt xs ys
 |[],[]=>rfl
 |[],y::ys=>by
  show decide (0<ys.length+1)=true;exact aU (by omega)
 |x::xs,[]=>by
  show decide (xs.length+1<0)=false;exact bg (by omega)
 |x::xs,y::ys=>by
  rw[HT.lexLt_cons];show(if x=y then _ else _)=_;split
  .rw[<-a7b xs ys];congr 1;simp only[aY];exact decide_eq_decide.mpr (by omega)
  .rfl
def b0H{c:Bool}{a b:Int}{t u:Tok}{Q:Bool->qC->Prop}(h:Q (decide (a<b)) s):wpAny (model prog w) A (oneLt' c (.int a t) (.int b u)) Q E s:=by
 cases c with
 |true=>exact oneLt_int h
 |false=>exact kat_one _ _ (lt_int h)
def a1U{b fin:Bool}{Q:Bool->qC->Prop}:∀{vs a:qA qB}{ns ms:qI}(i:Nat),IntsAre vs ns->IntsAre a ms->Q (b6i fin ns ms) s->KatLex prog w A b fin Q (vs.zip a) i s
 |_,_,_,_,i,.nil,_,h=>h
 |_,_,_,_,i,.cons _ _ _,.nil,h=>h
 |_,_,_,_,i,.cons x t c,.cons y u d,h=>by
  rw[List.zip_cons_cons];refine kat_cons (wpAny_eqBool_int ?_);have h:Q (if x=y then b6i fin _ _ else decide (x<y)) s:=h;by_cases e:x=y
  .rw[aD e]at h;rw[show(x==y)=true from bj.mpr e];exact kat_yes (a1U (i+1) c d h)
  .rw[aq e]at h;rw[show(x==y)=false from cz.mpr e];exact kat_no (b0H h)
def TupsAre(h:Heap)(vs:qA qB)(rss:LLI):Prop:=vs.length=rss.length/\∀(i:Nat) (v:qB),vs[i]?=some v->∃(r:qI) (b:qE) (its:Array qB),rss[i]?=some r/\v=Value.ref b/\IsTup h b its/\IntsAre its.toList r
def TupsAre.keeps{h':Heap}(t:TupsAre h vs rss)(k:∀b its,IsTup h b its->IsTup h' b its):TupsAre h' vs rss :=
 ⟨t.1,λi v e=>let ⟨r,b,its,e1,e2,e3,e4⟩:=t.2 i v e;⟨r,b,its,e1,e2,k _ _ e3,e4⟩⟩
def a6k{h:Heap}:∀{vs:qA qB}{rss:LLI},TupsAre h vs rss->(∀r∈rss,0<r.length)->∃fs,KatTups h vs fs/\fs.length=vs.length/\∀f∈fs,∃n t,f=Value.int n t
 |[],_,_,_=>⟨[],trivial,rfl,λ_ z=>nomatch z⟩
 |v::vs,[],T,_=>by cases T.1
 |v::vs,r::rss,T,hw=>by
  obtain⟨fs,h1,h2,p⟩:=a6k (vs:=vs) (rss:=rss) ⟨by have:=T.1;simpa using this,λi u e=>T.2 (i+1) u e⟩ λr c=>hw r (ar _ c);obtain⟨y,b,its,j,k,⟨o,q,s,n,w⟩,d⟩:=T.2 0 v rfl;cases j;have c:=hw r ao;obtain⟨x,t,g,m⟩:∃x t g,its.toList=Value.int x t::g:=by
   generalize its.toList=l at d;cases d with
   |nil=>simp at c
   |cons x t h=>exact⟨x,t,_,rfl⟩
  refine⟨.int x t::fs,⟨⟨b,o,its,n,k,q,s,w,?_⟩,h1⟩,by simp[h2],λf a=>?_⟩
  .rw[<-av,m];rfl
  .rcases az.mp a with rfl|a
   .exact⟨x,t,rfl⟩
   .exact p f a
def b0d{Q:SortKind->qC->Prop}(T:TupsAre s.heap vs rss)(hw:∀r∈rss,0<r.length)(a:0<vs.length)(h:Q (tuples' true) s):wpAny (model prog w) A (keyKind' vs.toArray) Q E s:=by
 obtain⟨fs,h1,h2,b⟩:=a6k T hw;refine kat_kind (T:=.type "int") h1 (by omega) (λv a=>?_) rfl ?_
 .obtain⟨n,t,rfl⟩:=b v a;exact .now
 .rw[show(Value.type "int" != Value.type "tuple")=true from rfl];exact h
def W3{a:qE}{out:Array qB}:∀b o,b≠a->h.get? b=some o->(sortedHeap h a vs out).get? b=some o:=λb o c e=>by
 unfold sortedHeap;rw[Heap.get?_update_ne _ _ _ _ c];exact ae _ (ae _ (by rw[Heap.get?_update_ne _ _ _ _ c];exact e))
def a0A{a:qE}{out:Array qB}(f:h.get? a=some (seqObj "list" vs.toArray n)):∃c,(sortedHeap h a vs out).get? a=some (seqObj "list" out c):=by
 unfold sortedHeap;have g:a<h.objs.size:=aI f;obtain⟨b,d⟩:∃b,(h.update a (Obj.mapSeq λ_=>#[])).get? a=some (seqObj "list" #[] b):=⟨_,get?_update_seq f (λ_=>#[])⟩;have e:(((h.update a (Obj.mapSeq λ_=>#[])).push (seqObj "tuple" vs.toArray 0)).push (seqObj "list" #[] 0)).get? a=some (seqObj "list" #[] b):=ae _ (ae _ d);exact⟨_,get?_update_seq e (λ_=>out)⟩
def a3t{qK:qA (qE×Obj)}{σ:St}{H:Hp}(I:Inv X qK σ H s){ys:qA V}{us:qA qB}(h:Its H ys rss)(r:Vals ys us):TupsAre s.heap us rss:=by
 refine⟨by rw[<-r.length];exact h.1,λi v e=>?_⟩;have hi:i<ys.length:=by rw[r.length];exact(aK.mp e).1
 obtain⟨u,c,d⟩:=r.get (aj hi);rw[e]at c;cases c;obtain⟨b,f,a,g,j⟩:=h.2 i _ (aj hi);rw[g]at d;cases d;obtain⟨its,k,l,_⟩:=I.tuple (SqT.of (K:=X.K) j);exact⟨b,a,its.toArray,f,rfl,l,by simpa using a8t k⟩
def S9:Bool->Keyed->Array Keyed->Nat->Nat->Nat->StateT SortSt Sem (qJ):=sortPriv% PySem.Builtin.gallop
def T3(left:Bool)(key:Keyed)(qN:Array Keyed)(base:Nat)(i:Nat):StateT SortSt Sem (qD Bool):=do
 let x <-elem' qN (base+i)
 if left then lt' x key else return (<-lt' key x).map (!·)
def b6K(left:Bool)(key:Keyed)(qN:Array Keyed)(base n lo₀ hi₀:Nat):StateT SortSt Sem (qJ):=do
 let mut lo:=lo₀
 let mut hi:=hi₀
 for _ in [0:n] do
  if lo ≥ hi then break
  let m:=lo+(hi-lo) / 2
  let some more <-T3 left key qN base m|return none
  if more then lo:=m+1 else hi:=m
 return some hi
def a8v(left:Bool)(key:Keyed)(qN:Array Keyed)(base n a:Nat):S9 left key qN base n a=(T3 left key qN base a>>=λr=>match r with
 |some right=>(if right=true then
   (forIn [:n] ((none,0,1):qD (qJ)×Nat×Nat) (λ_ c=>if c.2.2 ≥ n-a then pure (.done (none,c.2.1,c.2.2))else T3 left key qN base (a+c.2.2)>>=λr=>match r with
     |some more=>(if (!more)=true then pure (.done (none,c.2.1,c.2.2))else pure (.yield (none,c.2.2,2*c.2.2+1)))
     |_=>pure (.done (some none,c.2.1,c.2.2)))>>=λc=>match c.1 with
    |some r=>pure r
    |none=>b6K left key qN base n (a+c.2.1+1) (a+min c.2.2 (n-a)))
  else
   (forIn [:n] ((none,0,1):qD (qJ)×Nat×Nat) (λ_ c=>if c.2.2 ≥ a+1 then pure (.done (none,c.2.1,c.2.2))else T3 left key qN base (a-c.2.2)>>=λr=>match r with
     |some found=>(if found=true then pure (.done (none,c.2.1,c.2.2))else pure (.yield (none,c.2.2,2*c.2.2+1)))
     |_=>pure (.done (some none,c.2.1,c.2.2)))>>=λc=>match c.1 with
    |some r=>pure r
    |none=>b6K left key qN base n (a+1-min c.2.2 (a+1)) (a-c.2.1)))
 |_=>pure none):=by
 show(_>>=_)=(_>>=_);refine aL _ (funext λr=>?_);cases r with
 |none=>rfl
 |some right =>
  dsimp only;refine dE rfl (λ_=>?_) (λ_=>?_)
  .refine congr (aL _ (aL _ (funext λ_=>funext λc=>?_))) (funext λc=>?_)
   .rfl
   .rcases c with⟨_|q,c⟩<;>rfl
  .refine congr (aL _ (aL _ (funext λ_=>funext λc=>?_))) (funext λc=>?_)
   .rfl
   .rcases c with⟨_|q,c⟩<;>rfl
section
def Cmp(prog:qG)(w:World)(A:Around)(s:qC)(κ:SortKind)(D:Keyed->Prop)(lt:Keyed->Keyed->Bool):Prop :=
 ∀x y (C:Bool->qC->Prop),D x->D y->C (lt x y) s->wpAny (model prog w) A (keyLt' κ x.1 y.1) C (λ_ _=>False) s
variable {lt:Keyed->Keyed->Bool}
def a0N{y:Keyed}{Q:qD Bool->SortSt->Prop}(d:Cmp prog w A s κ D lt)(e:kindOf st=κ)(f:D x)(g:D y)(h:Q (some (lt x y)) st):wpS (model prog w) A E s (lt' x y) Q st:=by
 rw[lt'_eq];refine aE (fe ?_);rw[e];refine aE (wpS_lift (dj (cW (d x y (λb s'=>s'=s/\b=lt x y) f g ⟨rfl,rfl⟩) (λb s' ⟨a,c⟩=>?_) λ_ _ z=>z.elim)));rw[a,c];exact⟨rfl,aM h⟩
def b4G(lt:Keyed->Keyed->Bool)(left:Bool)(key x:Keyed):Bool:=if left then lt x key else !(lt key x)
def a7B{base:Nat}{Q:qD Bool->SortSt->Prop}(b:Cmp prog w A s κ D lt)(c:kindOf st=κ)(a:D key)(d:D x)(e:qN[base+i]?=some x)(h:Q (some (b4G lt left key x)) st) :
  wpS (model prog w) A E s (T3 left key qN base i) Q st:=by
 unfold T3;rw[elem'_eq,e];refine aE (aM ?_);unfold b4G at h;cases left with
 |true=>exact a0N b c d a h
 |false=>exact aE (a0N b c a d (aM h))
def a8W{base hi:Nat}(a:Nat->Bool)
  (m:∀i,i<n->∀{R:qD Bool->SortSt->Prop},R (some (a i)) st->wpS (model prog w) A E s (T3 left key qN base i) R st) (mono:∀i j,i<=j->j<n->a j=true->a i=true) (o:∀i j,i<=j->j<n->a i=false->a j=false)
  (h1:lo<=hi) (h2:hi<=n) (u:∀i,i<lo->a i=true) (v:∀i,hi<=i->i<n->a i=false)
  (h:∀k,k<=n->(∀i,i<k->a i=true)->(∀i,k<=i->i<n->a i=false)->Q (some k) st):wpS (model prog w) A E s (b6K left key qN base n lo hi) Q st:=by
 unfold b6K;dsimp only;refine aE (cB (cj (I:=λx c st'=>st'=st/\∃l r,c=(none,l,r)/\l<=r/\r<=n/\r-l<=n-x/\(∀i,i<l->a i=true)/\(∀i,r<=i->i<n->a i=false))
  (Q:=λc st'=>st'=st/\∃l,c=(none,l,l)/\l<=n/\(∀i,i<l->a i=true)/\(∀i,l<=i->i<n->a i=false)) ?step ?fin ⟨rfl,lo,hi,rfl,h1,h2,by omega,u,v⟩) ?post)
 case fin =>
  rintro c st' ⟨rfl,l,r,rfl,a1,b,t,d,f⟩;have e:l=r:=by omega
  subst e;exact⟨rfl,l,rfl,b,d,f⟩
 case step =>
  rintro x c st' _ y ⟨rfl,l,r,rfl,a1,b,t,d,f⟩;dsimp only;by_cases g:l ≥ r
  .rw[aD g];have e:l=r:=by omega
   subst e;exact aM ⟨rfl,l,rfl,b,d,f⟩
  .rw[aq g];have q:l+(r-l) / 2<n:=by omega
   refine aE (m _ q ?_);dsimp only;cases p:a (l+(r-l) / 2)with
   |true =>
    rw[aD rfl];exact aM ⟨rfl,_,r,rfl,by omega,b,by omega,λi hi=>mono i _ (by omega) q p,f⟩
   |false =>
    rw[aq (by simp)];exact aM ⟨rfl,l,_,rfl,by omega,by omega,by omega,d,λi h1 h2=>o _ i h1 h2 p⟩
 case post =>
  rintro c st' ⟨rfl,l,rfl,b,d,f⟩;exact aM (h l b d f)
def K8{base:Nat}(F:Cmp prog w A s κ D lt)(J:kindOf st=κ)(u:D key)(b:Nat->Bool)
  (r:∀i,i<n->∃x,qN[base+i]?=some x/\D x/\b4G lt left key x=b i) (mono:∀i j,i<=j->j<n->b j=true->b i=true) (G:a<n)
  (h:∀k,k<=n->(∀i,i<k->b i=true)->(∀i,k<=i->i<n->b i=false)->Q (some k) st):wpS (model prog w) A E s (S9 left key qN base n a) Q st:=by
 have m:∀i,i<n->∀{R:qD Bool->SortSt->Prop},R (some (b i)) st->wpS (model prog w) A E s (T3 left key qN base i) R st:=λi hi R hR=>by
  obtain⟨x,B,y,C⟩:=r i hi;exact a7B F J u y B (by rw[C];exact hR)
 have q:∀i j,i<=j->j<n->b i=false->b j=false:=λi j z H e=>by
  cases y:b j with
  |false=>rfl
  |true=>rw[mono i j z H y]at e;cases e
 rw[a8v];refine aE (m a G ?_);dsimp only;cases t:b a with
 |true =>
  rw[aD rfl];refine aE (cB (cj (I:=λx c st'=>st'=st/\∃l o,c=(none,l,o)/\l<o/\x+1<=o/\a+l<n/\b (a+l)=true)
   (Q:=λc st'=>st'=st/\∃l o,c=(none,l,o)/\l<o/\a+l<n/\b (a+l)=true/\(o ≥ n-a∨b (a+o)=false)) ?step ?fin ⟨rfl,0,1,rfl,by omega,by omega,by omega,t⟩) ?post)
  case fin =>
   rintro c st' ⟨rfl,l,o,rfl,a1,v,g,f⟩;exact⟨rfl,l,o,rfl,a1,g,f,.inl (by omega)⟩
  case step =>
   rintro x c st' _ K ⟨rfl,l,o,rfl,a1,v,g,f⟩;dsimp only;by_cases d:o ≥ n-a
   .rw[aD d];exact aM ⟨rfl,l,o,rfl,a1,g,f,.inl d⟩
   .rw[aq d];refine aE (m _ (by omega) ?_);dsimp only;cases r:b (a+o)with
    |true =>
     rw[aq (by simp)];exact aM ⟨rfl,o,2*o+1,rfl,by omega,by omega,by omega,r⟩
    |false =>
     rw[aD (by rfl)];exact aM ⟨rfl,l,o,rfl,a1,g,f,.inr r⟩
  case post =>
   rintro c st' ⟨rfl,l,o,rfl,a1,g,f,p⟩;dsimp only;refine a8W (lo:=a+l+1) (hi:=a+min o (n-a)) b m mono q (by omega) (by omega) (λi hi=>mono i (a+l) (by omega) g f) (λi h1 h2=>?_) h;rcases p with p|p
   .omega
   .exact q (a+o) i (by omega) h2 p
 |false =>
  rw[aq (by simp)];refine aE (cB (cj (I:=λx c st'=>st'=st/\∃l o,c=(none,l,o)/\l<o/\x+1<=o/\l<=a/\b (a-l)=false)
   (Q:=λc st'=>st'=st/\∃l o,c=(none,l,o)/\l<o/\l<=a/\b (a-l)=false/\(o ≥ a+1∨b (a-o)=true)) ?step ?fin ⟨rfl,0,1,rfl,by omega,by omega,by omega,t⟩) ?post)
  case fin =>
   rintro c st' ⟨rfl,l,o,rfl,a1,v,g,f⟩;exact⟨rfl,l,o,rfl,a1,g,f,.inl (by omega)⟩
  case step =>
   rintro x c st' _ K ⟨rfl,l,o,rfl,a1,v,g,f⟩;dsimp only;by_cases d:o ≥ a+1
   .rw[aD d];exact aM ⟨rfl,l,o,rfl,a1,g,f,.inl d⟩
   .rw[aq d];refine aE (m _ (by omega) ?_);dsimp only;cases r:b (a-o)with
    |true =>
     rw[aD rfl];exact aM ⟨rfl,l,o,rfl,a1,g,f,.inr r⟩
    |false =>
     rw[aq (by simp)];exact aM ⟨rfl,o,2*o+1,rfl,by omega,by omega,by omega,r⟩
  case post =>
   rintro c st' ⟨rfl,l,o,rfl,a1,g,f,p⟩;dsimp only;refine a8W (lo:=a+1-min o (a+1)) (hi:=a-l) b m mono q (by omega) (by omega) (λi hi=>?_) (λi h1 h2=>q (a-l) i h1 h2 f) h;rcases p with p|p
   .omega
   .exact mono i (a-o) (by omega) (by omega) p
end
section
variable {kf:Keyed->O.α}{la lb o:qA Keyed}{ia ib:Nat}
def leK(kf:Keyed->O.α)(x y:Keyed):Prop:=O.kle (kf x) (kf y)
def ltK(kf:Keyed->O.α)(x y:Keyed):Bool:=O.blt (kf x) (kf y)
structure MS(kf:Keyed->O.α)(la lb o:qA Keyed)(ia ib:Nat):Prop where
 perm:o.Perm (la.take ia++lb.take ib)
 sorted:o.Pairwise (leK kf)
 ra:∀x∈o,∀y∈la.drop ia,leK kf x y
 rb:∀x∈o,∀y∈lb.drop ib,leK kf x y
def a0p{l:qA α}{x:α}(h:l[i]?=some x):l.drop i=x::l.drop (i+1):=by
 obtain⟨hi,e⟩:=aK.mp h;rw[cy hi,e]
def X4(hs:l.Pairwise (leK kf))(h:l[i]?=some x):∀y∈l.drop (i+1),leK kf x y:=by
 have:=hs.drop (i:=i);rw[a0p h]at this;exact(cD.mp this).1
def U8{l:qA α}{x:α}(h:l[i]?=some x):l.take (i+1)=l.take i++[x]:=by
 rw[bf,h];rfl
def MS.stepA(h:MS kf la lb o ia ib)(hs:la.Pairwise (leK kf))(e:la[ia]?=some x)(c:∀y∈lb.drop ib,leK kf x y):MS kf la lb (o++[x]) (ia+1) ib:=by
 have d:x∈la.drop ia:=by rw[a0p e];exact ao
 refine⟨?_,?_,λz b y a=>?_,λz b y a=>?_⟩
 .rw[U8 e];have:=h.perm.append_right [x];refine this.trans ?_;rw[aG,aG];exact ck _ cC
 .rw[bB];exact⟨h.sorted,List.pairwise_singleton _ _,λz b y a=>by rw[aP.mp a];exact h.ra z b x d⟩
 .have hy':y∈la.drop ia:=by rw[a0p e];exact ar _ a
  rcases ay.mp b with q|q
  .exact h.ra z q y hy'
  .rw[aP.mp q];exact X4 hs e y a
 .rcases ay.mp b with q|q
  .exact h.rb z q y a
  .rw[aP.mp q];exact c y a
def MS.swap(h:MS kf la lb o ia ib):MS kf lb la o ib ia:=⟨h.perm.trans cC,h.sorted,h.rb,h.ra⟩
def MS.stepB(h:MS kf la lb o ia ib)(hs:lb.Pairwise (leK kf))(e:lb[ib]?=some x)(a:∀y∈la.drop ia,leK kf x y):MS kf la lb (o++[x]) ia (ib+1) :=
 (h.swap.stepA hs e a).swap
def MS.bulkA(hs:la.Pairwise (leK kf)):∀(k:Nat) {o:qA Keyed}{ia:Nat},MS kf la lb o ia ib->ia+k<=la.length->(∀i x,i<k->la[ia+i]?=some x->∀y∈lb.drop ib,leK kf x y)->MS kf la lb (o++(la.drop ia).take k) (ia+k) ib
 |0,o,ia,h,_,_=>by rw[ek,de];exact h
 |k+1,o,ia,h,c,b=>by
  obtain⟨x,a⟩:∃x,la[ia]?=some x:=⟨_,aj (by omega)⟩;have h1:=h.stepA hs a (b 0 x (by omega) a);have h2:=MS.bulkA hs k h1 (by omega) λi y hi e=>b (i+1) y (by omega) (by rw[<-e];congr 1;omega);rw[a0p a,List.take_succ_cons];rw[aG]at h2;rw[show ia+(k+1)=ia+1+k by omega];exact h2
def MS.bulkB(hs:lb.Pairwise (leK kf))(h:MS kf la lb o ia ib)(b:ib+k<=lb.length)(a:∀i x,i<k->lb[ib+i]?=some x->∀y∈la.drop ia,leK kf x y):MS kf la lb (o++(lb.drop ib).take k) ia (ib+k) :=
 (MS.bulkA hs k h.swap b a).swap
def a1H(kf:Keyed->O.α)(la lb o:qA Keyed):Prop:=o.Perm (la++lb)/\o.Pairwise (leK kf)
def MS.done(h:MS kf la lb o ia ib)(hs:la.Pairwise (leK kf))(b:ib=lb.length):a1H kf la lb (o++la.drop ia++lb.drop ib):=by
 subst b;rw[List.drop_length,de];have a:=h.perm;rw[bx]at a;refine⟨?_,?_⟩
 .refine(a.append_right _).trans ?_;rw[aG];refine(ck _ cC).trans ?_;rw[<-aG,bh]
 .rw[bB];exact⟨h.sorted,hs.drop,h.ra⟩
def MS.lastA(h:MS kf la lb o ia ib)(a:la.Pairwise (leK kf))(hs:lb.Pairwise (leK kf))(c:∀y∈lb.drop ib,∀x∈la.drop ia,leK kf y x):a1H kf la lb (o++lb.drop ib++la.drop ia):=by
 refine⟨?_,?_⟩
 .have hp:=(h.perm.append_right (lb.drop ib)).append_right (la.drop ia);refine hp.trans ?_;rw[aG (la.take ia),bh,aG];refine(ck _ cC).trans ?_;rw[<-aG,bh]
 .rw[bB];refine⟨?_,a.drop,λx d y b=>?_⟩
  .rw[bB];exact⟨h.sorted,hs.drop,h.rb⟩
  .rcases ay.mp d with q|q
   .exact h.ra x q y b
   .exact c x q y b
end
def a3j:Array Keyed->Array Keyed->StateT SortSt Sem (Array Keyed):=sortPriv% PySem.Builtin.mergeLo
def a0f(g:Nat):StateT SortSt Sem Unit:=modify λs=>SortSt.mk' (kindOf s) (arrOf s) (pendingOf s) g (failedOf s)
def Q3(a b out:Array Keyed)(ia ib:Nat):Array Keyed:=out++a.extract ia a.size++b.extract ib b.size
def a0I(a b out:Array Keyed)(ia ib:Nat):Array Keyed:=out++b.extract ib b.size++a.extract ia a.size
abbrev T1:Type:=qD (Array Keyed)×Array Keyed×Nat×Nat×Nat×Nat
abbrev T2:Type:=qD (Array Keyed)×Array Keyed×Nat×Nat×Nat×Nat×Nat
def loD(a b out:Array Keyed)(ia ib mg k k1:Nat):StateT SortSt Sem (ForInStep T2) :=
 elem' a ia>>=λx =>
 if (ia+1+1==a.size)=true then pure (.done (some (a0I a b (out.push x) (ia+1) ib),out.push x,ia+1,ib,mg,k,k1))
 else if (decide (k<7) && decide (k1<7))=true then pure (.done (none,out.push x,ia+1,ib,mg,k,k1))
 else pure (.yield (none,out.push x,ia+1,ib,mg,k,k1))
def loC(a b out:Array Keyed)(ia ib mg k bc:Nat):StateT SortSt Sem (ForInStep T2) :=
 elem' b ib>>=λy =>
 if (ib+1==b.size)=true then pure (.done (some (Q3 a b (out.push y) ia (ib+1)),out.push y,ia,ib+1,mg,k,bc))
 else elem' a ia>>=λx=>S9 true x b (ib+1) (b.size-(ib+1)) 0>>=λr =>
  match r with
  |some k1=>(if k1 > 0 then
    (if (ib+1+k1==b.size)=true then pure (.done (some (Q3 a b (out.push y++b.extract (ib+1) (ib+1+k1)) ia (ib+1+k1)),out.push y++b.extract (ib+1) (ib+1+k1),ia,ib+1+k1,mg,k,k1))
    else loD a b (out.push y++b.extract (ib+1) (ib+1+k1)) ia (ib+1+k1) mg k k1)
   else loD a b (out.push y) ia (ib+1) mg k k1)
  |_=>pure (.done (some (Q3 a b (out.push y) ia (ib+1)),out.push y,ia,ib+1,mg,k,bc))
def loB(a b out:Array Keyed)(ia ib mg ac bc:Nat):StateT SortSt Sem (ForInStep T2) :=
 a0f mg>>=λ_=>elem' b ib>>=λy=>S9 false y a ia (a.size-ia) 0>>=λr =>
 match r with
 |some k=>(if k > 0 then
   (if (ia+k+1==a.size)=true then pure (.done (some (a0I a b (out++a.extract ia (ia+k)) (ia+k) ib),out++a.extract ia (ia+k),ia+k,ib,mg,k,bc))
   else if (ia+k==a.size)=true then pure (.done (some (Q3 a b (out++a.extract ia (ia+k)) (ia+k) ib),out++a.extract ia (ia+k),ia+k,ib,mg,k,bc))
   else loC a b (out++a.extract ia (ia+k)) (ia+k) ib mg k bc)
  else loC a b out ia ib mg k bc)
 |_=>pure (.done (some (Q3 a b out ia ib),out,ia,ib,mg,ac,bc))
def loA(a b out:Array Keyed)(ia ib ac bc mg:Nat):StateT SortSt Sem (ForInStep T1) :=
 elem' b ib>>=λy=>elem' a ia>>=λx=>lt' y x>>=λr =>
 match r with
 |some bWins=>(if bWins=true then elem' b ib>>=λy =>
   (if (ib+1==b.size)=true then pure (.done (some (Q3 a b (out.push y) ia (ib+1)),out.push y,ia,ib+1,0,bc+1))
   else if bc+1 ≥ mg then pure (.done (none,out.push y,ia,ib+1,0,bc+1))
   else pure (.yield (none,out.push y,ia,ib+1,0,bc+1)))
  else elem' a ia>>=λx =>
   (if (ia+1+1==a.size)=true then pure (.done (some (a0I a b (out.push x) (ia+1) ib),out.push x,ia+1,ib,ac+1,0))
   else if ac+1 ≥ mg then pure (.done (none,out.push x,ia+1,ib,ac+1,0))
   else pure (.yield (none,out.push x,ia+1,ib,ac+1,0))))
 |_=>pure (.done (some (Q3 a b out ia ib),out,ia,ib,ac,bc))
def a6V(a b:Array Keyed):a3j a b=(do
 rule "list.sort.merge-lo"
 let y <-elem' b 0
 if (1==b.size)=true then pure (Q3 a b #[y] 0 1)
 else if (0+1==a.size)=true then pure (a0I a b #[y] 0 1)
 else do
  let g <-get
  let r <-forIn [:a.size+b.size] ((none,#[y],0,1,gallopOf g):qD (Array Keyed)×Array Keyed×Nat×Nat×Nat) λ_ c=>do
   let r <-forIn [:a.size+b.size] ((none,c.2.1,c.2.2.1,c.2.2.2.1,0,0):T1) λ_ d=>loA a b d.2.1 d.2.2.1 d.2.2.2.1 d.2.2.2.2.1 d.2.2.2.2.2 c.2.2.2.2
   match r.1 with
   |some q=>pure (ForInStep.done (some q,r.2.1,r.2.2.1,r.2.2.2.1,c.2.2.2.2))
   |none=>do
    rule "list.sort.gallop"
    let t <-forIn [:a.size+b.size] ((none,r.2.1,r.2.2.1,r.2.2.2.1,c.2.2.2.2+1,r.2.2.2.2.1,r.2.2.2.2.2):T2) λ_ d =>
     if d.2.2.2.2.1 > 1 then loB a b d.2.1 d.2.2.1 d.2.2.2.1 (d.2.2.2.2.1-1) d.2.2.2.2.2.1 d.2.2.2.2.2.2 else loB a b d.2.1 d.2.2.1 d.2.2.2.1 d.2.2.2.2.1 d.2.2.2.2.2.1 d.2.2.2.2.2.2
    match t.1 with
    |some q=>pure (ForInStep.done (some q,t.2.1,t.2.2.1,t.2.2.2.1,t.2.2.2.2.1))
    |none=>do
     a0f (t.2.2.2.2.1+1)
     pure (ForInStep.yield (none,t.2.1,t.2.2.1,t.2.2.2.1,t.2.2.2.2.1+1))
  match r.1 with
  |some q=>pure q
  |none=>unsupported "internal:list.sort.merge-bound"):=by
 show(_>>=_)=(_>>=_);refine aL _ (funext λ_=>?_);dsimp only;refine aL _ (funext λy=>?_);refine dE rfl (λ_=>rfl) (λ_=>dE rfl (λ_=>rfl) λ_=>?_);refine aL _ (funext λg=>?_);refine congr (aL _ (aL _ (funext λ_=>funext λc=>?_))) (funext λr=>?_)
 .refine congr (aL _ (aL _ (funext λ_=>funext λd=>?_))) (funext λr=>?_)
  .rfl
  .rcases r with⟨_|q,r⟩
   .dsimp only;refine aL _ (funext λ_=>?_);refine congr (aL _ (aL _ (funext λ_=>funext λd=>?_))) (funext λr=>?_)
    .rfl
    .rcases r with⟨_|q,r⟩<;>rfl
   .rfl
 .rcases r with⟨_|q,r⟩
  .dsimp only
  .rfl
def a2y(a:Array α)(i:Nat):(a.extract i a.size).toList=a.toList.drop i:=by
 rw[eF];simp[List.extract_eq_drop_take'];rw[<-ax,bx]
def a3F(a:Array α)(i k:Nat):(a.extract i (i+k)).toList=(a.toList.drop i).take k:=by
 rw[eF];simp[List.extract_eq_drop_take]
def a7r(a b out:Array Keyed)(ia ib:Nat):(Q3 a b out ia ib).toList=out.toList++a.toList.drop ia++b.toList.drop ib:=by
 unfold Q3;rw[bJ,bJ,a2y,a2y]
def a7e(a b out:Array Keyed)(ia ib:Nat):(a0I a b out ia ib).toList=out.toList++b.toList.drop ib++a.toList.drop ia:=by
 unfold a0I;rw[bJ,bJ,a2y,a2y]
section
variable {kf:Keyed->O.α}{a b out:Array Keyed}{ia ib:Nat}
def Good(st st':SortSt):Prop:=kindOf st'=kindOf st/\arrOf st'=arrOf st/\pendingOf st'=pendingOf st/\failedOf st'=failedOf st
structure Two(D:Keyed->Prop)(kf:Keyed->O.α)(a b:Array Keyed):Prop where
 da:∀(i:Nat) x,a[i]?=some x->D x
 db:∀(i:Nat) x,b[i]?=some x->D x
 sa:a.toList.Pairwise (leK kf)
 sb:b.toList.Pairwise (leK kf)
 last:∀y∈b.toList,∀x,a[a.size-1]?=some x->ltK kf y x=true
def V9{z:Keyed}(hs:l.Pairwise (leK kf))(e:l[i]?=some x)(h:leK kf z x):∀y∈l.drop i,leK kf z y:=λy a=>by
 rw[a0p e]at a;rcases az.mp a with rfl|a
 .exact h
 .exact bO h (X4 hs e y a)
def MI(kf:Keyed->O.α)(a b out:Array Keyed)(ia ib:Nat):Prop:=MS kf a.toList b.toList out.toList ia ib/\ia+1<a.size/\ib<b.size
def D5(kf:Keyed->O.α)(a b r:Array Keyed):Prop:=a1H kf a.toList b.toList r.toList
def a0n(T:Two D kf a b)(h:MS kf a.toList b.toList out.toList ia ib)(hi:ia+1=a.size):D5 kf a b (a0I a b out ia ib):=by
 unfold D5;rw[a7e];refine h.lastA T.sa T.sb λy e x d=>?_;have c:ia<a.toList.length:=by rw[ax];omega
 rw[cy c,cc (by rw[ax];omega),aP]at d;refine bP (T.last y (cv e) x ?_);rw[d,show a.size-1=ia by omega,<-av,aj c]
def a0q(T:Two D kf a b)(h:MS kf a.toList b.toList out.toList ia ib)(hi:ib=b.size):D5 kf a b (Q3 a b out ia ib):=by
 unfold D5;rw[a7r];exact h.done T.sa (by rw[ax];exact hi)
def B4(hi:i<qN.size){Q:Keyed->SortSt->Prop}(h:∀x,qN[i]?=some x->qN.toList[i]?=some x->Q x st):wpS (model prog w) A E s (elem' qN i) Q st:=by
 rw[elem'_eq];have e:qN[i]?=some qN[i]:=getElem?_pos qN i hi;rw[e];exact aM (h _ e (by rw[av];exact e))
def P2(kf:Keyed->O.α)(st:SortSt)(a b:Array Keyed)(c0:Nat)(c:T2)(st':SortSt):Prop:=Good st st'/\((∃r,c.1=some r/\D5 kf a b r)∨(c.1=none/\MI kf a b c.2.1 c.2.2.1 c.2.2.2.1/\c0<=c.2.2.1+c.2.2.2.1))
def Y2(kf:Keyed->O.α)(st:SortSt)(a b:Array Keyed)(c0:Nat)(c:T2)(st':SortSt):Prop:=Good st st'/\c.1=none/\MI kf a b c.2.1 c.2.2.1 c.2.2.2.1/\c0<=c.2.2.1+c.2.2.2.1
def R2'(kf:Keyed->O.α)(st:SortSt)(a b:Array Keyed)(c0:Nat)(r:ForInStep T2)(st':SortSt):Prop:=match r with | .done c'=>P2 kf st a b c0 c' st' | .yield c'=>Y2 kf st a b c0 c' st'
variable {c0 mg k1 bc ac:Nat}
def a8P(T:Two D kf a b)(g:Good st st')(h:MI kf a b out ia ib)(j:∀x,a.toList[ia]?=some x->∀y∈b.toList.drop ib,leK kf x y)(i:c0<=ia+ib):wpS (model prog w) A E s (loD a b out ia ib mg k k1) (R2' kf st a b c0) st':=by
 unfold loD;refine aE (B4 (by have:=h.2.1;omega) λx l d=>?_);have c:=h.1.stepA T.sa d (j x d);rw[<-cS]at c;split
 .rename_i e;exact aM ⟨g,.inl ⟨_,rfl,a0n T c (eq_of_beq e)⟩⟩
 .rename_i e;have e:¬ia+1+1=a.size:=λz=>e (bj.mpr z);have f:MI kf a b (out.push x) (ia+1) ib:=⟨c,by have:=h.2.1;omega,h.2.2⟩;split
  .exact aM ⟨g,.inr ⟨rfl,f,by show c0<=ia+1+ib;omega⟩⟩
  .exact aM ⟨g,rfl,f,by show c0<=ia+1+ib;omega⟩
def gdK(a:Array Keyed)(hi:i<a.size):a[i]?=some (a.getD i (Value.none,Value.none)):=by
 rw[bN,getElem?_pos a i hi];rfl
def a0m(hs:l.Pairwise (leK kf)){y:Keyed}(b:i<=j)(ex:l[i]?=some x)(a:l[j]?=some y):leK kf x y:=by
 by_cases e:i=j
 .subst e;rw[ex]at a;cases a;exact cw _
 .refine X4 hs ex y ?_;have:(l.drop (i+1))[j-(i+1)]?=some y:=by rw[List.getElem?_drop,<-a];congr 1;omega
  exact aA this
def a8Q(T:Two D kf a b)(p:Cmp prog w A s κ D (ltK kf))(G:kindOf st=κ)(g:Good st st')(h:MI kf a b out ia ib)(H:∀y,b.toList[ib]?=some y->∀x∈a.toList.drop ia,leK kf y x)(C:c0<=ia+ib):wpS (model prog w) A E s (loC a b out ia ib mg k bc) (R2' kf st a b c0) st':=by
 unfold loC;obtain⟨r,f,q⟩:=h;refine aE (B4 q λy u l=>?_);have n:=r.stepB T.sb l (H y l);rw[<-cS]at n;split
 .rename_i e;exact aM ⟨g,.inl ⟨_,rfl,a0q T n (eq_of_beq e)⟩⟩
 .rename_i e;have e:¬ib+1=b.size:=λz=>e (bj.mpr z);refine aE (B4 (by omega) λx f1 f2=>?_);refine aE (K8 p (g.1.trans G) (T.da _ _ f1) (λi=>ltK kf (b.getD (ib+1+i) (Value.none,Value.none)) x) (λi hi=>⟨_,gdK b (by omega),T.db _ _ (gdK b (by omega)),rfl⟩) (λi j F K B=>?_) (by omega) λk1 L I J=>?_)
  .refine eV (a0m T.sb (i:=ib+1+i) (j:=ib+1+j) (by omega) ?_ ?_) B
   .rw[av];exact gdK b (by omega)
   .rw[av];exact gdK b (by omega)
  .dsimp only;have d:∀(c:Nat),c=ib+1+k1->c<b.size->∀t,a.toList[ia]?=some t->∀y∈b.toList.drop c,leK kf t y:=λc u l t ex'=>by
    rw[f2]at ex';cases ex';have o:b.toList[c]?=some (b.getD c (Value.none,Value.none)):=by rw[av];exact gdK b l
    refine V9 T.sb o ?_;have:=J k1 (ak _) (by omega);rw[<-u]at this;exact this
   split
   .have hbk:=MS.bulkB T.sb (k:=k1) n (by rw[ax];omega) λi z hi v=>by
     refine V9 T.sa f2 ?_;have:=I i hi;rw[av,gdK b (by omega)]at v;cases v;exact bP this
    rw[<-a3F,<-bJ]at hbk;split
    .rename_i m;exact aM ⟨g,.inl ⟨_,rfl,a0q T hbk (eq_of_beq m)⟩⟩
    .rename_i m;have m:¬ib+1+k1=b.size:=λz=>m (bj.mpr z);exact a8P T g ⟨hbk,f,by omega⟩ (d _ rfl (by omega)) (by omega)
   .exact a8P T g ⟨n,f,by omega⟩ (d _ (by omega) (by omega)) (by omega)
def U7{Q:Unit->SortSt->Prop}(h:∀a,Good st' a->Q () a):wpS (model prog w) A E s (a0f mg) Q st':=by
 unfold a0f;exact wpS_modify (h _ ⟨rfl,rfl,rfl,rfl⟩)
def Good.trans{st st' a:SortSt}(h:Good st st')(h2:Good st' a):Good st a:=⟨h2.1.trans h.1,h2.2.1.trans h.2.1,h2.2.2.1.trans h.2.2.1,h2.2.2.2.trans h.2.2.2⟩
def a8R(T:Two D kf a b)(f:Cmp prog w A s κ D (ltK kf))(u:kindOf st=κ)(g:Good st st')(h:MI kf a b out ia ib)(r:c0<=ia+ib):wpS (model prog w) A E s (loB a b out ia ib mg ac bc) (R2' kf st a b c0) st':=by
 unfold loB;obtain⟨n,t,l⟩:=h;refine aE (U7 λO J=>?_);have g:=g.trans J;refine aE (B4 l λy I p=>?_);refine aE (K8 f (g.1.trans u) (T.db _ _ I) (λi=>!(ltK kf y (a.getD (ia+i) (Value.none,Value.none)))) (λi hi=>⟨_,gdK a (by omega),T.da _ _ (gdK a (by omega)),rfl⟩) (λi j L P G=>?_) (by omega) λk Q H N=>?_)
 .have hle:leK kf (a.getD (ia+j) (Value.none,Value.none)) y:=by
   unfold leK KeyOrd.kle;unfold ltK at G;simpa using G
  have:=bO (a0m T.sa (i:=ia+i) (j:=ia+j) (by omega) (by rw[av];exact gdK a (by omega)) (by rw[av];exact gdK a (by omega))) hle;unfold KeyOrd.kle at this;unfold ltK;rw[this];rfl
 .dsimp only;have m:ltK kf y (a.getD (a.size-1) (Value.none,Value.none))=true:=T.last y (aA p) _ (gdK a (by omega));have M:ia+k<a.size:=by
   refine Nat.lt_of_not_le λK=>?_;have:=H (a.size-1-ia) (by omega);rw[show ia+(a.size-1-ia)=a.size-1 by omega,m]at this;cases this
  have c:∀d,d=ia+k->∀v,b.toList[ib]?=some v->∀x∈a.toList.drop d,leK kf v x:=λd e v C=>by
   rw[p]at C;cases C;have q:a.toList[d]?=some (a.getD d (Value.none,Value.none)):=by rw[av];exact gdK a (by omega)
   refine V9 T.sa q ?_;have:=N k (ak _) (by omega);rw[<-e]at this;refine bP ?_;unfold KeyOrd.klt;unfold ltK at this;simpa using this
  split
  .have hbk:=MS.bulkA T.sa k n (by rw[ax];omega) λi z hi F=>by
    refine V9 T.sb p ?_;have:=H i hi;rw[av,gdK a (by omega)]at F;cases F;unfold leK KeyOrd.kle;unfold ltK at this;simpa using this
   rw[<-a3F,<-bJ]at hbk;split
   .rename_i o;exact aM ⟨g,.inl ⟨_,rfl,a0n T hbk (eq_of_beq o)⟩⟩
   .rename_i o;have o:¬ia+k+1=a.size:=λz=>o (bj.mpr z);split
    .rename_i B;have B:=eq_of_beq B;omega
    .exact a8Q T f u g ⟨hbk,by omega,l⟩ (c _ rfl) (by omega)
  .exact a8Q T f u g ⟨n,t,l⟩ (c _ (by omega)) r
def P1(kf:Keyed->O.α)(st:SortSt)(a b:Array Keyed)(c0:Nat)(c:T1)(st':SortSt):Prop:=Good st st'/\((∃r,c.1=some r/\D5 kf a b r)∨(c.1=none/\MI kf a b c.2.1 c.2.2.1 c.2.2.2.1/\c0<=c.2.2.1+c.2.2.2.1))
def Y1(kf:Keyed->O.α)(st:SortSt)(a b:Array Keyed)(c0:Nat)(c:T1)(st':SortSt):Prop:=Good st st'/\c.1=none/\MI kf a b c.2.1 c.2.2.1 c.2.2.2.1/\c0<=c.2.2.1+c.2.2.2.1
def R1'(kf:Keyed->O.α)(st:SortSt)(a b:Array Keyed)(c0:Nat)(r:ForInStep T1)(st':SortSt):Prop:=match r with | .done c'=>P1 kf st a b c0 c' st' | .yield c'=>Y1 kf st a b c0 c' st'
def b4M(T:Two D kf a b)(m:Cmp prog w A s κ D (ltK kf))(r:kindOf st=κ)(g:Good st st')(h:MI kf a b out ia ib)(q:c0<=ia+ib):wpS (model prog w) A E s (loA a b out ia ib ac bc mg) (R1' kf st a b (c0+1)) st':=by
 unfold loA;obtain⟨i,n,d⟩:=h;refine aE (B4 d λy p l=>?_);refine aE (B4 (by omega) λx f1 f2=>?_);refine aE (a0N m (g.1.trans r) (T.db _ _ p) (T.da _ _ f1) ?_);dsimp only;cases o:ltK kf y x with
 |true =>
  rw[aD rfl];refine aE (B4 d λu k c=>?_);rw[l]at c;cases c;have f:=i.stepB T.sb l (V9 T.sa f2 (bP o));rw[<-cS]at f;split
  .rename_i e;exact aM ⟨g,.inl ⟨_,rfl,a0q T f (eq_of_beq e)⟩⟩
  .rename_i e;have e:¬ib+1=b.size:=λz=>e (bj.mpr z);have j:MI kf a b (out.push y) ia (ib+1):=⟨f,n,by omega⟩;split
   .exact aM ⟨g,.inr ⟨rfl,j,by show c0+1<=ia+(ib+1);omega⟩⟩
   .exact aM ⟨g,rfl,j,by show c0+1<=ia+(ib+1);omega⟩
 |false =>
  rw[aq (by simp)];refine aE (B4 (by omega) λt k c=>?_);rw[f2]at c;cases c;have f:=i.stepA T.sa f2 (V9 T.sb l o);rw[<-cS]at f;split
  .rename_i e;exact aM ⟨g,.inl ⟨_,rfl,a0n T f (eq_of_beq e)⟩⟩
  .rename_i e;have e:¬ia+1+1=a.size:=λz=>e (bj.mpr z);have j:MI kf a b (out.push x) (ia+1) ib:=⟨f,by omega,d⟩;split
   .exact aM ⟨g,.inr ⟨rfl,j,by show c0+1<=ia+1+ib;omega⟩⟩
   .exact aM ⟨g,rfl,j,by show c0+1<=ia+1+ib;omega⟩
def T4{n:String}{Q:Unit->SortSt->Prop}(h:Q () st):wpS (model prog w) A E s (liftM (rule n):StateT SortSt Sem Unit) Q st:=wpS_lift (fR ⟨rfl,h⟩)
def a6f(T:Two D kf a b)(k:Cmp prog w A s κ D (ltK kf))(t:kindOf st=κ)(O:0<a.size)(F:0<b.size)(h0:∀y,b.toList[0]?=some y->∀x∈a.toList,leK kf y x){Q:Array Keyed->SortSt->Prop}
  (q:∀r st',D5 kf a b r->Good st st'->Q r st'):wpS (model prog w) A E s (a3j a b) Q st:=by
 rw[a6V];refine aE (T4 ?_);refine aE (B4 F λy f j=>?_);have l:MS kf a.toList b.toList (#[y]:Array Keyed).toList 0 1:=by
  have z:MS kf a.toList b.toList [] 0 0:=⟨.nil,.nil,(λ_ h=>nomatch h),λ_ h=>nomatch h⟩;exact z.stepB T.sb j (λx u=>h0 y j x u)
 have o:Good st st:=⟨rfl,rfl,rfl,rfl⟩;split
 .rename_i e;exact aM (q _ _ (a0q T l (eq_of_beq e)) o)
 .rename_i e;have e:¬1=b.size:=λz=>e (bj.mpr z);split
  .rename_i n;exact aM (q _ _ (a0n T l (eq_of_beq n)) o)
  .rename_i n;have n:¬0+1=a.size:=λz=>n (bj.mpr z);refine aE (fe ?_);refine aE (cB (cj (I:=λx c st'=>Good st st'/\c.1=none/\MI kf a b c.2.1 c.2.2.1 c.2.2.2.1/\x+1<=c.2.2.1+c.2.2.2.1)
    (Q:=λc st'=>Good st st'/\∃r,c.1=some r/\D5 kf a b r) ?step ?fin ⟨o,rfl,⟨l,by show 0+1<a.size;omega,by show 1<b.size;omega⟩,ak _⟩) ?post)
   case post =>
    rintro c st' ⟨g,r,f,j⟩;obtain⟨L,M⟩:=c;dsimp only at f;subst f;exact aM (q _ _ j g)
   case fin =>
    rintro c st' ⟨g,f,⟨_,h1,h2⟩,N⟩;exfalso;omega
   case step =>
    rintro x c J _ u ⟨g,f,p,G⟩;refine aE (cB (cj (I:=λz d st'=>Y1 kf st a b (x+1+min z 1) d st') (Q:=λd st'=>P1 kf st a b (x+2) d st') ?s1 ?f1 ⟨g,rfl,p,by show x+1+min 0 1<=c.2.2.1+c.2.2.2.1;omega⟩) ?p1)
    case f1 =>
     rintro d st' ⟨g,f,h1,h2⟩;exact⟨g,.inr ⟨f,h1,by omega⟩⟩
    case s1 =>
     rintro z d st' _ H ⟨g,f,h1,h2⟩;refine cB (b4M T k t g h1 (c0:=x+1) (by omega)) λr m i=>?_;cases r with
     |done c'=>exact i
     | «yield» c'=>exact⟨i.1,i.2.1,i.2.2.1,by have:=i.2.2.2;omega⟩
    case p1 =>
     rintro d st' ⟨g,hd⟩;obtain⟨v,B⟩:=d;rcases hd with⟨r,f,j⟩|⟨f,h1,h2⟩
     .dsimp only at f;subst f;exact aM ⟨g,r,rfl,j⟩
     .dsimp only at f;subst f;refine aE (T4 ?_);refine aE (cB (cj (I:=λz d st'=>Y2 kf st a b (x+2) d st') (Q:=λd st'=>P2 kf st a b (x+2) d st') ?s2 ?f2 ⟨g,rfl,h1,h2⟩) ?p2)
      case f2 =>
       rintro d st' ⟨g,f,h1,h2⟩;exact⟨g,.inr ⟨f,h1,h2⟩⟩
      case s2 =>
       rintro z d st' _ H ⟨g,f,h1,h2⟩;split
       .refine cB (a8R T k t g h1 h2) λr m i=>?_;cases r<;>exact i
       .refine cB (a8R T k t g h1 h2) λr m i=>?_;cases r<;>exact i
      case p2 =>
       rintro d st' ⟨g,hd⟩;obtain⟨v,B⟩:=d;rcases hd with⟨r,f,j⟩|⟨f,h1,h2⟩
       .dsimp only at f;subst f;exact aM ⟨g,r,rfl,j⟩
       .dsimp only at f;subst f;refine aE (U7 λK C=>?_);exact aM ⟨g.trans C,rfl,h1,h2⟩
end
section
variable {kf:Keyed->O.α}{la lb o:qA Keyed}{na nb:Nat}
structure MH(kf:Keyed->O.α)(la lb o:qA Keyed)(na nb:Nat):Prop where
 perm:o.Perm (la.drop na++lb.drop nb)
 sorted:o.Pairwise (leK kf)
 ra:∀x∈la.take na,∀y∈o,leK kf x y
 rb:∀x∈lb.take nb,∀y∈o,leK kf x y
def a1P(hs:l.Pairwise (leK kf))(h:l[i]?=some x):∀y∈l.take i,leK kf y x:=λy a=>by
 have:=hs.take (i:=i+1);rw[U8 h,bB]at this;exact this.2.2 y a x (aP.mpr rfl)
def MH.stepA(h:MH kf la lb o (na+1) nb)(hs:la.Pairwise (leK kf))(e:la[na]?=some x)(c:∀y∈lb.take nb,leK kf y x):MH kf la lb (x::o) na nb:=by
 have d:x∈la.take (na+1):=by rw[U8 e];exact aQ _ (aP.mpr rfl)
 refine⟨?_,?_,λz b y a=>?_,λz b y a=>?_⟩
 .rw[a0p e,dI];exact h.perm.cons x
 .rw[cD];exact⟨λy a=>h.ra x d y a,h.sorted⟩
 .rcases az.mp a with rfl|a
  .exact a1P hs e z b
  .exact h.ra z (by rw[U8 e];exact aR _ b) y a
 .rcases az.mp a with rfl|a
  .exact c z b
  .exact h.rb z b y a
def MH.swap(h:MH kf la lb o na nb):MH kf lb la o nb na:=⟨h.perm.trans cC,h.sorted,h.rb,h.ra⟩
def MH.stepB(h:MH kf la lb o na (nb+1))(hs:lb.Pairwise (leK kf))(e:lb[nb]?=some x)(a:∀y∈la.take na,leK kf y x):MH kf la lb (x::o) na nb:=(h.swap.stepA hs e a).swap
def MH.bulkA(hs:la.Pairwise (leK kf)){a:Nat}:∀(k:Nat) {o:qA Keyed},MH kf la lb o (a+k) nb->a+k<=la.length->(∀i x,a<=i->i<a+k->la[i]?=some x->∀y∈lb.take nb,leK kf y x)->MH kf la lb ((la.take (a+k)).drop a++o) a nb
 |0,o,h,d,_=>by
  rw[Nat.add_zero,cc (by rw[aS];omega),b_];exact h
 |k+1,o,h,d,c=>by
  obtain⟨x,b⟩:∃x,la[a+k]?=some x:=⟨_,aj (by omega)⟩;have h1:=MH.stepA (na:=a+k) h hs b (c _ x (by omega) (by omega) b);have h2:=MH.bulkA hs k h1 (by omega) λi y h1 h2 e=>c i y h1 (by omega) e;rw[show a+(k+1)=a+k+1 by omega,U8 b,cJ (by rw[aS];omega),aG];exact h2
def MH.bulkB(hs:lb.Pairwise (leK kf))(h:MH kf la lb o na (a+k))(c:a+k<=lb.length)(b:∀i x,a<=i->i<a+k->lb[i]?=some x->∀y∈la.take na,leK kf y x):MH kf la lb ((lb.take (a+k)).drop a++o) na a :=
 (MH.bulkA hs k h.swap c b).swap
def MH.done(h:MH kf la lb o 0 nb)(hs:lb.Pairwise (leK kf)):a1H kf la lb (la.take 0++lb.take nb++o):=by
 rw[ek,b_];have a:=h.perm;rw[cR]at a;refine⟨?_,?_⟩
 .refine(ck _ a).trans ?_;rw[<-aG];refine(List.Perm.append_right _ cC).trans ?_;rw[aG,bh]
 .rw[bB];exact⟨hs.take,h.sorted,h.rb⟩
def MH.firstB(h:MH kf la lb o na nb)(a:la.Pairwise (leK kf))(hs:lb.Pairwise (leK kf))(c:∀y∈lb.take nb,∀x∈la.take na,leK kf y x):a1H kf la lb (lb.take nb++la.take na++o):=by
 refine⟨?_,?_⟩
 .refine(ck _ h.perm).trans ?_;rw[aG,<-aG (la.take na),bh];refine cC.trans ?_;rw[aG];refine ck _ (cC.trans ?_);rw[bh]
 .rw[bB];refine⟨?_,h.sorted,λx d y b=>?_⟩
  .rw[bB];exact⟨hs.take,a.take,c⟩
  .rcases ay.mp d with q|q
   .exact h.rb x q y b
   .exact h.ra x q y b
end
def a3k:Array Keyed->Array Keyed->StateT SortSt Sem (Array Keyed):=sortPriv% PySem.Builtin.mergeHi
def Q5(a b out:Array Keyed)(na nb:Nat):Array Keyed:=a.extract 0 na++b.extract 0 nb++out.reverse
def W2(a b out:Array Keyed)(na nb:Nat):Array Keyed:=b.extract 0 nb++a.extract 0 na++out.reverse
abbrev U1:Type:=qD (Array Keyed)×Nat×Nat×Array Keyed×Nat×Nat
abbrev U2:Type:=qD (Array Keyed)×Nat×Nat×Array Keyed×Nat×Nat×Nat
def hiD(a b:Array Keyed)(na nb:Nat)(out:Array Keyed)(mg k k1:Nat):StateT SortSt Sem (ForInStep U2) :=
 elem' a (na-1)>>=λx =>
 if (na-1==0)=true then pure (.done (some (Q5 a b (out.push x) (na-1) nb),na-1,nb,out.push x,mg,k,k1))
 else if (decide (k<7) && decide (k1<7))=true then pure (.done (none,na-1,nb,out.push x,mg,k,k1))
 else pure (.yield (none,na-1,nb,out.push x,mg,k,k1))
def hiC(a b:Array Keyed)(na nb:Nat)(out:Array Keyed)(mg k bc:Nat):StateT SortSt Sem (ForInStep U2) :=
 elem' b (nb-1)>>=λy =>
 if (nb-1==1)=true then pure (.done (some (W2 a b (out.push y) na (nb-1)),na,nb-1,out.push y,mg,k,bc))
 else elem' a (na-1)>>=λx=>S9 true x b 0 (nb-1) (nb-1-1)>>=λr =>
  match r with
  |some at_=>(if nb-1-at_ > 0 then
    (if (at_==1)=true then pure (.done (some (W2 a b (out.push y++(b.extract at_ (nb-1)).reverse) na at_),na,at_,out.push y++(b.extract at_ (nb-1)).reverse,mg,k,nb-1-at_))
    else if (at_==0)=true then pure (.done (some (Q5 a b (out.push y++(b.extract at_ (nb-1)).reverse) na at_),na,at_,out.push y++(b.extract at_ (nb-1)).reverse,mg,k,nb-1-at_))
    else hiD a b na at_ (out.push y++(b.extract at_ (nb-1)).reverse) mg k (nb-1-at_))
   else hiD a b na (nb-1) (out.push y) mg k (nb-1-at_))
  |_=>pure (.done (some (Q5 a b (out.push y) na (nb-1)),na,nb-1,out.push y,mg,k,bc))
def hiB(a b:Array Keyed)(na nb:Nat)(out:Array Keyed)(mg ac bc:Nat):StateT SortSt Sem (ForInStep U2) :=
 a0f mg>>=λ_=>elem' b (nb-1)>>=λy=>S9 false y a 0 na (na-1)>>=λr =>
 match r with
 |some at_=>(if na-at_ > 0 then
   (if (at_==0)=true then pure (.done (some (Q5 a b (out++(a.extract at_ na).reverse) at_ nb),at_,nb,out++(a.extract at_ na).reverse,mg,na-at_,bc))
   else hiC a b at_ nb (out++(a.extract at_ na).reverse) mg (na-at_) bc)
  else hiC a b na nb out mg (na-at_) bc)
 |_=>pure (.done (some (Q5 a b out na nb),na,nb,out,mg,ac,bc))
def hiA(a b:Array Keyed)(na nb:Nat)(out:Array Keyed)(ac bc mg:Nat):StateT SortSt Sem (ForInStep U1) :=
 elem' b (nb-1)>>=λy=>elem' a (na-1)>>=λx=>lt' y x>>=λr =>
 match r with
 |some aWins=>(if aWins=true then elem' a (na-1)>>=λx =>
   (if (na-1==0)=true then pure (.done (some (Q5 a b (out.push x) (na-1) nb),na-1,nb,out.push x,ac+1,0))
   else if ac+1 ≥ mg then pure (.done (none,na-1,nb,out.push x,ac+1,0))
   else pure (.yield (none,na-1,nb,out.push x,ac+1,0)))
  else elem' b (nb-1)>>=λy =>
   (if (nb-1==1)=true then pure (.done (some (W2 a b (out.push y) na (nb-1)),na,nb-1,out.push y,0,bc+1))
   else if bc+1 ≥ mg then pure (.done (none,na,nb-1,out.push y,0,bc+1))
   else pure (.yield (none,na,nb-1,out.push y,0,bc+1))))
 |_=>pure (.done (some (Q5 a b out na nb),na,nb,out,ac,bc))
def a6W(a b:Array Keyed):a3k a b=(do
 rule "list.sort.merge-hi"
 let y <-elem' a (a.size-1)
 if (a.size-1==0)=true then pure (Q5 a b #[y] (a.size-1) b.size)
 else if (b.size==1)=true then pure (W2 a b #[y] (a.size-1) b.size)
 else do
  let g <-get
  let r <-forIn [:a.size+b.size] ((none,a.size-1,b.size,#[y],gallopOf g):qD (Array Keyed)×Nat×Nat×Array Keyed×Nat) λ_ c=>do
   let r <-forIn [:a.size+b.size] ((none,c.2.1,c.2.2.1,c.2.2.2.1,0,0):U1) λ_ d=>hiA a b d.2.1 d.2.2.1 d.2.2.2.1 d.2.2.2.2.1 d.2.2.2.2.2 c.2.2.2.2
   match r.1 with
   |some q=>pure (ForInStep.done (some q,r.2.1,r.2.2.1,r.2.2.2.1,c.2.2.2.2))
   |none=>do
    rule "list.sort.gallop"
    let t <-forIn [:a.size+b.size] ((none,r.2.1,r.2.2.1,r.2.2.2.1,c.2.2.2.2+1,r.2.2.2.2.1,r.2.2.2.2.2):U2) λ_ d =>
     if d.2.2.2.2.1 > 1 then hiB a b d.2.1 d.2.2.1 d.2.2.2.1 (d.2.2.2.2.1-1) d.2.2.2.2.2.1 d.2.2.2.2.2.2 else hiB a b d.2.1 d.2.2.1 d.2.2.2.1 d.2.2.2.2.1 d.2.2.2.2.2.1 d.2.2.2.2.2.2
    match t.1 with
    |some q=>pure (ForInStep.done (some q,t.2.1,t.2.2.1,t.2.2.2.1,t.2.2.2.2.1))
    |none=>do
     a0f (t.2.2.2.2.1+1)
     pure (ForInStep.yield (none,t.2.1,t.2.2.1,t.2.2.2.1,t.2.2.2.2.1+1))
  match r.1 with
  |some q=>pure q
  |none=>unsupported "internal:list.sort.merge-bound"):=by
 show(_>>=_)=(_>>=_);refine aL _ (funext λ_=>?_);dsimp only;refine aL _ (funext λy=>?_);refine dE rfl (λ_=>rfl) (λ_=>dE rfl (λ_=>rfl) λ_=>?_);refine aL _ (funext λg=>?_);refine congr (aL _ (aL _ (funext λ_=>funext λc=>?_))) (funext λr=>?_)
 .refine congr (aL _ (aL _ (funext λ_=>funext λd=>?_))) (funext λr=>?_)
  .rfl
  .rcases r with⟨_|q,r⟩
   .dsimp only;refine aL _ (funext λ_=>?_);refine congr (aL _ (aL _ (funext λ_=>funext λd=>?_))) (funext λr=>?_)
    .rfl
    .rcases r with⟨_|q,r⟩<;>rfl
   .rfl
 .rcases r with⟨_|q,r⟩
  .dsimp only
  .rfl
def a1E(a:Array α)(i n:Nat):(a.extract i n).toList=(a.toList.take n).drop i:=by
 rw[eF];simp[List.extract_eq_drop_take']
def a7s(a b out:Array Keyed)(na nb:Nat):(Q5 a b out na nb).toList=a.toList.take na++b.toList.take nb++out.toList.reverse:=by
 unfold Q5;rw[bJ,bJ,a1E,a1E,fU,cR,cR]
def a5Q(a b out:Array Keyed)(na nb:Nat):(W2 a b out na nb).toList=b.toList.take nb++a.toList.take na++out.toList.reverse:=by
 unfold W2;rw[bJ,bJ,a1E,a1E,fU,cR,cR]
def a0X(out:Array Keyed)(x:Keyed):(out.push x).toList.reverse=x::out.toList.reverse:=by
 rw[cS,List.reverse_append];rfl
def a9W(out a:Array Keyed)(i n:Nat):(out++(a.extract i n).reverse).toList.reverse=(a.toList.take n).drop i++out.toList.reverse:=by
 rw[bJ,List.reverse_append,fU,List.reverse_reverse,a1E]
section
variable {kf:Keyed->O.α}{a b out:Array Keyed}{na nb:Nat}
def a4W(kf:Keyed->O.α)(a b:Array Keyed):Prop:=∀y,b.toList[0]?=some y->∀x∈a.toList,ltK kf y x=true
def V4{z:Keyed}(hs:l.Pairwise (leK kf))(e:l[i]?=some x)(h:leK kf x z):∀y∈l.take (i+1),leK kf y z:=λy a=>by
 rw[U8 e]at a;rcases ay.mp a with a|a
 .exact bO (a1P hs e y a) h
 .rw[aP.mp a];exact h
def MJ(kf:Keyed->O.α)(a b out:Array Keyed)(na nb:Nat):Prop:=MH kf a.toList b.toList out.toList.reverse na nb/\1<=na/\2<=nb/\na<=a.size/\nb<=b.size
def a0r(T:Two D kf a b)(h:MH kf a.toList b.toList out.toList.reverse na nb)(hi:na=0):D5 kf a b (Q5 a b out na nb):=by
 subst hi;unfold D5;rw[a7s];exact h.done T.sb
def W1(T:Two D kf a b)(F:a4W kf a b)(h:MH kf a.toList b.toList out.toList.reverse na nb)(hi:nb=1)(d:0<b.size):D5 kf a b (W2 a b out na nb):=by
 subst hi;unfold D5;rw[a5Q];refine h.firstB T.sa T.sb λy c x f=>?_;have e:b.toList[0]?=some (b.getD 0 (Value.none,Value.none)):=by rw[av];exact gdK b d
 rw[U8 e,ek,b_,aP]at c;rw[c];exact bP (F _ e x (bC f))
def P4(kf:Keyed->O.α)(st:SortSt)(a b:Array Keyed)(c0:Nat)(c:U2)(st':SortSt):Prop:=Good st st'/\((∃r,c.1=some r/\D5 kf a b r)∨(c.1=none/\MJ kf a b c.2.2.2.1 c.2.1 c.2.2.1/\c.2.1+c.2.2.1+c0<=a.size+b.size))
def Y4(kf:Keyed->O.α)(st:SortSt)(a b:Array Keyed)(c0:Nat)(c:U2)(st':SortSt):Prop:=Good st st'/\c.1=none/\MJ kf a b c.2.2.2.1 c.2.1 c.2.2.1/\c.2.1+c.2.2.1+c0<=a.size+b.size
def R4(kf:Keyed->O.α)(st:SortSt)(a b:Array Keyed)(c0:Nat)(r:ForInStep U2)(st':SortSt):Prop:=match r with | .done c'=>P4 kf st a b c0 c' st' | .yield c'=>Y4 kf st a b c0 c' st'
variable {c0 mg k1 bc ac:Nat}
def a8S(T:Two D kf a b)(g:Good st st')(h:MJ kf a b out na nb)(j:∀x,a.toList[na-1]?=some x->∀y∈b.toList.take nb,leK kf y x)(o:na+nb+c0<=a.size+b.size):wpS (model prog w) A E s (hiD a b na nb out mg k k1) (R4 kf st a b c0) st':=by
 unfold hiD;obtain⟨f,h1,h2,p,m⟩:=h;refine aE (B4 (by omega) λx l c=>?_);obtain⟨n,rfl⟩:∃n,na=n+1:=⟨na-1,by omega⟩;rw[eW]at l c j⊢;have d:=f.stepA T.sa c (j x c);rw[<-a0X]at d;split
 .rename_i e;exact aM ⟨g,.inl ⟨_,rfl,a0r T d (eq_of_beq e)⟩⟩
 .rename_i e;have e:¬n=0:=λz=>e (bj.mpr z);have i:MJ kf a b (out.push x) n nb:=⟨d,by omega,h2,by omega,m⟩;split
  .exact aM ⟨g,.inr ⟨rfl,i,by show n+nb+c0<=_;omega⟩⟩
  .exact aM ⟨g,rfl,i,by show n+nb+c0<=_;omega⟩
def a8T(T:Two D kf a b)(F:a4W kf a b)(u:Cmp prog w A s κ D (ltK kf))(R:kindOf st=κ)(g:Good st st')(h:MJ kf a b out na nb)(J:∀y,b.toList[nb-1]?=some y->∀x∈a.toList.take na,leK kf x y)(P:na+nb+c0<=a.size+b.size):wpS (model prog w) A E s (hiC a b na nb out mg k bc) (R4 kf st a b c0) st':=by
 unfold hiC;obtain⟨C,h1,h2,I,X⟩:=h;refine aE (B4 (by omega) λy L r=>?_);obtain⟨m,rfl⟩:∃m,nb=m+1:=⟨nb-1,by omega⟩;rw[eW]at L r J⊢;have p:=C.stepB T.sb r (J y r);rw[<-a0X]at p;split
 .rename_i e;exact aM ⟨g,.inl ⟨_,rfl,W1 T F p (eq_of_beq e) (by omega)⟩⟩
 .rename_i e;have e:¬m=1:=λz=>e (bj.mpr z);refine aE (B4 (by omega) λx f1 f2=>?_);refine aE (K8 u (g.1.trans R) (T.da _ _ f1) (λi=>ltK kf (b.getD (0+i) (Value.none,Value.none)) x) (λi hi=>⟨_,gdK b (by omega),T.db _ _ (gdK b (by omega)),rfl⟩) (λi j Q v O=>?_) (by omega) λc Z V K=>?_)
  .refine eV (a0m T.sb (i:=0+i) (j:=0+j) (by omega) ?_ ?_) O
   .rw[av];exact gdK b (by omega)
   .rw[av];exact gdK b (by omega)
  .dsimp only;have N:1<=c:=by
    refine Nat.pos_of_ne_zero λz=>?_;have:=K 0 (by omega) (by omega);have M:=F (b.getD 0 (Value.none,Value.none)) (by rw[av];exact gdK b (by omega)) x (aA f2);rw[dr]at this;rw[M]at this;cases this
   have d:∀o,a.toList[na-1]?=some o->∀f,f=c->∀y∈b.toList.take f,leK kf y o:=λo ex' f W=>by
    rw[f2]at ex';cases ex';obtain⟨n,S⟩:∃n,f=n+1:=⟨f-1,by omega⟩;rw[S];have t:b.toList[n]?=some (b.getD n (Value.none,Value.none)):=by rw[av];exact gdK b (by omega)
    refine V4 T.sb t (bP ?_);have:=V n (by omega);rw[dr]at this;exact this
   split
   .obtain⟨j,v⟩:∃j,m=c+j:=⟨m-c,by omega⟩;have l:MH kf a.toList b.toList ((b.toList.take (c+j)).drop c++(out.push y).toList.reverse) na c:=by
     rw[v]at p;refine MH.bulkB T.sb p (by rw[ax];omega) λi z U Y H=>?_;have:=K i U (by omega);rw[dr]at this;rw[av,gdK b (by omega)]at H;cases H;have B:leK kf x (b.getD i (Value.none,Value.none)):=this;have:=V4 T.sa f2 B;rwa[show na-1+1=na by omega]at this
    rw[<-v,<-a9W]at l;split
    .rename_i q;exact aM ⟨g,.inl ⟨_,rfl,W1 T F l (eq_of_beq q) (by omega)⟩⟩
    .rename_i q;have q:¬c=1:=λz=>q (bj.mpr z);split
     .rename_i G;have G:=eq_of_beq G;omega
     .exact a8S T g ⟨l,h1,by omega,I,by omega⟩ (λo ex'=>d o ex' _ rfl) (by omega)
   .exact a8S T g ⟨p,h1,by omega,I,by omega⟩ (λo ex'=>d o ex' _ (by omega)) (by omega)
def a8U(T:Two D kf a b)(F:a4W kf a b)(l:Cmp prog w A s κ D (ltK kf))(t:kindOf st=κ)(g:Good st st')(h:MJ kf a b out na nb)(q:na+nb+c0<=a.size+b.size):wpS (model prog w) A E s (hiB a b na nb out mg ac bc) (R4 kf st a b c0) st':=by
 unfold hiB;obtain⟨m,h1,h2,L,H⟩:=h;refine aE (U7 λS K=>?_);have g:=g.trans K;refine aE (B4 (by omega) λy J B=>?_);refine aE (K8 l (g.1.trans t) (T.db _ _ J) (λi=>!(ltK kf y (a.getD (0+i) (Value.none,Value.none)))) (λi hi=>⟨_,gdK a (by omega),T.da _ _ (gdK a (by omega)),rfl⟩) (λi j M r I=>?_) (by omega) λc V Q R=>?_)
 .have hle:leK kf (a.getD (0+j) (Value.none,Value.none)) y:=by
   unfold leK KeyOrd.kle;unfold ltK at I;simpa using I
  have:=bO (a0m T.sa (i:=0+i) (j:=0+j) (by omega) (by rw[av];exact gdK a (by omega)) (by rw[av];exact gdK a (by omega))) hle;unfold KeyOrd.kle at this;unfold ltK;rw[this];rfl
 .dsimp only;have f:∀d,d=c->∀v,b.toList[nb-1]?=some v->∀x∈a.toList.take d,leK kf x v:=λd e v C=>by
   rw[B]at C;cases C;subst e;by_cases N:d=0
   .rw[N,ek];exact λ_ z=>nomatch z
   obtain⟨n,rfl⟩:∃n,d=n+1:=⟨d-1,by omega⟩;have p:a.toList[n]?=some (a.getD n (Value.none,Value.none)):=by rw[av];exact gdK a (by omega)
   refine V4 T.sa p ?_;have:=Q n (by omega);rw[dr]at this;unfold leK KeyOrd.kle;unfold ltK at this;simpa using this
  split
  .obtain⟨j,r⟩:∃j,na=c+j:=⟨na-c,by omega⟩;have k:MH kf a.toList b.toList ((a.toList.take (c+j)).drop c++out.toList.reverse) c nb:=by
    rw[r]at m;refine MH.bulkA T.sa j m (by rw[ax];omega) λi z P U G=>?_;have:=R i P (by omega);rw[dr]at this;rw[av,gdK a (by omega)]at G;cases G;have u:O.klt (kf y) (kf (a.getD i (Value.none,Value.none))):=by
     unfold KeyOrd.klt;unfold ltK at this;simpa using this
    have:=V4 T.sb B (bP u);rwa[show nb-1+1=nb by omega]at this
   rw[<-r,<-a9W]at k;split
   .rename_i o;exact aM ⟨g,.inl ⟨_,rfl,a0r T k (eq_of_beq o)⟩⟩
   .rename_i o;have o:¬c=0:=λz=>o (bj.mpr z);exact a8T T F l t g ⟨k,by omega,h2,by omega,H⟩ (f _ rfl) (by omega)
  .exact a8T T F l t g ⟨m,h1,h2,L,H⟩ (f _ (by omega)) q
def P3(kf:Keyed->O.α)(st:SortSt)(a b:Array Keyed)(c0:Nat)(c:U1)(st':SortSt):Prop:=Good st st'/\((∃r,c.1=some r/\D5 kf a b r)∨(c.1=none/\MJ kf a b c.2.2.2.1 c.2.1 c.2.2.1/\c.2.1+c.2.2.1+c0<=a.size+b.size))
def Y3(kf:Keyed->O.α)(st:SortSt)(a b:Array Keyed)(c0:Nat)(c:U1)(st':SortSt):Prop:=Good st st'/\c.1=none/\MJ kf a b c.2.2.2.1 c.2.1 c.2.2.1/\c.2.1+c.2.2.1+c0<=a.size+b.size
def R3(kf:Keyed->O.α)(st:SortSt)(a b:Array Keyed)(c0:Nat)(r:ForInStep U1)(st':SortSt):Prop:=match r with | .done c'=>P3 kf st a b c0 c' st' | .yield c'=>Y3 kf st a b c0 c' st'
def b4N(T:Two D kf a b)(F:a4W kf a b)(l:Cmp prog w A s κ D (ltK kf))(u:kindOf st=κ)(g:Good st st')(h:MJ kf a b out na nb)(t:na+nb+c0<=a.size+b.size):wpS (model prog w) A E s (hiA a b na nb out ac bc mg) (R3 kf st a b (c0+1)) st':=by
 unfold hiA;obtain⟨f,h1,h2,q,r⟩:=h;refine aE (B4 (by omega) λy o j=>?_);refine aE (B4 (by omega) λx f1 f2=>?_);refine aE (a0N l (g.1.trans u) (T.db _ _ o) (T.da _ _ f1) ?_);dsimp only;obtain⟨n,rfl⟩:∃n,na=n+1:=⟨na-1,by omega⟩;obtain⟨m,rfl⟩:∃m,nb=m+1:=⟨nb-1,by omega⟩;rw[eW]at o j f1 f2⊢;rw[eW];cases p:ltK kf y x with
 |true =>
  rw[aD rfl];refine aE (B4 (by omega) λv k c=>?_);rw[f2]at c;cases c;have d:=f.stepA T.sa f2 (V4 T.sb j (bP p));rw[<-a0X]at d;split
  .rename_i e;exact aM ⟨g,.inl ⟨_,rfl,a0r T d (eq_of_beq e)⟩⟩
  .rename_i e;have e:¬n=0:=λz=>e (bj.mpr z);have i:MJ kf a b (out.push x) n (m+1):=⟨d,by omega,h2,by omega,r⟩;split
   .exact aM ⟨g,.inr ⟨rfl,i,by show n+(m+1)+(c0+1)<=_;omega⟩⟩
   .exact aM ⟨g,rfl,i,by show n+(m+1)+(c0+1)<=_;omega⟩
 |false =>
  rw[aq (by simp)];refine aE (B4 (by omega) λB k c=>?_);rw[j]at c;cases c;have d:=f.stepB T.sb j (V4 T.sa f2 p);rw[<-a0X]at d;split
  .rename_i e;exact aM ⟨g,.inl ⟨_,rfl,W1 T F d (eq_of_beq e) (by omega)⟩⟩
  .rename_i e;have e:¬m=1:=λz=>e (bj.mpr z);have i:MJ kf a b (out.push y) (n+1) m:=⟨d,h1,by omega,q,by omega⟩;split
   .exact aM ⟨g,.inr ⟨rfl,i,by show n+1+m+(c0+1)<=_;omega⟩⟩
   .exact aM ⟨g,rfl,i,by show n+1+m+(c0+1)<=_;omega⟩
def a6g(T:Two D kf a b)(F:a4W kf a b)(k:Cmp prog w A s κ D (ltK kf))(t:kindOf st=κ)(P:0<a.size)(G:0<b.size){Q:Array Keyed->SortSt->Prop}
  (q:∀r st',D5 kf a b r->Good st st'->Q r st'):wpS (model prog w) A E s (a3k a b) Q st:=by
 rw[a6W];refine aE (T4 ?_);refine aE (B4 (by omega) λy f j=>?_);have l:MH kf a.toList b.toList (#[y]:Array Keyed).toList.reverse (a.size-1) b.size:=by
  have z:MH kf a.toList b.toList [] (a.size-1+1) b.size:=by
   refine⟨?_,.nil,(λ_ _ _ h=>nomatch h),λ_ _ _ h=>nomatch h⟩;rw[cc (by rw[ax];omega),cc (by rw[ax];omega)];exact .nil
  exact z.stepA T.sa j (λx u=>bP (T.last x (bC u) y f))
 have o:Good st st:=⟨rfl,rfl,rfl,rfl⟩;split
 .rename_i e;exact aM (q _ _ (a0r T l (eq_of_beq e)) o)
 .rename_i e;have e:¬a.size-1=0:=λz=>e (bj.mpr z);split
  .rename_i n;exact aM (q _ _ (W1 T F l (eq_of_beq n) G) o)
  .rename_i n;have n:¬b.size=1:=λz=>n (bj.mpr z);refine aE (fe ?_);refine aE (cB (cj (I:=λx c st'=>Good st st'/\c.1=none/\MJ kf a b c.2.2.2.1 c.2.1 c.2.2.1/\c.2.1+c.2.2.1+(x+1)<=a.size+b.size)
    (Q:=λc st'=>Good st st'/\∃r,c.1=some r/\D5 kf a b r) ?step ?fin ⟨o,rfl,⟨l,by show 1<=a.size-1;omega,by show 2<=b.size;omega,by show a.size-1<=a.size;omega,ak _⟩,by show a.size-1+b.size+(0+1)<=_;omega⟩) ?post)
   case post =>
    rintro c st' ⟨g,r,f,j⟩;obtain⟨M,N⟩:=c;dsimp only at f;subst f;exact aM (q _ _ j g)
   case fin =>
    rintro c st' ⟨g,f,⟨_,h1,h2,_⟩,O⟩;exfalso;omega
   case step =>
    rintro x c K _ u ⟨g,f,p,H⟩;refine aE (cB (cj (I:=λz d st'=>Y3 kf st a b (x+1+min z 1) d st') (Q:=λd st'=>P3 kf st a b (x+2) d st') ?s1 ?f1 ⟨g,rfl,p,by show c.2.1+c.2.2.1+(x+1+min 0 1)<=_;omega⟩) ?p1)
    case f1 =>
     rintro d st' ⟨g,f,h1,h2⟩;exact⟨g,.inr ⟨f,h1,by omega⟩⟩
    case s1 =>
     rintro z d st' _ J ⟨g,f,h1,h2⟩;refine cB (b4N T F k t g h1 (c0:=x+1) (by omega)) λr m i=>?_;cases r with
     |done c'=>exact i
     | «yield» c'=>exact⟨i.1,i.2.1,i.2.2.1,by have:=i.2.2.2;omega⟩
    case p1 =>
     rintro d st' ⟨g,hd⟩;obtain⟨v,B⟩:=d;rcases hd with⟨r,f,j⟩|⟨f,h1,h2⟩
     .dsimp only at f;subst f;exact aM ⟨g,r,rfl,j⟩
     .dsimp only at f;subst f;refine aE (T4 ?_);refine aE (cB (cj (I:=λz d st'=>Y4 kf st a b (x+2) d st') (Q:=λd st'=>P4 kf st a b (x+2) d st') ?s2 ?f2 ⟨g,rfl,h1,h2⟩) ?p2)
      case f2 =>
       rintro d st' ⟨g,f,h1,h2⟩;exact⟨g,.inr ⟨f,h1,h2⟩⟩
      case s2 =>
       rintro z d st' _ J ⟨g,f,h1,h2⟩;split
       .refine cB (a8U T F k t g h1 h2) λr m i=>?_;cases r<;>exact i
       .refine cB (a8U T F k t g h1 h2) λr m i=>?_;cases r<;>exact i
      case p2 =>
       rintro d st' ⟨g,hd⟩;obtain⟨v,B⟩:=d;rcases hd with⟨r,f,j⟩|⟨f,h1,h2⟩
       .dsimp only at f;subst f;exact aM ⟨g,r,rfl,j⟩
       .dsimp only at f;subst f;refine aE (U7 λL C=>?_);exact aM ⟨g.trans C,rfl,h1,h2⟩
end
def a7O(qN merged:Array Keyed)(sa:Nat):Array Keyed:=merged.toList.zipIdx.foldl (λa (p,j)=>a.setIfInBounds (sa+j) p) qN
def mgC(sa:Nat)(merged:Array Keyed):StateT SortSt Sem Bool :=
 (modify λs=>SortSt.mk' (kindOf s) (a7O (arrOf s) merged sa) (pendingOf s) (gallopOf s) (failedOf s))>>=λ_=>get>>=λs=>pure (failedOf s).isNone
def mgB(s:SortSt)(sa na sb nb:Nat):StateT SortSt Sem Bool :=
 elem' (arrOf s) (sa+na-1)>>=λx=>S9 true x (arrOf s) sb nb (nb-1)>>=λr=>match r with
 |some n=>(if (n==0)=true then pure true
  else if na<=n then a3j ((arrOf s).extract sa sb) ((arrOf s).extract sb (sb+n))>>=mgC sa
  else a3k ((arrOf s).extract sa sb) ((arrOf s).extract sb (sb+n))>>=mgC sa)
 |_=>pure false
def mgA(s:SortSt)(sa na sb nb:Nat):StateT SortSt Sem Bool :=
 elem' (arrOf s) sb>>=λy=>S9 false y (arrOf s) sa na 0>>=λr=>match r with
 |some k=>(if (na-k==0)=true then pure true else mgB s (sa+k) (na-k) sb nb)
 |_=>pure false
def a6X(i:Nat):mergeAt' i=(get>>=λs=>match ((pendingOf s)[i]?,(pendingOf s)[i+1]?)with
 |(some (sa,na,pw),some (sb,nb,_))=>set (SortSt.mk' (kindOf s) (arrOf s) (((pendingOf s).setIfInBounds i (sa,na+nb,pw)).eraseIdxIfInBounds (i+1)) (gallopOf s) (failedOf s))>>=λ_=>mgA s sa na sb nb
 |_=>liftM (unsupported "internal:list.sort.pending" : Sem Bool)):=by
 show(_>>=_)=(_>>=_);refine aL _ (funext λs=>?_);dsimp only;rcases(pendingOf s)[i]? with _|⟨sa,na,pw⟩
 .rfl
 rcases(pendingOf s)[i+1]? with _|⟨sb,nb,pw2⟩
 .rfl
 dsimp only;refine aL _ (funext λ_=>?_);unfold mgA;refine aL _ (funext λy=>?_);refine aL _ (funext λr=>?_);rcases r with _|k
 .rfl
 dsimp only;refine dE rfl (λ_=>rfl) λ_=>?_;unfold mgB;refine aL _ (funext λx=>?_);refine aL _ (funext λr=>?_);rcases r with _|n
 .rfl
 rfl
def a4K:∀(l:qA Keyed) (qN:Array Keyed) (b j:Nat),b+j+l.length<=qN.size ->
  ((l.zipIdx j).foldl (λa (p:Keyed×Nat)=>a.setIfInBounds (b+p.2) p.1) qN).toList=qN.toList.take (b+j)++l++qN.toList.drop (b+j+l.length)
 |[],qN,b,j,h=>by simp
 |x::l,qN,b,j,h=>by
  rw[aY]at h;rw[List.zipIdx_cons,dS,a4K l _ b (j+1) (by rw[eX];omega)];rw[Array.toList_setIfInBounds];have c:b+j<qN.toList.length:=by rw[ax];omega
  rw[aY,show b+(j+1)=b+j+1 by omega];rw[List.take_set,List.drop_set_of_lt (by omega)];rw[List.take_succ_eq_append_getElem c,List.set_append_right _ _ (by rw[aS];omega)];rw[aS,show b+j-min (b+j) qN.toList.length=0 by omega];simp[aG];congr 1;omega
def a6B(qN a:Array Keyed)(b:Nat)(h:b+a.size<=qN.size):(a7O qN a b).toList=qN.toList.take b++a.toList++qN.toList.drop (b+a.size):=by
 have:=a4K a.toList qN b 0 (by rw[ax];omega);rw[Nat.add_zero,ax]at this;exact this
def b4L{M:Model}{σ:Type}{st a:σ}{Q:PUnit->σ->Prop}(h:Q ⟨⟩ a):wpS M A E s (set a:StateT σ Sem PUnit) Q st:=by
 unfold wpS;rw[StateT.run_set];exact ai ⟨rfl,h⟩
section
variable {kf:Keyed->O.α}
structure Runs2(kf:Keyed->O.α)(D:Keyed->Prop)(qN:Array Keyed)(P LA LB R:qA Keyed):Prop where
 eq:qN.toList=P++LA++LB++R
 d:∀x∈qN.toList,D x
 sa:LA.Pairwise (leK kf)
 sb:LB.Pairwise (leK kf)
 na:0<LA.length
 nb:0<LB.length
variable {P LA LB R:qA Keyed}
def Runs2.atA(h:Runs2 kf D qN P LA LB R)(hi:i<LA.length):qN[P.length+i]?=LA[i]?:=by
 rw[<-av,h.eq,aG,aG,ba (by omega),bw (by omega)];congr 1;omega
def Runs2.atB(h:Runs2 kf D qN P LA LB R)(hi:i<LB.length):qN[P.length+LA.length+i]?=LB[i]?:=by
 rw[<-av,h.eq,aG,ba (by rw[au];omega),bw (by rw[au];omega)];congr 1;rw[au];omega
def Runs2.dA(h:Runs2 kf D qN P LA LB R):∀x∈LA,D x:=λx a=>h.d x (by rw[h.eq];simp[a])
def Runs2.dB(h:Runs2 kf D qN P LA LB R):∀x∈LB,D x:=λx a=>h.d x (by rw[h.eq];simp[a])
def Runs2.size(h:Runs2 kf D qN P LA LB R):qN.size=P.length+LA.length+LB.length+R.length:=by
 rw[<-ax,h.eq];simp[dP]
def Runs2.extA(h:Runs2 kf D qN P LA LB R)(k:Nat):(qN.extract (P.length+k) (P.length+LA.length)).toList=LA.drop k:=by
 rw[a1E,h.eq,aG (P++LA),dk (by simp)];rw[bo (by simp),List.drop_append,cc (by omega),b_];congr 1;omega
def Runs2.extB(h:Runs2 kf D qN P LA LB R)(a:k<=LB.length):(qN.extract (P.length+LA.length) (P.length+LA.length+k)).toList=LB.take k:=by
 rw[a3F,h.eq,aG,cJ (by simp),cc (by simp),b_,dk a]
def a6h{pw a9:Nat}{Q:Bool->SortSt->Prop}(G:Cmp prog w A s κ D (ltK kf))(hk:kindOf st=κ)(h:Runs2 kf D (arrOf st) P LA LB R)(hp:(pendingOf st)[i]?=some (P.length,LA.length,pw))(a7:(pendingOf st)[i+1]?=some (P.length+LA.length,LB.length,a9))(hf:failedOf st=none)
  (q:∀(st':SortSt) (M:qA Keyed),kindOf st'=κ->failedOf st'=none->pendingOf st'=((pendingOf st).setIfInBounds i (P.length,LA.length+LB.length,pw)).eraseIdxIfInBounds (i+1)->a1H kf LA LB M->(arrOf st').toList=P++M++R->Q true st'):wpS (model prog w) A E s (mergeAt' i) Q st:=by
 rw[a6X];refine aE (fe ?_);rw[hp,a7];dsimp only;refine aE (b4L ?_);unfold mgA;have m:=eB h.size;have a0:=h.na;have S:=h.nb;generalize f:SortSt.mk' (kindOf st) (arrOf st) (((pendingOf st).setIfInBounds i (P.length,LA.length+LB.length,pw)).eraseIdxIfInBounds (i+1)) (gallopOf st) (failedOf st)=d;have k2:kindOf d=κ:=by rw[<-f];exact hk
 have a2:arrOf d=arrOf st:=by rw[<-f]
 have p2:pendingOf d=((pendingOf st).setIfInBounds i (P.length,LA.length+LB.length,pw)).eraseIdxIfInBounds (i+1):=by rw[<-f]
 have f2:failedOf d=none:=by rw[<-f];exact hf
 have B:LA++LB=LA++LB->(∀x∈LA,∀y∈LB,leK kf x y)->Q true d:=λ_ a6=>by
  refine q d (LA++LB) k2 f2 p2 ⟨.refl _,bB.mpr ⟨h.sa,h.sb,a6⟩⟩ ?_;rw[a2,h.eq];simp[aG]
 refine aE (B4 (by have:=cf m;omega) λy e1 _=>?_);have ey:LB[0]?=some y:=by rw[<-h.atB S];exact e1
 have a3:∀z∈LB,leK kf y z:=V9 h.sb ey (cw _);have W:∀i,i<LA.length->(arrOf st)[P.length+i]?=some (LA.getD i (Value.none,Value.none))/\LA[i]?=some (LA.getD i (Value.none,Value.none)):=λi hi=>by
  have:LA[i]?=some (LA.getD i (Value.none,Value.none)):=by rw[aB,aj hi];rfl
  exact⟨by rw[h.atA hi];exact this,this⟩
 have X:∀i,i<LB.length->(arrOf st)[P.length+LA.length+i]?=some (LB.getD i (Value.none,Value.none))/\LB[i]?=some (LB.getD i (Value.none,Value.none)):=λi hi=>by
  have:LB[i]?=some (LB.getD i (Value.none,Value.none)):=by rw[aB,aj hi];rfl
  exact⟨by rw[h.atB hi];exact this,this⟩
 have t:∀{u v:Keyed},(!(ltK kf u v))=true->leK kf v u:=λ{u v} z=>by
  unfold leK KeyOrd.kle;unfold ltK at z;simpa using z
 refine aE (K8 G k2 (h.dB _ (aA ey)) (λi=>!(ltK kf y (LA.getD i (Value.none,Value.none)))) (λi hi=>⟨_,(W i hi).1,h.dA _ (aA (W i hi).2),rfl⟩) (λi j N c hb=>?_) a0 λk q1 q2 q3=>?_)
 .have:=bO (a0m h.sa N (W i (by omega)).2 (W j c).2) (t hb);unfold KeyOrd.kle at this;unfold ltK;rw[this];rfl
 .dsimp only;have Z:∀x∈LA.take k,leK kf x y:=λx hx=>by
   obtain⟨j,c,e⟩:=cu.mp hx;rw[aS]at c;have o:=aO c (Nat.min_le_right _ _);have:=t (q2 j (aO c (Nat.min_le_left _ _)));have a:=(W j o).2;rw[fi]at e;rw[aj o,e]at a;injection a with a
   rw[a];exact this
  split
  .rename_i e;have e:=eq_of_beq e;refine aM (B rfl λx hx z l=>bO (Z x ?_) (a3 z l));rw[bo (by omega)];exact hx
  .rename_i e;replace e:k<LA.length:=Nat.lt_of_sub_ne_zero λz=>e (bj.mpr z);clear q1;have a4:∀x∈LA.drop k,ltK kf y x=true:=λx hx=>by
    obtain⟨j,c,e⟩:=cu.mp hx;rw[bG]at c;rw[fj]at e;clear m S;have O:k+j<LA.length:=by omega
    have:=q3 (k+j) (bU _ _) O;have a:=(W (k+j) O).2;rw[aj O,e]at a;injection a with a
    rw[a];simpa using this
   unfold mgB;refine aE (B4 (by have:=cf m;omega) λx f1 _=>?_);rw[show P.length+k+(LA.length-k)-1=P.length+(LA.length-1) by omega]at f1;have ex:LA[LA.length-1]?=some x:=by rw[<-h.atA (by omega)];exact f1
   have V:∀z∈LA,leK kf z x:=λz l=>by
    have:=V4 h.sa ex (cw _) z;rw[show LA.length-1+1=LA.length by omega,bx]at this;exact this l
   refine aE (K8 G k2 (h.dA _ (aA ex)) (λi=>ltK kf (LB.getD i (Value.none,Value.none)) x) (λi hi=>⟨_,(X i hi).1,h.dB _ (aA (X i hi).2),rfl⟩) (λi j N c hb=>?_) (by omega) λn r1 r2 r3=>?_)
   .exact eV (a0m h.sb N (X i (by omega)).2 (X j c).2) hb
   .dsimp only;have L:∀z∈LB.drop n,leK kf x z:=λz l=>by
     obtain⟨j,c,e⟩:=cu.mp l;rw[bG]at c;rw[fj]at e;have U:n+j<LB.length:=by clear m a0 S;omega
     have:=r3 (n+j) (bU _ _) U;have a:=(X (n+j) U).2;rw[aj U,e]at a;injection a with a
     rw[a];exact this
    have a5:∀z∈LB.take n,ltK kf z x=true:=λz l=>by
     obtain⟨j,c,e⟩:=cu.mp l;rw[aS]at c;rw[fi]at e;have o:=aO c (Nat.min_le_right _ _);have:=r2 j (aO c (Nat.min_le_left _ _));have a:=(X j o).2;rw[aj o,e]at a;injection a with a
     rw[a];exact this
    split
    .rename_i e;have e:=eq_of_beq e;refine aM (B rfl λu p z l=>bO (V u p) (L z ?_));rw[e,cR];exact l
    .rename_i Y;replace Y:0<n:=Nat.pos_of_ne_zero λz=>Y (bj.mpr z);have J:=h.extA k;have K:=h.extB r1;generalize b1:(arrOf st).extract (P.length+k) (P.length+LA.length)=Xa at J;generalize b2:(arrOf st).extract (P.length+LA.length) (P.length+LA.length+n)=Ya at K;have sX:=eB (show Xa.size=LA.length-k by rw[<-ax,J,bG]);have sY:=eB (show Ya.size=n by rw[<-ax,K,aS,cT r1]);have T:Two D kf Xa Ya:=by
      refine⟨λi z C=>?_,λi z C=>?_,by rw[J];exact h.sa.drop,by rw[K];exact h.sb.take,λz l u eu=>?_⟩
      .refine h.dA z (cv (i:=k) ?_);rw[<-J];rw[<-av]at C;exact aA C
      .refine h.dB z (bC (i:=n) ?_);rw[<-K];rw[<-av]at C;exact aA C
      .rw[K]at l;rw[<-av,J,List.getElem?_drop,cf sX,show k+(LA.length-k-1)=LA.length-1 by omega,ex]at eu;cases eu;exact a5 z l
     have F:a4W kf Xa Ya:=λz C u p=>by
      rw[K,df Y,ey]at C;cases C;rw[J]at p;exact a4 u p
     have fin:∀(r:Array Keyed) (b:SortSt),D5 kf Xa Ya r->Good d b->wpS (model prog w) A E s (mgC (P.length+k) r) Q b:=λr b hr g=>by
      unfold mgC;obtain⟨H,a8⟩:=hr;rw[J,K]at H;have a1:=eB (show r.size=LA.length-k+n by
       have:=H.length_eq;rw[au,bG,aS,ax,cT r1]at this;exact this)
      refine aE (wpS_modify (aE (fe (aM ?_))));show Q (failedOf b).isNone _;rw[g.2.2.2,f2];have I:∀z∈r.toList,z∈LA.drop k∨z∈LB.take n:=λz l=>ay.mp (H.mem_iff.mp l);refine q _ (LA.take k++r.toList++LB.drop n) (g.1.trans k2) rfl (g.2.2.1.trans p2) ⟨?_,?_⟩ ?_
      .refine((ck _ H).append_right _).trans ?_;rw[<-aG (LA.take k),bh,aG,bh]
      .have sAk:∀u∈LA.take k,∀v∈LA.drop k,leK kf u v:=by
        have:=h.sa;rw[<-bh k LA,bB]at this;exact this.2.2
       have b0:∀u∈LB.take n,∀v∈LB.drop n,leK kf u v:=by
        have:=h.sb;rw[<-bh n LB,bB]at this;exact this.2.2
       rw[bB,bB];refine⟨⟨h.sa.take,a8,λu p v hv=>?_⟩,h.sb.drop,λu p v hv=>?_⟩
       .rcases I v hv with z|z
        .exact sAk u p v z
        .exact bO (Z u p) (a3 v (bC z))
       .rcases ay.mp p with z|z
        .exact bO (V u (bC z)) (L v hv)
        .rcases I u z with z|z
         .exact bO (V u (cv z)) (L v hv)
         .exact b0 u z v hv
      .show(a7O (arrOf b) r (P.length+k)).toList=_;rw[g.2.1,a2,a6B _ _ _ (by rw[cf a1,cf m];clear m;omega),h.eq,cf a1];have e1:(P++LA++LB++R).take (P.length+k)=P++LA.take k:=by
        rw[aG,aG,List.take_append,bo (by omega),show P.length+k-P.length=k by omega,dk (by omega)]
       have a:(P++LA++LB++R).drop (P.length+k+(LA.length-k+n))=LB.drop n++R:=by
        rw[aG (P++LA),List.drop_append,cc (by rw[au];omega),b_,au,show P.length+k+(LA.length-k+n)-(P.length+LA.length)=n by omega,cJ r1]
       rw[e1,a];simp[aG]
     split
     .exact aE (a6f T G k2 (by rw[cf sX];omega) (by rw[cf sY];exact Y) (λz C u p=>bP (F z C u p)) λr b hr g=>fin r b hr g)
     .exact aE (a6g T F G k2 (by rw[cf sX];omega) (by rw[cf sY];exact Y) λr b hr g=>fin r b hr g)
end
section
variable {kf:Keyed->O.α}
def kx(kf:Keyed->O.α)(qN:Array Keyed)(i:Nat):O.α:=kf (qN.getD i (Value.none,Value.none))
def SoO(kf:Keyed->O.α)(qN:Array Keyed)(lo m:Nat):Prop:=∀i j,i<=j->j<m->O.kle (kx kf qN (lo+i)) (kx kf qN (lo+j))
def NiO(kf:Keyed->O.α)(qN:Array Keyed)(lo m:Nat):Prop:=∀i j,i<=j->j<m->O.kle (kx kf qN (lo+j)) (kx kf qN (lo+i))
def Kept(lo:Nat)(st st':SortSt):Prop:=kindOf st'=kindOf st/\pendingOf st'=pendingOf st/\failedOf st'=failedOf st/\(arrOf st').Perm (arrOf st)/\∀i,i<lo->(arrOf st')[i]?=(arrOf st)[i]?
def Kept.refl{lo:Nat}:Kept lo st st:=⟨rfl,rfl,rfl,.refl _,λ_ _=>rfl⟩
def Kept.trans{lo:Nat}{st' a:SortSt}(h:Kept lo st st')(h2:Kept lo st' a):Kept lo st a:=⟨h2.1.trans h.1,h2.2.1.trans h.2.1,h2.2.2.1.trans h.2.2.1,h2.2.2.2.1.trans h.2.2.2.1,λi hi=>(h2.2.2.2.2 i hi).trans (h.2.2.2.2 i hi)⟩
def AllD(D:Keyed->Prop)(qN:Array Keyed):Prop:=∀x∈qN.toList,D x
def AllD.perm{a b:Array Keyed}(h:AllD D a)(p:b.Perm a):AllD D b:=λx c=>h x ((dC.mp p).mem_iff.mp c)
def Y0{a b:Array Keyed}(h:a[i]?=b[j]?):kx kf a i=kx kf b j:=by
 unfold kx;rw[bN,bN,h]
def T5{Q:qD Bool->SortSt->Prop}(a:Cmp prog w A s κ D (ltK kf))(f:kindOf st=κ)(d:AllD D (arrOf st))(hi:i<(arrOf st).size)(e:j<(arrOf st).size)(h:Q (some (O.blt (kx kf (arrOf st) i) (kx kf (arrOf st) j))) st):wpS (model prog w) A E s (ltAt' i j) Q st:=by
 rw[ltAt'_eq];refine aE (fe ?_);refine aE (B4 hi λx b f1=>aE (B4 e λy c f2=>?_));rw[gdK _ hi]at b;rw[gdK _ e]at c;cases b;cases c;exact a0N a f (d _ (aA f1)) (d _ (aA f2)) h
def b1L{src:Nat}{Q:Unit->SortSt->Prop}(h:Q () (setArr st (bubble (arrOf st) src (src-a)))):wpS (model prog w) A E s (moveDown' src a) Q st:=by
 rw[moveDown'_eq];exact wpS_modify h
def a1v{src:Nat}(hs:src<qN.size)(hd:a<=src)(i:Nat):kx kf (bubble qN src (src-a)) i=if i=a then kx kf qN src else if a<i/\i<=src then kx kf qN (i-1)else kx kf qN i:=by
 have e:=getElem?_bubble hs (src-a) (by omega) i;rw[show src-(src-a)=a by omega]at e;split
 .rename_i c;rw[aD c]at e;exact Y0 e
 .rename_i c;rw[aq c]at e;split
  .rename_i c2;rw[aD c2]at e;exact Y0 e
  .rename_i c2;rw[aq c2]at e;exact Y0 e
def a2Z{l:Nat}(h:l<j)(h2:j<=k):j-1<k:=by omega
section
variable {l:Nat}(hs:lo+k<qN.size)(hd:l<=k)
include hs hd
theorem b4B(h:i<l):kx kf (bubble qN (lo+k) (lo+k-(lo+l))) (lo+i)=kx kf qN (lo+i):=by
 rw[a1v hs (by omega),aq (by omega),aq (by omega)]
theorem a8K:kx kf (bubble qN (lo+k) (lo+k-(lo+l))) (lo+l)=kx kf qN (lo+k):=by
 rw[a1v hs (by omega),aD rfl]
theorem a5Y(h:l<i)(h2:i<=k):kx kf (bubble qN (lo+k) (lo+k-(lo+l))) (lo+i)=kx kf qN (lo+(i-1)):=by
 rw[a1v hs (by omega),aq (by omega),aD (by omega),Nat.add_sub_assoc (by omega)]
end
def b1M{ok:Nat}{Q:Bool->SortSt->Prop}(C:Cmp prog w A s κ D (ltK kf))(L:kindOf st=κ)(J:AllD D (arrOf st))(N:lo+n<=(arrOf st).size)(H:ok<=n)(hs:SoO kf (arrOf st) lo ok)
  (h:∀st',Kept lo st st'->SoO kf (arrOf st') lo n->Q true st'):wpS (model prog w) A E s (binarySort' lo n ok) Q st:=by
 rw[binarySort'_eq];refine aE (cB (cj (I:=λk c st'=>c=(none,())/\Kept lo st st'/\SoO kf (arrOf st') lo (min k n))
  (Q:=λc st'=>c=(none,())/\Kept lo st st'/\SoO kf (arrOf st') lo n) ?step ?fin ?init) ?post)
 case post =>
  rintro c st' ⟨rfl,f,e⟩;exact aM (h st' f e)
 case init =>
  refine⟨rfl,Kept.refl,λi j g q=>?_⟩;by_cases h1:ok=0
  .have:i=j:=by omega
   subst this;exact cw _
  .exact hs i j g (by omega)
 case fin =>
  rintro c st' ⟨K,f,e⟩;refine⟨K,f,?_⟩;rwa[show min (max (max ok 1) n) n=n by omega]at e
 case step =>
  rintro k c st' B F ⟨rfl,f,e⟩;rw[show min k n=k by omega]at e;have t:lo+k<(arrOf st').size:=by have:=f.2.2.2.1.size_eq;omega
  have z:=J.perm f.2.2.2.1;have u:min (k+1) n=k+1:=by omega
  clear N H B F;refine aE (cB (cj (I:=λx c a=>a=st'/\∃l r,c=(none,l,r)/\l<=r/\r<=k/\r-l<=k-x /\
    (∀i,i<l->O.kle (kx kf (arrOf st') (lo+i)) (kx kf (arrOf st') (lo+k)))/\(∀i,r<=i->i<k->O.kle (kx kf (arrOf st') (lo+k)) (kx kf (arrOf st') (lo+i))))
   (Q:=λc a=>a=st'/\∃l r,c=(none,l,r)/\l<=k /\
    (∀i,i<l->O.kle (kx kf (arrOf st') (lo+i)) (kx kf (arrOf st') (lo+k)))/\(∀i,l<=i->i<k->O.kle (kx kf (arrOf st') (lo+k)) (kx kf (arrOf st') (lo+i)))) ?istep ?ifin ?iinit) ?ipost)
  case iinit=>exact⟨rfl,0,k,rfl,by omega,by omega,by omega,λi hi=>by omega,λi h1 h2=>by omega⟩
  case ifin =>
   rintro c a ⟨rfl,l,r,rfl,G,v,M,o,m⟩;have:l=r:=by omega
   subst this;exact⟨rfl,l,l,rfl,v,o,m⟩
  case istep =>
   rintro x c a _ P ⟨rfl,l,r,rfl,G,v,M,o,m⟩;dsimp only;by_cases y:l ≥ r
   .rw[aD y];have:l=r:=by omega
    subst this;exact aM ⟨rfl,l,l,rfl,v,o,m⟩
   .rw[aq y];refine aE (T5 C (f.1.trans L) z (by omega) (by omega) ?_);dsimp only;cases p:O.blt (kx kf (arrOf a) (lo+k)) (kx kf (arrOf a) (lo+(l+r) / 2))with
    |true =>
     rw[aD rfl];refine aM ⟨rfl,l,(l+r) / 2,rfl,by omega,by omega,by omega,o,λi h1 h2=>?_⟩;exact bO (bP p) (e _ _ h1 h2)
    |false =>
     rw[aq (by simp)];refine aM ⟨rfl,(l+r) / 2+1,r,rfl,by omega,by omega,by omega,λi h1=>?_,m⟩;exact bO (e i ((l+r) / 2) (by omega) (by omega)) p
  case ipost =>
   rintro c a ⟨rfl,l,r,rfl,b,o,m⟩;refine aE (b1L (aM ⟨rfl,f.trans ⟨rfl,rfl,rfl,bubble_perm _ _ _,λi hi=>?_⟩,?_⟩))
   .show(bubble (arrOf a) (lo+k) (lo+k-(lo+l)))[i]?=_;rw[getElem?_bubble t _ (by omega),aq (by omega),aq (by omega)]
   rw[u];clear u;intro i j g q;replace q:j<=k:=dY q;show O.kle (kx kf (bubble (arrOf a) (lo+k) (lo+k-(lo+l))) (lo+i)) (kx kf (bubble (arrOf a) (lo+k) (lo+k-(lo+l))) (lo+j));rcases di i l with c|rfl|c
   .rw[b4B t b c];rcases di j l with d|rfl|d
    .rw[b4B t b d];exact e i j g (aO d b)
    .rw[a8K t b];exact o i c
    .rw[a5Y t b d q];exact e i (j-1) (Nat.le_sub_one_of_lt (ei c d)) (a2Z d q)
   .rw[a8K t b];rcases Nat.lt_or_eq_of_le g with d|rfl
    .rw[a5Y t b d q];exact m (j-1) (Nat.le_sub_one_of_lt d) (a2Z d q)
    .rw[a8K t b];exact cw _
   .have d:=aO c g;rw[a5Y t b c (a_ g q),a5Y t b d q];exact e (i-1) (j-1) (Nat.sub_le_sub_right g 1) (a2Z d q)
end
def b4F(lo a nrem:Nat):StateT SortSt Sem AscSt:=forIn [a:nrem] ((none,a):AscSt) λ_ c=>ltAt' (lo+c.2) (lo+c.2-1)>>=λr=>match r with
 |some sm=>(if sm=true then pure (.done (none,c.2))else pure (.yield (none,c.2+1)))
 |_=>pure (.done (some none,c.2))
def a0F(lo n nrem:Nat):StateT SortSt Sem (qJ):=reverseSlice' lo (lo+n)>>=λ_=>b4F lo n nrem>>=λc=>match c.1 with
 |some r=>pure r
 |none=>pure (some c.2)
def a9N(lo n nrem:Nat):StateT SortSt Sem DescSt:=forIn [n:nrem] ((none,n,0):DescSt) λ_ c=>ltAt' (lo+c.2.1) (lo+c.2.1-1)>>=λr=>match r with
 |some sm=>(if sm=true then(if c.2.2 > 0 then reverseSlice' (lo+c.2.1-(c.2.2+1)) (lo+c.2.1)>>=λ_=>pure (.yield (none,c.2.1+1,0))else pure (.yield (none,c.2.1+1,0)))
  else ltAt' (lo+c.2.1-1) (lo+c.2.1)>>=λr=>match r with
   |some lg=>(if lg=true then pure (.done (none,c.2.1,c.2.2))else pure (.yield (none,c.2.1+1,c.2.2+1)))
   |_=>pure (.done (some none,c.2.1,c.2.2)))
 |_=>pure (.done (some none,c.2.1,c.2.2))
def dpO(lo n nrem:Nat):StateT SortSt Sem (qJ):=liftM (rule "list.sort.descending-run")>>=λ_=>a9N lo (n+1) nrem>>=λc=>match c.1 with
 |some r=>pure r
 |none=>(if c.2.2 > 0 then reverseSlice' (lo+c.2.1-(c.2.2+1)) (lo+c.2.1)>>=λ_=>a0F lo c.2.1 nrem else a0F lo c.2.1 nrem)
def b1o(lo a:Nat):countRun' lo a=(b4F lo 1 a>>=λc=>match c.1 with
 |some r=>pure r
 |none=>(if (c.2==a)=true then pure (some c.2)else if c.2 > 1 then ltAt' lo (lo+c.2-1)>>=λr=>match r with
   |some rose=>(if rose=true then pure (some c.2)else reverseSlice' lo (lo+c.2)>>=λ_=>dpO lo c.2 a)
   |_=>pure none
  else dpO lo c.2 a)):=by
 have e:∀(n:Nat),(reverseSlice' lo (lo+n)>>=λ_=>b4F lo n a>>=λc=>match c.1 with|some r=>pure r|none=>pure (some c.2))=a0F lo n a:=λn=>rfl;rw[countRun'_eq];dsimp only;refine congr (aL _ ?_) (funext λc=>?_)
 .rfl
 rcases c with⟨_|q,n⟩
 .dsimp only;have d:∀n:Nat,(liftM (rule "list.sort.descending-run")>>=λ_=>a9N lo (n+1) a>>=λc=>match c.1 with
    |some r=>pure r
    |none=>(if c.2.2 > 0 then reverseSlice' (lo+c.2.1-(c.2.2+1)) (lo+c.2.1)>>=λ_=>a0F lo c.2.1 a else a0F lo c.2.1 a))=dpO lo n a:=λn=>rfl
  have b:∀{β:Type}{m:StateT SortSt Sem β}{f g:β->StateT SortSt Sem (qJ)},(∀c,f c=g c)->(m>>=f)=(m>>=g):=λh=>aL _ (funext h);refine dE rfl (λ_=>rfl) λ_=>dE rfl (λ_=>?_) λ_=>?_
  .refine b λr=>?_;rcases r with _|r
   .rfl
   .dsimp only;refine dE rfl (λ_=>rfl) λ_=>?_;refine b λ_=>?_;rw[<-d];refine b λ_=>?_;refine congr (aL _ ?_) (funext λc=>?_)
    .rfl
    .rcases c with⟨_|q,n,z⟩
     .dsimp only;refine dE rfl (λ_=>?_) λ_=>?_
      .refine b λ_=>?_;refine b λ_=>?_;refine congr (aL _ ?_) (funext λc=>?_)
       .rfl
       .rcases c with⟨_|q,n⟩<;>rfl
      .refine b λ_=>?_;refine congr (aL _ ?_) (funext λc=>?_)
       .rfl
       .rcases c with⟨_|q,n⟩<;>rfl
     .rfl
  .rw[<-d];refine b λ_=>?_;refine congr (aL _ ?_) (funext λc=>?_)
   .rfl
   .rcases c with⟨_|q,n,z⟩
    .dsimp only;refine dE rfl (λ_=>?_) λ_=>?_
     .refine b λ_=>?_;refine b λ_=>?_;refine congr (aL _ ?_) (funext λc=>?_)
      .rfl
      .rcases c with⟨_|q,n⟩<;>rfl
     .refine b λ_=>?_;refine congr (aL _ ?_) (funext λc=>?_)
      .rfl
      .rcases c with⟨_|q,n⟩<;>rfl
    .rfl
 .rfl
section
variable {kf:Keyed->O.α}
def a1u(a:j<=qN.size)(k:Nat):kx kf (mirror qN i j ((j-i) / 2)) k=if i<=k/\k<j then kx kf qN (i+j-1-k)else kx kf qN k:=by
 have e:=getElem?_mirror_all (i:=i) a k;split
 .rename_i c;rw[aD c]at e;exact Y0 e
 .rename_i c;rw[aq c]at e;exact Y0 e
def O4(b:j<=qN.size)(a:∀k,i<=k->k<j->kx kf qN k=kx kf qN (j-1))(k:Nat):kx kf (mirror qN i j ((j-i) / 2)) k=kx kf qN k:=by
 rw[a1u b];split
 .rw[a _ (by omega) (by omega),a k (by omega) (by omega)]
 .rfl
def Kept.rev(hi:lo<=i)(a:j<=(arrOf st).size):Kept lo st (setArr st (mirror (arrOf st) i j ((j-i) / 2))):=⟨rfl,rfl,rfl,mirror_perm _ _ _ _,λk b=>by
 show(mirror (arrOf st) i j ((j-i) / 2))[k]?=_;rw[getElem?_mirror_all a,aq (by omega)]⟩
def a6j{b:Nat}{Q:AscSt->SortSt->Prop}(k:Cmp prog w A s κ D (ltK kf))(u:kindOf st=κ)(t:AllD D (arrOf st))(r:lo+b<=(arrOf st).size)(q:1<=a)(f:a<=b)(hs:SoO kf (arrOf st) lo a)
  (h:∀n,a<=n->n<=b->SoO kf (arrOf st) lo n->(n=b∨O.klt (kx kf (arrOf st) (lo+n)) (kx kf (arrOf st) (lo+(n-1))))->Q (none,n) st):wpS (model prog w) A E s (b4F lo a b) Q st:=by
 unfold b4F;refine cj (I:=λx c st'=>st'=st/\c=(none,x)/\SoO kf (arrOf st) lo x) ?step ?fin ⟨rfl,rfl,hs⟩
 case fin =>
  rintro c st' ⟨rfl,rfl,d⟩;rw[Nat.max_eq_right f]at d⊢;exact h b f (ak _) d (.inl rfl)
 case step =>
  rintro x c st' g p ⟨rfl,rfl,d⟩;dsimp only;replace q:1<=x:=a_ q g;rw[show lo+x-1=lo+(x-1) by clear r f g p;omega];refine aE (T5 k u t (by omega) (by omega) ?_);clear r f;dsimp only;cases e:O.blt (kx kf (arrOf st') (lo+x)) (kx kf (arrOf st') (lo+(x-1)))with
  |true =>
   rw[aD rfl];exact aM (h x g (by omega) d (.inr e))
  |false =>
   rw[aq (by simp)];refine aM ⟨rfl,rfl,λi j m v=>?_⟩;by_cases o:j<x
   .exact d i j m o
   .have hj':j=x:=by omega
    subst hj';by_cases l:i=j
    .subst l;exact cw _
    .exact bO (d i (j-1) (by omega) (by omega)) e
def a2B(d:Cmp prog w A s κ D (ltK kf))(l:kindOf st=κ)(g:AllD D (arrOf st))(f:lo+a<=(arrOf st).size)(h1:1<=n)(b:n<=a)(hs:NiO kf (arrOf st) lo n)
  (h:∀m st',Kept lo st st'->1<=m->m<=a->SoO kf (arrOf st') lo m->Q (some m) st'):wpS (model prog w) A E s (a0F lo n a) Q st:=by
 unfold a0F;refine aE (wpS_reverse ?_);have c:Kept lo st (setArr st (mirror (arrOf st) lo (lo+n) ((lo+n-lo) / 2))):=Kept.rev (ak _) (by omega);refine aE (a6j d (c.1.trans l) (g.perm c.2.2.2.1) (by rw[c.2.2.2.1.size_eq];exact f) h1 b (λi j k q=>?_) λm r o p _=>aM (h m _ c (by omega) o p));show O.kle (kx kf (mirror (arrOf st) lo (lo+n) ((lo+n-lo) / 2)) (lo+i)) (kx kf (mirror (arrOf st) lo (lo+n) ((lo+n-lo) / 2)) (lo+j));have e:lo+n<=(arrOf st).size:=by omega
 rw[a1u e,a1u e];clear f h1 b e;rw[aD (by omega),aD (by omega),show lo+(lo+n)-1-(lo+i)=lo+(n-1-i) by omega,show lo+(lo+n)-1-(lo+j)=lo+(n-1-j) by omega];exact hs _ _ (by omega) (by omega)
def a9Y{d:Nat}{Q:DescSt->SortSt->Prop}(H:Cmp prog w A s κ D (ltK kf))(J:kindOf st=κ)(M:AllD D (arrOf st))(L:lo+d<=(arrOf st).size)(h1:1<=n)(u:n<=d)(hs:NiO kf (arrOf st) lo n)
  (h:∀m a st',Kept lo st st'->n<=m->m<=d->NiO kf (arrOf st') lo m->a+1<=m->(∀i,lo+m-(a+1)<=i->i<lo+m->kx kf (arrOf st') i=kx kf (arrOf st') (lo+m-1))->Q (none,m,a) st'):wpS (model prog w) A E s (a9N lo n d) Q st:=by
 unfold a9N;refine cj (I:=λx c st'=>∃a,c=(none,x,a)/\Kept lo st st'/\NiO kf (arrOf st') lo x/\a+1<=x /\
   (∀i,lo+x-(a+1)<=i->i<lo+x->kx kf (arrOf st') i=kx kf (arrOf st') (lo+x-1))) ?step ?fin ⟨0,rfl,Kept.refl,hs,by omega,λi h1 h2=>by congr 1;omega⟩
 case fin =>
  rintro c st' ⟨a,rfl,b,g,F,y⟩;rw[Nat.max_eq_right u]at g F y⊢;exact h d a st' b u (ak _) g F y
 case step =>
  rintro x c st' o e ⟨a,rfl,b,g,F,y⟩;dsimp only;have t:lo+x<(arrOf st').size:=by rw[b.2.2.2.1.size_eq];exact aO (Nat.add_lt_add_left e lo) L
  have G:=M.perm b.2.2.2.1;replace e:x<=d:=cE e;have ex:HEq (lo+x-1) (lo+(x-1)):=eB (by clear L h1 u o e t;omega);have l:lo+x-1<(arrOf st').size:=eY (Nat.sub_le _ _) t;clear L h1 u;refine aE (T5 H (b.1.trans J) G t l ?_);dsimp only;rw[cf ex]at y l⊢;cases q:O.blt (kx kf (arrOf st') (lo+x)) (kx kf (arrOf st') (lo+(x-1)))with
  |true =>
   rw[aD rfl];have r:∀xs:Array Keyed,(∀k,kx kf xs k=kx kf (arrOf st') k)->NiO kf xs lo (x+1):=by
    intro xs J i j B N;rw[J,J];by_cases C:j<x
    .exact g i j B C
    .have hj':j=x:=by omega
     subst hj';by_cases z:i=j
     .subst z;exact cw _
     .exact bO (bP q) (g i (j-1) (by omega) (by omega))
   by_cases f:a > 0
   .rw[aD f];refine aE (wpS_reverse (aM ⟨0,rfl,b.trans (Kept.rev (by clear t l ex o e f;omega) (cE t)),r _ (O4 (cE t) (λk P R=>by rw[cf ex];exact y k P R)),eZ _,λi h1 h2=>by clear t l ex o e f F;congr 1;omega⟩))
   .rw[aq f];exact aM ⟨0,rfl,b,r _ (λ_=>rfl),eZ _,λi h1 h2=>by clear t l ex o e f F;congr 1;omega⟩
  |false =>
   rw[aq (by simp)];refine aE (T5 H (b.1.trans J) G l t ?_);dsimp only;clear t l;cases p:O.blt (kx kf (arrOf st') (lo+(x-1))) (kx kf (arrOf st') (lo+x))with
   |true =>
    rw[aD rfl];exact aM (h x a st' b o e g F (by rw[cf ex];exact y))
   |false =>
    rw[aq (by simp)];have v:kx kf (arrOf st') (lo+x)=kx kf (arrOf st') (lo+(x-1)):=KeyOrd.kle_antisymm p q;clear o e;refine aM ⟨a+1,rfl,b,λi j B N=>?_,by omega,λi h1 h2=>?_⟩
    .by_cases C:j<x
     .exact g i j B C
     .have hj':j=x:=by omega
      subst hj';by_cases z:i=j
      .subst z;exact cw _
      .rw[v];exact g i (j-1) (by omega) (by omega)
    .rw[show lo+(x+1)-1=lo+x by omega];by_cases K:i=lo+x
     .subst K;rfl
     .rw[v];exact y i (by omega) (by omega)
def a8V(e:Cmp prog w A s κ D (ltK kf))(t:kindOf st=κ)(y:AllD D (arrOf st))(q:lo+a<=(arrOf st).size)(u:n+1<=a)(hs:NiO kf (arrOf st) lo (n+1))
  (h:∀m st',Kept lo st st'->1<=m->m<=a->SoO kf (arrOf st') lo m->Q (some m) st'):wpS (model prog w) A E s (dpO lo n a) Q st:=by
 unfold dpO;refine aE (T4 ?_);refine aE (a9Y e t y q (by omega) u hs λm k st' b C f p F z=>?_);dsimp only;have v:=eB (b.2.2.2.1.size_eq:(arrOf st').size=(arrOf st).size);have g:lo+m<=(arrOf st').size:=by rw[cf v];exact a_ (Nat.add_le_add_left f lo) q
 have o:=y.perm b.2.2.2.1;by_cases d:k > 0
 .rw[aD d];have c:Kept lo st' (setArr st' (mirror (arrOf st') (lo+m-(k+1)) (lo+m) ((lo+m-(lo+m-(k+1))) / 2))):=Kept.rev (by omega) g;refine aE (wpS_reverse (a2B e (c.1.trans (b.1.trans t)) (o.perm c.2.2.2.1) (by rw[c.2.2.2.1.size_eq,cf v];exact q) (by omega) f (λi j r B=>?_) λx l k2=>h x l (b.trans (c.trans k2))));show O.kle (kx kf (mirror (arrOf st') _ _ _) _) (kx kf (mirror (arrOf st') _ _ _) _);rw[O4 g z,O4 g z];exact p i j r B
 .rw[aq d];exact a2B e (b.1.trans t) o (by rw[cf v];exact q) (by omega) f p λx l k2=>h x l (b.trans k2)
def a7A{b:Nat}(f:Cmp prog w A s κ D (ltK kf))(v:kindOf st=κ)(F:AllD D (arrOf st))(q:lo+b<=(arrOf st).size)(h1:1<=b)
  (h:∀m st',Kept lo st st'->1<=m->m<=b->SoO kf (arrOf st') lo m->Q (some m) st'):wpS (model prog w) A E s (countRun' lo b) Q st:=by
 rw[b1o];refine aE (a6j f v F q (ak 1) h1 (λi j x J=>by have:i=j:=(by omega);subst this;exact cw _) λn g c l C=>?_);dsimp only;by_cases a:n=b
 .rw[aD (by simpa using a)];exact aM (h n st Kept.refl g c l)
 .rw[aq (by simpa using a)];have y:O.klt (kx kf (arrOf st) (lo+n)) (kx kf (arrOf st) (lo+(n-1))):=C.resolve_left a;replace a:n+1<=b:=by omega
  clear C c h1;replace c:=Nat.le_of_succ_le a;have u:lo+n<(arrOf st).size:=aO (Nat.add_lt_add_left a lo) q;by_cases o:n > 1
  .rw[aD o];refine aE (T5 f v F (by omega) (by omega) ?_);dsimp only;have ex:lo+n-1=lo+(n-1):=by clear q a c u;omega
   rw[ex];cases t:O.blt (kx kf (arrOf st) lo) (kx kf (arrOf st) (lo+(n-1)))with
   |true =>
    rw[aD rfl];exact aM (h n st Kept.refl g c l)
   |false =>
    rw[aq (by simp)];have r:=q;clear q;have d:∀k,k<n->kx kf (arrOf st) (lo+k)=kx kf (arrOf st) (lo+(n-1)):=by
     intro k v;clear u a c ex;have a1:=l 0 k (br _) v;have K:=l k (n-1) (by omega) (by omega);exact KeyOrd.kle_antisymm K (bO t a1)
    have z:∀k,kx kf (mirror (arrOf st) lo (lo+n) ((lo+n-lo) / 2)) k=kx kf (arrOf st) k:=O4 (cE u) λk M N=>by
     rw[ex];clear u a c ex r;have:=d (k-lo) (by omega);rwa[show lo+(k-lo)=k by omega]at this
    have e:Kept lo st (setArr st (mirror (arrOf st) lo (lo+n) ((lo+n-lo) / 2))):=Kept.rev (ak _) (cE u);refine aE (wpS_reverse (a8V f (e.1.trans v) (F.perm e.2.2.2.1) (by rw[e.2.2.2.1.size_eq];exact r) a (λi j x J=>?_) λL I k2=>h L I (e.trans k2)));show O.kle (kx kf (mirror (arrOf st) _ _ _) _) (kx kf (mirror (arrOf st) _ _ _) _);rw[z,z];clear u a c ex r g;by_cases H:j<n
    .rw[d i (by omega),d j H];exact cw _
    .have hj':j=n:=by omega
     subst hj';by_cases p:i=j
     .subst p;exact cw _
     .rw[d i (by omega)];exact bP y
  .rw[aq o];have B:n=1:=by omega
   subst B;refine a8V f v F q a (λi j x J=>?_) h;clear u a c q g o;by_cases p:i=j
   .subst p;exact cw _
   .have hi0:i=0:=by omega
    have G:j=1:=by omega
    subst hi0;subst G;exact bP y
end
def a2d:Nat->qA (qA Keyed)->qA (Nat×Nat)
 |_,[]=>[]
 |o,r::rs=>(o,r.length)::a2d (o+r.length) rs
def S5:∀(o:Nat) (X Y:qA (qA Keyed)),a2d o (X++Y)=a2d o X++a2d (o+X.flatten.length) Y
 |o,[],Y=>by simp[a2d]
 |o,r::X,Y=>by
  simp only[dI,a2d,S5 (o+r.length) X Y,List.flatten_cons,au,dP]
def a3f:∀(o:Nat) (X:qA (qA Keyed)),(a2d o X).length=X.length
 |_,[]=>rfl
 |o,r::X=>by simp only[a2d,aY,a3f (o+r.length) X]
abbrev ent(e:Nat×Nat×Nat):Nat×Nat:=(e.1,e.2.1)
section
variable {kf:Keyed->O.α}
structure RI(kf:Keyed->O.α)(κ:SortKind)(a0:Array Keyed)(st:SortSt)(runs:qA (qA Keyed))(rest:qA Keyed):Prop where
 kind:kindOf st=κ
 failed:failedOf st=none
 perm:(arrOf st).Perm a0
 eq:(arrOf st).toList=runs.flatten++rest
 sorted:∀r∈runs,r.Pairwise (leK kf)
 ne:∀r∈runs,0<r.length
 pend:(pendingOf st).toList.map ent=a2d 0 runs
def RI.size(h:RI kf κ a0 st runs rest):(pendingOf st).size=runs.length:=by
 rw[<-ax,<-ag (f:=ent),h.pend,a3f]
def a1K{X Y:qA (qA Keyed)}{ra b:qA Keyed}{Q:Bool->SortSt->Prop}(j:Cmp prog w A s κ D (ltK kf))(I:AllD D a0)(h:RI kf κ a0 st (X++ra::b::Y) rest)
  (q:∀(st':SortSt) (M:qA Keyed),RI kf κ a0 st' (X++M::Y) rest->M.length=ra.length+b.length->Q true st'):wpS (model prog w) A E s (mergeAt' X.length) Q st:=by
 have p:=h.pend;rw[S5,a2d,a2d]at p;obtain⟨c,R,i,n,v⟩:=List.map_eq_append_iff.mp p;obtain⟨x,S,B,e,C⟩:=List.map_eq_cons_iff.mp v;obtain⟨y,K,F,g,o⟩:=List.map_eq_cons_iff.mp C;subst B F;obtain⟨L,N,u⟩:=x;obtain⟨O,P,m⟩:=y;rw[dr]at e g o;have e:(L,N)=(X.flatten.length,ra.length):=e;have g:(O,P)=(X.flatten.length+ra.length,b.length):=g;cases e;cases g;have J:c.length=X.length:=by rw[<-ag (f:=ent),n,a3f]
 have G:(pendingOf st)[X.length]?=some (X.flatten.length,ra.length,u):=by
  rw[<-av,i,ba (by omega),show X.length-c.length=0 by omega];rfl
 have H:(pendingOf st)[X.length+1]?=some (X.flatten.length+ra.length,b.length,m):=by
  rw[<-av,i,ba (by omega),show X.length+1-c.length=1 by omega];rfl
 have a:Runs2 kf D (arrOf st) X.flatten ra b (Y.flatten++rest):=by
  refine⟨?_,λz t=>(I.perm h.perm) z t,h.sorted _ (by simp),h.sorted _ (by simp),h.ne _ (by simp),h.ne _ (by simp)⟩;rw[h.eq];simp[aG]
 refine a6h j h.kind a G H h.failed λst' M k1 k2 k3 l k5=>?_;have d:M.length=ra.length+b.length:=by rw[l.1.length_eq,au]
 refine q st' M ⟨k1,k2,?_,?_,λr k=>?_,λr k=>?_,?_⟩ d
 .refine dC.mpr ?_;refine List.Perm.trans ?_ (dC.mp h.perm);rw[k5,a.eq];refine List.Perm.append_right _ ?_;rw[aG X.flatten];exact ck _ l.1
 .rw[k5];simp[aG]
 .rcases ay.mp k with z|z
  .exact h.sorted r (aR _ z)
  .rcases az.mp z with rfl|z
   .exact l.2
   .exact h.sorted r (aQ _ (ar _ (ar _ z)))
 .rcases ay.mp k with z|z
  .exact h.ne r (aR _ z)
  .rcases az.mp z with rfl|z
   .have:=h.ne ra (by simp);omega
   .exact h.ne r (aQ _ (ar _ (ar _ z)))
 .rw[k3,Array.eraseIdxIfInBounds];have t:(pendingOf st).size=X.length+(Y.length+2):=by rw[h.size];simp
  rw[dif_pos (by rw[eX];omega),Array.toList_eraseIdx,Array.toList_setIfInBounds,i];rw[List.set_append_right _ _ (by omega),show X.length-c.length=0 by omega,dt];rw[List.eraseIdx_append_of_length_le (by omega),show X.length+1-c.length=1 by omega];show(c++(X.flatten.length,ra.length+b.length,u)::K).map ent=_;rw[bL,aW,n,o,S5,a2d,dr,d];show _++(X.flatten.length,ra.length+b.length)::_=_;rw[dP]
end
def a2t(lo n:Nat):StateT SortSt Sem (ForInStep (qD Unit×Nat)) :=
 (modify λs=>setPending s ((pendingOf s).push (lo,n,0)))>>=λ_=>pure (.yield (none,lo+n))
def Y6(sz pw:Nat):StateT SortSt Sem (qD Unit×Unit) :=
 forIn [:sz] ((none,()):qD Unit×Unit) λ_ _=>get>>=λg=>match (if (pendingOf g).size > 1 then(pendingOf g)[(pendingOf g).size-2]? else none)with
  |some (_,_,older)=>(if older<=pw then pure (.done (none,()))else mergeAt' ((pendingOf g).size-2)>>=λb=>if (!b)=true then pure (.done (some (),()))else pure (.yield (none,())))
  |_=>pure (.done (none,()))
def a0M(sz lo n:Nat):StateT SortSt Sem (ForInStep (qD Unit×Nat)):=get>>=λg=>match (pendingOf g).back? with
 |some (s1,n1,_)=>Y6 sz (power' sz (2*s1+n1) (2*s1+n1+n1+n) sz)>>=λc=>match c.1 with
  |some r=>pure (.done (some r,lo))
  |none=>(modify λs=>setPending s ((pendingOf s).modify ((pendingOf s).size-1) λx=>(x.1,x.2.1,power' sz (2*s1+n1) (2*s1+n1+n1+n) sz)))>>=λ_=>a2t lo n
 |_=>a2t lo n
def a9F(sz:Nat):StateT SortSt Sem (qD Unit×Unit) :=
 forIn [:sz] ((none,()):qD Unit×Unit) λ_ _=>get>>=λg=>if (pendingOf g).size<=1 then pure (.done (none,()))
  else mergeAt' (if Option.any (λx=>decide (x<(pendingOf g)[(pendingOf g).size-2+1]?.elim 0 λx=>x.2.1)) (if (pendingOf g).size-2 > 0 then Option.map (λx=>x.2.1) (pendingOf g)[(pendingOf g).size-2-1]? else none)=true then(pendingOf g).size-2-1 else(pendingOf g).size-2)>>=λb=>if (!b)=true then pure (.done (some (),()))else pure (.yield (none,()))
section
variable {kf:Keyed->O.α}
def two_last{l:qA α}(h:2<=l.length):∃X a b,l=X++[a,b]/\X.length=l.length-2:=by
 refine⟨l.take (l.length-2),l[l.length-2],l[l.length-1],?_,by rw[aS];omega⟩;have c:l.drop (l.length-2)=[l[l.length-2],l[l.length-1]]:=by
  rw[cy (by omega),cy (by omega),cc (by omega)];congr 2;congr 1;omega
 rw[<-c,bh]
def a4Y{sz:Nat}{Q:qD Unit×Unit->SortSt->Prop}(g:Cmp prog w A s κ D (ltK kf))(i:AllD D a0)(h:RI kf κ a0 st runs rest)
  (q:∀st' a,RI kf κ a0 st' a rest->a.flatten.length=runs.flatten.length->a.length<=runs.length->Q (none,()) st'):wpS (model prog w) A E s (Y6 sz j) Q st:=by
 unfold Y6;refine cj (I:=λ_ c st'=>c=(none,())/\∃a,RI kf κ a0 st' a rest/\a.flatten.length=runs.flatten.length/\a.length<=runs.length) ?step (λc st' ⟨e,d,h1,h2,b⟩=>by rw[e];exact q st' d h1 h2 b) ⟨rfl,runs,h,rfl,ak _⟩;rintro x c st' _ _ ⟨rfl,d,h1,h2,b⟩;refine aE (fe ?_);split
 .rename_i older heq;split
  .exact aM (q st' d h1 h2 b)
  .have hz:(pendingOf st').size > 1:=by
    refine Nat.lt_of_not_le λz=>?_;rw[aq (by omega)]at heq;cases heq
   have hs:=h1.size;obtain⟨X,ra,n,f,m⟩:=two_last (l:=d) (by omega);rw[f]at h1;rw[show(pendingOf st').size-2=X.length by omega];refine aE (a1K g i h1 λk M k1 k2=>?_);rw[aq (by simp)];refine aM ⟨rfl,_,k1,?_,?_⟩
   .rw[<-h2,f];simp[k2]
   .rw[f]at b;simp at b⊢;omega
 .exact aM (q st' d h1 h2 b)
def a1J{Q:ForInStep (qD Unit×Nat)->SortSt->Prop}{r:qA Keyed}(h:RI kf κ a0 st runs (r++rest))(e:r.Pairwise (leK kf))(d:0<n)(c:r.length=n)(a:lo=runs.flatten.length)
  (q:∀st',RI kf κ a0 st' (runs++[r]) rest->Q (.yield (none,lo+n)) st'):wpS (model prog w) A E s (a2t lo n) Q st:=by
 unfold a2t;refine aE (wpS_modify (aM (q _ ⟨h.kind,h.failed,h.perm,?_,λz b=>?_,λz b=>?_,?_⟩)))
 .show(arrOf st).toList=_;rw[h.eq];simp
 .rcases ay.mp b with y|y
  .exact h.sorted z y
  .rw[aP.mp y];exact e
 .rcases ay.mp b with y|y
  .exact h.ne z y
  .rw[aP.mp y,c];exact d
 .show((pendingOf st).push (lo,n,0)).toList.map ent=_;rw[cS,bL,h.pend,S5,dr,a,<-c];rfl
def map_modify{p:Array (Nat×Nat×Nat)}:(p.modify i λx=>(x.1,x.2.1,a)).toList.map ent=p.toList.map ent:=by
 rw[Array.toList_modify];refine fk λj=>?_;rw[aN,aN,List.getElem?_modify];cases p.toList[j]? with
 |none=>rfl
 |some x =>
  by_cases e:i=j
  .simp[e]
  .simp[e]
def a7C{sz:Nat}{Q:ForInStep (qD Unit×Nat)->SortSt->Prop}{r:qA Keyed}(e:Cmp prog w A s κ D (ltK kf))(j:AllD D a0)(h:RI kf κ a0 st runs (r++rest))(i:r.Pairwise (leK kf))(g:0<n)(d:r.length=n)(b:lo=runs.flatten.length)
  (q:∀st' a,RI kf κ a0 st' a rest->a.flatten.length=lo+n->a.length<=runs.length+1->Q (.yield (none,lo+n)) st'):wpS (model prog w) A E s (a0M sz lo n) Q st:=by
 unfold a0M;refine aE (fe ?_);split
 .refine aE (a4Y e j h λst' a k1 k2 k3=>?_);dsimp only;refine aE (wpS_modify ?_);refine a1J (runs:=a) (rest:=rest) ⟨k1.kind,k1.failed,k1.perm,k1.eq,k1.sorted,k1.ne,map_modify.trans k1.pend⟩ i g d (by rw[k2];exact b) λc f=>q c _ f ?_ ?_
  .simp[k2,d,b]
  .simp;omega
 .refine a1J h i g d b λc f=>q c _ f ?_ ?_
  .simp[d,b]
  .simp
end
section
variable {kf:Keyed->O.α}
def b4E{l:qA α}(h:i+1<l.length):∃X a b Y,l=X++a::b::Y/\X.length=i:=by
 refine⟨l.take i,l[i],l[i+1],l.drop (i+1+1),?_,by rw[aS];omega⟩;rw[<-cy (by omega),<-cy (by omega),bh]
def a6i{sz:Nat}{Q:qD Unit×Unit->SortSt->Prop}(j:Cmp prog w A s κ D (ltK kf))(n:AllD D a0)(h:RI kf κ a0 st runs rest)(t:runs.length<=sz)
  (q:∀st' a,RI kf κ a0 st' a rest->a.length<=1->Q (none,()) st'):wpS (model prog w) A E s (a9F sz) Q st:=by
 unfold a9F;refine cj (I:=λx c st'=>c=(none,())/\∃a,RI kf κ a0 st' a rest/\a.length+x<=sz+1) ?step (λc st' ⟨e,g,h1,h2⟩=>by rw[e];exact q st' g h1 (by omega)) ⟨rfl,runs,h,by omega⟩;rintro x c st' _ _ ⟨rfl,g,h1,h2⟩;refine aE (fe ?_);have hs:=h1.size;split
 .exact aM (q st' g h1 (by omega))
 .rename_i hz;have m:∀i,i+1<g.length->wpS (model prog w) A E s ((mergeAt' i>>=λb=>if (!b)=true then pure (ForInStep.done (some (),()))else pure (ForInStep.yield (none,()))):StateT SortSt Sem (ForInStep (qD Unit×Unit))) (λr d=>match r with|ForInStep.done c'=>Q c' d|ForInStep.yield c'=>c'=(none,())/\∃a,RI kf κ a0 d a rest/\a.length+(x+1)<=sz+1) st':=λi hi=>by
   obtain⟨X,ra,u,Y,k,l⟩:=b4E hi;rw[k]at h1 h2;rw[<-l];refine aE (a1K j n h1 λp M k1 k2=>?_);rw[aq (by simp)];refine aM ⟨rfl,_,k1,?_⟩;simp at h2⊢;omega
  refine cB (m _ ?_) (λr d o=>by cases r<;>exact o);by_cases f:(pendingOf st').size-2 > 0
  .rw[aD f];split<;>omega
  .rw[aq f,aq (by simp)];omega
def RI.kept(h:RI kf κ a0 st runs rest)(k:Kept runs.flatten.length st st'):RI kf κ a0 st' runs ((arrOf st').toList.drop runs.flatten.length):=by
 refine⟨k.1.trans h.kind,k.2.2.1.trans h.failed,k.2.2.2.1.trans h.perm,?_,h.sorted,h.ne,by rw[k.2.1];exact h.pend⟩;have e:(arrOf st').toList.take runs.flatten.length=runs.flatten:=by
  have a:(arrOf st).toList.take runs.flatten.length=runs.flatten:=by rw[h.eq,List.take_left'];rfl
  rw[<-a];refine fk λi=>?_;rw[aS];by_cases hi:i<runs.flatten.length
  .have hle:runs.flatten.length<=(arrOf st).toList.length:=by rw[h.eq,au];omega
   rw[df (by omega),df hi,av,av];exact k.2.2.2.2 i hi
  .rw[cI (by rw[aS];omega),cI (by rw[aS];omega)]
 rw[<-bh runs.flatten.length (arrOf st').toList,e];congr 1;rw[cJ (ak _),List.drop_length,b_]
def b4R(h:SoO kf qN lo n)(c:lo+n<=qN.size):((qN.toList.drop lo).take n).Pairwise (leK kf):=by
 rw[eS];intro i j hi b a;rw[aS,bG,ax]at hi b;have q:=h i j (cE a) (by omega);unfold leK;have g:∀k,k<n->kx kf qN (lo+k)=kf (qN[lo+k]?.getD (Value.none,Value.none)):=λk _=>by unfold kx;rw[bN]
 rw[g i (by omega),g j (by omega),getElem?_pos qN _ (by omega),getElem?_pos qN _ (by omega)]at q;simp only[fi,fj,Array.getElem_toList];exact q
def a2W:∀{runs:qA (qA Keyed)},(∀r∈runs,0<r.length)->runs.length<=runs.flatten.length
 |[],_=>ak _
 |r::runs,h=>by
  have:=a2W (runs:=runs) λz a=>h z (ar _ a);have:=h r ao;simp only[aY,List.flatten_cons,au];omega
def a4i{m m':StateT SortSt Sem α}{Q:α->SortSt->Prop}(e:m=m')(h:wpS (model prog w) A E s m' Q st):wpS (model prog w) A E s m Q st:=by rw[e];exact h
def a6e{Q:Unit->SortSt->Prop}(f:Cmp prog w A s κ D (ltK kf))(P:kindOf st=κ)(y:AllD D (arrOf st))(hp:pendingOf st=#[])(O:failedOf st=none)
  (q:∀st':SortSt,(arrOf st').Perm (arrOf st)->failedOf st'=none->(arrOf st').toList.Pairwise (leK kf)->Q () st'):wpS (model prog w) A E s sortRuns' Q st:=by
 rw[sortRuns'_eq];refine aE (fe ?_);dsimp only;generalize F:(arrOf st).size=sz;have N:RI kf κ (arrOf st) st [] (arrOf st).toList:=⟨P,O,.refl _,rfl,(λ_ z=>nomatch z),(λ_ z=>nomatch z),by rw[hp];rfl⟩;have J:∀{st':SortSt}{runs:qA (qA Keyed)}{rest:qA Keyed},RI kf κ (arrOf st) st' runs rest->(arrOf st').size=sz:=λh=>by rw[h.perm.size_eq];exact F
 have L:∀{st':SortSt}{runs:qA (qA Keyed)}{rest:qA Keyed},RI kf κ (arrOf st) st' runs rest->runs.flatten.length+rest.length=sz:=λh=>by
  have:=aL List.length h.eq;rw[ax,J h,au]at this;omega
 refine aE (cB (cj (I:=λx c st'=>c.1=none/\∃runs rest,RI kf κ (arrOf st) st' runs rest/\c.2=runs.flatten.length/\x<=c.2)
  (Q:=λc st'=>c.1=none/\∃runs,RI kf κ (arrOf st) st' runs []/\runs.length<=sz) ?step ?fin ⟨rfl,[],_,N,rfl,ak _⟩) ?post)
 case fin =>
  rintro c st' ⟨k,runs,rest,h1,h2,K⟩;have:=L h1;have l:rest=[]:=List.eq_nil_of_length_eq_zero (by omega);subst l;exact⟨k,runs,h1,by have:=a2W h1.ne;omega⟩
 case step =>
  rintro x c st' _ X ⟨k,runs,rest,h1,h2,K⟩;obtain⟨M,lo⟩:=c;dsimp only at k h2 K⊢;subst k;have R:=L h1;have H:=J h1;by_cases t:lo ≥ sz
  .rw[aD t];have l:rest=[]:=List.eq_nil_of_length_eq_zero (by omega);subst l;exact aM ⟨rfl,runs,h1,by have:=a2W h1.ne;omega⟩
  .rw[aq t];have p:=y.perm h1.perm;have add:∀(n:Nat) (d:SortSt),Kept lo st' d->0<n->lo+n<=sz->SoO kf (arrOf d) lo n->wpS (model prog w) A E s (a0M sz lo n) (λr e=>match r with|ForInStep.done c'=>c'.1=none/\∃runs,RI kf κ (arrOf st) e runs []/\runs.length<=sz|ForInStep.yield c'=>c'.1=none/\∃runs rest,RI kf κ (arrOf st) e runs rest/\c'.2=runs.flatten.length/\x+1<=c'.2) d:=λn d j C U i=>by
    rw[h2]at j;have hR:=h1.kept j;rw[<-h2]at hR;have G:=J hR;rw[<-bh n ((arrOf d).toList.drop lo)]at hR;refine a7C f y hR (b4R i (by omega)) C (by rw[aS,bG,ax];omega) h2 λv W k1 k2 k3=>⟨rfl,W,_,k1,k2.symm,by show x+1<=lo+n;omega⟩
   refine aE (a7A f h1.kind p (by omega) (by omega) λm d j S T i=>?_);dsimp only;split
   .refine aE (T4 ?_);have G:(arrOf d).size=sz:=by rw[j.2.2.2.1.size_eq];exact H
    refine aE (b1M f (j.1.trans h1.kind) (p.perm j.2.2.2.1) (by omega) (by omega) i λv B u=>?_);rw[aq (by simp)];refine a4i (m':=a0M sz lo (min (sz-lo) (minRun' sz sz 0))) (by
     unfold a0M;refine aL _ (funext λg=>?_);rcases(pendingOf g).back? with _|⟨s1,n1,z⟩
     .rfl
     .dsimp only;refine congr (aL _ ?_) (funext λc=>?_)
      .unfold Y6;refine aL _ (funext λ_=>funext λ_=>aL _ (funext λg=>?_));generalize (if (pendingOf g).size > 1 then(pendingOf g)[(pendingOf g).size-2]? else none)=o;rcases o with _|⟨a,b,o⟩<;>rfl
      .rcases c with⟨_|q,c⟩<;>rfl) (cB (add _ v (j.trans B) (by omega) (by omega) u) λr e l=>by cases r<;>exact l)
   .refine a4i (m':=a0M sz lo m) (by
     unfold a0M;refine aL _ (funext λg=>?_);rcases(pendingOf g).back? with _|⟨s1,n1,z⟩
     .rfl
     .dsimp only;refine congr (aL _ ?_) (funext λc=>?_)
      .unfold Y6;refine aL _ (funext λ_=>funext λ_=>aL _ (funext λg=>?_));generalize (if (pendingOf g).size > 1 then(pendingOf g)[(pendingOf g).size-2]? else none)=o;rcases o with _|⟨a,b,o⟩<;>rfl
      .rcases c with⟨_|q,c⟩<;>rfl) (cB (add _ d j (by omega) (by omega) i) λr e l=>by cases r<;>exact l)
 case post =>
  rintro c st' ⟨k,runs,h1,h2⟩;obtain⟨M,lo⟩:=c;dsimp only at k;subst k;dsimp only;refine aE (a6i (sz:=sz) f y h1 h2 λd V k1 k2=>?_);dsimp only;refine aM (q d k1.perm k1.failed ?_);rw[k1.eq,de]
  match V,k2,k1.sorted with
  |[],_,_=>exact .nil
  |[r],_,hs=>simpa using hs r (by simp)
  |_::_::_,k2,_=>simp at k2
end
def G2(h:Heap)(v:qB):qI:=match v with
 |.ref b=>match h.get? b with
  |some o=>match o.data with
   |.seq xs _=>xs.toList.map numOf
   |_=>[]
  |none=>[]
 |_=>[]
def D7{b:qE}{its:Array qB}{r:qI}(t:IsTup h b its)(i:IntsAre its.toList r):G2 h (.ref b)=r:=by
 obtain⟨o,h1,h2,n,a⟩:=t;unfold G2;simp only[h1,a];exact i.nums
def O3{β:Type}{f:α->β}{os i:qA β}(h:os.Perm i):∀{T:qA α},i=T.map f->∃c:qA α,c.Perm T/\c.map f=os:=by
 induction h with
 |nil=>intro T e;cases T with|nil=>exact⟨[],.nil,rfl⟩|cons _ _=>cases e
 |cons x _ m =>
  intro T e;cases T with
  |nil=>cases e
  |cons t T =>
   injection e with e1 e2
   obtain⟨c,h1,h2⟩:=m e2;exact⟨t::c,h1.cons t,by rw[aW,h2,e1]⟩
 |swap x y l =>
  intro T e
  match T,e with
  |a::b::T,e =>
   injection e with e1 e2
   injection e2 with e2 e3
   exact⟨b::a::T,.swap a b T,by rw[aW,aW,e1,e2,e3]⟩
 |trans _ _ d g =>
  intro T e;obtain⟨c,h1,h2⟩:=g e;obtain⟨T2,j,k⟩:=d h2.symm;exact⟨T2,j.trans h1,k⟩
def kfH(h:Heap):Keyed->OL.α:=λx=>(G2 h x.1:qI)
def DH(h:Heap)(x:Keyed):Prop:=∃b its r,x.1=Value.ref b/\IsTup h b its/\IntsAre its.toList r
def c0o:Cmp prog w A s (tuples' true) (DH s.heap) (ltK (kfH s.heap)):=by
 rintro⟨x,B⟩ ⟨y,D⟩ C ⟨b,its,r,h,j,d⟩ ⟨b',a,u,i,k,e⟩ c;dsimp only at h i;subst h i;have c:C (HT.lexLt (G2 s.heap (.ref b)) (G2 s.heap (.ref b'))) s:=c;rw[D7 j d,D7 k e]at c;obtain⟨o,p,z,n,t⟩:=j;obtain⟨o',f,q,v,g⟩:=k;refine kat_lt p t f g (a1U 0 d e ?_);have l:its.size=r.length:=by rw[<-ax];exact d.length
 have m:a.size=u.length:=by rw[<-ax];exact e.length
 rw[l,m,a7b];exact c
def a0D{a:qE}{P:Fin->qC->Prop}(m:s.heap.get? a=some (seqObj "list" vs.toArray n))(T:TupsAre s.heap vs rss)(hw:∀r∈rss,0<r.length)(hz:vs.length<=sizeLine)
  (h:∀os:qA qB,os.Perm vs->os.Pairwise (λx y=>HT.lexLt (G2 s.heap y) (G2 s.heap x)=false)->P (.done (.ret .none)) {s with heap:=sortedHeap s.heap a vs os.toArray}) :
  wpAny (model prog w) A (Builtin.«list.sort» ⟨[.ref a],[]⟩) P E s:=by
 rw[list_sort_plain];have O:a<s.heap.objs.size:=aI m;refine aa (listItems_at m rfl ?_);refine aa (listUpdate_at m rfl ?_ (by rw[aF];omega) (br _));obtain⟨H,p⟩:∃H,(s.heap.update a (Obj.mapSeq λ_=>#[])).get? a=some (seqObj "list" #[] H):=⟨_,get?_update_seq m (λ_=>#[])⟩;refine aa (seqEpoch_at p rfl ?_);refine aa (wpAny_newTuple ?_ (by show vs.length<=_;omega));refine aa (wpAny_newList ?_ (br _));refine bW ?_;have d:(((s.heap.update a (Obj.mapSeq λ_=>#[])).push (seqObj "tuple" vs.toArray 0)).push (seqObj "list" #[] 0)).get? a=some (seqObj "list" #[] H):=by
  rw[Heap.get?_push_ne _ _ _ (by rw[size_push',Heap.size_update];exact aV (bZ O)),Heap.get?_push_ne _ _ _ (by rw[Heap.size_update];exact aV O)];exact p
 have g:∀b its,IsTup s.heap b its->IsTup (((s.heap.update a (Obj.mapSeq λ_=>#[])).push (seqObj "tuple" vs.toArray 0)).push (seqObj "list" #[] 0)) b its:=λb its ⟨o,B,l,N⟩=>by
  have U:b≠a:=λz=>by
   rw[z,m]at B;cases B;have l:Value.type "list"=Value.type "tuple":=l;injection l with l
   exact absurd l (by decide)
  refine⟨o,?_,l,N⟩;exact ae _ (ae _ (by rw[Heap.get?_update_ne _ _ _ _ U];exact B))
 have G:=T.keeps g;show wpAny (model prog w) A _ P E {s with heap:=((s.heap.update a (Obj.mapSeq λ_=>#[])).push (seqObj "tuple" vs.toArray 0)).push (seqObj "list" #[] 0)};have c:∀v∈vs,G2 (((s.heap.update a (Obj.mapSeq λ_=>#[])).push (seqObj "tuple" vs.toArray 0)).push (seqObj "list" #[] 0)) v=G2 s.heap v:=λv X=>by
  obtain⟨i,hi⟩:=cm.mp X;obtain⟨r,b,its,_,I,C,F⟩:=T.2 i v hi;rw[I,D7 C F,D7 (g b its C) F]
 generalize K:((s.heap.update a (Obj.mapSeq λ_=>#[])).push (seqObj "tuple" vs.toArray 0)).push (seqObj "list" #[] 0)=k at d G c;dsimp only;have fin:∀os:qA qB,os.Perm vs->os.Pairwise (λx y=>HT.lexLt (G2 s.heap y) (G2 s.heap x)=false)->P (.done (.ret .none)) {s with heap:=k.update a (Obj.mapSeq λ_=>os.toArray)}:=λos h1 h2=>by
  have:=h os h1 h2;unfold sortedHeap at this;rw[K]at this;exact this
 by_cases h2:vs.toArray.size<2
 .have h2':vs.length<2:=by simpa using h2
  rw[aD h2,aD h2];refine aa (ai ?_);rw[StateT.run_pure];refine aa (ai ?_);dsimp only;refine aa (seqEpoch_at d rfl ?_);refine aa (listUpdate_at d rfl ?_ (br _) (by rw[Array.size_map];show(pairsOf vs).size<=_;rw[pairsOf_size];omega));simp only[bne_self_eq_false,Bool.false_eq_true,if_false];have e:((vs.toArray.zip vs.toArray).map (·.2))=vs.toArray:=by
   apply fF.mp;simp[List.map_snd_zip]
  show wpAny _ _ _ _ _ {s with heap:=k.update a (Obj.mapSeq λ_=>(vs.toArray.zip vs.toArray).map (·.2))};rw[e];refine ai (fin vs (.refl _) ?_);rw[eS];intro i j hi Z V;omega
 .have h2':2<=vs.length:=by
   have:¬vs.length<2:=by simpa using h2
   omega
  rw[aq h2,aq h2];refine aa (b0d G hw (by omega) ?_);have J:AllD (DH k) (vs.toArray.zip vs.toArray):=λx u=>by
   have L:x∈vs.zip vs:=by simpa using u
   obtain⟨_,W⟩:=mem_zip_self L;obtain⟨i,hi⟩:=cm.mp W;obtain⟨r,b,its,_,I,C,F⟩:=G.2 i _ hi;exact⟨b,its,r,I,C,F⟩
  refine aa (cW (a6e (s:={s with heap:=k}) (st:=SortSt.mk' (tuples' true) (vs.toArray.zip vs.toArray) #[] 7 none) (kf:=kfH k) (D:=DH k) (c0o (s:={s with heap:=k})) rfl J rfl rfl
   (Q:=λ_ st'=>(arrOf st').Perm (vs.toArray.zip vs.toArray)/\failedOf st'=none/\(arrOf st').toList.Pairwise (leK (kfH k))) λst' B l N=>⟨B,l,N⟩) ?_ λ_ _ e=>e)
  rintro⟨⟨⟩,st'⟩ s' ⟨rfl,S,R,hs⟩;dsimp only at S R hs⊢;have t:(arrOf st').toList.Perm (vs.zip vs):=by
   have:=dC.mp S;simpa using this
  have q:((arrOf st').toList.map (·.2)).Perm vs:=by
   have:=t.map Prod.snd;rwa[List.map_snd_zip (ak _)]at this
  have f:∀x∈(arrOf st').toList,x.1=x.2/\x.1∈vs:=λx u=>mem_zip_self (t.mem_iff.mp u);have e:(arrOf st').map (·.2)=((arrOf st').toList.map (·.2)).toArray:=by
   apply fF.mp;simp
  refine aa (seqEpoch_at d rfl ?_);rw[e];refine aa (listUpdate_at d rfl ?_ (br _) (by rw[aF,q.length_eq];omega));rw[R];simp only[bne_self_eq_false,Bool.false_eq_true,if_false];refine ai (fin _ q ?_);rw[cn];refine hs.imp_of_mem λ{x y} u Y M=>?_;have h1:=f x u;have h2:=f y Y;rw[<-h1.1,<-h2.1,<-c _ h1.2,<-c _ h2.2];exact M
def a2k{x:qB}{Q:qH}(g:∀(A':Around) (q:qH) (l:qA qB->qC->Prop),(∀h1:Heap,(∀b o,s.heap.get? b=some o->h1.get? b=some o)->l vs {s with heap:=h1})->wpAny (model prog w) A' (collect x) l q s)
  (T:TupsAre s.heap vs rss) (hw:∀r∈rss,0<r.length) (D:vs.length<=sizeLine)
  (h:∀(h1 h':Heap) (os:qA qB) (c:Nat),(∀b o,s.heap.get? b=some o->h1.get? b=some o)->(∀b o,h1.get? b=some o->h'.get? b=some o)->h'.get? h1.objs.size=some (seqObj "list" os.toArray c)->os.Perm vs->os.Pairwise (λx y=>HT.lexLt (G2 s.heap y) (G2 s.heap x)=false)->Q (.ref h1.objs.size) {s with heap:=h'}) :
  wpAny (model prog w) A (call (.builtin "sorted") [x]) Q E s:=by
 refine eT kind_sorted plain_sorted entry_sorted (args_sorted1 _) ?_;unfold Builtin.«sorted»;refine aa (m:=checkCount "sorted" 1 1 _) (ai ?_);refine aa (g _ _ _ λh1 k1=>?_);refine aa (wpAny_newList ?_ (by omega));have f:(h1.push (seqObj "list" vs.toArray 0)).get? h1.objs.size=some (seqObj "list" vs.toArray 0):=aC _ rfl;have a:∀b its,IsTup s.heap b its->IsTup (h1.push (seqObj "list" vs.toArray 0)) b its:=λb its ⟨o,F,G⟩=>⟨o,ae _ (k1 _ _ F),G⟩;have T2:=T.keeps a;have d:∀v∈vs,G2 (h1.push (seqObj "list" vs.toArray 0)) v=G2 s.heap v:=λv z=>by
  obtain⟨i,hi⟩:=cm.mp z;obtain⟨r,b,its,_,t,n,p⟩:=T.2 i v hi;rw[t,D7 n p,D7 (a b its n) p]
 show wpAny _ _ _ _ _ {s with heap:=h1.push (seqObj "list" vs.toArray 0)};refine aa (bW (bI slot_list_sort ⟨_,f,rfl⟩ entry_list_sort (a0D (s:={s with heap:=h1.push (seqObj "list" vs.toArray 0)}) f T2 hw D λos j hs=>⟨_,rfl,?_⟩) (args_list_sort _)));obtain⟨c,u⟩:=a0A (out:=os.toArray) f;refine ai ⟨_,rfl,h h1 _ os c k1 (λb o e=>?_) u j (hs.imp_of_mem λ{x y} B C k=>?_)⟩
 .exact W3 b o (aV (aI e)) (ae _ e)
 .rw[<-d _ (j.mem_iff.mp B),<-d _ (j.mem_iff.mp C)];exact k
def b2F(K:qF):RL:=λxs H Q=>∃(p:qE) (ys:qA V) (rss:LLI),xs=[.ref p]/\(SqL K H p ys∨SqT K H p ys)/\Its H ys rss/\(∀r∈rss,0<r.length) /\
 ∀l zs tss,H l=none->Its H zs tss->tss.Perm rss->E2 tss->zs.Perm ys->Q (.ref l) (upd H l (.lst zs))
def a0c:∀{ys:qA V}{us:qA qB}{rss:LLI},Vals ys us->ys.length=rss.length->∃T:qA (qB×V×qI),T.map (·.1)=us/\T.map (·.2.1)=ys/\T.map (·.2.2)=rss/\∀(i:Nat) t,T[i]?=some t->RelV t.2.1 t.1/\ys[i]?=some t.2.1/\rss[i]?=some t.2.2
 |[],us,rss,r,e=>by
  cases r;cases rss with
  |nil=>exact⟨[],rfl,rfl,rfl,λi t h=>by simp at h⟩
  |cons _ _=>cases e
 |y::ys,us,rss,r,e=>by
  cases r with
  |cons h hs =>
   cases rss with
   |nil=>cases e
   |cons r rss =>
    obtain⟨T,b,c,d,f⟩:=a0c hs (by simpa using e);refine⟨(_,y,r)::T,by rw[aW,b],by rw[aW,c],by rw[aW,d],λi t a=>?_⟩;cases i with
    |zero=>cases a;exact⟨h,rfl,rfl⟩
    |succ i=>exact f i t a
def Q7:∀{T:qA (qB×V×qI)},(∀t∈T,RelV t.2.1 t.1)->Vals (T.map (·.2.1)) (T.map (·.1))
 |[],_=>.nil
 |t::T,h=>.cons (h t ao) (Q7 λu a=>h u (ar _ a))
def a8H(K:qF)(hK:X.K=K:=by rfl):D6 X (.builtin "sorted") (b2F K):=by
 subst hK;intro qK s σ H xs us Q I rv h;obtain⟨p,ys,a1,rfl,r,F,hw,q⟩:=h;obtain⟨u,rfl,ru⟩:=rv.one;cases ru;obtain⟨its,N,z,l⟩:∃its:qA qB,Vals ys its/\ys.length<=sizeLine/\∀(A':Around) (D:qH) (B:qA qB->qC->Prop),(∀h1:Heap,(∀b o,s.heap.get? b=some o->h1.get? b=some o)->B its {s with heap:=h1})->wpAny (model X.prog X.w) A' (collect (.ref p)) B D s:=by
  rcases r with r|r
  .obtain⟨its,g,pl,z⟩:=I.list r;obtain⟨o,J,G,n,hd⟩:=pl.isList;have m:=g.length;exact⟨its,g,z,λA' D B k=>wpAny_collect_seq p (.inl rfl) J G hd (λh' M=>k h' M) (by simp only[aF];omega)⟩
  .obtain⟨its,g,pl,z⟩:=I.tuple r;obtain⟨o,J,G,n,hd⟩:=pl;have m:=g.length;exact⟨its,g,z,λA' D B k=>wpAny_collect_seq p (.inr rfl) J G hd (λh' M=>k h' M) (by simp only[aF];omega)⟩
 have hl:=N.length;have TT:=a3t I F N;obtain⟨T,U,t2,t3,t4⟩:=a0c N F.1;refine a2k l TT hw (by omega) λh1 h' os c k1 k2 e hp hs=>?_;obtain⟨d,p1,p2⟩:=O3 (f:=λt:qB×V×qI=>t.1) hp U.symm;have O:=I.kept (t':=s.toks) k1;have C:∀t∈d,RelV t.2.1 t.1/\IT H t.2.1 t.2.2/\G2 s.heap t.1=t.2.2:=λt L=>by
  obtain⟨i,hi⟩:=cm.mp (p1.mem_iff.mp L);obtain⟨r1,r2,S⟩:=t4 i t hi;obtain⟨a0,R,q2⟩:=F.2 i _ r2;rw[S]at R;cases R;have Y:its[i]?=some t.1:=by rw[<-U,aN,hi];rfl
  obtain⟨g,b,P,f1,f2,Z,f4⟩:=TT.2 i _ Y;rw[S]at f1;cases f1;exact⟨r1,q2,by rw[f2];exact D7 Z f4⟩
 have A:(d.map (·.2.1)).Perm ys:=by rw[<-t2];exact p1.map _
 have hv:Vals (d.map (·.2.1)) os:=by rw[<-p2];exact Q7 λt L=>(C t L).1
 have W:=O.laid (h':=h') (a:=h1.objs.size) (o:=.lst (d.map (·.2.1))) (t':=s.toks) k2 (ak _) ⟨by rw[A.length_eq];exact z,os,c,hv,e⟩;refine⟨.ref h1.objs.size,_,W,rfl,q _ _ (d.map (·.2.2)) (O.hok.fresh (ak _)) ⟨by rw[ag,ag],λi v j=>?_⟩ (by rw[<-t3];exact p1.map _) ?_ A⟩
 .rw[aN]at j⊢;cases E:d[i]? with
  |none=>rw[E]at j;cases j
  |some t =>
   rw[E]at j;cases j;exact⟨t.2.2,rfl,(C t (aA E)).2.1⟩
 .unfold E2;rw[cn];rw[<-p2,cn]at hs;refine hs.imp_of_mem λ{x y} hx hy w=>?_;rw[(C x hx).2.2,(C y hy).2.2]at w;exact w
def a7j(K:qF){e:Expr}{t:TA}{p pos:Pos}(f:Gl X "sorted")(g:X.mg "sorted"=none)(c:JA X [e] t)(b:X.K=K:=by rfl)(d:starEach [e] X.env=(false,eval e X.env)::starEach [] X.env:=by rfl)(a:(backTo pos (starEach [] X.env)).any (·.1)=false:=by rfl):JE X (.Call (.Name "sorted" p) [e] [] pos) (tCB (b2F K) t):=⟨G4 (a8H K b) f g a1G c.h (by decide) (by decide) d a⟩
def DRaw(h:Heap)(d:qE)(es:Array DictEntry)(ep:Nat):Prop:=∃ob:Obj,h.get? d=some ob/\ob.ExactDict/\ob.data=.dict es ep
def DRaw.typ(x:DRaw s.heap d es ep):s.TypeIs (.ref d) "dict":=by
 obtain⟨c,a,b,_⟩:=x;exact⟨c,a,b.1⟩
def DRaw.lt(x:DRaw h d es ep):d<h.objs.size:=by
 obtain⟨b,a,_⟩:=x;exact aI a
def DRaw.to{h':Heap}(x:DRaw h d es ep)(k:∀a,h.get? d=some a->h'.get? d=some a):DRaw h' d es ep:=by
 obtain⟨a,b,q⟩:=x;exact⟨a,k _ b,q⟩
section
variable {it:qE}
def a6F{Q:qH}(hs:(d==sysModules)=false)(D:DRaw s.heap d es ep)
  (q:Q (.ref s.heap.objs.size) {s with heap:=s.heap.push {cls:=.type "dict_keyiterator",data:=.fields #[.ref d,.int 0 0,.int es.size 0,.int ep 0]}}):wpAny (model prog w) A (pyIter (.ref d)) Q E s:=by
 have ty:=D.typ;obtain⟨c,a,_,b⟩:=D;refine wpAny_pyIter_slot ty PySem.F.slot_dict_iter (bI PySem.F.slot_dict_iter ty PySem.F.entry_dict_iter ?body (PySem.F.args_dict_iter_1 _))
 case body =>
  unfold Builtin.«dict.__iter__» Builtin.Dict.dictSlotNone;refine aa (aa (wpAny_notOrdered_dict ty (ai ?_)));show wpAny _ _ (Builtin.Dict.showsAll d>>=λ_=>_) _ _ _;unfold Builtin.Dict.showsAll;rw[aq (λz=>by rw[hs]at z;cases z)];refine aa (ai (aa (fm a b (aa (wpAny_dictEpoch a b ?_)))));refine aa (bY (ai ⟨_,rfl,"dict_keyiterator",_,⟨_,aC _ rfl,rfl⟩,PySem.F.slot_dict_keyiterator_next.lookup,?_⟩));exact q
def a6G{Q:qD qB->qC->Prop}(I:s.heap.IsKeyIter it d i es.size ep)(D:DRaw s.heap d es ep)(hi:i<es.size)
  (q:∀h',h'.IsKeyIter it d (i+1) es.size ep->Heap.SameBut it s.heap h'->Q (some es[i].key) {s with heap:=h'}):wpAny (model prog w) A (pyNext (.ref it)) Q E s:=by
 obtain⟨h,f1,f2,a⟩:=id I;obtain⟨od,e,g,f⟩:=D;unfold pyNext;refine aa (dj (bH (name:=Str.ofString "__next__") I.typeIs PySem.F.slot_dict_keyiterator_next (bI PySem.F.slot_dict_keyiterator_next I.typeIs PySem.F.entry_dict_keyiterator_next ?body (PySem.F.args_dict_keyiterator_next_1 _))))
 case body =>
  refine aa (ai (aa (aa ?_)))
  first|refine aa (dm I.typeIs (ai ?_))|refine aa (dJ I.typeIs (ai ?_))
  refine aa (wpAny_fieldsOf f1 a ?_);rw[show Builtin.Dict_items.ownsTuple "dict_keyiterator"=false by decide,aq a'];show wpAny _ _ (if (Value.ref d==Value.none)=true then _ else _) _ _ _;have b:¬((Value.ref d==Value.none)=true):=a';rw[aq b];refine aa (ai (aa (fm e f ?_)));rw[aq (by simp)];refine aa (ai (aa (wpAny_dictEpoch e f ?_)));rw[aq (by simp)];refine ai ?_;dsimp only;rw[show(if (i:Int)<0 then(none:qD DictEntry)else es[(i:Int).toNat]?)=some es[i] by rw[aq (by omega),bX,bM hi]];dsimp only;refine aa ?_
  first|refine aa (dm I.typeIs (ai ?_))|refine aa (dJ I.typeIs (ai ?_))
  refine aa (wpAny_isOneOf_keyiter I.typeIs ?_);show wpAny _ _ (setField (.ref it) 1 (rawInt ((i:Int)+1))>>=λ_=>_) _ _ _;have c:(s.heap.update it (Obj.mapFields λz=>z.setIfInBounds 1 (rawInt ((i:Int)+1)))).IsKeyIter it d (i+1) es.size ep :=
   ⟨_,cH _ f1 (eh (cM a _)),(fh ..).trans f2,by rw[cM a];simp[rawInt]⟩
  refine aa (dF f1 a (by simp) (aa (bW ?_)));refine aa (wpAny_isOneOf_keyiter (s:={s with heap:=s.heap.update it (Obj.mapFields λz=>z.setIfInBounds 1 (rawInt ((i:Int)+1)))}) c.typeIs ?_);exact ai (ai ⟨_,rfl,ai (q _ c (cA ..))⟩)
def a9v{Q:qD qB->qC->Prop}(h:A.handled=none)(I:s.heap.IsKeyIter it d i es.size ep)(D:DRaw s.heap d es ep)(hi:es.size<=i)
  (q:∀h',Heap.ExtBut it s.heap h'->Q none {s with heap:=h'}):wpAny (model prog w) A (pyNext (.ref it)) Q E s:=by
 obtain⟨k,f1,f2,g⟩:=id I;obtain⟨od,e,j,f⟩:=D;unfold pyNext;refine aa (dj (bH (name:=Str.ofString "__next__") I.typeIs PySem.F.slot_dict_keyiterator_next (bI PySem.F.slot_dict_keyiterator_next I.typeIs PySem.F.entry_dict_keyiterator_next ?body (PySem.F.args_dict_keyiterator_next_1 _))))
 case body =>
  refine aa (ai (aa (aa ?_)))
  first|refine aa (dm I.typeIs (ai ?_))|refine aa (dJ I.typeIs (ai ?_))
  refine aa (wpAny_fieldsOf f1 g ?_);rw[show Builtin.Dict_items.ownsTuple "dict_keyiterator"=false by decide,aq a'];show wpAny _ _ (if (Value.ref d==Value.none)=true then _ else _) _ _ _;have c:¬((Value.ref d==Value.none)=true):=a';rw[aq c];refine aa (ai (aa (fm e f ?_)));rw[aq (by simp)];refine aa (ai (aa (wpAny_dictEpoch e f ?_)));rw[aq (by simp)];refine ai ?_;dsimp only;rw[show(if (i:Int)<0 then(none:qD DictEntry)else es[(i:Int).toNat]?)=none by rw[aq (by omega),bX,dq hi]];dsimp only;refine aa ?_
  first|refine aa (dm I.typeIs (ai ?_))|refine aa (dJ I.typeIs (ai ?_))
  show wpAny _ _ (setField (.ref it) 0 .none>>=λ_=>_) _ _ _;refine aa (dF f1 g (by simp) ?_);show wpAny _ _ (newExc (.type "StopIteration") []>>=λ_=>_) _ _ _;refine aa ?_;simp only[newExc,newTuple];refine aa (bY ?_ (by size_fits));refine aa (m:=firstArgMember _ _) (wpAny_of_eq (a:=Value.none) (by first|rfl | (simp only[firstArgMember];rfl)) ?_);refine bY ?_ (by size_fits);simp only[raiseNew];refine aa (wpAny_handled ?_);rw[show A.in1.handled=none from h];refine aa (ai (wpAny_throw ?_));refine aa (eD (T:="StopIteration") (b:=true) ⟨_,aC _ rfl,rfl⟩ isSubtype_stop ?_);exact ai (q _ (((cA ..).extBut.push _).push _))
def b0t(m:A.handled=none)(J d:qE)(f:d≠J)(es:Array DictEntry)(ep:Nat) :
  Walks prog w A J [J,d] [J] es.size (λi v=>∃e,es[i]?=some e/\v=e.key) (λi h=>h.IsKeyIter J d i es.size ep/\DRaw h d es ep) where
 sub:=λb c=>by rw[aP.mp c];exact ao
 frame:=λi h h' st g=>⟨st.1.at λo e=>g J ao o e,st.2.to λo e=>g d (ar _ ao) o e⟩
 item:=λi s Q E hi st a=>a6G st.1 st.2 hi λh' k j=>a _ h' s.toks ⟨es[i],by simp[hi],rfl⟩ ⟨k,st.2.to λo e=>j.extBut d o f e⟩ λb o c e=>j.extBut b o (λz=>c (by rw[z];exact ao)) e
 done:=λs Q E st a=>a9v m st.1 st.2 (ak _) λh' l=>a h' s.toks λb o c e=>l b o (λz=>c (by rw[z];exact ao)) e
 self:=λ_ _ _ _ st a=>wpAny_pyIter_keyiter st.1 a
def b5j(hs:(d==sysModules)=false)(es:Array DictEntry)(ep:Nat):KdlSrc prog w "dict" d d es.size (λi v=>∃e,es[i]?=some e/\v=e.key) (λh=>DRaw h d es ep) where
 type:=λ_ D=>D.typ
 there:=λ_ D=>⟨D.lt,D.lt⟩
 keep:=λ_ _ D b=>D.to λo e=>b d (.inl rfl) o e
 notList:=by decide
 notTuple:=by decide
 hint:=λ_ _ _ _ D q=>kdl_hint_dict D.typ q
 iter:=λ_ _ a D=>⟨_,_,λ_ _ q=>a6F hs D q,b0t a _ d (aV D.lt) es ep,⟨⟨_,aC _ rfl,rfl,rfl⟩,D.to λo e=>ae _ e⟩⟩
end
def X0{x:qB}{Q:qH}(g:∀(q:qH) (l:qA qB->qC->Prop),(∀(h1:Heap) (tk:Nat),(∀b o,s.heap.get? b=some o->h1.get? b=some o)->l vs {s with heap:=h1,toks:=tk})->wpAny (model prog w) A.in1 (collect x) l q s)
  (T:TupsAre s.heap vs rss) (hw:∀r∈rss,0<r.length) (D:vs.length<=sizeLine)
  (h:∀(h1 h':Heap) (os:qA qB) (c tk:Nat),(∀b o,s.heap.get? b=some o->h1.get? b=some o)->(∀b o,h1.get? b=some o->h'.get? b=some o)->h'.get? h1.objs.size=some (seqObj "list" os.toArray c)->os.Perm vs->os.Pairwise (λx y=>HT.lexLt (G2 s.heap y) (G2 s.heap x)=false)->Q (.ref h1.objs.size) {s with heap:=h',toks:=tk}) :
  wpAny (model prog w) A (call (.builtin "sorted") [x]) Q E s:=by
 refine eT kind_sorted plain_sorted entry_sorted (args_sorted1 _) ?_;unfold Builtin.«sorted»;refine aa (m:=checkCount "sorted" 1 1 _) (ai ?_);refine aa (g _ _ λh1 tk k1=>?_);refine aa (wpAny_newList ?_ (by omega));have f:(h1.push (seqObj "list" vs.toArray 0)).get? h1.objs.size=some (seqObj "list" vs.toArray 0):=aC _ rfl;have a:∀b its,IsTup s.heap b its->IsTup (h1.push (seqObj "list" vs.toArray 0)) b its:=λb its ⟨o,F,G⟩=>⟨o,ae _ (k1 _ _ F),G⟩;have T2:=T.keeps a;have d:∀v∈vs,G2 (h1.push (seqObj "list" vs.toArray 0)) v=G2 s.heap v:=λv z=>by
  obtain⟨i,hi⟩:=cm.mp z;obtain⟨r,b,its,_,t,n,p⟩:=T.2 i v hi;rw[t,D7 n p,D7 (a b its n) p]
 show wpAny _ _ _ _ _ {s with heap:=h1.push (seqObj "list" vs.toArray 0),toks:=tk};refine aa (bW (bI slot_list_sort ⟨_,f,rfl⟩ entry_list_sort (a0D (s:={s with heap:=h1.push (seqObj "list" vs.toArray 0),toks:=tk}) f T2 hw D λos j hs=>⟨_,rfl,?_⟩) (args_list_sort _)));obtain⟨c,u⟩:=a0A (out:=os.toArray) f;refine ai ⟨_,rfl,h h1 _ os c tk k1 (λb o e=>?_) u j (hs.imp_of_mem λ{x y} B C k=>?_)⟩
 .exact W3 b o (aV (aI e)) (ae _ e)
 .rw[<-d _ (j.mem_iff.mp B),<-d _ (j.mem_iff.mp C)];exact k
def IK(rss:LLI):qA (qA Key):=rss.map λr=>r.map Sum.inl
def a7W:RL:=λxs H Q=>∃(d:qE) (qL:qA (qA Key×V)) (rss:LLI),xs=[.ref d]/\H d=some (.dT qL)/\qL.map (·.1)=IK rss/\(∀r∈rss,0<r.length) /\
 ∀l zs tss,H l=none->Its H zs tss->tss.Perm rss->E2 tss->Q (.ref l) (upd H l (.lst zs))
def b6k{H:Hp}:∀{qL:qA (qA Key×V)}{xs:qA (qA Key×qE×qB)}{rss:LLI},KT H qL xs->qL.map (·.1)=IK rss->Its H (xs.map λx=>V.ref x.2.1) rss/\xs.length=rss.length:=by
 intro qL xs rss r e;induction r generalizing rss with
 |nil =>
  cases rss with
  |nil=>exact⟨⟨rfl,λi v z=>by simp at z⟩,rfl⟩
  |cons _ _=>cases e
 |@cons p q ps qs h _ d =>
  cases rss with
  |nil=>cases e
  |cons r rss =>
   injection e with a e2
   obtain⟨h1,h2⟩:=d e2;refine⟨⟨by rw[ag,aY,aY,h2],λi v c=>?_⟩,by rw[aY,aY,h2]⟩;cases i with
   |zero =>
    cases c;refine⟨r,rfl,q.2.1,rfl,?_⟩;have b:=h.2.1;have a:p.1=r.map Sum.inl:=a;rw[a,cN]at b;exact b
   |succ i=>exact h1.2 i v c
def a1n{α:Type}(f:α->qE):∀xs:qA α,Vals (xs.map λx=>V.ref (f x)) (xs.map λx=>Value.ref (f x))
 |[]=>.nil
 |x::xs=>.cons rfl (a1n f xs)
def a8G(hc:X.calm=true):D6 X (.builtin "sorted") a7W:=by
 intro qK s σ H xs us Q I rv h;obtain⟨d,qL,a2,rfl,hd,hk,hw,q⟩:=h;obtain⟨u,rfl,ru⟩:=rv.one;cases ru;obtain⟨hz,A,j,W,ob,es,ep,e1,p,e3,O,P⟩:=I.hok _ _ hd;obtain⟨F,S⟩:=b6k W hk;have a0:qL.length=j.length:=Paired.length W;have w:es.size=j.length:=by rw[<-ax,O,ag]
 have D:DRaw s.heap d es ep:=⟨ob,e1,p,e3⟩;have L:Vals (j.map λx=>V.ref x.2.1) (j.map λx=>Value.ref x.2.1):=a1n (λx:qA Key×qE×qB=>x.2.1) j;have z:∀(M:qH) (E:qA qB->qC->Prop),(∀(h1:Heap) (tk:Nat),(∀b o,s.heap.get? b=some o->h1.get? b=some o)->E (j.map λx=>Value.ref x.2.1) {s with heap:=h1,toks:=tk})->wpAny (model X.prog X.w) X.A.in1 (collect (.ref d)) E M s:=λM E k=>by
  refine kdu_collect (b5j A es ep) (show X.A.in1.handled=none from I.ok.hd hc) D (by omega) λh' tk l kp m=>?_;have:l.toList=j.map λx=>Value.ref x.2.1:=by
   refine fk λi=>?_;rw[av,aN];by_cases hi:i<j.length
   .have hia:i<l.size:=by rw[m.1,w];exact hi
    obtain⟨e,he,J⟩:=m.2 i l[i] (by simp[hia]);have g:es.toList[i]?=some e:=by rw[av];exact he
    rw[O,aN,aj hi]at g;injection g with g
    rw[bM hia,aj hi,J,<-g];rfl
   .rw[dq (by rw[m.1,w];omega),cI (by omega)];rfl
  rw[this];exact k h' tk kp
 have hl:=L.length;have TT:=a3t I F L;obtain⟨T,t1,t2,t3,t4⟩:=a0c L F.1;refine X0 z TT hw (by rw[ag];omega) λh1 h' os c tk k1 k2 e hp hs=>?_;obtain⟨n,p1,p2⟩:=O3 (f:=λt:qB×V×qI=>t.1) hp t1.symm;have N:=I.kept (t':=tk) k1;have C:∀t∈n,RelV t.2.1 t.1/\IT H t.2.1 t.2.2/\G2 s.heap t.1=t.2.2:=λt G=>by
  obtain⟨i,hi⟩:=cm.mp (p1.mem_iff.mp G);obtain⟨r1,r2,Z⟩:=t4 i t hi;obtain⟨a1,Y,q2⟩:=F.2 i _ r2;rw[Z]at Y;cases Y;have P:(j.map λx=>Value.ref x.2.1)[i]?=some t.1:=by rw[<-t1,aN,hi];rfl
  obtain⟨r',b,U,f1,f2,f3,f4⟩:=TT.2 i _ P;rw[Z]at f1;cases f1;exact⟨r1,q2,by rw[f2];exact D7 f3 f4⟩
 have K:(n.map (·.2.1)).length<=sizeLine:=by
  have R:=(p1.map (λt:qB×V×qI=>t.2.1)).length_eq;rw[t2]at R;simp only[ag]at R⊢;omega
 have J:Vals (n.map (·.2.1)) os:=by rw[<-p2];exact Q7 λt G=>(C t G).1
 have I2:=N.laid (h':=h') (a:=h1.objs.size) (o:=.lst (n.map (·.2.1))) (t':=tk) k2 (ak _) ⟨K,os,c,J,e⟩;refine⟨.ref h1.objs.size,_,I2,rfl,q _ _ (n.map (·.2.2)) (N.hok.fresh (ak _)) ⟨by rw[ag,ag],λi v r=>?_⟩ (by rw[<-t3];exact p1.map _) ?_⟩
 .rw[aN]at r⊢;cases p:n[i]? with
  |none=>rw[p]at r;cases r
  |some t =>
   rw[p]at r;cases r;exact⟨t.2.2,rfl,(C t (aA p)).2.1⟩
 .unfold E2;rw[cn];rw[<-p2,cn]at hs;refine hs.imp_of_mem λ{x y} hx hy B=>?_;rw[(C x hx).2.2,(C y hy).2.2]at B;exact B
end L2
namespace L2
open PySem PySem.Spec PyProof.Rows
variable {X:Cx}
end L2
namespace L2
open PySem PySem.Spec PyProof.Rows PySem.W
section
variable {prog:qG}{w:World}{A:Around}{E:qH}{s:qC}{d:qE}{ep:Nat}{es:Array DictEntry}
def b5k{Q:qH}(hs:(d==sysModules)=false)(D:DRaw s.heap d es ep)(c:(es.size:Int)<2 ^ 63)
  (q:Q (.int es.size (s.toks+1)) {s with toks:=s.toks+1+1}):wpAny (model prog w) A (call (.builtin "len") [.ref d]) Q E s:=by
 refine eT kind_len plain_len entry_len (args_len1 _) ?_;have ty:=D.typ;obtain⟨e,a,_,b⟩:=D;unfold Builtin.«len»;refine aa (m:=oneArg "len" _) (ai ?_);refine aa (m:=callSpecial? (.ref d) (Str.ofString "__len__")) (bH (name:=Str.ofString "__len__") ty PySem.F.slot_dict_len (bI PySem.F.slot_dict_len ty PySem.F.entry_dict_len ?body (PySem.F.args_dict_len_1 _)))
 case body =>
  show wpAny _ _ (dictSize d>>=λn=>_) _ _ _;unfold dictSize;refine aa (aa (fm a b (ai ?_)));show wpAny _ _ (Builtin.Dict.pendingCount d>>=λn=>_) _ _ _;refine aa (wpAny_pendingCount_other hs (wpAny_ret_mkInt ?_));show wpAny _ _ _ _ _ {s with toks:=s.toks+1};rw[show((es.size:Nat):Int)+((0:Nat):Int)=(es.size:Int) by simp];refine aa (bW (ai (aa (wpAny_letGo ?_))));show wpAny _ _ (if ((es.size:Nat):Int)<0 then _ else _) _ _ _;rw[aq (by omega)];show wpAny _ _ (if ((es.size:Nat):Int) ≥ 2 ^ 63 then _ else _) _ _ _;rw[aq (by omega)];exact aa (wpAny_mkInt (ai ⟨_,rfl,q⟩))
end
def b7e:RL:=λxs H Q=>∃(a:qE) (qL:qA (qA Key×V)),xs=[V.ref a]/\H a=some (.dT qL)/\Q (.int qL.length) H
section
variable {X:Cx}
def b1w:D6 X (.builtin "len") b7e:=by
 intro qK s σ H xs v Q I r h;obtain⟨a,qL,rfl,l,q⟩:=h;obtain⟨u,rfl,p⟩:=r.one;cases p;obtain⟨m,b,f,n,o,es,ep,g,i,j,k,t⟩:=I.hok _ _ l;have d:qL.length=f.length:=Paired.length n;have c:es.size=f.length:=by rw[<-ax,k,ag]
 have e:=m;rw[aX]at e;refine b5k b ⟨o,g,i,j⟩ (by omega) ?_;rw[c,<-d];exact⟨.int qL.length,H,I.tok _,⟨_,rfl⟩,q⟩
variable {a b c e o i value:Expr}{es rest:qA Expr}{ta tb tc te to td ty tv:TE}{t:TA}{pos p qO qM p2 pos' tpos:Pos}
def b6s(d:Gl X "len")(f:X.mg "len"=none)(b:JA X [e] t)(c:starEach [e] X.env=(false,eval e X.env)::starEach [] X.env:=by rfl)(a:(backTo pos (starEach [] X.env)).any (·.1)=false:=by rfl):JE X (.Call (.Name "len" p) [e] [] pos) (tCB b7e t):=⟨G4 b1w d f a8L b.h (by decide) (by decide) c a⟩
def b3R(f:Gl X "sorted")(g:X.mg "sorted"=none)(b:JA X [e] t)(c:X.calm=true:=by rfl)(d:starEach [e] X.env=(false,eval e X.env)::starEach [] X.env:=by rfl)(a:(backTo pos (starEach [] X.env)).any (·.1)=false:=by rfl):JE X (.Call (.Name "sorted" p) [e] [] pos) (tCB a7W t):=⟨G4 (a8G c) f g a1G b.h (by decide) (by decide) d a⟩
def b6w:JE X (.Dict [] [] pos) b1V:=⟨b3c⟩
def b8U(c:X.A.units+60<cLine)(hi:JE X i ty)(b:JE X o td)(a:behindInMarks .In o=false):JE X (.Compare i [.In] [o] pos) (b9F ty td):=⟨b8p (b8r (by omega) hi.h b.h) a⟩
def b0W(c:X.A.units+60<cLine)(hi:JE X i ty)(b:JE X o td)(a:behindInMarks .NotIn o=false):JT X (.Compare i [.NotIn] [o] pos) (tB (a9b ty td)):=⟨b7X (b0D (by omega) hi.h b.h) a⟩
def b6m(c:X.A.units+60<cLine)(a:JE X o td)(hi:JE X i ty)(b:JE X value tv)(hs:swapsWith value (some (.Subscript o i pos')) pos.line X.env=pure false:=by rfl):JS X (.Assign [.Subscript o i pos'] value pos) (b7a td ty tv):=⟨b5t (by omega) a.h hi.h b.h hs⟩
def F0(K:qF){f:Str}(c:JE X e ta)(a:X.K=K:=by rfl)(b:attributeBase e f X.env (eval e X.env)=eval e X.env:=by rfl):JE X (.Attribute e f pos) (b9E K ta f):=by
 subst a;exact⟨b8o c.h b⟩
def P7(K:qF){f:Str}(b:JE X o ta)(c:JE X value tv)(a:X.K=K:=by rfl)(hs:swapsWith value (some (.Attribute o f pos')) pos.line X.env=pure false:=by rfl):JS X (.Assign [.Attribute o f pos'] value pos) (b9I K ta tv f):=by
 subst a;exact⟨b8b b.h c.h hs⟩
end
structure MethOk(P:qG)(w:World)(K:qF)(mg:Str->qD qB)(base:Heap)(C:qE)(m:Str)(k:Nat)(ps:qA Str)(sp:Sp):Prop where
 ex:∃f fd,Meth K C m f/\Binds K fd ps []/\FnOk P w K mg base CX0 k f fd ps sp
structure MethAt(K:qF)(C:qE)(m qual:Str)(st:Stmt)(ps:qA Str):Prop where
 ex:∃f fd,Meth K C m f/\Fun K m qual st f fd/\Binds K fd ps []
structure MakeOk(P:qG)(w:World)(K:qF)(mg:Str->qD qB)(base:Heap)(x:Str)(C:qE)(k:Nat)(ps:qA Str)(sp:Sp):Prop where
 ex:∃f fd,mg x=some (.ref C)/\Mk K C f/\Binds K fd ps []/\FnOk P w K mg base CX0 k f fd ps sp
section
variable {P:qG}{w:World}{K:qF}{mg:Str->qD qB}{base:Heap}{C:qE}{m qual:Str}{st:Stmt}{N ps:qA Str}{k:Nat}{sp:Sp}
def MethAt.fnJ(F:MethAt K C m qual st ps)(S:FnScope N ps (A1 st))(c:∀vs H Q E,sp vs H Q E->vs.length=ps.length)
  (b:∀(a:qB) (f:qE) (A:Around) (outer:qA Env) (s:qC) (H:Hp) (vs:qA V) (Q:VK) (E:XK),Room k (A.deeper (envOfC qual (A1 st) s.heap.objs.size f a))->sp vs H Q E ->
   ∃t,JB (X2 CX0 P w K mg base N qual (A1 st) f a A outer s H E).nox (E8 st) t/\t {nx:=λ_ H'=>Q .non H',rt:=Q} (start N vs) H):MethOk P w K mg base C m (k+1) ps sp:=by
 obtain⟨f,fd,h1,h2,d⟩:=F.ex;exact⟨f,fd,h1,d,h2.okJ S c λa=>b a f⟩
def MethOk.make{x:Str}(O:MethOk P w K mg base C "__init__" k ps sp)(d:mg x=some (.ref C))(c:PySem.W.makesIn K C=true)(b:PySem.W.keepIn K (.ref C)=true):MakeOk P w K mg base x C k ps sp:=by
 obtain⟨f,fd,h1,h2,a⟩:=O.ex;exact⟨f,fd,d,⟨c,h1.at_,h1.fn,b⟩,h2,a⟩
end
section
variable {X:Cx}{C:qE}{m x:Str}{k:Nat}{ps:qA Str}{sp:Sp}{o e:Expr}{es:qA Expr}{ta:TE}{t:TA}{pos qO p:Pos}
def a8q{pl:Sem Bool}(O:MethOk X.prog X.w X.K X.mg X.base C m k ps sp)(c:Cls X.K C)(j:Room k X.A)(i:JE X o ta)(h:JA X (e::es) t)
  (b:starEach (e::es) X.env=(false,eval e X.env)::starEach es X.env:=by rfl) (a:(backTo pos (starEach es X.env)).any (·.1)=false:=by rfl)
  (l:eval (.Call (.Attribute o m qO) (e::es) [] pos) X.env=(eval o X.env>>=λd=>standAt qO.atName>>=λ_=>holding [d] (getMethod d m pl)>>=λp=>match p with | (f,first)=>callWith pos f first (backTo pos (starEach (e::es) X.env)) (backToKw pos (keywordEach [] X.env))):=by rfl) :
  JE X (.Call (.Attribute o m qO) (e::es) [] pos) (a1N C m sp [] E0 ta t):=by
 obtain⟨f,fd,h1,h2,g⟩:=O.ex;exact⟨b5I (pl:=pl) i.h c h1 g j h2 .nil a6N h.h b a l⟩
def a5M{pl:Sem Bool}(O:MethOk X.prog X.w X.K X.mg X.base C m k ps sp)(c:Cls X.K C)(e:Room k X.A)(d:JE X o ta)
  (g:eval (.Call (.Attribute o m qO) [] [] pos) X.env=(eval o X.env>>=λa=>standAt qO.atName>>=λ_=>holding [a] (getMethod a m pl)>>=λp=>match p with | (f,first)=>callWith pos f first (backTo pos (starEach [] X.env)) (backToKw pos (keywordEach [] X.env))):=by rfl) :
  JE X (.Call (.Attribute o m qO) [] [] pos) (a1N C m sp [] E0 ta U0):=by
 obtain⟨f,fd,h1,h2,b⟩:=O.ex;exact⟨b2Y (pl:=pl) d.h c h1 b e h2 .nil a6N g⟩
def b8Y(O:MakeOk X.prog X.w X.K X.mg X.base x C k ps sp)(j:Room (k+1) X.A)(i:Gl X x)(g:JA X (e::es) t)(a:(x==("__debug__" : Str))=false:=by decide)
  (h:starEach (e::es) X.env=(false,eval e X.env)::starEach es X.env:=by rfl) (b:(backTo pos (starEach es X.env)).any (·.1)=false:=by rfl) :
  JE X (.Call (.Name x p) (e::es) [] pos) (a9a C sp [] E0 t):=by
 obtain⟨f,fd,c,h1,h2,d⟩:=O.ex;exact⟨b5J h1 d j i c h2 .nil a6N g.h a h b⟩
def b6v(O:MakeOk X.prog X.w X.K X.mg X.base x C k ps sp)(e:Room (k+1) X.A)(d:Gl X x)(a:(x==("__debug__" : Str))=false:=by decide) :
  JE X (.Call (.Name x p) [] [] pos) (a9a C sp [] E0 U0):=by
 obtain⟨f,fd,b,h1,h2,c⟩:=O.ex;exact⟨b2Z h1 c e d b h2 .nil a6N a⟩
end
end L2
namespace L2
open PySem PySem.Spec PyProof.Rows
variable {H:Hp}
def a3m{K:qF}{src:qA (qJ)}{σ caps:St}{Q:VK}{a:qE}{vs:qA V}{rss:LLI}{l:TT}(t:qI->Bool)(o:vs.length<=sizeLine)(b:∀H',Same H H'->SqL K H' a vs)(k:Its H vs rss)(d:B1 src σ=none::caps)
  (g:∀v r H1 j,r∈rss->IT H1 v r->Same H H1->(∀H2,Same H1 H2->j (t r) H2)->l (some v::caps) H1 j) (hd:∀H1 p m,Same H H1->H1 p=none->Its H1 m (rss.filter t)->Q (.ref p) (upd H1 p (.lst m))):E3 src (B0 0) l (P0 0) σ Q (Itl K a) H:=by
 refine O8 (xs:=vs) (by omega) (λi ys H'=>Same H H'/\Its H' ys ((rss.take i).filter t)) ⟨Same.refl H,by simpa using Its.nil⟩ (λi ys H' _ h=>⟨b H' h.1,by rw[h.2.1];exact a_ (bD _ _) (bt _ _)⟩) ?_ ?_
 .rintro i x ys H' hx ⟨s,hy⟩;obtain⟨r,n,f,c⟩:=k.mem hx;show Sub _ ((B1 src σ).set 0 (some x))/\_;rw[d];refine⟨Sub.one,g x r H' _ n (c.same s) s λH2 s2=>?_⟩;rw[bf,f];cases e:t r with
  |true=>exact⟨_,rfl,s.trans s2,by simpa[e]using(hy.same s2).snoc ((c.same s).same s2)⟩
  |false=>exact⟨s.trans s2,by simpa[e]using hy.same s2⟩
 .rintro ys H' ⟨s,hy⟩ p hp;rw[k.1,bx]at hy;exact hd H' p ys s hp hy
def Prs(H:Hp)(ps:qA V)(f:Nat->qI)(js:qA Nat):Prop:=ps.length=js.length/\∀(i:Nat) (q:V),ps[i]?=some q->∃(j:Nat) (b:qE) (v:V),js[i]?=some j/\q=.ref b/\H b=some (.tup [.int j,v])/\IT H v (f j)
def Prs.same{H H':Hp}{ps:qA V}{f:Nat->qI}{a:qA Nat}(h:Prs H ps f a)(s:Same H H'):Prs H' ps f a :=
 ⟨h.1,λi q e=>let ⟨j,b,v,e1,e2,e3,e4⟩:=h.2 i q e;⟨j,b,v,e1,e2,s _ _ e3,e4.same s⟩⟩
def Prs.nil{f:Nat->qI}:Prs H [] f []:=⟨rfl,λi q e=>by simp at e⟩
def Prs.snoc{ps:qA V}{f:Nat->qI}{c:qA Nat}{j:Nat}{b:qE}{v:V}(h:Prs H ps f c)(k:H b=some (.tup [.int j,v]))(l:IT H v (f j)):Prs H (ps++[.ref b]) f (c++[j]):=by
 refine⟨by rw[au,au,h.1];rfl,λi q e=>?_⟩;rcases fV i ps.length with hi|hi
 .rw[bw hi]at e;obtain⟨m,b',n,d,g⟩:=h.2 i q e;exact⟨m,b',n,by rw[bw (by rw[<-h.1];exact hi)];exact d,g⟩
 .rw[ba hi]at e;have a:i-ps.length=0:=by
   rcases Nat.eq_zero_or_pos (i-ps.length)with z|z
   .exact z
   .rw[cI (by simp;omega)]at e;cases e
  rw[a]at e;cases e;exact⟨j,b,v,by rw[ba (by rw[<-h.1];exact hi),<-h.1,a];rfl,rfl,k,l⟩
section
variable {X:Cx}{k:Nat}{ps:qA Str}{sp:Sp}{x y:Str}{p pos qM pos' ip sp':Pos}{e:Expr}{es:qA Expr}{t:TA}{i:Nat}{z:Int}{jj:Nat}
end
end L2
namespace L2
open PySem PySem.Spec PyProof.Rows PySem.W
variable {X:Cx}{qL:qA (qA Key×V)}{rss:LLI}
def Itd(d:qE)(ob:Obj)(qL:qA (qA Key×V)):It:=⟨λi H=>H d=some (.frz ob (.dT qL))/\i<qL.length,λi H v H'=>H'=H/\∃p a,qL[i]?=some p/\v=.ref a/\H a=some (.tup (p.1.map kV)),λi H=>H d=some (.frz ob (.dT qL))/\qL.length<=i⟩
def b0E{α β:Type}{F:α->β->Prop}{c:qA α}{d:qA β}(r:Paired F c d):∀{i:Nat}{a:α},c[i]?=some a->∃b,d[i]?=some b/\F a b:=by
 induction r with
 |nil=>intro i a e;simp at e
 |cons h _ f =>
  intro i a e;cases i with
  |zero=>cases e;exact⟨_,rfl,h⟩
  |succ i=>exact f e
def a7H{P:qG}{w:World}{K:qF}{tg:Expr}(d it:qE)(a:Obj)(es:Array DictEntry)(ep:Nat)(qL:qA (qA Key×V))(F:a.ExactDict)(hd:a.data=.dict es ep)(Y:es.size=qL.length):Turn P w K tg (Itd d a qL) [it] it (λi h=>h.IsKeyIter it d i es.size ep) where
 mem:=by simp
 obj:=λi h st b f=>by
  have e:b=it:=by simpa using f
  subst e;obtain⟨o,e,c,d⟩:=st;exact⟨o,e,λv z=>by rw[d]at z;cases z⟩
 keep:=λi h h' st k=>st.at λo e=>k it (by simp) o e
 item:=by
  intro X y hw x C i qK s σ H E I m st A;subst y hw x;obtain⟨g,hi⟩:=A;obtain⟨l,Z,D,ts,S,B,O,N,T,q2,n,G,q5⟩:=(show ObjOk X.prog X.w H s.heap d (.frz a (.dT qL))from I.hok d _ g);have M:B=a:=bF (T.symm.trans l);rw[M,hd]at n;injection n with n _
  obtain⟨p,f1,f2,r,t,u⟩:=m it (by simp);have j:i<es.size:=by omega
  refine a6G st ⟨a,l,F,hd⟩ j λh' st' W=>?_;have J:Inv X qK σ H {s with heap:=h'}:=I.turned (t':=s.toks) (λb o f e=>W.extBut b o f e) p f1 r t u;obtain⟨o,e,c,dd⟩:=id st';obtain⟨q,R,r1,U,r3⟩:=b0E S (aj hi);have Q:es[i].key=.ref q.2.1:=by
   have h1:es.toList[i]?=some es[i]:=by simp[j]
   rw[<-n]at G;rw[G,aN,R]at h1;injection h1 with h1
   rw[<-h1];rfl
  exact⟨_,rfl,a7m (s:={s with heap:=h'}) e c dd (by decide) ⟨.ref q.2.1,H,J,by rw[Q];rfl,⟨rfl,_,_,aj hi,rfl,U⟩,st',λb f=>(m b f).1⟩⟩
 done:=by
  intro X y hw x C i qK s σ H E I m st A;subst y hw x;obtain⟨g,hi⟩:=A;obtain⟨l,_⟩:=(show ObjOk X.prog X.w H s.heap d (.frz a (.dT qL))from I.hok d _ g);obtain⟨p,f1,f2,r,t,u⟩:=m it (by simp);exact a9v (I.ok.hd C) st ⟨a,l,F,hd⟩ (by omega) λh' L=>⟨rfl,I.turned (t':=s.toks) (λb o f e=>L b o f e) p f1 r t u⟩
 self:=λ_ _ _ _ _ st h=>wpAny_pyIter_keyiter st h
def b7A(tl:TE):TI:=λσ H R=>tl σ H λx H1=>∃d qL,x=.ref d/\H1 d=some (.dT qL)/\∀ob,R (Itd d ob qL) (upd H1 d (.frz ob (.dT qL)))
section
variable {tg:Expr}
def b5E{l:Expr}{tl:TE}(B:PE X l tl):PI X tg l (b7A tl):=by
 intro qK s σ H R I h;refine thn (B qK s σ H _ I h) λv s1 ⟨x,H1,r,F,E⟩=>?_;obtain⟨d,qL,rfl,hd,q⟩:=E;cases F;obtain⟨D,c,p,u,f,es,ep,g,j,k,t,y⟩:=(show ObjOk X.prog X.w H1 s1.heap d (.dT qL)from r.hok _ _ hd);have m:qL.length=p.length:=Paired.length u;have C:es.size=qL.length:=by rw[m,<-ax,t,ag]
 have n:KT (upd H1 d (.frz f (.dT qL))) qL p:=Paired.imp' (λa b ⟨G,w,J⟩=>⟨G,by rw[A2 (J7 w hd (by intro z;cases z))];exact w,J⟩) u;have i:Inv X qK σ (upd H1 d (.frz f (.dT qL))) s1:=r.write (x:=d) (e:=d) (t':=s1.toks) (by rw[hd];trivial) (.inl rfl) (λ_ _ _ q=>q) ⟨_,g⟩ ⟨g,D,c,p,n,f,es,ep,g,j,k,t,y⟩;refine a6F c ⟨f,g,j,k⟩ ?_;refine⟨s1.heap.objs.size,[s1.heap.objs.size],_,_,_,rfl,i.kept (t':=s1.toks) λb o e=>ae _ e,a7H d _ f es ep qL j k C,⟨_,aC _ rfl,rfl,rfl⟩,λb A=>?_,q f⟩;have e:b=s1.heap.objs.size:=by simpa using A
 subst e;exact i.fpOk (ak _) (i.hok.fresh (ak _))
def b6o{l:Expr}{tl:TE}(a:JE X l tl):JI X tg l (b7A tl):=⟨b5E a.h⟩
end
def b1q{src:qA (qJ)}{g:TG}{l:TT}{te:TE}{σ:St}{Q:VK}{d:qE}{k:Obj}{H1:Hp}(t:qL.length<=sizeLine)(c:Nat->qA V->Hp->Prop)(h0:c 0 [] H1)
  (j:∀i ys H,i<=qL.length->c i ys H->H d=some (.frz k (.dT qL))/\ys.length<=i)
  (hs:∀i p a ys H,qL[i]?=some p->H a=some (.tup (p.1.map kV))->c i ys H->g (.ref a) (B1 src σ) H λσ2 H2=>Sub (B1 src σ) σ2/\l σ2 H2 λb h=>if b=true then te σ2 h λv m=>c (i+1) (ys++[v]) m else c (i+1) ys h)
  (hd:∀ys H,c qL.length ys H->∀p,H p=none->Q (.ref p) (upd H p (.lst ys))):E3 src g l te σ Q (Itd d k qL) H1 :=
 a0s qL.length c h0 (λi ys H hi p=>by
   obtain⟨f,o⟩:=j i ys H (cE hi) p;refine⟨⟨f,hi⟩,by omega,λx H' y=>?_⟩;obtain⟨e,n,a,q,r,s⟩:=y;subst e r;exact hs i n a ys _ q s p)
  λys H p=>by
   obtain⟨f,o⟩:=j _ ys H (ak _) p;exact⟨⟨f,ak _⟩,by omega,hd ys H p⟩
def c0d{i:Nat}{p:qA Key×V}(b:qL.map (·.1)=IK rss)(e:qL[i]?=some p):∃r,rss[i]?=some r/\p.1=r.map Sum.inl:=by
 have h1:(qL.map (·.1))[i]?=some p.1:=by rw[aN,e];rfl
 rw[b,IK,aN]at h1;cases a:rss[i]? with
 |none=>rw[a]at h1;cases h1
 |some r=>rw[a]at h1;injection h1 with h1;exact⟨r,rfl,h1.symm⟩
def b3X(a:qL.map (·.1)=IK rss):qL.length=rss.length:=by
 have:=aL List.length a;simpa[IK]using this
def b1m{src:qA (qJ)}{σ caps:St}{Q:VK}{d:qE}{o:Obj}{H:Hp}{te:TE}(f:qI->V)(t:qL.length<=sizeLine)(g:H d=some (.frz o (.dT qL)))(n:qL.map (·.1)=IK rss)(c:B1 src σ=none::caps)
  (l:∀v r H1 m,r∈rss->IT H1 v r->Same H H1->(∀H2,Same H1 H2->m (f r) H2)->te (some v::caps) H1 m) (hd:∀H1 p,Same H H1->H1 p=none->Q (.ref p) (upd H1 p (.lst (rss.map f)))):E3 src (B0 0) I9 te σ Q (Itd d o qL) H:=by
 have j:=b3X n;refine b1q (by omega) (λi ys H'=>Same H H'/\ys=(rss.take i).map f) ⟨Same.refl H,by simp⟩ (λi ys H' _ h=>⟨h.1 _ _ g,by rw[h.2,ag];exact bt _ _⟩) ?_ ?_
 .rintro i p a ys H' hx ha ⟨s,rfl⟩;obtain⟨r,b,k⟩:=c0d n hx;have q:=aA b;have e:IT H' (.ref a) r:=⟨a,rfl,by rw[ha,k,cN];rfl⟩;show Sub _ ((B1 src σ).set 0 (some (.ref a)))/\_;rw[c];refine⟨Sub.one,(l _ r H' _ q e s λH2 s2=>⟨s.trans s2,?_⟩)⟩;rw[bf,b,bL];rfl
 .rintro ys H' ⟨s,rfl⟩ p hp;rw[j,bx];exact hd H' p s hp
section
variable {o e:Expr}{es:qA Expr}{to:TE}{t:TA}{qO qM:Pos}
end
def b0y{κ:Type}[DecidableEq κ]{qL:qA (κ×V)}{k:κ}(v:V)(h:k∈qL.map (·.1)):(a0w qL k v).map (·.1)=qL.map (·.1):=by
 unfold a0w;obtain⟨p,a,rfl⟩:=aT.mp h;rw[aD (bA.mpr ⟨p,a,aU rfl⟩),cN];refine List.map_congr_left λq _=>?_;show(if q.1=p.1 then(q.1,v)else q).1=q.1;split<;>rfl
section
variable {k:Nat}{ps:qA Str}{sp:Sp}{x:Str}{p pos qM:Pos}{e:Expr}{es:qA Expr}{t:TA}
end
end L2
namespace L2
open PySem PySem.Spec PyProof.Rows
section
variable {prog:qG}{w:World}{A:Around}{E:qH}{s:qC}
end
section
variable {X:Cx}{pos:Pos}
end
section
variable {X:Cx}{es:qA Expr}{pos:Pos}
end
end L2
namespace L2
open PySem PySem.Spec PyProof.Rows PySem.W
variable {X:Cx}
section
variable {e:Expr}{es:qA Expr}{t:TA}{p pos:Pos}
end
section
variable {k v:Expr}{tk tv:TE}{pos:Pos}
end
end L2
section
open PySem PyProof.Rows
end
namespace L2
open PySem PySem.Spec PyProof.Rows
section
variable {X:Cx}
variable {o e:Expr}{es:qA Expr}{to:TE}{t:TA}{pos qO qM:Pos}
end
end L2
namespace L2
variable {α:Type}
def c0k{us:qA α}(h:us.length=0):us=[]:=ff.mp h
def a0x{us:qA α}(h:us.length=1):∃a,us=[a]:=by
 cases us with
 |nil=>cases h
 |cons a us=>exact⟨a,by rw[c0k (us:=us) (fW h)]⟩
def K4{us:qA α}(h:us.length=2):∃a b,us=[a,b]:=by
 cases us with
 |nil=>cases h
 |cons a us=>obtain⟨b,e⟩:=a0x (us:=us) (fW h);exact⟨a,b,by rw[e]⟩
def a5I{us:qA α}(h:us.length=3):∃a b c,us=[a,b,c]:=by
 cases us with
 |nil=>cases h
 |cons a us=>obtain⟨b,c,e⟩:=K4 (us:=us) (fW h);exact⟨a,b,c,by rw[e]⟩
def b9Z{us:qA α}(h:us.length=4):∃a b c d,us=[a,b,c,d]:=by
 cases us with
 |nil=>cases h
 |cons a us=>obtain⟨b,c,d,e⟩:=a5I (us:=us) (fW h);exact⟨a,b,c,d,by rw[e]⟩
def b9Y{us:qA α}(h:us.length=5):∃a b c d e,us=[a,b,c,d,e]:=by
 cases us with
 |nil=>cases h
 |cons a us=>obtain⟨b,c,d,e,q⟩:=b9Z (us:=us) (fW h);exact⟨a,b,c,d,e,by rw[q]⟩
section
open PySem PySem.Spec PyProof.Rows PySem.W
abbrev FnL(K:qF)(f:qE)(nm qn:Str)(st:Stmt)(oc:qB)(od:qD qE)(sl:Array (qD qB))(kV dc pm:qB)(an:qD qE)(cd ct:qB):Prop:=K.lookup f=some ⟨oc,od,.func (PySem.W.fnOf nm qn (T0 st) (E8 st) (A1 st) .none kV dc pm an cd ct),sl⟩
variable {K:qF}{h:Heap}{mg:Str->qD qB}{x qn:Str}{st:Stmt}{f:qE}{od an:qD qE}{sl:Array (qD qB)}{oc kV dc pm cd ct:qB}{C:qE}{m:Str}
def B6(X:K.In h)(G:h.Ns mainGlobals mg)(a:nsIn K mainGlobals x=some (some (.ref f)))(l:FnL K f x x st oc od sl kV dc pm an cd ct)(c:codeIn K cd x=true)(k:keepIn K (.ref f)=true){ps:qA Str}
  (e:∀(kV d pm:qB) (an:qD qE) (b ct:qB) (us:qA qB),us.length=ps.length->bindArgs (fnOf x x (T0 st) (E8 st) (A1 st) .none kV d pm an b ct) ⟨us,[]⟩=pure (ps.zip us):=by intro _ _ _ _ _ _ _ b;first|(obtain⟨_,rfl⟩:=a0x b;rfl)|(obtain⟨_,_,rfl⟩:=K4 b;rfl)|(obtain⟨_,_,_,rfl⟩:=a5I b;rfl)|(obtain⟨_,_,_,_,rfl⟩:=b9Z b;rfl)|(obtain⟨_,_,_,_,_,rfl⟩:=b9Y b;rfl)):FunAt K mg x st ps:=⟨f,_,mg_of X G a,a3z (st:=st) l c k,(a3z (st:=st) l c k).binds e⟩
def a0C(a:findIn K (.ref C) m=some (some (.ref f)))(i:isFn K (.ref f)=true)(l:FnL K f m qn st oc od sl kV dc pm an cd ct)(c:codeIn K cd qn=true)(k:keepIn K (.ref f)=true){ps:qA Str}
  (e:∀(kV d pm:qB) (an:qD qE) (b ct:qB) (us:qA qB),us.length=ps.length->bindArgs (fnOf m qn (T0 st) (E8 st) (A1 st) .none kV d pm an b ct) ⟨us,[]⟩=pure (ps.zip us):=by intro _ _ _ _ _ _ _ b;first|(obtain⟨_,rfl⟩:=a0x b;rfl)|(obtain⟨_,_,rfl⟩:=K4 b;rfl)|(obtain⟨_,_,_,rfl⟩:=a5I b;rfl)|(obtain⟨_,_,_,_,rfl⟩:=b9Z b;rfl)|(obtain⟨_,_,_,_,_,rfl⟩:=b9Y b;rfl)):MethAt K C m qn st ps:=⟨f,_,⟨a,i,k⟩,a3z (st:=st) l c k,(a3z (st:=st) l c k).binds e⟩
end
section
open PySem PySem.Spec PyProof.Rows PySem.W
variable {K:qF}{h:Heap}{mg:Str->qD qB}{x nm qn:Str}{C N:qE}{bs bm sub bmB above:qA qB}{hd ab:Bool}{sn:qA Str}{col:qD Bool}{dd:qD qE}{k0 k1 k2 k3 k5:qD qB}{qP:String}
def b8t(X:K.In h)(b:mg x=some (.ref C))(c:K.lookup C=some (excClassObj nm qn C N bs bm hd sn sub ab col dd k0 k1 k2 k3 k5 qP))(tx:tailIn K bmB bm=true)(ok:nsOkIn K N=true)(a:nsIn K N "__init__"=some none):OwnCls x C bmB qP mg h :=
 ⟨b,bm,N,nm,qn,bs,hd,sn,sub,ab,col,dd,k0,k1,k2,k3,k5,_,X _ _ c,.of_isNs (isNs_of_in X ok),nsMap_none_of_in X ok a,tail_of_in X tx⟩
def b6H(b:K.lookup C=some (excClassObj nm qn C N bs bm hd sn sub ab col dd k0 k1 k2 k3 k5 qP))(a:bm.contains (.type "BaseException")=true):ClsX K C [] :=
 ⟨nm,qn,N,bs,bm,hd,sn,sub,ab,col,dd,k0,k1,k2,k3,k5,qP,b,a,λ_ z=>nomatch z⟩
end
inductive Ex1{α0:Type}(p:α0->Prop):Prop
 |mk (a0:α0) (h:p a0):Ex1 p
inductive Ex2{α0 α1:Type}(p:α0->α1->Prop):Prop
 |mk (a0:α0) (a1:α1) (h:p a0 a1):Ex2 p
inductive Ex3{α0 α1 α2:Type}(p:α0->α1->α2->Prop):Prop
 |mk (a0:α0) (a1:α1) (a2:α2) (h:p a0 a1 a2):Ex3 p
inductive Ex4{α0 α1 α2 α3:Type}(p:α0->α1->α2->α3->Prop):Prop
 |mk (a0:α0) (a1:α1) (a2:α2) (a3:α3) (h:p a0 a1 a2 a3):Ex4 p
inductive Ex5{α0 α1 α2 α3 α4:Type}(p:α0->α1->α2->α3->α4->Prop):Prop
 |mk (a0:α0) (a1:α1) (a2:α2) (a3:α3) (a4:α4) (h:p a0 a1 a2 a3 a4):Ex5 p
inductive Ex8{α0 α1 α2 α3 α4 α5 α6 α7:Type}(p:α0->α1->α2->α3->α4->α5->α6->α7->Prop):Prop
 |mk (a0:α0) (a1:α1) (a2:α2) (a3:α3) (a4:α4) (a5:α5) (a6:α6) (a7:α7) (h:p a0 a1 a2 a3 a4 a5 a6 a7):Ex8 p
inductive An2(a0 a1:Prop):Prop
 |mk (h0:a0) (h1:a1):An2 a0 a1
inductive An3(a0 a1 a2:Prop):Prop
 |mk (h0:a0) (h1:a1) (h2:a2):An3 a0 a1 a2
inductive An4(a0 a1 a2 a3:Prop):Prop
 |mk (h0:a0) (h1:a1) (h2:a2) (h3:a3):An4 a0 a1 a2 a3
inductive An5(a0 a1 a2 a3 a4:Prop):Prop
 |mk (h0:a0) (h1:a1) (h2:a2) (h3:a3) (h4:a4):An5 a0 a1 a2 a3 a4
inductive An6(a0 a1 a2 a3 a4 a5:Prop):Prop
 |mk (h0:a0) (h1:a1) (h2:a2) (h3:a3) (h4:a4) (h5:a5):An6 a0 a1 a2 a3 a4 a5
inductive An7(a0 a1 a2 a3 a4 a5 a6:Prop):Prop
 |mk (h0:a0) (h1:a1) (h2:a2) (h3:a3) (h4:a4) (h5:a5) (h6:a6):An7 a0 a1 a2 a3 a4 a5 a6
inductive An8(a0 a1 a2 a3 a4 a5 a6 a7:Prop):Prop
 |mk (h0:a0) (h1:a1) (h2:a2) (h3:a3) (h4:a4) (h5:a5) (h6:a6) (h7:a7):An8 a0 a1 a2 a3 a4 a5 a6 a7
inductive An9(a0 a1 a2 a3 a4 a5 a6 a7 a8:Prop):Prop
 |mk (h0:a0) (h1:a1) (h2:a2) (h3:a3) (h4:a4) (h5:a5) (h6:a6) (h7:a7) (h8:a8):An9 a0 a1 a2 a3 a4 a5 a6 a7 a8
inductive An10(a0 a1 a2 a3 a4 a5 a6 a7 a8 a9:Prop):Prop
 |mk (h0:a0) (h1:a1) (h2:a2) (h3:a3) (h4:a4) (h5:a5) (h6:a6) (h7:a7) (h8:a8) (h9:a9):An10 a0 a1 a2 a3 a4 a5 a6 a7 a8 a9
end L2
namespace L2
variable {i j k mask:Nat}{owner:Array (qJ)}{t:SetTable}{xs:Array Nat}{α:Type}
namespace Tab
open PySem
def gI:Nat->Nat->Nat
 |0,x=>x
 |n+1,x=>5*gI n x+1
def gS:Nat->Nat
 |0=>0
 |n+1=>5*gS n+1
def b7B:∀n x,gI n x=5 ^ n*x+gS n
 |0,x=>by simp[gI,gS]
 |n+1,x=>by
  rw[gI,b7B n x,gS,dg,Nat.mul_add,<-Nat.mul_assoc,fX 5 (5 ^ n)];omega
def a9J:∀n,4*gS n+1=5 ^ n
 |0=>rfl
 |n+1=>by
  have:=a9J n;rw[gS,dg];omega
def a3C:∀k,∃u,5 ^ (2 ^ k)=1+2 ^ (k+2)*(2*u+1)
 |0=>⟨0,rfl⟩
 |k+1=>by
  obtain⟨u,h⟩:=a3C k;refine⟨u+2 ^ k*(2*u+1)*(2*u+1),?_⟩;rw[dg 2 k,Nat.pow_mul,h,Nat.pow_two];have a:2 ^ (k+1+2)=8*2 ^ k:=by rw[Nat.pow_add,dg];omega
  have c:2 ^ (k+2)=4*2 ^ k:=by rw[Nat.pow_add,fX]
  rw[a,c];generalize 2 ^ k=b
  grind
def b9i(k:Nat):∃u,gS (2 ^ k)=2 ^ k*(2*u+1):=by
 obtain⟨u,h⟩:=a3C k;refine⟨u,?_⟩;have:=a9J (2 ^ k);have a:2 ^ (k+2)=4*2 ^ k:=by rw[Nat.pow_add,fX]
 rw[h,a,Nat.mul_assoc]at this;omega
def b6C(k y:Nat):gI (2 ^ k) y % 2 ^ (k+1)=(y+2 ^ k) % 2 ^ (k+1):=by
 obtain⟨u,h⟩:=a3C k;obtain⟨v,h2⟩:=b9i k;rw[b7B,h,h2];have e:(1+2 ^ (k+2)*(2*u+1))*y+2 ^ k*(2*v+1)=(y+2 ^ k)+2 ^ (k+1)*(2*(2*u+1)*y+v):=by
  have a:2 ^ (k+1)=2*2 ^ k:=by rw[dg];omega
  have c:2 ^ (k+2)=4*2 ^ k:=by rw[Nat.pow_add,fX]
  rw[a,c];generalize 2 ^ k=b
  grind
 rw[e,Nat.add_mul_mod_self_left]
def fI(M:Nat):Nat->Nat->Nat
 |0,x=>x
 |n+1,x=>(fI M n x*5+1) % M
def b4i(M:Nat)(x:Nat)(a:x<M):∀n,fI M n x=gI n x % M
 |0=>(cO a).symm
 |n+1=>by
  rw[fI,b4i M x a n,gI,fX,Nat.add_mod,Nat.mul_mod,Nat.mod_mod,<-Nat.mul_mod,<-Nat.add_mod]
def b4f(m:Nat):∀n x,gI (n+m) x=gI n (gI m x)
 |0,x=>by rw[dr];rfl
 |n+1,x=>by rw[Nat.add_right_comm,gI,b4f m n x,gI]
def b4e:∀(k x s:Nat),∃n,n<2 ^ k/\gI n x % 2 ^ k=s % 2 ^ k
 |0,x,s=>⟨0,by decide,by rw[Nat.pow_zero,Nat.mod_one,Nat.mod_one]⟩
 |k+1,x,s=>by
  obtain⟨n,l,h⟩:=b4e k x s;have f:2 ^ (k+1)=2*2 ^ k:=by rw[dg];omega
  have m:0<2 ^ k:=Nat.pow_pos (by decide);by_cases a:gI n x % 2 ^ (k+1)=s % 2 ^ (k+1)
  .exact⟨n,by omega,a⟩
  .refine⟨2 ^ k+n,by omega,?_⟩;rw[b4f,b6C];generalize gI n x=y at *;rw[f]at a⊢;generalize 2 ^ k=M at *;have a1:=Nat.mod_add_div y (2*M);have g:=Nat.mod_add_div s (2*M);have i:=eG y (show 0<2*M by omega);have j:=eG s (show 0<2*M by omega);have b:y % M=y % (2*M) % M:=(Nat.mod_mul_left_mod y 2 M).symm;have c:s % M=s % (2*M) % M:=(Nat.mod_mul_left_mod s 2 M).symm;rw[Nat.add_mod,cO (show M<2*M by omega)];generalize y % (2*M)=p at *;generalize s % (2*M)=q at *;rw[b,c]at h;have d:p % M=if p<M then p else p-M:=by
    split
    .exact cO (by assumption)
    .rw[Nat.mod_eq_sub_mod (by omega)];exact cO (by omega)
   have e:q % M=if q<M then q else q-M:=by
    split
    .exact cO (by assumption)
    .rw[Nat.mod_eq_sub_mod (by omega)];exact cO (by omega)
   rw[d,e]at h;split at h<;>split at h
   .omega
   .rw[cO (by omega)];omega
   .rw[show p+M=p-M+2*M by omega,Nat.add_mod_right,cO (by omega)];omega
   .omega
abbrev Pr:=SetTable.Probe
def adv(mask:Nat)(p:Pr):Pr :=
 if p.more > 0 then {p with j:=p.j+1,more:=p.more-1} else
 {p with j:=(SetTable.leap mask p.i p.perturb).1,more:=SetTable.runEnd mask (SetTable.leap mask p.i p.perturb).1-(SetTable.leap mask p.i p.perturb).1,i:=(SetTable.leap mask p.i p.perturb).1,perturb:=(SetTable.leap mask p.i p.perturb).2}
def b9u(t:SetTable)(p:Pr):t.advance p=adv t.mask p:=rfl
def C4(mask:Nat)(p:Pr):Nat->Pr
 |0=>p
 |n+1=>adv mask (C4 mask p n)
def J2(mask:Nat)(p:Pr):∀n,C4 mask p (n+1)=C4 mask (adv mask p) n
 |0=>rfl
 |n+1=>by rw[C4,J2 mask p n];rfl
def a0O(mask:Nat)(p:Pr)(m:Nat):∀n,C4 mask p (m+n)=C4 mask (C4 mask p m) n
 |0=>rfl
 |n+1=>by rw[<-dP,C4,a0O mask p m n];rfl
def a1l(mask:Nat)(p:Pr):∀n,(C4 mask p n).dummy=p.dummy
 |0=>rfl
 |n+1=>by
  rw[C4,<-a1l mask p n];unfold adv;split<;>rfl
def a1p(mask i pt:Nat):Pr:={j:=i,more:=SetTable.runEnd mask i-i,i,perturb:=pt,dummy:=none}
def st0(mask:Nat)(h:Int):Pr:=a1p mask (SetTable.bits h % (mask+1)) (SetTable.bits h)
def a1A(mask i pt:Nat):∀c,c<=SetTable.runEnd mask i-i->C4 mask (a1p mask i pt) c={j:=i+c,more:=SetTable.runEnd mask i-i-c,i,perturb:=pt,dummy:=none}
 |0,_=>rfl
 |c+1,h=>by
  rw[C4,a1A mask i pt c (by omega)];unfold adv;rw[aD (show SetTable.runEnd mask i-i-c > 0 by omega)];simp only[SetTable.Probe.mk.injEq,and_true];omega
def b5d(mask i:Nat):SetTable.runEnd mask i-i<=9:=by
 unfold SetTable.runEnd;split<;>omega
def a6S(mask i pt:Nat):C4 mask (a1p mask i pt) (SetTable.runEnd mask i-i+1)=a1p mask (SetTable.leap mask i pt).1 (SetTable.leap mask i pt).2:=by
 rw[C4,a1A mask i pt _ (ak _)];unfold adv;rw[aq (by show ¬SetTable.runEnd mask i-i-(SetTable.runEnd mask i-i) > 0;omega)];rfl
def O2(mask:Nat)(i pt:Nat):Nat->Nat×Nat
 |0=>(i,pt)
 |k+1=>SetTable.leap mask (O2 mask i pt k).1 (O2 mask i pt k).2
def b2u(mask i pt:Nat):∀k,∃n,n<=10*k/\C4 mask (a1p mask i pt) n=a1p mask (O2 mask i pt k).1 (O2 mask i pt k).2
 |0=>⟨0,ak _,rfl⟩
 |k+1=>by
  obtain⟨n,h1,h2⟩:=b2u mask i pt k;have:=b5d mask (O2 mask i pt k).1;refine⟨n+(SetTable.runEnd mask (O2 mask i pt k).1-(O2 mask i pt k).1+1),by omega,?_⟩;rw[a0O,h2,a6S];rfl
def b2t(mask i pt:Nat):∀k,(O2 mask i pt k).2=pt / 32 ^ k
 |0=>by simp[O2]
 |k+1=>by
  rw[O2,dg,<-Nat.div_div_eq_div_mul,<-b2t mask i pt k];rfl
def a2X(mask i pt a:Nat):∀b,O2 mask i pt (a+b)=O2 mask (O2 mask i pt a).1 (O2 mask i pt a).2 b
 |0=>rfl
 |b+1=>by rw[<-dP,O2,a2X mask i pt a b];rfl
def a6C(mask i:Nat):∀k,O2 mask i 0 k=(fI (mask+1) k i,0)
 |0=>rfl
 |k+1=>by
  rw[O2,a6C mask i k];show((fI (mask+1) k i*5+1+0 / 32) % (mask+1),0 / 32)=_;rw[Nat.zero_div,Nat.add_zero];rfl
def b6J(h:Int):SetTable.bits h<2 ^ 64:=by
 unfold SetTable.bits;have h1:=dy h (show(2:Int) ^ 64≠0 by decide);have h2:=c_ h (show(0:Int)<2 ^ 64 by decide);omega
def b5e(mask i pt:Nat)(hi:i<=mask):∀k,(O2 mask i pt k).1<=mask
 |0=>hi
 |k+1=>by
  rw[O2];exact dY (eG _ (eZ _))
def a6E(c:mask+1=2 ^ k)(h:Int)(s:Nat)(hs:s<=mask):∃r,r<mask+14/\(O2 mask (SetTable.bits h % (mask+1)) (SetTable.bits h) r).1=s:=by
 have b:=b6J h;have hi:=b5e mask (SetTable.bits h % (mask+1)) (SetTable.bits h) (dY (eG _ (eZ _))) 13;have a:=b2t mask (SetTable.bits h % (mask+1)) (SetTable.bits h) 13;rw[Nat.div_eq_of_lt (aO b (by decide))]at a;obtain⟨n,d,e⟩:=b4e k (O2 mask (SetTable.bits h % (mask+1)) (SetTable.bits h) 13).1 s;refine⟨13+n,by omega,?_⟩;rw[<-c]at e;rw[a2X,a,a6C];show fI _ _ _=s;rw[b4i _ _ (by omega),e];exact cO (by omega)
def pos(mask:Nat)(h:Int)(n:Nat):Nat:=(C4 mask (st0 mask h) n).j
def b2T(b:mask+1=2 ^ k)(h:Int)(s:Nat)(hs:s<=mask):∃n,n<10*SetTable.turns mask/\pos mask h n=s:=by
 obtain⟨r,d,e⟩:=a6E b h s hs;obtain⟨n,c,a⟩:=b2u mask (SetTable.bits h % (mask+1)) (SetTable.bits h) r;refine⟨n,by unfold SetTable.turns;omega,?_⟩;unfold pos st0;rw[a,<-e];rfl
def a3L(xs:Array Nat)(j:Nat)(k:∀a b:Nat,a<b->b<xs.size->xs.getD a 0<xs.getD b 0):∀(fuel lo hi:Nat),hi-lo<=fuel->lo<=hi->hi<=xs.size->(∀i,i<lo->xs.getD i 0<j)->(∀i,hi<=i->i<xs.size->j<=xs.getD i 0) ->
  SetTable.below.go xs j fuel lo hi<=xs.size/\(∀i,i<SetTable.below.go xs j fuel lo hi->xs.getD i 0<j)/\∀i,SetTable.below.go xs j fuel lo hi<=i->i<xs.size->j<=xs.getD i 0
 |0,lo,hi,h1,h2,c,d,f=>by
  have:hi=lo:=by omega
  subst this;exact⟨c,d,f⟩
 |fuel+1,lo,hi,h1,h2,c,d,f=>by
  unfold SetTable.below.go;by_cases h:lo<hi
  .rw[aD h];have n:(lo+hi) / 2<hi/\lo<=(lo+hi) / 2:=by omega
   have m:xs.getD ((lo+hi) / 2) j=xs.getD ((lo+hi) / 2) 0:=by
    have:(lo+hi) / 2<xs.size:=by omega
    simp[Array.getD,this]
   dsimp only;rw[m];by_cases g:xs.getD ((lo+hi) / 2) 0<j
   .rw[aD g];refine a3L xs j k fuel _ _ (by omega) (by omega) c (λi l=>?_) f;by_cases e:i=(lo+hi) / 2
    .rw[e];exact g
    .exact ei (k i _ (by omega) (by omega)) g
   .rw[aq g];refine a3L xs j k fuel _ _ (by omega) (by omega) (by omega) d (λi l hs=>?_);by_cases e:i=(lo+hi) / 2
    .rw[e];omega
    .have:=k ((lo+hi) / 2) i (by omega) hs;omega
  .rw[aq h];have:hi=lo:=by omega
   subst this;exact⟨c,d,f⟩
def Ris(xs:Array Nat):Prop:=∀a b:Nat,a<b->b<xs.size->xs.getD a 0<xs.getD b 0
def I0(a:Ris xs)(j:Nat):SetTable.below xs j<=xs.size/\(∀i,i<SetTable.below xs j->xs.getD i 0<j)/\∀i,SetTable.below xs j<=i->i<xs.size->j<=xs.getD i 0 :=
 a3L xs j a xs.size 0 xs.size (by omega) (by omega) (ak _) (λi h=>absurd h (by omega)) (λi h1 h2=>absurd h2 (by omega))
def a1d(h:i<xs.size):xs[i]?=some (xs.getD i 0):=by simp[Array.getD,h]
def a1h(a:Ris xs)(h:xs[i]?=some j):SetTable.below xs j=i:=by
 obtain⟨d,b,c⟩:=I0 a j;have hi:i<xs.size:=(cX.mp h).1;have e:xs.getD i 0=j:=by have:=a1d hi;rw[h]at this;injection this with this;exact this.symm
 rcases di (SetTable.below xs j) i with z|z|z
 .have h1:=c _ (ak _) (by omega);have h2:=a _ _ z hi;omega
 .exact z
 .have:=b i z;omega
def a1F(a:Ris xs)(j:Nat):xs[SetTable.below xs j]?=some j↔j∈xs:=by
 constructor
 .intro h;exact Array.mem_of_getElem? h
 .intro h;obtain⟨i,hi⟩:=Array.mem_iff_getElem?.mp h;rw[a1h a hi];exact hi
def a9r(a:Ris t.place)(hd:t.dummies=#[])(j:Nat):t.slot j=if j∈t.place then .live (SetTable.below t.place j)else .empty:=by
 unfold SetTable.slot;dsimp only;by_cases h:j∈t.place
 .rw[aD h,aD];rw[(a1F a j).mpr h];simp
 .rw[aq h,aq,hd]
  .rw[aq];unfold SetTable.has;simp
  .intro z;exact h ((a1F a j).mp (by simpa using z))
def a6L{t:SetTable}(i:Ris t.place)(hd:t.dummies=#[])(a:Nat->Int)(h:Int):∀(fuel:Nat) (p:Pr),p.dummy=none->(∃n,n<fuel/\(C4 t.mask p n).j∉t.place) ->
  (∃n,(C4 t.mask p n).j∉t.place/\(∀m,m<n->(C4 t.mask p m).j∈t.place/\a (SetTable.below t.place (C4 t.mask p m).j)≠h)/\SetTable.probe.go t a h fuel p=some (.empty (C4 t.mask p n).j none)) ∨
  ∃n,(C4 t.mask p n).j∈t.place/\a (SetTable.below t.place (C4 t.mask p n).j)=h/\(∀m,m<n->(C4 t.mask p m).j∈t.place/\a (SetTable.below t.place (C4 t.mask p m).j)≠h)/\SetTable.probe.go t a h fuel p=some (.candidate (C4 t.mask p n).j (SetTable.below t.place (C4 t.mask p n).j) (C4 t.mask p (n+1)))
 |0,p,_,⟨n,g,_⟩=>absurd g (by omega)
 |fuel+1,p,c,⟨n,g,f⟩=>by
  unfold SetTable.probe.go;rw[a9r i hd];by_cases b:p.j∈t.place
  .rw[aD b];dsimp only;by_cases d:a (SetTable.below t.place p.j)=h
   .right;refine⟨0,b,d,λm e=>absurd e (by omega),?_⟩;rw[aD (by simpa using d)];rfl
   .have hn0:n≠0:=λz=>f (by rw[z];exact b);obtain⟨n,rfl⟩:∃k,n=k+1:=⟨n-1,by omega⟩;rw[J2]at f;rw[aq (by simpa using d),b9u];have first:∀N,(∀m,m<N->(C4 t.mask (adv t.mask p) m).j∈t.place/\a (SetTable.below t.place (C4 t.mask (adv t.mask p) m).j)≠h)->∀m,m<N+1->(C4 t.mask p m).j∈t.place/\a (SetTable.below t.place (C4 t.mask p m).j)≠h:=λN j m e=>by
     cases m with
     |zero=>exact⟨b,d⟩
     |succ m=>rw[J2];exact j m (by omega)
    rcases a6L i hd a h fuel (adv t.mask p) (by rw[<-c];exact a1l t.mask p 1) ⟨n,by omega,f⟩with⟨N,h1,h2,h3⟩|⟨N,h1,h2,h3,h4⟩
    .left;exact⟨N+1,by rw[J2];exact h1,first N h2,by rw[J2];exact h3⟩
    .right;exact⟨N+1,by rw[J2];exact h1,by rw[J2];exact h2,first N h3,by rw[J2,J2];exact h4⟩
  .rw[aq b];left;refine⟨0,b,λm e=>absurd e (by omega),?_⟩;show some (SetTable.Met.empty p.j p.dummy)=_;rw[c];rfl
def Z1(xs:Array α)(p:Nat)(x:α)(hp:p<=xs.size):(SetTable.insertAt xs p x).toList=xs.toList.take p++x::xs.toList.drop p:=by
 unfold SetTable.insertAt;simp only[bJ,cS,eF,List.extract_eq_take_drop,cR,Nat.sub_zero,aG,List.singleton_append];rw[bo (l:=List.drop p xs.toList) (by simp)]
def ris_list:Ris xs↔xs.toList.Pairwise (· < ·):=by
 rw[eS];unfold Ris;constructor
 .intro h i j hi hj hij;have:=h i j hij (by simpa using hj);simpa[Array.getD,show i<xs.size by simpa using hi,show j<xs.size by simpa using hj]using this
 .intro h a b hab hb;have:=h a b (by simp;omega) (by simpa using hb) hab;simpa[Array.getD,show a<xs.size by omega,hb]using this
def a4J(h:i<xs.toList.length):xs.getD i 0=xs.toList[i]:=by
 have h':i<xs.size:=by simpa using h
 simp[Array.getD,h']
def b4P(b:Ris xs){x:Nat}(h:x∈xs.toList.take (SetTable.below xs j)):x<j:=by
 obtain⟨c,a,d⟩:=I0 b j;obtain⟨i,hi,rfl⟩:=cu.mp h;rw[aS]at hi;rw[fi,<-a4J];exact a i (by omega)
def a9M(d:Ris xs){x:Nat}(c:j∉xs)(h:x∈xs.toList.drop (SetTable.below xs j)):j<x:=by
 obtain⟨e,f,b⟩:=I0 d j;have a:x∈xs:=by simpa using cv h
 obtain⟨i,hi,rfl⟩:=cu.mp h;rw[bG]at hi;rw[fj,<-a4J]at a⊢;have:=b (SetTable.below xs j+i) (by omega) (by simp at hi;omega);rcases Nat.lt_or_eq_of_le this with z|z
 .exact z
 .exact absurd (z ▸ a) c
def b5f(a:Ris xs)(c:j∉xs):Ris (SetTable.insertAt xs (SetTable.below xs j) j):=by
 rw[ris_list,Z1 _ _ _ (I0 a j).1];have d:=ris_list.mp a;rw[bB,cD];refine⟨d.take,⟨λy b=>a9M a c b,d.drop⟩,λx e y b=>?_⟩;have h1:=b4P a e;rcases az.mp b with z|z
 .rw[z];exact h1
 .exact ei h1 (a9M a c z)
def a5G{p x:Nat}(hp:p<=xs.size):x∈SetTable.insertAt xs p j↔x=j∨x∈xs:=by
 rw[<-eC,Z1 _ _ _ hp,ay,az,<-eC];constructor
 .rintro(h|h|h)
  .exact .inr (bC h)
  .exact .inl h
  .exact .inr (cv h)
 .rintro(h|h)
  .exact .inr (.inl h)
  .rw[<-bh p xs.toList]at h;rcases ay.mp h with z|z
   .exact .inl z
   .exact .inr (.inr z)
def nodup_le{α:Type}[DecidableEq α]:∀(a b:qA α),a.Nodup->(∀x∈a,x∈b)->a.length<=b.length
 |[],b,_,_=>br _
 |x::a,b,e,h=>by
  obtain⟨h1,h2⟩:=cq.mp e;have c:=h x ao;have:=nodup_le a (b.erase x) h2 λy d=>(List.mem_erase_of_ne (λz:y=x=>h1 (z ▸ d))).mpr (h y (ar _ d));rw[List.length_erase_of_mem c]at this;have:=List.length_pos_of_mem c;rw[aY];omega
structure TabOk{α:Type}(t:SetTable)(es:Array (Int×α)):Prop where
 size:t.place.size=es.size
 dum:t.dummies=#[]
 ris:Ris t.place
 le:∀j∈t.place,j<=t.mask
 pow:∃k,3<=k/\t.mask+1=2 ^ k
 room:es.size<=t.mask
 reach:∀(i j:Nat) (e:Int×α),t.place[i]?=some j->es[i]?=some e->∃n,pos t.mask e.1 n=j/\∀m,m<n->pos t.mask e.1 m∈t.place
def TabOk.free{es:Array (Int×α)}(h:TabOk t es)(x:Int):∃n,n<10*SetTable.turns t.mask/\pos t.mask x n∉t.place:=by
 obtain⟨k,_,e⟩:=h.pow;have:∃s,s<=t.mask/\s∉t.place:=by
  refine bR λd=>?_;have a:∀s,s<t.mask+1->s∈t.place.toList:=λs hs=>by
   refine bR λz=>d ⟨s,by omega,λq=>z (by simpa using q)⟩
  have:=nodup_le (List.range (t.mask+1)) t.place.toList fG λs hs=>a s (bb.mp hs);rw[fo,ax,h.size]at this;have:=h.room;omega
 obtain⟨s,hs,f⟩:=this;obtain⟨n,b,c⟩:=b2T e x s hs;exact⟨n,b,by rw[c];exact f⟩
def TabOk.first{es:Array (Int×α)}(h:TabOk t es)(x:Int):∃N,N<10*SetTable.turns t.mask/\pos t.mask x N∉t.place/\∀m,m<N->pos t.mask x m∈t.place:=by
 obtain⟨n,d,c⟩:=h.free x;induction n using Nat.strongRecOn with
 |ind n e =>
  by_cases b:∃m,m<n/\pos t.mask x m∉t.place
  .obtain⟨m,a,hm2⟩:=b;exact e m a (by omega) hm2
  .exact⟨n,d,c,λm a=>bR λz=>b ⟨m,a,z⟩⟩
def a9I{xs:Array α}{p:Nat}{x:α}(hp:p<=xs.size)(i:Nat):(SetTable.insertAt xs p x)[i]?=if i<p then xs[i]? else if i=p then some x else xs[i-1]?:=by
 rw[<-av,Z1 _ _ _ hp];by_cases h1:i<p
 .rw[aD h1,bw (by rw[aS,ax];omega),df h1,av]
 .rw[aq h1,ba (by rw[aS,ax];omega),aS,ax,cT hp];by_cases h2:i=p
  .rw[aD h2,h2,Nat.sub_self];rfl
  .rw[aq h2];obtain⟨c,a⟩:∃c,i-p=c+1:=⟨i-p-1,by omega⟩;rw[a,dn,List.getElem?_drop,av];congr 1;omega
def TabOk.add{es:Array (Int×α)}(h:TabOk t es){x:Int}{v:α}{N:Nat}(h1:pos t.mask x N∉t.place)(h2:∀m,m<N->pos t.mask x m∈t.place)(l:pos t.mask x N<=t.mask)(d:es.size<t.mask) :
  TabOk (t.put (pos t.mask x N)).1 (SetTable.insertAt es (t.put (pos t.mask x N)).2 (x,v)):=by
 have g:=(I0 h.ris (pos t.mask x N)).1;have hd:(t.put (pos t.mask x N)).1.dummies=#[]:=by
  show(if SetTable.has t.dummies (pos t.mask x N)=true then _ else t.dummies)=#[];rw[h.dum,aq];unfold SetTable.has;simp
 have c:SetTable.below t.place (pos t.mask x N)<=es.size:=by rw[<-h.size];exact g
 have f:∀{β:Type}(xs:Array β) (p:Nat) (y:β),p<=xs.size->(SetTable.insertAt xs p y).size=xs.size+1:=λxs p y u=>by
  rw[<-ax,Z1 _ _ _ u,au,aY,aS,bG,ax];omega
 refine⟨?_,hd,b5f h.ris h1,λj s=>?_,h.pow,?_,λi j e b a=>?_⟩
 .show(SetTable.insertAt t.place (SetTable.below t.place (pos t.mask x N)) _).size=(SetTable.insertAt es (SetTable.below t.place (pos t.mask x N)) _).size;rw[f _ _ _ g,f _ _ _ c,h.size]
 .rcases(a5G g).mp s with z|z
  .rw[z];exact l
  .exact h.le j z
 .show(SetTable.insertAt es (SetTable.below t.place (pos t.mask x N)) _).size<=t.mask;rw[f _ _ _ c];exact d
 .change (SetTable.insertAt t.place (SetTable.below t.place (pos t.mask x N)) (pos t.mask x N))[i]?=some j at b;change (SetTable.insertAt es (SetTable.below t.place (pos t.mask x N)) (x,v))[i]?=some e at a;rw[a9I g]at b;rw[a9I c]at a;show ∃n,pos t.mask e.1 n=j/\∀m,m<n->pos t.mask e.1 m∈SetTable.insertAt t.place (SetTable.below t.place (pos t.mask x N)) (pos t.mask x N);have old:∀k,t.place[k]?=some j->es[k]?=some e->∃n,pos t.mask e.1 n=j/\∀m,m<n->pos t.mask e.1 m∈SetTable.insertAt t.place (SetTable.below t.place (pos t.mask x N)) (pos t.mask x N):=λk B C=>by
   obtain⟨n,w,A⟩:=h.reach k j e B C;exact⟨n,w,λm o=>(a5G g).mpr (.inr (A m o))⟩
  by_cases q:i<SetTable.below t.place (pos t.mask x N)
  .rw[aD q]at b a;exact old i b a
  .rw[aq q]at b a;by_cases r:i=SetTable.below t.place (pos t.mask x N)
   .rw[aD r]at b a;cases b;cases a;exact⟨N,rfl,λm o=>(a5G g).mpr (.inr (h2 m o))⟩
   .rw[aq r]at b a;exact old _ b a
def a4x(hi:i<=mask):SetTable.runEnd mask i<=mask:=by
 unfold SetTable.runEnd;split<;>omega
def b1N(mask:Nat)(p:Pr)(h:p.j+p.more<=mask):∀n,(C4 mask p n).j+(C4 mask p n).more<=mask
 |0=>h
 |n+1=>by
  have b:=b1N mask p h n;rw[C4];unfold adv;split
  .dsimp only;omega
  .dsimp only;have h1:(SetTable.leap mask (C4 mask p n).i (C4 mask p n).perturb).1<=mask:=dY (eG _ (eZ _));have h2:=a4x h1;have a:(SetTable.leap mask (C4 mask p n).i (C4 mask p n).perturb).1<=SetTable.runEnd mask (SetTable.leap mask (C4 mask p n).i (C4 mask p n).perturb).1:=by
    unfold SetTable.runEnd;split<;>omega
   omega
def a1q(mask:Nat)(h:Int)(n:Nat):pos mask h n<=mask:=by
 have h1:SetTable.bits h % (mask+1)<=mask:=dY (eG _ (eZ _));have h2:=a4x h1;have a:SetTable.bits h % (mask+1)<=SetTable.runEnd mask (SetTable.bits h % (mask+1)):=by
  unfold SetTable.runEnd;split<;>omega
 have:=b1N mask (st0 mask h) (by show SetTable.bits h % (mask+1)+(SetTable.runEnd mask (SetTable.bits h % (mask+1))-SetTable.bits h % (mask+1))<=mask;omega) n;unfold pos;omega
def fr(owner:Array (qJ))(j:Nat):Bool:=(owner.getD j (some 0)).isNone
def a9K(mask:Nat)(owner:Array (qJ)):∀(fuel i pt:Nat),(∃r,r<fuel/\fr owner (O2 mask i pt r).1=true) ->
  ∃n,fr owner (C4 mask (a1p mask i pt) n).j=true/\(∀m,m<n->fr owner (C4 mask (a1p mask i pt) m).j=false)/\SetTable.layClean.free mask owner fuel i pt=some (C4 mask (a1p mask i pt) n).j
 |0,_,_,⟨r,g,_⟩=>absurd g (by omega)
 |fuel+1,i,pt,⟨r,g,b⟩=>by
  unfold SetTable.layClean.free;have p:i<=SetTable.runEnd mask i:=by
   unfold SetTable.runEnd;split<;>omega
  cases e:(List.range (SetTable.runEnd mask i+1-i)).find? (λk=>(owner.getD (i+k) (some 0)).isNone)with
  |some k =>
   dsimp only;rw[List.find?_range_eq_some]at e;obtain⟨h,j,l⟩:=e;have q:=bb.mp j;refine⟨k,?_,λm c=>?_,?_⟩
   .rw[a1A mask i pt k (by omega)];exact h
   .rw[a1A mask i pt m (by omega)];have:=l m c;simpa[fr]using this
   .rw[a1A mask i pt k (by omega)]
  |none =>
   dsimp only;rw[List.find?_range_eq_none]at e;have a:∀m,m<SetTable.runEnd mask i-i+1->fr owner (C4 mask (a1p mask i pt) m).j=false:=λm c=>by
    rw[a1A mask i pt m (by omega)];have:=e m (by omega);simpa[fr]using this
   cases r with
   |zero =>
    have:=a 0 (by omega);rw[show(C4 mask (a1p mask i pt) 0).j=(O2 mask i pt 0).1 from rfl,b]at this;cases this
   |succ r =>
    have hf':fr owner (O2 mask (SetTable.leap mask i pt).1 (SetTable.leap mask i pt).2 r).1=true:=by
     rw[Nat.add_comm,a2X]at b;exact b
    obtain⟨n,h1,h2,o⟩:=a9K mask owner fuel (SetTable.leap mask i pt).1 (SetTable.leap mask i pt).2 ⟨r,by omega,hf'⟩;have key:∀m,C4 mask (a1p mask i pt) (SetTable.runEnd mask i-i+1+m)=C4 mask (a1p mask (SetTable.leap mask i pt).1 (SetTable.leap mask i pt).2) m:=λm=>by
     rw[a0O,a6S]
    refine⟨SetTable.runEnd mask i-i+1+n,by rw[key];exact h1,λm c=>?_,by rw[key];exact o⟩;by_cases d:m<SetTable.runEnd mask i-i+1
    .exact a m d
    .obtain⟨f,rfl⟩:∃f,m=SetTable.runEnd mask i-i+1+f:=⟨m-(SetTable.runEnd mask i-i+1),by omega⟩;rw[key];exact h2 f (by omega)
structure Lay(mask:Nat)(owner:Array (qJ))(hs:qI):Prop where
 size:owner.size=mask+1
 val:∀j q:Nat,owner[j]?=some (some q)->∃h,hs[q]?=some h/\∃n,pos mask h n=j/\∀m,m<n->fr owner (pos mask h m)=false
 ex:∀q,q<hs.length->∃j:Nat,owner[j]?=some (some q)
 uniq:∀j j' q:Nat,owner[j]?=some (some q)->owner[j']?=some (some q)->j=j'
def Z2(hs:owner.size=mask+1)(a:j<=mask):fr owner j=false↔∃q,owner[j]?=some (some q):=by
 have h:j<owner.size:=by omega
 unfold fr;rw[bM h,show owner.getD j (some 0)=owner[j] by simp[Array.getD,h]];cases owner[j]with
 |none=>simp
 |some q=>simp
def Lay.start(mask:Nat):Lay mask (Array.replicate (mask+1) none) []:=by
 refine⟨by simp,λj q h=>?_,λq h=>absurd h (by simp),λj a q h=>?_⟩<;>
 .rw[Array.getElem?_replicate]at h;split at h
  .cases h
  .cases h
def Lay.free(z:mask+1=2 ^ k){hs:qI}(L:Lay mask owner hs)(A:hs.length<=mask)(h:Int):∃n,fr owner (pos mask h n)=true/\(∀m,m<n->fr owner (pos mask h m)=false)/\SetTable.layClean.free mask owner (SetTable.turns mask) (SetTable.bits h % (mask+1)) (SetTable.bits h)=some (pos mask h n):=by
 have:∃s,s<=mask/\fr owner s=true:=by
  refine bR λl=>?_;have c:∀s:Nat,s<=mask->∃q,owner[s]?=some (some q):=λs hs=>by
   rw[<-Z2 L.size hs];cases e:fr owner s with
   |false=>rfl
   |true=>exact absurd ⟨s,hs,e⟩ l
  have:=nodup_le ((List.range (mask+1)).map λj=>(owner.getD j none).getD 0) (List.range hs.length) ?_ ?_
  .rw[ag,fo,fo]at this;omega
  .rw[eM,cn];refine(eM.mp fG).imp_of_mem λ{a b} v w i e=>i ?_;obtain⟨q,d⟩:=c a (by have:=bb.mp v;omega);obtain⟨t,f⟩:=c b (by have:=bb.mp w;omega);have g:owner.getD a none=some q:=by rw[bN,d];rfl
   have u:owner.getD b none=some t:=by rw[bN,f];rfl
   rw[g,u]at e;change q=t at e;exact L.uniq a b q d (e ▸ f)
  .intro x hx;obtain⟨j,y,rfl⟩:=aT.mp hx;obtain⟨q,d⟩:=c j (by have:=bb.mp y;omega);obtain⟨h',h1,_⟩:=L.val j q d;have g:owner.getD j none=some q:=by rw[bN,d];rfl
   rw[g];exact bb.mpr (aK.mp h1).1
 obtain⟨s,o,p⟩:=this;obtain⟨r,B,e⟩:=a6E z h s o;exact a9K mask owner _ _ _ ⟨r,by unfold SetTable.turns;omega,by rw[e];exact p⟩
def Lay.put{hs:qI}(L:Lay mask owner hs){h:Int}{n:Nat}(h1:fr owner (pos mask h n)=true)(h2:∀m,m<n->fr owner (pos mask h m)=false):Lay mask (owner.setIfInBounds (pos mask h n) (some hs.length)) (hs++[h]):=by
 have p:pos mask h n<owner.size:=by have:=a1q mask h n;rw[L.size];omega
 have i:∀q,owner[pos mask h n]?≠some (some q):=λq z=>by
  have:=(Z2 L.size (a1q mask h n)).mpr ⟨q,z⟩;rw[h1]at this;cases this
 have get:∀j:Nat,(owner.setIfInBounds (pos mask h n) (some hs.length))[j]?=if j=pos mask h n then some (some hs.length)else owner[j]?:=λj=>by
  rw[Array.getElem?_setIfInBounds];by_cases e:pos mask h n=j
  .rw[aD e,aD e.symm,aD p]
  .rw[aq e,aq λz=>e z.symm]
 have d:(owner.setIfInBounds (pos mask h n) (some hs.length)).size=mask+1:=by rw[eX,L.size]
 have keep:∀j,j<=mask->fr owner j=false->fr (owner.setIfInBounds (pos mask h n) (some hs.length)) j=false:=λj b e=>by
  rw[Z2 d b,get];split
  .exact⟨_,rfl⟩
  .exact(Z2 L.size b).mp e
 refine⟨d,λj q e=>?_,λq r=>?_,λj k q e a=>?_⟩
 .rw[get]at e;by_cases c:j=pos mask h n
  .rw[aD c]at e;cases e;exact⟨h,by rw[ba (ak _),Nat.sub_self];rfl,n,c.symm,λm g=>keep _ (a1q mask h m) (h2 m g)⟩
  .rw[aq c]at e;obtain⟨h',f,s,l,o⟩:=L.val j q e;exact⟨h',by rw[bw (aK.mp f).1];exact f,s,l,λm g=>keep _ (a1q mask h' m) (o m g)⟩
 .by_cases c:q=hs.length
  .exact⟨pos mask h n,by rw[get,aD rfl,c]⟩
  .rw[au,fK]at r;obtain⟨j,b⟩:=L.ex q (by omega);refine⟨j,?_⟩;rw[get,aq]
   .exact b
   .intro z;exact i q (z ▸ b)
 .rw[get]at e a;have lt:∀j:Nat,owner[j]?=some (some q)->q<hs.length:=λj z=>by
   obtain⟨_,f,_⟩:=L.val j q z;exact(aK.mp f).1
  by_cases c:j=pos mask h n
  .by_cases c':k=pos mask h n
   .rw[c,c']
   .rw[aD c]at e;rw[aq c']at a;cases e;exact absurd (lt _ a) (by omega)
  .by_cases c':k=pos mask h n
   .rw[aq c]at e;rw[aD c']at a;cases a;exact absurd (lt _ e) (by omega)
   .rw[aq c]at e;rw[aq c']at a;exact L.uniq j k q e a
def a7c{mask k:Nat}(e:mask+1=2 ^ k):∀(rest done:qI) (owner:Array (qJ)),Lay mask owner done->done.length+rest.length<=mask ->
  ∃a,rest.foldl (λb h=>do
   let (owner,k) <-b
   let j <-SetTable.layClean.free mask owner (SetTable.turns mask) (SetTable.bits h % (mask+1)) (SetTable.bits h)
   pure (owner.setIfInBounds j (some k),k+1)) (some (owner,done.length))=some (a,(done++rest).length)/\Lay mask a (done++rest)
 |[],done,owner,L,_=>⟨owner,by simp,by simpa using L⟩
 |h::rest,done,owner,L,g=>by
  rw[aY]at g;obtain⟨n,h1,h2,f⟩:=L.free e (by omega) h;obtain⟨a,c,d⟩:=a7c e rest (done++[h]) _ (L.put h1 h2) (by rw[au,fK];omega);refine⟨a,?_,by rw[aG]at d;exact d⟩;rw[dS];rw[aG]at c;refine Eq.trans (aL (λz=>List.foldl _ z rest) ?_) c;show(Option.bind (SetTable.layClean.free mask owner (SetTable.turns mask) (SetTable.bits h % (mask+1)) (SetTable.bits h)) λj=>some (owner.setIfInBounds j (some done.length),done.length+1))=_;rw[f,au];rfl
def a7d(d:mask+1=2 ^ k)(a:Array Int)(e:a.size<=mask):∃owner,SetTable.layClean mask a=some owner/\Lay mask owner a.toList:=by
 obtain⟨owner,b,c⟩:=a7c d a.toList [] _ (Lay.start mask) (by simpa using e);refine⟨owner,?_,c⟩;unfold SetTable.layClean;rw[<-Array.foldl_toList];exact aL (Option.map (·.1)) b
def a8x{α β:Type}(f:α->qD β):∀l:qA α,(∀x∈l,(f x).isSome=true)->(l.filterMap f).map some=l.map f
 |[],_=>rfl
 |x::l,h=>by
  have c:=a8x f l λy b=>h y (ar _ b);have a:=h x ao;cases e:f x with
  |none=>rw[e]at a;cases a
  |some y=>rw[List.filterMap_cons_some e,aW,aW,c,e]
def b2A(es:Array α):(List.range es.size).filterMap (es[·]?)=es.toList:=by
 have h1:((List.range es.size).filterMap (es[·]?)).map some=(List.range es.size).map (es[·]?):=a8x _ _ λq a=>by
  have:=bb.mp a;simp[this]
 have h2:es.toList.map some=(List.range es.size).map (es[·]?):=by
  refine fE (by simp) λi h1 h2=>?_;simp at h1;simp[h1]
 exact(List.map_inj_right (λ_ _ h=>bF h)).mp (h1.trans h2.symm)
def D8(mask:Nat)(owner:Array (qJ)):qA (Nat×Nat):=(List.range (mask+1)).filterMap λj=>(owner.getD j none).map (j,·)
def P5(hs:owner.size=mask+1)(j q:Nat):(j,q)∈D8 mask owner↔owner[j]?=some (some q):=by
 unfold D8;rw[cL];constructor
 .rintro⟨j',a,e⟩;have a:=bb.mp a;rw[fz]at e;obtain⟨f,b,c⟩:=e;cases c;rw[bN,bM (by omega)]at b;rw[bM (by omega)];exact aL some b
 .intro e;have d:j<owner.size:=(cX.mp e).1;exact⟨j,bb.mpr (by omega),by rw[bN,e];rfl⟩
def b3D(mask:Nat)(owner:Array (qJ)):(D8 mask owner).Pairwise λa b=>a.1<b.1:=by
 unfold D8;refine List.Pairwise.filterMap _ (λa b c p d q e=>?_) List.pairwise_lt_range;rw[fz]at d e;obtain⟨_,_,rfl⟩:=d;obtain⟨_,_,rfl⟩:=e;exact c
def b6j(F:mask+1=2 ^ k)(J:3<=k)(es:Array (Int×α))(G:es.size<=mask)(finger moves:Nat)(led plain:Bool) :
  ∃t' d,SetTable.laid mask finger moves led plain (es.map (·.1))=some (t',d)/\t'.mask=mask/\t'.led=led/\t'.plain=plain/\TabOk t' (d.filterMap (es[·]?))/\(d.filterMap (es[·]?)).toList.Perm es.toList:=by
 obtain⟨c,e,L⟩:=a7d F (es.map (·.1)) (by simpa using G);refine⟨{mask,place:=((D8 mask c).map (·.1)).toArray,dummies:=#[],finger,led,moves,plain},((D8 mask c).map (·.2)).toArray,?_,rfl,rfl,rfl,?_⟩
 .unfold SetTable.laid;rw[e];rfl
 have B:∀p∈D8 mask c,p.2<es.size:=λp o=>by
  obtain⟨h,h1,_⟩:=L.val p.1 p.2 ((P5 L.size p.1 p.2).mp o);have:=(aK.mp h1).1;simpa using this
 have w:=b3D mask c;have nd:((D8 mask c).map (·.2)).Nodup:=by
  rw[eM,cn];refine w.imp_of_mem λ{a b} K N M z=>?_;have h1:=(P5 L.size a.1 a.2).mp K;have h2:=(P5 L.size b.1 b.2).mp N;rw[z]at h1;have:=L.uniq _ _ _ h1 h2;omega
 have g:∀q,q∈(D8 mask c).map (·.2)↔q∈List.range es.size:=λq=>by
  rw[bb];constructor
  .intro u;obtain⟨p,o,rfl⟩:=aT.mp u;exact B p o
  .intro u;obtain⟨j,s⟩:=L.ex q (by simpa using u);exact aT.mpr ⟨(j,q),(P5 L.size j q).mpr s,rfl⟩
 have perm:((D8 mask c).map (·.2)).Perm (List.range es.size):=(List.perm_ext_iff_of_nodup nd fG).mpr g;have r:∀l:qA Nat,(l.toArray.filterMap (es[·]?)).toList=l.filterMap (es[·]?):=λl=>by simp
 have f:(((D8 mask c).map (·.2)).filterMap (es[·]?)).map some=((D8 mask c).map (·.2)).map (es[·]?):=a8x _ _ λq u=>by
  have:=bb.mp ((g q).mp u);simp[this]
 have v:(((D8 mask c).map (·.2)).toArray.filterMap (es[·]?)).size=(D8 mask c).length:=by
  have:=aL List.length f;rw[ag,ag,ag]at this;rw[<-ax,r];exact this
 have t:(D8 mask c).length=es.size:=by
  have:=perm.length_eq;rw[ag,fo]at this;exact this
 refine⟨⟨?_,rfl,?_,λj s=>?_,⟨k,J,F⟩,by rw[v,t];exact G,λi j A x E=>?_⟩,?_⟩
 .rw[v];simp
 .rw[ris_list];show((D8 mask c).map (·.1)).Pairwise (· < ·);rw[cn];exact w
 .have s:j∈(D8 mask c).map (·.1):=by simpa using s
  obtain⟨p,o,rfl⟩:=aT.mp s;have:=(cX.mp ((P5 L.size p.1 p.2).mp o)).1;rw[L.size]at this;show p.1<=mask;omega
 .have x:((D8 mask c).map (·.1))[i]?=some j:=by simpa using x
  rw[<-av,r]at E;rw[aN,fz]at x;obtain⟨p,o,rfl⟩:=x;have h1:=aL (λl=>l[i]?) f;simp only[aN,E,o,Option.map_some]at h1;injection h1 with h1
  have C:=(P5 L.size p.1 p.2).mp (aA o);obtain⟨h,y,n,H,I⟩:=L.val p.1 p.2 C;have O:h=A.1:=by
   rw[av,Array.getElem?_map,<-h1]at y;injection y with y
   exact y.symm
  rw[O]at H I;refine⟨n,H,λm P=>?_⟩;obtain⟨Q,D⟩:=(Z2 L.size (a1q mask _ m)).mp (I m P);have:pos mask A.1 m∈(D8 mask c).map (·.1):=aT.mpr ⟨_,(P5 L.size _ Q).mpr D,rfl⟩;show pos mask A.1 m∈((D8 mask c).map (·.1)).toArray;simpa using this
 .rw[r];refine(perm.filterMap _).trans (List.Perm.of_eq ?_);exact b2A es
def a9s(n:Nat):∀(fuel a:Nat),3<=a->n<2 ^ (a+fuel)->∃b,3<=b/\SetTable.sizeAbove.go n fuel (2 ^ a)=2 ^ b/\n<2 ^ b/\(b=a∨2 ^ b<=2*n)
 |0,a,c,h=>⟨a,c,rfl,h,.inl rfl⟩
 |fuel+1,a,c,h=>by
  unfold SetTable.sizeAbove.go;by_cases d:2 ^ a<=n
  .rw[aD d,<-dg];obtain⟨b,e,f,g,i⟩:=a9s n fuel (a+1) (by omega) (by rw[dP,Nat.add_comm 1];exact h);refine⟨b,e,f,g,.inr ?_⟩;rcases i with z|z
   .rw[z,dg];omega
   .exact z
  .rw[aq d];exact⟨a,c,rfl,by omega,.inl rfl⟩
def a0R(n:Nat)(h:n<2 ^ 60):∃b,3<=b/\SetTable.sizeAbove n=2 ^ b/\n<2 ^ b/\(b=3∨2 ^ b<=2*n) :=
 a9s n 64 3 (ak _) (aO h (by decide))
def b0s(t:SetTable)(es:Array (Int×α))(a:Nat)(hw:a<2 ^ 60)(m:es.size<a) :
  ∃t' c,t.relaid (es.map (·.1)) a=some (t',c)/\a<=t'.mask/\t'.mask<=2*a+7/\t'.led=t.led/\t'.plain=t.plain/\TabOk t' (c.filterMap (es[·]?))/\(c.filterMap (es[·]?)).toList.Perm es.toList:=by
 obtain⟨b,d,e,l,f⟩:=a0R a hw;have n:0<2 ^ b:=Nat.pow_pos (by decide);unfold SetTable.relaid;rw[e];obtain⟨t',c,h1,h2,g,h,i,j⟩:=b6j (mask:=2 ^ b-1) (k:=b) (by omega) d es (by omega) t.finger (t.movedTo (2 ^ b-1)) t.led t.plain;refine⟨t',c,h1,by rw[h2];omega,?_,g,h,i,j⟩;rw[h2];rcases f with z|z
 .rw[z];omega
 .omega
end Tab
end L2
namespace L2
variable {Q:Bool->qC->Prop}{a:qE}{r:qI}
namespace Tab
open PySem
section
variable {prog:qG}{w:World}{A:Around}{E:qH}{s:qC}
abbrev TK(prog:qG)(w:World)(h:Heap)(r:qI)(a:qE):Prop:=IsTupleKey (intKind prog w) h r a
def TK.keep{h h':Heap}(x:TK prog w h r a)(k:∀b o,h.get? b=some o->h'.get? b=some o):TK prog w h' r a:=by
 obtain⟨o,its,n,h1,h2⟩:=x;exact⟨o,its,n,k _ _ h1,h2⟩
def items_int{vs:qA qB}(h:ItemsAre (intKind prog w) r vs):∀v∈vs,∃i t,v=.int i t:=by
 induction h with
 |nil=>intro v b;cases b
 |@cons k v ks vs h1 _ c =>
  intro u a;rcases az.mp a with e|a
  .obtain⟨t,ht⟩:=Value.isInt_shape h1;exact⟨k,t,e.trans ht⟩
  .exact c u a
def a6R(e:TK prog w s.heap r a)(h:Q false s):wpAny (model prog w) A (ofAClassStatement 8 (.ref a)) Q E s:=by
 have f:=e.typeIs;obtain⟨o,d,n,g,_,hd,hi⟩:=e;have c:=items_int hi;unfold ofAClassStatement;refine aa (fO f ?_);dsimp only;rw[aD (by decide)];refine aa (ai ?_);rw[aq (by decide)];refine aa (cF g hd ?_);dsimp only;refine aa ?_;rw[<-Array.forIn_toList];refine wpAny_forIn_list _ (λrest b s'=>s'=s/\b.1=none/\∀v∈rest,∃i t,v=Value.int i t) _ ?_ ?_ _ _ ⟨rfl,rfl,c⟩
 .rintro x rest b s' ⟨rfl,hb,hr⟩;obtain⟨i,t,rfl⟩:=hr x ao;refine aa (m:=ofAClassStatement 7 (.int i t)) (ai ?_);rw[aq (by decide)];exact ai ⟨rfl,rfl,λv j=>hr v (ar _ j)⟩
 .rintro b s' ⟨rfl,hb,_⟩;rw[hb];exact ai h
def b4A(e:TK prog w s.heap r a)(h:Q true s):wpAny (model prog w) A (hashByValue 8 (.ref a)) Q E s:=by
 have f:=e.typeIs;obtain⟨o,c,n,g,_,hd,hi⟩:=e;have d:=items_int hi;unfold hashByValue;refine aa (wpAny_specialOf f F.slot_tuple_hash.lookup ?_);dsimp only;refine aa (cF g hd ?_);refine aa ?_;show wpAny _ _ (forIn c _ _) _ _ _;rw[<-Array.forIn_toList];refine wpAny_forIn_list _ (λrest b s'=>s'=s/\b.1=none/\∀v∈rest,∃i t,v=Value.int i t) _ ?_ ?_ _ _ ⟨rfl,rfl,d⟩
 .rintro x rest b s' ⟨rfl,hb,hr⟩;obtain⟨i,t,rfl⟩:=hr x ao;refine aa (m:=hashByValue 7 (.int i t)) (ai ?_);rw[aq (by decide)];exact ai ⟨rfl,rfl,λv j=>hr v (ar _ j)⟩
 .rintro b s' ⟨rfl,hb,_⟩;rw[hb];exact ai h
def b3w{b:qE}{l:qA qB}(f:TK prog w s.heap r b)(g:∀y∈l,∃a b',y=.ref b'/\TK prog w s.heap a b')(h:Q false s):wpAny (model prog w) A (searchCouldBeSeen (.ref b) l) Q E s:=by
 unfold searchCouldBeSeen;refine aa ?_;refine wpAny_forIn_list _ (λrest c s'=>s'=s/\c.1=none/\∀y∈rest,∃a b',y=.ref b'/\TK prog w s.heap a b') _ ?_ ?_ _ _ ⟨rfl,rfl,g⟩
 .rintro x rest c s' ⟨rfl,hc,hr⟩;obtain⟨a,b',rfl,d⟩:=hr x ao;have e:∀y∈rest,∃a b',y=.ref b'/\TK prog w s'.heap a b':=λv i=>hr v (ar _ i);dsimp only;split
  .exact ai ⟨rfl,rfl,e⟩
  .refine aa ((tupleKind (intKind prog w)).quiet f ?_);rw[aq (by decide)];refine aa ((tupleKind (intKind prog w)).quiet d ?_);rw[aq (by decide)];refine aa (a6R f ?_);rw[aq (by decide)];refine aa (a6R d ?_);rw[aq (by decide)];exact ai ⟨rfl,rfl,e⟩
 .rintro c s' ⟨rfl,hc,_⟩;dsimp only;rw[hc];exact ai h
def hsh(prog:qG)(w:World)(r:qI):Int:=tupleKeyHash (intKind prog w) r
def ent(prog:qG)(w:World)(x:qI×qE):Int×qB:=(hsh prog w x.1,Value.ref x.2)
def G7{α:Type}{t:SetTable}{es:Array (Int×α)}(ok:TabOk t es):t.fits es.size=true:=by
 unfold SetTable.fits SetTable.fill;have:=ok.room;simp[ok.size,ok.dum,this]
def b8J{α:Type}{t:SetTable}{es:Array (Int×α)}(ok:TabOk t es):t.gaveWay=false:=by
 obtain⟨k,b,a⟩:=ok.pow;obtain⟨c,rfl⟩:∃c,k=c+1:=⟨k-1,by omega⟩;rw[dg]at a;unfold SetTable.gaveWay;have:t.mask % 2=1:=by omega
 rw[this];rfl
def b3E{c:Bool}{m:Sem Bool}{X Y:Sem SetFound}{Q:SetFound->qC->Prop}(b:∀a:Bool->qC->Prop,a false s->wpAny (model prog w) A m a E s)(h:wpAny (model prog w) A Y Q E s):wpAny (model prog w) A (if c=true then m>>=λz=>if z=true then X else Y else Y) Q E s:=by
 split
 .refine aa (b _ ?_);rw[aq (by decide)];exact h
 .exact h
def a4u{a b:qE}{r:qI}{o:Obj}{es:Array (Int×qB)}{ep:Nat}{t:SetTable}{xs:qA (qI×qE)}{Q:SetFound->qC->Prop}(S:s.heap.get? a=some o)(hd:o.data=.set es ep t)(ok:TabOk t es)
  (F:∀e∈es.toList,∃x∈xs,e=ent prog w x) (M:∀x∈xs,ent prog w x∈es.toList) (g:∀x∈xs,TK prog w s.heap x.1 x.2) (R:TK prog w s.heap r b) (X:A.units<cLine) {N:Nat}(hN:N<10*SetTable.turns t.mask) (j:pos t.mask (hsh prog w r) N∉t.place) (q:∀m,m<N->pos t.mask (hsh prog w r) m∈t.place)
  (J:r∈xs.map (·.1)->Q (.there none) s) (B:r∉xs.map (·.1)->Q (.free (pos t.mask (hsh prog w r) N) false) s) :
  ∀(fuel d:Nat) (st:qD SetTable.Probe),N-d<fuel->d<=N->st.getD (t.probeStart (hsh prog w r))=C4 t.mask (st0 t.mask (hsh prog w r)) d->(∀m,m<d->∀(i:Nat) (x:qI×qE),x∈xs->t.place[i]?=some (pos t.mask (hsh prog w r) m)->es[i]?=some (ent prog w x)->x.1≠r) ->
   wpAny (model prog w) A (setSearchFrom a (.ref b) (hsh prog w r) true fuel st) Q E s
 |0,d,st,h,_,_,_=>absurd h (by omega)
 |fuel+1,d,st,hf,a2,U,L=>by
  unfold setSearchFrom;refine aa (cp S hd (G7 ok) ?_);dsimp only;rw[b8J ok,aq (by decide),U];have f:∀m,(C4 t.mask (C4 t.mask (st0 t.mask (hsh prog w r)) d) m).j=pos t.mask (hsh prog w r) (d+m):=λm=>by rw[<-a0O];rfl
  have W:∀(i:Nat) (e:Int×qB),es[i]?=some e->(es[i]?.map (·.1)).getD 0=e.1:=λi e z=>by rw[z];rfl
  have O:∀n,d+n<N↔pos t.mask (hsh prog w r) (d+n)∈t.place/\∀m,m<n->pos t.mask (hsh prog w r) (d+m)∈t.place:=λn=>by
   constructor
   .intro h;exact⟨q _ h,λm K=>q _ (by omega)⟩
   .rintro⟨h1,h2⟩;rcases di (d+n) N with z|z|z
    .exact z
    .rw[z]at h1;exact absurd h1 j
    .have:=h2 (N-d) (by omega);rw[show d+(N-d)=N by omega]at this;exact absurd this j
  rcases a6L ok.ris ok.dum (λi=>(es[i]?.map (·.1)).getD 0) (hsh prog w r) (10*SetTable.turns t.mask) (C4 t.mask (st0 t.mask (hsh prog w r)) d) (by rw[a1l];rfl) ⟨N-d,by omega,by rw[f,show d+(N-d)=N by omega];exact j⟩with⟨n,h1,h2,h3⟩|⟨n,h1,h2,h3,h4⟩
  .have h3:t.probe (λi=>(es[i]?.map (·.1)).getD 0) (hsh prog w r) (C4 t.mask (st0 t.mask (hsh prog w r)) d)=_:=h3;erw [h3];dsimp only;rw[f]at h1⊢;have e:d+n=N:=by
    rcases di (d+n) N with z|z|z
    .exact absurd (q _ z) h1
    .exact z
    .have:=(h2 (N-d) (by omega)).1;rw[f,show d+(N-d)=N by omega]at this;exact absurd this j
   rw[e];refine ai (B λK=>?_);obtain⟨x,H,rfl⟩:=aT.mp K;obtain⟨i,hi⟩:=cm.mp (M x H);rw[av]at hi;have u:i<t.place.size:=by rw[ok.size];exact(cX.mp hi).1
   obtain⟨p,Y,Z⟩:=ok.reach i _ _ (a1d u) hi;change pos t.mask (hsh prog w x.1) p=_ at Y;change ∀m,m<p->pos t.mask (hsh prog w x.1) m∈t.place at Z;have k:t.place[i]?=some (pos t.mask (hsh prog w x.1) p):=by rw[Y];exact a1d u
   have a1:p<N:=by
    rcases di p N with z|z|z
    .exact z
    .rw[z]at k;exact absurd (Array.mem_of_getElem? k) j
    .exact absurd (Z N z) j
   by_cases c:p<d
   .exact L p c i x H k hi rfl
   .have C:=(h2 (p-d) (by omega)).2;rw[f,show d+(p-d)=p by omega,a1h ok.ris k,W i _ hi]at C;exact C rfl
  .have h4:t.probe (λi=>(es[i]?.map (·.1)).getD 0) (hsh prog w r) (C4 t.mask (st0 t.mask (hsh prog w r)) d)=_:=h4;erw [h4];dsimp only;rw[f]at h1 h2⊢;have a0:d+n<N:=(O n).mpr ⟨h1,λm K=>by have:=(h3 m K).1;rw[f]at this;exact this⟩;have k:=(a1F ok.ris _).mpr h1;generalize I:SetTable.below t.place (pos t.mask (hsh prog w r) (d+n))=ib at h2 k⊢;have u:ib<es.size:=by rw[<-ok.size];exact(cX.mp k).1
   obtain⟨x,H,ex⟩:=F es[ib] (by simp);have D:es[ib]?=some (ent prog w x):=by rw[bM u,ex]
   rw[D];dsimp only;refine b3E (λQ' hq=>b3w R (λy hy=>?_) hq) ?_
   .obtain⟨e,P,rfl⟩:=aT.mp hy;have P:e∈es:=by
     have:=eC.mp P;exact(Array.mem_filter.mp this).1
    obtain⟨G,v,ex'⟩:=F e (by simpa using P);exact⟨G.1,G.2,by rw[ex'];rfl,g G v⟩
   refine aa (bW ((tupleKind (intKind prog w)).eqBool X (g x H) R ?_));refine aa (cp S hd (G7 ok) ?_);dsimp only;by_cases l:x.1=r
   .rw[aD (by rw[aU l];rfl)];exact ai (J (aT.mpr ⟨x,H,l⟩))
   .rw[aq (by rw[bg l];decide)];have sm:t.sameMemory t.moves t.mask=some true:=by unfold SetTable.sameMemory;simp
    rw[sm];dsimp only;rw[aD rfl,a9r ok.ris ok.dum,aD h1];dsimp only;rw[I,D];dsimp only;refine aa (wpAny_isSame_ref_self ?_);rw[aD rfl];refine aa (ai ?_);dsimp only;rw[aq (by rw[bg l];decide)];refine a4u S hd ok F M g R X hN j q J B fuel (d+n+1) _ (by omega) (by omega) (by rw[<-a0O];rfl) λm K i G v T hi=>?_;by_cases c:m<d
    .exact L m c i G v T hi
    .by_cases c2:m=d+n
     .subst c2;have:ib=i:=by rw[<-I];exact a1h ok.ris T
      subst this;rw[D]at hi;injection hi with hi
      have C:x.2=G.2:=by
       have:=aL Prod.snd hi;injection this
      intro z;have V:=g x H;rw[C]at V;exact l ((V.inj (g G v)).trans z)
     .have C:=(h3 (m-d) (by omega)).2;rw[f,show d+(m-d)=m by omega,a1h ok.ris T,W i _ hi]at C;intro z;exact C (by rw[<-z];rfl)
def a0a(prog:qG)(w:World)(ld:Bool)(h:Heap)(a:qE)(xs:qA (qI×qE)):Prop :=
 ∃o es ep t,h.get? a=some o/\o.ExactSet/\o.data=.set es ep t/\es.toList.Perm (xs.map (ent prog w))/\TabOk t es/\t.plain=true/\es.size*5<t.mask*3/\t.mask<=8*xs.length+7/\t.led=ld
def b9v{ld:Bool}{b:qE}{xs:qA (qI×qE)}(hS:a0a prog w ld s.heap a xs)(L:∀x∈xs,TK prog w s.heap x.1 x.2)(hk:TK prog w s.heap r b)(hu:A.units<cLine)(hl:xs.length<1000)
  (h:∀h' H c,Heap.SameBut a s.heap h'->a0a prog w ld h' a H->((r∈xs.map (·.1)/\H=xs)∨(r∉xs.map (·.1)/\H=(r,b)::xs))->Q c {s with heap:=h',toks:=s.toks+(r.length+1)}):wpAny (model prog w) A (setAdd a (.ref b)) Q E s:=by
 obtain⟨o,es,ep,t,I,C,hd,q,ok,F,a1,a0,P⟩:=hS;have a2:es.size=xs.length:=by rw[<-ax,q.length_eq,ag]
 unfold setAdd;refine bW (aa (wpAny_pyHash_tuple hu hk ?_));unfold setAddHashed;refine bW ?_;unfold setAddHashedIn;refine aa (cp (s:={s with toks:=s.toks+(r.length+1)}) I hd (G7 ok) ?_);dsimp only;rw[show byScan (.ref b) es=false from rfl,aq (by decide)];unfold setSearch;obtain⟨N,hN,J,K⟩:=ok.first (hsh prog w r);have a6:N<100000:=by unfold SetTable.turns at hN;omega
 refine aa (a4u (s:={s with toks:=s.toks+(r.length+1)}) (xs:=xs) I hd ok (λe he=>?_) (λx hx=>q.mem_iff.mpr (aT.mpr ⟨x,hx,rfl⟩)) L hk hu hN J K (λZ=>?_) (λB=>?_) 100000 0 none (by omega) (br _) rfl (λm hm=>absurd hm (by omega)))
 .obtain⟨x,hx,rfl⟩:=aT.mp (q.mem_iff.mp he);exact⟨x,hx,rfl⟩
 .refine ai ?_;exact h s.heap xs false (Heap.SameBut.refl a s.heap) ⟨o,es,ep,t,I,C,hd,q,ok,F,a1,a0,P⟩ (.inl ⟨Z,rfl⟩)
 .dsimp only;refine aa (cp (s:={s with toks:=s.toks+(r.length+1)}) I hd (G7 ok) ?_);dsimp only;rw[aD (show(t.put (pos t.mask (hsh prog w r) N)).1.plain=true from F)];refine aa (b4A (s:={s with toks:=s.toks+(r.length+1)}) hk ?_);simp only[↓reduceIte,Bool.not_false,eN];have k:=ok.add (v:=Value.ref b) J K (a1q _ _ _) (by omega);have R:(t.put (pos t.mask (hsh prog w r) N)).1.mask=t.mask:=rfl;have p:(t.put (pos t.mask (hsh prog w r) N)).1.plain=true:=F;have n:(t.put (pos t.mask (hsh prog w r) N)).1.led=ld:=P;have W:(t.put (pos t.mask (hsh prog w r) N)).2<=es.size:=by
   have:=(I0 ok.ris (pos t.mask (hsh prog w r) N)).1;rw[ok.size]at this;exact this
  have O:=Z1 es (t.put (pos t.mask (hsh prog w r) N)).2 (hsh prog w r,Value.ref b) W;change wpAny _ _ (storeSet a (SetTable.insertAt es (t.put (pos t.mask (hsh prog w r) N)).2 (hsh prog w r,Value.ref b)) _>>=_) _ _ _;generalize (t.put (pos t.mask (hsh prog w r) N)).1=l at k R p n⊢;generalize SetTable.insertAt es (t.put (pos t.mask (hsh prog w r) N)).2 (hsh prog w r,Value.ref b)=d at k O⊢;have u:d.toList.Perm (((r,b)::xs).map (ent prog w)):=by
   rw[O];refine List.perm_middle.trans ?_;rw[bh,aW];exact List.Perm.cons _ q
  have S:d.size=xs.length+1:=by rw[<-ax,u.length_eq,ag,aY]
  have T:d.size<=sizeLine:=by rw[aX];omega
  refine aa (wpAny_storeSet_of (s:={s with toks:=s.toks+(r.length+1)}) I hd ?_ T);have y:(s.heap.update a (Obj.putSet d l)).get? a=some {o with data:=.set d (ep+1) l}:=by
   have:=cH (Obj.putSet d l) I (by rw[putSet_of d l hd];rfl);rw[putSet_of d l hd]at this;exact this
  have V:=cA s.heap a (Obj.putSet d l);have M:l.fill=d.size:=by unfold SetTable.fill;rw[k.size,k.dum];rfl
  by_cases f:l.tooFull=true
  .rw[aD f];unfold SetTable.tooFull at f;rw[M,bz]at f;refine aa ?_;unfold setRelay;refine aa (cp (s:={s with heap:=s.heap.update a (Obj.putSet d l),toks:=s.toks+(r.length+1)}) y rfl (G7 k) ?_);dsimp only;have Y:SetTable.grown (es.size+1)=4*(xs.length+1):=by
    unfold SetTable.grown;rw[aq (by omega),a2];omega
   rw[Y];obtain⟨sb,a5,a3,a8,a4⟩:=a0R (4*(xs.length+1)) (by omega);have a7:SetTable.sizeAbove (4*(xs.length+1))<=16000:=by
    rw[a3];rcases a4 with z|z
    .rw[z];decide
    .omega
   rw[aq (by rw[aX];omega)];obtain⟨G,g,r1,r2,r3,r4,r5,U,D⟩:=b0s l d (4*(xs.length+1)) (by omega) (by omega);rw[r1];have i:(g.filterMap (d[·]?)).size=d.size:=by rw[<-ax,D.length_eq,ax]
   refine aa ?_;show wpAny _ _ (if ((g.filterMap (d[·]?)).size != d.size)=true then _ else pure (g.filterMap (d[·]?),G)) _ _ _;rw[aq (by rw[i];simp)];refine ai ?_;dsimp only;generalize g.filterMap (d[·]?)=j at U D i⊢;refine wpAny_storeSet_of (s:={s with heap:=s.heap.update a (Obj.putSet d l),toks:=s.toks+(r.length+1)}) y rfl ?_ (by rw[i];exact T);have X:((s.heap.update a (Obj.putSet d l)).update a (Obj.putSet j G)).get? a=some {o with data:=.set j (ep+1+1) G}:=by
    have:=cH (Obj.putSet j G) y (by rw[putSet_of j G rfl];rfl);rw[putSet_of j G rfl]at this;exact this
   refine ai (h _ ((r,b)::xs) true (V.trans (cA _ a _)) ⟨_,j,_,G,X,C,rfl,D.trans u,U,by rw[r5];exact p,?_,?_,by rw[r4];exact n⟩ (.inr ⟨B,rfl⟩))
   .rw[i,S];omega
   .rw[aY];omega
  .rw[aq f];unfold SetTable.tooFull at f;rw[M,bz]at f;refine ai (h _ ((r,b)::xs) true V ⟨_,d,_,l,y,C,rfl,u,k,p,by omega,?_,n⟩ (.inr ⟨B,rfl⟩));rw[aY,R];omega
end
end Tab
end L2
namespace L2
namespace Tab
open PySem
structure Came(rows:Nat->qI×qE)(i:Nat)(xs:qA (qI×qE)):Prop where
 len:xs.length<=i
 nd:(xs.map (·.1)).Nodup
 from_:∀x∈xs,∃j,j<i/\x=rows j
 all:∀j,j<i->(rows j).1∈xs.map (·.1)
section
variable {prog:qG}{w:World}{A:Around}{R:Result->qC->Prop}{I:qE}{fp wr:qA qE}{G:Array GenState->Array GenState->Prop}{n:Nat}{P:Nat->qB->Prop}{St:Nat->qC->Prop}
def a6o(W:WalksS prog w A.in1 I fp wr G n P St)(S:qE)(D:S∉fp){ld:Bool}{h0:Heap}(L:∀b o,h0.get? b=some o->b∉wr/\b≠S)(a:Nat->qI×qE)
  (K:∀i v,i<n->P i v->v=.ref (a i).2) (l:∀i,i<n->TK prog w h0 (a i).1 (a i).2) (hn:n<=1000) (hu:A.units+10<cLine) :
  ∀(k i:Nat) (s:qC) (xs:qA (qI×qE)),n-i=k->i<=n->St i s->(∀b o,h0.get? b=some o->s.heap.get? b=some o)->a0a prog w ld s.heap S xs->Came a i xs ->
   (∀s' f,Moved (S::wr) G s s'->a0a prog w ld s'.heap S f->Came a n f->R (.ok (.ret .none)) s') ->
   codeAny (model prog w) A (.builtin "set.update.loop" ⟨[.ref S,.ref I],[]⟩) R s:=by
 have E:S∉wr:=λh=>D (W.sub _ h);have m:∀b∈wr,b∈S::wr:=λb F=>ar _ F;intro k;induction k with
 |zero =>
  intro i s xs hk hi r y T d hR;have X:i=n:=by omega
  subst X;refine dh PyProof.Rows.F.entry_set_update_loop ?_;rw[dD du _];show wpAny _ A.in1 (pyNext (.ref I)>>=_) _ _ s;refine aa (W.done s _ _ r λs' u=>?_);show wpAny _ A.in1 (ret Value.none) _ _ s';refine ai (hR s' xs (u.mono m) ?_ d);obtain⟨o,es,ep,t,Y,rest⟩:=T;exact⟨o,es,ep,t,u.heap S _ E Y,rest⟩
 |succ k ih =>
  intro i s xs hk hi r y T d hR;have g:i<n:=by omega
  refine dh PyProof.Rows.F.entry_set_update_loop ?_;rw[dD du _];show wpAny _ A.in1 (pyNext (.ref I)>>=_) _ _ s;refine aa (W.item i s _ _ g r λv s' hP J u=>?_);obtain rfl:=K i v g hP;have U:a0a prog w ld s'.heap S xs:=by
   obtain⟨o,es,ep,tb,Y,rest⟩:=T;exact⟨o,es,ep,tb,u.heap S _ E Y,rest⟩
  have p:∀b o,h0.get? b=some o->s'.heap.get? b=some o:=λb o e=>u.heap b o (L b o e).1 (y b o e);show wpAny _ A.in1 (holding [Value.ref (a i).2] (setAdd S (.ref (a i).2))>>=_) _ _ s';refine aa (bW (b9v U (λx M=>?_) ((l i g).keep p) (show A.units+1<cLine by omega) (by have:=d.len;omega) λh' f c q V Z=>?_))
  .obtain⟨j,O,rfl⟩:=d.from_ x M;exact(l j (by omega)).keep p
  have Q:Came a (i+1) f:=by
   rcases Z with⟨h1,rfl⟩|⟨h1,rfl⟩
   .refine⟨by have:=d.len;omega,d.nd,λx M=>?_,λj O=>?_⟩
    .obtain⟨j,O,e⟩:=d.from_ x M;exact⟨j,by omega,e⟩
    .by_cases c:j=i
     .rw[c];exact h1
     .exact d.all j (by omega)
   .refine⟨by have:=d.len;rw[aY];omega,by rw[aW,cq];exact⟨h1,d.nd⟩,λx M=>?_,λj O=>?_⟩
    .rcases az.mp M with z|z
     .exact⟨i,by omega,z⟩
     .obtain⟨j,O,e⟩:=d.from_ x z;exact⟨j,by omega,e⟩
    .rw[aW];by_cases c:j=i
     .rw[c];exact ao
     .exact ar _ (d.all j (by omega))
  refine ai ⟨plainId_quiet du _,ih (i+1) _ f (by omega) g (W.frame _ s' _ _ J (bU _ _) λb F o e=>?_) (λb o e=>?_) V Q λa0 N H C B=>?_⟩
  .rw[q.2 b (λh:b=S=>D (by rw[<-h];exact F))];exact e
  .show h'.get? b=some o;rw[q.2 b (L b o e).2];exact p b o e
  .refine hR a0 N (Moved.trans W.gtrans ((u.mono m).then_heap (bU _ _) λb o F e=>?_) H) C B;rw[q.2 b (λh:b=S=>F (by rw[h];exact ao))];exact e
end
section
variable {prog:qG}{w:World}{A:Around}{E:qH}{s:qC}
def a0E(a:qB){Q₁:qH}
  (h:Q₁ (.ref s.heap.objs.size) {s with heap:=s.heap.push {cls:=.type "set",dict:=none,data:=.set #[] 0 (.fresh 0 0 (!w.params.followText "set-order"))}}) :
  codeAny (model prog w) A (.call (.builtin "set.__new__") ⟨[.type "set",a],[]⟩) (wants Q₁ E) s:=by
 refine fY ?_;show wpAny _ A.in1 (do checkBuiltinCall "set.__new__" ⟨[.type "set",a],[]⟩;again (.builtin "set.__new__" ⟨[.type "set",a],[]⟩)) _ _ s;refine aa (wpAny_of_eq (PySem.F.newCall_set_1 a) (ai ⟨plainId_quiet PySem.F.plain_set_new _,dh PySem.F.entry_set_new ?_⟩));rw[dD PySem.F.plain_set_new _];unfold Builtin.«set.__new__» Builtin.Frozenset.newClass;have b:=sub_set_self;obtain⟨c,g,d,tk,os⟩:=s;dsimp only
 wp_walk
 refine eH (ai ?_);dsimp only;simp only[newObj];refine aa (wpAny_alloc (ai ?_));exact ai h
def a4t{c:Bool}{h:Heap}{a:qE}(e:h.get? a=some {cls:=.type "set",dict:=none,data:=.set #[] 0 (.fresh 0 0 c)}):a0a prog w c h a [] :=
 ⟨_,#[],0,_,e,⟨rfl,rfl,rfl⟩,rfl,List.Perm.nil,⟨rfl,rfl,λa b h1 h2=>absurd h2 (by simp[SetTable.fresh]),λj d=>by simp[SetTable.fresh]at d,⟨3,ak _,rfl⟩,br _,λi j e h1 h2=>by simp at h2⟩,rfl,by show 0*5<7*3;decide,by show 7<=8*0+7;decide,rfl⟩
def a5c:isSubtype (.type "list") (.type "set")=pure false:=by rw[dG];kernel_rfl
def a0G:isSubtype (.type "list") (.type "frozenset")=pure false:=by rw[dG];kernel_rfl
def a4f{l:qE}{items:Array qB}{d:Nat->qI×qE}{Q:qH}
  (hh:A.handled=none) (hl:s.heap.IsList l items) (z:∀i v,i<items.size->items[i]?=some v->v=.ref (d i).2) (y:∀i,i<items.size->TK prog w s.heap (d i).1 (d i).2) (hn:items.size<=1000) (hu:A.units+20<cLine)
  (h:∀(h':Heap) (tk:Nat) (xs:qA (qI×qE)),a0a prog w (!w.params.followText "set-order") h' s.heap.objs.size xs->Came d items.size xs ->
   (∀b o,b<s.heap.objs.size->s.heap.get? b=some o->h'.get? b=some o)->Q (.ref s.heap.objs.size) {s with heap:=h',toks:=tk}) :
  wpAny (model prog w) A (call (.type "set") [.ref l]) Q E s:=by
 obtain⟨c,tl,T⟩:=PySem.F.called_set.mro;have J:=PySem.F.called_set.made;have W:=PySem.F.called_set.sub;refine fN (fY ?_);show wpAny _ _ (callAny (.type "set") _) _ _ _;refine ai ⟨Code.quiet_builtin _ (by decide +kernel),dh PySem.F.entry_type_call ?_⟩;rw[Around.under_plain (fL "set" [.ref l] []) rfl];have h1:=PySem.F.called_set.notType;have h2:=PySem.F.called_set.canCreate;have a1:=PySem.F.typeCall_set_1 (.ref l)
 repeat (any_goals (first|assumption|wp_step))
 refine cU (a0E (.ref l) (E:=E) (Q₁:=λobj s₁=>obj=.ref s.heap.objs.size/\s₁={s with heap:=s.heap.push {cls:=.type "set",dict:=none,data:=.set #[] 0 (.fresh 0 0 (!w.params.followText "set-order"))}}) ⟨rfl,rfl⟩) λr s₁ K=>?_;cases r with
 |error e=>exact K
 |ok fl =>
  cases fl with
  |ret obj =>
   obtain⟨rfl,rfl⟩:=K;generalize a2:(!w.params.followText "set-order")=a at h;have P:(s.heap.push {cls:=.type "set",dict:=none,data:=.set #[] 0 (.fresh 0 0 a)}).get? s.heap.objs.size=some {cls:=.type "set",dict:=none,data:=.set #[] 0 (.fresh 0 0 a)}:=aC _ rfl;have hT:Shared.TypeIs {s with heap:=s.heap.push {cls:=.type "set",dict:=none,data:=.set #[] 0 (.fresh 0 0 a)}} (.ref s.heap.objs.size) "set":=⟨_,P,rfl⟩;have a3:=PySem.F.called_set.init.lookup;have a0:=PySem.F.called_set.init.bind (.ref s.heap.objs.size)
   repeat (any_goals (first|assumption|wp_step))
   refine cU (eI (R:=wants (λr s₂=>r=.none/\∃h' tk xs,s₂={s with heap:=h',toks:=tk}/\a0a prog w a h' s.heap.objs.size xs/\Came d items.size xs /\
     (∀b o,b<s.heap.objs.size->s.heap.get? b=some o->h'.get? b=some o)) E) PySem.F.called_set.init.plain PySem.F.entry_set_init (check_set_init_1 hT ?_)) λr₂ s₂ hr₂=>?_
   .obtain⟨ol,hol,hcl,nl,hdl⟩:=hl;obtain⟨X,m,L,f⟩:=ol;simp only at hcl hdl;subst hcl;subst hdl;have u:(s.heap.push {cls:=.type "set",dict:=none,data:=.set #[] 0 (.fresh 0 0 a)}).get? l=some {cls:=.type "list",dict:=m,data:=.seq items nl,slots:=f}:=ae _ hol;have V:=a5c;have U:=a0G;have a4:(Value.type "list"==Value.type "dict")=false:=by decide
    have p:(s.heap.push {cls:=.type "set",dict:=none,data:=.set #[] 0 (.fresh 0 0 a)}).IsList l items:=⟨_,u,rfl,nl,rfl⟩;unfold Builtin.«set.__init__» noKeywords Builtin.Frozenset.updateFrom;generalize C:pyIter=PI
    wp_walk
    subst C;refine fg p ?_;refine aa (wpAny_runValue ?_);have q:l<s.heap.objs.size:=aI hol;have H:A.in1.in1.in1.handled=none:=by simp[hh]
    have t:l≠(s.heap.push {cls:=.type "set",dict:=none,data:=.set #[] 0 (.fresh 0 0 a)}).objs.size:=by
     rw[bq];exact aV (bZ q)
    have D:s.heap.objs.size∉[(s.heap.push {cls:=.type "set",dict:=none,data:=.set #[] 0 (.fresh 0 0 a)}).objs.size,l]:=by
     rw[bq];simp only[az,aP,bu,cx,not_or];exact⟨aV (bS _),cK q⟩
    have n:((s.heap.push {cls:=.type "set",dict:=none,data:=.set #[] 0 (.fresh 0 0 a)}).push {cls:=.type "list_iterator",data:=.fields #[.ref l,.int 0 0]}).get? s.heap.objs.size
       = some {cls:=.type "set",dict:=none,data:=.set #[] 0 (.fresh 0 0 a)}:=ae _ P
    refine a6o (ld:=a) (h0:=s.heap) ((Walks.list H _ l t items).toS) s.heap.objs.size D (λb o e=>?_) d z y hn (show A.units+2+10<cLine by omega) (items.size-0) 0 _ [] (by omega) (br _)
     ⟨⟨_,aC _ rfl,rfl,rfl⟩,(p.push _)⟩ (λb o e=>ae _ (ae _ e)) (a4t n) ⟨ak _,fc,(λx hx=>nomatch hx),λj hj=>absurd hj (Nat.not_lt_zero j)⟩ ?hR
    .have:=aI e;rw[bq];simp only[az,bu,cx];exact⟨aV (bZ this),aV this⟩
    case hR =>
     intro s' O B k g;obtain⟨h',g',Y,N,M⟩:=s';have eg:g'=s.gens:=B.gens;have Z:Y=s.drawn:=B.drawn;have eo:M=s.os:=B.os;subst eg;subst Z;subst eo;show wpAny _ _ _ _ _ _;refine ai ?_;show wpAny _ _ (ret Value.none) _ _ _;refine ai ⟨rfl,h',N,O,rfl,k,g,λb o S e=>?_⟩;have F:b≠s.heap.objs.size:=aV S;have G:b≠(s.heap.push {cls:=.type "set",dict:=none,data:=.set #[] 0 (.fresh 0 0 a)}).objs.size:=by
      rw[bq];exact aV (bZ S)
     exact B.heap b o (by simp only[az,aP,bu,cx,not_or];exact⟨F,G⟩) (ae _ (ae _ e))
   .cases r₂ with
    |error e=>exact hr₂
    |ok fl₂ =>
     cases fl₂ with
     |ret r =>
      obtain⟨rfl,h',tk,xs,rfl,k,g,I⟩:=hr₂
      repeat (any_goals (first|assumption|wp_step))
      exact h _ _ _ k g I
     |_=>exact hr₂.elim
  |_=>exact K.elim
def a3P:isSubtype (.type "tuple") (.type "set")=pure false:=by rw[dG];kernel_rfl
def a0v:isSubtype (.type "tuple") (.type "frozenset")=pure false:=by rw[dG];kernel_rfl
def a3J{l:qE}{items:Array qB}{d:Nat->qI×qE}{Q:qH}
  (hh:A.handled=none) (hl:s.heap.IsTuple l items) (z:∀i v,i<items.size->items[i]?=some v->v=.ref (d i).2) (y:∀i,i<items.size->TK prog w s.heap (d i).1 (d i).2) (hn:items.size<=1000) (hu:A.units+20<cLine)
  (h:∀(h':Heap) (tk:Nat) (xs:qA (qI×qE)),a0a prog w (!w.params.followText "set-order") h' s.heap.objs.size xs->Came d items.size xs ->
   (∀b o,b<s.heap.objs.size->s.heap.get? b=some o->h'.get? b=some o)->Q (.ref s.heap.objs.size) {s with heap:=h',toks:=tk}) :
  wpAny (model prog w) A (call (.type "set") [.ref l]) Q E s:=by
 obtain⟨c,tl,T⟩:=PySem.F.called_set.mro;have J:=PySem.F.called_set.made;have W:=PySem.F.called_set.sub;refine fN (fY ?_);show wpAny _ _ (callAny (.type "set") _) _ _ _;refine ai ⟨Code.quiet_builtin _ (by decide +kernel),dh PySem.F.entry_type_call ?_⟩;rw[Around.under_plain (fL "set" [.ref l] []) rfl];have h1:=PySem.F.called_set.notType;have h2:=PySem.F.called_set.canCreate;have a1:=PySem.F.typeCall_set_1 (.ref l)
 repeat (any_goals (first|assumption|wp_step))
 refine cU (a0E (.ref l) (E:=E) (Q₁:=λobj s₁=>obj=.ref s.heap.objs.size/\s₁={s with heap:=s.heap.push {cls:=.type "set",dict:=none,data:=.set #[] 0 (.fresh 0 0 (!w.params.followText "set-order"))}}) ⟨rfl,rfl⟩) λr s₁ K=>?_;cases r with
 |error e=>exact K
 |ok fl =>
  cases fl with
  |ret obj =>
   obtain⟨rfl,rfl⟩:=K;generalize a2:(!w.params.followText "set-order")=a at h;have P:(s.heap.push {cls:=.type "set",dict:=none,data:=.set #[] 0 (.fresh 0 0 a)}).get? s.heap.objs.size=some {cls:=.type "set",dict:=none,data:=.set #[] 0 (.fresh 0 0 a)}:=aC _ rfl;have hT:Shared.TypeIs {s with heap:=s.heap.push {cls:=.type "set",dict:=none,data:=.set #[] 0 (.fresh 0 0 a)}} (.ref s.heap.objs.size) "set":=⟨_,P,rfl⟩;have a3:=PySem.F.called_set.init.lookup;have a0:=PySem.F.called_set.init.bind (.ref s.heap.objs.size)
   repeat (any_goals (first|assumption|wp_step))
   refine cU (eI (R:=wants (λr s₂=>r=.none/\∃h' tk xs,s₂={s with heap:=h',toks:=tk}/\a0a prog w a h' s.heap.objs.size xs/\Came d items.size xs /\
     (∀b o,b<s.heap.objs.size->s.heap.get? b=some o->h'.get? b=some o)) E) PySem.F.called_set.init.plain PySem.F.entry_set_init (check_set_init_1 hT ?_)) λr₂ s₂ hr₂=>?_
   .obtain⟨ol,hol,hcl,nl,hdl⟩:=hl;obtain⟨X,m,L,f⟩:=ol;simp only at hcl hdl;subst hcl;subst hdl;have u:(s.heap.push {cls:=.type "set",dict:=none,data:=.set #[] 0 (.fresh 0 0 a)}).get? l=some {cls:=.type "tuple",dict:=m,data:=.seq items nl,slots:=f}:=ae _ hol;have V:=a3P;have U:=a0v;have a4:(Value.type "tuple"==Value.type "dict")=false:=by decide
    have p:(s.heap.push {cls:=.type "set",dict:=none,data:=.set #[] 0 (.fresh 0 0 a)}).IsTuple l items:=⟨_,u,rfl,nl,rfl⟩;unfold Builtin.«set.__init__» noKeywords Builtin.Frozenset.updateFrom;generalize C:pyIter=PI
    wp_walk
    subst C;refine wpAny_pyIter_tuple p ?_;refine aa (wpAny_runValue ?_);have q:l<s.heap.objs.size:=aI hol;have H:A.in1.in1.in1.handled=none:=by simp[hh]
    have t:l≠(s.heap.push {cls:=.type "set",dict:=none,data:=.set #[] 0 (.fresh 0 0 a)}).objs.size:=by
     rw[bq];exact aV (bZ q)
    have D:s.heap.objs.size∉[(s.heap.push {cls:=.type "set",dict:=none,data:=.set #[] 0 (.fresh 0 0 a)}).objs.size,l]:=by
     rw[bq];simp only[az,aP,bu,cx,not_or];exact⟨aV (bS _),cK q⟩
    have n:((s.heap.push {cls:=.type "set",dict:=none,data:=.set #[] 0 (.fresh 0 0 a)}).push {cls:=.type "tuple_iterator",data:=.fields #[.ref l,.int 0 0]}).get? s.heap.objs.size
       = some {cls:=.type "set",dict:=none,data:=.set #[] 0 (.fresh 0 0 a)}:=ae _ P
    refine a6o (ld:=a) (h0:=s.heap) ((Walks.tuple H _ l t items).toS) s.heap.objs.size D (λb o e=>?_) d z y hn (show A.units+2+10<cLine by omega) (items.size-0) 0 _ [] (by omega) (br _)
     ⟨⟨_,aC _ rfl,rfl,rfl⟩,(p.push _)⟩ (λb o e=>ae _ (ae _ e)) (a4t n) ⟨ak _,fc,(λx hx=>nomatch hx),λj hj=>absurd hj (Nat.not_lt_zero j)⟩ ?hR
    .have:=aI e;rw[bq];simp only[az,bu,cx];exact⟨aV (bZ this),aV this⟩
    case hR =>
     intro s' O B k g;obtain⟨h',g',Y,N,M⟩:=s';have eg:g'=s.gens:=B.gens;have Z:Y=s.drawn:=B.drawn;have eo:M=s.os:=B.os;subst eg;subst Z;subst eo;show wpAny _ _ _ _ _ _;refine ai ?_;show wpAny _ _ (ret Value.none) _ _ _;refine ai ⟨rfl,h',N,O,rfl,k,g,λb o S e=>?_⟩;have F:b≠s.heap.objs.size:=aV S;have G:b≠(s.heap.push {cls:=.type "set",dict:=none,data:=.set #[] 0 (.fresh 0 0 a)}).objs.size:=by
      rw[bq];exact aV (bZ S)
     exact B.heap b o (by simp only[az,aP,bu,cx,not_or];exact⟨F,G⟩) (ae _ (ae _ e))
   .cases r₂ with
    |error e=>exact hr₂
    |ok fl₂ =>
     cases fl₂ with
     |ret r =>
      obtain⟨rfl,h',tk,xs,rfl,k,g,I⟩:=hr₂
      repeat (any_goals (first|assumption|wp_step))
      exact h _ _ _ k g I
     |_=>exact hr₂.elim
  |_=>exact K.elim
end
end Tab
end L2
namespace L2
variable {i:Nat}{it:qE}{t:SetTable}
namespace Tab
open PySem PySem.W
def a3G{α:Type}:∀(l:qA α) (i:Nat) (h:i<l.length),([l[i]]++l.eraseIdx i).Perm l
 |x::l,0,_=>by simp
 |x::l,i+1,h=>by
  have a:=a3G l i (by simpa using h);simp only[List.getElem_cons_succ,List.eraseIdx_cons_succ,List.singleton_append];exact(List.Perm.swap x (l[i]'(by simpa using h)) _).trans (List.Perm.cons x a)
def a9z{α:Type}(next:Nat->Nat):∀(fuel k:Nat) (left:qA α) (out:Array α),left.length=fuel->(pickOrder.go next fuel k left out).toList.Perm (out.toList++left)
 |0,k,left,out,h=>by
  rw[ff.mp h,de];exact List.Perm.refl _
 |fuel+1,k,left,out,h=>by
  unfold pickOrder.go;have hi:next k % left.length<left.length:=eG _ (by omega)
  rw[aj hi];dsimp only;refine(a9z next fuel (k+1) _ _ (by rw[List.length_eraseIdx_of_lt hi];omega)).trans ?_;rw[cS,aG];exact ck _ (a3G left _ hi)
def b0B{α:Type}(next:Nat->Nat)(xs:Array α):(pickOrder next xs).toList.Perm xs.toList:=by
 have:=a9z next xs.size 0 xs.toList #[] (by simp)
 rw[show(#[]:Array α).toList=[] from rfl,b_]at this;exact this
def slot_seti_next:Slot "set_iterator" "__next__" "set_iterator.__next__" :=
 .of (owner:="set_iterator") (n:="__next__") (by rw[typeLookup_type,fM];kernel_rfl) (by decide +kernel) (by decide +kernel) (by decide +kernel)
  (by first|exact .inl (by decide +kernel)|exact .inr (by decide +kernel)) (by rw[dG];kernel_rfl)
def W9:entryFor table "set_iterator.__next__"=some Builtin.«set_iterator.__next__»:=entryFor_of_tree (by kernel_rfl)
def Z9(a:qB):argsOk "set_iterator.__next__" ⟨[a],[]⟩:=by
 unfold argsOk;kernel_rfl
def X5:Slot "set_iterator" "__iter__" "set_iterator.__iter__" :=
 .of (owner:="set_iterator") (n:="__iter__") (by rw[typeLookup_type,fM];kernel_rfl) (by decide +kernel) (by decide +kernel) (by decide +kernel)
  (by first|exact .inl (by decide +kernel)|exact .inr (by decide +kernel)) (by rw[dG];kernel_rfl)
def a3H:entryFor table "set.__iter__"=some Builtin.«frozenset.__iter__» :=
 entryFor_alias (id':="frozenset.__iter__") (by kernel_rfl) rfl (by decide +kernel) (by kernel_rfl)
structure SRaw(h:Heap)(a:qE)(es:Array (Int×qB))(ep:Nat)(t:SetTable):Prop where
 ex:∃o,h.get? a=some o/\o.ExactSet/\o.data=.set es ep t
 ok:TabOk t es
 plain:t.plain=true
section
variable {prog:qG}{w:World}{A:Around}{E:qH}{s:qC}{a:qE}{es:Array (Int×qB)}{ep:Nat}
def SRaw.typ(x:SRaw s.heap a es ep t):s.TypeIs (.ref a) "set":=let ⟨o,h1,h2,_⟩:=x.ex;⟨o,h1,h2.1⟩
def b3Z{Q:Bool->qC->Prop}(e:s.TypeIs (.ref a) "set")(h:Q false s):wpAny (model prog w) A (Builtin.List.listLengthHint (.ref a)) Q E s:=by
 unfold Builtin.List.listLengthHint;refine aa (wpAny_specialOf e PySem.F.slot_set_len.lookup ?_);generalize d:("set.__len__" : String)=f
 wp_delta
 rw[show splitId f=some ("set","__len__")from by subst d;decide +kernel];subst d;refine aa (eD (T:="set") (b:=true) e (by rw[dG];kernel_rfl) ?_);refine wpAny_ite_split (λc=>absurd c (by decide)) (λ_=>?_);refine wpAny_ite_split (λ_=>?_) (λc=>absurd (by decide +kernel) c);refine aa (fO e ?_);exact ai h
def X7(w:World)(a:qE)(ep:Nat)(es:Array (Int×qB)):Array (Int×qB):=if w.params.followText "set-order"=true then pickOrder (w.params.setOrder a ep) es else es
def ord_perm:(X7 w a ep es).toList.Perm es.toList:=by
 unfold X7;split
 .exact b0B _ _
 .exact List.Perm.refl _
def a1W(w:World)(t:SetTable):Nat->Nat
 |0=>0
 |i+1=>if w.params.followText "set-order"=true then 0 else t.place.getD i 0+1
def SetIt(w:World)(h:Heap)(it a:qE)(i n ep:Nat)(t:SetTable):Prop:=∃o,h.get? it=some o/\o.cls=.type "set_iterator"/\o.data=.fields #[rawInt (a1W w t i),rawInt i,.ref a,rawInt n,rawInt ep]
def b2r{Q:qH}(D:SRaw s.heap a es ep t)
  (q:Q (.ref s.heap.objs.size) {s with heap:=s.heap.push {cls:=.type "set_iterator",data:=.fields #[rawInt 0,rawInt 0,.ref a,rawInt es.size,rawInt ep]}}):wpAny (model prog w) A (pyIter (.ref a)) Q E s:=by
 have ty:=D.typ;obtain⟨o,b,_,c⟩:=D.ex;refine wpAny_pyIter_slot ty PySem.F.slot_set_iter (bI PySem.F.slot_set_iter ty a3H ?body (PySem.F.args_set_iter_1 _))
 case body =>
  unfold Builtin.«frozenset.__iter__» Builtin.Frozenset.slot0;refine aa (aa (ai (ai ?_)));unfold Builtin.Frozenset.sizeOf setEntries;refine aa (aa (aa (cp b c (G7 D.ok) (ai (ai ?_)))));unfold setDrawn setsByText;refine aa (aa (cp b c (G7 D.ok) ?_));dsimp only;refine aa (aa (eH (ai (ai ?_))));dsimp only;rw[aq (λz=>by
   have d:=(aJ _ _ ▸ z).2;change (!t.plain && decide (es.size > 1))=true at d;rw[D.plain]at d;cases d)]
  refine aa (ai ?_);refine aa (wpAny_setEpoch_of b c (G7 D.ok) ?_);refine aa (bY (ai ⟨_,rfl,"set_iterator",_,⟨_,aC _ rfl,rfl⟩,slot_seti_next.lookup,?_⟩));exact q
def SetIt.typ{a:qE}{n ep:Nat}(x:SetIt w s.heap it a i n ep t):s.TypeIs (.ref it) "set_iterator":=let ⟨o,h1,h2,_⟩:=x;⟨o,h1,h2⟩
def b2k(D:SRaw s.heap a es ep t)(e:w.params.followText "set-order"=false)(hi:i<=es.size):SetTable.below t.place (a1W w t i)=i:=by
 obtain⟨d,b,c⟩:=I0 D.ok.ris (a1W w t i);have f:=D.ok.size;cases i with
 |zero =>
  rcases Nat.eq_zero_or_pos (SetTable.below t.place (a1W w t 0))with z|z
  .exact z
  .have:=b 0 z;exact absurd this (Nat.not_lt_zero _)
 |succ i =>
  have hs:a1W w t (i+1)=t.place.getD i 0+1:=by
   show(if w.params.followText "set-order"=true then 0 else t.place.getD i 0+1)=_;rw[e,aq (by decide)]
  rw[hs]at d b c⊢;rcases di (SetTable.below t.place (t.place.getD i 0+1)) (i+1)with z|z|z
  .have:=c i (by omega) (by omega);omega
  .exact z
  .have h1:=b (i+1) z;have h2:=D.ok.ris i (i+1) (by omega) (by omega);omega
def a6z(D:SRaw s.heap a es ep t)(d:t.led=!w.params.followText "set-order"){Q:qD (qB×Nat)->qC->Prop}(hi:i<=es.size)
  (h:Q ((X7 w a ep es)[i]?.map λe=>(e.2,a1W w t (i+1))) s):wpAny (model prog w) A (setNext a (a1W w t i) i ep) Q E s:=by
 obtain⟨o,f,_,g⟩:=D.ex;unfold setNext setsByText;refine aa (cp f g (G7 D.ok) ?_);dsimp only;refine aa (aa (eH (ai ?_)));dsimp only;by_cases b:w.params.followText "set-order"=true
 .rw[aD (show(model prog w).w.params.followText "set-order"=true from b),aq (by simp)];unfold setWalk setsByText;refine aa (aa (cp f g (G7 D.ok) ?_));dsimp only;refine aa (aa (eH (ai ?_)));rw[aD (show(model prog w).w.params.followText "set-order"=true from b)];refine aa (eH (ai (ai ?_)));have k:∀j,a1W w t j=0:=λj=>by
   cases j with
   |zero=>rfl
   |succ j=>show(if w.params.followText "set-order"=true then 0 else _)=0;rw[aD b]
  rw[k]at h⊢;unfold X7 at h;rw[aD b]at h;exact h
 .have hf':w.params.followText "set-order"=false:=by simpa using b
  rw[aq (show ¬(model prog w).w.params.followText "set-order"=true from b)];rw[aq (λz=>by
   change (!t.plain && decide (es.size > 1))=true at z;rw[D.plain]at z;cases z)]
  refine aa ?_;show wpAny _ _ (if (!t.led && !es.isEmpty)=true then _ else pure ()) _ _ _;rw[aq (by rw[d,hf'];simp)];refine ai (ai ?_);rw[b2k D hf' hi];unfold X7 at h;rw[aq b]at h;by_cases c:i<es.size
  .have hp:=a1d (xs:=t.place) (i:=i) (by rw[D.ok.size];exact c);rw[hp];have hs:a1W w t (i+1)=t.place.getD i 0+1:=by
    show(if w.params.followText "set-order"=true then 0 else t.place.getD i 0+1)=_;rw[hf',aq (by decide)]
   rw[hs]at h;rw[bM c]at h⊢;exact h
  .rw[dq (by omega)]at h⊢;exact h
def b0l{Q:qD qB->qC->Prop}(I:SetIt w s.heap it a i es.size ep t)(D:SRaw s.heap a es ep t)(d:t.led=!w.params.followText "set-order")(hi:i<es.size){v:Int×qB}(h:(X7 w a ep es)[i]?=some v)
  (q:∀h',SetIt w h' it a (i+1) es.size ep t->Heap.SameBut it s.heap h'->Q (some v.2) {s with heap:=h'}):wpAny (model prog w) A (pyNext (.ref it)) Q E s:=by
 obtain⟨j,f1,f2,b⟩:=id I;obtain⟨od,f,k,g⟩:=D.ex;unfold pyNext;refine aa (dj (bH (name:=Str.ofString "__next__") I.typ slot_seti_next (bI slot_seti_next I.typ W9 ?body (Z9 _))))
 case body =>
  unfold Builtin.«set_iterator.__next__»;refine aa (ai (aa (wpAny_fieldsOf f1 b ?_)));dsimp only[rawInt];unfold setEntries;refine aa (aa (cp f g (G7 D.ok) (ai ?_)));rw[aq (by simp)];simp only[bX];refine aa (a6z D d (cE hi) ?_);rw[h];dsimp only[Option.map];have e:(s.heap.update it (Obj.mapFields λz=>z.setIfInBounds 0 (.int (a1W w t (i+1)) 0))).get? it=some (Obj.mapFields (λz=>z.setIfInBounds 0 (.int (a1W w t (i+1)) 0)) j):=cH _ f1 (eh (cM b _));have c:=cM b (λz=>z.setIfInBounds 0 (.int (a1W w t (i+1)) 0));refine aa (dF f1 b (by simp) ?_);refine aa (dF (s:={s with heap:=_}) e c (by simp) ?_);refine ai ⟨_,rfl,ai (q _ ⟨_,cH _ e (eh (cM c _)),?_,?_⟩ ((cA ..).trans (cA ..)))⟩
  .rw[fh,fh];exact f2
  .rw[cM c];simp[rawInt]
def b2q{Q:qD qB->qC->Prop}(g:A.handled=none)(I:SetIt w s.heap it a es.size es.size ep t)(D:SRaw s.heap a es ep t)(c:t.led=!w.params.followText "set-order")
  (q:∀h',Heap.ExtBut it s.heap h'->Q none {s with heap:=h'}):wpAny (model prog w) A (pyNext (.ref it)) Q E s:=by
 obtain⟨j,f1,f2,d⟩:=id I;obtain⟨od,e,i,f⟩:=D.ex;unfold pyNext;refine aa (dj (bH (name:=Str.ofString "__next__") I.typ slot_seti_next (bI slot_seti_next I.typ W9 ?body (Z9 _))))
 case body =>
  unfold Builtin.«set_iterator.__next__»;refine aa (ai (aa (wpAny_fieldsOf f1 d ?_)));dsimp only[rawInt];unfold setEntries;refine aa (aa (cp e f (G7 D.ok) (ai ?_)));rw[aq (by simp)];simp only[bX];refine aa (a6z D c (ak _) ?_);have h:(X7 w a ep es).size=es.size:=by rw[<-ax,ord_perm.length_eq,ax]
  rw[dq (by omega)];dsimp only[Option.map];refine aa (dF f1 d (by simp) ?_);show wpAny _ _ (newExc (.type "StopIteration") []>>=λ_=>_) _ _ _;refine aa ?_;simp only[newExc,newTuple];refine aa (bY ?_ (by size_fits));refine aa (m:=firstArgMember _ _) (wpAny_of_eq (a:=Value.none) (by first|rfl | (simp only[firstArgMember];rfl)) ?_);refine bY ?_ (by size_fits);simp only[raiseNew];refine aa (wpAny_handled ?_);rw[show A.in1.handled=none from g];refine aa (ai (wpAny_throw ?_));refine aa (eD (T:="StopIteration") (b:=true) ⟨_,aC _ rfl,rfl⟩ isSubtype_stop ?_);exact ai (q _ (((cA ..).extBut.push _).push _))
def SetIt.at{h h':Heap}{a:qE}{n ep:Nat}(x:SetIt w h it a i n ep t)(k:∀o,h.get? it=some o->h'.get? it=some o):SetIt w h' it a i n ep t:=let ⟨o,h1,h2⟩:=x;⟨o,k o h1,h2⟩
def SRaw.to{h h':Heap}(x:SRaw h a es ep t)(k:∀o,h.get? a=some o->h'.get? a=some o):SRaw h' a es ep t:=⟨let ⟨o,h1,h2⟩:=x.ex;⟨o,k o h1,h2⟩,x.ok,x.plain⟩
def a2i:entryFor table "set_iterator.__iter__"=some Builtin.«dict_keyiterator.__iter__» :=
 entryFor_alias (id':="dict_keyiterator.__iter__") (by kernel_rfl) rfl (by decide +kernel) (by kernel_rfl)
def a3N(a:qB):argsOk "set_iterator.__iter__" ⟨[a],[]⟩:=by
 unfold argsOk;kernel_rfl
def b0k{n:Nat}{Q:qH}(I:SetIt w s.heap it a i n ep t)(h:Q (.ref it) s):wpAny (model prog w) A (pyIter (.ref it)) Q E s:=by
 refine wpAny_pyIter_slot I.typ X5 (bI X5 I.typ a2i ?_ (a3N _));show wpAny _ _ (ret (.ref it)) _ _ s;exact ai ⟨_,rfl,"set_iterator",_,I.typ,slot_seti_next.lookup,h⟩
def b3e:(X7 w a ep es).size=es.size:=by rw[<-ax,ord_perm.length_eq,ax]
def b0m(p:A.handled=none)(J:qE)(j:a≠J)(g:t.led=!w.params.followText "set-order") :
  Walks prog w A J [J,a] [J] es.size (λi v=>∃e,(X7 w a ep es)[i]?=some e/\v=e.2) (λi h=>SetIt w h J a i es.size ep t/\SRaw h a es ep t) where
 sub:=λb d=>by rw[aP.mp d];exact ao
 frame:=λi h h' st k=>⟨st.1.at λo e=>k J ao o e,st.2.to λo e=>k a (ar _ ao) o e⟩
 item:=λi s Q E hi st c=>by
  have f:i<(X7 w a ep es).size:=by rw[b3e];exact hi
  exact b0l st.1 st.2 g hi (bM f) λh' m l=>c _ h' s.toks ⟨_,bM f,rfl⟩ ⟨m,st.2.to λo e=>l.extBut a o j e⟩ λb o d e=>l.extBut b o (λz=>d (by rw[z];exact ao)) e
 done:=λs Q E st c=>b2q p st.1 st.2 g λh' n=>c h' s.toks λb o d e=>n b o (λz=>d (by rw[z];exact ao)) e
 self:=λ_ _ _ _ st c=>b0k st.1 c
def SRaw.lt{h:Heap}(x:SRaw h a es ep t):a<h.objs.size:=let ⟨_,h1,_⟩:=x.ex;aI h1
def b4Z(b:t.led=!w.params.followText "set-order"):KdlSrc prog w "set" a a es.size (λi v=>∃e,(X7 w a ep es)[i]?=some e/\v=e.2) (λh=>SRaw h a es ep t) where
 type:=λ_ D=>D.typ
 there:=λ_ D=>⟨D.lt,D.lt⟩
 keep:=λ_ _ D d=>D.to λo e=>d a (.inl rfl) o e
 notList:=by decide
 notTuple:=by decide
 hint:=λ_ _ _ _ D q=>b3Z D.typ q
 iter:=λ_ _ c D=>⟨_,_,λ_ _ q=>b2r D q,b0m c _ (aV D.lt) b,⟨⟨_,aC _ rfl,rfl,rfl⟩,D.to λo e=>ae _ e⟩⟩
end
end Tab
end L2
namespace L2
open PySem PySem.Spec PyProof.Rows PySem.W Tab
def a5o(P:qG)(w:World)(a:qE)(xs:qA (qI×qE)):HO:=.ext λh=>∃es ep t,SRaw h a es ep t/\es.toList.Perm (xs.map (Tab.ent P w))/\t.led=!w.params.followText "set-order"
def b6V{P:qG}{w:World}{H:Hp}{h:Heap}(ok:HOk P w H h){r:qI}{b:qE}(x:IT H (.ref b) r):TK P w h r b:=by
 obtain⟨a,e,q⟩:=x;cases e;obtain⟨_,its,c,o,h1,h2,n,d⟩:=(show ObjOk P w H h b (.tup (r.map V.int))from ok b _ q);refine⟨o,its.toArray,n,h1,h2,d,?_⟩;have:∀{r:qI}{its:qA qB},Vals (r.map V.int) its->ItemsAre (intKind P w) r its:=by
  intro r;induction r with
  |nil=>intro its c;cases c;exact .nil
  |cons x r f =>
   intro its c;cases c with
   |cons h t =>
    obtain⟨tk,rfl⟩:=h;exact .cons (intKind_is _ _ _ _) (f t)
 simpa using this c
def b7c(K:qF)(P:qG)(w:World):RL:=λys H Q=>∃(k:Bool) (p:qE) (vs:qA V) (rss:LLI),ys=[.ref p]/\SqK k K H p vs/\Its H vs rss/\vs.length<=1000 /\
 ∀a xs,H a=none->(xs.map (·.1)).Nodup->(∀r,r∈xs.map (·.1)↔r∈rss)->(∀x∈xs,IT H (.ref x.2) x.1)->Q (.ref a) (upd H a (a5o P w a xs))
def b2E(P:qG)(w:World):RL:=λys H Q=>∃(a:qE) (xs:qA (qI×qE)),ys=[.ref a]/\H a=some (a5o P w a xs)/\(∀x∈xs,IT H (.ref x.2) x.1)/\(∀x∈xs,0<x.1.length)/\xs.length<=1000 /\
 ∀l zs tss,H l=none->Its H zs tss->tss.Perm (xs.map (·.1))->E2 tss->Q (.ref l) (upd H l (.lst zs))
section
variable {X:Cx}
def b1v(K:qF)(P:qG)(w:World)(hu:X.A.units+60<cLine)(hc:X.calm=true)(hK:X.K=K:=by rfl)(hP:X.prog=P:=by rfl)(hw:X.w=w:=by rfl):D6 X (.type "set") (b7c K P w):=by
 subst hK hP hw;intro qK s σ H ys us Q I rv h;obtain⟨k,p,vs,l,rfl,T,R,hn,q⟩:=h;obtain⟨u,rfl,E⟩:=rv.one;cases E;have S:X.A.handled=none:=I.ok.hd hc;have step:∀(its:qA qB),Vals vs its->∀(h':Heap) (tk:Nat) (xs:qA (qI×qE)) (c:Nat->qI×qE),(∀i,i<its.toArray.size->l[i]?=some (c i).1/\IT H (.ref (c i).2) (c i).1) ->
   a0a X.prog X.w (!X.w.params.followText "set-order") h' s.heap.objs.size xs->Came c its.toArray.size xs->(∀b o,b<s.heap.objs.size->s.heap.get? b=some o->h'.get? b=some o)->EP X qK σ Q (.ref s.heap.objs.size) {s with heap:=h',toks:=tk}:=by
  intro its r h' tk xs c d y m B;obtain⟨o,es,ep,t,O,U,V,W,Y,Z,e7,e8,e9⟩:=y;have C:its.toArray.size=l.length:=by rw[<-R.1,r.length];simp
  have G:H s.heap.objs.size=none:=I.hok.fresh (ak _);have F:∀x∈xs,IT H (.ref x.2) x.1:=λx L=>by
   obtain⟨j,n,rfl⟩:=m.from_ x L;exact(d j n).2
  refine⟨.ref s.heap.objs.size,_,I.laid (h':=h') (a:=s.heap.objs.size) (o:=a5o X.prog X.w s.heap.objs.size xs) (t':=tk) (λb o e=>B b o (aI e) e) (ak _) ⟨⟨es,ep,t,⟨⟨o,O,U,V⟩,Y,Z⟩,W,e9⟩,⟨o,O⟩,λh1 h2 ⟨es,ep,t,q1,q2⟩ kk=>⟨es,ep,t,q1.to kk,q2⟩⟩,rfl,q _ xs G m.nd (λr=>?_) F⟩;constructor
  .intro hr;obtain⟨x,L,rfl⟩:=aT.mp hr;obtain⟨j,n,rfl⟩:=m.from_ x L;exact aA (d j n).1
  .intro hr;obtain⟨j,n⟩:=cm.mp hr;have A:j<its.toArray.size:=by rw[C];exact(aK.mp n).1
   have h1:=(d j A).1;rw[n]at h1;injection h1 with h1
   rw[h1];exact m.all j A
 have f:∀(its:qA qB),Vals vs its->∃c:Nat->qI×qE,(∀i v,i<its.toArray.size->its.toArray[i]?=some v->v=.ref (c i).2)/\∀i,i<its.toArray.size->l[i]?=some (c i).1/\IT H (.ref (c i).2) (c i).1:=by
  intro its r;have g:∀i,∃x:qI×qE,i<its.toArray.size->(∀v,its.toArray[i]?=some v->v=.ref x.2)/\l[i]?=some x.1/\IT H (.ref x.2) x.1:=λi=>by
   by_cases hi:i<its.toArray.size
   .have hi':i<vs.length:=by rw[r.length];simpa using hi
    obtain⟨u,eu,E⟩:=r.get (aj hi');obtain⟨N,er,b,eb,hb⟩:=R.2 i _ (aj hi');rw[eb]at E;cases E;refine⟨(N,b),λ_=>⟨λv J=>?_,er,b,rfl,hb⟩⟩;have:its[i]?=some v:=by simpa using J
    rw[eu]at this;injection this with this
    exact this.symm
   .exact⟨([],0),λz=>absurd z hi⟩
  exact⟨λi=>Classical.choose (g i),λi v hi J=>(Classical.choose_spec (g i) hi).1 v J,λi hi=>(Classical.choose_spec (g i) hi).2⟩
 cases k
 .obtain⟨its,r,pl,hz⟩:=I.list T;obtain⟨c,M,D⟩:=f its r;exact a4f S pl.isList M (λi hi=>b6V I.hok (D i hi).2) (by have:=r.length;simp;omega) (by omega) λh' tk xs y m B=>step its r h' tk xs c D y m B
 .obtain⟨its,r,pl,hz⟩:=I.tuple T;obtain⟨c,M,D⟩:=f its r;exact a3J S pl M (λi hi=>b6V I.hok (D i hi).2) (by have:=r.length;simp;omega) (by omega) λh' tk xs y m B=>step its r h' tk xs c D y m B
def a8F(P:qG)(w:World)(hc:X.calm=true)(hP:X.prog=P:=by rfl)(hw:X.w=w:=by rfl):D6 X (.builtin "sorted") (b2E P w):=by
 subst hP hw;intro qK s σ H ys us Q I rv h;obtain⟨a,xs,rfl,ha,M,S,hn,q⟩:=h;obtain⟨u,rfl,ru⟩:=rv.one;cases ru;obtain⟨⟨es,ep,t,D,A,N⟩,_⟩:=(show ObjOk X.prog X.w H s.heap a (a5o X.prog X.w a xs)from I.hok _ _ ha);obtain⟨d,J,te⟩:=O3 (f:=Tab.ent X.prog X.w) ((ord_perm (w:=X.w) (a:=a) (ep:=ep)).trans A) rfl;have B:∀x∈d,x∈xs:=λx C=>J.mem_iff.mp C;have g:es.size=d.length:=by rw[<-ax,A.length_eq,ag,J.length_eq]
 have L:Its H (d.map λx=>V.ref x.2) (d.map (·.1)):=⟨by rw[ag,ag],λi v e=>by
  rw[aN]at e⊢;cases l:d[i]? with
  |none=>rw[l]at e;cases e
  |some x =>
   rw[l]at e;cases e;exact⟨x.1,rfl,M x (B x (aA l))⟩⟩
 have W:Vals (d.map λx=>V.ref x.2) (d.map λx=>Value.ref x.2):=a1n (λx:qI×qE=>x.2) d;have hz:(1000:Nat)<=sizeLine:=by rw[aX];decide
 have a1:d.length<=1000:=by rw[J.length_eq];exact hn
 have z:∀(Y:qH) (K:qA qB->qC->Prop),(∀(h1:Heap) (tk:Nat),(∀b o,s.heap.get? b=some o->h1.get? b=some o)->K (d.map λx=>Value.ref x.2) {s with heap:=h1,toks:=tk})->wpAny (model X.prog X.w) X.A.in1 (collect (.ref a)) K Y s:=λY K k=>by
  refine kdu_collect (b4Z N) (show X.A.in1.handled=none from I.ok.hd hc) D (by omega) λh' tk j kp m=>?_;have:j.toList=d.map λx=>Value.ref x.2:=by
   refine fk λi=>?_;rw[av,aN];by_cases hi:i<d.length
   .have hia:i<j.size:=by rw[m.1,g];exact hi
    obtain⟨e,G,R⟩:=m.2 i j[i] (by simp[hia]);rw[<-av,<-te,aN,aj hi]at G;injection G with G
    rw[bM hia,aj hi,R,<-G];rfl
   .rw[dq (by rw[m.1,g];omega),cI (by omega)];rfl
  rw[this];exact k h' tk kp
 have hl:=W.length;have TT:=a3t I L W;obtain⟨T,t1,t2,t3,t4⟩:=a0c W L.1;refine X0 z TT (λr hr=>by obtain⟨x,C,rfl⟩:=aT.mp hr;exact S x (B x C)) (by rw[ag];omega) λh1 h' os c tk k1 k2 e hp hs=>?_;obtain⟨n,p1,p2⟩:=O3 (f:=λt:qB×V×qI=>t.1) hp t1.symm;have Z:=I.kept (t':=tk) k1;have F:∀t∈n,RelV t.2.1 t.1/\IT H t.2.1 t.2.2/\G2 s.heap t.1=t.2.2:=λt O=>by
  obtain⟨i,hi⟩:=cm.mp (p1.mem_iff.mp O);obtain⟨r1,r2,r3⟩:=t4 i t hi;obtain⟨a2,q1,q2⟩:=L.2 i _ r2;rw[r3]at q1;cases q1;have e5:(d.map λx=>Value.ref x.2)[i]?=some t.1:=by rw[<-t1,aN,hi];rfl
  obtain⟨r',b,a0,f1,f2,f3,f4⟩:=TT.2 i _ e5;rw[r3]at f1;cases f1;exact⟨r1,q2,by rw[f2];exact D7 f3 f4⟩
 have U:(n.map (·.2.1)).length<=sizeLine:=by
  have e6:=(p1.map (λt:qB×V×qI=>t.2.1)).length_eq;rw[t2]at e6;simp only[ag]at e6⊢;omega
 have R:Vals (n.map (·.2.1)) os:=by rw[<-p2];exact Q7 λt O=>(F t O).1
 have I2:=Z.laid (h':=h') (a:=h1.objs.size) (o:=.lst (n.map (·.2.1))) (t':=tk) k2 (ak _) ⟨U,os,c,R,e⟩;refine⟨.ref h1.objs.size,_,I2,rfl,q _ _ (n.map (·.2.2)) (Z.hok.fresh (ak _)) ⟨by rw[ag,ag],λi v p=>?_⟩ (by have:=p1.map (λt:qB×V×qI=>t.2.2);rw[t3]at this;exact this.trans (J.map _)) ?_⟩
 .rw[aN]at p⊢;cases l:n[i]? with
  |none=>rw[l]at p;cases p
  |some t =>
   rw[l]at p;cases p;exact⟨t.2.2,rfl,(F t (aA l)).2.1⟩
 .unfold E2;rw[cn];rw[<-p2,cn]at hs;refine hs.imp_of_mem λ{x y} C hy E=>?_;rw[(F x C).2.2,(F y hy).2.2]at E;exact E
variable {e:Expr}{es:qA Expr}{t:TA}{p pos:Pos}
def b6q(K:qF)(P:qG)(w:World)(j:X.A.units+60<cLine)(h:Gl X "set")(i:X.mg "set"=none)(d:JA X (e::es) t)(f:X.calm=true:=by rfl)(b:X.K=K:=by rfl)(c:X.prog=P:=by rfl)(hw:X.w=w:=by rfl)(g:starEach (e::es) X.env=(false,eval e X.env)::starEach es X.env:=by rfl)(a:(backTo pos (starEach es X.env)).any (·.1)=false:=by rfl):JE X (.Call (.Name "set" p) (e::es) [] pos) (tCB (b7c K P w) t):=⟨L0 (b1v K P w j f b c hw) h i b9q d.h (by decide) (by decide) g a⟩
def b3Q(P:qG)(w:World)(g:Gl X "sorted")(h:X.mg "sorted"=none)(c:JA X (e::es) t)(d:X.calm=true:=by rfl)(b:X.prog=P:=by rfl)(hw:X.w=w:=by rfl)(f:starEach (e::es) X.env=(false,eval e X.env)::starEach es X.env:=by rfl)(a:(backTo pos (starEach es X.env)).any (·.1)=false:=by rfl):JE X (.Call (.Name "sorted" p) (e::es) [] pos) (tCB (b2E P w) t):=⟨G4 (a8F P w d b hw) g h a1G c.h (by decide) (by decide) f a⟩
end
end L2
namespace L2
open PySem PySem.Spec PyProof.Rows
variable {H:Hp}{X:Cx}{n:Nat}{r:qI}{rss:LLI}{xs:qA V}
def a3o:typeLookup (.type "list") "keys"=pure none:=by rw[typeLookup_type,fM];kernel_rfl
def a4M:entryFor table "dict.update.loop"=some Builtin.«dict.update.loop»:=entryFor_of_tree (by kernel_rfl)
def a0l:plainId "dict.update.loop"=true:=by decide +kernel
section
variable {prog:qG}{w:World}{A:Around}{E:qH}{s:qC}
def b6d{a:qE}{o:Obj}{xs:Array qB}{k:Nat}{Q:qD qB->qC->Prop}
  (q:s.heap.get? a=some o) (p:o.cls=.type "list") (f:o.data=.seq xs k) (hd:o.dict=none) (v:A.handled=none)
  (h:∀h' tk,(∀b r,s.heap.get? b=some r->h'.get? b=some r)->Q none {s with heap:=h',toks:=tk}):wpAny (model prog w) A (getAttr? (.ref a) "keys") Q E s:=by
 obtain⟨c,u,t,sl⟩:=o;simp only at p f hd;subst p f hd;obtain⟨x,g,d,tk,os⟩:=s;have n:∀l,(⟨x,g,d,l,os⟩:qC).TypeIs (.ref a) "list":=λ_=>⟨_,q,rfl⟩;have f1:=sub_AttributeError;have y:=PySem.F.slot_list_getattribute.lookup;have z:=PySem.F.slot_list_getattribute.bind (.ref a);have B:=am_list_getattr_none;have m:(Str.ofString "keys").length+100<=sizeLine:=by rw[aX];decide
 have i:(["__module__","__name__","__qualname__","__doc__","__annotations__"]:qA Str).contains "keys"=false:=by decide +kernel
 unfold getAttr? getAttrBy? getAttrBy
 repeat (any_goals (first|assumption|exact n _ | ((with_reducible show wpAny _ _ (call (Value.builtin "list.__getattribute__") _ _) _ _ _);refine dR PySem.F.slot_list_getattribute (n _) am_entry_list_getattribute (PySem.F.args_list_getattribute_2 _ _) (meets_getattribute_miss_list a xs k sl "keys" _ a3o i m) ⟨q,v,λh' l e j=>?_⟩)|wp_step))
 obtain⟨t',D,C⟩:=j.there;show wpAny _ _ (getattributeRaised _ _ _ _ _ _ _) _ _ _;unfold getattributeRaised
 repeat (any_goals (first|assumption|wp_step))
 exact h _ _ j.keeps
def a7g{h h':Heap}{ks:qA Key}{a:qE}(k:∀b o,h.get? b=some o->h'.get? b=some o)(x:(tupleKind (C0 prog w)).is h ks a):(tupleKind (C0 prog w)).is h' ks a:=by
 obtain⟨o,its,n,h1,r⟩:=x;exact⟨o,its,n,k _ _ h1,r⟩
def b7E(prog:qG)(w:World)(h:Heap)(d:qE)(xs:qA (qA Key×qE×qB)):Prop :=
 ∃o es ep,h.get? d=some o/\o.ExactDict/\o.data=.dict es ep/\es.toList=xs.map (entryOfKey (tupleKind (C0 prog w)))/\(xs.map (·.1)).Nodup
def b4n{R:Result->qC->Prop}{s0:Heap}{d it l:qE}{items:Array qB}(h:d≠it)(K:s0.get? d=none)(m:s0.get? it=none)(W:s0.IsList l items)(hh:A.handled=none)(S:A.units+10<cLine)(hz:items.size<=sizeLine)
  (J:Nat->qA (qA Key×qE×qB)->Prop)
  (M:∀i,i<items.size->∃p k a v,items[i]?=some (.ref p)/\IsTup s0 p #[.ref a,v]/\(tupleKind (C0 prog w)).is s0 k a/\∀xs,J i xs->xs.length<=i/\(∀x∈xs,(tupleKind (C0 prog w)).is s0 x.1 x.2.1)/\J (i+1) (storedH xs k a v)) :
  ∀(n i:Nat) (s:qC) (xs:qA (qA Key×qE×qB)),items.size-i=n->i<=items.size->(∀b o,s0.get? b=some o->s.heap.get? b=some o)->s.heap.IsListIter it l i->b7E prog w s.heap d xs->J i xs ->
  (∀h' tk g,(∀b o,s0.get? b=some o->h'.get? b=some o)->b7E prog w h' d g->J items.size g->R (.ok (.ret .none)) {s with heap:=h',toks:=tk}) ->
  codeAny (model prog w) A (.builtin "dict.update.loop" ⟨[.ref d,.ref it,rawInt i,.none],[]⟩) R s:=by
 intro n;induction n with
 |zero =>
  intro i s xs hn hi q c F N hR;have L:i=items.size:=by omega
  subst L;refine dh a4M ?_;rw[dD a0l _];show wpAny _ A.in1 (pyNext (.ref it)>>=_) _ _ s;have j:s.heap.IsList l items:=let ⟨o,h1,h2⟩:=W;⟨o,q _ _ h1,h2⟩
  refine aa (wpAny_pyNext_list_end hh c j (by simp) λh' V=>?_);show wpAny _ _ (Builtin.Dict.addKeywords d []>>=_) _ _ _;refine aa (ai (ai ?_));obtain⟨o,es,ep,D,E⟩:=F;exact hR h' s.toks xs (λb X e=>V b X (λz=>by rw[z,m]at e;cases e) (q b X e)) ⟨o,es,ep,V _ _ h D,E⟩ N
 |succ n ih =>
  intro i s xs hn hi q c F N hR;have r:i<items.size:=by omega
  obtain⟨p,k,a,v,hp,hT,hK,I⟩:=M i r;obtain⟨a0,T,I⟩:=I xs N;refine dh a4M ?_;rw[dD a0l _];show wpAny _ A.in1 (pyNext (.ref it)>>=_) _ _ s;have j:s.heap.IsList l items:=let ⟨o,h1,h2⟩:=W;⟨o,q _ _ h1,h2⟩
  refine aa (wpAny_pyNext_list_item c j hp λh1 U u=>?_);have f:∀b o,s0.get? b=some o->h1.get? b=some o:=λb o e=>u.extBut b o (λz=>by rw[z,m]at e;cases e) (q b o e);obtain⟨o,es,ep,D,E,g3,g4,g5⟩:=F;have G:h1.DictOfH (tupleKind (C0 prog w)) d xs:=⟨o,es,ep,u.extBut _ _ h D,E,g3,g4,λx hx=>a7g f (T x hx),g5⟩;obtain⟨op,t,P,np,Q⟩:=hT;show wpAny _ A.in1 (holding [.ref p] _>>=_) _ _ _;refine aa (bW (aa (wpAny_tryCatch ?_)));unfold Builtin.Dict.pairItems;refine aa (fO (s:={s with heap:=h1}) ⟨op,f _ _ t,P⟩ ?_);rw[aD (by decide)];refine aa (cF (s:={s with heap:=h1}) (f _ _ t) Q (ai ?_));show wpAny _ _ (holding [.ref a,v] (dictSet d (.ref a) v)) _ _ _;refine bW (wpAny_dictSet_heap (s:={s with heap:=h1}) (knd:=tupleKind (C0 prog w)) (hsz:=by omega) (show A.units+1<cLine by omega) (a7g f hK) G λh2 H y=>?_);refine ai ⟨plainId_quiet a0l _,?_⟩;have O:∀b o,s0.get? b=some o->h2.get? b=some o:=λb o e=>y.extBut b o (λz=>by rw[z,K]at e;cases e) (f b o e);obtain⟨o',C,B,q1,q2,q3,q4,_,q5⟩:=H;exact ih (i+1) _ _ (by omega) r O (U.extBut y.extBut (dv h)) ⟨o',C,B,q1,q2,q3,q4,q5⟩ I λh' tk g Y Z e3=>hR h' tk g Y Z e3
end
def PrT(H:Hp)(ps:qA V)(rss:LLI):Prop:=ps.length=rss.length/\∀(i:Nat) (q:V),ps[i]?=some q->∃(r:qI) (b:qE) (v y:V),rss[i]?=some r/\q=.ref b/\H b=some (.tup [v,y])/\IT H v r
def PrT.same{H H':Hp}{ps:qA V}{rss:LLI}(h:PrT H ps rss)(s:Same H H'):PrT H' ps rss :=
 ⟨h.1,λi q e=>let ⟨r,b,v,y,e1,e2,e3,e4⟩:=h.2 i q e;⟨r,b,v,y,e1,e2,s _ _ e3,e4.same s⟩⟩
def PrT.nil:PrT H [] []:=⟨rfl,λi q e=>by simp at e⟩
def PrT.snoc{ps:qA V}{b:qE}{v y:V}(h:PrT H ps rss)(c:H b=some (.tup [v,y]))(d:IT H v r):PrT H (ps++[.ref b]) (rss++[r]):=by
 refine⟨by simp[h.1],λi q e=>?_⟩;rw[List.getElem?_append]at e;rw[List.getElem?_append,<-h.1];split at e
 .rename_i hi;rw[aD hi];exact h.2 i q e
 .rename_i hi;rw[aq hi];cases a:i-ps.length with
  |zero =>
   rw[a]at e;cases e;exact⟨r,b,v,y,rfl,rfl,c,d⟩
  |succ j=>rw[a]at e;simp at e
def a2u(r:qI):(r.map (Sum.inl:Int->Key)).map kV=r.map V.int:=by
 rw[cN];rfl
def b9e{qL:qA (qA Key×V)}(f:qL.map (·.1)=IK rss)(g:r∉rss):T8 qL (r.map Sum.inl)=none:=by
 rw[<-Option.not_isSome_iff_eq_none,Bool.not_eq_true,<-T7,dX];intro d c e;have e:=bE e;have:d.1∈IK rss:=by rw[<-f];exact aT.mpr ⟨d,c,rfl⟩
 obtain⟨h,h1,h2⟩:=aT.mp this;rw[e]at h2;have inj:∀{a b:qI},a.map (Sum.inl:Int->Key)=b.map Sum.inl->a=b:=λ{a b} z=>by
  have:=aL (List.map kV) z;rw[a2u,a2u]at this;exact map_int_inj.mp this
 exact g (inj h2 ▸ h1)
section
variable {e:Expr}{es:qA Expr}{t:TA}{p pos:Pos}
end
structure Onc(mss rss:LLI):Prop where
 nd:mss.Nodup
 mem:∀r,r∈mss↔r∈rss
 le:mss.length<=rss.length
def Onc.new{c:LLI}(h:Onc c rss)(g:r∉c):Onc (c++[r]) (rss++[r]):=by
 refine⟨fq.mpr ⟨h.nd,by simp,λa d b f e=>?_⟩,λq=>?_,?_⟩
 .rw[aP.mp f]at e;rw[e]at d;exact g d
 .rw[ay,ay,h.mem]
 .rw[au,au];have:=h.le;show _+1<=_+1;omega
def Onc.old{a:LLI}(h:Onc a rss)(b:r∈a):Onc a (rss++[r]):=by
 refine⟨h.nd,λq=>?_,?_⟩
 .rw[ay,aP,h.mem];exact⟨.inl,λz=>z.elim id λe=>by rw[e];exact(h.mem r).mp b⟩
 .rw[au];have:=h.le;omega
def b2J:RL:=λxs H Q=>∃(l:qE) (ps:qA V) (rss:LLI),xs=[.ref l]/\H l=some (.lst ps)/\PrT H ps rss/\∀d qL mss,H d=none->qL.map (·.1)=IK mss->Onc mss rss->Q (.ref d) (upd H d (.dT qL))
section
def a8J(hu:X.A.units+60<cLine)(hc:X.calm=true):D6 X (.type "dict") b2J:=by
 intro qK s σ H xs us Q I rv h;obtain⟨l,ps,g,rfl,hl,hP,q⟩:=h;obtain⟨u,rfl,M⟩:=rv.one;cases M;obtain⟨hz,its,n,r,e⟩:=(show ObjOk X.prog X.w H s.heap l (.lst ps)from I.hok _ _ hl);have hh:X.A.handled=none:=I.ok.hd hc;have J:its.toArray.size=ps.length:=by simpa using r.length.symm
 have D:sysModules<s.heap.objs.size:=ei (by decide) (I.mod.glob.keeps I.bk).lt;refine callType_codes (Q₁:=λobj s₁=>obj=.ref s.heap.objs.size/\s₁={s with heap:=s.heap.push {cls:=.type "dict",data:=.dict #[]}}) PySem.F.kt_called_dict (PySem.F.kt_typeCall_dict_1 _) PySem.F.entry_dict_init (kt_code_dict_new _ ⟨rfl,rfl⟩) ?_;rintro obj s₁ ⟨rfl,rfl⟩;have L:(s.heap.push {cls:=.type "dict",data:=.dict #[]}).get? s.heap.objs.size=some {cls:=.type "dict",data:=.dict #[]}:=aC _ rfl;have k0:∀b o,s.heap.get? b=some o->(s.heap.push {cls:=.type "dict",data:=.dict #[]}).get? b=some o:=λb o e=>ae _ e;generalize s.heap.push {cls:=.type "dict",data:=.dict #[]}=h0 at L k0;refine⟨⟨_,L,rfl⟩,PySem.F.args_dict_init_2 _ _,?_⟩;unfold Builtin.«dict.__init__»;refine aa ?_;unfold Builtin.Dict.selfAndRest;refine aa (wpAny_notOrdered_dict ⟨_,L,rfl⟩ ?_);show wpAny _ _ (pure (s.heap.objs.size,[Value.ref l])) _ _ _;refine ai ?_;show wpAny _ _ (Builtin.Dict.updateFrom "dict.__init__" s.heap.objs.size (.ref l) [] .none) _ _ _;unfold Builtin.Dict.updateFrom;refine aa (fO (s:={s with heap:=h0}) ⟨_,k0 _ _ e,rfl⟩ ?_);rw[aD (by decide)];refine aa (b6d (s:={s with heap:=h0}) (k0 _ _ e) rfl rfl rfl hh λh1 K k1=>?_);rw[aD (show(none:qD qB).isNone=true from rfl)];refine aa (fR ?_);have B:∀b o,s.heap.get? b=some o->h1.get? b=some o:=λb o e=>k1 _ _ (k0 _ _ e);refine aa (fg (s:={s with heap:=h1,toks:=K}) ⟨_,B _ _ e,rfl,n,rfl⟩ ?_);have O:(h1.push {cls:=.type "list_iterator",data:=.fields #[.ref l,.int 0 0]}).IsListIter h1.objs.size l 0:=⟨_,aC _ rfl,rfl,rfl⟩;have k2:∀b o,h1.get? b=some o->(h1.push {cls:=.type "list_iterator",data:=.fields #[.ref l,.int 0 0]}).get? b=some o:=λb o e=>ae _ e;have W:=k1 _ _ L;refine ai ⟨plainId_quiet a0l _,?_⟩;refine b4n (prog:=X.prog) (w:=X.w) (A:=X.A.in1) (s0:=s.heap) (l:=l) (items:=its.toArray) (aV (aI W)) ?_ ?_ ⟨_,e,rfl,n,rfl⟩ hh (show X.A.units+1+10<cLine by omega) (by omega)
  (λi xs=>∃qL d,KT H qL xs/\qL.map (·.1)=IK d/\Onc d (g.take i)) (λi hi=>?_) _ 0 {s with heap:=h1.push {cls:=.type "list_iterator",data:=.fields #[.ref l,.int 0 0]},toks:=K} [] rfl (br _) (λb o e=>k2 _ _ (B _ _ e)) O ⟨{cls:=.type "dict",data:=.dict #[]},#[],0,k2 _ _ W,⟨rfl,rfl,rfl⟩,rfl,rfl,fc⟩ ⟨[],[],.nil,rfl,⟨.nil,λ_=>Iff.rfl,ak _⟩⟩ λh' tk U e1 e2 ⟨qL,d,e3,Y,N⟩=>?_
 .cases z:s.heap.get? s.heap.objs.size with
  |none=>rfl
  |some o=>exact absurd (aI z) (bV _)
 .cases z:s.heap.get? h1.objs.size with
  |none=>rfl
  |some o=>exact absurd (aI (B _ _ z)) (bV _)
 .have hi':i<ps.length:=by omega
  obtain⟨u,eu,M⟩:=r.get (aj hi');obtain⟨f,b,v,y,er,eb,hb,a,rfl,ha⟩:=hP.2 i _ (aj hi');rw[eb]at M;cases M;obtain⟨_,a0,r2,P⟩:=(show ObjOk X.prog X.w H s.heap b (.tup [.ref a,y])from I.hok _ _ hb);obtain⟨u1,u2,rfl,S,T⟩:=r2.two;cases S;refine⟨b,f.map Sum.inl,a,u2,by simpa using eu,P,a1x I.hok (by rw[a2u];exact ha),?_⟩;rintro xs ⟨qL,d,R,F,j⟩;have G:xs.length=d.length:=by
   have h1:=Paired.length R;have h2:=aL List.length F;rw[IK,ag,ag]at h2;omega
  refine⟨by rw[G];exact a_ j.le (bt _ _),λx k=>?_,a0w qL (f.map Sum.inl) y,if f∈d then d else d++[f],R.put _ (by rw[a2u];exact ha) T,?_⟩
  .have all:∀{l:qA (qA Key×V)}{m:qA (qA Key×qE×qB)},KT H l m->∀x∈m,(tupleKind (C0 X.prog X.w)).is s.heap x.1 x.2.1:=by
    intro l m q;induction q with
    |nil=>intro x k;exact nomatch k
    |@cons p q ps qs hq t ih =>
     intro x k;rcases az.mp k with e|k
     .subst e;exact a1x I.hok (by rw[<-hq.1];exact hq.2.1)
     .exact ih x k
   exact all R x k
  .have et:g.take (i+1)=g.take i++[f]:=by rw[bf,er];rfl
   rw[et];by_cases C:f∈d
   .rw[aD C,b0y _ (by rw[F];exact aT.mpr ⟨f,C,rfl⟩)];exact⟨F,j.old C⟩
   .rw[aq C,a6J _ (b9e F C),bL,F];refine⟨?_,j.new C⟩;unfold IK;rw[bL];rfl
 .have hil:ps.length=g.length:=hP.1;rw[J,hil,bx]at N;obtain⟨o,es,ep,g1,g2,g3,g4,g5⟩:=e2;have E:H s.heap.objs.size=none:=I.hok.fresh (ak _);have G:qL.length<=g.length:=by
   have h2:=aL List.length Y;rw[IK,ag,ag]at h2;rw[h2];exact N.le
  refine⟨rfl,.ref s.heap.objs.size,_,I.laid (h':=h') (a:=s.heap.objs.size) (o:=.dT qL) (t':=tk) e1 (ak _) ⟨by omega,cz.mpr (dv (aV D)),U,e3.keeps λc ys Z=>?_,o,es,ep,g1,g2,g3,g4,g5⟩,rfl,q _ qL d E Y N⟩;rw[A2 (A5 Z E)];exact Z
variable {e:Expr}{es:qA Expr}{t:TA}{p pos:Pos}
def b3T(h:X.A.units+60<cLine)(f:Gl X "dict")(g:X.mg "dict"=none)(b:JA X (e::es) t)(c:X.calm=true:=by rfl)(d:starEach (e::es) X.env=(false,eval e X.env)::starEach es X.env:=by rfl)(a:(backTo pos (starEach es X.env)).any (·.1)=false:=by rfl):JE X (.Call (.Name "dict" p) (e::es) [] pos) (tCB b2J t):=⟨L0 (a8J h c) f g b6M b.h (by decide) (by decide) d a⟩
end
section
variable {a b:Expr}{ta tb:TE}{pos:Pos}
end
def Its.take{vs:qA V}(h:Its H vs rss)(n:Nat):Its H (vs.take n) (rss.take n):=by
 refine⟨by rw[aS,aS,h.1],λi v e=>?_⟩;rw[List.getElem?_take]at e;split at e
 .rename_i hi;obtain⟨r,a,b⟩:=h.2 i v e;exact⟨r,by rw[List.getElem?_take,aD hi];exact a,b⟩
 .cases e
def Its.app{vs b:qA V}{a:LLI}(h:Its H vs rss)(g:Its H b a):Its H (vs++b) (rss++a):=by
 refine⟨by rw[au,au,h.1,g.1],λi v e=>?_⟩;rcases fV i vs.length with hi|hi
 .rw[bw hi]at e;rw[bw (by rw[<-h.1];exact hi)];exact h.2 i v e
 .rw[ba hi]at e;rw[ba (by rw[<-h.1];exact hi),<-h.1];exact g.2 _ v e
def cut_one(h:n<=xs.length):J1 xs (some (n:Int)) (some ((n:Int)+1))=(xs.drop n).take 1:=by
 unfold J1;rw[show((n:Int)+1)=((n+1:Nat):Int) by omega,HT.sIx_nat,HT.sIx_nat,cT h];rcases fV n xs.length with q|q
 .rw[cT (by omega),Nat.add_sub_cancel_left]
 .rw[cc q,List.take_nil,List.take_nil]
def c0h(h:n<=xs.length):J1 xs none (some (n:Int))=xs.take n:=by
 unfold J1;rw[HT.sIx_none,HT.sIx_nat,cT h,cR,Nat.sub_zero]
def b7D(h:n<=xs.length):J1 xs (some (n:Int)) none=xs.drop n:=by
 unfold J1;rw[HT.sIx_none,HT.sIx_nat,cT h,bo (by rw[bG];omega)]
def a4y:∀{a b:LLI},E2 a->E2 b->a.Nodup->b.Nodup->(∀v,v∈a↔v∈b)->a=b
 |[],[],_,_,_,_,_=>rfl
 |[],y::b,_,_,_,_,h=>by have:=(h y).mpr ao;cases this
 |x::a,[],_,_,_,_,h=>by have:=(h x).mp ao;cases this
 |x::a,y::b,ra,rb,na,nb,h=>by
  obtain⟨k,l⟩:=cD.mp ra;obtain⟨i,j⟩:=cD.mp rb;obtain⟨f,g⟩:=cq.mp na;obtain⟨c,d⟩:=cq.mp nb;have e:x=y:=by
   refine O6 x y ?_ ?_
   .rcases az.mp ((h x).mp ao)with z|z
    .rw[z];exact L1 y
    .exact i x z
   .rcases az.mp ((h y).mpr ao)with z|z
    .rw[z];exact L1 x
    .exact k y z
  subst e;rw[a4y l j g d λv=>?_];constructor
  .intro hv;rcases az.mp ((h v).mp (ar _ hv))with z|z
   .exact absurd (z ▸ hv) f
   .exact z
  .intro hv;rcases az.mp ((h v).mpr (ar _ hv))with z|z
   .exact absurd (z ▸ hv) c
   .exact z
structure Srt(rss srt:LLI):Prop where
 ri:E2 srt
 nd:srt.Nodup
 mem:∀r,r∈srt↔r∈rss
def Srt.eq{a b:LLI}(h:Srt rss a)(g:Srt rss b):a=b:=a4y h.ri g.ri h.nd g.nd λv=>(h.mem v).trans (g.mem v).symm
end L2
namespace L2
open PySem PySem.Spec PyProof.Rows PySem.Builtin PySem.Builtin.Str PySem.StrLaws
def a4j:∀{ys:qA Str}{us:qA qB},Vals (ys.map V.str) us->∃l:qA (Str×Tok),us=strValues l/\l.map (·.1)=ys
 |[],us,h=>by cases h;exact⟨[],rfl,rfl⟩
 |y::ys,us,h=>by
  cases h with
  |cons r q =>
   obtain⟨t,rfl⟩:=r;obtain⟨l,rfl,e⟩:=a4j q;exact⟨(y,t)::l,rfl,by rw[aW,e]⟩
def b7f(K:qF):V->qA V->Hp->VK->Prop:=λx vs H Q=>∃(sep:Str) (p:qE) (ys:qA Str) (B:Nat),x=.str sep/\vs=[.ref p]/\SqL K H p (ys.map V.str)/\(∀y∈ys,y.length<=B)/\ys.length*B+ys.length*sep.length<=16777216/\(Str.join sep ys).length<=sizeLine/\Q (.str (Str.join sep ys)) H
section
variable {X:Cx}
def b6f(K:qF)(f:X.K=K:=by rfl):MtR X "str.join" (b7f K):=by
 subst f;intro qK s σ H x vs v r Q I n m h;obtain⟨a,p,ys,B,rfl,rfl,hs,d,g,c,q⟩:=h;obtain⟨t,rfl⟩:=n;obtain⟨u,rfl,k⟩:=m.one;cases k;obtain⟨its,j,o,_⟩:=I.list hs;obtain⟨l,rfl,b⟩:=a4j j;have i:tooLong ((l.map (·.1)).toArray.foldl (·+·.length+a.length) 0)=false:=by
  rw[b];exact joinFits d g
 refine dR PySem.F.slot_str_join (fP _ _ _) PySem.F.entry_str_join (PySem.F.args_str_join_2 _ _) (meets_str_join_list a t p l i) ⟨o.isList,?_⟩
 match l,b with
 |[z],b =>
  have e:Str.join a ys=z.1:=by rw[<-b];exact(glued_eq_join a [z.1]).symm
  rw[e]at q;exact⟨.str z.1,H,I,⟨_,rfl⟩,q⟩
 |[],b =>
  refine⟨?_,.str (Str.join a ys),H,I.tok _,⟨s.toks,?_⟩,q⟩
  .show(glued a []).length<=_;rw[glued_eq_join,show([]:qA Str)=ys from b];exact c
  .show Value.str (glued a []) _=_;rw[glued_eq_join,show([]:qA Str)=ys from b]
 |z::z2::l,b =>
  refine⟨?_,.str (Str.join a ys),H,I.tok _,⟨s.toks,?_⟩,q⟩
  .show(glued a ((z::z2::l).map (·.1))).length<=_;rw[glued_eq_join,b];exact c
  .show Value.str (glued a ((z::z2::l).map (·.1))) _=_;rw[glued_eq_join,b]
end
def a4p:∀(ys:qA Str) (tk:Nat),Vals (ys.map V.str) (strsFrom tk ys)
 |[],_=>.nil
 |y::ys,tk=>.cons ⟨tk,rfl⟩ (a4p ys (tk+1))
def b2D:V->qA V->Hp->VK->Prop:=λx vs H Q=>∃(a b:Str),x=.str a/\vs=[.str b]/\1<=b.length/\a.length+2<=sizeLine/\∀p,H p=none->Q (.ref p) (upd H p (.lst ((Txt.split a b).map V.str)))
section
variable {X:Cx}
def b3y:MtR X "str.split" b2D:=by
 intro qK s σ H x vs v p Q I l k h;obtain⟨a,b,rfl,rfl,n,m,q⟩:=h;obtain⟨t,rfl⟩:=l;obtain⟨u,rfl,j⟩:=k.one;obtain⟨f,rfl⟩:=j;have c:=split_le a b;have one:Txt.split a b=[a]->EP X qK σ Q (.ref s.heap.objs.size) {s with heap:=s.heap.push {cls:=.type "list",data:=.seq [Value.str a t].toArray}}:=λe=>by
  rw[e]at q;exact⟨.ref s.heap.objs.size,_,I.laid (t':=s.toks) (o:=.lst [.str a]) (λb i q=>ae _ q) (ak _) ⟨by show 1<=sizeLine;omega,_,0,.cons ⟨t,rfl⟩ .nil,aC _ rfl⟩,rfl,q _ (I.hok.fresh (ak _))⟩
 by_cases h1:(decide (a.length<b.length) || decide (strKind a<strKind b))=true
 .refine dR PySem.F.slot_str_split (fP _ _ _) PySem.F.entry_str_split (PySem.F.args_str_split_2 _ _) (meets_str_split_cannot_occur a b t f h1) (one ?_);unfold Txt.split;rw[aD h1]
 .have h1':(decide (a.length<b.length) || decide (strKind a<strKind b))=false:=by simpa using h1
  have g:(b.length==0)=false:=by
   rw[cz];omega
  by_cases d:(occurrences a b 0 a.length (a.length+1)).isEmpty=true
  .refine dR PySem.F.slot_str_split (fP _ _ _) PySem.F.entry_str_split (PySem.F.args_str_split_2 _ _) (meets_str_split_not_found a b t f h1' g d) (one ?_);unfold Txt.split;rw[aq h1,aD d]
  .have hf':(occurrences a b 0 a.length (a.length+1)).isEmpty=false:=by simpa using d
   have e:Txt.split a b=partsBetween a (occurrences a b 0 a.length (a.length+1)) b.length:=by
    unfold Txt.split;rw[aq h1,aq d]
   rw[e]at q c;refine dR PySem.F.slot_str_split (fP _ _ _) PySem.F.entry_str_split (PySem.F.args_str_split_2 _ _) (meets_str_split_sep a b t f h1' g hf' (by omega) (by omega)) ?_;exact⟨.ref s.heap.objs.size,_,I.laid (t':=s.toks+_) (o:=.lst ((partsBetween a (occurrences a b 0 a.length (a.length+1)) b.length).map V.str)) (λb i q=>ae _ q) (ak _) ⟨by rw[ag];omega,_,0,a4p _ _,aC _ rfl⟩,rfl,q _ (I.hok.fresh (ak _))⟩
end
def b4t{α:Type}{c:α}:∀{a b u v:qA α},c∉a->c∉b->a++c::u=b++c::v->a=b/\u=v
 |[],[],_,_,_,_,h=>by injection h with _ h;exact⟨rfl,h⟩
 |[],y::b,_,_,_,e,h=>by
  injection h with h1 _
  exact absurd (by rw[h1];exact ao) e
 |x::a,[],_,_,d,_,h=>by
  injection h with h1 _
  exact absurd (by rw[<-h1];exact ao) d
 |x::a,y::b,u,v,d,e,h=>by
  injection h with h1 h2
  obtain⟨f,g⟩:=b4t (λz=>d (ar _ z)) (λz=>e (ar _ z)) h2;exact⟨by rw[h1,f],g⟩
def Y5(c:Nat)(x y:Str)(r:qA Str):(Str.join ⟨#[c]⟩ (x::y::r)).cps.toList=x.cps.toList++c::(Str.join ⟨#[c]⟩ (y::r)).cps.toList:=by
 show(x++⟨#[c]⟩++Str.join ⟨#[c]⟩ (y::r)).cps.toList=_;rw[Str.cps_append,Str.cps_append,bJ,bJ,aG];rfl
def a7i{c:Nat}:∀{ps qs:qA Str},ps≠[]->qs≠[]->(∀a∈ps,c∉a.cps.toList)->(∀a∈qs,c∉a.cps.toList)->Str.join ⟨#[c]⟩ ps=Str.join ⟨#[c]⟩ qs->ps=qs
 |[],_,h,_,_,_,_=>absurd rfl h
 |_,[],_,h,_,_,_=>absurd rfl h
 |[p],[q],_,_,_,_,h=>by rw[show p=q from h]
 |[p],q::q2::r,_,_,b,_,h=>by
  have:=aL (λx:Str=>x.cps.toList) h;rw[Y5]at this;exact absurd (by rw[show p.cps.toList=_ from this];exact aQ _ ao) (b p ao)
 |p::p2::r,[q],_,_,_,d,h=>by
  have:=aL (λx:Str=>x.cps.toList) h;rw[Y5]at this;exact absurd (by rw[show q.cps.toList=_ from this.symm];exact aQ _ ao) (d q ao)
 |p::p2::r,q::q2::s,_,_,b,d,h=>by
  have:=aL (λx:Str=>x.cps.toList) h;rw[Y5,Y5]at this;obtain⟨f,g⟩:=b4t (b p ao) (d q ao) this;have i:Str.join ⟨#[c]⟩ (p2::r)=Str.join ⟨#[c]⟩ (q2::s):=Str.ext' (fF.mp g);rw[Str.ext' (fF.mp f),a7i (by simp) (by simp) (λa e=>b a (ar _ e)) (λa e=>d a (ar _ e)) i]
def a2J{c:Nat}{ps:qA Str}(h0:ps≠[])(h:∀a∈ps,c∉a.cps.toList):Txt.split (Str.join ⟨#[c]⟩ ps) ⟨#[c]⟩=ps:=by
 refine a7i (c:=c) (λz=>?_) h0 (λa b=>?_) h (join_split _ _)
 .have:=split_pos (Str.join ⟨#[c]⟩ ps) ⟨#[c]⟩;rw[z]at this;simp at this
 .exact split_free _ c a b
end L2
namespace L2
open PySem PySem.Spec PyProof.Rows PySem.NumText
def a1e(n:Nat):Str:=Str.ofString (toString ((n:Nat):Int))
def Z3(n:Nat):(a1e n).cps.toList=(Nat.toDigits 10 n).map Char.toNat:=PySem.W.KIN.signs_num n
def a3D(n:Nat):AllDigits (a1e n).cps.toList:=λc b=>by
 rw[Z3]at b;obtain⟨ch,a,e⟩:=aT.mp b;have r:=digit_range (Nat.isDigit_of_mem_toDigits (by decide) (by decide) a);rw[<-e];exact r
def b4g{n k:Nat}(a:0<k):(a1e n).length<=k↔n<10 ^ k:=by
 rw[<-Nat.length_toDigits_le_iff (b:=10) (by decide) a,show(a1e n).length=(a1e n).cps.toList.length by rw[ax];rfl,Z3,ag]
def a5R(n:Nat):(a1e n).cps.toList≠[]:=by
 rw[Z3];intro e;have h:=Nat.length_toDigits_pos (b:=10) (n:=n);rw[List.map_eq_nil_iff.mp e]at h;exact absurd h (by decide)
def a8z{n:Nat}(h:(a1e n).length<=4300):PySem.intText? (a1e n)=some (n:Int):=by
 have e:=intText_digits (a3D n) (a5R n) h;rw[Z3,PySem.W.KIN.val_back]at e;exact e
def b1g:∀n:Nat,0<n->(a1e n).cps.toList.head?≠some 48:=by
 have key:∀n:Nat,0<n->∃d,0<d/\d<10/\(Nat.toDigits 10 n).head?=some (Nat.digitChar d):=by
  intro n;induction n using Nat.strongRecOn with
  |_ n g =>
   intro f;by_cases h:n<10
   .exact⟨n,f,h,by rw[Nat.toDigits_of_lt_base h];rfl⟩
   .obtain⟨d,a,c,e⟩:=g (n / 10) (by omega) (by omega);refine⟨d,a,c,?_⟩;have t:=Nat.toDigits_append_toDigits (b:=10) (n:=n / 10) (d:=n % 10) (by decide) (by omega) (eG _ (by decide));rw[Nat.div_add_mod]at t;rw[<-t,List.head?_append,e];rfl
 intro n f;obtain⟨d,a,c,e⟩:=key n f;rw[Z3,List.head?_map,e];have:∀d:Nat,d<10->0<d->some ((Nat.digitChar d).toNat)≠some 48:=by decide
 exact this d c a
def b1f:a1e 0=Str.ofString "0":=rfl
def b7g:RL:=λxs H Q=>∃(x:Str) (n:Int),xs=[.str x]/\x.length<=640/\PySem.intText? x=some n/\Q (.int n) H
def b2C:RL:=λxs H Q=>∃(n:Nat),xs=[.int n]/\n<10 ^ 570/\Q (.str (a1e n)) H
section
variable {X:Cx}{e:Expr}{t:TA}{p pos:Pos}
def b1z:D6 X (.type "int") b7g:=by
 intro qK s σ H xs c Q I r h;obtain⟨x,n,rfl,a,b,q⟩:=h;obtain⟨u,rfl,t,rfl⟩:=r.one;exact PySem.W.KIN.call_text b a ⟨.int n,H,I.tok _,⟨_,rfl⟩,q⟩
def b1u:D6 X (.type "str") b2C:=by
 intro qK s σ H xs c Q I r h;obtain⟨n,rfl,b,q⟩:=h;refine a5U qK s σ H _ c Q I r ⟨n,rfl,?_,q⟩;have h1:n<2 ^ 1900:=ei b (by decide +kernel);by_cases a:n=0
 .subst a;decide
 .exact(Nat.log2_lt (show(n:Int).natAbs≠0 by omega)).mpr (by rw[Int.natAbs_natCast];exact ei h1 (by decide +kernel))
def b6u(d:Gl X "int")(f:X.mg "int"=none)(b:JA X [e] t)(c:starEach [e] X.env=(false,eval e X.env)::starEach [] X.env:=by rfl)(a:(backTo pos (starEach [] X.env)).any (·.1)=false:=by rfl):JE X (.Call (.Name "int" p) [e] [] pos) (tCB b7g t):=⟨L0 b1z d f a5Z b.h (by decide) (by decide) c a⟩
def b6p(d:Gl X "str")(f:X.mg "str"=none)(b:JA X [e] t)(c:starEach [e] X.env=(false,eval e X.env)::starEach [] X.env:=by rfl)(a:(backTo pos (starEach [] X.env)).any (·.1)=false:=by rfl):JE X (.Call (.Name "str" p) [e] [] pos) (tCB b2C t):=⟨L0 b1u d f b4D b.h (by decide) (by decide) c a⟩
end
section
variable {X:Cx}{o e:Expr}{es:qA Expr}{to:TE}{t:TA}{qO qM:Pos}
def a5K(K:qF)(h:JE X o to)(g:JA X (e::es) t)(f:X.K=K:=by rfl)(b:attributeBase o "join" X.env (eval o X.env)=eval o X.env:=by rfl)
  (d:((backTo qM (starEach (e::es) X.env)).all (λx=>!x.1) && (backToKw qM (keywordEach [] X.env)).all (λx=>x.1.isSome) && decide ((e::es).length+([]:qA Keyword).length+(if ([]:qA Keyword).isEmpty then 0 else 1)<30))=true:=by rfl)
  (c:(qO.endLine==qM.line)=true:=by rfl) (hs:starEach (e::es) X.env=(false,eval e X.env)::starEach es X.env:=by rfl) (a:(backTo qM (starEach es X.env)).any (·.1)=false:=by rfl) :
  JE X (.Call (.Attribute o "join" qO) (e::es) [] qM) (tBM K "str" (b7f K) to t):=⟨a3b K PySem.F.plainAttrs_str PySem.F.slot_str_join PySem.F.type_str_join (b6f K f) h.h g.h f b d c hs a⟩
def a3s(K:qF)(h:JE X o to)(g:JA X (e::es) t)(f:X.K=K:=by rfl)(b:attributeBase o "split" X.env (eval o X.env)=eval o X.env:=by rfl)
  (d:((backTo qM (starEach (e::es) X.env)).all (λx=>!x.1) && (backToKw qM (keywordEach [] X.env)).all (λx=>x.1.isSome) && decide ((e::es).length+([]:qA Keyword).length+(if ([]:qA Keyword).isEmpty then 0 else 1)<30))=true:=by rfl)
  (c:(qO.endLine==qM.line)=true:=by rfl) (hs:starEach (e::es) X.env=(false,eval e X.env)::starEach es X.env:=by rfl) (a:(backTo qM (starEach es X.env)).any (·.1)=false:=by rfl) :
  JE X (.Call (.Attribute o "split" qO) (e::es) [] qM) (tBM K "str" b2D to t):=⟨a3b K PySem.F.plainAttrs_str PySem.F.slot_str_split PySem.F.type_str_split b3y h.h g.h f b d c hs a⟩
end
end L2
namespace L2
open PySem PySem.Spec PyProof.Rows
variable {K:qF}{Q:qH}{X:Cx}{k:Bool}{pos:Pos}{w:World}
def Itc(x:Str):It:=⟨λi _=>i<x.cps.size,λi H v H'=>H'=H/\∃c,x.cps[i]?=some c/\v=.str ⟨#[c]⟩,λi _=>x.cps.size<=i⟩
def b0b{P:qG}{tg:Expr}(it:qE)(x:Str)(t:Tok):Turn P w K tg (Itc x) [it] it (λi h=>h.IsStrIter it "str_ascii_iterator" x t i) where
 mem:=by simp
 obj:=λi h st b f=>by
  have e:b=it:=by simpa using f
  subst e;obtain⟨o,e,c,d⟩:=st;exact⟨o,e,λv z=>by rw[d]at z;cases z⟩
 keep:=λi h h' st k=>let ⟨o,ho,r⟩:=st;⟨o,k it (by simp) o ho,r⟩
 item:=by
  intro X q hw p u i qK s σ H E I g st a;subst q hw p;obtain⟨j,f1,f2,l,m,n⟩:=g it (by simp);have a:i<x.cps.size:=a;refine wpAny_pyNext_ascii_item st (c:=x.cps[i]) (by simp[a]) λh' st' B=>?_;have y:Inv X qK σ H {s with heap:=h',toks:=s.toks+1}:=I.turned (t':=s.toks+1) (λb o f e=>B.extBut b o f e) j f1 l m n;obtain⟨o,e,c,d⟩:=id st';exact⟨_,rfl,a7m (s:={s with heap:=h',toks:=s.toks+1}) e c d (by decide) ⟨.str ⟨#[x.cps[i]]⟩,H,y,⟨_,rfl⟩,⟨rfl,_,by simp[a],rfl⟩,st',λb f=>(g b f).1⟩⟩
 done:=by
  intro X q hw p u i qK s σ H E I g st a;subst q hw p;obtain⟨j,f1,f2,l,m,n⟩:=g it (by simp);have a:x.cps.size<=i:=a;exact wpAny_pyNext_ascii_end (I.ok.hd u) st (by simp[a]) λh' A=>⟨rfl,I.turned (t':=s.toks) (λb o f e=>A b o f e) j f1 l m n⟩
 self:=λ_ _ _ _ _ st h=>wpAny_pyIter_striter_ascii st h
def b7y(tl:TE):TI:=λσ H R=>tl σ H λv H1=>∃x:Str,v=.str x/\x.cps.all (· < 128)=true/\R (Itc x) H1
section
variable {tg:Expr}
def b5C{l:Expr}{tl:TE}(f:PE X l tl):PI X tg l (b7y tl):=by
 intro qK s σ H R I h;refine thn (f qK s σ H _ I h) λv s1 ⟨x,H1,a,i,g⟩=>?_;obtain⟨x,rfl,c,q⟩:=g;obtain⟨t,rfl⟩:=i;refine wpAny_pyIter_ascii c ?_;refine⟨s1.heap.objs.size,[s1.heap.objs.size],_,_,H1,rfl,a.kept (t':=s1.toks) λb o e=>ae _ e,b0b _ x t,⟨_,aC _ rfl,rfl,rfl⟩,λb d=>?_,q⟩;have e:b=s1.heap.objs.size:=by simpa using d
 subst e;exact a.fpOk (ak _) (a.hok.fresh (ak _))
def b6n{l:Expr}{tl:TE}(a:JE X l tl):JI X tg l (b7y tl):=⟨b5C a.h⟩
end
def b1p{src:qA (qJ)}{g:TG}{f:TT}{te:TE}{σ:St}{Q:VK}{x:Str}{H1:Hp}(k:x.cps.size<=sizeLine)(a:Nat->qA V->Hp->Prop)(h0:a 0 [] H1)
  (e:∀i ys H,a i ys H->ys.length<=i)
  (hs:∀i c ys H,x.cps[i]?=some c->a i ys H->g (.str ⟨#[c]⟩) (B1 src σ) H λσ2 H2=>Sub (B1 src σ) σ2/\f σ2 H2 λb d=>if b=true then te σ2 d λv h=>a (i+1) (ys++[v]) h else a (i+1) ys d)
  (hd:∀ys H,a x.cps.size ys H->∀p,H p=none->Q (.ref p) (upd H p (.lst ys))):E3 src g f te σ Q (Itc x) H1 :=
 a0s x.cps.size a h0 (λi ys H hi p=>⟨hi,by have:=e i ys H p;omega,λv H' y=>by obtain⟨rfl,c,j,rfl⟩:=y;exact hs i c ys _ j p⟩)
  λys H p=>⟨ak _,a_ (e _ ys H p) k,hd ys H p⟩
section
variable {prog:qG}{A:Around}{E:qH}{s:qC}
def a3h{T qP:String}{b:qB}{rest:qA qB}{kw:qA (Str×qB)}(e:typeLookup (.type T) "__init__"=pure (some (.builtin "object.__init__")))
  (f:Bind.madeBy (.type T)=pure (some qP)) (c:(some qP != some "object.__new__")=true) :
  Meets (Builtin.«object.__init__» ⟨b::rest,kw⟩) (λ_ R s=>s.TypeIs b T/\R (.ok (.ret .none)) s):=by
 refine Meets.of_wp λprog w A R s ⟨d,a⟩=>?_;cases rest with
 |nil =>
  cases kw with
  |nil=>exact ai ⟨_,rfl,a⟩
  |cons y kw =>
   repeat (any_goals (first|assumption|wp_step))
   exact⟨_,rfl,a⟩
 |cons y rest =>
  repeat (any_goals (first|assumption|wp_step))
  exact⟨_,rfl,a⟩
def a7x{T qP:String}{f:Builtin}{args:qA qB}{kw:qA (Str×qB)}{S:PySem.Spec}(a:TypeCalled T qP "object.__init__")
  (c:(some qP != some "object.__new__")=true) (m:checkTypeCall T ⟨args,kw⟩=pure ()) (b:checkBuiltinCall qP ⟨.type T::args,kw⟩=pure ())
  (d:∀obj,argsOk "object.__init__" ⟨obj::args,kw⟩) (l:entryFor table qP=some f) (g:Meets (f ⟨.type T::args,kw⟩) S)
  (h:S A.in1 (wants (λobj s₁=>s₁.TypeIs obj T/\Q obj s₁) E) s):wpAny (model prog w) A (call (.type T) args kw) Q E s:=by
 obtain⟨u,v,j⟩:=a.mro;have a1:=a.made;have n:=a.sub;refine fN (fY ?_);show wpAny _ _ (callAny (.type T) _) _ _ _;refine ai ⟨Code.quiet_builtin _ (by decide +kernel),dh F.entry_type_call ?_⟩;rw[Around.under_plain (fL T args kw) (units_type_call_type T args kw)];have o:=a.notType;have p:=a.canCreate
 repeat (any_goals (first|assumption|wp_step))
 refine cU (eI a.plain l (wpAny_of_eq b (g prog w A.in1 _ s h))) λr s₁ e=>?_;rcases r with x|fl
 .exact e
 cases fl with
 |ret obj =>
  obtain⟨i,k⟩:=e;have q:=a.init.lookup;have t:=a.init.bind obj
  repeat (any_goals (first|assumption|wp_step))
  refine cU (eI a.init.plain F.entry_object_init (a.init.check _ _ _ _ _ _ _ _ i (d obj) ((a3h a.init.lookup a.made c) prog w A.in1 (wants (λr s₂=>r=.none/\Q obj s₂) E) s₁ ⟨i,rfl,k⟩))) λr₂ s₂ hr₂=>?_;rcases r₂ with x|fl₂
  .exact hr₂
  cases fl₂ with
  |ret r =>
   obtain⟨rfl,k⟩:=hr₂
   repeat (any_goals (first|assumption|wp_step))
  |_=>exact hr₂.elim
 |_=>exact e.elim
def b1k(l:qE)(xs:Array qB)(t:Tok) :
  Meets (Builtin.«enumerate.__new__» ⟨[.type "enumerate",.ref l],[(Str.ofString "start",.int 1 t)]⟩) (λ_ R s=>SqAt k s.heap l xs /\
   R (.ok (.ret (.ref (s.heap.push (Q0 k l)).objs.size))) {s with heap:=(s.heap.push (Q0 k l)).push {cls:=.type "enumerate",data:=.fields #[.none,.bool false,.ref s.heap.objs.size,rawInt 1,.none,.none]}}) :=
 .of_wp λprog w A R s h=>by
  obtain⟨e,g,d,tk,os⟩:=s;obtain⟨b,h⟩:=h;have c:=sub_enumerate;have a:SqAt k (Shared.heap ⟨e,g,d,tk,os⟩) l xs:=b
  wp_walk using M9 a
  intro Γ p f;change wpAny _ _ (pure (_:Bool)) _ _ _;refine ai ?_;refine b7F ?_ ?_
  .wp_walk using M9 a
   exact⟨_,rfl,h⟩
  .wp_walk using M9 a
   exact⟨_,rfl,h⟩
def a8B{e it l:qE}{i:Nat}{z:Int}{items:Array qB}{x old:qB}(M:IsEnum s.heap e it z old)(I:ItAt k s.heap it l i)(U:SqAt k s.heap l items)(V:items[i]?=some x)(ne:e≠it)
  (T:∀(h':Heap) (t:Tok) (tk:Nat),IsEnumOut h' e it (z+1) x s.heap.objs.size->ItAt k h' it l (i+1)->h'.get? s.heap.objs.size=some {cls:=.type "tuple",data:=.seq #[.int z t,x]}->h'.objs.size=s.heap.objs.size+1 ->
   (∀b o,b≠e->b≠it->s.heap.get? b=some o->h'.get? b=some o)->Q (.ref s.heap.objs.size) {s with heap:=h',toks:=tk}) :
  wpAny (model prog w) A (Builtin.«enumerate.__next__» ⟨[.ref e],[]⟩) (λfin s'=>∃v,fin=.done (.ret v)/\Q v s') E s:=by
 show wpAny _ _ (field (.ref e) 2>>=_) _ _ _;refine aa (bQ M rfl (x:=.ref it) rfl ?_);refine aa (a0Q I U V λh1 K r=>?_);have g:IsEnum h1 e it z old:=r.extBut _ _ ne M;show wpAny _ _ (field (.ref e) 3>>=_) _ _ _;refine aa (bQ g rfl (x:=rawInt z) rfl ?_);show wpAny _ _ (field (.ref e) 4>>=_) _ _ _;refine aa (bQ g rfl (x:=.none) rfl ?_);show wpAny _ _ (if (Value.none==Value.none)=true then _ else _) _ _ _;rw[aD (by decide)];refine aa (wpAny_mkInt ?_);refine aa (cb (s:={s with heap:=h1,toks:=s.toks+1}) g (by simp) λh2 h u=>?_);replace h:IsEnum h2 e it (z+1) old:=h;refine aa (cb (s:={s with heap:=h2,toks:=s.toks+1}) h (by simp) λa d y=>?_);replace d:IsEnum a e it (z+1) old:=d;refine aa (wpAny_newTuple ?_);have J:a.objs.size=s.heap.objs.size:=by rw[y.1,u.1,r.1]
 have p:e<a.objs.size:=aI d;have j:IsEnum (a.push {cls:=.type "tuple",data:=.seq #[.int z s.toks,x]}) e it (z+1) old:=ae _ d;refine aa ?_;unfold Builtin.SmallTypes.ownedTupleIsFree;refine aa (bQ j rfl (x:=.none) rfl (ai ?_));show wpAny _ _ (if (Value.none==Value.none)=true then _ else _) _ _ _;rw[aD (by decide)];refine aa (fR ?_);refine aa (bQ j rfl (x:=old) rfl ?_);refine aa (cb j (by simp) λR m B=>?_);replace m:IsEnum R e it (z+1) x:=m;refine aa ?_;unfold Builtin.SmallTypes.ownedTupleHandOut;refine aa (cb m (by simp) λS n C=>?_);replace n:IsEnumOut S e it (z+1) x a.objs.size:=n;refine cb n (by simp) λF f D=>?_;replace f:IsEnumOut F e it (z+1) x a.objs.size:=f;refine aa (wpAny_letGo ?_);have O:∀c o,c≠e->a.get? c=some o->F.get? c=some o:=λc o H q=>D.extBut _ _ H (C.extBut _ _ H (B.extBut _ _ H (ae _ q)));have L:F.get? a.objs.size=some {cls:=.type "tuple",data:=.seq #[.int z s.toks,x]}:=D.extBut _ _ (cK p) (C.extBut _ _ (cK p) (B.extBut _ _ (cK p) (aC _ rfl)));have N:F.objs.size=a.objs.size+1:=by rw[D.1,C.1,B.1,bq]
 refine ai ⟨_,rfl,?_⟩;show Q (.ref a.objs.size) _;rw[J]at L N f⊢;refine T F s.toks (s.toks+1) f ((((K.extBut u.extBut ne.symm).extBut y.extBut ne.symm)).at λo q=>O it o ne.symm q) L N λb o G P q=>O b o G (y.extBut _ _ G (u.extBut _ _ G (r.extBut _ _ P q)))
def b1l{e it l:qE}{i:Nat}{z:Int}{items:Array qB}{old:qB}{Q:Fin->qC->Prop}(j:A.handled=none)(h:IsEnum s.heap e it z old)(a:ItAt k s.heap it l i)(m:SqAt k s.heap l items)(n:items[i]?=none)
  (g:∀h' x,(∀c o,c≠e->c≠it->s.heap.get? c=some o->h'.get? c=some o)->(∃o,h'.get? x=some o/\o.cls=.type "StopIteration")->E (.ref x) {s with heap:=h'}) :
  wpAny (model prog w) A (Builtin.«enumerate.__next__» ⟨[.ref e],[]⟩) Q E s:=by
 show wpAny _ _ (field (.ref e) 2>>=_) _ _ _;refine aa (bQ h rfl (x:=.ref it) rfl ?_);exact aa (a5e j a m n λh1 x b d=>g h1 x (λc o _ f q=>b _ _ f q) d)
def a2G(a v:qB):checkTypeCall "enumerate" ⟨[a],[(Str.ofString "start",v)]⟩=pure ():=by kernel_rfl
def a4d(a v:qB):checkBuiltinCall "enumerate.__new__" ⟨[.type "enumerate",a],[(Str.ofString "start",v)]⟩=pure ():=by kernel_rfl
def a8M(a b v:qB):argsOk "object.__init__" ⟨[a,b],[(Str.ofString "start",v)]⟩:=by unfold argsOk;kernel_rfl
def a8C{l:qE}{xs:Array qB}{t:Tok}(b:SqAt k s.heap l xs)
  (h:∀h',IsEnum h' (s.heap.objs.size+1) s.heap.objs.size 1 .none->ItAt k h' s.heap.objs.size l 0->h'.objs.size=s.heap.objs.size+2->(∀c o,s.heap.get? c=some o->h'.get? c=some o)->Q (.ref (s.heap.objs.size+1)) {s with heap:=h'}) :
  wpAny (model prog w) A (call (.type "enumerate") [.ref l] [(Str.ofString "start",.int 1 t)]) Q E s:=by
 refine a7x F.called_enumerate (by decide) (a2G _ _) (a4d _ _) (λobj=>a8M obj _ _) F.entry_enumerate_new (b1k (k:=k) l xs t) ⟨b,?_⟩;have d:(s.heap.push (Q0 k l)).objs.size=s.heap.objs.size+1:=bq ..;have a:((s.heap.push (Q0 k l)).push {cls:=.type "enumerate",data:=.fields #[.none,.bool false,.ref s.heap.objs.size,rawInt 1,.none,.none]}).get? (s.heap.push (Q0 k l)).objs.size=some _:=aC _ rfl;have e:((s.heap.push (Q0 k l)).push {cls:=.type "enumerate",data:=.fields #[.none,.bool false,.ref s.heap.objs.size,rawInt 1,.none,.none]}).get? s.heap.objs.size=some (Q0 k l):=ae _ (aC _ rfl);show _/\_;rw[d]at a;rw[d];refine⟨⟨_,a,rfl⟩,h _ a ?_ (by rw[bq,d]) λc o x=>ae _ (ae _ x)⟩;cases k<;>exact⟨_,e,rfl,rfl⟩
end
def It1(K:qF)(k:Bool)(a:qE):It :=
 ⟨λi H=>∃xs x,SqK k K H a xs/\xs[i]?=some x,
  λi H v H'=>∃p x,v=.ref p/\H p=none/\H'=upd H p (.tup [.int (1+i),x])/\∀xs,SqK k K H a xs->xs[i]?=some x,
  λi H=>∃xs,SqK k K H a xs/\xs.length<=i⟩
structure ETurn1(k:Bool)(e it a:qE)(i:Nat)(h:Heap):Prop where
 en:∃old,IsEnum h e it (1+(i:Int)) old
 t1:ItAt k h it a i
def a7G{P:qG}{es:qA Expr}{kt:Nat}{tp:Pos}{a e it:qE}(ne:e≠it) :
  Turn P w K (.Tuple es kt tp) (It1 K k a) [e,it] e (λi h=>ETurn1 k e it a i h) where
 mem:=by simp
 obj:=λi h st c f=>by
  simp only[az,bu,cx]at f;rcases f with rfl|rfl
  .obtain⟨old,q⟩:=st.en;exact⟨_,q,λv z=>by cases z⟩
  .obtain⟨o,e,d⟩:=st.t1.get;exact⟨o,e,λv z=>by rw[d]at z;cases z⟩
 keep:=λi h h' st k=>⟨let ⟨old,q⟩:=st.en;⟨old,k e (by simp) _ q⟩,st.t1.at λo q=>k it (by simp) o q⟩
 item:=by
  intro X C hw B f i qK s σ H E I r st G;subst C hw B;obtain⟨xs,x,j,y⟩:=G;obtain⟨us,M,L,zu⟩:=I.sqk j;obtain⟨u,hu,N⟩:=M.get y;obtain⟨old,g⟩:=st.en;have n:s.TypeIs (.ref e) "enumerate":=⟨_,g,rfl⟩;unfold pyNext;refine aa (dj (bH (name:=Str.ofString "__next__") n el
   (bI el n F.entry_enumerate_next
    (a8B g st.t1 L (x:=u) (by simpa using hu) ne λh' t tk a1 U V a4 W=>ai ?_) (F.args_enumerate_next_1 _))))
  refine⟨_,rfl,?_⟩;refine wpAny_letOwnedTupleGo_enum (s:={s with heap:=h',toks:=tk}) a1 λh2 D m=>?_;have p:∀c∈[e,it],c≠s.heap.objs.size:=λc f q=>by
   have:∃o,s.heap.get? c=some o:=by
    simp only[az,bu,cx]at f;rcases f with rfl|rfl
    .exact⟨_,g⟩
    .obtain⟨o,e,d⟩:=st.t1.get;exact⟨o,e⟩
   obtain⟨o,z⟩:=this;exact absurd (aI z) (by rw[q];exact bV _)
  have l:H s.heap.objs.size=none:=I.hok.fresh (ak _);have J:=m.extBut _ _ (p e (by simp)).symm V;have kk:∀c o,c∉[e,it]->s.heap.get? c=some o->h2.get? c=some o:=λc o f q=>by
   simp only[az,bu,cx,not_or]at f;exact m.extBut _ _ f.1 (W c o f.1 f.2 q)
  have R:Inv X qK σ (upd H s.heap.objs.size (.tup [.int (1+i),x])) {s with heap:=h2} :=
   I.turnedT (ch:=[e,it]) r rfl kk ⟨by show 2<=sizeLine;decide,[.int (1+i) t,u],.cons ⟨t,rfl⟩ (.cons N .nil),⟨_,J,rfl,0,rfl⟩⟩
  have S:=R.tok tk;refine⟨.ref s.heap.objs.size,_,S,rfl,⟨_,x,rfl,l,rfl,λzs hz=>?_⟩,⟨⟨_,(show(1:Int)+((i+1:Nat):Int)=1+i+1 by omega) ▸ D⟩,U.extBut m.extBut ne.symm⟩,λc f=>?_⟩
  .rw[I.sqk_inj hz j];exact y
  .rw[A2 (p c f)];exact(r c f).1
 done:=by
  intro X C hw B f i qK s σ H E I r st G;subst C hw B;obtain⟨xs,j,O⟩:=G;obtain⟨us,M,L,zu⟩:=I.sqk j;have l1:=M.length;obtain⟨old,g⟩:=st.en;have n:s.TypeIs (.ref e) "enumerate":=⟨_,g,rfl⟩;unfold pyNext;refine aa (dj (bH (name:=Str.ofString "__next__") n el
   (bI el n F.entry_enumerate_next (b1l (I.ok.hd f) g st.t1 L (by simp;omega) λh' x Y y=>?_) (F.args_enumerate_next_1 _))))
  obtain⟨o,Z,f⟩:=y;refine aa (eD (T:="StopIteration") (b:=true) ⟨o,Z,f⟩ isSubtype_stop ?_);refine ai ⟨rfl,I.turnedL (ch:=[e,it]) r λc o f q=>?_⟩;simp only[az,bu,cx,not_or]at f;exact Y c o f.1 f.2 q
 self:=λA i s Q E st h=>let ⟨_,q⟩:=st.en;wpAny_pyIter_enum q h
def b9h(K:qF)(ta:TA):TI:=λσ H R=>ta σ H λvs H1=>∃k a,vs=[.ref a]/\(∃xs,SqK k K H1 a xs)/\R (It1 K k a) H1
section
variable {M:Model}{A:Around}{E:qH}{s:qC}{env:Env}
def a3K{T:String}{e:Expr}{rest:qA Expr}{kws:qA Keyword}
  (h:wpAny M A (spliced (backTo pos (starEach (e::rest) env))) (λvs s₁=>wpAny M A (evalAll ((backToKw pos (keywordEach kws env)).map (·.2))) (λqL s₂=>wpAny M A (call (.type T) vs (((backToKw pos (keywordEach kws env)).filterMap (·.1)).zip qL)) Q E s₂) E s₁) E s)
  (c:backTo pos (starEach (e::rest) env)=(false,eval e env)::backTo pos (starEach rest env):=by rfl)
  (f:(backTo pos (starEach (e::rest) env)).any (·.1)=false:=by rfl) (b:(backToKw pos (keywordEach kws env)).all (·.1.isSome)=true:=by rfl) (d:(backToKw pos (keywordEach kws env)).any (·.1.isNone)=false:=by rfl) :
  wpAny M A (callWith pos (.type T) [] (backTo pos (starEach (e::rest) env)) (backToKw pos (keywordEach kws env))) Q E s:=by
 have h2:wpAny M A (evalArgs (.type T) true (backTo pos (starEach (e::rest) env)) (backToKw pos (keywordEach kws env))) (λa s₁=>wpAny M A (call (.type T) ([]++a.pos) a.kw) Q E s₁) E s:=by
  rw[c]at h⊢;exact evalArgs_kwB b h
 unfold callWith;refine aa (bW (cW h2 (λa s₁ h₁=>aa (wpAny_standAt ?_)) λ_ _ x=>x));simp only[f,d,fA];refine aa (ai ?_);exact aa (cW h₁ (λr s₂ g=>aa (bW (wpAny_point (ai g)))) λ_ _ x=>x)
end
def b3O(K:qF){es:qA Expr}{v:Nat}{z:Pos}{a:Expr}{ta:TA}{p kp np:Pos}{nk:Nat}(o:Gl X "enumerate")(r:X.mg "enumerate"=none)(m:JA X [a] ta)(l:X.K=K:=by rfl)
  (n:backTo pos (starEach [a] X.env)=(false,eval a X.env)::backTo pos (starEach [] X.env):=by rfl) (e:(backTo pos (starEach [a] X.env)).any (·.1)=false:=by rfl) :
  JI X (.Tuple es v z) (.Call (.Name "enumerate" p) [a] [⟨some "start",.Constant (.int 1) nk np,kp⟩] pos) (b9h K ta):=by
 subst l;refine⟨λqK s σ H R I h=>?_⟩;refine cZ (a1t I o r a6a ?_ (by decide) (by decide));refine a3K (thn (m.h pos qK s σ H _ I h) λA s1 ⟨vs,H1,j,y,x⟩=>?_) n e;refine kws_cons (wpAny_Constant_int (kws_nil ?_));obtain⟨k,D,rfl,⟨xs,t⟩,q⟩:=x;obtain⟨u,rfl,g⟩:=y.one;cases g;have d:=j.tok (s1.toks+1);obtain⟨A,g,w,F⟩:=d.sqk t;refine a8C w λh' i B E C=>?_;refine wpAny_pyIter_enum (s:={s1 with heap:=h',toks:=s1.toks+1}) i ?_;refine⟨s1.heap.objs.size+1,[s1.heap.objs.size+1,s1.heap.objs.size],_,_,H1,rfl,d.kept (t':=s1.toks+1) C,a7G (nne (by omega)),⟨⟨_,i⟩,B⟩,λc f=>?_,q⟩;have b:s1.heap.objs.size<=c:=by
  simp only[az,bu,cx]at f;rcases f with rfl|rfl
  .exact bU _ _
  .exact ak _
 exact d.fpOk b (d.hok.fresh b)
def b1c{a:qE}{xs:qA V}{g:TG}{tb:TS}{D:Ends}{σ:St}{H:Hp}(b:Nat->St->Hp->Prop)(h0:b 0 σ H)
  (l:∀i σ H,i<=xs.length->b i σ H->SqK k K H a xs)
  (hs:∀i x σ H p,xs[i]?=some x->b i σ H->H p=none->g (.ref p) σ (upd H p (.tup [.int (1+i),x])) λσ2 H2=>tb {D with nx:=b (i+1),ct:=b (i+1),bk:=D.nx} σ2 H2) (hd:∀σ H,b xs.length σ H->D.nx σ H) :
  ∃W:Nat->Nat->St->Hp->Prop,(∃m,W 0 m σ H)/\∀i m σ H,W i m σ H ->
   ((It1 K k a).stop i H/\D.nx σ H)∨((It1 K k a).go i H/\∃N:St->Hp->Prop,(∀σ' H',N σ' H'->∃f,f<m/\W (i+1) f σ' H')/\∀x H',(It1 K k a).yld i H x H'->g x σ H' λσ2 H2=>tb {D with nx:=N,ct:=N,bk:=D.nx} σ2 H2):=by
 refine⟨λi m σ H=>m=xs.length-i/\i<=xs.length/\b i σ H,⟨_,rfl,br _,h0⟩,?_⟩;rintro i m σ H ⟨rfl,hi,p⟩;have d:=l i σ H hi p;by_cases c:i<xs.length
 .refine .inr ⟨⟨xs,xs[i],d,aj c⟩,b (i+1),λσ' H' n=>⟨_,by omega,rfl,c,n⟩,λx H' y=>?_⟩;obtain⟨o,q,e,h,j,r⟩:=y;subst e j;exact hs i q σ _ o (r xs d) p h
 .have e:i=xs.length:=by omega
  subst e;exact .inl ⟨⟨xs,d,ak _⟩,hd σ H p⟩
def b9N:R2:=λx y H Q=>∃(c:Nat) (z:Str),x=.str ⟨#[c]⟩/\y=.str z/\Q (.bl (decide (c∈z.cps.toList))) H
def b9J:RL:=λxs H Q=>∃z:Str,xs=[.str z]/\z.length<=sizeLine/\Q (.int z.length) H
section
variable {a b c e o i:Expr}{ta tb tc td ty te tv:TE}{t:TA}{p:Pos}
def b8B:OpR X (compareOp .In) b9N:=by
 intro qK s σ H x y v u Q I a b h;obtain⟨c,z,rfl,rfl,q⟩:=h;obtain⟨t,rfl⟩:=a;obtain⟨t',rfl⟩:=b;refine PySem.P.in_str ?_;rw[StrLaws.found_one];exact⟨.bl _,H,I,rfl,q⟩
def b8T(c:JE X a ta)(d:JE X b tb)(e:behindInMarks .In b=false):JE X (.Compare a [.In] [b] pos) (tOp b9N ta tb):=⟨S3 b8B c.h d.h e⟩
def b6t(d:Gl X "len")(f:X.mg "len"=none)(b:JA X [e] t)(c:starEach [e] X.env=(false,eval e X.env)::starEach [] X.env:=by rfl)(a:(backTo pos (starEach [] X.env)).any (·.1)=false:=by rfl):JE X (.Call (.Name "len" p) [e] [] pos) (tCB b9J t):=⟨G4 a5W d f a8L b.h (by decide) (by decide) c a⟩
def c0a(c:JE X a ta)(d:JE X b tb)(hs:a2A b:=by intro _ _;rfl):JE X (.Subscript a b pos) (tOp b9L ta tb):=⟨b3a b9b c.h d.h hs⟩
def b6l(d:JE X a ta)(e:JE X b tb)(f:JE X c tc)(g:lastMarks [.LtE,.LtE] [b,c]=false:=by with_unfolding_all rfl):JT X (.Compare a [.LtE,.LtE] [b,c] pos) (K5 (b1W (rI0 λi j=>.bl (decide (i<=j))) (rI0 λi j=>.bl (decide (i<=j))) ta tb tc)):=⟨b2M b3g b3g d.h e.h f.h g⟩
end
section
variable {k v:Expr}{ks:qA (qD Expr)}{vs:qA Expr}{tk tv:TE}{trs:qA (TE×TE)}
end
end L2
namespace K55
open PySem PySem.Spec PyProof.Rows L2
variable {C a b c p:qE}{F L W rss:LLI}{H H':Hp}{P:qG}{Q:VK}{base:Heap}{cs:qA (qD Int)}{i j k n:Nat}{qL:qA (qA Key×V)}{mg:Str->qD qB}{ns r u v xs:qI}{o:HO}{vs:qA V}{w:World}{x:Int}{σ:L2.St}
def top(i:Nat):Stmt:=PySem.Challenge.pw_leastlays_k55_whole_papers_through_texts.main.body.getD i (.Pass ⟨0,0,0,0⟩)
abbrev N6:Stmt:=top 2
abbrev J3:Stmt:=top 3
abbrev L7:Stmt:=top 9
abbrev U9:Stmt:=top 11
abbrev N4:Stmt:=top 12
abbrev a0T:Stmt:=top 14
abbrev a0h:Stmt:=top 16
abbrev a5w:Stmt:=top 17
abbrev R1:Stmt:=top 18
abbrev a0i:Stmt:=top 19
abbrev a2r:Stmt:=top 20
abbrev a2s:Stmt:=top 22
abbrev a5v:Stmt:=top 23
abbrev V0:Stmt:=top 24
abbrev N0:Stmt:=top 25
abbrev L8:Stmt:=top 27
abbrev a0U:Stmt:=top 28
abbrev a2o:Stmt:=top 29
abbrev R0:Stmt:=top 31
abbrev N5:Stmt:=top 32
abbrev a2q:Stmt:=top 34
abbrev Q9:Stmt:=top 36
abbrev Q8:Stmt:=top 37
abbrev L9:Stmt:=top 38
abbrev a0k:Stmt:=top 40
abbrev R5:Stmt:=top 41
abbrev a0V:Stmt:=top 42
abbrev a0j:Stmt:=top 43
abbrev a2p:Stmt:=top 44
abbrev L6:Stmt:=top 46
abbrev N3:Stmt:=top 47
abbrev V1:Stmt:=top 49
abbrev R6:Stmt:=top 50
abbrev R7:Stmt:=top 51
abbrev N8:Stmt:=top 52
abbrev N7:Stmt:=top 53
abbrev R8:Stmt:=top 54
abbrev R9:Stmt:=top 55
abbrev N9:Stmt:=top 56
abbrev M1:Stmt:=top 57
abbrev M0:Stmt:=top 58
abbrev J4:Stmt:=top 59
abbrev M2:Stmt:=top 60
abbrev a2V:Stmt:=top 61
abbrev E6:Stmt:=M7 (top 33) 0
abbrev a0B:Stmt:=M7 (top 33) 1
abbrev C9:Stmt:=M7 (top 33) 2
abbrev X6:Stmt:=M7 (top 33) 3
abbrev M3:Stmt:=M7 (top 33) 4
abbrev J5:Stmt:=M7 (top 33) 5
abbrev J6:Stmt:=M7 (top 33) 6
abbrev G1:Stmt:=M7 (top 10) 0
abbrev O0:Stmt:=M7 (top 10) 1
abbrev O1:Stmt:=M7 (top 10) 2
structure Tx(mg:Str->qD qB):Prop where
 b_ValueError:mg "ValueError"=none
 b_all:mg "all"=none
 b_any:mg "any"=none
 b_bool:mg "bool"=none
 b_dict:mg "dict"=none
 b_enumerate:mg "enumerate"=none
 b_int:mg "int"=none
 b_isinstance:mg "isinstance"=none
 b_len:mg "len"=none
 b_list:mg "list"=none
 b_range:mg "range"=none
 b_set:mg "set"=none
 b_sorted:mg "sorted"=none
 b_str:mg "str"=none
 b_sum:mg "sum"=none
 b_tuple:mg "tuple"=none
 b_zip:mg "zip"=none
structure PotAt(H:Hp)(a b:qE)(n:Nat):Prop where
 ne:a≠b
 ex:∃(cs:qI) (t k:Int),H a=some (.lst [.ref b,.int t,.int k])/\H b=some (.lst (cs.map V.int))/\cs.length<=63/\(∀c∈cs,0<=c)/\0<=t/\t<2 ^ 61/\0<=k/\k<=n
def PotAt.same(h:PotAt H a b n)(s:Same H H'):PotAt H' a b n:=by
 obtain⟨ne,c,t,k,h1,h2,d⟩:=h;exact⟨ne,c,t,k,s _ _ h1,s _ _ h2,d⟩
def PotAt.mono{m:Nat}(h:PotAt H a b n)(l:n<=m):PotAt H a b m:=by
 obtain⟨ne,c,t,k,h1,h2,d,e,f,g,i,j⟩:=h;exact⟨ne,c,t,k,h1,h2,d,e,f,g,i,by omega⟩
def a9S{hi:qD Int}{x:V}(h:(J1 (ns.map V.int) none hi)[i]?=some x):∃z,x=V.int z:=by
 unfold J1 at h;have b:=aA h;have a:=cv (bC b);obtain⟨z,_,e⟩:=aT.mp a;exact⟨z,e.symm⟩
def b6G{hi:qD Int}:(J1 (ns.map V.int) none hi).length<=ns.length:=by
 have:=Z6 (ns.map V.int) none hi;rwa[ag]at this
section
variable {K:qF}
inductive IspPot(K:qF)(vs:qA V)(H:Hp)(Q:VK)(E:XK):Prop
 |mk (a:qE) (ns:qI) (_:vs=[.ref a]) (_:SqL K H a (ns.map V.int)) (_:ns.length<=63) (_:∀p b H',H p=none->H b=none->PotAt H' p b 0->Same H H'->Q (.ref p) H'):IspPot K vs H Q E
def b6Y(K:qF):Sp:=λvs H Q E=>IspPot K vs H Q E
def sc__law_pot:FnScope ["_law_script","_law_total","_law_cell"] ["_law_script"] (A1 V1):={}
def b8H(F:FunAt K mg "_law_pot" V1 ["_law_script"])(T:Tx mg):Ok P w K mg base "_law_pot" 1 ["_law_script"] (b6Y K):=by
 refine F.okJ sc__law_pot (λvs H Q E h=>?_) (λB f A r s H vs Q E I h=>?_)
 .obtain⟨a,ns,rfl,_⟩:=h;rfl
 .obtain⟨a,ns,rfl,hS,hl,k⟩:=h;refine⟨_,(A3 (B2 (i:=1) sc__law_pot.nd rfl (Or.inl rfl) A6)
 (A3 (P6 (E7 K (a1b K (jv 0) K0 (J9 A6))) (A8 (i:=2) sc__law_pot.nd rfl (Or.inl rfl))
 (A4 (B2 (i:=1) sc__law_pot.nd rfl (Or.inl rfl) (a1c (S6 (S6 (Z0 (jv 1) A6) (a1c (jv 2) (a4H A6 A6))) A6) (a9G (a4H A6 A6) A6)))))
 (A4 (A9 (K6 (jaC (B9 (N:=["_law_cell"]) (src:=[none]) (E7 K (a1b K (jv 0) K0 (J9 A6))) (by show B8 _ _=true;rfl) (by rfl) (by rfl)
 (λ_ _ _ _ _=>(A8 (i:=0) (L2.nd ["_law_cell"]) rfl (Or.inl rfl))) (λ_ _ _ _ _=>(a1z (b7u (jv 0) (a4H A6 A6)))) (λ_ _ _ _ _=>(jv 0))) (jaC (jv 1) (jaC A6 jaN)))))))),?_⟩
  refine⟨_,rfl,200,rfl,a,_,rfl,hS,λp D=>?_⟩;refine⟨p,rfl,⟨_,SqL.of A0⟩,?_⟩;refine U4 (K:=K) (a:=p) (xs:=J1 (ns.map V.int) none (some 200)) (λi σ H2=>Ex2 λ(t:Int) (v:qD V)=>An4 (σ=[some (.ref a),some (.int t),v]) (0<=t) (t<2 ^ 61) (H2=upd H p (.lst (J1 (ns.map V.int) none (some 200)))))
   ⟨7,none,rfl,by decide,by decide,rfl⟩ (λi σ H2 _ ⟨_,_,_,_,_,e⟩=>by rw[e];exact SqL.of A0) ?_ ?_
  .rintro i x σ H2 hx ⟨t,v,rfl,h0,h1,rfl⟩;obtain⟨z,rfl⟩:=a9S hx;simp only[a7J,a3O,B0,tOp,tUn,P0,tC,rI,rI0,rU,b0i,K5,a7K,a8Z,a4m,a4n,a0z,U0,a1O,tCB,a7I,a5a,tSl,G5,a1M,I9,tB,b0j,tOr,b0h,a4o,b0g,a4l,tIf,b0f,rEq,rNe,a2n,ipI,b5l,b5m,dt,dV,dO,dn,ft,V.int.injEq,V.bl.injEq,fZ,exists_eq_left,f',true_and,and_true,B1,aW,dH,fH,eJ,fJ,L2.start,aY,eR,Nat.reduceAdd,Nat.reduceSub,dM,eQ,dI,b_];have g:(0:Int)<2 ^ Int.toNat 61-1:=by decide
   refine⟨.inr ⟨by decide,by decide⟩,⟨by decide,by decide,by decide⟩,by decide,⟨by decide,by decide,by decide⟩,g,_,_,rfl,dy _ (Int.ne_of_gt g),?_,trivial⟩;have:=c_ (t*1000003+z % 10 ^ Int.toNat 40+11) g;have e:(2:Int) ^ Int.toNat 61=2 ^ 61:=rfl;omega
  .rintro σ H2 ⟨t,v,rfl,h0,h1,rfl⟩;have u:Same H (upd H p (.lst (J1 (ns.map V.int) none (some 200)))):=(Same.refl H).upd D;generalize upd H p (.lst (J1 (ns.map V.int) none (some 200)))=H1 at u;refine⟨_,rfl,63,rfl,a,_,rfl,u.seq hS,λp2 m=>?_⟩;have s2:Same H (upd H1 p2 (.lst (J1 (ns.map V.int) none (some 63)))):=u.upd m;refine⟨p2,rfl,⟨_,SqL.of A0⟩,?_⟩;have n:(1000:Nat)<=sizeLine:=by rw[aX];decide
   have hcl:=b6G (ns:=ns) (hi:=some 63);refine O8 (K:=K) (a:=p2) (xs:=J1 (ns.map V.int) none (some 63)) (by omega) (λi ys j=>j=upd H1 p2 (.lst (J1 (ns.map V.int) none (some 63)))/\ys.length<=i/\∃b:qI,ys=b.map V.int/\∀c∈b,0<=c)
    ⟨rfl,ak _,[],rfl,λ_ h=>nomatch h⟩ (λi ys j _ ⟨e,C,_⟩=>⟨by rw[e];exact SqL.of A0,C⟩) ?_ ?_
   .rintro i x ys j hx ⟨rfl,hy,b,rfl,hc⟩;obtain⟨z,rfl⟩:=a9S hx;refine⟨Sub.one,?_⟩;simp only[a7J,a3O,B0,tOp,tUn,P0,tC,rI,rI0,rU,b0i,K5,a7K,a8Z,a4m,a4n,a0z,U0,a1O,tCB,a7I,a5a,tSl,G5,a1M,I9,tB,b0j,tOr,b0h,a4o,b0g,a4l,tIf,b0f,rEq,rNe,a2n,ipI,b5l,b5m,dt,dV,dO,dn,ft,V.int.injEq,V.bl.injEq,fZ,exists_eq_left,f',true_and,and_true,B1,aW,dH,fH,eJ,fJ,L2.start,aY,eR,Nat.reduceAdd,Nat.reduceSub,dM,eQ,dI,b_];refine⟨⟨by decide,by decide,by decide⟩,a3v (λn=>?_) (λn=>?_)⟩
    .have hz':(10:Int) ^ Int.toNat 18<=z:=by simpa using n
     refine⟨by rw[au];simpa using hy,b++[z],by simp,λc l=>?_⟩;rcases ay.mp l with q|q
     .exact hc c q
     .rw[aP.mp q];have e:(10:Int) ^ Int.toNat 18=1000000000000000000:=rfl;omega
    .exact⟨by omega,b,rfl,hc⟩
   .rintro ys j ⟨rfl,hy,b,rfl,hc⟩ p3 hp3;simp only[a7J,a3O,B0,tOp,tUn,P0,tC,rI,rI0,rU,b0i,K5,a7K,a8Z,a4m,a4n,a0z,U0,a1O,tCB,a7I,a5a,tSl,G5,a1M,I9,tB,b0j,tOr,b0h,a4o,b0g,a4l,tIf,b0f,rEq,rNe,a2n,ipI,b5l,b5m,dt,dV,dO,dn,ft,V.int.injEq,V.bl.injEq,fZ,exists_eq_left,f',true_and,and_true,B1,aW,dH,fH,eJ,fJ,L2.start,aY,eR,Nat.reduceAdd,Nat.reduceSub,dM,eQ,dI,b_];refine⟨by show 3<=sizeLine;omega,λG d=>?_⟩;have y:=s2.upd (o:=.lst (b.map V.int)) hp3;refine k G p3 _ (y.free d) (s2.free hp3) ⟨?_,b,t,0,A0,?_,?_,hc,h0,h1,by decide,by decide⟩ (y.upd d)
    .exact(A5 (o:=.lst (b.map V.int)) A0 d).symm
    .exact O9 A0 d
    .rw[ag]at hy;omega
def at0{x y z:V}:atI [x,y,z] 0=some x:=rfl
def at1{x y z:V}:atI [x,y,z] 1=some y:=rfl
def at2{x y z:V}:atI [x,y,z] 2=some z:=rfl
def atc{x:V}{xs:qA V}:atI (x::xs) 0=some x:=a0u (j:=0) rfl
def c0m:ixN ((x::xs).map V.int).length 0=some 0:=by
 rw[ag,aY];unfold ixN;rw[aD (by decide),aD (by omega)];rfl
structure PotD(H:Hp)(a b:qE)(cs:qI)(t k:Int)(n:Nat):Prop where
 ha:H a=some (.lst [.ref b,.int t,.int k])
 hb:H b=some (.lst (cs.map V.int))
 len:cs.length<=63
 pos:∀c∈cs,0<=c
 t0:0<=t
 t1:t<2 ^ 61
 k0:0<=k
 k1:k<=n
def PotD.upd{cs:qI}{t k:Int}(h:PotD H a b cs t k n)(hp:H p=none):PotD (L2.upd H p o) a b cs t k n :=
 ⟨O9 h.ha hp,O9 h.hb hp,h.len,h.pos,h.t0,h.t1,h.k0,h.k1⟩
inductive IspTake(vs:qA V)(H:Hp)(Q:VK)(E:XK):Prop
 |mk (a b:qE) (n:Nat) (m:Int) (_:vs=[.ref a,.int m]) (_:PotAt H a b n) (_:n<2 ^ 60) (_:0<m) (_:m<2 ^ 30) (_:∀r H',0<=r->r<m->PotAt H' a b (n+1)->Off [a,b] H H'->Q (.int r) H'):IspTake  vs H Q E
def a2L:Sp:=λvs H Q E=>IspTake  vs H Q E
def sc__law_take:FnScope ["_law_pot_here","_law_many","_law_digit","_law_at","_law_number"] ["_law_pot_here","_law_many"] (A1 R6):={}
def b5W(F:FunAt K mg "_law_take" R6 ["_law_pot_here","_law_many"])(T:Tx mg):Ok P w K mg base "_law_take" 1 ["_law_pot_here","_law_many"] a2L:=by
 refine F.okJ sc__law_take (λvs H Q E h=>?_) (λU f A J s H vs Q E hr h=>?_)
 .obtain⟨a,b,n,m,rfl,_⟩:=h;rfl
 .obtain⟨a,b,n,m,rfl,⟨ne,cs0,t0,k0,hP1,hP2,hP3,hP4,hP5,hP6,hP7,hP8⟩,hn,hm0,hm1,kk⟩:=h;have N:=hr.u60;refine⟨_,(A3 (a7h (a0y (a0J (a8n K N (J0 K (jv 0) A6) (K6 jaN)) (V6 (a3r (J0 K (J0 K (jv 0) A6) A6) A6))))
 (A4 (M6 (b3N K (J0 K (jv 0) A6) (jaC A6 jaN)))))
 (A3 (C6 (a8n K N (J0 K (jv 0) A6) (K6 jaN))
 (A3 (B2 (i:=2) sc__law_take.nd rfl (Or.inl rfl) (a1c (J0 K (J0 K (jv 0) A6) A6) (jv 1)))
 (A3 (a5J (b3U (J0 K (J0 K (jv 0) A6) A6) (jv 1)) (b3P (J0 K (jv 0) A6) A6))
 (A4 (A9 (jv 2)))))
 B7)
 (A3 (a8o K (jv 0) A6 A6)
 (A3 (B2 (i:=3) sc__law_take.nd rfl (Or.inl rfl) (J0 K (jv 0) A6))
 (A3 (B2 (i:=4) sc__law_take.nd rfl (Or.inl rfl) (a1c (S6 (J0 K (jv 0) A6) (Z0 A6 (jv 3))) A6))
 (A3 (B2 (i:=4) sc__law_take.nd rfl (Or.inl rfl) (a1c (Z0 (jv 4) (S6 A6 (Z0 (Z0 A6 (jv 3)) (jv 3)))) A6))
 (A3 (B2 (i:=4) sc__law_take.nd rfl (Or.inl rfl) (S6 (a1c (Z0 (jv 4) (jv 4)) A6) (jv 3)))
 (A4 (A9 (a1c (b3U (a1c (Z0 (jv 4) (S6 (a1c (jv 4) A6) A6)) A6) A6) (jv 1))))))))))),?_⟩
  refine a0g (λσ H2=>Ex3 λ(j:qI) (t k:Int)=>An3 (PotD H2 a b j t k n) (σ=[some (.ref a),some (.int m),none,none,none]) (Off [a,b] H H2)) ?fin λfin=>?_
  case fin =>
   rintro σ H2 ⟨j,t,k,D,rfl,off⟩;refine b6W (b:=b) (cs:=j) (λM q=>ixL (var rfl) con D.ha at0 q) D.hb λp l=>?_;have d:=D.upd (o:=.lst []) l;have g:=off.upd (o:=.lst []) l;generalize upd H2 p (.lst [])=G at d g;cases j with
   |nil =>
    refine C3 ?_;refine⟨_,rfl,a,_,2,_,rfl,rfl,SqL.of d.ha,at2,_,_,rfl,rfl,a,_,2,2,rfl,rfl,d.ha,rfl,?_⟩;have hP:PotAt (upd G a (.lst [.ref b,.int t,.int (k+1)])) a b (n+1) :=
     ⟨ne,[],t,k+1,A0,by rw[A2 ne.symm];exact d.hb,by decide,(λ_ z=>nomatch z),d.t0,d.t1,by have:=d.k0;omega,by have:=d.k1;omega⟩
    have B:Off [a,b] H (upd G a (.lst [.ref b,.int t,.int (k+1)])):=g.set (by simp);have a3:=d.k0;have a4:=d.k1;refine⟨_,rfl,a,_,2,_,rfl,rfl,SqL.of A0,at2,?_⟩;refine⟨_,rfl,a,_,1,_,rfl,rfl,SqL.of A0,at1,?_⟩;simp only[a7J,a3O,B0,tOp,tUn,P0,tC,rI,rI0,rU,b0i,K5,a7K,a8Z,a4m,a4n,a0z,U0,a1O,tCB,a7I,a5a,tSl,G5,a1M,I9,tB,b0j,tOr,b0h,a4o,b0g,a4l,tIf,b0f,rEq,rNe,a2n,ipI,b5l,b5m,dt,dV,dO,dn,ft,V.int.injEq,V.bl.injEq,fZ,exists_eq_left,f',true_and,and_true,B1,aW,dH,fH,eJ,fJ,L2.start,aY,eR,Nat.reduceAdd,Nat.reduceSub,dM,eQ,dI,b_];generalize u:(t+104729*(k+1)) % 2147483629=L;have X:0<=L:=by rw[<-u];exact dy _ (by decide)
    have Y:L<2147483629:=by rw[<-u];exact c_ _ (by decide)
    generalize v:L*(48271+2*(k+1)*(k+1)) % 2147483629=C;have Z:0<=C:=by rw[<-v];exact dy _ (by decide)
    have a0:C<2147483629:=by rw[<-v];exact c_ _ (by decide)
    generalize y:C*C % 2147483587=R;have a1:0<=R:=by rw[<-y];exact dy _ (by decide)
    have a2:R<2147483587:=by rw[<-y];exact c_ _ (by decide)
    refine⟨.inl ⟨by decide,by decide⟩,by decide,.inl ⟨by decide,by decide⟩,.inl ⟨by omega,by omega⟩,.inl ⟨by omega,by omega⟩,by decide,.inl ⟨by omega,by omega⟩,by decide,by decide,.inl ⟨by omega,by omega⟩,by decide,⟨by decide,by decide⟩,hm0,?_⟩;exact kk _ _ (dy _ (by omega)) (c_ _ hm0) hP B
   |cons c j =>
    refine E1 ?_;have I:0<=c:=d.pos c ao;refine⟨_,rfl,a,_,0,_,rfl,rfl,SqL.of d.ha,at0,b,_,0,_,rfl,rfl,SqL.of d.hb,atc,?_⟩;refine⟨_,rfl,_,_,rfl,rfl,hm0,?_⟩;refine⟨_,rfl,a,_,0,_,rfl,rfl,SqL.of d.ha,at0,b,_,0,_,rfl,rfl,SqL.of d.hb,atc,?_⟩;refine⟨_,rfl,_,_,rfl,rfl,⟨hm0,hm1⟩,?_⟩;refine⟨_,rfl,a,_,0,_,rfl,rfl,SqL.of d.ha,at0,b,_,0,0,rfl,rfl,d.hb,c0m,_,rfl,?_⟩;refine kk _ _ (dy _ (by omega)) (c_ _ hm0) ⟨ne,c / m::j,t,k,by rw[A2 ne];exact d.ha,A0,d.len,λx r=>?_,d.t0,d.t1,d.k0,by have:=d.k1;omega⟩ (g.set (by simp));rcases az.mp r with rfl|r
    .exact Int.ediv_nonneg I (by omega)
    .exact d.pos x (ar _ r)
  refine⟨λO σ H1=>∃(j:qI) (t k:Int),PotD H1 a b j t k n/\O=j.length/\σ=[some (.ref a),some (.int m),none,none,none]/\Off [a,b] H H1,
   ⟨_,cs0,t0,k0,⟨hP1,hP2,hP3,hP4,hP5,hP6,hP7,hP8⟩,rfl,rfl,Off.refl _ _⟩,?_⟩
  rintro O σ H1 ⟨j,t,k,D,rfl,rfl,off⟩;refine b6W (b:=b) (cs:=j) (λM q=>ixL (var rfl) con D.ha at0 q) D.hb λp l=>?_;have d:=D.upd (o:=.lst []) l;have g:=off.upd (o:=.lst []) l;generalize upd H1 p (.lst [])=G at d g;cases j with
  |nil =>
   refine C3 (C3 ?_);exact fin _ _ ⟨[],t,k,d,rfl,g⟩
  |cons c j =>
   refine E1 ?_;refine ixL (λM q=>ixL (var rfl) con d.ha at0 q) con d.hb atc ⟨rfl,_,rfl,?_⟩;refine a3v (λe=>?_) (λe=>fin _ _ ⟨c::j,t,k,d,rfl,g⟩);refine⟨λσ' H'=>∃t k,PotD H' a b j t k n/\σ'=[some (.ref a),some (.int m),none,none,none]/\Off [a,b] H H',λσ' H' ⟨t,k,S,W,o'⟩=>⟨j.length,bS _,j,t,k,S,rfl,W,o'⟩,?_⟩;refine⟨_,rfl,a,_,0,_,rfl,rfl,SqL.of d.ha,at0,.inl ⟨rfl,_,SqL.of d.hb⟩,b,_,0,0,_,rfl,rfl,d.hb,by decide,by decide,?_,rfl,?_⟩
   .exact seqIndex_of (by decide) (by simp)
   .exact⟨t,k,⟨by rw[A2 ne];exact d.ha,A0,by have:=d.len;simp at this;omega,λx r=>d.pos x (ar _ r),d.t0,d.t1,d.k0,d.k1⟩,rfl,g.set (by simp)⟩
end
def a3M(h:k<ns.length):atI (ns.map V.int) (k:Int)=some (.int (ns.getD k 0)):=by
 refine a0u ?_;rw[aN,aj h];simp[aB,h]
def b2S(h:PotAt H a b n){xs:qA V}(d:H c=some (.tup xs)):c∉[a,b]:=by
 obtain⟨_,e,t,k,h1,h2,_⟩:=h;simp only[az,bu,cx,not_or];exact⟨J7 d h1 (by intro z;cases z),J7 d h2 (by intro z;cases z)⟩
def IT.off{v:V}(h:IT H v ns)(d:PotAt H a b n)(o:Off [a,b] H H'):IT H' v ns:=by
 obtain⟨c,e,q⟩:=h;exact⟨c,e,o c _ (b2S d q) q⟩
def sqt{K:qF}{xs:qA V}(h:H a=some (.tup xs)):SqK true K H a xs:=SqT.of h
def Bel(xs ys:qI):Bool:=(List.zipWith (λa b=>decide (a<=b)) xs ys).all id
def b9B(xs ys:qI):(List.zipWith (λa b=>V.bl (decide (a<=b))) xs ys).all trV=Bel xs ys:=by
 unfold Bel;induction xs generalizing ys with
 |nil=>rfl
 |cons x xs c =>
  cases ys with
  |nil=>rfl
  |cons y ys=>simp only[bp,cP,c ys];rfl
def a4X{γ:Type}(f:Int->Int->Int)(g:Int->γ):∀xs ys:qI,List.zipWith (λa b=>g (f a b)) xs ys=(List.zipWith f xs ys).map g
 |[],_=>rfl
 |_::_,[]=>rfl
 |x::xs,y::ys=>by rw[bp,bp,aW,a4X f g xs ys]
section
variable {K:qF}
end
def dot(xs ys:qI):Int:=(List.zipWith (λa b=>a*b) xs ys).sum
def Ans(rss:LLI)(ys:qI):Bool:=rss.all λr=>decide (dot r ys=0)
def Sm(ys:qI):Prop:=∀z∈ys,-2 ^ 64<z/\z<2 ^ 64
section
variable {K:qF}
inductive IspRowSum(vs:qA V)(H:Hp)(Q:VK)(E:XK):Prop
 |mk (x:_) (y:_) (xs:_) (ys:_) (_:vs=[x,y]) (_:IT H x xs) (_:IT H y ys) (_:xs.length<=1000) (_:Sm ys) (_:∀H',Same H H'->Q (.int (dot xs ys)) H'):IspRowSum  vs H Q E
def a6s:Sp:=λvs H Q E=>IspRowSum  vs H Q E
def a7P:FnScope ["row","one"] ["row","one"] (A1 a0h):={}
def a8b(F:FunAt K mg "row_sum" a0h ["row","one"])(T:Tx mg):Ok P w K mg base "row_sum" 1 ["row","one"] a6s:=by
 refine F.okJ a7P (λvs H Q E h=>?_) (λd f A c s H vs Q E l h=>?_)
 .obtain⟨x,y,xs,ys,rfl,_⟩:=h;rfl
 .obtain⟨_,_,xs,ys,rfl,⟨a,rfl,ha⟩,⟨b,rfl,hb⟩,hl,hs,k⟩:=h;refine⟨_,(A4 (A9 (a8p K rfl T.b_sum (jaC (B9 (N:=["a","b"]) (src:=[none,none]) (a1y K rfl T.b_zip (jaC (jv 0) (jaC (jv 1) jaN))) (by show B8 _ _=true;rfl) (by rfl) (by rfl)
 (λ_ _ _ _ _=>(P8 K 2 (B3 (A8 (i:=0) (L2.nd ["a","b"]) rfl (Or.inl rfl)) (B3 (A8 (i:=1) (L2.nd ["a","b"]) rfl (Or.inl rfl)) K2)))) (λ_ _ _ _ _=>C2) (λ_ _ _ _ _=>(Z0 (jv 0) (jv 1)))) jaN)))),?_⟩
  refine⟨_,rfl,_,rfl,true,true,a,b,rfl,⟨_,SqT.of ha⟩,⟨_,SqT.of hb⟩,?_⟩;refine a4h (caps:=[]) (λx y=>V.int (x*y)) hl (λH' s=>⟨sqt (s _ _ ha),sqt (s _ _ hb)⟩) rfl (λx y H1 j _ g _ q=>⟨_,rfl,_,rfl,_,_,rfl,rfl,.inr (hs y g),q⟩) λH1 p s e=>?_;rw[a4X (λx y=>x*y) V.int];exact⟨false,p,_,rfl,SqL.of A0,k _ (s.upd e)⟩
inductive IspSums(vs:qA V)(H:Hp)(Q:VK)(E:XK):Prop
 |mk (a:qE) (y:V) (us:qA V) (rss:LLI) (ys:qI) (_:vs=[.ref a,y]) (_:H a=some (.tup us)) (_:Its H us rss) (_:IT H y ys) (_:us.length<=1000) (_:(∀r∈rss,r.length<=1000)) (_:Sm ys) (_:∀v H',Same H H'->IT H' v (rss.map λr=>dot r ys)->Q v H'):IspSums  vs H Q E
def a7M:Sp:=λvs H Q E=>IspSums  vs H Q E
def b5c:FnScope ["rows","one"] ["rows","one"] (A1 a5w):={}
def b5X(F:FunAt K mg "sums" a5w ["rows","one"])(T:Tx mg)(b:Ok P w K mg base "row_sum" 1 ["row","one"] a6s):Ok P w K mg base "sums" 2 ["rows","one"] a7M:=by
 refine F.okJ b5c (λvs H Q E h=>?_) (λg f A e s H vs Q E d h=>?_)
 .obtain⟨a,y,us,rss,ys,rfl,_⟩:=h;rfl
 .obtain⟨a,y,us,rss,ys,rfl,ha,hI,hy,c,hl2,hs,k⟩:=h;refine⟨_,(A4 (A9 (D9 K rfl T.b_tuple (jaC (B9 (N:=["row","one"]) (src:=[none,some 1]) (K1 K (jv 0)) (by show B8 _ _=true;rfl) (by rfl) (by rfl)
 (λ_ _ _ _ _=>(A8 (i:=0) (L2.nd ["row","one"]) rfl (Or.inl rfl))) (λ_ _ _ _ _=>C2) (λ_ _ _ _ _=>(A7 b (d.mono (by omega)) rfl (jaC (jv 0) (jaC (jv 1) jaN))))) jaN)))),?_⟩
  refine⟨_,rfl,a,rfl,⟨_,SqT.of ha⟩,?_⟩;refine a8Y (caps:=[some y]) (λr=>V.int (dot r ys)) c (λH' s=>SqT.of (s _ _ ha)) hI rfl (λv r H1 n d m s1 q=>⟨_,rfl,_,rfl,v,y,r,ys,rfl,m,hy.same s1,hl2 r d,hs,q⟩) λH1 p s j=>?_;rw[show(rss.map λr=>V.int (dot r ys))=(rss.map λr=>dot r ys).map V.int by rw[cN];rfl];refine⟨p,_,rfl,.inl ⟨SqL.of A0,λl c=>?_⟩⟩;exact k _ _ ((s.upd j).upd c) ⟨l,rfl,A0⟩
inductive IspIsAns(vs:qA V)(H:Hp)(Q:VK)(E:XK):Prop
 |mk (a:qE) (y:V) (us:qA V) (rss:LLI) (ys:qI) (_:vs=[.ref a,y]) (_:H a=some (.tup us)) (_:Its H us rss) (_:IT H y ys) (_:us.length<=1000) (_:(∀r∈rss,r.length<=1000)) (_:Sm ys) (_:∀H',Same H H'->Q (.bl (Ans rss ys)) H'):IspIsAns  vs H Q E
def a0e:Sp:=λvs H Q E=>IspIsAns  vs H Q E
def a5r:FnScope ["rows","one"] ["rows","one"] (A1 R1):={}
def a5E(F:FunAt K mg "is_answer" R1 ["rows","one"])(T:Tx mg)(b:Ok P w K mg base "sums" 2 ["rows","one"] a7M):Ok P w K mg base "is_answer" 3 ["rows","one"] a0e:=by
 refine F.okJ a5r (λvs H Q E h=>?_) (λj f A d s H vs Q E m h=>?_)
 .obtain⟨a,y,us,rss,ys,rfl,_⟩:=h;rfl
 .obtain⟨a,y,us,rss,ys,rfl,ha,hI,hy,hl,hl2,hs,k⟩:=h;refine⟨_,(A4 (A9 (L4 K rfl T.b_all (jaC (B9 (N:=["total"]) (src:=[none]) (K1 K (A7 b (m.mono (by omega)) rfl (jaC (jv 0) (jaC (jv 1) jaN)))) (by show B8 _ _=true;rfl) (by rfl) (by rfl)
 (λ_ _ _ _ _=>(A8 (i:=0) (L2.nd ["total"]) rfl (Or.inl rfl))) (λ_ _ _ _ _=>C2) (λ_ _ _ _ _=>(a1a (jv 0) A6))) jaN)))),?_⟩
  refine⟨_,rfl,_,rfl,a,y,us,rss,ys,rfl,ha,hI,hy,hl,hl2,hs,λv H1 s1 c=>?_⟩;obtain⟨q,rfl,g⟩:=c;refine⟨q,rfl,⟨_,SqT.of g⟩,?_⟩;refine a6m (caps:=[]) (λx=>V.bl (decide (V.int x=V.int 0))) (by rw[ag,<-hI.1];exact hl) (λH' s=>SqT.of (s _ _ g)) rfl (λx H2 n _ _ q=>⟨_,rfl,rfl,q⟩) λH2 p s2 l=>?_;refine⟨false,p,_,rfl,SqL.of A0,?_,?_⟩
  .rw[aH];intro v c;obtain⟨x,_,rfl⟩:=aT.mp c;rfl
  .have e:((rss.map λr=>dot r ys).map λx=>V.bl (decide (V.int x=V.int 0))).all trV=Ans rss ys:=by
    rw[List.all_map,List.all_map];unfold Ans;congr 1;funext r;show decide (V.int (dot r ys)=V.int 0)=decide (dot r ys=0);simp
   rw[e];exact k _ (s1.trans (s2.upd l))
end
def a6d{α β γ:Type}(f:α->β->Int)(g:Int->γ):∀(xs:qA α) (ys:qA β),List.zipWith (λa b=>g (f a b)) xs ys=(List.zipWith f xs ys).map g
 |[],_=>rfl
 |_::_,[]=>rfl
 |x::xs,y::ys=>by rw[bp,bp,aW,a6d f g xs ys]
def S0(rss:LLI)(ts:qI)(j:Nat):Int:=(List.zipWith (λt r=>t*r.getD j 0) ts rss).sum
def a1i(rss:LLI)(ys:qI)(j:Nat):Int:=S0 rss (rss.map λr=>dot r ys) j
def Rs(n:Nat)(rss:LLI):Prop:=∀r∈rss,r.length=n/\Sm r
def Sm.at(h:Sm r)(a:j<r.length) : -2 ^ 64<r.getD j 0/\r.getD j 0<2 ^ 64:=by
 refine h _ ?_;rw[aB,aj a];exact cY _
section
variable {K:qF}
inductive IspPullOf(vs:qA V)(H:Hp)(Q:VK)(E:XK):Prop
 |mk (a:qE) (y:V) (us:qA V) (rss:LLI) (ts:qI) (j n:Nat) (_:vs=[.ref a,y,.int j]) (_:H a=some (.tup us)) (_:Its H us rss) (_:IT H y ts) (_:ts.length<=1000) (_:j<n) (_:n<=1000) (_:Rs n rss) (_:∀H',Same H H'->Q (.int (S0 rss ts j)) H'):IspPullOf  vs H Q E
def a6u:Sp:=λvs H Q E=>IspPullOf  vs H Q E
def a7Q:FnScope ["rows","totals","j"] ["rows","totals","j"] (A1 a0i):={}
def a8c(F:FunAt K mg "pull_of" a0i ["rows","totals","j"])(T:Tx mg):Ok P w K mg base "pull_of" 1 ["rows","totals","j"] a6u:=by
 refine F.okJ a7Q (λvs H Q E h=>?_) (λe f A c s H vs Q E d h=>?_)
 .obtain⟨a,y,us,rss,ts,j,n,rfl,_⟩:=h;rfl
 .obtain⟨a,_,us,rss,ts,j,n,rfl,ha,hI,⟨b,rfl,hb⟩,hl,hj,hn,hR,k⟩:=h;refine⟨_,(A4 (A9 (a8p K rfl T.b_sum (jaC (B9 (N:=["total","row","j"]) (src:=[none,none,some 2]) (a1y K rfl T.b_zip (jaC (jv 1) (jaC (jv 0) jaN))) (by show B8 _ _=true;rfl) (by rfl) (by rfl)
 (λ_ _ _ _ _=>(P8 K 2 (B3 (A8 (i:=0) (L2.nd ["total","row","j"]) rfl (Or.inl rfl)) (B3 (A8 (i:=1) (L2.nd ["total","row","j"]) rfl (Or.inl rfl)) K2)))) (λ_ _ _ _ _=>C2) (λ_ _ _ _ _=>(Z0 (jv 0) (K7 K (jv 1) (jv 2))))) jaN)))),?_⟩
  refine⟨_,rfl,_,rfl,true,true,b,a,rfl,⟨_,SqT.of hb⟩,⟨_,SqT.of ha⟩,?_⟩;refine b1H (caps:=[some (.int j)]) (λt r=>V.int (t*r.getD j 0)) hl (λH' s=>⟨sqt (s _ _ hb),sqt (s _ _ ha)⟩) hI rfl (λx v r H1 o _ d m _ q=>?_) λH1 p s l=>?_
  .obtain⟨va,rfl,hva⟩:=m;obtain⟨u,g⟩:=hR r d;exact⟨_,rfl,_,rfl,_,rfl,va,_,_,_,rfl,rfl,SqT.of hva,a3M (by omega),_,_,rfl,rfl,.inr (g.at (by omega)),q⟩
  .rw[a6d (λt r=>t*List.getD r j 0) V.int];exact⟨false,p,_,rfl,SqL.of A0,k _ (s.upd l)⟩
inductive IspFalls(vs:qA V)(H:Hp)(Q:VK)(E:XK):Prop
 |mk (a:qE) (y:V) (us:qA V) (rss:LLI) (ys:qI) (_:vs=[.ref a,y]) (_:H a=some (.tup us)) (_:Its H us rss) (_:IT H y ys) (_:us.length<=1000) (_:ys.length<=1000) (_:Rs ys.length rss) (_:Sm ys) (_:∀v H',Same H H'->IT H' v (((List.range ys.length).filter λj=>decide (a1i rss ys j<0)).map λ(i:Nat)=>(i:Int))->Q v H'):IspFalls  vs H Q E
def a9p:Sp:=λvs H Q E=>IspFalls  vs H Q E
def sc_falls:FnScope ["rows","one","totals"] ["rows","one"] (A1 a2r):={}
def b3s(F:FunAt K mg "falls" a2r ["rows","one"])(T:Tx mg)(b:Ok P w K mg base "pull_of" 1 ["rows","totals","j"] a6u)(c:Ok P w K mg base "sums" 2 ["rows","one"] a7M):Ok P w K mg base "falls" 3 ["rows","one"] a9p:=by
 refine F.okJ sc_falls (λvs H Q E h=>?_) (λn f A m s H vs Q E e h=>?_)
 .obtain⟨a,y,us,rss,ts,rfl,_⟩:=h;rfl
 .obtain⟨a,y,us,rss,ys,rfl,ha,hI,hy,d,hn,hR,hs,k⟩:=h;refine⟨_,(A3 (B2 (i:=2) sc_falls.nd rfl (Or.inr rfl) (A7 c (e.mono (by omega)) rfl (jaC (jv 0) (jaC (jv 1) jaN))))
 (A4 (A9 (D9 K rfl T.b_tuple (jaC (B9 (N:=["j","rows","totals"]) (src:=[none,some 0,some 2]) (L3 rfl T.b_range (jaC (C7 K rfl T.b_len (jaC (jv 1) jaN)) jaN)) (by show B8 _ _=true;rfl) (by rfl) (by rfl)
 (λ_ _ _ _ _=>(A8 (i:=0) (L2.nd ["j","rows","totals"]) rfl (Or.inl rfl))) (λ_ _ _ _ _=>(a1z (b3H (A7 b (e.mono (by omega)) rfl (jaC (jv 1) (jaC (jv 2) (jaC (jv 0) jaN)))) A6))) (λ_ _ _ _ _=>(jv 0))) jaN))))),?_⟩
  refine⟨_,rfl,_,rfl,a,y,us,rss,ys,rfl,ha,hI,hy,d,λr e=>by rw[(hR r e).1];exact hn,hs,λv H1 s1 t=>?_⟩;dsimp only[B0];obtain⟨x,rfl,g⟩:=hy.same s1;refine⟨_,rfl,x,_,rfl,.inr (SqT.of g),_,rfl,by omega,by rw[ag];omega,?_⟩;rw[bX,ag];refine a7V (caps:=[some (.ref a),some v]) (λj=>decide (a1i rss ys j<0)) hn rfl (λi H2 B hi s2 q=>?_) λH2 p s2 o=>?_
  .refine⟨_,rfl,_,rfl,_,rfl,a,v,us,rss,_,i,ys.length,rfl,(s1.trans s2) _ _ ha,hI.same (s1.trans s2),t.same s2,by rw[ag,<-hI.1];exact d,hi,hn,hR,λz u=>?_⟩;exact⟨_,_,rfl,rfl,_,rfl,q _ u⟩
  .refine⟨p,_,rfl,.inl ⟨SqL.of A0,λl d=>?_⟩⟩;exact k _ _ (s1.trans ((s2.upd o).upd d)) ⟨l,rfl,A0⟩
end
def b4q(x y:Int)(xs ys:qI):dot (x::xs) (y::ys)=x*y+dot xs ys:=by unfold dot;rw[bp,bK]
def a4N:∀(xs ys:qI),xs.length=ys.length->dot xs ys=((List.range ys.length).map λj=>xs.getD j 0*ys.getD j 0).sum
 |[],[],_=>rfl
 |x::xs,y::ys,h=>by
  rw[b4q,a4N xs ys (by simpa using h),aY,List.range_succ_eq_map,aW,bK,cN];rfl
def a9e(l:qA Nat)(f g:Nat->Int):(l.map λj=>f j+g j).sum=(l.map f).sum+(l.map g).sum:=by
 induction l with
 |nil=>rfl
 |cons x l a=>simp only[aW,bK,a];omega
def a5b(l:qA Nat)(c:Int)(f:Nat->Int):(l.map λj=>c*f j).sum=c*(l.map f).sum:=by
 induction l with
 |nil=>simp
 |cons x l a=>simp only[aW,bK,a,Int.mul_add]
def bump(now:qI)(j:Nat):qI:=now.set j (now.getD j 0+1)
def Pl(rss:LLI)(now xs:qI):qA Nat:=(List.range xs.length).filter λj=>decide (now.getD j 0<xs.getD j 0) && (Ans rss now || decide (a1i rss now j<0))
def Under(now xs:qI):Prop:=now.length=xs.length/\∀j,j<xs.length->now.getD j 0<=xs.getD j 0
def G0(a:qI)(j:Nat):(bump a j).length=a.length:=List.length_set
def a7Z{a:qI}(h:j∈Pl rss a xs):j<xs.length/\a.getD j 0<xs.getD j 0:=by
 unfold Pl at h;rw[aZ,bb,aJ,bz]at h;exact⟨h.1,h.2.1⟩
def a1g(a:qI)(j k:Nat)(b:j<a.length):(bump a j).getD k 0=if k=j then a.getD j 0+1 else a.getD k 0:=by
 unfold bump;rw[aB,List.getElem?_set];by_cases e:j=k
 .subst e;rw[aD rfl,aD b,aD rfl];rfl
 .rw[aq e,aq (dv e),aB]
def Under.bump{a:qI}(h:Under a xs)(b:j∈Pl rss a xs):Under (bump a j) xs:=by
 obtain⟨h1,h2⟩:=a7Z b;refine⟨by rw[G0];exact h.1,λk c=>?_⟩;rw[a1g _ _ _ (by rw[h.1];exact h1)];by_cases e:k=j
 .rw[aD e,e];omega
 .rw[aq e];exact h.2 k c
def a9c:∀(xs:qI) (k:Nat) (z:Int),k<xs.length->(xs.set k z).sum=xs.sum-xs.getD k 0+z
 |[],_,_,h=>by simp at h
 |x::xs,0,z,_=>by rw[dt,bK,bK,List.getD_cons_zero];omega
 |x::xs,k+1,z,h=>by rw[dV,bK,bK,List.getD_cons_succ,a9c xs k z (by simpa using h)];omega
def a1f(a:qI)(j:Nat)(h:j<a.length):(bump a j).sum=a.sum+1:=by
 unfold bump;rw[a9c _ _ _ h];omega
def Under.tail{y:Int}{ys:qI}(h:Under (x::xs) (y::ys)):x<=y/\Under xs ys :=
 ⟨by simpa using h.2 0 (by simp),by simpa using h.1,λj a=>by simpa using h.2 (j+1) (by simpa using a)⟩
def Under.sum:∀{xs ys:qI},Under xs ys->xs.sum<=ys.sum/\(xs≠ys->xs.sum<ys.sum)
 |[],[],_=>⟨Int.le_refl _,λh=>absurd rfl h⟩
 |[],_::_,h=>by have:=h.1;simp at this
 |_::_,[],h=>by have:=h.1;simp at this
 |x::xs,y::ys,h=>by
  obtain⟨h1,h2⟩:=h.tail;obtain⟨b,a⟩:=Under.sum h2;rw[bK,bK];refine⟨by omega,λne=>?_⟩;by_cases e:xs=ys
  .subst e;have:x≠y:=λq=>ne (by rw[q]);omega
  .have:=a e;omega
def Under.ne:∀{xs ys:qI},Under xs ys->xs≠ys->∃j,j<ys.length/\xs.getD j 0<ys.getD j 0
 |[],[],_,h=>absurd rfl h
 |[],_::_,h,_=>by have:=h.1;simp at this
 |_::_,[],h,_=>by have:=h.1;simp at this
 |x::xs,y::ys,h,ne=>by
  obtain⟨h1,h2⟩:=h.tail;by_cases e:xs=ys
  .subst e;have:x≠y:=λq=>ne (by rw[q]);exact⟨0,by simp,by simp;omega⟩
  .obtain⟨j,q1,q2⟩:=Under.ne h2 e;exact⟨j+1,by simpa using q1,by simpa using q2⟩
def b1Y(l:qI)(h:∀x∈l,0<=x):0<=l.sum:=by
 induction l with
 |nil=>exact Int.le_refl _
 |cons x l b =>
  rw[bK];have:=h x (ao ..);have:=b λy a=>h y (ar _ a);omega
def a9d(l:qI)(h:∀x∈l,0<=x)(y:Int)(b:y∈l)(hp:0<y):0<l.sum:=by
 induction l with
 |nil=>cases b
 |cons x l c =>
  rw[bK];have e:=h x (ao ..);have d:=b1Y l λz a=>h z (ar _ a);rcases az.mp b with q|q
  .omega
  .have:=c (λz a=>h z (ar _ a)) q;omega
def a1Q(t:Int):0<=t*t:=by
 rcases Int.le_total 0 t with h|h
 .exact Int.mul_nonneg h h
 .have:=Int.mul_nonneg (a := -t) (b := -t) (by omega) (by omega);rwa[Int.neg_mul_neg]at this
def a2H(ys:qI):∀(rss:LLI) (a:qI),(∀r∈rss,r.length=ys.length)->a.length=rss.length ->
  ((List.range ys.length).map λj=>S0 rss a j*ys.getD j 0).sum=(List.zipWith (λt r=>t*dot r ys) a rss).sum
 |[],[],_,_=>by
  have e:((List.range ys.length).map λj=>S0 [] [] j*ys.getD j 0)=(List.range ys.length).map λj=>0*ys.getD j 0:=rfl;rw[e,a5b,Int.zero_mul];rfl
 |[],_::_,_,h=>by simp at h
 |_::_,[],_,h=>by simp at h
 |r::rss,t::a,h,b=>by
  have d:=a2H ys rss a (λq c=>h q (ar _ c)) (by simpa using b);rw[bp,bK,<-d];have e:(λj=>S0 (r::rss) (t::a) j*ys.getD j 0)=λj=>t*(r.getD j 0*ys.getD j 0)+S0 rss a j*ys.getD j 0:=by
   funext j;unfold S0;rw[bp,bK,Int.add_mul,Int.mul_assoc]
  rw[e,a9e,a5b,<-a4N r ys (h r (ao ..))]
def a9f:∀(rss:LLI) (a xs:qI),Ans rss xs=true->(List.zipWith (λt r=>t*dot r xs) (rss.map λr=>dot r a) rss).sum=0
 |[],_,_,_=>rfl
 |r::rss,a,xs,h=>by
  unfold Ans at h;rw[cP,aJ,bz]at h;rw[aW,bp,bK,h.1,a9f rss a xs h.2];omega
def b7J(rss:LLI)(a:qI)(h:Ans rss a=false):0<(List.zipWith (λt r=>t*dot r a) (rss.map λr=>dot r a) rss).sum:=by
 have e:List.zipWith (λt r=>t*dot r a) (rss.map λr=>dot r a) rss=rss.map λr=>dot r a*dot r a:=by
  clear h;induction rss with
  |nil=>rfl
  |cons r rss f=>rw[aW,bp,aW,f]
 rw[e];have:∃r∈rss,dot r a≠0:=by
  refine bR λq=>?_;have:Ans rss a=true:=by
   unfold Ans;rw[aH];intro r c;rw[bz];exact bR λz=>q ⟨r,c,z⟩
  rw[this]at h;cases h
 obtain⟨r,c,b⟩:=this;refine a9d _ (λx d=>?_) (dot r a*dot r a) (aT.mpr ⟨r,c,rfl⟩) ?_
 .obtain⟨q,_,rfl⟩:=aT.mp d;exact a1Q _
 .have h1:=a1Q (dot r a);have h2:dot r a*dot r a≠0:=λz=>by
   rcases Int.mul_eq_zero.mp z with q|q<;>exact b q
  omega
def b7h(rss:LLI)(a xs:qI)(hR:∀r∈rss,r.length=xs.length)(c:Under a xs)(h:a≠xs)(m:Ans rss xs=true):Pl rss a xs≠[]:=by
 intro b;unfold Pl at b;rw[List.filter_eq_nil_iff]at b;cases d:Ans rss a with
 |true =>
  obtain⟨j,h1,h2⟩:=c.ne h;refine b j (bb.mpr h1) ?_;rw[d,aJ,bz];exact⟨h2,rfl⟩
 |false =>
  have p1:=a2H a rss (rss.map λr=>dot r a) (λr o=>by rw[hR r o,c.1]) (by simp);have p2:=a2H xs rss (rss.map λr=>dot r a) hR (by simp);have w:=b7J rss a d;have u:=a9f rss a xs m;rw[c.1]at p1;have v:((List.range xs.length).map λj=>S0 rss (rss.map λr=>dot r a) j*a.getD j 0+(-1)*(S0 rss (rss.map λr=>dot r a) j*xs.getD j 0)).sum<=0:=by
   have hs:∀(l:qI),(∀x∈l,x<=0)->l.sum<=0:=λl k=>by
    induction l with
    |nil=>exact Int.le_refl _
    |cons x l t =>
     rw[bK];have:=k x (ao ..);have:=t λy s=>k y (ar _ s);omega
   refine hs _ λx p=>?_;obtain⟨j,i,rfl⟩:=aT.mp p;have f:=bb.mp i;have n:=c.2 j f;have e:S0 rss (rss.map λr=>dot r a) j*a.getD j 0+(-1)*(S0 rss (rss.map λr=>dot r a) j*xs.getD j 0) = -(S0 rss (rss.map λr=>dot r a) j*(xs.getD j 0-a.getD j 0)):=by
    rw[Int.mul_sub];omega
   rw[e];by_cases g:a.getD j 0<xs.getD j 0
   .have hp:0<=S0 rss (rss.map λr=>dot r a) j:=by
     have q:=b j i;rw[d]at q;have A:¬a1i rss a j<0:=λz=>q (by simp only[cQ,aJ,bz];exact⟨g,z⟩);show 0<=a1i rss a j;omega
    have:=Int.mul_nonneg hp (show 0<=xs.getD j 0-a.getD j 0 by omega);omega
   .have:xs.getD j 0-a.getD j 0=0:=by omega
    rw[this,Int.mul_zero];exact Int.le_refl _
  rw[a9e,a5b,p1,p2,u]at v;omega
section
variable {K:qF}
inductive IspBelow(vs:qA V)(H:Hp)(Q:VK)(E:XK):Prop
 |mk (x:_) (y:_) (xs:_) (ys:_) (_:vs=[x,y]) (_:IT H x xs) (_:IT H y ys) (_:xs.length<=1000) (_:∀H',Same H H'->Q (.bl (Bel xs ys)) H'):IspBelow  vs H Q E
def a2m:Sp:=λvs H Q E=>IspBelow  vs H Q E
def b2s:FnScope ["one","other"] ["one","other"] (A1 a2s):={}
def b3u(F:FunAt K mg "below" a2s ["one","other"])(T:Tx mg):Ok P w K mg base "below" 1 ["one","other"] a2m:=by
 refine F.okJ b2s (λvs H Q E h=>?_) (λd f A c s H vs Q E l h=>?_)
 .obtain⟨x,y,xs,ys,rfl,_⟩:=h;rfl
 .obtain⟨_,_,xs,ys,rfl,⟨a,rfl,ha⟩,⟨b,rfl,hb⟩,hl,k⟩:=h;refine⟨_,(A4 (A9 (L4 K rfl T.b_all (jaC (B9 (N:=["a","b"]) (src:=[none,none]) (a1y K rfl T.b_zip (jaC (jv 0) (jaC (jv 1) jaN))) (by show B8 _ _=true;rfl) (by rfl) (by rfl)
 (λ_ _ _ _ _=>(P8 K 2 (B3 (A8 (i:=0) (L2.nd ["a","b"]) rfl (Or.inl rfl)) (B3 (A8 (i:=1) (L2.nd ["a","b"]) rfl (Or.inl rfl)) K2)))) (λ_ _ _ _ _=>C2) (λ_ _ _ _ _=>(b7r (jv 0) (jv 1)))) jaN)))),?_⟩
  refine⟨_,rfl,_,rfl,true,true,a,b,rfl,⟨_,SqT.of ha⟩,⟨_,SqT.of hb⟩,?_⟩;refine b1J (caps:=[]) (λx y=>V.bl (decide (x<=y))) (sqt ha) (sqt hb) hl (λH' s=>⟨sqt (s _ _ ha),sqt (s _ _ hb)⟩) rfl (λx y H1 j _ q=>⟨_,rfl,_,rfl,_,_,rfl,rfl,q⟩) λH1 p s e=>?_;refine⟨false,p,_,rfl,SqL.of A0,?_,?_⟩
  .rw[aH];intro v g;obtain⟨i,hi,rfl⟩:=cu.mp g;rw[List.getElem_zipWith];rfl
  .rw[b9B];exact k _ (s.upd e)
inductive IspUnit(vs:qA V)(H:Hp)(Q:VK)(E:XK):Prop
 |mk (wd:Int) (n j:Nat) (_:vs=[.int wd,.int j]) (_:wd=n) (_:n<=1000) (_:j<n) (_:∀v H',Same H H'->IT H' v ((List.range n).map λi=>if i=j then 1 else 0)->Q v H'):IspUnit  vs H Q E
def b2a:Sp:=λvs H Q E=>IspUnit  vs H Q E
def b5b:FnScope ["width","j"] ["width","j"] (A1 a5v):={}
def b5U(F:FunAt K mg "unit" a5v ["width","j"])(T:Tx mg):Ok P w K mg base "unit" 1 ["width","j"] b2a:=by
 refine F.okJ b5b (λvs H Q E h=>?_) (λc f A b s H vs Q E o h=>?_)
 .obtain⟨_,n,j,rfl,_⟩:=h;rfl
 .obtain⟨_,n,j,rfl,rfl,hn,hj,k⟩:=h;refine⟨_,(A4 (A9 (D9 K rfl T.b_tuple (jaC (B9 (N:=["k","j"]) (src:=[none,some 1]) (L3 rfl T.b_range (jaC (jv 0) jaN)) (by show B8 _ _=true;rfl) (by rfl) (by rfl)
 (λ_ _ _ _ _=>(A8 (i:=0) (L2.nd ["k","j"]) rfl (Or.inl rfl))) (λ_ _ _ _ _=>C2) (λ_ _ _ _ _=>(c0b (a3r (jv 0) (jv 1)) A6 A6))) jaN)))),?_⟩
  refine⟨_,rfl,n,rfl,by omega,by omega,?_⟩;rw[bX];refine a7U (caps:=[some (.int j)]) (λi=>V.int (if i=j then 1 else 0)) hn rfl (λi H1 m hi _ q=>?_) λH1 p s g=>?_
  .refine⟨_,rfl,_,rfl,rfl,_,rfl,a3v (λe=>?_) (λe=>?_)⟩
   .have e1:(i:Int)=(j:Int):=by simpa using e
    have a:i=j:=by omega
    rw[aD a]at q;exact q
   .have e1:¬(i:Int)=(j:Int):=by simpa using e
    have a:i≠j:=by omega
    rw[aq a]at q;exact q
  .rw[show((List.range n).map λi=>V.int (if i=j then 1 else 0))=((List.range n).map λi=>if i=j then(1:Int)else 0).map V.int by rw[cN];rfl];refine⟨p,_,rfl,.inl ⟨SqL.of A0,λl d=>?_⟩⟩;exact k _ _ ((s.upd g).upd d) ⟨l,rfl,A0⟩
def cV:qD Int->V
 |none=>.non
 |some c=>.int c
def b1s(c:qD Int)(x:Int):Bool:=match c with|none=>true|some c=>decide (x<=c)
def Wi(cs:qA (qD Int))(xs:qI):Bool:=(List.zipWith b1s cs xs).all id
def b9C(cs:qA (qD Int))(xs:qI):(List.zipWith (λc x=>V.bl (b1s c x)) cs xs).all trV=Wi cs xs:=by
 unfold Wi;induction cs generalizing xs with
 |nil=>rfl
 |cons c cs a =>
  cases xs with
  |nil=>rfl
  |cons x xs=>rw[bp,bp,cP,cP,a];rfl
inductive IspWithin(vs:qA V)(H:Hp)(Q:VK)(E:XK):Prop
 |mk (a b:qE) (cs:qA (qD Int)) (xs:qI) (_:vs=[.ref a,.ref b]) (_:H a=some (.tup (cs.map cV))) (_:H b=some (.tup (xs.map V.int))) (_:cs.length<=1000) (_:∀H',Same H H'->Q (.bl (Wi cs xs)) H'):IspWithin  vs H Q E
def a2K:Sp:=λvs H Q E=>IspWithin  vs H Q E
def b0p:FnScope ["caps","one"] ["caps","one"] (A1 a0T):={}
def a4A(F:FunAt K mg "within" a0T ["caps","one"])(T:Tx mg):Ok P w K mg base "within" 1 ["caps","one"] a2K:=by
 refine F.okJ b0p (λvs H Q E h=>?_) (λe f A d s H vs Q E m h=>?_)
 .obtain⟨a,b,cs,xs,rfl,_⟩:=h;rfl
 .obtain⟨a,b,cs,xs,rfl,ha,hb,hl,k⟩:=h;refine⟨_,(A4 (A9 (L4 K rfl T.b_all (jaC (B9 (N:=["cap","number"]) (src:=[none,none]) (a1y K rfl T.b_zip (jaC (jv 0) (jaC (jv 1) jaN))) (by show B8 _ _=true;rfl) (by rfl) (by rfl)
 (λ_ _ _ _ _=>(P8 K 2 (B3 (A8 (i:=0) (L2.nd ["cap","number"]) rfl (Or.inl rfl)) (B3 (A8 (i:=1) (L2.nd ["cap","number"]) rfl (Or.inl rfl)) K2)))) (λ_ _ _ _ _=>C2) (λ_ _ _ _ _=>(b8X (b8S (jv 0) Y7) (W5 (b7r (jv 1) (jv 0)))))) jaN)))),?_⟩
  refine⟨_,rfl,_,rfl,true,true,a,b,rfl,⟨_,SqT.of ha⟩,⟨_,SqT.of hb⟩,?_⟩;refine b4J (caps:=[]) cV V.int (λc x=>V.bl (b1s c x)) hl (λH' s=>⟨sqt (s _ _ ha),sqt (s _ _ hb)⟩) rfl (λc x H1 l _ _ _ q=>?_) λH1 p s g=>?_
  .cases c with
   |none=>exact⟨_,rfl,rfl,true,rfl,E1 (q _ (Same.refl _))⟩
   |some c=>exact⟨_,rfl,rfl,false,rfl,C3 ⟨_,rfl,_,rfl,_,_,rfl,rfl,q _ (Same.refl _)⟩⟩
  refine⟨false,p,_,rfl,SqL.of A0,?_,?_⟩
  .rw[aH];intro v j;obtain⟨i,hi,rfl⟩:=cu.mp j;rw[List.getElem_zipWith];rfl
  .rw[b9C];exact k _ (s.upd g)
end
def M8(n j:Nat):qI:=(List.range n).map λi=>if i=j then(1:Int)else 0
def L5(cs:qA (qD Int)):LLI:=((List.range cs.length).map (M8 cs.length)).filter λu=>Wi cs u
def a7v(c:qD Int)(x:Int):Bool:=match c with|none=>true|some c=>decide (x<c)
def StP(rss:LLI)(cs:qA (qD Int))(ys:qI):qA Nat:=((List.range ys.length).filter λj=>decide (a1i rss ys j<0)).filter λj=>a7v (cs.getD j none) (ys.getD j 0)
section
variable {K:qF}
inductive IspFirst(vs:qA V)(H:Hp)(Q:VK)(E:XK):Prop
 |mk (a:qE) (cs:qA (qD Int)) (_:vs=[.ref a]) (_:H a=some (.tup (cs.map cV))) (_:1<=cs.length) (_:cs.length<=100) (_:∀p zs tss H',Same H H'->H' p=some (.tup zs)->Its H' zs tss->tss.Perm (L5 cs)->E2 tss->Q (.ref p) H'):IspFirst  vs H Q E
def a5k:Sp:=λvs H Q E=>IspFirst  vs H Q E
def sc_first_steps:FnScope ["caps","units"] ["caps"] (A1 L8):={}
def a3e(F:FunAt K mg "first_steps" L8 ["caps"])(T:Tx mg)(c:Ok P w K mg base "unit" 1 ["width","j"] b2a)(b:Ok P w K mg base "within" 1 ["caps","one"] a2K):Ok P w K mg base "first_steps" 2 ["caps"] a5k:=by
 refine F.okJ sc_first_steps (λvs H Q E h=>?_) (λU f A L s H vs Q E n h=>?_)
 .obtain⟨a,cs,rfl,_⟩:=h;rfl
 .obtain⟨a,cs,rfl,ha,h1,h2,k⟩:=h;have Y:(3000:Nat)<=sizeLine:=by rw[aX];decide
  refine⟨_,(A3 (a2v (i:=1) sc_first_steps.nd rfl (Or.inl rfl) (N:=["j","caps"]) (src:=[none,some 0]) (L3 rfl T.b_range (jaC (C7 K rfl T.b_len (jaC (jv 0) jaN)) jaN)) (by show B8 _ _=true;rfl) (by rfl) (by rfl)
 (λ_ _ _ _ _=>(A8 (i:=0) (L2.nd ["j","caps"]) rfl (Or.inl rfl))) (λ_ _ _ _ _=>C2) (λ_ _ _ _ _=>(A7 c (n.mono (by omega)) rfl (jaC (C7 K rfl T.b_len (jaC (jv 1) jaN)) (jaC (jv 0) jaN)))))
 (A4 (A9 (D9 K rfl T.b_tuple (jaC (a7j K rfl T.b_sorted (jaC (B9 (N:=["one","caps"]) (src:=[none,some 0]) (E7 K (jv 1)) (by show B8 _ _=true;rfl) (by rfl) (by rfl)
 (λ_ _ _ _ _=>(A8 (i:=0) (L2.nd ["one","caps"]) rfl (Or.inl rfl))) (λ_ _ _ _ _=>(a1z (C1 K (A7 b (n.mono (by omega)) rfl (jaC (jv 1) (jaC (jv 0) jaN)))))) (λ_ _ _ _ _=>(jv 0))) jaN)) jaN))))),?_⟩
  refine⟨_,rfl,a,_,rfl,.inr (SqT.of ha),_,rfl,by rw[ag];omega,by rw[ag];omega,?_⟩;rw[bX,ag];refine a0W (caps:=[some (.ref a)]) (by omega) rfl (λi ys H'=>Same H H'/\Its H' ys ((List.range i).map (M8 cs.length))) ⟨Same.refl H,.nil⟩ (λi ys H' h=>by rw[h.2.1];simp) ?_ ?_
  .rintro i ys H' hi ⟨s',hI⟩;refine⟨_,rfl,a,_,rfl,.inr (SqT.of (s' _ _ ha)),_,rfl,_,cs.length,i,rfl,by rw[ag],by omega,hi,λv H2 s2 J=>⟨s'.trans s2,?_⟩⟩;rw[List.range_succ,bL];exact(hI.same s2).snoc J
  .rintro ys H' ⟨s',hI⟩ p hp;dsimp only[B0];have s1:=s'.upd (o:=.lst ys) hp;have e:=hI.same ((Same.refl H').upd (o:=.lst ys) hp);have y:upd H' p (.lst ys) p=some (.lst ys):=A0;generalize upd H' p (.lst ys)=H1 at s1 e y;refine⟨_,rfl,p,rfl,⟨_,SqL.of y⟩,?_⟩;have V:ys.length=cs.length:=by rw[hI.1];simp
   refine a3m (caps:=[some (.ref a)]) (λu=>Wi cs u) (by omega) (λH2 s2=>SqL.of (s2 _ _ y)) e rfl (λv r H2 X n J s2 q=>?_) λH2 p2 d s2 m z=>?_
   .obtain⟨va,rfl,hva⟩:=J;exact⟨_,rfl,_,rfl,a,va,cs,r,rfl,(s1.trans s2) _ _ ha,hva,by omega,λt x=>⟨Wi cs r,rfl,q t x⟩⟩
   have x:=(s1.trans s2).upd (o:=.lst d) m;have g:=z.same ((Same.refl H2).upd (o:=.lst d) m);have O:upd H2 p2 (.lst d) p2=some (.lst d):=A0;generalize upd H2 p2 (.lst d)=t at x g O;refine⟨p2,d,_,rfl,.inl (SqL.of O),g,λr n=>?_,λl zs M C B G I _=>?_⟩
   .obtain⟨j,_,rfl⟩:=aT.mp (aZ.mp n).1;simp[M8];omega
   refine⟨l,_,rfl,.inl ⟨SqL.of A0,λW D=>?_⟩⟩;have R:=(Same.refl t).upd (o:=.lst zs) C;have S:=(Same.refl (upd t l (.lst zs))).upd (o:=.tup zs) D;exact k W zs M _ ((x.trans R).trans S) A0 ((B.same R).same S) G I
inductive IspRaised(vs:qA V)(H:Hp)(Q:VK)(E:XK):Prop
 |mk (y:V) (ys:qI) (j:Nat) (_:vs=[y,.int j]) (_:IT H y ys) (_:j<ys.length) (_:ys.length<=1000) (_:∀v H',Same H H'->IT H' v (bump ys j)->Q v H'):IspRaised  vs H Q E
def a6t:Sp:=λvs H Q E=>IspRaised  vs H Q E
def b0q:FnScope ["one","j"] ["one","j"] (A1 a0U):={}
def b0L(F:FunAt K mg "raised" a0U ["one","j"]):Ok P w K mg base "raised" 1 ["one","j"] a6t:=by
 refine F.okJ b0q (λvs H Q E h=>?_) (λc f A b s H vs Q E d h=>?_)
 .obtain⟨y,ys,j,rfl,_⟩:=h;rfl
 .obtain⟨_,ys,j,rfl,⟨a,rfl,ha⟩,hj,hl,k⟩:=h;refine⟨_,(A4 (A9 (a5L (a5L (b7v K (jv 0) K0 (J9 (jv 1))) (W4 (jaC (S6 (K7 K (jv 0) (jv 1)) A6) jaN))) (b7v K (jv 0) (J9 (S6 (jv 1) A6)) K0)))),?_⟩;exact b7V (i:=0) (j:=1) (a:=a) (xs:=ys) (k:=j) (z:=ys.getD j 0+1) rfl rfl ha hj hl (λH' N s' q=>⟨_,rfl,_,rfl,a,_,_,_,rfl,rfl,SqT.of (s' _ _ ha),a3M hj,_,_,rfl,rfl,q⟩) k
inductive IspSteps(vs:qA V)(H:Hp)(Q:VK)(E:XK):Prop
 |mk (a c:qE) (y:V) (us:qA V) (rss:LLI) (cs:qA (qD Int)) (ys:qI) (_:vs=[.ref a,.ref c,y]) (_:H a=some (.tup us)) (_:Its H us rss) (_:H c=some (.tup (cs.map cV))) (_:IT H y ys) (_:us.length<=1000) (_:ys.length<=100) (_:cs.length=ys.length) (_:Rs ys.length rss) (_:Sm ys) (_:∀p ps H',Same H H'->H' p=some (.lst ps)->Prs H' ps (bump ys) (StP rss cs ys)->Q (.ref p) H'):IspSteps  vs H Q E
def a5f:Sp:=λvs H Q E=>IspSteps  vs H Q E
def b4v(h:j<cs.length):atI (cs.map cV) (j:Int)=some (cV (cs.getD j none)):=by
 refine a0u ?_;rw[aN,aj h];simp[aB,h]
def sc_steps:FnScope ["rows","caps","one","places"] ["rows","caps","one"] (A1 a2o):={}
def b3l(F:FunAt K mg "steps" a2o ["rows","caps","one"])(T:Tx mg)(d:Ok P w K mg base "falls" 3 ["rows","one"] a9p)(b:Ok P w K mg base "raised" 1 ["one","j"] a6t):Ok P w K mg base "steps" 4 ["rows","caps","one"] a5f:=by
 refine F.okJ sc_steps (λvs H Q E h=>?_) (λR f A G s H vs Q E L h=>?_)
 .obtain⟨a,c,y,us,rss,cs,ys,rfl,_⟩:=h;rfl
 .obtain⟨a,c,_,us,rss,cs,ys,rfl,ha,hI,hc,⟨y,rfl,hy⟩,hl,hn,hcl,hR,hs,k⟩:=h;have Y:(3000:Nat)<=sizeLine:=by rw[aX];decide
  refine⟨_,(A3 (a2v (i:=3) sc_steps.nd rfl (Or.inl rfl) (N:=["j","caps","one"]) (src:=[none,some 1,some 2]) (K1 K (A7 d (L.mono (by omega)) rfl (jaC (jv 0) (jaC (jv 2) jaN)))) (by show B8 _ _=true;rfl) (by rfl) (by rfl)
 (λ_ _ _ _ _=>(A8 (i:=0) (L2.nd ["j","caps","one"]) rfl (Or.inl rfl))) (λ_ _ _ _ _=>(a1z (a0y (a0Z (b3I (K7 K (jv 1) (jv 0)) Y7) (V5 (b3H (K7 K (jv 2) (jv 0)) (K7 K (jv 1) (jv 0)))))))) (λ_ _ _ _ _=>(jv 0)))
 (A4 (A9 (B9 (N:=["j","one"]) (src:=[none,some 2]) (E7 K (jv 3)) (by show B8 _ _=true;rfl) (by rfl) (by rfl)
 (λ_ _ _ _ _=>(A8 (i:=0) (L2.nd ["j","one"]) rfl (Or.inl rfl))) (λ_ _ _ _ _=>C2) (λ_ _ _ _ _=>(W4 (jaC (jv 0) (jaC (A7 b (L.mono (by omega)) rfl (jaC (jv 1) (jaC (jv 0) jaN))) jaN)))))))),?_⟩
  refine⟨_,rfl,_,rfl,a,_,us,rss,ys,rfl,ha,hI,⟨y,rfl,hy⟩,hl,by omega,hR,hs,λv H1 s1 D=>?_⟩;obtain⟨W,rfl,l⟩:=D;refine⟨W,rfl,⟨_,SqT.of l⟩,?_⟩;rw[cN]at l;have n:∀j∈(List.range ys.length).filter (λj=>decide (a1i rss ys j<0)),j<ys.length:=λj g=>bb.mp (aZ.mp g).1;have t:((List.range ys.length).filter (λj=>decide (a1i rss ys j<0))).length<=ys.length:=a_ (bD _ _) (by simp);refine b0e (caps:=[some (.ref c),some (.ref y)]) (λ(j:Nat)=>V.int j) (λj=>a7v (cs.getD j none) (ys.getD j 0)) (by omega) (λH' s=>SqT.of (s _ _ l)) rfl (λj H2 X g s2 q=>?_) λH2 p2 s2 u=>?_
  .have hj':=n j g;refine⟨_,rfl,_,rfl,c,_,_,_,rfl,rfl,SqT.of ((s1.trans s2) _ _ hc),b4v (by omega),rfl,_,rfl,?_⟩;cases e:cs.getD j none with
   |none =>
    rw[e]at q;exact E1 (q _ (Same.refl _))
   |some z =>
    rw[e]at q;refine C3 ⟨_,rfl,_,rfl,y,_,_,_,rfl,rfl,SqT.of ((s1.trans s2) _ _ hy),a3M hj',_,rfl,_,rfl,c,_,_,_,rfl,rfl,SqT.of ((s1.trans s2) _ _ hc),b4v (by omega),?_⟩;rw[e];exact⟨_,_,rfl,rfl,_,rfl,q _ (Same.refl _)⟩
  have I:=(s1.trans s2).upd (o:=.lst ((StP rss cs ys).map λ(j:Nat)=>V.int j)) u;have r:upd H2 p2 (.lst ((StP rss cs ys).map λ(j:Nat)=>V.int j)) p2=some (.lst ((StP rss cs ys).map λ(j:Nat)=>V.int j)):=A0;have C:∀j∈StP rss cs ys,j<ys.length:=λj g=>n j (aZ.mp g).1;have U:(StP rss cs ys).length<=ys.length:=a_ (bD _ _) t;have S:((List.range ys.length).filter λj=>decide (a1i rss ys j<0)).filter (λj=>a7v (cs.getD j none) (ys.getD j 0))=StP rss cs ys:=rfl;rw[S];dsimp only[B0];generalize upd H2 p2 (.lst ((StP rss cs ys).map λ(j:Nat)=>V.int j))=J at I r;refine⟨_,rfl,p2,rfl,⟨_,SqL.of r⟩,?_⟩;refine O8 (xs:=(StP rss cs ys).map λ(j:Nat)=>V.int j) (by rw[ag];omega) (λi qs H'=>Same J H'/\Prs H' qs (bump ys) ((StP rss cs ys).take i)) ⟨Same.refl J,Prs.nil⟩ (λi qs H' _ h=>⟨SqL.of (h.1 _ _ r),by rw[h.2.1];exact bt _ _⟩) ?_ ?_
  .rintro i x qs H' hx ⟨s',hP⟩;rw[aN]at hx;cases p:(StP rss cs ys)[i]? with
   |none=>rw[p]at hx;cases hx
   |some j =>
    rw[p]at hx;cases hx;have g:=C j (aA p);refine⟨Sub.one,_,rfl,_,rfl,_,rfl,_,ys,j,rfl,⟨y,rfl,(I.trans s') _ _ hy⟩,g,by omega,λv O M D=>?_⟩;refine⟨by show 2<=sizeLine;omega,λZ B=>?_⟩;have m:=(Same.refl O).upd (o:=.tup [.int j,v]) B;refine⟨(s'.trans M).trans m,?_⟩;rw[bf,p];exact((hP.same M).same m).snoc A0 (D.same m)
  .rintro qs H' ⟨s',hP⟩ p4 hp4;rw[ag,bx]at hP;have m:=(Same.refl H').upd (o:=.lst qs) hp4;exact k p4 qs _ ((I.trans s').trans m) A0 (hP.same m)
def Bar(fss:LLI)(ys:qI)(j:Nat):Bool:=fss.any λf=>decide (f.getD j 0=ys.getD j 0) && Bel f ys
inductive IspBarred(vs:qA V)(H:Hp)(Q:VK)(E:XK):Prop
 |mk (l:qE) (y:V) (fs:qA V) (fss:LLI) (ys:qI) (j:Nat) (_:vs=[.ref l,y,.int j]) (_:H l=some (.lst fs)) (_:Its H fs fss) (_:IT H y ys) (_:j<ys.length) (_:ys.length<=1000) (_:(∀f∈fss,f.length=ys.length)) (_:∀H',Same H H'->Q (.bl (Bar fss ys j)) H'):IspBarred  vs H Q E
def a6w:Sp:=λvs H Q E=>IspBarred  vs H Q E
def sc_is_barred:FnScope ["found","one","j","answer"] ["found","one","j"] (A1 R0):={}
def a5D(F:FunAt K mg "is_barred" R0 ["found","one","j"])(T:Tx mg)(b:Ok P w K mg base "below" 1 ["one","other"] a2m):Ok P w K mg base "is_barred" 2 ["found","one","j"] a6w:=by
 refine F.okJ sc_is_barred (λvs H Q E h=>?_) (λv f A q s H vs Q E m h=>?_)
 .obtain⟨l,y,fs,fss,ys,j,rfl,_⟩:=h;rfl
 .obtain⟨l,_,fs,fss,ys,j,rfl,hl,hI,⟨y,rfl,hy⟩,hj,hn,hL,k⟩:=h;refine⟨_,(A3 (P6 (E7 K (jv 0)) (A8 (i:=3) sc_is_barred.nd rfl (Or.inl rfl))
 (A4 (C6 (a0y (a0J (a3r (K7 K (jv 3) (jv 2)) (K7 K (jv 1) (jv 2))) (V6 (C1 K (A7 b (m.mono (by omega)) rfl (jaC (jv 3) (jaC (jv 1) jaN)))))))
 (A4 (A9 K3))
 B7)))
 (A4 (A9 K3))),?_⟩
  refine⟨_,rfl,l,rfl,⟨_,SqL.of hl⟩,?_⟩;refine U4 (K:=K) (a:=l) (xs:=fs) (λi σ H'=>Ex1 λo=>An3 (σ=[some (.ref l),some (.ref y),some (.int j),o]) (Same H H') (Bar (fss.take i) ys j=false)) ⟨none,rfl,Same.refl H,rfl⟩ (λi σ H' _ ⟨_,_,s',_⟩=>SqL.of (s' _ _ hl)) ?_ ?_
  .rintro i x σ H' hx ⟨o,rfl,s',hB⟩;obtain⟨r,m,n,p⟩:=hI.mem hx;obtain⟨u,rfl,g⟩:=p.same s';have B:=hL r m;have d:Bar (fss.take (i+1)) ys j=(decide (r.getD j 0=ys.getD j 0) && Bel r ys):=by
    unfold Bar at hB⊢;rw[bf,n,List.any_append,hB];simp
   have c:(decide (r.getD j 0=ys.getD j 0) && Bel r ys)=true->Bar fss ys j=true:=λe=>by
    unfold Bar;rw[bA];exact⟨r,m,e⟩
   dsimp only[B0];refine⟨_,rfl,_,rfl,u,_,_,_,rfl,rfl,SqT.of g,a3M (by omega),_,rfl,_,rfl,y,_,_,_,rfl,rfl,SqT.of (s' _ _ hy),a3M hj,rfl,_,rfl,?_⟩;have z:decide (V.int (r.getD j 0)=V.int (ys.getD j 0))=decide (r.getD j 0=ys.getD j 0):=by simp
   rw[z];cases e:decide (r.getD j 0=ys.getD j 0)with
   |false =>
    rw[e]at d;refine C3 (C3 ?_);exact⟨_,rfl,s',d⟩
   |true =>
    rw[e]at d c;refine E1 ⟨_,rfl,_,rfl,_,_,r,ys,rfl,⟨u,rfl,g⟩,⟨y,rfl,s' _ _ hy⟩,by omega,λH2 s2=>⟨_,rfl,?_⟩⟩;cases t:Bel r ys with
    |false =>
     rw[t]at d;exact C3 ⟨_,rfl,s'.trans s2,d⟩
    |true =>
     rw[t]at c;refine E1 ?_;have:=k H2 (s'.trans s2);rw[c rfl]at this;exact this
  .rintro σ H' ⟨o,rfl,s',hB⟩;rw[hI.1,bx]at hB;have:=k H' s';rw[hB]at this;exact this
end
def a1j(rss:LLI)(cs:qA (qD Int))(F:LLI)(u v:qI):Prop:=∃j,j∈StP rss cs u/\v=bump u j/\Bar F v j=false
def b6A{a b:qI}(h:a.map (Sum.inl:Int->Key)=b.map Sum.inl):a=b:=by
 induction a generalizing b with
 |nil=>cases b with|nil=>rfl|cons _ _=>cases h
 |cons x a c =>
  cases b with
  |nil=>cases h
  |cons y b =>
   injection h with h1 h2
   injection h1 with h1
   rw[h1,c h2]
def a3p{a:LLI}(e:qL.map (·.1)=IK a):T8 qL (r.map Sum.inl)=none↔r∉a:=by
 constructor
 .intro h hm;refine b1P h ?_;rw[e];exact aT.mpr ⟨r,hm,rfl⟩
 .intro h;cases d:T8 qL (r.map Sum.inl)with
  |none=>rfl
  |some v =>
   have:=b4O d;rw[e]at this;obtain⟨q,c,b⟩:=aT.mp this;exact absurd (b6A b ▸ c) h
def a7f{a:LLI}(e:qL.map (·.1)=IK a):(T8 qL (r.map Sum.inl)).isSome=decide (r∈a):=by
 by_cases h:r∈a
 .rw[aU h];cases b:T8 qL (r.map Sum.inl)with
  |none=>exact absurd h ((a3p e).mp b)
  |some v=>rfl
 .rw[bg h,(a3p e).mpr h];rfl
def a8l(r:qI):(r.map (Sum.inl:Int->Key)).map kV=r.map V.int:=by rw[cN];rfl
def b6z{d:qE}(h:Its H vs rss)(hd:H d=some (.dT qL))(o:Off [d] H H'):Its H' vs rss :=
 ⟨h.1,λi v e=>let ⟨r,e1,a,e2,q⟩:=h.2 i v e;⟨r,e1,a,e2,o _ _ (by simpa using J7 q hd (by intro z;cases z)) q⟩⟩
def a2U{H1 H2:Hp}(s:Same H H1)(c:H a=none)(o:Off [a] H1 H2):Same H H2:=λb u e=>o b u (by simpa using A5 e c) (s b u e)
structure NxPre(H:Hp)(a c f l:qE)(us:qA V)(rss:LLI)(cs:qA (qD Int))(fs:qA V)(F:LLI)(ls:qA V)(L:LLI):Prop where
 ha:H a=some (.tup us)
 hI:Its H us rss
 hc:H c=some (.tup (cs.map cV))
 hf:H f=some (.lst fs)
 hF:Its H fs F
 hl:H l=some (.lst ls)
 hL:Its H ls L
 us1:us.length<=1000
 n1:1<=cs.length
 n2:cs.length<=100
 hR:Rs cs.length rss
 fw:∀v∈F,v.length=cs.length
 lw:∀v∈L,v.length=cs.length/\Sm v
 big:L.length*cs.length+100<=100000
section
variable {K:qF}
inductive IspNext(vs:qA V)(H:Hp)(Q:VK)(E:XK):Prop
 |mk (a c f l:qE) (r:V) (us:qA V) (rss:LLI) (cs:qA (qD Int)) (fs:qA V) (F:LLI) (ls:qA V) (L:LLI) (_:vs=[.ref a,.ref c,.ref f,.ref l,r]) (_:NxPre H a c f l us rss cs fs F ls L) (_:(r=.non∨∃m:Int,r=.int m/\0<=m)) (_:∀p zs tss H',Same H H'->H p=none->H' p=some (.lst zs)->Its H' zs tss->E2 tss->tss.Nodup->(∀v∈tss,∃u∈L,a1j rss cs F u v)->((∀u∈L,∀v,a1j rss cs F u v->v∈tss)∨∃m:Int,r=.int m/\m<tss.length)->tss.length<=L.length*cs.length->(∀m:Int,r=.int m->(tss.length:Int)<=m+cs.length)->Q (.ref p) H'):IspNext  vs H Q E
def b2e:Sp:=λvs H Q E=>IspNext  vs H Q E
def sc_next_level:FnScope ["rows","caps","found","level","room","met","one","j","more"] ["rows","caps","found","level","room"] (A1 N5):={}
def a3X(F':FunAt K mg "next_level" N5 ["rows","caps","found","level","room"])(T:Tx mg)(I:Ok P w K mg base "steps" 4 ["rows","caps","one"] a5f)(n:Ok P w K mg base "is_barred" 2 ["found","one","j"] a6w):Ok P w K mg base "next_level" 5 ["rows","caps","found","level","room"] b2e:=by
 refine F'.okJ sc_next_level (λvs H Q E h=>?_) (λc8 f A c3 s H vs Q E hr h=>?_)
 .obtain⟨a,c,f,l,r,us,rss,cs,fs,F,ls,L,rfl,_⟩:=h;rfl
 .obtain⟨a,c,f,l,r,us,rss,cs,fs,F,ls,L,rfl,N,hroom,k⟩:=h;have O:=hr.u60;have hz:(100000:Nat)<=sizeLine:=by rw[aX];decide
  have c6:=N.big;refine⟨_,(A3 (B2 (i:=5) sc_next_level.nd rfl (Or.inl rfl) b6w)
 (A3 (P6 (E7 K (jv 3)) (A8 (i:=6) sc_next_level.nd rfl (Or.inl rfl))
 (A3 (P6 (E7 K (A7 I (hr.mono (by omega)) rfl (jaC (jv 0) (jaC (jv 1) (jaC (jv 6) jaN))))) (P8 K 2 (B3 (A8 (i:=7) sc_next_level.nd rfl (Or.inl rfl)) (B3 (A8 (i:=8) sc_next_level.nd rfl (Or.inl rfl)) K2)))
 (A4 (C6 (a0y (a0J (b0W O (jv 8) (jv 5) (by with_unfolding_all rfl)) (V6 (E9 (C1 K (A7 n (hr.mono (by omega)) rfl (jaC (jv 2) (jaC (jv 8) (jaC (jv 7) jaN)))))))))
 (A4 (b6m O (jv 5) (jv 8) K3))
 B7)))
 (A4 (C6 (a0y (a0J (a9D (jv 4) Y7) (V6 (b7t (b6s rfl T.b_len (jaC (jv 5) jaN)) (jv 4)))))
 (A4 b3M)
 B7))))
 (A4 (A9 (b3R rfl T.b_sorted (jaC (jv 5) jaN)))))),?_⟩
  intro d hd;dsimp only[B0];have s0:=(Same.refl H).upd (o:=.dT []) hd;have e0:upd H d (.dT []) d=some (.dT []):=A0;generalize upd H d (.dT [])=H0 at s0 e0;have fin:∀(qL:qA (qA Key×V)) (g:LLI) (σ:L2.St) (H':Hp),σ[5]?=some (some (.ref d))->Same H H'->H' d=some (.dT qL)->qL.map (·.1)=IK g->g.Nodup->(∀v∈g,∃u∈L,a1j rss cs F u v)->((∀u∈L,∀v,a1j rss cs F u v->v∈g)∨∃m:Int,r=.int m/\m<g.length)->g.length<=L.length*cs.length->(∀m:Int,r=.int m->(g.length:Int)<=m+cs.length) ->
    a7K (tCB a7W (a0z (P0 5) U0)) {nx:=λx H'=>Q V.non H',rt:=Q} σ H':=by
   intro qL g σ H' hσ s' M y D h1 h2 S J;refine⟨_,hσ,d,qL,g,rfl,M,y,λv t=>?_,λp zs c4 hp hI G c0=>?_⟩
   .obtain⟨u,O,j,_,rfl,_⟩:=h1 v t;rw[G0,(N.lw u O).1];exact N.n1
   refine k p zs c4 _ (s'.upd hp) (s'.free hp) A0 (hI.same ((Same.refl H').upd hp)) c0 (G.symm.nodup D) (λv t=>h1 v (G.mem_iff.mp t)) ?_ (by rw[G.length_eq];exact S) λm e=>by rw[G.length_eq];exact J m e
   rcases h2 with h2|⟨m,e,h2⟩
   .exact .inl λu O v t=>G.mem_iff.mpr (h2 u O v t)
   .exact .inr ⟨m,e,by rw[G.length_eq];exact h2⟩
  refine⟨_,rfl,l,rfl,⟨_,SqL.of (s0 _ _ N.hl)⟩,?_⟩;refine U4 (K:=K) (a:=l) (xs:=ls) (λi σ H'=>Ex5 λo6 W X qL g=>An9 (σ=[some (.ref a),some (.ref c),some (.ref f),some (.ref l),some r,some (.ref d),o6,W,X]) (Same H H') (H' d=some (.dT qL)) (qL.map (·.1)=IK g) (g.Nodup) ((∀v∈g,∃u∈L,a1j rss cs F u v)) ((∀u∈L.take i,∀v,a1j rss cs F u v->v∈g)) (g.length<=i*cs.length) (∀m:Int,r=.int m->(g.length:Int)<=m))
   ⟨none,none,none,[],[],rfl,s0,e0,rfl,fc,(λ_ z=>nomatch z),(λ_ z=>by simp at z),by simp,λm e=>?_⟩ (λi σ H' _ h=>by obtain⟨_,_,_,_,_,_,s',_⟩:=h;exact SqL.of (s' _ _ N.hl)) ?_ ?_
  .rcases hroom with e'|⟨m',e',hm'⟩
   .rw[e']at e;cases e
   .rw[e']at e;cases e;simpa using hm'
  .rintro i x σ H' hx ⟨o6,W,X,qL,g,rfl,s',M,y,D,h1,h2,S,J⟩;obtain⟨ys,b0,b1,c2⟩:=N.hL.mem hx;obtain⟨yw,c5⟩:=N.lw ys b0;have b7:i<L.length:=(aK.mp b1).1;have d1:(i+1)*cs.length<=L.length*cs.length:=Nat.mul_le_mul_right _ b7;have c7:(i+1)*cs.length=i*cs.length+cs.length:=by rw[Nat.add_mul,Nat.one_mul]
   dsimp only[B0];have b3:Rs ys.length rss:=by rw[yw];exact N.hR
   refine⟨_,rfl,_,rfl,_,rfl,a,c,x,us,rss,cs,ys,rfl,s' _ _ N.ha,N.hI.same s',s' _ _ N.hc,c2.same s',N.us1,by rw[yw];exact N.n2,yw.symm,b3,c5,λp1 ps H1 s1 a0 Z=>?_⟩;have C:=s1 _ _ M;have a1:=s'.trans s1;refine⟨p1,rfl,⟨_,SqL.of a0⟩,?_⟩;have c1:∀j∈StP rss cs ys,j<ys.length:=λj hj=>bb.mp (aZ.mp (aZ.mp hj).1).1;have d4:(StP rss cs ys).length<=cs.length:=by rw[<-yw];exact a_ (bD _ _) (a_ (bD _ _) (by simp))
   have b5:d≠p1:=J7 C a0 (by intro z;cases z);refine U4 (K:=K) (a:=p1) (xs:=ps) (λU σ H2=>Ex4 λW X qL g=>An10 (σ=[some (.ref a),some (.ref c),some (.ref f),some (.ref l),some r,some (.ref d),some x,W,X]) (Off [d] H1 H2) (H2 d=some (.dT qL)) (qL.map (·.1)=IK g) (g.Nodup) ((∀v∈g,∃u∈L,a1j rss cs F u v)) ((∀u∈L.take i,∀v,a1j rss cs F u v->v∈g)) ((∀j∈(StP rss cs ys).take U,Bar F (bump ys j) j=false->bump ys j∈g)) (g.length<=i*cs.length+U) (∀m:Int,r=.int m->(g.length:Int)<=m+U))
    ⟨W,X,qL,g,rfl,Off.refl _ _,C,y,D,h1,h2,(λ_ z=>by simp at z),S,λm e=>by have:=J m e;omega⟩ (λU σ H2 _ h=>by obtain⟨_,_,_,_,_,o2,_⟩:=h;exact SqL.of (o2 _ _ (by simpa using b5.symm) a0)) ?_ ?_
   .rintro U q σ H2 hq ⟨W,X,qL,g,rfl,off2,hd2,y,D,h1,h2,h5,S,J⟩;obtain⟨j,b,v,ej,rfl,hb,t⟩:=Z.2 U q hq;obtain⟨va,rfl,a9⟩:=t;have a7:=aA ej;have hj:=c1 j a7;have b4:=off2 _ _ (by simpa using J7 hb C (by intro z;cases z)) hb;have R:=off2 _ _ (by simpa using J7 a9 C (by intro z;cases z)) a9;have a5:=a1 _ _ N.hf;have b6:=off2 _ _ (by simpa using J7 a5 C (by intro z;cases z)) a5;have b2:=b6z (N.hF.same a1) C off2;have d0:U<(StP rss cs ys).length:=(aK.mp ej).1;have b9:qL.length=g.length:=by
     have:=aL List.length y;simpa[IK]using this
    have Y:∀B:LLI,(∀v∈g,v∈B)->(Bar F (bump ys j) j=false->bump ys j∈B)->∀j'∈(StP rss cs ys).take (U+1),Bar F (bump ys j') j'=false->bump ys j'∈B:=λB a8 b8 j' a6 a3=>by
     rw[bf,ej]at a6;rcases ay.mp a6 with z|z
     .exact a8 _ (h5 j' z a3)
     .have:j'=j:=by simpa using z
      subst this;exact b8 a3
    refine⟨b,[.int j,.ref va],rfl,SqT.of b4,rfl,.int j,[.ref va],rfl,.ref va,[],rfl,rfl,?_⟩;refine⟨_,rfl,_,rfl,d,_,rfl,DGet.t hd2 (by rw[a8l];exact R),_,rfl,?_⟩;rw[a7f y];by_cases hm:bump ys j∈g
    .rw[aU hm];refine C3 (C3 ?_);exact⟨_,_,qL,g,rfl,off2,hd2,y,D,h1,h2,Y g (λ_ z=>z) (λ_=>hm),by omega,λm e=>by have:=J m e;omega⟩
    .rw[bg hm];refine E1 ⟨_,rfl,_,rfl,_,rfl,f,.ref va,fs,F,bump ys j,j,rfl,b6,b2,⟨va,rfl,R⟩,by rw[G0];exact hj,by rw[G0,yw];have:=N.n2;omega,λv t=>by rw[G0,yw];exact N.fw v t,λH3 s3=>⟨_,rfl,?_⟩⟩;have a4:=s3 _ _ hd2;cases e:Bar F (bump ys j) j with
     |true =>
      refine C3 ?_;exact⟨_,_,qL,g,rfl,off2.trans s3.off,a4,y,D,h1,h2,Y g (λ_ z=>z) (λz=>by rw[e]at z;cases z),by omega,λm e=>by have:=J m e;omega⟩
     |false =>
      refine E1 ?_;refine⟨_,rfl,_,rfl,d,_,rfl,DPut.t a4 (by rw[a8l];exact s3 _ _ R) (by omega),?_⟩;rw[a6J _ ((a3p y).mpr hm)];refine⟨_,_,_,g++[bump ys j],rfl,(off2.trans s3.off).set (by simp),A0,by rw[bL,y];simp[IK],a9B D hm,λv t=>?_,λu O v t=>aR _ (h2 u O v t),Y _ (λv t=>aR _ t) (λ_=>by simp),by rw[au];simp;omega,λm e=>by have:=J m e;rw[au];simp;omega⟩;rcases ay.mp t with z|z
      .exact h1 v z
      .rw[aP.mp z];exact⟨ys,b0,j,a7,rfl,e⟩
   .rintro σ H2 ⟨W,X,qL,g,rfl,off2,hd2,y,D,h1,h2,h5,S,J⟩;rw[Z.1,bx]at h5;have b9:qL.length=g.length:=by
     have:=aL List.length y;simpa[IK]using this
    have d3:=Z.1;have s2:Same H H2:=a2U a1 hd off2;have a2:∀u∈L.take (i+1),∀v,a1j rss cs F u v->v∈g:=λu O v t=>by
     rw[bf,b1]at O;rcases ay.mp O with z|z
     .exact h2 u z v t
     .have:u=ys:=by simpa using z
      subst this;obtain⟨j,hj,rfl,hb⟩:=t;exact h5 j hj hb
    rcases hroom with rfl|⟨m,rfl,d2⟩
    .refine⟨_,rfl,rfl,_,rfl,C3 (C3 ?_)⟩;exact⟨_,_,_,qL,g,rfl,s2,hd2,y,D,h1,a2,by omega,λm e=>by cases e⟩
    .refine⟨_,rfl,rfl,_,rfl,E1 ?_⟩;refine⟨_,rfl,d,qL,rfl,hd2,_,rfl,_,_,rfl,rfl,_,rfl,a3v (λe=>?_) (λe=>?_)⟩
     .have e':m<(qL.length:Int):=bE e;have c9:=J m rfl;exact fin qL g _ H2 rfl s2 hd2 y D h1 (.inr ⟨m,rfl,by omega⟩) (by omega) λm' e2=>by cases e2;omega
     .have e':¬m<(qL.length:Int):=λz=>e (aU z);exact⟨_,_,_,qL,g,rfl,s2,hd2,y,D,h1,a2,by omega,λm' e2=>by cases e2;omega⟩
  .rintro σ H' ⟨o6,W,X,qL,g,rfl,s',M,y,D,h1,h2,S,J⟩;rw[N.hL.1,bx]at h2;exact fin qL g _ H' rfl s' M y D h1 (.inl h2) (by rw[N.hL.1]at S;exact S) λm e=>by have:=J m e;omega
end
def ffl(ra ca:qE)(b:Bool)(ah af aw:qE):qA (Str×V):=[("rows",.ref ra),("caps",.ref ca),("begun",.bl b),("here",.ref ah),("found",.ref af),("walked",.ref aw)]
section
variable (ra ca ah ah' af aw:qE)(b b':Bool)
def a7p:(ffl ra ca b ah af aw).lookup ("rows" : Str)=some (.ref ra):=by with_unfolding_all rfl
def a7q:(ffl ra ca b ah af aw).lookup ("caps" : Str)=some (.ref ca):=by with_unfolding_all rfl
def a4L:(ffl ra ca b ah af aw).lookup ("begun" : Str)=some (.bl b):=by with_unfolding_all rfl
def Z5:(ffl ra ca b ah af aw).lookup ("here" : Str)=some (.ref ah):=by with_unfolding_all rfl
def a1D:(ffl ra ca b ah af aw).lookup ("found" : Str)=some (.ref af):=by with_unfolding_all rfl
def a3E:(ffl ra ca b ah af aw).lookup ("walked" : Str)=some (.ref aw):=by with_unfolding_all rfl
def a6I:G8 "here" (.ref ah') (ffl ra ca b ah af aw)=ffl ra ca b ah' af aw:=by with_unfolding_all rfl
def b0x:G8 "begun" (.bl b') (ffl ra ca b ah af aw)=ffl ra ca b' ah af aw:=by with_unfolding_all rfl
def a6H:G8 "walked" (.ref aw) (G8 "found" (.ref af) (G8 "here" (.ref ah) (G8 "begun" (.bl b) (G8 "caps" (.ref ca) (G8 "rows" (.ref ra) [])))))=ffl ra ca b ah af aw:=by with_unfolding_all rfl
def b4h:(ffl ra ca b ah af aw).lookup ("told" : Str)=none:=by with_unfolding_all rfl
def b1i:(ffl ra ca b ah af aw).lookup ("paper" : Str)=none:=by with_unfolding_all rfl
def b1j:(ffl ra ca b ah af aw).lookup ("ended" : Str)=none:=by with_unfolding_all rfl
def a2g:(ffl ra ca b ah af aw).lookup ("step_within" : Str)=none:=by with_unfolding_all rfl
end
structure FiTx(K:qF)(C:qE):Prop where
 cl:Cls K C
 n1:NoAttr K C "rows"
 n2:NoAttr K C "caps"
 n3:NoAttr K C "begun"
 n4:NoAttr K C "here"
 n5:NoAttr K C "found"
 n6:NoAttr K C "walked"
structure FAt(C:qE)(H:Hp)(p ra ca af aw:qE)(b:Bool)(L F W:LLI):Prop where
 ob:∃dx ah hs,H p=some (.ins C dx (ffl ra ca b ah af aw))/\H ah=some (.lst hs)/\Its H hs L/\ah≠af/\ah≠aw
 hf:∃fs,H af=some (.lst fs)/\Its H fs F
 hw:∃ws,H aw=some (.lst ws)/\Its H ws W
 ne:af≠aw
def FAt.same{C:qE}{H H':Hp}{p ra ca af aw:qE}{b:Bool}{L F W:LLI}(h:FAt C H p ra ca af aw b L F W)(s:Same H H'):FAt C H' p ra ca af aw b L F W:=by
 obtain⟨⟨dx,ah,hs,h1,h2,a,c,d⟩,⟨fs,f1,f2⟩,⟨g,e,f⟩,ne⟩:=h;exact⟨⟨dx,ah,hs,s _ _ h1,s _ _ h2,a.same s,c,d⟩,⟨fs,s _ _ f1,f2.same s⟩,⟨g,s _ _ e,f.same s⟩,ne⟩
structure SyAt(H:Hp)(a c:qE)(rss:LLI)(cs:qA (qD Int)):Prop where
 ex:∃us,H a=some (.tup us)/\Its H us rss/\us.length<=1000
 hc:H c=some (.tup (cs.map cV))
 n1:1<=cs.length
 n2:cs.length<=100
 hR:Rs cs.length rss
def SyAt.same{H H':Hp}{a c:qE}{rss:LLI}{cs:qA (qD Int)}(h:SyAt H a c rss cs)(s:Same H H'):SyAt H' a c rss cs:=by
 obtain⟨⟨g,h1,h2,b⟩,d,e,f,hR⟩:=h;exact⟨⟨g,s _ _ h1,h2.same s,b⟩,s _ _ d,e,f,hR⟩
structure StR(rss:LLI)(cs:qA (qD Int))(b:Bool)(L F:LLI)(r:V)(L':LLI):Prop where
 ri:E2 L'
 nd:L'.Nodup
 fst:b=false->∀v,v∈L'↔v∈L5 cs
 snd:b=true->∀v∈L',∃u∈L,a1j rss cs F u v
 all:b=true->(∀u∈L,∀v,a1j rss cs F u v->v∈L')∨∃m:Int,r=.int m/\m<L'.length
 len:L'.length<=cs.length+L.length*cs.length
 few:∀m:Int,r=.int m->(L'.length:Int)<=m+cs.length
def T9(n j i:Nat)(hi:i<n):(M8 n j).getD i 0=if i=j then 1 else 0:=by
 unfold M8;simp[aB,hi]
def K9(n j:Nat):(M8 n j).length=n:=by simp[M8]
def b1e(cs:qA (qD Int)):(L5 cs).Nodup:=by
 unfold L5;refine List.Nodup.sublist (List.filter_sublist) ?_;unfold List.Nodup;rw[cn];refine(fG (n:=cs.length)).imp_of_mem λ{i j} hi b a e=>?_;have h1:(M8 cs.length i).getD i 0=(M8 cs.length j).getD i 0:=aL (λl:qI=>l.getD i 0) e;rw[T9 _ _ _ (bb.mp hi),T9 _ _ _ (bb.mp hi),aD rfl,aq a]at h1;omega
def lp{f:Str}{v:V}{fs:qA (Str×V)}(h:fs.length<=k):(G8 f v fs).length<=k+1:=by
 refine a_ ?_ (Nat.succ_le_succ h);clear h;induction fs with
 |nil=>exact ak _
 |cons p r a =>
  obtain⟨g,x⟩:=p;show(if g=f then(g,v)::r else(g,x)::G8 f v r).length<=_;split
  .simp
  .simpa using a
section
variable {K:qF}
inductive IspFInit(C:qE)(vs:qA V)(H:Hp)(Q:VK)(E:XK):Prop
 |mk (p dx ra ca:qE) (_:vs=[.ref p,.ref ra,.ref ca]) (_:H p=some (.ins C dx [])) (_:∀(af aw:qE) (H':Hp),H af=none->H aw=none->FAt C H' p ra ca af aw false [] [] []->(∃dx ah,H' p=some (.ins C dx (ffl ra ca false ah af aw))/\H ah=none)->(∀b o,H b=some o->b≠p->H' b=some o)->Q .non H'):IspFInit C vs H Q E
def a9q(C:qE):Sp:=λvs H Q E=>IspFInit C vs H Q E
def a0H:FnScope ["self","rows","caps"] ["self","rows","caps"] (A1 E6):={}
def b3r(J:MethAt K C "__init__" "Finder.__init__" E6 ["self","rows","caps"])(U:FiTx K C):MethOk P w K mg base C "__init__" 1 ["self","rows","caps"] (a9q C):=by
 refine J.fnJ a0H (λvs H Q E h=>?_) (λL f A G s H vs Q E M h=>?_)
 .obtain⟨p,dx,ra,ca,rfl,_⟩:=h;rfl
 .obtain⟨p,dx,ra,ca,rfl,hp,k⟩:=h;refine⟨_,(A3 (P7 K (jv 0) (jv 1))
 (A3 (P7 K (jv 0) (jv 2))
 (A3 (P7 K (jv 0) K3)
 (A3 (P7 K (jv 0) (K6 jaN))
 (A3 (P7 K (jv 0) (K6 jaN))
 (A4 (P7 K (jv 0) (K6 jaN)))))))),?_⟩
  have t:([]:qA (Str×V)).length<=0:=ak _;refine⟨_,rfl,_,rfl,p,C,dx,_,rfl,hp,U.cl,U.n1,eY t (by decide),?_⟩;refine⟨_,rfl,_,rfl,p,C,dx,_,rfl,A0,U.cl,U.n2,eY (lp t) (by decide),?_⟩;rw[a4Z];refine⟨_,rfl,p,C,dx,_,rfl,A0,U.cl,U.n3,eY (lp (lp t)) (by decide),?_⟩;rw[a4Z];generalize F:G8 "begun" (V.bl false) (G8 "caps" (.ref ca) (G8 "rows" (.ref ra) []))=r;have I:r.length<=3:=by rw[<-F];exact lp (lp (lp t))
  have k1:∀b o,H b=some o->b≠p->upd H p (.ins C dx r) b=some o:=λb o e c=>by rw[A2 c];exact e
  have D:upd H p (.ins C dx r) p=some (.ins C dx r):=A0;have u:∀b,upd H p (.ins C dx r) b=none->H b=none:=λb e=>by
   by_cases c:b=p
   .subst c;rw[A0]at e;cases e
   .rwa[A2 c]at e
  generalize upd H p (.ins C dx r)=H1 at k1 D u;refine⟨br _,λah n=>?_⟩;have x:p≠ah:=A5 D n;refine⟨_,rfl,p,C,dx,_,rfl,by rw[A2 x];exact D,U.cl,U.n4,by omega,?_⟩;refine⟨br _,λaf m=>?_⟩;have y:p≠af:=λz=>by subst z;rw[A0]at m;cases m
  have g:upd H1 ah (.lst []) af=none:=by rwa[A2 y.symm]at m
  have j:ah≠af:=A5 (o:=.lst []) A0 g;have d:H1 af=none:=by rwa[A2 j.symm]at g
  refine⟨_,rfl,p,C,dx,_,rfl,by rw[A2 y];exact A0,U.cl,U.n5,by have:=lp (f:="here") (v:=.ref ah) I;omega,?_⟩;refine⟨br _,λaw q=>?_⟩;have B:p≠aw:=λz=>by subst z;rw[A0]at q;cases q
  have a:=q;rw[A2 B.symm]at a;have i:af≠aw:=A5 (o:=.lst []) A0 a;rw[A2 i.symm,A2 B.symm]at a;have l:ah≠aw:=A5 (o:=.lst []) A0 a;rw[A2 l.symm]at a;refine⟨_,rfl,p,C,dx,_,rfl,by rw[A2 B];exact A0,U.cl,U.n6,by have:=lp (f:="found") (v:=.ref af) (lp (f:="here") (v:=.ref ah) I);omega,?_⟩;refine k af aw _ (u _ d) (u _ a) ⟨⟨dx,ah,[],?_,?_,.nil,j,l⟩,⟨[],?_,.nil⟩,⟨[],?_,.nil⟩,i⟩ ⟨dx,ah,by rw[A0,<-F,<-a6H],u _ n⟩ λb o e c=>?_
  .rw[A0,<-F,<-a6H]
  .rw[A2 x.symm,A2 l,A2 x.symm,A2 j,A2 x.symm,A0]
  .rw[A2 y.symm,A2 i,A2 y.symm,A0]
  .rw[A2 B.symm,A0]
  .have e2:=k1 b o e c;rw[A2 c,A2 (A5 e2 a),A2 c,A2 (A5 e2 d),A2 c,A2 (A5 e2 n)];exact e2
def a5N:∀{vs c:qA V}{rss tss:LLI},Its H vs rss->Its H c tss->Its H (vs++c) (rss++tss):=by
 intro vs c rss tss h g;refine⟨by rw[au,au,h.1,g.1],λi v e=>?_⟩;rcases fV i vs.length with hi|hi
 .rw[bw hi]at e;obtain⟨r,a,b⟩:=h.2 i v e;exact⟨r,by rw[bw (by rw[<-h.1];exact hi)];exact a,b⟩
 .rw[ba hi]at e;obtain⟨r,a,b⟩:=g.2 _ v e;exact⟨r,by rw[ba (by rw[<-h.1];exact hi),<-h.1];exact a,b⟩
def a0o{o':HO}(h:Its H vs rss)(b:H c=some o)(d:∀xs,HO.tup xs≠o):Its (upd H c o') vs rss :=
 ⟨h.1,λi v e=>let ⟨r,e1,a,e2,q⟩:=h.2 i v e;⟨r,e1,a,e2,by rw[A2 (J7 q b (d _))];exact q⟩⟩
def a3u(h:Its H vs rss)(b:H c=some o)(d:∀xs,HO.tup xs≠o)(off:Off [c] H H'):Its H' vs rss :=
 ⟨h.1,λi v e=>let ⟨r,e1,a,e2,q⟩:=h.2 i v e;⟨r,e1,a,e2,off _ _ (by simpa using J7 q b (d _)) q⟩⟩
def b4Q(h:SyAt H a c rss cs)(d:H b=some o)(e:∀xs,HO.tup xs≠o)(off:Off [b] H H'):SyAt H' a c rss cs:=by
 obtain⟨⟨k,h1,h2,g⟩,f,i,j,hR⟩:=h;exact⟨⟨k,off _ _ (by simpa using J7 h1 d (e _)) h1,a3u h2 d e off,g⟩,off _ _ (by simpa using J7 f d (e _)) f,i,j,hR⟩
def b4S{B:Int}(h:∀x∈u,0<=x/\x<=B)(b:B<=2 ^ 60):∀x∈bump u j,0<=x/\x<=2 ^ 60+1:=by
 intro x a;unfold bump at a;rcases eU a with z|z
 .have:=h x z;omega
 .by_cases hj:j<u.length
  .have:=h _ (cY (h:=hj));rw[aB,aj hj]at z;simp at z;omega
  .rw[aB,cI (by omega)]at z;simp at z;omega
inductive IspStepW(C:qE)(vs:qA V)(H:Hp)(Q:VK)(E:XK):Prop
 |mk (p ra ca af aw:qE) (b:Bool) (L F W rss:LLI) (cs:qA (qD Int)) (r:V) (B:Int) (_:vs=[.ref p,r]) (_:FAt C H p ra ca af aw b L F W) (_:SyAt H ra ca rss cs) (_:(r=.non∨∃m:Int,r=.int m/\0<=m)) (_:(∀v∈L,v.length=cs.length/\∀x∈v,0<=x/\x<=B)) (_:B<=2 ^ 60) (_:(∀v∈F,v.length=cs.length)) (_:L.length*cs.length+100<=100000) (_:F.length<=100000) (_:W.length<=100000) (_:∀L' H',StR rss cs b L F r L'->FAt C H' p ra ca af aw true L' (F++L'.filter λv=>Ans rss v) (W++L')->(∃dx ah,H' p=some (.ins C dx (ffl ra ca true ah af aw))/\H ah=none)->Off [p,af,aw] H H'->Q (.int L'.length) H'):IspStepW C vs H Q E
def a5g(C:qE):Sp:=λvs H Q E=>IspStepW C vs H Q E
def b2w{ra ca af aw:qE}{b:Bool}{r:V}{B:Int}(hi:σ[i]?=some (some (.ref p)))(h:σ[j]?=some (some r))(D:FAt C H p ra ca af aw b L F W)(Y:SyAt H ra ca rss cs)(h1:r=.non∨∃m:Int,r=.int m/\0<=m)(h2:∀v∈L,v.length=cs.length/\∀x∈v,0<=x/\x<=B)(c:B<=2 ^ 60)(d:∀v∈F,v.length=cs.length)(e:L.length*cs.length+100<=100000)(f:F.length<=100000)(g:W.length<=100000)
  (k:∀L' H',StR rss cs b L F r L'->FAt C H' p ra ca af aw true L' (F++L'.filter λv=>Ans rss v) (W++L')->(∃dx ah,H' p=some (.ins C dx (ffl ra ca true ah af aw))/\H ah=none)->Off [p,af,aw] H H'->Q (.int L'.length) H'):a1N C "step_within" (a5g C) [] E0 (P0 i) (a0z (P0 j) U0) σ H Q:=by
 obtain⟨⟨dx,ah,hs,a,_⟩,_,_,_⟩:=id D;exact⟨_,hi,p,dx,_,rfl,a,a2g _ _ _ _ _ _,_,h,p,ra,ca,af,aw,b,L,F,W,rss,cs,r,B,rfl,D,Y,h1,h2,c,d,e,f,g,k⟩
def X1:FnScope ["self","room"] ["self","room"] (A1 C9):={}
def b3k(FM:MethAt K C "step_within" "Finder.step_within" C9 ["self","room"])(U:FiTx K C)(T:Tx mg)(d:Ok P w K mg base "next_level" 5 ["rows","caps","found","level","room"] b2e)(a:Ok P w K mg base "first_steps" 2 ["caps"] a5k)(n:Ok P w K mg base "is_answer" 3 ["rows","one"] a0e) :
  MethOk P w K mg base C "step_within" 6 ["self","room"] (a5g C):=by
 refine FM.fnJ X1 (λvs H Q E h=>?_) (λc9 f A c5 s H vs Q E hr h=>?_)
 .obtain⟨p,ra,ca,af,aw,b,L,F,W,t,cs,r,B,rfl,_⟩:=h;rfl
 .obtain⟨p,ra,ca,af,aw,b,L,F,W,t,cs,r,B,rfl,D,Y,hroom,hL,hB,hF,hbig,hF1,hW1,k⟩:=h;have hz:(300000:Nat)<=sizeLine:=by rw[aX];decide
  obtain⟨⟨dx,ah,hs,h1,h2,h3,h4,h5⟩,⟨fs,f1,f2⟩,⟨ws,w1,w2⟩,ne⟩:=id D;have b5:p≠af:=J7 h1 f1 (by intro z;cases z);have b6:p≠aw:=J7 h1 w1 (by intro z;cases z);refine⟨_,(A3 (C6 (C1 K (F0 K (jv 0)))
 (A4 (P7 K (jv 0) (A7 d (hr.mono (by omega)) rfl (jaC (F0 K (jv 0)) (jaC (F0 K (jv 0)) (jaC (F0 K (jv 0)) (jaC (F0 K (jv 0)) (jaC (jv 1) jaN))))))))
 (A3 (P7 K (jv 0) (b6r K rfl T.b_list (jaC (A7 a (hr.mono (by omega)) rfl (jaC (F0 K (jv 0)) jaN)) jaN)))
 (A4 (P7 K (jv 0) K3))))
 (A3 (M6 (a4G K (F0 K (jv 0)) (jaC (B9 (N:=["one","self"]) (src:=[none,some 0]) (E7 K (F0 K (jv 0))) (by show B8 _ _=true;rfl) (by rfl) (by rfl)
 (λ_ _ _ _ _=>(A8 (i:=0) (L2.nd ["one","self"]) rfl (Or.inl rfl))) (λ_ _ _ _ _=>(a1z (C1 K (A7 n (hr.mono (by omega)) rfl (jaC (F0 K (jv 1)) (jaC (jv 0) jaN)))))) (λ_ _ _ _ _=>(jv 0))) jaN)))
 (A3 (M6 (a4G K (F0 K (jv 0)) (jaC (F0 K (jv 0)) jaN)))
 (A4 (A9 (C7 K rfl T.b_len (jaC (F0 K (jv 0)) jaN))))))),?_⟩
  refine a0g (λσ H'=>σ=[some (.ref p),some r]/\∃ah' c L',H' p=some (.ins C dx (ffl ra ca true ah' af aw))/\H' ah'=some (.lst c)/\Its H' c L'/\H ah'=none/\StR t cs b L F r L'/\Off [p] H H'/\∀v∈L',v.length=cs.length/\Sm v) ?fin λfin=>?_
  case fin =>
   rintro σ H1 ⟨rfl,ah',c,L',p1,a1,i1,a0,R,g,c0⟩;have c2:=Y.n2;have b3:L'.length<=100000:=by have:=R.len;omega
   have a8:=g _ _ (by simpa using b5.symm) f1;have c7:=g _ _ (by simpa using b6.symm) w1;have b8:=a3u f2 h1 (λ_ z=>by cases z) g;have c8:=a3u w2 h1 (λ_ z=>by cases z) g;have Y1:=b4Q Y h1 (λ_ z=>by cases z) g;have a9:ah'≠af:=(A5 f1 a0).symm;have b1:ah'≠aw:=(A5 w1 a0).symm;have d0:p≠ah':=A5 h1 a0;refine⟨_,rfl,p,C,dx,_,_,rfl,p1,U.cl,U.n5,a1D _ _ _ _ _ _,.inl ⟨rfl,_,SqL.of a8⟩,?_⟩;refine⟨_,rfl,p,C,dx,_,_,rfl,p1,U.cl,U.n4,Z5 _ _ _ _ _ _,ah',rfl,⟨_,SqL.of a1⟩,?_⟩;refine a3m (caps:=[some (.ref p)]) (λv=>Ans t v) (by rw[i1.1];omega) (λH2 s2=>SqL.of (s2 _ _ a1)) i1 rfl (λv r' H2 Q2 c4 Z s2 q=>?_) λH2 p2 zs s2 b4 O=>?_
   .obtain⟨⟨us,u1,u2,u3⟩,_,_,_,hR⟩:=Y1.same s2;refine⟨_,rfl,p,C,dx,_,_,rfl,s2 _ _ p1,U.cl,U.n1,a7p _ _ _ _ _ _,_,rfl,ra,v,us,t,r',rfl,u1,u2,Z,u3,λr hr=>by rw[(hR r hr).1];omega,(c0 r' c4).2,λM y=>⟨_,rfl,q M y⟩⟩
   have c1:(L'.filter λv=>Ans t v).length<=L'.length:=bD _ _;have y:=s2.upd (o:=.lst zs) b4;have c6:=(Same.refl H2).upd (o:=.lst zs) b4;have e3:upd H2 p2 (.lst zs) p2=some (.lst zs):=A0;have G:=O.same c6;generalize upd H2 p2 (.lst zs)=M at y e3 G;have f3:=y _ _ a8;refine⟨af,p2,fs,zs,rfl,rfl,f3,e3,by rw[f2.1,O.1];omega,?_⟩;have p4:upd M af (.lst (fs++zs)) p=some (.ins C dx (ffl ra ca true ah' af aw)):=by rw[A2 b5];exact y _ _ p1
   have w4:upd M af (.lst (fs++zs)) aw=some (.lst ws):=by rw[A2 ne.symm];exact y _ _ c7
   have a4:upd M af (.lst (fs++zs)) ah'=some (.lst c):=by rw[A2 a9];exact y _ _ a1
   refine⟨_,rfl,p,C,dx,_,_,rfl,p4,U.cl,U.n6,a3E _ _ _ _ _ _,.inl ⟨rfl,_,SqL.of w4⟩,?_⟩;refine⟨_,rfl,p,C,dx,_,_,rfl,p4,U.cl,U.n4,Z5 _ _ _ _ _ _,aw,ah',ws,c,rfl,rfl,w4,a4,by rw[w2.1,i1.1];omega,?_⟩;have p5:upd (upd M af (.lst (fs++zs))) aw (.lst (ws++c)) p=some (.ins C dx (ffl ra ca true ah' af aw)):=by rw[A2 b6];exact p4
   have a5:upd (upd M af (.lst (fs++zs))) aw (.lst (ws++c)) ah'=some (.lst c):=by rw[A2 b1];exact a4
   refine⟨_,rfl,p,C,dx,_,_,rfl,p5,U.cl,U.n4,Z5 _ _ _ _ _ _,ah',_,rfl,.inl (SqL.of a5),?_⟩;rw[i1.1];have J:∀{vs:qA V}{t:LLI},Its M vs t->Its (upd (upd M af (.lst (fs++zs))) aw (.lst (ws++c))) vs t:=λh=>a0o (a0o h f3 (λ_ z=>by cases z)) w4 (λ_ z=>by cases z);refine k L' _ R ⟨⟨dx,ah',c,p5,a5,J (i1.same y),a9,b1⟩,⟨fs++zs,by rw[A2 ne];exact A0,J (a5N (b8.same y) G)⟩,⟨ws++c,A0,J (a5N (c8.same y) (i1.same y))⟩,ne⟩ ⟨dx,ah',p5,a0⟩ λb o hb e=>?_;have a2:b≠p/\b≠af/\b≠aw:=by simpa using hb
   rw[A2 a2.2.2,A2 a2.2.1];exact y _ _ (g _ _ (by simpa using a2.1) e)
  refine⟨_,rfl,p,C,dx,_,_,rfl,h1,U.cl,U.n3,a4L _ _ _ _ _ _,b,rfl,?_⟩;obtain⟨us,u1,u2,u3⟩:=Y.ex;have c2:=Y.n2;cases b with
  |true =>
   refine E1 ?_;refine⟨_,rfl,p,C,dx,_,_,rfl,h1,U.cl,U.n1,a7p _ _ _ _ _ _,_,rfl,p,C,dx,_,_,rfl,h1,U.cl,U.n2,a7q _ _ _ _ _ _,_,rfl,p,C,dx,_,_,rfl,h1,U.cl,U.n5,a1D _ _ _ _ _ _,_,rfl,p,C,dx,_,_,rfl,h1,U.cl,U.n4,Z5 _ _ _ _ _ _,_,rfl,?_⟩;refine⟨ra,ca,af,ah,r,us,t,cs,fs,F,hs,L,rfl,⟨u1,u2,Y.hc,f1,f2,h2,h3,u3,Y.n1,Y.n2,Y.hR,hF,λv Z=>⟨(hL v Z).1,λx hx=>by have:=(hL v Z).2 x hx;omega⟩,hbig⟩,hroom,λp9 zs a7 H9 s9 I h9 b9 a6 c3 X b0 b3 b2=>?_⟩;have b7:=s9 _ _ h1;have a3:p≠p9:=A5 h1 I;refine⟨_,rfl,p,C,dx,_,rfl,b7,U.cl,U.n4,by show 6<1000;decide,?_⟩;rw[a6I];refine fin _ _ ⟨rfl,p9,zs,a7,A0,by rw[A2 a3.symm];exact h9,a0o b9 b7 (λ_ z=>by cases z),I,⟨a6,c3,(λz=>by cases z),λ_=>X,λ_=>b0,by omega,b2⟩,s9.off.set (by simp),λv Z=>?_⟩;obtain⟨u,hu,j,_,rfl,_⟩:=X v Z;have:=b4S (j:=j) (hL u hu).2 hB;exact⟨by rw[G0];exact(hL u hu).1,λx hx=>by have:=this x hx;omega⟩
  |false =>
   refine C3 ?_;refine⟨_,rfl,p,C,dx,_,_,rfl,h1,U.cl,U.n2,a7q _ _ _ _ _ _,ca,cs,rfl,Y.hc,Y.n1,Y.n2,λq zs a7 H2 s2 hq O S a6=>?_⟩;refine⟨q,zs,rfl,.inr (SqT.of hq),λl hl=>?_⟩;have p3:=O9 (o:=.lst zs) (s2 _ _ h1) hl;have y:=s2.upd (o:=.lst zs) hl;have G:=O.same ((Same.refl H2).upd (o:=.lst zs) hl);have e3:upd H2 l (.lst zs) l=some (.lst zs):=A0;have I:=s2.free hl;generalize upd H2 l (.lst zs)=M at p3 y G e3;refine⟨_,rfl,p,C,dx,_,rfl,p3,U.cl,U.n4,by show 6<1000;decide,?_⟩;rw[a6I];refine⟨_,rfl,p,C,dx,_,rfl,A0,U.cl,U.n3,by show 6<1000;decide,?_⟩;rw[a4Z,b0x];have a3:p≠l:=A5 h1 I;have c1:(L5 cs).length<=cs.length:=a_ (bD _ _) (by simp);have d1:=S.length_eq;refine fin _ _ ⟨rfl,l,zs,a7,A0,by rw[A2 a3.symm];exact e3,a0o G p3 (λ_ z=>by cases z),I,⟨a6,S.symm.nodup (b1e cs),λ_ v=>S.mem_iff,(λz=>by cases z),(λz=>by cases z),by omega,λm e=>?_⟩,y.off.set (by simp),λv Z=>?_⟩
   .rcases hroom with z|⟨m',z,hm'⟩
    .rw[z]at e;cases e
    .rw[z]at e;cases e;omega
   .obtain⟨j,_,rfl⟩:=aT.mp (aZ.mp (S.mem_iff.mp Z)).1;refine⟨K9 _ _,λx hx=>?_⟩;unfold M8 at hx;obtain⟨i,_,rfl⟩:=aT.mp hx;split<;>omega
inductive IspEnded(C:qE)(vs:qA V)(H:Hp)(Q:VK)(E:XK):Prop
 |mk (p ra ca af aw:qE) (b:Bool) (L F W:LLI) (_:vs=[.ref p]) (_:FAt C H p ra ca af aw b L F W) (_:Q (.bl (b && decide (L=[]))) H):IspEnded C vs H Q E
def a5l(C:qE):Sp:=λvs H Q E=>IspEnded C vs H Q E
def b2y{ra ca af aw:qE}{b:Bool}(hi:σ[i]?=some (some (.ref p)))(D:FAt C H p ra ca af aw b L F W)(k:Q (.bl (b && decide (L=[]))) H):a1N C "ended" (a5l C) [] E0 (P0 i) U0 σ H Q:=by
 obtain⟨⟨dx,ah,hs,a,_⟩,_,_,_⟩:=id D;exact⟨_,hi,p,dx,_,rfl,a,b1j _ _ _ _ _ _,p,ra,ca,af,aw,b,L,F,W,rfl,D,k⟩
def a2a:FnScope ["self"] ["self"] (A1 J6):={}
def b3t(c:MethAt K C "ended" "Finder.ended" J6 ["self"])(U:FiTx K C)(T:Tx mg):MethOk P w K mg base C "ended" 1 ["self"] (a5l C):=by
 refine c.fnJ a2a (λvs H Q E h=>?_) (λd f A a s H vs Q E l h=>?_)
 .obtain⟨p,ra,ca,af,aw,b,L,F,W,rfl,_⟩:=h;rfl
 .obtain⟨p,ra,ca,af,aw,b,L,F,W,rfl,D,k⟩:=h;obtain⟨⟨dx,ah,hs,h1,h2,g,i,j⟩,⟨fs,f1,f2⟩,⟨o,m,n⟩,ne⟩:=id D;refine⟨_,(A4 (A9 (W6 (F0 K (jv 0)) (W5 (a1a (C7 K rfl T.b_len (jaC (F0 K (jv 0)) jaN)) A6))))),?_⟩;refine⟨_,rfl,p,C,dx,_,_,rfl,h1,U.cl,U.n3,a4L _ _ _ _ _ _,?_⟩;refine⟨b,rfl,?_⟩;cases b with
  |false=>exact C3 k
  |true =>
   refine E1 ⟨_,rfl,p,C,dx,_,_,rfl,h1,U.cl,U.n4,Z5 _ _ _ _ _ _,ah,_,rfl,.inl (SqL.of h2),rfl,?_⟩;have e:decide (V.int (hs.length:Int)=V.int 0)=decide (L=[]):=by
    rw[g.1];cases L with
    |nil=>simp
    |cons x L=>simp;omega
   rw[e];exact k
inductive IspTold(C:qE)(vs:qA V)(H:Hp)(Q:VK)(E:XK):Prop
 |mk (p ra ca af aw:qE) (b:Bool) (L F W:LLI) (_:vs=[.ref p]) (_:FAt C H p ra ca af aw b L F W) (_:(∀v∈F,0<v.length)) (_:∀q zs tss H',Same H H'->H' q=some (.tup zs)->Its H' zs tss->tss.Perm F->E2 tss->Q (.ref q) H'):IspTold C vs H Q E
def a7L(C:qE):Sp:=λvs H Q E=>IspTold C vs H Q E
def b5g{ra ca af aw:qE}{b:Bool}(hi:σ[i]?=some (some (.ref p)))(D:FAt C H p ra ca af aw b L F W)(h:∀v∈F,0<v.length)(k:∀q zs tss H',Same H H'->H' q=some (.tup zs)->Its H' zs tss->tss.Perm F->E2 tss->Q (.ref q) H'):a1N C "told" (a7L C) [] E0 (P0 i) U0 σ H Q:=by
 obtain⟨⟨dx,ah,hs,a,_⟩,_,_,_⟩:=id D;exact⟨_,hi,p,dx,_,rfl,a,b4h _ _ _ _ _ _,p,ra,ca,af,aw,b,L,F,W,rfl,D,h,k⟩
def a2T:FnScope ["self"] ["self"] (A1 M3):={}
def b5V(g:MethAt K C "told" "Finder.told" M3 ["self"])(U:FiTx K C)(T:Tx mg):MethOk P w K mg base C "told" 1 ["self"] (a7L C):=by
 refine g.fnJ a2T (λvs H Q E h=>?_) (λi f A d s H vs Q E v h=>?_)
 .obtain⟨p,ra,ca,af,aw,b,L,F,W,rfl,_⟩:=h;rfl
 .obtain⟨p,ra,ca,af,aw,b,L,F,W,rfl,D,hF,k⟩:=h;obtain⟨⟨dx,ah,hs,h1,h2,r,t,u⟩,⟨fs,f1,f2⟩,⟨z,x,y⟩,ne⟩:=id D;refine⟨_,(A4 (A9 (D9 K rfl T.b_tuple (jaC (a7j K rfl T.b_sorted (jaC (F0 K (jv 0)) jaN)) jaN)))),?_⟩;refine⟨_,rfl,p,C,dx,_,_,rfl,h1,U.cl,U.n5,a1D _ _ _ _ _ _,af,fs,F,rfl,.inl (SqL.of f1),f2,hF,λl zs e m j a c _=>?_⟩;refine⟨l,_,rfl,.inl ⟨SqL.of A0,λq n=>?_⟩⟩;have s2:=((Same.refl H).upd (o:=.lst zs) m).upd (o:=.tup zs) n;exact k q zs e _ s2 A0 (j.same s2) a c
inductive IspPaper(C:qE)(vs:qA V)(H:Hp)(Q:VK)(E:XK):Prop
 |mk (p ra ca af aw:qE) (b:Bool) (L F W:LLI) (_:vs=[.ref p]) (_:FAt C H p ra ca af aw b L F W) (_:∀q zs H',Same H H'->H' q=some (.tup zs)->Its H' zs W->Q (.ref q) H'):IspPaper C vs H Q E
def a5j(C:qE):Sp:=λvs H Q E=>IspPaper C vs H Q E
def b2x{ra ca af aw:qE}{b:Bool}(hi:σ[i]?=some (some (.ref p)))(D:FAt C H p ra ca af aw b L F W)(k:∀q zs H',Same H H'->H' q=some (.tup zs)->Its H' zs W->Q (.ref q) H'):a1N C "paper" (a5j C) [] E0 (P0 i) U0 σ H Q:=by
 obtain⟨⟨dx,ah,hs,a,_⟩,_,_,_⟩:=id D;exact⟨_,hi,p,dx,_,rfl,a,b1i _ _ _ _ _ _,p,ra,ca,af,aw,b,L,F,W,rfl,D,k⟩
def a1Z:FnScope ["self"] ["self"] (A1 J5):={}
def b3o(d:MethAt K C "paper" "Finder.paper" J5 ["self"])(U:FiTx K C)(T:Tx mg):MethOk P w K mg base C "paper" 1 ["self"] (a5j C):=by
 refine d.fnJ a1Z (λvs H Q E h=>?_) (λe f A a s H vs Q E r h=>?_)
 .obtain⟨p,ra,ca,af,aw,b,L,F,W,rfl,_⟩:=h;rfl
 .obtain⟨p,ra,ca,af,aw,b,L,F,W,rfl,D,k⟩:=h;obtain⟨⟨dx,ah,hs,h1,h2,l,m,n⟩,⟨fs,f1,f2⟩,⟨c,i,j⟩,ne⟩:=id D;refine⟨_,(A4 (A9 (D9 K rfl T.b_tuple (jaC (F0 K (jv 0)) jaN)))),?_⟩;refine⟨_,rfl,p,C,dx,_,_,rfl,h1,U.cl,U.n6,a3E _ _ _ _ _ _,aw,_,rfl,.inl ⟨SqL.of i,λq g=>?_⟩⟩;have s2:=(Same.refl H).upd (o:=.tup c) g;exact k q c _ s2 A0 (j.same s2)
end
inductive Wk(rss:LLI)(cs:qA (qD Int)):LLI->LLI->LLI->Nat->Prop
 |one {L:LLI}(ri:E2 L) (nd:L.Nodup) (h:∀v,v∈L↔v∈L5 cs):Wk rss cs (L.filter λv=>Ans rss v) L L 1
 |more {F W L L':LLI}{k:Nat}(h:Wk rss cs F W L k) (ne:L≠[]) (ri:E2 L') (nd:L'.Nodup) (hm:∀v,v∈L'↔∃u∈L,a1j rss cs F u v):Wk rss cs (F++L'.filter λv=>Ans rss v) (W++L') L' (k+1)
def b9z(rss:LLI)(cs:qA (qD Int))(most:Int):Prop:=∃F W L k,Wk rss cs F W L k/\(most<W.length∨(L≠[]/\∃L':LLI,L'.Nodup/\(∀v∈L',∃u∈L,a1j rss cs F u v)/\most<W.length+L'.length))
def b7l(h:∀x∈v,0<=x):∀x∈v,x<=v.sum:=by
 induction v with
 |nil=>intro x a;cases a
 |cons y v c =>
  intro x a;have h1:=h y ao;have h2:=b1Y v λz b=>h z (ar _ b);rw[bK];rcases az.mp a with rfl|a
  .omega
  .have:=c (λz b=>h z (ar _ b)) x a;omega
def b6I(h:∀x∈u,0<=x):∀x∈bump u j,0<=x:=by
 intro x a;unfold bump at a;rcases eU a with z|z
 .exact h x z
 .by_cases hj:j<u.length
  .have:=h _ (cY (h:=hj));rw[aB,aj hj]at z;simp at z;omega
  .rw[aB,cI (by omega)]at z;simp at z;omega
def b1Q(n j:Nat):∀x∈M8 n j,0<=x:=by
 intro x a;unfold M8 at a;obtain⟨i,_,rfl⟩:=aT.mp a;split<;>omega
def a7D(n j:Nat)(c:j<n):M8 n j=bump (List.replicate n 0) j:=by
 refine fE (by rw[K9,G0,ed]) λi h1 h2=>?_;rw[K9]at h1;have a:=T9 n j i h1;have b:=a1g (List.replicate n 0) j i (by simpa using c);rw[aB,aj (by rw[K9];exact h1)]at a;rw[aB,aj h2]at b;simp only[Option.getD_some]at a b;rw[a,b];simp only[aB,List.getElem?_replicate,c,h1,fb];by_cases e:i=j<;>simp[e]
def b2v(n:Nat):(List.replicate n (0:Int)).sum=0:=by
 induction n with
 |zero=>rfl
 |succ n a=>rw[dM,bK,a];rfl
def b0a(n j:Nat)(a:j<n):(M8 n j).sum=1:=by
 rw[a7D n j a,a1f _ _ (by simpa using a),b2v];rfl
def a5d(h:j∈StP rss cs u):j<u.length/\a1i rss u j<0/\a7v (cs.getD j none) (u.getD j 0)=true:=by
 unfold StP at h;rw[aZ,aZ,bb,bz]at h;exact⟨h.1.1,h.1.2,h.2⟩
structure LvF(n k:Nat)(v:qI):Prop where
 len:v.length=n
 nn:∀x∈v,0<=x
 sum:v.sum=k
def a1C(h:v∈L5 cs):LvF cs.length 1 v:=by
 obtain⟨j,a,rfl⟩:=aT.mp (aZ.mp h).1;exact⟨K9 _ _,b1Q _ _,b0a _ _ (bb.mp a)⟩
def b3v(a:LvF n k u)(h:a1j rss cs F u v):LvF n (k+1) v:=by
 obtain⟨j,b,rfl,_⟩:=h;have:=(a5d b).1;exact⟨by rw[G0];exact a.len,b6I a.nn,by rw[a1f _ _ this,a.sum];omega⟩
def Wk.lv(h:Wk rss cs F W L k):(∀v∈L,LvF cs.length k v)/\(∀v∈W,∃i,1<=i/\i<=k/\LvF cs.length i v)/\(∀v∈F,v∈W/\Ans rss v=true)/\F.length<=W.length/\L.length<=W.length/\1<=k/\k<=W.length+1/\(L≠[]->k<=W.length):=by
 induction h with
 |@one L ri nd h =>
  refine⟨λv a=>a1C ((h v).mp a),λv a=>⟨1,by omega,by omega,a1C ((h v).mp a)⟩,λv a=>aZ.mp a,bD _ _,ak _,by omega,by omega,λne=>?_⟩;cases L with
  |nil=>exact absurd rfl ne
  |cons x L=>simp
 |@more F W L L' k h ne ri nd e n =>
  obtain⟨j,l,d,o,p,q,r,m⟩:=n;have b:∀v∈L',LvF cs.length (k+1) v:=λv a=>by
   obtain⟨u,f,g⟩:=(e v).mp a;exact b3v (j u f) g
  have:=bD (λv=>Ans rss v) L';have s:=m ne;refine⟨b,λv a=>?_,λv a=>?_,by rw[au,au];omega,by rw[au];omega,by omega,by rw[au];omega,λc=>?_⟩
  .rcases ay.mp a with z|z
   .obtain⟨i,q1,q2,q3⟩:=l v z;exact⟨i,q1,by omega,q3⟩
   .exact⟨k+1,by omega,by omega,b v z⟩
  .rcases ay.mp a with z|z
   .exact⟨aR _ (d v z).1,(d v z).2⟩
   .exact⟨aQ _ (aZ.mp z).1,(aZ.mp z).2⟩
  .rw[au];have:0<L'.length:=List.length_pos_iff.mpr c;omega
section
variable {K:qF}
inductive IspLeast(D:qE)(vs:qA V)(H:Hp)(Q:VK)(E:XK):Prop
 |mk (ra ca:qE) (rss:LLI) (cs:qA (qD Int)) (most:Nat) (mi:Int) (_:vs=[.ref ra,.ref ca,.int mi]) (_:mi=most) (_:SyAt H ra ca rss cs) (_:(most+1)*cs.length+200<=100000) (_:(∀q t pp zs tss ws F W k H',Same H H'->H' q=some (.tup [.ref t,.ref pp])->H' t=some (.tup zs)->Its H' zs tss->tss.Perm F->E2 tss->H' pp=some (.tup ws)->Its H' ws W->Wk rss cs F W [] k->W.length<=most->Q (.ref q) H')) (_:(∀H',Same H H'->b9z rss cs most->E (.ref D) none H')):IspLeast D vs H Q E
def a9m(D:qE):Sp:=λvs H Q E=>IspLeast D vs H Q E
def sc_least:FnScope ["rows","caps","most","finder","room"] ["rows","caps","most"] (A1 a2q):={}
def b3p{r:qE}(V:FunAt K mg "least" a2q ["rows","caps","most"])(T:Tx mg)(U:FiTx K C)(a:Cls K C)(G:MakeOk P w K mg base "Finder" C 1 ["self","rows","caps"] (a9q C))(g:MethOk P w K mg base C "step_within" 6 ["self","room"] (a5g C))(n:MethOk P w K mg base C "ended" 1 ["self"] (a5l C))(t:MethOk P w K mg base C "told" 1 ["self"] (a7L C))(p:MethOk P w K mg base C "paper" 1 ["self"] (a5j C))
  (D:OwnCls "TooMany" r [.type "ValueError",.type "Exception",.type "BaseException",.type "object"] "ValueError.__new__" mg base):OkE P w K mg base "least" 7 ["rows","caps","most"] (a9m r):=by
 refine V.okE sc_least (λvs H Q E h=>?_) (λc0 f A b7 s H vs Q E hr h=>?_)
 .obtain⟨ra,ca,rss,cs,most,mi,rfl,_⟩:=h;rfl
 .obtain⟨ra,ca,rss,cs,most,_,rfl,rfl,Y,hbig,kq,ke⟩:=h;refine⟨_,(A3 (B2 (i:=3) sc_least.nd rfl (Or.inl rfl) (b8Y G (hr.mono (by omega)) rfl (jaC (jv 0) (jaC (jv 1) jaN))))
 (A3 (B2 (i:=4) sc_least.nd rfl (Or.inl rfl) (jv 2))
 (A3 (a7h (E9 (C1 K (a5M n a (hr.mono (by omega)) (jv 3))))
 (A3 (B2 (i:=4) sc_least.nd rfl (Or.inl rfl) (a9G (jv 4) (a8q g a (hr.mono (by omega)) (jv 3) (jaC (jv 4) jaN))))
 (A4 (C6 (b3H (jv 4) A6)
 (A4 (b3K D PySem.F.excBase_ValueError rfl PySem.F.excBase_ValueError rfl (jaC P9 jaN)))
 B7))) (hp:=PassesOwn.leaving))
 (A4 (A9 (W4 (jaC (a5M t a (hr.mono (by omega)) (jv 3)) (jaC (a5M p a (hr.mono (by omega)) (jv 3)) jaN)))))))),?_⟩
  refine⟨_,rfl,_,rfl,λx dx hx a9 M=>?_⟩;have b6:upd H dx (.own x) x=none:=by rw[A2 M.symm];exact hx
  have s0:Same H (upd (upd H dx (.own x)) x (.ins C dx [])):=((Same.refl H).upd a9).upd b6;refine⟨x,dx,ra,ca,rfl,A0,λaf aw H1 a7 a8 D1 _ kp=>⟨rfl,?_⟩⟩;have Z:H af=none:=s0.free a7;have a0:H aw=none:=s0.free a8;have s1:Same H H1:=λb o e=>kp b o (s0 b o e) (A5 e hx);dsimp only[B0];refine⟨_,rfl,?_⟩;dsimp only[B0];have hz:(300000:Nat)<=sizeLine:=by rw[aX];decide
  refine a0g (λσ H'=>σ=[some (.ref ra),some (.ref ca),some (.int most),some (.ref x),σ.getD 4 none]/\Same H H'/\∃F W k,FAt C H' x ra ca af aw true [] F W/\Wk rss cs F W [] k/\W.length<=most) ?fin λfin=>?_
  case fin =>
   rintro σ H2 ⟨hσ,s2,F,W,k,N,I,O⟩;obtain⟨⟨a3,ah,hs,h1,h2,h3,h4,h5⟩,_,_,_⟩:=id N;have a1:=I.lv;rw[hσ];refine b5g rfl N (λv J=>?_) λq1 zs b8 H3 s3 b3 a4 b2 b5=>?_
   .obtain⟨i,_,_,lv⟩:=a1.2.1 v (a1.2.2.1 v J).1;rw[lv.len];exact Y.n1
   have D3:=N.same s3;obtain⟨⟨c1,b9,c7,g1,_⟩,_,_,_⟩:=id D3;refine b2x rfl D3 λq2 ws H4 s4 b4 a5=>?_;refine⟨by show 2<=sizeLine;omega,λq hq=>?_⟩;have s5:=(Same.refl H4).upd (o:=.tup [.ref q1,.ref q2]) hq;exact kq q q1 q2 zs b8 ws F W k _ (((s2.trans s3).trans s4).trans s5) A0 (s5 _ _ (s4 _ _ b3)) ((a4.same s4).same s5) b2 b5 (s5 _ _ b4) (a5.same s5) I O
  refine⟨λm σ H'=>∃(b:Bool) (L F W:LLI) (d:Int),σ=[some (.ref ra),some (.ref ca),some (.int most),some (.ref x),some (.int d)]/\Same H H'/\FAt C H' x ra ca af aw b L F W/\0<=d/\m=d.toNat+(if b=true/\L=[] then 0 else 1)/\((b=false/\L=[]/\F=[]/\W=[]/\d=most)∨(b=true/\∃k,Wk rss cs F W L k/\d=most-W.length)),
   ⟨_,false,[],[],[],_,rfl,s1,D1,by omega,rfl,.inl ⟨rfl,rfl,rfl,rfl,rfl⟩⟩,?_⟩
  rintro m σ H2 ⟨b,L,F,W,d,rfl,s2,N,r0,rfl,S⟩;obtain⟨⟨a3,ah,hs,h1,h2,h3,h4,h5⟩,_,_,_⟩:=id N;refine b2y rfl N ⟨_,rfl,?_⟩;have b1:=Y.n1;have c5:most+1<=(most+1)*cs.length:=Nat.le_mul_of_pos_right _ b1;by_cases he:b=true/\L=[]
  .obtain⟨rfl,rfl⟩:=he;refine C3 ?_;rcases S with⟨z,_⟩|⟨_,k,I,j⟩
   .cases z
   .exact fin _ _ ⟨rfl,s2,F,W,k,N,I,by omega⟩
  .have hb:(b && decide (L=[]))=false:=by
    cases b with
    |false=>rfl
    |true =>
     have:L≠[]:=λz=>he ⟨rfl,z⟩;simpa using this
   rw[hb,aq he];refine E1 ⟨λσ' H'=>∃(L' V X:LLI) (k:Nat) (l:Int),σ'=[some (.ref ra),some (.ref ca),some (.int most),some (.ref x),some (.int l)]/\Same H H'/\FAt C H' x ra ca af aw true L' V X/\0<=l/\Wk rss cs V X L' k/\l=most-X.length/\l.toNat+(if L'=[] then 0 else 1)<d.toNat+1,λσ' H' ⟨L',V,X,k,l,e1,e2,e3,e4,e5,e6,e7⟩=>⟨_,e7,true,L',V,X,l,e1,e2,e3,e4,by simp,.inr ⟨rfl,k,e5,e6⟩⟩,?_⟩;obtain⟨B,hB,hL,hF,c4,a6,c2⟩:∃B:Int,B<=2 ^ 60/\(∀v∈L,v.length=cs.length/\∀y∈v,0<=y/\y<=B)/\(∀v∈F,v.length=cs.length)/\W.length<=most/\L.length<=most/\F.length<=most:=by
    rcases S with⟨rfl,rfl,rfl,rfl,_⟩|⟨rfl,k,I,j⟩
    .exact⟨0,by omega,(λ_ z=>nomatch z),(λ_ z=>nomatch z),by simp,by simp,by simp⟩
    .obtain⟨i1,i2,i3,i4,i5,i6,i7,i8⟩:=I.lv;refine⟨k,by omega,λv J=>⟨(i1 v J).len,λy hy=>⟨(i1 v J).nn y hy,?_⟩⟩,λv J=>?_,by omega,by omega,by omega⟩
     .have:=b7l (i1 v J).nn y hy;rw[(i1 v J).sum]at this;exact this
     .obtain⟨i,_,_,lv⟩:=i2 v (i3 v J).1;exact lv.len
   have c3:L.length*cs.length<=most*cs.length:=Nat.mul_le_mul_right _ a6;have c6:(most+1)*cs.length=most*cs.length+cs.length:=by rw[Nat.add_mul,Nat.one_mul]
   refine⟨_,rfl,b2w rfl rfl N (Y.same s2) (.inr ⟨d,rfl,r0⟩) hL hB hF (by omega) (by omega) (by omega) λL' H3 R D3 _ a2=>?_⟩;refine⟨_,_,rfl,rfl,?_⟩;dsimp only[B0];have s3:Same H H3:=λc o e=>a2 c o (by simpa using⟨A5 e hx,A5 e Z,A5 e a0⟩) (s2 c o e);have key:(∃k,Wk rss cs (F++L'.filter λv=>Ans rss v) (W++L') L' k/\d=most-W.length)∨(d<L'.length/\b9z rss cs most):=by
    rcases S with⟨rfl,rfl,rfl,rfl,j⟩|⟨rfl,k,I,j⟩
    .exact .inl ⟨1,by simpa using Wk.one R.ri R.nd (R.fst rfl),by simpa using j⟩
    .have M:L≠[]:=λz=>he ⟨rfl,z⟩;rcases R.all rfl with ha|⟨m',e',hm'⟩
     .exact .inl ⟨k+1,.more I M R.ri R.nd λv=>⟨R.snd rfl v,λ⟨u,hu,J⟩=>ha u hu v J⟩,j⟩
     .cases e';exact .inr ⟨hm',F,W,L,k,I,.inr ⟨M,L',R.nd,R.snd rfl,by omega⟩⟩
   refine⟨_,rfl,_,_,rfl,rfl,_,rfl,a3v (λe=>?_) (λe=>?_)⟩
   .have e':d-(L'.length:Int)<0:=bE e;refine⟨by rw[aX];decide,ke _ s3 ?_⟩;rcases key with⟨k,I,j⟩|⟨_,ho⟩
    .exact⟨_,_,_,k,I,.inl (by rw[au];omega)⟩
    .exact ho
   .have e':¬d-(L'.length:Int)<0:=λz=>e (aU z);rcases key with⟨k,I,j⟩|⟨b0,_⟩
    .refine⟨L',_,_,k,_,rfl,s3,D3,by omega,I,by rw[au];omega,?_⟩;cases L' with
     |nil=>simp
     |cons y L'=>simp only[aY]at e'⊢;rw[aq (by simp)];omega
    .exact absurd b0 (by omega)
end
structure Answer(rss:LLI)(n:Nat)(v:qI):Prop where
 len:v.length=n
 nn:∀x∈v,0<=x
 ans:Ans rss v=true
 pos:0<v.sum
structure Least(rss:LLI)(cs:qA (qD Int))(v:qI):Prop where
 an:Answer rss cs.length v
 wi:Wi cs v=true
 min:∀u,Answer rss cs.length u->Under u v->u=v
def Under.refl(v:qI):Under v v:=⟨rfl,λ_ _=>Int.le_refl _⟩
def Under.trans{a b c:qI}(h:Under a b)(g:Under b c):Under a c :=
 ⟨h.1.trans g.1,λj d=>Int.le_trans (h.2 j (by rw[g.1];exact d)) (g.2 j d)⟩
def Under.eq{a b:qI}(h:Under a b)(hs:b.sum<=a.sum):a=b:=by
 refine bR λne=>?_;have:=h.sum.2 ne;omega
def a1k(h:v.length=cs.length):Wi cs v=true↔∀j,j<cs.length->b1s (cs.getD j none) (v.getD j 0)=true:=by
 unfold Wi;induction cs generalizing v with
 |nil=>simp
 |cons c cs b =>
  cases v with
  |nil=>cases h
  |cons x v =>
   rw[bp,cP,aJ,b (by simpa using h)];constructor
   .rintro⟨h1,h2⟩ j a;cases j with
    |zero=>exact h1
    |succ j=>exact h2 j (by simpa using a)
   .intro h1;exact⟨h1 0 (by simp),λj a=>h1 (j+1) (by simpa using a)⟩
def b1r{c:qD Int}{y:Int}(h:b1s c y=true)(a:x<=y):b1s c x=true:=by
 cases c with
 |none=>rfl
 |some c =>
  have:y<=c:=bE h;exact aU (by omega)
def a2l(a:v.length=cs.length)(h:Wi cs v=true)(c:Under u v):Wi cs u=true:=by
 rw[a1k a]at h;rw[a1k (by rw[c.1];exact a)];intro j b;exact b1r (h j b) (c.2 j (by rw[a];exact b))
def a7y(h:Ans rss v=true)(j:Nat):a1i rss v j=0:=by
 unfold a1i S0;unfold Ans at h;induction rss with
 |nil=>rfl
 |cons r rss a =>
  rw[cP,aJ,bz]at h;rw[aW,bp,bK,a h.2,h.1];omega
def C8{f:qI}(a:f.length=v.length):Bel f v=true↔Under f v:=by
 constructor
 .intro h;refine⟨a,?_⟩;unfold Bel at h;induction f generalizing v with
  |nil =>
   intro j b;rw[<-a]at b;simp at b
  |cons x f c =>
   cases v with
   |nil=>cases a
   |cons y v =>
    rw[bp,cP,aJ]at h;intro j b;cases j with
    |zero=>exact bE h.1
    |succ j=>exact c (by simpa using a) h.2 j (by simpa using b)
 .intro h;unfold Bel;induction f generalizing v with
  |nil=>rfl
  |cons x f c =>
   cases v with
   |nil=>cases a
   |cons y v =>
    obtain⟨h1,h2⟩:=h.tail;rw[bp,cP,c (by simpa using a) h2,Bool.and_true];exact aU h1
def O5{rss:LLI}{cs:qA (qD Int)}:∀(m:Nat) {u:qI},u.sum<=m->Answer rss cs.length u->Wi cs u=true->∃a,Least rss cs a/\Under a u
 |0,u,e,h,_=>absurd h.pos (by omega)
 |m+1,u,e,h,hw=>by
  by_cases c:∃t,Answer rss cs.length t/\Under t u/\t≠u
  .obtain⟨t,h1,h2,h3⟩:=c;have:=h2.sum.2 h3;obtain⟨a,d,b⟩:=O5 m (u:=t) (by omega) h1 (a2l h.len hw h2);exact⟨a,d,b.trans h2⟩
  .exact⟨u,⟨h,hw,λt f b=>bR λne=>c ⟨t,f,b,ne⟩⟩,Under.refl u⟩
def a5B:∀{v:qI},(∀x∈v,0<=x)->0<v.sum->∃j,j<v.length/\1<=v.getD j 0
 |[],_,h=>by simp at h
 |x::v,a,h=>by
  by_cases b:1<=x
  .exact⟨0,by simp,by simpa using b⟩
  .have h0:=a x ao;rw[bK]at h;obtain⟨j,h1,h2⟩:=a5B (v:=v) (λy c=>a y (ar _ c)) (by omega);exact⟨j+1,by simpa using h1,by simpa using h2⟩
def b7m(h:∀x∈v,0<=x)(j:Nat):0<=v.getD j 0:=by
 rw[aB];cases e:v[j]? with
 |none=>simp
 |some x=>simpa using h x (aA e)
structure WkOk(rss:LLI)(cs:qA (qD Int))(F L:LLI)(k:Nat):Prop where
 wi:∀v∈L,Wi cs v=true
 bar:∀v∈L,∀f∈F,Under f v->f=v
 snd:∀f∈F,Least rss cs f
 all:∀a,Least rss cs a->a.sum<=k->a∈F
 up:∀a,Least rss cs a->k<=a.sum->∃v∈L,Under v a
def Wk.ok(hR:∀r∈rss,r.length=cs.length)(h:Wk rss cs F W L k):WkOk rss cs F L k:=by
 induction h with
 |@one L ri nd h =>
  have l:∀v∈L,LvF cs.length 1 v:=λv g=>a1C ((h v).mp g);have o:∀v∈L,Wi cs v=true:=λv g=>(aZ.mp ((h v).mp g)).2;have s:∀a,Least rss cs a->((1:Nat):Int)<=a.sum->∃v∈L,Under v a:=λa b _=>by
   obtain⟨j,h1,h2⟩:=a5B b.an.nn b.an.pos;rw[b.an.len]at h1;have d:Under (M8 cs.length j) a:=⟨by rw[K9,b.an.len],λi hi=>by
    rw[b.an.len]at hi;rw[T9 _ _ _ hi];by_cases e:i=j
    .rw[aD e,e];exact h2
    .rw[aq e];exact b7m b.an.nn i⟩
   exact⟨_,(h _).mpr (aZ.mpr ⟨aT.mpr ⟨j,bb.mpr h1,rfl⟩,a2l b.an.len b.wi d⟩),d⟩
  refine⟨o,λv g f m d=>?_,λf m=>?_,λa b hs=>?_,s⟩
  .have h1:=(l v g).sum;have h2:=(l f (aZ.mp m).1).sum;exact d.eq (by omega)
  .obtain⟨hf1,n⟩:=aZ.mp m;have lv:=l f hf1;refine⟨⟨lv.len,lv.nn,n,by rw[lv.sum];decide⟩,o f hf1,λu p d=>d.eq ?_⟩;have:=p.pos;rw[lv.sum];omega
  .obtain⟨v,g,d⟩:=s a b (by have:=b.an.pos;omega);have h1:=(l v g).sum;have:v=a:=d.eq (by omega);subst this;exact aZ.mpr ⟨g,b.an.ans⟩
 |@more F W L L' k h ne ri nd K C =>
  obtain⟨M,Z,T,i4,i5,i6,i7,i8⟩:=h.lv;have l:∀v∈L',LvF cs.length (k+1) v:=λv g=>by
   obtain⟨u,p,Y⟩:=(K v).mp g;exact b3v (M u p) Y
  have y:∀f∈F,f.length=cs.length/\f.sum<=k:=λf m=>by
   obtain⟨i,q1,q2,lv⟩:=Z f (T f m).1;exact⟨lv.len,by rw[lv.sum];omega⟩
  have s:∀a,Least rss cs a->((k+1:Nat):Int)<=a.sum->∃v∈L',Under v a:=λa b hs=>by
   obtain⟨v,g,d⟩:=C.up a b (by omega);have lv:=M v g;have I:v≠a:=λz=>by rw[<-z,lv.sum]at hs;omega
   have Q:Ans rss v=false:=by
    cases e:Ans rss v with
    |false=>rfl
    |true=>exact absurd (b.min v ⟨lv.len,lv.nn,e,by rw[lv.sum];omega⟩ d) I
   have V:=b7h rss v a (λr X=>by rw[hR r X,b.an.len]) d I b.an.ans;obtain⟨j,t⟩:=List.exists_mem_of_ne_nil _ V;have H:=a7Z t;have O:a1i rss v j<0:=by
    unfold Pl at t;rw[aZ,Q,cQ,aJ]at t;exact bE t.2.2
   have D:Under (bump v j) a:=d.bump t;have hw:=(a1k b.an.len).mp b.wi j (by rw[<-b.an.len];exact H.1);refine⟨bump v j,(K _).mpr ⟨v,g,j,?_,rfl,?_⟩,D⟩
   .unfold StP;rw[aZ,aZ,bb,bz];refine⟨⟨by rw[d.1];exact H.1,O⟩,?_⟩;cases e:cs.getD j none with
    |none=>rfl
    |some c =>
     rw[e]at hw;have:a.getD j 0<=c:=bE hw;exact aU (by omega)
   .cases e:Bar F (bump v j) j with
    |false=>rfl
    |true =>
     unfold Bar at e;obtain⟨f,m,n⟩:=bA.mp e;rw[aJ]at n;have A:=(y f m).1;have B:Under f a:=((C8 (by rw[A,G0,lv.len])).mp n.2).trans D;have:=b.min f (C.snd f m).an B;have h2:=(y f m).2;rw[this]at h2;omega
  have o:∀v∈L',Wi cs v=true:=λv g=>by
   obtain⟨u,p,j,t,rfl,_⟩:=(K v).mp g;have w:=(M u p).len;have q:=a5d t;have hw:=C.wi u p;rw[a1k w]at hw;rw[a1k (by rw[G0];exact w)];intro i hi;rw[a1g _ _ _ q.1];by_cases e:i=j
   .rw[aD e,e];have J:=q.2.2;cases U:cs.getD j none with
    |none=>rfl
    |some c =>
     rw[U]at J;have:u.getD j 0<c:=bE J;exact aU (by omega)
   .rw[aq e];exact hw i hi
  have x:∀v∈L',∀f∈F++L'.filter (λv=>Ans rss v),Under f v->f=v:=λv g f m d=>by
   rcases ay.mp m with z|z
   .obtain⟨u,p,j,t,rfl,hb⟩:=(K v).mp g;have w:=(M u p).len;have q:=a5d t;have A:=(y f z).1;exfalso;by_cases e:f.getD j 0=(bump u j).getD j 0
    .have:Bar F (bump u j) j=true:=by
      unfold Bar;exact bA.mpr ⟨f,z,by rw[aJ];exact⟨aU e,(C8 d.1).mpr d⟩⟩
     rw[this]at hb;cases hb
    .have B:Under f u:=⟨by rw[A,w],λi hi=>by
      have h1:=d.2 i (by rw[G0];exact hi);rw[a1g _ _ _ q.1]at h1;by_cases S:i=j
      .subst S;rw[a1g _ _ _ q.1,aD rfl]at e;rw[aD rfl]at h1;omega
      .rw[aq S]at h1;exact h1⟩
     have h2:=C.bar u p f z B;have J:=a7y (T f z).2 j;rw[h2]at J;omega
   .have h1:=(l v g).sum;have h2:=(l f (aZ.mp z).1).sum;exact d.eq (by omega)
  have E:∀a,Least rss cs a->a.sum<=((k+1:Nat):Int)->a∈F++L'.filter (λv=>Ans rss v):=λa b hs=>by
   by_cases h1:a.sum<=(k:Int)
   .exact aR _ (C.all a b h1)
   .obtain⟨v,g,d⟩:=s a b (by omega);have h2:=(l v g).sum;have:v=a:=d.eq (by omega);subst this;exact aQ _ (aZ.mpr ⟨g,b.an.ans⟩)
  refine⟨o,x,λf m=>?_,E,s⟩;rcases ay.mp m with z|z
  .exact C.snd f z
  .obtain⟨hf1,n⟩:=aZ.mp z;have lv:=l f hf1;refine⟨⟨lv.len,lv.nn,n,by rw[lv.sum];omega⟩,o f hf1,λu p d=>?_⟩;refine bR λR=>?_;have P:=d.sum.2 R;rw[lv.sum]at P;obtain⟨a,b,G⟩:=O5 (rss:=rss) (cs:=cs) u.sum.toNat (by have:=p.pos;omega) p (a2l lv.len (o f hf1) d);have hs:=G.sum.1;have N:=C.all a b (by omega);have:=x f hf1 a (aR _ N) (G.trans d);rw[this,lv.sum]at hs;omega
def Wk.least(hR:∀r∈rss,r.length=cs.length)(h:Wk rss cs F W [] k)(v:qI):v∈F↔Least rss cs v:=by
 have o:=h.ok hR;refine⟨o.snd v,λa=>?_⟩;by_cases hs:v.sum<=(k:Int)
 .exact o.all v a hs
 .obtain⟨u,hu,_⟩:=o.up v a (by omega);cases hu
def Wk.nd{rss:LLI}{cs:qA (qD Int)}{F W L:LLI}{k:Nat}(h:Wk rss cs F W L k):W.Nodup/\F.Nodup:=by
 induction h with
 |@one L ri nd h=>exact⟨nd,nd.sublist List.filter_sublist⟩
 |@more F W L L' k h ne ri nd f d =>
  obtain⟨l,m,n,o,p,q,r,s⟩:=h.lv;have a:∀v∈W,∀u∈L',v≠u:=λv c u b e=>by
   obtain⟨i,w,x,lv⟩:=m v c;obtain⟨t,g,j⟩:=(f u).mp b;have:=(b3v (l t g) j).sum;rw[<-e,lv.sum]at this;omega
  refine⟨fq.mpr ⟨d.1,nd,a⟩,fq.mpr ⟨d.2,nd.sublist List.filter_sublist,λv c u b=>a v (n v c).1 u (aZ.mp b).1⟩⟩
def a2Y:∀{a b:LLI},E2 a->E2 b->a.Nodup->b.Nodup->(∀v,v∈a↔v∈b)->a=b
 |[],[],_,_,_,_,_=>rfl
 |[],y::b,_,_,_,_,h=>by have:=(h y).mpr ao;cases this
 |x::a,[],_,_,_,_,h=>by have:=(h x).mp ao;cases this
 |x::a,y::b,ra,rb,na,nb,h=>by
  obtain⟨k,l⟩:=cD.mp ra;obtain⟨i,j⟩:=cD.mp rb;obtain⟨f,g⟩:=cq.mp na;obtain⟨c,d⟩:=cq.mp nb;have e:x=y:=by
   refine O6 x y ?_ ?_
   .rcases az.mp ((h x).mp ao)with z|z
    .rw[z];exact L1 y
    .exact i x z
   .rcases az.mp ((h y).mpr ao)with z|z
    .rw[z];exact L1 x
    .exact k y z
  subst e;rw[a2Y l j g d λv=>?_];constructor
  .intro hv;rcases az.mp ((h v).mp (ar _ hv))with z|z
   .exact absurd (z ▸ hv) f
   .exact z
  .intro hv;rcases az.mp ((h v).mpr (ar _ hv))with z|z
   .exact absurd (z ▸ hv) c
   .exact z
def M5(h:PotAt H a b n)(d:H c=none):c∉[a,b]:=by
 obtain⟨_,e,t,k,h1,h2,_⟩:=h;simp only[az,bu,cx,not_or];exact⟨(A5 h1 d).symm,(A5 h2 d).symm⟩
def a5A(h:PotAt H a b n)(d:c∉[a,b]):PotAt (upd H c o) a b n:=by
 simp only[az,bu,cx,not_or]at d;obtain⟨ne,e,t,j,f,g,i⟩:=h;exact⟨ne,e,t,j,by rw[A2 (dv d.1)];exact f,by rw[A2 (dv d.2)];exact g,i⟩
section
variable {K:qF}
def two_at(x y:Int)(c:Bool):∃m:Int,atI [V.int x,.int y] (if c=true then 1 else 0)=some (.int m)/\(m=x∨m=y):=by
 cases c
 .exact⟨x,rfl,.inl rfl⟩
 .exact⟨y,rfl,.inr rfl⟩
def two_at'(x y r:Int)(h0:0<=r)(h1:r<2):∃m:Int,atI [V.int x,.int y] r=some (.int m)/\(m=x∨m=y):=by
 have:r=0∨r=1:=by omega
 rcases this with rfl|rfl
 .exact⟨x,rfl,.inl rfl⟩
 .exact⟨y,rfl,.inr rfl⟩
def c0c(h:k<n):ixN n (k:Int)=some k:=by
 unfold ixN;rw[aD (by omega),aD (by omega)];rfl
def b0u{src:qA (qJ)}{caps:L2.St}{f c:Nat}{te:TE}(R:Int->Prop)(s:n<=1000)(k:B1 src σ=none::caps)(o:PotAt H a b f)
  (m:∀(i:Nat) (H':Hp) (N:VK),i<n->PotAt H' a b (f+c*i)->(∀r d,R r->PotAt d a b (f+c*i+c)->Off [a,b] H' d->N (.int r) d)->te (some (.int i)::caps) H' N)
  (hd:∀H' p (xs:qI),xs.length=n->(∀x∈xs,R x)->PotAt H' a b (f+c*n)->Off [a,b] H H'->H' p=none->Q (.ref p) (upd H' p (.lst (xs.map V.int)))):E3 src (B0 0) I9 te σ Q (Itr 0 n) H:=by
 refine a0W s k (λi ys H'=>Ex1 λ(xs:qI)=>An5 (ys=xs.map V.int) (xs.length=i) ((∀x∈xs,R x)) (PotAt H' a b (f+c*i)) (Off [a,b] H H')) ⟨[],rfl,rfl,(λ_ z=>nomatch z),o,Off.refl _ _⟩ (λi ys H' h=>by obtain⟨xs,e,g,_⟩:=h;rw[e,ag,g];exact ak _) ?_ ?_
 .rintro i ys H' hi ⟨xs,rfl,g,hR,hP',off⟩;refine m i H' _ hi hP' λr d t j l=>⟨xs++[r],by simp,by simp[g],λx u=>?_,?_,off.trans l⟩
  .rcases ay.mp u with q|q
   .exact hR x q
   .rw[aP.mp q];exact t
  .have:f+c*(i+1)=f+c*i+c:=by rw[Nat.mul_add,Nat.mul_one,dP]
   rw[this];exact j
 .rintro ys H' ⟨xs,rfl,g,hR,hP',off⟩ p hp;exact hd H' p xs g hR hP' off hp
def a1r{l:qA qE}(s:Off l H H')(hp:H p=none):Off l H (upd H' p o):=λb u a e=>by
 rw[A2 (A5 e hp)];exact s b u a e
def a3g(o:Off [a,b] H H')(c:PotAt H' a b n)(hp:H' p=none):H p=none:=by
 rcases e:H p with _|u
 .rfl
 .have:=o _ _ (M5 c hp) e;rw[hp]at this;cases this
def V8(h:Its H vs rss)(c:PotAt H a b n)(o:Off [a,b] H H'):Its H' vs rss:=⟨h.1,λi v e=>let ⟨r,e1,e2⟩:=h.2 i v e;⟨r,e1,IT.off e2 c o⟩⟩
def a8g{z:Int}(h:x∈xs.set j z):x∈xs∨x=z:=by
 exact eU h
def b7M(r:Int)(h0:0<=r)(h1:r<6):∃z:Int,atI [V.int 0,.int 1,.int 1,.int 2,.int 2,.int 1] r=some (.int z)/\0<=z/\z<=2:=by
 have:r=0∨r=1∨r=2∨r=3∨r=4∨r=5:=by omega
 rcases this with rfl|rfl|rfl|rfl|rfl|rfl
 .exact⟨0,rfl,by decide,by decide⟩
 .exact⟨1,rfl,by decide,by decide⟩
 .exact⟨1,rfl,by decide,by decide⟩
 .exact⟨2,rfl,by decide,by decide⟩
 .exact⟨2,rfl,by decide,by decide⟩
 .exact⟨1,rfl,by decide,by decide⟩
inductive IspWidth(vs:qA V)(H:Hp)(Q:VK)(E:XK):Prop
 |mk (a b:qE) (n:Nat) (_:vs=[.ref a]) (_:PotAt H a b n) (_:n+100<2 ^ 60) (_:∀(m:Nat) H',1<=m->m<=8->PotAt H' a b (n+2)->Off [a,b] H H'->Q (.int m) H'):IspWidth  vs H Q E
def a9g:Sp:=λvs H Q E=>IspWidth  vs H Q E
def a3S:FnScope ["_law_pot_here"] ["_law_pot_here"] (A1 N7):={}
def b3i(F:FunAt K mg "_law_width" N7 ["_law_pot_here"])(T:Tx mg)(c:Ok P w K mg base "_law_take" 1 ["_law_pot_here","_law_many"] a2L):Ok P w K mg base "_law_width" 2 ["_law_pot_here"] a9g:=by
 refine F.okJ a3S (λvs H Q E h=>?_) (λB f A v s H vs Q E y h=>?_)
 .obtain⟨a,b,n,rfl,_⟩:=h;rfl
 .obtain⟨a,b,n,rfl,hP,hn,k⟩:=h;have M:(3000:Nat)<=sizeLine:=by rw[aX];decide
  refine⟨_,(A4 (A9 (S6 A6 (A7 c (y.mono (by omega)) rfl (jaC (jv 0) (jaC (J0 K (K6 (jaC A6 (jaC A6 jaN))) (b3S rfl T.b_int (jaC (a1a (A7 c (y.mono (by omega)) rfl (jaC (jv 0) (jaC A6 jaN))) A6) jaN))) jaN)))))),?_⟩;refine⟨_,rfl,by show 2<=sizeLine;omega,λp x=>?_⟩;have s1:=(Same.refl H).upd (o:=.lst [V.int 4,.int 8]) x;have u:=M5 hP x;refine⟨_,rfl,a,b,_,8,rfl,hP.same s1,by omega,by decide,by decide,λL H1 C D l d=>?_⟩;refine⟨rfl,.inr ⟨_,rfl,?_⟩⟩;obtain⟨m,r,J⟩:=two_at 4 8 (decide (V.int L=V.int 7));refine⟨p,_,_,_,rfl,rfl,SqL.of (d _ _ u A0),r,?_⟩;refine⟨a,b,_,m,rfl,l,by omega,by omega,by omega,λz H2 G I q g=>?_⟩;refine⟨_,_,rfl,rfl,?_⟩;obtain⟨t,rfl⟩:∃t:Nat,z=t:=⟨z.toNat,by omega⟩;have e:(1:Int)+(t:Int)=((t+1:Nat):Int):=by omega
  rw[show(λi j=>V.int (i+j)) (1:Int) (t:Int)=V.int ((t+1:Nat):Int) by simp;omega];exact k (t+1) H2 (by omega) (by omega) q ((s1.off.trans d).trans g)
inductive IspRows(vs:qA V)(H:Hp)(Q:VK)(E:XK):Prop
 |mk (a b:qE) (n m:Nat) (mi:Int) (_:vs=[.ref a,.int mi]) (_:mi=m) (_:1<=m) (_:m<=8) (_:PotAt H a b n) (_:n+1000<2 ^ 60) (_:∀q us rss H',H' q=some (.tup us)->Its H' us rss->us.length<=6->Rs m rss->PotAt H' a b (n+100)->Off [a,b] H H'->Q (.ref q) H'):IspRows  vs H Q E
def b2c:Sp:=λvs H Q E=>IspRows  vs H Q E
def sc__law_rows:FnScope ["_law_pot_here","_law_width_here","_law_many","_law_far","_law_rows_here","_law_k","_law_row","_law_great"] ["_law_pot_here","_law_width_here"] (A1 R8):={}
def b5Y(F:FunAt K mg "_law_rows" R8 ["_law_pot_here","_law_width_here"])(T:Tx mg)(d:Ok P w K mg base "_law_take" 1 ["_law_pot_here","_law_many"] a2L):Ok P w K mg base "_law_rows" 2 ["_law_pot_here","_law_width_here"] b2c:=by
 refine F.okJ sc__law_rows (λvs H Q E h=>?_) (λk9 f A j6 s H vs Q E W h=>?_)
 .obtain⟨a,b,n,m,mi,rfl,_⟩:=h;rfl
 .obtain⟨a,b,n,m,_,rfl,rfl,hm1,hm8,hP,hn,k⟩:=h;have hz:(3000:Nat)<=sizeLine:=by rw[aX];decide
  refine⟨_,(A3 (B2 (i:=2) sc__law_rows.nd rfl (Or.inl rfl) (J0 K (K6 (jaC (J0 K (K6 (jaC A6 (jaC A6 (jaC A6 (jaC A6 (jaC A6 (jaC A6 jaN))))))) (A7 d (W.mono (by omega)) rfl (jaC (jv 0) (jaC A6 jaN)))) (jaC (A7 d (W.mono (by omega)) rfl (jaC (jv 0) (jaC A6 jaN))) jaN))) (b3S rfl T.b_int (jaC (a1a (A7 d (W.mono (by omega)) rfl (jaC (jv 0) (jaC A6 jaN))) A6) jaN))))
 (A3 (B2 (i:=3) sc__law_rows.nd rfl (Or.inl rfl) (a1a (A7 d (W.mono (by omega)) rfl (jaC (jv 0) (jaC A6 jaN))) A6))
 (A3 (B2 (i:=4) sc__law_rows.nd rfl (Or.inl rfl) (K6 jaN))
 (A3 (P6 (L3 rfl T.b_range (jaC (jv 2) jaN)) (A8 (i:=5) sc__law_rows.nd rfl (Or.inl rfl))
 (A3 (a2v (i:=6) sc__law_rows.nd rfl (Or.inl rfl) (N:=["_law_j","_law_pot_here"]) (src:=[none,some 0]) (L3 rfl T.b_range (jaC (jv 1) jaN)) (by show B8 _ _=true;rfl) (by rfl) (by rfl)
 (λ_ _ _ _ _=>(A8 (i:=0) (L2.nd ["_law_j","_law_pot_here"]) rfl (Or.inl rfl))) (λ_ _ _ _ _=>C2) (λ_ _ _ _ _=>(a9G (A7 d (W.mono (by omega)) rfl (jaC (jv 1) (jaC A6 jaN))) A6)))
 (A3 (C6 (a0y (a0J (C1 K (jv 3)) (V6 (a3r (A7 d (W.mono (by omega)) rfl (jaC (jv 0) (jaC A6 jaN))) A6))))
 (A3 (B2 (i:=7) sc__law_rows.nd rfl (Or.inl rfl) (S6 (S6 (Z0 (A7 d (W.mono (by omega)) rfl (jaC (jv 0) (jaC (a4H A6 A6) jaN))) (a4H A6 A6)) (A7 d (W.mono (by omega)) rfl (jaC (jv 0) (jaC (a4H A6 A6) jaN)))) A6))
 (A4 (a5J (J0 K (K6 (jaC (jv 7) (jaC (b7x (jv 7)) jaN))) (A7 d (W.mono (by omega)) rfl (jaC (jv 0) (jaC A6 jaN)))) (b3P (jv 6) (A7 d (W.mono (by omega)) rfl (jaC (jv 0) (jaC (jv 1) jaN)))))))
 B7)
 (A4 (M6 (O7 K (jv 4) (jaC (D9 K rfl T.b_tuple (jaC (jv 6) jaN)) jaN)))))))
 (A4 (A9 (D9 K rfl T.b_tuple (jaC (jv 4) jaN)))))))),?_⟩
  refine⟨by show 6<=sizeLine;omega,λp1 h5=>?_⟩;have s1:=(Same.refl H).upd (o:=.lst [V.int 0,.int 1,.int 1,.int 2,.int 2,.int 1]) h5;have e1:upd H p1 (.lst [V.int 0,.int 1,.int 1,.int 2,.int 2,.int 1]) p1=some (.lst [V.int 0,.int 1,.int 1,.int 2,.int 2,.int 1]):=A0;have d2:=hP.same s1;have h7:=M5 hP h5;generalize upd H p1 (.lst [V.int 0,.int 1,.int 1,.int 2,.int 2,.int 1])=H1 at s1 e1 d2;refine⟨_,rfl,a,b,_,6,rfl,d2,by omega,by decide,by decide,λr2 H2 d0 d1 g8 c4=>?_⟩;obtain⟨z,h9,i0,i1⟩:=b7M r2 d0 d1;refine⟨p1,_,_,_,rfl,rfl,SqL.of (c4 _ _ h7 e1),h9,?_⟩;refine⟨_,rfl,a,b,_,7,rfl,g8,by omega,by decide,by decide,λr3 H3 f7 f8 d3 i2=>?_⟩;refine⟨by show 2<=sizeLine;omega,λp4 h6=>?_⟩;have s4:=(Same.refl H3).upd (o:=.lst [V.int z,.int r3]) h6;have e4:upd H3 p4 (.lst [V.int z,.int r3]) p4=some (.lst [V.int z,.int r3]):=A0;have d4:=d3.same s4;have h8:=M5 d3 h6;have c5:=((s1.off.trans c4).trans i2).trans (s4.off (l:=[a,b]));generalize upd H3 p4 (.lst [V.int z,.int r3])=H4 at s4 e4 d4 c5;refine⟨_,rfl,a,b,_,8,rfl,d4,by omega,by decide,by decide,λr5 H5 f9 g0 g9 M=>?_⟩;refine⟨rfl,.inr ⟨_,rfl,?_⟩⟩;obtain⟨c3,d7,h4⟩:=two_at z r3 (decide (V.int r5=V.int 7));refine⟨p4,_,_,_,rfl,rfl,SqL.of (M _ _ h8 e4),d7,?_⟩;have M:=c5.trans M;dsimp only[B0];refine⟨_,rfl,a,b,_,8,rfl,g9,by omega,by decide,by decide,λr6 H6 g1 g2 a8 O=>?_⟩;refine⟨rfl,?_⟩;generalize decide (V.int r6=V.int 7)=a7;have O:=M.trans O;dsimp only[B0];refine⟨br _,λpr e0=>?_⟩;have y:=M5 a8 e0;have h2:=a3g O a8 e0;have s7:=(Same.refl H6).upd (o:=.lst []) e0;have e7:upd H6 pr (.lst []) pr=some (.lst []):=A0;have d5:=a8.same s7;have c6:=a1r (o:=.lst []) O h2;generalize upd H6 pr (.lst [])=H7 at s7 e7 d5 c6;dsimp only[B0];obtain⟨N,rfl⟩:∃N:Nat,c3=N:=⟨c3.toNat,by omega⟩;have hN:N<=6:=by omega
  refine⟨_,rfl,_,rfl,by omega,by omega,?_⟩;rw[bX];refine a1B (lo:=0) (n:=N) (λi σ H'=>Ex5 λo5 o6 o7 us I=>An7 (σ=[some (.ref a),some (.int m),some (.int N),some (.bl a7),some (.ref pr),o5,o6,o7]) (PotAt H' a b (n+4+13*i)) (Off [a,b] H H') (H' pr=some (.lst us)) (Its H' us I) (us.length=i) (Rs m I)) ⟨none,none,none,[],[],rfl,d5.mono (by omega),c6,e7,.nil,rfl,λ_ z=>nomatch z⟩ ?_ ?_
  .rintro i σ H8 hi ⟨o5,o6,o7,us,I,rfl,hP8,off8,e8,hI8,b0,hR8⟩;obtain⟨nn,d8⟩:∃nn,nn=n+4+13*i:=⟨_,rfl⟩;rw[<-d8]at hP8;have hb:nn+50<2 ^ 60:=by clear hz i0 i1 d0 d1 f7 f8 f9 g0 g1 g2 d7 h4;omega
   have en:HEq (nn+13) (n+4+13*(i+1)):=eB (by rw[d8,Nat.mul_add];rfl);have l2:us.length+5<sizeLine:=by clear hn hb en;omega
   replace b0:=eB b0;clear d8 hn hP d2 g8 d3 d4 g9 a8 d5 d0 d1 f7 f8 f9 g0 g1 g2 h9 i0 i1 d7 h4;refine⟨_,rfl,_,rfl,by omega,by omega,?_⟩;rw[bX];refine b0u (caps:=[some (.ref a)]) (c:=1) (λz => -3<=z/\z<=3) (by omega) rfl hP8 (λi' H' N l1 hP' q=>⟨_,rfl,a,b,_,7,rfl,hP',by omega,by decide,by decide,λr i4 h0 h1 g6 j5=>⟨_,_,rfl,rfl,q (r-3) i4 ⟨by omega,by omega⟩ g6 j5⟩⟩) ?_;intro H9 pw xs S j1 d6 a4 a9;replace S:=eB S;dsimp only[B0];have R:=M5 d6 a9;have e2:pr∉[a,b]:=y;have e9:=a4 _ _ e2 e8;have i8:=V8 hI8 hP8 a4;have j4:pr≠pw:=A5 e9 a9;have a5:=off8.trans a4;have h3:=a3g a5 d6 a9;have b2:=(Same.refl H9).upd (o:=.lst (xs.map V.int)) a9;have Z:upd H9 pw (.lst (xs.map V.int)) pw=some (.lst (xs.map V.int)):=A0;have c8:=b2 _ _ e9;have a0:=i8.same b2;have L:=d6.same b2;have D:=a1r (o:=.lst (xs.map V.int)) a5 h3;generalize upd H9 pw (.lst (xs.map V.int))=i5 at b2 Z c8 a0 L D;refine a0g (λσ H'=>Ex2 λo7 ys=>An8 (σ=[some (.ref a),some (.int m),some (.int N),some (.bl a7),some (.ref pr),some (.int (0+(i:Int))),some (.ref pw),o7]) (ys.length=m) (Sm ys) (H' pw=some (.lst (ys.map V.int))) (PotAt H' a b (nn+13)) (Off [a,b] H H') (H' pr=some (.lst us)) (Its H' us I)) ?fin λfin=>?_
   case fin =>
    clear hb hN hi hm1 hm8;rintro σ X ⟨o7,ys,rfl,j2,j3,ew,B,j,Y,J⟩;refine⟨_,rfl,.inl ⟨rfl,_,SqL.of Y⟩,_,rfl,pw,_,rfl,.inl ⟨SqL.of ew,λq hq=>?_⟩⟩;have a6:=(Same.refl X).upd (o:=.tup (ys.map V.int)) hq;have c9:=a6 _ _ Y;have b3:upd X q (.tup (ys.map V.int)) q=some (.tup (ys.map V.int)):=A0;have C:=B.same a6;have b8:=J.same a6;have p:=j.trans (a6.off (l:=[a,b]));generalize upd X q (.tup (ys.map V.int))=i6 at a6 c9 b3 C b8 p;refine⟨pr,_,_,rfl,rfl,c9,by omega,?_⟩;refine⟨_,_,_,us++[.ref q],I++[ys],rfl,cf en ▸ a5A C y,a1r p h2,A0,a0o (b8.snoc ⟨q,rfl,b3⟩) c9 (λ_ z=>by cases z),by simp[cf b0],λr W=>?_⟩;rcases ay.mp W with z|z
    .exact hR8 r z
    .rw[aP.mp z];exact⟨j2,j3⟩
   have a2:Sm xs:=λz hz=>by have:=j1 z hz;omega
   have stay:=fin _ i5 ⟨o7,xs,rfl,cf S,a2,Z,L.mono (by omega),D,c8,a0⟩;refine⟨_,rfl,a7,rfl,?_⟩;cases a7 with
   |false=>exact C3 (C3 stay)
   |true =>
    refine E1 ⟨_,rfl,a,b,_,2,rfl,L,by omega,by decide,by decide,λl3 X k0 k1 B j=>⟨rfl,_,rfl,?_⟩⟩;have b5:=j _ _ R Z;have Y:=j _ _ y c8;have J:=V8 a0 L j;have j:=D.trans j;refine a3v (λe=>?_) (λe=>fin _ X ⟨_,xs,rfl,cf S,a2,b5,B.mono (by omega),j,Y,J⟩);refine⟨_,rfl,_,_,rfl,rfl,⟨by decide,by decide,by decide⟩,a,b,_,_,rfl,B,by omega,by decide,by decide,λj7 i6 k2 f3 C p=>?_⟩;refine⟨_,_,rfl,rfl,⟨by decide,by decide,by decide⟩,_,_,rfl,rfl,.inr ⟨by decide,by decide⟩,?_⟩;refine⟨_,rfl,_,_,rfl,rfl,⟨by decide,by decide,by decide⟩,a,b,_,_,rfl,C,by omega,by decide,by decide,λj8 c7 k3 f4 c0 v=>?_⟩;refine⟨_,_,rfl,rfl,_,_,rfl,rfl,?_⟩;have e6:(10:Int) ^ Int.toNat 6=1000000:=by decide
    rw[e6]at f3 f4;dsimp only[B0];rw[e6];generalize hG:j7*1000000+j8+1=G;have l0:0<=G/\G<2 ^ 62:=by omega
    have f1:=v _ _ R (p _ _ R b5);have i7:=v _ _ y (p _ _ y Y);have g3:=V8 (V8 J B p) C v;have v:=(j.trans p).trans v;refine⟨_,rfl,_,rfl,_,rfl,by show 2<=sizeLine;omega,λb1 c2=>?_⟩;have d9:=M5 c0 c2;have U:=(Same.refl c7).upd (o:=.lst [V.int G,.int (-G)]) c2;have e3:upd c7 b1 (.lst [V.int G,.int (-G)]) b1=some (.lst [V.int G,.int (-G)]):=A0;have a1:=c0.same U;have b6:=U _ _ f1;have b4:=U _ _ i7;have b9:=g3.same U;have a3:=v.trans (U.off (l:=[a,b]));dsimp only;generalize upd c7 b1 (.lst [V.int G,.int (-G)])=k6 at U e3 a1 b6 b4 b9 a3;refine⟨_,rfl,a,b,_,2,rfl,a1,by omega,by decide,by decide,λj9 k7 f5 f6 c1 u=>?_⟩;obtain⟨g,i9,j0⟩:=two_at' G (-G) j9 f5 f6;refine⟨b1,_,_,_,rfl,rfl,SqL.of (u _ _ d9 e3),i9,?_⟩;have f2:=u _ _ R b6;have e5:=u _ _ y b4;have g4:=V8 b9 a1 u;have u:=a3.trans u;refine⟨_,rfl,_,rfl,_,rfl,a,b,_,_,rfl,c1,by omega,by omega,by omega,λi3 k8 k4 k5 g7 x=>?_⟩;obtain⟨t,rfl⟩:∃t:Nat,i3=t:=⟨i3.toNat,by omega⟩;have b7:=x _ _ R f2;have f0:=x _ _ y e5;have g5:=V8 g4 c1 x;have x:=u.trans x;refine⟨pw,_,_,t,rfl,rfl,b7,c0c (by rw[ag,cf S];omega),?_⟩;refine fin _ _ ⟨_,xs.set t g,rfl,by rw[List.length_set];exact cf S,λz hz=>?_,by rw[A0,List.map_set],(a5A g7 R).mono (by omega),a1r x h3,by rw[A2 j4];exact f0,a0o g5 b7 (λ_ z=>by cases z)⟩;rcases a8g hz with q|q
    .exact a2 z q
    .rw[q];rcases j0 with rfl|rfl<;>omega
  .rintro σ H8 ⟨o5,o6,o7,us,I,rfl,hP8,off8,e8,hI8,b0,hR8⟩;refine⟨_,rfl,pr,_,rfl,.inl ⟨SqL.of e8,λq hq=>?_⟩⟩;have s9:=(Same.refl H8).upd (o:=.tup us) hq;exact k q us I _ A0 (hI8.same s9) (by omega) hR8 ((hP8.same s9).mono (by omega)) (off8.trans s9.off)
def a8O(cs:qA (qD Int)):Prop:=∀c∈cs,∀z,c=some z->0<=z
inductive IspCaps(vs:qA V)(H:Hp)(Q:VK)(E:XK):Prop
 |mk (a b:qE) (n m:Nat) (mi:Int) (_:vs=[.ref a,.int mi]) (_:mi=m) (_:1<=m) (_:m<=8) (_:PotAt H a b n) (_:n+1000<2 ^ 60) (_:∀q cs H',H' q=some (.tup (cs.map cV))->cs.length=m->a8O cs->PotAt H' a b (n+25)->Off [a,b] H H'->Q (.ref q) H'):IspCaps  vs H Q E
def b2i:Sp:=λvs H Q E=>IspCaps  vs H Q E
def sc__law_caps:FnScope ["_law_pot_here","_law_width_here","_law_open_here","_law_caps_here","_law_j","_law_cap"] ["_law_pot_here","_law_width_here"] (A1 R9):={}
def b6a(F:FunAt K mg "_law_caps" R9 ["_law_pot_here","_law_width_here"])(T:Tx mg)(d:Ok P w K mg base "_law_take" 1 ["_law_pot_here","_law_many"] a2L):Ok P w K mg base "_law_caps" 2 ["_law_pot_here","_law_width_here"] b2i:=by
 refine F.okJ sc__law_caps (λvs H Q E h=>?_) (λa8 f A a7 s H vs Q E U h=>?_)
 .obtain⟨a,b,n,m,mi,rfl,_⟩:=h;rfl
 .obtain⟨a,b,n,m,_,rfl,rfl,hm1,hm8,hP,hn,k⟩:=h;have hz:(3000:Nat)<=sizeLine:=by rw[aX];decide
  refine⟨_,(A3 (B2 (i:=2) sc__law_caps.nd rfl (Or.inl rfl) (A7 d (U.mono (by omega)) rfl (jaC (jv 0) (jaC A6 jaN))))
 (A3 (B2 (i:=3) sc__law_caps.nd rfl (Or.inl rfl) (K6 jaN))
 (A3 (P6 (L3 rfl T.b_range (jaC (jv 1) jaN)) (A8 (i:=4) sc__law_caps.nd rfl (Or.inl rfl))
 (A3 (B2 (i:=5) sc__law_caps.nd rfl (Or.inl rfl) (A7 d (U.mono (by omega)) rfl (jaC (jv 0) (jaC (J0 K (K6 (jaC A6 (jaC A6 jaN))) (A7 d (U.mono (by omega)) rfl (jaC (jv 0) (jaC A6 jaN)))) jaN))))
 (A4 (C6 (b7u (A7 d (U.mono (by omega)) rfl (jaC (jv 0) (jaC A6 jaN))) (jv 2))
 (A4 (M6 (O7 K (jv 3) (jaC Y7 jaN))))
 (A4 (M6 (O7 K (jv 3) (jaC (jv 5) jaN))))))))
 (A4 (A9 (D9 K rfl T.b_tuple (jaC (jv 3) jaN))))))),?_⟩
  refine⟨_,rfl,a,b,_,3,rfl,hP,by omega,by decide,by decide,λr1 H1 a9 b0 D x=>?_⟩;dsimp only[B0];refine⟨br _,λr G=>?_⟩;have g:=M5 D G;have M:=a3g x D G;have s2:=(Same.refl H1).upd (o:=.lst []) G;have e2:upd H1 r (.lst []) r=some (.lst []):=A0;have J:=D.same s2;have y:=a1r (o:=.lst []) x M;generalize upd H1 r (.lst [])=H2 at s2 e2 J y;dsimp only[B0];refine⟨_,rfl,_,rfl,by omega,by omega,?_⟩;rw[bX];refine a1B (lo:=0) (n:=m) (λi σ H'=>Ex3 λR S u=>An6 (σ=[some (.ref a),some (.int m),some (.int r1),some (.ref r),R,S]) (PotAt H' a b (n+1+3*i)) (Off [a,b] H H') (H' r=some (.lst (u.map cV))) (u.length=i) (a8O u)) ⟨none,none,[],rfl,J,y,e2,rfl,λ_ z=>nomatch z⟩ ?_ ?_
  .rintro i σ H3 hi ⟨R,S,u,rfl,hP3,off3,e3,hcl,hok⟩;refine⟨_,rfl,by show 2<=sizeLine;omega,λW N=>?_⟩;have X:=(Same.refl H3).upd (o:=.lst [V.int 6,.int 2]) N;have e4:upd H3 W (.lst [V.int 6,.int 2]) W=some (.lst [V.int 6,.int 2]):=A0;have L:=hP3.same X;have O:=M5 hP3 N;have I:=X _ _ e3;have B:=off3.trans (X.off (l:=[a,b]));generalize upd H3 W (.lst [V.int 6,.int 2])=H4 at X e4 L I B;refine⟨_,rfl,a,b,_,2,rfl,L,by omega,by decide,by decide,λr5 H5 Z a0 a2 t=>?_⟩;obtain⟨z,a6,b4⟩:=two_at' 6 2 r5 Z a0;refine⟨W,_,_,_,rfl,rfl,SqL.of (t _ _ O e4),a6,?_⟩;refine⟨a,b,_,z,rfl,a2,by omega,by omega,by omega,λr6 H6 a1 b1 a3 j=>?_⟩;have Y:=j _ _ g (t _ _ g I);have j:=(B.trans t).trans j;dsimp only[B0];refine⟨_,rfl,a,b,_,3,rfl,a3,by omega,by decide,by decide,λr7 H7 b2 b3 a4 p=>?_⟩;have v:=p _ _ g Y;have p:=j.trans p;have put:∀c:qD Int,(∀z,c=some z->0<=z)->(λσ H'=>Ex3 λR S C=>An6 (σ=[some (V.ref a),some (.int m),some (.int r1),some (.ref r),R,S]) (PotAt H' a b (n+1+3*(i+1))) (Off [a,b] H H') (H' r=some (.lst (C.map cV))) (C.length=i+1) (a8O C)) [some (V.ref a),some (.int m),some (.int r1),some (.ref r),some (.int (0+(i:Int))),some (.int r6)] (upd H7 r (.lst (u.map cV++[cV c]))):=λc hc=>by
    refine⟨_,_,u++[c],rfl,(a5A a4 g).mono (by omega),a1r p M,by rw[A0,bL];rfl,by simp[hcl],λc' a5=>?_⟩;rcases ay.mp a5 with q|q
    .exact hok c' q
    .rw[aP.mp q];exact hc
   refine⟨_,rfl,_,_,rfl,rfl,_,rfl,a3v (λe=>?_) (λe=>?_)⟩
   .refine⟨_,rfl,.inl ⟨rfl,_,SqL.of v⟩,r,_,_,rfl,rfl,v,by rw[ag];omega,?_⟩;exact put none (λ_ z=>nomatch z)
   .refine⟨_,rfl,.inl ⟨rfl,_,SqL.of v⟩,_,rfl,r,_,_,rfl,rfl,v,by rw[ag];omega,?_⟩;exact put (some r6) (λz e=>by cases e;exact a1)
  .rintro σ H3 ⟨R,S,u,rfl,hP3,off3,e3,hcl,hok⟩;refine⟨_,rfl,r,_,rfl,.inl ⟨SqL.of e3,λq hq=>?_⟩⟩;have s9:=(Same.refl H3).upd (o:=.tup (u.map cV)) hq;exact k q u _ A0 hcl hok ((hP3.same s9).mono (by omega)) (off3.trans s9.off)
inductive IspFound(vs:qA V)(H:Hp)(Q:VK)(E:XK):Prop
 |mk (ra ca:qE) (rss:LLI) (cs:qA (qD Int)) (most:Nat) (mi:Int) (_:vs=[.ref ra,.ref ca,.int mi]) (_:mi=most) (_:SyAt H ra ca rss cs) (_:(most+1)*cs.length+200<=100000) (_:(∀H',Same H H'->b9z rss cs most->Q .non H')) (_:∀q t pp zs tss ws F W k H',Same H H'->H' q=some (.tup [.ref t,.ref pp])->H' t=some (.tup zs)->Its H' zs tss->tss.Perm F->E2 tss->H' pp=some (.tup ws)->Its H' ws W->Wk rss cs F W [] k->W.length<=most->Q (.ref q) H'):IspFound  vs H Q E
def a9o:Sp:=λvs H Q E=>IspFound  vs H Q E
def sc__law_found:FnScope ["_law_rows_here","_law_caps_here","_law_most","_law_found_here"] ["_law_rows_here","_law_caps_here","_law_most"] (A1 N9):={}
def b3q(r:FunAt K mg "_law_found" N9 ["_law_rows_here","_law_caps_here","_law_most"])(T:Tx mg)(d:OkE P w K mg base "least" 7 ["rows","caps","most"] (a9m a))(b:mg "TooMany"=some (.ref a))(c:ClsX K a []):Ok P w K mg base "_law_found" 8 ["_law_rows_here","_law_caps_here","_law_most"] a9o:=by
 refine r.okJ sc__law_found (λvs H Q E h=>?_) (λv f A n s H vs Q E D h=>?_)
 .obtain⟨ra,ca,rss,cs,most,mi,rfl,_⟩:=h;rfl
 .obtain⟨ra,ca,rss,cs,most,_,rfl,rfl,Y,hbig,kn,kq⟩:=h;refine⟨_,(A3 (B2 (i:=3) sc__law_found.nd rfl (Or.inl rfl) Y7)
 (A3 (b3J K (b8R (i:=3) d (D.mono (by omega)) rfl sc__law_found.nd rfl (Or.inl rfl) (jaC (jv 0) (jaC (jv 1) (jaC (jv 2) jaN)))) rfl b c (λ_=>(A4 (B2 (i:=3) sc__law_found.nd rfl (Or.inl rfl) Y7))))
 (A4 (A9 (jv 3))))),?_⟩
  refine⟨_,rfl,_,rfl,_,rfl,ra,ca,rss,cs,most,_,rfl,rfl,Y,hbig,λq t G zs o I u W k H' s' C F x j m l g y e=>?_,λH' s' z=>⟨a,rfl,rfl,λp B=>?_⟩⟩
  .exact⟨_,rfl,kq q t G zs o I u W k H' s' C F x j m l g y e⟩
  .exact⟨_,rfl,kn _ (s'.upd B) z⟩
end
structure Pap(rss:LLI)(cs:qA (qD Int))(F W L:LLI):Prop where
 wi:∀v∈W,Wi cs v=true
 fst:∀u∈L5 cs,u∈W
 an:∀v∈W,Ans rss v=true->v∈F
 nx:∀v∈W,v∉L->∀j∈StP rss cs v,bump v j∈W∨∃f∈F,Bel f (bump v j)=true
def Wk.pap(hR:∀r∈rss,r.length=cs.length)(h:Wk rss cs F W L k):Pap rss cs F W L:=by
 induction h with
 |@one L ri nd h=>exact⟨(Wk.one ri nd h).ok hR |>.wi,λu i=>(h u).mpr i,λv a e=>aZ.mpr ⟨a,e⟩,λv a g=>absurd a g⟩
 |@more F W L L' k h ne ri nd n c =>
  have o:=(Wk.more h ne ri nd n).ok hR;refine⟨λv a=>?_,λu i=>aR _ (c.fst u i),λv a e=>?_,λv a g j m=>?_⟩
  .rcases ay.mp a with z|z
   .exact c.wi v z
   .exact o.wi v z
  .rcases ay.mp a with z|z
   .exact aR _ (c.an v z e)
   .exact aQ _ (aZ.mpr ⟨z,e⟩)
  .have hvW:v∈W:=(ay.mp a).resolve_right g;by_cases l:v∈L
   .cases e:Bar F (bump v j) j with
    |true =>
     unfold Bar at e;obtain⟨f,d,b⟩:=bA.mp e;rw[aJ]at b;exact .inr ⟨f,aR _ d,b.2⟩
    |false=>exact .inl (aQ _ ((n _).mpr ⟨v,l,j,m,rfl,e⟩))
   .rcases c.nx v hvW l j m with z|⟨f,d,hb⟩
    .exact .inl (aR _ z)
    .exact .inr ⟨f,aR _ d,hb⟩
def Lst(rss:LLI)(v:qI):Bool:=!(rss.any λu=>!decide (u=v) && Bel u v)
structure Srt(rss srt:LLI):Prop where
 ri:E2 srt
 nd:srt.Nodup
 mem:∀r,r∈srt↔r∈rss
def Srt.eq{a b:LLI}(h:Srt rss a)(g:Srt rss b):a=b:=a2Y h.ri g.ri h.nd g.nd λv=>(h.mem v).trans (g.mem v).symm
def b0R{a:LLI}(h:∀r,r∈rss↔r∈a)(v:qI):Lst rss v=Lst a v:=by
 unfold Lst;congr 1;rw[cg,bA,bA];exact⟨λ⟨u,b,e⟩=>⟨u,(h u).mp b,e⟩,λ⟨u,b,e⟩=>⟨u,(h u).mpr b,e⟩⟩
def a9U:∀{u v:qI},u.length=v.length->Bel u v=true->u≠v->HT.lexLt v u=false
 |[],[],_,_,ne=>absurd rfl ne
 |[],_::_,h,_,_=>by cases h
 |_::_,[],h,_,_=>by cases h
 |x::u,y::v,h,a,ne=>by
  unfold Bel at a;rw[bp,cP,aJ]at a;have h1:x<=y:=bE a.1;by_cases e:x=y
  .subst e;have c:=a9U (u:=u) (v:=v) (by simpa using h) a.2 λz=>ne (by rw[z]);simp[HT.lexLt,c]
  .have:¬y<x:=by omega
   have b:¬y=x:=λz=>e z.symm;simp[HT.lexLt,this,b]
def a9u{α:Type}{m:qA α->Prop}(l:qA α)(nil:m [])(snoc:∀(l:qA α) (v:α),m l->m (l++[v])):m l:=by
 have:∀r:qA α,m r.reverse:=λr=>by
  induction r with
  |nil=>exact nil
  |cons x r a=>rw[List.reverse_cons];exact snoc _ x a
 have:=this l.reverse;rwa[List.reverse_reverse]at this
def LO(l:LLI):LLI:=l.foldl (λacc v=>if acc.any (λu=>Bel u v)then acc else acc++[v]) []
def a6c(l:LLI)(v:qI):LO (l++[v])=if (LO l).any (λu=>Bel u v)then LO l else LO l++[v]:=by
 unfold LO;rw[List.foldl_append];rfl
def b4C(v:qI):Bel v v=true:=(C8 rfl).mpr (Under.refl v)
def b1F{a b c:qI}(h1:a.length=b.length)(h2:b.length=c.length)(d:Bel a b=true)(e:Bel b c=true):Bel a c=true :=
 (C8 (h1.trans h2)).mpr (((C8 h1).mp d).trans ((C8 h2).mp e))
def a9X:∀(l:LLI),(∀r∈l,r.length=n)->(∀x∈LO l,x∈l)/\∀u∈l,∃x∈LO l,Bel x u=true:=by
 intro l;induction l using a9u with
 |nil=>intro _;exact⟨λ_ z=>z,λ_ z=>nomatch z⟩
 |snoc l v h =>
  intro f;obtain⟨c,d⟩:=h λr g=>f r (aR _ g);rw[a6c];cases e:(LO l).any (λu=>Bel u v)with
  |true =>
   rw[aD rfl];refine⟨λx b=>aR _ (c x b),λu a=>?_⟩;rcases ay.mp a with z|z
   .exact d u z
   .rw[aP.mp z];exact bA.mp e
  |false =>
   rw[aq (by decide)];refine⟨λx b=>?_,λu a=>?_⟩
   .rcases ay.mp b with z|z
    .exact aR _ (c x z)
    .exact aQ _ z
   .rcases ay.mp a with z|z
    .obtain⟨x,h1,h2⟩:=d u z;exact⟨x,aR _ h1,h2⟩
    .rw[aP.mp z];exact⟨v,aQ _ ao,b4C v⟩
def b1G(a:LLI)(f:∀r∈a,r.length=n)(m:E2 a)(nd:a.Nodup):∀(l rest:LLI),a=l++rest->LO l=l.filter (λv=>Lst a v):=by
 intro l;induction l using a9u with
 |nil=>intro _ _;rfl
 |snoc l v t =>
  intro rest e;have c:a=l++(v::rest):=by rw[e,aG];rfl
  have k:v∈a:=by rw[c];simp
  have b:∀r∈l,r.length=n:=λr o=>f r (by rw[c];exact aR _ o);obtain⟨i,s⟩:=a9X l b;rw[a6c,List.filter_append,<-t _ c];have key:(LO l).any (λu=>Bel u v)=!Lst a v:=by
   rw[cg];unfold Lst;rw[Bool.not_not,bA,bA];constructor
   .rintro⟨u,hu,hb⟩;refine⟨u,by rw[c];exact aR _ (i u hu),?_⟩;have g:u≠v:=λz=>by
     rw[c]at nd;exact(fq.mp nd).2.2 u (i u hu) v ao z
    rw[hb,bg g];rfl
   .rintro⟨u,hu,hb⟩;rw[aJ,dZ,decide_eq_false_iff_not]at hb;have d:u∈l:=by
     rw[c]at hu;rcases ay.mp hu with z|z
     .exact z
     .rcases az.mp z with q|q
      .exact absurd q hb.1
      .exfalso;have h:HT.lexLt u v=false:=by
        rw[c]at m;have:=(bB.mp m).2.1;exact(cD.mp this).1 u q
       have h2:=a9U (by rw[f u (by rw[c];exact aQ _ z),f v k]) hb.2 hb.1;exact hb.1 (O6 u v h h2)
    obtain⟨x,h1,h2⟩:=s u d;exact⟨x,h1,b1F (by rw[b x (i x h1),b u d]) (by rw[b u d,f v k]) h2 hb.2⟩
  rw[key];cases j:Lst a v with
  |true=>rw[aq (by decide),List.filter_cons_of_pos (p:=λv=>Lst a v) j];rfl
  |false=>rw[aD (by decide),List.filter_cons_of_neg (p:=λv=>Lst a v) (by rw[j];decide)];simp
section
variable {K:qF}
inductive IspAboveL(vs:qA V)(H:Hp)(Q:VK)(E:XK):Prop
 |mk (l:qE) (y:V) (fs:qA V) (fss:LLI) (ys:qI) (_:vs=[.ref l,y]) (_:H l=some (.lst fs)) (_:Its H fs fss) (_:IT H y ys) (_:(∀f∈fss,f.length<=1000)) (_:∀H',Same H H'->Q (.bl (fss.any λf=>Bel f ys)) H'):IspAboveL  vs H Q E
def a6y:Sp:=λvs H Q E=>IspAboveL  vs H Q E
inductive IspAboveT(vs:qA V)(H:Hp)(Q:VK)(E:XK):Prop
 |mk (l:qE) (y:V) (fs:qA V) (fss:LLI) (ys:qI) (_:vs=[.ref l,y]) (_:H l=some (.tup fs)) (_:Its H fs fss) (_:IT H y ys) (_:(∀f∈fss,f.length<=1000)) (_:∀H',Same H H'->Q (.bl (fss.any λf=>Bel f ys)) H'):IspAboveT  vs H Q E
def a2N:Sp:=λvs H Q E=>IspAboveT  vs H Q E
def sc_above_any:FnScope ["some","one","other"] ["some","one"] (A1 N0):={}
def a4c(F:FunAt K mg "above_any" N0 ["some","one"])(T:Tx mg)(b:Ok P w K mg base "below" 1 ["one","other"] a2m):Ok P w K mg base "above_any" 2 ["some","one"] a6y:=by
 refine F.okJ sc_above_any (λvs H Q E h=>?_) (λn f A j s H vs Q E c h=>?_)
 .obtain⟨l,y,fs,fss,ys,rfl,_⟩:=h;rfl
 .obtain⟨l,y,fs,fss,ys,rfl,hl,hI,hy,hL,k⟩:=h;refine⟨_,(A3 (P6 (E7 K (jv 0)) (A8 (i:=2) sc_above_any.nd rfl (Or.inl rfl))
 (A4 (C6 (C1 K (A7 b (c.mono (by omega)) rfl (jaC (jv 2) (jaC (jv 1) jaN))))
 (A4 (A9 K3))
 B7)))
 (A4 (A9 K3))),?_⟩
  refine⟨_,rfl,l,rfl,⟨_,SqL.of hl⟩,?_⟩;refine U4 (K:=K) (a:=l) (xs:=fs) (λi σ H'=>Ex1 λo=>An3 (σ=[some (.ref l),some y,o]) (Same H H') (((fss.take i).any λf=>Bel f ys)=false)) ⟨none,rfl,Same.refl H,rfl⟩ (λi σ H' _ h=>by obtain⟨_,_,s',_⟩:=h;exact SqL.of (s' _ _ hl)) ?_ ?_
  .rintro i x σ H' hx ⟨o,rfl,s',hB⟩;obtain⟨r,c,d,g⟩:=hI.mem hx;have m:((fss.take (i+1)).any λf=>Bel f ys)=Bel r ys:=by
    rw[bf,d,List.any_append,hB];simp
   dsimp only[B0];refine⟨_,rfl,_,rfl,x,y,r,ys,rfl,g.same s',hy.same s',hL r c,λH2 s2=>⟨_,rfl,?_⟩⟩;cases e:Bel r ys with
   |false =>
    rw[e]at m;exact C3 ⟨_,rfl,s'.trans s2,m⟩
   |true =>
    refine E1 ?_;have:=k H2 (s'.trans s2);rw[show(fss.any λf=>Bel f ys)=true from bA.mpr ⟨r,c,e⟩]at this;exact this
  .rintro σ H' ⟨o,rfl,s',hB⟩;rw[hI.1,bx]at hB;have:=k H' s';rw[hB]at this;exact this
def a4b(F:FunAt K mg "above_any" N0 ["some","one"])(T:Tx mg)(b:Ok P w K mg base "below" 1 ["one","other"] a2m):Ok P w K mg base "above_any" 2 ["some","one"] a2N:=by
 refine F.okJ sc_above_any (λvs H Q E h=>?_) (λn f A j s H vs Q E c h=>?_)
 .obtain⟨l,y,fs,fss,ys,rfl,_⟩:=h;rfl
 .obtain⟨l,y,fs,fss,ys,rfl,hl,hI,hy,hL,k⟩:=h;refine⟨_,(A3 (P6 (K1 K (jv 0)) (A8 (i:=2) sc_above_any.nd rfl (Or.inl rfl))
 (A4 (C6 (C1 K (A7 b (c.mono (by omega)) rfl (jaC (jv 2) (jaC (jv 1) jaN))))
 (A4 (A9 K3))
 B7)))
 (A4 (A9 K3))),?_⟩
  refine⟨_,rfl,l,rfl,⟨_,SqT.of hl⟩,?_⟩;refine b6D (K:=K) (a:=l) (xs:=fs) (λi σ H'=>Ex1 λo=>An3 (σ=[some (.ref l),some y,o]) (Same H H') (((fss.take i).any λf=>Bel f ys)=false)) ⟨none,rfl,Same.refl H,rfl⟩ (λi σ H' _ h=>by obtain⟨_,_,s',_⟩:=h;exact SqT.of (s' _ _ hl)) ?_ ?_
  .rintro i x σ H' hx ⟨o,rfl,s',hB⟩;obtain⟨r,c,d,g⟩:=hI.mem hx;have m:((fss.take (i+1)).any λf=>Bel f ys)=Bel r ys:=by
    rw[bf,d,List.any_append,hB];simp
   dsimp only[B0];refine⟨_,rfl,_,rfl,x,y,r,ys,rfl,g.same s',hy.same s',hL r c,λH2 s2=>⟨_,rfl,?_⟩⟩;cases e:Bel r ys with
   |false =>
    rw[e]at m;exact C3 ⟨_,rfl,s'.trans s2,m⟩
   |true =>
    refine E1 ?_;have:=k H2 (s'.trans s2);rw[show(fss.any λf=>Bel f ys)=true from bA.mpr ⟨r,c,e⟩]at this;exact this
  .rintro σ H' ⟨o,rfl,s',hB⟩;rw[hI.1,bx]at hB;have:=k H' s';rw[hB]at this;exact this
inductive IspLeastOf(vs:qA V)(H:Hp)(Q:VK)(E:XK):Prop
 |mk (p:qE) (us:qA V) (rss:LLI) (n:Nat) (_:vs=[.ref p]) (_:H p=some (.tup us)) (_:Its H us rss) (_:us.length<=1000) (_:1<=n) (_:n<=1000) (_:(∀r∈rss,r.length=n)) (_:∀q zs srt H',Same H H'->Srt rss srt->H' q=some (.tup zs)->Its H' zs (srt.filter λv=>Lst rss v)->Q (.ref q) H'):IspLeastOf  vs H Q E
def a4s:Sp:=λvs H Q E=>IspLeastOf  vs H Q E
def sc_least_of:FnScope ["some","found","one"] ["some"] (A1 V0):={}
def a6P(F:FunAt K mg "least_of" V0 ["some"])(T:Tx mg)(c:Ok P w K mg base "above_any" 2 ["some","one"] a6y):Ok P w K mg base "least_of" 3 ["some"] a4s:=by
 refine F.okJ sc_least_of (λvs H Q E h=>?_) (λa6 f A a5 s H vs Q E m h=>?_)
 .obtain⟨p,us,rss,n,rfl,_⟩:=h;rfl
 .obtain⟨p,us,rss,n,rfl,hp,hI,hl,hn1,hn2,hR,k⟩:=h;have hu:=m.u60;have hz:(3000:Nat)<=sizeLine:=by rw[aX];decide
  refine⟨_,(A3 (B2 (i:=1) sc_least_of.nd rfl (Or.inl rfl) (K6 jaN))
 (A3 (P6 (E7 K (b3Q P w rfl T.b_sorted (jaC (b6q K P w hu rfl T.b_set (jaC (jv 0) jaN)) jaN))) (A8 (i:=2) sc_least_of.nd rfl (Or.inl rfl))
 (A4 (C6 (E9 (C1 K (A7 c (m.mono (by omega)) rfl (jaC (jv 1) (jaC (jv 2) jaN)))))
 (A4 (M6 (O7 K (jv 1) (jaC (jv 2) jaN))))
 B7)))
 (A4 (A9 (D9 K rfl T.b_tuple (jaC (jv 1) jaN)))))),?_⟩
  refine⟨br _,λg M=>?_⟩;have s1:=(Same.refl H).upd (o:=.lst []) M;have V:upd H g (.lst []) g=some (.lst []):=A0;generalize upd H g (.lst [])=H1 at s1 V;dsimp only[B0];refine⟨_,rfl,true,p,us,rss,rfl,SqT.of (s1 _ _ hp),hI.same s1,hl,λa xs ha L j X=>?_⟩;have s2:=s1.upd (o:=a5o P w a xs) ha;have B:=(Same.refl H1).upd (o:=a5o P w a xs) ha;have U:upd H1 a (a5o P w a xs) a=some (a5o P w a xs):=A0;generalize upd H1 a (a5o P w a xs)=H2 at s2 B U;have a3:xs.length<=1000:=by
   have:=Tab.nodup_le (xs.map (·.1)) rss L λr m=>(j r).mp m;rw[ag,<-hI.1]at this;omega
  refine⟨a,xs,rfl,U,λx J=>(X x J).same B,λx J=>by rw[hR x.1 ((j x.1).mp (aT.mpr ⟨x,J,rfl⟩))];exact hn1,a3,λl zs b y d N a2=>?_⟩;have S:Srt rss b:=⟨a2,N.symm.nodup L,λr=>(N.mem_iff).trans (j r)⟩;have s3:=s2.upd (o:=.lst zs) y;have W:upd H2 l (.lst zs) l=some (.lst zs):=A0;have C:upd H2 l (.lst zs) g=some (.lst []):=O9 (B _ _ V) y;have d:=d.same ((Same.refl H2).upd (o:=.lst zs) y);have a4:l≠g:=(A5 (B _ _ V) y).symm;generalize upd H2 l (.lst zs)=H3 at s3 W C d;have I:∀r∈b,r.length=n:=λr m=>hR r ((S.mem r).mp m);have a8:zs.length<=1000:=by
   have:=Tab.nodup_le b rss S.nd λr m=>(S.mem r).mp m;rw[d.1];rw[<-hI.1]at this;omega
  have Z:H g=none:=M;refine⟨l,rfl,⟨_,SqL.of W⟩,?_⟩;refine U4 (K:=K) (a:=l) (xs:=zs) (λi σ H'=>Ex2 λo2 fs=>An5 (σ=[some (.ref p),some (.ref g),o2]) (Off [g] H3 H') (H' g=some (.lst fs)) (Its H' fs (LO (b.take i))) (fs.length<=i)) ⟨none,[],rfl,Off.refl _ _,C,.nil,ak _⟩ (λi σ H' _ h=>by obtain⟨_,_,_,o',_⟩:=h;exact SqL.of (o' _ _ (by simpa using a4) W)) ?_ ?_
  .rintro i x σ H' J ⟨o2,fs,rfl,off,D,hIf,hfl⟩;obtain⟨r,m,a0,a1⟩:=d.mem J;have a7:i<zs.length:=(aK.mp J).1;have O:IT H' x r:=by
    obtain⟨xa,rfl,R⟩:=a1;exact⟨xa,rfl,off _ _ (by simpa using J7 R C (by intro z;cases z)) R⟩
   have Y:∀f∈LO (b.take i),f.length<=1000:=λf D=>by
    have:=(a9X (n:=n) (b.take i) λr m=>I r (bC m)).1 f D;rw[I f (bC this)];exact hn2
   have t:LO (b.take (i+1))=if (LO (b.take i)).any (λu=>Bel u r)then LO (b.take i)else LO (b.take i)++[r]:=by
    rw[bf,a0];exact a6c _ _
   dsimp only[B0];refine⟨_,rfl,_,rfl,g,x,fs,_,r,rfl,D,hIf,O,Y,λH2 s2=>⟨_,rfl,?_⟩⟩;cases e:(LO (b.take i)).any (λu=>Bel u r)with
   |true =>
    rw[e,aD rfl]at t;refine C3 ⟨_,fs,rfl,off.trans s2.off,s2 _ _ D,?_,by omega⟩;rw[t];exact hIf.same s2
   |false =>
    rw[e,aq (by decide)]at t;have G:=s2 _ _ D;refine E1 ⟨_,rfl,.inl ⟨rfl,_,SqL.of G⟩,_,rfl,g,_,_,rfl,rfl,G,by omega,?_⟩;refine⟨_,fs++[x],rfl,(off.trans s2.off).set (by simp),A0,?_,by simp;omega⟩;rw[t];exact Its.put ((hIf.same s2).snoc (O.same s2)) G
  .rintro σ H' ⟨o2,fs,rfl,off,D,hIf,_⟩;rw[d.1,bx]at hIf;refine⟨_,rfl,g,fs,rfl,.inl ⟨SqL.of D,λq hq=>?_⟩⟩;have s4:=(Same.refl H').upd (o:=.tup fs) hq;refine k q fs b _ ((a2U s3 Z off).trans s4) S A0 ?_;have e:=b1G (n:=n) b I S.ri S.nd b [] (by simp);rw[e]at hIf;have U:(b.filter λv=>Lst b v)=b.filter λv=>Lst rss v:=by
    congr 1;funext v;exact b0R S.mem v
   rw[U]at hIf;exact hIf.same s4
end
end K55
namespace K55
open PySem PySem.Spec PyProof.Rows L2
variable {H:Hp}{P:qG}{base:Heap}{cs:qA (qD Int)}{k:Nat}{mg:Str->qD qB}{rss tss:LLI}{v:qI}{w:World}
section
variable {K:qF}
def FoW(rss:LLI)(cs:qA (qD Int))(most:Nat)(H:Hp)(fv:V):Prop:=fv=.non∨∃q t pp zs tss ws F W k,fv=.ref q/\H q=some (.tup [.ref t,.ref pp])/\H t=some (.tup zs)/\Its H zs tss/\tss.Perm F/\E2 tss/\H pp=some (.tup ws)/\Its H ws W/\Wk rss cs F W [] k/\W.length<=most
inductive IspSystem(vs:qA V)(H:Hp)(Q:VK)(E:XK):Prop
 |mk (a b:qE) (n:Nat) (most:Nat) (mi:Int) (_:vs=[.ref a,.int mi]) (_:mi=most) (_:most<=2000) (_:PotAt H a b n) (_:n+2000<2 ^ 60) (_:∀q ra ca fv rss cs H',H' q=some (.tup [.ref ra,.ref ca,fv])->SyAt H' ra ca rss cs->cs.length<=8->rss.length<=6->FoW rss cs most H' fv->PotAt H' a b (n+200)->Off [a,b] H H'->Q (.ref q) H'):IspSystem  vs H Q E
def a6r:Sp:=λvs H Q E=>IspSystem  vs H Q E
def sc__law_system:FnScope ["_law_pot_here","_law_most","_law_width_here","_law_rows_here","_law_caps_here"] ["_law_pot_here","_law_most"] (A1 M1):={}
def b0K(F':FunAt K mg "_law_system" M1 ["_law_pot_here","_law_most"])(T:Tx mg)(d:Ok P w K mg base "_law_width" 2 ["_law_pot_here"] a9g)(g:Ok P w K mg base "_law_rows" 2 ["_law_pot_here","_law_width_here"] b2c)(e:Ok P w K mg base "_law_caps" 2 ["_law_pot_here","_law_width_here"] b2i)(c:Ok P w K mg base "_law_found" 8 ["_law_rows_here","_law_caps_here","_law_most"] a9o):Ok P w K mg base "_law_system" 9 ["_law_pot_here","_law_most"] a6r:=by
 refine F'.okJ sc__law_system (λvs H Q E h=>?_) (λa1 f A R s H vs Q E I h=>?_)
 .obtain⟨a,b,n,most,mi,rfl,_⟩:=h;rfl
 .obtain⟨a,b,n,most,_,rfl,rfl,hmost,hP,hn,k⟩:=h;have hz:(3000:Nat)<=sizeLine:=by rw[aX];decide
  refine⟨_,(A3 (B2 (i:=2) sc__law_system.nd rfl (Or.inl rfl) (A7 d (I.mono (by omega)) rfl (jaC (jv 0) jaN)))
 (A3 (B2 (i:=3) sc__law_system.nd rfl (Or.inl rfl) (A7 g (I.mono (by omega)) rfl (jaC (jv 0) (jaC (jv 2) jaN))))
 (A3 (B2 (i:=4) sc__law_system.nd rfl (Or.inl rfl) (A7 e (I.mono (by omega)) rfl (jaC (jv 0) (jaC (jv 2) jaN))))
 (A4 (A9 (W4 (jaC (jv 3) (jaC (jv 4) (jaC (A7 c (I.mono (by omega)) rfl (jaC (jv 3) (jaC (jv 4) (jaC (jv 1) jaN)))) jaN))))))))),?_⟩
  refine⟨_,rfl,a,b,_,rfl,hP,by omega,λm H2 C hm8 L F=>?_⟩;dsimp only[B0];refine⟨_,rfl,_,rfl,a,b,_,m,_,rfl,rfl,C,hm8,L,by omega,λq us j H3 hq hI O hR u G=>?_⟩;dsimp only[B0];refine⟨_,rfl,_,rfl,a,b,_,m,_,rfl,rfl,C,hm8,u,by omega,λy z Y N hcl a2 B p=>?_⟩;have r:=(F.trans G).trans p;have M:=p _ _ (b2S u hq) hq;have J:Its Y us j:=V8 hI u p;have Y4:SyAt Y q y j z:=⟨⟨us,M,J,by omega⟩,N,by omega,by omega,by rw[hcl];exact hR⟩;have D:j.length<=6:=by rw[<-hI.1];exact O
  have a0:(most+1)*z.length<=(most+1)*8:=Nat.mul_le_mul_left _ (by omega);dsimp only[B0];refine⟨_,rfl,_,rfl,_,rfl,_,rfl,_,rfl,q,y,j,z,most,_,rfl,rfl,Y4,by omega,λZ V _=>?_,λS t pp zs X ws Fl W kk Z V h1 h2 h3 h4 h5 h6 h7 h8 h9=>?_⟩
  .refine⟨by show 3<=sizeLine;omega,λU v=>?_⟩;have x:=V.upd (o:=.tup [.ref q,.ref y,.non]) v;exact k U q y .non j z _ A0 (Y4.same x) (by omega) D (.inl rfl) ((B.same x).mono (by omega)) (r.trans x.off)
  .refine⟨by show 3<=sizeLine;omega,λU v=>?_⟩;have l:=(Same.refl Z).upd (o:=.tup [.ref q,.ref y,.ref S]) v;have x:=V.trans l;exact k U q y (.ref S) j z _ A0 (Y4.same x) (by omega) D (.inr ⟨S,t,pp,zs,X,ws,Fl,W,kk,rfl,l _ _ h1,l _ _ h2,h3.same l,h4,h5,l _ _ h6,h7.same l,h8,h9⟩) ((B.same x).mono (by omega)) (r.trans x.off)
end
def a1m(n:Nat)(v:qI):Bool:=decide (v.length=n) && v.all λx=>decide (0<=x)
def a8y(cs:qA (qD Int))(v:qI):Bool:=(v.any λx=>!decide (x=0)) && Wi cs v
def Q6(tss mss:LLI)(v:qI):Bool:=decide (v∈mss) || tss.any λt=>Bel t v
def goI(rss:LLI)(cs:qA (qD Int))(tss mss:LLI)(v:qI):Bool:=(tss.any λt=>Bel t v) || (!Ans rss v && (StP rss cs v).all λj=>Q6 tss mss (bump v j))
structure Anti(rss tss:LLI):Prop where
 ri:E2 tss
 nd:tss.Nodup
 lst:∀v∈tss,Lst tss v=true
 ans:∀v∈tss,Ans rss v=true
def a0L{α:Type}(l:qA α)(f:α->Bool):(l.map λx=>V.bl (f x)).all trV=l.all f:=by rw[List.all_map];rfl
def W0{α:Type}(l:qA α)(f:α->Bool):(l.map λx=>V.bl (f x)).all a3B=true:=by
 rw[aH];intro v a;obtain⟨_,_,rfl⟩:=aT.mp a;rfl
def b1d(l:qI):(l.map V.int).all a3B=true:=by
 rw[aH];intro v a;obtain⟨_,_,rfl⟩:=aT.mp a;rfl
def b9t(l:qI):(l.map V.int).any trV=l.any λx=>!decide (x=0):=by
 rw[List.any_map];rfl
section
variable {K:qF}
inductive IspNumI(vs:qA V)(H:Hp)(Q:VK)(E:XK):Prop
 |mk (z:Int) (_:vs=[.int z]) (_:Q (.bl (decide (0<=z))) H):IspNumI  vs H Q E
def b2d:Sp:=λvs H Q E=>IspNumI  vs H Q E
def a5q:FnScope ["value"] ["value"] (A1 Q9):={}
def a4a(F:FunAt K mg "is_number" Q9 ["value"])(T:Tx mg):Ok P w K mg base "is_number" 1 ["value"] b2d:=by
 refine F.okJ a5q (λvs H Q E h=>?_) (λb f A a s H vs Q E c h=>?_)
 .obtain⟨z,rfl,_⟩:=h;rfl
 .obtain⟨z,rfl,k⟩:=h;refine⟨_,(A4 (A9 (W6 (C5 K rfl T.b_isinstance (jaC (jv 0) (jaC (V7 (v:=.ty "int") rfl T.b_int a5Z rfl) jaN))) (W6 (b7w (C5 K rfl T.b_isinstance (jaC (jv 0) (jaC (V7 (v:=.ty "bool") rfl T.b_bool a9V rfl) jaN)))) (W5 (b7s (jv 0) A6)))))),?_⟩;refine⟨_,rfl,.int z,"int",_,true,rfl,.int z,by with_unfolding_all rfl,true,rfl,E1 ?_⟩;refine⟨_,rfl,.int z,"bool",_,false,rfl,.int z,by with_unfolding_all rfl,false,rfl,_,rfl,E1 ?_⟩;exact⟨_,rfl,_,_,rfl,rfl,k⟩
inductive IspVecI(vs:qA V)(H:Hp)(Q:VK)(E:XK):Prop
 |mk (y:V) (xs:qI) (n:Nat) (wi:Int) (_:vs=[y,.int wi]) (_:wi=n) (_:IT H y xs) (_:xs.length<=1000) (_:∀H',Same H H'->Q (.bl (a1m n xs)) H'):IspVecI  vs H Q E
def b1Z:Sp:=λvs H Q E=>IspVecI  vs H Q E
def a5p:FnScope ["value","width"] ["value","width"] (A1 Q8):={}
def a3Z(F:FunAt K mg "is_vector" Q8 ["value","width"])(T:Tx mg)(b:Ok P w K mg base "is_number" 1 ["value"] b2d):Ok P w K mg base "is_vector" 2 ["value","width"] b1Z:=by
 refine F.okJ a5p (λvs H Q E h=>?_) (λd f A c s H vs Q E j h=>?_)
 .obtain⟨y,xs,n,wi,rfl,_⟩:=h;rfl
 .obtain⟨_,xs,n,_,rfl,rfl,⟨a,rfl,ha⟩,hl,k⟩:=h;refine⟨_,(A4 (A9 (W6 (C5 K rfl T.b_isinstance (jaC (jv 0) (jaC (V7 (v:=.ty "tuple") rfl T.b_tuple Z8 rfl) jaN))) (W6 (a1a (C7 K rfl T.b_len (jaC (jv 0) jaN)) (jv 1)) (W5 (L4 K rfl T.b_all (jaC (B9 (N:=["part"]) (src:=[none]) (K1 K (jv 0)) (by show B8 _ _=true;rfl) (by rfl) (by rfl)
 (λ_ _ _ _ _=>(A8 (i:=0) (L2.nd ["part"]) rfl (Or.inl rfl))) (λ_ _ _ _ _=>C2) (λ_ _ _ _ _=>(A7 b (j.mono (by omega)) rfl (jaC (jv 0) jaN)))) jaN))))))),?_⟩
  refine⟨_,rfl,.ref a,"tuple",_,true,rfl,.tup ha,by with_unfolding_all rfl,true,rfl,E1 ?_⟩;refine⟨_,rfl,a,_,rfl,.inr (SqT.of ha),_,rfl,rfl,_,rfl,?_⟩;by_cases e:xs.length=n
  .rw[show decide (V.int ((xs.map V.int).length:Int)=V.int (n:Int))=true by rw[ag,e];simp];refine E1 ⟨_,rfl,a,rfl,⟨_,SqT.of ha⟩,?_⟩;refine a6m (caps:=[]) (λx=>V.bl (decide (0<=x))) hl (λH' s=>SqT.of (s _ _ ha)) rfl (λx H2 l _ _ q=>⟨_,rfl,x,rfl,q⟩) λH2 p s2 g=>?_;refine⟨false,p,_,rfl,SqL.of A0,W0 _ _,?_⟩;rw[a0L];have:=k _ (s2.upd (o:=.lst (xs.map λx=>V.bl (decide (0<=x)))) g);unfold a1m at this;rw[aU e,eN]at this;exact this
  .rw[show decide (V.int ((xs.map V.int).length:Int)=V.int (n:Int))=false by rw[ag,decide_eq_false_iff_not];intro z;injection z with z;exact e (by omega)];refine C3 ?_;have:=k H (Same.refl H);unfold a1m at this;rw[bg e,d_]at this;exact this
inductive IspVecsI(vs:qA V)(H:Hp)(Q:VK)(E:XK):Prop
 |mk (a:qE) (us:qA V) (rss:LLI) (n:Nat) (wi:Int) (_:vs=[.ref a,.int wi]) (_:wi=n) (_:H a=some (.tup us)) (_:Its H us rss) (_:us.length<=100000) (_:(∀r∈rss,r.length<=1000)) (_:∀H',Same H H'->Q (.bl (rss.all (a1m n))) H'):IspVecsI  vs H Q E
def a9h:Sp:=λvs H Q E=>IspVecsI  vs H Q E
def a2R:FnScope ["value","width"] ["value","width"] (A1 L9):={}
def a2c(F:FunAt K mg "are_vectors" L9 ["value","width"])(T:Tx mg)(b:Ok P w K mg base "is_vector" 2 ["value","width"] b1Z):Ok P w K mg base "are_vectors" 3 ["value","width"] a9h:=by
 refine F.okJ a2R (λvs H Q E h=>?_) (λe f A d s H vs Q E c h=>?_)
 .obtain⟨a,us,rss,n,wi,rfl,_⟩:=h;rfl
 .obtain⟨a,us,rss,n,_,rfl,rfl,ha,hI,hl,hw,k⟩:=h;have m:(300000:Nat)<=sizeLine:=by rw[aX];decide
  refine⟨_,(A4 (A9 (W6 (C5 K rfl T.b_isinstance (jaC (jv 0) (jaC (V7 (v:=.ty "tuple") rfl T.b_tuple Z8 rfl) jaN))) (W5 (L4 K rfl T.b_all (jaC (B9 (N:=["part","width"]) (src:=[none,some 1]) (K1 K (jv 0)) (by show B8 _ _=true;rfl) (by rfl) (by rfl)
 (λ_ _ _ _ _=>(A8 (i:=0) (L2.nd ["part","width"]) rfl (Or.inl rfl))) (λ_ _ _ _ _=>C2) (λ_ _ _ _ _=>(A7 b (c.mono (by omega)) rfl (jaC (jv 0) (jaC (jv 1) jaN))))) jaN)))))),?_⟩
  refine⟨_,rfl,.ref a,"tuple",_,true,rfl,.tup ha,by with_unfolding_all rfl,true,rfl,E1 ?_⟩;refine⟨_,rfl,a,rfl,⟨_,SqT.of ha⟩,?_⟩;refine a0P (caps:=[some (.int n)]) (λr=>V.bl (a1m n r)) (by omega) (λH' s=>SqT.of (s _ _ ha)) hI rfl (λv r H1 l c j s1 q=>?_) λH1 p s1 g=>?_
  .exact⟨_,rfl,_,rfl,v,r,n,_,rfl,rfl,j,hw r c,q⟩
  .refine⟨false,p,_,rfl,SqL.of A0,W0 _ _,?_⟩;rw[a0L];exact k _ (s1.upd g)
inductive IspAllFit(vs:qA V)(H:Hp)(Q:VK)(E:XK):Prop
 |mk (c a:qE) (us:qA V) (rss:LLI) (cs:qA (qD Int)) (_:vs=[.ref c,.ref a]) (_:H c=some (.tup (cs.map cV))) (_:cs.length<=1000) (_:H a=some (.tup us)) (_:Its H us rss) (_:us.length<=200000) (_:∀H',Same H H'->Q (.bl (rss.all (a8y cs))) H'):IspAllFit  vs H Q E
def a6x:Sp:=λvs H Q E=>IspAllFit  vs H Q E
def a7S:FnScope ["caps","some"] ["caps","some"] (A1 a0k):={}
def a8f(F:FunAt K mg "all_fit" a0k ["caps","some"])(T:Tx mg)(b:Ok P w K mg base "within" 1 ["caps","one"] a2K):Ok P w K mg base "all_fit" 2 ["caps","some"] a6x:=by
 refine F.okJ a7S (λvs H Q E h=>?_) (λj f A d s H vs Q E g h=>?_)
 .obtain⟨c,a,us,rss,cs,rfl,_⟩:=h;rfl
 .obtain⟨c,a,us,rss,cs,rfl,hc,hcl,ha,hI,hl,k⟩:=h;have o:(300000:Nat)<=sizeLine:=by rw[aX];decide
  refine⟨_,(A4 (A9 (L4 K rfl T.b_all (jaC (B9 (N:=["one","caps"]) (src:=[none,some 0]) (K1 K (jv 1)) (by show B8 _ _=true;rfl) (by rfl) (by rfl)
 (λ_ _ _ _ _=>(A8 (i:=0) (L2.nd ["one","caps"]) rfl (Or.inl rfl))) (λ_ _ _ _ _=>C2) (λ_ _ _ _ _=>(W6 (b8W K rfl T.b_any (jaC (jv 0) jaN)) (W5 (A7 b (g.mono (by omega)) rfl (jaC (jv 1) (jaC (jv 0) jaN))))))) jaN)))),?_⟩
  refine⟨_,rfl,a,rfl,⟨_,SqT.of ha⟩,?_⟩;refine a0P (caps:=[some (.ref c)]) (λr=>V.bl (a8y cs r)) (by omega) (λH' s=>SqT.of (s _ _ ha)) hI rfl (λv r H1 n g m s1 q=>?_) λH1 p s1 l=>?_
  .obtain⟨va,rfl,hva⟩:=id m;refine⟨_,rfl,true,va,_,rfl,SqT.of hva,b1d _,_,rfl,?_⟩;rw[b9t];unfold a8y at q;cases e:r.any λx=>!decide (x=0)with
   |false =>
    rw[e,d_]at q;exact C3 (q _ (Same.refl _))
   |true =>
    rw[e,eN]at q;exact E1 ⟨_,rfl,_,rfl,c,va,cs,r,rfl,s1 _ _ hc,hva,hcl,q⟩
  .refine⟨false,p,_,rfl,SqL.of A0,W0 _ _,?_⟩;rw[a0L];exact k _ (s1.upd l)
end
def b5v{K:qF}{src:qA (qJ)}{σ caps:L2.St}{Q:VK}{a:qE}{ps:qA V}{f:Nat->qI}{d:qA Nat}{te:TE}(g:Nat->Bool)(t:ps.length<=1000)(o:H a=some (.lst ps))(n:Prs H ps f d)(c:B1 src σ=none::none::caps)
  (l:∀(j:Nat) v H1 Q1,j∈d->IT H1 v (f j)->Same H H1->(∀H2,Same H1 H2->Q1 (.bl (g j)) H2)->te (some (.int j)::some v::caps) H1 Q1)
  (hd:∀H1 p,Same H H1->H1 p=none->Q (.ref p) (upd H1 p (.lst (d.map λj=>V.bl (g j))))) :
  E3 src (a7n K 2 (W7 (B0 0) (W7 (B0 1) a8w))) I9 te σ Q (Itl K a) H:=by
 have w:(3000:Nat)<=sizeLine:=by rw[aX];decide
 refine O8 (xs:=ps) (by omega) (λi ys H'=>Same H H'/\ys=(d.take i).map λj=>V.bl (g j)) ⟨Same.refl H,by simp⟩ (λi ys H' _ h=>⟨SqL.of (h.1 _ _ o),by rw[h.2,ag];exact bt _ _⟩) ?_ ?_
 .rintro i x ys H' hx ⟨s,rfl⟩;obtain⟨j,b,v,m,rfl,q,r⟩:=n.2 i x hx;refine⟨b,[.int j,v],rfl,SqT.of (s _ _ q),rfl,.int j,[v],rfl,v,[],rfl,rfl,?_⟩;rw[c];show Sub _ (some (.int j)::some v::caps)/\_;refine⟨⟨rfl,λk u e=>?_⟩,?_⟩
  .match k,e with
   |0,e=>cases e
   |1,e=>cases e
   |k+2,e=>exact e
  .refine l j v H' _ (aA m) (r.same s) s λH2 s2=>⟨s.trans s2,?_⟩;rw[bf,m,bL];rfl
 .rintro ys H' ⟨s,rfl⟩ p hp;rw[n.1,bx];exact hd H' p s hp
def b5h{H':Hp}{d:qE}{o:HO}(h:Rd H d o)(s:Same H H'):Rd H' d o:=by
 rcases h with h|⟨a,h⟩
 .exact .inl (s _ _ h)
 .exact .inr ⟨a,s _ _ h⟩
def DGet.rd{a b:qE}{qL:qA (qA Key×V)}{k:qA Key}(e:Rd H a (.dT qL))(c:H b=some (.tup (k.map kV))):DGet H a (.ref b) (T8 qL k):=.inr ⟨qL,k,b,e,rfl,c,rfl⟩
section
variable {K:qF}
inductive IspAreLeast(vs:qA V)(H:Hp)(Q:VK)(E:XK):Prop
 |mk (ra t:qE) (us zs:qA V) (rss tss:LLI) (n:Nat) (_:vs=[.ref ra,.ref t]) (_:H ra=some (.tup us)) (_:Its H us rss) (_:us.length<=1000) (_:(∀r∈rss,r.length<=1000)) (_:H t=some (.tup zs)) (_:Its H zs tss) (_:zs.length<=1000) (_:1<=n) (_:n<=1000) (_:(∀v∈tss,v.length=n/\Sm v)) (_:∀b H',Same H H'->(b=true↔Anti rss tss)->Q (.bl b) H'):IspAreLeast  vs H Q E
def a2M:Sp:=λvs H Q E=>IspAreLeast  vs H Q E
def a5s:FnScope ["rows","told"] ["rows","told"] (A1 R5):={}
def a5F(F:FunAt K mg "are_least" R5 ["rows","told"])(T:Tx mg)(b:Ok P w K mg base "least_of" 3 ["some"] a4s)(a:Ok P w K mg base "is_answer" 3 ["rows","one"] a0e):Ok P w K mg base "are_least" 4 ["rows","told"] a2M:=by
 refine F.okJ a5s (λvs H Q E h=>?_) (λo f A m s H vs Q E d h=>?_)
 .obtain⟨ra,t,us,zs,rss,tss,n,rfl,_⟩:=h;rfl
 .obtain⟨ra,t,us,zs,rss,tss,n,rfl,hra,hI,hul,hRl,ht,hJ,hzl,n1,n2,hT,k⟩:=h;have G:(3000:Nat)<=sizeLine:=by rw[aX];decide
  have B:=d.u60;refine⟨_,(A4 (A9 (W6 (a8m K B (A7 b (d.mono (by omega)) rfl (jaC (jv 1) jaN)) (jv 1)) (W5 (L4 K rfl T.b_all (jaC (B9 (N:=["one","rows"]) (src:=[none,some 0]) (K1 K (jv 1)) (by show B8 _ _=true;rfl) (by rfl) (by rfl)
 (λ_ _ _ _ _=>(A8 (i:=0) (L2.nd ["one","rows"]) rfl (Or.inl rfl))) (λ_ _ _ _ _=>C2) (λ_ _ _ _ _=>(A7 a (d.mono (by omega)) rfl (jaC (jv 1) (jaC (jv 0) jaN))))) jaN)))))),?_⟩
  refine⟨_,rfl,t,zs,tss,n,rfl,ht,hJ,hzl,n1,n2,λr d=>(hT r d).1,λq I g H1 s1 S y j=>?_⟩;have u:E2 tss->tss.Nodup->g=tss:=λh1 h2=>S.eq ⟨h1,h2,λ_=>Iff.rfl⟩;refine⟨_,rfl,2,_,by decide,EqV.its (k:=true) (SqT.of y) (SqT.of (s1 _ _ ht)) j (hJ.same s1),⟨_,_,rfl,rfl⟩,_,rfl,?_⟩;by_cases e:(g.filter λv=>Lst tss v)=tss
  .rw[aU e];refine E1 ⟨_,rfl,t,rfl,⟨_,SqT.of (s1 _ _ ht)⟩,?_⟩;refine a0P (caps:=[some (.ref ra)]) (λr=>V.bl (Ans rss r)) (by omega) (λH' s=>SqT.of (s _ _ (s1 _ _ ht))) (hJ.same s1) rfl (λv r H2 D l c s2 C=>?_) λH2 p s2 x=>?_
   .have s12:=s1.trans s2;exact⟨_,rfl,_,rfl,ra,v,us,rss,r,rfl,s12 _ _ hra,hI.same s12,c,hul,hRl,(hT r l).2,C⟩
   .refine⟨false,p,_,rfl,SqL.of A0,W0 _ _,?_⟩;rw[a0L];refine k _ _ (s1.trans (s2.upd x)) ?_;rw[aH];refine⟨λh=>⟨?_,?_,λv c=>?_,h⟩,λh=>h.ans⟩
    .rw[<-e];exact List.Pairwise.filter _ S.ri
    .rw[<-e];exact S.nd.filter _
    .rw[<-e]at c;exact(aZ.mp c).2
  .rw[bg e];refine C3 (k _ _ s1 ⟨(λz=>nomatch z),λh=>absurd ?_ e⟩);rw[u h.ri h.nd];exact List.filter_eq_self.mpr λv c=>h.lst v c
inductive IspMet(vs:qA V)(H:Hp)(Q:VK)(E:XK):Prop
 |mk (t d:qE) (y:V) (zs:qA V) (tss:LLI) (qL:qA (qA Key×V)) (mss:LLI) (ys:qI) (_:vs=[.ref t,.ref d,y]) (_:H t=some (.tup zs)) (_:Its H zs tss) (_:Rd H d (.dT qL)) (_:qL.map (·.1)=IK mss) (_:IT H y ys) (_:(∀f∈tss,f.length<=1000)) (_:∀H',Same H H'->Q (.bl (Q6 tss mss ys)) H'):IspMet  vs H Q E
def b2f:Sp:=λvs H Q E=>IspMet  vs H Q E
def b0r:FnScope ["told","listed","one"] ["told","listed","one"] (A1 a0V):={}
def b0N(F:FunAt K mg "is_met" a0V ["told","listed","one"])(T:Tx mg)(a:Ok P w K mg base "above_any" 2 ["some","one"] a2N):Ok P w K mg base "is_met" 3 ["told","listed","one"] b2f:=by
 refine F.okJ b0r (λvs H Q E h=>?_) (λg f A c s H vs Q E e h=>?_)
 .obtain⟨t,d,y,zs,tss,qL,mss,ys,rfl,_⟩:=h;rfl
 .obtain⟨t,d,_,zs,tss,qL,mss,ys,rfl,ht,hI,hd,hk,⟨y,rfl,hy⟩,hL,k⟩:=h;have i:=e.u60;refine⟨_,(A4 (A9 (b8X (b8U i (jv 2) (jv 1) (by with_unfolding_all rfl)) (W5 (A7 a (e.mono (by omega)) rfl (jaC (jv 0) (jaC (jv 2) jaN))))))),?_⟩;refine⟨_,rfl,_,rfl,d,_,rfl,DGet.rd hd (by rw[a8l];exact hy),_,rfl,?_⟩;rw[a7f hk];unfold Q6 at k;by_cases b:ys∈mss
  .rw[aU b]at k⊢;exact E1 (k _ (Same.refl _))
  .rw[bg b,cQ]at k;rw[bg b];exact C3 ⟨_,rfl,_,rfl,t,_,zs,tss,ys,rfl,ht,hI,⟨y,rfl,hy⟩,hL,k⟩
structure Ps(H:Hp)(ra c t d:qE)(us zs:qA V)(qL:qA (qA Key×V))(rss tss mss:LLI)(cs:qA (qD Int)):Prop where
 r:H ra=some (.tup us)
 I:Its H us rss
 c:H c=some (.tup (cs.map cV))
 t:H t=some (.tup zs)
 J:Its H zs tss
 d:Rd H d (.dT qL)
def Ps.same{H H':Hp}{ra c t d:qE}{us zs:qA V}{qL:qA (qA Key×V)}{rss tss a:LLI}{cs:qA (qD Int)}(h:Ps H ra c t d us zs qL rss tss a cs)(s:Same H H'):Ps H' ra c t d us zs qL rss tss a cs:=⟨s _ _ h.r,h.I.same s,s _ _ h.c,s _ _ h.t,h.J.same s,b5h h.d s⟩
structure Pk(us:qA V)(qL:qA (qA Key×V))(rss tss mss:LLI)(cs:qA (qD Int)):Prop where
 ul:us.length<=1000
 R:Rs cs.length rss
 n1:1<=cs.length
 n2:cs.length<=100
 k:qL.map (·.1)=IK mss
 T:∀v∈tss,v.length=cs.length
 M:∀v∈mss,v.length=cs.length/\Sm v
inductive IspGoes(vs:qA V)(H:Hp)(Q:VK)(E:XK):Prop
 |mk (ra c t d:qE) (y:V) (us zs:qA V) (qL:qA (qA Key×V)) (rss tss mss:LLI) (cs:qA (qD Int)) (ys:qI) (_:vs=[.ref ra,.ref c,.ref t,.ref d,y]) (_:Ps H ra c t d us zs qL rss tss mss cs) (_:Pk us qL rss tss mss cs) (_:IT H y ys) (_:ys∈mss) (_:∀H',Same H H'->Q (.bl (goI rss cs tss mss ys)) H'):IspGoes  vs H Q E
def b2g:Sp:=λvs H Q E=>IspGoes  vs H Q E
def a7R:FnScope ["rows","caps","told","listed","one"] ["rows","caps","told","listed","one"] (A1 a0j):={}
def a8d(F:FunAt K mg "goes_on" a0j ["rows","caps","told","listed","one"])(T:Tx mg)(a:Ok P w K mg base "above_any" 2 ["some","one"] a2N)(b:Ok P w K mg base "is_answer" 3 ["rows","one"] a0e)(l:Ok P w K mg base "steps" 4 ["rows","caps","one"] a5f)(g:Ok P w K mg base "is_met" 3 ["told","listed","one"] b2f):Ok P w K mg base "goes_on" 5 ["rows","caps","told","listed","one"] b2g:=by
 refine F.okJ a7R (λvs H Q E h=>?_) (λU f A D s H vs Q E x h=>?_)
 .obtain⟨ra,c,t,d,y,us,zs,qL,rss,tss,mss,cs,ys,rfl,_⟩:=h;rfl
 .obtain⟨ra,c,t,d,y,us,zs,qL,rss,tss,mss,cs,ys,rfl,S,W,hy,hm,k⟩:=h;have n:∀f∈tss,f.length<=1000:=λf V=>by rw[W.T f V];have:=W.n2;omega
  obtain⟨o,u⟩:=W.M ys hm;have X:=W.n2;refine⟨_,(A3 (C6 (C1 K (A7 a (x.mono (by omega)) rfl (jaC (jv 2) (jaC (jv 4) jaN))))
 (A4 (A9 K3))
 B7)
 (A3 (C6 (C1 K (A7 b (x.mono (by omega)) rfl (jaC (jv 0) (jaC (jv 4) jaN))))
 (A4 (A9 K3))
 B7)
 (A4 (A9 (L4 K rfl T.b_all (jaC (B9 (N:=["j","more","told","listed"]) (src:=[none,none,some 2,some 3]) (E7 K (A7 l (x.mono (by omega)) rfl (jaC (jv 0) (jaC (jv 1) (jaC (jv 4) jaN))))) (by show B8 _ _=true;rfl) (by rfl) (by rfl)
 (λ_ _ _ _ _=>(P8 K 2 (B3 (A8 (i:=0) (L2.nd ["j","more","told","listed"]) rfl (Or.inl rfl)) (B3 (A8 (i:=1) (L2.nd ["j","more","told","listed"]) rfl (Or.inl rfl)) K2)))) (λ_ _ _ _ _=>C2) (λ_ _ _ _ _=>(A7 g (x.mono (by omega)) rfl (jaC (jv 2) (jaC (jv 3) (jaC (jv 1) jaN)))))) jaN)))))),?_⟩
  refine⟨_,rfl,_,rfl,t,y,zs,tss,ys,rfl,S.t,S.J,hy,n,λH1 s1=>⟨_,rfl,?_⟩⟩;unfold goI at k;cases e:tss.any λt=>Bel t ys with
  |true =>
   rw[e,Bool.true_or]at k;exact E1 (k _ s1)
  |false =>
   rw[e,cQ]at k;have I:=S.same s1;refine C3 ⟨_,rfl,_,rfl,ra,y,us,rss,ys,rfl,I.r,I.I,hy.same s1,W.ul,λr C=>by rw[(W.R r C).1];omega,u,λH2 s2=>⟨_,rfl,?_⟩⟩;have m:=s1.trans s2;cases J:Ans rss ys with
   |true =>
    rw[J]at k;exact E1 (k _ m)
   |false =>
    rw[J,Bool.not_false,eN]at k;have z:=S.same m;refine C3 ⟨_,rfl,_,rfl,_,rfl,ra,c,y,us,rss,cs,ys,rfl,z.r,z.I,z.c,hy.same m,W.ul,by omega,o.symm,by rw[o];exact W.R,u,λp ps H3 O M L=>?_⟩;refine⟨p,rfl,⟨_,SqL.of M⟩,?_⟩;have Y:(StP rss cs ys).length<=ys.length:=a_ (bD _ _) (a_ (bD _ _) (by simp));refine b5v (caps:=[some (.ref t),some (.ref d)]) (λj=>Q6 tss mss (bump ys j)) (by rw[L.1];omega) M L rfl (λj v R Q4 hj Z G q=>?_) λR p4 G B=>?_
    .have S4:=S.same (m.trans (O.trans G));exact⟨_,rfl,_,rfl,_,rfl,t,d,v,zs,tss,qL,mss,bump ys j,rfl,S4.t,S4.J,S4.d,W.k,Z,n,q⟩
    .refine⟨false,p4,_,rfl,SqL.of A0,W0 _ _,?_⟩;rw[a0L];exact k _ (m.trans (O.trans (G.upd B)))
structure Shw(rss:LLI)(cs:qA (qD Int))(tss pss:LLI):Prop where
 tv:tss.all (a1m cs.length)=true
 pv:pss.all (a1m cs.length)=true
 fit:(tss++pss).all (a8y cs)=true
 an:Anti rss tss
 fst:(L5 cs).all (Q6 tss pss)=true
 go:pss.all (goI rss cs tss pss)=true
inductive IspShows(vs:qA V)(H:Hp)(Q:VK)(E:XK):Prop
 |mk (ra c t p:qE) (us zs ws:qA V) (rss tss pss:LLI) (cs:qA (qD Int)) (_:vs=[.ref ra,.ref c,.ref t,.ref p]) (_:H ra=some (.tup us)) (_:Its H us rss) (_:us.length<=1000) (_:H c=some (.tup (cs.map cV))) (_:1<=cs.length) (_:cs.length<=100) (_:Rs cs.length rss) (_:H t=some (.tup zs)) (_:Its H zs tss) (_:zs.length<=1000) (_:H p=some (.tup ws)) (_:Its H ws pss) (_:ws.length<=100000) (_:(∀v∈tss++pss,v.length<=1000/\Sm v)) (_:∀b H',Same H H'->(b=true↔Shw rss cs tss pss)->Q (.bl b) H'):IspShows  vs H Q E
def a9j:Sp:=λvs H Q E=>IspShows  vs H Q E
def a4B{a b:LLI}(h:∀r,r∈a↔r∈b):Q6 tss a=Q6 tss b:=by
 funext v;unfold Q6;congr 1;rw[cg,bz,bz];exact h v
def b4b{a b:LLI}(h:∀r,r∈a↔r∈b):goI rss cs tss a=goI rss cs tss b:=by
 funext v;unfold goI;rw[a4B h]
def a8X{n:Nat}{l:LLI}(h:l.all (a1m n)=true):∀v∈l,v.length=n:=λv a=>by
 have:=aH.mp h v a;unfold a1m at this;rw[aJ]at this;exact bE this.1
def sc_shows:FnScope ["rows","caps","told","paper","listed"] ["rows","caps","told","paper"] (A1 a2p):={}
def b3n(F:FunAt K mg "shows" a2p ["rows","caps","told","paper"])(T:Tx mg)(a:Ok P w K mg base "are_vectors" 3 ["value","width"] a9h)(m:Ok P w K mg base "all_fit" 2 ["caps","some"] a6x)(l:Ok P w K mg base "are_least" 4 ["rows","told"] a2M)(y:Ok P w K mg base "is_met" 3 ["told","listed","one"] b2f)(e:Ok P w K mg base "first_steps" 2 ["caps"] a5k)(n:Ok P w K mg base "goes_on" 5 ["rows","caps","told","listed","one"] b2g):Ok P w K mg base "shows" 6 ["rows","caps","told","paper"] a9j:=by
 refine F.okJ sc_shows (λvs H Q E h=>?_) (λd6 f A c6 s H vs Q E R h=>?_)
 .obtain⟨ra,c,t,p,us,zs,ws,rss,tss,pss,cs,rfl,_⟩:=h;rfl
 .obtain⟨ra,c,t,p,us,zs,ws,rss,tss,pss,cs,rfl,hra,hI,hul,hc,n1,n2,hR,ht,hJ,hzl,hp,hM,hwl,hV,k⟩:=h;have hu:=R.u60;have hz:(300000:Nat)<=sizeLine:=by rw[aX];decide
  have Y:∀v∈tss,v.length<=1000/\Sm v:=λv j=>hV v (aR _ j);have a4:∀v∈pss,v.length<=1000/\Sm v:=λv j=>hV v (aQ _ j);refine⟨_,(A3 (C6 (a0y (a0Z (E9 (C1 K (A7 a (R.mono (by omega)) rfl (jaC (jv 2) (jaC (C7 K rfl T.b_len (jaC (jv 1) jaN)) jaN))))) (V5 (E9 (C1 K (A7 a (R.mono (by omega)) rfl (jaC (jv 3) (jaC (C7 K rfl T.b_len (jaC (jv 1) jaN)) jaN))))))))
 (A4 (A9 K3))
 B7)
 (A3 (C6 (a0y (a0Z (E9 (C1 K (A7 m (R.mono (by omega)) rfl (jaC (jv 1) (jaC (a5L (jv 2) (jv 3)) jaN))))) (V5 (E9 (C1 K (A7 l (R.mono (by omega)) rfl (jaC (jv 0) (jaC (jv 2) jaN))))))))
 (A4 (A9 K3))
 B7)
 (A3 (B2 (i:=4) sc_shows.nd rfl (Or.inr rfl) (b3T hu rfl T.b_dict (jaC (B9 (N:=["one"]) (src:=[none]) (K1 K (jv 3)) (by show B8 _ _=true;rfl) (by rfl) (by rfl)
 (λ_ _ _ _ _=>(A8 (i:=0) (L2.nd ["one"]) rfl (Or.inl rfl))) (λ_ _ _ _ _=>C2) (λ_ _ _ _ _=>(W4 (jaC (jv 0) (jaC K3 jaN))))) jaN)))
 (A3 (C6 (E9 (C1 K (L4 K rfl T.b_all (jaC (B9 (N:=["one","told","listed"]) (src:=[none,some 2,some 4]) (K1 K (A7 e (R.mono (by omega)) rfl (jaC (jv 1) jaN))) (by show B8 _ _=true;rfl) (by rfl) (by rfl)
 (λ_ _ _ _ _=>(A8 (i:=0) (L2.nd ["one","told","listed"]) rfl (Or.inl rfl))) (λ_ _ _ _ _=>C2) (λ_ _ _ _ _=>(A7 y (R.mono (by omega)) rfl (jaC (jv 1) (jaC (jv 2) (jaC (jv 0) jaN)))))) jaN))))
 (A4 (A9 K3))
 B7)
 (A4 (A9 (L4 K rfl T.b_all (jaC (B9 (N:=["one","rows","caps","told","listed"]) (src:=[none,some 0,some 1,some 2,some 4]) (b6o (jv 4)) (by show B8 _ _=true;rfl) (by rfl) (by rfl)
 (λ_ _ _ _ _=>(A8 (i:=0) (L2.nd ["one","rows","caps","told","listed"]) rfl (Or.inl rfl))) (λ_ _ _ _ _=>C2) (λ_ _ _ _ _=>(A7 n (R.mono (by omega)) rfl (jaC (jv 1) (jaC (jv 2) (jaC (jv 3) (jaC (jv 4) (jaC (jv 0) jaN)))))))) jaN)))))))),?_⟩
  refine⟨_,rfl,_,rfl,c,_,rfl,.inr (SqT.of hc),t,zs,tss,cs.length,_,rfl,by rw[ag],ht,hJ,by omega,λr D=>(Y r D).1,λH1 s1=>⟨_,rfl,?_⟩⟩;cases e1:tss.all (a1m cs.length)with
  |false=>exact E1 (k _ _ s1 ⟨(λz=>nomatch z),λh=>by rw[h.tv]at e1;cases e1⟩)
  |true =>
  refine C3 ⟨_,rfl,_,rfl,c,_,rfl,.inr (SqT.of (s1 _ _ hc)),p,ws,pss,cs.length,_,rfl,by rw[ag],s1 _ _ hp,hM.same s1,by omega,λr D=>(a4 r D).1,λH2 s2=>⟨_,rfl,?_⟩⟩;have M:=s1.trans s2;cases e2:pss.all (a1m cs.length)with
  |false=>exact E1 (k _ _ M ⟨(λz=>nomatch z),λh=>by rw[h.pv]at e2;cases e2⟩)
  |true =>
  have a3:=a8X e1;have c1:=a8X e2;refine C3 ?_;refine⟨_,rfl,_,rfl,_,rfl,t,p,zs,ws,rfl,rfl,M _ _ ht,M _ _ hp,by omega,λq H3 s3 hq=>?_⟩;have O:=M.trans s3;have b9:Its H3 (zs++ws) (tss++pss):=a5N (hJ.same O) (hM.same O);refine⟨c,q,_,_,cs,rfl,O _ _ hc,by omega,hq,b9,by rw[au];omega,λH4 s4=>⟨_,rfl,?_⟩⟩;have B:=O.trans s4;cases e3:(tss++pss).all (a8y cs)with
  |false=>exact E1 (k _ _ B ⟨(λz=>nomatch z),λh=>by rw[h.fit]at e3;cases e3⟩)
  |true =>
  refine C3 ⟨_,rfl,_,rfl,ra,t,us,zs,rss,tss,cs.length,rfl,B _ _ hra,hI.same B,hul,λr D=>by rw[(hR r D).1];omega,B _ _ ht,hJ.same B,hzl,n1,by omega,λv j=>⟨a3 v j,(Y v j).2⟩,λb5 H5 s5 h5=>⟨_,rfl,?_⟩⟩;have I:=B.trans s5;cases b5 with
  |false=>exact E1 (k _ _ I ⟨(λz=>nomatch z),λh=>by have:=h5.mpr h.an;cases this⟩)
  |true =>
  have b8:=h5.mp rfl;refine C3 ?_;have a7:=I _ _ hp;have c0:=hM.same I;refine⟨_,rfl,p,rfl,⟨_,SqT.of a7⟩,?_⟩;refine U5 (K:=K) (xs:=ws) (by omega) (λi qs H'=>Same H5 H'/\PrT H' qs (pss.take i)) ⟨Same.refl H5,PrT.nil⟩ (λi qs H' _ h=>⟨SqT.of (h.1 _ _ a7),by rw[h.2.1];exact bt _ _⟩) ?_ ?_
  .rintro i x qs H' hx ⟨s',hP'⟩;obtain⟨r,e0,c4,c5⟩:=c0.mem hx;refine⟨Sub.one,_,rfl,by show 2<=sizeLine;omega,λp8 c3=>?_⟩;have J:=(Same.refl H').upd (o:=.tup [x,.bl true]) c3;refine⟨s'.trans J,?_⟩;rw[bf,c4];exact(hP'.same J).snoc A0 ((c5.same s').same J)
  rintro qs H6 ⟨s6,X⟩ p6 a8;rw[hM.1,bx]at X;have s7:=(Same.refl H6).upd (o:=.lst qs) a8;refine⟨p6,qs,pss,rfl,A0,X.same s7,λd qL b hd hk u=>?_⟩;have J:=I.trans ((s6.trans s7).upd (o:=.dT qL) hd);have e8:upd (upd H6 p6 (.lst qs)) d (.dT qL) d=some (.dT qL):=A0;have c2:H d=none:=I.free ((s6.trans s7).free hd);generalize upd (upd H6 p6 (.lst qs)) d (.dT qL)=H8 at J e8;clear hd s7 X s6 a8;dsimp only[B0];have em:=a4B (tss:=tss) u.mem;have b7:=b4b (rss:=rss) (tss:=tss) (cs:=cs) u.mem;have W:Pk us qL rss tss b cs:=⟨hul,hR,n1,n2,hk,a3,λv j=>⟨c1 v ((u.mem v).mp j),(a4 v ((u.mem v).mp j)).2⟩⟩;have S8:Ps H8 ra c t d us zs qL rss tss b cs:=⟨J _ _ hra,hI.same J,J _ _ hc,J _ _ ht,hJ.same J,.inl e8⟩;refine⟨_,rfl,c,cs,rfl,S8.c,n1,n2,λq9 d0 fss H9 s9 a9 a2 Z d2=>?_⟩;have d7:d0.length<=100:=by
   rw[a2.1,Z.length_eq];exact a_ (bD _ _) (by simp;omega)
  refine⟨q9,rfl,⟨_,SqT.of a9⟩,?_⟩;refine a0P (caps:=[some (.ref t),some (.ref d)]) (λr=>V.bl (Q6 tss b r)) (by omega) (λH' s=>SqT.of (s _ _ a9)) a2 rfl (λv r a1 d3 d1 j a0 c8=>?_) λa1 b1 a0 a5=>?_
  .have S10:=S8.same (s9.trans a0);exact⟨_,rfl,_,rfl,_,rfl,t,d,v,zs,tss,qL,b,r,rfl,S10.t,S10.J,S10.d,hk,j,λf hf=>(Y f hf).1,c8⟩
  have L:=(s9.trans a0).upd (o:=.lst (fss.map λr=>V.bl (Q6 tss b r))) a5;refine⟨false,b1,_,rfl,SqL.of A0,W0 _ _,?_⟩;rw[a0L];have ef:fss.all (Q6 tss b)=(L5 cs).all (Q6 tss pss):=by
   rw[em];rw[cg,aH,aH];exact⟨λh v j=>h v (Z.mem_iff.mpr j),λh v j=>h v (Z.mem_iff.mp j)⟩
  rw[ef];generalize upd a1 b1 (.lst (fss.map λr=>V.bl (Q6 tss b r)))=C at L;have S:=J.trans L;refine⟨_,rfl,?_⟩;cases e4:(L5 cs).all (Q6 tss pss)with
  |false=>exact E1 (k _ _ S ⟨(λz=>nomatch z),λh=>by rw[h.fst]at e4;cases e4⟩)
  |true =>
  refine C3 ?_;have b6:=L _ _ e8;have d5:=S8.same L;refine⟨_,rfl,d,qL,rfl,b6,λob=>?_⟩;have off:Off [d] C (upd C d (.frz ob (.dT qL))):=(Off.refl _ _).set (by simp);have U:upd C d (.frz ob (.dT qL)) d=some (.frz ob (.dT qL)):=A0;have g:Same H (upd C d (.frz ob (.dT qL))):=a2U S c2 off;generalize upd C d (.frz ob (.dT qL))=b2 at g U;have b4:Ps b2 ra c t d us zs qL rss tss b cs:=⟨g _ _ hra,hI.same g,g _ _ hc,g _ _ ht,hJ.same g,.inr ⟨ob,U⟩⟩;have d8:=b3X hk;have d9:b.length<=100000:=by have:=u.le;rw[<-hM.1]at this;omega
  refine b1m (caps:=[some (.ref ra),some (.ref c),some (.ref t),some (.ref d)]) (λr=>V.bl (goI rss cs tss b r)) (by omega) U hk rfl (λv r b3 d4 b0 j G c9=>?_) λb3 c7 G a6=>?_
  .have S13:=b4.same G;exact⟨_,rfl,_,rfl,_,rfl,_,rfl,_,rfl,ra,c,t,d,v,us,zs,qL,rss,tss,b,cs,r,rfl,S13,W,j,b0,c9⟩
  .refine⟨false,c7,_,rfl,SqL.of A0,W0 _ _,?_⟩;rw[a0L];have ea:b.all (goI rss cs tss b)=pss.all (goI rss cs tss pss):=by
    rw[b7];rw[cg,aH,aH];exact⟨λh v j=>h v ((u.mem v).mpr j),λh v j=>h v ((u.mem v).mp j)⟩
   rw[ea];refine k _ _ (g.trans (G.upd a6)) ⟨λh=>⟨e1,e2,e3,b8,e4,h⟩,λh=>h.go⟩
end
def a5P(a:∀x∈v,0<=x):a8y cs v=true↔0<v.sum/\Wi cs v=true:=by
 unfold a8y;rw[aJ];refine and_congr_left λ_=>?_;rw[bA];constructor
 .rintro⟨x,hx,h⟩;have h1:¬x=0:=by simpa using h
  have h2:=a x hx;exact a9d v a x hx (by omega)
 .intro h;obtain⟨j,b,h1⟩:=a5B a h;rw[aB,aj b]at h1;have h1:1<=v[j]:=h1;exact⟨v[j],cY _,by simp;omega⟩
def vecI_iff{n:Nat}:a1m n v=true↔v.length=n/\∀x∈v,0<=x:=by
 unfold a1m;rw[aJ,bz,aH];exact and_congr_right λ_=>⟨λh x a=>bE (h x a),λh x a=>aU (h x a)⟩
def a5n{F W c:LLI}(hR:∀r∈rss,r.length=cs.length)(h:Wk rss cs F W [] k)(g:tss.Perm F)(o:E2 tss)(l:∀v∈c,v.length=cs.length/\(∀x∈v,0<=x)/\0<v.sum/\Wi cs v=true)(n:∀v∈c,v∈W∨(tss.any λt=>Bel t v)=true)(q:∀v∈W,v∈c∨(tss.any λt=>Bel t v)=true):Shw rss cs tss c:=by
 have d:∀v,v∈tss↔Least rss cs v:=λv=>g.mem_iff.trans (h.least hR v);have m:tss.Nodup:=g.symm.nodup h.nd.2;have pap:=h.pap hR;have met:∀v,v∈W->Q6 tss c v=true:=λv b=>by
  unfold Q6;rcases q v b with z|z
  .rw[aU z,Bool.true_or]
  .rw[z,Bool.or_true]
 refine⟨aH.mpr λv b=>?_,aH.mpr λv b=>?_,aH.mpr λv b=>?_,⟨o,m,λv b=>?_,λv b=>((d v).mp b).an.ans⟩,aH.mpr λv b=>met v (pap.fst v b),aH.mpr λv b=>?_⟩
 .exact vecI_iff.mpr ⟨((d v).mp b).an.len,((d v).mp b).an.nn⟩
 .exact vecI_iff.mpr ⟨(l v b).1,(l v b).2.1⟩
 .rcases ay.mp b with z|z
  .have:=(d v).mp z;exact(a5P this.an.nn).mpr ⟨this.an.pos,this.wi⟩
  .have:=l v z;exact(a5P this.2.1).mpr this.2.2
 .unfold Lst;rw[dZ,dX];intro u C i;rw[aJ]at i;have h1:=(d u).mp C;have h2:=(d v).mp b;have:=h2.min u h1.an ((C8 (by rw[h1.an.len,h2.an.len])).mp i.2);rw[this]at i;simp at i
 .obtain⟨h1,h2,h3,h4⟩:=l v b;unfold goI;cases s:tss.any λt=>Bel t v with
  |true=>rfl
  |false =>
   have p:v∈W:=(n v b).resolve_right (by rw[s];decide);rw[cQ,aJ,dZ];constructor
   .cases e:Ans rss v with
    |false=>rfl
    |true =>
     obtain⟨a,w,y⟩:=O5 v.sum.toNat (by omega) ⟨h1,h2,e,h3⟩ h4;have:=dX.mp s a ((d a).mpr w);rw[(C8 (by rw[w.an.len,h1])).mpr y]at this;exact absurd rfl this
   .rw[aH];intro j B;rcases pap.nx v p (by simp) j B with z|⟨f,A,i⟩
    .exact met _ z
    .unfold Q6;rw[bA.mpr ⟨f,g.mem_iff.mpr A,i⟩,Bool.or_true]
def Shw.answer{b:LLI}(h:Shw rss cs tss b){t:qI}(a:t∈tss):Answer rss cs.length t/\Wi cs t=true:=by
 obtain⟨h1,h2⟩:=vecI_iff.mp (aH.mp h.tv t a);obtain⟨c,d⟩:=(a5P h2).mp (aH.mp h.fit t (aR _ a));exact⟨⟨h1,h2,h.an.ans t a,c⟩,d⟩
def Shw.above{a:LLI}(h:Shw rss cs tss a){u:qI}(e:Least rss cs v)(d:Under u v)(g:(tss.any λt=>Bel t u)=true):v∈tss:=by
 obtain⟨t,c,i⟩:=bA.mp g;have b:=(h.answer c).1;have f:Under t u:=(C8 (by rw[b.len,d.1,e.an.len])).mp i;have:=e.min t b (Under.trans f d);rw[<-this];exact c
def Shw.walk{p:LLI}(h:Shw rss cs tss p)(hR:∀r∈rss,r.length=cs.length)(b:Least rss cs v):∀(m:Nat) (u:qI),(v.sum-u.sum).toNat<=m->Under u v->Q6 tss p u=true->v∈tss:=by
 intro m;induction m with
 |zero =>
  intro u B d a;have A:=d.sum.1;have e:u=v:=Under.eq d (by omega);cases f:tss.any λt=>Bel t u with
  |true=>exact h.above b d f
  |false =>
   unfold Q6 at a;rw[f,fA,bz]at a;have g:=aH.mp h.go u a;unfold goI at g;rw[f,cQ,aJ,e,b.an.ans]at g;exact absurd g.1 (by decide)
 |succ m D =>
  intro u B d a;cases f:tss.any λt=>Bel t u with
  |true=>exact h.above b d f
  |false =>
   unfold Q6 at a;rw[f,fA,bz]at a;have g:=aH.mp h.go u a;unfold goI at g;rw[f,cQ,aJ,dZ]at g;obtain⟨i,y⟩:=g;have w:u≠v:=λz=>by rw[z,b.an.ans]at i;cases i
   have x:=b7h rss u v (λr C=>by rw[hR r C,b.an.len]) d w b.an.ans;obtain⟨j,q⟩:=List.exists_mem_of_ne_nil _ x;have n:=a7Z q;have o:j<u.length:=by rw[d.1];exact n.1
   have k:a1i rss u j<0:=by
    unfold Pl at q;have:=(aZ.mp q).2;rw[i,cQ,aJ]at this;exact bE this.2
   have l:a7v (cs.getD j none) (u.getD j 0)=true:=by
    have:=(a1k b.an.len).mp b.wi j (by rw[<-b.an.len];exact n.1);cases e:cs.getD j none with
    |none=>rfl
    |some c =>
     rw[e]at this;have:v.getD j 0<=c:=bE this;exact aU (by omega)
   have s:j∈StP rss cs u:=by
    unfold StP;rw[aZ,aZ,bb,bz];exact⟨⟨o,k⟩,l⟩
   refine D (bump u j) ?_ (Under.bump (rss:=rss) d q) (aH.mp y j s);rw[a1f u j o];omega
def Shw.sound{m:LLI}(h:Shw rss cs tss m)(hR:∀r∈rss,r.length=cs.length)(v:qI):v∈tss↔Least rss cs v:=by
 have c:∀v,Least rss cs v->v∈tss:=λv b=>by
  obtain⟨j,q,h1⟩:=a5B b.an.nn b.an.pos;have k:j<cs.length:=by rw[<-b.an.len];exact q
  have d:Under (M8 cs.length j) v:=⟨by rw[K9,b.an.len],λi hi=>by
   rw[T9 _ _ _ (by rw[<-b.an.len];exact hi)];split
   .rename_i e;subst e;exact h1
   .exact b7m b.an.nn i⟩
  have p:M8 cs.length j∈L5 cs:=aZ.mpr ⟨aT.mpr ⟨j,bb.mpr k,rfl⟩,a2l b.an.len b.wi d⟩;exact h.walk hR b _ _ (ak _) d (aH.mp h.fst _ p)
 refine⟨λo=>?_,c v⟩;obtain⟨n,hw⟩:=h.answer o;obtain⟨a,f,d⟩:=O5 v.sum.toNat (by omega) n hw;have g:=c a f;have l:=h.an.lst v o;unfold Lst at l;rw[dZ,dX]at l;have:=l a g;rw[(C8 (by rw[f.an.len,n.len])).mpr d,Bool.and_true]at this;have e:a=v:=by simpa using this
 rw[<-e];exact f
def Wk.src{F W L:LLI}(h:Wk rss cs F W L k):(∀v∈L,v∈W)/\∀v∈W,v∈L5 cs∨∃u∈W,∃j∈StP rss cs u,v=bump u j:=by
 induction h with
 |@one L ri nd h=>exact⟨λv a=>a,λv a=>.inl ((h v).mp a)⟩
 |@more F W L L' k h ne ri nd c b =>
  refine⟨λv a=>aQ _ a,λv a=>?_⟩;rcases ay.mp a with z|z
  .rcases b.2 v z with q|⟨u,hu,j,hj,e⟩
   .exact .inl q
   .exact .inr ⟨u,aR _ hu,j,hj,e⟩
  .obtain⟨u,hu,j,hj,e,_⟩:=(c v).mp z;exact .inr ⟨u,aR _ (b.1 u hu),j,hj,e⟩
def Wk.bar{rss:LLI}{cs:qA (qD Int)}{F W L:LLI}{k:Nat}(hR:∀r∈rss,r.length=cs.length)(h:Wk rss cs F W L k):∀v∈W,∀f∈F,Under f v->f=v:=by
 induction h with
 |@one L ri nd h =>
  intro v c f b a;exact((Wk.one ri nd h).ok hR).bar v c f b a
 |@more F W L L' k h ne ri nd d g =>
  intro v c f b a;have o:=(Wk.more h ne ri nd d).ok hR;rcases ay.mp c with z|z
  .rcases ay.mp b with q|q
   .exact g v z f q a
   .obtain⟨i,q1,q2,lv⟩:=h.lv.2.1 v z;have e:=((Wk.more h ne ri nd d).lv).1 f (aZ.mp q).1;have h1:=a.sum.1;rw[e.sum,lv.sum]at h1;omega
  .exact o.bar v z f b a
def b2m{F W a:LLI}{g:qI}(hR:∀r∈rss,r.length=cs.length)(h:Wk rss cs F W [] k)(d:tss.Perm F)(C:g∈W)(s:g∉tss)(hp:∀v,v∈a↔v∈W/\v≠g):¬Shw rss cs tss a:=by
 intro B;have p:=h.lv;have b:∀v∈W,v.length=cs.length:=λv n=>by
  obtain⟨i,_,_,lv⟩:=p.2.1 v n;exact lv.len
 have o:∀f∈tss,f∈W:=λf J=>(p.2.2.1 f (d.mem_iff.mp J)).1;have l:∀v∈W,(tss.any λt=>Bel t v)=true->v∈tss:=λv n H=>by
  obtain⟨t,x,I⟩:=bA.mp H;have G:=(C8 (by rw[b t (o t x),b v n])).mp I;rw[<-h.bar hR v n t (d.mem_iff.mp x) G];exact x
 have m:Q6 tss a g=false:=by
  unfold Q6;have h1:decide (g∈a)=false:=bg λz=>((hp g).mp z).2 rfl;rw[h1,cQ];cases e:tss.any λt=>Bel t g with
  |false=>rfl
  |true=>exact absurd (l g C e) s
 rcases h.src.2 g C with q|⟨u,E,j,D,e⟩
 .have:=aH.mp B.fst g q;rw[m]at this;cases this
 .have hjl:=a5d D;have w:u≠g:=λz=>by
   have:=a1f u j hjl.1;rw[<-e,z]at this;omega
  have c:=aH.mp B.go u ((hp u).mpr ⟨E,w⟩);unfold goI at c;cases A:tss.any λt=>Bel t u with
  |true =>
   have y:=l u E A;have:=a7y (p.2.2.1 u (d.mem_iff.mp y)).2 j;omega
  |false =>
   rw[A,cQ,aJ]at c;have:=aH.mp c.2 j D;rw[<-e,m]at this;cases this
def b4W{F W b e:LLI}(hR:∀r∈rss,r.length=cs.length)(h:Wk rss cs F W [] k)(a:tss.Perm F)(d:E2 tss)(c:Shw rss cs b e):b=tss :=
 a2Y c.an.ri d c.an.nd (a.symm.nodup h.nd.2) λv=>(c.sound hR v).trans (a.mem_iff.trans (h.least hR v)).symm
section
variable {K:qF}
inductive IspTotals(vs:qA V)(H:Hp)(Q:VK)(E:XK):Prop
 |mk (a:qE) (y:V) (us:qA V) (rss:LLI) (ys:qI) (_:vs=[.ref a,y]) (_:H a=some (.tup us)) (_:Its H us rss) (_:IT H y ys) (_:us.length<=1000) (_:(∀r∈rss,r.length<=1000)) (_:Sm ys) (_:∀p H',Same H H'->H' p=some (.lst ((rss.map λr=>dot r ys).map V.int))->Q (.ref p) H'):IspTotals  vs H Q E
def a6q:Sp:=λvs H Q E=>IspTotals  vs H Q E
def a2S:FnScope ["_law_rows_here","_law_one"] ["_law_rows_here","_law_one"] (A1 M0):={}
def b0J(F:FunAt K mg "_law_totals" M0 ["_law_rows_here","_law_one"])(T:Tx mg):Ok P w K mg base "_law_totals" 1 ["_law_rows_here","_law_one"] a6q:=by
 refine F.okJ a2S (λvs H Q E h=>?_) (λl f A e s H vs Q E g h=>?_)
 .obtain⟨a,y,us,rss,ys,rfl,_⟩:=h;rfl
 .obtain⟨a,y,us,rss,ys,rfl,ha,hI,d,hl,hl2,hs,k⟩:=h;refine⟨_,(A4 (A9 (B9 (N:=["_law_row","_law_one"]) (src:=[none,some 1]) (K1 K (jv 0)) (by show B8 _ _=true;rfl) (by rfl) (by rfl)
 (λ_ _ _ _ _=>(A8 (i:=0) (L2.nd ["_law_row","_law_one"]) rfl (Or.inl rfl))) (λ_ _ _ _ _=>C2) (λ_ _ _ _ _=>(a8p K rfl T.b_sum (jaC (B9 (N:=["_law_number","_law_many"]) (src:=[none,none]) (a1y K rfl T.b_zip (jaC (jv 0) (jaC (jv 1) jaN))) (by show B8 _ _=true;rfl) (by rfl) (by rfl)
 (λ_ _ _ _ _=>(P8 K 2 (B3 (A8 (i:=0) (L2.nd ["_law_number","_law_many"]) rfl (Or.inl rfl)) (B3 (A8 (i:=1) (L2.nd ["_law_number","_law_many"]) rfl (Or.inl rfl)) K2)))) (λ_ _ _ _ _=>C2) (λ_ _ _ _ _=>(Z0 (jv 0) (jv 1)))) jaN)))))),?_⟩
  refine⟨_,rfl,a,rfl,⟨_,SqT.of ha⟩,?_⟩;refine a8Y (caps:=[some y]) (λr=>V.int (dot r ys)) hl (λH' s=>SqT.of (s _ _ ha)) hI rfl (λv r H1 j g m s1 q=>?_) λH1 p s c=>?_
  .obtain⟨va,rfl,hva⟩:=m;obtain⟨n,rfl,b⟩:=d.same s1;refine⟨_,rfl,_,rfl,true,true,va,n,rfl,⟨_,SqT.of hva⟩,⟨_,SqT.of b⟩,?_⟩;refine a4h (caps:=[]) (λx y=>V.int (x*y)) (hl2 r g) (λH' s=>⟨sqt (s _ _ hva),sqt (s _ _ b)⟩) rfl (λx y H1 j _ d _ q=>⟨_,rfl,_,rfl,_,_,rfl,rfl,.inr (hs y d),q⟩) λH2 p s c=>?_;rw[a4X (λx y=>x*y) V.int];exact⟨false,p,_,rfl,SqL.of A0,q _ (s.upd c)⟩
  .rw[show(rss.map λr=>V.int (dot r ys))=(rss.map λr=>dot r ys).map V.int by rw[cN];rfl];exact k _ _ (s.upd c) A0
end
def b6P(rss:LLI)(ys:qI):decide ((rss.map λr=>dot r ys).filter (λx=>!decide (V.int x=V.int 0))=[])=Ans rss ys:=by
 rw[cg,bz,List.filter_eq_nil_iff];unfold Ans;rw[aH];simp
section
variable {K:qF}
def a1Y:FnScope ["_law_rows_here","_law_one"] ["_law_rows_here","_law_one"] (A1 J4):={}
def a8e(F:FunAt K mg "_law_answers" J4 ["_law_rows_here","_law_one"])(T:Tx mg)(c:Ok P w K mg base "_law_totals" 1 ["_law_rows_here","_law_one"] a6q):Ok P w K mg base "_law_answers" 2 ["_law_rows_here","_law_one"] a0e:=by
 refine F.okJ a1Y (λvs H Q E h=>?_) (λm f A g s H vs Q E l h=>?_)
 .obtain⟨a,y,us,rss,ys,rfl,_⟩:=h;rfl
 .obtain⟨a,y,us,rss,ys,rfl,ha,hI,hy,hl,hl2,hs,k⟩:=h;have o:=l.u60;refine⟨_,(A4 (A9 (a8m K o (B9 (N:=["_law_total"]) (src:=[none]) (E7 K (A7 c (l.mono (by omega)) rfl (jaC (jv 0) (jaC (jv 1) jaN)))) (by show B8 _ _=true;rfl) (by rfl) (by rfl)
 (λ_ _ _ _ _=>(A8 (i:=0) (L2.nd ["_law_total"]) rfl (Or.inl rfl))) (λ_ _ _ _ _=>(a1z (a9E (jv 0) A6))) (λ_ _ _ _ _=>(jv 0))) (K6 jaN)))),?_⟩
  refine⟨_,rfl,_,rfl,a,y,us,rss,ys,rfl,ha,hI,hy,hl,hl2,hs,λq H1 s1 j=>?_⟩;refine⟨q,rfl,⟨_,SqL.of j⟩,?_⟩;refine b0T (caps:=[]) (λx=>!decide (V.int x=V.int 0)) (by rw[ag,<-hI.1];exact hl) (λH' s=>SqL.of (s _ _ j)) rfl (λx H2 r _ _ q=>⟨_,rfl,rfl,_,rfl,q⟩) λH2 p s2 n=>?_;refine b6e (b:=p) (cs:=_) A0 λp2 d=>?_;have e:=b6P rss ys;show Q (.bl (decide _)) _;rw[e];exact k _ (s1.trans ((s2.upd n).upd d))
end
end K55
namespace L2
open PySem PySem.Spec PyProof.Rows
variable {X:Cx}{s:qC}
section
open PySem.SeqAt
open PySem.AutoSeq1 (wpAny_loadPart')
open PySem.MeetsSeq PySem.MeetsSeq2 PySem.MeetsSeq3
end
section
variable {qK:qA (qE×Obj)}{σ:St}{H:Hp}
end
section
variable {prog:qG}{w:World}{A:Around}{I l S:qE}{vs:qA qB}{kw:qA (Str×qB)}{R:Result->qC->Prop}{h₀:Heap}
end
section
variable {prog:qG}{w:World}{A:Around}{E:qH}
end
section
variable {e:Expr}{t:TA}{p pos kp np:Pos}{nk:Nat}
end
section
variable {e:Expr}{te:TE}{pos p2:Pos}
end
end L2
namespace K55
open PySem PySem.Spec PyProof.Rows L2
variable {A B:LLI}{H:Hp}{K:qF}{Q:VK}{n:Nat}{us:qA V}{w:Str}{x:Int}{xs:qI}
def E5(x:Int):Str:=a1e x.toNat
def Sz(xs:qI):Prop:=∀x∈xs,0<=x/\x<10 ^ 60
abbrev bk:Str:=⟨#[32]⟩
abbrev lf:Str:=⟨#[10]⟩
def a0d(x y:Str):(x++y).length=x.length+y.length:=by
 show(x++y).cps.size=_;rw[Str.cps_append,Array.size_append];rfl
def a2w{c B:Nat}:∀{ys:qA Str},(∀y∈ys,y.length<=B)->(Str.join ⟨#[c]⟩ ys).length<=ys.length*(B+1)
 |[],_=>br _
 |[x],h=>by
  have:=h x ao;show x.length<=1*(B+1);omega
 |x::y::r,h=>by
  have h1:=h x ao;have h2:=a2w (c:=c) (ys:=y::r) λz a=>h z (ar _ a);show(x++⟨#[c]⟩++Str.join ⟨#[c]⟩ (y::r)).length<=_;rw[a0d,a0d,show(⟨#[c]⟩:Str).length=1 from rfl,aY,Nat.succ_mul];omega
def Z4(h:0<=x/\x<10 ^ 60):(E5 x).length<=60:=(b4g (by decide)).mpr (by omega)
def a9L{c:Nat}(a:c<48):c∉(E5 x).cps.toList:=λh=>by
 have:=a3D x.toNat c h;omega
def vt(xs:qI):Str:=Str.join bk (xs.map E5)
def ln(w:Str)(xs:qI):Str:=Str.join bk (w::xs.map E5)
def b1O(h:Sz xs)(a:xs.length<=8):(vt xs).length<=488:=by
 have:=a2w (c:=32) (B:=60) (ys:=xs.map E5) (λy d=>by obtain⟨x,b,rfl⟩:=aT.mp d;exact Z4 (h x b));rw[ag]at this;exact a_ this (show xs.length*61<=8*61 from Nat.mul_le_mul a (ak _))
def b7p(h:1<=xs.length):ln w xs=w++bk++vt xs:=by
 cases xs with
 |nil=>exact absurd h (by decide)
 |cons x r=>rfl
def a8k(hw:w.length<=60)(h:Sz xs)(b:xs.length<=8):(ln w xs).length<=549:=by
 have:=a2w (c:=32) (B:=60) (ys:=w::xs.map E5) (λy a=>by
  rcases az.mp a with rfl|a
  .exact hw
  .obtain⟨x,hx,rfl⟩:=aT.mp a;exact Z4 (h x hx))
 rw[aY,ag]at this;exact a_ this (show(xs.length+1)*61<=9*61 from Nat.mul_le_mul (by omega) (ak _))
def a6Y{c d:Nat}:∀{ys:qA Str},d≠c->(∀y∈ys,d∉y.cps.toList)->d∉(Str.join ⟨#[c]⟩ ys).cps.toList
 |[],_,_=>λh=>nomatch h
 |[x],_,h=>h x ao
 |x::y::r,hd,h=>λa=>by
  rw[Y5]at a;rcases ay.mp a with q|q
  .exact h x ao q
  .rcases az.mp q with q|q
   .exact hd q
   .exact a6Y (c:=c) hd (λz b=>h z (ar _ b)) q
abbrev wL:Str:=⟨#[108,101,97,115,116]⟩
abbrev wS:Str:=⟨#[115,116,101,112]⟩
def lns(A B:LLI):qA Str:=A.map (ln wL)++B.map (ln wS)
def pt(A B:LLI):Str:=Str.join lf (lns A B)
def Vw(n:Nat)(A:LLI):Prop:=∀r∈A,r.length=n/\Sz r
def b3C(hw:32∉w.cps.toList):PySem.Txt.split (ln w xs) bk=w::xs.map E5:=by
 refine a2J (by simp) λa b=>?_;rcases az.mp b with rfl|b
 .exact hw
 .obtain⟨x,_,rfl⟩:=aT.mp b;exact a9L (by decide)
def b7n(hw:10∉w.cps.toList):10∉(ln w xs).cps.toList:=by
 refine a6Y (by decide) λy a=>?_;rcases az.mp a with rfl|a
 .exact hw
 .obtain⟨x,_,rfl⟩:=aT.mp a;exact a9L (by decide)
def a5H(a:Vw n A)(b:Vw n B)(c:n<=8):∀y∈lns A B,y.length<=549:=λy d=>by
 rcases ay.mp d with q|q
 .obtain⟨r,hr,rfl⟩:=aT.mp q;exact a8k (by decide) (a r hr).2 (by rw[(a r hr).1];exact c)
 .obtain⟨r,hr,rfl⟩:=aT.mp q;exact a8k (by decide) (b r hr).2 (by rw[(b r hr).1];exact c)
def b8K(A B:LLI):∀y∈lns A B,10∉y.cps.toList:=λy a=>by
 rcases ay.mp a with q|q
 .obtain⟨r,hr,rfl⟩:=aT.mp q;exact b7n (by decide)
 .obtain⟨r,hr,rfl⟩:=aT.mp q;exact b7n (by decide)
def a5z(a:Vw n A)(b:Vw n B)(e:n<=8)(d:A.length+B.length<=400):(pt A B).length<=220000:=by
 have:=a2w (c:=10) (a5H a b e);rw[show(lns A B).length=A.length+B.length by simp[lns]]at this;exact a_ this (show _<=400*550 from Nat.mul_le_mul d (ak _))
def a6K(h:lns A B≠[]):PySem.Txt.split (pt A B) lf=lns A B:=a2J h (b8K A B)
def b7o(hw:0<w.length)(h:1<=xs.length):0<(ln w xs).length:=by
 rw[b7p h,a0d,a0d];omega
def b2L(c:Vw n A)(d:Vw n B)(b:1<=n):(pt A B).length=0↔lns A B=[]:=by
 constructor
 .intro h;have a:∀y∈lns A B,0<y.length:=λy e=>by
   rcases ay.mp e with q|q
   .obtain⟨r,hr,rfl⟩:=aT.mp q;exact b7o (by decide) (by rw[(c r hr).1];exact b)
   .obtain⟨r,hr,rfl⟩:=aT.mp q;exact b7o (by decide) (by rw[(d r hr).1];exact b)
  unfold pt at h
  match hl:lns A B with
  |[]=>rfl
  |[x] =>
   rw[hl]at h a;have:=a x ao;have h':x.length=0:=h;omega
  |x::y::r =>
   rw[hl]at h;have h':(x++lf++Str.join lf (y::r)).length=0:=h;rw[a0d,a0d,show lf.length=1 from rfl]at h';omega
 .intro h;unfold pt;rw[h];rfl
section
variable {α:Type}{src:qA (qJ)}{σ caps:L2.St}{a:qE}{vs:qA V}{as:qA α}{te:TE}
def a4C(f:α->V)(j:vs.length<=sizeLine)(g:vs.length=as.length)(b:∀H',Same H H'->SqL K H' a vs)(c:B1 src σ=none::caps)
  (d:∀(i:Nat) (v:V) (x:α) (H1:Hp) (e:VK),vs[i]?=some v->as[i]?=some x->Same H H1->(∀H2,Same H1 H2->e (f x) H2)->te (some v::caps) H1 e) (hd:∀H1 p,Same H H1->H1 p=none->Q (.ref p) (upd H1 p (.lst (as.map f)))):E3 src (B0 0) I9 te σ Q (Itl K a) H:=by
 refine O8 (xs:=vs) j (λi ys H'=>Same H H'/\ys=(as.take i).map f) ⟨Same.refl H,by simp⟩ (λi ys H' _ h=>⟨b H' h.1,by rw[h.2,ag];exact bt _ _⟩) ?_ ?_
 .rintro i v ys H' hv ⟨s,rfl⟩;have hi:i<as.length:=by rw[<-g];exact(aK.mp hv).1
  show Sub _ ((B1 src σ).set 0 (some v))/\_;rw[c];refine⟨Sub.one,d i v as[i] H' _ hv (aj hi) s λH2 s2=>⟨s.trans s2,?_⟩⟩;rw[bf,aj hi,bL];rfl
 .rintro ys H' ⟨s,rfl⟩ p hp;rw[bo (by omega)];exact hd H' p s hp
def a6l(f:α->V)(j:vs.length<=sizeLine)(g:vs.length=as.length)(b:∀H',Same H H'->SqT K H' a vs)(c:B1 src σ=none::caps)
  (d:∀(i:Nat) (v:V) (x:α) (H1:Hp) (e:VK),vs[i]?=some v->as[i]?=some x->Same H H1->(∀H2,Same H1 H2->e (f x) H2)->te (some v::caps) H1 e) (hd:∀H1 p,Same H H1->H1 p=none->Q (.ref p) (upd H1 p (.lst (as.map f)))):E3 src (B0 0) I9 te σ Q (Itt K a) H:=by
 refine U5 (xs:=vs) j (λi ys H'=>Same H H'/\ys=(as.take i).map f) ⟨Same.refl H,by simp⟩ (λi ys H' _ h=>⟨b H' h.1,by rw[h.2,ag];exact bt _ _⟩) ?_ ?_
 .rintro i v ys H' hv ⟨s,rfl⟩;have hi:i<as.length:=by rw[<-g];exact(aK.mp hv).1
  show Sub _ ((B1 src σ).set 0 (some v))/\_;rw[c];refine⟨Sub.one,d i v as[i] H' _ hv (aj hi) s λH2 s2=>⟨s.trans s2,?_⟩⟩;rw[bf,aj hi,bL];rfl
 .rintro ys H' ⟨s,rfl⟩ p hp;rw[bo (by omega)];exact hd H' p s hp
end
section
variable {P:qG}{w:World}{mg:Str->qD qB}{base:Heap}
def b5i(a:0<=x/\x<10 ^ 60)(q:Q (.str (E5 x)) H):b2C [.int x] H Q:=by
 obtain⟨n,rfl⟩:∃n:Nat,x=n:=⟨x.toNat,by omega⟩;exact⟨n,rfl,aO (show n<10 ^ 60 by omega) (by decide +kernel),q⟩
def a5h:Sp:=λvs H Q _=>∃(v:V) (xs:qI),vs=[v]/\IT H v xs/\Sz xs/\xs.length<=8/\∀H',Same H H'->Q (.str (vt xs)) H'
def a2Q:FnScope ["one"] ["one"] (A1 L6):={}
def a3c(F:FunAt K mg "show_vector" L6 ["one"])(T:Tx mg):Ok P w K mg base "show_vector" 1 ["one"] a5h:=by
 refine F.okJ a2Q (λvs H Q E h=>?_) (λe f A c s H vs Q E n h=>?_)
 .obtain⟨v,xs,rfl,_⟩:=h;rfl
 .obtain⟨_,xs,rfl,⟨a,rfl,ha⟩,hx,hl,k⟩:=h;have o:(3000:Nat)<=sizeLine:=by rw[aX];decide
  refine⟨_,(A4 (A9 (a5K K P9 (jaC (B9 (N:=["number"]) (src:=[none]) (K1 K (jv 0)) (by show B8 _ _=true;rfl) (by rfl) (by rfl)
 (λ_ _ _ _ _=>(A8 (i:=0) (L2.nd ["number"]) rfl (Or.inl rfl))) (λ_ _ _ _ _=>C2) (λ_ _ _ _ _=>(b6p rfl T.b_str (jaC (jv 0) jaN)))) jaN)))),?_⟩
  have g:(xs.map V.int).length<=8:=by rw[ag];exact hl
  refine⟨rfl,?_⟩;refine⟨_,rfl,a,rfl,⟨_,SqT.of ha⟩,?_⟩;refine a6l (vs:=xs.map V.int) (as:=xs) (caps:=[]) (λx=>V.str (E5 x)) (by omega) (ag ..) (λH' s=>SqT.of (s _ _ ha)) rfl (λi v x H1 m d b s1 q=>?_) λH1 p s1 j=>?_
  .rw[aN,b]at d;cases d;exact⟨_,rfl,b5i (hx x (aA b)) (q _ (Same.refl _))⟩
  .have hB:∀y∈xs.map E5,y.length<=60:=λy l=>by obtain⟨x,b,rfl⟩:=aT.mp l;exact Z4 (hx x b)
   have h2:=b1O hx hl;refine⟨bk,p,xs.map E5,60,rfl,rfl,by rw[cN];exact SqL.of A0,hB,?_,by show(vt xs).length<=_;omega,k _ (s1.upd j)⟩;rw[ag,show bk.length=1 from rfl];omega
def VV2(H:Hp)(v:V)(A:LLI):Prop:=∃a us,v=.ref a/\H a=some (.tup us)/\Its H us A
def a9k:Sp:=λvs H Q _=>∃(u v:V) (A B:LLI) (n:Nat),vs=[u,v]/\VV2 H u A/\VV2 H v B/\Vw n A/\Vw n B/\1<=n/\n<=8/\A.length+B.length<=400/\∀H',Same H H'->Q (.str (pt A B)) H'
def sc_show_paper:FnScope ["told","paper","lines"] ["told","paper"] (A1 N3):={}
def a2P{te:TE}{σ caps:L2.St}{src:qA (qJ)}{a:qE}{w1 w2:Str}(hw:w1=w2++bk)(o:w1.length<=60)(k:H a=some (.tup us))(e:Its H us A)(j:Vw n A)(h1:1<=n)(u:n<=8)(w:A.length<=400)(b:B1 src σ=none::caps)
  (f:∀v H1 (c:VK) (x:Str),(∀(d:VK),(∀H',Same H1 H'->d (.str x) H')->a1O a5h [] E0 (a0z (P0 0) U0) (some v::caps) H1 d)->x.length<=488->(∀H2,Same H1 H2->c (.str (w1++x)) H2)->te (some v::caps) H1 c)
  (hd:∀H1 p,Same H H1->H1 p=none->Q (.ref p) (upd H1 p (.lst ((A.map (ln w2)).map V.str)))):E3 src (B0 0) I9 te σ Q (Itt K a) H:=by
 have y:(3000:Nat)<=sizeLine:=by rw[aX];decide
 refine a6l (vs:=us) (as:=A) (caps:=caps) (λr=>V.str (ln w2 r)) (by rw[e.1];omega) e.1 (λH' s=>SqT.of (s _ _ k)) b (λi v r H1 c m g s1 q=>?_) λH1 p s1 l=>?_
 .obtain⟨r',hr',hv'⟩:=e.2 i v m;rw[g]at hr';cases hr';obtain⟨z,h⟩:=j r (aA g);refine f v H1 c (vt r) (λd t=>⟨_,rfl,v,r,rfl,hv'.same s1,h,by omega,t⟩) (b1O h (by omega)) λH2 s2=>?_;rw[hw,<-b7p (by omega)];exact q H2 s2
 .have:=hd H1 p s1 l;rw[cN]at this;exact this
def a3V(F:FunAt K mg "show_paper" N3 ["told","paper"])(T:Tx mg)(c:Ok P w K mg base "show_vector" 1 ["one"] a5h):Ok P w K mg base "show_paper" 2 ["told","paper"] a9k:=by
 refine F.okJ sc_show_paper (λvs H Q E h=>?_) (λz f A m s H vs Q E r h=>?_)
 .obtain⟨u,v,A,B,n,rfl,_⟩:=h;rfl
 .obtain⟨_,_,A',B,n,rfl,⟨a,us,rfl,ha,hA⟩,⟨b,ws,rfl,hb,hB⟩,wA,wB,n1,n8,hl,k⟩:=h;have M:(300000:Nat)<=sizeLine:=by rw[aX];decide
  refine⟨_,(A3 (B2 (i:=2) sc_show_paper.nd rfl (Or.inl rfl) (a7k (B9 (N:=["one"]) (src:=[none]) (K1 K (jv 0)) (by show B8 _ _=true;rfl) (by rfl) (by rfl)
 (λ_ _ _ _ _=>(A8 (i:=0) (L2.nd ["one"]) rfl (Or.inl rfl))) (λ_ _ _ _ _=>C2) (λ_ _ _ _ _=>(a7l P9 (A7 c (r.mono (by omega)) rfl (jaC (jv 0) jaN))))) (B9 (N:=["one"]) (src:=[none]) (K1 K (jv 1)) (by show B8 _ _=true;rfl) (by rfl) (by rfl)
 (λ_ _ _ _ _=>(A8 (i:=0) (L2.nd ["one"]) rfl (Or.inl rfl))) (λ_ _ _ _ _=>C2) (λ_ _ _ _ _=>(a7l P9 (A7 c (r.mono (by omega)) rfl (jaC (jv 0) jaN)))))))
 (A4 (A9 (a5K K P9 (jaC (jv 2) jaN))))),?_⟩
  refine⟨_,rfl,a,rfl,⟨_,SqT.of ha⟩,?_⟩;refine a2P (w1:=wL++bk) (w2:=wL) rfl (by decide) ha hA wA n1 n8 (by omega) rfl (λv H1 y x j l q=>?_) λH1 p1 s1 d=>?_
  .exact j _ λH' s'=>⟨_,x,rfl,rfl,by show 6+_<=_;omega,q H' s'⟩
  have s2:=s1.upd (o:=.lst ((A'.map (ln wL)).map V.str)) d;have p:upd H1 p1 (.lst ((A'.map (ln wL)).map V.str)) p1=some (.lst ((A'.map (ln wL)).map V.str)):=A0;generalize upd H1 p1 (.lst ((A'.map (ln wL)).map V.str))=H2 at s2 p;refine⟨_,rfl,b,rfl,⟨_,SqT.of (s2 _ _ hb)⟩,?_⟩;refine a2P (w1:=wS++bk) (w2:=wS) rfl (by decide) (s2 _ _ hb) (hB.same s2) wB n1 n8 (by omega) rfl (λv H1 y x j l q=>?_) λJ C G e=>?_
  .exact j _ λH' s'=>⟨_,x,rfl,rfl,by show 5+_<=_;omega,q H' s'⟩
  have t:=G.upd (o:=.lst ((B.map (ln wS)).map V.str)) e;refine⟨p1,C,_,_,rfl,rfl,t _ _ p,A0,by simp only[ag];omega,λD g=>?_⟩;have I:=(s2.trans t).upd (o:=.lst ((A'.map (ln wL)).map V.str++(B.map (ln wS)).map V.str)) g;have L:=a5z wA wB n8 (by omega);refine⟨rfl,_,rfl,lf,D,lns A' B,549,rfl,rfl,SqL.of (by rw[A0,lns,bL]),a5H wA wB n8,?_,by show(pt A' B).length<=_;omega,k _ I⟩;rw[show(lns A' B).length=A'.length+B.length by simp[lns],show lf.length=1 from rfl];omega
abbrev fgs:Str:=Str.ofString "0123456789"
def b6E(c:Nat):c∈fgs.cps.toList↔48<=c/\c<=57:=by
 have e:fgs.cps.toList=[48,49,50,51,52,53,54,55,56,57]:=by with_unfolding_all rfl
 rw[e];simp only[az,bu,cx];omega
def a7o(x:Int):∀c∈(E5 x).cps.toList,48<=c/\c<=57:=λc a=>by
 have:=a3D x.toNat c a;omega
def a8A(x:Int):(E5 x).cps.all (· < 128)=true:=by
 rw[Array.all_eq_true'];intro c a;have:=a7o x c (by simpa using a);exact aU (by omega)
def b6Z:Sp:=λvs H Q _=>∃x:Int,vs=[.str (E5 x)]/\(0<=x/\x<10 ^ 60)/\∀H',Same H H'->Q (.bl true) H'
def a3R:FnScope ["word"] ["word"] (A1 N6):={}
def b1h(f:0<=x):E5 x=Str.ofString "0"∨(E5 x≠Str.ofString "" /\ ∃c,c≠48/\atI (E5 x).cps.toList 0=some c):=by
 by_cases d:x.toNat=0
 .exact .inl (by unfold E5;rw[d];exact b1f)
 .refine .inr ⟨λe=>a5R x.toNat (by rw[show a1e x.toNat=E5 x from rfl,e];rfl),?_⟩;have a:=b1g x.toNat (by omega);have b:=a5R x.toNat;rw[show a1e x.toNat=E5 x from rfl]at a b;cases e:(E5 x).cps.toList with
  |nil=>exact absurd e b
  |cons c r =>
   rw[e]at a;exact⟨c,λz=>a (by rw[z];rfl),a0u (j:=0) rfl⟩
def dq0{c:Nat}(h:c≠48):(!decide (V.str ⟨#[c]⟩=V.str (Str.ofString "0")))=true:=by
 rw[bg λz=>?_]
 .rfl
 .injection z with z
  have a:[c]=[48]:=aL (λt:Str=>t.cps.toList) z;injection a with a
  exact h a
def a3Y{j:Tok}(F:FunAt K mg "is_written" N6 ["word"])(T:Tx mg)(a:mg "FIGURES"=some (.str fgs j)):Ok P w K mg base "is_written" 1 ["word"] b6Z:=by
 refine F.okJ a3R (λvs H Q E h=>?_) (λd f A b s H vs Q E r h=>?_)
 .obtain⟨x,rfl,_⟩:=h;rfl
 .obtain⟨x,rfl,hx,k⟩:=h;have t:(3000:Nat)<=sizeLine:=by rw[aX];decide
  have q:=Z4 hx;refine⟨_,(A3 (C6 (E9 (C1 K (L4 K rfl T.b_all (jaC (B9 (N:=["sign"]) (src:=[none]) (b6n (jv 0)) (by show B8 _ _=true;rfl) (by rfl) (by rfl)
 (λ_ _ _ _ _=>(A8 (i:=0) (L2.nd ["sign"]) rfl (Or.inl rfl))) (λ_ _ _ _ _=>C2) (λ_ _ _ _ _=>(b8T (jv 0) (b8Z (v:=.str (Str.ofString "0123456789")) rfl a ⟨_,rfl⟩) (by with_unfolding_all rfl)))) jaN))))
 (A4 (A9 K3))
 B7)
 (A4 (A9 (b8X (a1a (jv 0) P9) (W5 (W6 (b7q (jv 0) P9) (W5 (b7q (c0a (jv 0) A6) P9)))))))),?_⟩
  refine⟨_,rfl,_,rfl,a8A x,?_⟩;refine b1p (x:=E5 x) (by show(E5 x).length<=_;omega) (λi ys H'=>H'=H/\ys=List.replicate i (.bl true)) ⟨rfl,rfl⟩ (λi ys H' h=>by rw[h.2,ed];exact ak _) ?_ ?_
  .rintro i c ys H' hc ⟨rfl,rfl⟩;refine⟨Sub.one,?_⟩;refine⟨_,rfl,c,fgs,rfl,rfl,rfl,?_⟩;have g:c∈(E5 x).cps.toList:=by
    rw[<-av]at hc;exact aA hc
   rw[List.replicate_succ',aU ((b6E c).mpr (a7o x c g))]
  .rintro ys H' ⟨rfl,rfl⟩ p hp;have s1:=(Same.refl H').upd (o:=.lst (List.replicate (E5 x).cps.size (V.bl true))) hp;refine⟨false,p,_,rfl,SqL.of A0,by simp[a3B],?_⟩;rw[show(List.replicate (E5 x).cps.size (V.bl true)).all trV=true by simp[trV]];refine⟨_,rfl,C3 ?_⟩;refine⟨_,rfl,rfl,_,rfl,a3v (λe=>k _ s1) (λe=>?_)⟩;rcases b1h hx.1 with z|⟨l,c,m,n⟩
   .exact absurd (aU (by rw[z])) e
   refine⟨_,rfl,rfl,_,rfl,?_⟩;rw[bg (λy=>l (by injection y))];refine E1 ⟨_,rfl,_,0,c,rfl,rfl,by omega,n,rfl,?_⟩;rw[dq0 m];exact k _ s1
def b9H:Sp:=λvs H Q _=>∃x:Int,vs=[.str (E5 x),.int 60]/\(0<=x/\x<10 ^ 60)/\∀H',Same H H'->Q (.int x) H'
def a1X:FnScope ["word","most"] ["word","most"] (A1 J3):={}
def a2b(F:FunAt K mg "read_figures" J3 ["word","most"])(T:Tx mg)(a:Ok P w K mg base "is_written" 1 ["word"] b6Z):Ok P w K mg base "read_figures" 2 ["word","most"] b9H:=by
 refine F.okJ a1X (λvs H Q E h=>?_) (λc f A b s H vs Q E e h=>?_)
 .obtain⟨x,rfl,_⟩:=h;rfl
 .obtain⟨x,rfl,hx,k⟩:=h;have i:(3000:Nat)<=sizeLine:=by rw[aX];decide
  have g:=Z4 hx;refine⟨_,(A3 (C6 (a0y (a0Z (b7t (b6t rfl T.b_len (jaC (jv 0) jaN)) (jv 1)) (V5 (E9 (C1 K (A7 a (e.mono (by omega)) rfl (jaC (jv 0) jaN)))))))
 (A4 (A9 Y7))
 B7)
 (A4 (A9 (b6u rfl T.b_int (jaC (jv 0) jaN))))),?_⟩
  refine⟨_,rfl,_,rfl,by omega,_,rfl,_,_,rfl,rfl,_,rfl,?_⟩;rw[bg (by omega)];refine C3 ⟨_,rfl,x,rfl,hx,λH1 s1=>⟨_,rfl,C3 ?_⟩⟩;have d:PySem.intText? (E5 x)=some x:=by
   have:=a8z (n:=x.toNat) (by show(E5 x).length<=4300;omega);rw[show((x.toNat:Nat):Int)=x by omega]at this;exact this
  exact⟨_,rfl,_,x,rfl,by omega,d,k H1 s1⟩
def b9G(K:qF):Sp:=λvs H Q _=>∃(p:qE) (xs:qI),vs=[.ref p]/\SqL K H p ((xs.map E5).map V.str)/\Sz xs/\1<=xs.length/\xs.length<=8/\∀v H',IT H' v xs->Same H H'->Q v H'
def sc_read_vector:FnScope ["words","numbers"] ["words"] (A1 L7):={}
def a3d(F:FunAt K mg "read_vector" L7 ["words"])(T:Tx mg)(b:Ok P w K mg base "read_figures" 2 ["word","most"] b9H):Ok P w K mg base "read_vector" 3 ["words"] (b9G K):=by
 refine F.okJ sc_read_vector (λvs H Q E h=>?_) (λj f A e s H vs Q E n h=>?_)
 .obtain⟨p,xs,rfl,_⟩:=h;rfl
 .obtain⟨a,xs,rfl,ha,hx,h1,h8,k⟩:=h;have t:(3000:Nat)<=sizeLine:=by rw[aX];decide
  refine⟨_,(A3 (a2v (i:=1) sc_read_vector.nd rfl (Or.inl rfl) (N:=["word"]) (src:=[none]) (E7 K (jv 0)) (by show B8 _ _=true;rfl) (by rfl) (by rfl)
 (λ_ _ _ _ _=>(A8 (i:=0) (L2.nd ["word"]) rfl (Or.inl rfl))) (λ_ _ _ _ _=>C2) (λ_ _ _ _ _=>(A7 b (n.mono (by omega)) rfl (jaC (jv 0) (jaC A6 jaN)))))
 (A3 (C6 (a0y (a0Z (E9 (b6l A6 (C7 K rfl T.b_len (jaC (jv 1) jaN)) A6)) (V5 (b8V K Y7 (jv 1) (by with_unfolding_all rfl)))))
 (A4 (A9 Y7))
 B7)
 (A4 (A9 (D9 K rfl T.b_tuple (jaC (jv 1) jaN)))))),?_⟩
  refine⟨_,rfl,a,rfl,⟨_,ha⟩,?_⟩;refine a4C (vs:=(xs.map E5).map V.str) (as:=xs) (caps:=[]) V.int (by simp only[ag];omega) (by simp) (λH' s=>s.seq ha) rfl (λi v x H1 r g c s1 q=>?_) λH1 p s1 l=>?_
  .rw[aN,aN,c]at g;cases g;exact⟨_,rfl,x,rfl,hx x (aA c),q⟩
  have s2:=s1.upd (o:=.lst (xs.map V.int)) l;have d:upd H1 p (.lst (xs.map V.int)) p=some (.lst (xs.map V.int)):=A0;generalize upd H1 p (.lst (xs.map V.int))=H2 at s2 d;refine⟨_,rfl,p,_,rfl,.inl (SqL.of d),_,_,rfl,rfl,_,rfl,?_⟩;rw[ag,aU (show(1:Int)<=(xs.length:Int) by omega)];refine E1 ⟨_,_,rfl,rfl,_,rfl,?_⟩;rw[aU (show(xs.length:Int)<=8 by omega)];refine C3 ⟨_,rfl,p,_,rfl,.inl (SqL.of d),rfl,by simp[W8],_,rfl,?_⟩;rw[show inV V.non (xs.map V.int)=false by simp[inV,eqV]];refine C3 ⟨_,rfl,p,_,rfl,.inl ⟨SqL.of d,λq m=>?_⟩⟩;exact k _ _ ⟨q,rfl,A0⟩ (s2.upd m)
end
def sfl(al aw:qE):qA (Str×V):=[("least_ones",.ref al),("walked",.ref aw)]
section
variable (al aw:qE)
def b2o:(sfl al aw).lookup ("least_ones" : Str)=some (.ref al):=by with_unfolding_all rfl
def a9t:(sfl al aw).lookup ("walked" : Str)=some (.ref aw):=by with_unfolding_all rfl
def b2n:(sfl al aw).lookup ("take" : Str)=none:=by with_unfolding_all rfl
def b2p:(sfl al aw).lookup ("fits" : Str)=none:=by with_unfolding_all rfl
def b4Y:G8 "walked" (.ref aw) (G8 "least_ones" (.ref al) [])=sfl al aw:=by with_unfolding_all rfl
end
structure ShTx(K:qF)(C:qE):Prop where
 cl:Cls K C
 n1:NoAttr K C "least_ones"
 n2:NoAttr K C "walked"
structure ShAt(C:qE)(H:Hp)(p al aw:qE)(A B:LLI):Prop where
 ob:∃dx,H p=some (.ins C dx (sfl al aw))
 ha:∃us,H al=some (.lst us)/\Its H us A
 hb:∃us,H aw=some (.lst us)/\Its H us B
 ne:al≠aw
def ShAt.same{C:qE}{H H':Hp}{p al aw:qE}{A B:LLI}(h:ShAt C H p al aw A B)(s:Same H H'):ShAt C H' p al aw A B:=by
 obtain⟨⟨dx,h1⟩,⟨d,a1,a⟩,⟨e,b,c⟩,ne⟩:=h;exact⟨⟨dx,s _ _ h1⟩,⟨d,s _ _ a1,a.same s⟩,⟨e,s _ _ b,c.same s⟩,ne⟩
section
variable {P:qG}{w:World}{mg:Str->qD qB}{base:Heap}{C:qE}
def a9l(C:qE):Sp:=λvs H Q _=>∃(p dx:qE),vs=[.ref p]/\H p=some (.ins C dx [])/\∀(al aw:qE) (H':Hp),H al=none->H aw=none->ShAt C H' p al aw [] []->(∀b o,H b=some o->b≠p->H' b=some o)->Q .non H'
def a0S:FnScope ["self"] ["self"] (A1 G1):={}
def b3m(n:MethAt K C "__init__" "Sheet.__init__" G1 ["self"])(U:ShTx K C):MethOk P w K mg base C "__init__" 1 ["self"] (a9l C):=by
 refine n.fnJ a0S (λvs H Q E h=>?_) (λq f A i s H vs Q E r h=>?_)
 .obtain⟨p,dx,rfl,_⟩:=h;rfl
 .obtain⟨p,dx,rfl,hp,k⟩:=h;refine⟨_,(A3 (P7 K (jv 0) (K6 jaN))
 (A4 (P7 K (jv 0) (K6 jaN)))),?_⟩
  refine⟨br _,λal d=>?_⟩;have j:p≠al:=A5 hp d;refine⟨_,rfl,p,C,dx,_,rfl,by rw[A2 j];exact hp,U.cl,U.n1,by decide,?_⟩;refine⟨br _,λaw g=>?_⟩;have l:p≠aw:=λz=>by subst z;rw[A0]at g;cases g
  have a:=g;rw[A2 l.symm]at a;have c:al≠aw:=A5 (o:=.lst []) A0 a;rw[A2 c.symm]at a;refine⟨_,rfl,p,C,dx,_,rfl,by rw[A2 l];exact A0,U.cl,U.n2,by show(1:Nat)<1000;decide,?_⟩;refine k al aw _ d a ⟨⟨dx,?_⟩,⟨[],?_,.nil⟩,⟨[],?_,.nil⟩,c⟩ λb o e m=>?_
  .rw[A0,b4Y]
  .rw[A2 j.symm,A2 c,A2 j.symm,A0]
  .rw[A2 l.symm,A0]
  .rw[A2 m,A2 (A5 e a),A2 m,A2 (A5 e d)];exact e
def b2h(C:qE):Sp:=λvs H Q _=>∃(p al aw:qE) (v:V) (xs:qI) (A B:LLI),vs=[.ref p,v]/\ShAt C H p al aw A B/\IT H v xs/\(∀r∈A,r.length=xs.length)/\(∀r∈B,r.length=xs.length)/\∀H',Same H H'->Q (.bl true) H'
def b3A{α:Type}(l:qA α)(p:V->Bool)(h:p (.bl true)=true):(l.map λ_=>V.bl true).all p=true:=by
 rw[aH];intro x a;obtain⟨_,_,rfl⟩:=aT.mp a;exact h
def cut_one(xs:qA V):J1 xs none (some (1:Int))=xs.take 1:=by
 unfold J1;rw[show(1:Int)=((1:Nat):Int)from rfl,HT.sIx_none,HT.sIx_nat,cR,Nat.sub_zero];cases xs<;>simp
def a3U:FnScope ["self","one"] ["self","one"] (A1 O1):={}
def b5Z(L:MethAt K C "fits" "Sheet.fits" O1 ["self","one"])(U:ShTx K C)(T:Tx mg):MethOk P w K mg base C "fits" 1 ["self","one"] (b2h C):=by
 refine L.fnJ a3U (λvs H Q E h=>?_) (λX f A F s H vs Q E hr h=>?_)
 .obtain⟨p,al,aw,v,xs,A,B,rfl,_⟩:=h;rfl
 .obtain⟨p,al,aw,_,xs,A',B,rfl,D,⟨a,rfl,ha⟩,wA,wB,k⟩:=h;have hz:(3000:Nat)<=sizeLine:=by rw[aX];decide
  obtain⟨⟨dx,J⟩,⟨c,a1,R⟩,⟨d,S,W⟩,ne⟩:=D;refine⟨_,(A4 (A9 (L4 K rfl T.b_all (jaC (B9 (N:=["other","one"]) (src:=[none,some 1]) (E7 K (a7k (a1b K (F0 K (jv 0)) K0 (J9 A6)) (a1b K (F0 K (jv 0)) K0 (J9 A6)))) (by show B8 _ _=true;rfl) (by rfl) (by rfl)
 (λ_ _ _ _ _=>(A8 (i:=0) (L2.nd ["other","one"]) rfl (Or.inl rfl))) (λ_ _ _ _ _=>C2) (λ_ _ _ _ _=>(a1a (C7 K rfl T.b_len (jaC (jv 1) jaN)) (C7 K rfl T.b_len (jaC (jv 0) jaN))))) jaN)))),?_⟩
  refine⟨_,rfl,p,C,dx,_,_,rfl,J,U.cl,U.n1,b2o _ _,_,rfl,al,c,rfl,SqL.of a1,λp1 t=>?_⟩;rw[cut_one];have s1:=(Same.refl H).upd (o:=.lst (c.take 1)) t;have G:upd H p1 (.lst (c.take 1)) p1=some (.lst (c.take 1)):=A0;generalize upd H p1 (.lst (c.take 1))=H1 at s1 G;refine⟨_,rfl,p,C,dx,_,_,rfl,s1 _ _ J,U.cl,U.n2,a9t _ _,_,rfl,aw,d,rfl,SqL.of (s1 _ _ S),λp2 e=>?_⟩;rw[cut_one];have s2:=s1.upd (o:=.lst (d.take 1)) e;have Y:=O9 (o:=.lst (d.take 1)) G e;have l1:(c.take 1).length<=1:=bt _ _;have l2:(d.take 1).length<=1:=bt _ _;refine⟨p1,p2,_,_,rfl,rfl,Y,A0,by omega,λj u=>?_⟩;have l:=s2.upd (o:=.lst (c.take 1++d.take 1)) u;have n:upd (upd H1 p2 (.lst (d.take 1))) j (.lst (c.take 1++d.take 1)) j=some (.lst (c.take 1++d.take 1)):=A0;generalize upd (upd H1 p2 (.lst (d.take 1))) j (.lst (c.take 1++d.take 1))=M at l n;have I:Its M (c.take 1++d.take 1) (A'.take 1++B.take 1):=((R.take 1).app (W.take 1)).same l;refine⟨j,rfl,⟨_,SqL.of n⟩,?_⟩;have hl:(c.take 1++d.take 1).length<=2:=by rw[au];omega
  refine a4C (vs:=c.take 1++d.take 1) (as:=A'.take 1++B.take 1) (caps:=[some (.ref a)]) (λ_=>V.bl true) (by omega) I.1 (λH' s=>SqL.of (s _ _ n)) rfl (λi v r O Q4 Z g m q=>?_) λO p4 m x=>?_
  .obtain⟨r',hr',b,rfl,hv'⟩:=I.2 i v Z;rw[g]at hr';cases hr';have y:r.length=xs.length:=by
    rcases ay.mp (aA g)with z|z
    .exact wA r (bC z)
    .exact wB r (bC z)
   refine⟨_,rfl,a,_,rfl,.inr (SqT.of (m _ _ (l _ _ ha))),_,rfl,b,_,rfl,.inr (SqT.of (m _ _ hv')),rfl,?_⟩;rw[ag,ag,y,aU rfl];exact q _ (Same.refl _)
  .refine⟨false,p4,_,rfl,SqL.of A0,?_,?_⟩
   .exact b3A _ _ rfl
   .rw[b3A _ trV rfl];exact k _ ((l.trans m).upd x)
def a9i(K:qF)(C:qE):Sp:=λvs H Q _=>∃(p al aw l:qE) (w:Str) (xs:qI) (A B:LLI),vs=[.ref p,.ref l]/\ShAt C H p al aw A B/\SqL K H l ((w::xs.map E5).map V.str)/\Sz xs/\1<=xs.length/\xs.length<=8/\(∀r∈A,r.length=xs.length)/\(∀r∈B,r.length=xs.length)/\A.length+B.length<=400 /\
 ((w=wL/\B=[]/\∀H',ShAt C H' p al aw (A++[xs]) B->Off [al,aw] H H'->Q (.bl true) H')∨(w=wS/\∀H',ShAt C H' p al aw A (B++[xs])->Off [al,aw] H H'->Q (.bl true) H'))
def sc_Sheet_take:FnScope ["self","words","one"] ["self","words"] (A1 O0):={}
def b9k(x:V)(xs:qA V):J1 (x::xs) (some (1:Int)) none=xs:=by
 unfold J1;rw[show(1:Int)=((1:Nat):Int)from rfl,HT.sIx_none,HT.sIx_nat];simp
def b7N{C p al aw:qE}{r:qI}{v:V}(D:ShAt C H p al aw A B)(f:IT H v r)(a:H al=some (.lst us))(e:Its H us A):ShAt C (upd H al (.lst (us++[v]))) p al aw (A++[r]) B:=by
 obtain⟨⟨dx,b⟩,_,⟨g,c,d⟩,ne⟩:=D;exact⟨⟨dx,by rw[A2 (J7 b a (by intro z;cases z))];exact b⟩,⟨_,A0,(e.snoc f).put a⟩,⟨g,by rw[A2 ne.symm];exact c,d.put a⟩,ne⟩
def b4X{C p al aw:qE}{r:qI}{v:V}(D:ShAt C H p al aw A B)(f:IT H v r)(a:H aw=some (.lst us))(e:Its H us B):ShAt C (upd H aw (.lst (us++[v]))) p al aw A (B++[r]):=by
 obtain⟨⟨dx,b⟩,⟨g,c,d⟩,_,ne⟩:=D;exact⟨⟨dx,by rw[A2 (J7 b a (by intro z;cases z))];exact b⟩,⟨g,by rw[A2 ne];exact c,d.put a⟩,⟨_,A0,(e.snoc f).put a⟩,ne⟩
def b3j(X:MethAt K C "take" "Sheet.take" O0 ["self","words"])(U:ShTx K C)(T:Tx mg)(c:Cls K C)(a:Ok P w K mg base "read_vector" 3 ["words"] (b9G K))(b:MethOk P w K mg base C "fits" 1 ["self","one"] (b2h C)):MethOk P w K mg base C "take" 4 ["self","words"] (a9i K C):=by
 refine X.fnJ sc_Sheet_take (λvs H Q E h=>?_) (λY f A M s H vs Q E W h=>?_)
 .obtain⟨p,al,aw,l,w,xs,A,B,rfl,_⟩:=h;rfl
 .obtain⟨p,al,aw,l,w,xs,A',B,rfl,D,hw,hx,h1,h8,wA,wB,hl,k⟩:=h;have hz:(3000:Nat)<=sizeLine:=by rw[aX];decide
  refine⟨_,(A3 (B2 (i:=2) sc_Sheet_take.nd rfl (Or.inl rfl) (A7 a (W.mono (by omega)) rfl (jaC (a1b K (jv 1) (J9 A6) K0) jaN)))
 (A3 (C6 (a0y (a0Z (b3I (jv 2) Y7) (V5 (E9 (C1 K (a8q b c (W.mono (by omega)) (jv 0) (jaC (jv 2) jaN)))))))
 (A4 (A9 K3))
 B7)
 (A3 (C6 (a0y (a0J (a3r (J0 K (jv 1) A6) P9) (V6 (a3r (C7 K rfl T.b_len (jaC (F0 K (jv 0)) jaN)) A6))))
 (A3 (M6 (O7 K (F0 K (jv 0)) (jaC (jv 2) jaN)))
 (A4 (A9 K3)))
 B7)
 (A3 (C6 (a3r (J0 K (jv 1) A6) P9)
 (A3 (M6 (O7 K (F0 K (jv 0)) (jaC (jv 2) jaN)))
 (A4 (A9 K3)))
 B7)
 (A4 (A9 K3)))))),?_⟩
  refine⟨_,rfl,_,rfl,l,_,rfl,hw,λp1 J=>?_⟩;rw[aW,b9k];have s1:=(Same.refl H).upd (o:=.lst ((xs.map E5).map V.str)) J;have S:upd H p1 (.lst ((xs.map E5).map V.str)) p1=some (.lst ((xs.map E5).map V.str)):=A0;generalize upd H p1 (.lst ((xs.map E5).map V.str))=H1 at s1 S;refine⟨p1,xs,rfl,SqL.of S,hx,h1,h8,λv H2 hv s2=>?_⟩;have s2:=s1.trans s2;obtain⟨R,rfl,y⟩:=hv;have G:=D.same s2;obtain⟨⟨dx,Z⟩,⟨us,a1,a2⟩,⟨ws,b1,b2⟩,ne⟩:=id G;refine⟨_,rfl,rfl,_,rfl,?_⟩;rw[bg (by intro z;cases z)];refine C3 ⟨_,rfl,p,dx,_,rfl,Z,b2p _ _,_,rfl,p,al,aw,_,xs,A',B,rfl,G,⟨R,rfl,y⟩,wA,wB,λH3 N=>⟨_,rfl,C3 ?_⟩⟩;have I:=G.same N;have e:=s2.trans N;have g:=N _ _ y;obtain⟨⟨q,r⟩,⟨O,m,u⟩,⟨F,d,n⟩,_⟩:=id I;have x:atI (V.str w::(xs.map E5).map V.str) 0=some (V.str w):=a0u (j:=0) rfl;refine⟨_,rfl,l,_,0,_,rfl,rfl,e.seq hw,x,rfl,_,rfl,?_⟩;rcases k with⟨rfl,rfl,k⟩|⟨rfl,k⟩
  .rw[aU (show V.str wL=V.str (Str.ofString "least") by with_unfolding_all rfl)];have L:F=[]:=ff.mp n.1;subst L;refine E1 ⟨_,rfl,p,C,q,_,_,rfl,r,U.cl,U.n2,a9t _ _,aw,[],rfl,.inl (SqL.of d),rfl,_,rfl,E1 ?_⟩;refine⟨_,rfl,p,C,q,_,_,rfl,r,U.cl,U.n1,b2o _ _,.inl ⟨rfl,_,SqL.of m⟩,_,rfl,al,O,_,rfl,rfl,m,by rw[u.1];omega,?_⟩;exact k _ (b7N I ⟨R,rfl,g⟩ m u) (e.off.set (by simp))
  .rw[bg (show ¬V.str wS=V.str (Str.ofString "least") by intro z;injection z with z;exact absurd (show(4:Nat)=5 from aL (λt:Str=>t.cps.size) z) (by decide))];refine C3 (C3 ⟨_,rfl,l,_,0,_,rfl,rfl,e.seq hw,x,rfl,_,rfl,?_⟩);rw[aU (show V.str wS=V.str (Str.ofString "step") by with_unfolding_all rfl)];refine E1 ⟨_,rfl,p,C,q,_,_,rfl,r,U.cl,U.n2,a9t _ _,.inl ⟨rfl,_,SqL.of d⟩,_,rfl,aw,F,_,rfl,rfl,d,by rw[n.1];omega,?_⟩;exact k _ (b4X I ⟨R,rfl,g⟩ d n) (e.off.set (by simp))
def a4r(K:qF)(C:qE):Sp:=λvs H Q _=>∃(p al aw l:qE) (A B:LLI) (n:Nat),vs=[.ref p,.ref l]/\ShAt C H p al aw [] []/\H l=some (.lst ((lns A B).map V.str))/\l≠al/\l≠aw/\Vw n A/\Vw n B/\1<=n/\n<=8/\A.length+B.length<=400/\∀H',ShAt C H' p al aw A B->Off [al,aw] H H'->Q .non H'
def sc_take_all:FnScope ["draft","lines","number","line"] ["draft","lines"] (A1 U9):={}
def b6g{i:Nat}{x:V}(h:((lns A B).map V.str)[i]?=some x):(∃r,A[i]?=some r/\x=.str (ln wL r)/\i<A.length)∨(∃r,B[i-A.length]?=some r/\x=.str (ln wS r)/\A.length<=i):=by
 rw[aN,lns]at h;rcases fV i A.length with hi|hi
 .rw[bw (by rw[ag];exact hi),aN,aj hi]at h;cases h;exact .inl ⟨_,aj hi,rfl,hi⟩
 .rw[ba (by rw[ag];exact hi),ag,aN]at h;rcases e:B[i-A.length]? with _|r
  .rw[e]at h;cases h
  .rw[e]at h;cases h;exact .inr ⟨r,rfl,rfl,hi⟩
def a6O(F:FunAt K mg "take_all" U9 ["draft","lines"])(T:Tx mg)(m:Cls K C)(j:MethOk P w K mg base C "take" 4 ["self","words"] (a9i K C)):Ok P w K mg base "take_all" 5 ["draft","lines"] (a4r K C):=by
 refine F.okJ sc_take_all (λvs H Q E h=>?_) (λa1 f A a0 s H vs Q E G h=>?_)
 .obtain⟨p,al,aw,l,A,B,n,rfl,_⟩:=h;rfl
 .obtain⟨p,al,aw,l,A',B,n,rfl,D,hL,la,lw,wA,wB,n1,n8,hl,k⟩:=h;have hz:(300000:Nat)<=sizeLine:=by rw[aX];decide
  refine⟨_,(A4 (P6 (b3O K rfl T.b_enumerate (jaC (jv 1) jaN)) (P8 K 2 (B3 (A8 (i:=2) sc_take_all.nd rfl (Or.inl rfl)) (B3 (A8 (i:=3) sc_take_all.nd rfl (Or.inl rfl)) K2)))
 (A4 (C6 (E9 (C1 K (a8q j m (G.mono (by omega)) (jv 0) (jaC (a3s K (jv 3) (jaC P9 jaN)) jaN))))
 (A4 b3L)
 B7)))),?_⟩
  refine⟨_,rfl,false,l,rfl,⟨_,SqL.of hL⟩,?_⟩;refine b1c (K:=K) (k:=false) (a:=l) (xs:=(lns A' B).map V.str) (λi σ H'=>∃Y Z,σ=[some (.ref p),some (.ref l),Y,Z]/\ShAt C H' p al aw (A'.take i) (B.take (i-A'.length))/\Off [al,aw] H H') ⟨_,_,rfl,by simpa using D,Off.refl _ _⟩ (λi σ H' _ ⟨_,_,_,_,o⟩=>SqL.of (o _ _ (by simp[la,lw]) hL)) ?_ ?_
  .rintro i x σ H1 q hx ⟨Y,Z,rfl,D1,off1⟩ hq;have s2:=(Same.refl H1).upd (o:=.tup [V.int (1+i),x]) hq;have O:=D1.same s2;have v:=off1.trans s2.off;have I:upd H1 q (.tup [V.int (1+i),x]) q=some (.tup [V.int (1+i),x]):=A0;generalize upd H1 q (.tup [V.int (1+i),x])=H2 at O v I;refine⟨q,_,rfl,SqT.of I,rfl,_,[x],rfl,x,[],rfl,rfl,?_⟩;dsimp only[B0];have a2:i<A'.length+B.length:=by have:=(aK.mp hx).1;simpa[lns]using this
   obtain⟨⟨dx,hp⟩,_,_,_⟩:=id O;have key:∀(g:Str) (r:qI),x=.str (ln g r)->g.length<=60->32∉g.cps.toList->r.length=n->Sz r->((g=wL/\B.take (i-A'.length)=[]/\A'.take (i+1)=A'.take i++[r]/\B.take (i+1-A'.length)=[])∨(g=wS/\A'.take (i+1)=A'.take i/\B.take (i+1-A'.length)=B.take (i-A'.length)++[r])) ->
     ∃(g:Str) (r:qI),x=.str (ln g r)/\g.length<=60/\32∉g.cps.toList/\r.length=n/\Sz r/\((g=wL/\B.take (i-A'.length)=[]/\A'.take (i+1)=A'.take i++[r]/\B.take (i+1-A'.length)=[])∨(g=wS/\A'.take (i+1)=A'.take i/\B.take (i+1-A'.length)=B.take (i-A'.length)++[r])):=λg r a b c d e f=>⟨g,r,a,b,c,d,e,f⟩
   obtain⟨g,r,rfl,U,S,J,L,z⟩:∃(g:Str) (r:qI),x=.str (ln g r)/\g.length<=60/\32∉g.cps.toList/\r.length=n/\Sz r/\((g=wL/\B.take (i-A'.length)=[]/\A'.take (i+1)=A'.take i++[r]/\B.take (i+1-A'.length)=[])∨(g=wS/\A'.take (i+1)=A'.take i/\B.take (i+1-A'.length)=B.take (i-A'.length)++[r])):=by
    rcases b6g hx with⟨r,G,rfl,hi⟩|⟨r,G,rfl,hi⟩
    .obtain⟨h1,h2⟩:=wA r (aA G);refine key _ r rfl (by decide) (by decide) h1 h2 (.inl ⟨rfl,by rw[show i-A'.length=0 by omega,ek],?_,by rw[show i+1-A'.length=0 by omega,ek]⟩);rw[bf,G];rfl
    .obtain⟨h1,h2⟩:=wB r (aA G);refine key _ r rfl (by decide) (by decide) h1 h2 (.inr ⟨rfl,by rw[bo (by omega),bo (by omega)],?_⟩);rw[show i+1-A'.length=i-A'.length+1 by omega,bf,G];rfl
   have a3:=a8k U L (by omega);refine⟨_,rfl,p,dx,_,rfl,hp,b2n _ _,_,rfl,rfl,_,bk,rfl,rfl,by decide,by omega,λp3 W=>?_⟩;rw[b3C S];have s3:=(Same.refl H2).upd (o:=.lst ((g::r.map E5).map V.str)) W;have D3:=O.same s3;have y:=v.trans s3.off;refine⟨p,al,aw,p3,g,r,_,_,rfl,D3,SqL.of A0,L,by omega,by omega,λt X=>by rw[J];exact(wA t (bC X)).1,λt X=>by rw[J];exact(wB t (bC X)).1,by rw[aS,aS];omega,?_⟩;rcases z with⟨rfl,N,R,c3⟩|⟨rfl,N,R⟩
   .refine .inl ⟨rfl,N,λH4 M u=>⟨_,rfl,C3 ⟨_,_,rfl,?_,y.trans u⟩⟩⟩;rw[R,c3];rw[N]at M;exact M
   .refine .inr ⟨rfl,λH4 M u=>⟨_,rfl,C3 ⟨_,_,rfl,?_,y.trans u⟩⟩⟩;rw[N,R];exact M
  .rintro σ H1 ⟨Y,Z,rfl,D1,off1⟩;rw[show((lns A' B).map V.str).length=A'.length+B.length by simp[lns],bo (by omega),bo (by omega)]at D1;exact k _ D1 off1
def a5i:Sp:=λvs H Q _=>∃(A B:LLI) (n:Nat),vs=[.str (pt A B)]/\Vw n A/\Vw n B/\1<=n/\n<=8/\A.length+B.length<=400/\∀q u v H',H' q=some (.tup [u,v])->VV2 H' u A->VV2 H' v B->Same H H'->Q (.ref q) H'
def sc_read_paper:FnScope ["text","sheet"] ["text"] (A1 N4):={}
def a3W(F:FunAt K mg "read_paper" N4 ["text"])(T:Tx mg)(U:ShTx K C)(c:MakeOk P w K mg base "Sheet" C 1 ["self"] (a9l C))(a:Ok P w K mg base "take_all" 5 ["draft","lines"] (a4r K C)):Ok P w K mg base "read_paper" 6 ["text"] a5i:=by
 refine F.okJ sc_read_paper (λvs H Q E h=>?_) (λa0 f A Z s H vs Q E hr h=>?_)
 .obtain⟨A,B,n,rfl,_⟩:=h;rfl
 .obtain⟨A',B,n,rfl,wA,wB,n1,n8,hl,k⟩:=h;have hz:(300000:Nat)<=sizeLine:=by rw[aX];decide
  refine⟨_,(A3 (B2 (i:=1) sc_read_paper.nd rfl (Or.inl rfl) (b6v c (hr.mono (by omega)) rfl))
 (A3 (C6 (a9E (jv 0) P9)
 (A4 (M6 (A7 a (hr.mono (by omega)) rfl (jaC (jv 1) (jaC (a3s K (jv 0) (jaC P9 jaN)) jaN)))))
 B7)
 (A4 (A9 (W4 (jaC (D9 K rfl T.b_tuple (jaC (F0 K (jv 1)) jaN)) (jaC (D9 K rfl T.b_tuple (jaC (F0 K (jv 1)) jaN)) jaN))))))),?_⟩
  refine λx dx hx R S=>?_;have Y:upd H dx (.own x) x=none:=by rw[A2 S.symm];exact hx
  have s0:Same H (upd (upd H dx (.own x)) x (.ins C dx [])):=((Same.refl H).upd R).upd Y;refine⟨x,dx,rfl,A0,λal aw H1 N O G kp=>⟨rfl,?_⟩⟩;have r:H al=none:=s0.free N;have t:H aw=none:=s0.free O;have s1:Same H H1:=λb o e=>kp b o (s0 b o e) (A5 e hx);dsimp only[B0];refine a0g (λσ H'=>σ=[some (.str (pt A' B)),some (.ref x)]/\ShAt C H' x al aw A' B/\Same H H') ?fin λfin=>?_
  case fin =>
   rintro σ H2 ⟨rfl,D2,s2⟩;obtain⟨⟨p,u⟩,⟨l,a1,a2⟩,⟨m,J,b2⟩,_⟩:=id D2;refine⟨_,rfl,x,C,p,_,_,rfl,u,U.cl,U.n1,b2o _ _,al,l,rfl,.inl ⟨SqL.of a1,λy W=>?_⟩⟩;have g:=(Same.refl H2).upd (o:=.tup l) W;have e3:upd H2 y (.tup l) y=some (.tup l):=A0;generalize upd H2 y (.tup l)=I at g e3;refine⟨_,rfl,x,C,p,_,_,rfl,g _ _ u,U.cl,U.n2,a9t _ _,aw,m,rfl,.inl ⟨SqL.of (g _ _ J),λD X=>?_⟩⟩;have s4:=(Same.refl I).upd (o:=.tup m) X;have e4:upd I D (.tup m) D=some (.tup m):=A0;generalize upd I D (.tup m)=H4 at s4 e4;refine⟨by show 2<=sizeLine;omega,λq hq=>?_⟩;have s5:=(Same.refl H4).upd (o:=.tup [.ref y,.ref D]) hq;have j:=(g.trans s4).trans s5;exact k q _ _ _ A0 ⟨y,l,rfl,s5 _ _ (s4 _ _ e3),a2.same j⟩ ⟨D,m,rfl,s5 _ _ e4,b2.same j⟩ (s2.trans j)
  have he:=b2L wA wB n1;refine⟨_,rfl,rfl,_,rfl,a3v (λe=>?_) (λe=>?_)⟩
  .have hne':lns A' B≠[]:=λz=>by
    have h0:=he.mpr z;rw[show pt A' B=Str.ofString "" from Str.ext' (Array.eq_empty_of_size_eq_zero h0),aU rfl]at e;cases e
   have hp:=a5z wA wB n8 hl;refine⟨_,rfl,_,rfl,rfl,_,lf,rfl,rfl,by decide,by omega,λp3 d=>?_⟩;rw[a6K hne'];have g:=(Same.refl H1).upd (o:=.lst ((lns A' B).map V.str)) d;obtain⟨_,⟨l,a1,_⟩,⟨m,J,_⟩,_⟩:=id G;refine⟨x,al,aw,p3,A',B,n,rfl,G.same g,A0,(A5 a1 d).symm,(A5 J d).symm,wA,wB,n1,n8,hl,λH4 D4 v=>?_⟩;refine fin _ _ ⟨rfl,D4,λb o e=>v b o ?_ (g _ _ (s1 _ _ e))⟩;simp only[az,bu,cx,not_or];exact⟨A5 e r,A5 e t⟩
  .have hL:lns A' B=[]:=he.mp (by
    have e':decide (V.str (pt A' B)=V.str (Str.ofString ""))=true:=by simpa using e
    injection bE e' with e2
    rw[e2];rfl)
   have L:A'=[]:=by
    have:=aL List.length hL;simp[lns]at this;exact this.1
   have M:B=[]:=by
    have:=aL List.length hL;simp[lns]at this;exact this.2
   subst L M;exact fin _ _ ⟨rfl,G,s1⟩
end
end K55
namespace K55
open PySem PySem.Spec PyProof.Rows L2
variable {H:Hp}
def Tk(H H':Hp):Prop:=∀c xs,H c=some (HO.tup xs)->H' c=some (.tup xs)
def Tk.pot{H':Hp}{a b:qE}{n:Nat}(d:PotAt H a b n)(o:Off [a,b] H H'):Tk H H':=λc xs e=>o c _ (b2S d e) e
def Tk.it{H':Hp}(h:Tk H H'){v:V}{r:qI}(g:IT H v r):IT H' v r:=let ⟨a,e,q⟩:=g;⟨a,e,h _ _ q⟩
def Tk.its{H':Hp}(h:Tk H H'){vs:qA V}{rss:LLI}(g:Its H vs rss):Its H' vs rss:=⟨g.1,λi v e=>let ⟨r,e1,e2⟩:=g.2 i v e;⟨r,e1,h.it e2⟩⟩
def SD(H:Hp):Nat->V->V->Prop
 |0,_,_=>False
 |n+1,x,y=>(∃i,x=.int i/\y=.int i)∨∃a b xs ys,x=.ref a/\y=.ref b/\H a=some (.tup xs)/\H b=some (.tup ys)/\xs.length=ys.length/\xs.length<=1000/\∀(i:Nat) x' y',xs[i]?=some x'->ys[i]?=some y'->SD H n x' y'
def SD.same{H H':Hp}(s:Same H H'):∀{n:Nat}{x y:V},SD H n x y->SD H' n x y
 |0,_,_,h=>h
 |n+1,x,y,h=>by
  rcases h with h|⟨a,b,xs,ys,h1,h2,d,f,g,j,k⟩
  .exact .inl h
  .exact .inr ⟨a,b,xs,ys,h1,h2,s _ _ d,s _ _ f,g,j,λi l m e c=>SD.same s (k i l m e c)⟩
def SD.ints{x y:V}{ns:qI}(h:IT H x ns)(j:IT H y ns)(g:ns.length<=1000):SD H 2 x y:=by
 obtain⟨a,rfl,d⟩:=h;obtain⟨b,rfl,f⟩:=j;refine .inr ⟨a,b,_,_,rfl,rfl,d,f,rfl,by rw[ag];exact g,λi k l e c=>?_⟩;rw[e]at c;cases c;obtain⟨z,_,rfl⟩:=S7 e;exact .inl ⟨z,rfl,rfl⟩
section
variable {P:qG}{w:World}{K:qF}{mg:Str->qD qB}{base:Heap}
inductive IspSame(n:Nat)(vs:qA V)(H:Hp)(Q:VK)(E:XK):Prop
 |mk (x:_) (y:_) (_:vs=[x,y]) (_:SD H n x y) (_:∀H',Same H H'->Q (.bl true) H'):IspSame n vs H Q E
def b2b(n:Nat):Sp:=λvs H Q E=>IspSame n vs H Q E
def b5T{x:Str}{st:Stmt}{ps:qA Str}{k:Nat}(F:FunAt K mg x st ps):Ok P w K mg base x k ps (λ_ _ _ _=>False):=by
 obtain⟨f,fd,h1,h2,a⟩:=F.ex;exact⟨f,fd,h1,h2.kp,a,⟨λ_ _ _ _ z=>z.elim,λ_ _ _ _ _ _ _ _ _ _ _ _ _ z=>z.elim⟩⟩
def a5t:FnScope ["_law_found_here","_law_due"] ["_law_found_here","_law_due"] (A1 R7):={}
def a9A(F:FunAt K mg "_law_same" R7 ["_law_found_here","_law_due"])(T:Tx mg):∀n:Nat,Ok P w K mg base "_law_same" (n+1) ["_law_found_here","_law_due"] (b2b n)
 |0=>(b5T F).imp λvs H Q E ⟨_,_,_,z,_⟩=>z
 |n+1=>by
  have c:=a9A F T n;refine F.okJ a5t (λvs H Q E h=>?_) (λm f A k s H vs Q E q h=>?_)
  .obtain⟨x,y,rfl,_⟩:=h;rfl
  .obtain⟨x,y,rfl,hS,kk⟩:=h;refine⟨_,(A3 (C6 (C1 K (C5 K rfl T.b_isinstance (jaC (jv 1) (jaC (V7 (v:=.ty "tuple") rfl T.b_tuple Z8 rfl) jaN))))
 (A3 (C6 (a0y (a0Z (E9 (C1 K (C5 K rfl T.b_isinstance (jaC (jv 0) (jaC (V7 (v:=.ty "tuple") rfl T.b_tuple Z8 rfl) jaN))))) (V5 (a9E (C7 K rfl T.b_len (jaC (jv 0) jaN)) (C7 K rfl T.b_len (jaC (jv 1) jaN))))))
 (A4 (A9 K3))
 B7)
 (A4 (A9 (L4 K rfl T.b_all (jaC (B9 (N:=["_law_x","_law_y"]) (src:=[none,none]) (a1y K rfl T.b_zip (jaC (jv 0) (jaC (jv 1) jaN))) (by show B8 _ _=true;rfl) (by rfl) (by rfl)
 (λ_ _ _ _ _=>(P8 K 2 (B3 (A8 (i:=0) (L2.nd ["_law_x","_law_y"]) rfl (Or.inl rfl)) (B3 (A8 (i:=1) (L2.nd ["_law_x","_law_y"]) rfl (Or.inl rfl)) K2)))) (λ_ _ _ _ _=>C2) (λ_ _ _ _ _=>(A7 c (q.mono (by omega)) rfl (jaC (jv 0) (jaC (jv 1) jaN))))) jaN)))))
 B7)
 (A4 (A9 (W6 (C5 K rfl T.b_isinstance (jaC (jv 0) (jaC (V7 (v:=.ty "int") rfl T.b_int a5Z rfl) jaN))) (W6 (b7w (C5 K rfl T.b_isinstance (jaC (jv 0) (jaC (V7 (v:=.ty "bool") rfl T.b_bool a9V rfl) jaN)))) (W5 (a1a (jv 0) (jv 1)))))))),?_⟩
   rcases hS with⟨i,rfl,rfl⟩|⟨a,b,xs,ys,rfl,rfl,d,g,o,l,hi⟩
   .refine⟨_,rfl,_,_,_,false,rfl,.int i,rfl,_,rfl,C3 ?_⟩;refine⟨_,rfl,_,_,_,true,rfl,.int i,rfl,_,rfl,E1 ?_⟩;refine⟨_,rfl,_,_,_,false,rfl,.int i,rfl,_,rfl,_,rfl,E1 ?_⟩;refine⟨_,rfl,_,rfl,rfl,?_⟩;rw[show decide (V.int i=V.int i)=true from aU rfl];exact kk H (Same.refl H)
   .refine⟨_,rfl,_,_,_,true,rfl,.tup g,rfl,_,rfl,E1 ?_⟩;refine⟨_,rfl,_,_,_,true,rfl,.tup d,rfl,_,rfl,C3 ?_⟩;refine⟨_,rfl,_,_,rfl,.inr (SqT.of d),_,rfl,_,_,rfl,.inr (SqT.of g),rfl,_,rfl,?_⟩;rw[show decide (V.int (xs.length:Int)=V.int (ys.length:Int))=true from aU (by rw[o])];refine C3 ?_;refine⟨_,rfl,_,rfl,true,true,a,b,rfl,⟨_,SqT.of d⟩,⟨_,SqT.of g⟩,?_⟩;have u:(1000:Nat)<=sizeLine:=by rw[aX];decide
    refine Z7 (K:=K) (k1:=true) (k2:=true) (a:=a) (b:=b) (xs:=xs) (zs:=ys) (by omega) (λi zs H'=>Same H H'/\zs=List.replicate i (.bl true)) ⟨Same.refl H,rfl⟩
     (λi zs H' _ _ h=>⟨SqT.of (h.1 _ _ d),SqT.of (h.1 _ _ g),by rw[h.2,ed];exact ak _⟩) ?_ ?_
    .rintro i x z zs H' p hx hy ⟨s',rfl⟩ hp;have s2:Same H (upd H' p (.tup [x,z])):=s'.upd hp;refine⟨p,[x,z],rfl,SqT.of A0,rfl,x,[z],rfl,z,[],rfl,rfl,⟨rfl,λj v e=>?_⟩,?_⟩
     .match j,e with
      |0,e=>cases e
      |1,e=>cases e
     .refine⟨_,rfl,_,rfl,x,z,rfl,(hi i x z hx hy).same s2,λt r=>⟨s2.trans r,?_⟩⟩;rw[List.replicate_succ']
    .rintro zs H' ⟨s',rfl⟩ p hp;refine⟨false,p,_,rfl,SqL.of A0,?_,?_⟩
     .simp[a3B]
     .rw[show(List.replicate (min xs.length ys.length) (V.bl true)).all trV=true by simp[trV]];exact kk _ (s'.upd hp)
end
def SD.vecs{x y:V}{A:LLI}(n:VV2 H x A)(o:VV2 H y A)(l:A.length<=1000)(m:∀r∈A,r.length<=1000):SD H 3 x y:=by
 obtain⟨a,p,rfl,j,c⟩:=n;obtain⟨b,q,rfl,k,f⟩:=o;refine .inr ⟨a,b,p,q,rfl,rfl,j,k,by rw[c.1,f.1],by rw[c.1];exact l,λi s t e g=>?_⟩;obtain⟨r,d,h⟩:=c.2 i s e;obtain⟨u,f1,f2⟩:=f.2 i t g;rw[d]at f1;cases f1;exact SD.ints h f2 (m r (aA d))
def SD.pair{p q:qE}{x y u v:V}(hp:H p=some (.tup [x,y]))(b:H q=some (.tup [u,v]))(h1:SD H 3 x u)(h2:SD H 3 y v):SD H 4 (.ref p) (.ref q):=by
 refine .inr ⟨p,q,_,_,rfl,rfl,hp,b,rfl,by show 2<=1000;decide,λi c d e a=>?_⟩
 match i,e,a with
 |0,e,a=>cases e;cases a;exact h1
 |1,e,a=>cases e;cases a;exact h2
 |i+2,e,_=>cases e
section
variable {P:qG}{w:World}{K:qF}{mg:Str->qD qB}{base:Heap}
inductive IspLooked(vs:qA V)(H:Hp)(Q:VK)(E:XK):Prop
 |mk (ra ca l:qE) (rss A B:LLI) (cs:qA (qD Int)) (_:vs=[.ref ra,.ref ca,.ref l]) (_:SyAt H ra ca rss cs) (_:cs.length<=8) (_:H l=some (.lst ((lns A B).map V.str))) (_:Vw cs.length A) (_:Vw cs.length B) (_:(∀v∈A++B,Sm v)) (_:A.length+B.length<=400) (_:∀b H',Same H H'->(b=true↔Shw rss cs A B)->Q (.bl b) H'):IspLooked  vs H Q E
def a6v:Sp:=λvs H Q E=>IspLooked  vs H Q E
def sc__law_looked:FnScope ["_law_rows_here","_law_caps_here","_law_lines","_law_told","_law_paper"] ["_law_rows_here","_law_caps_here","_law_lines"] (A1 M2):={}
def b0M(F:FunAt K mg "_law_looked" M2 ["_law_rows_here","_law_caps_here","_law_lines"])(T:Tx mg)(c:Ok P w K mg base "read_paper" 6 ["text"] a5i)(d:Ok P w K mg base "shows" 6 ["rows","caps","told","paper"] a9j):Ok P w K mg base "_law_looked" 7 ["_law_rows_here","_law_caps_here","_law_lines"] a6v:=by
 refine F.okJ sc__law_looked (λvs H Q E h=>?_) (λp f A k s H vs Q E o h=>?_)
 .obtain⟨ra,ca,l,rss,A,B,cs,rfl,_⟩:=h;rfl
 .obtain⟨ra,ca,l,rss,A',B,cs,rfl,Y,n8,hL,wA,wB,hsm,hl,kk⟩:=h;have N:(300000:Nat)<=sizeLine:=by rw[aX];decide
  refine⟨_,(A3 (a5J (A7 c (o.mono (by omega)) rfl (jaC (a5K K P9 (jaC (jv 2) jaN)) jaN)) (P8 K 2 (B3 (A8 (i:=3) sc__law_looked.nd rfl (Or.inl rfl)) (B3 (A8 (i:=4) sc__law_looked.nd rfl (Or.inl rfl)) K2))))
 (A4 (A9 (A7 d (o.mono (by omega)) rfl (jaC (jv 0) (jaC (jv 1) (jaC (jv 3) (jaC (jv 4) jaN)))))))),?_⟩
  have M:=a5z wA wB n8 hl;refine⟨rfl,_,rfl,?_⟩;refine⟨lf,l,lns A' B,549,rfl,rfl,SqL.of hL,a5H wA wB n8,?_,by show(pt A' B).length<=_;omega,?_⟩
  .rw[show(lns A' B).length=A'.length+B.length by simp[lns],show lf.length=1 from rfl];omega
  refine⟨A',B,cs.length,rfl,wA,wB,Y.n1,n8,hl,λq u v H1 z C e s1=>?_⟩;obtain⟨a,D,rfl,x,m⟩:=C;obtain⟨b,G,rfl,y,n⟩:=e;refine⟨q,_,rfl,SqT.of z,rfl,.ref a,[.ref b],rfl,.ref b,[],rfl,rfl,?_⟩;dsimp only[B0];have Y1:=Y.same s1;obtain⟨vs,I,J,L⟩:=Y1.ex;have r:=m.1;have t:=n.1;exact⟨_,rfl,_,rfl,_,rfl,_,rfl,ra,ca,a,b,vs,D,G,rss,A',B,cs,rfl,I,J,L,Y1.hc,Y1.n1,by omega,Y1.hR,x,m,by omega,y,n,by omega,λv e=>⟨by
   rcases ay.mp e with g|g
   .rw[(wA v g).1];omega
   .rw[(wB v g).1];omega,hsm v e⟩,λb' H2 s2 j=>kk b' H2 (s1.trans s2) j⟩
inductive IspTruth2(vs:qA V)(H:Hp)(Q:VK)(E:XK):Prop
 |mk (c:Bool) (_:vs=[.bl c,.bl c]) (_:Q (.bl true) H):IspTruth2  vs H Q E
def a6p:Sp:=λvs H Q E=>IspTruth2  vs H Q E
def a3T:FnScope ["_law_found_here","_law_due"] ["_law_found_here","_law_due"] (A1 N8):={}
def b0I(F:FunAt K mg "_law_truth" N8 ["_law_found_here","_law_due"]):Ok P w K mg base "_law_truth" 1 ["_law_found_here","_law_due"] a6p:=by
 refine F.okJ a3T (λvs H Q E h=>?_) (λb f A a s H vs Q E d h=>?_)
 .obtain⟨c,rfl,_⟩:=h;rfl
 .obtain⟨c,rfl,k⟩:=h;refine⟨_,(A3 (C6 (C1 K (jv 1))
 (A4 (A9 (b3G true (jv 0) K3)))
 B7)
 (A4 (A9 (b3G false (jv 0) K3)))),?_⟩
  cases c with
  |true=>exact⟨_,rfl,true,rfl,E1 ⟨_,rfl,rfl,k⟩⟩
  |false=>exact⟨_,rfl,false,rfl,C3 ⟨_,rfl,rfl,k⟩⟩
end
end K55
namespace K55
open PySem PySem.Spec PyProof.Rows L2
variable {A B:LLI}{H:Hp}{Q:VK}{k:Nat}{l:qE}{zs:qA V}
def b6O{xs:qA V}{v:V}(h:xs[xs.length-1]?=some v):atI xs (-1)=some v:=by
 have a:0<xs.length:=by
  have:=(aK.mp h).1;omega
 unfold atI ixN;rw[aq (by decide),aD (by omega),eJ,show((-1:Int)+(xs.length:Int)).toNat=xs.length-1 by omega];exact h
def SyAt.tk{H':Hp}{a c:qE}{rss:LLI}{cs:qA (qD Int)}(h:SyAt H a c rss cs)(s:Tk H H'):SyAt H' a c rss cs:=by
 obtain⟨⟨g,h1,h2,b⟩,d,e,f,hR⟩:=h;exact⟨⟨g,s _ _ h1,s.its h2,b⟩,s _ _ d,e,f,hR⟩
def a9Z{rss:LLI}{cs:qA (qD Int)}{F W:LLI}(h:Wk rss cs F W [] k)(d:W.length<=150):∀v∈W,v.length=cs.length/\(∀x∈v,0<=x/\x<=1000)/\0<v.sum:=λv b=>by
 obtain⟨e,c,f,g,j,l,m,n⟩:=h.lv;obtain⟨i,o,p,lv⟩:=c v b;refine⟨lv.len,λx a=>⟨lv.nn x a,?_⟩,by rw[lv.sum];omega⟩;have:=b7l lv.nn x a;rw[lv.sum]at this;omega
def b6b{α:Type}{xs:qA α}{t:α}(c:xs.Nodup)(b:xs[k]?=some t)(r:α):r∈xs.take k++xs.drop (k+1)↔r∈xs/\r≠t:=by
 have hd:xs.drop k=t::xs.drop (k+1):=by
  obtain⟨h1,h2⟩:=aK.mp b;rw[cy h1,h2]
 have a:List.Pairwise (·≠·) (xs.take k++xs.drop k):=by rw[bh];exact c
 rw[bB,hd,cD]at a;constructor
 .intro hr;rcases ay.mp hr with q|q
  .exact⟨bC q,a.2.2 r q t ao⟩
  .exact⟨cv q,(a.2.1.1 r q).symm⟩
 .rintro⟨h1,h2⟩;rw[<-bh k xs,hd,ay,az]at h1;rcases h1 with q|q|q
  .exact aR _ q
  .exact absurd q h2
  .exact aQ _ q
def b8L(a:k<A.length):(lns A B).take k++(lns A B).drop (k+1)=lns (A.take k++A.drop (k+1)) B:=by
 unfold lns;rw[dk (by rw[ag];omega),cJ (by rw[ag];omega),bL,fC,fD,aG]
def a6Z(a:A.length<=k):(lns A B).take k=lns A (B.take (k-A.length)):=by
 unfold lns;rw[List.take_append,ag,bo (by rw[ag];omega),fC]
def a7a(a:A.length<=k):(lns A B).drop k=(B.drop (k-A.length)).map (ln wS):=by
 unfold lns;rw[List.drop_append,ag,List.drop_of_length_le (by rw[ag];omega),b_,fD]
def b8M(a:A.length<=k):(lns A B).take k++(lns A B).drop (k+1)=lns A (B.take (k-A.length)++B.drop (k-A.length+1)):=by
 rw[a6Z a,a7a (by omega),show k+1-A.length=k-A.length+1 by omega];unfold lns;rw[bL,aG]
section
variable {P:qG}{w:World}{K:qF}{mg:Str->qD qB}{base:Heap}
def b2l(b:H l=some (.lst zs))(c:k<zs.length)(q:∀p H',Same H H'->H' p=some (.lst (zs.take k))->Q (.ref p) H'):b0w K (.ref l) none (some (k:Int)) H Q :=
 ⟨l,zs,rfl,SqL.of b,λp a=>q p _ ((Same.refl H).upd a) (by rw[A0,c0h (by omega)])⟩
def b7L(b:H l=some (.lst zs))(c:k<zs.length)(q:∀p H',Same H H'->H' p=some (.lst (zs.drop k))->Q (.ref p) H'):b0w K (.ref l) (some (k:Int)) none H Q :=
 ⟨l,zs,rfl,SqL.of b,λp a=>q p _ ((Same.refl H).upd a) (by rw[A0,b7D (by omega)])⟩
def b4V(b:H l=some (.lst zs))(c:k<zs.length)(q:∀p H',Same H H'->H' p=some (.lst (zs.drop (k+1)))->Q (.ref p) H'):b0w K (.ref l) (some ((k:Int)+1)) none H Q:=by
 have e:((k:Int)+1)=((k+1:Nat):Int):=by push_cast;rfl
 rw[e];exact⟨l,zs,rfl,SqL.of b,λp a=>q p _ ((Same.refl H).upd a) (by rw[A0,b7D (by omega)])⟩
def sc_law:FnScope ["_law_script","_law_pot_here","_law_turn","_law_rows_here","_law_caps_here","_law_found_here","_law_text","_law_lines","_law_at","_law_due"] ["_law_script"] (A1 a2V):={}
def b8I{f:qE}{fd:FuncData}(F':Fun K "law" "law" a2V f fd)(T:Tx mg)(a0:Ok P w K mg base "_law_pot" 1 ["_law_script"] (b6Y K))(I:Ok P w K mg base "_law_take" 1 ["_law_pot_here","_law_many"] a2L)(M:Ok P w K mg base "_law_system" 9 ["_law_pot_here","_law_most"] a6r)(D:Ok P w K mg base "show_paper" 2 ["told","paper"] a9k)(C:Ok P w K mg base "read_paper" 6 ["text"] a5i)(U:Ok P w K mg base "_law_same" 5 ["_law_found_here","_law_due"] (b2b 4))(m:Ok P w K mg base "_law_looked" 7 ["_law_rows_here","_law_caps_here","_law_lines"] a6v)(O:Ok P w K mg base "_law_truth" 1 ["_law_found_here","_law_due"] a6p)(J:Ok P w K mg base "_law_answers" 2 ["_law_rows_here","_law_one"] a0e) :
  FnOk P w K mg base CX0 10 f fd ["_law_script"] (a9n K):=by
 refine F'.okJ sc_law (λvs H Q E h=>?_) (λq7 A n9 s H vs Q E hr h=>?_)
 .obtain⟨a,ns,rfl,_⟩:=h;rfl
 .obtain⟨a,ns,rfl,hS,hl,kk⟩:=h;have hu:=hr.u60;refine⟨_,(A3 (B2 (i:=1) sc_law.nd rfl (Or.inl rfl) (A7 a0 (hr.mono (by omega)) rfl (jaC (jv 0) jaN)))
 (A3 (P6 (L3 rfl T.b_range (jaC A6 jaN)) (A8 (i:=2) sc_law.nd rfl (Or.inl rfl))
 (A3 (a5J (A7 M (hr.mono (by omega)) rfl (jaC (jv 1) (jaC A6 jaN))) (P8 K 3 (B3 (A8 (i:=3) sc_law.nd rfl (Or.inl rfl)) (B3 (A8 (i:=4) sc_law.nd rfl (Or.inl rfl)) (B3 (A8 (i:=5) sc_law.nd rfl (Or.inl rfl)) K2)))))
 (A4 (C6 (a0y (a0J (a9D (jv 5) Y7) (V6 (a8n K hu (K7 K (jv 5) A6) (W4 jaN)))))
 (A3 (B2 (i:=6) sc_law.nd rfl (Or.inl rfl) (A7 D (hr.mono (by omega)) rfl (jaC (K7 K (jv 5) A6) (jaC (K7 K (jv 5) A6) jaN))))
 (A3 (C6 (a0y (a0Z (E9 (C1 K (C5 K rfl T.b_isinstance (jaC (jv 6) (jaC (V7 (v:=.ty "str") rfl T.b_str b4D rfl) jaN))))) (V5 (E9 (C1 K (A7 U (hr.mono (by omega)) rfl (jaC (A7 C (hr.mono (by omega)) rfl (jaC (jv 6) jaN)) (jaC (jv 5) jaN))))))))
 (A4 (A9 K3))
 B7)
 (A3 (B2 (i:=7) sc_law.nd rfl (Or.inl rfl) (a3s K (jv 6) (jaC P9 jaN)))
 (A3 (C6 (a0y (a0Z (a4F true (A7 m (hr.mono (by omega)) rfl (jaC (jv 3) (jaC (jv 4) (jaC (jv 7) jaN)))) K3) (V5 (a9E (C7 K rfl T.b_len (jaC (jv 7) jaN)) (S6 (C7 K rfl T.b_len (jaC (K7 K (jv 5) A6) jaN)) (C7 K rfl T.b_len (jaC (K7 K (jv 5) A6) jaN)))))))
 (A4 (A9 K3))
 B7)
 (A3 (B2 (i:=8) sc_law.nd rfl (Or.inl rfl) (A7 I (hr.mono (by omega)) rfl (jaC (jv 1) (jaC (C7 K rfl T.b_len (jaC (jv 7) jaN)) jaN))))
 (A3 (B2 (i:=9) sc_law.nd rfl (Or.inl rfl) (W6 (b7s (jv 8) (C7 K rfl T.b_len (jaC (K7 K (jv 5) A6) jaN))) (W5 (A7 J (hr.mono (by omega)) rfl (jaC (jv 3) (jaC (K7 K (K7 K (jv 5) A6) (a9G (jv 8) (C7 K rfl T.b_len (jaC (K7 K (jv 5) A6) jaN)))) jaN))))))
 (A3 (C6 (E9 (C1 K (A7 O (hr.mono (by omega)) rfl (jaC (A7 m (hr.mono (by omega)) rfl (jaC (jv 3) (jaC (jv 4) (jaC (a7k (a1b K (jv 7) K0 (J9 (jv 8))) (a1b K (jv 7) (J9 (S6 (jv 8) A6)) K0)) jaN)))) (jaC (jv 9) jaN)))))
 (A4 (A9 K3))
 B7)
 (A3 (B2 (i:=8) sc_law.nd rfl (Or.inl rfl) (S6 (C7 K rfl T.b_len (jaC (K7 K (jv 5) A6) jaN)) (A7 I (hr.mono (by omega)) rfl (jaC (jv 1) (jaC (C7 K rfl T.b_len (jaC (K7 K (jv 5) A6) jaN)) jaN)))))
 (A4 (C6 (a4F true (A7 m (hr.mono (by omega)) rfl (jaC (jv 3) (jaC (jv 4) (jaC (a7k (a7k (a1b K (jv 7) K0 (J9 (jv 8))) (K6 (jaC (J0 K (jv 7) (b7x A6)) jaN))) (a1b K (jv 7) (J9 (jv 8)) K0)) jaN)))) K3)
 (A4 (A9 K3))
 B7))))))))))
 B7))))
 (A4 (A9 (a8m K hu (A7 C (hr.mono (by omega)) rfl (jaC (A7 D (hr.mono (by omega)) rfl (jaC (W4 jaN) (jaC (W4 jaN) jaN))) jaN)) (W4 (jaC (W4 jaN) (jaC (W4 jaN) jaN)))))))),?_⟩
  have hz:(300000:Nat)<=sizeLine:=by rw[aX];decide
  refine⟨_,rfl,a,ns,rfl,hS,hl,λp b H1 _ _ m4 _=>?_⟩;refine⟨_,rfl,by decide,by decide,?_⟩;refine a1B (lo:=0) (n:=3) (λi σ H'=>Ex8 λo2 o3 o4 o5 o6 o7 o8 o9=>An2 (σ=[some (.ref a),some (.ref p),o2,o3,o4,o5,o6,o7,o8,o9]) (PotAt H' p b (10000*i))) ⟨none,none,none,none,none,none,none,none,rfl,m4⟩ ?_ ?_
  .rintro i σ H2 hi ⟨o2,o3,o4,o5,o6,o7,o8,o9,rfl,hP2⟩;obtain⟨nn,m8⟩:∃nn,nn=10000*i:=⟨_,rfl⟩;rw[<-m8]at hP2;have q9:nn+40000<2 ^ 60:=by omega
   try dsimp only[B0,List.set]
   refine⟨_,rfl,p,b,_,90,_,rfl,rfl,by decide,hP2,by omega,λq3 ra ca fv N cs H3 h7 Y3 n8 r1 m2 c7 k4=>?_⟩;refine⟨q3,_,rfl,SqT.of h7,rfl,.ref ra,[.ref ca,fv],rfl,.ref ca,[fv],rfl,fv,[],rfl,rfl,?_⟩
   try dsimp only[B0,List.set]
   have a2:∀r∈N,r.length=cs.length:=λr d0=>(Y3.hR r d0).1;rcases m2 with rfl|⟨q,t,pp,zs,c,ws,F,W,k,rfl,eq,et,hI,Z,d1,f6,hW,wk,m7⟩
   .exact⟨_,rfl,rfl,_,rfl,C3 (C3 ⟨_,_,_,_,_,_,_,_,rfl,c7.mono (by omega)⟩)⟩
   refine⟨_,rfl,rfl,_,rfl,E1 ?_⟩;have a1:=a9Z wk (by omega);have R:∀v∈c,v∈W:=λv B=>(wk.lv.2.2.1 v (Z.mem_iff.mp B)).1;have r2:c.length<=90:=by
    rw[Z.length_eq];have:=wk.lv.2.2.2;omega
   have k3:=hI.1;have n6:=hW.1;have pap:=wk.pap a2;have j2:∀v∈c,(c.any λt=>Bel t v)=true:=λv B=>bA.mpr ⟨v,B,(C8 rfl).mpr (Under.refl v)⟩;have L:∀{X:LLI},(∀v∈X,v∈W)->Vw cs.length X:=λh v B=>⟨(a1 v (h v B)).1,λx hx=>by have:=(a1 v (h v B)).2.1 x hx;omega⟩;have c3:∀{X:LLI},(∀v∈X,v∈W)->∀v∈X,Sm v:=λh v B x hx=>by have:=(a1 v (h v B)).2.1 x hx;omega
   refine⟨_,rfl,q,_,_,.ref pp,rfl,rfl,SqT.of eq,rfl,br _,λp4 g4=>?_⟩;have s4:=(Same.refl H3).upd (o:=.tup []) g4;have e4:upd H3 p4 (.tup []) p4=some (.tup []):=A0;generalize upd H3 p4 (.tup [])=H4 at s4 e4;refine⟨2,_,by decide,EqV.its (k:=true) (SqT.of (s4 _ _ f6)) (SqT.of e4) (hW.same s4) Its.nil,⟨_,_,rfl,rfl⟩,_,rfl,a3v (λew=>?_) (λew=>?_)⟩
   .have hW0:W≠[]:=by simpa using ew
    have k0:∀v∈c,v.length=cs.length:=λv B=>(a1 v (R v B)).1;have Y4:=Y3.same s4;have b0:=s4 _ _ eq;have c5:=s4 _ _ et;have a6:=s4 _ _ f6;have c6:=hI.same s4;have c8:=hW.same s4;have g1:=c7.same s4;have q8:0<W.length:=List.length_pos_iff.mpr hW0;have b5:(lns c W).length=c.length+W.length:=by simp[lns]
    clear Y3 eq et f6 hI hW c7 s4 e4 h7 k4 hP2 ew;refine⟨_,rfl,q,_,_,.ref t,rfl,rfl,SqT.of b0,rfl,_,rfl,q,_,_,.ref pp,rfl,rfl,SqT.of b0,rfl,.ref t,.ref pp,c,W,cs.length,rfl,⟨t,zs,rfl,c5,c6⟩,⟨pp,ws,rfl,a6,c8⟩,L R,L (λv h=>h),Y4.n1,n8,by omega,λH5 s5=>?_⟩
    try dsimp only[B0,List.set]
    refine⟨_,rfl,_,_,_,true,rfl,.str _,rfl,true,rfl,C3 ?_⟩;refine⟨_,rfl,c,W,cs.length,rfl,L R,L (λv h=>h),Y4.n1,n8,by omega,λq6 u6 v6 H6 j9 k1 k2 s6=>?_⟩;have a5:=s5.trans s6;refine⟨_,rfl,.ref q6,.ref q,rfl,SD.pair j9 (a5 _ _ b0) (SD.vecs k1 ⟨t,zs,rfl,a5 _ _ c5,c6.same a5⟩ (by omega) λr hr=>by rw[k0 r hr];omega) (SD.vecs k2 ⟨pp,ws,rfl,a5 _ _ a6,c8.same a5⟩ (by omega) λr hr=>by rw[(a1 r hr).1];omega),λH7 s7=>⟨true,rfl,C3 ?_⟩⟩;have g9:=a5.trans s7;have r0:=a5z (L R) (L (λv h=>h)) n8 (show c.length+W.length<=400 by omega);refine⟨_,rfl,rfl,_,lf,rfl,rfl,by decide,by omega,λp8 c9=>?_⟩;rw[a6K (λz=>by rw[z]at b5;simp at b5;omega)];have e0:=M5 (g1.same g9) c9;have s8:=g9.upd (o:=.lst ((lns c W).map V.str)) c9;have e8:upd H7 p8 (.lst ((lns c W).map V.str)) p8=some (.lst ((lns c W).map V.str)):=A0;generalize upd H7 p8 (.lst ((lns c W).map V.str))=H8 at s8 e8;have Y8:=Y4.same s8;have c4:=s8 _ _ b0;have f8:=s8 _ _ c5;have a9:=s8 _ _ a6;have i2:=c6.same s8;have i6:=c8.same s8;have hP8:=g1.same s8;clear Y4 b0 c5 a6 c6 c8 g1 s8 g9 a5 s7 s6 s5 j9 k1 k2
    try dsimp only[B0,List.set]
    have Y:∀{X:LLI},(∀v∈X,v∈W)->∀v∈X,v.length=cs.length/\(∀x∈v,0<=x)/\0<v.sum/\Wi cs v=true:=λh v B=>⟨(a1 v (h v B)).1,λx hx=>((a1 v (h v B)).2.1 x hx).1,(a1 v (h v B)).2.2,pap.wi v (h v B)⟩;refine⟨_,rfl,_,rfl,_,rfl,ra,ca,p8,N,c,W,cs,rfl,Y8,n8,e8,L R,L (λv h=>h),c3 (λv B=>(ay.mp B).elim (R v) id),by omega,λb9 H9 s9 j0=>?_⟩;obtain rfl:b9=true:=j0.mpr (a5n a2 wk Z d1 (Y λv h=>h) (λv B=>.inl B) λv B=>.inl B);have l:((lns c W).map V.str).length=c.length+W.length:=by rw[ag,b5]
    refine⟨rfl,_,rfl,C3 ?_⟩;refine⟨_,rfl,p8,_,rfl,.inl (SqL.of (s9 _ _ e8)),?_⟩;refine⟨_,rfl,q,_,_,.ref t,rfl,rfl,SqT.of (s9 _ _ c4),rfl,t,zs,rfl,.inr (SqT.of (s9 _ _ f8)),_,rfl,q,_,_,.ref pp,rfl,rfl,SqT.of (s9 _ _ c4),rfl,pp,ws,rfl,.inr (SqT.of (s9 _ _ a9)),_,_,rfl,rfl,rfl,false,?_,C3 ?_⟩
    .rw[l,k3,n6];show V.bl (!decide (V.int ((c.length+W.length:Nat):Int)=V.int ((c.length:Int)+(W.length:Int))))=_;rw[aU (by push_cast;rfl)];rfl
    have Y9:=Y8.same s9;have h8:=s9 _ _ c4;have i0:=s9 _ _ f8;have d6:=s9 _ _ a9;have m3:=i2.same s9;have i7:=i6.same s9;have g2:=hP8.same s9;have e9:=s9 _ _ e8;clear Y8 c4 f8 a9 i2 i6 hP8 s9 e8 j0;refine⟨_,rfl,_,rfl,p8,_,rfl,.inl (SqL.of e9),p,b,_,_,rfl,g2,by omega,by rw[l];omega,by rw[l];omega,λk5 e1 i1 d8 i3 a3=>?_⟩;obtain⟨k,rfl⟩:∃k:Nat,k5=k:=⟨k5.toNat,by omega⟩;have hk:k<c.length+W.length:=by rw[l]at d8;omega
    have S:Tk H9 e1:=Tk.pot g2 a3;have f1:SyAt e1 ra ca N cs:=Y9.tk S;have a7:=S _ _ h8;have b1:=S _ _ i0;have a8:=S _ _ d6;have i5:=S.its i7;have h1:=a3 _ _ e0 e9;clear Y9 h8 i0 d6 m3 i7 g2 e9 S a3 i1 d8
    try dsimp only[B0,List.set]
    refine a0g (λσ H'=>Ex1 λ(d:Bool)=>An3 (σ=[some (.ref a),some (.ref p),some (.int (0+i)),some (.ref ra),some (.ref ca),some (.ref q),some (.str (pt c W)),some (.ref p8),some (.int k),some (.bl d)]) (Same e1 H') (d=(decide (c.length<=k) && Ans N (W.getD (k-c.length) [])))) ?fin λfin=>?_
    case fin =>
     rintro σ l3 ⟨d,rfl,b8,hd⟩;obtain⟨A',B',eL,f9,g0,j4,b2⟩:∃A' B',(lns c W).take k++(lns c W).drop (k+1)=lns A' B'/\(∀v∈A',v∈W)/\(∀v∈B',v∈W)/\A'.length+B'.length<=400/\(Shw N cs A' B'↔d=true):=by
      by_cases b4:k<c.length
      .refine⟨_,_,b8L b4,λv B=>R v ((ay.mp B).elim bC cv),λv B=>B,by rw[au,aS,bG];omega,?_⟩;rw[hd,bg (by omega),d_];refine⟨λhS=>?_,λz=>nomatch z⟩;have:=aL List.length (b4W a2 wk Z d1 hS);rw[au,aS,bG]at this;omega
      .have hj:k-c.length<W.length:=by omega
       have hg:W[k-c.length]?=some (W[k-c.length]):=aj hj;have j3:=cY hj;have b6:=b6b wk.nd.1 hg;have hB:∀v∈W.take (k-c.length)++W.drop (k-c.length+1),v∈W:=λv B=>((b6 v).mp B).1;refine⟨c,_,b8M (by omega),R,hB,by rw[au,aS,bG];omega,?_⟩;rw[hd,aU (by omega),eN,aB,hg];show Shw _ _ _ _↔Ans N W[k-c.length]=true;constructor
       .intro hS;cases ha:Ans N W[k-c.length]with
        |true=>rfl
        |false =>
         refine absurd hS (b2m a2 wk Z j3 (λz=>?_) b6);rw[(wk.lv.2.2.1 _ (Z.mem_iff.mp z)).2]at ha;cases ha
       .intro ha;refine a5n a2 wk Z d1 (Y hB) (λv B=>.inl (hB v B)) λv B=>?_;by_cases ev:v=W[k-c.length]
        .exact .inr (j2 v (Z.mem_iff.mpr (by rw[ev];exact pap.an _ j3 ha)))
        .exact .inl ((b6 v).mpr ⟨B,ev⟩)
     have f3:=b8 _ _ h1;refine⟨_,rfl,_,rfl,_,rfl,?_⟩;dsimp only[G5];refine⟨_,rfl,(k:Int),rfl,b2l f3 (by rw[l];exact hk) λo0 q0 g5 h2=>?_⟩;refine⟨_,rfl,_,rfl,_,_,rfl,rfl,((k:Int)+1),rfl,?_⟩;dsimp only[G5];refine b4V (g5 _ _ f3) (by rw[l];exact hk) λo1 e2 g6 h3=>?_;refine⟨o0,o1,_,_,rfl,rfl,g6 _ _ h2,h3,by rw[aS,bG,l];omega,λd2 j5=>?_⟩;have g7:=(Same.refl e2).upd (o:=.lst (((lns c W).map V.str).take k++((lns c W).map V.str).drop (k+1))) j5;have f4:upd e2 d2 (.lst (((lns c W).map V.str).take k++((lns c W).map V.str).drop (k+1))) d2=some (.lst ((lns A' B').map V.str)):=by
      rw[A0,<-eL,bL,fC,fD]
     generalize upd e2 d2 (.lst (((lns c W).map V.str).take k++((lns c W).map V.str).drop (k+1)))=q1 at g7 f4;have a4:=((b8.trans g5).trans g6).trans g7;refine⟨ra,ca,d2,N,A',B',cs,rfl,f1.same a4,n8,f4,L f9,L g0,c3 (λv B=>(ay.mp B).elim (f9 v) (g0 v)),j4,λf2 l4 k7 b3=>?_⟩;obtain rfl:f2=d:=by
      have j1:=b3.trans b2;clear b3 b2 hd;cases f2 with
      |true=>exact(j1.mp rfl).symm
      |false=>cases d with
       |true=>exact absurd (j1.mpr rfl) a'
       |false=>rfl
     refine⟨_,rfl,f2,rfl,true,rfl,C3 ?_⟩;have G:=a4.trans k7;have d7:=G _ _ a7;have h9:=G _ _ b1;have f7:=G _ _ a8;have l5:=f1.same G;have l8:=G _ _ h1;have d9:=i3.same G;clear a4 G b8 g5 g6 g7 k7 f3 h2 h3 f4 b3 b2 eL f9 g0 j4;refine⟨_,rfl,q,_,_,.ref t,rfl,rfl,SqT.of d7,rfl,t,zs,rfl,.inr (SqT.of h9),?_⟩;refine⟨_,rfl,_,rfl,q,_,_,.ref pp,rfl,rfl,SqT.of d7,rfl,pp,ws,rfl,.inr (SqT.of f7),p,b,_,_,rfl,d9,by omega,by omega,by omega,λk6 h0 p5 p6 i4 b7=>⟨_,_,rfl,rfl,?_⟩⟩;obtain⟨r,rfl⟩:∃r:Nat,k6=r:=⟨k6.toNat,by omega⟩;have d0:r<W.length:=by omega
     have l2:Tk l4 h0:=Tk.pot d9 b7;have l6:SyAt h0 ra ca N cs:=l5.tk l2;have f5:=b7 _ _ e0 l8;dsimp only;rw[k3,show((c.length:Int)+(r:Int))=((c.length+r:Nat):Int) by push_cast;rfl]
     try dsimp only[B0,List.set]
     refine⟨_,rfl,_,rfl,_,rfl,?_⟩;dsimp only[G5];refine⟨_,rfl,((c.length+r:Nat):Int),rfl,b2l f5 (by rw[l];omega) λp0 e5 k8 l9=>?_⟩;have g3:((lns c W).map V.str)[((lns c W).map V.str).length-1]?=some (.str (ln wS (W.getLast hW0))):=by
      rw[l,aN];unfold lns;rw[ba (by rw[ag];omega),ag,aN,show c.length+W.length-1-c.length=W.length-1 by omega,List.getLast_eq_getElem,aj (by omega)];rfl
     refine⟨_,rfl,_,rfl,p8,_,_,_,rfl,rfl,SqL.of (k8 _ _ f5),b6O g3,by show 1<=sizeLine;omega,λd3 j6=>?_⟩;have g8:=(Same.refl e5).upd (o:=.lst [.str (ln wS (W.getLast hW0))]) j6;have h4:upd e5 d3 (.lst [.str (ln wS (W.getLast hW0))]) d3=some (.lst [.str (ln wS (W.getLast hW0))]):=A0;generalize upd e5 d3 (.lst [.str (ln wS (W.getLast hW0))])=e6 at g8 h4;refine⟨p0,d3,_,_,rfl,rfl,g8 _ _ l9,h4,by rw[aS,l];show _+1<=_;omega,λd4 j7=>?_⟩;have k9:=(Same.refl e6).upd (o:=.lst (((lns c W).map V.str).take (c.length+r)++[.str (ln wS (W.getLast hW0))])) j7;have h5:upd e6 d4 (.lst (((lns c W).map V.str).take (c.length+r)++[.str (ln wS (W.getLast hW0))])) d4=some (.lst (((lns c W).map V.str).take (c.length+r)++[.str (ln wS (W.getLast hW0))])):=A0;generalize upd e6 d4 (.lst (((lns c W).map V.str).take (c.length+r)++[.str (ln wS (W.getLast hW0))]))=q2 at k9 h5;have c0:=(k8.trans g8).trans k9;refine⟨_,rfl,_,rfl,((c.length+r:Nat):Int),rfl,?_⟩;dsimp only[G5];refine b7L (c0 _ _ f5) (by rw[l];omega) λp1 f0 l0 m0=>?_;refine⟨d4,p1,_,_,rfl,rfl,l0 _ _ h5,m0,by rw[au,aS,bG,l];show _+1+_<=_;omega,λd5 j8=>?_⟩;have l1:=(Same.refl f0).upd (o:=.lst (((lns c W).map V.str).take (c.length+r)++[.str (ln wS (W.getLast hW0))]++((lns c W).map V.str).drop (c.length+r))) j8;have h6:upd f0 d5 (.lst (((lns c W).map V.str).take (c.length+r)++[.str (ln wS (W.getLast hW0))]++((lns c W).map V.str).drop (c.length+r))) d5=some (.lst ((lns c (W.take r++[W.getLast hW0]++W.drop r)).map V.str)):=by
      rw[A0,<-fC,<-fD,a6Z (by omega),a7a (by omega),Nat.add_sub_cancel_left];unfold lns;simp only[bL,aW,dH,aG]
     generalize upd f0 d5 (.lst (((lns c W).map V.str).take (c.length+r)++[.str (ln wS (W.getLast hW0))]++((lns c W).map V.str).drop (c.length+r)))=q4 at l1 h6;have c1:=(c0.trans l0).trans l1;have hB:∀v∈W.take r++[W.getLast hW0]++W.drop r,v∈W:=λv B=>by
      rcases ay.mp B with g|g
      .rcases ay.mp g with g|g
       .exact bC g
       .rw[aP.mp g];exact List.getLast_mem hW0
      .exact cv g
     have m1:∀v∈W,v∈W.take r++[W.getLast hW0]++W.drop r:=λv B=>by
      rw[<-bh r W,ay]at B;rcases B with g|g
      .exact aR _ (aR _ g)
      .exact aQ _ g
     refine⟨ra,ca,d5,N,c,_,cs,rfl,l6.same c1,n8,h6,L R,L hB,c3 (λv B=>(ay.mp B).elim (R v) (hB v)),by rw[au,au,aS,bG];show _+(_+1+_)<=_;omega,λl7 q5 p2 i9=>?_⟩;obtain rfl:l7=true:=i9.mpr (a5n a2 wk Z d1 (Y hB) (λv B=>.inl (hB v B)) λv B=>.inl (m1 v B));exact⟨rfl,_,rfl,C3 ⟨_,_,_,_,_,_,_,_,rfl,(i4.same (c1.trans p2)).mono (by omega)⟩⟩
    refine⟨_,rfl,_,rfl,q,_,_,.ref t,rfl,rfl,SqT.of a7,rfl,t,zs,rfl,.inr (SqT.of b1),_,_,rfl,rfl,_,rfl,a3v (λe=>?_) (λe=>?_)⟩
    .have b4:c.length<=k:=by have:=bE e;omega
     have hj:k-c.length<W.length:=by omega
     obtain⟨x,hx⟩:∃x,ws[k-c.length]?=some x:=⟨_,aj (by omega)⟩;obtain⟨g,m5,m6,n7⟩:=i5.mem hx;obtain⟨us,y1,y2,y3⟩:=f1.ex;refine⟨_,rfl,_,rfl,q,_,_,.ref pp,rfl,rfl,SqT.of a7,rfl,_,rfl,_,rfl,q,_,_,.ref t,rfl,rfl,SqT.of a7,rfl,t,zs,rfl,.inr (SqT.of b1),_,_,rfl,rfl,pp,ws,_,x,rfl,rfl,SqT.of a8,?_,ra,x,us,N,g,rfl,y1,y2,n7,y3,λr' d0=>by rw[a2 r' d0];omega,c3 (λv h=>h) g m5,λl3 b8=>fin _ _ ⟨_,rfl,b8,?_⟩⟩
     .rw[show(k:Int)-(zs.length:Int)=((k-c.length:Nat):Int) by omega];exact a0u hx
     .rw[aU b4,eN,aB,m6];rfl
    .have b4:¬c.length<=k:=λz=>e (aU (by omega));refine fin _ _ ⟨_,?_,Same.refl _,rfl⟩;rw[bg b4,d_];rfl
   .exact⟨_,_,_,_,_,_,_,_,rfl,(c7.same s4).mono (by omega)⟩
  .rintro σ H2 ⟨o2,o3,o4,o5,o6,o7,o8,o9,rfl,hP2⟩;refine⟨br _,λp3 m9=>?_⟩;have s3:=(Same.refl H2).upd (o:=.tup []) m9;have e3:upd H2 p3 (.tup []) p3=some (.tup []):=A0;generalize upd H2 p3 (.tup [])=H3 at s3 e3;refine⟨br _,λp4 g4=>?_⟩;have s4:=(Same.refl H3).upd (o:=.tup []) g4;have e4:upd H3 p4 (.tup []) p4=some (.tup []):=A0;generalize upd H3 p4 (.tup [])=H4 at s4 e4;refine⟨.ref p3,.ref p4,[],[],1,rfl,⟨p3,[],rfl,s4 _ _ e3,Its.nil⟩,⟨p4,[],rfl,e4,Its.nil⟩,(λ_ z=>nomatch z),(λ_ z=>nomatch z),by decide,by decide,by decide,λH5 s5=>?_⟩;refine⟨[],[],1,rfl,(λ_ z=>nomatch z),(λ_ z=>nomatch z),by decide,by decide,by decide,λq u v H6 hq hu B s6=>?_⟩;obtain⟨ua,us,rfl,n2,n3⟩:=hu;obtain⟨va,vs,rfl,n4,n5⟩:=B;refine⟨br _,λp7 n0=>?_⟩;have s7:=(Same.refl H6).upd (o:=.tup []) n0;have e7:upd H6 p7 (.tup []) p7=some (.tup []):=A0;generalize upd H6 p7 (.tup [])=H7 at s7 e7;refine⟨br _,λp8 c9=>?_⟩;have s8:=(Same.refl H7).upd (o:=.tup []) c9;have e8:upd H7 p8 (.tup []) p8=some (.tup []):=A0;generalize upd H7 p8 (.tup [])=H8 at s8 e8;refine⟨by show 2<=sizeLine;omega,λp9 n1=>?_⟩;have s9:=(Same.refl H8).upd (o:=.tup [.ref p7,.ref p8]) n1;have e9:upd H8 p9 (.tup [.ref p7,.ref p8]) p9=some (.tup [.ref p7,.ref p8]):=A0;generalize upd H8 p9 (.tup [.ref p7,.ref p8])=H9 at s9 e9;have c2:=(s7.trans s8).trans s9;have i8:∀{x y:V}{d:Bool},d=true->EqV K H9 2 x y d->EqV K H9 2 x y true:=λh g=>h ▸ g;refine⟨3,_,by decide,EqV.tup (λ_=>true) (SqT.of (c2 _ _ hq)) (SqT.of e9) (λj x y hx hy=>?_),⟨_,_,rfl,rfl⟩,kk _⟩
   match j,hx,hy with
   |0,hx,hy=>cases hx;cases hy;exact i8 (aU rfl) (EqV.its (k:=true) (SqT.of (c2 _ _ n2)) (SqT.of (s9 _ _ (s8 _ _ e7))) (n3.same c2) Its.nil)
   |1,hx,hy=>cases hx;cases hy;exact i8 (aU rfl) (EqV.its (k:=true) (SqT.of (c2 _ _ n4)) (SqT.of (s9 _ _ e8)) (n5.same c2) Its.nil)
   |j+2,hx,hy=>exact nomatch hx
end
end K55
namespace K55
open PySem PySem.Spec PyProof.Rows L2
open PySem.W
def nI(K:qF)(x:Str)(f:qE):Prop:=nsIn K mainGlobals x=some (some (.ref f))
def all_mk{l:PySem.W.OpenLaw}{w:World}{K:qF}{h:Heap}{mg:Str->qD qB}{fa:qE}(X:K.In h)(G:h.Ns mainGlobals mg)(hfa:mg "law"=some (.ref fa))
 (a1:nI K "is_written" f1) (l1:FnL K f1 "is_written" "is_written" N6 o1 d1 s1 v1 x1 p1 n1 c1 t1) (c_1:codeIn K c1 "is_written"=true) (k1:keepIn K (.ref f1)=true)
 (a2:nI K "read_figures" f2) (l2:FnL K f2 "read_figures" "read_figures" J3 o2 d2 s2 v2 x2 p2 n2 c2 t2) (c_2:codeIn K c2 "read_figures"=true) (k2:keepIn K (.ref f2)=true)
 (a3:nI K "read_vector" f3) (l3:FnL K f3 "read_vector" "read_vector" L7 o3 d3 s3 v3 x3 p3 n3 c3 t3) (c_3:codeIn K c3 "read_vector"=true) (k3:keepIn K (.ref f3)=true)
 (a4:nI K "take_all" f4) (l4:FnL K f4 "take_all" "take_all" U9 o4 d4 s4 v4 x4 p4 n4 c4 t4) (c_4:codeIn K c4 "take_all"=true) (k4:keepIn K (.ref f4)=true)
 (a5:nI K "read_paper" f5) (l5:FnL K f5 "read_paper" "read_paper" N4 o5 d5 s5 v5 x5 p5 n5 c5 t5) (c_5:codeIn K c5 "read_paper"=true) (k5:keepIn K (.ref f5)=true)
 (a6:nI K "within" f6) (l6:FnL K f6 "within" "within" a0T o6 d6 s6 v6 x6 p6 n6 c6 t6) (c_6:codeIn K c6 "within"=true) (k6:keepIn K (.ref f6)=true)
 (a7:nI K "row_sum" f7) (l7:FnL K f7 "row_sum" "row_sum" a0h o7 d7 s7 v7 x7 p7 n7 c7 t7) (c_7:codeIn K c7 "row_sum"=true) (k7:keepIn K (.ref f7)=true)
 (a8:nI K "sums" f8) (l8:FnL K f8 "sums" "sums" a5w o8 d8 s8 v8 x8 p8 n8 c8 t8) (c_8:codeIn K c8 "sums"=true) (k8:keepIn K (.ref f8)=true)
 (a9:nI K "is_answer" f9) (l9:FnL K f9 "is_answer" "is_answer" R1 o9 d9 s9 v9 x9 p9 n9 c9 t9) (c_9:codeIn K c9 "is_answer"=true) (k9:keepIn K (.ref f9)=true)
 (H7:nI K "pull_of" f10) (l10:FnL K f10 "pull_of" "pull_of" a0i o10 d10 s10 v10 x10 p10 n10 c10 t10) (m9:codeIn K c10 "pull_of"=true) (k10:keepIn K (.ref f10)=true)
 (H8:nI K "falls" f11) (l11:FnL K f11 "falls" "falls" a2r o11 d11 s11 v11 x11 p11 n11 c11 t11) (n0:codeIn K c11 "falls"=true) (k11:keepIn K (.ref f11)=true)
 (H9:nI K "below" f12) (l12:FnL K f12 "below" "below" a2s o12 d12 s12 v12 x12 p12 n12 c12 t12) (o0:codeIn K c12 "below"=true) (k12:keepIn K (.ref f12)=true)
 (I1:nI K "unit" f13) (l13:FnL K f13 "unit" "unit" a5v o13 d13 s13 v13 x13 p13 n13 c13 t13) (p0:codeIn K c13 "unit"=true) (k13:keepIn K (.ref f13)=true)
 (I2:nI K "least_of" f14) (l14:FnL K f14 "least_of" "least_of" V0 o14 d14 s14 v14 x14 p14 n14 c14 t14) (q0:codeIn K c14 "least_of"=true) (k14:keepIn K (.ref f14)=true)
 (I3:nI K "above_any" f15) (l15:FnL K f15 "above_any" "above_any" N0 o15 d15 s15 v15 x15 p15 n15 c15 t15) (q1:codeIn K c15 "above_any"=true) (k15:keepIn K (.ref f15)=true)
 (I4:nI K "first_steps" f16) (l16:FnL K f16 "first_steps" "first_steps" L8 o16 d16 s16 v16 x16 p16 n16 c16 t16) (q2:codeIn K c16 "first_steps"=true) (k16:keepIn K (.ref f16)=true)
 (I5:nI K "raised" f17) (l17:FnL K f17 "raised" "raised" a0U o17 d17 s17 v17 x17 p17 n17 c17 t17) (q3:codeIn K c17 "raised"=true) (k17:keepIn K (.ref f17)=true)
 (I6:nI K "steps" f18) (l18:FnL K f18 "steps" "steps" a2o o18 d18 s18 v18 x18 p18 n18 c18 t18) (q4:codeIn K c18 "steps"=true) (k18:keepIn K (.ref f18)=true)
 (I7:nI K "is_barred" f19) (l19:FnL K f19 "is_barred" "is_barred" R0 o19 d19 s19 v19 x19 p19 n19 c19 t19) (q5:codeIn K c19 "is_barred"=true) (k19:keepIn K (.ref f19)=true)
 (I8:nI K "next_level" f20) (l20:FnL K f20 "next_level" "next_level" N5 o20 d20 s20 v20 x20 p20 n20 c20 t20) (q6:codeIn K c20 "next_level"=true) (k20:keepIn K (.ref f20)=true)
 (L2:nI K "least" f21) (l21:FnL K f21 "least" "least" a2q o21 d21 s21 v21 x21 p21 n21 c21 t21) (q7:codeIn K c21 "least"=true) (k21:keepIn K (.ref f21)=true)
 (Q1:nI K "is_number" f22) (l22:FnL K f22 "is_number" "is_number" Q9 o22 d22 s22 v22 x22 p22 n22 c22 t22) (q8:codeIn K c22 "is_number"=true) (k22:keepIn K (.ref f22)=true)
 (Q2:nI K "is_vector" f23) (l23:FnL K f23 "is_vector" "is_vector" Q8 o23 d23 s23 v23 x23 p23 n23 c23 t23) (q9:codeIn K c23 "is_vector"=true) (k23:keepIn K (.ref f23)=true)
 (Q4:nI K "are_vectors" f24) (l24:FnL K f24 "are_vectors" "are_vectors" L9 o24 d24 s24 v24 x24 p24 n24 c24 t24) (r0:codeIn K c24 "are_vectors"=true) (k24:keepIn K (.ref f24)=true)
 (S1:nI K "all_fit" f25) (l25:FnL K f25 "all_fit" "all_fit" a0k o25 d25 s25 v25 x25 p25 n25 c25 t25) (r1:codeIn K c25 "all_fit"=true) (k25:keepIn K (.ref f25)=true)
 (S2:nI K "are_least" f26) (l26:FnL K f26 "are_least" "are_least" R5 o26 d26 s26 v26 x26 p26 n26 c26 t26) (r2:codeIn K c26 "are_least"=true) (k26:keepIn K (.ref f26)=true)
 (S4:nI K "is_met" f27) (l27:FnL K f27 "is_met" "is_met" a0V o27 d27 s27 v27 x27 p27 n27 c27 t27) (r3:codeIn K c27 "is_met"=true) (k27:keepIn K (.ref f27)=true)
 (S8:nI K "goes_on" f28) (l28:FnL K f28 "goes_on" "goes_on" a0j o28 d28 s28 v28 x28 p28 n28 c28 t28) (r4:codeIn K c28 "goes_on"=true) (k28:keepIn K (.ref f28)=true)
 (T6:nI K "shows" f29) (l29:FnL K f29 "shows" "shows" a2p o29 d29 s29 v29 x29 p29 n29 c29 t29) (r5:codeIn K c29 "shows"=true) (k29:keepIn K (.ref f29)=true)
 (U3:nI K "show_vector" f30) (l30:FnL K f30 "show_vector" "show_vector" L6 o30 d30 s30 v30 x30 p30 n30 c30 t30) (r6:codeIn K c30 "show_vector"=true) (k30:keepIn K (.ref f30)=true)
 (X3:nI K "show_paper" f31) (l31:FnL K f31 "show_paper" "show_paper" N3 o31 d31 s31 v31 x31 p31 n31 c31 t31) (r7:codeIn K c31 "show_paper"=true) (k31:keepIn K (.ref f31)=true)
 (Y8:nI K "_law_pot" f32) (l32:FnL K f32 "_law_pot" "_law_pot" V1 o32 d32 s32 v32 x32 p32 n32 c32 t32) (r8:codeIn K c32 "_law_pot"=true) (k32:keepIn K (.ref f32)=true)
 (Y9:nI K "_law_take" f33) (l33:FnL K f33 "_law_take" "_law_take" R6 o33 d33 s33 v33 x33 p33 n33 c33 t33) (r9:codeIn K c33 "_law_take"=true) (k33:keepIn K (.ref f33)=true)
 (a34:nI K "_law_same" f34) (l34:FnL K f34 "_law_same" "_law_same" R7 o34 d34 s34 v34 x34 p34 n34 c34 t34) (s0:codeIn K c34 "_law_same"=true) (k34:keepIn K (.ref f34)=true)
 (a35:nI K "_law_truth" f35) (l35:FnL K f35 "_law_truth" "_law_truth" N8 o35 d35 s35 v35 x35 p35 n35 c35 t35) (t0:codeIn K c35 "_law_truth"=true) (k35:keepIn K (.ref f35)=true)
 (a36:nI K "_law_width" f36) (l36:FnL K f36 "_law_width" "_law_width" N7 o36 d36 s36 v36 x36 p36 n36 c36 t36) (u0:codeIn K c36 "_law_width"=true) (k36:keepIn K (.ref f36)=true)
 (a37:nI K "_law_rows" f37) (l37:FnL K f37 "_law_rows" "_law_rows" R8 o37 d37 s37 v37 x37 p37 n37 c37 t37) (u1:codeIn K c37 "_law_rows"=true) (k37:keepIn K (.ref f37)=true)
 (a38:nI K "_law_caps" f38) (l38:FnL K f38 "_law_caps" "_law_caps" R9 o38 d38 s38 v38 x38 p38 n38 c38 t38) (u2:codeIn K c38 "_law_caps"=true) (k38:keepIn K (.ref f38)=true)
 (a39:nI K "_law_found" f39) (l39:FnL K f39 "_law_found" "_law_found" N9 o39 d39 s39 v39 x39 p39 n39 c39 t39) (u3:codeIn K c39 "_law_found"=true) (k39:keepIn K (.ref f39)=true)
 (a40:nI K "_law_system" f40) (l40:FnL K f40 "_law_system" "_law_system" M1 o40 d40 s40 v40 x40 p40 n40 c40 t40) (u4:codeIn K c40 "_law_system"=true) (k40:keepIn K (.ref f40)=true)
 (a41:nI K "_law_totals" f41) (l41:FnL K f41 "_law_totals" "_law_totals" M0 o41 d41 s41 v41 x41 p41 n41 c41 t41) (u5:codeIn K c41 "_law_totals"=true) (k41:keepIn K (.ref f41)=true)
 (a42:nI K "_law_answers" f42) (l42:FnL K f42 "_law_answers" "_law_answers" J4 o42 d42 s42 v42 x42 p42 n42 c42 t42) (u6:codeIn K c42 "_law_answers"=true) (k42:keepIn K (.ref f42)=true)
 (a43:nI K "_law_looked" f43) (l43:FnL K f43 "_law_looked" "_law_looked" M2 o43 d43 s43 v43 x43 p43 n43 c43 t43) (u7:codeIn K c43 "_law_looked"=true) (k43:keepIn K (.ref f43)=true)
 (a44:nI K "law" f44) (l44:FnL K f44 "law" "law" a2V o44 d44 s44 v44 x44 p44 n44 c44 t44) (u8:codeIn K c44 "law"=true) (k44:keepIn K (.ref f44)=true)
  (z1:PySem.W.nsIn K mainGlobals "ValueError"=some none) (z2:PySem.W.nsIn K mainGlobals "all"=some none) (z3:PySem.W.nsIn K mainGlobals "any"=some none) (z4:PySem.W.nsIn K mainGlobals "bool"=some none) (z5:PySem.W.nsIn K mainGlobals "dict"=some none) (z6:PySem.W.nsIn K mainGlobals "enumerate"=some none) (z7:PySem.W.nsIn K mainGlobals "int"=some none) (z8:PySem.W.nsIn K mainGlobals "isinstance"=some none) (z9:PySem.W.nsIn K mainGlobals "len"=some none) (z10:PySem.W.nsIn K mainGlobals "list"=some none) (z11:PySem.W.nsIn K mainGlobals "range"=some none) (z12:PySem.W.nsIn K mainGlobals "set"=some none) (z13:PySem.W.nsIn K mainGlobals "sorted"=some none) (z14:PySem.W.nsIn K mainGlobals "str"=some none) (z15:PySem.W.nsIn K mainGlobals "sum"=some none) (z16:PySem.W.nsIn K mainGlobals "tuple"=some none) (z17:PySem.W.nsIn K mainGlobals "zip"=some none)
  {q:qE}(h3:nI K "TooMany" q) {a:qE}(j2:nI K "Finder" a) {b:qE}(l0:nI K "Sheet" b) {j8:Tok}(h4:PySem.W.nsIn K mainGlobals "FIGURES"=some (some (.str (Str.ofString "0123456789") j8))) {i6 i8:Str}{t:qE}{h7 n h2:qA qB}{h9 h5:Bool}{i9:qA Str}{h1:qD Bool}{h8:qD qE}{i1 i2 i3 i4 i5:qD qB}(lx_TooMany:K.lookup q=some (excClassObj i6 i8 q t h7 n h9 i9 h2 h5 h1 h8 i1 i2 i3 i4 i5 "ValueError.__new__")) (j0:PySem.W.tailIn K [.type "ValueError",.type "Exception",.type "BaseException",.type "object"] n=true) (i7:PySem.W.nsOkIn K t=true) (i0:PySem.W.nsIn K t "__init__"=some none) (h6:n.contains (.type "BaseException")=true) (pg_Finder:PySem.W.plainGet K a Str.empty=true) (j3:PySem.W.hasDictIn K a=true) (j6:PySem.W.plainOver K a=true) (j7:PySem.W.findIn K (.ref a) "__setattr__"=some (some (.builtin "object.__setattr__"))) (j5:PySem.W.makesIn K a=true) (j4:PySem.W.keepIn K (.ref a)=true) (g0:PySem.W.findIn K (.ref a) "rows"=some none) (e9:PySem.W.findIn K (.ref a) "caps"=some none) (b4:PySem.W.findIn K (.ref a) "begun"=some none) (f0:PySem.W.findIn K (.ref a) "here"=some none) (b5:PySem.W.findIn K (.ref a) "found"=some none) (L:PySem.W.findIn K (.ref a) "walked"=some none) (m3:PySem.W.plainGet K b Str.empty=true) (m0:PySem.W.hasDictIn K b=true) (m4:PySem.W.plainOver K b=true) (m5:PySem.W.findIn K (.ref b) "__setattr__"=some (some (.builtin "object.__setattr__"))) (m2:PySem.W.makesIn K b=true) (m1:PySem.W.keepIn K (.ref b)=true) (p:PySem.W.findIn K (.ref b) "least_ones"=some none) (b6:PySem.W.findIn K (.ref b) "walked"=some none) (u:findIn K (.ref a) "__init__"=some (some (.ref f_Finder___init__))) (y:isFn K (.ref f_Finder___init__)=true) (A:FnL K f_Finder___init__ "__init__" "Finder.__init__" E6 o_Finder___init__ d_Finder___init__ s0_Finder___init__ v_Finder___init__ x_Finder___init__ p_Finder___init__ n0_Finder___init__ c0_Finder___init__ t_Finder___init__) (x:codeIn K c0_Finder___init__ "Finder.__init__"=true) (z:keepIn K (.ref f_Finder___init__)=true) (d0:findIn K (.ref a) "step"=some (some (.ref f_Finder_step))) (e3:isFn K (.ref f_Finder_step)=true) (e7:FnL K f_Finder_step "step" "Finder.step" a0B o_Finder_step d_Finder_step s0_Finder_step v_Finder_step x_Finder_step p_Finder_step n0_Finder_step c0_Finder_step t_Finder_step) (e1:codeIn K c0_Finder_step "Finder.step"=true) (e5:keepIn K (.ref f_Finder_step)=true) (g:findIn K (.ref a) "step_within"=some (some (.ref f_Finder_step_within))) (j:isFn K (.ref f_Finder_step_within)=true) (m:FnL K f_Finder_step_within "step_within" "Finder.step_within" C9 o_Finder_step_within d_Finder_step_within s0_Finder_step_within v_Finder_step_within x_Finder_step_within p_Finder_step_within n0_Finder_step_within c0_Finder_step_within t_Finder_step_within) (i:codeIn K c0_Finder_step_within "Finder.step_within"=true) (k:keepIn K (.ref f_Finder_step_within)=true) (O:findIn K (.ref a) "level"=some (some (.ref f_Finder_level))) (W:isFn K (.ref f_Finder_level)=true) (b2:FnL K f_Finder_level "level" "Finder.level" X6 o_Finder_level d_Finder_level s0_Finder_level v_Finder_level x_Finder_level p_Finder_level n0_Finder_level c0_Finder_level t_Finder_level) (S:codeIn K c0_Finder_level "Finder.level"=true) (a0:keepIn K (.ref f_Finder_level)=true) (e0:findIn K (.ref a) "told"=some (some (.ref f_Finder_told))) (e4:isFn K (.ref f_Finder_told)=true) (e8:FnL K f_Finder_told "told" "Finder.told" M3 o_Finder_told d_Finder_told s0_Finder_told v_Finder_told x_Finder_told p_Finder_told n0_Finder_told c0_Finder_told t_Finder_told) (e2:codeIn K c0_Finder_told "Finder.told"=true) (e6:keepIn K (.ref f_Finder_told)=true) (Q:findIn K (.ref a) "paper"=some (some (.ref f_Finder_paper))) (Y:isFn K (.ref f_Finder_paper)=true) (b3:FnL K f_Finder_paper "paper" "Finder.paper" J5 o_Finder_paper d_Finder_paper s0_Finder_paper v_Finder_paper x_Finder_paper p_Finder_paper n0_Finder_paper c0_Finder_paper t_Finder_paper) (U:codeIn K c0_Finder_paper "Finder.paper"=true) (b0:keepIn K (.ref f_Finder_paper)=true) (N:findIn K (.ref a) "ended"=some (some (.ref f_Finder_ended))) (V:isFn K (.ref f_Finder_ended)=true) (b1:FnL K f_Finder_ended "ended" "Finder.ended" J6 o_Finder_ended d_Finder_ended s0_Finder_ended v_Finder_ended x_Finder_ended p_Finder_ended n0_Finder_ended c0_Finder_ended t_Finder_ended) (R:codeIn K c0_Finder_ended "Finder.ended"=true) (Z:keepIn K (.ref f_Finder_ended)=true) (B:findIn K (.ref b) "__init__"=some (some (.ref f_Sheet___init__))) (D:isFn K (.ref f_Sheet___init__)=true) (F:FnL K f_Sheet___init__ "__init__" "Sheet.__init__" G1 o_Sheet___init__ d_Sheet___init__ s0_Sheet___init__ v_Sheet___init__ x_Sheet___init__ p_Sheet___init__ n0_Sheet___init__ c0_Sheet___init__ t_Sheet___init__) (C:codeIn K c0_Sheet___init__ "Sheet.__init__"=true) (E:keepIn K (.ref f_Sheet___init__)=true) (g2:findIn K (.ref b) "take"=some (some (.ref f_Sheet_take))) (g6:isFn K (.ref f_Sheet_take)=true) (h0:FnL K f_Sheet_take "take" "Sheet.take" O0 o_Sheet_take d_Sheet_take s0_Sheet_take v_Sheet_take x_Sheet_take p_Sheet_take n0_Sheet_take c0_Sheet_take t_Sheet_take) (g4:codeIn K c0_Sheet_take "Sheet.take"=true) (g8:keepIn K (.ref f_Sheet_take)=true) (g1:findIn K (.ref b) "fits"=some (some (.ref f_Sheet_fits))) (g5:isFn K (.ref f_Sheet_fits)=true) (g9:FnL K f_Sheet_fits "fits" "Sheet.fits" O1 o_Sheet_fits d_Sheet_fits s0_Sheet_fits v_Sheet_fits x_Sheet_fits p_Sheet_fits n0_Sheet_fits c0_Sheet_fits t_Sheet_fits) (g3:codeIn K c0_Sheet_fits "Sheet.fits"=true) (g7:keepIn K (.ref f_Sheet_fits)=true) :
  ∃fd:FuncData,(∀(s:qC) (v:qB),BindsTo s fd ⟨[v],[]⟩ [("_law_script",v)])/\∀base:Heap,K.In base->base.Ns mainGlobals mg->FnOk l.prog w K mg base CX0 10 fa fd ["_law_script"] (a9n K):=by
 have e:=hfa.symm.trans (PySem.W.mg_of X G a44);cases e;have T:Tx mg:=⟨PySem.W.mg_none_of X G z1,PySem.W.mg_none_of X G z2,PySem.W.mg_none_of X G z3,PySem.W.mg_none_of X G z4,PySem.W.mg_none_of X G z5,PySem.W.mg_none_of X G z6,PySem.W.mg_none_of X G z7,PySem.W.mg_none_of X G z8,PySem.W.mg_none_of X G z9,PySem.W.mg_none_of X G z10,PySem.W.mg_none_of X G z11,PySem.W.mg_none_of X G z12,PySem.W.mg_none_of X G z13,PySem.W.mg_none_of X G z14,PySem.W.mg_none_of X G z15,PySem.W.mg_none_of X G z16,PySem.W.mg_none_of X G z17⟩;have F1:FunAt K mg "is_written" N6 ["word"]:=B6 X G a1 l1 c_1 k1
 have F2:FunAt K mg "read_figures" J3 ["word","most"]:=B6 X G a2 l2 c_2 k2
 have F3:FunAt K mg "read_vector" L7 ["words"]:=B6 X G a3 l3 c_3 k3
 have F4:FunAt K mg "take_all" U9 ["draft","lines"]:=B6 X G a4 l4 c_4 k4
 have F5:FunAt K mg "read_paper" N4 ["text"]:=B6 X G a5 l5 c_5 k5
 have F6:FunAt K mg "within" a0T ["caps","one"]:=B6 X G a6 l6 c_6 k6
 have F7:FunAt K mg "row_sum" a0h ["row","one"]:=B6 X G a7 l7 c_7 k7
 have F8:FunAt K mg "sums" a5w ["rows","one"]:=B6 X G a8 l8 c_8 k8
 have F9:FunAt K mg "is_answer" R1 ["rows","one"]:=B6 X G a9 l9 c_9 k9
 have u9:FunAt K mg "pull_of" a0i ["rows","totals","j"]:=B6 X G H7 l10 m9 k10
 have v0:FunAt K mg "falls" a2r ["rows","one"]:=B6 X G H8 l11 n0 k11
 have w0:FunAt K mg "below" a2s ["one","other"]:=B6 X G H9 l12 o0 k12
 have w1:FunAt K mg "unit" a5v ["width","j"]:=B6 X G I1 l13 p0 k13
 have w2:FunAt K mg "least_of" V0 ["some"]:=B6 X G I2 l14 q0 k14
 have m8:FunAt K mg "above_any" N0 ["some","one"]:=B6 X G I3 l15 q1 k15
 have w3:FunAt K mg "first_steps" L8 ["caps"]:=B6 X G I4 l16 q2 k16
 have w4:FunAt K mg "raised" a0U ["one","j"]:=B6 X G I5 l17 q3 k17
 have w5:FunAt K mg "steps" a2o ["rows","caps","one"]:=B6 X G I6 l18 q4 k18
 have w6:FunAt K mg "is_barred" R0 ["found","one","j"]:=B6 X G I7 l19 q5 k19
 have w7:FunAt K mg "next_level" N5 ["rows","caps","found","level","room"]:=B6 X G I8 l20 q6 k20
 have w8:FunAt K mg "least" a2q ["rows","caps","most"]:=B6 X G L2 l21 q7 k21
 have w9:FunAt K mg "is_number" Q9 ["value"]:=B6 X G Q1 l22 q8 k22
 have x0:FunAt K mg "is_vector" Q8 ["value","width"]:=B6 X G Q2 l23 q9 k23
 have y0:FunAt K mg "are_vectors" L9 ["value","width"]:=B6 X G Q4 l24 r0 k24
 have y1:FunAt K mg "all_fit" a0k ["caps","some"]:=B6 X G S1 l25 r1 k25
 have y2:FunAt K mg "are_least" R5 ["rows","told"]:=B6 X G S2 l26 r2 k26
 have y3:FunAt K mg "is_met" a0V ["told","listed","one"]:=B6 X G S4 l27 r3 k27
 have y4:FunAt K mg "goes_on" a0j ["rows","caps","told","listed","one"]:=B6 X G S8 l28 r4 k28
 have y5:FunAt K mg "shows" a2p ["rows","caps","told","paper"]:=B6 X G T6 l29 r5 k29
 have y6:FunAt K mg "show_vector" L6 ["one"]:=B6 X G U3 l30 r6 k30
 have y7:FunAt K mg "show_paper" N3 ["told","paper"]:=B6 X G X3 l31 r7 k31
 have y8:FunAt K mg "_law_pot" V1 ["_law_script"]:=B6 X G Y8 l32 r8 k32
 have y9:FunAt K mg "_law_take" R6 ["_law_pot_here","_law_many"]:=B6 X G Y9 l33 r9 k33
 have z0:FunAt K mg "_law_same" R7 ["_law_found_here","_law_due"]:=B6 X G a34 l34 s0 k34
 have D1:FunAt K mg "_law_truth" N8 ["_law_found_here","_law_due"]:=B6 X G a35 l35 t0 k35
 have D2:FunAt K mg "_law_width" N7 ["_law_pot_here"]:=B6 X G a36 l36 u0 k36
 have D3:FunAt K mg "_law_rows" R8 ["_law_pot_here","_law_width_here"]:=B6 X G a37 l37 u1 k37
 have D4:FunAt K mg "_law_caps" R9 ["_law_pot_here","_law_width_here"]:=B6 X G a38 l38 u2 k38
 have H0:FunAt K mg "_law_found" N9 ["_law_rows_here","_law_caps_here","_law_most"]:=B6 X G a39 l39 u3 k39
 have H1:FunAt K mg "_law_system" M1 ["_law_pot_here","_law_most"]:=B6 X G a40 l40 u4 k40
 have H2:FunAt K mg "_law_totals" M0 ["_law_rows_here","_law_one"]:=B6 X G a41 l41 u5 k41
 have H3:FunAt K mg "_law_answers" J4 ["_law_rows_here","_law_one"]:=B6 X G a42 l42 u6 k42
 have H4:FunAt K mg "_law_looked" M2 ["_law_rows_here","_law_caps_here","_law_lines"]:=B6 X G a43 l43 u7 k43
 refine⟨fnOf "law" "law" (T0 a2V) (E8 a2V) (A1 a2V) .none v44 x44 p44 n44 c44 t44,λs v=>.of_eq rfl,λbase XB GB=>?_⟩;have c0:=PySem.W.mg_of X G h3;have k0:=PySem.W.mg_of X G j2;have m7:=PySem.W.mg_of X G l0;have j1:=PySem.W.mg_of X G h4;have b7:Cls K a:=⟨pg_Finder,j3,j6,j7⟩;have H:Cls K b:=⟨m3,m0,m4,m5⟩;have o:MethAt K a "__init__" "Finder.__init__" E6 ["self","rows","caps"]:=a0C u y A x z
 have m6:MethAt K a "step" "Finder.step" a0B ["self"]:=a0C d0 e3 e7 e1 e5
 have f:MethAt K a "step_within" "Finder.step_within" C9 ["self","room"]:=a0C g j m i k
 have j9:MethAt K a "level" "Finder.level" X6 ["self"]:=a0C O W b2 S a0
 have M:MethAt K a "told" "Finder.told" M3 ["self"]:=a0C e0 e4 e8 e2 e6
 have J:MethAt K a "paper" "Finder.paper" J5 ["self"]:=a0C Q Y b3 U b0
 have I:MethAt K a "ended" "Finder.ended" J6 ["self"]:=a0C N V b1 R Z
 have r:MethAt K b "__init__" "Sheet.__init__" G1 ["self"]:=a0C B D F C E
 have b9:MethAt K b "take" "Sheet.take" O0 ["self","words"]:=a0C g2 g6 h0 g4 g8
 have b8:MethAt K b "fits" "Sheet.fits" O1 ["self","one"]:=a0C g1 g5 g9 g3 g7
 have FL:=a3z (st:=a2V) l44 u8 k44;have RS:=a8b (base:=base) (P:=l.prog) (w:=w) F7 T;have SU:=b5X F8 T RS;have IA:=a5E F9 T SU;have FA:=b3s v0 T (a8c u9 T) SU;have BE:=b3u (base:=base) (P:=l.prog) (w:=w) w0 T;have ST:=b3l w5 T FA (b0L w4);have NX:=a3X w7 T ST (a5D w6 T BE);have FS:=a3e (base:=base) (P:=l.prog) (w:=w) w3 T (b5U w1 T) (a4A F6 T);have UF:FiTx K a:=⟨b7,g0,e9,b4,f0,b5,L⟩;have MI:=(b3r (base:=base) (P:=l.prog) (w:=w) (mg:=mg) o UF).make k0 j5 j4;have MS:=b3k f UF T NX FS IA;have ME:=b3t (base:=base) (P:=l.prog) (w:=w) I UF T;have MT:=b5V (base:=base) (P:=l.prog) (w:=w) M UF T;have MP:=b3o (base:=base) (P:=l.prog) (w:=w) J UF T;have LE:=b3p w8 T UF b7 MI MS ME MT MP (b8t XB c0 lx_TooMany j0 i7 i0);have TK:=b5W (base:=base) (P:=l.prog) (w:=w) y9 T;have FD:=b3q H0 T LE c0 (b6H lx_TooMany h6);have SY:=b0K H1 T (b3i D2 T TK) (b5Y D3 T TK) (b6a D4 T TK) FD;have AT:=a4b m8 T BE;have LO:=a6P w2 T (a4c m8 T BE);have AV:=a2c y0 T (a3Z x0 T (a4a (base:=base) (P:=l.prog) (w:=w) w9 T));have AF:=a8f y1 T (a4A (base:=base) (P:=l.prog) (w:=w) F6 T);have AL:=a5F y2 T LO IA;have MM:=b0N y3 T AT;have GO:=a8d y4 T AT IA ST MM;have SH:=b3n y5 T AV AF AL MM FS GO;have US:ShTx K b:=⟨H,p,b6⟩;have SV:=a3c (base:=base) (P:=l.prog) (w:=w) y6 T;have RV:=a3d F3 T (a2b F2 T (a3Y (base:=base) (P:=l.prog) (w:=w) F1 T j1));have H5:=(b3m (base:=base) (P:=l.prog) (w:=w) (mg:=mg) r US).make m7 m2 m1;have H6:=b3j b9 US T H RV (b5Z (base:=base) (P:=l.prog) (w:=w) b8 US T);have RP:=a3W F5 T US H5 (a6O F4 T H H6);exact b8I FL T (b8H y8 T) TK SY (a3V y7 T SV) RP (a9A z0 T 4) (b0M H4 T RP SH) (b0I D1) (a8e H3 T (b0J (base:=base) (P:=l.prog) (w:=w) H2 T))
end K55
end
namespace PySem.W.Fast
theorem tw3571993086625014807:True:=⟨⟩
theorem tw5453742583300690488:True:=⟨⟩
theorem tw16728260431645953249:True:=⟨⟩
theorem tw6117506276651560015:True:=⟨⟩
theorem tw15721984983387474461:True:=⟨⟩
theorem tw9915451356211301929:True:=⟨⟩
theorem tw16261682834835163585:True:=⟨⟩
theorem tw8005173084992996652:True:=⟨⟩
theorem tw12360667959342559640:True:=⟨⟩
theorem tw9509041303771112705:True:=⟨⟩
theorem tw5707423339432511307:True:=⟨⟩
theorem tw2256555489572955151:True:=⟨⟩
theorem tw2873701093712492263:True:=⟨⟩
theorem tw7035157831558828140:True:=⟨⟩
theorem tw8249364812196950392:True:=⟨⟩
theorem tw17076164882048330804:True:=⟨⟩
theorem tw10622813674731581334:True:=⟨⟩
theorem tw4844146989711315136:True:=⟨⟩
theorem tw5647066889373087953:True:=⟨⟩
theorem tw7749782567105197531:True:=⟨⟩
theorem tw17494649480326928046:True:=⟨⟩
theorem tw8031006801768496970:True:=⟨⟩
theorem tw11453268995989239310:True:=⟨⟩
theorem tw5192546280721863172:True:=⟨⟩
theorem tw14523955997909873524:True:=⟨⟩
theorem tw9278456520690944341:True:=⟨⟩
theorem tw9328601117600770741:True:=⟨⟩
theorem tw15780824590923861243:True:=⟨⟩
theorem tw5622690209978873704:True:=⟨⟩
theorem tw11694620095801938680:True:=⟨⟩
theorem tw13396453244167330123:True:=⟨⟩
theorem tw12086966076229688953:True:=⟨⟩
theorem tw12932010639209751661:True:=⟨⟩
theorem tw7549336864681457953:True:=⟨⟩
theorem tw13522463822971232368:True:=⟨⟩
theorem tw5007130421856606932:True:=⟨⟩
theorem tw10496639079979453174:True:=⟨⟩
theorem tw7440299000672768336:True:=⟨⟩
theorem tw16917396009629731204:True:=⟨⟩
theorem tw17205234729435305762:True:=⟨⟩
theorem tw16337960847961126149:True:=⟨⟩
theorem tw8640723637313479655:True:=⟨⟩
theorem tw17210290334334790558:True:=⟨⟩
theorem tw5277018838312766450:True:=⟨⟩
theorem tw5526948378756832010:True:=⟨⟩
theorem tw9276018267814741386:True:=⟨⟩
theorem tw13032265456661335682:True:=⟨⟩
theorem tw10054441399083887443:True:=⟨⟩
theorem tw9377405813648757037:True:=⟨⟩
theorem tw13837298204774353853:True:=⟨⟩
theorem tw17366213560155019543:True:=⟨⟩
theorem tw14834724824491392804:True:=⟨⟩
theorem tw4666391793222719979:True:=⟨⟩
theorem tw8362474231069002848:True:=⟨⟩
theorem tw11334977915120178615:True:=⟨⟩
theorem tw14493163889002685738:True:=⟨⟩
theorem tw13810953281137502169:True:=⟨⟩
theorem tw6812960033997021905:True:=⟨⟩
theorem tw6890997825801777336:True:=⟨⟩
theorem tw13174939539352041992:True:=⟨⟩
theorem tw2830392976548220369:True:=⟨⟩
theorem tw13598464302956786869:True:=⟨⟩
theorem tw1679644473013568093:True:=⟨⟩
theorem tw993910689943357204:True:=⟨⟩
theorem tw8529765917560130915:True:=⟨⟩
theorem tw18065442939244371707:True:=⟨⟩
theorem tw15899838345134025161:True:=⟨⟩
theorem tw4770278332447783322:True:=⟨⟩
theorem tw13037366775805557342:True:=⟨⟩
theorem tw2683646887951939772:True:=⟨⟩
theorem tw2026833268559381895:True:=⟨⟩
theorem tw14182214411460456761:True:=⟨⟩
theorem tw13169766609492466158:True:=⟨⟩
theorem tw12824077536688047281:True:=⟨⟩
theorem tw11204272913468730315:True:=⟨⟩
theorem tw17142903917957429583:True:=⟨⟩
theorem tw6059662079158289232:True:=⟨⟩
theorem tw292424560026463606:True:=⟨⟩
theorem tw16820824818914335929:True:=⟨⟩
theorem tw5489639423745827562:True:=⟨⟩
theorem tw4309609847197640825:True:=⟨⟩
theorem tw3781607234780037087:True:=⟨⟩
theorem tw8295022981974822012:True:=⟨⟩
theorem tw7450072899887448919:True:=⟨⟩
theorem tw15953569757505236595:True:=⟨⟩
theorem tw15204902256602068335:True:=⟨⟩
theorem tw16326097887867437690:True:=⟨⟩
theorem tw13298933348562725384:True:=⟨⟩
theorem tw6494254694893762529:True:=⟨⟩
theorem tw4437776767496846719:True:=⟨⟩
theorem tw14017092659109191692:True:=⟨⟩
theorem tw7266115954192780334:True:=⟨⟩
theorem tw2587603543511517016:True:=⟨⟩
theorem tw7093471692414828931:True:=⟨⟩
theorem tw9968259905169642912:True:=⟨⟩
theorem tw8175950016799684705:True:=⟨⟩
theorem tw3859020336637538799:True:=⟨⟩
theorem tw5245075224850999251:True:=⟨⟩
theorem tw7643053161691058645:True:=⟨⟩
theorem tw9132234446233168061:True:=⟨⟩
theorem tw5360891560892161169:True:=⟨⟩
theorem tw6126254643359170692:True:=⟨⟩
theorem tw10897551859258744177:True:=⟨⟩
theorem tw13515502642973764292:True:=⟨⟩
theorem tw17735322943701331062:True:=⟨⟩
theorem tw1188040039539679956:True:=⟨⟩
theorem tw10459883315927030094:True:=⟨⟩
theorem tw14645350490397357492:True:=⟨⟩
theorem tw4912158496700371393:True:=⟨⟩
theorem tw15302721158667675008:True:=⟨⟩
theorem tw9748785026898269602:True:=⟨⟩
theorem tw11177173568233303246:True:=⟨⟩
theorem tw6405350481771807002:True:=⟨⟩
theorem tw8168285535674213914:True:=⟨⟩
theorem tw9323480254981949196:True:=⟨⟩
theorem tw1108061957072167803:True:=⟨⟩
theorem tw2089453815674793388:True:=⟨⟩
theorem tw58981258200603349:True:=⟨⟩
theorem tw15565463756552904630:True:=⟨⟩
theorem tw5603436768967913297:True:=⟨⟩
theorem tw17036882929829815563:True:=⟨⟩
theorem tw10374443492140255237:True:=⟨⟩
theorem tw12682537593772339040:True:=⟨⟩
theorem tw496051277256527207:True:=⟨⟩
theorem tw10533659008596632906:True:=⟨⟩
end PySem.W.Fast
open PySem PySem.W PyProof.Rows
set_option maxRecDepth 100000 in
set_option maxHeartbeats 0 in
theorem PySem.Challenge.cw_leastlays_k55_whole_papers_through_texts_holds : PySem.Challenge.rw_leastlays_k55_whole_papers_through_texts.Holds := by
 w_on;o_law;k_head;(case hw=>w_witness2)
 k_fill
 refine L2.law_walk (l:=PySem.Challenge.rw_leastlays_k55_whole_papers_through_texts) 10 rfl rfl ⟨rfl,by decide,by decide⟩ (λw h Y=>PySem.W.kIn_of Y) ?F
 case F =>
  intro w mg fa h KX G hmg
  refine' K55.all_mk KX G hmg ?a1 ?l1 ?c_1 ?k1 ?a2 ?l2 ?c_2 ?k2 ?a3 ?l3 ?c_3 ?k3 ?a4 ?l4 ?c_4 ?k4 ?a5 ?l5 ?c_5 ?k5 ?a6 ?l6 ?c_6 ?k6 ?a7 ?l7 ?c_7 ?k7 ?a8 ?l8 ?c_8 ?k8 ?a9 ?l9 ?c_9 ?k9 ?a10 ?l10 ?c_10 ?k10 ?a11 ?l11 ?c_11 ?k11 ?a12 ?l12 ?c_12 ?k12 ?a13 ?l13 ?c_13 ?k13 ?a14 ?l14 ?c_14 ?k14 ?a15 ?l15 ?c_15 ?k15 ?a16 ?l16 ?c_16 ?k16 ?a17 ?l17 ?c_17 ?k17 ?a18 ?l18 ?c_18 ?k18 ?a19 ?l19 ?c_19 ?k19 ?a20 ?l20 ?c_20 ?k20 ?a21 ?l21 ?c_21 ?k21 ?a22 ?l22 ?c_22 ?k22 ?a23 ?l23 ?c_23 ?k23 ?a24 ?l24 ?c_24 ?k24 ?a25 ?l25 ?c_25 ?k25 ?a26 ?l26 ?c_26 ?k26 ?a27 ?l27 ?c_27 ?k27 ?a28 ?l28 ?c_28 ?k28 ?a29 ?l29 ?c_29 ?k29 ?a30 ?l30 ?c_30 ?k30 ?a31 ?l31 ?c_31 ?k31 ?a32 ?l32 ?c_32 ?k32 ?a33 ?l33 ?c_33 ?k33 ?a34 ?l34 ?c_34 ?k34 ?a35 ?l35 ?c_35 ?k35 ?a36 ?l36 ?c_36 ?k36 ?a37 ?l37 ?c_37 ?k37 ?a38 ?l38 ?c_38 ?k38 ?a39 ?l39 ?c_39 ?k39 ?a40 ?l40 ?c_40 ?k40 ?a41 ?l41 ?c_41 ?k41 ?a42 ?l42 ?c_42 ?k42 ?a43 ?l43 ?c_43 ?k43 ?a44 ?l44 ?c_44 ?k44 ?z1 ?z2 ?z3 ?z4 ?z5 ?z6 ?z7 ?z8 ?z9 ?z10 ?z11 ?z12 ?z13 ?z14 ?z15 ?z16 ?z17 ?aD_TooMany ?aD_Finder ?aD_Sheet ?aS_FIGURES ?lx_TooMany ?tx_TooMany ?ok_TooMany ?in_TooMany ?be_TooMany ?pg_Finder ?hd_Finder ?po_Finder ?sa_Finder ?mk_Finder ?kc_Finder ?n_Finder_rows ?n_Finder_caps ?n_Finder_begun ?n_Finder_here ?n_Finder_found ?n_Finder_walked ?pg_Sheet ?hd_Sheet ?po_Sheet ?sa_Sheet ?mk_Sheet ?kc_Sheet ?n_Sheet_least_ones ?n_Sheet_walked ?a_Finder___init__ ?i_Finder___init__ ?l_Finder___init__ ?c_Finder___init__ ?k_Finder___init__ ?a_Finder_step ?i_Finder_step ?l_Finder_step ?c_Finder_step ?k_Finder_step ?a_Finder_step_within ?i_Finder_step_within ?l_Finder_step_within ?c_Finder_step_within ?k_Finder_step_within ?a_Finder_level ?i_Finder_level ?l_Finder_level ?c_Finder_level ?k_Finder_level ?a_Finder_told ?i_Finder_told ?l_Finder_told ?c_Finder_told ?k_Finder_told ?a_Finder_paper ?i_Finder_paper ?l_Finder_paper ?c_Finder_paper ?k_Finder_paper ?a_Finder_ended ?i_Finder_ended ?l_Finder_ended ?c_Finder_ended ?k_Finder_ended ?a_Sheet___init__ ?i_Sheet___init__ ?l_Sheet___init__ ?c_Sheet___init__ ?k_Sheet___init__ ?a_Sheet_take ?i_Sheet_take ?l_Sheet_take ?c_Sheet_take ?k_Sheet_take ?a_Sheet_fits ?i_Sheet_fits ?l_Sheet_fits ?c_Sheet_fits ?k_Sheet_fits
  (case a1|l1|c_1|k1|a2|l2|c_2|k2|a3|l3|c_3|k3|a4|l4|c_4|k4|a5|l5|c_5|k5|a6|l6|c_6|k6|a7|l7|c_7|k7|a8|l8|c_8|k8|a9|l9|c_9|k9|a10|l10|c_10|k10|a11|l11|c_11|k11|a12|l12|c_12|k12|a13|l13|c_13|k13|a14|l14|c_14|k14|a15|l15|c_15|k15|a16|l16|c_16|k16|a17|l17|c_17|k17|a18|l18|c_18|k18|a19|l19|c_19|k19|a20|l20|c_20|k20|a21|l21|c_21|k21|a22|l22|c_22|k22|a23|l23|c_23|k23|a24|l24|c_24|k24|a25|l25|c_25|k25|a26|l26|c_26|k26|a27|l27|c_27|k27|a28|l28|c_28|k28|a29|l29|c_29|k29|a30|l30|c_30|k30|a31|l31|c_31|k31|a32|l32|c_32|k32|a33|l33|c_33|k33|a34|l34|c_34|k34|a35|l35|c_35|k35|a36|l36|c_36|k36|a37|l37|c_37|k37|a38|l38|c_38|k38|a39|l39|c_39|k39|a40|l40|c_40|k40|a41|l41|c_41|k41|a42|l42|c_42|k42|a43|l43|c_43|k43|a44|l44|c_44|k44|z1|z2|z3|z4|z5|z6|z7|z8|z9|z10|z11|z12|z13|z14|z15|z16|z17|aD_TooMany|aD_Finder|aD_Sheet|aS_FIGURES=>(try unfold L2.FnL);(try unfold K55.nI);k_is)
  (case lx_TooMany|tx_TooMany|ok_TooMany|in_TooMany|be_TooMany=>first|k_is|kernel_rfl|rfl)
  (case pg_Finder|hd_Finder|po_Finder|sa_Finder|mk_Finder|kc_Finder|n_Finder_rows|n_Finder_caps|n_Finder_begun|n_Finder_here|n_Finder_found|n_Finder_walked|pg_Sheet|hd_Sheet|po_Sheet|sa_Sheet|mk_Sheet|kc_Sheet|n_Sheet_least_ones|n_Sheet_walked|a_Finder___init__|i_Finder___init__|l_Finder___init__|c_Finder___init__|k_Finder___init__|a_Finder_step|i_Finder_step|l_Finder_step|c_Finder_step|k_Finder_step|a_Finder_step_within|i_Finder_step_within|l_Finder_step_within|c_Finder_step_within|k_Finder_step_within|a_Finder_level|i_Finder_level|l_Finder_level|c_Finder_level|k_Finder_level|a_Finder_told|i_Finder_told|l_Finder_told|c_Finder_told|k_Finder_told|a_Finder_paper|i_Finder_paper|l_Finder_paper|c_Finder_paper|k_Finder_paper|a_Finder_ended|i_Finder_ended|l_Finder_ended|c_Finder_ended|k_Finder_ended|a_Sheet___init__|i_Sheet___init__|l_Sheet___init__|c_Sheet___init__|k_Sheet___init__|a_Sheet_take|i_Sheet_take|l_Sheet_take|c_Sheet_take|k_Sheet_take|a_Sheet_fits|i_Sheet_fits|l_Sheet_fits|c_Sheet_fits|k_Sheet_fits=>(try unfold L2.FnL);(try unfold K55.nI);k_is)
#print axioms PySem.Challenge.cw_leastlays_k55_whole_papers_through_texts_holds
