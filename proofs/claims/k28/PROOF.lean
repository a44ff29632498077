import PyProof.Rows.All
import Wide.All
import OpenK.AllK
import Wide.FinOn
import Lean
import PyProof.EqAt
import PyProof.EqKinds
import PyProof.TupleCall
import PyProof.ZipIter
import PyProof.ExcArgsOwn
import PyProof.ExcAttrAll.ValueError
import KE.KSortTup
import PyProof.AutoSeq1
import PySem.SetTable
import PyProof.SetNew
import PyProof.TupleKey
import PyProof.DictRoadsH
import PyProof.DictKinds
import PyProof.IsRules
import PyProof.Rows.SetFrom
import PyProof.WalksMore
import KE.KDictSum
import KE.KDictOf
import PyProof.AttrMissHeap
import PySem.Challenge.RW_leastlays_k28_no_answer_to_the_sides
set_option compiler.extract_closed false
set_option bootstrap.genMatcherCode false
set_option genSizeOf false
set_option Elab.async false
set_option linter.all false
set_option maxRecDepth 100000
set_option maxHeartbeats 4000000
def aa:=@PySem.wpAny_bind
def ae:=@PySem.Heap.get?_push_of_some
def ag:=@PySem.wpAny_pure
def ai:=@List.length_map
def aj:=@List.getElem?_eq_getElem
def ak:=@Nat.le_refl
def ao:=@if_neg
def aq:=@List.getD_eq_getElem?_getD
def ar:=@List.length_append
def au:=@List.mem_cons_of_mem
def av:=@if_pos
def ax:=@List.mem_cons_self
def ay:=@Array.getElem?_toList
def az:=@Array.length_toList
def aA:=@List.mem_cons
def aB:=@PyProof.Rows.wpS_bind
def aC:=@PySem.Heap.get?_push_size
def aD:=@List.mem_append
def aE:=@List.size_toArray
def aF:=@PySem.Heap.lt_size
def aG:=@List.mem_singleton
def aH:=@List.mem_of_getElem?
def aI:=@List.append_assoc
def aJ:=@Nat.lt_of_lt_of_le
def aK:=@Nat.ne_of_lt
def aL:=@List.getElem?_eq_some_iff
def aM:=@PyProof.Rows.wpS_pure
def aN:=@List.length_take
def aO:=@Bool.and_eq_true
def aP:=@congrArg
def aQ:=@List.mem_append_left
def aR:=@List.mem_append_right
def aS:=@List.all_eq_true
def aT:=@List.mem_map
def aU:=@PySem.sizeLine_eq
def aV:=@List.map_cons
def aW:=@List.mem_filter
def aX:=@List.getElem?_map
def aY:=@Bool.false_ne_true
def aZ:=@List.length_cons
def a':=@List.getElem?_append_right
def a_:=@beq_iff_eq
def ba:=@List.take_add_one
def bf:=@List.mem_range
def bg:=@List.take_length
def bh:=@Nat.le_trans
def bj:=@decide_eq_true
def bo:=@List.take_append_drop
def bp:=@of_decide_eq_true
def bq:=@List.zipWith_cons_cons
def br:=@PySem.Heap.size_push
def bt:=@List.length_replicate
def bu:=@List.length_filter_le
def bw:=@Nat.zero_le
def bx:=@List.getElem?_append_left
def bz:=@Int.toNat_natCast
def bA:=@List.not_mem_nil
def bB:=@Option.some.inj
def bC:=@List.sum_cons
def bD:=@decide_eq_true_eq
def bE:=@List.length_take_le
def bF:=@List.map_append
def bG:=@List.pairwise_append
def bH:=@PySem.wpAny_callSpecial?_slot
def bI:=@PySem.wpAny_call_entry
def bJ:=@List.any_eq_true
def bK:=@decide_eq_false
def bL:=@List.pairwise_map
def bM:=@Array.getElem?_eq_getElem
def bN:=@Nat.lt_irrefl
def bO:=@Array.getD_eq_getD_getElem?
def bP:=@List.take_of_length_le
def bQ:=@List.length_drop
def bR:=@List.mem_iff_getElem
def bS:=@PyProof.Rows.KeyOrd.kle_trans
def bT:=@List.mem_of_mem_take
def bU:=@PySem.wpAny_newObj_type
def bV:=@PyProof.Rows.KeyOrd.kle_of_klt
def bW:=@PySem.wpAny_field
def bX:=@Array.toList_append
def bY:=@Classical.byContradiction
def bZ:=@List.lookup_cons
def b_:=@Nat.le_add_right
def cc:=@Nat.lt_succ_of_lt
def cf:=@List.mem_filterMap
def cg:=@List.getElem?_eq_none
def cj:=@List.replicate_succ
def ck:=@PySem.wpAny_holding
def cm:=@Nat.lt_succ_self
def cn:=@PySem.wpAny_setField_rec
def cp:=@List.append_nil
def cq:=@List.nodup_cons
def cu:=@PyProof.Rows.wpS_forRange
def cv:=@List.Perm.append_left
def cw:=@List.mem_iff_getElem?
def cx:=@PySem.wpAny_setState_of
def cy:=@PyProof.Rows.slot_tuple_getitem
def cz:=@Bool.eq_iff_iff
def cA:=@PyProof.Rows.KeyOrd.kle_refl
def cB:=@List.getElem_mem
def cC:=@List.drop_eq_nil_of_le
def cD:=@PySem.Heap.SameBut.update
def cE:=@PyProof.Rows.wpS_mono
def cF:=@List.perm_append_comm
def cG:=@List.map_map
def cH:=@PySem.wpAny_mono
def cI:=@or_false
def cJ:=@List.mem_of_mem_drop
def cK:=@Nat.le_of_lt
def cL:=@PySem.wpAny_seqItems
def cM:=@beq_eq_false_iff_ne
def cN:=@List.length_zipWith
def cO:=@List.nil_append
def cP:=@List.drop_eq_getElem_cons
def cQ:=@PySem.Heap.get?_update_self
def cR:=@Nat.ne_of_gt
def cS:=@PySem.Obj.data_mapFields
def cT:=@List.pairwise_cons
def cU:=@eq_of_heq
def cW:=@Nat.mod_eq_of_lt
def cX:=@List.drop_zero
def cY:=@List.flatten_cons
def cZ:=@Array.toList_push
def c_:=@PySem.wpAny_execs_nil
def de:=@PySem.codeAny_mono
def df:=@Array.getElem?_eq_some_iff
def dg:=@PySem.wpAny_Call_Name_kw
def dh:=@Int.le_refl
def di:=@List.getElem?_take_of_lt
def dj:=@Nat.min_eq_left
def dk:=@PySem.codeAny_builtin
def dm:=@Nat.pow_succ
def dn:=@List.getElem?_append
def dq:=@Ne.symm
def dr:=@PySem.wpAny_truthy_bool
def dt:=@PySem.wpAny_loadPart_at
def du:=@Nat.lt_trichotomy
def dv:=@PySem.wpAny_attempt
def dw:=@List.all_cons
def dy:=@List.drop_append_of_le_length
def dz:=@PySem.wpAny_typeNameOfWhole_keyiter
def dC:=@Array.getElem?_eq_none
def dD:=@PyProof.Rows.callWith_type1
def dE:=@Nat.zero_add
def dF:=@Int.emod_lt_of_pos
def dG:=@PyProof.Rows.F.plain_set_update_loop
def dH:=@PySem.wpAny_passesOwn
def dI:=@List.foldl_cons
def dJ:=@PySem.F.slot_tuple_iterator_next
def dM:=@Array.perm_iff_toList_perm
def dN:=@PySem.Around.under_plainId
def dO:=@List.getLast?_eq_some_iff
def dP:=@ite_congr
def dQ:=@PySem.wpAny_setField
def dR:=@PySem.isSubtype_type
def dS:=@List.cons_append
def dU:=@PySem.wpAny_typeNameOf_keyiter
def dV:=@List.append_cancel_right
def dW:=@List.getElem?_replicate
def dX:=@Nat.add_assoc
def dY:=@List.contains_cons
def dZ:=@List.find?_cons
def d_:=@Int.emod_nonneg
def ed:=@Nat.le_succ
def eh:=@List.take_append_of_le_length
def ei:=@Bool.not_eq_true'
def ek:=@Nat.le_of_lt_succ
def el:=@List.ext_getElem?
def ez:=@List.nodup_append
def eB:=@PySem.wpAny_typeOf
def eC:=@List.length_singleton
def eD:=@PySem.Obj.isFreed_of_fields
def eE:=@PySem.F.slot_enumerate_next
def eF:=@Int.mul_nonneg
def eG:=@PySem.wpAny_execs_cons
def eH:=@PySem.wpAny_rule
def eI:=@Array.mem_toList_iff
def eJ:=@PySem.call_meets
def eM:=@PySem.wpAny_isInstance
def eN:=@beq_self_eq_true
def eO:=@PySem.codeAny_call_builtin
def eQ:=@Array.toList_extract
def eR:=@PySem.wpAny_askSetting
def eS:=@Bool.false_or
def eT:=@List.nodup_iff_pairwise_ne
def eU:=@PySem.wpAny_isSubtype_exc
def eV:=@List.length_set
def eW:=@List.pairwise_iff_getElem
def eX:=@PySem.Calls.call_function_entry
def eY:=@List.mem_or_eq_of_mem_set
def eZ:=@List.getElem?_drop
def e_:=@PyProof.Rows.KeyOrd.klt_of_kle_of_klt
def fb:=@Nat.add_sub_cancel
def fc:=@Array.size_setIfInBounds
def fe:=@Nat.lt_of_le_of_lt
def ff:=@Nat.succ_pos
def fg:=@Nat.succ.inj
def fh:=@Bool.and_false
def fi:=@PySem.wpAny_call
def fj:=@if_true
def fk:=@List.nodup_nil
def fm:=@PyProof.Rows.wpS_get
def fo:=@Nat.mod_lt
def fq:=@List.length_eq_zero_iff
def ft:=@List.mem_singleton_self
def fu:=@PySem.wpAny_pyIter_list
def fv:=@List.any_eq_false
def fz:=@PySem.Obj.cls_mapFields
def fA:=@List.getElem_take
def fB:=@List.getElem_drop
def fC:=@PySem.wpAny_dictEntries
def fD:=@List.length_range
def fE:=@List.getElem?_set
def fF:=@List.getElem?_set_self
def fG:=@PySem.Heap.get?_update_other
def fH:=@Option.map_eq_some_iff
def fJ:=@List.ext_getElem
def fK:=@PySem.F.slot_tuple_mul
def fL:=@List.nodup_range
def fM:=@PySem.builtinLookup_eq_fast
def fN:=@List.getElem?_set_ne
def fO:=@List.map_nil
def fP:=@PySem.pushCells_keeps
def fQ:=@PySem.wpAny_updateSeq_pair
def fR:=@PySem.F.slot_zip_next
def fS:=@Nat.min_self
def fT:=@Bool.or_true
def fU:=@Nat.lt_trans
def fV:=@Array.toList_reverse
def fW:=@Nat.mul_comm
def fX:=@Nat.sub_self
def fY:=@List.getElem_zipWith
def fZ:=@List.dropLast_concat
abbrev LLI:=List (List Int)
abbrev qA:=@List
abbrev qB:=@PySem.Value
abbrev qC:=@PySem.Shared
abbrev qD:=@Option
abbrev qE:=@PySem.Addr
abbrev qF:=@PySem.W.Frag
abbrev qG:=@PySem.Program
abbrev qH:=PySem.Value->PySem.Shared->Prop
abbrev qI:=List Int
abbrev qJ:=Option Nat
noncomputable section
def L2.nd(l:qA PySem.Str)(h:l.Nodup:=by decide +kernel):l.Nodup:=h
namespace L2
open PySem PySem.Spec PyProof.Rows
variable {A:Around}{C a b dx:qE}{E Q:qH}{K:qF}{M:Model}{P:qG}{base h h':Heap}{body:qA Stmt}{c e l tg:Expr}{ch fp:qA qE}{es:qA Expr}{f:qB->qB->Sem qB}{fd:FuncData}{i k n t':Nat}{mA mg:Str->qD qB}{qK:qA (qE×Obj)}{pl:Sem Bool}{pos:Pos}{ps:qA Str}{s:qC}{u:qB}{us:qA qB}{w:World}{x:Str}
abbrev Key:=Sum Int Str
def a4x:Key->qB->Bool
 |.inl k,v=>Value.isInt k v
 |.inr x,v=>Value.isStrOf x v
def b9Z(w:World):Key->Int
 |.inl k=>hashInt k
 |.inr x=>hashStr w x
def D5:∀{k:Key}{v:qB},a4x k v=true->(∃i t,k=Sum.inl i/\v=Value.int i t)∨(∃x t,k=Sum.inr x/\v=Value.str x t)
 |.inl i,v,h=>by
  obtain⟨t,e⟩:=Value.isInt_shape (k:=i) (v:=v) h;exact .inl ⟨i,t,rfl,e⟩
 |.inr x,v,h=>by
  obtain⟨t,e⟩:=Value.isStrOf_shape (x:=x) (v:=v) h;exact .inr ⟨x,t,rfl,e⟩
def b0D(i:Int)(t:Tok):a4x (.inl i) (.int i t)=true:=by simp[a4x,Value.isInt]
def b0C(x:Str)(t:Tok):a4x (.inr x) (.str x t)=true:=by simp[a4x,Value.isStrOf]
def b8q(a b:Int):decide ((Sum.inl a:Key)=Sum.inl b)=(a==b):=by
 by_cases e:a=b
 .subst e;simp
 .have h:¬(Sum.inl a:Key)=Sum.inl b:=λq=>e (Sum.inl.inj q);rw[bK h];exact(cM.mpr e).symm
def b8n(a b:Str):decide ((Sum.inr a:Key)=Sum.inr b)=decide (a=b):=by
 by_cases e:a=b
 .subst e;simp
 .have h:¬(Sum.inr a:Key)=Sum.inr b:=λq=>e (Sum.inr.inj q);rw[bK h,bK e]
def b8p(a:Int)(b:Str):decide ((Sum.inl a:Key)=Sum.inr b)=false:=bK (λq=>nomatch q)
def b8o(a:Str)(b:Int):decide ((Sum.inr a:Key)=Sum.inl b)=false:=bK (λq=>nomatch q)
def C3(prog:qG)(w:World):PySem.KeyKind prog w Key where
 is:=a4x
 hash:=b9Z w
 inj:=λv a b ha hb=>by
  rcases D5 ha with⟨i,t,rfl,rfl⟩|⟨x,t,rfl,rfl⟩
  .rcases D5 hb with⟨j,u,rfl,e⟩|⟨y,u,rfl,e⟩
   .injection e with e1 _;rw[e1]
   .exact nomatch e
  .rcases D5 hb with⟨j,u,rfl,e⟩|⟨y,u,rfl,e⟩
   .exact nomatch e
   .injection e with e1 _;rw[e1]
 byValue:=λk v h=>by
  rcases D5 h with⟨i,t,rfl,rfl⟩|⟨x,t,rfl,rfl⟩<;>rfl
 pyHash:=λhv h=>by
  rcases D5 hv with⟨i,t,rfl,rfl⟩|⟨x,t,rfl,rfl⟩
  .exact wpAny_pyHash_int h
  .exact wpAny_pyHash_str h
 eqBool:=λhu hv h=>by
  rcases D5 hu with⟨i,t,rfl,rfl⟩|⟨x,t,rfl,rfl⟩
  .rcases D5 hv with⟨j,u,rfl,rfl⟩|⟨y,u,rfl,rfl⟩
   .rw[b8q]at h;exact wpAny_eqBool_int h
   .rw[b8p]at h;exact SeqAt.EqAt.int_str i t y u _ _ _ _ h
  .rcases D5 hv with⟨j,u,rfl,rfl⟩|⟨y,u,rfl,rfl⟩
   .rw[b8o]at h;exact SeqAt.EqAt.str_int x t j u _ _ _ _ h
   .rw[b8n]at h;exact wpAny_eqBool_str h
 «strs»:=λk x t v h=>by
  rcases D5 h with⟨i,u,rfl,e⟩|⟨y,u,rfl,e⟩
  .exact nomatch e
  .injection e with e1 _
   subst e1;cases v<;>rfl
def a6H(prog:qG)(w:World)(i:Int)(t:Tok):(C3 prog w).is (.inl i) (.int i t)=true:=b0D i t
def a6G(prog:qG)(w:World)(x:Str)(t:Tok):(C3 prog w).is (.inr x) (.str x t)=true:=b0C x t
inductive V where
 |non|bl (b:Bool)|int (i:Int)|str (x:Str)|byt (b:Array UInt8)|flt (b:UInt64)|ref (a:qE)|ty (n:String)
 deriving DecidableEq
variable {v:V}{vs xs:qA V}
def RelV:V->qB->Prop
 |.non,u=>u=Value.none
 |.bl b,u=>u=Value.bool b
 |.int i,u=>∃t,u=Value.int i t
 |.str x,u=>∃t,u=Value.str x t
 |.byt b,u=>∃t,u=Value.bytes b t
 |.flt b,u=>∃t,u=Value.float b t
 |.ref a,u=>u=Value.ref a
 |.ty n,u=>u=Value.type n
abbrev Vals:qA V->qA qB->Prop:=Paired RelV
def Vals.length{xs:qA V}{us:qA qB}(r:Vals xs us):xs.length=us.length:=Paired.length r
def Vals.get:∀{xs:qA V}{us:qA qB}{i:Nat}{x:V},Vals xs us->xs[i]?=some x->∃u,us[i]?=some u/\RelV x u
 |_,_,_,_,.nil,e=>by simp at e
 |_,_,0,_,.cons r _,e=>by simp at e;subst e;exact⟨_,rfl,r⟩
 |_,_,i+1,x,.cons _ t,e=>by
  obtain⟨u,h1,h2⟩:=Vals.get (i:=i) (x:=x) t (by simpa using e);exact⟨u,by simpa using h1,h2⟩
def Vals.set{x:V}{u:qB}(r:RelV x u):∀{xs:qA V}{us:qA qB}(i:Nat),Vals xs us->Vals (xs.set i x) (us.set i u)
 |_,_,_,.nil=>.nil
 |_,_,0,.cons _ t=>.cons r t
 |_,_,i+1,.cons q t=>.cons q (Vals.set r i t)
def Vals.append:∀{xs ys:qA V}{us a:qA qB},Vals xs us->Vals ys a->Vals (xs++ys) (us++a)
 |_,_,_,_,.nil,s=>s
 |_,_,_,_,.cons r t,s=>.cons r (Vals.append t s)
def Vals.take:∀{xs:qA V}{us:qA qB}(n:Nat),Vals xs us->Vals (xs.take n) (us.take n)
 |_,_,0,_=>.nil
 |_,_,_+1,.nil=>.nil
 |_,_,n+1,.cons r t=>.cons r (Vals.take n t)
def Vals.drop:∀{xs:qA V}{us:qA qB}(n:Nat),Vals xs us->Vals (xs.drop n) (us.drop n)
 |_,_,0,r=>r
 |_,_,_+1,.nil=>.nil
 |_,_,n+1,.cons _ t=>Vals.drop n t
def RelO:qD V->qD qB->Prop
 |some v,some u=>RelV v u
 |none,none=>True
 |_,_=>False
def KV{κ:Type}:qA (κ×V)->qA (κ×qB)->Prop:=Paired λ(p:κ×V) (q:κ×qB)=>p.1=q.1/\RelV p.2 q.2
def kV:Key->V
 |.inl i=>.int i
 |.inr x=>.str x
inductive HO where
 |lst (xs:qA V)
 |tup (xs:qA V)
 |dK (qL:qA (Key×V))|dT (qL:qA (qA Key×V))
 |set (S:Int->Bool) (n:Nat)
 |ins (C dx:qE) (fs:qA (Str×V))
 |own (x:qE)
 |xd (fs:qA (Str×V))
 |met (f x:qE)
 |rng (lo hi:Int)
 |frz (o:Obj) (u:HO)
 |tbl (ps:Array qB)
 |ext (φ:Heap->Prop)
variable {o:HO}
abbrev Hp:=qE->qD HO
variable {H H':Hp}
def upd(H:Hp)(a:qE)(o:HO):Hp:=λb=>if b=a then some o else H b
def A0:upd H a o a=some o:=by unfold upd;rw[av rfl]
def A5(h:b≠a):upd H a o b=H b:=by unfold upd;rw[ao h]
def a4W{u:HO}:upd (upd H a o) a u=upd H a u:=by
 funext b;unfold upd;split<;>rfl
def M0{u:HO}(h:H a=some o)(h':H b=some u)(d:o≠u):a≠b:=by
 intro e;subst e;rw[h]at h';exact d (bB h')
def A9(h:H a=some o)(h':H b=none):a≠b:=by
 intro e;subst e;rw[h]at h';cases h'
section
variable (P:qG)(w:World)
def ObjOk(H:Hp)(h:Heap)(a:qE):HO->Prop
 |.lst xs=>xs.length<=sizeLine/\∃(its:qA qB) (n:Nat),Vals xs its/\h.get? a=some {cls:=.type "list",data:=.seq its.toArray n}
 |.tup xs=>xs.length<=sizeLine/\∃its:qA qB,Vals xs its/\IsTup h a its.toArray
 |.dK qL=>qL.length<=sizeLine/\(a==sysModules)=false/\∃vs,KV qL vs/\h.DictOf (C3 P w) a vs
 |.dT qL=>qL.length<=sizeLine/\(a==sysModules)=false/\∃xs:qA (qA Key×qE×qB),
   Paired (λ(p:qA Key×V) (q:qA Key×qE×qB)=>p.1=q.1/\H q.2.1=some (.tup (p.1.map kV))/\RelV p.2 q.2.2) qL xs /\
   ∃o es ep,h.get? a=some o/\o.ExactDict/\o.data=.dict es ep/\es.toList=xs.map (entryOfKey (tupleKind (C3 P w)))/\(xs.map (·.1)).Nodup
 |.set S n=>h.SetOf (intKind P w) a S n
 |.ins C dx fs=>H dx=some (.own a)/\fs.length<=1000/\dx≠a/\h.get? a=some (PySem.W.instObj C dx) /\
   ∃mA,h.Ns1 dx mA/\(∀f,RelO (fs.lookup f) (mA f))/\PySem.Within mA (fs.map (·.1))
 |.own _=>∃o,h.get? a=some o
 |.xd fs=>∃mA,h.Ns1 a mA/\∀f,RelO (fs.lookup f) (mA f)
 |.rng lo hi=>∃t u v,h.get? a=some {cls:=.type "range",data:=.fields #[.int lo t,.int hi u,.int 1 v]}
 |.frz o u=>h.get? a=some o/\ObjOk H h a u
 |.tbl ps=>h.get? a=some {cls:=.none,data:=.fields ps}
 |.met f x=>h.get? a=some (PySem.W.methodObj (.ref f) (.ref x))
 |.ext φ=>φ h/\(∃o,h.get? a=some o)/\∀h1 h2:Heap,φ h1->(∀o,h1.get? a=some o->h2.get? a=some o)->φ h2
def HOk(H:Hp)(h:Heap):Prop:=∀a o,H a=some o->ObjOk P w H h a o
end
def ObjOk.lt(x:ObjOk P w H h a o):a<h.objs.size:=by
 cases o with
 |lst xs=>obtain⟨_,_,_,_,e⟩:=x;exact aF e
 |tup xs=>obtain⟨_,_,_,p⟩:=x;exact p.lt
 |dK qL=>obtain⟨_,_,_,_,o,_,_,e,_⟩:=x;exact aF e
 |dT qL=>obtain⟨_,_,_,_,o,_,_,e,_⟩:=x;exact aF e
 |set S n=>obtain⟨o,_,_,_,e,_⟩:=x;exact aF e
 |ins C dx fs=>obtain⟨_,_,_,e,_⟩:=x;exact aF e
 |own y=>obtain⟨_,e⟩:=x;exact aF e
 |xd fs=>obtain⟨_,⟨_,_,_,e,_⟩,_⟩:=x;exact aF e
 |rng lo hi=>obtain⟨_,_,_,e⟩:=x;exact aF e
 |frz ob u=>obtain⟨e,_⟩:=x;exact aF e
 |tbl ps=>exact aF (show h.get? a=some _ from x)
 |met f y=>exact aF (show h.get? a=some _ from x)
 |ext φ=>obtain⟨_,⟨_,e⟩,_⟩:=x;exact aF e
def Paired.mapP{α β:Type}{F G:α->β->Prop}:∀{l₁:qA α}{l₂:qA β},Paired F l₁ l₂->(∀a b,F a b->G a b)->Paired G l₁ l₂
 |_,_,.nil,_=>.nil
 |_,_,.cons r t,f=>.cons (f _ _ r) (Paired.mapP t f)
def Paired.imp'{α β:Type}{F G:α->β->Prop}(f:∀a b,F a b->G a b){l₁:qA α}{l₂:qA β}(r:Paired F l₁ l₂):Paired G l₁ l₂:=Paired.mapP r f
def ObjOk.stay(x:ObjOk P w H h a o)(k:∀b u,(b=a∨H b=some (.own a))->h.get? b=some u->h'.get? b=some u)
  (j:∀b,H b=some (.own a)->H' b=some (.own a)) (l:∀b xs,H b=some (.tup xs)->H' b=some (.tup xs)):ObjOk P w H' h' a o:=by
 induction o with
 |lst xs=>obtain⟨z,its,n,r,e⟩:=x;exact⟨z,its,n,r,k _ _ (.inl rfl) e⟩
 |tup xs=>obtain⟨z,its,r,g,e,c⟩:=x;exact⟨z,its,r,g,k _ _ (.inl rfl) e,c⟩
 |dK qL=>obtain⟨z,y,s,r,g,es,ep,e,c⟩:=x;exact⟨z,y,s,r,g,es,ep,k _ _ (.inl rfl) e,c⟩
 |dT qL =>
  obtain⟨z,y,xs,r,g,es,ep,e,c⟩:=x;exact⟨z,y,xs,Paired.mapP r λp q z=>⟨z.1,l _ _ z.2.1,z.2.2⟩,g,es,ep,k _ _ (.inl rfl) e,c⟩
 |set S n=>obtain⟨g,es,ep,t,e,c⟩:=x;exact⟨g,es,ep,t,k _ _ (.inl rfl) e,c⟩
 |ins C dx fs =>
  obtain⟨d,z,ne,e,mA,⟨od,es,ep,i,c⟩,r⟩:=x;exact⟨j _ d,z,ne,k _ _ (.inl rfl) e,mA,⟨od,es,ep,k _ _ (.inr d) i,c⟩,r⟩
 |own y=>obtain⟨g,e⟩:=x;exact⟨g,k _ _ (.inl rfl) e⟩
 |xd fs=>obtain⟨mA,⟨od,es,ep,e,c⟩,r⟩:=x;exact⟨mA,⟨od,es,ep,k _ _ (.inl rfl) e,c⟩,r⟩
 |rng lo hi=>obtain⟨t,u,v,e⟩:=x;exact⟨t,u,v,k _ _ (.inl rfl) e⟩
 |frz g u m=>obtain⟨e,q⟩:=x;exact⟨k _ _ (.inl rfl) e,m q⟩
 |tbl ps =>
  have e:h.get? a=some {cls:=.none,data:=.fields ps}:=x;show h'.get? a=some {cls:=.none,data:=.fields ps};exact k a _ (.inl rfl) e
 |met f y =>
  have e:h.get? a=some (PySem.W.methodObj (.ref f) (.ref y)):=x;show h'.get? a=some (PySem.W.methodObj (.ref f) (.ref y));exact k a _ (.inl rfl) e
 |ext φ=>obtain⟨p,⟨o,e⟩,st⟩:=x;exact⟨st _ _ p λo q=>k _ _ (.inl rfl) q,⟨o,k _ _ (.inl rfl) e⟩,st⟩
def HOk.lt(x:HOk P w H h)(e:H a=some o):a<h.objs.size:=(x a o e).lt
def HOk.fresh(x:HOk P w H h)(e:h.objs.size<=a):H a=none:=by
 cases q:H a with
 |none=>rfl
 |some u=>exact absurd (aJ (x.lt q) e) (bN _)
def HOk.kept(x:HOk P w H h)(k:∀b u,h.get? b=some u->h'.get? b=some u):HOk P w H h':=λa o e =>
 (x a o e).stay (λb u _ q=>k b u q) (λ_ q=>q) λ_ _ q=>q
def HOk.laid(x:HOk P w H h)(k:∀b u,h.get? b=some u->h'.get? b=some u)(hp:h.objs.size<=a)(new:ObjOk P w (upd H a o) h' a o):HOk P w (upd H a o) h':=λb u e=>by
 have f:=x.fresh hp;by_cases d:b=a
 .subst d;rw[A0]at e;cases e;exact new
 .rw[A5 d]at e;exact(x b u e).stay (λc v _ q=>k c v q) (λc q=>by rw[A5 (A9 q f)];exact q) λc xs q=>by rw[A5 (A9 q f)];exact q
def Rd(H:Hp)(a:qE)(u:HO):Prop:=H a=some u∨∃o,H a=some (.frz o u)
def Rd.ok{u:HO}(r:Rd H a u)(x:HOk P w H h):ObjOk P w H h a u:=by
 rcases r with r|⟨o,r⟩
 .exact x a u r
 .obtain⟨_,q⟩:=x a _ r;exact q
def Mut:qD HO->Prop
 |some (.lst _)=>True
 |some (.dK _)=>True
 |some (.dT _)=>True
 |some (.set _ _)=>True
 |some (.ins _ _ _)=>True
 |some (.ext _)=>True
 |_=>False
section
variable {x e:qE}{o':HO}
def HOk.write(ok:HOk P w H h)(j:Mut (H x))(m:e=x∨H e=some (.own x))(k:∀b u,b≠e->h.get? b=some u->h'.get? b=some u)(l:∃u,h'.get? e=some u)
  (new:ObjOk P w (upd H x o') h' x o'):HOk P w (upd H x o') h':=λb u q=>by
 have d:∀c y,H c=some (.own y)->c≠x:=λc y r z=>by subst z;rw[r]at j;exact j
 have f:∀c xs,H c=some (.tup xs)->c≠x:=λc xs r z=>by subst z;rw[r]at j;exact j
 by_cases g:b=x
 .subst g;rw[A0]at q;cases q;exact new
 .rw[A5 g]at q;by_cases a:b=e
  .have q':H b=some (.own x):=by
    rcases m with z|z
    .exact absurd (a.trans z) g
    .rw[a];exact z
   rw[q]at q';cases q';obtain⟨v,n⟩:=l;exact⟨v,by rw[a];exact n⟩
  .refine(ok b u q).stay (λc v i r=>k c v ?_ r) (λc r=>by rw[A5 (d c b r)];exact r) λc xs r=>by rw[A5 (f c xs r)];exact r
   rcases i with rfl|i
   .exact a
   .rintro rfl;rcases m with z|z
    .exact d c b i z
    .rw[i]at z;cases z;exact g rfl
end
structure Un(fs ex:qA qE)(H H':Hp)(h h':Heap):Prop where
 keep:∀b o,h.get? b=some o->H b=none->b∉fs->b∉ex->h'.get? b=some o
 slot:∀b o,h.get? b=some o->H b=none->b∈fs->b∉ex->∃sl,h'.get? b=some {o with slots:=sl}
 free:∀b o,h.get? b=some o->H b=none->b∉ex->H' b=none
 there:∀b o,h.get? b=some o->b∉ex->∃o',h'.get? b=some o'
 tups:∀b xs,H b=some (.tup xs)->H' b=some (.tup xs)
 frzs:∀b o u,H b=some (.frz o u)->H' b=some (.frz o u)
 tbls:∀b ps,H b=some (.tbl ps)->∃more,H' b=some (.tbl (ps++more))
section
variable {fs fs' ex ex':qA qE}{H1 H2:Hp}{h1 h2:Heap}{x e:qE}
def Un.any(u:Un fs ex H H1 h h1){a:Obj}(q:h.get? b=some a)(n:H b=none)(d:b∉ex):∃sl,h1.get? b=some {a with slots:=sl}:=by
 by_cases c:b∈fs
 .exact u.slot b a q n c d
 .exact⟨a.slots,u.keep b a q n c d⟩
def Un.kept(k:∀b u,h.get? b=some u->h'.get? b=some u):Un fs ex H H h h' :=
 ⟨λb a q _ _ _=>k b a q,λb a q _ _ _=>⟨a.slots,k b a q⟩,λ_ _ _ n _=>n,λb a q _=>⟨a,k b a q⟩,λ_ _ q=>q,λ_ _ _ q=>q,λ_ ps q=>⟨#[],by rw[q];simp⟩⟩
def Un.refl:Un fs ex H H h h:=Un.kept λ_ _ q=>q
def Un.laid(k:∀b u,h.get? b=some u->h'.get? b=some u)(hp:h.objs.size<=a)(c:H a=none):Un fs ex H (upd H a o) h h' where
 keep:=λb u q _ _ _=>k b u q
 slot:=λb u q _ _ _=>⟨u.slots,k b u q⟩
 free:=λb u q n _=>by rw[A5 (aK (aJ (aF q) hp))];exact n
 there:=λb u q _=>⟨u,k b u q⟩
 tups:=λb xs q=>by rw[A5 (A9 q c)];exact q
 frzs:=λb u xs q=>by rw[A5 (A9 q c)];exact q
 tbls:=λb ps q=>⟨#[],by rw[A5 (A9 q c),q];simp⟩
def Un.write(c:Mut (H x))(j:e=x∨H e=some (.own x))(k:∀b u,b≠e->h.get? b=some u->h'.get? b=some u)(d:∃u,h'.get? e=some u):Un fs ex H (upd H x o) h h':=by
 have i:∀b,H b=none->b≠x:=λb n z=>by subst z;rw[n]at c;exact c
 have g:∀b,H b=none->b≠e:=λb n z=>by
  subst z;rcases j with r|r
  .exact i b n r
  .rw[n]at r;cases r
 have f:∀b u,H b=some u->¬Mut (some u)->b≠x:=λb u q nm z=>by subst z;rw[q]at c;exact nm c
 refine⟨λb u q n _ _=>k b u (g b n) q,λb u q n _ _=>⟨u.slots,k b u (g b n) q⟩,λb u q n _=>by rw[A5 (i b n)];exact n,λb u q _=>?_,
  λb xs q=>by rw[A5 (f b _ q λz=>z)];exact q,λb u xs q=>by rw[A5 (f b _ q λz=>z)];exact q,λb ps q=>⟨#[],by rw[A5 (f b _ q λz=>z),q];simp⟩⟩
 by_cases a:b=e
 .subst a;exact d
 .exact⟨u,k b u a q⟩
end
def trk(h:Heap)(H:Hp):qA qE:=(List.range h.objs.size).filter λa=>(H a).isSome
def a5G(h:Heap)(H:Hp):Heap:=PySem.W.hideAll h (trk h H)
def b0I(h:Heap)(H:Hp):(a5G h H).objs.size=h.objs.size:=PySem.W.hideAll_size _ _
def b3J{o:Obj}(e:h.get? b=some o)(n:H b=none):(a5G h H).get? b=some o :=
 PySem.W.hideAll_get _ e λa=>by
  have q:(H b).isSome=true:=(aW.mp a).2;rw[n]at q;simp at q
def b5J{o:Obj}(e:(a5G h H).get? b=some o):h.get? b=some o/\H b=none:=by
 have a:h.get? b=some o:=PySem.W.of_hideAll (trk h H) e;refine⟨a,?_⟩;cases q:H b with
 |none=>rfl
 |some x =>
  have c:b∈trk h H:=aW.mpr ⟨bf.mpr (aF a),by simp[q]⟩;have z:(a5G h H).get? b=none:=PySem.W.hideAll_none (trk h H) c;rw[z]at e;cases e
def b6r(g h:Heap)(L:qE):qA (qE×Obj):=(List.range h.objs.size).filterMap λa=>if a=L∨(g.get? a).isSome=true then none else(h.get? a).map λo=>(a,o)
def rest(g h:Heap)(L d:qE):qA (qE×Obj):=(b6r g h L).filter λp=>decide (p.1≠d)
structure Mod(K:qF)(mg:Str->qD qB)(base:Heap):Prop where
 kin:K.In base
 glob:base.Ns mainGlobals mg
 blt:∃mb,base.Ns builtinsNs mb/\∀x:Str,x≠"__name__"->mb x=bootBuiltins x
 nolimit:base.NoLimit
structure Cx where
 prog:qG
 w:World
 K:qF
 mg:Str->qD qB
 base:Heap
 A:Around
 N:qA Str
 s₀:qC
 H₀:Hp
 env:Env
 outer:qA Env
 stack:qA Env
 ex:qA qE
 fn:Str->Bool
 calm:Bool
 pn:qA (qE×Obj)
 xe:qH
variable {X:Cx}
def frs(l:qA Env):qA qE:=l.filterMap (·.frame)
abbrev Cx.fs(X:Cx):qA qE:=frs X.outer
def Vis(sc:Scope)(x:Str):Prop:=sc.names.lookup x=some .local∨sc.names.lookup x=some .cell∨sc.names.lookup x=some .free
def Loc(sc:Scope)(x:Str):Prop:=sc.names.lookup x=some .local∨sc.names.lookup x=some .cell
def c0f(env:Env)(h:Heap)(m:Str->qD qB)(x:Str)(u:qB):Prop :=
 (env.kindOf x=some .local/\m x=some u)∨((env.kindOf x=some .cell∨env.kindOf x=some .free)/\∃c,env.cells.lookup x=some c/\h.IsCell c (some u))
structure Cx.Ok(X:Cx):Prop where
 mod:Mod X.K X.mg X.base
 kind:X.env.scope.kind=.function
 glob:X.env.globals=mainGlobals
 blt:X.env.builtins=builtinsNs
 above:X.s₀.heap.objs.size<=X.env.locals
 inj:∀x y c,X.env.cells.lookup x=some c->X.env.cells.lookup y=some c->x=y
 has:∀x,(X.env.kindOf x=some .cell∨X.env.kindOf x=some .free)->∃c,X.env.cells.lookup x=some c
 cab:∀x c,X.fn x=true->X.env.cells.lookup x=some c->X.s₀.heap.objs.size<=c
 hd:X.calm=true->X.A.handled=none
 frames:X.A.frames=some X.stack
 stk:X.stack=X.outer∨(X.stack=X.env::X.outer/\X.env.frame=some X.env.locals)
 exf:∀b∈X.ex,b≠X.env.locals/\∀x c,X.env.cells.lookup x=some c->c≠b
 bs:∀b o,X.base.get? b=some o->X.s₀.heap.get? b=some o/\X.H₀ b=none
 bsz:X.base.objs.size<=X.s₀.heap.objs.size
 noex:∀b o,X.base.get? b=some o->b∉X.ex
 exfs:∀b∈X.ex,b∉X.fs
 funs:X.s₀.heap.FunFrames X.base X.outer
 frf:∀b∈X.fs,X.H₀ b=none
structure Inv(X:Cx)(qK:qA (qE×Obj))(σ:qA (qD V))(H:Hp)(s:qC):Prop where
 ok:X.Ok
 os:s.os=X.s₀.os
 bare:AllBare s.gens
 base:Un X.fs X.ex X.H₀ H X.s₀.heap s.heap
 loc:∃m,s.heap.Ns X.env.locals m/\∀(i:Nat) (x:Str) (v:V),X.N[i]?=some x->σ[i]?=some (some v)->Vis X.env.scope x->∃u,RelV v u/\c0f X.env s.heap m x u
 cell:∀x c,X.env.cells.lookup x=some c->∃v,s.heap.IsCell c v
 free:H X.env.locals=none
 freeC:∀x c,X.env.cells.lookup x=some c->H c=none
 pin:∀p∈X.pn++qK,s.heap.get? p.1=some p.2/\H p.1=none/\p.1≠X.env.locals/\p.1∉X.fs/\∀v,p.2.data≠.cell v
 hok:HOk X.prog X.w H s.heap
 len:σ.length=X.N.length
section
variable {σ:qA (qD V)}
def Cx.Ok.nofr(ok:X.Ok){o:Obj}(e:X.base.get? b=some o):b∉X.fs:=λa=>by
 have:=(ok.funs.mem a).1;rw[e]at this;cases this
def Inv.bs(I:Inv X qK σ H s):∀b o,X.base.get? b=some o->s.heap.get? b=some o/\H b=none:=λb o e =>
 ⟨I.base.keep b o (I.ok.bs b o e).1 (I.ok.bs b o e).2 (I.ok.nofr e) (I.ok.noex b o e),I.base.free b o (I.ok.bs b o e).1 (I.ok.bs b o e).2 (I.ok.noex b o e)⟩
def Inv.bk(I:Inv X qK σ H s):∀b o,X.base.get? b=some o->s.heap.get? b=some o:=λb o e=>(I.bs b o e).1
def Inv.mod(I:Inv X qK σ H s):Mod X.K X.mg X.base:=I.ok.mod
def Inv.kIn(I:Inv X qK σ H s):X.K.In s.heap:=I.ok.mod.kin.keeps I.bk
def Inv.lt(I:Inv X qK σ H s):X.env.locals<s.heap.objs.size:=let ⟨_,hn,_⟩:=I.loc;hn.lt
def Inv.sz(I:Inv X qK σ H s):X.s₀.heap.objs.size<=s.heap.objs.size:=bh I.ok.above (cK I.lt)
def Inv.nofs(I:Inv X qK σ H s)(h:s.heap.objs.size<=a):a∉X.fs:=λb=>by
 obtain⟨_,o,c,_⟩:=I.ok.funs.mem b;exact absurd (aJ (aF c) (bh I.sz h)) (bN _)
def Inv.cne(I:Inv X qK σ H s):∀x c,X.env.cells.lookup x=some c->c≠X.env.locals:=λx c e z=>by
 obtain⟨v,o,d,hd⟩:=I.cell x c e;obtain⟨m,⟨o',es,ep,b,a,_⟩,_⟩:=I.loc;rw[z,b]at d;cases d;rw[a]at hd;cases hd
def Inv.funs(I:Inv X qK σ H s):s.heap.FunFrames X.base X.outer:=by
 have all:∀(l:qA Env),(∀b∈frs l,b∈X.fs)->X.s₀.heap.FunFrames X.base l->s.heap.FunFrames X.base l:=by
  intro l;induction l with
  |nil=>intro _ _;trivial
  |cons env r k =>
   intro hs g;obtain⟨f,⟨L,o,d,h,i,hd⟩,j⟩:=g;have a:L∈X.fs:=hs L (by unfold frs;rw[List.filterMap_cons,d];exact ax);obtain⟨sl,e⟩:=I.base.slot L o i (I.ok.frf L a) a λz=>I.ok.exfs L z a;exact⟨f,⟨L,_,d,h,e,hd⟩,k (λb c=>hs b (by unfold frs;rw[List.filterMap_cons,d];exact au _ c)) j⟩
 exact all X.outer (λ_ c=>c) I.ok.funs
def Inv.stack(I:Inv X qK σ H s):s.heap.FunFrames X.base X.stack:=by
 rcases I.ok.stk with e|⟨e,a⟩
 .rw[e];exact I.funs
 .rw[e];obtain⟨m,b,_⟩:=I.loc;refine .cons (by rw[I.ok.kind];decide) a b ?_ I.funs;exact Heap.get?_none_of_le (bh I.ok.bsz I.ok.above)
def Inv.stkSub(I:Inv X qK σ H s):∀b∈frs X.stack,b∈X.env.locals::X.fs:=λb a=>by
 rcases I.ok.stk with e|⟨e,c⟩
 .rw[e]at a;exact au _ a
 .rw[e]at a;unfold frs at a;rw[List.filterMap_cons,c]at a;exact a
def Inv.stkFree(I:Inv X qK σ H s):∀b∈frs X.stack,H b=none:=λb a=>by
 rcases aA.mp (I.stkSub b a)with e|a
 .rw[e];exact I.free
 .obtain⟨_,o,ho,_⟩:=I.ok.funs.mem a;exact I.base.free b o ho (I.ok.frf b a) λz=>I.ok.exfs b z a
def Inv.step{g':Array GenState}{d':Drawn}(I:Inv X qK σ H s)
  (g:∀b∈ch,(b∈X.ex∨X.s₀.heap.objs.size<=b)/\b≠X.env.locals/\(∀x c,X.env.cells.lookup x=some c->c≠b)/\∀p∈X.pn++qK,p.1≠b)
  (keep:∀b o,b≠X.env.locals->b∉X.fs->b∉ch->s.heap.get? b=some o->H b=none->h'.get? b=some o)
  (w:∀b o,b≠X.env.locals->b∈X.fs->b∉ch->s.heap.get? b=some o->H b=none->∃sl,h'.get? b=some {o with slots:=sl}) (free:∀b o,b∉ch->s.heap.get? b=some o->H b=none->H' b=none)
  (there:∀b o,b∉ch->s.heap.get? b=some o->∃o',h'.get? b=some o')
  (F:∀b xs,H b=some (.tup xs)->H' b=some (.tup xs)) (C:∀b o u,H b=some (.frz o u)->H' b=some (.frz o u)) (E:∀b ps,H b=some (.tbl ps)->∃more,H' b=some (.tbl (ps++more)))
  (P:∀m,s.heap.Ns X.env.locals m->h'.Ns X.env.locals m) (G:HOk X.prog X.w H' h') (N:AllBare g') :
  Inv X qK σ H' {s with heap:=h',gens:=g',drawn:=d',toks:=t'}:=by
 have D:∀b o,X.s₀.heap.get? b=some o->b≠X.env.locals:=λb o e=>aK (aJ (aF e) I.ok.above);have t:∀b o,X.s₀.heap.get? b=some o->b∉X.ex->b∉ch:=λb o e a y=>by
  rcases(g b y).1 with z|z
  .exact a z
  .exact absurd (aJ (aF e) z) (bN _)
 have f:∀x c,X.env.cells.lookup x=some c->∀v,s.heap.IsCell c v->h'.IsCell c v:=λx c e v ⟨o,A,hd⟩=>by
  have h:c∉ch:=λz=>(g c z).2.2.1 x c e rfl;by_cases K:c∈X.fs
  .obtain⟨sl,q⟩:=w c o (I.cne x c e) K h A (I.freeC x c e);exact⟨_,q,hd⟩
  .exact⟨o,keep c o (I.cne x c e) K h A (I.freeC x c e),hd⟩
 refine⟨I.ok,I.os,N,⟨λb o e n y a=>?_,λb o e n y a=>?_,λb o e n a=>?_,λb o e a=>?_,λb xs e=>F b xs (I.base.tups b xs e),λb o xs e=>C b o xs (I.base.frzs b o xs e),λb ps e=>?_⟩,?_,λx c e=>?_,?_,λx c e=>?_,λp L=>?_,G,I.len⟩
 .exact keep b o (D b o e) y (t b o e a) (I.base.keep b o e n y a) (I.base.free b o e n a)
 .obtain⟨sl,j⟩:=I.base.slot b o e n y a;obtain⟨J,B⟩:=w b _ (D b o e) y (t b o e a) j (I.base.free b o e n a);exact⟨J,B⟩
 .obtain⟨o',j⟩:=I.base.there b o e a;exact free b o' (t b o e a) j (I.base.free b o e n a)
 .obtain⟨o',j⟩:=I.base.there b o e a;exact there b o' (t b o e a) j
 .obtain⟨m1,j⟩:=I.base.tbls b ps e;obtain⟨O,B⟩:=E b _ j;exact⟨m1++O,by rw[B,Array.append_assoc]⟩
 .obtain⟨m,hn,hl⟩:=I.loc;refine⟨m,P m hn,λi x v j B M=>?_⟩;obtain⟨u,r,l⟩:=hl i x v j B M;refine⟨u,r,?_⟩;rcases l with l|⟨k,c,e,z⟩
  .exact .inl l
  .exact .inr ⟨k,c,e,f x c e _ z⟩
 .obtain⟨v,z⟩:=I.cell x c e;exact⟨v,f x c e v z⟩
 .obtain⟨m,⟨o,_,_,A,_⟩,_⟩:=I.loc;exact free _ o (λz=>(g _ z).2.1 rfl) A I.free
 .obtain⟨v,o,A,hd⟩:=I.cell x c e;exact free c o (λz=>(g c z).2.2.1 x c e rfl) A (I.freeC x c e)
 .obtain⟨e,n,ne,nf,d⟩:=I.pin p L;have h:p.1∉ch:=λz=>(g p.1 z).2.2.2 p L rfl;exact⟨keep p.1 p.2 ne nf h e n,free p.1 p.2 h e n,ne,nf,d⟩
def Inv.un(I:Inv X qK σ H s)(u:Un X.fs [] H H' s.heap h')(g:HOk X.prog X.w H' h'):Inv X qK σ H' {s with heap:=h',toks:=t'}:=by
 obtain⟨m,⟨o,es,ep,h,r⟩,_⟩:=id I.loc;obtain⟨sl,i⟩:=u.any h I.free (by simp);exact I.step (g':=s.gens) (d':=s.drawn) (ch:=[]) (λ_ z=>nomatch z) (λb o _ f _ e n=>u.keep b o e n f (by simp)) (λb o _ f _ e n=>u.slot b o e n f (by simp)) (λb o _ e n=>u.free b o e n (by simp)) (λb o _ e=>u.there b o e (by simp)) u.tups u.frzs u.tbls (λl j=>by
  obtain⟨o',d,c,a,k⟩:=j;rw[h]at a;cases a;exact⟨_,d,c,i,k⟩) g I.bare
def Inv.call{g':Array GenState}{d':Drawn}(I:Inv X qK σ H s)(u:Un (frs X.stack) ch H H' s.heap h')(j:HOk X.prog X.w H' h')(q:AllBare g')
  (d:∀b∈ch,(b∈X.ex∨X.s₀.heap.objs.size<=b)/\b≠X.env.locals/\(∀x c,X.env.cells.lookup x=some c->c≠b)/\∀p∈X.pn++qK,p.1≠b) :
  Inv X qK σ H' {s with heap:=h',gens:=g',drawn:=d',toks:=t'}:=by
 obtain⟨m,⟨o,es,ep,k,r⟩,_⟩:=id I.loc;obtain⟨sl,i⟩:=u.any k I.free λz=>(d _ z).2.1 rfl;exact I.step (ch:=ch) d (λb o i l a e n=>u.keep b o e n (λz=>(aA.mp (I.stkSub b z)).elim i l) a) (λb o _ _ a e n=>u.any e n a) (λb o a e n=>u.free b o e n a) (λb o a e=>u.there b o e a) u.tups u.frzs u.tbls (λw t=>by
  obtain⟨o',h,g,f,v⟩:=t;rw[k]at f;cases f;exact⟨_,h,g,i,v⟩) j q
def Inv.turned{it:qE}(I:Inv X qK σ H s)(k:∀b o,b≠it->s.heap.get? b=some o->h'.get? b=some o)(j:H it=none)(f:it≠X.env.locals)
  (h1:it∈X.ex∨X.s₀.heap.objs.size<=it) (h2:∀x c,X.env.cells.lookup x=some c->c≠it) (g:∀p∈X.pn++qK,p.1≠it):Inv X qK σ H {s with heap:=h',toks:=t'}:=by
 have d:∀b u,H b=some u->b≠it:=λb u e z=>by rw[z,j]at e;cases e
 refine I.step (g':=s.gens) (d':=s.drawn) (ch:=[it]) (λb h=>?_) (λb o _ _ a e _=>k b o (λz=>a (by simp[z])) e) (λb o _ _ a e _=>⟨o.slots,k b o (λz=>a (by simp[z])) e⟩) (λ_ _ _ _ n=>n)
  (λb o a e=>⟨o,k b o (λz=>a (by simp[z])) e⟩) (λ_ _ e=>e) (λ_ _ _ e=>e) (λb ps e=>⟨#[],by rw[e];simp⟩) (λm i=>?_) (λb u e=>?_) I.bare
 .have e:b=it:=by simpa using h
  subst e;exact⟨h1,f,h2,g⟩
 .obtain⟨o,es,ep,ho,r⟩:=i;exact⟨o,es,ep,k _ o (dq f) ho,r⟩
 .refine(I.hok b u e).stay (λc v a q=>k c v ?_ q) (λ_ q=>q) λ_ _ q=>q;rcases a with z|z
  .rw[z];exact d b u e
  .exact d c _ z
def Inv.tok(I:Inv X qK σ H s)(t:Nat):Inv X qK σ H {s with toks:=t}:=I.un (h':=s.heap) (t':=t) Un.refl I.hok
def Inv.kept{t':Nat}(I:Inv X qK σ H s)(k:∀b u,s.heap.get? b=some u->h'.get? b=some u):Inv X qK σ H {s with heap:=h',toks:=t'}:=I.un (Un.kept k) (I.hok.kept k)
def Inv.laid{a:qE}{o:HO}{t':Nat}(I:Inv X qK σ H s)(k:∀b u,s.heap.get? b=some u->h'.get? b=some u)(hp:s.heap.objs.size<=a)(new:ObjOk X.prog X.w (upd H a o) h' a o) :
  Inv X qK σ (upd H a o) {s with heap:=h',toks:=t'}:=I.un (Un.laid k hp (I.hok.fresh hp)) (I.hok.laid k hp new)
def Inv.write{x e:qE}{o:HO}{t':Nat}(I:Inv X qK σ H s)(d:Mut (H x))(c:e=x∨H e=some (.own x))(k:∀b u,b≠e->s.heap.get? b=some u->h'.get? b=some u)(a:∃u,h'.get? e=some u)
  (new:ObjOk X.prog X.w (upd H x o) h' x o):Inv X qK σ (upd H x o) {s with heap:=h',toks:=t'}:=I.un (Un.write d c k a) (I.hok.write d c k a new)
def Inv.weak{σ':qA (qD V)}(I:Inv X qK σ H s)(d:σ'.length=σ.length)(w:∀(i:Nat) v,σ'[i]?=some (some v)->σ[i]?=some (some v)):Inv X qK σ' H s :=
 ⟨I.ok,I.os,I.bare,I.base,let ⟨m,hn,hl'⟩:=I.loc;⟨m,hn,λi x v a b c=>hl' i x v a (w i v b) c⟩,I.cell,I.free,I.freeC,I.pin,I.hok,d.trans I.len⟩
def Inv.pins_of{pins':qA (qE×Obj)}(I:Inv X qK σ H s)(h:∀p∈pins',s.heap.get? p.1=some p.2/\H p.1=none/\p.1≠X.env.locals/\p.1∉X.fs/\∀v,p.2.data≠.cell v):Inv X pins' σ H s :=
 ⟨I.ok,I.os,I.bare,I.base,I.loc,I.cell,I.free,I.freeC,λp a=>(aD.mp a).elim (λz=>I.pin p (aQ _ z)) (h p),I.hok,I.len⟩
def a3k{N:qA Str}(e:N.Nodup){j:Nat}(a:N[i]?=some x)(b:N[j]?=some x):i=j:=by
 obtain⟨h1,c⟩:=aL.mp a;obtain⟨h2,d⟩:=aL.mp b;exact(List.getElem_inj e).mp (c.trans d.symm)
def a4k{Q:Unit->qC->Prop}(I:Inv X qK σ H s)(Y:X.N.Nodup)(hi:X.N[i]?=some x)(t:Loc X.env.scope x)(r:RelV v u)
  (h:∀s',Inv X qK (σ.set i (some v)) H s'->(∃a,Heap.SameBut a s.heap s'.heap/\(a=X.env.locals∨X.env.cells.lookup x=some a))->Q () s') (hf:X.fn x=true∨X.env.scope.names.lookup x=some .local:=by first|exact .inl rfl|exact .inr rfl|assumption):wpAny M A (storeName X.env x u) Q E s:=by
 obtain⟨m,O,Z⟩:=id I.loc;have G:(X.env.scope.kind==.class || (X.env.scope.kind==.module && X.env.locals != X.env.globals))=false:=by rw[I.ok.kind];rfl
 have hiσ:i<σ.length:=by rw[I.len];exact(aL.mp hi).1
 have cne:=I.cne;have g:∀{a:qE}{h':Heap},(∃o,s.heap.get? a=some o/\H a=none)->Heap.SameBut a s.heap h'->HOk X.prog X.w H h':=λ{a h'} ha hs b ob e=>by
  obtain⟨_,_,w⟩:=ha;refine(I.hok b ob e).stay (λc L l q=>(hs.2 c ?_).trans q) (λ_ q=>q) λ_ _ q=>q;rintro rfl;rcases l with rfl|l
  .rw[w]at e;cases e
  .rw[w]at l;cases l
 rcases t with C|C
 .refine wpAny_storeName_local C O (λh' P hs=>?_) G;obtain⟨oL,_,_,R,_⟩:=id O;refine h _ ⟨I.ok,I.os,I.bare,⟨λb o e n D t=>?_,λb o e n D t=>?_,I.base.free,λb o e t=>?_,I.base.tups,I.base.frzs,I.base.tbls⟩,⟨_,P,λj y W f B N=>?_⟩,λy c e=>?_,I.free,I.freeC,λp S=>?_,g ⟨oL,R,I.free⟩ hs,by simpa using I.len⟩ ⟨_,hs,.inl rfl⟩
  .exact(hs.2 b (aK (aJ (aF e) I.ok.above))).trans (I.base.keep b o e n D t)
  .obtain⟨sl,f⟩:=I.base.slot b o e n D t;exact⟨sl,(hs.2 b (aK (aJ (aF e) I.ok.above))).trans f⟩
  .obtain⟨o',f⟩:=I.base.there b o e t;exact⟨o',(hs.2 b (aK (aJ (aF e) I.ok.above))).trans f⟩
  .by_cases hj:j=i
   .subst hj;rw[hi]at f;cases f;rw[fF hiσ]at B;cases B;exact⟨u,r,.inl ⟨C,by simp⟩⟩
   .rw[fN (dq hj)]at B;obtain⟨U,T,q⟩:=Z j y W f B N;refine⟨U,T,?_⟩;rcases q with⟨k,e⟩|⟨k,c,e,z⟩
    .refine .inl ⟨k,?_⟩;have:y≠x:=λe=>hj (a3k Y f (e ▸ hi));simp[this,e]
    .exact .inr ⟨k,c,e,z.sameBut hs (cne y c e)⟩
  .obtain⟨L,z⟩:=I.cell y c e;exact⟨L,z.sameBut hs (cne y c e)⟩
  .obtain⟨e,n,ne,nf,d⟩:=I.pin p S;exact⟨(hs.2 p.1 ne).trans e,n,ne,nf,d⟩
 .have hfn:X.fn x=true:=by
   rcases hf with z|z
   .exact z
   .rw[z]at C;cases C
  obtain⟨c,l⟩:=I.ok.has x (.inl C);obtain⟨L,z⟩:=I.cell x c l;refine wpAny_storeName_cell I.ok.kind C l z (λh' F hs=>?_);obtain⟨oc,J,K⟩:=id z;refine h {s with heap:=h'} ⟨I.ok,I.os,I.bare,⟨λb o e n D t=>?_,λb o e n D t=>?_,I.base.free,λb o e t=>?_,I.base.tups,I.base.frzs,I.base.tbls⟩,⟨m,O.sameBut hs (dq (cne x c l)),λj y W f B N=>?_⟩,λy c' e=>?_,I.free,I.freeC,λp S=>?_,g ⟨oc,J,I.freeC x c l⟩ hs,by simpa using I.len⟩ ⟨c,hs,.inr l⟩
  .exact(hs.2 b (aK (aJ (aF e) (I.ok.cab x c hfn l)))).trans (I.base.keep b o e n D t)
  .obtain⟨sl,f⟩:=I.base.slot b o e n D t;exact⟨sl,(hs.2 b (aK (aJ (aF e) (I.ok.cab x c hfn l)))).trans f⟩
  .obtain⟨o',f⟩:=I.base.there b o e t;exact⟨o',(hs.2 b (aK (aJ (aF e) (I.ok.cab x c hfn l)))).trans f⟩
  .by_cases hj:j=i
   .subst hj;rw[hi]at f;cases f;rw[fF hiσ]at B;cases B;exact⟨u,r,.inr ⟨.inl C,c,l,F⟩⟩
   .rw[fN (dq hj)]at B;obtain⟨U,T,q⟩:=Z j y W f B N;refine⟨U,T,?_⟩;rcases q with q|⟨k,c',e,z'⟩
    .exact .inl q
    .refine .inr ⟨k,c',e,z'.sameBut hs ?_⟩;rintro rfl;exact hj (a3k Y f (I.ok.inj _ _ _ e l ▸ hi))
  .by_cases hcc:c'=c
   .subst hcc;exact⟨_,F⟩
   .obtain⟨w2,z2⟩:=I.cell y c' e;exact⟨w2,z2.sameBut hs hcc⟩
  .obtain⟨e,n,ne,nf,d⟩:=I.pin p S;refine⟨(hs.2 p.1 ?_).trans e,n,ne,nf,d⟩;intro q;rw[q,J]at e;have q':oc=p.2:=bB e;exact d L (by rw[<-q'];exact K)
def O5{Q:Unit->qC->Prop}(I:Inv X qK σ H s)(b:X.N.Nodup)(hi:X.N[i]?=some x)(d:Loc X.env.scope x)(r:RelV v u)
  (h:∀s',Inv X qK (σ.set i (some v)) H s'->Q () s') (c:X.fn x=true∨X.env.scope.names.lookup x=some .local:=by first|exact .inl rfl|exact .inr rfl|assumption):wpAny M A (storeName X.env x u) Q E s :=
 a4k I b hi d r (λs' a _=>h s' a) c
def Inv.call'{s':qC}(I:Inv X qK σ H s)(i:s'.os=s.os)(u:Un (frs X.stack) ch H H' s.heap s'.heap)(d:HOk X.prog X.w H' s'.heap)(h:AllBare s'.gens)
  (a:∀b∈ch,(b∈X.ex∨X.s₀.heap.objs.size<=b)/\b≠X.env.locals/\(∀x c,X.env.cells.lookup x=some c->c≠b)/\∀p∈X.pn++qK,p.1≠b):Inv X qK σ H' s':=by
 obtain⟨h',g,f,t',o'⟩:=s';have e:o'=s.os:=i;subst e;exact I.call (g':=g) (t':=t') (d':=f) u d h a
end
abbrev XK:=qB->qD qE->Hp->Prop
abbrev St:=qA (qD V)
variable {σ:St}
abbrev VK:=V->Hp->Prop
abbrev TE:=St->Hp->VK->Prop
variable {ta te:TE}
abbrev TT:=St->Hp->(Bool->Hp->Prop)->Prop
abbrev TA:=St->Hp->(qA V->Hp->Prop)->Prop
variable {t:TA}
structure Ends where
 nx:St->Hp->Prop
 rt:VK
 bk:St->Hp->Prop:=λ_ _=>False
 ct:St->Hp->Prop:=λ_ _=>False
variable {D:Ends}
abbrev TS:=Ends->St->Hp->Prop
variable {tb:TS}
def EP(X:Cx)(qK:qA (qE×Obj))(σ:St)(Q:VK)(u:qB)(s':qC):Prop:=∃v H',Inv X qK σ H' s'/\RelV v u/\Q v H'
def TP(X:Cx)(qK:qA (qE×Obj))(σ:St)(Q:Bool->Hp->Prop)(b:Bool)(s':qC):Prop:=∃H',Inv X qK σ H' s'/\Q b H'
def AP(X:Cx)(qK:qA (qE×Obj))(σ:St)(Q:qA V->Hp->Prop)(us:qA qB)(s':qC):Prop:=∃vs H',Inv X qK σ H' s'/\Vals vs us/\Q vs H'
def SP(X:Cx)(qK:qA (qE×Obj))(D:Ends)(f:Flow)(s':qC):Prop :=
 match f with
 |.next=>∃σ' H',Inv X qK σ' H' s'/\D.nx σ' H'
 |.brk=>∃σ' H',Inv X qK σ' H' s'/\D.bk σ' H'
 |.cont=>∃σ' H',Inv X qK σ' H' s'/\D.ct σ' H'
 |.ret u=>∃v σ' H',Inv X qK σ' H' s'/\RelV v u/\D.rt v H'
def PE(X:Cx)(e:Expr)(t:TE):Prop :=
 ∀(qK:qA (qE×Obj)) (s:qC) (σ:St) (H:Hp) (Q:VK),Inv X qK σ H s->t σ H Q->wpAny (model X.prog X.w) X.A (eval e X.env) (EP X qK σ Q) X.xe s
def PT(X:Cx)(e:Expr)(t:TT):Prop :=
 ∀(qK:qA (qE×Obj)) (s:qC) (σ:St) (H:Hp) (Q:Bool->Hp->Prop),Inv X qK σ H s->t σ H Q->wpAny (model X.prog X.w) X.A (isTrue e X.env (eval e X.env)) (TP X qK σ Q) X.xe s
def PW(X:Cx)(e:Expr)(t:TT):Prop :=
 ∀(whole:Sem qB) (qK:qA (qE×Obj)) (s:qC) (σ:St) (H:Hp) (Q:Bool->Hp->Prop),Inv X qK σ H s->t σ H Q->wpAny (model X.prog X.w) X.A (isTrue e X.env whole) (TP X qK σ Q) X.xe s
def PW.pt{t:TT}(h:PW X e t):PT X e t:=h _
def PA(X:Cx)(es:qA Expr)(t:TA):Prop :=
 ∀(pos:Pos) (qK:qA (qE×Obj)) (s:qC) (σ:St) (H:Hp) (Q:qA V->Hp->Prop),Inv X qK σ H s->t σ H Q->wpAny (model X.prog X.w) X.A (spliced (backTo pos (starEach es X.env))) (AP X qK σ Q) X.xe s
def PS(X:Cx)(st:Stmt)(t:TS):Prop :=
 ∀(qK:qA (qE×Obj)) (s:qC) (σ:St) (H:Hp) (D:Ends),Inv X qK σ H s->t D σ H->wpAny (model X.prog X.w) X.A (exec st X.env) (SP X qK D) X.xe s
def PSs(X:Cx)(st:qA Stmt)(t:TS):Prop :=
 ∀(qK:qA (qE×Obj)) (s:qC) (σ:St) (H:Hp) (D:Ends),Inv X qK σ H s->t D σ H->wpAny (model X.prog X.w) X.A (execs st X.env) (SP X qK D) X.xe s
def thn{α:Type}{t:Sem α}{Q b:α->qC->Prop}(h:wpAny M A t Q E s)(c:∀a s,Q a s->b a s):wpAny M A t b E s:=cH h c λ_ _ x=>x
section
def Z0(i:Nat):TE:=λσ H Q=>∃v,σ[i]?=some (some v)/\Q v H
def tC(v:V):TE:=λ_ H Q=>Q v H
def b2H(g:X.N[i]?=some x)(o:Vis X.env.scope x)(hd:(x==("__debug__" : Str))=false:=by decide)(d:(x==("__classdict__" : Str))=false:=by decide):PE X (.Name x pos) (Z0 i):=by
 intro qK s σ H Q I h;obtain⟨v,e,h⟩:=h;obtain⟨m,n,j⟩:=I.loc;obtain⟨u,r,l⟩:=j i x v g e o;have fin:EP X qK σ Q u s:=⟨v,H,I,r,h⟩;rcases l with⟨b,k⟩|⟨b,c,f,a⟩
 .exact wpAny_Name (wpAny_loadName_local I.ok.kind b n k fin) hd
 .rcases b with b|b
  .exact wpAny_Name (wpAny_loadName_cell I.ok.kind b f a fin) hd
  .exact wpAny_Name (wpAny_loadName_free I.ok.kind b f a fin d) hd
def b7O{i j pos}:PE X (.Constant (.int i) j pos) (tC (.int i)):=λ_ _ _ H _ I h=>wpAny_Constant_int ⟨.int i,H,I.tok _,⟨_,rfl⟩,h⟩
def b9C{b j pos}:PE X (.Constant (.bool b) j pos) (tC (.bl b)):=λ_ _ _ H _ I h=>Constant_bool ⟨.bl b,H,I,rfl,h⟩
def b7M{j pos}:PE X (.Constant .none j pos) (tC .non):=λ_ _ _ H _ I h=>Constant_none ⟨.non,H,I,rfl,h⟩
def b7J{x j pos}:PE X (.Constant (.str x) j pos) (tC (.str x)):=λ_ _ _ H _ I h=>Calls.Constant_str ⟨.str x,H,I.tok _,⟨_,rfl⟩,h⟩
def Gl(X:Cx)(x:Str):Prop:=X.env.kindOf x=some .globalImplicit
def N3(I:Inv X qK σ H s)(a:Gl X x)(b:X.mg x=some u)(h:Q u s)
  (hd:(x==("__debug__" : Str))=false:=by decide):wpAny (model X.prog X.w) X.A (eval (.Name x pos) X.env) Q E s :=
 Calls.Name_function_global I.ok.kind a (Calls.loadGlobal_global (by rw[I.ok.glob];exact I.mod.glob.keeps I.bk) b h) hd
def a1D(I:Inv X qK σ H s)(a:Gl X x)(b:X.mg x=none)(d:bootBuiltins x=some u)(h:Q u s)
  (c:x≠"__name__":=by decide) (hd:(x==("__debug__" : Str))=false:=by decide):wpAny (model X.prog X.w) X.A (eval (.Name x pos) X.env) Q E s:=by
 obtain⟨e,h1,h2⟩:=I.mod.blt;exact Calls.Name_function_global I.ok.kind a (Calls.loadGlobal_builtin (by rw[I.ok.glob];exact I.mod.glob.keeps I.bk) b (by rw[I.ok.blt];exact h1.keeps I.bk) ((h2 x c).trans d) h) hd
def b5t(a:Gl X x)(b:X.mg x=some u)(r:RelV v u)(hd:(x==("__debug__" : Str))=false:=by decide):PE X (.Name x pos) (tC v) :=
 λ_ _ _ H _ I h=>N3 I a b ⟨v,H,I,r,h⟩ hd
def b5v(a:Gl X x)(b:X.mg x=none)(d:bootBuiltins x=some u)(r:RelV v u)(c:x≠"__name__":=by decide)(hd:(x==("__debug__" : Str))=false:=by decide):PE X (.Name x pos) (tC v) :=
 λ_ _ _ H _ I h=>a1D I a b d ⟨v,H,I,r,h⟩ c hd
variable {a b:Expr}{tb:TE}
def PC(X:Cx)(op:CmpOp)(a b:Expr)(t:TE):Prop :=
 ∀(qK:qA (qE×Obj)) (s:qC) (σ:St) (H:Hp) (Q:VK),Inv X qK σ H s->t σ H Q ->
  wpAny (model X.prog X.w) X.A (eval a X.env) (λv s₁=>wpAny (model X.prog X.w) X.A (eval b X.env) (λu s₂=>wpAny (model X.prog X.w) X.A (compareOp op v u) (EP X qK σ Q) X.xe s₂) X.xe s₁) X.xe s
def tB(t:TE):TT:=λσ H Q=>t σ H λx H1=>∃c,x=.bl c/\Q c H1
def b7Q{c:CmpOp}{t:TE}(h:PC X c a b t)(h1:behindInMarks c b=false:=by first|exact nobehind _ (by decide) (by decide)|rfl):PE X (.Compare a [c] [b] pos) t:=λqK s σ H Q I hw=>wpAny_Compare1 (h qK s σ H Q I hw) h1
def b7x{e:CmpOp}{t:TE}(h:PC X e a b t)(h1:behindInMarks e b=false:=by first|exact nobehind _ (by decide) (by decide)|rfl):PT X (.Compare a [e] [b] pos) (tB t):=by
 intro qK s σ H Q I hw;refine wpAny_isTrue_Compare1 (thn (h qK s σ H _ I hw) λv s1 h1=>thn h1 λu s2 h2=>thn h2 λc i ⟨x,H1,f,g,q1⟩=>?_) h1;obtain⟨d,rfl,q⟩:=q1;cases g;exact dr ⟨H1,f,q⟩
variable {tA tB':TT}{rest:qA Expr}
def b9m(t u:TT):TT:=λσ H Q=>t σ H λc H1=>if c=true then u σ H1 Q else Q false H1
def tOr(t u:TT):TT:=λσ H Q=>t σ H λc H1=>if c=true then Q true H1 else u σ H1 Q
def b9h(t:TT):TT:=λσ H Q=>t σ H λc H1=>Q (!c) H1
def pw_and1(b:PT X a tA):PW X (.BoolOp .And [a] pos) tA:=by
 intro d qK s σ H Q I h;refine isTrue_and (thn (b qK s σ H Q I h) λc s1 e=>?_);cases c with
 |true=>exact isTrue_and_nil e
 |false=>exact e
def pw_or1(b:PT X a tA):PW X (.BoolOp .Or [a] pos) tA:=by
 intro d qK s σ H Q I h;refine isTrue_or (thn (b qK s σ H Q I h) λc s1 e=>?_);cases c with
 |false=>exact isTrue_or_nil e
 |true=>exact e
def pw_and(e:PT X a tA)(f:PW X (.BoolOp .And (b::rest) pos) tB'):PW X (.BoolOp .And (a::b::rest) pos) (b9m tA tB'):=by
 intro g qK s σ H Q I h;refine isTrue_and (thn (e qK s σ H _ I h) λc s1 ⟨H1,d,q1⟩=>?_);cases c with
 |true=>exact f g qK s1 σ H1 Q d q1
 |false=>exact⟨H1,d,q1⟩
def pw_or(e:PT X a tA)(f:PW X (.BoolOp .Or (b::rest) pos) tB'):PW X (.BoolOp .Or (a::b::rest) pos) (tOr tA tB'):=by
 intro g qK s σ H Q I h;refine isTrue_or (thn (e qK s σ H _ I h) λc s1 ⟨H1,d,q1⟩=>?_);cases c with
 |true=>exact⟨H1,d,q1⟩
 |false=>exact f g qK s1 σ H1 Q d q1
def b7w(b:PT X a tA):PT X (.UnaryOp .Not a pos) (b9h tA):=by
 intro qK s σ H Q I h;exact isTrue_not (b qK s σ H (λc H1=>Q (!c) H1) I h)
def b6z(ta tb:TE):TE:=λσ H Q=>ta σ H λx H1=>∃c,x=.bl c/\if c=true then tb σ H1 Q else Q (.bl false) H1
def b9g(ta tb:TE):TE:=λσ H Q=>ta σ H λx H1=>∃c,x=.bl c/\if c=true then Q (.bl true) H1 else tb σ H1 Q
def b6w(ta:TE):TE:=λσ H Q=>ta σ H λx H1=>∃c,x=.bl c/\Q (.bl (!c)) H1
def b7K{op}{t:TE}(h:PE X a t):PE X (.BoolOp op [a] pos) t:=λqK s σ H Q I hw=>BoolOp_one (h qK s σ H Q I hw)
def b7R(e:PE X a ta)(f:PE X (.BoolOp .And (b::rest) pos) tb):PE X (.BoolOp .And (a::b::rest) pos) (b6z ta tb):=by
 intro qK s σ H Q I h;refine BoolOp_and (thn (e qK s σ H _ I h) λv s1 ⟨x,H1,d,g,q1⟩=>?_);obtain⟨c,rfl,q1⟩:=q1;cases g;refine dr ?_;cases c with
 |true=>exact f qK s1 σ H1 Q d q1
 |false=>exact⟨.bl false,H1,d,rfl,q1⟩
def b9A(e:PE X a ta)(f:PE X (.BoolOp .Or (b::rest) pos) tb):PE X (.BoolOp .Or (a::b::rest) pos) (b9g ta tb):=by
 intro qK s σ H Q I h;refine BoolOp_or (thn (e qK s σ H _ I h) λv s1 ⟨x,H1,d,g,q1⟩=>?_);obtain⟨c,rfl,q1⟩:=q1;cases g;refine dr ?_;cases c with
 |false=>exact f qK s1 σ H1 Q d q1
 |true=>exact⟨.bl true,H1,d,rfl,q1⟩
def b7L(d:PE X a ta):PE X (.UnaryOp .Not a pos) (b6w ta):=by
 intro qK s σ H Q I h;refine UnaryOp_ (thn (d qK s σ H _ I h) λv s1 ⟨x,H1,b,e,q1⟩=>?_);obtain⟨c,rfl,q1⟩:=q1;cases e;exact not_of (dr ⟨.bl (!c),H1,b,rfl,q1⟩)
def tIf(t:TT)(ta tb:TE):TE:=λσ H Q=>t σ H λc H1=>if c=true then ta σ H1 Q else tb σ H1 Q
def b2J(i:PT X c tA)(f:PE X a ta)(g:PE X b tb):PE X (.IfExp c a b pos) (tIf tA ta tb):=by
 intro qK s σ H Q I h;refine wpAny_IfExp (thn (i qK s σ H _ I h) λd s1 ⟨H1,e,q1⟩=>?_);cases d with
 |true=>exact f qK s1 σ H1 Q e q1
 |false=>exact g qK s1 σ H1 Q e q1
end
def SqL(K:qF)(H:Hp)(a:qE)(xs:qA V):Prop :=
 Rd H a (.lst xs) ∨
  ∃(o:Obj) (its:Array qB) (n:Nat),K.lookup a=some o/\o.cls=.type "list"/\o.dict=none/\o.data=.seq its n/\its.size<=sizeLine/\Vals xs its.toList
def SqT(K:qF)(H:Hp)(a:qE)(xs:qA V):Prop :=
 Rd H a (.tup xs) ∨
  ∃(o:Obj) (its:Array qB) (n:Nat),K.lookup a=some o/\o.cls=.type "tuple"/\o.data=.seq its n/\its.size<=sizeLine/\Vals xs its.toList
def c0d:qB->qD V
 |.none=>some .non
 |.bool b=>some (.bl b)
 |.int i _=>some (.int i)
 |.str x _=>some (.str x)
 |.bytes b _=>some (.byt b)
 |.float b _=>some (.flt b)
 |.ref a=>some (.ref a)
 |.type n=>some (.ty n)
 |_=>none
def RelV.abs{x:V}(r:RelV x u):c0d u=some x:=by
 cases x with
 |non=>cases r;rfl
 |bl _=>cases r;rfl
 |int _=>obtain⟨t,rfl⟩:=r;rfl
 |str _=>obtain⟨t,rfl⟩:=r;rfl
 |byt _=>obtain⟨t,rfl⟩:=r;rfl
 |flt _=>obtain⟨t,rfl⟩:=r;rfl
 |ref _=>cases r;rfl
 |ty _=>cases r;rfl
def RelV.inj{x y:V}(r:RelV x u)(q:RelV y u):x=y:=bB (r.abs.symm.trans q.abs)
def Vals.inj:∀{xs ys:qA V}{us:qA qB},Vals xs us->Vals ys us->xs=ys
 |_,_,_,.nil,.nil=>rfl
 |_,_,_,.cons r t,.cons r' t'=>by rw[r.inj r',Vals.inj t t']
section
variable {ys:qA V}
def SqL.of(h:H a=some (.lst xs)):SqL K H a xs:=.inl (.inl h)
def SqT.of(h:H a=some (.tup xs)):SqT K H a xs:=.inl (.inl h)
def Inv.list(I:Inv X qK σ H s)(h:SqL X.K H a xs):∃its:qA qB,Vals xs its/\PlainL s.heap a its.toArray/\xs.length<=sizeLine:=by
 rcases h with h|⟨o,its,n,c,b,hd,hs,d,r⟩
 .obtain⟨z,its,n,r,e⟩:=h.ok I.hok;exact⟨its,r,⟨_,n,e,rfl,rfl,rfl⟩,z⟩
 .refine⟨its.toList,r,⟨o,n,I.kIn a o c,b,hd,by simpa using hs⟩,?_⟩;have e:=r.length;simp only[az]at e;omega
def Inv.tuple(I:Inv X qK σ H s)(h:SqT X.K H a xs):∃its:qA qB,Vals xs its/\IsTup s.heap a its.toArray/\xs.length<=sizeLine:=by
 rcases h with h|⟨o,its,n,c,b,hs,d,r⟩
 .obtain⟨z,its,r,p⟩:=h.ok I.hok;exact⟨its,r,p,z⟩
 .refine⟨its.toList,r,⟨o,I.kIn a o c,b,n,by simpa using hs⟩,?_⟩;have e:=r.length;simp only[az]at e;omega
def Inv.list_inj(I:Inv X qK σ H s)(h:SqL X.K H a xs)(h':SqL X.K H a ys):xs=ys:=by
 obtain⟨its,r,⟨o,n,e,_,_,d⟩,_⟩:=I.list h;obtain⟨b,g,⟨o',i,f,_,_,c⟩,_⟩:=I.list h';rw[e]at f;cases f;rw[d]at c;injection c with d1 _
 have:its=b:=by simpa using aP Array.toList d1
 subst this;exact r.inj g
def Inv.tuple_inj(I:Inv X qK σ H s)(h:SqT X.K H a xs)(h':SqT X.K H a ys):xs=ys:=by
 obtain⟨its,r,⟨o,e,_,n,d⟩,_⟩:=I.tuple h;obtain⟨b,g,⟨o',f,_,i,c⟩,_⟩:=I.tuple h';rw[e]at f;cases f;rw[d]at c;injection c with d1 _
 have:its=b:=by simpa using aP Array.toList d1
 subst this;exact r.inj g
end
abbrev Cx.wish(X:Cx)(E:qH):Cx:={X with xe:=E}
abbrev Cx.nox(X:Cx):Cx:=X.wish λ_ _=>False
def Cx.Ok.wish(ok:X.Ok)(E:qH):(X.wish E).Ok :=
 ⟨ok.mod,ok.kind,ok.glob,ok.blt,ok.above,ok.inj,ok.has,ok.cab,ok.hd,ok.frames,ok.stk,ok.exf,ok.bs,ok.bsz,ok.noex,ok.exfs,ok.funs,ok.frf⟩
def Cx.Ok.unwish(ok:(X.wish E).Ok):X.Ok :=
 ⟨ok.mod,ok.kind,ok.glob,ok.blt,ok.above,ok.inj,ok.has,ok.cab,ok.hd,ok.frames,ok.stk,ok.exf,ok.bs,ok.bsz,ok.noex,ok.exfs,ok.funs,ok.frf⟩
def Inv.wish(I:Inv X qK σ H s)(E:qH):Inv (X.wish E) qK σ H s:=⟨I.ok.wish E,I.os,I.bare,I.base,I.loc,I.cell,I.free,I.freeC,I.pin,I.hok,I.len⟩
def Inv.unwish(I:Inv (X.wish E) qK σ H s):Inv X qK σ H s:=⟨I.ok.unwish,I.os,I.bare,I.base,I.loc,I.cell,I.free,I.freeC,I.pin,I.hok,I.len⟩
def SP.unwish{D:Ends}{f:Flow}{s':qC}(h:SP (X.wish E) qK D f s'):SP X qK D f s':=by
 cases f with
 |next=>obtain⟨σ',H',I,q⟩:=h;exact⟨σ',H',I.unwish,q⟩
 |brk=>obtain⟨σ',H',I,q⟩:=h;exact⟨σ',H',I.unwish,q⟩
 |cont=>obtain⟨σ',H',I,q⟩:=h;exact⟨σ',H',I.unwish,q⟩
 |ret u=>obtain⟨v,σ',H',I,r,q⟩:=h;exact⟨v,σ',H',I.unwish,r,q⟩
def PSs.nox{st:qA Stmt}{t:TS}(h:PSs X.nox st t):PSs X st t:=λqK s σ H D I hw =>
 cH (h qK s σ H D (I.wish _) hw) (λ_ _ q=>q.unwish) λ_ _ z=>False.elim z
section
variable {st:Stmt}{rest:qA Stmt}{t u:TS}
def b1G:TS:=λD σ H=>D.nx σ H
def b7l(t u:TS):TS:=λD σ H=>t {D with nx:=u D} σ H
def b5a:PSs X [] b1G:=λ_ _ σ H _ I h=>c_ ⟨σ,H,I,h⟩
def b2w(h1:PS X st t)(h2:PSs X rest u):PSs X (st::rest) (b7l t u):=by
 intro qK s σ H D I h;refine eG (thn (h1 qK s σ H {D with nx:=u D} I h) λf s1 q=>?_);cases f with
 |next =>
  obtain⟨σ',H',a,q⟩:=q;exact h2 qK s1 σ' H' D a q
 |ret v=>exact q
 |brk=>exact q
 |cont=>exact q
def b4Z(h1:PS X st t):PSs X [st] t:=by
 intro qK s σ H D I h;refine eG (thn (h1 qK s σ H D I h) λf s1 q=>?_);cases f with
 |next=>exact c_ q
 |ret v=>exact q
 |brk=>exact q
 |cont=>exact q
def b1I:TS:=λD σ H=>D.bk σ H
def b2B:PS X (.Break pos) b1I:=λ_ _ σ H _ I h=>wpAny_Break ⟨σ,H,I,h⟩
def Inv.quiet(I:Inv X qK σ H s):interactive X.env=false:=by simp[interactive,I.ok.kind]
def b6y(te:TE):TS:=λD σ H=>te σ H λ_ H1=>D.nx σ H1
def b5c(b:PE X e te)(hs:swapsWith e none pos.line X.env=pure false:=by rfl):PS X (.Expr e pos) (b6y te):=by
 intro qK s σ H D I h;exact wpAny_Expr_any (thn (b qK s σ H _ I h) λv s1 ⟨x,H1,a,c,q1⟩=>⟨σ,H1,a,q1⟩) I.quiet hs
def b7m(te:TE):TS:=λD σ H=>te σ H D.rt
def b7z(b:PE X e te):PS X (.Return (some e) pos) (b7m te):=by
 intro qK s σ H D I h;exact wpAny_Return_some (thn (b qK s σ H _ I h) λv s1 ⟨x,H1,a,c,q1⟩=>⟨x,σ,H1,a,c,q1⟩)
def c0g:TS:=λD _ H=>D.rt .non H
def b9i(c:TT)(t u:TS):TS:=λD σ H=>c σ H λb H1=>if b=true then t D σ H1 else u D σ H1
def b9x{a b:qA Stmt}{tc:TT}(i:PT X c tc)(f:PSs X a t)(g:PSs X b u):PS X (.If c a b pos) (b9i tc t u):=by
 intro qK s σ H D I h;refine wpAny_If (thn (i qK s σ H _ I h) λd s1 ⟨H1,e,q1⟩=>?_);cases d with
 |true=>exact f qK s1 σ H1 D e q1
 |false=>exact g qK s1 σ H1 D e q1
end
abbrev TG:=V->St->Hp->(St->Hp->Prop)->Prop
abbrev TGs:=qA V->St->Hp->(St->Hp->Prop)->Prop
def PG(X:Cx)(target:Expr)(t:TG):Prop :=
 ∀(qK:qA (qE×Obj)) (s:qC) (σ:St) (H:Hp) (v:V) (u:qB) (Q:St->Hp->Prop),Inv X qK σ H s->RelV v u->t v σ H Q ->
  wpAny (model X.prog X.w) X.A (assign target X.env u) (λ_ s'=>∃σ' H',Inv X qK σ' H' s'/\Q σ' H') X.xe s
def PGs(X:Cx)(ts:qA Expr)(t:TGs):Prop :=
 ∀(qK:qA (qE×Obj)) (s:qC) (σ:St) (H:Hp) (vs:qA V) (us:qA qB) (Q:St->Hp->Prop),Inv X qK σ H s->Vals vs us->t vs σ H Q ->
  wpAny (model X.prog X.w) X.A (assignInOrder ((assignEach ts X.env).map (·.2)) us) (λ_ s'=>∃σ' H',Inv X qK σ' H' s'/\Q σ' H') X.xe s
abbrev b8X:=V->V->V->Hp->(Hp->Prop)->Prop
def b9S(X:Cx)(t:b8X):Prop :=
 ∀(qK:qA (qE×Obj)) (s:qC) (σ:St) (H:Hp) (o i v:V) (ov iv u:qB) (Q:Hp->Prop),Inv X qK σ H s->RelV o ov->RelV i iv->RelV v u->t o i v H Q ->
  wpAny (model X.prog X.w) X.A (setItem ov iv u) (λ_ s'=>∃H',Inv X qK σ H' s'/\Q H') X.xe s
abbrev TIp:=V->V->Hp->VK->Prop
def B0(i:Nat):TG:=λv σ H Q=>Q (σ.set i (some v)) H
def b5q(b:X.N.Nodup)(hi:X.N[i]?=some x)(d:Loc X.env.scope x)(c:X.fn x=true∨X.env.scope.names.lookup x=some .local:=by first|exact .inl rfl|exact .inr rfl|assumption):PG X (.Name x pos) (B0 i):=by
 intro qK s σ H v u Q I r h;exact wpAny_assign_Name (O5 I b hi d r (λs' a=>⟨_,H,a,h⟩) c)
def a8b:TGs:=λvs σ H Q=>vs=[]/\Q σ H
def Y5(t:TG)(u:TGs):TGs:=λvs σ H Q=>∃v r,vs=v::r/\t v σ H λσ' H'=>u r σ' H' Q
def b5o:PGs X [] a8b:=by
 intro qK s σ H b a Q I r h;obtain⟨e,h⟩:=h;subst e;cases r;exact assignInOrder_nil ⟨σ,H,I,h⟩
def b2G{t:TG}{u:TGs}(h1:PG X e t)(h2:PGs X es u)
  (hs:(assignEach (e::es) X.env).map (·.2)=assign e X.env::(assignEach es X.env).map (·.2):=by rfl):PGs X (e::es) (Y5 t u):=by
 intro qK s σ H f c Q I r h;obtain⟨v,d,b,h⟩:=h;subst b;cases r with
 |cons r rr =>
  rw[hs];refine assignInOrder_cons (thn (h1 qK s σ H _ _ _ I r h) λ_ s1 ⟨σ1,H1,a,q1⟩=>?_);exact h2 qK s1 σ1 H1 _ _ Q a rr q1
def a6W(K:qF)(n:Nat)(t:TGs):TG:=λv σ H Q=>∃a xs,v=.ref a/\SqT K H a xs/\xs.length=n/\t xs σ H Q
def b7G{t:TGs}(i:X.calm=true)(h:PGs X es t)
  (l:(assignEach es X.env).length=n:=by rfl) (c:(assignEach es X.env).findIdx? (·.1)=none:=by rfl):PG X (.Tuple es k pos) (a6W X.K n t):=by
 intro qK s σ H v u Q I r hw;obtain⟨a,xs,g,m,j,hw⟩:=hw;subst g;cases r;obtain⟨its,d,p,w⟩:=I.tuple m;refine assign_Tuple_tuple (I.ok.hd i) p (by simp[l,<-j,d.length]) c λh' q=>?_;have f:Inv X qK σ H {s with heap:=h'}:=I.kept (t':=s.toks) λb o e=>q b o (aK (aF e)) e;exact h qK _ σ H xs _ Q f (by simpa using d) hw
def b9P(to ti:TE)(t:b8X):TG:=λv σ H Q=>to σ H λo H1=>ti σ H1 λi H2=>t o i v H2 λH3=>Q σ H3
def b7H{o i:Expr}{to c:TE}{t:b8X}(k:PE X o to)(hi:PE X i c)(hs:b9S X t)
  (j:∀v,assign (.Subscript o i pos) X.env v=(do
   let a <-holding [v] (eval o X.env)
   let b <-holding [v,a] (eval i X.env)
   standAt pos
   holding [v,a,b] (setItem a b v)
   release [v,a,b] []):=by intro _;rfl):PG X (.Subscript o i pos) (b9P to c t):=by
 intro qK s σ H v u Q I r h;rw[j];refine aa (ck (thn (k qK s σ H _ I h) λa s1 ⟨x,H1,e,n,q1⟩=>?_));refine aa (ck (thn (hi qK s1 σ H1 _ e q1) λb s2 ⟨y,H2,f,p,l⟩=>?_));refine aa (wpAny_standAt (aa (ck (thn (hs qK s2 σ H2 x y v a b u _ f n p r l) λ_ q ⟨d,g,m⟩=>?_))));exact wpAny_release ⟨σ,d,g,m⟩
def a9S(te:TE)(g:TG):TS:=λD σ H=>te σ H λx H1=>g x σ H1 D.nx
def b7D{g:TG}(b:PE X e te)(c:PG X tg g)(hs:swapsWithSole [tg] e pos.line X.env=pure false:=by rfl)(hw:swappedStores [tg] e X.env=pure none:=by rfl)
  (h1:(assignEach [tg] X.env).map (·.2)=[assign tg X.env]:=by rfl):PS X (.Assign [tg] e pos) (a9S te g):=by
 intro qK s σ H D I h;refine wpAny_Assign_stores (thn (b qK s σ H _ I h) λv s1 ⟨x,H1,a,d,q1⟩=>?_) hs hw;rw[h1];exact thn (c qK s1 σ H1 x v _ a d q1) λ_ s2 q=>q
def b7y{pos':Pos}(c:X.N.Nodup)(hi:X.N[i]?=some x)(g:Loc X.env.scope x)(d:PE X e te)(hs:swapsWith e (some (.Name x pos')) pos.line X.env=pure false:=by rfl)(f:X.fn x=true∨X.env.scope.names.lookup x=some .local:=by first|exact .inl rfl|exact .inr rfl|assumption) :
  PS X (.Assign [.Name x pos'] e pos) (a9S te (B0 i)):=by
 intro qK s σ H D I h;refine wpAny_Assign_Name (thn (d qK s σ H _ I h) λv s1 ⟨y,H1,a,j,q1⟩=>?_) hs;exact O5 a c hi g j (λs2 b=>⟨_,H1,b,q1⟩) f
def b9f(i j:Nat)(ta:TA):TS:=λD σ H=>ta σ H λvs H1=>∃v w,vs=[v,w]/\D.nx ((σ.set i (some v)).set j (some w)) H1
def b7A{j:Nat}{y:Str}{a b:Expr}{ta:TA}{k l pt:Pos}{kt k2 pt2}(G:X.calm=true)(r:X.N.Nodup)(hi:X.N[i]?=some x)(J:X.N[j]?=some y)(f:i≠j)
  (t:X.env.scope.names.lookup x=some .local) (u:X.env.scope.names.lookup y=some .local) (F:PA X [a,b] ta)
  (hw:swappedStores [.Tuple [.Name x k,.Name y l] kt pt] (.Tuple [a,b] k2 pt2) X.env=pure (some [x,y]))
  (hs:swapsWithSole [.Tuple [.Name x k,.Name y l] kt pt] (.Tuple [a,b] k2 pt2) pos.line X.env=pure false:=by rfl) :
  PS X (.Assign [.Tuple [.Name x k,.Name y l] kt pt] (.Tuple [a,b] k2 pt2) pos) (b9f i j ta):=by
 intro qK s σ H D I h;rw[exec_Assign_arm];refine aa (wpAny_standAt ?_);rw[hs];refine aa (ag ?_);rw[ao (by decide)];refine aa (Tuple_ (thn (F _ qK s σ H _ I h) λM s1 ⟨O,H1,z,K,q1⟩=>?_));obtain⟨v,w,E,q1⟩:=q1;subst E;obtain⟨c,d,rfl,L,m⟩:∃c d,M=[c,d]/\RelV v c/\RelV w d:=by
  cases K with
  |cons p q =>
   cases q with
   |cons p' q' =>
    cases q';exact⟨_,_,rfl,p,p'⟩
 refine bU ?_ (by show 2<=sizeLine;decide);have A:Inv X qK σ H1 {s1 with heap:=s1.heap.push {cls:=.type "tuple",data:=.seq [c,d].toArray}}:=z.kept (t':=s1.toks) λb o e=>ae _ e;rw[hw];refine aa (ag ?_);show wpAny (model X.prog X.w) X.A (do rule "assign.swapped-stores";let items <-unpackItems (.ref s1.heap.objs.size) 2 none;assignInOrder [λv=>bindName X.env y v,λv=>bindName X.env x v] items.reverse;pure Flow.next) _ _ _;refine aa (eH (aa (unpackItems_tuple (items:=#[c,d]) (I.ok.hd G) (IsTup.new s1.heap _) λh' g=>?_)));have B:=A.kept (h':=h') (t':=s1.toks) λb o e=>g b o (aK (aF e)) e;show wpAny _ _ (assignInOrder [λv=>bindName X.env y v,λv=>bindName X.env x v] [d,c]>>=λ_=>pure Flow.next) _ _ _;refine aa (assignInOrder_cons (wpAny_bindName (O5 B r J (.inl u) m (λs2 C=>?_) (.inr u))));refine assignInOrder_cons (wpAny_bindName (O5 C r hi (.inl t) L (λN n=>assignInOrder_nil (ag ?_)) (.inr t)));rw[List.set_comm _ _ (dq f)]at n;exact⟨_,H1,n,q1⟩
def ipI(f:Int->Int->Int):TIp:=λx y H Q=>∃i j,x=.int i/\y=.int j/\Q (.int (f i j)) H
def b1C(c:TT)(tb:TS):TS:=λD σ H=>∃W:Nat->St->Hp->Prop,(∃m,W m σ H)/\∀m σ H,W m σ H ->
 c σ H λb H1=>if b=true then ∃N:St->Hp->Prop,(∀σ' H',N σ' H'->∃m',m'<m/\W m' σ' H')/\tb {D with nx:=N,ct:=N,bk:=D.nx} σ H1 else D.nx σ H1
def b2x{tc:TT}(hp:PassesOwn (model X.prog X.w) X.A X.env X.xe)(t:PT X c tc)(r:PSs X body tb):PS X (.While c body [] pos) (b1C tc tb):=by
 intro qK s σ H D I h;obtain⟨W,⟨u,w⟩,d⟩:=h;refine wpAny_While (codeAny_whileLoop (λn s'=>∃σ' H',Inv X qK σ' H' s'/\W n σ' H') ?_ u ⟨σ,H,I,w⟩);rintro n s1 ⟨σ1,H1,q,x⟩;refine dH hp (thn (t qK s1 σ1 H1 _ q (d n σ1 H1 x)) λb s2 ⟨H2,o,e⟩=>?_);cases b with
 |true =>
  obtain⟨N,p,e⟩:=e;rw[av rfl];refine dH hp (thn (r qK s2 σ1 H2 _ o e) λf y g=>?_);cases f with
  |next =>
   obtain⟨σ3,a,i,l⟩:=g;obtain⟨k,j,m⟩:=p σ3 a l;exact⟨k,j,σ3,a,i,m⟩
  |cont =>
   obtain⟨σ3,a,i,l⟩:=g;obtain⟨k,j,m⟩:=p σ3 a l;exact⟨k,j,σ3,a,i,m⟩
  |brk=>exact g
  |ret v=>exact g
 |false =>
  rw[ao aY];exact c_ ⟨σ1,H2,o,e⟩
structure It where
 go:Nat->Hp->Prop
 yld:Nat->Hp->V->Hp->Prop
 stop:Nat->Hp->Prop
def a1T(X:Cx)(qK:qA (qE×Obj))(H:Hp)(b:qE):Prop :=
 H b=none/\b≠X.env.locals/\b∉X.fs/\(b∈X.ex∨X.s₀.heap.objs.size<=b)/\(∀x c,X.env.cells.lookup x=some c->c≠b)/\∀p∈X.pn++qK,p.1≠b
def Inv.fpOk(I:Inv X qK σ H s)(a:s.heap.objs.size<=b)(d:H' b=none):a1T X qK H' b:=by
 refine⟨d,cR (aJ I.lt a),I.nofs a,.inr (bh I.sz a),λx c e z=>?_,λp f z=>?_⟩
 .obtain⟨v,q⟩:=I.cell x c e;exact absurd (aJ q.lt (by rw[z];exact a)) (bN _)
 .exact absurd (aJ (aF (I.pin p f).1) (by rw[z];exact a)) (bN _)
structure Turn(P:qG)(w:World)(K:qF)(tg:Expr)(J:It)(fp:qA qE)(it:qE)(tn:Nat->Heap->Prop):Prop where
 mem:it∈fp
 obj:∀i h,tn i h->∀b∈fp,∃o,h.get? b=some o/\∀v,o.data≠.cell v
 keep:∀i h h',tn i h->(∀b∈fp,∀o,h.get? b=some o->h'.get? b=some o)->tn i h'
 item:∀(X:Cx),X.prog=P->X.w=w->X.K=K->X.calm=true->∀(i:Nat) (qK:qA (qE×Obj)) (s:qC) (σ:St) (H:Hp) (E:qH),Inv X qK σ H s->(∀b∈fp,a1T X qK H b)->tn i s.heap->J.go i H ->
  wpAny (model P w) X.A (pyNext (.ref it)) (λr s1=>∃u,r=some u /\
   wpAny (model P w) X.A (letOwnedTupleGo tg (.ref it) u) (λ_ s2=>∃x H',Inv X qK σ H' s2/\RelV x u/\J.yld i H x H'/\tn (i+1) s2.heap/\∀b∈fp,H' b=none) E s1) E s
 done:∀(X:Cx),X.prog=P->X.w=w->X.K=K->X.calm=true->∀(i:Nat) (qK:qA (qE×Obj)) (s:qC) (σ:St) (H:Hp) (E:qH),Inv X qK σ H s->(∀b∈fp,a1T X qK H b)->tn i s.heap->J.stop i H ->
  wpAny (model P w) X.A (pyNext (.ref it)) (λr s1=>r=none/\Inv X qK σ H s1) E s
 self:∀(A:Around) (i:Nat) (s:qC) (Q:qH) (E:qH),tn i s.heap->Q (.ref it) s->wpAny (model P w) A (pyIter (.ref it)) Q E s
abbrev TI:=St->Hp->(It->Hp->Prop)->Prop
def PIE(X:Cx)(qK:qA (qE×Obj))(σ:St)(tg:Expr)(R:It->Hp->Prop)(itv:qB)(s2:qC):Prop :=
 ∃(it:qE) (fp:qA qE) (tn:Nat->Heap->Prop) (J:It) (H':Hp),itv=.ref it/\Inv X qK σ H' s2/\Turn X.prog X.w X.K tg J fp it tn/\tn 0 s2.heap/\(∀b∈fp,a1T X qK H' b)/\R J H'
def PI(X:Cx)(tg iter:Expr)(wi:TI):Prop :=
 ∀(qK:qA (qE×Obj)) (s:qC) (σ:St) (H:Hp) (R:It->Hp->Prop),Inv X qK σ H s->wi σ H R ->
  wpAny (model X.prog X.w) X.A (eval iter X.env) (λv s1=>wpAny (model X.prog X.w) X.A (pyIter v) (PIE X qK σ tg R) X.xe s1) X.xe s
def a9p{it:qE}{o:Obj}{n:String}{vs:Array qB}{Q:Unit->qC->Prop}(d:s.heap.get? it=some o)(b:o.cls=.type n)(hd:o.data=.fields vs)
  (c:["enumerate","zip","dict_itemiterator","dict_reverseitemiterator","odict_iterator","itertools.zip_longest","itertools.pairwise"].contains n=false) (a:Q () s):wpAny M A (letOwnedTupleGo tg (.ref it) u) Q E s:=by
 unfold letOwnedTupleGo;cases tg<;>first
  |exact ag a
  | (cases u <;> first
    |exact ag a
    | (refine aa (wpAny_load d ?_)
       rw[b,hd];show wpAny M A (if (["enumerate","zip","dict_itemiterator","dict_reverseitemiterator","odict_iterator","itertools.zip_longest","itertools.pairwise"].contains n && vs[0]? == some (rawInt _))=true then _ else _) Q E s;rw[ao (by intro h;rw[c,Bool.false_and]at h;cases h)];exact ag a))
def Itl(K:qF)(a:qE):It :=
 ⟨λi H=>∃xs x,SqL K H a xs/\xs[i]?=some x,λi H x H'=>H'=H/\∀xs,SqL K H a xs->xs[i]?=some x,λi H=>∃xs,SqL K H a xs/\xs.length<=i⟩
def Itt(K:qF)(a:qE):It :=
 ⟨λi H=>∃xs x,SqT K H a xs/\xs[i]?=some x,λi H x H'=>H'=H/\∀xs,SqT K H a xs->xs[i]?=some x,λi H=>∃xs,SqT K H a xs/\xs.length<=i⟩
def Itr(lo:Int)(n:Nat):It:=⟨λi _=>i<n,λi H x H'=>H'=H/\x=.int (lo+i),λi _=>n<=i⟩
def a9O(a it:qE):Turn P w K tg (Itl K a) [it] it (λi h=>h.IsListIter it a i) where
 mem:=by simp
 obj:=λi h st b f=>by
  have e:b=it:=by simpa using f
  subst e;obtain⟨o,e,c,d⟩:=st;exact⟨o,e,λv z=>by rw[d]at z;cases z⟩
 keep:=λi h h' st k=>st.at λo e=>k it (by simp) o e
 item:=by
  intro X t hw r C i qK s σ H E I g st y;subst t hw r;obtain⟨xs,x,j,A⟩:=y;obtain⟨its,B,p,L⟩:=I.list j;obtain⟨u,G,M⟩:=B.get A;obtain⟨l,f1,f2,m,n,q⟩:=g it (by simp);refine wpAny_pyNext_list_item st p.isList (x:=u) (by simpa using G) λh' st' N=>?_;have D:Inv X qK σ H {s with heap:=h'}:=I.turned (t':=s.toks) (λb o f e=>(N.2 b f).trans e) l f1 m n q;obtain⟨o,e,c,d⟩:=id st';exact⟨u,rfl,a9p (s:={s with heap:=h'}) e c d (by decide) ⟨x,H,D,M,⟨rfl,λys J=>by rw[I.list_inj J j];exact A⟩,st',λb f=>(g b f).1⟩⟩
 done:=by
  intro X t hw r C i qK s σ H E I g st y;subst t hw r;obtain⟨xs,j,A⟩:=y;obtain⟨its,B,p,L⟩:=I.list j;obtain⟨l,f1,f2,m,n,q⟩:=g it (by simp);have O:=B.length;exact wpAny_pyNext_list_end (I.ok.hd C) st p.isList (by simp;omega) λh' F=>⟨rfl,I.turned (t':=s.toks) (λb o f e=>F b o f e) l f1 m n q⟩
 self:=λ_ _ _ _ _ st h=>wpAny_pyIter_listiter st h
def a7m(a it:qE):Turn P w K tg (Itt K a) [it] it (λi h=>h.IsTupleIter it a i) where
 mem:=by simp
 obj:=λi h st b f=>by
  have e:b=it:=by simpa using f
  subst e;obtain⟨o,e,c,d⟩:=st;exact⟨o,e,λv z=>by rw[d]at z;cases z⟩
 keep:=λi h h' st k=>st.at λo e=>k it (by simp) o e
 item:=by
  intro X t hw r C i qK s σ H E I g st y;subst t hw r;obtain⟨xs,x,j,A⟩:=y;obtain⟨its,B,p,L⟩:=I.tuple j;obtain⟨u,G,M⟩:=B.get A;obtain⟨l,f1,f2,m,n,q⟩:=g it (by simp);refine wpAny_pyNext_tuple_item st (show s.heap.IsTuple a its.toArray from p) (x:=u) (by simpa using G) λh' st' N=>?_;have D:Inv X qK σ H {s with heap:=h'}:=I.turned (t':=s.toks) (λb o f e=>(N.2 b f).trans e) l f1 m n q;obtain⟨o,e,c,d⟩:=id st';exact⟨u,rfl,a9p (s:={s with heap:=h'}) e c d (by decide) ⟨x,H,D,M,⟨rfl,λys J=>by rw[I.tuple_inj J j];exact A⟩,st',λb f=>(g b f).1⟩⟩
 done:=by
  intro X t hw r C i qK s σ H E I g st y;subst t hw r;obtain⟨xs,j,A⟩:=y;obtain⟨its,B,p,L⟩:=I.tuple j;obtain⟨l,f1,f2,m,n,q⟩:=g it (by simp);have O:=B.length;exact wpAny_pyNext_tuple_end (I.ok.hd C) st (show s.heap.IsTuple a its.toArray from p) (by simp;omega) λh' F=>⟨rfl,I.turned (t':=s.toks) (λb o f e=>F b o f e) l f1 m n q⟩
 self:=λ_ _ _ _ _ st h=>wpAny_pyIter_tupleiter st h
def a7n(it:qE)(lo:Int)(n:Nat):Turn P w K tg (Itr lo n) [it] it (λi h=>IsRangeIter h it (lo+(i:Nat)*1) ((n:Int)-(i:Nat)) 1) where
 mem:=by simp
 obj:=λi h st b a=>by
  have e:b=it:=by simpa using a
  subst e;exact⟨_,st,λv z=>by
   have y:Data.fields _=Data.cell v:=z;cases y⟩
 keep:=λi h h' st k=>k it (by simp) _ st
 item:=by
  intro X m hw l p i qK s σ H E I c st q;subst m hw l;obtain⟨d,f1,f2,f,g,j⟩:=c it (by simp);have W:=Walks.range (prog:=X.prog) (w:=X.w) (I.ok.hd p) it lo 1 n;refine W.item i s _ _ q st λv h' tk x st' kk=>?_;obtain⟨t,rfl⟩:=x;have r:Inv X qK σ H {s with heap:=h',toks:=tk}:=I.turned (λb o a e=>kk b o (by simpa using a) e) d f1 f g j;refine⟨_,rfl,a9p (s:={s with heap:=h',toks:=tk}) (n:="range_iterator") st' rfl rfl (by decide) ⟨.int (lo+i),H,r,⟨t,?_⟩,⟨rfl,rfl⟩,st',λb a=>(c b a).1⟩⟩;rw[Int.mul_one]
 done:=by
  intro X m hw l p i qK s σ H E I c st q;subst m hw l;obtain⟨d,f1,f2,f,g,j⟩:=c it (by simp);exact wpAny_pyNext_range_end (I.ok.hd p) st (by have:n<=i:=q;omega) λh' u=>⟨rfl,I.turned (t':=s.toks) (λb o a e=>u b o a e) d f1 f g j⟩
 self:=λ_ _ _ _ _ st h=>wpAny_pyIter_rangeiter st h
def b3H(K:qF)(tl:TE):TI:=λσ H R=>tl σ H λx H1=>∃a,x=.ref a/\(∃xs,SqL K H1 a xs)/\R (Itl K a) H1
def b8D(K:qF)(tl:TE):TI:=λσ H R=>tl σ H λx H1=>∃a,x=.ref a/\(∃xs,SqT K H1 a xs)/\R (Itt K a) H1
def b5l{tl:TE}(f:PE X l tl):PI X tg l (b3H X.K tl):=by
 intro qK s σ H R I h;refine thn (f qK s σ H _ I h) λv s1 ⟨x,H1,c,i,q1⟩=>?_;obtain⟨a,e,⟨xs,g⟩,q⟩:=q1;subst e;cases i;obtain⟨its,k,p,j⟩:=c.list g;refine fu p.isList ?_;refine⟨s1.heap.objs.size,[s1.heap.objs.size],_,_,H1,rfl,c.kept (t':=s1.toks) λb o e=>ae _ e,a9O a _,⟨_,aC _ rfl,rfl,rfl⟩,λb d=>?_,q⟩;have e:b=s1.heap.objs.size:=by simpa using d
 subst e;exact c.fpOk (ak _) (c.hok.fresh (ak _))
def b7F{tl:TE}(f:PE X l tl):PI X tg l (b8D X.K tl):=by
 intro qK s σ H R I h;refine thn (f qK s σ H _ I h) λv s1 ⟨x,H1,c,i,q1⟩=>?_;obtain⟨a,e,⟨xs,g⟩,q⟩:=q1;subst e;cases i;obtain⟨its,k,p,j⟩:=c.tuple g;refine wpAny_pyIter_tuple (show s1.heap.IsTuple a its.toArray from p) ?_;refine⟨s1.heap.objs.size,[s1.heap.objs.size],_,_,H1,rfl,c.kept (t':=s1.toks) λb o e=>ae _ e,a7m a _,⟨_,aC _ rfl,rfl,rfl⟩,λb d=>?_,q⟩;have e:b=s1.heap.objs.size:=by simpa using d
 subst e;exact c.fpOk (ak _) (c.hok.fresh (ak _))
def b2m{R:It->Hp->Prop}{lo hi:Int}{t u v:Tok}{tk:Nat}(I:Inv X qK σ H s)(h1 : -(2 ^ 62)<=lo)(h2:lo<2 ^ 62)(d : -(2 ^ 62)<=hi)(f:hi<2 ^ 62)
  (q:R (Itr lo (hi-lo).toNat) H):wpAny (model X.prog X.w) X.A (pyIter (.ref s.heap.objs.size)) (PIE X qK σ tg R) E {s with heap:=s.heap.push {cls:=.type "range",data:=.fields #[.int lo t,.int hi u,.int 1 v]},toks:=tk}:=by
 refine wpAny_pyIter_range (IsRange.new ..) (small_one h1 h2 d f) ?_;have a:Inv X qK σ H {s with heap:=s.heap.push {cls:=.type "range",data:=.fields #[.int lo t,.int hi u,.int 1 v]},toks:=tk}:=I.kept λb o e=>ae _ e;refine⟨(s.heap.push {cls:=.type "range",data:=.fields #[.int lo t,.int hi u,.int 1 v]}).objs.size,[(s.heap.push {cls:=.type "range",data:=.fields #[.int lo t,.int hi u,.int 1 v]}).objs.size],_,_,H,rfl,
  a.kept (t':=tk) λb o e=>ae _ e,a7n _ lo (hi-lo).toNat,?_,λb g=>?_,q⟩
 .have e1:lo+((0:Nat):Int)*1=lo:=by simp
  have c:(((hi-lo).toNat:Nat):Int)-((0:Nat):Int)=Builtin.Range.rangeSize lo hi 1:=by rw[rangeSize_one];split<;>omega
  show IsRangeIter _ _ (lo+((0:Nat):Int)*1) ((((hi-lo).toNat:Nat):Int)-((0:Nat):Int)) 1;rw[e1,c];exact aC _ rfl
 .have e:b=(s.heap.push {cls:=.type "range",data:=.fields #[.int lo t,.int hi u,.int 1 v]}).objs.size:=by simpa using g
  subst e;exact a.fpOk (ak _) (a.hok.fresh (ak _))
def b6X(ta:TA):TI:=λσ H R=>ta σ H λvs H1=>∃j:Int,vs=[.int j] /\ -(2 ^ 62)<=j/\j<2 ^ 62/\R (Itr 0 j.toNat) H1
def b0l{a:Expr}{ta:TA}{p:Pos}(d:Gl X "range")(f:X.mg "range"=none)(c:PA X [a] ta)(hs:starEach [a] X.env=[(false,eval a X.env)]:=by rfl):PI X tg (.Call (.Name "range" p) [a] [] pos) (b6X ta):=by
 intro qK s σ H R I h;refine Call_ (a1D I d f boot_range (dD (thn (c pos qK s σ H _ I h) λk s1 ⟨l,H1,b,i,q1⟩=>?_) hs rfl));obtain⟨j,e,q1,g,q⟩:=q1;subst e;cases i with
 |cons r rr =>
  cases rr;obtain⟨t,rfl⟩:=r;exact call_range_1 (b2m b (by omega) (by omega) q1 g (by simpa using q))
def b9j(wi:TI)(g:TG)(tb:TS):TS:=λD σ H=>wi σ H λJ H1=>∃W:Nat->Nat->St->Hp->Prop,(∃m,W 0 m σ H1)/\∀i m σ H,W i m σ H ->
 (J.stop i H/\D.nx σ H)∨(J.go i H/\∃N:St->Hp->Prop,(∀σ' H',N σ' H'->∃m',m'<m/\W (i+1) m' σ' H')/\∀x H',J.yld i H x H'->g x σ H' λσ2 H2=>tb {D with nx:=N,ct:=N,bk:=D.nx} σ2 H2)
def a3e(fp:qA qE)(h:Heap):qA (qE×Obj):=fp.filterMap λb=>(h.get? b).map λo=>(b,o)
def W3{o:Obj}(a:b∈fp)(e:h.get? b=some o):(b,o)∈a3e fp h:=cf.mpr ⟨b,a,by rw[e];rfl⟩
def b0w{p:qE×Obj}(hp:p∈a3e fp h):p.1∈fp/\h.get? p.1=some p.2:=by
 obtain⟨b,c,e⟩:=cf.mp hp;cases q:h.get? b with
 |none=>rw[q]at e;cases e
 |some o =>
  rw[q]at e;have a:(b,o)=p:=bB e;subst a;exact⟨c,q⟩
def Inv.pinned(I:Inv X qK σ H s)(g:∀b∈fp,a1T X qK H b)(h:∀b∈fp,∃o,s.heap.get? b=some o/\∀v,o.data≠.cell v):Inv X (qK++a3e fp s.heap) σ H s :=
 I.pins_of λp i=>(aD.mp i).elim (λz=>I.pin p (aR _ z)) λz=>by
  obtain⟨c,e⟩:=b0w z;obtain⟨f,f1,f2,_⟩:=g p.1 c;obtain⟨o,a,d⟩:=h p.1 c;rw[e]at a;cases a;exact⟨e,f,f1,f2,d⟩
def Inv.unpinned{pl:qA (qE×Obj)}(I:Inv X (qK++pl) σ H s):Inv X qK σ H s:=I.pins_of λp a=>I.pin p (aR _ (aQ _ a))
def b7B{U:TI}{g:TG}(hp:PassesOwn (model X.prog X.w) X.A X.env X.xe)(P:X.calm=true)(hi:PI X tg l U)(hg:PG X tg g)(k:PSs X body tb)
  (hs:∀x,foldedSetIterable l X.env x=pure x:=by intro _;rfl):PS X (.For tg l body [] pos) (b9j U g tb):=by
 intro qK s σ H D I h;refine wpAny_For (thn (hi qK s σ H _ I h) λv s1 h1=>thn h1 λa0 s2 h2=>?_) hs;obtain⟨it,fp,S,J,H2,e,Y,T,L,f2,W,⟨m0,w0⟩,B⟩:=h2;subst e;have p:∀{H':Hp},(∀b∈fp,H' b=none)->∀b∈fp,a1T X qK H' b:=λhn b k=>⟨hn b k,(f2 b k).2⟩;refine codeAny_forLoop_any (λn s'=>∃i σ' H',Inv X qK σ' H' s'/\S i s'.heap/\(∀b∈fp,H' b=none)/\W i n σ' H') ?_ m0 ⟨0,σ,H2,Y,L,λb k=>(f2 b k).1,w0⟩;rintro n Q ⟨i,σ3,C,O,z,w,w3⟩;rcases B i n σ3 C w3 with⟨A,qn⟩|⟨go,N,hN,step⟩
 .refine dH hp (thn (T.done X rfl rfl rfl P i qK Q σ3 C X.xe O (p w) z A) λr s4 ⟨G,Z⟩=>?_);subst G;exact c_ ⟨σ3,C,Z,qn⟩
 .refine dH hp (thn (T.item X rfl rfl rfl P i qK Q σ3 C X.xe O (p w) z go) λr s4 ⟨u,G,h4⟩=>?_);subst G;refine dH hp (thn h4 λ_ R ⟨x,M,I5,r5,y5,t,F⟩=>?_);have E:=I5.pinned (p F) (T.obj _ _ t);refine dH hp (thn (hg _ R σ3 M x u _ E r5 (step x M y5)) λ_ s6 ⟨σ6,V,I6,q6⟩=>?_);refine dH hp (thn (k _ s6 σ6 V _ I6 q6) λf K q=>?_);have j:∀{σ7:St}{a:Hp},Inv X (qK++a3e fp R.heap) σ7 a K->N σ7 a->∃m,m<n/\∃i σ' H',Inv X qK σ' H' K/\S i K.heap/\(∀b∈fp,H' b=none)/\W i m σ' H':=λ{σ7 a} c y=>by
   obtain⟨m',hm,w7⟩:=hN σ7 a y;refine⟨m',hm,i+1,σ7,a,c.unpinned,T.keep _ _ _ t λb k o e=>(c.pin (b,o) (aR _ (aR _ (W3 k e)))).1,λb k=>?_,w7⟩;obtain⟨o,e,d⟩:=T.obj _ _ t b k;exact(c.pin (b,o) (aR _ (aR _ (W3 k e)))).2.1
  cases f with
  |next=>obtain⟨σ7,a,c,y⟩:=q;exact j c y
  |cont=>obtain⟨σ7,a,c,y⟩:=q;exact j c y
  |brk=>obtain⟨σ7,a,c,q⟩:=q;exact⟨σ7,a,c.unpinned,q⟩
  |ret v=>obtain⟨x7,σ7,a,c,r7,q⟩:=q;exact⟨x7,σ7,a,c.unpinned,r7,q⟩
def U9{g:TG}(b:Nat->St->Hp->Prop)(h0:b 0 σ H)(f:∀i σ H,i<=xs.length->b i σ H->SqL K H a xs)
  (hs:∀i x σ H,xs[i]?=some x->b i σ H->g x σ H λσ2 H2=>tb {D with nx:=b (i+1),ct:=b (i+1),bk:=D.nx} σ2 H2) (hd:∀σ H,b xs.length σ H->D.nx σ H) :
  ∃W:Nat->Nat->St->Hp->Prop,(∃m,W 0 m σ H)/\∀i m σ H,W i m σ H ->
   ((Itl K a).stop i H/\D.nx σ H)∨((Itl K a).go i H/\∃N:St->Hp->Prop,(∀σ' H',N σ' H'->∃d,d<m/\W (i+1) d σ' H')/\∀x H',(Itl K a).yld i H x H'->g x σ H' λσ2 H2=>tb {D with nx:=N,ct:=N,bk:=D.nx} σ2 H2):=by
 refine⟨λi m σ H=>m=xs.length-i/\i<=xs.length/\b i σ H,⟨xs.length,by simp,bw _,h0⟩,?_⟩;rintro i m σ H ⟨rfl,hi,p⟩;have q:=f i σ H hi p;by_cases c:i<xs.length
 .refine .inr ⟨⟨xs,xs[i],q,by simp[c]⟩,b (i+1),λσ' H' h=>⟨xs.length-(i+1),by omega,rfl,c,h⟩,λx H' y=>?_⟩;obtain⟨e,y⟩:=y;subst e;exact hs i x σ _ (y xs q) p
 .have e:i=xs.length:=by omega
  subst e;exact .inl ⟨⟨xs,q,ak _⟩,hd σ H p⟩
def a9t{g:TG}(b:Nat->St->Hp->Prop)(h0:b 0 σ H)(f:∀i σ H,i<=xs.length->b i σ H->SqT K H a xs)
  (hs:∀i x σ H,xs[i]?=some x->b i σ H->g x σ H λσ2 H2=>tb {D with nx:=b (i+1),ct:=b (i+1),bk:=D.nx} σ2 H2) (hd:∀σ H,b xs.length σ H->D.nx σ H) :
  ∃W:Nat->Nat->St->Hp->Prop,(∃m,W 0 m σ H)/\∀i m σ H,W i m σ H ->
   ((Itt K a).stop i H/\D.nx σ H)∨((Itt K a).go i H/\∃N:St->Hp->Prop,(∀σ' H',N σ' H'->∃d,d<m/\W (i+1) d σ' H')/\∀x H',(Itt K a).yld i H x H'->g x σ H' λσ2 H2=>tb {D with nx:=N,ct:=N,bk:=D.nx} σ2 H2):=by
 refine⟨λi m σ H=>m=xs.length-i/\i<=xs.length/\b i σ H,⟨xs.length,by simp,bw _,h0⟩,?_⟩;rintro i m σ H ⟨rfl,hi,p⟩;have q:=f i σ H hi p;by_cases c:i<xs.length
 .refine .inr ⟨⟨xs,xs[i],q,by simp[c]⟩,b (i+1),λσ' H' h=>⟨xs.length-(i+1),by omega,rfl,c,h⟩,λx H' y=>?_⟩;obtain⟨e,y⟩:=y;subst e;exact hs i x σ _ (y xs q) p
 .have e:i=xs.length:=by omega
  subst e;exact .inl ⟨⟨xs,q,ak _⟩,hd σ H p⟩
def a4D{lo:Int}{g:TG}(a:Nat->St->Hp->Prop)(h0:a 0 σ H)
  (hs:∀i σ H,i<n->a i σ H->g (.int (lo+i)) σ H λσ2 H2=>tb {D with nx:=a (i+1),ct:=a (i+1),bk:=D.nx} σ2 H2) (hd:∀σ H,a n σ H->D.nx σ H) :
  ∃W:Nat->Nat->St->Hp->Prop,(∃m,W 0 m σ H)/\∀i m σ H,W i m σ H ->
   ((Itr lo n).stop i H/\D.nx σ H)∨((Itr lo n).go i H/\∃N:St->Hp->Prop,(∀σ' H',N σ' H'->∃c,c<m/\W (i+1) c σ' H')/\∀x H',(Itr lo n).yld i H x H'->g x σ H' λσ2 H2=>tb {D with nx:=N,ct:=N,bk:=D.nx} σ2 H2):=by
 refine⟨λi m σ H=>m=n-i/\i<=n/\a i σ H,⟨n,by simp,bw _,h0⟩,?_⟩;rintro i m σ H ⟨rfl,hi,p⟩;by_cases b:i<n
 .refine .inr ⟨b,a (i+1),λσ' H' d=>⟨n-(i+1),by omega,rfl,b,d⟩,λx H' y=>?_⟩;obtain⟨e,y⟩:=y;subst e y;exact hs i σ _ b p
 .have e:i=n:=by omega
  subst e;exact .inl ⟨ak _,hd σ H p⟩
abbrev R2:=V->V->Hp->VK->Prop
def OpR(X:Cx)(f:qB->qB->Sem qB)(r:R2):Prop :=
 ∀(qK:qA (qE×Obj)) (s:qC) (σ:St) (H:Hp) (x y:V) (v u:qB) (Q:VK),Inv X qK σ H s->RelV x v->RelV y u->r x y H Q ->
  wpAny (model X.prog X.w) X.A (f v u) (EP X qK σ Q) X.xe s
def UnR(X:Cx)(f:qB->Sem qB)(r:V->Hp->VK->Prop):Prop :=
 ∀(qK:qA (qE×Obj)) (s:qC) (σ:St) (H:Hp) (x:V) (v:qB) (Q:VK),Inv X qK σ H s->RelV x v->r x H Q ->
  wpAny (model X.prog X.w) X.A (f v) (EP X qK σ Q) X.xe s
def D0(X:Cx)(f:qB)(r:qA V->Hp->VK->Prop):Prop :=
 ∀(qK:qA (qE×Obj)) (s:qC) (σ:St) (H:Hp) (xs:qA V) (us:qA qB) (Q:VK),Inv X qK σ H s->Vals xs us->r xs H Q ->
  wpAny (model X.prog X.w) X.A (call f us) (EP X qK σ Q) X.xe s
def c0e(X:Cx)(r:V->Hp->(Bool->Hp->Prop)->Prop):Prop :=
 ∀(qK:qA (qE×Obj)) (s:qC) (σ:St) (H:Hp) (x:V) (v:qB) (Q:Bool->Hp->Prop),Inv X qK σ H s->RelV x v->r x H Q ->
  wpAny (model X.prog X.w) X.A (truthy v) (TP X qK σ Q) X.xe s
def tOp(r:R2)(ta tb:TE):TE:=λσ H Q=>ta σ H λx H1=>tb σ H1 λy H2=>r x y H2 Q
def tUn(r:V->Hp->VK->Prop)(ta:TE):TE:=λσ H Q=>ta σ H λx H1=>r x H1 Q
def rI(C:Int->Int->Prop)(g:Int->Int->V):R2:=λx y H Q=>∃i j,x=.int i/\y=.int j/\C i j/\Q (g i j) H
def rI0(g:Int->Int->V):R2:=λx y H Q=>∃i j,x=.int i/\y=.int j/\Q (g i j) H
def rU(g:Int->V):V->Hp->VK->Prop:=λx H Q=>∃i,x=.int i/\Q (g i) H
section
variable {a b:Expr}{tb tc:TE}
def b8K(e:PE X a ta)(g:PE X b tb){R:V->V->Hp->Prop}(I:Inv X qK σ H s)
  (h:ta σ H λx H1=>tb σ H1 λy H2=>R x y H2)
  (i:∀v u s2 x y H2,Inv X qK σ H2 s2->RelV x v->RelV y u->R x y H2->wpAny (model X.prog X.w) X.A (f v u) Q X.xe s2) :
  wpAny (model X.prog X.w) X.A (eval a X.env) (λv s₁=>wpAny (model X.prog X.w) X.A (eval b X.env) (λu s₂=>wpAny (model X.prog X.w) X.A (f v u) Q X.xe s₂) X.xe s₁) X.xe s:=by
 refine thn (e qK s σ H _ I h) λv s1 ⟨x,H1,c,k,q1⟩=>?_;refine thn (g qK s1 σ H1 _ c q1) λu s2 ⟨y,H2,d,l,j⟩=>?_;exact i v u s2 x y H2 d k l j
def a0I{c:Operator}{r:R2}(g:OpR X (binaryOp c) r)(e:PE X a ta)(f:PE X b tb):PE X (.BinOp a c b pos) (tOp r ta tb):=by
 intro qK s σ H Q I h;exact wpAny_BinOp (b8K e f I h λv u s2 x y H2 d i j q=>g qK s2 σ H2 x y v u Q d i j q)
def b9z{b:UnaryOp}{r:V->Hp->VK->Prop}(e:UnR X (unaryOp b) r)(d:PE X a ta):PE X (.UnaryOp b a pos) (tUn r ta):=by
 intro qK s σ H Q I h;exact UnaryOp_ (thn (d qK s σ H _ I h) λv s1 ⟨x,H1,c,f,q1⟩=>e qK s1 σ H1 x v Q c f q1)
def opI{C:Int->Int->Prop}{g:Int->Int->Int}
  (rule:∀(i j:Int) (t u:Tok) (s:qC) (Q:qH) (E:qH),C i j->Q (.int (g i j) s.toks) {s with toks:=s.toks+1}->wpAny (model X.prog X.w) X.A (f (.int i t) (.int j u)) Q E s) :
  OpR X f (rI C λi j=>.int (g i j)):=by
 intro qK s σ H x y v u Q I b c h;obtain⟨i,j,rfl,rfl,a,q⟩:=h;obtain⟨t,rfl⟩:=b;obtain⟨t',rfl⟩:=c;exact rule i j t t' s _ _ a ⟨.int (g i j),H,I.tok _,⟨_,rfl⟩,q⟩
def b9I{g:Int->Int->Int}
  (rule:∀(i j:Int) (t u:Tok) (s:qC) (Q:qH) (E:qH),Q (.int (g i j) s.toks) {s with toks:=s.toks+1}->wpAny (model X.prog X.w) X.A (f (.int i t) (.int j u)) Q E s) :
  OpR X f (rI0 λi j=>.int (g i j)):=by
 intro qK s σ H x y v u Q I a b h;obtain⟨i,j,rfl,rfl,q⟩:=h;obtain⟨t,rfl⟩:=a;obtain⟨t',rfl⟩:=b;exact rule i j t t' s _ _ ⟨.int (g i j),H,I.tok _,⟨_,rfl⟩,q⟩
def b5B{g:Int->Int->Bool}
  (rule:∀(i j:Int) (t u:Tok) (s:qC) (Q:qH) (E:qH),Q (.bool (g i j)) s->wpAny (model X.prog X.w) X.A (f (.int i t) (.int j u)) Q E s) :
  OpR X f (rI0 λi j=>.bl (g i j)):=by
 intro qK s σ H x y v u Q I a b h;obtain⟨i,j,rfl,rfl,q⟩:=h;obtain⟨t,rfl⟩:=a;obtain⟨t',rfl⟩:=b;exact rule i j t t' s _ _ ⟨.bl (g i j),H,I,rfl,q⟩
def b9U(i j:Int):Prop:=0<j/\j<1073741824
def b9T(i j:Int):Prop:=0<=j/\j<=1000000/\i.natAbs<2 ^ 64
def CMul(i j:Int):Prop:=(-(2 ^ 64)<i/\i<2 ^ 64)∨(-(2 ^ 64)<j/\j<2 ^ 64)
def CMul.ok{i j:Int}(h:CMul i j):IntMulOk i j:=by
 rcases h with⟨h1,h2⟩|⟨h1,h2⟩
 .exact .of_left (intBits_le_64 h1 h2)
 .exact .of_right (intBits_le_64 h1 h2)
def b8d:OpR X (binaryOp .Add) (rI0 λi j=>.int (i+j)):=b9I λ_ _ _ _ _ _ _ q=>add_int q
def b7U:OpR X (binaryOp .Sub) (rI0 λi j=>.int (i-j)):=b9I λ_ _ _ _ _ _ _ q=>sub_int q
def b7Y:OpR X (binaryOp .Mult) (rI CMul λi j=>.int (i*j)):=opI λ_ _ _ _ _ _ _ a q=>mul_int q a.ok
def b5z:OpR X (binaryOp .FloorDiv) (rI b9U λi j=>.int (i / j)):=opI λi j _ _ _ _ _ a q=>by
 have h1:(0:Int)<j:=a.1;have h2:j<1073741824:=a.2;exact floordiv_int (by omega) (by rw[Int.fdiv_eq_ediv_of_nonneg i (by omega)];exact q) (.inl (PyProof.noPylong_small (by omega)))
def b7Z:OpR X (binaryOp .Mod) (rI (λ_ j=>0<j) λi j=>.int (i % j)):=opI λi j _ _ _ _ _ a q=>by
 have h1:(0:Int)<j:=a;exact mod_int' (by omega) (by rw[Int.fmod_eq_emod_of_nonneg i (by omega)];exact q)
def b7V:OpR X (binaryOp .Pow) (rI b9T λi j=>.int (i ^ j.toNat)):=opI λ_ _ _ _ _ _ _ a q=>pow_int_small a.1 a.2.1 a.2.2 q
def unI{f:qB->Sem qB}{g:Int->Int}
  (rule:∀(i:Int) (t:Tok) (s:qC) (Q:qH) (E:qH),Q (.int (g i) s.toks) {s with toks:=s.toks+1}->wpAny (model X.prog X.w) X.A (f (.int i t)) Q E s) :
  UnR X f (rU λi=>.int (g i)):=by
 intro qK s σ H x v Q I a h;obtain⟨i,rfl,q⟩:=h;obtain⟨t,rfl⟩:=a;exact rule i t s _ _ ⟨.int (g i),H,I.tok _,⟨_,rfl⟩,q⟩
def b7h:UnR X (unaryOp .USub) (rU λi=>.int (-i)):=unI λ_ _ _ _ _ q=>neg_int q
end
def b9n:V->V->Bool
 |.non,.non=>true | .non,.int _=>true | .int _,.non=>true | .non,.bl _=>true | .bl _,.non=>true | .non,.str _=>true | .str _,.non=>true
 |.int _,.int _=>true | .bl _,.bl _=>true | .str _,.str _=>true | .byt _,.byt _=>true
 |.int _,.str _=>true | .str _,.int _=>true | .bl _,.str _=>true | .str _,.bl _=>true
 |_,_=>false
def rEq:R2:=λx y H Q=>b9n x y=true/\Q (.bl (decide (x=y))) H
def rNe:R2:=λx y H Q=>b9n x y=true/\Q (.bl (!decide (x=y))) H
def a9z{i j:Int}:decide (V.int i=V.int j)=(i==j):=by
 rw[cz];simp
def b4a{i j:Bool}:decide (V.bl i=V.bl j)=(i==j):=by
 rw[cz];simp
def a9y{i j:Str}:decide (V.str i=V.str j)=(i==j):=by
 rw[cz];simp
def a9A{i j:Array UInt8}:decide (V.byt i=V.byt j)=(i.toList==j.toList):=by
 rw[cz];cases i;cases j;simp
section
variable {a b:Expr}{tb tc:TE}
def B8{Q:VK}{k a:Bool}(I:Inv X qK σ H s)(q:Q (.bl k) H)(e:k=a):EP X qK σ Q (.bool a) s:=by
 subst e;exact⟨.bl k,H,I,rfl,q⟩
def b6P:OpR X (compareOp .Eq) rEq:=by
 intro qK s σ H x y v u Q I b a h;obtain⟨hs,q⟩:=h;cases x with
 |non =>
  cases b;cases y with
  |non=>cases a;exact PySem.EqNone.eq_none_none (B8 I q (by simp))
  |bl j=>cases a;exact PySem.EqNone.eq_none_bool (B8 I q (by simp))
  |int j=>obtain⟨t',rfl⟩:=a;exact PySem.EqNone.eq_none_int (B8 I q (by simp))
  |str j=>obtain⟨t',rfl⟩:=a;exact PySem.EqNone.eq_none_str (B8 I q (by simp))
  |_=>exact absurd (show false=true from hs) aY
 |bl i =>
  cases b;cases y with
  |non=>cases a;exact PySem.EqNone.eq_bool_none (B8 I q (by simp))
  |bl j=>cases a;exact eq_bool (B8 I q b4a)
  |str j=>obtain⟨t',rfl⟩:=a;exact PySem.EqMixed.eq_bool_str (B8 I q (by simp))
  |_=>exact absurd (show false=true from hs) aY
 |int i =>
  obtain⟨t,rfl⟩:=b;cases y with
  |non=>cases a;exact PySem.EqNone.eq_int_none (B8 I q (by simp))
  |int j=>obtain⟨t',rfl⟩:=a;exact eq_int (B8 I q a9z)
  |str j=>obtain⟨t',rfl⟩:=a;exact PySem.EqMixed.eq_int_str (B8 I q (by simp))
  |_=>exact absurd (show false=true from hs) aY
 |str i =>
  obtain⟨t,rfl⟩:=b;cases y with
  |non=>cases a;exact PySem.EqNone.eq_str_none (B8 I q (by simp))
  |bl j=>cases a;exact PySem.EqMixed.eq_str_bool (B8 I q (by simp))
  |int j=>obtain⟨t',rfl⟩:=a;exact PySem.EqMixed.eq_str_int (B8 I q (by simp))
  |str j=>obtain⟨t',rfl⟩:=a;exact eq_str (B8 I q a9y)
  |_=>exact absurd (show false=true from hs) aY
 |byt i =>
  obtain⟨t,rfl⟩:=b;cases y with
  |byt j=>obtain⟨t',rfl⟩:=a;exact PySem.W.eq_bytes (B8 I q a9A)
  |_=>exact absurd (show false=true from hs) aY
 |_=>cases y<;>exact absurd (show false=true from hs) aY
def b9E:OpR X (compareOp .NotEq) rNe:=by
 intro qK s σ H x y v u Q I b a h;obtain⟨hs,q⟩:=h;cases x with
 |non =>
  cases b;cases y with
  |non=>cases a;exact PySem.EqNone.ne_none_none (B8 I q (by simp))
  |bl j=>cases a;exact PySem.EqNone.ne_none_bool (B8 I q (by simp))
  |int j=>obtain⟨t',rfl⟩:=a;exact PySem.EqNone.ne_none_int (B8 I q (by simp))
  |str j=>obtain⟨t',rfl⟩:=a;exact PySem.EqNone.ne_none_str (B8 I q (by simp))
  |_=>exact absurd (show false=true from hs) aY
 |bl i =>
  cases b;cases y with
  |non=>cases a;exact PySem.EqNone.ne_bool_none (B8 I q (by simp))
  |bl j=>cases a;exact ne_bool (B8 I q (aP not b4a))
  |str j=>obtain⟨t',rfl⟩:=a;exact PySem.EqMixed.ne_bool_str (B8 I q (by simp))
  |_=>exact absurd (show false=true from hs) aY
 |int i =>
  obtain⟨t,rfl⟩:=b;cases y with
  |non=>cases a;exact PySem.EqNone.ne_int_none (B8 I q (by simp))
  |int j=>obtain⟨t',rfl⟩:=a;exact ne_int (B8 I q (aP not a9z))
  |str j=>obtain⟨t',rfl⟩:=a;exact PySem.EqMixed.ne_int_str (B8 I q (by simp))
  |_=>exact absurd (show false=true from hs) aY
 |str i =>
  obtain⟨t,rfl⟩:=b;cases y with
  |non=>cases a;exact PySem.EqNone.ne_str_none (B8 I q (by simp))
  |bl j=>cases a;exact PySem.EqMixed.ne_str_bool (B8 I q (by simp))
  |int j=>obtain⟨t',rfl⟩:=a;exact PySem.EqMixed.ne_str_int (B8 I q (by simp))
  |str j=>obtain⟨t',rfl⟩:=a;exact ne_str (B8 I q (aP not a9y))
  |_=>exact absurd (show false=true from hs) aY
 |byt i =>
  obtain⟨t,rfl⟩:=b;cases y with
  |byt j=>obtain⟨t',rfl⟩:=a;exact PySem.W.ne_bytes (B8 I q (aP not a9A))
  |_=>exact absurd (show false=true from hs) aY
 |_=>cases y<;>exact absurd (show false=true from hs) aY
def b9F:OpR X (compareOp .Lt) (rI0 λi j=>.bl (decide (i<j))):=b5B λ_ _ _ _ _ _ _ q=>lt_int q
def b9G:OpR X (compareOp .LtE) (rI0 λi j=>.bl (decide (i<=j))):=b5B λ_ _ _ _ _ _ _ q=>le_int q
def b9H:OpR X (compareOp .Gt) (rI0 λi j=>.bl (decide (j<i))):=b5B λ_ _ _ _ _ _ _ q=>gt_int q
def b6O:OpR X (compareOp .GtE) (rI0 λi j=>.bl (decide (j<=i))):=b5B λ_ _ _ _ _ _ _ q=>ge_int q
def b2P:OpR X (compareOp .Is) (λx y H Q=>y=.non/\Q (.bl (decide (x=.non))) H):=by
 intro qK s σ H x y v u Q I a b h;obtain⟨rfl,q⟩:=h;cases b;refine is_none_gen (B8 I q ?_);cases x<;>first
  |(cases a;rfl)
  |(obtain⟨t,rfl⟩:=a;rfl)
def b5y:OpR X (compareOp .IsNot) (λx y H Q=>y=.non/\Q (.bl (!decide (x=.non))) H):=by
 intro qK s σ H x y v u Q I a b h;obtain⟨rfl,q⟩:=h;cases b;refine isnot_none_gen (B8 I q ?_);cases x<;>first
  |(cases a;rfl)
  |(obtain⟨t,rfl⟩:=a;rfl)
def J9(b:Expr){a:CmpOp}(h:a≠.In:=by decide)(h2:a≠.NotIn:=by decide):behindInMarks a b=false:=by
 have c:(a==CmpOp.In)=false:=by cases a<;>first|rfl|exact absurd rfl h
 have d:(a==CmpOp.NotIn)=false:=by cases a<;>first|rfl|exact absurd rfl h2
 cases b with
 |Set elts k p=>show(k==0 && (a==CmpOp.In || a==CmpOp.NotIn) && elts.all (constantsAlone 8))=false;rw[c,d,Bool.or_false,fh,Bool.false_and]
 |_=>rfl
def a1i{c:CmpOp}{r:R2}(i:OpR X (compareOp c) r)(e:PE X a ta)(f:PE X b tb)(g:behindInMarks c b=false):PE X (.Compare a [c] [b] pos) (tOp r ta tb):=by
 intro qK s σ H Q I h;exact wpAny_Compare1 (b8K e f I h λv u s2 x y H2 d j k q=>i qK s2 σ H2 x y v u Q d j k q) g
def Z1(t:TE):TT:=λσ H Q=>t σ H λx H'=>∃k,x=.bl k/\Q k H'
def N1{d:CmpOp}{r:R2}(o:OpR X (compareOp d) r)(l:PE X a ta)(m:PE X b tb)(n:behindInMarks d b=false):PT X (.Compare a [d] [b] pos) (Z1 (tOp r ta tb)):=by
 intro qK s σ H Q I h;refine wpAny_isTrue_Compare1 (thn (l qK s σ H _ I h) λv s1 ⟨x,H1,g,t,q1⟩=>thn (m qK s1 σ H1 _ g q1) λu s2 ⟨y,H2,i,w,p⟩ =>
  thn (o qK s2 σ H2 x y v u _ i t w p) λc B ⟨z,f,j,A,k,e,q⟩=>?_) n
 subst e;cases A;exact dr ⟨f,j,q⟩
def b8W(K:qF)(x:V)(H:Hp)(k:Bool):Prop :=
 match x with
 |.non=>k=false
 |.bl b=>k=b
 |.int i=>k=(i != 0)
 |.str y=>y.length<=sizeLine/\k=((y.length:Int) != 0)
 |.byt y=>y.size<=sizeLine/\k=((y.size:Int) != 0)
 |.ref p=>(∃xs,SqL K H p xs/\k=!xs.isEmpty)∨(∃xs,SqT K H p xs/\k=!xs.isEmpty)∨∃qL,H p=some (.dK qL)/\k=!qL.isEmpty
 |_=>False
def a7X{κ:Type}{qL:qA (κ×V)}{vs:qA (κ×qB)}(r:KV qL vs):(!vs.isEmpty)=!qL.isEmpty:=by
 cases r<;>rfl
def a3D{its:qA qB}(r:Vals xs its):(!its.toArray.isEmpty)=!xs.isEmpty:=by
 cases r<;>simp
def a3q:(sizeLine:Nat)<2 ^ 63:=by rw[aU];decide
def b7j:c0e X (λx H Q=>∃k,b8W X.K x H k/\Q k H):=by
 intro qK s σ H x v Q I d h;obtain⟨k,e,q⟩:=h;have u:=a3q;have hs:sizeLine=16777216:=aU;cases x with
 |non =>
  cases d;have a:k=false:=e;subst a;exact truthy_none ⟨H,I,q⟩
 |bl b =>
  cases d;have a:k=b:=e;subst a;exact dr ⟨H,I,q⟩
 |int i =>
  obtain⟨t,rfl⟩:=d;have a:k=(i != 0):=e;subst a;exact PySem.P.truthy_int ⟨H,I,q⟩
 |str y =>
  obtain⟨t,rfl⟩:=d;obtain⟨o,a⟩:y.length<=sizeLine/\k=((y.length:Int) != 0):=e;subst a;exact PySem.P.truthy_str (by omega) ⟨H,I.tok _,q⟩
 |byt y =>
  obtain⟨t,rfl⟩:=d;obtain⟨o,a⟩:y.size<=sizeLine/\k=((y.size:Int) != 0):=e;subst a;exact PySem.W.truthy_bytes (by omega) ⟨H,I.tok _,q⟩
 |ref p =>
  cases d;have a:(∃xs,SqL X.K H p xs/\k=!xs.isEmpty)∨(∃xs,SqT X.K H p xs/\k=!xs.isEmpty)∨∃qL,H p=some (.dK qL)/\k=!qL.isEmpty:=e;rcases a with⟨xs,f,a⟩|⟨xs,f,a⟩|⟨qL,f,a⟩
  .subst a;obtain⟨its,r,j,l⟩:=I.list f;have c:=r.length;exact wpAny_truthy_list j.isList (by simp only[aE];omega) ⟨H,I.tok _,by rw[a3D r];exact q⟩
  .subst a;obtain⟨its,r,j,l⟩:=I.tuple f;have c:=r.length;exact truthy_tuple j (by simp only[aE];omega) ⟨H,I.tok _,by rw[a3D r];exact q⟩
  .subst a;obtain⟨l,n,g,r,m⟩:qL.length<=sizeLine/\(p==sysModules)=false/\∃g,KV qL g/\s.heap.DictOf (C3 X.prog X.w) p g:=I.hok p _ f;have c:qL.length=g.length:=Paired.length r;exact wpAny_truthy_dict n m (by omega) ⟨H,I.tok _,by rw[a7X r];exact q⟩
 |_=>exact(show False from e).elim
def b2u(d:PE X a ta)(e:∀b,isTrue a X.env b=(do let v <-b;standAt a.pos;holding [v] (truthy v))) :
  PT X a (λσ H Q=>ta σ H λx H'=>∃k,b8W X.K x H' k/\Q k H'):=by
 intro qK s σ H Q I h;exact isTrue_plain (thn (d qK s σ H _ I h) λv s1 ⟨x,H1,c,f,q1⟩=>b7j qK s1 σ H1 x v Q c f q1) (e _)
def a5Y{x:V}(r:Vals [x] us):∃u,us=[u]/\RelV x u:=by
 cases r with
 |cons r1 r2=>cases r2;exact⟨_,rfl,r1⟩
def b6t{x y:V}(r:Vals [x,y] us):∃u a,us=[u,a]/\RelV x u/\RelV y a:=by
 cases r with
 |cons r1 r2 =>
  cases r2 with
  |cons r3 r4=>cases r4;exact⟨_,_,rfl,r1,r3⟩
def b1c(b:X.calm=true):D0 X (.builtin "max") (λxs H Q=>∃i j,xs=[.int i,.int j]/\Q (.int (if j > i then j else i)) H):=by
 intro qK s σ H xs c Q I r h;obtain⟨i,j,rfl,q⟩:=h;obtain⟨u,d,rfl,⟨t,rfl⟩,⟨t',rfl⟩⟩:=b6t r;refine max_two_ints (I.ok.hd b) λh' tk k=>⟨_,H,I.kept k,?_,q⟩;by_cases a:j > i
 .rw[av a,av a];exact⟨_,rfl⟩
 .rw[ao a,ao a];exact⟨_,rfl⟩
def b1a(b:X.calm=true):D0 X (.builtin "min") (λxs H Q=>∃i j,xs=[.int i,.int j]/\Q (.int (if j<i then j else i)) H):=by
 intro qK s σ H xs c Q I r h;obtain⟨i,j,rfl,q⟩:=h;obtain⟨u,d,rfl,⟨t,rfl⟩,⟨t',rfl⟩⟩:=b6t r;refine min_two_ints (I.ok.hd b) λh' tk k=>⟨_,H,I.kept k,?_,q⟩;by_cases a:j<i
 .rw[av a,av a];exact⟨_,rfl⟩
 .rw[ao a,ao a];exact⟨_,rfl⟩
def b1h:D0 X (.type "int") (λxs H Q=>(∃i,xs=[.int i]/\Q (.int i) H)∨∃k,xs=[.bl k]/\Q (.int (if k then 1 else 0)) H):=by
 intro qK s σ H xs a Q I r h;rcases h with⟨i,rfl,q⟩|⟨k,rfl,q⟩
 .obtain⟨u,rfl,t,rfl⟩:=a5Y r;exact call_int_int ⟨.int i,H,I,⟨_,rfl⟩,q⟩
 .obtain⟨u,rfl,r1⟩:=a5Y r;cases r1;exact call_int_bool ⟨.int (if k then 1 else 0),H,I.tok _,⟨_,rfl⟩,q⟩
end
structure ObjM(h:Heap)(x dx C:qE)(mA:Str->qD qB):Prop where
 obj:h.get? x=some (PySem.W.instObj C dx)
 ns:h.Ns1 dx mA
 ne:dx≠x
def b0B(n:h.Ns1 dx mA):∃od,h.get? dx=some od/\∀name,PySem.W.lookIn name od=some (mA name):=by
 obtain⟨o,es,ep,g,hd,d,_,f⟩:=n;refine⟨o,g,λname=>?_⟩;have e:=f name;unfold nsFind findBy at e;rw[<-Array.find?_toList]at e;unfold PySem.W.lookIn;rw[hd];dsimp only;split
 .rename_i y q;rw[q]at e;exact aP some e
 .rename_i q;rw[q]at e;have a:es.toList.any (·.refKey)=false:=by
   rw[fv];intro y i;obtain⟨z,t,b⟩:=d y (eI.mp i);simp[DictEntry.refKey,b]
  have c:¬es.toList.any (·.refKey)=true:=by rw[a];exact aY
  rw[ao c];exact aP some e
def ObjM.look{x:qE}(I:ObjM h x dx C mA):∃od,PySem.W.InstAt h x (PySem.W.instObj C dx) C (some od)/\∀name,PySem.W.lookIn name od=some (mA name) :=
 let ⟨od,ho,hl⟩:=b0B I.ns
 ⟨od,⟨I.obj,rfl,rfl,ho⟩,hl⟩
section
variable {prog:qG}{x f:qE}{name:Str}{v:qB}
def b6b{a:Bool}(X:K.In s.heap)(I:ObjM s.heap x dx C mA)(d:PySem.W.plainGet K C name=true)(e:PySem.W.hasDictIn K C=true)
  (c:PySem.W.findIn K (.ref C) name=some none) (g:mA name=some v) (b:PySem.W.handedIn v=true) (h:Q v {s with toks:=s.toks+1}) :
  wpAny (model prog w) A (getAttr (.ref x) name a) Q E s:=by
 obtain⟨od,J,f⟩:=I.look;exact PySem.W.get_value X J (PySem.W.plainGet_of d).1 (PySem.W.findObj_own e c rfl (by rw[f,g])) b h
def b3L{Q:qB×qA qB->qC->Prop}(X:K.In s.heap)(I:ObjM s.heap x dx C mA)(a:PySem.W.plainGet K C name=true)
  (b:PySem.W.findIn K (.ref C) name=some (some (.ref f))) (d:PySem.W.isFn K (.ref f)=true) (e:mA name=none) (h:Q (.ref f,[.ref x]) s) :
  wpAny (model prog w) A (getMethod (.ref x) name pl) Q E s:=by
 obtain⟨od,J,c⟩:=I.look;exact PySem.W.method_fn X J (PySem.W.plainGet_of a).1 (PySem.W.plainGet_of a).2 b (a_.mp d) (by show(PySem.W.lookIn name od).map (·.isSome)=some false;rw[c,e];rfl) h
def b4K{ns:qA Str}{Q:Unit->qC->Prop}(X:K.In s.heap)(I:ObjM s.heap x dx C mA)
  (hs:PySem.W.findIn K (.ref C) "__setattr__"=some (some (.builtin "object.__setattr__"))) (hp:PySem.W.plainOver K C=true) (n:PySem.W.takerIn K C name=some none) (m:PySem.W.hasDictIn K C=true)
  (hw:PySem.Within mA ns) (hsz:ns.length<=sizeLine)
  (h:∀h',ObjM h' x dx C (λy=>if y=name then some v else mA y)->Heap.SameBut dx s.heap h'->Q () {s with heap:=h',toks:=s.toks+2}) :
  wpAny (model prog w) A (setAttr (.ref x) name v) Q E s:=by
 obtain⟨od,J,p⟩:=I.look;refine PySem.W.set_plain X J hs (PySem.W.osa_open (s:={s with toks:=s.toks+1}) (r:=none) X J hp n λb=>?_);obtain⟨cd,l,f⟩:=PySem.W.any_some m;have o:s.heap.get? x=some ⟨.ref C,some dx,.plain,#[]⟩:=I.obj;refine aa (ag (aa (aa (wpAny_loadPart o (aa (PySem.W.Looks.here (s:={s with toks:=s.toks+1}) (PySem.W.looks_clsIn X l) ?_))))));rw[f];refine ag (a:=some dx) (aa (ag (aa ?_)));refine wpAny_nsSet1 (s:={s with toks:=s.toks+1}) I.ns λh' c d=>?_;obtain⟨q,k,j,i,g,e⟩:=c.count (PySem.Within.cons name v hw);refine aa (wpAny_lookBehind i (by rw[g];exact pastItsLine_dict (bh e (by rw[aZ];omega))) ?_);exact ag (h _ ⟨(d.2 _ (dq I.ne)).trans I.obj,c,I.ne⟩ d)
def b3h{R:Result->qC->Prop}{vs:qA qB}{a:qA (Str×qB)}(X:K.In s.heap)(c:PySem.W.makesIn K C=true)
  (hi:PySem.W.findIn K (.ref C) "__init__"=some (some (.ref f))) (b:PySem.W.typeIn K (.ref f)=some (.type "function"))
  (h:codeAny (model prog w) (A.under (.builtin "type.__call__" ⟨.ref C::vs,a⟩)) (.call (.ref f) ⟨.ref (s.heap.objs.size+1)::vs,a⟩) (PySem.W.InitBack (s.heap.objs.size+1) R)
   {s with heap:=(s.heap.push PySem.W.emptyDict).push (PySem.W.instObj C s.heap.objs.size)}) :
  codeAny (model prog w) A (.call (.ref C) ⟨vs,a⟩) R s:=by
 obtain⟨e,g,d,t,os⟩:=s;exact PySem.W.make_core (PySem.W.makes_of X c) (PySem.W.looks_findIn X hi) (λself=>PySem.W.bind_fn X self b) (.inl rfl) h
end
def J8(f:Str)(v:V):qA (Str×V)->qA (Str×V)
 |[]=>[(f,v)]
 |(g,x)::r=>if g=f then(g,v)::r else(g,x)::J8 f v r
def a2a(f g:Str)(v:V):∀fs:qA (Str×V),(J8 f v fs).lookup g=if g=f then some v else fs.lookup g
 |[]=>by
  show List.lookup g [(f,v)]=_;by_cases h:g=f
  .have hb:(g==f)=true:=a_.mpr h;simp only[List.lookup,hb,av h]
  .have hb:(g==f)=false:=cM.mpr h;simp only[List.lookup,hb,ao h]
 |(k,x)::r=>by
  have b:=a2a f g v r;rw[show J8 f v ((k,x)::r)=(if k=f then(k,v)::r else(k,x)::J8 f v r)from rfl];by_cases a:k=f
  .rw[av a];by_cases h:g=k
   .have hb:(g==k)=true:=a_.mpr h;simp only[List.lookup,hb,av (h.trans a)]
   .have hb:(g==k)=false:=cM.mpr h;simp only[List.lookup,hb,ao (λe:g=f=>h (e.trans a.symm))]
  .rw[ao a];by_cases h:g=k
   .have hb:(g==k)=true:=a_.mpr h;simp only[List.lookup,hb,ao (λe:g=f=>a (h.symm.trans e))]
   .have hb:(g==k)=false:=cM.mpr h;simp only[List.lookup,hb];exact b
def a1G(f:Str)(v:V):∀fs:qA (Str×V),f∈(J8 f v fs).map (·.1)/\∀g,g∈fs.map (·.1)->g∈(J8 f v fs).map (·.1)
 |[]=>⟨by simp[J8],λg h=>by simp at h⟩
 |(k,x)::r=>by
  obtain⟨b,c⟩:=a1G f v r;rw[show J8 f v ((k,x)::r)=(if k=f then(k,v)::r else(k,x)::J8 f v r)from rfl];by_cases a:k=f
  .rw[av a];subst a;exact⟨by simp,λg h=>by simpa using h⟩
  .rw[ao a];refine⟨?_,λg h=>?_⟩
   .rw[aV];exact au _ b
   .rw[aV]at h⊢;rcases aA.mp h with e|e
    .exact aA.mpr (.inl e)
    .exact au _ (c g e)
def a2c(f:Str)(v:V):∀fs:qA (Str×V),(J8 f v fs).length<=fs.length+1
 |[]=>by simp[J8]
 |(k,x)::r=>by
  have b:=a2c f v r;rw[show J8 f v ((k,x)::r)=(if k=f then(k,v)::r else(k,x)::J8 f v r)from rfl];by_cases a:k=f
  .rw[av a,aZ,aZ];omega
  .rw[ao a,aZ,aZ];omega
def RelO.some_of{o:qD qB}(r:RelO (some v) o):∃u,o=some u/\RelV v u:=by
 cases o with
 |none=>exact(show False from r).elim
 |some u=>exact⟨u,rfl,r⟩
def RelO.none_of{o:qD qB}(r:RelO none o):o=none:=by
 cases o with
 |none=>rfl
 |some u=>exact(show False from r).elim
def b0J(r:RelV v u):PySem.W.handedIn u=true:=by
 cases v with
 |non=>cases(show u=Value.none from r);rfl
 |bl b=>cases(show u=Value.bool b from r);rfl
 |int i=>obtain⟨t,e⟩:=(show ∃t,u=Value.int i t from r);cases e;rfl
 |str x=>obtain⟨t,e⟩:=(show ∃t,u=Value.str x t from r);cases e;rfl
 |byt b=>obtain⟨t,e⟩:=(show ∃t,u=Value.bytes b t from r);cases e;rfl
 |flt b=>obtain⟨t,e⟩:=(show ∃t,u=Value.float b t from r);cases e;rfl
 |ref a=>cases(show u=Value.ref a from r);rfl
 |ty n=>cases(show u=Value.type n from r);rfl
section
variable {fs fs':qA (Str×V)}
def a2I(b:HOk P w H h)(e:H a=some (.ins C dx fs)):∃mA,ObjM h a dx C mA/\(∀f,RelO (fs.lookup f) (mA f))/\PySem.Within mA (fs.map (·.1))/\fs.length<=1000/\H dx=some (.own a):=by
 obtain⟨d,z,ne,c,mA,n,r,q⟩:=(show ObjOk P w H h a (.ins C dx fs)from b a _ e);exact⟨mA,⟨c,n,ne⟩,r,q,z,d⟩
end
structure Cls(K:qF)(C:qE):Prop where
 pg:PySem.W.plainGet K C Str.empty=true
 hd:PySem.W.hasDictIn K C=true
 po:PySem.W.plainOver K C=true
 sa:PySem.W.findIn K (.ref C) "__setattr__"=some (some (.builtin "object.__setattr__"))
def Cls.get(c:Cls K C)(f:Str):PySem.W.plainGet K C f=true:=c.pg
def NoAttr(K:qF)(C:qE)(f:Str):Prop:=PySem.W.findIn K (.ref C) f=some none
def NoAttr.taker{f:Str}(n:NoAttr K C f):PySem.W.takerIn K C f=some none:=by
 unfold PySem.W.takerIn;rw[show PySem.W.findIn K (.ref C) f=some none from n];rfl
structure Meth(K:qF)(C:qE)(m:Str)(f:qE):Prop where
 at_:PySem.W.findIn K (.ref C) m=some (some (.ref f))
 fn:PySem.W.isFn K (.ref f)=true
 kp:PySem.W.keepIn K (.ref f)=true
section
variable {fs:qA (Str×V)}{f:Str}
def a7Z{b:Bool}(I:Inv X qK σ H s)(e:H a=some (.ins C dx fs))(c:Cls X.K C)(n:NoAttr X.K C f)(l:fs.lookup f=some v)
  (h:∀u s',Inv X qK σ H s'->RelV v u->Q u s'):wpAny (model X.prog X.w) A (getAttr (.ref a) f b) Q E s:=by
 obtain⟨mA,O,r,_,_,_⟩:=a2I I.hok e;obtain⟨u,g,d⟩:=RelO.some_of (v:=v) (o:=mA f) (by rw[<-l];exact r f);exact b6b I.kIn O (c.get f) c.hd n g (b0J d) (h u _ (I.tok _) d)
def a3E{m:Str}{g:qE}{Q:qB×qA qB->qC->Prop}(I:Inv X qK σ H s)(e:H a=some (.ins C dx fs))(c:Cls X.K C)(k:Meth X.K C m g)(l:fs.lookup m=none)
  (h:Q (.ref g,[.ref a]) s):wpAny (model X.prog X.w) A (getMethod (.ref a) m pl) Q E s:=by
 obtain⟨mA,O,r,_,_,_⟩:=a2I I.hok e;have b:mA m=none:=RelO.none_of (by rw[<-l];exact r m);exact b3L I.kIn O (c.get m) k.at_ k.fn b h
def a7w{y:V}{Q:Unit->qC->Prop}(I:Inv X qK σ H s)(e:H a=some (.ins C dx fs))(c:Cls X.K C)(n:NoAttr X.K C f)(v:fs.length<1000)(p:RelV y u)
  (h:∀s',Inv X qK σ (upd H a (.ins C dx (J8 f y fs))) s'->Q () s'):wpAny (model X.prog X.w) A (setAttr (.ref a) f u) Q E s:=by
 obtain⟨mA,O,r,j,_,i⟩:=a2I I.hok e;have m:(fs.map (·.1)).length<=sizeLine:=by rw[ai,aU];omega
 refine b4K I.kIn O c.sa c.po n.taker c.hd j m λh' d t=>h _ ?_;have hd:∃o,h'.get? dx=some o:=let ⟨o,_,_,e',_⟩:=d.ns;⟨o,e'⟩
 refine I.write (x:=a) (e:=dx) (by rw[e];exact True.intro) (.inr i) (λb q k z=>(t.2 b k).trans z) hd ?_;refine⟨by rw[A5 O.ne];exact i,?_,O.ne,d.obj,_,d.ns,λg=>?_,λg l=>?_⟩
 .have:=a2c f y fs;omega
 .show RelO ((J8 f y fs).lookup g) (if g=f then some u else mA g);rw[a2a];by_cases q:g=f
  .rw[av q,av q];exact p
  .rw[ao q,ao q];exact r g
 .by_cases q:g=f
  .rw[q];exact(a1G f y fs).1
  .refine(a1G f y fs).2 g (j g λz=>l ?_);show(if g=f then some u else mA g)=none;rw[ao q];exact z
def Inv.made(I:Inv X qK σ H s):Inv X qK σ (upd (upd H s.heap.objs.size (.own (s.heap.objs.size+1))) (s.heap.objs.size+1) (.ins C s.heap.objs.size []))
  {s with heap:=(s.heap.push PySem.W.emptyDict).push (PySem.W.instObj C s.heap.objs.size)}:=by
 have c:(s.heap.push PySem.W.emptyDict).get? s.heap.objs.size=some PySem.W.emptyDict:=aC s.heap rfl;have f:((s.heap.push PySem.W.emptyDict).push (PySem.W.instObj C s.heap.objs.size)).get? (s.heap.objs.size+1)=some (PySem.W.instObj C s.heap.objs.size):=by
  have:=aC (s.heap.push PySem.W.emptyDict) (o:=PySem.W.instObj C s.heap.objs.size) rfl;rwa[br]at this
 have g:(s.heap.push PySem.W.emptyDict).Ns s.heap.objs.size (λ_=>none):=⟨PySem.W.emptyDict,#[],_,c,rfl,(λe h=>absurd h (by simp)),λ_=>rfl⟩;have d:=I.laid (a:=s.heap.objs.size) (o:=.own (s.heap.objs.size+1)) (h':=s.heap.push PySem.W.emptyDict) (t':=s.toks) (λb u q=>ae _ q) (ak _) ⟨_,c⟩;refine d.laid (a:=s.heap.objs.size+1) (o:=.ins C s.heap.objs.size []) (t':=s.toks) (λb u q=>ae _ q) (Nat.le_of_eq (br _ _)) ?_;have ne:s.heap.objs.size≠s.heap.objs.size+1:=aK (cm _);refine⟨by rw[A5 ne,A0],bw _,ne,f,λ_=>none,(Heap.Ns1.of_empty g).at λo q=>ae _ q,λ_=>True.intro,λy i=>absurd rfl i⟩
def b6n{prog:qG}{env:Env}{f:Str}(a:attributeBase e f env (eval e env)=eval e env)
  (h:wpAny (model prog w) A (eval e env) (λo s₁=>wpAny (model prog w) A (getAttr o f true) Q E s₁) E s):wpAny (model prog w) A (eval (.Attribute e f pos) env) Q E s :=
 Attribute_any_ h (by rw[arm_eval_Attribute,a])
end
def b9k(K:qF)(ta:TE)(f:Str):TE:=λσ H Q=>ta σ H λx H1=>∃a C dx fs v,x=.ref a/\H1 a=some (.ins C dx fs)/\Cls K C/\NoAttr K C f/\fs.lookup f=some v/\Q v H1
def b9o(K:qF)(ta tv:TE)(f:Str):TS:=λD σ H=>tv σ H λy H1=>ta σ H1 λx H2=>∃a C dx fs,x=.ref a/\H2 a=some (.ins C dx fs)/\Cls K C/\NoAttr K C f/\fs.length<1000 /\
 D.nx σ (upd H2 a (.ins C dx (J8 f y fs)))
section
variable {o value:Expr}{f:Str}{pos' tpos:Pos}{tv:TE}
def b7P(j:PE X e ta)(i:attributeBase e f X.env (eval e X.env)=eval e X.env):PE X (.Attribute e f pos) (b9k X.K ta f):=by
 intro qK s σ H Q I h;refine b6n i (thn (j qK s σ H _ I h) λu s1 ⟨x,H1,b,m,a,C,dx,fs,v,ex,g,c,n,l,q⟩=>?_);subst ex;obtain rfl:u=Value.ref a:=m;exact a7Z b g c n l λo s2 d k=>⟨v,H1,d,k,q⟩
def b7C(i:PE X o ta)(j:PE X value tv)(hs:swapsWith value (some (.Attribute o f pos')) pos.line X.env=pure false):PS X (.Assign [.Attribute o f pos'] value pos) (b9o X.K ta tv f):=by
 intro qK s σ H D I h;refine plainObj_wpAny_Assign_Attribute (thn (j qK s σ H _ I h) λu s1 ⟨y,H1,b,r,q⟩=>thn (i qK s1 σ H1 _ b q) λk s2 ⟨x,H2,d,p,a,C,dx,fs,ex,g,c,n,l,m⟩=>?_) hs;subst ex;obtain rfl:k=Value.ref a:=p;exact a7w d g c n l r λt e=>⟨σ,_,e,m⟩
end
section
variable {c:qB}{b:Bool}
inductive TyOf(K:qF)(H:Hp):V->qB->Prop where
 |non:TyOf K H .non (.type "NoneType")
 |bl (x:Bool):TyOf K H (.bl x) (.type "bool")
 |int (i:Int):TyOf K H (.int i) (.type "int")
 |str (x:Str):TyOf K H (.str x) (.type "str")
 |flt (x:UInt64):TyOf K H (.flt x) (.type "float")
 |lst {a:qE}{xs:qA V}(e:H a=some (.lst xs)):TyOf K H (.ref a) (.type "list")
 |frz {a:qE}{o:Obj}{xs:qA V}(e:H a=some (.frz o (.lst xs))):TyOf K H (.ref a) (.type "list")
 |tup {a:qE}{xs:qA V}(e:H a=some (.tup xs)):TyOf K H (.ref a) (.type "tuple")
 |dK {a:qE}{qL:qA (Key×V)}(e:H a=some (.dK qL)):TyOf K H (.ref a) (.type "dict")
 |dT {a:qE}{qL:qA (qA Key×V)}(e:H a=some (.dT qL)):TyOf K H (.ref a) (.type "dict")
 |ins {a C dx:qE}{fs:qA (Str×V)}(e:H a=some (.ins C dx fs)) (cl:Cls K C) (ha:PySem.W.findIn K (.ref C) "__class__"=some (some (.builtin "object.__class__")))
   (hn:PySem.W.specialIn K (.builtin "object.__class__") "__get__"=some (some (.builtin "getset_descriptor.__get__"))) (htk:PySem.W.takesIn K (.builtin "object.__class__")=some true)
   (hm:PySem.W.mroIn K C (.type "object")=some true):TyOf K H (.ref a) (.ref C)
def b0G{x:V}{t:qB}(I:Inv X qK σ H s)(d:RelV x u)(ty:TyOf X.K H x t)(e:PySem.W.kitOne X.K t c=some b)(h:∀tk,Q (.bool b) {s with toks:=tk}) :
  wpAny (model X.prog X.w) A (call (.builtin "isinstance") [u,c]) Q E s:=by
 cases ty with
 |non=>cases(show u=Value.none from d);exact PySem.W.kia_one PySem.W.kitx_none I.kIn True.intro e (λz=>nomatch z) h
 |bl y=>cases(show u=Value.bool y from d);exact PySem.W.kia_one PySem.W.kitx_bool I.kIn True.intro e (λz=>nomatch z) h
 |int i=>obtain⟨t,q⟩:=(show ∃t,u=Value.int i t from d);cases q;exact PySem.W.kia_one PySem.W.kitx_int I.kIn True.intro e (λz=>nomatch z) h
 |str y=>obtain⟨t,q⟩:=(show ∃t,u=Value.str y t from d);cases q;exact PySem.W.kia_one PySem.W.kitx_str I.kIn True.intro e (λz=>nomatch z) h
 |flt y=>obtain⟨t,q⟩:=(show ∃t,u=Value.float y t from d);cases q;exact PySem.W.kia_one PySem.W.kitx_float I.kIn True.intro e (λz=>nomatch z) h
 |@lst a xs ea =>
  cases(show u=Value.ref a from d);obtain⟨_,_,n,_,h1⟩:=(show ObjOk X.prog X.w H s.heap a (.lst xs)from I.hok a _ ea);exact PySem.W.kia_one PySem.W.kitx_list I.kIn ⟨_,h1,rfl⟩ e (λz=>nomatch z) h
 |@frz a ob xs ea =>
  cases(show u=Value.ref a from d);obtain⟨_,_,_,n,_,h1⟩:=(show ObjOk X.prog X.w H s.heap a (.frz ob (.lst xs))from I.hok a _ ea);exact PySem.W.kia_one PySem.W.kitx_list I.kIn ⟨_,h1,rfl⟩ e (λz=>nomatch z) h
 |@tup a xs ea =>
  cases(show u=Value.ref a from d);obtain⟨_,_,_,p⟩:=(show ObjOk X.prog X.w H s.heap a (.tup xs)from I.hok a _ ea);obtain⟨o,h1,h2,_⟩:=p;exact PySem.W.kia_one PySem.W.kitx_tuple I.kIn ⟨o,h1,h2⟩ e (λz=>nomatch z) h
 |@dK a qL ea =>
  cases(show u=Value.ref a from d);obtain⟨_,_,l,_,p⟩:=(show ObjOk X.prog X.w H s.heap a (.dK qL)from I.hok a _ ea);obtain⟨o,es,ep,h1,h2,_⟩:=p;exact PySem.W.kia_one PySem.W.kitx_dict I.kIn ⟨o,h1,h2.1⟩ e (λz=>nomatch z) h
 |@dT a qL ea =>
  cases(show u=Value.ref a from d);obtain⟨_,_,xs,_,o,es,ep,h1,h2,_⟩:=(show ObjOk X.prog X.w H s.heap a (.dT qL)from I.hok a _ ea);exact PySem.W.kia_one PySem.W.kitx_dict I.kIn ⟨o,h1,h2.1⟩ e (λz=>nomatch z) h
 |@ins a C dx fs ea cl g k f j =>
  cases(show u=Value.ref a from d);obtain⟨mA,O,_⟩:=a2I I.hok ea;obtain⟨od,J,_⟩:=O.look;exact PySem.W.kia_one (PySem.W.kitx_own (cl.get _) cl.hd g k f j) I.kIn J e (λz=>nomatch z) h
end
structure Room(k:Nat)(A:Around):Prop where
 hd:A.handled=none
 dp:A.depth+3*k+5<recursionLimit
 un:A.units+16*k+200<cLine
def Room.mono{j:Nat}(r:Room k A)(h:j<=k):Room j A:=⟨r.hd,by have:=r.dp;omega,by have:=r.un;omega⟩
def Room.deeper(r:Room (k+1) A)(env:Env):Room k (A.deeper env) :=
 ⟨r.hd,by have:=r.dp;show A.depth+1+3*k+5<_;omega,by have:=r.un;show A.units+3+16*k+200<_;omega⟩
def a7R{a:qA (Str×qB)}:(A.under (.builtin "type.__call__" ⟨.ref C::us,a⟩)).depth=A.depth+1:=by
 first|rfl|simp[Around.under,Code.weight,Code.isCreation,Code.isGuard,Code.isCaller,Code.frames,Code.isFrame,guardIds]
def a7Q{a:qA (Str×qB)}:(A.under (.builtin "type.__call__" ⟨.ref C::us,a⟩)).units=A.units+1:=by
 first|rfl|simp[Around.under,Code.cUnits,Code.frames,Code.isFrame]
def Room.make(r:Room (k+1) A)(C:qE)(us:qA qB)(a:qA (Str×qB)):Room k (A.under (.builtin "type.__call__" ⟨.ref C::us,a⟩)) :=
 ⟨r.hd,by have:=r.dp;rw[a7R];omega,by have:=r.un;rw[a7Q];omega⟩
def Room.depth(r:Room k A):A.depth<recursionLimit:=by have:=r.dp;omega
def a2f:TA:=λ_ H Q=>Q [] H
def a6c(ta:TE)(tr:TA):TA:=λσ H Q=>ta σ H λx H1=>tr σ H1 λxs H2=>Q (x::xs) H2
def b7T:PA X [] a2f:=λ_ _ _ _ H Q I h=>Calls.spliced_nil ⟨[],H,I,.nil,h⟩
def b5w(c:PE X e te)(d:PA X es t)(hs:starEach (e::es) X.env=(false,eval e X.env)::starEach es X.env:=by rfl):PA X (e::es) (a6c te t):=by
 intro pos qK s σ H Q I h;rw[hs];show wpAny _ _ (spliced ((false,eval e X.env)::backTo pos (starEach es X.env))) _ _ s;refine Calls.spliced_cons (thn (c qK s σ H _ I h) λu s1 ⟨x,H1,a,g,q1⟩=>?_);exact thn (d pos qK s1 σ H1 _ a q1) λj s2 ⟨xs,H2,b,i,f⟩=>⟨x::xs,H2,b,.cons g i,f⟩
def b7k(t:TA):TE:=λσ H Q=>t σ H λxs H1=>xs.length<=sizeLine/\∀p,H1 p=none->Q (.ref p) (upd H1 p (.tup xs))
def b4A(t:TA):TE:=λσ H Q=>t σ H λxs H1=>xs.length<=sizeLine/\∀p,H1 p=none->Q (.ref p) (upd H1 p (.lst xs))
def b7I{x1}(h:PA X es t):PE X (.Tuple es x1 pos) (b7k t):=by
 intro qK s σ H Q I d;refine wpAny_Tuple_spliced (thn (h pos qK s σ H _ I d) λf s1 ⟨xs,H1,a,r,z,q⟩=>⟨by rw[<-r.length];exact z,?_⟩);have c:H1 s1.heap.objs.size=none:=a.hok.fresh (ak _);refine⟨.ref s1.heap.objs.size,upd H1 s1.heap.objs.size (.tup xs),a.laid (t':=s1.toks) (λb u e=>ae _ e) (ak _) ?_,rfl,q _ c⟩;exact⟨z,f,r,⟨_,aC _ rfl,rfl,_,rfl⟩⟩
def b7N(h:PA X es t):PE X (.List es pos) (b4A t):=by
 intro qK s σ H Q I d;refine wpAny_List_spliced (thn (h pos qK s σ H _ I d) λf s1 ⟨xs,H1,a,r,z,q⟩=>⟨by rw[<-r.length];exact z,?_⟩);have c:H1 s1.heap.objs.size=none:=a.hok.fresh (ak _);refine⟨.ref s1.heap.objs.size,upd H1 s1.heap.objs.size (.lst xs),a.laid (t':=s1.toks) (λb u e=>ae _ e) (ak _) ?_,rfl,q _ c⟩;exact⟨z,f,0,r,aC _ rfl⟩
abbrev Sp:=qA V->Hp->VK->XK->Prop
variable {sp:Sp}
abbrev CXT:=qA Env->Hp->qC->XK->qH
variable {CX:CXT}
structure Env0(P:qG)(w:World)(K:qF)(mg:Str->qD qB)(base:Heap)(A:Around)(outer:qA Env)(s:qC)(H:Hp):Prop where
 frames:A.frames=some outer
 mod:Mod K mg base
 bs:∀b o,base.get? b=some o->s.heap.get? b=some o/\H b=none
 bsz:base.objs.size<=s.heap.objs.size
 funs:s.heap.FunFrames base outer
 frf:∀b∈frs outer,H b=none
 hok:HOk P w H s.heap
 bare:AllBare s.gens
def CE(outer:qA Env)(P:qG)(w:World)(H:Hp)(s:qC)(Q:VK)(u:qB)(s':qC):Prop :=
 ∃v H',s'.os=s.os/\AllBare s'.gens/\Un (frs outer) [] H H' s.heap s'.heap/\HOk P w H' s'.heap/\RelV v u/\Q v H'
def CR(CX:CXT)(outer:qA Env)(P:qG)(w:World)(H:Hp)(s:qC)(Q:VK)(E:XK)(r:Result)(s':qC):Prop :=
 match r with
 |.ok (.ret u)=>CE outer P w H s Q u s'
 |.ok _=>False
 |.error e=>CX outer H s E e s'
structure FnOk(P:qG)(w:World)(K:qF)(mg:Str->qD qB)(base:Heap)(CX:CXT)(k:Nat)(f:qE)(fd:FuncData)(ps:qA Str)(sp:Sp):Prop where
 len:∀vs H Q E,sp vs H Q E->vs.length=ps.length
 run:∀(A:Around) (outer:qA Env) (s:qC) (H:Hp) (args:Args) (us:qA qB) (vs:qA V) (Q:VK) (E:XK),Room k A->Env0 P w K mg base A outer s H->BindsTo s fd args (ps.zip us)->Vals vs us->sp vs H Q E ->
  codeAny (model P w) A (.call (.ref f) args) (CR CX outer P w H s Q E) s
def FnOk.imp{f:qE}{sp':Sp}(F:FnOk P w K mg base CX k f fd ps sp)
  (h:∀vs H Q E,sp' vs H Q E->sp vs H Q E):FnOk P w K mg base CX k f fd ps sp' :=
 ⟨λvs H Q E q=>F.len vs H Q E (h _ _ _ _ q),λA a s H b i vs Q E e d c g hs=>F.run A a s H b i vs Q E e d c g (h _ _ _ _ hs)⟩
def Env0.make{outer:qA Env}(e:Env0 P w K mg base A outer s H)(C:qE)(us:qA qB)(a:qA (Str×qB)) :
  Env0 P w K mg base (A.under (.builtin "type.__call__" ⟨.ref C::us,a⟩)) outer s H:=⟨by first|exact e.frames | (simpa[Around.under,Code.envs,Code.isFrame,pushEnvs]using e.frames),e.mod,e.bs,e.bsz,e.funs,e.frf,e.hok,e.bare⟩
section
variable {s':qC}
def Inv.env0(I:Inv X qK σ H s):Env0 X.prog X.w X.K X.mg X.base X.A X.stack s H :=
 ⟨I.ok.frames,I.ok.mod,I.bs,bh I.ok.bsz I.sz,I.stack,I.stkFree,I.hok,I.bare⟩
def Inv.after{Q:VK}(I:Inv X qK σ H s)(h:CE X.stack X.prog X.w H s Q u s'):EP X qK σ Q u s':=by
 obtain⟨v,H',os,a,un,c,r,q⟩:=h;obtain⟨f,g,d,t,e⟩:=s';obtain rfl:e=s.os:=os;exact⟨v,H',I.call (h':=f) (g':=g) (d':=d) (t':=t) (ch:=[]) un c a (λb z=>absurd z (by simp)),r,q⟩
end
def a8G(sp:Sp)(dvs:qA V)(E:XK)(t:TA):TE:=λσ H Q=>t σ H λvs H1=>sp (vs++dvs) H1 Q E
def a1X(C:qE)(m:Str)(sp:Sp)(dvs:qA V)(E:XK)(ta:TE)(t:TA):TE:=λσ H Q=>ta σ H λx H1=>∃a dx fs,x=.ref a/\H1 a=some (.ins C dx fs)/\fs.lookup m=none /\
 t σ H1 λvs H2=>sp (x::(vs++dvs)) H2 Q E
def b6x(C:qE)(sp:Sp)(dvs:qA V)(E:XK)(t:TA):TE:=λσ H Q=>t σ H λvs H1=>∀x dx,H1 x=none->H1 dx=none->dx≠x ->
 sp (.ref x::(vs++dvs)) (upd (upd H1 dx (.own x)) x (.ins C dx [])) (λv H2=>v=.non/\Q (.ref x) H2) E
def Binds(K:qF)(fd:FuncData)(ps:qA Str)(ds:qA qB):Prop :=
 ∀(s:qC) (us:qA qB),K.In s.heap->(us++ds).length=ps.length->BindsTo s fd ⟨us,[]⟩ (ps.zip (us++ds))
def Binds.all(h:∀us:qA qB,us.length=ps.length->bindArgs fd ⟨us,[]⟩=pure (ps.zip us)):Binds K fd ps []:=λs us _ a=>by
 rw[cp]at a⊢;exact .of_eq (h us a)
def a0l(CX:CXT)(X:Cx)(E:XK):Prop:=∀(qK:qA (qE×Obj)) (σ:St) (H:Hp) (s:qC) (e:qB) (s':qC),Inv X qK σ H s->CX X.stack H s E e s'->X.xe e s'
section
variable {f:qE}{dvs:qA V}{ds:qA qB}{E:XK}{m:Str}{p qO:Pos}{o:Expr}
def a7C{Q:VK}(F:FnOk X.prog X.w X.K X.mg X.base CX k f fd ps sp)(g:Room k X.A)(c:Binds X.K fd ps ds)(hd:Vals dvs ds)(i:a0l CX X E)
  (I:Inv X qK σ H s) (r:Vals vs us) (h:sp (vs++dvs) H Q E):wpAny (model X.prog X.w) X.A (call (.ref f) us) (EP X qK σ Q) X.xe s:=by
 have b:Vals (vs++dvs) (us++ds):=r.append hd;have d:(us++ds).length=ps.length:=by rw[<-b.length];exact F.len _ _ _ _ h
 refine fi (de (F.run X.A X.stack s H ⟨us,[]⟩ (us++ds) (vs++dvs) Q E g I.env0 (c s us I.kIn d) b h) λr s' a=>?_);cases r with
 |error e=>exact i qK σ H s e s' I a
 |ok fl =>
  cases fl with
  |ret u=>exact I.after a
  |next=>exact False.elim a
  |brk=>exact False.elim a
  |cont=>exact False.elim a
def a9e(F:FnOk X.prog X.w X.K X.mg X.base CX k f fd ps sp)(n:Room k X.A)(j:Gl X x)(m:X.mg x=some (.ref f))(l:PySem.W.keepIn X.K (.ref f)=true)(g:Binds X.K fd ps ds)(hd:Vals dvs ds)(o:a0l CX X E)
  (d:PA X (e::es) t) (a:(x==("__debug__" : Str))=false:=by decide) (i:starEach (e::es) X.env=(false,eval e X.env)::starEach es X.env:=by rfl) (b:(backTo pos (starEach es X.env)).any (·.1)=false:=by rfl) :
  PE X (.Call (.Name x p) (e::es) [] pos) (a8G sp dvs E t):=by
 intro qK s σ H Q I h;refine dg (N3 I j m ?_ a);refine PySem.W.callWith_K (h₀:=X.base) I.ok.mod.kin l (thn (d pos qK s σ H _ I h) λu s1 ⟨v,H1,c,r,q⟩=>⟨c.kIn,?_⟩) i b;exact a7C F n g hd o c r q
def b5r(w:PE X o ta)(c:Cls X.K C)(j:Meth X.K C m f)(F:FnOk X.prog X.w X.K X.mg X.base CX k f fd ps sp)(y:Room k X.A)(v:Binds X.K fd ps ds)(hd:Vals dvs ds)(A:a0l CX X E)(p:PA X (e::es) t)
  (d:starEach (e::es) X.env=(false,eval e X.env)::starEach es X.env:=by rfl) (b:(backTo pos (starEach es X.env)).any (·.1)=false:=by rfl)
  (z:eval (.Call (.Attribute o m qO) (e::es) [] pos) X.env=(do
   let ov <-eval o X.env
   standAt qO.atName
   let (f,first) <-holding [ov] (getMethod ov m pl)
   callWith pos f first (backTo pos (starEach (e::es) X.env)) (backToKw pos (keywordEach [] X.env))):=by rfl) :
  PE X (.Call (.Attribute o m qO) (e::es) [] pos) (a1X C m sp dvs E ta t):=by
 intro qK s σ H Q I h;refine PySem.W.methodCall_KW (pl:=pl) (thn (w qK s σ H _ I h) λu s1 ⟨x,H1,g,D,a,dx,fs,ex,n,l,q⟩=>?_) z;subst ex;obtain rfl:u=Value.ref a:=D;refine a3E g n c j l ?_;refine PySem.W.callWith_K (first:=[.ref a]) (h₀:=X.base) I.ok.mod.kin j.kp (thn (p pos qK s1 σ H1 _ g q) λG s2 ⟨J,H2,i,r,B⟩=>⟨i.kIn,?_⟩) d b;exact a7C (us:=.ref a::G) (vs:=.ref a::J) F y v hd A i (.cons rfl r) B
def b2I(i:PE X o ta)(c:Cls X.K C)(d:Meth X.K C m f)(F:FnOk X.prog X.w X.K X.mg X.base CX k f fd ps sp)(j:Room k X.A)(g:Binds X.K fd ps ds)(hd:Vals dvs ds)(p:a0l CX X E)
  (n:eval (.Call (.Attribute o m qO) [] [] pos) X.env=(do
   let ov <-eval o X.env
   standAt qO.atName
   let (f,first) <-holding [ov] (getMethod ov m pl)
   callWith pos f first (backTo pos (starEach [] X.env)) (backToKw pos (keywordEach [] X.env))):=by rfl) :
  PE X (.Call (.Attribute o m qO) [] [] pos) (a1X C m sp dvs E ta a2f):=by
 intro qK s σ H Q I h;refine PySem.W.methodCall_KW (pl:=pl) (thn (i qK s σ H _ I h) λu s1 ⟨x,H1,b,r,a,dx,fs,ex,e,l,q⟩=>?_) n;subst ex;obtain rfl:u=Value.ref a:=r;refine a3E b e c d l ?_;exact PySem.W.callWith_K0 (first:=[.ref a]) b.kIn d.kp (a7C (us:=[.ref a]) (vs:=[.ref a]) F j g hd p b (.cons rfl .nil) q)
structure Mk(K:qF)(C f:qE):Prop where
 makes:PySem.W.makesIn K C=true
 init:PySem.W.findIn K (.ref C) "__init__"=some (some (.ref f))
 fn:PySem.W.isFn K (.ref f)=true
 kp:PySem.W.keepIn K (.ref C)=true
def b2g{Q:VK}(M:Mk X.K C f)(F:FnOk X.prog X.w X.K X.mg X.base CX k f fd ps sp)(m:Room (k+1) X.A)(j:Binds X.K fd ps ds)(hd:Vals dvs ds)
  (n:a0l CX X E) (I:Inv X qK σ H s) (r:Vals vs us)
  (h:∀x dx,H x=none->H dx=none->dx≠x->sp (.ref x::(vs++dvs)) (upd (upd H dx (.own x)) x (.ins C dx [])) (λv H2=>v=.non/\Q (.ref x) H2) E) :
  wpAny (model X.prog X.w) X.A (call (.ref C) us) (EP X qK σ Q) X.xe s:=by
 have c:=h (s.heap.objs.size+1) s.heap.objs.size (I.hok.fresh (ed _)) (I.hok.fresh (ak _)) (aK (cm _));have b:=Inv.made (C:=C) I;have d:Vals (V.ref (s.heap.objs.size+1)::(vs++dvs)) (Value.ref (s.heap.objs.size+1)::(us++ds)):=.cons rfl (r.append hd);have l:(Value.ref (s.heap.objs.size+1)::us++ds).length=ps.length:=by
  have e:=d.length;rw[F.len _ _ _ _ c]at e;exact e.symm
 refine fi (b3h (f:=f) I.kIn M.makes M.init (a_.mp M.fn) (de (F.run _ X.stack _ _ ⟨Value.ref (s.heap.objs.size+1)::us,[]⟩ (Value.ref (s.heap.objs.size+1)::(us++ds)) _ _ E (m.make C us [])
  (b.env0.make C us []) (j _ (Value.ref (s.heap.objs.size+1)::us) b.kIn l) d c) λr s' a=>?_))
 cases r with
 |error e=>exact n qK σ _ _ e s' b a
 |ok fl =>
  cases fl with
  |ret u =>
   obtain⟨v,H',g,p,i,o⟩:=b.after a;subst i;exact⟨p,⟨V.ref (s.heap.objs.size+1),H',g,rfl,o⟩⟩
  |next=>exact False.elim a
  |brk=>exact False.elim a
  |cont=>exact False.elim a
def b5s(M:Mk X.K C f)(F:FnOk X.prog X.w X.K X.mg X.base CX k f fd ps sp)(m:Room (k+1) X.A)(j:Gl X x)(l:X.mg x=some (.ref C))(g:Binds X.K fd ps ds)(hd:Vals dvs ds)(n:a0l CX X E)
  (d:PA X (e::es) t) (a:(x==("__debug__" : Str))=false:=by decide) (i:starEach (e::es) X.env=(false,eval e X.env)::starEach es X.env:=by rfl) (b:(backTo pos (starEach es X.env)).any (·.1)=false:=by rfl) :
  PE X (.Call (.Name x p) (e::es) [] pos) (b6x C sp dvs E t):=by
 intro qK s σ H Q I h;refine dg (N3 I j l ?_ a);refine PySem.W.callWith_K (h₀:=X.base) I.ok.mod.kin M.kp (thn (d pos qK s σ H _ I h) λo s1 ⟨u,H1,c,r,q⟩=>⟨c.kIn,?_⟩) i b;exact b2g M F m g hd n c r q
end
section
variable {f:qE}{ks:qA Str}{E:XK}{m:Str}{p qO kpos:Pos}{o:Expr}{kws:qA Keyword}{tk:TA}{nm:qD Str}
variable {g:qA qB->qA qB->qA qB}{gV:qA V->qA V->qA V}
end
structure FnScope(N P:qA Str)(sc:Scope):Prop where
 kind:sc.kind=.function:=by rfl
 co:sc.isCoroutine=false:=by rfl
 gen:sc.isGenerator=false:=by rfl
 nd:N.Nodup:=by decide +kernel
 pre:N.take P.length=P:=by rfl
 par:∀x∈P,sc.names.lookup x=some .local∨sc.names.lookup x=some .cell:=by decide +kernel
 nofree:∀y∈sc.names,y.2≠.free:=by decide +kernel
def a4P{kindOf:Str->qD NameKind}{x:Str}:∀{binds:qA (Str×qB)}{m:Str->qD qB},(∀v,(x,v)∉binds)->bindL kindOf binds m x=m x
 |[],_,_=>rfl
 |(n,v)::r,m,h=>by
  unfold bindL;rw[a4P λw hw=>h w (au _ hw)];split
  .have:x≠n:=by rintro rfl;exact h v ax
   simp[this]
  .rfl
def a4R{kindOf:Str->qD NameKind}{x:Str}:∀{binds:qA (Str×qB)}{m:Str->qD qB},(∀v,(x,v)∉binds)->bindC kindOf binds m x=m x
 |[],_,_=>rfl
 |(n,v)::r,m,h=>by
  unfold bindC;rw[a4R λw hw=>h w (au _ hw)];split
  .rfl
  .have:x≠n:=by rintro rfl;exact h v ax
   simp[this]
def a4Q{kindOf:Str->qD NameKind}{x:Str}{v:qB}:∀{P:qA Str}{vs:qA qB}{i:Nat}{m:Str->qD qB},P.Nodup->P[i]?=some x->vs[i]?=some v->kindOf x=some .local ->
  bindL kindOf (P.zip vs) m x=some v
 |[],_,_,_,_,h,_,_=>by simp at h
 |_::_,[],_,_,_,_,h,_=>by simp at h
 |p::P,w::vs,0,m,nd,h1,h2,a=>by
  simp at h1 h2;subst h1;subst h2;show bindL kindOf ((p,w)::P.zip vs) m p=_;unfold bindL;rw[a4P λv b=>(cq.mp nd).1 (List.of_mem_zip b).1,av a];simp
 |p::P,w::vs,i+1,m,nd,h1,h2,a=>by
  show bindL kindOf ((p,w)::P.zip vs) m x=_;unfold bindL;exact a4Q (i:=i) (cq.mp nd).2 (by simpa using h1) (by simpa using h2) a
def a4S{kindOf:Str->qD NameKind}{x:Str}{v:qB}:∀{P:qA Str}{vs:qA qB}{i:Nat}{m:Str->qD qB},P.Nodup->P[i]?=some x->vs[i]?=some v->kindOf x≠some .local ->
  bindC kindOf (P.zip vs) m x=some v
 |[],_,_,_,_,h,_,_=>by simp at h
 |_::_,[],_,_,_,_,h,_=>by simp at h
 |p::P,w::vs,0,m,nd,h1,h2,a=>by
  simp at h1 h2;subst h1;subst h2;show bindC kindOf ((p,w)::P.zip vs) m p=_;unfold bindC;rw[a4R λv b=>(cq.mp nd).1 (List.of_mem_zip b).1,ao a];simp
 |p::P,w::vs,i+1,m,nd,h1,h2,a=>by
  show bindC kindOf ((p,w)::P.zip vs) m x=_;unfold bindC;exact a4S (i:=i) (cq.mp nd).2 (by simpa using h1) (by simpa using h2) a
def start(N:qA Str)(vs:qA V):St:=vs.map some++List.replicate (N.length-vs.length) none
def K4(CX:CXT)(P:qG)(w:World)(K:qF)(mg:Str->qD qB)(base:Heap)(N:qA Str)(qual:Str)(scope:Scope)(f:qE)(cd:qB)(A:Around)(outer:qA Env)(s:qC)(H:Hp)(E:XK):Cx where
 prog:=P
 w:=w
 K:=K
 mg:=mg
 base:=base
 A:=A.deeper (envOfC qual scope s.heap.objs.size f cd)
 N:=N
 s₀:=s
 H₀:=H
 env:=envOfC qual scope s.heap.objs.size f cd
 outer:=outer
 stack:=envOfC qual scope s.heap.objs.size f cd::outer
 ex:=[]
 calm:=true
 fn:=λ_=>true
 pn:=[]
 xe:=λe s'=>wpAny (model P w) (A.deeper (envOfC qual scope s.heap.objs.size f cd)) (leaving (envOfC qual scope s.heap.objs.size f cd) e) (λ_ s''=>CX outer H s E e s'') (λe' s''=>CX outer H s E e' s'') s'
def a7e{a:Scope}(h:a.names.lookup x=some .cell):∃c,(cellsFrom n a.names []).lookup x=some c:=by
 have q:=PySem.W.cellsFrom_some a.names n [] (.inl h);exact Option.isSome_iff_exists.mp q
def b0H{N:qA Str}{qual:Str}{scope:Scope}{f:qE}{cd:qB}{outer:qA Env}{s1:qC}{E:XK}
  (S:FnScope N ps scope) (hd:A.handled=none) (d:Env0 P w K mg base A outer s H) (G:vs.length=ps.length) (r:Vals vs us)
  (x:InCallC s s.heap.objs.size (bindL (envOfC qual scope s.heap.objs.size f cd).kindOf (ps.zip us) λ_=>none) (cellsFrom (s.heap.objs.size+1) scope.names []) (bindC (envOfC qual scope s.heap.objs.size f cd).kindOf (ps.zip us) λ_=>none) s1) :
  Inv (K4 CX P w K mg base N qual scope f cd A outer s H E) [] (start N vs) H s1:=by
 have C:ps.length<=N.length:=by have:=aP List.length S.pre;rw[aN]at this;omega
 obtain⟨h1,tk,rfl,o⟩:=x.done;have j:∀b:qE,b∉(K4 CX P w K mg base N qual scope f cd A outer s H E).ex:=λb z=>absurd (show b∈([]:qA qE)from z) (by simp);refine⟨⟨d.mod,S.kind,rfl,rfl,ak _,λy z c h1 h2=>?_,λy g=>?_,λy c _ h=>?_,λ_=>hd,Around.frames_deeper d.frames,.inr ⟨rfl,rfl⟩,λb z=>absurd z (j b),d.bs,d.bsz,λb _ _=>j b,λb z=>absurd z (j b),d.funs,d.frf⟩,
  rfl,d.bare,Un.kept o,⟨_,x.toInCall.ns,λi y v h1 h2 F=>?_⟩,λy c h=>⟨_,x.cell y c h⟩,d.hok.fresh (ak _),λy c h=>?_,λp l=>absurd (show p∈([]:qA (qE×Obj))from l) (by simp),d.hok.kept o,?_⟩
 .exact name_of_addr x.apart (PySem.mem_of_lookup h1) (PySem.mem_of_lookup h2)
 .have g:scope.names.lookup y=some .cell∨scope.names.lookup y=some .free:=g;rcases g with g|g
  .exact a7e g
  .exact absurd rfl (S.nofree _ (PySem.mem_of_lookup g))
 .exact cK (x.above y c (PySem.mem_of_lookup h))
 .have hi:i<vs.length:=by
   unfold start at h2;by_cases hi:i<vs.length
   .exact hi
   .rw[a' (by simpa using hi)]at h2;rw[dW]at h2;split at h2<;>cases h2
  have B:vs[i]?=some v:=by
   unfold start at h2;rw[bx (by simpa using hi),aX]at h2;cases e:vs[i]? with
   |none=>rw[e]at h2;cases h2
   |some a=>rw[e]at h2;cases h2;rfl
  obtain⟨u,t,D⟩:=r.get B;have l:ps[i]?=some y:=by
   rw[<-S.pre,di (by omega)];exact h1
  have m:ps.Nodup:=by rw[<-S.pre];exact S.nd.sublist (List.take_sublist _ _)
  refine⟨u,D,?_⟩;rcases S.par y (aH l)with k|k
  .exact .inl ⟨k,a4Q m l t k⟩
  .obtain⟨c,e⟩:=a7e (n:=s.heap.objs.size+1) k;refine .inr ⟨.inl k,c,e,?_⟩;have q:=x.cell y c e;rw[a4S m l t (by show scope.names.lookup y≠_;rw[k];decide)]at q;exact q
 .exact d.hok.fresh (cK (x.above y c (PySem.mem_of_lookup h)))
 .unfold start;show _=N.length;rw[ar,ai,bt];omega
def b7b{f:qE}{name qual:Str}{c:Arguments}{scope:Scope}{G kV h pm a ct oc:qB}{an od:qD qE}
  {B:Array (qD qB)}{N:qA Str}(X:K.lookup f=some ⟨oc,od,.func (PySem.W.fnOf name qual c body scope G kV h pm an a ct),B⟩) (m:PySem.W.codeIn K a qual=true) (S:FnScope N ps scope)
  (l:∀vs H Q E,sp vs H Q E->vs.length=ps.length)
  (d:∀(A:Around) (outer:qA Env) (s:qC) (H:Hp) (vs:qA V) (Q:VK) (E:XK),Room k (A.deeper (envOfC qual scope s.heap.objs.size f a))->sp vs H Q E ->
   ∃t,PSs (K4 CX P w K mg base N qual scope f a A outer s H E) body t/\t {nx:=λ_ H'=>Q .non H',rt:=Q} (start N vs) H) :
  FnOk P w K mg base CX (k+1) f (PySem.W.fnOf name qual c body scope G kV h pm an a ct) ps sp:=by
 refine⟨l,λA outer s H F Y vs Q E p i M r j=>?_⟩;have R:=l _ _ _ _ j;have D:K.In s.heap:=i.mod.kin.keeps λb o e=>(i.bs b o e).1;have z:s.heap.NoLimit:=i.mod.nolimit.keeps λb o e=>(i.bs b o e).1;have g:∀y∈ps.zip Y,scope.names.lookup y.1=some .local∨(scope.names.lookup y.1=some .cell/\((cellsFrom (s.heap.objs.size+1) scope.names []).lookup y.1).isSome=true):=λ⟨n,v⟩ W=>by
  rcases S.par n (List.of_mem_zip W).1 with q|q
  .exact .inl q
  .exact .inr ⟨q,PySem.W.cellsFrom_some _ _ _ (.inl q)⟩
 refine codeAny_call_function p.depth (D _ _ X) rfl S.co S.gen rfl (PySem.W.codeRec_of D m) (M _ _ _ _ ?_);refine wpAny_newFunctionEnv_cells S.kind g λL O s1 x=>?_;subst O;refine⟨z.keeps x.toInCall.keep,codeAny_func ?_⟩;obtain⟨t,U,T⟩:=d A outer s H vs Q E (p.deeper _) j;have I:Inv (K4 CX P w K mg base N qual scope f a A outer s H E) [] (start N vs) H s1:=b0H S p.hd i R r x;refine cH (U [] s1 (start N vs) H _ I T) (λfl s' hs=>?_) λe s' hs=>hs;have fin:∀{σ':St}{H':Hp}{v:V}{u:qB},Inv (K4 CX P w K mg base N qual scope f a A outer s H E) [] σ' H' s'->RelV v u->Q v H'->CE outer P w H s Q u s' :=
  λ{σ' H' v u} J C q=>⟨v,H',J.os,J.bare,J.base,J.hok,C,q⟩
 cases fl with
 |ret u =>
  obtain⟨v,σ',H',J,C,q⟩:=hs;exact fin J C q
 |next =>
  obtain⟨σ',H',J,q⟩:=hs;exact fin (v:=V.non) (u:=Value.none) J rfl q
 |brk =>
  obtain⟨_,_,_,q⟩:=hs;exact False.elim q
 |cont =>
  obtain⟨_,_,_,q⟩:=hs;exact False.elim q
section
variable {p:Pos}{id T:String}{r:qA V->Hp->VK->Prop}
def tCB(r:qA V->Hp->VK->Prop)(t:TA):TE:=λσ H Q=>t σ H λvs H1=>r vs H1 Q
def D8(f:D0 X (.builtin id) r)(i:Gl X x)(j:X.mg x=none)(l:bootBuiltins x=some (.builtin id))(d:PA X (e::es) t)(k:x≠"__name__":=by decide)(a:(x==("__debug__" : Str))=false:=by decide)
  (g:starEach (e::es) X.env=(false,eval e X.env)::starEach es X.env:=by rfl) (b:(backTo pos (starEach es X.env)).any (·.1)=false:=by rfl):PE X (.Call (.Name x p) (e::es) [] pos) (tCB r t):=by
 intro qK s σ H Q I h;refine dg (a1D I i j l ?_ k a);exact PyProof.Rows.callWith_builtin1 (thn (d pos qK s σ H _ I h) λn s1 ⟨o,H1,c,m,q1⟩=>f qK s1 σ H1 o n Q c m q1) g b
def U7(f:D0 X (.type T) r)(i:Gl X x)(j:X.mg x=none)(l:bootBuiltins x=some (.type T))(d:PA X (e::es) t)(k:x≠"__name__":=by decide)(a:(x==("__debug__" : Str))=false:=by decide)
  (g:starEach (e::es) X.env=(false,eval e X.env)::starEach es X.env:=by rfl) (b:(backTo pos (starEach es X.env)).any (·.1)=false:=by rfl):PE X (.Call (.Name x p) (e::es) [] pos) (tCB r t):=by
 intro qK s σ H Q I h;refine dg (a1D I i j l ?_ k a);exact dD (thn (d pos qK s σ H _ I h) λn s1 ⟨o,H1,c,m,q1⟩=>f qK s1 σ H1 o n Q c m q1) g b
end
end L2
namespace HT
open PySem PyProof.Rows
def lexLt:qI->qI->Bool
 |[],[]=>false
 |[],_::_=>true
 |_::_,[]=>false
 |x::xs,y::ys=>if x=y then lexLt xs ys else decide (x<y)
def lexLt_cons(x y:Int)(xs ys:qI):lexLt (x::xs) (y::ys)=if x=y then lexLt xs ys else decide (x<y):=rfl
section
open PySem.SeqAt
open PySem.AutoSeq1 (wpAny_loadPart')
open PySem.MeetsSeq PySem.MeetsSeq2 PySem.MeetsSeq3
end
section
variable {prog:qG}{w:World}{A:Around}{E:qH}{s:qC}
def cat_tup{t b:qE}{vs a:qA qB}{Q:qH}(r:IsTup s.heap t vs.toArray)(q:IsTup s.heap b a.toArray)(o:vs≠[])
  (h1:a=[]->Q (.ref t) s) (h2:a≠[]->Q (.ref s.heap.objs.size) {s with heap:=s.heap.push {cls:=.type "tuple",data:=.seq (vs++a).toArray}})
  (k:vs.length+a.length<=sizeLine):wpAny (model prog w) A (binaryOp .Add (.ref t) (.ref b)) Q E s:=by
 obtain⟨⟨cls,dd,data,sl⟩,i,m,n,hd⟩:=id r;obtain⟨⟨l,d,j,h⟩,c,f,p,g⟩:=id q;simp only at m hd f g;subst m hd f g;have e:vs.toArray++a.toArray=(vs++a).toArray:=by simp
 by_cases hw:a=[]
 .exact concat_meets ⟨_,i,rfl⟩ ⟨_,c,rfl⟩ noFill_tuple_add seq_tuple_add PySem.F.slot_tuple_add PySem.F.entry_tuple_add (PySem.F.args_tuple_add_2 _ _)
   (tuple_addW1 t b vs.toArray a.toArray n p dd d sl h (by simpa using o) (by simp[hw])) ⟨i,c,h1 hw⟩
 .refine concat_meets ⟨_,i,rfl⟩ ⟨_,c,rfl⟩ noFill_tuple_add seq_tuple_add PySem.F.slot_tuple_add PySem.F.entry_tuple_add (PySem.F.args_tuple_add_2 _ _)
   (tuple_addW2 t b vs.toArray a.toArray n p dd d sl h (by simpa using o) (by simpa using hw) (by rw[aE,aE];exact k)) ⟨i,c,?_⟩
  rw[e];exact h2 hw
def sIx(n d:Nat):qD Int->Nat
 |none=>d
 |some v=>if v<0 then(v+(n:Int)).toNat else min v.toNat n
def sIx_none(n d:Nat):sIx n d none=d:=rfl
def sIx_nat(n d k:Nat):sIx n d (some (k:Int))=min k n:=by
 show(if (k:Int)<0 then((k:Int)+(n:Int)).toNat else min (k:Int).toNat n)=min k n;rw[ao (by omega),bz]
def b7p(n d:Nat)(hd:d<=n)(o:qD Int):sIx n d o<=n:=by
 cases o with
 |none=>exact hd
 |some v =>
  show(if v<0 then(v+(n:Int)).toNat else min v.toNat n)<=n;by_cases a:v<0
  .rw[av a];omega
  .rw[ao a];exact Nat.min_le_right _ _
def a9D(v:Int)(n d:Nat):(if v<0 then max (v+(n:Int)) 0 else min v (n:Int))=((sIx n d (some v):Nat):Int):=by
 show(if v<0 then max (v+(n:Int)) 0 else min v (n:Int))=(((if v<0 then(v+(n:Int)).toNat else min v.toNat n):Nat):Int);by_cases a:v<0
 .simp only[av a];omega
 .simp only[ao a];omega
def a8p(lo hi:qD Int)(n:Nat):Builtin.Slice.sliceAdjust lo hi 1 (n:Int)=(((sIx n 0 lo:Nat):Int),((sIx n n hi:Nat):Int)):=by
 have h1:¬((1:Int)<0):=by omega
 unfold Builtin.Slice.sliceAdjust;simp only[h1,if_false];refine Prod.ext ?_ ?_
 .cases lo with
  |none=>rfl
  |some v=>exact a9D v n 0
 .cases hi with
  |none=>rfl
  |some v=>exact a9D v n n
def a7H(i j:Nat):Builtin.Slice.slicePlaces (i:Int) (j:Int) 1=j-i:=by
 unfold Builtin.Slice.slicePlaces;have h1:(1:Int) > 0:=by omega
 simp only[h1,fj,Int.ediv_one];split<;>omega
def a2U{v:qB}{o:qD Int}{Q:qD Int->qC->Prop}(p:IsPart v o)(h:Q o s):wpAny (model prog w) A (Builtin.Slice.slicePartIndex v) Q E s:=by
 cases p with
 |none=>exact slicePart_none h
 |int i t=>exact slicePart_int h
def U6{sl:qE}{c d:qB}{lo hi:qD Int}{n:Nat}{Q:Int×Int×Nat->qC->Prop}(hs:s.heap.IsSliceOf sl c d .none)(pl:IsPart c lo)(f:IsPart d hi)
  (h:Q (((sIx n 0 lo:Nat):Int),1,sIx n n hi-sIx n 0 lo) s):wpAny (model prog w) A (Builtin.Slice.sliceApplied (.ref sl) (pure (n:Int))) Q E s:=by
 obtain⟨os,b,e,a⟩:=id hs;unfold Builtin.Slice.sliceApplied Builtin.Slice.sliceFields;refine aa (aa (bW b a (x:=c) rfl (aa (bW b a (x:=d) rfl (aa (bW b a (x:=.none) rfl (ag ?_)))))));refine aa (slicePart_none ?_);show wpAny _ _ (if ((1:Int)==0)=true then _ else _) _ _ s;rw[ao (by decide)];refine aa (a2U pl (aa (a2U f (aa (ag ?_)))));show wpAny _ _ (match Builtin.Slice.sliceAdjust lo hi 1 (n:Int)with | (lo,hi)=>pure (lo,(1:Int),Builtin.Slice.slicePlaces lo hi 1)) _ _ s;rw[a8p lo hi n];show wpAny _ _ (pure (((sIx n 0 lo:Nat):Int),(1:Int),Builtin.Slice.slicePlaces ((sIx n 0 lo:Nat):Int) ((sIx n n hi:Nat):Int) 1)) _ _ s;rw[a7H];exact ag h
def b2E(xs:Array qB)(i k:Nat):((List.range k).filterMap λ(m:Nat)=>xs[((i:Int)+(m:Int)*1).toNat]?).toArray=((xs.toList.drop i).take k).toArray:=by
 have e:(λ(m:Nat)=>xs[((i:Int)+(m:Int)*1).toNat]?)=λm=>xs[i+m]?:=by
  funext m;have:((i:Int)+(m:Int)*1).toNat=i+m:=by omega
  rw[this]
 rw[e];have:=pick_run xs i k;rw[List.filterMap_map]at this;have a:((λx=>xs[x]?) ∘ λx=>i+x)=λm=>xs[i+m]?:=rfl;rw[a]at this;rw[this]
def getItem_tuple_cut{t sl:qE}{items:Array qB}{g i:qB}{lo hi:qD Int}{Q:qH}(b:IsTup s.heap t items)(hs:s.heap.IsSliceOf sl g i .none)(pl:IsPart g lo)(l:IsPart i hi)
  (hw:¬(sIx items.size 0 lo=0/\sIx items.size items.size hi=items.size))
  (h:Q (.ref s.heap.objs.size) {s with heap:=s.heap.push {cls:=.type "tuple",data:=.seq ((items.toList.drop (sIx items.size 0 lo)).take (sIx items.size items.size hi-sIx items.size 0 lo)).toArray}})
  (k:items.size<=sizeLine):wpAny (model prog w) A (getItem (.ref t) (.ref sl)) Q E s:=by
 have a:sizeOk (.seq ((items.toList.drop (sIx items.size 0 lo)).take (sIx items.size items.size hi-sIx items.size 0 lo)).toArray):=by
  show((items.toList.drop (sIx items.size 0 lo)).take (sIx items.size items.size hi-sIx items.size 0 lo)).toArray.size<=sizeLine;rw[aE,aN,bQ,az];omega
 have n:sIx items.size items.size hi<=items.size:=b7p _ _ (ak _) hi;obtain⟨os,f,d,j⟩:=id hs;have c:s.TypeIs (.ref sl) "slice":=⟨os,f,d⟩;unfold getItem
 try with_reducible refine ck ?_
 first|refine aa (ag ?_)|skip
 refine aa (wpAny_sequenceKey b.typeIs (by decide) ?_);refine aa (bH (name:=Str.ofString "__getitem__") b.typeIs cy
  (bI cy b.typeIs entry_tuple_getitem ?_ (args_tuple_getitem _ _)))
 show wpAny _ _ (Builtin.Tuple.tupleItemsOf (.ref t)>>=_) _ _ s;refine aa (tupleItemsOf_ b ?_);refine aa (eB c ?_);rw[av (by decide)];refine aa (U6 hs pl l ?_);have e:¬((((sIx items.size 0 lo:Nat):Int)==0 && (1:Int)==1 && (sIx items.size items.size hi-sIx items.size 0 lo)==items.size)=true):=by
  intro q;rw[aO,aO]at q;have q1:((sIx items.size 0 lo:Nat):Int)=0:=eq_of_beq q.1.1;have o:sIx items.size items.size hi-sIx items.size 0 lo=items.size:=eq_of_beq q.2;exact hw ⟨by omega,by omega⟩
 show wpAny _ _ (if (((sIx items.size 0 lo:Nat):Int)==0 && (1:Int)==1 && (sIx items.size items.size hi-sIx items.size 0 lo)==items.size)=true then _ else _) _ _ s;rw[ao e,b2E]
 first
  |exact aa (m:=Builtin.Tuple.tupleExact _) (bU (ag ⟨_,rfl,ag h⟩) a)
  |exact aa (m:=Builtin.Tuple.tupleExact _) (bU (aa (ag (ag ⟨_,rfl,ag h⟩))) a)
  |exact aa (aa (m:=Builtin.Tuple.tupleExact _) (bU (ag (ag ⟨_,rfl,ag h⟩)) a))
  |exact aa (aa (m:=Builtin.Tuple.tupleExact _) (bU (ag ⟨_,rfl,ag h⟩) a))
end
end HT
namespace L2
open PySem PySem.Spec PyProof.Rows
variable {H:Hp}{X:Cx}{n:Nat}{qK:qA (qE×Obj)}{s:qC}{us:qA qB}{x:V}{xs:qA V}{α:Type}{σ:St}
abbrev TO:=St->Hp->(qD Int->Hp->Prop)->Prop
def PO(X:Cx)(e:qD Expr)(t:TO):Prop :=
 ∀(qK:qA (qE×Obj)) (s:qC) (σ:St) (H:Hp) (Q:qD Int->Hp->Prop),Inv X qK σ H s->t σ H Q ->
  wpAny (model X.prog X.w) X.A (evalPart e X.env) (λu s'=>∃o H',Inv X qK σ H' s'/\IsPart u o/\Q o H') X.xe s
def V8:TO:=λ_ H Q=>Q none H
def a8E(t:TE):TO:=λσ H Q=>t σ H λx H1=>∃i,x=.int i/\Q (some i) H1
def a7Y{ns:qI}:∀{us:qA qB},Vals (ns.map V.int) us->IntsAre us ns:=by
 induction ns with
 |nil=>intro us r;rw[fO]at r;cases r;exact .nil
 |cons n ns a =>
  intro us r;rw[aV]at r;cases r with
  |cons r1 r2 =>
   obtain⟨t,e⟩:=r1;subst e;exact .cons n t (a r2)
section
variable {e:Expr}{te:TE}{lo hi:qD Expr}{tl th:TO}{pos p2:Pos}
def b5g:PO X none V8:=by
 intro qK s σ H Q I h;rw[evalPart_none];exact ag ⟨none,H,I,.none,h⟩
def b5f(h:PE X e te):PO X (some e) (a8E te):=by
 intro qK s σ H Q I hw;rw[evalPart_some];refine thn (h qK s σ H _ I hw) λu s1 ⟨x,H1,a,b,q1⟩=>?_;obtain⟨i,rfl,q⟩:=q1;obtain⟨t,rfl⟩:=b;exact⟨some i,H1,a,.int i t,q⟩
def SlR(X:Cx)(r:V->qD Int->qD Int->Hp->VK->Prop):Prop :=
 ∀(qK:qA (qE×Obj)) (s:qC) (σ:St) (H:Hp) (x:V) (v vl vu:qB) (lo hi:qD Int) (sl:qE) (Q:VK),Inv X qK σ H s->RelV x v->s.heap.IsSliceOf sl vl vu .none->IsPart vl lo->IsPart vu hi->r x lo hi H Q ->
  ∃T id,typeLookup (.type T) "__getitem__"=pure (some (.builtin id))/\s.TypeIs v T/\wpAny (model X.prog X.w) X.A (getItem v (.ref sl)) (EP X qK σ Q) X.xe s
def tSl(r:V->qD Int->qD Int->Hp->VK->Prop)(te:TE)(tl th:TO):TE:=λσ H Q=>te σ H λx H1=>tl σ H1 λl H2=>th σ H2 λu H3=>r x l u H3 Q
def a3f{r:V->qD Int->qD Int->Hp->VK->Prop}(p:SlR X r)(m:PE X e te)(o:PO X lo tl)(w:PO X hi th):PE X (.Subscript e (.Slice lo hi none p2) pos) (tSl r te tl th):=by
 intro qK s σ H Q I h;refine Subscript_ (thn (m qK s σ H _ I h) λv s1 ⟨x,H1,f,C,q1⟩=>?_);refine wpAny_Slice (thn (o qK s1 σ H1 _ f q1) λc s2 ⟨l,H2,g,y,A⟩=>thn (w qK s2 σ H2 _ g A) λvu a ⟨u,d,i,z,B⟩=>?_);rw[evalPart_none];refine ag ?_;have j:Inv X qK σ d {a with heap:=a.heap.push {cls:=.type "slice",data:=.fields #[c,vu,.none]}}:=i.kept (t':=a.toks) λb D q=>ae _ q;obtain⟨T,id,k,t,n⟩:=p qK {a with heap:=a.heap.push {cls:=.type "slice",data:=.fields #[c,vu,.none]}} σ d x v c vu l u a.heap.objs.size Q j C (Heap.IsSliceOf.new ..) y z B;show wpAny (model X.prog X.w) X.A (subscriptTail e (.Slice lo hi none p2) v (.ref a.heap.objs.size)) (EP X qK σ Q) X.xe {a with heap:=a.heap.push {cls:=.type "slice",data:=.fields #[c,vu,.none]}};exact tail_any (ops:=[.ref a.heap.objs.size,v]) t k n (by with_unfolding_all rfl)
def K5(xs:qA V)(lo hi:qD Int):qA V:=(xs.drop (HT.sIx xs.length 0 lo)).take (HT.sIx xs.length xs.length hi-HT.sIx xs.length 0 lo)
def a0i(xs:qA V)(lo hi:qD Int):(K5 xs lo hi).length<=xs.length:=by
 unfold K5;rw[aN,bQ];omega
def b2r(K:qF):V->qD Int->qD Int->Hp->VK->Prop:=λx lo hi H Q=>∃a xs,x=.ref a/\SqT K H a xs /\
 ¬(HT.sIx xs.length 0 lo=0/\HT.sIx xs.length xs.length hi=xs.length)/\∀p,H p=none->Q (.ref p) (upd H p (.tup (K5 xs lo hi)))
def b1T:SlR X (b2r X.K):=by
 intro qK s σ H x v l m lo hi sl Q I j hs g i h;obtain⟨a,xs,rfl,f,hw,q⟩:=h;cases j;obtain⟨its,r,d,e⟩:=I.tuple f;have c:its.toArray.size=xs.length:=by rw[aE];exact r.length.symm
 refine⟨"tuple",_,cy.lookup,d.typeIs,?_⟩;refine HT.getItem_tuple_cut d hs g i (by rw[c];exact hw) ?_ (by rw[c];exact e);rw[c];refine⟨.ref s.heap.objs.size,_,I.laid (t':=s.toks) (o:=.tup (K5 xs lo hi)) (λb k q=>ae _ q) (ak _) ?_,rfl,q _ (I.hok.fresh (ak _))⟩;exact⟨bh (a0i xs lo hi) e,_,(r.drop (HT.sIx xs.length 0 lo)).take (HT.sIx xs.length xs.length hi-HT.sIx xs.length 0 lo),IsTup.new _ _⟩
def b9u(K:qF):R2:=λx y H Q=>∃a b xs ys,x=.ref a/\y=.ref b/\SqT K H a xs/\SqT K H b ys/\xs≠[]/\xs.length+ys.length<=sizeLine /\
 (ys=[]->Q (.ref a) H)/\(ys≠[]->∀p,H p=none->Q (.ref p) (upd H p (.tup (xs++ys))))
def Vals.nil_iff(r:Vals xs us):us=[]↔xs=[]:=by
 cases r with
 |nil=>simp
 |cons _ _=>simp
def b5A:OpR X (binaryOp .Add) (b9u X.K):=by
 intro qK s σ H x y v u Q I l m h;obtain⟨a,b,xs,ys,rfl,rfl,g,i,j,e,q1,k⟩:=h;cases l;cases m;obtain⟨its,d,p1,_⟩:=I.tuple g;obtain⟨f,c,p2,_⟩:=I.tuple i;refine HT.cat_tup p1 p2 (λz=>j (d.nil_iff.mp z)) (λz=>⟨.ref a,H,I,rfl,q1 (c.nil_iff.mp z)⟩) (λz=>?_) (by rw[<-d.length,<-c.length];exact e);refine⟨.ref s.heap.objs.size,_,I.laid (t':=s.toks) (o:=.tup (xs++ys)) (λb n q=>ae _ q) (ak _) ?_,rfl,k (λw=>z (c.nil_iff.mpr w)) _ (I.hok.fresh (ak _))⟩;exact⟨by rw[ar];exact e,_,d.append c,IsTup.new _ _⟩
end
def ixN(n:Nat)(i:Int):qJ:=if 0<=i then(if i<n then some i.toNat else none)else if -(n:Int)<=i then some (i+n).toNat else none
def atI{α:Type}(xs:qA α)(i:Int):qD α:=(ixN xs.length i).bind λj=>xs[j]?
def a9o{i:Int}{j:Nat}(h:ixN n i=some j):seqIndex? i n=some j/\j<n /\ -(n:Int)<=i/\i<n:=by
 unfold ixN at h;by_cases a:0<=i
 .rw[av a]at h;by_cases h1:i<n
  .rw[av h1]at h;have e:i.toNat=j:=bB h;exact⟨by rw[seqIndex_of a h1,e],by omega,by omega,h1⟩
  .rw[ao h1]at h;cases h
 .rw[ao a]at h;by_cases h1 : -(n:Int)<=i
  .rw[av h1]at h;have e:(i+n).toNat=j:=bB h;exact⟨by rw[seqIndex_neg (by omega) h1,e],by omega,h1,by omega⟩
  .rw[ao h1]at h;cases h
def a9H{xs:qA α}{i:Int}{v:α}(h:atI xs i=some v):∃j,seqIndex? i xs.length=some j/\xs[j]?=some v/\j<xs.length /\ -(xs.length:Int)<=i/\i<xs.length:=by
 unfold atI at h;cases e:ixN xs.length i with
 |none=>rw[e]at h;cases h
 |some j =>
  rw[e]at h;obtain⟨h1,h2,a,b⟩:=a9o e;exact⟨j,h1,h,h2,a,b⟩
def a1r{xs:qA α}{j:Nat}{v:α}(h:xs[j]?=some v):atI xs (j:Int)=some v:=by
 have a:j<xs.length:=(aL.mp h).1;have e:ixN xs.length (j:Int)=some j:=by
  unfold ixN;rw[av (by omega),av (by omega)];simp
 unfold atI;rw[e];exact h
def a1s(b:Expr):Prop:=∀o i,subscripted b false o i=operate [o,i] (getItem o i)
def IxR(X:Cx)(r:R2):Prop :=
 ∀(value slice:Expr) (qK:qA (qE×Obj)) (s:qC) (σ:St) (H:Hp) (x y:V) (v u:qB) (Q:VK),Inv X qK σ H s->RelV x v->RelV y u->r x y H Q ->
  subscripted slice false v u=operate [v,u] (getItem v u)->wpAny (model X.prog X.w) X.A (subscriptTail value slice v u) (EP X qK σ Q) X.xe s
def MtR(X:Cx)(id:String)(r:V->qA V->Hp->VK->Prop):Prop :=
 ∀(qK:qA (qE×Obj)) (s:qC) (σ:St) (H:Hp) (x:V) (xs:qA V) (v:qB) (us:qA qB) (Q:VK),Inv X qK σ H s->RelV x v->Vals xs us->r x xs H Q ->
  wpAny (model X.prog X.w) X.A (call (.builtin id) (v::us)) (EP X qK σ Q) X.xe s
section
variable {a b:Expr}{ta tb:TE}{pos:Pos}
def b6N{r:R2}(f:IxR X r)(d:PE X a ta)(e:PE X b tb)(hs:a1s b):PE X (.Subscript a b pos) (tOp r ta tb):=by
 intro qK s σ H Q I h;exact Subscript_ (b8K d e I h λv u s2 x y H2 c g i q=>f a b qK s2 σ H2 x y v u Q c g i q (hs _ _))
def b4X(K:qF):R2:=λx y H Q=>∃p xs i v,x=.ref p/\y=.int i/\SqL K H p xs/\atI xs i=some v/\Q v H
def b4W(K:qF):R2:=λx y H Q=>∃p xs i v,x=.ref p/\y=.int i/\SqT K H p xs/\atI xs i=some v/\Q v H
def b5Y:IxR X (b4X X.K):=by
 intro value c qK s σ H x y v u Q I n o h hs;obtain⟨p,xs,i,z,rfl,rfl,m,k,q⟩:=h;cases n;obtain⟨t,rfl⟩:=o;obtain⟨its,r,a,C⟩:=I.list m;obtain⟨j,h1,h2,A,f,g⟩:=a9H k;obtain⟨w,d,b⟩:=r.get h2;have l:=r.length;have B:=a3q;have fin:EP X qK σ Q w s:=⟨z,H,I,b,q⟩;by_cases e:0<=i
 .have hj:i.toNat=j:=by
   rw[seqIndex_of e g]at h1;exact bB h1
  exact item_listR a.isList e (by omega) (by rw[hj];simpa using d) fin hs
 .have hj:(i+(its.toArray.size:Int)).toNat=j:=by
   rw[seqIndex_neg (by omega) f]at h1;rw[aE,<-l];exact bB h1
  exact subscriptTail_builtinR (x:=w) a.isList.typeIs slot_list_getitem.lookup
   (wpAny_getItem_list_neg (Q:=λr s'=>r=w/\EP X qK σ Q r s') a.isList (by omega) (by rw[aE]<;>omega) (by omega) (by rw[hj];simpa using d) ⟨rfl,fin⟩) hs
def b3D:IxR X (b4W X.K):=by
 intro value b qK s σ H x y v u Q I k l h hs;obtain⟨p,xs,i,z,rfl,rfl,g,e,q⟩:=h;cases k;obtain⟨t,rfl⟩:=l;obtain⟨its,r,c,B⟩:=I.tuple g;obtain⟨j,h1,h2,m,n,o⟩:=a9H e;obtain⟨w,d,a⟩:=r.get h2;have f:=r.length;have A:=a3q;have fin:EP X qK σ Q w s:=⟨z,H,I,a,q⟩;exact subscriptTail_builtinR (x:=w) c.typeIs slot_tuple_getitem.lookup
  (getItem_tuple (j:=j) (Q:=λr s'=>r=w/\EP X qK σ Q r s') c (by omega) (by omega) (by rw[aE,<-f];exact h1) (by simpa using d) ⟨rfl,fin⟩) hs
def a7P(its:qA qB)(n j:Nat)(u:qB):Obj.mapSeq (·.setIfInBounds j u) {cls:=.type "list",data:=.seq its.toArray n}={cls:=.type "list",data:=.seq (its.set j u).toArray n}:=by
 simp[Obj.mapSeq]
def Inv.lst{p:qE}(I:Inv X qK σ H s)(h:H p=some (.lst xs)) :
  ∃(its:qA qB) (n:Nat),Vals xs its/\s.heap.get? p=some {cls:=.type "list",data:=.seq its.toArray n}/\xs.length<=sizeLine:=by
 obtain⟨z,its,n,r,e⟩:=I.hok p _ h;exact⟨its,n,r,e,z⟩
def Inv.lstUpd{p:qE}{ys:qA V}{its its':qA qB}{a:Nat}{f:Obj->Obj}(I:Inv X qK σ H s)(h:H p=some (.lst xs))
  (g:s.heap.get? p=some {cls:=.type "list",data:=.seq its.toArray n}) (c:f {cls:=.type "list",data:=.seq its.toArray n}={cls:=.type "list",data:=.seq its'.toArray a}) (r:Vals ys its') (i:ys.length<=sizeLine) (t:Nat) :
  Inv X qK σ (upd H p (.lst ys)) {s with heap:=s.heap.update p f,toks:=t}:=by
 have e:(s.heap.update p f).get? p=some {cls:=.type "list",data:=.seq its'.toArray a}:=by
  rw[cQ f g (by rw[c]<;>rfl),c]
 refine I.write (x:=p) (e:=p) (by rw[h];trivial) (.inl rfl) (λb u d q=>(fG _ _ (dq d)).trans q) ⟨_,e⟩ ?_;exact⟨i,its',a,r,e⟩
def b6J:V->V->V->Hp->(Hp->Prop)->Prop:=λo i v H Q=>∃p xs k j,o=.ref p/\i=.int k/\H p=some (.lst xs)/\ixN xs.length k=some j/\Q (upd H p (.lst (xs.set j v)))
def b1Y:b9S X b6J:=by
 intro qK s σ H o i v B A u Q I x w y h;obtain⟨p,xs,k,j,rfl,rfl,g,l,q⟩:=h;cases x;obtain⟨t,rfl⟩:=w;obtain⟨its,n,r,b,m⟩:=I.lst g;obtain⟨h1,h2,e,f⟩:=a9o l;have a:=r.length;have z:=a3q;have c:Inv X qK σ (upd H p (.lst (xs.set j v))) {s with heap:=s.heap.update p (Obj.mapSeq (·.setIfInBounds j u))} :=
  I.lstUpd g b (a7P its n j u) (r.set y j) (by rw[eV];exact m) s.toks
 by_cases d:0<=k
 .have hk:k.toNat=j:=by
   rw[seqIndex_of d f]at h1;exact bB h1
  exact PySem.W.ki_setAt b d (by omega) (by rw[aE,<-a];exact f) (by rw[hk];exact⟨_,c,q⟩)
 .have hk:(k+(its.toArray.size:Int)).toNat=j:=by
   rw[seqIndex_neg (by omega) e]at h1;rw[aE,<-a];exact bB h1
  exact PySem.W.ki_setBack b (by omega) (by rw[aE,<-a];exact e) (by omega) (by rw[hk];exact⟨_,c,q⟩)
def a5j(lo hi:qD Int)(n:Nat):(sliceBounds lo hi none n).1=((HT.sIx n 0 lo:Nat):Int)/\(sliceBounds lo hi none n).2.1=((HT.sIx n n hi:Nat):Int)/\(sliceBounds lo hi none n).2.2=1:=by
 refine⟨?_,?_,rfl⟩
 .cases lo with
  |none=>simp[sliceBounds,HT.sIx]
  |some i =>
   simp only[sliceBounds,HT.sIx,Option.getD_none,show(1:Int) > 0 by decide,fj];by_cases h:i<0
   .simp only[h,fj]<;>omega
   .simp only[h,if_false]<;>omega
 .cases hi with
  |none=>simp[sliceBounds,HT.sIx]
  |some i =>
   simp only[sliceBounds,HT.sIx,Option.getD_none,show(1:Int) > 0 by decide,fj];by_cases h:i<0
   .simp only[h,fj]<;>omega
   .simp only[h,if_false]<;>omega
def a3V(its:qA qB)(lo hi:qD Int):slicePick its.toArray lo hi none=((its.drop (HT.sIx its.length 0 lo)).take (HT.sIx its.length its.length hi-HT.sIx its.length 0 lo)).toArray:=by
 obtain⟨h1,h2,a⟩:=a5j lo hi its.toArray.size;unfold slicePick;rw[h1,h2,a];simp only[sliceRange_one,pick_run,aE]<;>rfl
def b7r(K:qF):V->qD Int->qD Int->Hp->VK->Prop:=λx lo hi H Q=>∃a xs,x=.ref a/\SqL K H a xs/\∀p,H p=none->Q (.ref p) (upd H p (.lst (K5 xs lo hi)))
def b4G:SlR X (b7r X.K):=by
 intro qK s σ H x v l m lo hi sl Q I j hs g i h;obtain⟨a,xs,rfl,e,q⟩:=h;cases j;obtain⟨its,r,d,f⟩:=I.list e;have c:=r.length;refine⟨"list",_,slot_list_getitem.lookup,d.isList.typeIs,?_⟩;refine wpAny_getItem_list_slice d.isList hs g i .none (by simp) ?_ (by rw[aE]<;>omega);rw[a3V,<-c];refine⟨.ref s.heap.objs.size,_,I.laid (t':=s.toks) (o:=.lst (K5 xs lo hi)) (λb k q=>ae _ q) (ak _) ?_,rfl,q _ (I.hok.fresh (ak _))⟩;exact⟨bh (a0i xs lo hi) f,_,0,(r.drop (HT.sIx xs.length 0 lo)).take (HT.sIx xs.length xs.length hi-HT.sIx xs.length 0 lo),aC _ rfl⟩
def a6X:V->Bool
 |.non=>true
 |.bl _=>true
 |.int _=>true
 |.str _=>true
 |_=>false
def eqV:V->V->Bool
 |.non,.non=>true
 |.bl a,.bl b=>a==b
 |.bl a,.int b=>(if a then 1 else 0)==b
 |.int a,.bl b=>a==(if b then 1 else 0)
 |.int a,.int b=>a==b
 |.str a,.str b=>a==b
 |_,_=>false
def b8G{A:Around}{y:V}{u v:qB}(d:RelV y u)(c:RelV x v)(fy:a6X y=true)(fx:a6X x=true):SeqAt.EqAt A s u v (eqV y x):=by
 cases y with
 |non =>
  cases d;cases x with
  |non=>cases c;exact SeqAt.EqAt.same _
  |bl b=>cases c;exact SeqAt.EqAt.none_bool b
  |int b=>obtain⟨t,rfl⟩:=c;exact SeqAt.EqAt.none_int b t
  |str b=>obtain⟨t,rfl⟩:=c;exact SeqAt.EqAt.none_str b t
  |_=>exact absurd (show false=true from fx) aY
 |bl a =>
  cases d;cases x with
  |non=>cases c;exact SeqAt.EqAt.bool_none a
  |bl b=>cases c;exact SeqAt.EqAt.bool_bool a b
  |int b=>obtain⟨t,rfl⟩:=c;exact SeqAt.EqAt.bool_int a b t
  |str b=>obtain⟨t,rfl⟩:=c;exact SeqAt.EqAt.bool_str a b t
  |_=>exact absurd (show false=true from fx) aY
 |int a =>
  obtain⟨t',rfl⟩:=d;cases x with
  |non=>cases c;exact SeqAt.EqAt.int_none a t'
  |bl b=>cases c;exact SeqAt.EqAt.int_bool a t' b
  |int b=>obtain⟨t,rfl⟩:=c;exact SeqAt.EqAt.int_int a t' b t
  |str b=>obtain⟨t,rfl⟩:=c;exact SeqAt.EqAt.int_str a t' b t
  |_=>exact absurd (show false=true from fx) aY
 |str a =>
  obtain⟨t',rfl⟩:=d;cases x with
  |non=>cases c;exact SeqAt.EqAt.str_none a t'
  |bl b=>cases c;exact SeqAt.EqAt.str_bool a t' b
  |int b=>obtain⟨t,rfl⟩:=c;exact SeqAt.EqAt.str_int a t' b t
  |str b=>obtain⟨t,rfl⟩:=c;exact SeqAt.EqAt.str_str a t' b t
  |_=>exact absurd (show false=true from fx) aY
 |_=>exact absurd (show false=true from fy) aY
def a5N:D0 X (.builtin "len") (λxs H Q=>∃p ys,xs=[.ref p]/\(SqL X.K H p ys∨SqT X.K H p ys)/\Q (.int ys.length) H):=by
 intro qK s σ H xs e Q I r h;obtain⟨p,ys,rfl,b,q⟩:=h;obtain⟨u,rfl,c⟩:=a5Y r;cases c;have d:=a3q;rcases b with b|b
 .obtain⟨its,r',pl,hz⟩:=I.list b;have a:=r'.length;exact Calls.call_len_list pl.isList (by simp only[aE]<;>omega) ⟨.int ys.length,H,I.tok _,⟨s.toks+1,by rw[aE,a]⟩,q⟩
 .obtain⟨its,r',pl,hz⟩:=I.tuple b;have a:=r'.length;exact len_tuple pl (by simp only[aE]<;>omega) ⟨.int ys.length,H,I.tok _,⟨s.toks+1,by rw[aE,a]⟩,q⟩
def a5M:D0 X (.type "list") (λxs H Q=>∃p ys,xs=[.ref p]/\(SqL X.K H p ys∨SqT X.K H p ys)/\∀l,H l=none->Q (.ref l) (upd H l (.lst ys))):=by
 intro qK s σ H xs m Q I r h;obtain⟨p,ys,rfl,d,q⟩:=h;obtain⟨u,rfl,k⟩:=a5Y r;cases k;have fin:∀(its:qA qB),Vals ys its->ys.length<=sizeLine->∀(h':Heap) (c':Nat),(∀b o',s.heap.get? b=some o'->h'.get? b=some o') ->
   h'.get? s.heap.objs.size=some {cls:=.type "list",dict:=none,data:=.seq its.toArray c',slots:=#[]}->EP X qK σ Q (.ref s.heap.objs.size) {s with heap:=h'}:=λits a f h' c' g e =>
  ⟨.ref s.heap.objs.size,_,I.laid (t':=s.toks) g (ak _) (show ObjOk X.prog X.w _ h' _ (.lst ys)from⟨f,its,c',a,e⟩),rfl,q _ (I.hok.fresh (ak _))⟩
 rcases d with d|d
 .obtain⟨its,a,pl,f⟩:=I.list d;have c:=a.length;obtain⟨o,j,i,n,hd⟩:=pl.isList;exact call_list_seq p (.inl rfl) j i hd (λh' c' g e=>fin its a f h' c' g e) (by simp only[aE]<;>omega)
 .obtain⟨its,a,pl,f⟩:=I.tuple d;have c:=a.length;obtain⟨o,j,i,n,hd⟩:=pl;exact call_list_seq p (.inr rfl) j i hd (λh' c' g e=>fin its a f h' c' g e) (by simp only[aE]<;>omega)
def a4e:D0 X (.type "tuple") (λxs H Q=>∃p ys,xs=[.ref p]/\((SqL X.K H p ys/\∀l,H l=none->Q (.ref l) (upd H l (.tup ys)))∨(SqT X.K H p ys/\Q (.ref p) H))):=by
 intro qK s σ H xs j Q I r h;obtain⟨p,ys,rfl,h⟩:=h;obtain⟨u,rfl,i⟩:=a5Y r;cases i;rcases h with⟨a,q⟩|⟨a,q⟩
 .obtain⟨its,r',pl,hz⟩:=I.list a;have d:=r'.length;refine call_tuple_list pl.isList (λh' g=>?_) (by simp only[aE]<;>omega);have c:Inv X qK σ H {s with heap:=h'}:=I.kept (t':=s.toks) g;have f:Inv X qK σ (upd H h'.objs.size (.tup ys)) {s with heap:=h'.push {cls:=.type "tuple",data:=.seq its.toArray}} :=
   c.laid (t':=s.toks) (λb o e=>ae _ e) (ak _) (show ObjOk X.prog X.w _ _ _ (.tup ys)from⟨hz,its,r',IsTup.new _ _⟩)
  exact⟨.ref h'.objs.size,_,f,rfl,q _ (c.hok.fresh (ak _))⟩
 .obtain⟨its,r',pl,hz⟩:=I.tuple a;exact call_tuple_same pl ⟨.ref p,H,I,rfl,q⟩
def tyV(K:qF)(T:String)(x:V)(H:Hp):Prop:=match x with
 |.str _=>T="str"
 |.int _=>T="int"
 |.ref p=>(T="list" /\ ∃xs,SqL K H p xs)∨(T="tuple" /\ ∃o,K.lookup p=some o/\o.cls=.type "tuple"/\o.dict=none) ∨
   (T="dict"/\((∃qL,H p=some (.dK qL))∨∃qL,H p=some (.dT qL)))∨(T="set" /\ ∃S n,H p=some (.set S n))
 |_=>False
def b7i{T:String}{v:qB}(I:Inv X qK σ H s)(r:RelV x v)(ty:tyV X.K T x H) :
  s.TypeIs v T/\∀a,v=.ref a->∃f,s.heap.get? a=some f/\f.dict=none:=by
 cases x with
 |str z =>
  obtain⟨t,rfl⟩:=r;cases(show T="str" from ty);exact⟨typeIs_str s z t,λ_ e=>nomatch e⟩
 |int i =>
  obtain⟨t,rfl⟩:=r;cases(show T="int" from ty);exact⟨typeIs_int s i t,λ_ e=>nomatch e⟩
 |ref p =>
  cases r;rcases ty with⟨rfl,xs,h⟩|⟨rfl,o,b,g,hd⟩|⟨rfl,b⟩|⟨rfl,S,n,b⟩
  .obtain⟨its,_,pl,_⟩:=I.list h;refine⟨pl.isList.typeIs,λa e=>?_⟩;cases e;obtain⟨o,n,e,c,hd,_⟩:=pl;exact⟨o,e,hd⟩
  .refine⟨⟨o,I.kIn p o b,g⟩,λa e=>?_⟩;cases e;exact⟨o,I.kIn _ o b,hd⟩
  .have z:∃o,s.heap.get? p=some o/\o.ExactDict:=by
    rcases b with⟨qL,b⟩|⟨qL,b⟩
    .obtain⟨_,_,_,_,o,_,_,e,ex,_⟩:=I.hok p _ b;exact⟨o,e,ex⟩
    .obtain⟨_,_,_,_,o,_,_,e,ex,_⟩:=I.hok p _ b;exact⟨o,e,ex⟩
   obtain⟨o,e,ex⟩:=z;refine⟨⟨o,e,ex.1⟩,λa d=>?_⟩;cases d;exact⟨o,e,ex.2.1⟩
  .obtain⟨o,_,_,_,e,ex,_⟩:=I.hok p _ b;refine⟨⟨o,e,ex.1⟩,λa d=>?_⟩;cases d;exact⟨o,e,ex.2.1⟩
 |_=>exact False.elim ty
def tBM(K:qF)(T:String)(r:V->qA V->Hp->VK->Prop)(to:TE)(t:TA):TE:=λσ H Q=>to σ H λx H1=>tyV K T x H1/\t σ H1 λxs H2=>r x xs H2 Q
variable {o e:Expr}{es:qA Expr}{to:TE}{t:TA}{name:Str}{qO qM:Pos}{T id:String}{r:V->qA V->Hp->VK->Prop}
def b9B(q:PlainAttrs T)(f:Slot T name id)(g:typeOf (.builtin id)=pure (.type "method_descriptor"))(n:MtR X id r)(p:PE X o to)(m:PA X (e::es) t)
  (b:attributeBase o name X.env (eval o X.env)=eval o X.env:=by rfl)
  (d:((backTo qM (starEach (e::es) X.env)).all (λx=>!x.1) && (backToKw qM (keywordEach [] X.env)).all (λx=>x.1.isSome)
   && decide ((e::es).length+([]:qA Keyword).length+(if ([]:qA Keyword).isEmpty then 0 else 1)<30))=true:=by rfl)
  (c:(qO.endLine==qM.line)=true:=by rfl) (hs:starEach (e::es) X.env=(false,eval e X.env)::starEach es X.env:=by rfl) (a:(backTo qM (starEach es X.env)).any (·.1)=false:=by rfl) :
  PE X (.Call (.Attribute o name qO) (e::es) [] qM) (tBM X.K T r to t):=by
 intro qK s σ H Q I h;refine wpAny_Call_method_late b d c rfl (thn (p qK s σ H _ I h) λv s1 ⟨x,H1,i,k,ty,q1⟩=>?_);obtain⟨h1,h2⟩:=b7i i k ty;refine⟨T,id,q,f,g,h1,h2,?_⟩;have j:=m qM qK s1 σ H1 _ i q1;rw[hs]at j⊢;refine Calls.callWith_builtin (by show(false || (backTo qM (starEach es X.env)).any (·.1))=false;rw[a]<;>rfl) (Calls.evalArgs_plain ?_);exact thn j λy s2 ⟨z,H2,l,w,u⟩=>n qK s2 σ H2 x z v y Q l k w u
end
def MtM(X:Cx)(id:String)(r:V->qA V->Hp->VK->Prop):Prop :=
 ∀(qK:qA (qE×Obj)) (s:qC) (σ:St) (H:Hp) (x:V) (xs:qA V) (v:qB) (us:qA qB) (Q:VK),Inv X qK σ H s->RelV x v->Vals xs us->r x xs H Q ->
  wpAny (model X.prog X.w) X.A (call (.builtin id) (v::us)) (EP X qK σ Q) X.xe s
def Vals.one(h:Vals [x] us):∃u,us=[u]/\RelV x u:=by
 cases h with
 |cons r q=>cases q;exact⟨_,rfl,r⟩
def Vals.two{y:V}(h:Vals [x,y] us):∃u v,us=[u,v]/\RelV x u/\RelV y v:=by
 cases h with
 |cons r h=>obtain⟨v,rfl,q⟩:=Vals.one (x:=y) h;exact⟨_,_,rfl,r,q⟩
def Vals.eraseIdx:∀{xs:qA V}{us:qA qB}(i:Nat),Vals xs us->Vals (xs.eraseIdx i) (us.eraseIdx i)
 |_,_,_,.nil=>.nil
 |_,_,0,.cons _ t=>t
 |_,_,i+1,.cons r t=>.cons r (Vals.eraseIdx i t)
def Vals.rep{xs:qA V}{us:qA qB}(h:Vals xs us):∀k:Nat,Vals (List.replicate k xs).flatten (List.replicate k us).flatten
 |0=>.nil
 |k+1=>by
  rw[cj,cj,cY,cY];exact Vals.append h (Vals.rep h k)
def a4w{α:Type}:∀(l:qA α) (i:Nat),(l.eraseIdx i).length<=l.length
 |[],_=>ak _
 |_::_,0=>ed _
 |_::r,i+1=>Nat.succ_le_succ (a4w r i)
section
variable {l b:qE}{ys zs:qA V}
def Inv.lset{its its':qA qB}{f:Array qB->Array qB}{t':Nat}(I:Inv X qK σ H s)(a:H l=some (.lst xs))
  (e:s.heap.get? l=some {cls:=.type "list",data:=.seq its.toArray n}) (c:f its.toArray=its'.toArray) (g:Vals ys its') (h:ys.length<=sizeLine) :
  Inv X qK σ (upd H l (.lst ys)) {s with heap:=s.heap.update l (Obj.mapSeq f),toks:=t'}:=by
 have q:=PySem.IsL.update e f;rw[c]at q;refine I.write (x:=l) (e:=l) (by rw[a];exact trivial) (.inl rfl) (λb' u b d=>(fG s.heap (Obj.mapSeq f) (dq b)).trans d) ⟨_,q⟩ ?_;exact⟨h,its',_,g,q⟩
def Inv.lnew{its:qA qB}{t':Nat}(I:Inv X qK σ H s)(a:Vals ys its)(b:ys.length<=sizeLine) :
  Inv X qK σ (upd H s.heap.objs.size (.lst ys)) {s with heap:=s.heap.push {cls:=.type "list",data:=.seq its.toArray},toks:=t'} :=
 I.laid (λ_ _ q=>ae _ q) (ak _) ⟨b,its,0,a,aC _ rfl⟩
def Inv.fresh(I:Inv X qK σ H s):H s.heap.objs.size=none:=I.hok.fresh (ak _)
def Inv.lstM(I:Inv X qK σ H s)(a:H l=some (.lst xs)):xs.length<=sizeLine/\∃(its:qA qB) (n:Nat),Vals xs its/\xs.length=its.length/\s.heap.get? l=some {cls:=.type "list",data:=.seq its.toArray n}:=by
 obtain⟨z,its,n,r,e⟩:=I.hok l _ a;exact⟨z,its,n,r,r.length,e⟩
def b3e(h:n<=sizeLine):Builtin.List.listTooLong n=false:=by
 unfold Builtin.List.listTooLong;exact bK (by omega)
end
def a9a:V->qA V->Hp->VK->Prop:=λx vs H Q=>∃l xs y,x=.ref l/\vs=[y]/\H l=some (.lst xs)/\xs.length<sizeLine/\Q .non (upd H l (.lst (xs++[y])))
def b0z:MtM X "list.append" a9a:=by
 intro qK s σ H x j v i Q I d c h;obtain⟨l,xs,y,rfl,rfl,a,g,q⟩:=h;cases d;obtain⟨u,rfl,b⟩:=c.one;obtain⟨z,its,n,r,f,e⟩:=I.lstM a;refine eJ F.slot_list_append ⟨_,e,rfl⟩ F.entry_list_append (F.args_list_append_2 _ _) (PySem.list_append l its.toArray n u (by rw[aE];omega)) ⟨e,?_⟩;refine⟨.non,_,I.lset (its':=its++[u]) a e (by simp) (r.append (.cons b .nil)) ?_,rfl,q⟩;rw[ar,eC];omega
def a8Z:V->qA V->Hp->VK->Prop:=λx vs H Q=>∃l b xs zs,x=.ref l/\vs=[.ref b]/\H l=some (.lst xs)/\H b=some (.lst zs)/\xs.length+zs.length<=sizeLine/\Q .non (upd H l (.lst (xs++zs)))
def b0y:MtM X "list.extend" a8Z:=by
 intro qK s σ H x B v A Q I t p h;obtain⟨l,b,xs,zs,rfl,rfl,f,i,y,q⟩:=h;cases t;obtain⟨u,rfl,o⟩:=p.one;cases o;obtain⟨z,its,n,r,w,e⟩:=I.lstM f;obtain⟨C,a,k,m,j,g⟩:=I.lstM i;have d:its.toArray.size+a.toArray.size<=sizeLine:=by rw[aE,aE];omega
 have c:¬(!its.toArray.isEmpty && Builtin.List.listTooLong (its.toArray.size+a.toArray.size))=true:=by
  rw[b3e d,fh];exact aY
 refine eJ F.slot_list_extend ⟨_,e,rfl⟩ F.entry_list_extend (F.args_list_extend_2 _ _)
  (AutoSeq1.list_extend_list_list_0 l its.toArray n b a.toArray k c (by rw[aE];omega) (by omega)) ⟨e,g,?_⟩
 refine⟨.non,_,I.lset (its':=its++a) f e (by simp) (r.append m) ?_,rfl,q⟩;rw[ar];omega
def b2s:V->qA V->Hp->VK->Prop:=λx vs H Q=>∃l xs i k y,x=.ref l/\vs=[.int i]/\H l=some (.lst xs) /\ -(2 ^ 63)<=i/\i<2 ^ 63/\seqIndex? i xs.length=some k/\xs[k]?=some y/\Q y (upd H l (.lst (xs.eraseIdx k)))
def b3g:MtM X "list.pop" b2s:=by
 intro qK s σ H x p v o Q I m j h;obtain⟨l,xs,i,k,y,rfl,rfl,b,h1,h2,c,f,q⟩:=h;cases m;obtain⟨u,rfl,g⟩:=j.one;obtain⟨t,rfl⟩:=g;obtain⟨z,its,n,r,d,e⟩:=I.lstM b;obtain⟨w,hw,a⟩:=r.get f;refine eJ F.slot_list_pop ⟨_,e,rfl⟩ F.entry_list_pop (F.args_list_pop_2 _ _)
  (MeetsSeq.list_pop_at l its.toArray n i t k w (fitsIndex_both h1 h2) (by rw[aE,<-d];exact c) (by rw[<-ay];exact hw) (by rw[aE];omega)) ⟨e,?_⟩
 refine⟨y,_,I.lset (its':=its.eraseIdx k) b e ?_ (r.eraseIdx k) ?_,a,q⟩
 .show its.toArray.eraseIdxIfInBounds k=(its.eraseIdx k).toArray;rw[List.eraseIdxIfInBounds_toArray]
 .have:=a4w xs k;omega
def b9v:R2:=λx y H Q=>∃l b xs zs,x=.ref l/\y=.ref b/\H l=some (.lst xs)/\H b=some (.lst zs)/\xs.length+zs.length<=sizeLine/\∀p,H p=none->Q (.ref p) (upd H p (.lst (xs++zs)))
def b8c:OpR X (binaryOp .Add) b9v:=by
 intro qK s σ H x y v u Q I k m h;obtain⟨l,b,xs,zs,rfl,rfl,g,f,p,q⟩:=h;cases k;cases m;obtain⟨z,its,n,r,o,e⟩:=I.lstM g;obtain⟨w,a,t,j,i,c⟩:=I.lstM f;refine PySem.P.add_list e c ?_ (by rw[aE,aE];omega);have d:its.toArray++a.toArray=(its++a).toArray:=by simp
 rw[d];exact⟨.ref _,_,I.lnew (t':=s.toks) (r.append j) (by rw[ar];omega),rfl,q _ I.fresh⟩
def a9i(xs:qA α)(k:Nat):(List.replicate k xs).flatten.length=k*xs.length:=by
 induction k with
 |zero=>simp
 |succ k a=>rw[cj,cY,ar,a,Nat.succ_mul,Nat.add_comm]
section
variable {prog:qG}{w:World}{A:Around}{E:qH}
end
end L2
namespace Att
open PySem PySem.W PySem.Calls PyProof.Rows
def a2n{P:Params}{h:Heap}:∀(ns:qI) (vs:qA qB),WellAll P h vs (ns.map WData.int)->IntsAre vs ns:=by
 intro ns;induction ns with
 |nil =>
  intro vs w;rw[fO]at w;cases w;exact .nil
 |cons n ns c =>
  intro vs w;rw[aV]at w;cases w with
  |cons a b =>
   cases a;exact .cons _ _ (c _ b)
def a9X{l:OpenLaw}{n:Nat}(o:l.most=some n){P:Params}{h:Heap}{args:qA WData}{c:qA qB}
  (b:l.row.toRowW.claim.pre args=true) (j:WellAll P h c args) :
  ∃a vs ns,c=[Value.ref a]/\args=[WData.list (ns.map WData.int)]/\h.get? a=some {cls:=.type "list",data:=.seq vs.toArray}/\IntsAre vs ns/\ns.length<=n:=by
 have hsh:WShape.hasAll [] args [.list .int]=true:=(pre_splitW b).1;have k:l.pre.holds [] {args:=args}=true:=(pre_splitW b).2;obtain⟨d,r,rfl,h1,h2⟩:=hasAllW_cons hsh;obtain rfl:=hasAllW_nil h2;obtain⟨xs,rfl,m⟩:=hasW_list h1;obtain⟨ns,rfl⟩:=items_int m;have f:ns.length<=n:=by
  unfold OpenLaw.pre at k;have g:(WTm.not (.lt (.lit (.int (n:Int))) (.len (.arg 0)))).holds [] {args:=[.list (ns.map .int)]}=true:=by
   have g:=(holds_andW k).1;rw[o]at g;exact g
  have i:=condW_of g (w_not (w_lt w_lit (w_len_list (w_arg rfl))));rw[ai]at i;refine Nat.le_of_not_lt λq=>?_;have s:(n:Int)<((ns.length:Nat):Int):=by omega
  first
   |(rw[bj s]at i;exact absurd i (by decide))
   |(simp at i;omega)
 cases j with
 |cons w1 w2 =>
  cases w2;cases w1 with
  |list p e=>exact⟨_,_,ns,rfl,rfl,p,a2n ns _ e,f⟩
def b0j(l:OpenLaw)(args:qA WData):l.row.toRowW.claim.post args (.bool true) args=true :=
 postW_of (r:=l.row.toRowW) (X:=(true==true))
  (show WShape.has [] (.bool true) .bool=true by first|rfl|decide|simp[WShape.has,WShape.arms,WShape.armsAll])
  (show(WTm.eq .res (.lit (.bool true))).value [] {args:=args,res:=some (.bool true),after:=args}=some (.bool (true==true))from w_eq_bool (w_res rfl) w_lit) rfl
def attach_call{l:OpenLaw}{n:Nat}{q:qG}{b:qA Str}{XP:(Str->qD qB)->Heap->Prop}{u:World->Heap->Prop}{d:DefRec}
  (H:l.most=some n) (m:d.params.defaults=[])
  (call:∀(w:World) (s₀ s₁:qC) (mg t:Str->qD qB) (g:qE) (o:Obj) (pm cd c:qB) (a:qE) (vs:qA qB) (ns:qI),
   Ground q b [] XP w s₀ mg t s₁.heap->u w s₁.heap ->
   s₁.heap.get? g=some o->o.data=.func (docDef d.name d.params d.body d.scope pm cd c)->s₁.heap.CodeRec cd d.name->mg d.name=some (.ref g) ->
   s₁.heap.get? a=some {cls:=.type "list",data:=.seq vs.toArray}->IntsAre vs ns->ns.length<=n->s₁.gens=#[] ->
   codeAny (model l.prog w) callerA (.call (.ref g) ⟨[.ref a],[]⟩) (λr s'=>r=.ok (.ret (.bool true))/\OldK s₁.heap s'.heap/\s'.os=s₁.os/\AllBare s'.gens) s₁) :
  WalkO q b XP u l.row.toRowW d [] (λf vs=>PySem.call f vs):=by
 intro w s₀ s₁ mg t G Y g o pm cd c A kV I hd k x p D v z L j y K s E;obtain rfl:A=.none:=Dflts.none x m;obtain rfl:kV=.none:=Dflts.noKw x;obtain⟨a,vs,ns,rfl,rfl,i,e,h⟩:=a9X H j s;refine enter_call (de (call w s₀ s₁ mg t g o pm cd c a vs ns G Y I (fd_plain hd) k p i e h D) λr s' J=>?_);obtain⟨rfl,h2,B,C⟩:=J;exact⟨.inl ⟨.bool true,.bool true,[],rfl,λ_=>rfl,.bool true,b0j l _,λ_=>⟨List.Pairwise.nil,λ_ F=>(nomatch F)⟩⟩,h2,B,C⟩
section
variable {prog:qG}{w:World}{A:Around}{E:qH}{s:qC}{K:Frag}
end
end Att
namespace L2
open PySem PySem.Spec PyProof.Rows
def a4j:∀{vs:qA qB}{ns:qI},IntsAre vs ns->Vals (ns.map V.int) vs
 |_,_,.nil=>.nil
 |_,_,.cons n t h=>.cons ⟨t,rfl⟩ (a4j h)
def b8Z(H:Hp):Prop:=∀b,H b=none∨∃o xs,H b=some (.frz o (.lst xs))
def b3l{P:qG}{w:World}{K:qF}{mg O:Str->qD qB}{CX:CXT}{k:Nat}{I a:qE}{fd:FuncData}{x:Str}{sp:Sp}{s₁:qC}{vs:qA qB}{ns:qI}
  (R:K.In s₁.heap) (y:s₁.heap.Ns mainGlobals mg) (f:s₁.heap.Ns builtinsNs O) (L:∀x:Str,x≠"__name__"->O x=bootBuiltins x) (t:s₁.heap.NoLimit) (hg:s₁.gens=#[])
  (E:s₁.heap.get? a=some {cls:=.type "list",data:=.seq vs.toArray}) (hi:IntsAre vs ns) (W:ns.length<=sizeLine) (hr:Room k callerA)
  (F:∀base:Heap,K.In base->base.Ns mainGlobals mg->FnOk P w K mg base CX k I fd [x] sp) (j:∀(s:qC) (u:qB),BindsTo s fd ⟨[u],[]⟩ [(x,u)])
  (N:∀H:Hp,b8Z H->SqL K H a (ns.map V.int)->sp [.ref a] H (λv _=>v=.bl true) λ_ _ _=>False)
  (J:∀H e s',CX [] H s₁ (λ_ _ _=>False) e s'->False) :
  codeAny (model P w) callerA (.call (.ref I) ⟨[.ref a],[]⟩) (λr s'=>r=.ok (.ret (.bool true))/\OldK s₁.heap s'.heap/\s'.os=s₁.os/\AllBare s'.gens) s₁:=by
 have X:=a4j hi;have C:=hi.length;have i:∀H:Hp,b8Z H->SqL K H a (ns.map V.int)->HOk P w H s₁.heap->(∀b,H b≠none->b=a)->(H a≠none->K.lookup a=none) ->
   codeAny (model P w) callerA (.call (.ref I) ⟨[.ref a],[]⟩) (λr s'=>r=.ok (.ret (.bool true))/\OldK s₁.heap s'.heap/\s'.os=s₁.os/\AllBare s'.gens) s₁:=by
  intro H U hS A T hK;have c:∀{b:qE}{o:Obj},s₁.heap.get? b=some o->H b=none->(a5G s₁.heap H).get? b=some o:=λe n=>b3J e n;have Q:∀{b:qE}{o:Obj}{es:Array DictEntry}{ep:Nat},s₁.heap.get? b=some o->o.data=.dict es ep->H b=none:=λ{b o es ep} e d=>by
   cases q:H b with
   |none=>rfl
   |some u =>
    have G:b=a:=T b (by rw[q];simp);subst G;rw[E]at e;cases e;have Y:Data.seq vs.toArray _=Data.dict es ep:=d;cases Y
  have g:∀{b:qE}{m:Str->qD qB},s₁.heap.Ns b m->(a5G s₁.heap H).Ns b m:=λ{b m} ⟨o,es,ep,e,d,r⟩=>⟨o,es,ep,c e (Q e d),d,r⟩;have p:K.In (a5G s₁.heap H):=λb o e=>c (R b o e) (by
   cases q:H b with
   |none=>rfl
   |some u =>
    have G:b=a:=T b (by rw[q];simp);subst G;rw[hK (by rw[q];simp)]at e;cases e)
  have hM:Mod K mg (a5G s₁.heap H):=⟨p,g y,⟨O,g f,L⟩,let ⟨mc,h1,h2⟩:=t;⟨mc,g h1,h2⟩⟩;have Z:Env0 P w K mg (a5G s₁.heap H) callerA [] s₁ H:=⟨rfl,hM,λb o e=>b5J e,Nat.le_of_eq (b0I _ _),trivial,λb f=>absurd (show b∈([]:qA qE)from f) (by simp),A,.of_eq hg⟩;refine de ((F _ p (g y)).run callerA [] s₁ H ⟨[.ref a],[]⟩ [.ref a] [.ref a] _ _ hr Z (j s₁ (.ref a)) (.cons rfl .nil) (N H U hS)) λr s' h=>?_;cases r with
  |error e=>exact(J H e s' h).elim
  |ok fl =>
   cases fl with
   |next=>exact False.elim h
   |brk=>exact False.elim h
   |cont=>exact False.elim h
   |ret u =>
    obtain⟨v,H',os,l,un,B,r',q⟩:=h;have q':v=.bl true:=q;subst q';obtain rfl:u=Value.bool true:=r';refine⟨rfl,OldK.of_keep λb o e=>?_,os,l⟩;cases q:H b with
    |none=>exact un.keep b o e q (by intro z;exact absurd (show b∈([]:qA qE)from z) (by simp)) (by simp)
    |some u =>
     rcases U b with z|⟨ob,xs,z⟩
     .rw[q]at z;cases z
     .have z2:=un.frzs b ob _ z;obtain⟨S,_⟩:=A b _ z;obtain⟨e2,_⟩:=B b _ z2;rw[e]at S;cases S;exact e2
 cases M:K.lookup a with
 |some o =>
  have e:=R a o M;rw[E]at e;cases e;refine i (λ_=>none) (λ_=>.inl rfl) (.inr ⟨_,vs.toArray,_,M,rfl,rfl,rfl,by rw[aE,C];exact W,by simpa using X⟩) (λb u z=>by have D:(none:qD HO)=some u:=z;cases D) (λb z=>absurd rfl z) λz=>absurd rfl z
 |none =>
  refine i (λb=>if b=a then some (.frz {cls:=.type "list",data:=.seq vs.toArray} (.lst (ns.map V.int)))else none) (λb=>?_) (.inl (.inr ⟨{cls:=.type "list",data:=.seq vs.toArray},av rfl⟩)) (λb u z=>?_) (λb z=>?_) λ_=>M
  .by_cases f:b=a
   .exact .inr ⟨_,_,av f⟩
   .exact .inl (ao f)
  .by_cases f:b=a
   .have D:=(av f).symm.trans z;cases D;subst f;exact⟨E,by rw[ai];exact W,vs,_,X,E⟩
   .have D:=(ao f).symm.trans z;cases D
  .by_cases f:b=a
   .exact f
   .exact absurd (ao f) z
def walk_of{l:PySem.W.OpenLaw}{n k:Nat}{q:qG}{g:qA Str}{XP:(Str->qD qB)->Heap->Prop}{A:World->Heap->Prop}{d:DefRec}{K:Params->qF}{CX:World->CXT}{sp:World->Sp}{x:Str}
  (N:l.most=some n) (t:n<=sizeLine) (p:d.params.defaults=[]) (O:Room k callerA)
  (I:∀(w:World) (h:Heap),A w h->(K w.params).In h)
  (F:∀(w:World) (mg:Str->qD qB) (j:qE) (h:Heap),(K w.params).In h->h.Ns mainGlobals mg->mg d.name=some (.ref j) ->
   ∃fd:FuncData,(∀(s:qC) (u:qB),BindsTo s fd ⟨[u],[]⟩ [(x,u)]) /\
    ∀base:Heap,(K w.params).In base->base.Ns mainGlobals mg->FnOk l.prog w (K w.params) mg base (CX w) k j fd [x] (sp w))
  (y:∀(w:World) (H:Hp) (a:qE) (ns:qI),ns.length<=n->b8Z H->SqL (K w.params) H a (ns.map V.int)->sp w [.ref a] H (λv _=>v=.bl true) λ_ _ _=>False)
  (m:∀(w:World) (H:Hp) (s:qC) (e:qB) (s':qC),CX w [] H s (λ_ _ _=>False) e s'->False) :
  PySem.W.WalkO q g XP A l.row.toRowW d [] (λf vs=>PySem.call f vs):=by
 refine Att.attach_call N p λw s₀ s₁ mg Q j o pm cd B a vs ns G Y P hd L r i c b M=>?_;have z:=I w _ Y;obtain⟨fd,J,C⟩:=F w mg j _ z G.T.g r;exact b3l z G.T.g G.T.b G.T.builtins G.T.nolimit M i c (bh b t) O C J (λH D E=>y w H a ns b D E) λH e s'=>m w H s₁ e s'
end L2
namespace L2
open PySem PySem.Spec PyProof.Rows
variable {A:Around}{E Q:qH}{H H1:Hp}{K:qF}{M:Model}{N ps:qA Str}{P prog:qG}{X:Cx}{a b f it l:qE}{env:Env}{es:qA Expr}{g:TG}{h h':Heap}{i n:Nat}{items:Array qB}{k:Bool}{qK:qA (qE×Obj)}{pos:Pos}{qual x:Str}{s:qC}{scope:Scope}{src:qA (qJ)}{st:Stmt}{te:TE}{w:World}{xs:qA V}{α:Type}{σ:St}
def W8(s:Stmt)(j:Nat):Stmt:=match s with
 |.ClassDef _ _ _ body _ _ _ _ _ _ _=>body.getD j (.Pass ⟨0,0,0,0⟩)
 |_=>.Pass ⟨0,0,0,0⟩
def T5(s:Stmt):Arguments:=match s with
 |.FunctionDef _ a _ _ _ _ _ _ _ _=>a
 |_=>{posonlyargs:=[],args:=[],vararg:=none,kwonlyargs:=[],kw_defaults:=[],kwarg:=none,defaults:=[]}
def E7(s:Stmt):qA Stmt:=match s with
 |.FunctionDef _ _ b _ _ _ _ _ _ _=>b
 |_=>[]
def A1(s:Stmt):Scope:=match s with
 |.FunctionDef _ _ _ _ _ _ sc _ _ _=>sc
 |_=>{kind:=.function,names:=[],isGenerator:=false,isCoroutine:=false}
abbrev CX0:CXT:=λ_ _ _ _ _ _=>False
abbrev E0:XK:=λ_ _ _=>False
def a9f:a0l CX0 X E0:=λ_ _ _ _ _ _ _ h=>h.elim
structure Fun(K:qF)(x qual:Str)(st:Stmt)(f:qE)(fd:FuncData):Prop where
 ex:∃(oc:qB) (od:qD qE) (kV doc pm:qB) (an:qD qE) (cdv ct:qB) (osl:Array (qD qB)),
  fd=PySem.W.fnOf x qual (T5 st) (E7 st) (A1 st) .none kV doc pm an cdv ct/\K.lookup f=some ⟨oc,od,.func fd,osl⟩/\PySem.W.codeIn K cdv qual=true
 kp:PySem.W.keepIn K (.ref f)=true
section
variable {mg:Str->qD qB}{base:Heap}
def Fun.ok{fd:FuncData}{k:Nat}{sp:Sp}(F:Fun K x qual st f fd)(S:FnScope N ps (A1 st))(e:∀vs H Q E,sp vs H Q E->vs.length=ps.length)
  (b:∀(a:qB) (A:Around) (outer:qA Env) (s:qC) (H:Hp) (vs:qA V) (Q:VK) (E:XK),Room k (A.deeper (envOfC qual (A1 st) s.heap.objs.size f a))->sp vs H Q E ->
   ∃t,PSs (K4 CX0 P w K mg base N qual (A1 st) f a A outer s H E).nox (E7 st) t/\t {nx:=λ_ H'=>Q .non H',rt:=Q} (start N vs) H):FnOk P w K mg base CX0 (k+1) f fd ps sp:=by
 obtain⟨oc,od,kV,g,pm,an,a,ct,l,rfl,j,c⟩:=F.ex;refine b7b j c S e λA outer s H vs Q E i d=>?_;obtain⟨t,h,q⟩:=b a A outer s H vs Q E i d;exact⟨t,h.nox,q⟩
def Fun.binds{fd:FuncData}(F:Fun K x qual st f fd)
  (h:∀(kV b pm:qB) (an:qD qE) (a ct:qB) (us:qA qB),us.length=ps.length->bindArgs (PySem.W.fnOf x qual (T5 st) (E7 st) (A1 st) .none kV b pm an a ct) ⟨us,[]⟩=pure (ps.zip us)):Binds K fd ps []:=by
 obtain⟨oc,od,kV,b,pm,an,a,ct,d,rfl,e,c⟩:=F.ex;exact .all (h kV b pm an a ct)
def a3G{oc:qB}{od an:qD qE}{d:Array (qD qB)}{kV b pm a ct:qB}(l:K.lookup f=some ⟨oc,od,.func (PySem.W.fnOf x qual (T5 st) (E7 st) (A1 st) .none kV b pm an a ct),d⟩)
  (c:PySem.W.codeIn K a qual=true) (k:PySem.W.keepIn K (.ref f)=true):Fun K x qual st f (PySem.W.fnOf x qual (T5 st) (E7 st) (A1 st) .none kV b pm an a ct):=⟨⟨oc,od,kV,b,pm,an,a,ct,d,rfl,l,c⟩,k⟩
end
def pv(i:Nat)(b:X.N[i]?=some x:=by rfl)(c:Vis X.env.scope x:=by first|exact Or.inl rfl|exact Or.inr (Or.inl rfl)|exact Or.inr (Or.inr rfl))(hd:(x==("__debug__" : Str))=false:=by decide)
  (a:(x==("__classdict__" : Str))=false:=by decide):PE X (.Name x pos) (Z0 i):=b2H b c hd a
def C9{A B:Prop}(h:B):if false=true then A else B:=by
 rw[ao aY];exact h
def E5{A B:Prop}(h:A):if true=true then A else B:=by
 rw[av rfl];exact h
def a0e{c A B:Prop}[Decidable c](h1:c->A)(h2:¬c->B):if c then A else B:=by
 by_cases h:c
 .rw[av h];exact h1 h
 .rw[ao h];exact h2 h
def Same(H H':Hp):Prop:=∀b o,H b=some o->H' b=some o
def Same.refl(H:Hp):Same H H:=λ_ _ h=>h
def Same.trans{H2:Hp}(a:Same H H1)(b:Same H1 H2):Same H H2:=λc o h=>b c o (a c o h)
def Same.free{H':Hp}(e:Same H H')(h:H' l=Option.none):H l=Option.none:=by
 cases q:H l with
 |none=>rfl
 |some o =>
  rw[e l o q]at h;cases h
def Same.seq{H':Hp}(e:Same H H')(h:SqL K H a xs):SqL K H' a xs:=by
 rcases h with(h|⟨o,h⟩)|h
 .exact .inl (.inl (e _ _ h))
 .exact .inl (.inr ⟨o,e _ _ h⟩)
 .exact .inr h
def I0(env:Env)(cs:qA (Str×qE))(x:Str×NameKind):qA (Str×qE) :=
 if x.2==.free then(match env.cells.lookup x.1 with|some a=>(x.1,a)::cs|none=>cs)else cs
def a2s(scope:Scope)(env:Env):qA (Str×qE):=scope.names.foldl (I0 env) []
def a3P{env:Env}(f:Str×NameKind->qA (Str×qE)->Sem (ForInStep (qA (Str×qE))))
  (c:∀n k r,f (n,k) r=if (k==NameKind.free)=true then(do let a <-cellOf env n;pure (ForInStep.yield ((n,a)::r)))else pure (ForInStep.yield r)) :
  ∀(names:qA (Str×NameKind)) (cs:qA (Str×qE)),(∀x∈names,x.2=.free->∃a,env.cells.lookup x.1=some a)->forIn names cs f=pure (names.foldl (I0 env) cs)
 |[],cs,_=>rfl
 |(n,k)::r,cs,h=>by
  rw[List.forIn_cons,dI,c];have g:=λy j=>h y (au _ j);by_cases e:k=.free
  .subst e;obtain⟨a,d⟩:=h (n,NameKind.free) ax rfl;have i:cellOf env n=pure a:=by unfold cellOf;rw[d]
   have b:I0 env cs (n,NameKind.free)=(n,a)::cs:=by unfold I0;rw[d];rfl
   rw[b,<-a3P f c r _ g,i];rfl
  .have hb:(k==NameKind.free)=false:=by simpa using e
   have b:I0 env cs (n,k)=cs:=by unfold I0;rw[hb];rfl
   rw[b,<-a3P f c r _ g,hb];rfl
def b4c(h:∀x∈scope.names,x.2=.free->∃a,env.cells.lookup x.1=some a):closureFor scope env=pure (a2s scope env):=by
 simp only[closureFor];rw[a3P (env:=env) _ (λn k r=>by cases b:k==NameKind.free<;>simp[b]) scope.names [] h];rfl
def a4M{env:Env}{x:Str}{c:qE}:∀(names:qA (Str×NameKind)) (cs:qA (Str×qE)),(names.foldl (I0 env) cs).lookup x=some c->env.cells.lookup x=some c∨cs.lookup x=some c
 |[],cs,h=>.inr h
 |y::r,cs,h=>by
  rw[dI]at h;rcases a4M r _ h with z|z
  .exact .inl z
  .unfold I0 at z;split at z
   .split at z
    .rename_i a ha;rw[bZ]at z;cases b:x==y.1 with
     |true =>
      rw[b]at z;rw[a_.mp b];exact .inl (ha.trans z)
     |false =>
      rw[b]at z;exact .inr z
    .exact .inr z
   .exact .inr z
def a0C{c:qE}(h:(a2s scope env).lookup x=some c):env.cells.lookup x=some c :=
 (a4M scope.names [] h).elim id λz=>by cases z
def a0T{env:Env}{x:Str}{a:qE}(d:env.cells.lookup x=some a):∀(names:qA (Str×NameKind)) (cs:qA (Str×qE)),((x,NameKind.free)∈names∨cs.lookup x=some a)->(∀c,cs.lookup x=some c->c=a)->(names.foldl (I0 env) cs).lookup x=some a
 |[],cs,h,_=>h.elim (λz=>by cases z) id
 |y::r,cs,h,i=>by
  rw[dI];by_cases b:y.2=.free/\y.1=x
  .have e2:I0 env cs y=(x,a)::cs:=by unfold I0;rw[b.2,d,b.1];rfl
   rw[e2];have f:((x,a)::cs).lookup x=some a:=by rw[bZ];simp
   exact a0T d r _ (.inr f) λc z=>by rw[f]at z;exact(bB z).symm
  .have same:(I0 env cs y).lookup x=cs.lookup x:=by
    unfold I0;split
    .rename_i hk;split
     .have hne:(x==y.1)=false:=by
       cases g:x==y.1 with
       |false=>rfl
       |true=>exact absurd ⟨by simpa using hk,(a_.mp g).symm⟩ b
      rw[bZ,hne]
     .rfl
    .rfl
   refine a0T d r _ ?_ (by rw[same];exact i);rw[same];rcases h with z|z
   .rcases aA.mp z with e|z
    .exact absurd ⟨by rw[<-e],by rw[<-e]⟩ b
    .exact .inl z
   .exact .inr z
def a7d(b:env.cells.lookup x=some a)(d:(x,NameKind.free)∈scope.names):(a2s scope env).lookup x=some a :=
 a0T b _ _ (.inl d) λc z=>by cases z
def V3{x:Str}{c:qE}:∀(names:qA (Str×NameKind)) (n:Nat) (a:qA (Str×qE)),(cellsFrom n names a).lookup x=some c->(n<=c/\(x,NameKind.cell)∈names)∨a.lookup x=some c
 |[],_,_,h=>.inr h
 |(y,k)::r,n,a,h=>by
  unfold cellsFrom at h;split at h
  .rename_i hk;have d:k=.cell:=by simpa using hk
   rcases V3 r _ _ h with⟨f,e⟩|z
   .exact .inl ⟨by omega,au _ e⟩
   .rw[bZ]at z;cases b:x==y with
    |true =>
     rw[b]at z;cases z;exact .inl ⟨ak _,by rw[d,a_.mp b];exact ax⟩
    |false =>
     rw[b]at z;exact .inr z
  .rcases V3 r _ _ h with⟨f,e⟩|z
   .exact .inl ⟨f,au _ e⟩
   .exact .inr z
def a8f:∀(names:qA (Str×NameKind)) (n:Nat) (a:qA (Str×qE)),(∀x c,a.lookup x=some c->c<n)->(∀x y c,a.lookup x=some c->a.lookup y=some c->x=y) ->
  ∀x y c,(cellsFrom n names a).lookup x=some c->(cellsFrom n names a).lookup y=some c->x=y
 |[],_,_,_,h2=>h2
 |(z,k)::r,n,a,h1,h2=>by
  unfold cellsFrom;split
  .have lk:∀x c,List.lookup x ((z,n)::a)=some c->(x=z/\c=n)∨a.lookup x=some c:=λx c e=>by
    rw[bZ]at e;cases b:x==z with
    |true=>rw[b]at e;cases e;exact .inl ⟨a_.mp b,rfl⟩
    |false=>rw[b]at e;exact .inr e
   refine a8f r (n+1) _ (λx c e=>?_) λx y c e d=>?_
   .rcases lk x c e with⟨_,q⟩|q
    .rw[q];exact cm _
    .exact cc (h1 x c q)
   .rcases lk x c e with⟨q1,q2⟩|q<;>rcases lk y c d with⟨p1,p2⟩|p
    .rw[q1,p1]
    .exact absurd (h1 y c p) (by rw[q2];exact bN _)
    .exact absurd (h1 x c q) (by rw[p2];exact bN _)
    .exact h2 x y c q p
  .exact a8f r n a h1 h2
def a5L{x:Str}:∀(names:qA (Str×NameKind)) (n:Nat) (a:qA (Str×qE)),((x,NameKind.cell)∈names∨∃c,a.lookup x=some c)->∃c,(cellsFrom n names a).lookup x=some c
 |[],_,_,h=>h.elim (λz=>by cases z) id
 |(y,k)::r,n,a,h=>by
  unfold cellsFrom;split
  .rename_i hk;refine a5L r _ _ ?_;by_cases b:x=y
   .exact .inr ⟨n,by rw[bZ,b];simp⟩
   .have hb:(x==y)=false:=cM.mpr b;rcases h with z|⟨c,z⟩
    .rcases aA.mp z with e|z
     .exact absurd (Prod.mk.inj e).1 b
     .exact .inl z
    .exact .inr ⟨c,by rw[bZ,hb];exact z⟩
  .rename_i hk;refine a5L r _ _ ?_;rcases h with z|z
   .rcases aA.mp z with e|z
    .exact absurd (by rw[<-(Prod.mk.inj e).2];rfl) hk
    .exact .inl z
   .exact .inr z
def a5x{x:Str}{c:qE}:∀(names:qA (Str×NameKind)) (h:Heap) (a:qA (Str×qE)),(∀x c,a.lookup x=some c->∃v,h.IsCell c v)->(cellsFrom h.objs.size names a).lookup x=some c->∃v,(pushCells h names).IsCell c v
 |[],h,a,f,e=>f x c e
 |(y,k)::r,h,a,f,e=>by
  unfold cellsFrom at e;unfold pushCells;split at e
  .rename_i hk;rw[av hk];rw[show h.objs.size+1=(h.push {cls:=.type "cell",data:=.cell none}).objs.size from(br ..).symm]at e;refine a5x r _ _ (λi c' d=>?_) e;rw[bZ]at d;cases g:i==y with
   |true=>rw[g]at d;cases d;exact⟨_,_,aC _ rfl,rfl⟩
   |false =>
    rw[g]at d;obtain⟨v,z⟩:=f i c' d;exact⟨v,z.keeps λb o q=>ae _ q⟩
  .rename_i hk;rw[ao hk];exact a5x r _ _ f e
def a7h{a:qA (Str×qE)}{outer:Env}{Q:Env->qC->Prop}
  (f:Q (newEnv scope s.heap.objs.size b (cellsFrom (s.heap.objs.size+1) scope.names a) qual none .none (some outer) builtinsNs) {s with heap:=pushCells (s.heap.push {cls:=.type "dict",data:=.dict #[]}) scope.names}) :
  wpAny M A (newFunctionEnv scope b a [] qual none .none (some outer)) Q E s:=by
 simp only[newFunctionEnv,Option.isSome_some,fj];refine aa (wpAny_alloc ?_);refine aa (wpAny_layCells _ (λname c d=>by cases e:c==NameKind.cell<;>simp[e]) _ _ _ _ ?_);rw[show({s with heap:=s.heap.push {cls:=.type "dict",data:=.dict #[]}}:qC).heap.objs.size=s.heap.objs.size+1 from br ..];exact aa (ag (ag f))
abbrev NoX:qH:=λ_ _=>False
def toE{t:Sem α}{Q b:α->qC->Prop}(h:wpAny M A t Q NoX s)(c:∀a s,Q a s->b a s):wpAny M A t b E s :=
 cH h c λ_ _ z=>z.elim
def a5K{e a b:Expr}{f:qA Expr}{it d:qB}{R:Result->qC->Prop}(I:Nat->qC->Prop)
  (g:∀n s,I n s->wpAny (model prog w) A (pyNext it) (λr s₁=>match r with
   |none=>R (.ok .next) s₁
   |some v=>wpAny (model prog w) A (letOwnedTupleGo a it v) (λ_ s₂=>wpAny (model prog w) A (assign a env v) (λ_ s₃ =>
     wpAny (model prog w) A (forIn f true λc r=>if r=true then do let ok <-isTrue c env (eval c env);pure (ForInStep.yield ok)else pure (ForInStep.yield r)) (λok s₄ =>
      if ok=true then wpAny (model prog w) A (eval e env) (λx s₅=>wpAny (model prog w) A (call (.builtin "list.append") [d,x]) (λ_ s₆=>∃m,m<n/\I m s₆) NoX s₅) NoX s₄
      else ∃m,m<n/\I m s₄) NoX s₃) NoX s₂) NoX s₁) NoX s)
  (n:Nat) (h:I n s):codeAny (model prog w) A (.compLoop (.ListComp e [⟨a,b,f,0⟩] scope pos) 0 it d env) R s:=by
 refine codeAny_loop rfl I (λn s hI=>?_) n h;show wpAny _ A ((compTurn (.ListComp e [⟨a,b,f,0⟩] scope pos) 0 it d env).onRaise (λx=>do noteFrame x env;theTreesLotGoes x)) _ _ s;refine wpAny_noted ?_;rw[compTurn_list];refine aa (wpAny_standAt (aa (toE (g n s hI) λr s₁ h₁=>?_)));cases r with
 |none=>exact ag h₁
 |some v =>
  refine aa (toE h₁ λ_ s₂ h₂=>aa (toE h₂ λ_ s₃ h₃=>aa (toE h₃ λok s₄ h₄=>?_)));cases ok with
  |false=>exact ag ⟨rfl,h₄⟩
  |true=>exact aa (aa (toE h₄ λx s₅ h₅=>aa (toE h₅ λ_ s₆ h₆=>ag (ag ⟨rfl,h₆⟩))))
def Cx.blk(X:Cx)(N:qA Str)(scope:Scope)(cells:qA (Str×qE))(C:qE)(s:qC)(H:Hp)(ex:qA qE):Cx :=
 {X with N:=N,s₀:=s,H₀:=H,env:=compEnvC scope cells C X.env,outer:=X.stack,stack:=X.stack,ex:=ex,fn:=λx=>scope.names.any λy=>y.1==x && y.2==.cell,pn:=[],xe:=NoX}
def B2(src:qA (qJ))(σ:St):St:=src.map λo=>o.bind λj=>(σ[j]?).join
def B9(sc out:Scope):Bool:=sc.names.all λx=>x.2 != .free || (out.names.lookup x.1==some .cell || out.names.lookup x.1==some .free)
def M3:qA Str->qA (qJ)->qA Str->Scope->Bool
 |[],[],_,_=>true
 |x::N,o::src,M,sc=>(match o with|none=>true|some j=>M[j]? == some x && sc.names.lookup x==some .free) && M3 N src M sc
 |_,_,_,_=>false
def a5r(sc:Scope):Bool:=sc.kind==.function && sc.names.all λx=>sc.names.lookup x.1==some x.2
def a4N:∀{N:qA Str}{src:qA (qJ)}{M:qA Str}{a:Scope},M3 N src M a=true->src.length=N.length
 |[],[],_,_,_=>rfl
 |_::N,_::src,M,a,h=>by
  unfold M3 at h;rw[aO]at h;rw[aZ,aZ,a4N h.2]
 |[],_::_,_,_,h=>by simp[M3]at h
 |_::_,[],_,_,h=>by simp[M3]at h
def a4O:∀{N:qA Str}{src:qA (qJ)}{M:qA Str}{a:Scope}{i:Nat}{x:Str}{j:Nat},M3 N src M a=true->N[i]?=some x->src[i]?=some (some j)->M[j]?=some x/\a.names.lookup x=some .free
 |[],[],_,_,_,_,_,_,h,_=>by simp at h
 |y::N,o::src,M,a,0,x,j,h,h1,h2=>by
  unfold M3 at h;rw[aO]at h;simp at h1 h2;subst h1 h2;have q:=h.1;rw[aO]at q;exact⟨a_.mp q.1,a_.mp q.2⟩
 |y::N,o::src,M,a,i+1,x,j,h,h1,h2=>by
  unfold M3 at h;rw[aO]at h;exact a4O h.2 (by simpa using h1) (by simpa using h2)
 |[],_::_,_,_,_,_,_,h,_,_=>by simp[M3]at h
 |_::_,[],_,_,_,_,_,h,_,_=>by simp[M3]at h
def b1l{v:V}(h:(B2 src σ)[i]?=some (some v)):∃j,src[i]?=some (some j)/\σ[j]?=some (some v):=by
 unfold B2 at h;rw[aX]at h;cases e:src[i]? with
 |none=>rw[e]at h;cases h
 |some o =>
  rw[e]at h;cases o with
  |none=>cases h
  |some j =>
   refine⟨j,rfl,?_⟩;have h':(σ[j]?).join=some v:=bB h;cases q:σ[j]? with
   |none=>rw[q]at h';cases h'
   |some z=>rw[q]at h';rw[show z=some v from h']
def a0a{env:Env}:∀{names:qA (Str×NameKind)}{x:Str}{k:NameKind},
  (names.map λ(n,k)=>if (k==NameKind.free && env.scope.kind==.function && env.kindOf n==some .cell)then(n,NameKind.cell)else(n,k)).lookup x=some k ->
  ∃b,names.lookup x=some b/\(k=b∨(b=.free/\k=.cell))
 |[],_,_,h=>by cases h
 |(n,k0)::r,x,k,h=>by
  rw[aV,bZ]at h;rw[bZ];dsimp only at h;split at h
  .rename_i h0;have a:x==n:=by
    split at h0<;>exact h0
   rw[a];refine⟨k0,rfl,?_⟩;split at h
   .rename_i hc;cases h;simp only[aO]at hc;exact .inr ⟨by simpa using hc.1.1,rfl⟩
   .cases h;exact .inl rfl
  .rename_i h0;have a:(x==n)=false:=by
    split at h0<;>exact h0
   rw[a];exact a0a h
def K0{env:Env}:∀{names:qA (Str×NameKind)}{x:Str}{c:NameKind},names.lookup x=some c ->
  ∃k,(names.map λ(n,k)=>if (k==NameKind.free && env.scope.kind==.function && env.kindOf n==some .cell)then(n,NameKind.cell)else(n,k)).lookup x=some k/\(k=c∨(c=.free/\k=.cell))
 |[],_,_,h=>by cases h
 |(n,k0)::r,x,c,h=>by
  rw[bZ]at h;rw[aV];by_cases b:(k0==NameKind.free && env.scope.kind==.function && env.kindOf n==some .cell)=true
  .simp only[b,fj];rw[bZ];cases a:x==n with
   |true =>
    rw[a]at h;cases h;simp only[aO]at b;exact⟨_,rfl,.inr ⟨by simpa using b.1.1,rfl⟩⟩
   |false=>rw[a]at h;exact K0 h
  .simp only[ao b];rw[bZ];cases a:x==n with
   |true=>rw[a]at h;cases h;exact⟨_,rfl,.inl rfl⟩
   |false=>rw[a]at h;exact K0 h
def PIf(X:Cx)(ifs:qA Expr)(t:TT):Prop :=
 ∀(qK:qA (qE×Obj)) (s:qC) (σ:St) (H:Hp) (Q:Bool->Hp->Prop),Inv X qK σ H s->t σ H Q ->
  wpAny (model X.prog X.w) X.A (forIn ifs true λc r=>if r=true then do let ok <-isTrue c X.env (eval c X.env);pure (ForInStep.yield ok)else pure (ForInStep.yield r)) (TP X qK σ Q) X.xe s
def O3:TT:=λ_ H Q=>Q true H
def b5i:PIf X [] O3:=λqK s σ H Q I h=>wpAny_tests_nil ⟨H,I,h⟩
def b5h{c:Expr}{t:TT}(h:PT X c t):PIf X [c] t:=λqK s σ H Q I q=>wpAny_tests_one (h qK s σ H Q I q)
def Sub(σ σ':St):Prop:=σ.length=σ'.length/\∀(i:Nat) (v:V),σ[i]?=some (some v)->σ'[i]?=some (some v)
def E8(src:qA (qJ))(g:TG)(tt:TT)(te:TE)(σ:St)(Q:VK)(J:It)(H1:Hp):Prop :=
 ∃W:Nat->Nat->qA V->Hp->Prop,(∃m,W 0 m [] H1)/\∀i m ys H,W i m ys H ->
  (J.stop i H/\ys.length<=sizeLine/\∀p,H p=none->Q (.ref p) (upd H p (.lst ys))) ∨
  (J.go i H/\ys.length<sizeLine/\∃N:qA V->Hp->Prop,(∀zs H',N zs H'->∃m',m'<m/\W (i+1) m' zs H')/\∀x H',J.yld i H x H'->g x (B2 src σ) H' λσ2 H2=>Sub (B2 src σ) σ2/\tt σ2 H2 λb H3 =>
   if b=true then te σ2 H3 λv H4=>N (ys++[v]) H4 else N ys H3)
def a6d(src:qA (qJ))(wi:TI)(g:TG)(tt:TT)(te:TE):TE:=λσ H Q=>wi σ H (E8 src g tt te σ Q)
def Inv.block{fp:qA qE}(I:Inv X qK σ H s)(P:∀b∈fp,a1T X qK H b)(Y:∀b∈fp,∃o,s.heap.get? b=some o)
  (J:B9 scope X.env.scope=true) (D:M3 N src X.N scope=true) (C:a5r scope=true) {lo:Obj} :
  Inv (X.blk N scope (cellsFrom (s.heap.objs.size+2) scope.names (a2s scope X.env)) (s.heap.objs.size+1) s H fp) [] (B2 src σ) H
   {s with heap:=pushCells ((s.heap.push lo).push {cls:=.type "dict",data:=.dict #[]}) scope.names}:=by
 unfold a5r at C;rw[aO]at C;have E:scope.kind=.function:=by simpa using C.1
 have F:∀x∈scope.names,scope.names.lookup x.1=some x.2:=λx A=>by simpa using aS.mp C.2 x A
 have t:∀x∈scope.names,x.2=.free->X.env.kindOf x.1=some .cell∨X.env.kindOf x.1=some .free:=λx A f=>by
  have q:=aS.mp J x A;rw[f]at q;have U:(X.env.scope.names.lookup x.1==some .cell || X.env.scope.names.lookup x.1==some .free)=true:=by simpa using q
  rw[Bool.or_eq_true]at U;exact U.imp (λz=>a_.mp z) λz=>a_.mp z
 have keep:∀b o,s.heap.get? b=some o->(pushCells ((s.heap.push lo).push {cls:=.type "dict",data:=.dict #[]}) scope.names).get? b=some o:=λb o e =>
  fP _ _ _ _ (ae _ (ae _ e))
 have Q:∀x c,(a2s scope X.env).lookup x=some c->c<s.heap.objs.size:=λx c e=>by
  obtain⟨v,z⟩:=I.cell x c (a0C e);exact z.lt
 have d:∀x c,(cellsFrom (s.heap.objs.size+2) scope.names (a2s scope X.env)).lookup x=some c->(s.heap.objs.size+2<=c/\(x,NameKind.cell)∈scope.names)∨X.env.cells.lookup x=some c:=λx c e =>
  (V3 _ _ _ e).imp id a0C
 have K:∀x k,(compEnvC scope (cellsFrom (s.heap.objs.size+2) scope.names (a2s scope X.env)) (s.heap.objs.size+1) X.env).kindOf x=some k->∃g,scope.names.lookup x=some g/\(k=g∨(g=.free/\k=.cell)):=λx k e =>
  a0a (env:=X.env) e
 have mem:∀{x k},scope.names.lookup x=some k->(x,k)∈scope.names:=λe=>mem_of_lookup e;refine⟨⟨I.ok.mod,?_,I.ok.glob,I.ok.blt,?_,?_,?_,?_,I.ok.hd,I.ok.frames,.inl rfl,?_,I.bs,bh I.ok.bsz I.sz,?_,?_,I.stack,I.stkFree⟩,rfl,I.bare,Un.kept keep,?_,?_,?_,?_,?_,I.hok.kept keep,?_⟩
 .exact E
 .exact ed _
 .-- inj
  refine a8f _ _ _ (λx c e=>?_) λx y c e R=>I.ok.inj x y c (a0C e) (a0C R);exact aJ (Q x c e) (b_ _ 2)
 .-- has
  intro x A;refine a5L _ _ _ ?_;have f:∃g,scope.names.lookup x=some g/\(g=.cell∨g=.free):=by
   rcases A with A|A
   .obtain⟨g,e,z⟩:=K x _ A;exact⟨g,e,z.elim (λz=>.inl z.symm) λz=>.inr z.1⟩
   .obtain⟨g,e,z⟩:=K x _ A;exact⟨g,e,z.elim (λz=>.inr z.symm) λz=>by cases z.2⟩
  obtain⟨g,e,rfl|rfl⟩:=f
  .exact .inl (mem e)
  .obtain⟨a,ha⟩:=I.ok.has x (t _ (mem e) rfl);exact .inr ⟨a,a7d ha (mem e)⟩
 .-- cab
  intro x c A e;rcases d x c e with z|z
  .exact bh (b_ _ 2) z.1
  .-- x is the block's own cell, so it is not in the closure's part
   exfalso;obtain⟨y,hy,G⟩:=bJ.mp A;rw[aO]at G;have S:y.1=x:=a_.mp G.1;have T:y.2=.cell:=by simpa using G.2
   have l1:scope.names.lookup x=some .cell:=by rw[<-S,<-T];exact F y hy
   rcases V3 _ _ _ e with q|q
   .obtain⟨v,z'⟩:=I.cell x c z;exact absurd (aJ z'.lt (bh (b_ _ 2) q.1)) (bN _)
   .-- the closure holds free names alone
    have fr:∀(names:qA (Str×NameKind)) (L:qA (Str×qE)),(names.foldl (I0 X.env) L).lookup x=some c->(x,NameKind.free)∈names∨L.lookup x=some c:=by
     intro names;induction names with
     |nil=>intro L h;exact .inr h
     |cons n r ih =>
      intro L h;rw[dI]at h;rcases ih _ h with w|w
      .exact .inl (au _ w)
      .unfold I0 at w;split at w
       .rename_i f;split at w
        .rw[bZ]at w;cases B:x==n.1 with
         |true =>
          have:n=(x,NameKind.free):=Prod.ext (a_.mp B).symm (by simpa using f);exact .inl (by rw[this];exact ax)
         |false=>rw[B]at w;exact .inr w
        .exact .inr w
       .exact .inr w
    rcases fr _ _ q with w|w
    .have:=F _ w;rw[l1]at this;cases this
    .cases w
 .-- exf
  intro b B;obtain⟨o,e⟩:=Y b B;have lt:=aF e;refine⟨aK (cc lt),λx c O=>?_⟩;rcases d x c O with z|z
  .exact cR (aJ lt (bh (b_ _ 2) z.1))
  .exact(P b B).2.2.2.2.1 x c z
 .-- noex
  intro b o e B;rcases(P b B).2.2.2.1 with z|z
  .exact I.ok.noex b o e z
  .exact absurd (aJ (aF (I.ok.bs b o e).1) z) (bN _)
 .-- exfs
  intro b B z;rcases aA.mp (I.stkSub b z)with q|q
  .exact(P b B).2.1 q
  .exact(P b B).2.2.1 q
 .-- loc
  refine⟨λ_=>none,?_,λi x v S T e3=>?_⟩
  .have:=(Heap.Ns.new (s.heap.push lo) (.type "dict")).keeps (fP scope.names _);rw[br]at this;exact this
  .obtain⟨j,e4,e5⟩:=b1l T;obtain⟨V,M⟩:=a4O D S e4;obtain⟨m,_,W⟩:=I.loc;have f:=t _ (mem M) rfl;have Z:Vis X.env.scope x:=.inr (f.imp id id);obtain⟨u,r,l⟩:=W j x v V e5 Z;refine⟨u,r,.inr ⟨?_,?_⟩⟩
   .obtain⟨k,q,z⟩:=K0 (env:=X.env) M;rcases z with z|z
    .exact .inr (by rw[<-z];exact q)
    .exact .inl (by rw[<-z.2];exact q)
   .rcases l with l|⟨_,c,O,z⟩
    .exfalso;rcases f with f|f<;>rw[l.1]at f<;>cases f
    .refine⟨c,?_,z.keeps keep⟩;have own:¬(x,NameKind.cell)∈scope.names:=λw=>by
      have:=F _ w;rw[M]at this;cases this
     obtain⟨c',q⟩:=a5L (x:=x) scope.names (s.heap.objs.size+2) (a2s scope X.env) (.inr ⟨c,a7d O (mem M)⟩);rcases d x c' q with w|w
     .exact absurd w.2 own
     .rw[O]at w;cases w;exact q
 .-- cell
  intro x c e;have R:(cellsFrom ((s.heap.push lo).push {cls:=.type "dict",data:=.dict #[]}).objs.size scope.names (a2s scope X.env)).lookup x=some c:=by
   rw[br,br];exact e
  refine a5x _ _ _ (λx' c' q=>?_) R;obtain⟨v,z⟩:=I.cell x' c' (a0C q);exact⟨v,z.keeps λb o q=>ae _ (ae _ q)⟩
 .exact I.hok.fresh (ed _)
 .intro x c e;rcases d x c e with z|z
  .exact I.hok.fresh (bh (b_ _ 2) z.1)
  .exact I.freeC x c z
 .intro p hp;cases hp
 .show(B2 src σ).length=N.length;unfold B2;rw[ai];exact a4N D
def Inv.unblock{d:qA (Str×qE)}{C:qE}{fp:qA qE}{pins':qA (qE×Obj)}{σ':St}{H':Hp}{s':qC}{ys:qA V}{us:qA qB}
  (I:Inv X qK σ H s) (A:∀b∈fp,a1T X qK H b) (y:s.heap.objs.size<=C) (w:s.heap.objs.size<=a) (p:a≠C) (J:Inv (X.blk N scope d C s H fp) pins' σ' H' s')
  (x:H' a=none) (B:s'.heap.get? a=some {cls:=.type "list",data:=.seq us.toArray n}) (D:Vals ys us) (E:ys.length<=sizeLine) (m:Heap.SameBut C s'.heap h') :
  Inv X qK σ (upd H' a (.lst ys)) {s' with heap:=h'}:=by
 have base:Un (frs X.stack) fp H H' s.heap s'.heap:=J.base;have k:∀b o,b≠C->s'.heap.get? b=some o->h'.get? b=some o:=λb o q e=>m.extBut b o q e;have old:∀b o,s.heap.get? b=some o->b≠C/\b≠a:=λb o e=>by
  have:=aF e;exact⟨aK (aJ this y),aK (aJ this w)⟩
 have g:H' C=none:=J.free;have h:H a=none:=I.hok.fresh w;have j:HOk X.prog X.w H' s'.heap:=J.hok;have v:HOk X.prog X.w (upd H' a (.lst ys)) h':=by
  intro b o e;by_cases i:b=a
  .subst i;rw[A0]at e;cases e;exact⟨E,us,n,D,k _ _ p B⟩
  .rw[A5 i]at e;refine(j b o e).stay (λc u l q=>k c u ?_ q) (λc q=>?_) λc xs q=>?_
   .rintro rfl;rcases l with rfl|l
    .rw[g]at e;cases e
    .rw[g]at l;cases l
   .rw[A5 (by rintro rfl;rw[x]at q;cases q)];exact q
   .rw[A5 (by rintro rfl;rw[x]at q;cases q)];exact q
 have f:∀b u,H b=some u->b≠a:=λb u e=>by rintro rfl;rw[h]at e;cases e
 refine I.call' (s':={s' with heap:=h'}) (ch:=fp) (J.os) ⟨λb o e q r t=>?_,λb o e q r t=>?_,λb o e q t=>?_,λb o e t=>?_,λb xs e=>?_,λb o u e=>?_,λb ps e=>?_⟩ v J.bare λb m=>?_
 .exact k b o (old b o e).1 (base.keep b o e q r t)
 .obtain⟨sl,z⟩:=base.slot b o e q r t;exact⟨sl,k b _ (old b o e).1 z⟩
 .rw[A5 (old b o e).2];exact base.free b o e q t
 .obtain⟨o',z⟩:=base.there b o e t;exact⟨o',k b _ (old b o e).1 z⟩
 .rw[A5 (f b _ e)];exact base.tups b xs e
 .rw[A5 (f b _ e)];exact base.frzs b o u e
 .rw[A5 (f b _ e)];exact base.tbls b ps e
 .obtain⟨_,h1,_,h3,h4,h5⟩:=A b m;exact⟨h3,h1,h4,h5⟩
set_option maxHeartbeats 4000000 in
def a4L{tg t E:Expr}{K:qA Expr}{wi:TI}{tt:TT}{Q:VK}{RR:qB->qE->Result->qC->Prop}(hc:X.calm=true)(hi:PI X tg t wi)
  (b9:B9 scope X.env.scope=true) (b8:M3 N src X.N scope=true) (d6:a5r scope=true)
  (hg:∀a C s H ex,PG (X.blk N scope a C s H ex) tg g) (ht:∀a C s H ex,PIf (X.blk N scope a C s H ex) K tt) (he:∀a C s H ex,PE (X.blk N scope a C s H ex) E te)
  (I:Inv X qK σ H s) (h:a6d src wi g tt te σ H Q)
  (c0:∀(s2 s4:qC) (H2 H4:Hp) (fp:qA qE) (a:qA (Str×qE)) (pl:qA (qE×Obj)) (σ4:St) (ys:qA V) (us:qA qB) (k:Nat),Inv X qK σ H2 s2->(∀b∈fp,a1T X qK H2 b) ->
   Inv (X.blk N scope a (s2.heap.objs.size+1) s2 H2 fp) pl σ4 H4 s4->H4 s2.heap.objs.size=none->s4.heap.get? s2.heap.objs.size=some {cls:=.type "list",data:=.seq us.toArray k}->Vals ys us->ys.length<=sizeLine ->
   Q (.ref s2.heap.objs.size) (upd H4 s2.heap.objs.size (.lst ys))->RR (.ref s2.heap.objs.size) (s2.heap.objs.size+1) (.ok .next) s4) :
  wpAny (model X.prog X.w) X.A (eval t X.env) (λx s₁=>wpAny (model X.prog X.w) X.A (pyIter x) (λit s₂=>wpAny (model X.prog X.w) X.A (newList []) (λb0 s₃ =>
   wpAny (model X.prog X.w) X.A (newFunctionEnv scope X.env.globals (a2s scope X.env) [] X.env.qual none .none (some X.env)) (λP s₄ =>
    codeAny (model X.prog X.w) X.A (.compStart (.ListComp E [⟨tg,t,K,0⟩] scope pos) 0 it b0 {P with scope:=relabel scope X.env}) (RR b0 P.locals) s₄) X.xe s₃) X.xe s₂) X.xe s₁) X.xe s:=by
 refine thn (hi qK s σ H _ I h) λv s1 h1=>thn h1 λd8 s2 h2=>?_;obtain⟨it,fp,tn,J,H2,e,Z,T,c5,f2,W,⟨m0,w0⟩,c7⟩:=h2;subst e;have c1:∀b∈fp,∃o,s2.heap.get? b=some o:=λb l=>(T.obj _ _ c5 b l).imp λ_ q=>q.1;refine bU (a7h ?_);have hB:=Z.block (lo:={cls:=.type "list",dict:=none,data:=.seq ([]:qA qB).toArray}) f2 c1 b9 b8 d6;rw[show({s2 with heap:=s2.heap.push {cls:=.type "list",dict:=none,data:=.seq ([]:qA qB).toArray}}:qC).heap.objs.size=s2.heap.objs.size+1 from br ..];generalize G:cellsFrom (s2.heap.objs.size+1+1) scope.names (a2s scope X.env)=a at hB⊢;generalize B:pushCells ((s2.heap.push {cls:=.type "list",dict:=none,data:=.seq ([]:qA qB).toArray}).push {cls:=.type "dict",data:=.dict #[]}) scope.names=h4 at hB⊢;have a6:∀b o,s2.heap.get? b=some o->h4.get? b=some o:=λb o q=>by
  rw[<-B];exact fP _ _ _ _ (ae _ (ae _ q))
 have b6:h4.get? s2.heap.objs.size=some {cls:=.type "list",data:=.seq ([]:qA qB).toArray 0}:=by
  rw[<-B];exact fP _ _ _ _ (ae _ (aC _ rfl))
 have c6:tn 0 h4:=T.keep _ _ _ c5 λb _ o q=>a6 b o q;generalize f:X.blk N scope a (s2.heap.objs.size+1) s2 H2 fp=j at hB;have eA:j.A=X.A:=by rw[<-f];rfl
 have eP:j.prog=X.prog:=by rw[<-f];rfl
 have ew:j.w=X.w:=by rw[<-f];rfl
 have eK:j.K=X.K:=by rw[<-f];rfl
 have ec:j.calm=true:=by rw[<-f];exact hc
 have ee:j.env=compEnvC scope a (s2.heap.objs.size+1) X.env:=by rw[<-f];rfl
 have ex:j.ex=fp:=by rw[<-f];rfl
 have b7:j.pn=[]:=by rw[<-f];rfl
 have d1:j.s₀=s2:=by rw[<-f];rfl
 have a4:j.xe=NoX:=by rw[<-f];rfl
 have eL:j.env.locals=s2.heap.objs.size+1:=by rw[ee];rfl
 have d0:j.fs=frs X.stack:=by rw[<-f];rfl
 have c4:=hB.ok;have cne:∀x c,j.env.cells.lookup x=some c->c≠s2.heap.objs.size:=λx c q=>by
  rw[ee]at q;have q':a.lookup x=some c:=q;rw[<-G]at q';rcases V3 _ _ _ q' with z|z
  .exact cR (aJ (cm _) (bh (ed _) z.1))
  .obtain⟨v,z'⟩:=Z.cell x c (a0C z);exact aK z'.lt
 have R:∀b∈fp,b≠s2.heap.objs.size:=λb l=>by
  obtain⟨o,q⟩:=c1 b l;exact aK (aF q)
 have A:s2.heap.objs.size∉j.fs:=by
  rw[d0];intro z;rcases aA.mp (Z.stkSub _ z)with q|q
  .exact absurd Z.lt (by rw[<-q];exact bN _)
  .exact Z.nofs (ak _) q
 have w:∀{H':Hp}{pl:qA (qE×Obj)},(∀b∈fp,H' b=none)->(∀p∈pl,p.1=s2.heap.objs.size)->∀b∈fp,a1T j pl H' b:=λ{H' pl} hn D b l=>by
  obtain⟨x1,x2⟩:=c4.exf b (by rw[ex];exact l);refine⟨hn b l,x1,c4.exfs b (by rw[ex];exact l),.inl (by rw[ex];exact l),x2,λp c2=>?_⟩;rw[b7,cO]at c2;rw[D p c2];exact(R b l).symm
 have c3:∀s5:qC,s5={s2 with heap:=h4}->codeAny (model X.prog X.w) X.A (.compLoop (.ListComp E [⟨tg,t,K,0⟩] scope pos) 0 (.ref it) (.ref s2.heap.objs.size) j.env)
   (RR (.ref s2.heap.objs.size) (s2.heap.objs.size+1)) s5:=by
  rintro s5 rfl;refine a5K (λn s'=>∃i H' ys us k,Inv j [] (B2 src σ) H' s'/\tn i s'.heap/\(∀b∈fp,H' b=none)/\H' s2.heap.objs.size=none /\
   s'.heap.get? s2.heap.objs.size=some {cls:=.type "list",data:=.seq (us:qA qB).toArray k}/\Vals ys us/\W i n ys H') ?_ m0
   ⟨0,H2,[],[],0,hB,c6,λb l=>(f2 b l).1,Z.hok.fresh (ak _),b6,.nil,w0⟩
  rintro n s3 ⟨i,U,ys,us,k,I3,a7,a5,L,a9,r3,w3⟩;rcases c7 i n ys U w3 with⟨S,hz,qn⟩|⟨go,hz,Nn,hN,step⟩
  .have d:=T.done j eP ew eK ec i [] s3 (B2 src σ) U NoX I3 (w a5 (λ_ z=>by cases z)) a7 S;rw[eA]at d;have a0:Inv j [(s2.heap.objs.size,{cls:=.type "list",data:=.seq us.toArray k})] (B2 src σ) U s3:=I3.pins_of λp D=>by
    rw[aG.mp D];exact⟨a9,L,by rw[eL];exact aK (cm _),A,λv z=>by cases z⟩
   have d:=T.done j eP ew eK ec i _ s3 (B2 src σ) U NoX a0 (w a5 (λp z=>by rw[aG.mp z])) a7 S;rw[eA]at d;refine thn d λr s4 ⟨hr,I4⟩=>?_;subst hr;have c9:=(I4.pin (s2.heap.objs.size,{cls:=.type "list",data:=.seq us.toArray k}) (aR _ ax)).1;rw[<-f]at I4;exact c0 s2 s4 H2 U fp a _ _ ys us k Z f2 I4 L c9 r3 hz (qn _ L)
  .have a0:Inv j [(s2.heap.objs.size,{cls:=.type "list",data:=.seq us.toArray k})] (B2 src σ) U s3:=I3.pins_of λp D=>by
    rw[aG.mp D];exact⟨a9,L,by rw[eL];exact aK (cm _),A,λv z=>by cases z⟩
   have d:=T.item j eP ew eK ec i _ s3 (B2 src σ) U NoX a0 (w a5 (λp z=>by rw[aG.mp z])) a7 go;rw[eA]at d;refine thn d λr s4 ⟨u,hr,d3⟩=>?_;subst hr;refine thn d3 λ_ s5 ⟨x,H5,I5,r5,y5,a8,d2⟩=>?_;have c8:=I5.pinned (w d2 (λp z=>by rw[aG.mp z])) (T.obj _ _ a8);have d5:PG j tg g:=by rw[<-f];exact hg _ _ _ _ _
   have d7:PIf j K tt:=by rw[<-f];exact ht _ _ _ _ _
   have d4:PE j E te:=by rw[<-f];exact he _ _ _ _ _
   have a1:=d5 _ s5 _ H5 x u _ c8 r5 (step x H5 y5);rw[eP,ew,eA,a4]at a1;refine thn a1 λ_ s6 ⟨σ6,H6,I6,sb,q6⟩=>?_;have a2:=d7 _ s6 σ6 H6 _ I6 q6;rw[eP,ew,eA,a4]at a2;refine thn a2 λok s7 ⟨H7,I7,q7⟩=>?_;have O:∀{Y:Hp}{M:qC}{pl:qA (qE×Obj)},Inv j ([(s2.heap.objs.size,{cls:=.type "list",data:=.seq us.toArray k})]++a3e fp s5.heap) σ6 Y M ->
     Inv j [] (B2 src σ) Y M/\tn (i+1) M.heap/\(∀b∈fp,Y b=none)/\Y s2.heap.objs.size=none/\M.heap.get? s2.heap.objs.size=some {cls:=.type "list",data:=.seq us.toArray k}:=λ{Y M pl} I8=>by
    have p0:=I8.pin (s2.heap.objs.size,{cls:=.type "list",data:=.seq us.toArray k}) (aR _ (aQ _ ax));refine⟨(I8.pins_of (pins':=[]) λp D=>by cases D).weak sb.1 sb.2,T.keep _ _ _ a8 λb l o e=>(I8.pin (b,o) (aR _ (aR _ (W3 l e)))).1,λb l=>?_,p0.2.1,p0.1⟩;obtain⟨o,e,_⟩:=T.obj _ _ a8 b l;exact(I8.pin (b,o) (aR _ (aR _ (W3 l e)))).2.1
   cases ok with
   |false =>
    obtain⟨m',hm,w7⟩:=hN _ _ q7;obtain⟨b1,b2,b3,b4,b5⟩:=O (pl:=[]) I7;exact⟨m',hm,i+1,H7,ys,us,k,b1,b2,b3,b4,b5,r3,w7⟩
   |true =>
    have a3:=d4 _ s7 σ6 H7 _ I7 q7;rw[eP,ew,eA,a4]at a3;refine thn a3 λy M ⟨vy,Y,I8,ry,n8⟩=>?_;obtain⟨m',hm,w8⟩:=hN _ _ n8;obtain⟨b1,b2,b3,b4,b5⟩:=O (pl:=[]) I8;refine eJ F.slot_list_append ⟨_,b5,rfl⟩ F.entry_list_append (F.args_list_append_2 _ _) (PySem.list_append s2.heap.objs.size us.toArray k y (by rw[aE,<-r3.length];omega)) ⟨b5,?_⟩;have q:=PySem.IsL.update b5 (λxs=>xs.push y);rw[show us.toArray.push y=(us++[y]).toArray by simp]at q;have nb:∀b o,b≠s2.heap.objs.size->M.heap.get? b=some o->(M.heap.update s2.heap.objs.size (Obj.mapSeq λxs=>xs.push y)).get? b=some o:=λb o l e =>
     (fG M.heap _ (dq l)).trans e
    refine⟨m',hm,i+1,Y,ys++[vy],us++[y],_,?_,?_,b3,b4,q,r3.append (.cons ry .nil),w8⟩
    .exact b1.turned nb b4 (by rw[eL];exact aK (cm _)) (.inr (by rw[d1];exact ak _)) cne λp D=>by rw[b7]at D;cases D
    .exact T.keep _ _ _ b2 λb l o e=>nb b o (R b l) e
 have m:=c3 _ rfl;rw[ee]at m;exact codeAny_compStart_list m (T.self _ 0 _ _ _ c6 m)
def a4p(a:a5r scope=true):scope.kind=.function/\∀x∈scope.names,scope.names.lookup x.1=some x.2:=by
 unfold a5r at a;rw[aO]at a;exact⟨by simpa using a.1,λx b=>by simpa using aS.mp a.2 x b⟩
def Inv.clos(I:Inv X qK σ H s)(a:B9 scope X.env.scope=true):closureFor scope X.env=pure (a2s scope X.env):=b4c λx d c=>by
 have q:=aS.mp a x d;rw[c]at q;have b:(X.env.scope.names.lookup x.1==some .cell || X.env.scope.names.lookup x.1==some .free)=true:=by simpa using q
 rw[Bool.or_eq_true]at b;exact I.ok.has x.1 (b.imp (λz=>a_.mp z) λz=>a_.mp z)
def b5u{tg b e:Expr}{j:qA Expr}{u:TI}{t:TT}(y:X.calm=true)(hi:PI X tg b u)
  (c:B9 scope X.env.scope=true) (f:M3 N src X.N scope=true) (i:a5r scope=true)
  (A:∀a C s H ex,PG (X.blk N scope a C s H ex) tg g) (D:∀a C s H ex,PIf (X.blk N scope a C s H ex) j t) (z:∀a C s H ex,PE (X.blk N scope a C s H ex) e te)
  (hs:∀x,foldedSetIterable b X.env x=pure x:=by intro _;rfl):PE X (.ListComp e [⟨tg,b,j,0⟩] scope pos) (a6d src u g t te):=by
 intro qK s σ H Q I h;obtain⟨d,n⟩:=a4p i;rw[eval_ListComp];refine wpAny_comprehension_free (use:=none) rfl hs (I.clos c) d (λx E B=>by rw[<-B];exact n x E) (a4L (RR:=compPost (model X.prog X.w) X.A X.xe none (EP X qK σ Q)) y hi c f i A D z I h ?_);intro s2 L H2 J fp a K σ4 ys M k v f2 r p l G F q;obtain⟨m,o,_⟩:=r.loc;exact⟨m,o,λh' w=>⟨.ref s2.heap.objs.size,_,Inv.unblock v f2 (ed _) (ak _) (aK (cm _)) r p l G F w,rfl,q⟩⟩
def b5b{y:Str}{u r:Pos}{tg f j:Expr}{l:qA Expr}{wi:TI}{tt:TT}
  (hN:X.N.Nodup) (hy:X.N[i]?=some y) (Y:Loc X.env.scope y)
  (hc:X.calm=true) (hi:PI X tg f wi) (n:B9 scope X.env.scope=true) (B:M3 N src X.N scope=true) (F:a5r scope=true)
  (hg:∀d C s H ex,PG (X.blk N scope d C s H ex) tg g) (ht:∀d C s H ex,PIf (X.blk N scope d C s H ex) l tt) (S:∀d C s H ex,PE (X.blk N scope d C s H ex) j te)
  (W:swapsWith (.ListComp j [⟨tg,f,l,0⟩] scope pos) (some (.Name y u)) r.line X.env=pure true:=by rfl) (hs:∀x,foldedSetIterable f X.env x=pure x:=by intro _;rfl)
  (hf:X.fn y=true∨X.env.scope.names.lookup y=some .local:=by first|exact .inl rfl|exact .inr rfl|assumption) :
  PS X (.Assign [.Name y u] (.ListComp j [⟨tg,f,l,0⟩] scope pos) r) (a9S (a6d src wi g tt te) (B0 i)):=by
 intro qK s σ H D I h;obtain⟨t,T⟩:=a4p F;rw[exec_Assign_Name_used _ _ _ _ W];refine aa (wpAny_standAt (aa ?_));show wpAny _ X.A (do let _ <-comprehension (.ListComp j [⟨tg,f,l,0⟩] scope pos) scope X.env _ (newList []) false (eval f X.env) (some (assign (.Name y u) X.env))) _ _ s;refine aa (cH (wpAny_comprehension_free (use:=some (assign (.Name y u) X.env)) (Q:=λ_ s'=>SP X qK D .next s') rfl hs (I.clos n) t (λx Y hk=>by rw[<-hk];exact T x Y)
  (a4L (RR:=compPost (model X.prog X.w) X.A X.xe (some (assign (.Name y u) X.env)) (λ_ s'=>SP X qK D .next s')) hc hi n B F hg ht S I h ?_)) (λ_ s' hq=>ag (ag hq)) λ_ _ e=>e)
 intro s2 s4 H2 H4 fp d pl σ4 ys us k w f2 L Z M r4 hz q;obtain⟨m,V,_⟩:=L.loc;have E:s4.heap.Ns (s2.heap.objs.size+1) m:=V;have O:H4 (s2.heap.objs.size+1)=none:=L.free;have J:=Inv.unblock w f2 (ed _) (ak _) (aK (cm _)) L Z M r4 hz (Heap.SameBut.refl _ _);have K:s2.heap.objs.size+1≠X.env.locals:=cR (cc w.lt);have G:∀x c,X.env.cells.lookup x=some c->c≠s2.heap.objs.size+1:=λx c e=>by
  obtain⟨v,z⟩:=w.cell x c e;exact aK (cc z.lt)
 show wpAny _ X.A (assign (.Name y u) X.env (.ref s2.heap.objs.size)) _ _ s4;refine wpAny_assign_Name (a4k (v:=.ref s2.heap.objs.size) J hN hy Y rfl (λs' I' hb=>?_) hf);obtain⟨a,sb,P⟩:=hb;have A:s2.heap.objs.size+1≠a:=by
  rcases P with rfl|P
  .exact K
  .exact(G _ _ P).symm
 refine⟨m,E.sameBut sb A,λh' R=>⟨_,_,I'.turned (t':=s'.toks) (it:=s2.heap.objs.size+1) (λb o U e=>R.extBut b o U e) ?_ K (.inr (bh w.sz (ed _))) G λp hp=>?_,q⟩⟩
 .rw[A5 (cR (cm _))];exact O
 .exact aK (cc (aF (w.pin p hp).1))
def SqAt(k:Bool)(h:Heap)(l:qE)(xs:Array qB):Prop:=match k with|true=>h.IsTuple l xs|false=>h.IsList l xs
def ItAt(k:Bool)(h:Heap)(i l:qE)(n:Nat):Prop:=match k with|true=>h.IsTupleIter i l n|false=>h.IsListIter i l n
def b8A:Bool->String|true => "tuple_iterator" | false => "list_iterator"
def P5(k:Bool)(l:qE):Obj:={cls:=.type (b8A k),data:=.fields #[.ref l,.int 0 0]}
def ItAt.extBut{k:Bool}{h h':Heap}{i l b:qE}{n:Nat}(x:ItAt k h i l n)(hs:Heap.ExtBut b h h')(a:i≠b):ItAt k h' i l n:=by
 cases k
 .exact Heap.IsListIter.extBut x hs a
 .exact Heap.IsTupleIter.extBut x hs a
def ItAt.at{k:Bool}{h h':Heap}{i l:qE}{n:Nat}(x:ItAt k h i l n)(e:∀o,h.get? i=some o->h'.get? i=some o):ItAt k h' i l n:=by
 cases k
 .exact Heap.IsListIter.at x e
 .exact Heap.IsTupleIter.at x e
def ItAt.get{i:qE}(x:ItAt k h i l n):∃o,h.get? i=some o/\o.data=.fields #[.ref l,.int n 0]:=by
 cases k<;>obtain⟨o,e,c,d⟩:=x<;>exact⟨o,e,d⟩
def SqAt.extBut{k:Bool}{h h':Heap}{l b:qE}{xs:Array qB}(x:SqAt k h l xs)(hs:Heap.ExtBut b h h')(a:l≠b):SqAt k h' l xs:=by
 cases k
 .exact Heap.IsList.extBut x hs a
 .exact Heap.IsTuple.extBut x hs a
def SqAt.at{xs:Array qB}(x:SqAt k h l xs)(e:∀o,h.get? l=some o->h'.get? l=some o):SqAt k h' l xs:=by
 cases k<;>obtain⟨o,q,r⟩:=x<;>exact⟨o,e o q,r⟩
def SqAt.get{xs:Array qB}(x:SqAt k h l xs):∃o,h.get? l=some o:=by
 cases k<;>obtain⟨o,q,r⟩:=x<;>exact⟨o,q⟩
def a2l{t:qE}{x:qB}(a:s.heap.IsTupleIter it t i)(g:s.heap.IsTuple t items)(h:items[i]?=some x)
  (e:∀h',h'.IsTupleIter it t (i+1)->Heap.SameBut it s.heap h'->Q x {s with heap:=h'}):wpAny (model prog w) A (Builtin.SmallTypes.nextOf (.ref it)) Q E s:=by
 obtain⟨o,b,f,hd⟩:=id a;obtain⟨k,d,_,j,c⟩:=g;unfold Builtin.SmallTypes.nextOf;refine aa (bH (name:=Str.ofString "__next__") a.typeIs dJ
  (bI dJ a.typeIs F.entry_tuple_iterator_next ?_ (F.args_tuple_iterator_next_1 _)))
 show wpAny _ _ (field (.ref it) 0>>=_) _ _ s;refine aa (bW b hd (x:=.ref t) rfl ?_);show wpAny _ _ (if (Value.ref t==Value.none)=true then _ else _) _ _ s;rw[ao (show ¬((Value.ref t==Value.none)=true)from aY)];show wpAny _ _ (field (.ref it) 1>>=_) _ _ s;refine aa (bW b hd (x:=.int i 0) rfl ?_);show wpAny _ _ (seqItems? (.ref t)>>=_) _ _ s;refine aa (cL d c ?_);simp only[bz,h];refine aa (dQ b hd (by simp) (ag ⟨x,rfl,ag (e _ ?_ (cD ..))⟩));exact⟨_,cQ _ b (eD (cS hd _)),(fz ..).trans f,by
  rw[cS hd];simp[rawInt]⟩
def a3l{t:qE}(g:A.handled=none)(b:s.heap.IsTupleIter it t i)(j:s.heap.IsTuple t items)(k:items[i]?=none)
  (h:∀h' e,Heap.ExtBut it s.heap h'->(∃o,h'.get? e=some o/\o.cls=.type "StopIteration")->E (.ref e) {s with heap:=h'}) :
  wpAny (model prog w) A (Builtin.SmallTypes.nextOf (.ref it)) Q E s:=by
 obtain⟨o,d,l,hd⟩:=id b;obtain⟨p,f,_,n,c⟩:=j;unfold Builtin.SmallTypes.nextOf;refine aa (bH (name:=Str.ofString "__next__") b.typeIs dJ
  (bI dJ b.typeIs F.entry_tuple_iterator_next ?_ (F.args_tuple_iterator_next_1 _)))
 show wpAny _ _ (field (.ref it) 0>>=_) _ _ s;refine aa (bW d hd (x:=.ref t) rfl ?_);show wpAny _ _ (if (Value.ref t==Value.none)=true then _ else _) _ _ s;rw[ao (show ¬((Value.ref t==Value.none)=true)from aY)];show wpAny _ _ (field (.ref it) 1>>=_) _ _ s;refine aa (bW d hd (x:=.int i 0) rfl ?_);show wpAny _ _ (seqItems? (.ref t)>>=_) _ _ s;refine aa (cL f c ?_);simp only[bz,k];refine aa (eH (aa (dQ d hd (by simp) ?_)));show wpAny _ _ (newExc (.type "StopIteration") []>>=_) _ _ _;refine aa ?_;simp only[newExc,newTuple];refine aa (bU ?_ (by size_fits));refine aa (m:=firstArgMember _ _) (wpAny_of_eq (a:=Value.none) (by first|rfl | (simp only[firstArgMember];rfl)) ?_);refine bU ?_ (by size_fits);simp only[raiseNew];refine aa (wpAny_handled ?_)
 first|rw[show A.in1.handled=none from g]|rw[g]
 refine aa (ag (wpAny_throw ?_));exact h _ _ (((cD ..).extBut.push _).push _) ⟨_,aC _ rfl,rfl⟩
def a0Z{x:qB}(a:ItAt k s.heap it l i)(c:SqAt k s.heap l items)(d:items[i]?=some x)
  (b:∀h',ItAt k h' it l (i+1)->Heap.SameBut it s.heap h'->Q x {s with heap:=h'}):wpAny (model prog w) A (Builtin.SmallTypes.nextOf (.ref it)) Q E s:=by
 cases k
 .exact wpAny_nextOf_list_item a c d b
 .exact a2l a c d b
def a5a(c:A.handled=none)(a:ItAt k s.heap it l i)(d:SqAt k s.heap l items)(f:items[i]?=none)
  (b:∀h' e,Heap.ExtBut it s.heap h'->(∃o,h'.get? e=some o/\o.cls=.type "StopIteration")->E (.ref e) {s with heap:=h'}) :
  wpAny (model prog w) A (Builtin.SmallTypes.nextOf (.ref it)) Q E s:=by
 cases k
 .exact wpAny_nextOf_list_end c a d f b
 .exact a3l c a d f b
def L7(b:SqAt k s.heap l items)(a:Q (.ref s.heap.objs.size) {s with heap:=s.heap.push (P5 k l)}):wpAny (model prog w) A (pyIter (.ref l)) Q E s:=by
 cases k
 .exact fu b a
 .exact wpAny_pyIter_tuple b a
section
variable {k1 k2:Bool}
def b1p{z TI TO g m:qE}{n1 p:Nat}{xs ys:Array qB}{x y a b:qB}(D:ZipApart z TI TO f g l m)
  (j:IsZip s.heap z TI TO .none) (u:IsPair s.heap TI (.ref f) (.ref g)) (B:IsPair s.heap TO a b)
  (h1:ItAt k1 s.heap f l n1) (h2:ItAt k2 s.heap g m p) (C:SqAt k1 s.heap l xs) (F:SqAt k2 s.heap m ys) (H:xs[n1]?=some x) (I:ys[p]?=some y)
  (G:∀h',IsZip h' z TI TO (rawInt s.heap.objs.size)->IsPair h' TO x y->ItAt k1 h' f l (n1+1)->ItAt k2 h' g m (p+1)->IsPair h' s.heap.objs.size x y->h'.objs.size=s.heap.objs.size+1 ->
   (∀c o,c≠z->c≠TO->c≠f->c≠g->s.heap.get? c=some o->h'.get? c=some o)->Q (.ref s.heap.objs.size) {s with heap:=h'}) :
  wpAny (model prog w) A (Builtin.«zip.__next__» ⟨[.ref z],[]⟩) (λfin s'=>∃v,fin=.done (.ret v)/\Q v s') E s:=by
 show wpAny _ _ (field (.ref z) 2>>=_) _ _ _;refine aa (bW j rfl (x:=.bool false) rfl ?_);show wpAny _ _ (field (.ref z) 3>>=_) _ _ _;refine aa (bW j rfl (x:=.ref TI) rfl ?_);refine aa (cL u rfl ?_);show wpAny _ _ (Builtin.SmallTypes.ownedTupleIsFree (.ref z)>>=_) _ _ _;refine aa ?_;unfold Builtin.SmallTypes.ownedTupleIsFree;refine aa (bW j rfl (x:=.none) rfl (ag ?_));simp only[fj];refine aa (eH ?_);refine aa (bW j rfl (x:=.ref TO) rfl ?_);refine aa (cn j (by simp) λh₁ hz₁ hs₁=>?_);replace hz₁:IsZip h₁ z TI TO .ellipsis:=hz₁;refine aa ?_;simp only[List.zipIdx_cons,List.zipIdx_nil,List.forIn_cons,List.forIn_nil];refine aa (aa (wpAny_onRaise ?_));show wpAny _ _ (Builtin.SmallTypes.nextOf (.ref f)>>=_) _ _ _;refine aa (a0Z (h1.extBut hs₁.extBut D.i1z) (C.extBut hs₁.extBut D.l1z) H λh₂ h1₂ hs₂=>ag ?_);have hTO₂:IsPair h₂ TO a b:=hs₂.extBut _ _ D.TOi1 (hs₁.extBut _ _ D.TOz B);refine aa (cL hTO₂ rfl ?_);refine aa (fQ hTO₂ λh₃ hTO₃ hs₃=>?_);replace hTO₃:IsPair h₃ TO x b:=hTO₃;refine aa (wpAny_letGo (ag ?_));refine aa (aa (wpAny_onRaise ?_));show wpAny _ _ (Builtin.SmallTypes.nextOf (.ref g)>>=_) _ _ _;refine aa (a0Z (((h2.extBut hs₁.extBut D.i2z).extBut hs₂.extBut D.i12.symm).extBut hs₃.extBut D.TOi2.symm)
  (((F.extBut hs₁.extBut D.l2z).extBut hs₂.extBut D.l2i1).extBut hs₃.extBut D.l2TO) I λh₄ h2₄ hs₄=>ag ?_)
 have hTO₄:IsPair h₄ TO x b:=hs₄.extBut _ _ D.TOi2 hTO₃;refine aa (cL hTO₄ rfl ?_);refine aa (fQ hTO₄ λh₅ hTO₅ hs₅=>?_);replace hTO₅:IsPair h₅ TO x y:=hTO₅;refine aa (wpAny_letGo (ag (ag ?_)));refine aa (cL hTO₅ rfl ?_);refine aa (wpAny_newTuple ?_);have i:h₅.objs.size=s.heap.objs.size:=by rw[hs₅.1,hs₄.1,hs₃.1,hs₂.1,hs₁.1]
 have hz₅:IsZip h₅ z TI TO .ellipsis:=hs₅.extBut _ _ D.TOz.symm (hs₄.extBut _ _ D.i2z.symm (hs₃.extBut _ _ D.TOz.symm (hs₂.extBut _ _ D.i1z.symm hz₁)));have hk₅:∀c o,c≠z->c≠TO->c≠f->c≠g->s.heap.get? c=some o->h₅.get? c=some o:=λc o h n r t e =>
  hs₅.extBut _ _ n (hs₄.extBut _ _ t (hs₃.extBut _ _ n (hs₂.extBut _ _ r (hs₁.extBut _ _ h e))))
 have h1₅:ItAt k1 h₅ f l (n1+1):=((h1₂.extBut hs₃.extBut D.TOi1.symm).extBut hs₄.extBut D.i12).extBut hs₅.extBut D.TOi1.symm;have h2₅:ItAt k2 h₅ g m (p+1):=h2₄.extBut hs₅.extBut D.TOi2.symm;have d:z<h₅.objs.size:=aF hz₅;show wpAny _ _ (Builtin.SmallTypes.ownedTupleHandOut (.ref z) (.ref h₅.objs.size)>>=_) _ _ _;refine aa ?_;unfold Builtin.SmallTypes.ownedTupleHandOut;have hz₆:IsZip (h₅.push {cls:=.type "tuple",data:=.seq #[x,y]}) z TI TO .ellipsis:=ae _ hz₅;refine aa (cn hz₆ (by simp) λh₇ hz₇ hs₇=>?_);replace hz₇:IsZip h₇ z TI TO (rawInt h₅.objs.size):=hz₇;refine cn hz₇ (by simp) λh₈ hz₈ hs₈=>?_;replace hz₈:IsZip h₈ z TI TO (rawInt h₅.objs.size):=hz₈;have q:∀c o,c≠z->h₅.get? c=some o->h₈.get? c=some o:=λc o h e=>hs₈.extBut _ _ h (hs₇.extBut _ _ h (ae _ e));have hT₈:IsPair h₈ h₅.objs.size x y:=hs₈.extBut _ _ (cR d) (hs₇.extBut _ _ (cR d) (aC _ rfl));have k:h₈.objs.size=h₅.objs.size+1:=by rw[hs₈.1,hs₇.1,br]
 rw[i]at hz₈ hT₈ k;refine ag ⟨_,rfl,?_⟩;show Q (.ref h₅.objs.size) _;rw[i];exact G h₈ hz₈ (q _ _ D.TOz hTO₅) (h1₅.at λo e=>q _ o D.i1z e) (h2₅.at λo e=>q _ o D.i2z e) hT₈ k λc o h n r t e=>q c o h (hk₅ c o h n r t e)
def b4t{z TI TO m n y B:qE}{n1 C:Nat}{xs ys:Array qB}{a b:qB}{Q:Fin->qC->Prop}(H:A.handled=none)(D:ZipApart z TI TO m n y B)
  (l:IsZip s.heap z TI TO .none) (q:IsPair s.heap TI (.ref m) (.ref n)) (r:IsPair s.heap TO a b)
  (h1:ItAt k1 s.heap m y n1) (h2:ItAt k2 s.heap n B C) (k:SqAt k1 s.heap y xs) (u:SqAt k2 s.heap B ys) (j:xs[n1]?=none∨ys[C]?=none)
  (G:∀h' e,(∀c o,c≠z->c≠TO->c≠m->c≠n->s.heap.get? c=some o->h'.get? c=some o)->(∃o,h'.get? e=some o/\o.cls=.type "StopIteration")->E (.ref e) {s with heap:=h'}) :
  wpAny (model prog w) A (Builtin.«zip.__next__» ⟨[.ref z],[]⟩) Q E s:=by
 show wpAny _ _ (field (.ref z) 2>>=_) _ _ _;refine aa (bW l rfl (x:=.bool false) rfl ?_);show wpAny _ _ (field (.ref z) 3>>=_) _ _ _;refine aa (bW l rfl (x:=.ref TI) rfl ?_);refine aa (cL q rfl ?_);show wpAny _ _ (Builtin.SmallTypes.ownedTupleIsFree (.ref z)>>=_) _ _ _;refine aa ?_;unfold Builtin.SmallTypes.ownedTupleIsFree;refine aa (bW l rfl (x:=.none) rfl (ag ?_));simp only[fj];refine aa (eH ?_);refine aa (bW l rfl (x:=.ref TO) rfl ?_);refine aa (cn l (by simp) λh₁ hz₁ hs₁=>?_);replace hz₁:IsZip h₁ z TI TO .ellipsis:=hz₁;refine aa ?_;simp only[List.zipIdx_cons,List.zipIdx_nil,List.forIn_cons,List.forIn_nil];refine aa (aa (wpAny_onRaise ?_));show wpAny _ _ (Builtin.SmallTypes.nextOf (.ref m)>>=_) _ _ _;cases v:xs[n1]? with
 |none =>
  refine aa (a5a H (h1.extBut hs₁.extBut D.i1z) (k.extBut hs₁.extBut D.l1z) v λh₂ e hs₂ t=>?_);obtain⟨F,d,f⟩:=t;have hz₂:IsZip h₂ z TI TO .ellipsis:=hs₂ _ _ D.i1z.symm hz₁;have g:e≠z:=λx=>by subst x;rw[hz₂]at d;cases d;simp at f
  refine cn hz₂ (by simp) λh₃ _ hs₃=>G h₃ e (λc o i _ p _ x=>hs₃.extBut _ _ i (hs₂ _ _ p (hs₁.extBut _ _ i x))) ⟨F,hs₃.extBut _ _ g d,f⟩
 |some x =>
  have K:ys[C]?=none:=by rcases j with h|h;rw[v]at h;cases h;exact h
  refine aa (a0Z (h1.extBut hs₁.extBut D.i1z) (k.extBut hs₁.extBut D.l1z) v λh₂ h1₂ hs₂=>ag ?_);have hTO₂:IsPair h₂ TO a b:=hs₂.extBut _ _ D.TOi1 (hs₁.extBut _ _ D.TOz r);refine aa (cL hTO₂ rfl ?_);refine aa (fQ hTO₂ λh₃ hTO₃ hs₃=>?_);refine aa (wpAny_letGo (ag ?_));refine aa (aa (wpAny_onRaise ?_));show wpAny _ _ (Builtin.SmallTypes.nextOf (.ref n)>>=_) _ _ _;refine aa (a5a H (((h2.extBut hs₁.extBut D.i2z).extBut hs₂.extBut D.i12.symm).extBut hs₃.extBut D.TOi2.symm)
   (((u.extBut hs₁.extBut D.l2z).extBut hs₂.extBut D.l2i1).extBut hs₃.extBut D.l2TO) K λh₄ e hs₄ t=>?_)
  obtain⟨F,d,f⟩:=t;have hz₄:IsZip h₄ z TI TO .ellipsis:=hs₄ _ _ D.i2z.symm (hs₃.extBut _ _ D.TOz.symm (hs₂.extBut _ _ D.i1z.symm hz₁));have g:e≠z:=λx=>by subst x;rw[hz₄]at d;cases d;simp at f
  refine cn hz₄ (by simp) λh₅ _ hs₅=>G h₅ e (λc o i I p J x=>hs₅.extBut _ _ i (hs₄ _ _ J (hs₃.extBut _ _ I (hs₂.extBut _ _ p (hs₁.extBut _ _ i x))))) ⟨F,hs₅.extBut _ _ g d,f⟩
abbrev zH1(k1:Bool)(h:Heap)(l1:qE):Heap:=h.push (P5 k1 l1)
abbrev zH2(k1 k2:Bool)(h:Heap)(l1 l2:qE):Heap:=(zH1 k1 h l1).push (P5 k2 l2)
abbrev zH3(k1 k2:Bool)(h:Heap)(l1 l2:qE):Heap:=(zH2 k1 k2 h l1 l2).push {cls:=.type "tuple",data:=.seq #[.ref h.objs.size,.ref (zH1 k1 h l1).objs.size]}
abbrev zH4(k1 k2:Bool)(h:Heap)(l1 l2:qE):Heap:=(zH3 k1 k2 h l1 l2).push {cls:=.type "tuple",data:=.seq #[.none,.none]}
abbrev zH5(k1 k2:Bool)(h:Heap)(l1 l2:qE):Heap:=(zH4 k1 k2 h l1 l2).push {cls:=.type "zip",data:=.fields #[.none,.bool false,.bool false,.ref (zH2 k1 k2 h l1 l2).objs.size,.ref (zH3 k1 k2 h l1 l2).objs.size]}
def b4r(a b:qE)(xs ys:Array qB) :
  Meets (Builtin.«zip.__new__» ⟨[.type "zip",.ref a,.ref b],[]⟩) (λ_ R s=>SqAt k1 s.heap a xs/\SqAt k2 s.heap b ys /\
   R (.ok (.ret (.ref (zH4 k1 k2 s.heap a b).objs.size))) {s with heap:=zH5 k1 k2 s.heap a b}) :=
 .of_wp λprog w A R s h=>by
  obtain⟨k,g,d,tk,os⟩:=s;obtain⟨i,j,h⟩:=h;have l:=sub_zip;have c:SqAt k1 (Shared.heap ⟨k,g,d,tk,os⟩) a xs:=i;have f:SqAt k2 (Shared.heap ⟨k.push (P5 k1 a),g,d,tk,os⟩) b ys:=j.at λo e=>ae _ e
  wp_walk using L7 c,L7 f
  exact⟨_,rfl,h⟩
def b1r{xs ys:Array qB}(e:SqAt k1 s.heap a xs)(f:SqAt k2 s.heap b ys)
  (h:∀h',IsZip h' (s.heap.objs.size+4) (s.heap.objs.size+2) (s.heap.objs.size+3) .none->IsPair h' (s.heap.objs.size+2) (.ref s.heap.objs.size) (.ref (s.heap.objs.size+1)) ->
   IsPair h' (s.heap.objs.size+3) .none .none->ItAt k1 h' s.heap.objs.size a 0->ItAt k2 h' (s.heap.objs.size+1) b 0->h'.objs.size=s.heap.objs.size+5 ->
   (∀c o,s.heap.get? c=some o->h'.get? c=some o)->Q (.ref (s.heap.objs.size+4)) {s with heap:=h'}) :
  wpAny (model prog w) A (call (.type "zip") [.ref a,.ref b]) Q E s:=by
 refine callType_new F.called_zip (by decide) (F.typeCall_zip_2 _ _) (F.newCall_zip_2 _ _) (λobj=>F.args_object_init_3 obj _ _) F.entry_zip_new
  (b4r (k1:=k1) (k2:=k2) a b xs ys) ⟨e,f,?_⟩
 have g:(zH1 k1 s.heap a).objs.size=s.heap.objs.size+1:=br ..;have i:(zH2 k1 k2 s.heap a b).objs.size=s.heap.objs.size+2:=by rw[br,g]
 have j:(zH3 k1 k2 s.heap a b).objs.size=s.heap.objs.size+3:=by rw[br,i]
 have k:(zH4 k1 k2 s.heap a b).objs.size=s.heap.objs.size+4:=by rw[br,j]
 have q:(zH5 k1 k2 s.heap a b).objs.size=s.heap.objs.size+5:=by rw[br,k]
 have d:(zH5 k1 k2 s.heap a b).get? (zH4 k1 k2 s.heap a b).objs.size=some _:=aC _ rfl;have n:(zH5 k1 k2 s.heap a b).get? (zH3 k1 k2 s.heap a b).objs.size=some _:=ae _ (aC _ rfl);have m:(zH5 k1 k2 s.heap a b).get? (zH2 k1 k2 s.heap a b).objs.size=some _:=ae _ (ae _ (aC _ rfl));have l:(zH5 k1 k2 s.heap a b).get? (zH1 k1 s.heap a).objs.size=some (P5 k2 b):=ae _ (ae _ (ae _ (aC _ rfl)));have p:(zH5 k1 k2 s.heap a b).get? s.heap.objs.size=some (P5 k1 a):=ae _ (ae _ (ae _ (ae _ (aC _ rfl))));show _/\_;rw[i,j,k]at d;rw[g,i]at m;rw[j]at n;rw[g]at l;rw[k];refine⟨⟨_,d,rfl⟩,h _ d m n ?_ ?_ q λc o x =>
  ae _ (ae _ (ae _ (ae _ (ae _ x))))⟩
 .cases k1<;>exact⟨_,p,rfl,rfl⟩
 .cases k2<;>exact⟨_,l,rfl,rfl⟩
end
def SqK(k:Bool)(K:qF)(H:Hp)(a:qE)(xs:qA V):Prop:=match k with|true=>SqT K H a xs|false=>SqL K H a xs
def Inv.sqk(I:Inv X qK σ H s)(h:SqK k X.K H a xs):∃its:qA qB,Vals xs its/\SqAt k s.heap a its.toArray/\xs.length<=sizeLine:=by
 cases k
 .obtain⟨its,r,p,z⟩:=I.list h;exact⟨its,r,p.isList,z⟩
 .obtain⟨its,r,p,z⟩:=I.tuple h;exact⟨its,r,p,z⟩
def Inv.sqk_inj{ys:qA V}(I:Inv X qK σ H s)(h:SqK k X.K H a xs)(h':SqK k X.K H a ys):xs=ys:=by
 cases k
 .exact I.list_inj h h'
 .exact I.tuple_inj h h'
def Itz(K:qF)(k1 k2:Bool)(a b:qE):It :=
 ⟨λi H=>∃xs ys x y,SqK k1 K H a xs/\SqK k2 K H b ys/\xs[i]?=some x/\ys[i]?=some y,
  λi H v H'=>∃p x y,v=.ref p/\H p=none/\H'=upd H p (.tup [x,y])/\(∀xs,SqK k1 K H a xs->xs[i]?=some x)/\∀ys,SqK k2 K H b ys->ys[i]?=some y,
  λi H=>∃xs ys,SqK k1 K H a xs/\SqK k2 K H b ys/\(xs.length<=i∨ys.length<=i)⟩
structure ZTurn(k1 k2:Bool)(z TI TO i1 i2 a b:qE)(i:Nat)(f0:qB)(h:Heap):Prop where
 zz:IsZip h z TI TO f0
 ti:IsPair h TI (.ref i1) (.ref i2)
 to:∃u v,IsPair h TO u v
 t1:ItAt k1 h i1 a i
 t2:ItAt k2 h i2 b i
structure ZNe(z TI TO i1 i2:qE):Prop where
 TIz:TI≠z
 TOz:TO≠z
 i1z:i1≠z
 i2z:i2≠z
 TITO:TI≠TO
 TIi1:TI≠i1
 TIi2:TI≠i2
 TOi1:TO≠i1
 TOi2:TO≠i2
 i12:i1≠i2
def Inv.turnedT{ch:qA qE}{p:qE}{o:HO}(I:Inv X qK σ H s)(h:∀b∈ch,a1T X qK H b)(hp:s.heap.objs.size=p)(k:∀b o,b∉ch->s.heap.get? b=some o->h'.get? b=some o)
  (new:ObjOk X.prog X.w (upd H p o) h' p o):Inv X qK σ (upd H p o) {s with heap:=h'}:=by
 have l:H p=none:=I.hok.fresh (Nat.le_of_eq hp);have f:∀b u,H b=some u->b∉ch:=λb u e z=>by rw[(h b z).1]at e;cases e
 have a:∀b u,H b=some u->b≠p:=λb u e z=>by rw[z,l]at e;cases e
 have i:∀b u,s.heap.get? b=some u->b≠p:=λb u e=>by
  rw[<-hp];exact aK (aF e)
 refine I.step (g':=s.gens) (d':=s.drawn) (t':=s.toks) (ch:=ch) (λb g=>?_) (λb o _ _ d e _=>k b o d e) (λb o _ _ d e _=>⟨o.slots,k b o d e⟩) (λb u _ e n=>by rw[A5 (i b u e)];exact n)
  (λb o d e=>⟨o,k b o d e⟩) (λb xs e=>by rw[A5 (a b _ e)];exact e) (λb u v e=>by rw[A5 (a b _ e)];exact e) (λb ps e=>⟨#[],by rw[A5 (a b _ e),e];simp⟩) (λm j=>?_) (λb u e=>?_) I.bare
 .obtain⟨_,h1,_,h3,h4,h5⟩:=h b g;exact⟨h3,h1,h4,h5⟩
 .obtain⟨o,es,ep,ho,r⟩:=j;exact⟨o,es,ep,k _ o (λz=>(h _ z).2.1 rfl) ho,r⟩
 .by_cases g:b=p
  .subst g;rw[A0]at e;cases e;exact new
  .rw[A5 g]at e;refine(I.hok b u e).stay (λc v d q=>k c v ?_ q) (λc q=>by rw[A5 (a c _ q)];exact q) λc xs q=>by rw[A5 (a c _ q)];exact q
   rcases d with z|z
   .rw[z];exact f b u e
   .exact f c _ z
def Inv.turnedL{ch:qA qE}(I:Inv X qK σ H s)(f:∀b∈ch,a1T X qK H b)(k:∀b o,b∉ch->s.heap.get? b=some o->h'.get? b=some o):Inv X qK σ H {s with heap:=h'}:=by
 have d:∀b u,H b=some u->b∉ch:=λb u e z=>by rw[(f b z).1]at e;cases e
 refine I.step (g':=s.gens) (d':=s.drawn) (t':=s.toks) (ch:=ch) (λb g=>?_) (λb o _ _ a e _=>k b o a e) (λb o _ _ a e _=>⟨o.slots,k b o a e⟩) (λb u _ e n=>n)
  (λb o a e=>⟨o,k b o a e⟩) (λb xs e=>e) (λb u v e=>e) (λb ps e=>⟨#[],by rw[e];simp⟩) (λm h=>?_) (λb u e=>?_) I.bare
 .obtain⟨_,h1,_,h3,h4,h5⟩:=f b g;exact⟨h3,h1,h4,h5⟩
 .obtain⟨o,es,ep,ho,r⟩:=h;exact⟨o,es,ep,k _ o (λz=>(f _ z).2.1 rfl) ho,r⟩
 .refine(I.hok b u e).stay (λc v a q=>k c v ?_ q) (λc q=>q) λc xs q=>q;rcases a with z|z
  .rw[z];exact d b u e
  .exact d c _ z
def Inv.apart{o:Obj}(I:Inv X qK σ H s)(hs:SqK k X.K H a xs)(h:a1T X qK H b):a≠b:=by
 rintro rfl;have c:∀{u:HO},Rd H a u->False:=λr=>by
  rcases r with r|⟨o,r⟩<;>rw[h.1]at r<;>cases r
 have d:∀{f:Obj},X.K.lookup a=some f->False:=λe=>by
  have g:=I.mod.kin a _ e;rcases h.2.2.2.1 with z|z
  .exact I.ok.noex _ _ g z
  .exact absurd (aJ (aF (I.ok.bs _ _ g).1) z) (bN _)
 cases k
 .rcases hs with r|⟨f,_,_,e,_⟩
  .exact c r
  .exact d e
 .rcases hs with r|⟨f,_,_,e,_⟩
  .exact c r
  .exact d e
def b1B{kt:Nat}{tp:Pos}{k1 k2:Bool}{z TI TO j:qE}(D:ZNe z TI TO j l) :
  Turn P w K (.Tuple es kt tp) (Itz K k1 k2 a b) [z,TI,TO,j,l] z (λi h=>ZTurn k1 k2 z TI TO j l a b i .none h) where
 mem:=by simp
 obj:=λi h st c f=>by
  simp only[aA,bA,cI]at f;rcases f with rfl|rfl|rfl|rfl|rfl
  .exact⟨_,st.zz,λv z=>by cases z⟩
  .exact⟨_,st.ti,λv z=>by cases z⟩
  .obtain⟨u,v,q⟩:=st.to;exact⟨_,q,λv z=>by cases z⟩
  .obtain⟨o,e,d⟩:=st.t1.get;exact⟨o,e,λv z=>by rw[d]at z;cases z⟩
  .obtain⟨o,e,d⟩:=st.t2.get;exact⟨o,e,λv z=>by rw[d]at z;cases z⟩
 keep:=λi h h' st k=>⟨k z (by simp) _ st.zz,k TI (by simp) _ st.ti,let ⟨u,v,q⟩:=st.to;⟨u,v,k TO (by simp) _ q⟩,st.t1.at λo e=>k j (by simp) o e,st.t2.at λo e=>k l (by simp) o e⟩
 item:=by
  intro X N hw M f i qK s σ H E I t st O;subst N hw M;obtain⟨xs,ys,x,y,n,p,hx,hy⟩:=O;obtain⟨us,Y,V,zu⟩:=I.sqk n;obtain⟨ws,C,W,zw⟩:=I.sqk p;obtain⟨u,hu,Z⟩:=Y.get hx;obtain⟨v,hv,a0⟩:=C.get hy;have g:∀c∈[z,TI,TO,j,l],a≠c/\b≠c:=λc f=>⟨I.apart (o:=default) n (t c f),I.apart (o:=default) p (t c f)⟩;have L:ZipApart z TI TO j l a b:=⟨D.TIz,D.TOz,D.i1z,D.i2z,D.TITO,D.TIi1,D.TIi2,D.TOi1,D.TOi2,D.i12,(g z (by simp)).1,(g TO (by simp)).1,(g j (by simp)).1,(g l (by simp)).1,(g z (by simp)).2,(g TO (by simp)).2,(g j (by simp)).2,(g l (by simp)).2⟩;obtain⟨ua,ub,r⟩:=st.to;have G:s.TypeIs (.ref z) "zip":=⟨_,st.zz,rfl⟩;unfold pyNext;refine aa (dv (bH (name:=Str.ofString "__next__") G fR
   (bI fR G F.entry_zip_next
    (b1p L st.zz st.ti r st.t1 st.t2 V W (x:=u) (y:=v) (by simpa using hu) (by simpa using hv) λh' a1 a2 a3 a4 a5 a6 a7=>ag ?_) (F.args_zip_next_1 _))))
  refine⟨_,rfl,?_⟩;refine wpAny_letOwnedTupleGo_zip (s:={s with heap:=h'}) a1 λh2 S m=>?_;have ne:∀c∈[z,TI,TO,j,l],c≠s.heap.objs.size:=λc f e=>by
   have:∃o,s.heap.get? c=some o:=by
    simp only[aA,bA,cI]at f;rcases f with rfl|rfl|rfl|rfl|rfl
    .exact⟨_,st.zz⟩
    .exact⟨_,st.ti⟩
    .exact⟨_,r⟩
    .obtain⟨o,e,d⟩:=st.t1.get;exact⟨o,e⟩
    .obtain⟨o,e,d⟩:=st.t2.get;exact⟨o,e⟩
   obtain⟨o,q⟩:=this;exact absurd (aF q) (by rw[e];exact bN _)
  have B:H s.heap.objs.size=none:=I.hok.fresh (ak _);have U:IsPair h2 s.heap.objs.size u v:=m.extBut _ _ (ne z (by simp)).symm a5;have kk:∀c o,c∉[z,TI,TO,j,l]->s.heap.get? c=some o->h2.get? c=some o:=λc o f e=>by
   simp only[aA,bA,cI,not_or]at f;exact m.extBut _ _ f.1 (a7 c o f.1 f.2.2.1 f.2.2.2.1 f.2.2.2.2 e)
  have I2:Inv X qK σ (upd H s.heap.objs.size (.tup [x,y])) {s with heap:=h2} :=
   I.turnedT (ch:=[z,TI,TO,j,l]) t rfl kk ⟨by show 2<=sizeLine;decide,[u,v],.cons Z (.cons a0 .nil),⟨_,U,rfl,0,rfl⟩⟩
  refine⟨.ref s.heap.objs.size,_,I2,rfl,⟨_,x,y,rfl,B,rfl,λzs R=>?_,λzs R=>?_⟩,⟨S,m.extBut _ _ D.TIz (a7 _ _ D.TIz D.TITO D.TIi1 D.TIi2 st.ti),⟨u,v,m.extBut _ _ D.TOz a2⟩,a3.extBut m.extBut D.i1z,a4.extBut m.extBut D.i2z⟩,λc f=>?_⟩
  .rw[I.sqk_inj R n];exact hx
  .rw[I.sqk_inj R p];exact hy
  .rw[A5 (ne c f)];exact(t c f).1
 done:=by
  intro X N hw M f i qK s σ H E I t st O;subst N hw M;obtain⟨xs,ys,n,p,J⟩:=O;obtain⟨us,Y,V,zu⟩:=I.sqk n;obtain⟨ws,C,W,zw⟩:=I.sqk p;have l1:=Y.length;have l2:=C.length;have g:∀c∈[z,TI,TO,j,l],a≠c/\b≠c:=λc f=>⟨I.apart (o:=default) n (t c f),I.apart (o:=default) p (t c f)⟩;have L:ZipApart z TI TO j l a b:=⟨D.TIz,D.TOz,D.i1z,D.i2z,D.TITO,D.TIi1,D.TIi2,D.TOi1,D.TOi2,D.i12,(g z (by simp)).1,(g TO (by simp)).1,(g j (by simp)).1,(g l (by simp)).1,(g z (by simp)).2,(g TO (by simp)).2,(g j (by simp)).2,(g l (by simp)).2⟩;obtain⟨ua,ub,r⟩:=st.to;have G:s.TypeIs (.ref z) "zip":=⟨_,st.zz,rfl⟩;unfold pyNext;refine aa (dv (bH (name:=Str.ofString "__next__") G fR
   (bI fR G F.entry_zip_next (b4t (I.ok.hd f) L st.zz st.ti r st.t1 st.t2 V W ?_ λh' e hk he=>?_) (F.args_zip_next_1 _))))
  .rcases J with q|q
   .exact .inl (by simp;omega)
   .exact .inr (by simp;omega)
  .obtain⟨o,ho,f⟩:=he;refine aa (eM (T:="StopIteration") (b:=true) ⟨o,ho,f⟩ isSubtype_stop ?_);refine ag ⟨rfl,I.turnedL (ch:=[z,TI,TO,j,l]) t λc o f e=>?_⟩;simp only[aA,bA,cI,not_or]at f;exact hk c o f.1 f.2.2.1 f.2.2.2.1 f.2.2.2.2 e
 self:=λA i s Q E st h=>wpAny_pyIter_zip st.zz h
def nne{a b:Nat}(h:a≠b):@Ne qE a b:=h
def zne(n:Nat):ZNe (n+4) (n+2) (n+3) n (n+1) :=
 ⟨nne (by omega),nne (by omega),nne (by omega),nne (by omega),nne (by omega),nne (by omega),nne (by omega),nne (by omega),nne (by omega),nne (by omega)⟩
def b8C(K:qF)(ta:TA):TI:=λσ H R=>ta σ H λvs H1=>∃k1 k2 a b,vs=[.ref a,.ref b]/\(∃xs,SqK k1 K H1 a xs)/\(∃ys,SqK k2 K H1 b ys)/\R (Itz K k1 k2 a b) H1
def b7E{u:Nat}{z:Pos}{a b:Expr}{ta:TA}{p:Pos}(m:Gl X "zip")(n:X.mg "zip"=none)(l:PA X [a,b] ta)(i:bootBuiltins "zip"=some (.type "zip"))
  (hs:starEach [a,b] X.env=[(false,eval a X.env),(false,eval b X.env)]:=by rfl) (g:starEach [b] X.env=[(false,eval b X.env)]:=by rfl) :
  PI X (.Tuple es u z) (.Call (.Name "zip" p) [a,b] [] pos) (b8C X.K ta):=by
 intro qK s σ H R I h;refine Call_ (a1D I m n i (dD (thn (l pos qK s σ H _ I h) λA s1 ⟨L,H1,d,x,q1⟩=>?_) (by rw[hs,g]) (by rw[g];rfl)));obtain⟨k1,k2,G,J,e,⟨xs,o⟩,⟨ys,t⟩,q⟩:=q1;subst e;cases x with
 |cons r rr =>
  cases rr with
  |cons r' rr =>
   cases rr;cases r;cases r';obtain⟨A,K,v,O⟩:=d.sqk o;obtain⟨M,y,w,P⟩:=d.sqk t;refine b1r v w λh' k B C D E N F=>?_;refine wpAny_pyIter_zip (s:={s1 with heap:=h'}) k ?_;refine⟨s1.heap.objs.size+4,[s1.heap.objs.size+4,s1.heap.objs.size+2,s1.heap.objs.size+3,s1.heap.objs.size,s1.heap.objs.size+1],_,_,H1,rfl,d.kept (t':=s1.toks) F,b1B (zne _),
    ⟨k,B,⟨_,_,C⟩,D,E⟩,λc j=>?_,q⟩
   have f:s1.heap.objs.size<=c:=by
    simp only[aA,bA,cI]at j;rcases j with rfl|rfl|rfl|rfl|rfl
    .exact b_ _ _
    .exact b_ _ _
    .exact b_ _ _
    .exact ak _
    .exact b_ _ _
   exact d.fpOk f (d.hok.fresh f)
def a2M{I:qE}(b:A.handled=none)(a:l≠I) :
  Walks prog w A I [I,l] [I] items.size (λi v=>items[i]?=some v) (λi h=>ItAt k h I l i/\SqAt k h l items):=by
 cases k
 .exact Walks.list b I l a items
 .exact Walks.tuple b I l a items
def trV:V->Bool
 |.bl b=>b
 |.int i=>i != 0
 |.non=>false
 |_=>true
def a4F:V->Bool
 |.bl _=>true
 |.int _=>true
 |.non=>true
 |_=>false
def a1W{x:V}{v:qB}{Q:Bool->qC->Prop}(r:RelV x v)(f:a4F x=true)(h:Q (trV x) s):wpAny (model prog w) A (truthy v) Q E s:=by
 cases x with
 |non=>cases r;exact truthy_none h
 |bl b=>cases r;exact dr h
 |int i=>obtain⟨t,rfl⟩:=r;exact PySem.P.truthy_int h
 |_=>cases f
def a4s(xs:qA α)(p:α->Bool)(d:α):(List.range xs.length).all (λi=>p (xs.getD i d))=xs.all p:=by
 rw[cz,aS,aS];constructor
 .intro h x hx;obtain⟨i,hi,rfl⟩:=bR.mp hx;have:=h i (bf.mpr hi);simpa[aq,hi]using this
 .intro h i hi;have a:=bf.mp hi;simpa[aq,a]using h xs[i] (cB a)
def b0e(xs:qA α)(p:α->Bool)(d:α):(List.range xs.length).any (λi=>p (xs.getD i d))=xs.any p:=by
 have:=a4s xs (λx=>!p x) d;rw[<-List.not_any_eq_all_not,<-List.not_any_eq_all_not]at this;simpa using this
def a9b(xs:qI):∀n,n<=xs.length->preSum (λi=>xs.getD i 0) n=(xs.take n).sum
 |0,_=>by simp[preSum]
 |n+1,h=>by
  have this:xs[n]?=some xs[n]:=aj (by omega);have e:xs.take (n+1)=xs.take n++[xs[n]]:=by rw[ba,this];rfl
  rw[preSum,a9b xs n (by omega),e,List.sum_append];simp[aq,this]
abbrev RL:=qA V->Hp->VK->Prop
def b7u(K:qF):RL:=λxs H Q=>∃(k:Bool) (p:qE) (ys:qA V),xs=[.ref p]/\SqK k K H p ys/\ys.all a4F=true/\Q (.bl (ys.all trV)) H
def b7t(K:qF):RL:=λxs H Q=>∃(k:Bool) (p:qE) (ys:qA V),xs=[.ref p]/\SqK k K H p ys/\ys.all a4F=true/\Q (.bl (ys.any trV)) H
def b7q(K:qF):RL:=λxs H Q=>∃(k:Bool) (p:qE) (ns:qI),xs=[.ref p]/\SqK k K H p (ns.map V.int)/\Q (.int ns.sum) H
def a7W(h:SqAt k s.heap l items):ItAt k (s.heap.push (P5 k l)) s.heap.objs.size l 0/\SqAt k (s.heap.push (P5 k l)) l items:=by
 refine⟨?_,h.at λo e=>ae _ e⟩;cases k<;>exact⟨_,aC _ rfl,rfl,rfl⟩
def a3s(h:SqAt k s.heap l items):l≠s.heap.objs.size:=by
 obtain⟨o,e⟩:=h.get;exact aK (aF e)
def a3w{c:Obj}(a:∀b o,b∉[s.heap.objs.size]->(s.heap.push c).get? b=some o->h'.get? b=some o):∀b o,s.heap.get? b=some o->h'.get? b=some o:=λb o e =>
 a b o (λz=>by have:=aF e;rw[aG.mp z]at this;exact bN _ this) (ae _ e)
def b4i(m:X.calm=true):D0 X (.builtin "all") (b7u X.K):=by
 intro qK s σ H xs y Q I w h;obtain⟨k,p,ys,rfl,hs,n,q⟩:=h;obtain⟨u,rfl,t⟩:=w.one;cases t;obtain⟨its,c,d,x⟩:=I.sqk hs;have o:X.A.in1.handled=none:=I.ok.hd m;refine call_all_walk (L7 d ?_);refine⟨s.heap.objs.size,_,_,_,_,_,λi=>trV (ys.getD i .non),rfl,a2M (k:=k) (l:=p) (items:=its.toArray) o (a3s d),a7W d,?_,λh' tk r=>?_⟩
 .intro i v s' Q' E' hv hq;have b:its[i]?=some v:=by simpa using hv
  obtain⟨hi,_⟩:=aL.mp b;have a:i<ys.length:=by rw[c.length];exact hi
  have g:ys[i]?=some ys[i]:=aj a;obtain⟨z,f,j⟩:=c.get g;rw[b]at f;cases f;refine a1W j (aS.mp n _ (cB a)) ?_;simpa[aq,g]using hq
 .have e:(List.range its.toArray.size).all (λi=>trV (ys.getD i .non))=ys.all trV:=by
   rw[aE,<-c.length];exact a4s ys trV .non
  rw[e];exact⟨.bl _,H,I.kept (a3w r),rfl,q⟩
def b4h(m:X.calm=true):D0 X (.builtin "any") (b7t X.K):=by
 intro qK s σ H xs y Q I w h;obtain⟨k,p,ys,rfl,hs,n,q⟩:=h;obtain⟨u,rfl,t⟩:=w.one;cases t;obtain⟨its,c,d,x⟩:=I.sqk hs;have o:X.A.in1.handled=none:=I.ok.hd m;refine call_any_walk (L7 d ?_);refine⟨s.heap.objs.size,_,_,_,_,_,λi=>trV (ys.getD i .non),rfl,a2M (k:=k) (l:=p) (items:=its.toArray) o (a3s d),a7W d,?_,λh' tk r=>?_⟩
 .intro i v s' Q' E' hv hq;have b:its[i]?=some v:=by simpa using hv
  obtain⟨hi,_⟩:=aL.mp b;have a:i<ys.length:=by rw[c.length];exact hi
  have g:ys[i]?=some ys[i]:=aj a;obtain⟨z,f,j⟩:=c.get g;rw[b]at f;cases f;refine a1W j (aS.mp n _ (cB a)) ?_;simpa[aq,g]using hq
 .have e:(List.range its.toArray.size).any (λi=>trV (ys.getD i .non))=ys.any trV:=by
   rw[aE,<-c.length];exact b0e ys trV .non
  rw[e];exact⟨.bl _,H,I.kept (a3w r),rfl,q⟩
def b4e(w:X.calm=true):D0 X (.builtin "sum") (b7q X.K):=by
 intro qK s σ H xs D Q I B h;obtain⟨k,p,a,rfl,hs,q⟩:=h;obtain⟨u,rfl,A⟩:=B.one;cases A;obtain⟨its,n,d,C⟩:=I.sqk hs;have m:=n.length;rw[ai]at m;have x:X.A.in1.handled=none:=I.ok.hd w;refine call_sum_walkG (L7 d ?_);refine⟨s.heap.objs.size,_,_,_,_,_,λi=>a.getD i 0,rfl,a2M (k:=k) (l:=p) (items:=its.toArray) x (a3s d),a7W d,λb j=>?_,?_,λh' tk t' y=>?_⟩
 .rw[br];obtain⟨o,e⟩:=d.get;have f:=aF e;simp only[aA,bA,cI]at j;rcases j with rfl|rfl
  .exact cm _
  .exact cc f
 .intro i v hv;have c:its[i]?=some v:=by simpa using hv
  obtain⟨hi,_⟩:=aL.mp c;have z:(a.map V.int)[i]?=some (.int a[i]):=by rw[aX,aj (by omega)];rfl
  obtain⟨E,g,t,r⟩:=n.get z;rw[c]at g;cases g;exact⟨t,by rw[r];show _=Value.int (a.getD i 0) t;rw[aq,aj (by omega)];rfl⟩
 .have e:preSum (λi=>a.getD i 0) its.toArray.size=a.sum:=by
   rw[aE,<-m,a9b a _ (ak _),bg]
  rw[e];exact⟨.int a.sum,H,I.kept (a3w y),⟨t',rfl⟩,q⟩
def b7s(K:qF):RL:=λxs H Q=>∃x n t b,xs=[x,.ty n]/\TyOf K H x t/\PySem.W.kitOne K t (.type n)=some b/\Q (.bl b) H
def b4f:D0 X (.builtin "isinstance") (b7s X.K):=by
 intro qK s σ H xs f Q I d h;obtain⟨x,n,t,b,rfl,ty,e,q⟩:=h;obtain⟨u,v,rfl,c,a⟩:=d.two;cases a;exact b0G I c ty e λtk=>⟨.bl b,H,I.tok tk,rfl,q⟩
def a8T(x:V)(b:Bool):Bool:=decide (x=.bl b)
def a6V{x:V}{v:qB}{b:Bool}{Q:Bool->qC->Prop}(r:RelV x v)(h:Q (a8T x b) s):wpAny M A (isSame v (.bool b)) Q E s:=by
 unfold isSame;cases x with
 |non=>cases r;exact ag h
 |bl c=>cases r;exact ag (by
   have e:a8T (.bl c) b=(Value.bool c==Value.bool b):=by cases c<;>cases b<;>rfl
   rw[e]at h;exact h)
 |int i=>obtain⟨t,rfl⟩:=r;exact ag h
 |str y=>obtain⟨t,rfl⟩:=r;exact ag h
 |byt y=>obtain⟨t,rfl⟩:=r;exact ag h
 |flt y=>obtain⟨t,rfl⟩:=r;exact ag h
 |ref p=>cases r;exact ag h
 |ty n=>cases r;exact ag h
def b0o{b:Bool}:OpR X (compareOp .IsNot) (λx y H Q=>y=.bl b/\Q (.bl (!a8T x b)) H):=by
 intro qK s σ H x y v u Q I a c h;obtain⟨rfl,q⟩:=h;cases c;unfold compareOp;exact aa (a6V a (ag ⟨.bl _,H,I,rfl,q⟩))
def b4m:bootBuiltins "len"=some (.builtin "len"):=boot_len
def b8L:bootBuiltins "zip"=some (.type "zip"):=by kernel_rfl
def b8R:bootBuiltins "all"=some (.builtin "all"):=by kernel_rfl
def b8Q:bootBuiltins "any"=some (.builtin "any"):=by kernel_rfl
def b8M:bootBuiltins "sum"=some (.builtin "sum"):=by kernel_rfl
def b8O:bootBuiltins "min"=some (.builtin "min"):=by kernel_rfl
def b8P:bootBuiltins "max"=some (.builtin "max"):=by kernel_rfl
def b8S:bootBuiltins "abs"=some (.builtin "abs"):=by kernel_rfl
def a0M:bootBuiltins "isinstance"=some (.builtin "isinstance"):=by kernel_rfl
def a1Q:bootBuiltins "sorted"=some (.builtin "sorted"):=by kernel_rfl
def V4:bootBuiltins "tuple"=some (.type "tuple"):=by kernel_rfl
def b6l:bootBuiltins "list"=some (.type "list"):=by kernel_rfl
def a8n:bootBuiltins "int"=some (.type "int"):=by kernel_rfl
def a9G:bootBuiltins "bool"=some (.type "bool"):=by kernel_rfl
def b8N:bootBuiltins "set"=some (.type "set"):=by kernel_rfl
def b6m:bootBuiltins "dict"=some (.type "dict"):=by kernel_rfl
def a1n{f:TT}{Q:VK}{J:It}(n:Nat)(a:Nat->qA V->Hp->Prop)(h0:a 0 [] H1)
  (hs:∀i ys H,i<n->a i ys H->J.go i H/\ys.length<sizeLine/\∀x H',J.yld i H x H'->g x (B2 src σ) H' λσ2 H2=>Sub (B2 src σ) σ2/\f σ2 H2 λb d=>if b=true then te σ2 d λv h=>a (i+1) (ys++[v]) h else a (i+1) ys d)
  (hd:∀ys H,a n ys H->J.stop n H/\ys.length<=sizeLine/\∀p,H p=none->Q (.ref p) (upd H p (.lst ys))):E8 src g f te σ Q J H1:=by
 refine⟨λi m ys H=>m=n-i/\i<=n/\a i ys H,⟨n,by omega,bw _,h0⟩,?_⟩;rintro i m ys H ⟨rfl,hi,p⟩;by_cases c:i<n
 .obtain⟨q1,q2,q3⟩:=hs i ys H c p;exact .inr ⟨q1,q2,a (i+1),λzs H' j=>⟨n-(i+1),by omega,rfl,c,j⟩,q3⟩
 .have e:i=n:=by omega
  subst e;exact .inl (hd ys H p)
def a8e{f:TT}{Q:VK}{lo:Int}(j:n<=sizeLine)(a:Nat->qA V->Hp->Prop)(h0:a 0 [] H1)
  (d:∀i ys H,a i ys H->ys.length<=i)
  (hs:∀i ys H,i<n->a i ys H->g (.int (lo+i)) (B2 src σ) H λσ2 H2=>Sub (B2 src σ) σ2/\f σ2 H2 λb c=>if b=true then te σ2 c λv h=>a (i+1) (ys++[v]) h else a (i+1) ys c)
  (hd:∀ys H,a n ys H->∀p,H p=none->Q (.ref p) (upd H p (.lst ys))):E8 src g f te σ Q (Itr lo n) H1 :=
 a1n n a h0 (λi ys H hi p=>⟨hi,by have:=d i ys H p;omega,λx H' y=>by obtain⟨e,y⟩:=y;subst e y;exact hs i ys _ hi p⟩)
  λys H p=>⟨ak _,bh (d n ys H p) j,hd ys H p⟩
def V2{h:TT}{Q:VK}(l:xs.length<=sizeLine)(c:Nat->qA V->Hp->Prop)(h0:c 0 [] H1)
  (f:∀i ys H,i<=xs.length->c i ys H->SqL K H a xs/\ys.length<=i)
  (hs:∀i x ys H,xs[i]?=some x->c i ys H->g x (B2 src σ) H λσ2 H2=>Sub (B2 src σ) σ2/\h σ2 H2 λb d=>if b=true then te σ2 d λv j=>c (i+1) (ys++[v]) j else c (i+1) ys d)
  (hd:∀ys H,c xs.length ys H->∀p,H p=none->Q (.ref p) (upd H p (.lst ys))):E8 src g h te σ Q (Itl K a) H1 :=
 a1n xs.length c h0 (λi ys H hi p=>by
   obtain⟨q1,k⟩:=f i ys H (cK hi) p;refine⟨⟨xs,xs[i],q1,aj hi⟩,by omega,λx H' y=>?_⟩;obtain⟨e,y⟩:=y;subst e;exact hs i x ys _ (y xs q1) p)
  λys H p=>by
   obtain⟨q1,k⟩:=f _ ys H (ak _) p;exact⟨⟨xs,q1,ak _⟩,by omega,hd ys H p⟩
def P8{h:TT}{Q:VK}(l:xs.length<=sizeLine)(c:Nat->qA V->Hp->Prop)(h0:c 0 [] H1)
  (f:∀i ys H,i<=xs.length->c i ys H->SqT K H a xs/\ys.length<=i)
  (hs:∀i x ys H,xs[i]?=some x->c i ys H->g x (B2 src σ) H λσ2 H2=>Sub (B2 src σ) σ2/\h σ2 H2 λb d=>if b=true then te σ2 d λv j=>c (i+1) (ys++[v]) j else c (i+1) ys d)
  (hd:∀ys H,c xs.length ys H->∀p,H p=none->Q (.ref p) (upd H p (.lst ys))):E8 src g h te σ Q (Itt K a) H1 :=
 a1n xs.length c h0 (λi ys H hi p=>by
   obtain⟨q1,k⟩:=f i ys H (cK hi) p;refine⟨⟨xs,xs[i],q1,aj hi⟩,by omega,λx H' y=>?_⟩;obtain⟨e,y⟩:=y;subst e;exact hs i x ys _ (y xs q1) p)
  λys H p=>by
   obtain⟨q1,k⟩:=f _ ys H (ak _) p;exact⟨⟨xs,q1,ak _⟩,by omega,hd ys H p⟩
def V1{l:TT}{Q:VK}{k1 k2:Bool}{zs:qA V}(A:xs.length<=sizeLine)(c:Nat->qA V->Hp->Prop)(h0:c 0 [] H1)
  (k:∀i ys H,i<=xs.length->i<=zs.length->c i ys H->SqK k1 K H a xs/\SqK k2 K H b zs/\ys.length<=i)
  (hs:∀i x z ys H p,xs[i]?=some x->zs[i]?=some z->c i ys H->H p=none->g (.ref p) (B2 src σ) (upd H p (.tup [x,z])) λσ2 H2=>Sub (B2 src σ) σ2/\l σ2 H2 λb j=>if b=true then te σ2 j λv m=>c (i+1) (ys++[v]) m else c (i+1) ys j)
  (hd:∀ys H,c (min xs.length zs.length) ys H->∀p,H p=none->Q (.ref p) (upd H p (.lst ys))):E8 src g l te σ Q (Itz K k1 k2 a b) H1 :=
 a1n (min xs.length zs.length) c h0 (λi ys H hi p=>by
   have f:i<xs.length:=by omega
   have h:i<zs.length:=by omega
   obtain⟨q1,d,r⟩:=k i ys H (by omega) (by omega) p;refine⟨⟨xs,zs,xs[i],zs[i],q1,d,aj f,aj h⟩,by omega,λx H' y=>?_⟩;obtain⟨q,s,w,e,n,o,t,u⟩:=y;subst e o;exact hs i s w ys _ q (t xs q1) (u zs d) p n)
  λys H p=>by
   obtain⟨q1,d,r⟩:=k _ ys H (by omega) (by omega) p;exact⟨⟨xs,zs,q1,d,by omega⟩,by omega,hd ys H p⟩
structure Ok(P:qG)(w:World)(K:qF)(mg:Str->qD qB)(base:Heap)(x:Str)(k:Nat)(ps:qA Str)(sp:Sp):Prop where
 ex:∃f fd,mg x=some (.ref f)/\PySem.W.keepIn K (.ref f)=true/\Binds K fd ps []/\FnOk P w K mg base CX0 k f fd ps sp
structure FunAt(K:qF)(mg:Str->qD qB)(x:Str)(st:Stmt)(ps:qA Str):Prop where
 ex:∃f fd,mg x=some (.ref f)/\Fun K x x st f fd/\Binds K fd ps []
section
variable {mg:Str->qD qB}{base:Heap}
def Ok.imp{x:Str}{k:Nat}{ps:qA Str}{sp sp':Sp}(O:Ok P w K mg base x k ps sp)(h:∀vs H Q E,sp' vs H Q E->sp vs H Q E):Ok P w K mg base x k ps sp':=by
 obtain⟨f,fd,h1,h2,a,b⟩:=O.ex;exact⟨f,fd,h1,h2,a,b.imp h⟩
def FunAt.ok{x:Str}{st:Stmt}{N ps:qA Str}{k:Nat}{sp:Sp}(F:FunAt K mg x st ps)(S:FnScope N ps (A1 st))(c:∀vs H Q E,sp vs H Q E->vs.length=ps.length)
  (b:∀(a:qB) (f:qE) (A:Around) (outer:qA Env) (s:qC) (H:Hp) (vs:qA V) (Q:VK) (E:XK),Room k (A.deeper (envOfC x (A1 st) s.heap.objs.size f a))->sp vs H Q E ->
   ∃t,PSs (K4 CX0 P w K mg base N x (A1 st) f a A outer s H E).nox (E7 st) t/\t {nx:=λ_ H'=>Q .non H',rt:=Q} (start N vs) H):Ok P w K mg base x (k+1) ps sp:=by
 obtain⟨f,fd,h1,h2,d⟩:=F.ex;exact⟨f,fd,h1,h2.kp,d,h2.ok S c λa=>b a f⟩
end
section
variable {k:Nat}{sp:Sp}{p:Pos}{e:Expr}{t:TA}
def b2L(O:Ok X.prog X.w X.K X.mg X.base x k ps sp)(j:Room k X.A)(i:Gl X x)(g:PA X (e::es) t)(a:(x==("__debug__" : Str))=false:=by decide)
  (h:starEach (e::es) X.env=(false,eval e X.env)::starEach es X.env:=by rfl) (b:(backTo pos (starEach es X.env)).any (·.1)=false:=by rfl):PE X (.Call (.Name x p) (e::es) [] pos) (a8G sp [] E0 t):=by
 obtain⟨f,fd,h1,h2,c,d⟩:=O.ex;exact a9e d j i h1 h2 c .nil a9f g a h b
end
inductive EqV(K:qF)(H:Hp):Nat->V->V->Bool->Prop
 |flat {n:Nat}{x y:V}(fx:a6X x=true) (fy:a6X y=true):EqV K H n x y (eqV x y)
 |tup {n:Nat}{a b:qE}{xs ys:qA V}(e:Nat->Bool) (ha:SqT K H a xs) (hb:SqT K H b ys) (he:∀j x y,xs[j]?=some x->ys[j]?=some y->EqV K H n x y (e j)) :
   EqV K H (n+1) (.ref a) (.ref b) ((List.range (min xs.length ys.length)).all e && xs.length==ys.length)
 |lst {n:Nat}{a b:qE}{xs ys:qA V}(e:Nat->Bool) (ha:SqL K H a xs) (hb:SqL K H b ys) (he:∀j x y,xs[j]?=some x->ys[j]?=some y->EqV K H n x y (e j)) :
   EqV K H (n+1) (.ref a) (.ref b) ((List.range (min xs.length ys.length)).all e && xs.length==ys.length)
def b3S:∀{x:V},a6X x=true->eqV x x=true
 |.non,_=>rfl
 |.bl b,_=>eN b
 |.int i,_=>eN i
 |.str y,_=>eN y
 |.byt _,h=>by cases h
 |.flt _,h=>by cases h
 |.ref _,h=>by cases h
 |.ty _,h=>by cases h
def EqV.same{x y:V}{b:Bool}(I:Inv X qK σ H s)(h:EqV X.K H n x y b):x=y->b=true:=by
 induction h with
 |flat fx fy=>rintro rfl;exact b3S fx
 |tup e c d g f =>
  intro z;cases z;have q:=I.tuple_inj c d;subst q;simp only[fS,aO,eN,and_true,aS,bf];intro j a;exact f j _ _ (aj a) (aj a) rfl
 |lst e c d g f =>
  intro z;cases z;have q:=I.list_inj c d;subst q;simp only[fS,aO,eN,and_true,aS,bf];intro j a;exact f j _ _ (aj a) (aj a) rfl
def E2{us:qA qB}{j:Nat}{u:qB}(r:Vals xs us)(h:us[j]?=some u):∃x,xs[j]?=some x/\RelV x u:=by
 obtain⟨c,_⟩:=aL.mp h;have a:j<xs.length:=by rw[r.length];exact c
 have b:xs[j]?=some xs[j]:=aj a;obtain⟨d,e,q⟩:=r.get b;rw[h]at e;cases e;exact⟨_,b,q⟩
def EqV.at{n:Nat}{x y:V}{b:Bool}(I:Inv X qK σ H s)(h:EqV X.K H n x y b):∀{A:Around}{u v:qB},A.units+n<cLine->RelV x u->RelV y v->SeqAt.EqAt A s u v b:=by
 induction h with
 |flat fx fy=>intro A u v _ l m;exact b8G l m fx fy
 |@tup n a b xs ys e g i q r =>
  intro A u v B l m;cases l;cases m;by_cases c:a=b
  .have:=(EqV.tup e g i q).same I (by rw[c]);rw[this,c];exact SeqAt.EqAt.same _
  .obtain⟨us,r1,p1,_⟩:=I.tuple g;obtain⟨d,k,p2,_⟩:=I.tuple i;rw[r1.length,k.length];refine SeqAt.EqAt.of_refs c ?_;have:=SeqAt.RcAt.tuples (A:=A) (s:=s) (e:=e) (show s.heap.IsTuple a us.toArray from p1) (show s.heap.IsTuple b d.toArray from p2) (by omega) (λj h1 h2=>?_)
   .simpa using this
   .have h1':us[j]?=some us.toArray[j]:=by simp at h1⊢
    have f:d[j]?=some d.toArray[j]:=by simp at h2⊢
    obtain⟨x,ex,t⟩:=E2 r1 h1';obtain⟨y,p,w⟩:=E2 k f;exact r j x y ex p (by show A.units+1+n<cLine;omega) t w
 |@lst n a b xs ys e g i q r =>
  intro A u v B l m;cases l;cases m;by_cases c:a=b
  .have:=(EqV.lst e g i q).same I (by rw[c]);rw[this,c];exact SeqAt.EqAt.same _
  .obtain⟨us,r1,p1,_⟩:=I.list g;obtain⟨d,k,p2,_⟩:=I.list i;rw[r1.length,k.length];refine SeqAt.EqAt.of_refs c ?_;by_cases o:us.length=d.length
   .have:=SeqAt.RcAt.lists (A:=A) (s:=s) (e:=e) p1.isList p2.isList (by simpa using o) (by omega) (λj h1 h2=>?_)
    .simpa[o]using this
    .have h1':us[j]?=some us.toArray[j]:=by simp at h1⊢
     have f:d[j]?=some d.toArray[j]:=by simp at h2⊢
     obtain⟨x,ex,t⟩:=E2 r1 h1';obtain⟨y,p,w⟩:=E2 k f;exact r j x y ex p (by show A.units+1+n<cLine;omega) t w
   .have:=SeqAt.RcAt.lists_lengths (A:=A) (s:=s) p1.isList p2.isList (by simpa using o) (by omega);have z:(us.length==d.length)=false:=by simpa using o
    rw[z,fh];exact this
def a6x(K:qF)(neg:Bool):R2:=λx y H Q=>∃n b,n<=50/\EqV K H n x y b/\(∃a c,x=.ref a/\y=.ref c)/\Q (.bl (if neg then !b else b)) H
def b8b(C:X.A.units+60<cLine):OpR X (compareOp .Eq) (a6x X.K false):=by
 intro qK s σ H x y v u Q I m o h;obtain⟨n,b,B,i,⟨a,c,rfl,rfl⟩,q⟩:=h;cases m;cases o;show wpAny _ _ (richCompare .Eq (.ref a) (.ref c)) _ _ s;have key:SeqAt.RcAt X.A s (.ref a) (.ref c) b:=by
  cases i with
  |flat fx fy=>cases fx
  |@tup n _ _ xs ys e t w i =>
   obtain⟨d,k,p1,_⟩:=I.tuple t;obtain⟨f,l,p2,_⟩:=I.tuple w;rw[k.length,l.length];have:=SeqAt.RcAt.tuples (A:=X.A) (s:=s) (e:=e) (show s.heap.IsTuple a d.toArray from p1) (show s.heap.IsTuple c f.toArray from p2) (by omega) (λj h1 h2=>?_)
   .simpa using this
   .have h1':d[j]?=some d.toArray[j]:=by simp at h1⊢
    have g:f[j]?=some f.toArray[j]:=by simp at h2⊢
    obtain⟨x,ex,m⟩:=E2 k h1';obtain⟨y,r,o⟩:=E2 l g;exact(i j x y ex r).at I (by show X.A.units+1+n<cLine;omega) m o
  |@lst n _ _ xs ys e t w i =>
   obtain⟨d,k,p1,_⟩:=I.list t;obtain⟨f,l,p2,_⟩:=I.list w;rw[k.length,l.length];by_cases p:d.length=f.length
   .have:=SeqAt.RcAt.lists (A:=X.A) (s:=s) (e:=e) p1.isList p2.isList (by simpa using p) (by omega) (λj h1 h2=>?_)
    .simpa[p]using this
    .have h1':d[j]?=some d.toArray[j]:=by simp at h1⊢
     have g:f[j]?=some f.toArray[j]:=by simp at h2⊢
     obtain⟨x,ex,m⟩:=E2 k h1';obtain⟨y,r,o⟩:=E2 l g;exact(i j x y ex r).at I (by show X.A.units+1+n<cLine;omega) m o
   .have:=SeqAt.RcAt.lists_lengths (A:=X.A) (s:=s) p1.isList p2.isList (by simpa using p) (by omega);have z:(d.length==f.length)=false:=by simpa using p
    rw[z,fh];exact this
 exact key _ _ _ _ ⟨.bl _,H,I,rfl,q⟩
def b7X(C:X.A.units+60<cLine):OpR X (compareOp .NotEq) (a6x X.K true):=by
 intro qK s σ H x y v u Q I m o h;obtain⟨n,b,B,i,⟨a,c,rfl,rfl⟩,q⟩:=h;cases m;cases o;show wpAny _ _ (richCompare .NotEq (.ref a) (.ref c)) _ _ s;have key:SeqAt.RcNeAt X.A s (.ref a) (.ref c) (!b):=by
  cases i with
  |flat fx fy=>cases fx
  |@tup n _ _ xs ys e t w i =>
   obtain⟨d,k,p1,_⟩:=I.tuple t;obtain⟨f,l,p2,_⟩:=I.tuple w;rw[k.length,l.length];have:=SeqAt.RcNeAt.tuples (A:=X.A) (s:=s) (e:=e) (show s.heap.IsTuple a d.toArray from p1) (show s.heap.IsTuple c f.toArray from p2) (by omega) (λj h1 h2=>?_)
   .simpa using this
   .have h1':d[j]?=some d.toArray[j]:=by simp at h1⊢
    have g:f[j]?=some f.toArray[j]:=by simp at h2⊢
    obtain⟨x,ex,m⟩:=E2 k h1';obtain⟨y,r,o⟩:=E2 l g;exact(i j x y ex r).at I (by show X.A.units+1+n<cLine;omega) m o
  |@lst n _ _ xs ys e t w i =>
   obtain⟨d,k,p1,_⟩:=I.list t;obtain⟨f,l,p2,_⟩:=I.list w;rw[k.length,l.length];by_cases p:d.length=f.length
   .have:=SeqAt.RcNeAt.lists (A:=X.A) (s:=s) (e:=e) p1.isList p2.isList (by simpa using p) (by omega) (λj h1 h2=>?_)
    .simpa[p]using this
    .have h1':d[j]?=some d.toArray[j]:=by simp at h1⊢
     have g:f[j]?=some f.toArray[j]:=by simp at h2⊢
     obtain⟨x,ex,m⟩:=E2 k h1';obtain⟨y,r,o⟩:=E2 l g;exact(i j x y ex r).at I (by show X.A.units+1+n<cLine;omega) m o
   .have:=SeqAt.RcNeAt.lists_lengths (A:=X.A) (s:=s) p1.isList p2.isList (by simpa using p) (by omega);have z:(d.length==f.length)=false:=by simpa using p
    rw[z,fh];exact this
 exact key _ _ _ _ ⟨.bl _,H,I,rfl,q⟩
def b6q{ns ms:qI}:((List.range (min ns.length ms.length)).all (λj=>decide (ns.getD j 0=ms.getD j 0)) && ns.length==ms.length)=decide (ns=ms):=by
 rw[cz];simp only[aO,aS,bf,bD,a_];constructor
 .rintro⟨h1,h2⟩;refine fJ h2 λi a b=>?_;have:=h1 i (by omega);simpa[aq,a,b]using this
 .rintro rfl;exact⟨λ_ _=>rfl,rfl⟩
def b3F{ns:qI}{j:Nat}{x:V}(h:(ns.map V.int)[j]?=some x):x=.int (ns.getD j 0)/\j<ns.length:=by
 rw[aX]at h;cases e:ns[j]? with
 |none=>rw[e]at h;cases h
 |some z =>
  rw[e]at h;obtain⟨a,_⟩:=aL.mp e;exact⟨by rw[aq,e];exact(bB h).symm,a⟩
def EqV.ints{ns ms:qI}(c:SqK k K H a (ns.map V.int))(d:SqK k K H b (ms.map V.int)):EqV K H 1 (.ref a) (.ref b) (decide (ns=ms)):=by
 have step:∀j x y,(ns.map V.int)[j]?=some x->(ms.map V.int)[j]?=some y->EqV K H 0 x y (decide (ns.getD j 0=ms.getD j 0)):=λj x y e f=>by
  obtain⟨rfl,_⟩:=b3F e;obtain⟨rfl,_⟩:=b3F f;have:=EqV.flat (K:=K) (H:=H) (n:=0) (x:=.int (ns.getD j 0)) (y:=.int (ms.getD j 0)) rfl rfl;rw[show eqV (.int (ns.getD j 0)) (.int (ms.getD j 0))=decide (ns.getD j 0=ms.getD j 0)from rfl]at this;exact this
 rw[<-b6q];cases k
 .have:=EqV.lst (λj=>decide (ns.getD j 0=ms.getD j 0)) c d step;simpa using this
 .have:=EqV.tup (λj=>decide (ns.getD j 0=ms.getD j 0)) c d step;simpa using this
def a5w:R2:=λx y H Q=>∃a b xs ys,x=.ref a/\y=.ref b/\H a=some (.tup xs)/\H b=some (.tup ys)/\xs.length+ys.length<=sizeLine/\∀p H',Same H H'->H' p=some (.tup (xs++ys))->Q (.ref p) H'
def b2O:OpR X (binaryOp .Add) a5w:=by
 intro qK s σ H x y v u Q I B C h;obtain⟨a,b,xs,ys,rfl,rfl,k,l,E,q⟩:=h;by_cases z:xs=[]
 .subst z;cases B;cases C;obtain⟨its,G,p1,_⟩:=I.tuple (.inl (.inl k));obtain⟨A,J,p2,_⟩:=I.tuple (.inl (.inl l));cases G;obtain⟨⟨cls,dd,data,sl⟩,w,t,n,hd⟩:=id p1;obtain⟨⟨r,j,i,m⟩,g,d,F,f⟩:=id p2;simp only at t hd d f;subst t hd d f;exact concat_meets ⟨_,w,rfl⟩ ⟨_,g,rfl⟩ noFill_tuple_add seq_tuple_add PySem.F.slot_tuple_add PySem.F.entry_tuple_add (PySem.F.args_tuple_add_2 _ _)
   (tuple_addW0 a b _ _ n F dd j sl m (by simp)) ⟨w,g,⟨.ref b,H,I,rfl,q b H (Same.refl H) l⟩⟩
 .refine b5A qK s σ H _ _ v u Q I B C ⟨a,b,xs,ys,rfl,rfl,.inl (.inl k),.inl (.inl l),z,E,λe=>?_,λ_ p D=>?_⟩
  .subst e;exact q a H (Same.refl H) (by rw[cp];exact k)
  .exact q p _ (λc o e=>by rw[A5 (A9 e D)];exact e) A0
open PySem.AutoSeq1 (wpAny_loadPart')
def a1B:fillsNumberSlot (.type "tuple") "mul"=pure false :=
 PySem.fillsNumberSlot_seq (id:="tuple.__mul__") (r:=some (.builtin "tuple.__rmul__")) fK.lookup (by decide +kernel) F.slot_tuple_rmul.lookup (by decide +kernel)
def a5v:seqRepeat? (.type "tuple")=pure (some (.builtin "tuple.__mul__")):=by
 unfold seqRepeat?;rw[PySem.seqSlot_of (T:="tuple") (name:="__mul__") (id:="tuple.__mul__") fK.lookup (by decide +kernel),PySem.seqSlot_of (T:="tuple") (name:="__rmul__") (id:="tuple.__rmul__") F.slot_tuple_rmul.lookup (by decide +kernel)];rfl
def a7D(a:Int)(t:Tok)(l:qE)(items:Array qB)(n:Nat)(dd:qD qE)(sl:Array (qD qB)) :
  Meets (Builtin.«int.__rmul__» ⟨[.int a t,.ref l],[]⟩) (λ_ R s=>s.heap.get? l=some {cls:=.type "tuple",dict:=dd,data:=.seq items n,slots:=sl}/\R (.ok (.ret Value.notImplemented)) s) :=
 .of_wp λprog w A R s h=>by obtain⟨c,g,d,tk,os⟩:=s;obtain⟨b,h⟩:=h;wp_walk;exact⟨_,rfl,h⟩
def a7q(l:qE)(items:Array qB)(n:Nat)(dd:qD qE)(sl:Array (qD qB))(u:Tok) :
  Meets (Builtin.«tuple.__mul__» ⟨[.ref l,.int 1 u],[]⟩) (λ_ R s=>s.heap.get? l=some {cls:=.type "tuple",dict:=dd,data:=.seq items n,slots:=sl}/\R (.ok (.ret (.ref l))) s) :=
 .of_wp λprog w A R s h=>by
  obtain⟨b,g,d,tk,os⟩:=s;obtain⟨a,h⟩:=h;have f1:=AutoSeq1.idx_int
  wp_walk using wpAny_loadPart' a
  exact⟨_,rfl,h⟩
def a7p(l:qE)(items:Array qB)(n:Nat)(dd:qD qE)(sl:Array (qD qB))(x:Int)(u:Tok)(e:items.isEmpty=false)(h1:1<x)(h2:¬(decide (x < -(2 ^ 63)) || decide (x ≥ 2 ^ 63))=true)
  (j:¬((items.size:Int)*x > (2 ^ 63-1) / 8)) (k:¬Builtin.Tuple.tupleTooMany ((items.size:Int)*x)=true) (hsz:(List.foldl (λb c=>b++c) #[] (List.replicate x.toNat items)).size<=sizeLine) :
  Meets (Builtin.«tuple.__mul__» ⟨[.ref l,.int x u],[]⟩) (λ_ R s=>s.heap.get? l=some {cls:=.type "tuple",dict:=dd,data:=.seq items n,slots:=sl} /\
   R (.ok (.ret (.ref s.heap.objs.size))) {s with heap:=s.heap.push {cls:=.type "tuple",data:=.seq (List.foldl (λb c=>b++c) #[] (List.replicate x.toNat items))}}) :=
 .of_wp λprog w A R s h=>by
  obtain⟨p,g,d,tk,os⟩:=s;obtain⟨a,h⟩:=h;have f1:=AutoSeq1.idx_int;have f:(x==1)=false:=by simp;omega
  have i:decide (x<=0)=false:=by simp;omega
  have m:¬((items.isEmpty || x==1)=true):=by rw[e,f];decide
  have o:¬((decide (x<=0) || items.isEmpty)=true):=by rw[e,i];decide
  wp_walk using wpAny_loadPart' a
  rw[ao h2]
  wp_walk using wpAny_loadPart' a
  rw[ao j]
  wp_walk using wpAny_loadPart' a
  first
   |exact⟨_,rfl,h⟩
   |(rw[ao k];wp_walk using wpAny_loadPart' a;exact⟨_,rfl,h⟩)
def a3H{α:Type}(its:qA α):∀(k:Nat) (a:qA α),List.foldl (λb c=>b++c) a.toArray (List.replicate k its.toArray)=(a++(List.replicate k its).flatten).toArray
 |0,a=>by simp
 |k+1,a=>by
  have e:a.toArray++its.toArray=(a++its).toArray:=by simp
  rw[cj,dI,e,a3H its k,cj,cY,aI]
def b6K:R2:=λx y H Q=>∃a xs n,x=.ref a/\y=.int n/\H a=some (.tup xs)/\xs≠[]/\1<=n/\(xs.length:Int)*n<=(sizeLine:Int)/\∀p H',Same H H'->H' p=some (.tup (List.replicate n.toNat xs).flatten)->Q (.ref p) H'
def b5x:OpR X (binaryOp .Mult) b6K:=by
 intro qK s σ H x y v u Q I J K h;obtain⟨a,xs,n,rfl,rfl,l,i,M,N,q⟩:=h;cases J;obtain⟨t,rfl⟩:=K;obtain⟨its,r,p1,G⟩:=I.tuple (.inl (.inl l));obtain⟨⟨cls,dd,data,sl⟩,g,w,m,hd⟩:=id p1;simp only at w hd;subst w hd;have d:=r.length;have f:0<its.length:=by rw[<-d];exact List.length_pos_iff.mpr i
 refine wpAny_binaryOp_repeat_ref (T:="tuple") (U:="int") (by decide) ⟨_,g,rfl⟩ (λs'=>typeIs_int s' n t) a1B F.fills_int_mul F.slot_int_rmul a5v F.slot_int_index.lookup
  (eJ F.slot_int_rmul (typeIs_int s n t) F.entry_int_rmul (F.args_int_rmul_2 _ _) (a7D n t a its.toArray m dd sl) ⟨g,rfl,⟨_,g,rfl⟩,?_⟩)
 by_cases h1:n=1
 .subst h1;refine eJ fK ⟨_,g,rfl⟩ F.entry_tuple_mul (F.args_tuple_mul_2 _ _) (a7q a its.toArray m dd sl t) ⟨g,.ref a,H,I,rfl,q a H (Same.refl H) ?_⟩;rw[l];simp
 .have e0:=a3H its n.toNat [];rw[cO]at e0;have C:((List.replicate n.toNat its).flatten).length=n.toNat*its.length:=a9i its n.toNat;have p:n.toNat*its.length<=sizeLine:=by
   have L:((n.toNat*its.length:Nat):Int)=(xs.length:Int)*n:=by
    rw[d];push_cast;rw[Int.toNat_of_nonneg (by omega),Int.mul_comm]
   omega
  have hs:sizeLine=16777216:=aU;have E:(its.toArray.size:Int)*n<=16777216:=by rw[aE,<-d];omega
  have D:n<=(its.toArray.size:Int)*n:=by
   have A:(1:Int)<=(its.toArray.size:Int):=by rw[aE];omega
   have:=Int.mul_le_mul_of_nonneg_right A (show(0:Int)<=n by omega);omega
  refine eJ fK ⟨_,g,rfl⟩ F.entry_tuple_mul (F.args_tuple_mul_2 _ _) (a7p a its.toArray m dd sl n t (by simp;intro z;rw[z]at f;exact bN _ f) (by omega) ?_ ?_ ?_ ?_) ⟨g,?_⟩
  .simp only[Bool.or_eq_true,bD,not_or];omega
  .omega
  .simp only[Builtin.Tuple.tupleTooMany,bD];omega
  .have e0':List.foldl (λj k=>j++k) #[] (List.replicate n.toNat its.toArray)=(List.replicate n.toNat its).flatten.toArray:=e0;rw[e0',aE,C];exact p
  .have e0':List.foldl (λj k=>j++k) #[] (List.replicate n.toNat its.toArray)=(List.replicate n.toNat its).flatten.toArray:=e0;rw[e0'];have B:H s.heap.objs.size=none:=I.hok.fresh (ak _);refine⟨.ref s.heap.objs.size,_,I.laid (t':=s.toks) (o:=.tup (List.replicate n.toNat xs).flatten) (λb O q=>ae _ q) (ak _) ?_,rfl,q _ _ (λc o e=>by rw[A5 (A9 e B)];exact e) A0⟩;exact⟨by rw[a9i,d];exact p,_,r.rep n.toNat,IsTup.new _ _⟩
end L2
namespace L2
open PySem PySem.Spec PyProof.Rows
variable {B:qA Stmt}{H H':Hp}{K:qF}{N:qA Str}{Q:VK}{a b p:qE}{caps σ:St}{es:qA Expr}{g:TG}{i k n:Nat}{l:qA qE}{o:HO}{rss:LLI}{sp:Sp}{src:qA (qJ)}{st:Stmt}{te tl:TE}{tg:Expr}{v:V}{vs:qA V}{x:Str}{xs:qI}
section
variable {X:Cx}{pos:Pos}
def b5p(K:qF){t:TGs}(c:X.calm=true)(h:PGs X es t)(b:X.K=K:=by rfl)
  (d:(assignEach es X.env).length=n:=by rfl) (a:(assignEach es X.env).findIdx? (·.1)=none:=by rfl):PG X (.Tuple es k pos) (a6W K n t):=by
 subst b;exact b7G c h d a
def b2F(K:qF){l:Expr}(b:PE X l tl)(a:X.K=K:=by rfl):PI X tg l (b3H K tl):=by subst a;exact b5l b
def b5k(K:qF){l:Expr}(b:PE X l tl)(a:X.K=K:=by rfl):PI X tg l (b8D K tl):=by subst a;exact b7F b
def b5j(K:qF){h:Nat}{i:Pos}{a b:Expr}{ta:TA}{p pos:Pos}(f:Gl X "zip")(g:X.mg "zip"=none)(e:PA X [a,b] ta)(d:X.K=K:=by rfl)
  (hs:starEach [a,b] X.env=[(false,eval a X.env),(false,eval b X.env)]:=by rfl) (c:starEach [b] X.env=[(false,eval b X.env)]:=by rfl) :
  PI X (.Tuple es h i) (.Call (.Name "zip" p) [a,b] [] pos) (b8C K ta):=by subst d;exact b7E f g e b8L hs c
def b9e(K:qF)(ta:TE):TT:=λσ H Q=>ta σ H λx H'=>∃k,b8W K x H' k/\Q k H'
def b0h(K:qF){a:Expr}{ta:TE}(d:PE X a ta)(e:∀b,isTrue a X.env b=(do let v <-b;standAt a.pos;holding [v] (truthy v)))(c:X.K=K:=by rfl):PT X a (b9e K ta):=by
 subst c;exact b2u d e
def b3E(K:qF)(a:X.K=K:=by rfl):IxR X (b4X K):=by subst a;exact b5Y
def b5X(K:qF)(a:X.K=K:=by rfl):IxR X (b4W K):=by subst a;exact b3D
def b1V(K:qF)(a:X.K=K:=by rfl):SlR X (b7r K):=by subst a;exact b4G
def b4F(K:qF)(a:X.K=K:=by rfl):SlR X (b2r K):=by subst a;exact b1T
def b8a(K:qF)(b:X.A.units+60<cLine)(a:X.K=K:=by rfl):OpR X (compareOp .Eq) (a6x K false):=by subst a;exact b8b b
def b7W(K:qF)(b:X.A.units+60<cLine)(a:X.K=K:=by rfl):OpR X (compareOp .NotEq) (a6x K true):=by subst a;exact b7X b
def b1j(K:qF)(b:X.calm=true)(a:X.K=K:=by rfl):D0 X (.builtin "all") (b7u K):=by subst a;exact b4i b
def b1i(K:qF)(b:X.calm=true)(a:X.K=K:=by rfl):D0 X (.builtin "any") (b7t K):=by subst a;exact b4h b
def b0X(K:qF)(b:X.calm=true)(a:X.K=K:=by rfl):D0 X (.builtin "sum") (b7q K):=by subst a;exact b4e b
def b1f(K:qF)(a:X.K=K:=by rfl):D0 X (.builtin "isinstance") (b7s K):=by subst a;exact b4f
def b9r(K:qF):RL:=λxs H Q=>∃p ys,xs=[.ref p]/\(SqL K H p ys∨SqT K H p ys)/\Q (.int ys.length) H
def b6L(K:qF):RL:=λxs H Q=>∃p ys,xs=[.ref p]/\(SqL K H p ys∨SqT K H p ys)/\∀l,H l=none->Q (.ref l) (upd H l (.lst ys))
def b2o(K:qF):RL:=λxs H Q=>∃p ys,xs=[.ref p]/\((SqL K H p ys/\∀l,H l=none->Q (.ref l) (upd H l (.tup ys)))∨(SqT K H p ys/\Q (.ref p) H))
def b1e(K:qF)(a:X.K=K:=by rfl):D0 X (.builtin "len") (b9r K):=by subst a;exact a5N
def a8j(K:qF)(a:X.K=K:=by rfl):D0 X (.type "list") (b6L K):=by subst a;exact a5M
def a7f(K:qF)(a:X.K=K:=by rfl):D0 X (.type "tuple") (b2o K):=by subst a;exact a4e
def b9p:RL:=λxs H Q=>∃i j,xs=[.int i,.int j]/\Q (.int (if j<i then j else i)) H
def b9q:RL:=λxs H Q=>∃i j,xs=[.int i,.int j]/\Q (.int (if j > i then j else i)) H
def b9t:RL:=λxs H Q=>(∃i,xs=[.int i]/\Q (.int i) H)∨∃k,xs=[.bl k]/\Q (.int (if k then 1 else 0)) H
def b0Z(a:X.calm=true):D0 X (.builtin "min") b9p:=b1a a
def b1b(a:X.calm=true):D0 X (.builtin "max") b9q:=b1c a
def b1g:D0 X (.type "int") b9t:=b1h
variable {o e:Expr}{to:TE}{t:TA}{name:Str}{qO qM:Pos}{T id:String}{r:V->qA V->Hp->VK->Prop}
def a7I(K:qF)(l:PlainAttrs T)(f:Slot T name id)(g:typeOf (.builtin id)=pure (.type "method_descriptor"))(j:MtR X id r)(k:PE X o to)(i:PA X (e::es) t)(h:X.K=K:=by rfl)
  (b:attributeBase o name X.env (eval o X.env)=eval o X.env:=by rfl)
  (d:((backTo qM (starEach (e::es) X.env)).all (λx=>!x.1) && (backToKw qM (keywordEach [] X.env)).all (λx=>x.1.isSome)
   && decide ((e::es).length+([]:qA Keyword).length+(if ([]:qA Keyword).isEmpty then 0 else 1)<30))=true:=by rfl)
  (c:(qO.endLine==qM.line)=true:=by rfl) (hs:starEach (e::es) X.env=(false,eval e X.env)::starEach es X.env:=by rfl) (a:(backTo qM (starEach es X.env)).any (·.1)=false:=by rfl) :
  PE X (.Call (.Attribute o name qO) (e::es) [] qM) (tBM K T r to t):=by subst h;exact b9B l f g j k i b d c hs a
end
def IT(H:Hp)(v:V)(ns:qI):Prop:=∃a,v=.ref a/\H a=some (.tup (ns.map V.int))
def IT.same{ns:qI}(h:IT H v ns)(s:Same H H')   : IT H' v ns:=let ⟨a,e,q⟩:=h;⟨a,e,s a _ q⟩
def Same.upd(s:Same H H')(hp:H' p=none):Same H (upd H' p o):=λb u e=>by
 rw[A5 (A9 (s b u e) hp)];exact s b u e
def O1{u:HO}(a:H b=some u)(hp:H p=none):upd H p o b=some u:=by rw[A5 (A9 a hp)];exact a
def Off(l:qA qE)(H H':Hp):Prop:=∀b o,b∉l->H b=some o->H' b=some o
def Off.refl(l:qA qE)(H:Hp):Off l H H:=λ_ _ _ e=>e
def Off.trans{H1 H2:Hp}(a:Off l H H1)(b:Off l H1 H2):Off l H H2:=λc o d e=>b c o d (a c o d e)
def Same.off(s:Same H H'):Off l H H':=λb o _ e=>s b o e
def Off.upd(s:Off l H H')(hp:H' p=none):Off l H (upd H' p o):=λb u a e=>by
 rw[A5 (A9 (s b u a e) hp)];exact s b u a e
def Off.set(s:Off l H H')(hp:p∈l):Off l H (L2.upd H' p o):=λb u a e=>by
 rw[A5 (by rintro rfl;exact a hp)];exact s b u a e
def G4(ns:qI):(ns.map V.int).length=ns.length:=ai _
def L6{ns:qI}{x:V}(h:(ns.map V.int)[i]?=some x):∃z,ns[i]?=some z/\x=.int z:=by
 rw[aX]at h;cases e:ns[i]? with
 |none=>rw[e]at h;cases h
 |some z=>rw[e]at h;exact⟨z,rfl,(bB h).symm⟩
def M4{α β γ:Type}(f:α->β->γ){xs:qA α}{ys:qA β}{x:α}{y:β}(a:xs[i]?=some x)(b:ys[i]?=some y):(List.zipWith f xs ys).take (i+1)=(List.zipWith f xs ys).take i++[f x y]:=by
 have:(List.zipWith f xs ys)[i]?=some (f x y):=by rw[List.getElem?_zipWith,a,b]
 rw[ba,this];rfl
def b1q{k1 k2:Bool}{ys:qI}(f:Int->Int->V)(t:SqK k1 K H a (xs.map V.int))(u:SqK k2 K H b (ys.map V.int))(w:xs.length<=1000)
  (c:∀H',Same H H'->SqK k1 K H' a (xs.map V.int)/\SqK k2 K H' b (ys.map V.int))
  (g:B2 src σ=none::none::caps) (l:∀x y H1 o,Same H H1->o (f x y) H1->te (some (.int x)::some (.int y)::caps) H1 o)
  (hd:∀H1 p,Same H H1->H1 p=none->Q (.ref p) (upd H1 p (.lst (List.zipWith f xs ys)))) :
  E8 src (a6W K 2 (Y5 (B0 0) (Y5 (B0 1) a8b))) O3 te σ Q (Itz K k1 k2 a b) H:=by
 have A:(1000:Nat)<=sizeLine:=by rw[aU];decide
 refine V1 (xs:=xs.map V.int) (zs:=ys.map V.int) (by rw[G4];omega) (λi zs H'=>Same H H'/\zs=(List.zipWith f xs ys).take i) ⟨Same.refl H,by simp⟩ (λi zs H' _ _ h=>⟨(c H' h.1).1,(c H' h.1).2,by rw[h.2];exact bE _ _⟩) ?_ ?_
 .rintro i x z zs H' p hx hy ⟨s,rfl⟩ hp;obtain⟨k,m,q⟩:=L6 hx;obtain⟨d,n,r⟩:=L6 hy;subst q r;clear hx hy;have s':Same H (upd H' p (.tup [.int k,.int d])):=s.upd hp;refine⟨p,[.int k,.int d],rfl,SqT.of A0,rfl,.int k,[.int d],rfl,.int d,[],rfl,rfl,?_⟩;rw[g];show Sub _ (some (.int k)::some (.int d)::caps)/\_;refine⟨⟨rfl,λj v e=>?_⟩,?_⟩
  .match j,e with
   |0,e=>cases e
   |1,e=>cases e
   |j+2,e=>exact e
  .exact l k d _ _ s' ⟨s',(M4 f m n).symm⟩
 .rintro zs H' ⟨s,rfl⟩ p hp;have e:(List.zipWith f xs ys).take (min (xs.map V.int).length (ys.map V.int).length)=List.zipWith f xs ys:=by
   rw[G4,G4,bP];rw[cN];exact ak _
  rw[e];exact hd H' p s hp
def Sub.one:Sub (none::caps) (some v::caps):=⟨rfl,λj u e=>by
 match j,e with
 |0,e=>cases e
 |j+1,e=>exact e⟩
def a1g{e:TT}(h:n<=1000)(c:B2 src σ=none::caps)(a:Nat->qA V->Hp->Prop)(h0:a 0 [] H)(g:∀i ys H,a i ys H->ys.length<=i)
  (hs:∀i ys H,i<n->a i ys H->e (some (.int i)::caps) H λb d=>if b=true then te (some (.int i)::caps) d λv f=>a (i+1) (ys++[v]) f else a (i+1) ys d)
  (hd:∀ys H,a n ys H->∀p,H p=none->Q (.ref p) (upd H p (.lst ys))):E8 src (B0 0) e te σ Q (Itr 0 n) H:=by
 have j:(1000:Nat)<=sizeLine:=by rw[aU];decide
 refine a8e (by omega) a h0 g (λi ys H hi p=>?_) hd;show Sub _ ((B2 src σ).set 0 (some (.int (0+(i:Int)))))/\_;rw[c,Int.zero_add];exact⟨Sub.one,hs i ys H hi p⟩
def a6b(f:Int->V)(j:xs.length<=1000)(b:∀H',Same H H'->SqT K H' a (xs.map V.int))(c:B2 src σ=none::caps)
  (e:∀x H1 g,x∈xs->Same H H1->g (f x) H1->te (some (.int x)::caps) H1 g) (hd:∀H1 p,Same H H1->H1 p=none->Q (.ref p) (upd H1 p (.lst (xs.map f)))):E8 src (B0 0) O3 te σ Q (Itt K a) H:=by
 have k:(1000:Nat)<=sizeLine:=by rw[aU];decide
 refine P8 (xs:=xs.map V.int) (by rw[G4];omega) (λi ys H'=>Same H H'/\ys=(xs.take i).map f) ⟨Same.refl H,by simp⟩ (λi ys H' _ h=>⟨b H' h.1,by rw[h.2,ai];exact bE _ _⟩) ?_ ?_
 .rintro i x ys H' hx ⟨s,rfl⟩;obtain⟨z,d,rfl⟩:=L6 hx;show Sub _ ((B2 src σ).set 0 (some (.int z)))/\_;rw[c];refine⟨Sub.one,e z H' _ (aH d) s ⟨s,?_⟩⟩;rw[ba,d];simp
 .rintro ys H' ⟨s,rfl⟩ p hp;rw[G4,bg];exact hd H' p s hp
def a4v(f:Int->V)(j:xs.length<=1000)(b:∀H',Same H H'->SqL K H' a (xs.map V.int))(c:B2 src σ=none::caps)
  (e:∀x H1 g,x∈xs->Same H H1->g (f x) H1->te (some (.int x)::caps) H1 g) (hd:∀H1 p,Same H H1->H1 p=none->Q (.ref p) (upd H1 p (.lst (xs.map f)))):E8 src (B0 0) O3 te σ Q (Itl K a) H:=by
 have k:(1000:Nat)<=sizeLine:=by rw[aU];decide
 refine V2 (xs:=xs.map V.int) (by rw[G4];omega) (λi ys H'=>Same H H'/\ys=(xs.take i).map f) ⟨Same.refl H,by simp⟩ (λi ys H' _ h=>⟨b H' h.1,by rw[h.2,ai];exact bE _ _⟩) ?_ ?_
 .rintro i x ys H' hx ⟨s,rfl⟩;obtain⟨z,d,rfl⟩:=L6 hx;show Sub _ ((B2 src σ).set 0 (some (.int z)))/\_;rw[c];refine⟨Sub.one,e z H' _ (aH d) s ⟨s,?_⟩⟩;rw[ba,d];simp
 .rintro ys H' ⟨s,rfl⟩ p hp;rw[G4,bg];exact hd H' p s hp
def a3c(f:Nat->V)(c:n<=1000)(a:B2 src σ=none::caps)(b:∀(i:Nat) H1 Q1,i<n->Same H H1->Q1 (f i) H1->te (some (.int i)::caps) H1 Q1)
  (hd:∀H1 p,Same H H1->H1 p=none->Q (.ref p) (upd H1 p (.lst ((List.range n).map f)))):E8 src (B0 0) O3 te σ Q (Itr 0 n) H:=by
 refine a1g c a (λi ys H'=>Same H H'/\ys=(List.range i).map f) ⟨Same.refl H,rfl⟩ (λi ys H' h=>by rw[h.2];simp) ?_ ?_
 .rintro i ys H' hi ⟨s,rfl⟩;refine b i H' _ hi s ⟨s,?_⟩;rw[List.range_succ,bF];rfl
 .rintro ys H' ⟨s,rfl⟩ p hp;exact hd H' p s hp
def Room.u60{A:Around}(r:Room k A):A.units+60<cLine:=by have:=r.un;omega
def Q6{t u:TS}{D:Ends}(a:St->Hp->Prop)(fin:∀σ H,a σ H->u D σ H)(h:(∀σ H,a σ H->u D σ H)->t {D with nx:=u D} σ H):b7l t u D σ H:=h fin
def b9c{a:Bool}{cs:qI}(c:∀d:VK,d (.ref b) H->te σ H d)(f:H b=some (.lst (cs.map V.int)))
  (q:∀p,H p=none->Q (.bl (if a then !decide (cs=[])else decide (cs=[]))) (upd H p (.lst []))):tOp (a6x K a) te (b4A a2f) σ H Q :=
 c _ ⟨bw _,λp e=>⟨1,_,by decide,EqV.ints (k:=false) (ms:=[]) (SqL.of (O1 f e)) (SqL.of A0),⟨_,_,rfl,rfl⟩,q p e⟩⟩
def b9d{a:Bool}{Q:Bool->Hp->Prop}{cs:qI}(c:∀d:VK,d (.ref b) H->te σ H d)(e:H b=some (.lst (cs.map V.int)))
  (q:∀p,H p=none->Q (if a then !decide (cs=[])else decide (cs=[])) (upd H p (.lst []))):Z1 (tOp (a6x K a) te (b4A a2f)) σ H Q :=
 b9c c e λp f=>⟨_,rfl,q p f⟩
def ixL{ta tb:TE}{xs:qA V}{i:Int}(b:∀a:VK,a (.ref p) H->ta σ H a)(c:∀a:VK,a (.int i) H->tb σ H a)(hp:H p=some (.lst xs))(e:atI xs i=some v)(q:Q v H):tOp (b4X K) ta tb σ H Q :=
 b _ (c _ ⟨p,xs,i,v,rfl,rfl,SqL.of hp,e,q⟩)
def b8I(xs:qI)(k:Nat)(a:k<=xs.length):K5 (xs.map V.int) none (some (k:Int))=(xs.take k).map V.int:=by
 unfold K5;rw[HT.sIx_none,HT.sIx_nat,ai,dj a,cX,Nat.sub_zero,List.map_take]
def b8J(xs:qI)(k:Nat)(a:k<=xs.length):K5 (xs.map V.int) (some (k:Int)) none=(xs.drop k).map V.int:=by
 unfold K5;rw[HT.sIx_none,HT.sIx_nat,ai,dj a,bP (by simp),List.map_drop]
def a9W(xs:qI)(k:Nat)(z:Int)(a:k<xs.length):xs.take k++[z]++xs.drop (k+1)=xs.set k z:=by
 rw[List.set_eq_take_append_cons_drop,av a,aI];rfl
def b7v{j:Nat}{tx:TE}{z:Int}(hi:σ[i]?=some (some (.ref a)))(l:σ[j]?=some (some (.int k)))(h:H a=some (.tup (xs.map V.int)))(s:k<xs.length)(B:xs.length<=1000)
  (e:∀H' (N:VK),Same H H'->N (.int z) H'->tx σ H' N) (q:∀v H',Same H H'->IT H' v (xs.set k z)->Q v H') :
  tOp a5w (tOp a5w (tSl (b2r K) (Z0 i) V8 (a8E (Z0 j))) (b7k (a6c tx a2f))) (tSl (b2r K) (Z0 i) (a8E (tOp (rI0 λi j=>.int (i+j)) (Z0 j) (tC (.int 1)))) V8) σ H Q:=by
 have C:(3000:Nat)<=sizeLine:=by rw[aU];decide
 refine⟨_,hi,_,l,k,rfl,a,_,rfl,SqT.of h,?_,λp t=>?_⟩
 .rw[HT.sIx_none,HT.sIx_nat,ai];omega
 .rw[b8I xs k (by omega)];have s1:Same H (upd H p (.tup ((xs.take k).map V.int))):=(Same.refl H).upd t;have f:upd H p (.tup ((xs.take k).map V.int)) p=some (.tup ((xs.take k).map V.int)):=A0;generalize upd H p (.tup ((xs.take k).map V.int))=H1 at s1 f;refine e H1 _ s1 ⟨by show 1<=sizeLine;omega,λp2 c=>?_⟩;have s2:Same H1 (upd H1 p2 (.tup [.int z])):=(Same.refl H1).upd c;have g:upd H1 p2 (.tup [.int z]) p2=some (.tup [.int z]):=A0;generalize upd H1 p2 (.tup [.int z])=H2 at s2 g;refine⟨p,p2,_,_,rfl,rfl,s2 _ _ f,g,?_,λu b x o=>?_⟩
  .rw[ai,aN];show min k xs.length+1<=_;omega
  .have s13:Same H b:=(s1.trans s2).trans x;refine⟨_,hi,_,l,_,_,rfl,rfl,_,rfl,a,_,rfl,SqT.of (s13 _ _ h),?_,λm d=>?_⟩
   .rw[show((k:Int)+1)=((k+1:Nat):Int) by push_cast;rfl,HT.sIx_nat,ai];omega
   .rw[show((k:Int)+1)=((k+1:Nat):Int) by push_cast;rfl,b8J xs (k+1) (by omega)];have n:Same b (upd b m (.tup ((xs.drop (k+1)).map V.int))):=(Same.refl b).upd d;refine⟨u,m,_,_,rfl,rfl,n _ _ o,A0,?_,λw A y r=>?_⟩
    .rw[ar,ai,aN,ai,bQ];show min k xs.length+1+_<=_;omega
    .refine q _ _ ((s13.trans n).trans y) ⟨w,rfl,?_⟩;rw[r,<-a9W xs k z s];simp
def var(e:σ[i]?=some (some v)):∀Q:VK,Q v H->Z0 i σ H Q:=λQ q=>⟨v,e,q⟩
def con:∀Q:VK,Q v H->tC v σ H Q:=λQ q=>q
structure JE(X:Cx)(e:Expr)(t:TE):Prop where
 h:PE X e t
structure JT(X:Cx)(e:Expr)(t:TT):Prop where
 h:PT X e t
structure JW(X:Cx)(e:Expr)(t:TT):Prop where
 h:PW X e t
structure JA(X:Cx)(es:qA Expr)(t:TA):Prop where
 h:PA X es t
structure JS(X:Cx)(st:Stmt)(t:TS):Prop where
 h:PS X st t
structure JB(X:Cx)(st:qA Stmt)(t:TS):Prop where
 h:PSs X st t
structure JG(X:Cx)(tg:Expr)(t:TG):Prop where
 h:PG X tg t
structure JGs(X:Cx)(ts:qA Expr)(t:TGs):Prop where
 h:PGs X ts t
structure JI(X:Cx)(tg iter:Expr)(t:TI):Prop where
 h:PI X tg iter t
structure JF(X:Cx)(ifs:qA Expr)(t:TT):Prop where
 h:PIf X ifs t
structure JO(X:Cx)(e:qD Expr)(t:TO):Prop where
 h:PO X e t
section
variable {X:Cx}{a b c e o:Expr}{rest:qA Expr}{ta tb tc to:TE}{tA tB:TT}{t:TA}{pos p qO qM p2:Pos}
def jv(i:Nat)(b:X.N[i]?=some x:=by rfl)(c:Vis X.env.scope x:=by first|exact Or.inl rfl|exact Or.inr (Or.inl rfl)|exact Or.inr (Or.inr rfl))(hd:(x==("__debug__" : Str))=false:=by decide)
  (a:(x==("__classdict__" : Str))=false:=by decide):JE X (.Name x pos) (Z0 i):=⟨b2H b c hd a⟩
def A3{i j}:JE X (.Constant (.int i) j pos) (tC (.int i)):=⟨b7O⟩
def N8{i j}:JE X (.Constant (.bool i) j pos) (tC (.bl i)):=⟨b9C⟩
def X8{j}:JE X (.Constant .none j pos) (tC .non):=⟨b7M⟩
def b6U{x j}:JE X (.Constant (.str x) j pos) (tC (.str x)):=⟨b7J⟩
def T8{u:qB}(a:Gl X x)(b:X.mg x=none)(d:bootBuiltins x=some u)(r:RelV v u)(c:x≠"__name__":=by decide)(hd:(x==("__debug__" : Str))=false:=by decide):JE X (.Name x pos) (tC v):=⟨b5v a b d r c hd⟩
def M2(c:JE X a ta)(d:JE X b tb):JE X (.BinOp a .Add b pos) (tOp (rI0 λi j=>.int (i+j)) ta tb):=⟨a0I b8d c.h d.h⟩
def T0(c:JE X a ta)(d:JE X b tb):JE X (.BinOp a .Sub b pos) (tOp (rI0 λi j=>.int (i-j)) ta tb):=⟨a0I b7U c.h d.h⟩
def X9(c:JE X a ta)(d:JE X b tb):JE X (.BinOp a .Mult b pos) (tOp (rI CMul λi j=>.int (i*j)) ta tb):=⟨a0I b7Y c.h d.h⟩
def a3z(c:JE X a ta)(d:JE X b tb):JE X (.BinOp a .Mod b pos) (tOp (rI (λ_ j=>0<j) λi j=>.int (i % j)) ta tb):=⟨a0I b7Z c.h d.h⟩
def b3C(c:JE X a ta)(d:JE X b tb):JE X (.BinOp a .FloorDiv b pos) (tOp (rI b9U λi j=>.int (i / j)) ta tb):=⟨a0I b5z c.h d.h⟩
def a0K(c:JE X a ta)(d:JE X b tb):JE X (.BinOp a .Pow b pos) (tOp (rI b9T λi j=>.int (i ^ j.toNat)) ta tb):=⟨a0I b7V c.h d.h⟩
def N7(c:JE X a ta)(d:JE X b tb):JE X (.BinOp a .Add b pos) (tOp (a5w) ta tb):=⟨a0I b2O c.h d.h⟩
def b6W(c:JE X a ta)(d:JE X b tb):JE X (.BinOp a .Add b pos) (tOp (b9v) ta tb):=⟨a0I b8c c.h d.h⟩
def a7V(c:JE X a ta)(d:JE X b tb):JE X (.BinOp a .Mult b pos) (tOp (b6K) ta tb):=⟨a0I b5x c.h d.h⟩
def a4A(b:JE X a ta):JE X (.UnaryOp .USub a pos) (tUn (rU λi=>.int (-i)) ta):=⟨b9z b7h b.h⟩
def b3B(b:JE X a ta):JE X (.UnaryOp .Not a pos) (b6w ta):=⟨b7L b.h⟩
def a0d{op}(h:JE X a ta):JE X (.BoolOp op [a] pos) ta:=⟨b7K h.h⟩
def U8(c:JE X a ta)(d:JE X (.BoolOp .And (b::rest) pos) tb):JE X (.BoolOp .And (a::b::rest) pos) (b6z ta tb):=⟨b7R c.h d.h⟩
def b9L(c:JE X a ta)(d:JE X (.BoolOp .Or (b::rest) pos) tb):JE X (.BoolOp .Or (a::b::rest) pos) (b9g ta tb):=⟨b9A c.h d.h⟩
def b9M(f:JT X c tA)(d:JE X a ta)(e:JE X b tb):JE X (.IfExp c a b pos) (tIf tA ta tb):=⟨b2J f.h d.h e.h⟩
def a4y(c:JE X a ta)(d:JE X b tb):JE X (.Compare a [.Eq] [b] pos) (tOp (rEq) ta tb):=⟨a1i b6P c.h d.h (J9 _)⟩
def X7(c:JE X a ta)(d:JE X b tb):JT X (.Compare a [.Eq] [b] pos) (Z1 (tOp (rEq) ta tb)):=⟨N1 b6P c.h d.h (J9 _)⟩
def b6T(c:JE X a ta)(d:JE X b tb):JT X (.Compare a [.NotEq] [b] pos) (Z1 (tOp (rNe) ta tb)):=⟨N1 b9E c.h d.h (J9 _)⟩
def b3p(c:JE X a ta)(d:JE X b tb):JT X (.Compare a [.Lt] [b] pos) (Z1 (tOp (rI0 λi j=>.bl (decide (i<j))) ta tb)):=⟨N1 b9F c.h d.h (J9 _)⟩
def b6S(c:JE X a ta)(d:JE X b tb):JE X (.Compare a [.LtE] [b] pos) (tOp (rI0 λi j=>.bl (decide (i<=j))) ta tb):=⟨a1i b9G c.h d.h (J9 _)⟩
def a9k(c:JE X a ta)(d:JE X b tb):JT X (.Compare a [.Gt] [b] pos) (Z1 (tOp (rI0 λi j=>.bl (decide (j<i))) ta tb)):=⟨N1 b9H c.h d.h (J9 _)⟩
def b9J(c:JE X a ta)(d:JE X b tb):JE X (.Compare a [.GtE] [b] pos) (tOp (rI0 λi j=>.bl (decide (j<=i))) ta tb):=⟨a1i b6O c.h d.h (J9 _)⟩
def b9K(c:JE X a ta)(d:JE X b tb):JT X (.Compare a [.GtE] [b] pos) (Z1 (tOp (rI0 λi j=>.bl (decide (j<=i))) ta tb)):=⟨N1 b6O c.h d.h (J9 _)⟩
def b3n(K:qF)(f:X.A.units+60<cLine)(d:JE X a ta)(e:JE X b tb)(c:X.K=K:=by rfl):JE X (.Compare a [.Eq] [b] pos) (tOp (a6x K false) ta tb):=⟨a1i (b8a K f c) d.h e.h (J9 _)⟩
def b3o(K:qF)(f:X.A.units+60<cLine)(d:JE X a ta)(e:JE X b tb)(c:X.K=K:=by rfl):JT X (.Compare a [.NotEq] [b] pos) (Z1 (tOp (a6x K true) ta tb)):=⟨N1 (b7W K f c) d.h e.h (J9 _)⟩
def b8s(c:JE X a ta)(d:JE X b tb):JE X (.Compare a [.Is] [b] pos) (tOp (λx y H Q=>y=.non/\Q (.bl (decide (x=.non))) H) ta tb):=⟨a1i b2P c.h d.h (J9 _)⟩
def b8u(c:JE X a ta)(d:JE X b tb):JT X (.Compare a [.Is] [b] pos) (Z1 (tOp (λx y H Q=>y=.non/\Q (.bl (decide (x=.non))) H) ta tb)):=⟨N1 b2P c.h d.h (J9 _)⟩
def a2H(c:JE X a ta)(d:JE X b tb):JT X (.Compare a [.IsNot] [b] pos) (Z1 (tOp (λx y H Q=>y=.non/\Q (.bl (!decide (x=.non))) H) ta tb)):=⟨N1 b5y c.h d.h (J9 _)⟩
def b0E(k:Bool)(c:JE X a ta)(d:JE X b tb):JT X (.Compare a [.IsNot] [b] pos) (Z1 (tOp (λx y H Q=>y=.bl k/\Q (.bl (!a8T x k)) H) ta tb)):=⟨N1 (b0o (b:=k)) c.h d.h (J9 _)⟩
def a1j(h:JW X e tA):JT X e tA:=⟨h.h.pt⟩
def W5(b:JT X a tA):JW X (.BoolOp .And [a] pos) tA:=⟨pw_and1 b.h⟩
def a0R(b:JT X a tA):JW X (.BoolOp .Or [a] pos) tA:=⟨pw_or1 b.h⟩
def a0S(c:JT X a tA)(d:JW X (.BoolOp .And (b::rest) pos) tB):JW X (.BoolOp .And (a::b::rest) pos) (b9m tA tB):=⟨pw_and c.h d.h⟩
def a2e(c:JT X a tA)(d:JW X (.BoolOp .Or (b::rest) pos) tB):JW X (.BoolOp .Or (a::b::rest) pos) (tOr tA tB):=⟨pw_or c.h d.h⟩
def G2(b:JT X a tA):JT X (.UnaryOp .Not a pos) (b9h tA):=⟨b7w b.h⟩
def C6(K:qF)(d:JE X a ta)(e:∀b,isTrue a X.env b=(do let v <-b;standAt a.pos;holding [v] (truthy v)):=by intro _;rfl)(c:X.K=K:=by rfl):JT X a (b9e K ta):=⟨b0h K d.h e c⟩
def jaN:JA X [] a2f:=⟨b7T⟩
def jaC(a:JE X e te)(b:JA X es t)(hs:starEach (e::es) X.env=(false,eval e X.env)::starEach es X.env:=by rfl):JA X (e::es) (a6c te t):=⟨b5w a.h b.h hs⟩
def E3{x1}(h:JA X es t):JE X (.Tuple es x1 pos) (b7k t):=⟨b7I h.h⟩
def Y0(h:JA X es t):JE X (.List es pos) (b4A t):=⟨b7N h.h⟩
def T3(K:qF)(d:JE X a ta)(e:JE X b tb)(hs:a1s b:=by intro _ _;rfl)(c:X.K=K:=by rfl):JE X (.Subscript a b pos) (tOp (b4X K) ta tb):=⟨b6N (b3E K c) d.h e.h hs⟩
def G1(K:qF)(d:JE X a ta)(e:JE X b tb)(hs:a1s b:=by intro _ _;rfl)(c:X.K=K:=by rfl):JE X (.Subscript a b pos) (tOp (b4W K) ta tb):=⟨b6N (b5X K c) d.h e.h hs⟩
def S9:JO X none V8:=⟨b5g⟩
def S7(h:JE X e te):JO X (some e) (a8E te):=⟨b5f h.h⟩
def b6V(K:qF){lo hi:qD Expr}{tl th:TO}(b:JE X e te)(c:JO X lo tl)(d:JO X hi th)(a:X.K=K:=by rfl):JE X (.Subscript e (.Slice lo hi none p2) pos) (tSl (b7r K) te tl th):=⟨a3f (b1V K a) b.h c.h d.h⟩
def b3A(K:qF){lo hi:qD Expr}{tl th:TO}(b:JE X e te)(c:JO X lo tl)(d:JO X hi th)(a:X.K=K:=by rfl):JE X (.Subscript e (.Slice lo hi none p2) pos) (tSl (b2r K) te tl th):=⟨a3f (b4F K a) b.h c.h d.h⟩
def A6{ps:qA Str}(O:Ok X.prog X.w X.K X.mg X.base x k ps sp)(g:Room k X.A)(f:Gl X x)(c:JA X (e::es) t)(a:(x==("__debug__" : Str))=false:=by decide)
  (d:starEach (e::es) X.env=(false,eval e X.env)::starEach es X.env:=by rfl) (b:(backTo pos (starEach es X.env)).any (·.1)=false:=by rfl):JE X (.Call (.Name x p) (e::es) [] pos) (a8G sp [] E0 t):=⟨b2L O g f c.h a d b⟩
def G8(K:qF)(f:Gl X "len")(g:X.mg "len"=none)(c:JA X (e::es) t)(b:X.K=K:=by rfl)(d:starEach (e::es) X.env=(false,eval e X.env)::starEach es X.env:=by rfl)(a:(backTo pos (starEach es X.env)).any (·.1)=false:=by rfl):JE X (.Call (.Name "len" p) (e::es) [] pos) (tCB (b9r K) t):=⟨D8 (b1e K b) f g b4m c.h (by decide) (by decide) d a⟩
def a7U(K:qF)(g:Gl X "sum")(h:X.mg "sum"=none)(c:JA X (e::es) t)(d:X.calm=true:=by rfl)(b:X.K=K:=by rfl)(f:starEach (e::es) X.env=(false,eval e X.env)::starEach es X.env:=by rfl)(a:(backTo pos (starEach es X.env)).any (·.1)=false:=by rfl):JE X (.Call (.Name "sum" p) (e::es) [] pos) (tCB (b7q K) t):=⟨D8 (b0X K d b) g h b8M c.h (by decide) (by decide) f a⟩
def P0(K:qF)(g:Gl X "all")(h:X.mg "all"=none)(c:JA X (e::es) t)(d:X.calm=true:=by rfl)(b:X.K=K:=by rfl)(f:starEach (e::es) X.env=(false,eval e X.env)::starEach es X.env:=by rfl)(a:(backTo pos (starEach es X.env)).any (·.1)=false:=by rfl):JE X (.Call (.Name "all" p) (e::es) [] pos) (tCB (b7u K) t):=⟨D8 (b1j K d b) g h b8R c.h (by decide) (by decide) f a⟩
def b8x(K:qF)(g:Gl X "any")(h:X.mg "any"=none)(c:JA X (e::es) t)(d:X.calm=true:=by rfl)(b:X.K=K:=by rfl)(f:starEach (e::es) X.env=(false,eval e X.env)::starEach es X.env:=by rfl)(a:(backTo pos (starEach es X.env)).any (·.1)=false:=by rfl):JE X (.Call (.Name "any" p) (e::es) [] pos) (tCB (b7t K) t):=⟨D8 (b1i K d b) g h b8Q c.h (by decide) (by decide) f a⟩
def C5(K:qF)(f:Gl X "isinstance")(g:X.mg "isinstance"=none)(c:JA X (e::es) t)(b:X.K=K:=by rfl)(d:starEach (e::es) X.env=(false,eval e X.env)::starEach es X.env:=by rfl)(a:(backTo pos (starEach es X.env)).any (·.1)=false:=by rfl):JE X (.Call (.Name "isinstance" p) (e::es) [] pos) (tCB (b7s K) t):=⟨D8 (b1f K b) f g a0M c.h (by decide) (by decide) d a⟩
def b8w(f:Gl X "min")(g:X.mg "min"=none)(b:JA X (e::es) t)(c:X.calm=true:=by rfl)(d:starEach (e::es) X.env=(false,eval e X.env)::starEach es X.env:=by rfl)(a:(backTo pos (starEach es X.env)).any (·.1)=false:=by rfl):JE X (.Call (.Name "min" p) (e::es) [] pos) (tCB (b9p) t):=⟨D8 (b0Z c) f g b8O b.h (by decide) (by decide) d a⟩
def b3v(f:Gl X "max")(g:X.mg "max"=none)(b:JA X (e::es) t)(c:X.calm=true:=by rfl)(d:starEach (e::es) X.env=(false,eval e X.env)::starEach es X.env:=by rfl)(a:(backTo pos (starEach es X.env)).any (·.1)=false:=by rfl):JE X (.Call (.Name "max" p) (e::es) [] pos) (tCB (b9q) t):=⟨D8 (b1b c) f g b8P b.h (by decide) (by decide) d a⟩
def C2(K:qF)(f:Gl X "tuple")(g:X.mg "tuple"=none)(c:JA X (e::es) t)(b:X.K=K:=by rfl)(d:starEach (e::es) X.env=(false,eval e X.env)::starEach es X.env:=by rfl)(a:(backTo pos (starEach es X.env)).any (·.1)=false:=by rfl):JE X (.Call (.Name "tuple" p) (e::es) [] pos) (tCB (b2o K) t):=⟨U7 (a7f K b) f g V4 c.h (by decide) (by decide) d a⟩
def a9n(K:qF)(f:Gl X "list")(g:X.mg "list"=none)(c:JA X (e::es) t)(b:X.K=K:=by rfl)(d:starEach (e::es) X.env=(false,eval e X.env)::starEach es X.env:=by rfl)(a:(backTo pos (starEach es X.env)).any (·.1)=false:=by rfl):JE X (.Call (.Name "list" p) (e::es) [] pos) (tCB (b6L K) t):=⟨U7 (a8j K b) f g b6l c.h (by decide) (by decide) d a⟩
def b3w(d:Gl X "int")(f:X.mg "int"=none)(b:JA X (e::es) t)(c:starEach (e::es) X.env=(false,eval e X.env)::starEach es X.env:=by rfl)(a:(backTo pos (starEach es X.env)).any (·.1)=false:=by rfl):JE X (.Call (.Name "int" p) (e::es) [] pos) (tCB (b9t) t):=⟨U7 b1g d f a8n b.h (by decide) (by decide) c a⟩
def a0x(K:qF)(h:JE X o to)(g:JA X (e::es) t)(f:X.K=K:=by rfl)(b:attributeBase o "append" X.env (eval o X.env)=eval o X.env:=by rfl)
  (d:((backTo qM (starEach (e::es) X.env)).all (λx=>!x.1) && (backToKw qM (keywordEach [] X.env)).all (λx=>x.1.isSome) && decide ((e::es).length+([]:qA Keyword).length+(if ([]:qA Keyword).isEmpty then 0 else 1)<30))=true:=by rfl)
  (c:(qO.endLine==qM.line)=true:=by rfl) (hs:starEach (e::es) X.env=(false,eval e X.env)::starEach es X.env:=by rfl) (a:(backTo qM (starEach es X.env)).any (·.1)=false:=by rfl) :
  JE X (.Call (.Attribute o "append" qO) (e::es) [] qM) (tBM K "list" a9a to t):=⟨a7I K PySem.F.plainAttrs_list PySem.F.slot_list_append PySem.F.type_list_append b0z h.h g.h f b d c hs a⟩
def b3t(K:qF)(h:JE X o to)(g:JA X (e::es) t)(f:X.K=K:=by rfl)(b:attributeBase o "pop" X.env (eval o X.env)=eval o X.env:=by rfl)
  (d:((backTo qM (starEach (e::es) X.env)).all (λx=>!x.1) && (backToKw qM (keywordEach [] X.env)).all (λx=>x.1.isSome) && decide ((e::es).length+([]:qA Keyword).length+(if ([]:qA Keyword).isEmpty then 0 else 1)<30))=true:=by rfl)
  (c:(qO.endLine==qM.line)=true:=by rfl) (hs:starEach (e::es) X.env=(false,eval e X.env)::starEach es X.env:=by rfl) (a:(backTo qM (starEach es X.env)).any (·.1)=false:=by rfl) :
  JE X (.Call (.Attribute o "pop" qO) (e::es) [] qM) (tBM K "list" b2s to t):=⟨a7I K PySem.F.plainAttrs_list PySem.F.slot_list_pop PySem.F.type_list_pop b3g h.h g.h f b d c hs a⟩
def a4z(K:qF)(h:JE X o to)(g:JA X (e::es) t)(f:X.K=K:=by rfl)(b:attributeBase o "extend" X.env (eval o X.env)=eval o X.env:=by rfl)
  (d:((backTo qM (starEach (e::es) X.env)).all (λx=>!x.1) && (backToKw qM (keywordEach [] X.env)).all (λx=>x.1.isSome) && decide ((e::es).length+([]:qA Keyword).length+(if ([]:qA Keyword).isEmpty then 0 else 1)<30))=true:=by rfl)
  (c:(qO.endLine==qM.line)=true:=by rfl) (hs:starEach (e::es) X.env=(false,eval e X.env)::starEach es X.env:=by rfl) (a:(backTo qM (starEach es X.env)).any (·.1)=false:=by rfl) :
  JE X (.Call (.Attribute o "extend" qO) (e::es) [] qM) (tBM K "list" a8Z to t):=⟨a7I K PySem.F.plainAttrs_list PySem.F.slot_list_extend PySem.F.type_list_extend b0y h.h g.h f b d c hs a⟩
def A7(a:X.N.Nodup)(hi:X.N[i]?=some x)(c:Loc X.env.scope x)(b:X.fn x=true∨X.env.scope.names.lookup x=some .local:=by first|exact .inl rfl|exact .inr rfl|assumption):JG X (.Name x pos) (B0 i):=⟨b5q a hi c b⟩
def K2:JGs X [] a8b:=⟨b5o⟩
def B5{u:TGs}(h1:JG X e g)(h2:JGs X es u)(hs:(assignEach (e::es) X.env).map (·.2)=assign e X.env::(assignEach es X.env).map (·.2):=by rfl):JGs X (e::es) (Y5 g u):=⟨b2G h1.h h2.h hs⟩
def O8(K:qF)(n:Nat){u:TGs}(h:JGs X es u)(c:X.calm=true:=by rfl)(b:X.K=K:=by rfl)(d:(assignEach es X.env).length=n:=by rfl)(a:(assignEach es X.env).findIdx? (·.1)=none:=by rfl):JG X (.Tuple es k pos) (a6W K n u):=⟨b5p K c h.h b d a⟩
def a7T{i:Expr}{a:TE}(c:JE X o to)(hi:JE X i a)
  (b:∀v,assign (.Subscript o i pos) X.env v=(do
   let ov <-holding [v] (eval o X.env)
   let iv <-holding [v,ov] (eval i X.env)
   standAt pos
   holding [v,ov,iv] (setItem ov iv v)
   release [v,ov,iv] []):=by intro _;rfl):JG X (.Subscript o i pos) (b9P to a b6J):=⟨b7H c.h hi.h b1Y b⟩
def F0(K:qF){l:Expr}(b:JE X l tl)(a:X.K=K:=by rfl):JI X tg l (b3H K tl):=⟨b2F K b.h a⟩
def G7(K:qF){l:Expr}(b:JE X l tl)(a:X.K=K:=by rfl):JI X tg l (b8D K tl):=⟨b5k K b.h a⟩
def a1I(K:qF){h:Nat}{i:Pos}(f:Gl X "zip")(g:X.mg "zip"=none)(e:JA X [a,b] t)(d:X.K=K:=by rfl)(hs:starEach [a,b] X.env=[(false,eval a X.env),(false,eval b X.env)]:=by rfl)(c:starEach [b] X.env=[(false,eval b X.env)]:=by rfl) :
  JI X (.Tuple es h i) (.Call (.Name "zip" p) [a,b] [] pos) (b8C K t):=⟨b5j K f g e.h d hs c⟩
def E4(c:Gl X "range")(d:X.mg "range"=none)(b:JA X [a] t)(hs:starEach [a] X.env=[(false,eval a X.env)]:=by rfl):JI X tg (.Call (.Name "range" p) [a] [] pos) (b6X t):=⟨b0l c d b.h hs⟩
def C1:JF X [] O3:=⟨b5i⟩
def a1J(h:JT X c tA):JF X [c] tA:=⟨b5h h.h⟩
def B7{b c:Expr}{f:qA Expr}{scope:Scope}{j:TI}{i:TT}(hi:JI X tg b j)(e:B9 scope X.env.scope=true)(d:M3 N src X.N scope=true)(h:a5r scope=true)
  (m:∀a C s H ex,JG (X.blk N scope a C s H ex) tg g) (n:∀a C s H ex,JF (X.blk N scope a C s H ex) f i) (l:∀a C s H ex,JE (X.blk N scope a C s H ex) c te)
  (k:X.calm=true:=by rfl) (hs:∀x,foldedSetIterable b X.env x=pure x:=by intro _;rfl):JE X (.ListComp c [⟨tg,b,f,0⟩] scope pos) (a6d src j g i te) :=
 ⟨b5u k hi.h e d h (λ_ _ _ _ _=>(m _ _ _ _ _).h) (λ_ _ _ _ _=>(n _ _ _ _ _).h) (λ_ _ _ _ _=>(l _ _ _ _ _).h) hs⟩
variable {sts:qA Stmt}{u v:TS}
def B6:JB X [] b1G:=⟨b5a⟩
def A2(h1:JS X st u)(h2:JB X sts v):JB X (st::sts) (b7l u v):=⟨b2w h1.h h2.h⟩
def A4(h1:JS X st u):JB X [st] u:=⟨b4Z h1.h⟩
def b3s:JS X (.Break pos) b1I:=⟨b2B⟩
def A8(a:JE X e te):JS X (.Return (some e) pos) (b7m te):=⟨b7z a.h⟩
def W7(a:JE X e te)(hs:swapsWith e none pos.line X.env=pure false:=by rfl):JS X (.Expr e pos) (b6y te):=⟨b5c a.h hs⟩
def C7{A:qA Stmt}(d:JT X c tA)(a:JB X A u)(b:JB X B v):JS X (.If c A B pos) (b9i tA u v):=⟨b9x d.h a.h b.h⟩
def b3q(b:JT X c tA)(a:JB X B v)(hp:PassesOwn (model X.prog X.w) X.A X.env X.xe:=by exact PassesOwn.never):JS X (.While c B [] pos) (b1C tA v):=⟨b2x hp b.h a.h⟩
def O7{a:Expr}{b:TI}(hi:JI X tg a b)(e:JG X tg g)(c:JB X B v)(hp:PassesOwn (model X.prog X.w) X.A X.env X.xe:=by exact PassesOwn.never)(d:X.calm=true:=by rfl)
  (hs:∀x,foldedSetIterable a X.env x=pure x:=by intro _;rfl):JS X (.For tg a B [] pos) (b9j b g v):=⟨b7B hp d hi.h e.h c.h hs⟩
def B1{pos':Pos}(a:X.N.Nodup)(hi:X.N[i]?=some x)(d:Loc X.env.scope x)(b:JE X e te)(hs:swapsWith e (some (.Name x pos')) pos.line X.env=pure false:=by rfl)
  (c:X.fn x=true∨X.env.scope.names.lookup x=some .local:=by first|exact .inl rfl|exact .inr rfl|assumption):JS X (.Assign [.Name x pos'] e pos) (a9S te (B0 i)):=⟨b7y a hi d b.h hs c⟩
def a5C{y:Str}{m c:Pos}{b d:Expr}{e:qA Expr}{scope:Scope}{o:TI}{n:TT}
  (p:X.N.Nodup) (w:X.N[i]?=some y) (v:Loc X.env.scope y) (hi:JI X tg b o) (h:B9 scope X.env.scope=true) (f:M3 N src X.N scope=true) (k:a5r scope=true)
  (t:∀a C s H ex,JG (X.blk N scope a C s H ex) tg g) (u:∀a C s H ex,JF (X.blk N scope a C s H ex) e n) (j:∀a C s H ex,JE (X.blk N scope a C s H ex) d te)
  (q:X.calm=true:=by rfl) (l:swapsWith (.ListComp d [⟨tg,b,e,0⟩] scope pos) (some (.Name y m)) c.line X.env=pure true:=by rfl) (hs:∀x,foldedSetIterable b X.env x=pure x:=by intro _;rfl)
  (r:X.fn y=true∨X.env.scope.names.lookup y=some .local:=by first|exact .inl rfl|exact .inr rfl|assumption) :
  JS X (.Assign [.Name y m] (.ListComp d [⟨tg,b,e,0⟩] scope pos) c) (a9S (a6d src o g n te) (B0 i)) :=
 ⟨b5b p w v q hi.h h f k (λ_ _ _ _ _=>(t _ _ _ _ _).h) (λ_ _ _ _ _=>(u _ _ _ _ _).h) (λ_ _ _ _ _=>(j _ _ _ _ _).h) l hs r⟩
def a3x(a:JE X e te)(b:JG X tg g)(hs:swapsWithSole [tg] e pos.line X.env=pure false:=by rfl)(hw:swappedStores [tg] e X.env=pure none:=by rfl)
  (h1:(assignEach [tg] X.env).map (·.2)=[assign tg X.env]:=by rfl):JS X (.Assign [tg] e pos) (a9S te g):=⟨b7D a.h b.h hs hw h1⟩
end
section
variable {P:qG}{w:World}{mg:Str->qD qB}{base:Heap}
def FunAt.okJ{ps:qA Str}(F:FunAt K mg x st ps)(S:FnScope N ps (A1 st))(c:∀vs H Q E,sp vs H Q E->vs.length=ps.length)
  (b:∀(a:qB) (f:qE) (A:Around) (outer:qA Env) (s:qC) (H:Hp) (vs:qA V) (Q:VK) (E:XK),Room k (A.deeper (envOfC x (A1 st) s.heap.objs.size f a))->sp vs H Q E ->
   ∃t,JB (K4 CX0 P w K mg base N x (A1 st) f a A outer s H E).nox (E7 st) t/\t {nx:=λ_ H'=>Q .non H',rt:=Q} (start N vs) H):Ok P w K mg base x (k+1) ps sp :=
 F.ok S c λa f A outer s H vs Q E e h=>let ⟨t,d,r⟩:=b a f A outer s H vs Q E e h;⟨t,d.h,r⟩
def Fun.okJ{qual:Str}{f:qE}{fd:FuncData}{ps:qA Str}(F:Fun K x qual st f fd)(S:FnScope N ps (A1 st))(c:∀vs H Q E,sp vs H Q E->vs.length=ps.length)
  (b:∀(a:qB) (A:Around) (outer:qA Env) (s:qC) (H:Hp) (vs:qA V) (Q:VK) (E:XK),Room k (A.deeper (envOfC qual (A1 st) s.heap.objs.size f a))->sp vs H Q E ->
   ∃t,JB (K4 CX0 P w K mg base N qual (A1 st) f a A outer s H E).nox (E7 st) t/\t {nx:=λ_ H'=>Q .non H',rt:=Q} (start N vs) H):FnOk P w K mg base CX0 (k+1) f fd ps sp :=
 F.ok S c λa A outer s H vs Q E e h=>let ⟨t,d,r⟩:=b a A outer s H vs Q E e h;⟨t,d.h,r⟩
end
def a8N(K:qF):Sp:=λvs H Q _=>∃(a:qE) (ns:qI),vs=[.ref a]/\SqL K H a (ns.map V.int)/\ns.length<=63/\∀H',Q (.bl true) H'
def law_walk{l:PySem.W.OpenLaw}{q:qG}{b:qA Str}{XP:(Str->qD qB)->Heap->Prop}{e:World->Heap->Prop}{d:DefRec}{K:Params->qF}(k:Nat)(o:l.most=some 63)(c:d.params.defaults=[])(p:Room k callerA)
  (j:∀(w:World) (h:Heap),e w h->(K w.params).In h)
  (F:∀(w:World) (mg:Str->qD qB) (g:qE) (h:Heap),(K w.params).In h->h.Ns mainGlobals mg->mg d.name=some (.ref g) ->
   ∃fd:FuncData,(∀(s:qC) (u:qB),BindsTo s fd ⟨[u],[]⟩ [("_law_script",u)])/\∀base:Heap,(K w.params).In base->base.Ns mainGlobals mg->FnOk l.prog w (K w.params) mg base CX0 k g fd ["_law_script"] (a8N (K w.params))) :
  PySem.W.WalkO q b XP e l.row.toRowW d [] (λf vs=>PySem.call f vs) :=
 L2.walk_of (n:=63) (k:=k) (x:="_law_script") (CX:=λ_=>CX0) (sp:=λw=>a8N (K w.params)) o (by decide) c p j F (λ_ _ a r m _ i=>⟨a,r,rfl,i,m,λ_=>rfl⟩) λ_ _ _ _ _ z=>z
def Its(H:Hp)(vs:qA V)(rss:LLI):Prop:=vs.length=rss.length/\∀(i:Nat) (v:V),vs[i]?=some v->∃r,rss[i]?=some r/\IT H v r
def Its.same{H H':Hp}{vs:qA V}{rss:LLI}(h:Its H vs rss)(s:Same H H'):Its H' vs rss:=⟨h.1,λi v e=>let ⟨r,e1,e2⟩:=h.2 i v e;⟨r,e1,e2.same s⟩⟩
def Its.nil:Its H [] []:=⟨rfl,λi v e=>by simp at e⟩
def Its.snoc{r:qI}(h:Its H vs rss)(d:IT H v r):Its H (vs++[v]) (rss++[r]):=by
 refine⟨by simp[h.1],λi u e=>?_⟩;by_cases hi:i<vs.length
 .rw[bx hi]at e;obtain⟨q,b,c⟩:=h.2 i u e;exact⟨q,by rw[bx (by rw[<-h.1];exact hi)];exact b,c⟩
 .rw[a' (by omega)]at e;have a:i-vs.length=0:=by
   have:=(aL.mp e).1;simp at this;omega
  rw[a]at e;simp at e;subst e;refine⟨r,?_,d⟩;rw[a' (by rw[<-h.1];omega),<-h.1,a];rfl
def Its.mem(h:Its H vs rss)(e:vs[i]?=some v):∃r,r∈rss/\rss[i]?=some r/\IT H v r :=
 let ⟨r,e1,e2⟩:=h.2 i v e
 ⟨r,aH e1,e1,e2⟩
def a9K{k1 k2:Bool}{ys:qI}(f:Int->Int->V)(t:xs.length<=1000)
  (c:∀H',Same H H'->SqK k1 K H' a (xs.map V.int)/\SqK k2 K H' b (ys.map V.int))
  (g:B2 src σ=none::none::caps) (n:∀x y H1 o,x∈xs->y∈ys->Same H H1->o (f x y) H1->te (some (.int x)::some (.int y)::caps) H1 o)
  (hd:∀H1 p,Same H H1->H1 p=none->Q (.ref p) (upd H1 p (.lst (List.zipWith f xs ys)))) :
  E8 src (a6W K 2 (Y5 (B0 0) (Y5 (B0 1) a8b))) O3 te σ Q (Itz K k1 k2 a b) H:=by
 have u:(1000:Nat)<=sizeLine:=by rw[aU];decide
 refine V1 (xs:=xs.map V.int) (zs:=ys.map V.int) (by rw[G4];omega) (λi zs H'=>Same H H'/\zs=(List.zipWith f xs ys).take i) ⟨Same.refl H,by simp⟩ (λi zs H' _ _ h=>⟨(c H' h.1).1,(c H' h.1).2,by rw[h.2];exact bE _ _⟩) ?_ ?_
 .rintro i x z zs H' p hx hy ⟨s,rfl⟩ hp;obtain⟨m,k,q⟩:=L6 hx;obtain⟨d,l,r⟩:=L6 hy;subst q r;clear hx hy;have s':Same H (upd H' p (.tup [.int m,.int d])):=s.upd hp;refine⟨p,[.int m,.int d],rfl,SqT.of A0,rfl,.int m,[.int d],rfl,.int d,[],rfl,rfl,?_⟩;rw[g];show Sub _ (some (.int m)::some (.int d)::caps)/\_;refine⟨⟨rfl,λj v e=>?_⟩,?_⟩
  .match j,e with
   |0,e=>cases e
   |1,e=>cases e
   |j+2,e=>exact e
  .exact n m d _ _ (aH k) (aH l) s' ⟨s',(M4 f k l).symm⟩
 .rintro zs H' ⟨s,rfl⟩ p hp;have e:(List.zipWith f xs ys).take (min (xs.map V.int).length (ys.map V.int).length)=List.zipWith f xs ys:=by
   rw[G4,G4,bP];rw[cN];exact ak _
  rw[e];exact hd H' p s hp
def a8D(f:qI->V)(l:vs.length<=1000)(b:∀H',Same H H'->SqT K H' a vs)(hI:Its H vs rss)(c:B2 src σ=none::caps)
  (g:∀v r H1 j,r∈rss->IT H1 v r->Same H H1->(∀H2,Same H1 H2->j (f r) H2)->te (some v::caps) H1 j) (hd:∀H1 p,Same H H1->H1 p=none->Q (.ref p) (upd H1 p (.lst (rss.map f)))):E8 src (B0 0) O3 te σ Q (Itt K a) H:=by
 have m:(1000:Nat)<=sizeLine:=by rw[aU];decide
 refine P8 (xs:=vs) (by omega) (λi ys H'=>Same H H'/\ys=(rss.take i).map f) ⟨Same.refl H,by simp⟩ (λi ys H' _ h=>⟨b H' h.1,by rw[h.2,ai];exact bE _ _⟩) ?_ ?_
 .rintro i x ys H' hx ⟨s,rfl⟩;obtain⟨r,k,d,e⟩:=hI.mem hx;show Sub _ ((B2 src σ).set 0 (some x))/\_;rw[c];refine⟨Sub.one,g x r H' _ k (e.same s) s λH2 s2=>⟨s.trans s2,?_⟩⟩;rw[ba,d];simp
 .rintro ys H' ⟨s,rfl⟩ p hp;rw[hI.1,bg];exact hd H' p s hp
def b1o{k1 k2:Bool}{us:qA V}(f:Int->qI->V)(u:xs.length<=1000)
  (c:∀H',Same H H'->SqK k1 K H' a (xs.map V.int)/\SqK k2 K H' b us) (hI:Its H us rss)
  (d:B2 src σ=none::none::caps) (n:∀x v r H1 o,x∈xs->r∈rss->IT H1 v r->Same H H1->o (f x r) H1->te (some (.int x)::some v::caps) H1 o)
  (hd:∀H1 p,Same H H1->H1 p=none->Q (.ref p) (upd H1 p (.lst (List.zipWith f xs rss)))) :
  E8 src (a6W K 2 (Y5 (B0 0) (Y5 (B0 1) a8b))) O3 te σ Q (Itz K k1 k2 a b) H:=by
 have w:(1000:Nat)<=sizeLine:=by rw[aU];decide
 refine V1 (xs:=xs.map V.int) (zs:=us) (by rw[G4];omega) (λi zs H'=>Same H H'/\zs=(List.zipWith f xs rss).take i) ⟨Same.refl H,by simp⟩ (λi zs H' _ _ h=>⟨(c H' h.1).1,(c H' h.1).2,by rw[h.2];exact bE _ _⟩) ?_ ?_
 .rintro i x z zs H' p hx hy ⟨s,rfl⟩ hp;obtain⟨k,g,q⟩:=L6 hx;subst q;obtain⟨r,t,l,m⟩:=hI.mem hy;have s':Same H (upd H' p (.tup [.int k,z])):=s.upd hp;refine⟨p,[.int k,z],rfl,SqT.of A0,rfl,.int k,[z],rfl,z,[],rfl,rfl,?_⟩;rw[d];show Sub _ (some (.int k)::some z::caps)/\_;refine⟨⟨rfl,λj v e=>?_⟩,?_⟩
  .match j,e with
   |0,e=>cases e
   |1,e=>cases e
   |j+2,e=>exact e
  .exact n k z r _ _ (aH g) t (m.same s') s' ⟨s',(M4 f g l).symm⟩
 .rintro zs H' ⟨s,rfl⟩ p hp;have e:(List.zipWith f xs rss).take (min (xs.map V.int).length us.length)=List.zipWith f xs rss:=by
   rw[G4,hI.1,bP];rw[cN];exact ak _
  rw[e];exact hd H' p s hp
def a7E{d:TT}(t:Nat->Bool)(f:n<=1000)(a:B2 src σ=none::caps)(b:∀(i:Nat) H1 (c:Bool->Hp->Prop),i<n->Same H H1->(∀H2,Same H1 H2->c (t i) H2)->d (some (.int i)::caps) H1 c)
  (hd:∀H1 p,Same H H1->H1 p=none->Q (.ref p) (upd H1 p (.lst ((((List.range n).filter t).map λ(i:Nat)=>(i:Int)).map V.int)))):E8 src (B0 0) d (Z0 0) σ Q (Itr 0 n) H:=by
 refine a1g f a (λi ys H'=>Same H H'/\ys=(((List.range i).filter t).map λ(i:Nat)=>(i:Int)).map V.int) ⟨Same.refl H,rfl⟩ (λi ys H' h=>by rw[h.2,ai,ai];exact bh (bu _ _) (by simp)) ?_ ?_
 .rintro i ys H' hi ⟨s,rfl⟩;refine b i H' _ hi s λH2 s2=>?_;rw[List.range_succ,List.filter_append];cases e:t i with
  |true=>exact⟨_,rfl,s.trans s2,by simp[e]⟩
  |false=>exact⟨s.trans s2,by simp[e]⟩
 .rintro ys H' ⟨s,rfl⟩ p hp;exact hd H' p s hp
end L2
namespace L2
open PySem PySem.Spec PyProof.Rows PySem.W
variable {A:Around}{C:qE}{H:Hp}{N ps:qA Str}{P:qG}{X:Cx}{base h:Heap}{qM pos:Pos}{e:Expr}{es:qA Expr}{i k:Nat}{mg:Str->qD qB}{qP:String}{sp:Sp}{t:TA}{w:World}{x:Str}
def a2p(p C:qE):HO:=.ext λh=>∃o,h.get? p=some o/\o.cls=.ref C
def ObjOk.there{a:qE}{o:HO}(x:ObjOk P w H h a o):∃u,h.get? a=some u:=by
 induction o with
 |lst xs=>obtain⟨_,_,_,_,e⟩:=x;exact⟨_,e⟩
 |tup xs=>obtain⟨_,_,_,b,e,_⟩:=x;exact⟨_,e⟩
 |dK qL=>obtain⟨_,_,_,_,o,_,_,e,_⟩:=x;exact⟨_,e⟩
 |dT qL=>obtain⟨_,_,_,_,o,_,_,e,_⟩:=x;exact⟨_,e⟩
 |set S n=>obtain⟨o,_,_,_,e,_⟩:=x;exact⟨_,e⟩
 |ins C dx fs=>obtain⟨_,_,_,e,_⟩:=x;exact⟨_,e⟩
 |own y=>obtain⟨_,e⟩:=x;exact⟨_,e⟩
 |xd fs=>obtain⟨_,⟨_,_,_,e,_⟩,_⟩:=x;exact⟨_,e⟩
 |rng lo hi=>obtain⟨_,_,_,e⟩:=x;exact⟨_,e⟩
 |frz b u c=>obtain⟨e,_⟩:=x;exact⟨_,e⟩
 |tbl ps=>exact⟨_,x⟩
 |met f y=>exact⟨_,x⟩
 |ext φ=>exact x.2.1
def Cov(l:qA Env)(H:Hp)(h0 h B:Heap):Prop:=∀b o,h.get? b=some o->b∉frs l->(H b≠none∨∃o',h0.get? b=some o')->B.get? b=some o
def a1l{l:qA Env}{H':Hp}{h0 h1 h2 B:Heap}(f:Un (frs l) [] H H' h0 h1)(j:HOk P w H' h1)(d:Cov l H' h0 h1 B)(st:B.StaysIn h2)(s:h1.UpToSlots h2)(p:h1.FunFrames base l)(t:∀b∈frs l,H' b=none) :
  Un (frs l) [] H H' h0 h2/\HOk P w H' h2/\Cov l H' h0 h2 B:=by
 have x:∀b,H' b≠none->b∉frs l:=λb n c=>n (t b c);refine⟨⟨?_,?_,f.free,?_,f.tups,f.frzs,f.tbls⟩,?_,?_⟩
 .intro b o e n c hx;exact st b o (d b o (f.keep b o e n c hx) c (.inr ⟨o,e⟩))
 .intro b o e n c hx;obtain⟨sl,q⟩:=f.slot b o e n c hx;obtain⟨_,v,i,nf⟩:=p.mem c;rw[q]at i;cases i;obtain⟨k,h⟩:=s b _ q nf;exact⟨k,h⟩
 .intro b o e hx;obtain⟨g,q⟩:=f.there b o e hx;by_cases c:b∈frs l
  .obtain⟨_,v,i,nf⟩:=p.mem c;rw[q]at i;cases i;obtain⟨k,h⟩:=s b _ q nf;exact⟨_,h⟩
  .exact⟨g,st b g (d b g q c (.inr ⟨o,e⟩))⟩
 .intro a o e;refine(j a o e).stay (λb u c q=>?_) (λ_ q=>q) λ_ _ q=>q;have m:H' b≠none:=by
   rcases c with rfl|c
   .rw[e];intro z;cases z
   .rw[c];intro z;cases z
  exact st b u (d b u q (x b m) (.inl m))
 .intro b o e c ho;have ex:∃g,h1.get? b=some g:=by
   rcases ho with m|⟨o',q⟩
   .cases eq:H' b with
    |none=>exact absurd eq m
    |some u=>exact(j b u eq).there
   .exact f.there b o' q (by simp)
  obtain⟨g,q1⟩:=ex;have h:=d b g q1 c ho;have r:=st b g h;rw[e]at r;cases r;exact h
def CXE(P:qG)(w:World):CXT:=λouter H s E e s' =>
 ∃(p C:qE) (H':Hp) (B:Heap) (a0:qB),e=.ref p/\s'.os=s.os/\AllBare s'.gens/\Un (frs outer) [] H H' s.heap s'.heap/\HOk P w H' s'.heap /\
  H' p=none/\Heap.FlyingW B outer p (.ref C) a0 s'.heap/\Cov outer H' s.heap s'.heap B/\E (.ref C) none H'
def b9W{K:qF}{bmB:qA qB}(X:K.In h)(f:mg x=some (.ref C))(q:excIn K C bmB qP=true):OwnCls x C bmB qP mg h:=by
 refine⟨f,?_⟩;unfold excIn at q;split at q
 .rename_i dd cd sl ho;split at q
  .rename_i C' bm k0 k1 k2 k3 n k5 hmro hs;simp only[aO,a_,ei]at q;obtain⟨⟨⟨⟨⟨rfl,rfl⟩,a⟩,g⟩,b⟩,c⟩:=q;obtain⟨nm,bs,i,j,qn,hd,sn,sub,ab,col,e⟩:=cd;dsimp only at hmro a b c;subst hmro a;have d:sl=#[k0,k1,k2,k3,some (.builtin n),k5]:=by
    obtain⟨l⟩:=sl;simp only at hs;rw[hs]
   subst d;exact⟨bm,j,nm,qn,bs,hd,sn,sub,ab,col,dd,k0,k1,k2,k3,k5,_,X _ _ ho,.of_isNs (isNs_of_in X b),nsMap_none_of_in X b c,tail_of_in X g⟩
  .cases q
 .cases q
def b1F(C:qE)(E:XK)(t:TA):TS:=λ_ σ H=>t σ H λvs H1=>vs.length<=sizeLine/\E (.ref C) none H1
def b2A{K:qF}{qual:Str}{scope:Scope}{f:qE}{cd:qB}{outer:qA Env}{s0:qC}{i:Hp}{E:XK}{bmB F:qA qB}{B X V g U:String}{np:Pos}
  (O:OwnCls x C bmB qP mg base) (Fn:ExcBaseFacts X qP U F) (J:bmB.contains (.type X)=true) (Y:ExcBaseFacts B V g bmB)
  (hg:Gl (K4 (CXE P w) P w K mg base N qual scope f cd A outer s0 i E) x)
  (ha:PA (K4 (CXE P w) P w K mg base N qual scope f cd A outer s0 i E) (e::es) t) (hd:(x==("__debug__" : Str))=false:=by decide)
  (y:starEach (e::es) (envOfC qual scope s0.heap.objs.size f cd)=(false,eval e (envOfC qual scope s0.heap.objs.size f cd))::starEach es (envOfC qual scope s0.heap.objs.size f cd):=by rfl)
  (S:(backTo qM (starEach es (envOfC qual scope s0.heap.objs.size f cd))).any (·.1)=false:=by rfl) :
  PS (K4 (CXE P w) P w K mg base N qual scope f cd A outer s0 i E) (.Raise (some (.Call (.Name x np) (e::es) [] qM)) none pos) (b1F C E t):=by
 intro qK s σ H D I h;obtain⟨tl,NC,nm,q,bs,m,sn,sub,ab,col,dd,k0,k1,k2,k3,k5,mN,hC,hN,R,T⟩:=O.obj;refine wpAny_Raise_call_subU (C:=C) (nm:=nm) (q:=q) (N:=NC) (bs:=bs) (bm:=tl) (hdct:=m) (sn:=sn) (sub:=sub) (ab:=ab) (col:=col) (dd:=dd) (k0:=k0) (k1:=k1) (k2:=k2) (k3:=k3) (k5:=k5)
  Fn J Y (mN:=mN) (T.hasType Y.hasBase) (I.ok.hd rfl) (by show(backTo qM (starEach (e::es) (envOfC qual scope s0.heap.objs.size f cd))).any _=false;rw[y];show(false || (backTo qM (starEach es (envOfC qual scope s0.heap.objs.size f cd))).any (·.1))=false;rw[S];rfl) R (N3 I hg O.bound ⟨rfl,?_⟩ hd)
 have k:=ha qM qK s σ H _ I h;have L:starEach (e::es) (K4 (CXE P w) P w K mg base N qual scope f cd A outer s0 i E).env=_:=y;rw[L]at k⊢;refine Calls.evalArgs_plain (cH k (λus s2 ⟨vs,H1,c,r,hl,q⟩=>⟨rfl,by rw[<-r.length];exact hl,c.bk _ _ hC,hN.keeps c.bk,T.keeps c.bk,λh' p Q=>?_⟩) λ_ _ z=>z);have M:∀a∈(envOfC qual scope s0.heap.objs.size f cd::outer),∀b,a.frame=some b->b∈frs (envOfC qual scope s0.heap.objs.size f cd::outer):=λa y b d=>cf.mpr ⟨a,y,d⟩;refine wpAny_leaves_madeW (base:=hideAll s2.heap (frs (envOfC qual scope s0.heap.objs.size f cd::outer))) (h:=s2.heap) c.ok.frames rfl (λb o q=>of_hideAll _ q) (funFrames_hide c.stack M) Q λh2 t x1 x2 x3 x4=>?_;have v:∀b∈frs outer,b∈frs (envOfC qual scope s0.heap.objs.size f cd::outer):=λb d=>by
  obtain⟨a,h1,h2⟩:=cf.mp d;exact cf.mpr ⟨a,au _ h1,h2⟩
 have n:∀b,b∉frs outer->b≠s0.heap.objs.size->b∉frs (envOfC qual scope s0.heap.objs.size f cd::outer):=λb h1 h2 h3=>by
  obtain⟨a,q1,q2⟩:=cf.mp h3;rcases aA.mp q1 with rfl|q1
  .exact h2 (bB q2).symm
  .exact h1 (cf.mpr ⟨a,q1,q2⟩)
 have G:Cov outer H1 s0.heap s2.heap (hideAll s2.heap (frs (envOfC qual scope s0.heap.objs.size f cd::outer))):=λb o eb nb d=>by
  refine hideAll_get _ eb (n b nb λz=>?_);subst z;rcases d with d|⟨o',d⟩
  .exact d c.free
  .exact absurd (aF d) (bN _)
 have hp:H1 p=none:=by
  cases eq:H1 p with
  |none=>rfl
  |some u =>
   obtain⟨o,Z⟩:=(c.hok p u eq).there;rw[Q.new]at Z;cases Z
 obtain⟨U2,W,j⟩:=a1l (P:=P) (w:=w) (l:=outer) (H:=i) (H':=H1) (h0:=s0.heap) (h1:=s2.heap) (h2:=h2) c.base c.hok G x1.1 ((Heap.UpToSlots.of_keeps Q.keeps).trans x4) c.funs λb d=>c.stkFree b (v b d);exact⟨p,C,H1,_,.ref t,rfl,c.os,c.bare,U2,W,hp,x1,j,q⟩
def XP(X:Cx)(qK:qA (qE×Obj))(R:St->qE->Hp->Prop)(e:qB)(s':qC):Prop :=
 ∃(σ1:St) (H1:Hp) (s1:qC) (p C:qE) (H':Hp) (B:Heap) (a0:qB),e=.ref p/\Inv X qK σ1 H1 s1/\s'.os=s1.os/\AllBare s'.gens/\Un (frs X.stack) [] H1 H' s1.heap s'.heap/\HOk X.prog X.w H' s'.heap /\
  H' p=none/\Heap.FlyingW B X.stack p (.ref C) a0 s'.heap/\Cov X.stack H' s1.heap s'.heap B/\R σ1 C H'
abbrev TX:=Ends->(St->qE->Hp->Prop)->St->Hp->Prop
def PSx(X:Cx)(sts:qA Stmt)(t:TX):Prop :=
 ∀(qK:qA (qE×Obj)) (s:qC) (σ:St) (H:Hp) (D:Ends) (R:St->qE->Hp->Prop),Inv X qK σ H s->t D R σ H->wpAny (model X.prog X.w) X.A (execs sts X.env) (SP X qK D) (XP X qK R) s
structure OkE(P:qG)(w:World)(K:qF)(mg:Str->qD qB)(base:Heap)(x:Str)(k:Nat)(ps:qA Str)(sp:Sp):Prop where
 ex:∃f fd,mg x=some (.ref f)/\PySem.W.keepIn K (.ref f)=true/\Binds K fd ps []/\FnOk P w K mg base (CXE P w) k f fd ps sp
def FunAt.okE{K:qF}{st:Stmt}(F:FunAt K mg x st ps)(S:FnScope N ps (A1 st))(e:∀vs H Q E,sp vs H Q E->vs.length=ps.length)
  (b:∀(a:qB) (f:qE) (A:Around) (outer:qA Env) (s:qC) (H:Hp) (vs:qA V) (Q:VK) (E:XK),Room k (A.deeper (envOfC x (A1 st) s.heap.objs.size f a))->sp vs H Q E ->
   ∃t,JB (K4 (CXE P w) P w K mg base N x (A1 st) f a A outer s H E) (E7 st) t/\t {nx:=λ_ H'=>Q .non H',rt:=Q} (start N vs) H):OkE P w K mg base x (k+1) ps sp:=by
 obtain⟨f,fd,h1,h2,i⟩:=F.ex;refine⟨f,fd,h1,h2.kp,i,?_⟩;obtain⟨oc,od,kV,g,pm,an,a,ct,m,rfl,l,c⟩:=h2.ex;refine b7b l c S e λA outer s H vs Q E j d=>?_;obtain⟨t,h,q⟩:=b a f A outer s H vs Q E j d;exact⟨t,h.h,q⟩
def b6u(i:Nat)(sp:Sp)(t:TA):TX:=λD R σ H=>t σ H λvs H1=>sp vs H1 (λv H2=>D.nx (σ.set i (some v)) H2) λc _ H'=>∃C,c=.ref C/\R σ C H'
def b4Y{y:Str}{p pos':Pos}(m:∀e s,¬X.xe e s)(O:OkE X.prog X.w X.K X.mg X.base x k ps sp)(Y:Room k X.A)(T:Gl X x)
  (M:X.N.Nodup) (hi:X.N[i]?=some y) (Z:Loc X.env.scope y) (N:PA X (e::es) t) (j:(x==("__debug__" : Str))=false:=by decide)
  (Q:starEach (e::es) X.env=(false,eval e X.env)::starEach es X.env:=by rfl) (l:(backTo qM (starEach es X.env)).any (·.1)=false:=by rfl)
  (hs:swapsWith (.Call (.Name x p) (e::es) [] qM) (some (.Name y pos')) pos.line X.env=pure false:=by rfl) (S:X.fn y=true∨X.env.scope.names.lookup y=some .local:=by first|exact .inl rfl|exact .inr rfl|assumption) :
  PSx X [.Assign [.Name y pos'] (.Call (.Name x p) (e::es) [] qM) pos] (b6u i sp t):=by
 intro qK s σ H D R I h;obtain⟨f,fd,W,U,P,F⟩:=O.ex;refine eG (wpAny_Assign_Name ?_ hs);refine dg (N3 I T W ?_ j);refine PySem.W.callWith_K (h₀:=X.base) I.ok.mod.kin U (cH (N qM qK s σ H _ I h) (λd s1 ⟨vs,H1,a,r,q⟩=>⟨a.kIn,?_⟩) λe s z=>absurd z (m e s)) Q l;have V:d.length=ps.length:=by rw[<-r.length];exact F.len _ _ _ _ q
 have b:=P s1 d a.kIn (by rw[cp];exact V);rw[cp]at b;refine fi (de (F.run X.A X.stack s1 H1 ⟨d,[]⟩ d vs _ _ Y a.env0 b r q) λr s' c=>?_);cases r with
 |error e =>
  obtain⟨p,C,H',B,a0,h1,h2,w,A,E,G,J,K,C',L,g⟩:=c;cases L;exact⟨σ,H1,s1,p,C,H',B,a0,h1,a,h2,w,A,E,G,J,K,g⟩
 |ok fl =>
  cases fl with
  |ret u =>
   obtain⟨v,H2,n,rv,q2⟩:=a.after c;exact O5 n M hi Z rv (λs2 o=>c_ ⟨_,H2,o,q2⟩) S
  |next=>exact False.elim c
  |brk=>exact False.elim c
  |cont=>exact False.elim c
section
variable {M:Model}{E:qH}
structure ClsX(K:qF)(C:qE)(above:qA qB):Prop where
 ex:∃nm q N bs bm hdct sn sub ab col dd k0 k1 k2 k3 k5 qP,K.lookup C=some (excClassObj nm q C N bs bm hdct sn sub ab col dd k0 k1 k2 k3 k5 qP)/\bm.contains (.type "BaseException")=true/\∀v∈above,bm.contains v=true
def a3L{nm q u L:Str}{N D y:qE}{bs bm n b:qA qB}{hdct i:Bool}{sn v:qA Str}{sub l:qA qB}{ab m:Bool}{col j:qD Bool}{dd o:qD qE}{k0 k1 k2 k3 k5 G H I J K:qD qB}{a:String}{g:Array GenState}{d:Drawn}{t:Nat}{os:OsState}{e:qE}{x:Obj}{Q:Bool->qC->Prop}
  (z:h.get? C=some (excClassObj nm q C N bs bm hdct sn sub ab col dd k0 k1 k2 k3 k5 qP)) (w:h.get? D=some (excClassObj u L D y n b i v l m j o G H I J K a)) (B:h.get? e=some x) (k:x.cls=.ref C)
  (c:b.contains (.type "BaseException")=true) (s:bm.contains (.ref D)=true) (F:Q true ⟨h,g,d,t,os⟩):wpAny M A (excMatches (.ref e) (.ref D)) Q E ⟨h,g,d,t,os⟩:=by
 have p:(Value.ref D::b).contains (.type "BaseException")=true:=by rw[dY,c,fT]
 have r:(Value.ref C::bm).contains (.ref D)=true:=by rw[dY,s,fT]
 have f:=tc_notTuple;unfold excMatches
 repeat (first | (with_reducible refine dt B ?_;rw[k])|with_reducible refine dt w ?_ | (with_reducible refine eU w ?_;rw[p]) | (with_reducible refine eU z ?_;rw[r])|wp_step)
 exact F
end
section
variable {qK:qA (qE×Obj)}{σ:St}{H1 H':Hp}{s1 s':qC}{p:qE}{B:Heap}{a0:qB}{h2:Heap}
def Inv.land(a:Inv X qK σ H1 s1)(e:s'.os=s1.os)(k:AllBare s'.gens)(g:Un (frs X.stack) [] H1 H' s1.heap s'.heap)(d:HOk X.prog X.w H' s'.heap)(i:s'.heap.FunFrames B X.stack)(c:Cov X.stack H' s1.heap s'.heap B)(st:B.StaysIn h2)(m:s'.heap.UpToSlots h2) :
  Inv X qK σ H' {s' with heap:=h2}:=by
 have j:∀b∈frs X.stack,H' b=none:=λb h=>by
  obtain⟨_,o,l,_⟩:=a.stack.mem h;exact g.free b o l (a.stkFree b h) (by simp)
 obtain⟨U2,f,_⟩:=a1l g d c st m i j;exact a.call' (ch:=[]) e U2 f k (λb z=>absurd z (by simp))
def Inv.landX(i:Inv X qK σ H1 s1)(v:s'.os=s1.os)(I:AllBare s'.gens)(D:Un (frs X.stack) [] H1 H' s1.heap s'.heap)(t:HOk X.prog X.w H' s'.heap)(hp:H' p=none)(G:s'.heap.FunFrames B X.stack)(j:Cov X.stack H' s1.heap s'.heap B)(c:Heap.FlyingW B X.stack p (.ref C) a0 h2)(M:s'.heap.UpToSlots h2) :
  Inv X qK σ (upd H' p (a2p p C)) {s' with heap:=h2}:=by
 have H:∀b∈frs X.stack,H' b=none:=λb h=>by
  obtain⟨_,o,s,_⟩:=i.stack.mem h;exact D.free b o s (i.stkFree b h) (by simp)
 obtain⟨U2,y,f⟩:=a1l D t j c.1 M G H;obtain⟨x,d,l⟩:=c.there;have w:p∉frs X.stack:=λh=>by
  obtain⟨_,o,s,nf⟩:=c.2.2.1.mem h;obtain⟨K,N,_,_,_,g,_,m,_⟩:=c.2.2.2;rw[s]at g;cases g;exact nf N m
 have r:∀o,s1.heap.get? p≠some o:=λo e=>by
  have:=f p x d w (.inr ⟨o,e⟩);rw[c.2.1]at this;cases this
 have F:Un (frs X.stack) [] H1 (upd H' p (a2p p C)) s1.heap h2:=by
  refine⟨U2.keep,U2.slot,λb o e n J=>?_,U2.there,λb xs e=>?_,λb o u e=>?_,λb ps e=>?_⟩
  .rw[A5 (by rintro rfl;exact r o e)];exact U2.free b o e n J
  .have q:=U2.tups b xs e;rw[A5 (by rintro rfl;rw[hp]at q;cases q)];exact q
  .have q:=U2.frzs b o u e;rw[A5 (by rintro rfl;rw[hp]at q;cases q)];exact q
  .obtain⟨more,q⟩:=U2.tbls b ps e;exact⟨more,by rw[A5 (by rintro rfl;rw[hp]at q;cases q)];exact q⟩
 have A:HOk X.prog X.w (upd H' p (a2p p C)) h2:=λa o e=>by
  by_cases E:a=p
  .subst E;rw[A0]at e;cases e;exact⟨⟨x,d,l⟩,⟨x,d⟩,λO P ⟨o,q1,L⟩ k=>⟨o,k o q1,L⟩⟩
  .rw[A5 E]at e;refine(y a o e).stay (λb u _ q=>q) (λb q=>?_) λb xs q=>?_
   .rw[A5 (by rintro rfl;rw[hp]at q;cases q)];exact q
   .rw[A5 (by rintro rfl;rw[hp]at q;cases q)];exact q
 exact i.call' (ch:=[]) v F A I (λb z=>absurd z (by simp))
end
section
variable {qK:qA (qE×Obj)}{σ:St}{s:qC}
def b0x{M:Model}{E:qH}{n:Str}{Q:Unit->qC->Prop}(I:Inv X qK σ H s)(F:X.N.Nodup)(hi:X.N[i]?=some n)(G:X.env.scope.names.lookup n=some .local)
  (h:∀s',Inv X qK (σ.set i none) H s'->Q () s'):wpAny M A (do bindName X.env n .none;unbindBehindTheSuite X.env n pos) Q E s:=by
 obtain⟨m,B,J⟩:=I.loc;have l:(X.env.scope.kind==.class || (X.env.scope.kind==.module && X.env.locals != X.env.globals))=false:=by rw[I.ok.kind];rfl
 have hiσ:i<σ.length:=by rw[I.len];exact(aL.mp hi).1
 have cne:=I.cne;refine wpAny_nameGoes_keeps G B l λh' v x hs=>?_;obtain⟨S,_,_,K,_⟩:=id B;have f:HOk X.prog X.w H h':=λb N e=>by
  refine(I.hok b N e).stay (λc C u q=>(hs.2 c ?_).trans q) (λ_ q=>q) λ_ _ q=>q;have a:=I.free;rintro rfl;rcases u with z|u
  .rw[<-z,a]at e;cases e
  .rw[a]at u;cases u
 refine h _ ⟨I.ok,I.os,I.bare,⟨λb o e n w r=>?_,λb o e n w r=>?_,I.base.free,λb o e r=>?_,I.base.tups,I.base.frzs,I.base.tbls⟩,⟨_,x,λj y R g t D=>?_⟩,λy c e=>?_,I.free,I.freeC,λp L=>?_,f,by simpa using I.len⟩
 .exact(hs.2 b (aK (aJ (aF e) I.ok.above))).trans (I.base.keep b o e n w r)
 .obtain⟨sl,g⟩:=I.base.slot b o e n w r;exact⟨sl,(hs.2 b (aK (aJ (aF e) I.ok.above))).trans g⟩
 .obtain⟨o',g⟩:=I.base.there b o e r;exact⟨o',(hs.2 b (aK (aJ (aF e) I.ok.above))).trans g⟩
 .by_cases hj:j=i
  .subst hj;rw[fF hiσ]at t;cases t
  .rw[fN (dq hj)]at t;obtain⟨P,O,q⟩:=J j y R g t D;refine⟨P,O,?_⟩;rcases q with⟨k,e⟩|⟨k,c,e,z⟩
   .refine .inl ⟨k,?_⟩;have:y≠n:=λe=>hj (a3k F g (e ▸ hi));simp[this,e]
   .exact .inr ⟨k,c,e,z.sameBut hs (cne y c e)⟩
 .obtain⟨C,z⟩:=I.cell y c e;exact⟨C,z.sameBut hs (cne y c e)⟩
 .obtain⟨e,n,ne,nf,d⟩:=I.pin p L;exact⟨(hs.2 p.1 ne).trans e,n,ne,nf,d⟩
abbrev Cx.held(X:Cx)(p:qE):Cx:={X with A:=X.A.mark (some (.ref p)),calm:=false,xe:=λ_ _=>False}
def Inv.held(I:Inv X qK σ H s)(p:qE):Inv (X.held p) qK σ H s :=
 ⟨⟨I.ok.mod,I.ok.kind,I.ok.glob,I.ok.blt,I.ok.above,I.ok.inj,I.ok.has,I.ok.cab,(λz=>by cases z),I.ok.frames,I.ok.stk,I.ok.exf,I.ok.bs,I.ok.bsz,I.ok.noex,I.ok.exfs,I.ok.funs,I.ok.frf⟩,I.os,I.bare,I.base,I.loc,I.cell,I.free,I.freeC,I.pin,I.hok,I.len⟩
def Inv.unheld{p:qE}(J:X.Ok)(I:Inv (X.held p) qK σ H s):Inv X qK σ H s :=
 ⟨J,I.os,I.bare,I.base,I.loc,I.cell,I.free,I.freeC,I.pin,I.hok,I.len⟩
end
def b1E(K:qF)(D:qE)(j:Nat)(tx:TX)(ts:TS):TS:=λDe σ H=>tx De (λσ1 C H'=>ClsX K C [.ref D]/\∀p,H' p=none->ts {nx:=λσ2 H2=>De.nx (σ2.set j none) H2,rt:=λ_ _=>False} (σ1.set j (some (.ref p))) (upd H' p (a2p p C))) σ H
def b2z{body:qA Stmt}{tx:TX}{W:TS}{o n:Str}{np m:Pos}{P:Stmt}{a:qA Stmt}{j:Nat}{D:qE}(g:X.stack=X.env::X.outer)(A:X.env.frame=some X.env.locals)(hx:PSx X body tx)
  (hg:Gl X o) (hm:X.mg o=some (.ref D)) (hD:ClsX X.K D []) (S:X.N.Nodup) (U:X.N[j]?=some n) (E:X.env.scope.names.lookup n=some .local)
  (G:∀p,PSs (X.held p) (P::a) W) (hd:(o==("__debug__" : Str))=false:=by decide) :
  PS X (.Try body [.ExceptHandler (some (.Name o np)) (some n) (P::a) m] [] [] pos) (b1E X.K D j tx W):=by
 intro qK s σ H Y I h;refine wpAny_Try_except (cH (hx qK s σ H Y _ I h) (λf s1 q=>?_) λe s' q=>?_)
 .cases f with
  |next=>exact c_ q
  |brk=>exact q
  |cont=>exact q
  |ret v=>exact q
 .obtain⟨σ1,H1,s1,p,C,H',B,a0,rfl,I1,hos,hbare,hU,hok,hp,fl,cov,hC,k⟩:=q;have R:=fl.2.2.1;have l:=fl;rw[g]at l;refine wpAny_looks_onW (L:=X.env.locals) (by rw[<-g];exact I1.ok.frames) A l λh4 d N=>?_;refine wpAny_landsW d λh5 b c=>?_;rw[<-g]at b;have c:=N.trans c;have t:Inv X qK σ1 H' {s' with heap:=h5}:=I1.land hos hbare hU hok R cov b.1 c;refine wpAny_handleBy_cons (codeAny_handlers_test ?_) (by intro q;cases q);refine N3 (X:=X.held p) (t.held p) hg hm ?_ hd;obtain⟨oe,F,x⟩:=b.there;obtain⟨nm,q,NN,bs,bm,T,sn,sub,ab,col,dd,k0,k1,k2,k3,k5,qP,K,_,J⟩:=hC.ex;obtain⟨a6,q',a1,a4,a3,y,a7,V,a2,Q,a5,j0,j1,j2,j3,j5,r,M,w,_⟩:=hD.ex;refine a3L (t.kIn _ _ K) (t.kIn _ _ M) F x w (J _ (ax ..)) ?_;refine codeAny_handlers_suite_as ?_;refine lands_againW b λh6 u O=>?_;have Z:Inv X qK σ1 (upd H' p (a2p p C)) {s' with heap:=h6}:=I1.landX hos hbare hU hok hp R cov u (c.trans O);refine O5 Z S U (.inl E) (v:=.ref p) rfl (λs7 I7=>?_) (.inr E);refine cH (G p qK s7 _ _ _ (I7.held p) (k p hp)) (λf s8 i=>?_) λ_ _ z=>False.elim z;cases f with
  |next =>
   obtain⟨σ2,H2,I8,i⟩:=i;exact b0x (I8.unheld I.ok) S U E λs9 I9=>⟨_,H2,I9,i⟩
  |brk=>obtain⟨_,_,_,z⟩:=i;exact False.elim z
  |cont=>obtain⟨_,_,_,z⟩:=i;exact False.elim z
  |ret v=>obtain⟨_,_,_,_,_,z⟩:=i;exact False.elim z
def a1O(K:qF)(C:qE)(above:qA qB):Bool:=match K.lookup C with
 |some ⟨.type "type",_,.cls cd,sl⟩=>(match cd.mro,sl.toList with
  |.ref C'::bm,[_,_,_,_,some (.builtin _),_]=>C'==C && !cd.hasDel && bm.contains (.type "BaseException") && above.all λv=>bm.contains v
  |_,_=>false)
 |_=>false
def a1o{K:qF}{above:qA qB}(q:a1O K C above=true):ClsX K C above:=by
 unfold a1O at q;split at q
 .rename_i dd cd sl ho;split at q
  .rename_i C' bm k0 k1 k2 k3 n k5 hmro hs;simp only[aO,a_,ei,aS]at q;obtain⟨⟨⟨rfl,a⟩,e⟩,d⟩:=q;obtain⟨nm,bs,g,h,qn,hd,sn,sub,ab,col,c⟩:=cd;dsimp only at hmro a;subst hmro a;have b:sl=#[k0,k1,k2,k3,some (.builtin n),k5]:=by
    obtain⟨l⟩:=sl;simp only at hs;rw[hs]
   subst b;exact⟨nm,qn,h,bs,bm,hd,sn,sub,ab,col,dd,k0,k1,k2,k3,k5,n,ho,e,λv f=>d v f⟩
  .cases q
 .cases q
structure JX(X:Cx)(sts:qA Stmt)(t:TX):Prop where
 h:PSx X sts t
section
variable {y:Str}{p pos':Pos}
def b8r(O:OkE X.prog X.w X.K X.mg X.base x k ps sp)(l:Room k X.A)(j:Gl X x)(d:X.N.Nodup)(hi:X.N[i]?=some y)(m:Loc X.env.scope y)(f:JA X (e::es) t)(c:∀e s,¬X.xe e s:=by exact λ_ _ z=>z)(a:(x==("__debug__" : Str))=false:=by decide)
  (g:starEach (e::es) X.env=(false,eval e X.env)::starEach es X.env:=by rfl) (b:(backTo qM (starEach es X.env)).any (·.1)=false:=by rfl)
  (hs:swapsWith (.Call (.Name x p) (e::es) [] qM) (some (.Name y pos')) pos.line X.env=pure false:=by rfl) (h:X.fn y=true∨X.env.scope.names.lookup y=some .local:=by first|exact .inl rfl|exact .inr rfl|assumption) :
  JX X [.Assign [.Name y pos'] (.Call (.Name x p) (e::es) [] qM) pos] (b6u i sp t):=⟨b4Y c O l j d hi m f.h a g b hs h⟩
def b3r(K:qF){body:qA Stmt}{tx:TX}{h:TS}{c n:Str}{t b:Pos}{g:Stmt}{a:qA Stmt}{j:Nat}{D:qE}(s:JX X body tx)(m:Gl X c)(r:X.mg c=some (.ref D))(i:ClsX K D [])(l:X.N.Nodup)(o:X.N[j]?=some n)
  (q:X.env.scope.names.lookup n=some .local) (f:∀p,JB (X.held p) (g::a) h) (k:X.K=K:=by rfl) (e:X.stack=X.env::X.outer:=by rfl) (d:X.env.frame=some X.env.locals:=by rfl) (hd:(c==("__debug__" : Str))=false:=by decide) :
  JS X (.Try body [.ExceptHandler (some (.Name c t)) (some n) (g::a) b] [] [] pos) (b1E K D j tx h):=by
 subst k;exact⟨b2z e d s.h m r i l o q (λp=>(f p).h) hd⟩
end
def a6T{K:qF}{qual:Str}{scope:Scope}{f:qE}{cd:qB}{outer:qA Env}{s0:qC}{b:Hp}{E:XK}{bmB c:qA qB}{B j i a h:String}{p:Pos}
  (O:OwnCls x C bmB qP mg base) (l:ExcBaseFacts j qP h c) (d:bmB.contains (.type j)=true) (k:ExcBaseFacts B i a bmB)
  (o:Gl (K4 (CXE P w) P w K mg base N qual scope f cd A outer s0 b E) x)
  (m:JA (K4 (CXE P w) P w K mg base N qual scope f cd A outer s0 b E) (e::es) t) (hd:(x==("__debug__" : Str))=false:=by decide)
  (n:starEach (e::es) (envOfC qual scope s0.heap.objs.size f cd)=(false,eval e (envOfC qual scope s0.heap.objs.size f cd))::starEach es (envOfC qual scope s0.heap.objs.size f cd):=by rfl)
  (g:(backTo qM (starEach es (envOfC qual scope s0.heap.objs.size f cd))).any (·.1)=false:=by rfl) :
  JS (K4 (CXE P w) P w K mg base N qual scope f cd A outer s0 b E) (.Raise (some (.Call (.Name x p) (e::es) [] qM)) none pos) (b1F C E t):=⟨b2A O l d k o m.h hd n g⟩
end L2
namespace L2
open PySem PySem.Spec PyProof.Rows PySem.W Builtin Builtin.ObjectAttr Builtin.Getset_descriptor
section
variable {K:qF}{prog:qG}{w:World}{A:Around}{E:qH}{h:Heap}{g:Array GenState}{d:Drawn}{t:Nat}{os:OsState}{a:qE}{o:Obj}{nm q:Str}{C N:qE}{bs bm:qA qB}{hdct:Bool}{sn:qA Str}{sub:qA qB}{ab:Bool}{col:qD Bool}{dd:qD qE}{k0 k1 k2 k3 k5:qD qB}{qP:String}
def b1t{M:Model}{b:qB}{Q:Unit->qC->Prop}(f:h.get? C=some (excClassObj nm q C N bs bm hdct sn sub ab col dd k0 k1 k2 k3 k5 qP))(i:bm.contains (.type "BaseException")=true)
  (m:h.get? a=some o) (j:o.cls=.ref C) (l:Q () ⟨h,g,d,t,os⟩):wpAny M A (checkBuiltinCall "BaseException.__getattribute__" ⟨[.ref a,b],[]⟩) Q E ⟨h,g,d,t,os⟩:=by
 have k:builtinKind "BaseException.__getattribute__"=some .slot:=by decide +kernel
 have c:splitId "BaseException.__getattribute__"=some ("BaseException","__getattribute__"):=by decide +kernel
 have e:(Value.ref C::bm).contains (.type "BaseException")=true:=by rw[dY,i];rfl
 have n:=F.args_bexc_ga (.ref a) b;simp only[checkBuiltinCall,k,c];refine aa ?_
 .unfold isInstance
  repeat (first | (with_reducible refine dt m ?_;rw[j]) | (with_reducible refine eU f ?_;rw[e])|wp_step)
  exact l
def a8r{M:Model}(c:h.get? a=some o)(b:o.cls=.ref C):Looks M h (typeOf (.ref a)) (.ref C):=b ▸ (Looks.ld c).andThen .now
def b7e{R:Result->qC->Prop}{i:qB}(X:K.In h)(f:h.get? a=some o)(b:o.cls=.ref C)(c:mroIn K C (.type "object")=some true)(e:R (.ok (.ret (.ref C))) ⟨h,g,d,t,os⟩) :
  codeAny (model prog w) A (.call (.builtin "getset_descriptor.__get__") ⟨[.builtin "object.__class__",.ref a,i],[]⟩) R ⟨h,g,d,t,os⟩:=by
 have j:=a8r (M:=model prog w) f b;have k:=looks_mroIn (M:=model prog w) X c;refine eO KF.slot_gs.plain KF.entry_gs (KF.slot_gs.check _ _ _ _ _ _ _ _ KF.type_class (KF.args_gs _ _ _) ?_);unfold Builtin.«getset_descriptor.__get__» descrGet;rw[dga_obj];refine aa (ag ?_);unfold descrGetter descrCheckInstance descrNameAndClass isInstance;simp only[KF.owner_class]
 repeat lk
 refine⟨Code.quiet_builtin _ (by decide +kernel),dk KF.entry_class ?_⟩;unfold Builtin.«object.__class__» shownTypeOf
 repeat lk
 exact e
def b1s{tk:Tok}{Q:Fin->qC->Prop}(X:K.In h)(f:mroIn K C (.type "object")=some true)(b:findIn K (.ref C) "__class__"=some (some (.builtin "object.__class__")))(e:h.get? a=some o)(c:o.cls=.ref C)(l:Q (.done (.ret (.ref C))) ⟨h,g,d,t,os⟩) :
  wpAny (model prog w) A (Builtin.«object.__getattribute__» ⟨[.ref a,.str "__class__" tk],[]⟩) Q E ⟨h,g,d,t,os⟩:=by
 have L:=looks_findIn (M:=model prog w) X b;have j:=F.slot_gs_get.lookup;have k:=F.slot_gs_set.lookup;have i:=KF.type_class
 repeat (any_goals (first|assumption | (with_reducible refine dt e ?_;rw[c])|with_reducible refine L.at ?_|wp_step))
 refine b7e X e c f ?_
 repeat (any_goals (first|assumption|wp_step))
def b4u{Q:qD qB->qC->Prop}(X:K.In h)(m:h.get? C=some (excClassObj nm q C N bs bm hdct sn sub ab col dd k0 k1 k2 k3 k5 qP))(n:bm.contains (.type "BaseException")=true)(p:mroIn K C (.type "object")=some true)
  (c:findIn K (.ref C) "__class__"=some (some (.builtin "object.__class__"))) (e:findIn K (.ref C) "__getattribute__"=some (some (.builtin "BaseException.__getattribute__"))) (f:findIn K (.ref C) "__getattr__"=some none)
  (i:h.get? a=some o) (b:o.cls=.ref C) (r:Q (some (.ref C)) ⟨h,g,d,t+1,os⟩):wpAny (model prog w) A (getAttr? (.ref a) "__class__") Q E ⟨h,g,d,t,os⟩:=by
 have l:=looks_findIn (M:=model prog w) X e;have L2:=looks_findIn (M:=model prog w) X f;have k:=PySem.F.attrBase_ValueError;have u:=k.ga.bind (.ref a);have j:(Value.builtin "BaseException.__getattribute__"==Value.builtin "object.__getattribute__")=false:=by decide +kernel
 have s:(onTheHeap (Value.ref C) && Value.builtin "BaseException.__getattribute__"==Value.builtin "object.__getattribute__")=false:=by rw[j];rfl
 unfold getAttr? getAttrBy? getAttrBy
 repeat (any_goals (first|assumption | (with_reducible refine dt i ?_;rw[b])|with_reducible refine l.at ?_|with_reducible refine L2.at ?_|wp_step))
 refine eO k.ga.plain F.entry_bexc_ga (b1t m n i b (b1s X p c i b ?_));exact handed_on rfl (ag r)
structure IsX(K:qF)(C:qE):Prop where
 cls:ClsX K C []
 mro:mroIn K C (.type "object")=some true
 cl:findIn K (.ref C) "__class__"=some (some (.builtin "object.__class__"))
 ga:findIn K (.ref C) "__getattribute__"=some (some (.builtin "BaseException.__getattribute__"))
 gr:findIn K (.ref C) "__getattr__"=some none
def a3t(Z:IsX K C):KitX K (.ref a) (.ref C) (λh=>∃o,h.get? a=some o/\o.cls=.ref C) where
 ty:=λ_ _ _ ⟨o,j,f⟩=>a8r j f
 it:=λ_ _ X _=>by
  obtain⟨nm,q,N,bs,bm,b,sn,sub,ab,col,dd,k0,k1,k2,k3,k5,qP,c,_⟩:=Z.cls.ex;intro r v u s' k q;unfold isType loadHead;exact aa (wpAny_loadPart (k _ _ (X _ _ c)) (ag q))
 ne:=λh p dd its n sl X i=>by
  obtain⟨nm,q,N,bs,bm,b,sn,sub,ab,col,dd,k0,k1,k2,k3,k5,qP,c,_⟩:=Z.cls.ex;refine Bool.eq_false_iff.mpr λq=>?_;have e:C=p:=Value.ref.inj (a_.mp q);subst e;have z:=aP Obj.data (bB ((X _ _ c).symm.trans i));unfold excClassObj at z;cases z
 ca:=λ{prog w A E Q s} X ⟨o,j,f⟩ m=>by
  obtain⟨nm,q,N,bs,bm,b,sn,sub,ab,col,dd,k0,k1,k2,k3,k5,qP,c,l,_⟩:=Z.cls.ex;obtain⟨h,g,d,t,os⟩:=s;exact b4u X (X _ _ c) l Z.mro Z.cl Z.ga Z.gr j f m
end
section
variable {X:Cx}{es:qA Expr}{e:Expr}{t:TA}{pos p:Pos}
def b9s(K:qF):RL:=λxs H Q=>∃(p C:qE) (vc:V) (b:Bool),xs=[.ref p,vc]/\H p=some (a2p p C)/\IsX K C /\
 ((∃n,vc=.ty n/\kitOne K (.ref C) (.type n)=some b)∨(∃D,vc=.ref D/\kitOne K (.ref C) (.ref D)=some b)∨∃(tp:qE) (Ds:qA qE),vc=.ref tp/\H tp=some (.tup (Ds.map V.ref))/\kitAny K (.ref C) (Ds.map Value.ref)=some b)/\Q (.bl b) H
def a4i:∀{a:qA qE}{us:qA qB},Vals (a.map V.ref) us->us=a.map Value.ref
 |[],_,.nil=>rfl
 |D::a,_,.cons r t=>by
  have:=a4i t;subst this;cases r;rfl
def b4g(K:qF)(l:X.K=K:=by rfl):D0 X (.builtin "isinstance") (b9s K):=by
 subst l;intro qK s σ H xs E Q I B h;obtain⟨p,C,F,b,rfl,t,Z,m,q⟩:=h;obtain⟨u,v,rfl,A,a⟩:=B.two;cases A;have f:∃o,s.heap.get? p=some o/\o.cls=.ref C:=(I.hok p _ t).1;rcases m with⟨n,rfl,e⟩|⟨D,rfl,e⟩|⟨g,i,rfl,d,e⟩
 .cases a;exact kia_one (a3t Z) I.kIn f e (λz=>nomatch z) λtk=>⟨.bl b,H,I.tok tk,rfl,q⟩
 .cases a;exact kia_one (a3t Z) I.kIn f e (λz=>nomatch z) λtk=>⟨.bl b,H,I.tok tk,rfl,q⟩
 .cases a;obtain⟨_,its,r,w,j,k,c⟩:=(show ObjOk X.prog X.w H s.heap g (.tup (i.map V.ref))from I.hok g _ d);have:=a4i r;subst this;obtain⟨oc,od,x,y⟩:=w;obtain⟨n,c⟩:=c;cases k;cases c;exact kia_tup (a3t Z) I.kIn f j e (λz=>nomatch z) λtk=>⟨.bl b,H,I.tok tk,rfl,q⟩
def O9(K:qF)(f:Gl X "isinstance")(g:X.mg "isinstance"=none)(c:JA X (e::es) t)(b:X.K=K:=by rfl)(d:starEach (e::es) X.env=(false,eval e X.env)::starEach es X.env:=by rfl)(a:(backTo pos (starEach es X.env)).any (·.1)=false:=by rfl) :
  JE X (.Call (.Name "isinstance" p) (e::es) [] pos) (tCB (b9s K) t):=⟨D8 (b4g K b) f g a0M c.h (by decide) (by decide) d a⟩
def a3A{x:Str}{v:V}{u:qB}(a:Gl X x)(b:X.mg x=some u)(r:RelV v u)(hd:(x==("__debug__" : Str))=false:=by decide):JE X (.Name x pos) (tC v):=⟨b5t a b r hd⟩
end
end L2
namespace L2
open PySem PySem.Spec PyProof.Rows
variable {A:Around}{H:Hp}{K:qF}{a:qE}{rss:LLI}{src:qA (qJ)}{te:TE}{vs:qA V}{w:World}{α:Type}
def a3F{ca:α->V}{xs:qA α}{i:Nat}{x:V}(h:(xs.map ca)[i]?=some x):∃z,xs[i]?=some z/\x=ca z:=by
 rw[aX]at h;cases e:xs[i]? with
 |none=>rw[e]at h;cases h
 |some z=>rw[e]at h;exact⟨z,rfl,(bB h).symm⟩
def b4s{β:Type}{σ caps:St}{Q:VK}{k1 k2:Bool}{b:qE}(ca:α->V)(d:β->V){xs:qA α}{ys:qA β}(f:α->β->V)(u:xs.length<=1000)
  (c:∀H',Same H H'->SqK k1 K H' a (xs.map ca)/\SqK k2 K H' b (ys.map d))
  (k:B2 src σ=none::none::caps) (o:∀x y H1 q,x∈xs->y∈ys->Same H H1->(∀H2,Same H1 H2->q (f x y) H2)->te (some (ca x)::some (d y)::caps) H1 q)
  (hd:∀H1 p,Same H H1->H1 p=none->Q (.ref p) (upd H1 p (.lst (List.zipWith f xs ys)))) :
  E8 src (a6W K 2 (Y5 (B0 0) (Y5 (B0 1) a8b))) O3 te σ Q (Itz K k1 k2 a b) H:=by
 have w:(1000:Nat)<=sizeLine:=by rw[aU];decide
 refine V1 (xs:=xs.map ca) (zs:=ys.map d) (by rw[ai];omega) (λi zs H'=>Same H H'/\zs=(List.zipWith f xs ys).take i) ⟨Same.refl H,by simp⟩ (λi zs H' _ _ h=>⟨(c H' h.1).1,(c H' h.1).2,by rw[h.2];exact bE _ _⟩) ?_ ?_
 .rintro i x z zs H' p hx hy ⟨s,rfl⟩ hp;obtain⟨n,l,r⟩:=a3F hx;obtain⟨g,m,t⟩:=a3F hy;subst r t;clear hx hy;have s':Same H (upd H' p (.tup [ca n,d g])):=s.upd hp;refine⟨p,[ca n,d g],rfl,SqT.of A0,rfl,ca n,[d g],rfl,d g,[],rfl,rfl,?_⟩;rw[k];show Sub _ (some (ca n)::some (d g)::caps)/\_;refine⟨⟨rfl,λj v e=>?_⟩,?_⟩
  .match j,e with
   |0,e=>cases e
   |1,e=>cases e
   |j+2,e=>exact e
  .exact o n g _ _ (aH l) (aH m) s' λH2 s2=>⟨s'.trans s2,(M4 f l m).symm⟩
 .rintro zs H' ⟨s,rfl⟩ p hp;have e:(List.zipWith f xs ys).take (min (xs.map ca).length (ys.map d).length)=List.zipWith f xs ys:=by
   rw[ai,ai,bP];rw[cN];exact ak _
  rw[e];exact hd H' p s hp
def a9R{σ caps:St}{Q:VK}(ca:α->V){xs:qA α}{j:TT}(t:α->Bool)(k:xs.length<=1000)(b:∀H',Same H H'->SqT K H' a (xs.map ca))(c:B2 src σ=none::caps)
  (f:∀x H1 (g:Bool->Hp->Prop),x∈xs->Same H H1->(∀H2,Same H1 H2->g (t x) H2)->j (some (ca x)::caps) H1 g) (hd:∀H1 p,Same H H1->H1 p=none->Q (.ref p) (upd H1 p (.lst ((xs.filter t).map ca)))):E8 src (B0 0) j (Z0 0) σ Q (Itt K a) H:=by
 have l:(1000:Nat)<=sizeLine:=by rw[aU];decide
 refine P8 (xs:=xs.map ca) (by rw[ai];omega) (λi ys H'=>Same H H'/\ys=((xs.take i).filter t).map ca) ⟨Same.refl H,by simp⟩ (λi ys H' _ h=>⟨b H' h.1,by rw[h.2,ai];exact bh (bu _ _) (bE _ _)⟩) ?_ ?_
 .rintro i x ys H' hx ⟨s,rfl⟩;obtain⟨z,d,rfl⟩:=a3F hx;show Sub _ ((B2 src σ).set 0 (some (ca z)))/\_;rw[c];refine⟨Sub.one,f z H' _ (aH d) s λH2 s2=>?_⟩;rw[ba,d];cases e:t z with
  |true=>exact⟨_,rfl,s.trans s2,by simp[e]⟩
  |false=>exact⟨s.trans s2,by simp[e]⟩
 .rintro ys H' ⟨s,rfl⟩ p hp;rw[ai,bg];exact hd H' p s hp
def b9D{P:qG}{mg:Str->qD qB}{base:Heap}{N:qA Str}{qual:Str}{scope:Scope}{f:qE}{cd:qB}{outer:qA Env}{s0:qC}{u:Hp}{E:XK} :
  a0l (CXE P w) (K4 (CXE P w) P w K mg base N qual scope f cd A outer s0 u E) E:=by
 intro qK σ H1 s1 e s' I h;obtain⟨p,C,H',B,a0,rfl,s,v,G,n,J,d,i,q⟩:=h;have g:=I.land s v G n d.2.2.1 i d.1 (λb o e _=>⟨o.slots,e⟩);refine wpAny_leaves_onW (base:=B) I.ok.frames rfl d λh' y L=>?_;have r:∀b∈frs outer,b∈frs (envOfC qual scope s0.heap.objs.size f cd::outer):=λb a=>by
  obtain⟨c,h1,h2⟩:=cf.mp a;exact cf.mpr ⟨c,au _ h1,h2⟩
 have m:∀b,b∉frs outer->b≠s0.heap.objs.size->b∉frs (envOfC qual scope s0.heap.objs.size f cd::outer):=λb h1 h2 F=>by
  obtain⟨c,q1,x⟩:=cf.mp F;rcases aA.mp q1 with rfl|q1
  .exact h2 (bB x).symm
  .exact h1 (cf.mpr ⟨c,q1,x⟩)
 have j:Cov outer H' s0.heap s'.heap B:=λb o D nb a=>by
  refine i b o D (m b nb λz=>?_) ?_
  .subst z;rcases a with a|⟨o',a⟩
   .exact a g.free
   .exact absurd (aF a) (bN _)
  .rcases a with a|⟨o',a⟩
   .exact .inl a
   .exact .inr (I.base.there b o' a (λz=>nomatch z))
 obtain⟨U2,t,k⟩:=a1l (P:=P) (w:=w) (l:=outer) (H:=u) (H':=H') (h0:=s0.heap) (h1:=s'.heap) (h2:=h') g.base n j y.1 L g.funs λb a=>g.stkFree b (r b a);exact⟨p,C,H',B,a0,rfl,g.os,v,U2,t,J,y,k,q⟩
def b5W{P:qG}{mg:Str->qD qB}{base:Heap}{N:qA Str}{qual:Str}{scope:Scope}{f:qE}{cd:qB}{outer:qA Env}{s0:qC}{a:Hp}{E:XK}
  {k:Nat}{ps:qA Str}{sp:Sp}{x:Str}{e:Expr}{es:qA Expr}{t:TA}{p pos:Pos}(O:OkE P w K mg base x k ps sp) (l:Room k (K4 (CXE P w) P w K mg base N qual scope f cd A outer s0 a E).A) (j:Gl (K4 (CXE P w) P w K mg base N qual scope f cd A outer s0 a E) x)
  (h:JA (K4 (CXE P w) P w K mg base N qual scope f cd A outer s0 a E) (e::es) t) (b:(x==("__debug__" : Str))=false:=by decide)
  (i:starEach (e::es) (K4 (CXE P w) P w K mg base N qual scope f cd A outer s0 a E).env=(false,eval e (K4 (CXE P w) P w K mg base N qual scope f cd A outer s0 a E).env)::starEach es (K4 (CXE P w) P w K mg base N qual scope f cd A outer s0 a E).env:=by rfl)
  (c:(backTo pos (starEach es (K4 (CXE P w) P w K mg base N qual scope f cd A outer s0 a E).env)).any (·.1)=false:=by rfl) :
  JE (K4 (CXE P w) P w K mg base N qual scope f cd A outer s0 a E) (.Call (.Name x p) (e::es) [] pos) (a8G sp [] E t):=by
 obtain⟨m,fd,h1,h2,d,g⟩:=O.ex;exact⟨a9e g l j h1 h2 d .nil b9D h.h b i c⟩
def b6p{c:LLI}:((List.range (min rss.length c.length)).all (λj=>decide (rss.getD j []=c.getD j [])) && rss.length==c.length)=decide (rss=c):=by
 rw[cz];simp only[aO,aS,bf,bD,a_];constructor
 .rintro⟨h1,h2⟩;refine fJ h2 λi a b=>?_;have:=h1 i (by omega);simpa[aq,a,b]using this
 .rintro rfl;exact⟨λ_ _=>rfl,rfl⟩
def EqV.its{k:Bool}{b:qE}{d:qA V}{c:LLI}(e:SqK k K H a vs)(f:SqK k K H b d)(h1:Its H vs rss)(h2:Its H d c):EqV K H 2 (.ref a) (.ref b) (decide (rss=c)):=by
 have step:∀j x y,vs[j]?=some x->d[j]?=some y->EqV K H 1 x y (decide (rss.getD j []=c.getD j [])):=λj x y l m=>by
  obtain⟨r,g,ra,rfl,i⟩:=h1.2 j x l;obtain⟨q,eq,n,rfl,h⟩:=h2.2 j y m;rw[aq,aq,g,eq];exact EqV.ints (k:=true) (SqT.of i) (SqT.of h)
 rw[<-b6p,<-h1.1,<-h2.1];cases k
 .exact EqV.lst (λj=>decide (rss.getD j []=c.getD j [])) e f step
 .exact EqV.tup (λj=>decide (rss.getD j []=c.getD j [])) e f step
def a0Y{σ caps:St}{Q:VK}(f:qI->V)(l:vs.length<=sizeLine)(b:∀H',Same H H'->SqT K H' a vs)(hI:Its H vs rss)(c:B2 src σ=none::caps)
  (g:∀v r H1 j,r∈rss->IT H1 v r->Same H H1->(∀H2,Same H1 H2->j (f r) H2)->te (some v::caps) H1 j) (hd:∀H1 p,Same H H1->H1 p=none->Q (.ref p) (upd H1 p (.lst (rss.map f)))):E8 src (B0 0) O3 te σ Q (Itt K a) H:=by
 refine P8 (xs:=vs) (by omega) (λi ys H'=>Same H H'/\ys=(rss.take i).map f) ⟨Same.refl H,by simp⟩ (λi ys H' _ h=>⟨b H' h.1,by rw[h.2,ai];exact bE _ _⟩) ?_ ?_
 .rintro i x ys H' hx ⟨s,rfl⟩;obtain⟨r,k,d,e⟩:=hI.mem hx;show Sub _ ((B2 src σ).set 0 (some x))/\_;rw[c];refine⟨Sub.one,g x r H' _ k (e.same s) s λH2 s2=>⟨s.trans s2,?_⟩⟩;rw[ba,d];simp
 .rintro ys H' ⟨s,rfl⟩ p hp;rw[hI.1,bg];exact hd H' p s hp
def Its.put{c:qE}{xs:qA V}{o:HO}(h:Its H vs rss)(b:H c=some (.lst xs)):Its (upd H c o) vs rss:=⟨h.1,λi v e=>let ⟨r,e1,a,e2,q⟩:=h.2 i v e;⟨r,e1,a,e2,by rw[A5 (M0 q b (by intro z;cases z))];exact q⟩⟩
open _root_.HT
section
variable {prog:qG}{E:qH}{s:qC}
def a0F{t sl:qE}{items:Array qB}{e f:qB}{lo hi:qD Int}{Q:qH}(a:IsTup s.heap t items)(hs:s.heap.IsSliceOf sl e f .none)(pl:IsPart e lo)(i:IsPart f hi)
  (hw:sIx items.size 0 lo=0/\sIx items.size items.size hi=items.size) (h:Q (.ref t) s):wpAny (model prog w) A (getItem (.ref t) (.ref sl)) Q E s:=by
 obtain⟨os,d,c,g⟩:=id hs;have b:s.TypeIs (.ref sl) "slice":=⟨os,d,c⟩;unfold getItem
 try with_reducible refine ck ?_
 first|refine aa (ag ?_)|skip
 refine aa (wpAny_sequenceKey a.typeIs (by decide) ?_);refine aa (bH (name:=Str.ofString "__getitem__") a.typeIs cy
  (bI cy a.typeIs entry_tuple_getitem ?_ (args_tuple_getitem _ _)))
 show wpAny _ _ (Builtin.Tuple.tupleItemsOf (.ref t)>>=_) _ _ s;refine aa (tupleItemsOf_ a ?_);refine aa (eB b ?_);rw[av (by decide)];refine aa (U6 hs pl i ?_);rw[hw.1,hw.2];show wpAny _ _ (if ((((0:Nat):Int)==0 && (1:Int)==1 && (items.size-0)==items.size))=true then _ else _) _ _ s;rw[av (by simp)];refine aa (aa (eB a.typeIs (ag ?_)));rw[av (by decide)];exact aa (eH (ag ⟨_,rfl,ag h⟩))
end
section
variable {X:Cx}{e:Expr}{lo hi:qD Expr}{tl th:TO}{pos p2:Pos}
def b4V(K:qF):V->qD Int->qD Int->Hp->VK->Prop:=λx lo hi H Q=>∃a xs,x=.ref a/\SqT K H a xs /\
 ((HT.sIx xs.length 0 lo=0/\HT.sIx xs.length xs.length hi=xs.length)->Q (.ref a) H)/\(¬(HT.sIx xs.length 0 lo=0/\HT.sIx xs.length xs.length hi=xs.length)->∀p,H p=none->Q (.ref p) (upd H p (.tup (K5 xs lo hi))))
def b4E(K:qF)(i:X.K=K):SlR X (b4V K):=by
 subst i;intro qK s σ H x v k l lo hi sl Q I g hs e f h;obtain⟨a,xs,rfl,d,q1,j⟩:=h;by_cases hw:HT.sIx xs.length 0 lo=0/\HT.sIx xs.length xs.length hi=xs.length
 .cases g;obtain⟨its,r,c,m⟩:=I.tuple d;have b:its.toArray.size=xs.length:=by rw[aE];exact r.length.symm
  refine⟨"tuple",_,cy.lookup,c.typeIs,?_⟩;exact a0F c hs e f (by rw[b];exact hw) ⟨.ref a,H,I,rfl,q1 hw⟩
 .exact b1T qK s σ H (.ref a) v k l lo hi sl Q I g hs e f ⟨a,xs,rfl,d,hw,j hw⟩
def b3z(K:qF)(b:JE X e te)(c:JO X lo tl)(d:JO X hi th)(a:X.K=K:=by rfl):JE X (.Subscript e (.Slice lo hi none p2) pos) (tSl (b4V K) te tl th):=⟨a3f (b4E K a) b.h c.h d.h⟩
def map_int_inj{a b:qI}:a.map V.int=b.map V.int↔a=b:=by
 constructor
 .intro h;induction a generalizing b with
  |nil=>cases b with
   |nil=>rfl
   |cons _ _=>cases h
  |cons x a c=>cases b with
   |nil=>cases h
   |cons y b =>
    rw[aV,aV]at h;injection h with h1 h2
    injection h1 with h1
    rw[h1,c h2]
 .rintro rfl;rfl
end
end L2
namespace L2
open PySem PySem.Spec PyProof.Rows
variable {A:Around}{C a:qE}{E Q:qH}{H H':Hp}{K:qF}{P:qG}{X:Cx}{e:Expr}{es:qA Expr}{h h':Heap}{k:Bool}{qL:qA (qA Key×V)}{o:qD V}{p pos:Pos}{qK:qA (qE×Obj)}{ps:qA Str}{s:qC}{sp:Sp}{ta te:TE}{u:qB}{v y:V}{w:World}{x:Str}{xs:qA (qA Key×qE×qB)}{σ:St}
def b9w:RL:=λxs H Q=>∃i:Int,xs=[.int i]/\Q (.int (if i<0 then -i else i)) H
def b1k:D0 X (.builtin "abs") b9w:=by
 intro qK s σ H xs c Q I b h;obtain⟨i,rfl,q⟩:=h;obtain⟨u,rfl,a⟩:=b.one;obtain⟨t,rfl⟩:=a;exact call_abs_int λu tk=>⟨.int _,H,I.tok tk,⟨u,rfl⟩,q⟩
def b3y{t:TA}(d:Gl X "abs")(f:X.mg "abs"=none)(b:JA X (e::es) t)(c:starEach (e::es) X.env=(false,eval e X.env)::starEach es X.env:=by rfl)(a:(backTo pos (starEach es X.env)).any (·.1)=false:=by rfl):JE X (.Call (.Name "abs" p) (e::es) [] pos) (tCB b9w t):=⟨D8 b1k d f b8S b.h (by decide) (by decide) c a⟩
section
variable {prog:qG}
def b0P{e it l:qE}{i:Nat}{items:Array qB}{x old:qB}(L:IsEnum s.heap e it (i:Int) old)(H:ItAt k s.heap it l i)(T:SqAt k s.heap l items)(U:items[i]?=some x)(ne:e≠it)
  (S:∀(h':Heap) (t:Tok) (tk:Nat),IsEnumOut h' e it ((i:Int)+1) x s.heap.objs.size->ItAt k h' it l (i+1)->h'.get? s.heap.objs.size=some {cls:=.type "tuple",data:=.seq #[.int i t,x]}->h'.objs.size=s.heap.objs.size+1 ->
   (∀b o,b≠e->b≠it->s.heap.get? b=some o->h'.get? b=some o)->Q (.ref s.heap.objs.size) {s with heap:=h',toks:=tk}) :
  wpAny (model prog w) A (Builtin.«enumerate.__next__» ⟨[.ref e],[]⟩) (λfin s'=>∃v,fin=.done (.ret v)/\Q v s') E s:=by
 show wpAny _ _ (field (.ref e) 2>>=_) _ _ _;refine aa (bW L rfl (x:=.ref it) rfl ?_);refine aa (a0Z H T U λh1 J r=>?_);have g:IsEnum h1 e it (i:Int) old:=r.extBut _ _ ne L;show wpAny _ _ (field (.ref e) 3>>=_) _ _ _;refine aa (bW g rfl (x:=rawInt i) rfl ?_);show wpAny _ _ (field (.ref e) 4>>=_) _ _ _;refine aa (bW g rfl (x:=.none) rfl ?_);show wpAny _ _ (if (Value.none==Value.none)=true then _ else _) _ _ _;rw[av (by decide)];refine aa (wpAny_mkInt ?_);refine aa (cn (s:={s with heap:=h1,toks:=s.toks+1}) g (by simp) λh2 h u=>?_);replace h:IsEnum h2 e it ((i:Int)+1) old:=h;refine aa (cn (s:={s with heap:=h2,toks:=s.toks+1}) h (by simp) λa d y=>?_);replace d:IsEnum a e it ((i:Int)+1) old:=d;refine aa (wpAny_newTuple ?_);have I:a.objs.size=s.heap.objs.size:=by rw[y.1,u.1,r.1]
 have p:e<a.objs.size:=aF d;have j:IsEnum (a.push {cls:=.type "tuple",data:=.seq #[.int i s.toks,x]}) e it ((i:Int)+1) old:=ae _ d;refine aa ?_;unfold Builtin.SmallTypes.ownedTupleIsFree;refine aa (bW j rfl (x:=.none) rfl (ag ?_));show wpAny _ _ (if (Value.none==Value.none)=true then _ else _) _ _ _;rw[av (by decide)];refine aa (eH ?_);refine aa (bW j rfl (x:=old) rfl ?_);refine aa (cn j (by simp) λP m z=>?_);replace m:IsEnum P e it ((i:Int)+1) x:=m;refine aa ?_;unfold Builtin.SmallTypes.ownedTupleHandOut;refine aa (cn m (by simp) λR n B=>?_);replace n:IsEnumOut R e it ((i:Int)+1) x a.objs.size:=n;refine cn n (by simp) λD f C=>?_;replace f:IsEnumOut D e it ((i:Int)+1) x a.objs.size:=f;refine aa (wpAny_letGo ?_);have N:∀c o,c≠e->a.get? c=some o->D.get? c=some o:=λc o G q=>C.extBut _ _ G (B.extBut _ _ G (z.extBut _ _ G (ae _ q)));have K:D.get? a.objs.size=some {cls:=.type "tuple",data:=.seq #[.int i s.toks,x]}:=C.extBut _ _ (cR p) (B.extBut _ _ (cR p) (z.extBut _ _ (cR p) (aC _ rfl)));have M:D.objs.size=a.objs.size+1:=by rw[C.1,B.1,z.1,br]
 refine ag ⟨_,rfl,?_⟩;show Q (.ref a.objs.size) _;rw[I]at K M f⊢;refine S D s.toks (s.toks+1) f ((((J.extBut u.extBut ne.symm).extBut y.extBut ne.symm)).at λo q=>N it o ne.symm q) K M λb o F O q=>N b o F (y.extBut _ _ F (u.extBut _ _ F (r.extBut _ _ O q)))
def b3U{e it l:qE}{i:Nat}{items:Array qB}{old:qB}{Q:Fin->qC->Prop}(j:A.handled=none)(h:IsEnum s.heap e it (i:Int) old)(a:ItAt k s.heap it l i)(m:SqAt k s.heap l items)(n:items[i]?=none)
  (g:∀h' x,(∀c o,c≠e->c≠it->s.heap.get? c=some o->h'.get? c=some o)->(∃o,h'.get? x=some o/\o.cls=.type "StopIteration")->E (.ref x) {s with heap:=h'}) :
  wpAny (model prog w) A (Builtin.«enumerate.__next__» ⟨[.ref e],[]⟩) Q E s:=by
 show wpAny _ _ (field (.ref e) 2>>=_) _ _ _;refine aa (bW h rfl (x:=.ref it) rfl ?_);exact aa (a5a j a m n λh1 x b d=>g h1 x (λc o _ f q=>b _ _ f q) d)
def b7f{α:Type}{M:Model}{c:Bool}{t u:Sem α}{Q:α->qC->Prop}(h1:wpAny M A t Q E s)(h2:wpAny M A u Q E s):wpAny M A (if c=true then t else u) Q E s:=by
 cases c
 .exact h2
 .exact h1
def b3T(l:qE)(xs:Array qB) :
  Meets (Builtin.«enumerate.__new__» ⟨[.type "enumerate",.ref l],[]⟩) (λ_ R s=>SqAt k s.heap l xs /\
   R (.ok (.ret (.ref (s.heap.push (P5 k l)).objs.size))) {s with heap:=(s.heap.push (P5 k l)).push {cls:=.type "enumerate",data:=.fields #[.none,.bool false,.ref s.heap.objs.size,rawInt 0,.none,.none]}}) :=
 .of_wp λprog w A R s h=>by
  obtain⟨e,g,d,tk,os⟩:=s;obtain⟨b,h⟩:=h;have c:=sub_enumerate;have a:SqAt k (Shared.heap ⟨e,g,d,tk,os⟩) l xs:=b
  wp_walk using L7 a
  intro Γ p f;change wpAny _ _ (pure (_:Bool)) _ _ _;refine ag ?_;refine b7f ?_ ?_
  .wp_walk using L7 a
   exact⟨_,rfl,h⟩
  .wp_walk using L7 a
   exact⟨_,rfl,h⟩
def b0Q{l:qE}{xs:Array qB}(b:SqAt k s.heap l xs)
  (h:∀h',IsEnum h' (s.heap.objs.size+1) s.heap.objs.size 0 .none->ItAt k h' s.heap.objs.size l 0->h'.objs.size=s.heap.objs.size+2->(∀c o,s.heap.get? c=some o->h'.get? c=some o)->Q (.ref (s.heap.objs.size+1)) {s with heap:=h'}) :
  wpAny (model prog w) A (call (.type "enumerate") [.ref l]) Q E s:=by
 refine callType_new F.called_enumerate (by decide) (F.typeCall_enumerate_1 _) (F.newCall_enumerate_1 _) (λobj=>F.args_object_init_2 obj _) F.entry_enumerate_new
  (b3T (k:=k) l xs) ⟨b,?_⟩
 have d:(s.heap.push (P5 k l)).objs.size=s.heap.objs.size+1:=br ..;have a:((s.heap.push (P5 k l)).push {cls:=.type "enumerate",data:=.fields #[.none,.bool false,.ref s.heap.objs.size,rawInt 0,.none,.none]}).get? (s.heap.push (P5 k l)).objs.size=some _:=aC _ rfl;have e:((s.heap.push (P5 k l)).push {cls:=.type "enumerate",data:=.fields #[.none,.bool false,.ref s.heap.objs.size,rawInt 0,.none,.none]}).get? s.heap.objs.size=some (P5 k l):=ae _ (aC _ rfl);show _/\_;rw[d]at a;rw[d];refine⟨⟨_,a,rfl⟩,h _ a ?_ (by rw[br,d]) λc o x=>ae _ (ae _ x)⟩;cases k<;>exact⟨_,e,rfl,rfl⟩
end
def Ite(K:qF)(k:Bool)(a:qE):It :=
 ⟨λi H=>∃xs x,SqK k K H a xs/\xs[i]?=some x,
  λi H v H'=>∃p x,v=.ref p/\H p=none/\H'=upd H p (.tup [.int i,x])/\∀xs,SqK k K H a xs->xs[i]?=some x,
  λi H=>∃xs,SqK k K H a xs/\xs.length<=i⟩
structure ETurn(k:Bool)(e it a:qE)(i:Nat)(h:Heap):Prop where
 en:∃old,IsEnum h e it (i:Int) old
 t1:ItAt k h it a i
def a9P{kt:Nat}{tp:Pos}{e it:qE}(ne:e≠it) :
  Turn P w K (.Tuple es kt tp) (Ite K k a) [e,it] e (λi h=>ETurn k e it a i h) where
 mem:=by simp
 obj:=λi h st c f=>by
  simp only[aA,bA,cI]at f;rcases f with rfl|rfl
  .obtain⟨old,q⟩:=st.en;exact⟨_,q,λv z=>by cases z⟩
  .obtain⟨o,e,d⟩:=st.t1.get;exact⟨o,e,λv z=>by rw[d]at z;cases z⟩
 keep:=λi h h' st k=>⟨let ⟨old,q⟩:=st.en;⟨old,k e (by simp) _ q⟩,st.t1.at λo q=>k it (by simp) o q⟩
 item:=by
  intro X C hw B f i qK s σ H E I r st G;subst C hw B;obtain⟨xs,x,j,y⟩:=G;obtain⟨us,M,L,zu⟩:=I.sqk j;obtain⟨u,hu,N⟩:=M.get y;obtain⟨old,g⟩:=st.en;have n:s.TypeIs (.ref e) "enumerate":=⟨_,g,rfl⟩;unfold pyNext;refine aa (dv (bH (name:=Str.ofString "__next__") n eE
   (bI eE n F.entry_enumerate_next
    (b0P g st.t1 L (x:=u) (by simpa using hu) ne λh' t tk a1 U V a4 W=>ag ?_) (F.args_enumerate_next_1 _))))
  refine⟨_,rfl,?_⟩;refine wpAny_letOwnedTupleGo_enum (s:={s with heap:=h',toks:=tk}) a1 λh2 D m=>?_;have p:∀c∈[e,it],c≠s.heap.objs.size:=λc f q=>by
   have:∃o,s.heap.get? c=some o:=by
    simp only[aA,bA,cI]at f;rcases f with rfl|rfl
    .exact⟨_,g⟩
    .obtain⟨o,e,d⟩:=st.t1.get;exact⟨o,e⟩
   obtain⟨o,z⟩:=this;exact absurd (aF z) (by rw[q];exact bN _)
  have l:H s.heap.objs.size=none:=I.hok.fresh (ak _);have J:=m.extBut _ _ (p e (by simp)).symm V;have kk:∀c o,c∉[e,it]->s.heap.get? c=some o->h2.get? c=some o:=λc o f q=>by
   simp only[aA,bA,cI,not_or]at f;exact m.extBut _ _ f.1 (W c o f.1 f.2 q)
  have R:Inv X qK σ (upd H s.heap.objs.size (.tup [.int i,x])) {s with heap:=h2} :=
   I.turnedT (ch:=[e,it]) r rfl kk ⟨by show 2<=sizeLine;decide,[.int i t,u],.cons ⟨t,rfl⟩ (.cons N .nil),⟨_,J,rfl,0,rfl⟩⟩
  have S:=R.tok tk;refine⟨.ref s.heap.objs.size,_,S,rfl,⟨_,x,rfl,l,rfl,λzs hz=>?_⟩,⟨⟨_,D⟩,U.extBut m.extBut ne.symm⟩,λc f=>?_⟩
  .rw[I.sqk_inj hz j];exact y
  .rw[A5 (p c f)];exact(r c f).1
 done:=by
  intro X C hw B f i qK s σ H E I r st G;subst C hw B;obtain⟨xs,j,O⟩:=G;obtain⟨us,M,L,zu⟩:=I.sqk j;have l1:=M.length;obtain⟨old,g⟩:=st.en;have n:s.TypeIs (.ref e) "enumerate":=⟨_,g,rfl⟩;unfold pyNext;refine aa (dv (bH (name:=Str.ofString "__next__") n eE
   (bI eE n F.entry_enumerate_next (b3U (I.ok.hd f) g st.t1 L (by simp;omega) λh' x Y y=>?_) (F.args_enumerate_next_1 _))))
  obtain⟨o,Z,f⟩:=y;refine aa (eM (T:="StopIteration") (b:=true) ⟨o,Z,f⟩ isSubtype_stop ?_);refine ag ⟨rfl,I.turnedL (ch:=[e,it]) r λc o f q=>?_⟩;simp only[aA,bA,cI,not_or]at f;exact Y c o f.1 f.2 q
 self:=λA i s Q E st h=>let ⟨_,q⟩:=st.en;wpAny_pyIter_enum q h
def b6Y(K:qF)(ta:TA):TI:=λσ H R=>ta σ H λvs H1=>∃k a,vs=[.ref a]/\(∃xs,SqK k K H1 a xs)/\R (Ite K k a) H1
def b5m{o:Nat}{v:Pos}{a:Expr}{ta:TA}(l:Gl X "enumerate")(m:X.mg "enumerate"=none)(j:PA X [a] ta)(f:bootBuiltins "enumerate"=some (.type "enumerate"))
  (hs:starEach [a] X.env=[(false,eval a X.env)]:=by rfl) :
  PI X (.Tuple es o v) (.Call (.Name "enumerate" p) [a] [] pos) (b6Y X.K ta):=by
 intro qK s σ H R I h;refine Call_ (a1D I l m f (dD (thn (j pos qK s σ H _ I h) λw s1 ⟨B,H1,d,u,q1⟩=>?_) (by rw[hs];rfl) (by rfl)));obtain⟨k,z,e,⟨xs,n⟩,q⟩:=q1;subst e;cases u with
 |cons r rr =>
  cases rr;cases r;obtain⟨w,A,t,D⟩:=d.sqk n;refine b0Q t λh' i x C y=>?_;refine wpAny_pyIter_enum (s:={s1 with heap:=h'}) i ?_;refine⟨s1.heap.objs.size+1,[s1.heap.objs.size+1,s1.heap.objs.size],_,_,H1,rfl,d.kept (t':=s1.toks) y,a9P (nne (by omega)),
   ⟨⟨_,i⟩,x⟩,λc g=>?_,q⟩
  have b:s1.heap.objs.size<=c:=by
   simp only[aA,bA,cI]at g;rcases g with rfl|rfl
   .exact b_ _ _
   .exact ak _
  exact d.fpOk b (d.hok.fresh b)
def a5P:bootBuiltins "enumerate"=some (.type "enumerate"):=by kernel_rfl
def b3O{xs:qA V}{g:TG}{tb:TS}{D:Ends}(b:Nat->St->Hp->Prop)(h0:b 0 σ H)
  (j:∀i σ H,i<=xs.length->b i σ H->SqK k K H a xs)
  (hs:∀i x σ H p,xs[i]?=some x->b i σ H->H p=none->g (.ref p) σ (upd H p (.tup [.int i,x])) λσ2 H2=>tb {D with nx:=b (i+1),ct:=b (i+1),bk:=D.nx} σ2 H2) (hd:∀σ H,b xs.length σ H->D.nx σ H) :
  ∃W:Nat->Nat->St->Hp->Prop,(∃m,W 0 m σ H)/\∀i m σ H,W i m σ H ->
   ((Ite K k a).stop i H/\D.nx σ H)∨((Ite K k a).go i H/\∃N:St->Hp->Prop,(∀σ' H',N σ' H'->∃d,d<m/\W (i+1) d σ' H')/\∀x H',(Ite K k a).yld i H x H'->g x σ H' λσ2 H2=>tb {D with nx:=N,ct:=N,bk:=D.nx} σ2 H2):=by
 refine⟨λi m σ H=>m=xs.length-i/\i<=xs.length/\b i σ H,⟨_,rfl,bw _,h0⟩,?_⟩;rintro i m σ H ⟨rfl,hi,p⟩;have q1:=j i σ H hi p;by_cases c:i<xs.length
 .refine .inr ⟨⟨xs,xs[i],q1,aj c⟩,b (i+1),λσ' H' l=>⟨_,by omega,rfl,c,l⟩,λx H' y=>?_⟩;obtain⟨n,o,e,f,h,q⟩:=y;subst e h;exact hs i o σ _ n (q xs q1) p f
 .have e:i=xs.length:=by omega
  subst e;exact .inl ⟨⟨xs,q1,ak _⟩,hd σ H p⟩
def b5R(K:qF){f:Nat}{g:Pos}{a:Expr}{t:TA}(d:Gl X "enumerate")(e:X.mg "enumerate"=none)(c:JA X [a] t)(b:X.K=K:=by rfl)(hs:starEach [a] X.env=[(false,eval a X.env)]:=by rfl) :
  JI X (.Tuple es f g) (.Call (.Name "enumerate" p) [a] [] pos) (b6Y K t):=by subst b;exact⟨b5m d e c.h a5P hs⟩
section
variable {M:Model}
def a2q{nm q:Str}{N:qE}{bs bm:qA qB}{hdct:Bool}{sn:qA Str}{sub:qA qB}{ab:Bool}{col:qD Bool}{dd:qD qE}{k0 k1 k2 k3 k5:qD qB}{qP:String}{g:Array GenState}{d:Drawn}{t:Nat}{os:OsState}{e:qE}{k:Obj}{Q:Bool->qC->Prop}
  (j:h.get? C=some (excClassObj nm q C N bs bm hdct sn sub ab col dd k0 k1 k2 k3 k5 qP)) (l:h.get? e=some k) (b:k.cls=.ref C)
  (a:bm.contains (.type "BaseException")=true) (m:Q true ⟨h,g,d,t,os⟩):wpAny M A (excMatches (.ref e) (.ref C)) Q E ⟨h,g,d,t,os⟩:=by
 have c:(Value.ref C::bm).contains (.type "BaseException")=true:=by rw[dY,a,fT]
 have i:(Value.ref C::bm).contains (.ref C)=true:=by rw[dY];simp
 have f:=tc_notTuple;unfold excMatches
 repeat (first | (with_reducible refine dt l ?_;rw[b])|with_reducible refine dt j ?_ | (with_reducible refine eU j ?_;first|rw[c]|rw[i])|wp_step)
 exact m
end
def b1D(K:qF)(D:qE)(tx:TX)(ts:TS):TS:=λDe σ H=>tx De (λσ1 C H'=>C=D/\∀p,H' p=none->ts De σ1 (upd H' p (a2p p C))) σ H
def b2y{body:qA Stmt}{tx:TX}{Q:TS}{n:Str}{np m:Pos}{M:Stmt}{b:qA Stmt}{D:qE}(j:X.stack=X.env::X.outer)(x:X.env.frame=some X.env.locals)(hx:PSx X body tx)
  (hg:Gl X n) (hm:X.mg n=some (.ref D)) (hD:ClsX X.K D [])
  (A:∀p,PSs (X.held p) (M::b) Q) (hd:(n==("__debug__" : Str))=false:=by decide) :
  PS X (.Try body [.ExceptHandler (some (.Name n np)) none (M::b) m] [] [] pos) (b1D X.K D tx Q):=by
 intro qK s σ H J I h;refine wpAny_Try_except (cH (hx qK s σ H J _ I h) (λf s1 q=>?_) λe s' q=>?_)
 .cases f with
  |next=>exact c_ q
  |brk=>exact q
  |cont=>exact q
  |ret v=>exact q
 .obtain⟨σ1,H1,s1,p,C,H',B,a0,rfl,I1,hos,hbare,hU,hok,hp,fl,cov,hC,k⟩:=q;subst hC;have O:=fl.2.2.1;have l:=fl;rw[j]at l;refine wpAny_looks_onW (L:=X.env.locals) (by rw[<-j];exact I1.ok.frames) x l λh4 i F=>?_;refine wpAny_landsW i λY c d=>?_;rw[<-j]at c;have d:=F.trans d;have K:Inv X qK σ1 H' {s' with heap:=Y}:=I1.land hos hbare hU hok O cov c.1 d;refine wpAny_handleBy_cons (codeAny_handlers_test ?_) (by intro q;cases q);refine N3 (X:=X.held p) (K.held p) hg hm ?_ hd;obtain⟨oe,y,u⟩:=c.there;obtain⟨a1,q',S,V,U,w,a2,P,T,N,W,j0,j1,j2,j3,j5,o,E,t,_⟩:=hD.ex;refine a2q (K.kIn _ _ E) y u t ?_;refine codeAny_handlers_suite ?_;refine lands_againW c λZ r G=>?_;have R:Inv X qK σ1 (upd H' p (a2p p C)) {s' with heap:=Z}:=I1.landX hos hbare hU hok hp O cov r (d.trans G);refine cH (A p qK _ _ _ J (R.held p) (k p hp)) (λf s8 a=>?_) λ_ _ z=>False.elim z;cases f with
  |next=>obtain⟨σ2,H2,g,a⟩:=a;exact⟨σ2,H2,g.unheld I.ok,a⟩
  |brk=>obtain⟨σ2,H2,g,a⟩:=a;exact⟨σ2,H2,g.unheld I.ok,a⟩
  |cont=>obtain⟨σ2,H2,g,a⟩:=a;exact⟨σ2,H2,g.unheld I.ok,a⟩
  |ret v=>obtain⟨v',σ2,H2,g,rv,a⟩:=a;exact⟨v',σ2,H2,g.unheld I.ok,rv,a⟩
section
variable {k:Nat}{qM:Pos}{t:TA}
def a6S(K:qF){body:qA Stmt}{tx:TX}{h:TS}{c:Str}{n b:Pos}{g:Stmt}{a:qA Stmt}{D:qE}(m:JX X body tx)(k:Gl X c)(l:X.mg c=some (.ref D))(i:ClsX K D [])
  (f:∀p,JB (X.held p) (g::a) h) (j:X.K=K:=by rfl) (e:X.stack=X.env::X.outer:=by rfl) (d:X.env.frame=some X.env.locals:=by rfl) (hd:(c==("__debug__" : Str))=false:=by decide) :
  JS X (.Try body [.ExceptHandler (some (.Name c n)) none (g::a) b] [] [] pos) (b1D K D tx h):=by
 subst j;exact⟨b2y e d m.h k l i (λp=>(f p).h) hd⟩
end
section
variable (P:qG)(w:World)
end
section
variable {o:HO}
end
section
variable {x e:qE}{o':HO}
end
section
variable {fs fs' ex ex':qA qE}{H1 H2:Hp}{h1 h2:Heap}{x e:qE}{o:HO}
end
section
variable {σ:qA (qD V)}
end
section
variable {a b:Expr}{tb:TE}
variable {tA tB':TT}{rest:qA Expr}
end
section
variable {xs ys:qA V}
end
section
variable {st:Stmt}{rest:qA Stmt}{t u:TS}
end
section
variable {tg:Expr}
end
section
variable {a b c:Expr}{tb tc:TE}
end
section
variable {prog:qG}{x dx f:qE}{mA:Str->qD qB}{name:Str}{v:qB}
end
section
variable {dx:qE}{fs fs':qA (Str×V)}
end
section
variable {dx:qE}{fs:qA (Str×V)}{f:Str}
end
section
variable {o value:Expr}{f:Str}{pos' tpos:Pos}{tv:TE}
end
section
variable {c:qB}{b:Bool}
end
section
variable {t:TA}
end
section
variable {s':qC}
end
section
variable {CX:CXT}{k:Nat}{f:qE}{fd:FuncData}{dvs:qA V}{ds:qA qB}{E:XK}{m:Str}{qO:Pos}{o:Expr}{t:TA}
end
section
variable {CX:CXT}{k:Nat}{f:qE}{fd:FuncData}{ks:qA Str}{E:XK}{m:Str}{qO kpos:Pos}{o:Expr}{kws:qA Keyword}{t tk:TA}{nm:qD Str}
variable {g:qA qB->qA qB->qA qB}{gV:qA V->qA V->qA V}
end
section
variable {t:TA}{id T:String}{r:qA V->Hp->VK->Prop}
end
section
variable {κ:Type}[DecidableEq κ]
def U5(qL:qA (κ×V))(k:κ):qD V:=(qL.find? λkv=>decide (kv.1=k)).map (·.2)
def a0E(qL:qA (κ×V))(k:κ)(v:V):qA (κ×V) :=
 if (qL.any λkv=>decide (kv.1=k))=true then qL.map (λkv=>if kv.1=k then(kv.1,v)else kv)else qL++[(k,v)]
def a2O{p:κ×V}{r:qA (κ×V)}{k:κ}(e:p.1=k):U5 (p::r) k=some p.2:=by simp[U5,dZ,e]
def a2P{p:κ×V}{r:qA (κ×V)}{k:κ}(e:¬p.1=k):U5 (p::r) k=U5 r k:=by simp[U5,dZ,e]
def U4(k:κ):∀qL:qA (κ×V),(qL.any λa=>decide (a.1=k))=(U5 qL k).isSome
 |[]=>rfl
 |p::r=>by
  rw[List.any_cons];by_cases e:p.1=k
  .simp only[a2O e,bj e,Bool.true_or,Option.isSome_some]
  .rw[a2P e,bK e,eS];exact U4 k r
def a2b(qL:qA (κ×V))(k:κ)(v:V):(a0E qL k v).length<=qL.length+1:=by
 unfold a0E;split
 .rw[ai];omega
 .rw[ar,aZ,List.length_nil];omega
def a6A{qL:qA (κ×V)}{k:κ}(v:V)(h:U5 qL k=none):a0E qL k v=qL++[(k,v)]:=by
 unfold a0E;rw[U4,h];exact ao (by decide)
def RelO.isSome_eq{u:qD qB}(r:RelO o u):o.isSome=u.isSome:=by
 cases o with
 |none=>cases u with
  |none=>rfl
  |some _=>exact(show False from r).elim
 |some _=>cases u with
  |none=>exact(show False from r).elim
  |some _=>rfl
def KV.val{qL:qA (κ×V)}{vs:qA (κ×qB)}(r:KV qL vs)(k:κ):RelO (U5 qL k) (valueAt vs k):=by
 unfold KV at r;induction r with
 |nil=>exact True.intro
 |@cons p q ps qs h t a =>
  obtain⟨h1,h2⟩:=h;by_cases e:p.1=k
  .have e':q.1=k:=h1.symm.trans e;have b:valueAt (q::qs) k=some q.2:=by simp[valueAt,dZ,e']
   rw[a2O e,b];exact h2
  .have e':¬q.1=k:=λz=>e (h1.trans z);have b:valueAt (q::qs) k=valueAt qs k:=by simp[valueAt,dZ,e']
   rw[a2P e,b];exact a
def KV.any{qL:qA (κ×V)}{vs:qA (κ×qB)}(r:KV qL vs)(k:κ):(qL.any λa=>decide (a.1=k))=vs.any λa=>decide (a.1=k):=by
 unfold KV at r;induction r with
 |nil=>rfl
 |cons h t b=>rw[List.any_cons,List.any_cons,b,h.1]
def KV.repl{qL:qA (κ×V)}{vs:qA (κ×qB)}(r:KV qL vs)(k:κ)(c:RelV y u) :
  KV (qL.map λa=>if a.1=k then(a.1,y)else a) (vs.map λa=>if a.1=k then(a.1,u)else a):=by
 unfold KV at r⊢;induction r with
 |nil=>exact .nil
 |@cons p q ps qs h t b =>
  rw[aV,aV];refine .cons ?_ b;obtain⟨h1,h2⟩:=h;by_cases e:p.1=k
  .rw[av e,av (h1.symm.trans e)];exact⟨h1,c⟩
  .rw[ao e,ao (λz=>e (h1.trans z))];exact⟨h1,h2⟩
def KV.put{qL:qA (κ×V)}{vs:qA (κ×qB)}(r:KV qL vs)(k:κ)(a:RelV y u):KV (a0E qL k y) (stored vs k u):=by
 unfold a0E stored;rw[r.any k];by_cases e:(vs.any λb=>decide (b.1=k))=true
 .rw[av e,av e];exact r.repl k a
 .rw[ao e,ao e];exact Paired.snoc r ⟨rfl,a⟩
def KV.length{qL:qA (κ×V)}{vs:qA (κ×qB)}(r:KV qL vs):qL.length=vs.length:=Paired.length r
end
def a9j{k:Key}(r:RelV (kV k) u):(C3 P w).is k u=true:=by
 cases k with
 |inl i=>obtain⟨t,e⟩:=(show ∃t,u=Value.int i t from r);subst e;exact a6H P w i t
 |inr x=>obtain⟨t,e⟩:=(show ∃t,u=Value.str x t from r);subst e;exact a6G P w x t
def a4B{P:qG}{w:World}:∀{ks:qA Key}{us:qA qB},Vals (ks.map kV) us->ItemsAre (C3 P w) ks us
 |[],_,r=>by rw[fO]at r;cases r;exact .nil
 |k::ks,_,r=>by
  rw[aV]at r;cases r with
  |cons h t=>exact .cons (a9j h) (a4B t)
abbrev KT(H:Hp):qA (qA Key×V)->qA (qA Key×qE×qB)->Prop:=Paired λp q=>p.1=q.1/\H q.2.1=some (.tup (p.1.map kV))/\RelV p.2 q.2.2
def KT.val(r:KT H qL xs)(k:qA Key):RelO (U5 qL k) ((atKey xs k).map (·.2)):=by
 induction r with
 |nil=>exact True.intro
 |@cons p q ps qs h t a =>
  obtain⟨h1,_,h2⟩:=h;by_cases e:p.1=k
  .have e':q.1=k:=h1.symm.trans e;have b:atKey (q::qs) k=some q.2:=by simp[atKey,dZ,e']
   rw[a2O e,b];exact h2
  .have e':¬q.1=k:=λz=>e (h1.trans z);have b:atKey (q::qs) k=atKey qs k:=by simp[atKey,dZ,e']
   rw[a2P e,b];exact a
def KT.repl(r:KT H qL xs)(k:qA Key)(d:RelV y u) :
  KT H (qL.map λa=>if a.1=k then(a.1,y)else a) (xs.map (putAt k u)):=by
 induction r with
 |nil=>exact .nil
 |@cons p q ps qs h t c =>
  rw[aV,aV];refine .cons ?_ c;obtain⟨h1,h2,b⟩:=h;unfold putAt;by_cases e:p.1=k
  .rw[av e,av (h1.symm.trans e)];exact⟨h1,h2,d⟩
  .rw[ao e,ao (λz=>e (h1.trans z))];exact⟨h1,h2,b⟩
def KT.put(r:KT H qL xs)(k:qA Key){b:qE}(c:H b=some (.tup (k.map kV)))(a:RelV y u) :
  KT H (a0E qL k y) (storedH xs k b u):=by
 have e:(qL.any λd=>decide (d.1=k))=(atKey xs k).isSome:=by
  rw[U4,(r.val k).isSome_eq,Option.isSome_map]
 unfold a0E storedH;rw[e];by_cases q:(atKey xs k).isSome=true
 .rw[av q,av q];exact r.repl k a
 .rw[ao q,ao q];exact Paired.snoc r ⟨rfl,c,a⟩
def KT.keeps(r:KT H qL xs)(a:∀b ys,H b=some (.tup ys)->H' b=some (.tup ys)):KT H' qL xs :=
 Paired.mapP r λ_ _ z=>⟨z.1,a _ _ z.2.1,z.2.2⟩
def b6H{u:HO}(ok:HOk P w H h)(e:Rd H a u):ObjOk P w H h a u:=e.ok ok
def b3Z{qL:qA (Key×V)}(ok:HOk P w H h)(e:Rd H a (.dK qL)):qL.length<=sizeLine/\(a==sysModules)=false/\∃vs,KV qL vs/\h.DictOf (C3 P w) a vs :=
 show ObjOk P w H h a (.dK qL)from b6H ok e
def b9R{qL:qA (Key×V)}(ok:HOk P w H h)(e:H a=some (.dK qL)):qL.length<=sizeLine/\(a==sysModules)=false/\∃vs,KV qL vs/\h.DictOf (C3 P w) a vs:=b3Z ok (.inl e)
def a1H{ks:qA Key}(ok:HOk P w H h)(e:H a=some (.tup (ks.map kV))):(tupleKind (C3 P w)).is h ks a:=by
 obtain⟨_,its,r,o,h1,h2,n,b⟩:=(show ObjOk P w H h a (.tup (ks.map kV))from ok a _ e);exact⟨o,its.toArray,n,h1,h2,b,by simpa using a4B r⟩
def b3W(ok:HOk P w H h)(e:Rd H a (.dT qL)):qL.length<=sizeLine/\(a==sysModules)=false /\
  ∃xs,KT H qL xs/\h.DictOfH (tupleKind (C3 P w)) a xs:=by
 obtain⟨z,y,xs,r,o,es,ep,h1,h2,d,f,g⟩:=(show ObjOk P w H h a (.dT qL)from b6H ok e);refine⟨z,y,xs,r,o,es,ep,h1,h2,d,f,λx b=>?_,g⟩;have all:∀{l:qA (qA Key×V)}{m:qA (qA Key×qE×qB)},KT H l m->∀x∈m,(tupleKind (C3 P w)).is h x.1 x.2.1:=by
  intro l m q;induction q with
  |nil=>intro x b;exact nomatch b
  |@cons p q ps qs c t i =>
   intro x b;rcases aA.mp b with e|b
   .subst e;exact a1H ok (by rw[<-c.1];exact c.2.1)
   .exact i x b
 exact all r x b
def b9Q(ok:HOk P w H h)(e:H a=some (.dT qL)):qL.length<=sizeLine/\(a==sysModules)=false /\
  ∃xs,KT H qL xs/\h.DictOfH (tupleKind (C3 P w)) a xs:=b3W ok (.inl e)
def DGet(H:Hp)(a:qE)(y:V)(r:qD V):Prop :=
 (∃qL k,Rd H a (.dK qL)/\y=kV k/\r=U5 qL k)∨∃qL k b,Rd H a (.dT qL)/\y=.ref b/\H b=some (.tup (k.map kV))/\r=U5 qL k
def DPut(H:Hp)(a:qE)(y v:V)(H':Hp):Prop :=
 (∃qL k,H a=some (.dK qL)/\y=kV k/\qL.length<sizeLine/\H'=upd H a (.dK (a0E qL k v))) ∨
 ∃qL k b,H a=some (.dT qL)/\y=.ref b/\H b=some (.tup (k.map kV))/\qL.length<sizeLine/\H'=upd H a (.dT (a0E qL k v))
def DGet.t{b:qE}{k:qA Key}(e:H a=some (.dT qL))(c:H b=some (.tup (k.map kV))):DGet H a (.ref b) (U5 qL k):=.inr ⟨qL,k,b,.inl e,rfl,c,rfl⟩
def DPut.t{b:qE}{k:qA Key}(e:H a=some (.dT qL))(c:H b=some (.tup (k.map kV)))(d:qL.length<sizeLine) :
  DPut H a (.ref b) v (upd H a (.dT (a0E qL k v))):=.inr ⟨qL,k,b,e,rfl,c,d,rfl⟩
section
variable {r:qB}
def Inv.big(I:Inv X qK σ H s):sysModules<s.heap.objs.size:=by
 have h:mainGlobals<s.heap.objs.size:=(I.mod.glob.keeps I.bk).lt;exact fU (by decide) h
def c0b(j:A.units+1<cLine)(I:Inv X qK σ H s)(g:DGet H a y o)(f:RelV y u)(h:∀s',Inv X qK σ H s'->Q (.bool o.isSome) s') :
  wpAny (model X.prog X.w) A (compareOp .In u (.ref a)) Q E s:=by
 rcases g with⟨qL,k,e,d,l⟩|⟨qL,k,b,e,d,i,l⟩
 .subst d;obtain⟨z,hd,m,c,dd⟩:=b3Z I.hok e;refine wpAny_in_of (a9j f) hd dd.mapOf ?_;rw[<-(c.val k).isSome_eq,<-l];exact h _ (I.tok _)
 .subst d;cases(show u=Value.ref b from f);obtain⟨z,hd,xs,c,dd⟩:=b3W I.hok e;refine wpAny_in_heap (tupleKind_room_in1 j) (a1H I.hok i) hd dd ?_;have q:=(c.val k).isSome_eq;rw[Option.isSome_map]at q;rw[<-q,<-l];exact h _ (I.tok _)
def b6d(j:A.units+1<cLine)(I:Inv X qK σ H s)(g:DGet H a y o)(f:RelV y u)(h:∀s',Inv X qK σ H s'->Q (.bool (!o.isSome)) s') :
  wpAny (model X.prog X.w) A (compareOp .NotIn u (.ref a)) Q E s:=by
 rcases g with⟨qL,k,e,d,l⟩|⟨qL,k,b,e,d,i,l⟩
 .subst d;obtain⟨z,hd,m,c,dd⟩:=b3Z I.hok e;refine wpAny_notIn_of (a9j f) hd dd.mapOf ?_;rw[<-(c.val k).isSome_eq,<-l];exact h _ (I.tok _)
 .subst d;cases(show u=Value.ref b from f);obtain⟨z,hd,xs,c,dd⟩:=b3W I.hok e;refine wpAny_notIn_heap (tupleKind_room_in1 j) (a1H I.hok i) hd dd ?_;have q:=(c.val k).isSome_eq;rw[Option.isSome_map]at q;rw[<-q,<-l];exact h _ (I.tok _)
def a9B{t':Nat}{c:HO}(I:Inv X qK σ H s)(g:Mut (H a))(hs:Heap.SameBut a s.heap h')(f:∃q,h'.get? a=some q)(new:ObjOk X.prog X.w (upd H a c) h' a c) :
  Inv X qK σ (upd H a c) {s with heap:=h',toks:=t'} :=
 I.write (x:=a) (e:=a) g (.inl rfl) (λb q d z=>(hs.2 b d).trans z) f new
def b8H{qL:qA (Key×V)}{vs:qA (Key×qB)}(z:qL.length<=sizeLine)(hd:(a==sysModules)=false)(b:KV qL vs)(dd:h'.DictOf (C3 P w) a vs) :
  ObjOk P w H' h' a (.dK qL):=⟨z,hd,vs,b,dd⟩
def b0S{Q:Unit->qC->Prop}(G:A.units+1<cLine)(I:Inv X qK σ H s)(g:DPut H a y v H')(x:RelV y u)(w:RelV v r)(h:∀s',Inv X qK σ H' s'->Q () s') :
  wpAny (model X.prog X.w) A (setItem (.ref a) u r) Q E s:=by
 rcases g with⟨qL,k,e,m,l,j⟩|⟨qL,k,b,e,m,p,l,j⟩
 .subst m j;obtain⟨z,hd,J,d,dd⟩:=b9R I.hok e;have o:J.length<=sizeLine:=by rw[<-d.length];exact z
  have n:(a0E qL k v).length<=sizeLine:=by have:=a2b qL k v;omega
  refine wpAny_setItem_pairs (hsz:=o) (a9j x) dd λh' f hs=>h _ ?_;have F:∃q,h'.get? a=some q:=let ⟨q,_,_,i,_⟩:=f;⟨q,i⟩
  exact a9B I (by rw[e];exact True.intro) hs F (b8H n hd (d.put k w) f)
 .subst m j;cases(show u=Value.ref b from x);obtain⟨z,hd,xs,d,dd⟩:=b9Q I.hok e;have o:xs.length<=sizeLine:=by rw[<-Paired.length d];exact z
  have n:(a0E qL k v).length<=sizeLine:=by have:=a2b qL k v;omega
  refine wpAny_setItem_heap (hsz:=o) (tupleKind_room_in1 G) (a1H I.hok p) dd λh' f hs=>h _ ?_;obtain⟨q,es,ep,i,h2,B,C,_,D⟩:=f;refine a9B I (by rw[e];exact True.intro) hs ⟨q,i⟩ ⟨n,hd,_,(d.put k p w).keeps λc ys t=>?_,q,es,ep,i,h2,B,C,D⟩;rw[A5 (M0 t e (λz=>nomatch z))];exact t
end
section
variable {qL:qA (Key×V)}{k:Key}
end
def b9l(ty td:TE):TE:=λσ H Q=>ty σ H λy H1=>td σ H1 λx H2=>∃a o,x=.ref a/\DGet H2 a y o/\Q (.bl o.isSome) H2
def a8F(ty td:TE):TE:=λσ H Q=>ty σ H λy H1=>td σ H1 λx H2=>∃a o,x=.ref a/\DGet H2 a y o/\Q (.bl (!o.isSome)) H2
def b6G(td ty tv:TE):TS:=λD σ H=>tv σ H λv H1=>td σ H1 λx H2=>ty σ H2 λy H3=>∃a H4,x=.ref a/\DPut H3 a y v H4/\D.nx σ H4
section
variable {o i value:Expr}{pos' tpos:Pos}{td ty tv:TE}
def b7S(f:X.A.units+1<cLine)(hi:PE X i ty)(e:PE X o td):PC X .In i o (b9l ty td):=by
 intro qK s σ H Q I h;refine thn (hi qK s σ H _ I h) λn s1 ⟨y,H1,b,m,q1⟩=>thn (e qK s1 σ H1 _ b q1) λu s2 ⟨x,H2,c,l,a,j,ex,g,k⟩=>?_;subst ex;obtain rfl:u=Value.ref a:=l;exact c0b f c g m λp d=>⟨.bl j.isSome,H2,d,rfl,k⟩
def b0m(f:X.A.units+1<cLine)(hi:PE X i ty)(e:PE X o td):PC X .NotIn i o (a8F ty td):=by
 intro qK s σ H Q I h;refine thn (hi qK s σ H _ I h) λn s1 ⟨y,H1,b,m,q1⟩=>thn (e qK s1 σ H1 _ b q1) λu s2 ⟨x,H2,c,l,a,j,ex,g,k⟩=>?_;subst ex;obtain rfl:u=Value.ref a:=l;exact b6d f c g m λp d=>⟨.bl (!j.isSome),H2,d,rfl,k⟩
def b5d(k:X.A.units+1<cLine)(j:PE X o td)(hi:PE X i ty)(l:PE X value tv)(hs:swapsWith value (some (.Subscript o i pos')) pos.line X.env=pure false) :
  PS X (.Assign [.Subscript o i pos'] value pos) (b6G td ty tv):=by
 intro qK s σ H D I h;refine wpAny_Assign_Subscript (thn (l qK s σ H _ I h) λr s1 ⟨v,H1,c,p,q1⟩=>thn (j qK s1 σ H1 _ c q1) λu s2 ⟨x,H2,d,q,m⟩=>thn (hi qK s2 σ H2 _ d m) λz A ⟨y,w,e,t,a,b,ex,g,n⟩=>?_) hs;subst ex;obtain rfl:u=Value.ref a:=q;exact b0S k e g t p λB f=>⟨σ,b,f,n⟩
end
def b3X(h:Heap)(a:sysModules<h.objs.size):ObjOk P w H (h.push {cls:=.type "dict",data:=.dict #[]}) h.objs.size (.dT []) :=
 ⟨bw _,cM.mpr (dq (aK a)),[],.nil,_,#[],0,aC _ rfl,⟨rfl,rfl,rfl⟩,rfl,rfl,fk⟩
def b1H:TE:=λ_ H Q=>∀p,H p=none->Q (.ref p) (upd H p (.dT []))
def b2K:PE X (.Dict [] [] pos) b1H:=λqK s σ H Q I h =>
 wpAny_Dict_empty ⟨.ref s.heap.objs.size,_,I.laid (a:=s.heap.objs.size) (o:=.dT []) (t':=s.toks) (λ_ _ q=>ae _ q) (ak _) (b3X s.heap I.big),rfl,h _ (I.hok.fresh (ak _))⟩
section
variable {d:V}{r:qB}
end
section
variable {o f:Expr}{qO qM:Pos}{td ty tx:TE}
end
section
variable {qL:qA (Key×V)}
end
end L2
namespace Att
open PySem PySem.W PySem.Calls PyProof.Rows
section
variable {prog:qG}{w:World}{A:Around}{E:qH}{s:qC}{K:Frag}
end
end Att
namespace L2
open PySem PySem.Spec PyProof.Rows
end L2
namespace L2
open PySem PySem.Spec PyProof.Rows
section
variable {P:qG}{w:World}{K:qF}{mg:Str->qD qB}{base:Heap}
end
section
variable {X:Cx}
end
section
variable {κ:Type}[DecidableEq κ]
def b1y{qL:qA (κ×V)}{k:κ}(h:U5 qL k=none):¬k∈qL.map (·.1):=by
 intro m;obtain⟨p,a,e⟩:=aT.mp m;have q:(qL.any λb=>decide (b.1=k))=true:=bJ.mpr ⟨p,a,bj e⟩;rw[U4,h]at q;exact absurd q (by simp)
def b4y{qL:qA (κ×V)}{k:κ}{v:V}(h:U5 qL k=some v):k∈qL.map (·.1):=by
 have q:(qL.any λb=>decide (b.1=k))=true:=by
  rw[U4,h]
  all_goals rfl
 obtain⟨p,a,e⟩:=bJ.mp q;exact aT.mpr ⟨p,a,bp e⟩
def a9h:∀{l:qA κ}{k:κ},l.Nodup->¬k∈l->(l++[k]).Nodup
 |[],k,_,_=>by simp
 |a::r,k,h,b=>by
  obtain⟨h1,h2⟩:=cq.mp h;show(a::(r++[k])).Nodup;refine cq.mpr ⟨λm=>?_,a9h h2 λm=>b (aA.mpr (Or.inr m))⟩;rcases aD.mp m with q|q
  .exact h1 q
  .exact b (aA.mpr (Or.inl (aG.mp q).symm))
end
end L2
namespace L2
open PySem PySem.Spec PyProof.Rows PySem.W
variable {A:Around}{D:Keyed->Prop}{E:qH}{O:KeyOrd}{Q:qJ->SortSt->Prop}{X:Cx}{a ep i j k lo n:Nat}{a0 qN:Array Keyed}{d:qE}{es:Array DictEntry}{h:Heap}{key x:Keyed}{l rest:qA Keyed}{left:Bool}{prog:qG}{rss:LLI}{runs:qA (qA Keyed)}{s:qC}{st st':SortSt}{vs:qA qB}{w:World}{α:Type}{κ:SortKind}
section
variable {key:Nat->O.α}{N:Nat}{p:Array Nat}
def kk(key:Nat->O.α)(p:Array Nat)(i:Nat):O.α:=key (p[i]?.getD 0)
end
def G6:∀a:qI,HT.lexLt a a=false
 |[]=>rfl
 |x::xs=>by rw[HT.lexLt_cons,av rfl];exact G6 xs
def a1C:∀a b c:qI,HT.lexLt a b=true->HT.lexLt b c=true->HT.lexLt a c=true
 |[],[],_,h,_=>by cases h
 |_::_,[],_,h,_=>by cases h
 |_,_::_,[],_,h=>by cases h
 |[],_::_,_::_,_,_=>rfl
 |x::xs,y::ys,z::zs,h1,h2=>by
  rw[HT.lexLt_cons]at h1 h2⊢;by_cases e:x=y
  .rw[av e]at h1;by_cases d:y=z
   .rw[av d]at h2;rw[av (e.trans d)];exact a1C xs ys zs h1 h2
   .rw[ao d]at h2;rw[ao (by rw[e];exact d),e];exact h2
  .rw[ao e]at h1;have h1:=bp h1;by_cases d:y=z
   .rw[ao (by rw[<-d];exact e),<-d];exact bj h1
   .rw[ao d]at h2;have h2:=bp h2;rw[ao (by omega)];exact bj (by omega)
def O0:∀a b:qI,HT.lexLt a b=false->HT.lexLt b a=false->a=b
 |[],[],_,_=>rfl
 |[],_::_,h,_=>by cases h
 |_::_,[],_,h=>by cases h
 |x::xs,y::ys,h1,h2=>by
  rw[HT.lexLt_cons]at h1 h2;by_cases e:x=y
  .subst e;rw[av rfl]at h1 h2;rw[O0 xs ys h1 h2]
  .rw[ao e]at h1;rw[ao (dq e)]at h2;have h1:=of_decide_eq_false h1;have h2:=of_decide_eq_false h2;omega
def b5L(a b c:qI)(h:HT.lexLt a c=true):HT.lexLt a b=true∨HT.lexLt b c=true:=by
 cases h1:HT.lexLt a b with
 |true=>exact .inl rfl
 |false =>
  refine .inr ?_;cases h2:HT.lexLt b a with
  |true=>exact a1C b a c h2 h
  |false=>rw[<-O0 a b h1 h2];exact h
def OL:KeyOrd:=⟨qI,HT.lexLt,G6,a1C,b5L,O0⟩
def C8(tss:LLI):Prop:=tss.Pairwise λa b=>HT.lexLt b a=false
def b5M(fin:Bool):qI->qI->Bool
 |[],_=>fin
 |_::_,[]=>fin
 |x::xs,y::ys=>if x=y then b5M fin xs ys else decide (x<y)
def a6M:∀(xs ys:qI),b5M (decide (xs.length<ys.length)) xs ys=HT.lexLt xs ys
 |[],[]=>rfl
 |[],y::ys=>by
  show decide (0<ys.length+1)=true;exact bj (by omega)
 |x::xs,[]=>by
  show decide (xs.length+1<0)=false;exact bK (by omega)
 |x::xs,y::ys=>by
  rw[HT.lexLt_cons];show(if x=y then _ else _)=_;split
  .rw[<-a6M xs ys];congr 1;simp only[aZ];exact decide_eq_decide.mpr (by omega)
  .rfl
def b0p{c:Bool}{a b:Int}{t u:Tok}{Q:Bool->qC->Prop}(h:Q (decide (a<b)) s):wpAny (model prog w) A (oneLt' c (.int a t) (.int b u)) Q E s:=by
 cases c with
 |true=>exact oneLt_int h
 |false=>exact kat_one _ _ (lt_int h)
def a2d{b fin:Bool}{Q:Bool->qC->Prop}:∀{vs a:qA qB}{ns ms:qI}(i:Nat),IntsAre vs ns->IntsAre a ms->Q (b5M fin ns ms) s->KatLex prog w A b fin Q (vs.zip a) i s
 |_,_,_,_,i,.nil,_,h=>h
 |_,_,_,_,i,.cons _ _ _,.nil,h=>h
 |_,_,_,_,i,.cons x t c,.cons y u d,h=>by
  rw[List.zip_cons_cons];refine kat_cons (wpAny_eqBool_int ?_);have h:Q (if x=y then b5M fin _ _ else decide (x<y)) s:=h;by_cases e:x=y
  .rw[av e]at h;rw[show(x==y)=true from a_.mpr e];exact kat_yes (a2d (i+1) c d h)
  .rw[ao e]at h;rw[show(x==y)=false from cM.mpr e];exact kat_no (b0p h)
def TupsAre(h:Heap)(vs:qA qB)(rss:LLI):Prop:=vs.length=rss.length/\∀(i:Nat) (v:qB),vs[i]?=some v->∃(r:qI) (b:qE) (its:Array qB),rss[i]?=some r/\v=Value.ref b/\IsTup h b its/\IntsAre its.toList r
def TupsAre.keeps{h':Heap}(t:TupsAre h vs rss)(k:∀b its,IsTup h b its->IsTup h' b its):TupsAre h' vs rss :=
 ⟨t.1,λi v e=>let ⟨r,b,its,e1,e2,e3,e4⟩:=t.2 i v e;⟨r,b,its,e1,e2,k _ _ e3,e4⟩⟩
def a5Z{h:Heap}:∀{vs:qA qB}{rss:LLI},TupsAre h vs rss->(∀r∈rss,0<r.length)->∃fs,KatTups h vs fs/\fs.length=vs.length/\∀f∈fs,∃n t,f=Value.int n t
 |[],_,_,_=>⟨[],trivial,rfl,λ_ z=>nomatch z⟩
 |v::vs,[],T,_=>by cases T.1
 |v::vs,r::rss,T,hw=>by
  obtain⟨fs,h1,h2,p⟩:=a5Z (vs:=vs) (rss:=rss) ⟨by have:=T.1;simpa using this,λi u e=>T.2 (i+1) u e⟩ λr c=>hw r (au _ c);obtain⟨w,b,its,j,k,⟨o,q1,q,n,s⟩,d⟩:=T.2 0 v rfl;cases j;have c:=hw r ax;obtain⟨x,t,g,m⟩:∃x t g,its.toList=Value.int x t::g:=by
   generalize its.toList=l at d;cases d with
   |nil=>simp at c
   |cons x t h=>exact⟨x,t,_,rfl⟩
  refine⟨.int x t::fs,⟨⟨b,o,its,n,k,q1,q,s,?_⟩,h1⟩,by simp[h2],λf a=>?_⟩
  .rw[<-ay,m];rfl
  .rcases aA.mp a with rfl|a
   .exact⟨x,t,rfl⟩
   .exact p f a
def a9Q{Q:SortKind->qC->Prop}(T:TupsAre s.heap vs rss)(hw:∀r∈rss,0<r.length)(a:0<vs.length)(h:Q (tuples' true) s):wpAny (model prog w) A (keyKind' vs.toArray) Q E s:=by
 obtain⟨fs,h1,h2,b⟩:=a5Z T hw;refine kat_kind (T:=.type "int") h1 (by omega) (λv a=>?_) rfl ?_
 .obtain⟨n,t,rfl⟩:=b v a;exact .now
 .rw[show(Value.type "int" != Value.type "tuple")=true from rfl];exact h
def X6{a:qE}{out:Array qB}:∀b o,b≠a->h.get? b=some o->(sortedHeap h a vs out).get? b=some o:=λb o c e=>by
 unfold sortedHeap;rw[Heap.get?_update_ne _ _ _ _ c];exact ae _ (ae _ (by rw[Heap.get?_update_ne _ _ _ _ c];exact e))
def a0G{a:qE}{out:Array qB}(f:h.get? a=some (seqObj "list" vs.toArray n)):∃c,(sortedHeap h a vs out).get? a=some (seqObj "list" out c):=by
 unfold sortedHeap;have g:a<h.objs.size:=aF f;obtain⟨b,d⟩:∃b,(h.update a (Obj.mapSeq λ_=>#[])).get? a=some (seqObj "list" #[] b):=⟨_,get?_update_seq f (λ_=>#[])⟩;have e:(((h.update a (Obj.mapSeq λ_=>#[])).push (seqObj "tuple" vs.toArray 0)).push (seqObj "list" #[] 0)).get? a=some (seqObj "list" #[] b):=ae _ (ae _ d);exact⟨_,get?_update_seq e (λ_=>out)⟩
def a3B{qK:qA (qE×Obj)}{σ:St}{H:Hp}(I:Inv X qK σ H s){ys:qA V}{us:qA qB}(h:Its H ys rss)(r:Vals ys us):TupsAre s.heap us rss:=by
 refine⟨by rw[<-r.length];exact h.1,λi v e=>?_⟩;have hi:i<ys.length:=by rw[r.length];exact(aL.mp e).1
 obtain⟨u,c,d⟩:=r.get (aj hi);rw[e]at c;cases c;obtain⟨b,q1,a,f,g⟩:=h.2 i _ (aj hi);rw[f]at d;cases d;obtain⟨its,j,k,_⟩:=I.tuple (SqT.of (K:=X.K) g);exact⟨b,a,its.toArray,q1,rfl,k,by simpa using a7Y j⟩
def T4:Bool->Keyed->Array Keyed->Nat->Nat->Nat->StateT SortSt Sem (qJ):=sortPriv% PySem.Builtin.gallop
def T7(left:Bool)(key:Keyed)(qN:Array Keyed)(base:Nat)(i:Nat):StateT SortSt Sem (qD Bool):=do
 let x <-elem' qN (base+i)
 if left then lt' x key else return (<-lt' key x).map (!·)
def b6j(left:Bool)(key:Keyed)(qN:Array Keyed)(base n lo₀ hi₀:Nat):StateT SortSt Sem (qJ):=do
 let mut lo:=lo₀
 let mut hi:=hi₀
 for _ in [0:n] do
  if lo ≥ hi then break
  let m:=lo+(hi-lo) / 2
  let some more <-T7 left key qN base m|return none
  if more then lo:=m+1 else hi:=m
 return some hi
def a8a(left:Bool)(key:Keyed)(qN:Array Keyed)(base n a:Nat):T4 left key qN base n a=(T7 left key qN base a>>=λr=>match r with
 |some right=>(if right=true then
   (forIn [:n] ((none,0,1):qD (qJ)×Nat×Nat) (λ_ c=>if c.2.2 ≥ n-a then pure (.done (none,c.2.1,c.2.2))else T7 left key qN base (a+c.2.2)>>=λr=>match r with
     |some more=>(if (!more)=true then pure (.done (none,c.2.1,c.2.2))else pure (.yield (none,c.2.2,2*c.2.2+1)))
     |_=>pure (.done (some none,c.2.1,c.2.2)))>>=λc=>match c.1 with
    |some r=>pure r
    |none=>b6j left key qN base n (a+c.2.1+1) (a+min c.2.2 (n-a)))
  else
   (forIn [:n] ((none,0,1):qD (qJ)×Nat×Nat) (λ_ c=>if c.2.2 ≥ a+1 then pure (.done (none,c.2.1,c.2.2))else T7 left key qN base (a-c.2.2)>>=λr=>match r with
     |some found=>(if found=true then pure (.done (none,c.2.1,c.2.2))else pure (.yield (none,c.2.2,2*c.2.2+1)))
     |_=>pure (.done (some none,c.2.1,c.2.2)))>>=λc=>match c.1 with
    |some r=>pure r
    |none=>b6j left key qN base n (a+1-min c.2.2 (a+1)) (a-c.2.1)))
 |_=>pure none):=by
 show(_>>=_)=(_>>=_);refine aP _ (funext λr=>?_);cases r with
 |none=>rfl
 |some right =>
  dsimp only;refine dP rfl (λ_=>?_) (λ_=>?_)
  .refine congr (aP _ (aP _ (funext λ_=>funext λc=>?_))) (funext λc=>?_)
   .rfl
   .rcases c with⟨_|q,c⟩<;>rfl
  .refine congr (aP _ (aP _ (funext λ_=>funext λc=>?_))) (funext λc=>?_)
   .rfl
   .rcases c with⟨_|q,c⟩<;>rfl
section
def Cmp(prog:qG)(w:World)(A:Around)(s:qC)(κ:SortKind)(D:Keyed->Prop)(lt:Keyed->Keyed->Bool):Prop :=
 ∀x y (C:Bool->qC->Prop),D x->D y->C (lt x y) s->wpAny (model prog w) A (keyLt' κ x.1 y.1) C (λ_ _=>False) s
variable {lt:Keyed->Keyed->Bool}
def a0W{y:Keyed}{Q:qD Bool->SortSt->Prop}(d:Cmp prog w A s κ D lt)(e:kindOf st=κ)(f:D x)(g:D y)(h:Q (some (lt x y)) st):wpS (model prog w) A E s (lt' x y) Q st:=by
 rw[lt'_eq];refine aB (fm ?_);rw[e];refine aB (wpS_lift (dv (cH (d x y (λb s'=>s'=s/\b=lt x y) f g ⟨rfl,rfl⟩) (λb s' ⟨a,c⟩=>?_) λ_ _ z=>z.elim)));rw[a,c];exact⟨rfl,aM h⟩
def b4q(lt:Keyed->Keyed->Bool)(left:Bool)(key x:Keyed):Bool:=if left then lt x key else !(lt key x)
def a7j{base:Nat}{Q:qD Bool->SortSt->Prop}(b:Cmp prog w A s κ D lt)(c:kindOf st=κ)(a:D key)(d:D x)(e:qN[base+i]?=some x)(h:Q (some (b4q lt left key x)) st) :
  wpS (model prog w) A E s (T7 left key qN base i) Q st:=by
 unfold T7;rw[elem'_eq,e];refine aB (aM ?_);unfold b4q at h;cases left with
 |true=>exact a0W b c d a h
 |false=>exact aB (a0W b c a d (aM h))
def a8z{base hi:Nat}(a:Nat->Bool)
  (m:∀i,i<n->∀{R:qD Bool->SortSt->Prop},R (some (a i)) st->wpS (model prog w) A E s (T7 left key qN base i) R st) (mono:∀i j,i<=j->j<n->a j=true->a i=true) (o:∀i j,i<=j->j<n->a i=false->a j=false)
  (h1:lo<=hi) (h2:hi<=n) (u:∀i,i<lo->a i=true) (v:∀i,hi<=i->i<n->a i=false)
  (h:∀k,k<=n->(∀i,i<k->a i=true)->(∀i,k<=i->i<n->a i=false)->Q (some k) st):wpS (model prog w) A E s (b6j left key qN base n lo hi) Q st:=by
 unfold b6j;dsimp only;refine aB (cE (cu (I:=λx c st'=>st'=st/\∃l r,c=(none,l,r)/\l<=r/\r<=n/\r-l<=n-x/\(∀i,i<l->a i=true)/\(∀i,r<=i->i<n->a i=false))
  (Q:=λc st'=>st'=st/\∃l,c=(none,l,l)/\l<=n/\(∀i,i<l->a i=true)/\(∀i,l<=i->i<n->a i=false)) ?step ?fin ⟨rfl,lo,hi,rfl,h1,h2,by omega,u,v⟩) ?post)
 case fin =>
  rintro c st' ⟨rfl,l,r,rfl,a1,b,t,d,f⟩;have e:l=r:=by omega
  subst e;exact⟨rfl,l,rfl,b,d,f⟩
 case step =>
  rintro x c st' _ y ⟨rfl,l,r,rfl,a1,b,t,d,f⟩;dsimp only;by_cases g:l ≥ r
  .rw[av g];have e:l=r:=by omega
   subst e;exact aM ⟨rfl,l,rfl,b,d,f⟩
  .rw[ao g];have q:l+(r-l) / 2<n:=by omega
   refine aB (m _ q ?_);dsimp only;cases p:a (l+(r-l) / 2)with
   |true =>
    rw[av rfl];exact aM ⟨rfl,_,r,rfl,by omega,b,by omega,λi hi=>mono i _ (by omega) q p,f⟩
   |false =>
    rw[ao (by simp)];exact aM ⟨rfl,l,_,rfl,by omega,by omega,by omega,d,λi h1 h2=>o _ i h1 h2 p⟩
 case post =>
  rintro c st' ⟨rfl,l,rfl,b,d,f⟩;exact aM (h l b d f)
def K3{base:Nat}(F:Cmp prog w A s κ D lt)(J:kindOf st=κ)(u:D key)(b:Nat->Bool)
  (r:∀i,i<n->∃x,qN[base+i]?=some x/\D x/\b4q lt left key x=b i) (mono:∀i j,i<=j->j<n->b j=true->b i=true) (G:a<n)
  (h:∀k,k<=n->(∀i,i<k->b i=true)->(∀i,k<=i->i<n->b i=false)->Q (some k) st):wpS (model prog w) A E s (T4 left key qN base n a) Q st:=by
 have m:∀i,i<n->∀{R:qD Bool->SortSt->Prop},R (some (b i)) st->wpS (model prog w) A E s (T7 left key qN base i) R st:=λi hi R hR=>by
  obtain⟨x,B,y,C⟩:=r i hi;exact a7j F J u y B (by rw[C];exact hR)
 have q:∀i j,i<=j->j<n->b i=false->b j=false:=λi j z H e=>by
  cases y:b j with
  |false=>rfl
  |true=>rw[mono i j z H y]at e;cases e
 rw[a8a];refine aB (m a G ?_);dsimp only;cases t:b a with
 |true =>
  rw[av rfl];refine aB (cE (cu (I:=λx c st'=>st'=st/\∃l o,c=(none,l,o)/\l<o/\x+1<=o/\a+l<n/\b (a+l)=true)
   (Q:=λc st'=>st'=st/\∃l o,c=(none,l,o)/\l<o/\a+l<n/\b (a+l)=true/\(o ≥ n-a∨b (a+o)=false)) ?step ?fin ⟨rfl,0,1,rfl,by omega,by omega,by omega,t⟩) ?post)
  case fin =>
   rintro c st' ⟨rfl,l,o,rfl,a1,v,g,f⟩;exact⟨rfl,l,o,rfl,a1,g,f,.inl (by omega)⟩
  case step =>
   rintro x c st' _ K ⟨rfl,l,o,rfl,a1,v,g,f⟩;dsimp only;by_cases d:o ≥ n-a
   .rw[av d];exact aM ⟨rfl,l,o,rfl,a1,g,f,.inl d⟩
   .rw[ao d];refine aB (m _ (by omega) ?_);dsimp only;cases r:b (a+o)with
    |true =>
     rw[ao (by simp)];exact aM ⟨rfl,o,2*o+1,rfl,by omega,by omega,by omega,r⟩
    |false =>
     rw[av (by rfl)];exact aM ⟨rfl,l,o,rfl,a1,g,f,.inr r⟩
  case post =>
   rintro c st' ⟨rfl,l,o,rfl,a1,g,f,p⟩;dsimp only;refine a8z (lo:=a+l+1) (hi:=a+min o (n-a)) b m mono q (by omega) (by omega) (λi hi=>mono i (a+l) (by omega) g f) (λi h1 h2=>?_) h;rcases p with p|p
   .omega
   .exact q (a+o) i (by omega) h2 p
 |false =>
  rw[ao (by simp)];refine aB (cE (cu (I:=λx c st'=>st'=st/\∃l o,c=(none,l,o)/\l<o/\x+1<=o/\l<=a/\b (a-l)=false)
   (Q:=λc st'=>st'=st/\∃l o,c=(none,l,o)/\l<o/\l<=a/\b (a-l)=false/\(o ≥ a+1∨b (a-o)=true)) ?step ?fin ⟨rfl,0,1,rfl,by omega,by omega,by omega,t⟩) ?post)
  case fin =>
   rintro c st' ⟨rfl,l,o,rfl,a1,v,g,f⟩;exact⟨rfl,l,o,rfl,a1,g,f,.inl (by omega)⟩
  case step =>
   rintro x c st' _ K ⟨rfl,l,o,rfl,a1,v,g,f⟩;dsimp only;by_cases d:o ≥ a+1
   .rw[av d];exact aM ⟨rfl,l,o,rfl,a1,g,f,.inl d⟩
   .rw[ao d];refine aB (m _ (by omega) ?_);dsimp only;cases r:b (a-o)with
    |true =>
     rw[av rfl];exact aM ⟨rfl,l,o,rfl,a1,g,f,.inr r⟩
    |false =>
     rw[ao (by simp)];exact aM ⟨rfl,o,2*o+1,rfl,by omega,by omega,by omega,r⟩
  case post =>
   rintro c st' ⟨rfl,l,o,rfl,a1,g,f,p⟩;dsimp only;refine a8z (lo:=a+1-min o (a+1)) (hi:=a-l) b m mono q (by omega) (by omega) (λi hi=>?_) (λi h1 h2=>q (a-l) i h1 h2 f) h;rcases p with p|p
   .omega
   .exact mono i (a-o) (by omega) (by omega) p
end
section
variable {kf:Keyed->O.α}{la lb o:qA Keyed}{ia ib:Nat}
def leK(kf:Keyed->O.α)(x y:Keyed):Prop:=O.kle (kf x) (kf y)
def ltK(kf:Keyed->O.α)(x y:Keyed):Bool:=O.blt (kf x) (kf y)
structure MS(kf:Keyed->O.α)(la lb o:qA Keyed)(ia ib:Nat):Prop where
 perm:o.Perm (la.take ia++lb.take ib)
 sorted:o.Pairwise (leK kf)
 ra:∀x∈o,∀y∈la.drop ia,leK kf x y
 rb:∀x∈o,∀y∈lb.drop ib,leK kf x y
def a0z{l:qA α}{x:α}(h:l[i]?=some x):l.drop i=x::l.drop (i+1):=by
 obtain⟨hi,e⟩:=aL.mp h;rw[cP hi,e]
def Z3(hs:l.Pairwise (leK kf))(h:l[i]?=some x):∀y∈l.drop (i+1),leK kf x y:=by
 have:=hs.drop (i:=i);rw[a0z h]at this;exact(cT.mp this).1
def V7{l:qA α}{x:α}(h:l[i]?=some x):l.take (i+1)=l.take i++[x]:=by
 rw[ba,h];rfl
def MS.stepA(h:MS kf la lb o ia ib)(hs:la.Pairwise (leK kf))(e:la[ia]?=some x)(c:∀y∈lb.drop ib,leK kf x y):MS kf la lb (o++[x]) (ia+1) ib:=by
 have d:x∈la.drop ia:=by rw[a0z e];exact ax
 refine⟨?_,?_,λz b y a=>?_,λz b y a=>?_⟩
 .rw[V7 e];have:=h.perm.append_right [x];refine this.trans ?_;rw[aI,aI];exact cv _ cF
 .rw[bG];exact⟨h.sorted,List.pairwise_singleton _ _,λz b y a=>by rw[aG.mp a];exact h.ra z b x d⟩
 .have hy':y∈la.drop ia:=by rw[a0z e];exact au _ a
  rcases aD.mp b with q|q
  .exact h.ra z q y hy'
  .rw[aG.mp q];exact Z3 hs e y a
 .rcases aD.mp b with q|q
  .exact h.rb z q y a
  .rw[aG.mp q];exact c y a
def MS.swap(h:MS kf la lb o ia ib):MS kf lb la o ib ia:=⟨h.perm.trans cF,h.sorted,h.rb,h.ra⟩
def MS.stepB(h:MS kf la lb o ia ib)(hs:lb.Pairwise (leK kf))(e:lb[ib]?=some x)(a:∀y∈la.drop ia,leK kf x y):MS kf la lb (o++[x]) ia (ib+1) :=
 (h.swap.stepA hs e a).swap
def MS.bulkA(hs:la.Pairwise (leK kf)):∀(k:Nat) {o:qA Keyed}{ia:Nat},MS kf la lb o ia ib->ia+k<=la.length->(∀i x,i<k->la[ia+i]?=some x->∀y∈lb.drop ib,leK kf x y)->MS kf la lb (o++(la.drop ia).take k) (ia+k) ib
 |0,o,ia,h,_,_=>by rw[List.take_zero,cp];exact h
 |k+1,o,ia,h,c,b=>by
  obtain⟨x,a⟩:∃x,la[ia]?=some x:=⟨_,aj (by omega)⟩;have h1:=h.stepA hs a (b 0 x (by omega) a);have h2:=MS.bulkA hs k h1 (by omega) λi y hi e=>b (i+1) y (by omega) (by rw[<-e];congr 1;omega);rw[a0z a,List.take_succ_cons];rw[aI]at h2;rw[show ia+(k+1)=ia+1+k by omega];exact h2
def MS.bulkB(hs:lb.Pairwise (leK kf))(h:MS kf la lb o ia ib)(b:ib+k<=lb.length)(a:∀i x,i<k->lb[ib+i]?=some x->∀y∈la.drop ia,leK kf x y):MS kf la lb (o++(lb.drop ib).take k) ia (ib+k) :=
 (MS.bulkA hs k h.swap b a).swap
def a1S(kf:Keyed->O.α)(la lb o:qA Keyed):Prop:=o.Perm (la++lb)/\o.Pairwise (leK kf)
def MS.done(h:MS kf la lb o ia ib)(hs:la.Pairwise (leK kf))(b:ib=lb.length):a1S kf la lb (o++la.drop ia++lb.drop ib):=by
 subst b;rw[List.drop_length,cp];have a:=h.perm;rw[bg]at a;refine⟨?_,?_⟩
 .refine(a.append_right _).trans ?_;rw[aI];refine(cv _ cF).trans ?_;rw[<-aI,bo]
 .rw[bG];exact⟨h.sorted,hs.drop,h.ra⟩
def MS.lastA(h:MS kf la lb o ia ib)(hsa:la.Pairwise (leK kf))(hs:lb.Pairwise (leK kf))(b:∀y∈lb.drop ib,∀x∈la.drop ia,leK kf y x):a1S kf la lb (o++lb.drop ib++la.drop ia):=by
 refine⟨?_,?_⟩
 .have hp:=(h.perm.append_right (lb.drop ib)).append_right (la.drop ia);refine hp.trans ?_;rw[aI (la.take ia),bo,aI];refine(cv _ cF).trans ?_;rw[<-aI,bo]
 .rw[bG];refine⟨?_,hsa.drop,λx c y a=>?_⟩
  .rw[bG];exact⟨h.sorted,hs.drop,h.rb⟩
  .rcases aD.mp c with q|q
   .exact h.ra x q y a
   .exact b x q y a
end
def a3m:Array Keyed->Array Keyed->StateT SortSt Sem (Array Keyed):=sortPriv% PySem.Builtin.mergeLo
def a0o(g:Nat):StateT SortSt Sem Unit:=modify λs=>SortSt.mk' (kindOf s) (arrOf s) (pendingOf s) g (failedOf s)
def P6(a b out:Array Keyed)(ia ib:Nat):Array Keyed:=out++a.extract ia a.size++b.extract ib b.size
def a0Q(a b out:Array Keyed)(ia ib:Nat):Array Keyed:=out++b.extract ib b.size++a.extract ia a.size
abbrev T1:Type:=qD (Array Keyed)×Array Keyed×Nat×Nat×Nat×Nat
abbrev T2:Type:=qD (Array Keyed)×Array Keyed×Nat×Nat×Nat×Nat×Nat
def loD(a b out:Array Keyed)(ia ib mg k k1:Nat):StateT SortSt Sem (ForInStep T2) :=
 elem' a ia>>=λx =>
 if (ia+1+1==a.size)=true then pure (.done (some (a0Q a b (out.push x) (ia+1) ib),out.push x,ia+1,ib,mg,k,k1))
 else if (decide (k<7) && decide (k1<7))=true then pure (.done (none,out.push x,ia+1,ib,mg,k,k1))
 else pure (.yield (none,out.push x,ia+1,ib,mg,k,k1))
def loC(a b out:Array Keyed)(ia ib mg k bc:Nat):StateT SortSt Sem (ForInStep T2) :=
 elem' b ib>>=λy =>
 if (ib+1==b.size)=true then pure (.done (some (P6 a b (out.push y) ia (ib+1)),out.push y,ia,ib+1,mg,k,bc))
 else elem' a ia>>=λx=>T4 true x b (ib+1) (b.size-(ib+1)) 0>>=λr =>
  match r with
  |some k1=>(if k1 > 0 then
    (if (ib+1+k1==b.size)=true then pure (.done (some (P6 a b (out.push y++b.extract (ib+1) (ib+1+k1)) ia (ib+1+k1)),out.push y++b.extract (ib+1) (ib+1+k1),ia,ib+1+k1,mg,k,k1))
    else loD a b (out.push y++b.extract (ib+1) (ib+1+k1)) ia (ib+1+k1) mg k k1)
   else loD a b (out.push y) ia (ib+1) mg k k1)
  |_=>pure (.done (some (P6 a b (out.push y) ia (ib+1)),out.push y,ia,ib+1,mg,k,bc))
def loB(a b out:Array Keyed)(ia ib mg ac bc:Nat):StateT SortSt Sem (ForInStep T2) :=
 a0o mg>>=λ_=>elem' b ib>>=λy=>T4 false y a ia (a.size-ia) 0>>=λr =>
 match r with
 |some k=>(if k > 0 then
   (if (ia+k+1==a.size)=true then pure (.done (some (a0Q a b (out++a.extract ia (ia+k)) (ia+k) ib),out++a.extract ia (ia+k),ia+k,ib,mg,k,bc))
   else if (ia+k==a.size)=true then pure (.done (some (P6 a b (out++a.extract ia (ia+k)) (ia+k) ib),out++a.extract ia (ia+k),ia+k,ib,mg,k,bc))
   else loC a b (out++a.extract ia (ia+k)) (ia+k) ib mg k bc)
  else loC a b out ia ib mg k bc)
 |_=>pure (.done (some (P6 a b out ia ib),out,ia,ib,mg,ac,bc))
def loA(a b out:Array Keyed)(ia ib ac bc mg:Nat):StateT SortSt Sem (ForInStep T1) :=
 elem' b ib>>=λy=>elem' a ia>>=λx=>lt' y x>>=λr =>
 match r with
 |some bWins=>(if bWins=true then elem' b ib>>=λy =>
   (if (ib+1==b.size)=true then pure (.done (some (P6 a b (out.push y) ia (ib+1)),out.push y,ia,ib+1,0,bc+1))
   else if bc+1 ≥ mg then pure (.done (none,out.push y,ia,ib+1,0,bc+1))
   else pure (.yield (none,out.push y,ia,ib+1,0,bc+1)))
  else elem' a ia>>=λx =>
   (if (ia+1+1==a.size)=true then pure (.done (some (a0Q a b (out.push x) (ia+1) ib),out.push x,ia+1,ib,ac+1,0))
   else if ac+1 ≥ mg then pure (.done (none,out.push x,ia+1,ib,ac+1,0))
   else pure (.yield (none,out.push x,ia+1,ib,ac+1,0))))
 |_=>pure (.done (some (P6 a b out ia ib),out,ia,ib,ac,bc))
def a6I(a b:Array Keyed):a3m a b=(do
 rule "list.sort.merge-lo"
 let y <-elem' b 0
 if (1==b.size)=true then pure (P6 a b #[y] 0 1)
 else if (0+1==a.size)=true then pure (a0Q a b #[y] 0 1)
 else do
  let g <-get
  let r <-forIn [:a.size+b.size] ((none,#[y],0,1,gallopOf g):qD (Array Keyed)×Array Keyed×Nat×Nat×Nat) λ_ c=>do
   let r <-forIn [:a.size+b.size] ((none,c.2.1,c.2.2.1,c.2.2.2.1,0,0):T1) λ_ d=>loA a b d.2.1 d.2.2.1 d.2.2.2.1 d.2.2.2.2.1 d.2.2.2.2.2 c.2.2.2.2
   match r.1 with
   |some q=>pure (ForInStep.done (some q,r.2.1,r.2.2.1,r.2.2.2.1,c.2.2.2.2))
   |none=>do
    rule "list.sort.gallop"
    let t <-forIn [:a.size+b.size] ((none,r.2.1,r.2.2.1,r.2.2.2.1,c.2.2.2.2+1,r.2.2.2.2.1,r.2.2.2.2.2):T2) λ_ d =>
     if d.2.2.2.2.1 > 1 then loB a b d.2.1 d.2.2.1 d.2.2.2.1 (d.2.2.2.2.1-1) d.2.2.2.2.2.1 d.2.2.2.2.2.2 else loB a b d.2.1 d.2.2.1 d.2.2.2.1 d.2.2.2.2.1 d.2.2.2.2.2.1 d.2.2.2.2.2.2
    match t.1 with
    |some q=>pure (ForInStep.done (some q,t.2.1,t.2.2.1,t.2.2.2.1,t.2.2.2.2.1))
    |none=>do
     a0o (t.2.2.2.2.1+1)
     pure (ForInStep.yield (none,t.2.1,t.2.2.1,t.2.2.2.1,t.2.2.2.2.1+1))
  match r.1 with
  |some q=>pure q
  |none=>unsupported "internal:list.sort.merge-bound"):=by
 show(_>>=_)=(_>>=_);refine aP _ (funext λ_=>?_);dsimp only;refine aP _ (funext λy=>?_);refine dP rfl (λ_=>rfl) (λ_=>dP rfl (λ_=>rfl) λ_=>?_);refine aP _ (funext λg=>?_);refine congr (aP _ (aP _ (funext λ_=>funext λc=>?_))) (funext λr=>?_)
 .refine congr (aP _ (aP _ (funext λ_=>funext λd=>?_))) (funext λr=>?_)
  .rfl
  .rcases r with⟨_|q,r⟩
   .dsimp only;refine aP _ (funext λ_=>?_);refine congr (aP _ (aP _ (funext λ_=>funext λd=>?_))) (funext λr=>?_)
    .rfl
    .rcases r with⟨_|q,r⟩<;>rfl
   .rfl
 .rcases r with⟨_|q,r⟩
  .dsimp only
  .rfl
def a2J(a:Array α)(i:Nat):(a.extract i a.size).toList=a.toList.drop i:=by
 rw[eQ];simp[List.extract_eq_drop_take'];rw[<-az,bg]
def a3K(a:Array α)(i k:Nat):(a.extract i (i+k)).toList=(a.toList.drop i).take k:=by
 rw[eQ];simp[List.extract_eq_drop_take]
def a7b(a b out:Array Keyed)(ia ib:Nat):(P6 a b out ia ib).toList=out.toList++a.toList.drop ia++b.toList.drop ib:=by
 unfold P6;rw[bX,bX,a2J,a2J]
def a6P(a b out:Array Keyed)(ia ib:Nat):(a0Q a b out ia ib).toList=out.toList++b.toList.drop ib++a.toList.drop ia:=by
 unfold a0Q;rw[bX,bX,a2J,a2J]
section
variable {kf:Keyed->O.α}{a b out:Array Keyed}{ia ib:Nat}
def Good(st st':SortSt):Prop:=kindOf st'=kindOf st/\arrOf st'=arrOf st/\pendingOf st'=pendingOf st/\failedOf st'=failedOf st
structure Two(D:Keyed->Prop)(kf:Keyed->O.α)(a b:Array Keyed):Prop where
 da:∀(i:Nat) x,a[i]?=some x->D x
 db:∀(i:Nat) x,b[i]?=some x->D x
 sa:a.toList.Pairwise (leK kf)
 sb:b.toList.Pairwise (leK kf)
 last:∀y∈b.toList,∀x,a[a.size-1]?=some x->ltK kf y x=true
def W9{z:Keyed}(hs:l.Pairwise (leK kf))(e:l[i]?=some x)(h:leK kf z x):∀y∈l.drop i,leK kf z y:=λy a=>by
 rw[a0z e]at a;rcases aA.mp a with rfl|a
 .exact h
 .exact bS h (Z3 hs e y a)
def MI(kf:Keyed->O.α)(a b out:Array Keyed)(ia ib:Nat):Prop:=MS kf a.toList b.toList out.toList ia ib/\ia+1<a.size/\ib<b.size
def D6(kf:Keyed->O.α)(a b r:Array Keyed):Prop:=a1S kf a.toList b.toList r.toList
def a0w(T:Two D kf a b)(h:MS kf a.toList b.toList out.toList ia ib)(hi:ia+1=a.size):D6 kf a b (a0Q a b out ia ib):=by
 unfold D6;rw[a6P];refine h.lastA T.sa T.sb λy e x d=>?_;have c:ia<a.toList.length:=by rw[az];omega
 rw[cP c,cC (by rw[az];omega),aG]at d;refine bV (T.last y (cJ e) x ?_);rw[d,show a.size-1=ia by omega,<-ay,aj c]
def a0A(T:Two D kf a b)(h:MS kf a.toList b.toList out.toList ia ib)(hi:ib=b.size):D6 kf a b (P6 a b out ia ib):=by
 unfold D6;rw[a7b];exact h.done T.sa (by rw[az];exact hi)
def B4(hi:i<qN.size){Q:Keyed->SortSt->Prop}(h:∀x,qN[i]?=some x->qN.toList[i]?=some x->Q x st):wpS (model prog w) A E s (elem' qN i) Q st:=by
 rw[elem'_eq];have e:qN[i]?=some qN[i]:=getElem?_pos qN i hi;rw[e];exact aM (h _ e (by rw[ay];exact e))
def P2(kf:Keyed->O.α)(st:SortSt)(a b:Array Keyed)(c0:Nat)(c:T2)(st':SortSt):Prop:=Good st st'/\((∃r,c.1=some r/\D6 kf a b r)∨(c.1=none/\MI kf a b c.2.1 c.2.2.1 c.2.2.2.1/\c0<=c.2.2.1+c.2.2.2.1))
def Y2(kf:Keyed->O.α)(st:SortSt)(a b:Array Keyed)(c0:Nat)(c:T2)(st':SortSt):Prop:=Good st st'/\c.1=none/\MI kf a b c.2.1 c.2.2.1 c.2.2.2.1/\c0<=c.2.2.1+c.2.2.2.1
def R2'(kf:Keyed->O.α)(st:SortSt)(a b:Array Keyed)(c0:Nat)(r:ForInStep T2)(st':SortSt):Prop:=match r with | .done c'=>P2 kf st a b c0 c' st' | .yield c'=>Y2 kf st a b c0 c' st'
variable {c0 mg k1 bc ac:Nat}
def a8s(T:Two D kf a b)(g:Good st st')(h:MI kf a b out ia ib)(j:∀x,a.toList[ia]?=some x->∀y∈b.toList.drop ib,leK kf x y)(i:c0<=ia+ib):wpS (model prog w) A E s (loD a b out ia ib mg k k1) (R2' kf st a b c0) st':=by
 unfold loD;refine aB (B4 (by have:=h.2.1;omega) λx l d=>?_);have c:=h.1.stepA T.sa d (j x d);rw[<-cZ]at c;split
 .rename_i e;exact aM ⟨g,.inl ⟨_,rfl,a0w T c (eq_of_beq e)⟩⟩
 .rename_i e;have e:¬ia+1+1=a.size:=λz=>e (a_.mpr z);have f:MI kf a b (out.push x) (ia+1) ib:=⟨c,by have:=h.2.1;omega,h.2.2⟩;split
  .exact aM ⟨g,.inr ⟨rfl,f,by show c0<=ia+1+ib;omega⟩⟩
  .exact aM ⟨g,rfl,f,by show c0<=ia+1+ib;omega⟩
def gdK(a:Array Keyed)(hi:i<a.size):a[i]?=some (a.getD i (Value.none,Value.none)):=by
 rw[bO,getElem?_pos a i hi];rfl
def a0v(hs:l.Pairwise (leK kf)){y:Keyed}(b:i<=j)(ex:l[i]?=some x)(a:l[j]?=some y):leK kf x y:=by
 by_cases e:i=j
 .subst e;rw[ex]at a;cases a;exact cA _
 .refine Z3 hs ex y ?_;have:(l.drop (i+1))[j-(i+1)]?=some y:=by rw[eZ,<-a];congr 1;omega
  exact aH this
def a8t(T:Two D kf a b)(p:Cmp prog w A s κ D (ltK kf))(G:kindOf st=κ)(g:Good st st')(h:MI kf a b out ia ib)(H:∀y,b.toList[ib]?=some y->∀x∈a.toList.drop ia,leK kf y x)(C:c0<=ia+ib):wpS (model prog w) A E s (loC a b out ia ib mg k bc) (R2' kf st a b c0) st':=by
 unfold loC;obtain⟨r,f,q⟩:=h;refine aB (B4 q λy u l=>?_);have n:=r.stepB T.sb l (H y l);rw[<-cZ]at n;split
 .rename_i e;exact aM ⟨g,.inl ⟨_,rfl,a0A T n (eq_of_beq e)⟩⟩
 .rename_i e;have e:¬ib+1=b.size:=λz=>e (a_.mpr z);refine aB (B4 (by omega) λx f1 f2=>?_);refine aB (K3 p (g.1.trans G) (T.da _ _ f1) (λi=>ltK kf (b.getD (ib+1+i) (Value.none,Value.none)) x) (λi hi=>⟨_,gdK b (by omega),T.db _ _ (gdK b (by omega)),rfl⟩) (λi j F K B=>?_) (by omega) λk1 q1 I J=>?_)
  .refine e_ (a0v T.sb (i:=ib+1+i) (j:=ib+1+j) (by omega) ?_ ?_) B
   .rw[ay];exact gdK b (by omega)
   .rw[ay];exact gdK b (by omega)
  .dsimp only;have d:∀(c:Nat),c=ib+1+k1->c<b.size->∀t,a.toList[ia]?=some t->∀y∈b.toList.drop c,leK kf t y:=λc u l t ex'=>by
    rw[f2]at ex';cases ex';have o:b.toList[c]?=some (b.getD c (Value.none,Value.none)):=by rw[ay];exact gdK b l
    refine W9 T.sb o ?_;have:=J k1 (ak _) (by omega);rw[<-u]at this;exact this
   split
   .have hbk:=MS.bulkB T.sb (k:=k1) n (by rw[az];omega) λi z hi v=>by
     refine W9 T.sa f2 ?_;have:=I i hi;rw[ay,gdK b (by omega)]at v;cases v;exact bV this
    rw[<-a3K,<-bX]at hbk;split
    .rename_i m;exact aM ⟨g,.inl ⟨_,rfl,a0A T hbk (eq_of_beq m)⟩⟩
    .rename_i m;have m:¬ib+1+k1=b.size:=λz=>m (a_.mpr z);exact a8s T g ⟨hbk,f,by omega⟩ (d _ rfl (by omega)) (by omega)
   .exact a8s T g ⟨n,f,by omega⟩ (d _ (by omega) (by omega)) (by omega)
def V5{Q:Unit->SortSt->Prop}(h:∀a,Good st' a->Q () a):wpS (model prog w) A E s (a0o mg) Q st':=by
 unfold a0o;exact wpS_modify (h _ ⟨rfl,rfl,rfl,rfl⟩)
def Good.trans{st st' a:SortSt}(h:Good st st')(h2:Good st' a):Good st a:=⟨h2.1.trans h.1,h2.2.1.trans h.2.1,h2.2.2.1.trans h.2.2.1,h2.2.2.2.trans h.2.2.2⟩
def a8u(T:Two D kf a b)(f:Cmp prog w A s κ D (ltK kf))(u:kindOf st=κ)(g:Good st st')(h:MI kf a b out ia ib)(r:c0<=ia+ib):wpS (model prog w) A E s (loB a b out ia ib mg ac bc) (R2' kf st a b c0) st':=by
 unfold loB;obtain⟨n,t,l⟩:=h;refine aB (V5 λO J=>?_);have g:=g.trans J;refine aB (B4 l λy I p=>?_);refine aB (K3 f (g.1.trans u) (T.db _ _ I) (λi=>!(ltK kf y (a.getD (ia+i) (Value.none,Value.none)))) (λi hi=>⟨_,gdK a (by omega),T.da _ _ (gdK a (by omega)),rfl⟩) (λi j L P G=>?_) (by omega) λk q1 H N=>?_)
 .have hle:leK kf (a.getD (ia+j) (Value.none,Value.none)) y:=by
   unfold leK KeyOrd.kle;unfold ltK at G;simpa using G
  have:=bS (a0v T.sa (i:=ia+i) (j:=ia+j) (by omega) (by rw[ay];exact gdK a (by omega)) (by rw[ay];exact gdK a (by omega))) hle;unfold KeyOrd.kle at this;unfold ltK;rw[this];rfl
 .dsimp only;have m:ltK kf y (a.getD (a.size-1) (Value.none,Value.none))=true:=T.last y (aH p) _ (gdK a (by omega));have M:ia+k<a.size:=by
   refine Nat.lt_of_not_le λK=>?_;have:=H (a.size-1-ia) (by omega);rw[show ia+(a.size-1-ia)=a.size-1 by omega,m]at this;cases this
  have c:∀d,d=ia+k->∀v,b.toList[ib]?=some v->∀x∈a.toList.drop d,leK kf v x:=λd e v C=>by
   rw[p]at C;cases C;have q:a.toList[d]?=some (a.getD d (Value.none,Value.none)):=by rw[ay];exact gdK a (by omega)
   refine W9 T.sa q ?_;have:=N k (ak _) (by omega);rw[<-e]at this;refine bV ?_;unfold KeyOrd.klt;unfold ltK at this;simpa using this
  split
  .have hbk:=MS.bulkA T.sa k n (by rw[az];omega) λi z hi F=>by
    refine W9 T.sb p ?_;have:=H i hi;rw[ay,gdK a (by omega)]at F;cases F;unfold leK KeyOrd.kle;unfold ltK at this;simpa using this
   rw[<-a3K,<-bX]at hbk;split
   .rename_i o;exact aM ⟨g,.inl ⟨_,rfl,a0w T hbk (eq_of_beq o)⟩⟩
   .rename_i o;have o:¬ia+k+1=a.size:=λz=>o (a_.mpr z);split
    .rename_i B;have B:=eq_of_beq B;omega
    .exact a8t T f u g ⟨hbk,by omega,l⟩ (c _ rfl) (by omega)
  .exact a8t T f u g ⟨n,t,l⟩ (c _ (by omega)) r
def P1(kf:Keyed->O.α)(st:SortSt)(a b:Array Keyed)(c0:Nat)(c:T1)(st':SortSt):Prop:=Good st st'/\((∃r,c.1=some r/\D6 kf a b r)∨(c.1=none/\MI kf a b c.2.1 c.2.2.1 c.2.2.2.1/\c0<=c.2.2.1+c.2.2.2.1))
def Y1(kf:Keyed->O.α)(st:SortSt)(a b:Array Keyed)(c0:Nat)(c:T1)(st':SortSt):Prop:=Good st st'/\c.1=none/\MI kf a b c.2.1 c.2.2.1 c.2.2.2.1/\c0<=c.2.2.1+c.2.2.2.1
def R1'(kf:Keyed->O.α)(st:SortSt)(a b:Array Keyed)(c0:Nat)(r:ForInStep T1)(st':SortSt):Prop:=match r with | .done c'=>P1 kf st a b c0 c' st' | .yield c'=>Y1 kf st a b c0 c' st'
def b4w(T:Two D kf a b)(m:Cmp prog w A s κ D (ltK kf))(r:kindOf st=κ)(g:Good st st')(h:MI kf a b out ia ib)(q:c0<=ia+ib):wpS (model prog w) A E s (loA a b out ia ib ac bc mg) (R1' kf st a b (c0+1)) st':=by
 unfold loA;obtain⟨i,n,d⟩:=h;refine aB (B4 d λy p l=>?_);refine aB (B4 (by omega) λx f1 f2=>?_);refine aB (a0W m (g.1.trans r) (T.db _ _ p) (T.da _ _ f1) ?_);dsimp only;cases o:ltK kf y x with
 |true =>
  rw[av rfl];refine aB (B4 d λu k c=>?_);rw[l]at c;cases c;have f:=i.stepB T.sb l (W9 T.sa f2 (bV o));rw[<-cZ]at f;split
  .rename_i e;exact aM ⟨g,.inl ⟨_,rfl,a0A T f (eq_of_beq e)⟩⟩
  .rename_i e;have e:¬ib+1=b.size:=λz=>e (a_.mpr z);have j:MI kf a b (out.push y) ia (ib+1):=⟨f,n,by omega⟩;split
   .exact aM ⟨g,.inr ⟨rfl,j,by show c0+1<=ia+(ib+1);omega⟩⟩
   .exact aM ⟨g,rfl,j,by show c0+1<=ia+(ib+1);omega⟩
 |false =>
  rw[ao (by simp)];refine aB (B4 (by omega) λt k c=>?_);rw[f2]at c;cases c;have f:=i.stepA T.sa f2 (W9 T.sb l o);rw[<-cZ]at f;split
  .rename_i e;exact aM ⟨g,.inl ⟨_,rfl,a0w T f (eq_of_beq e)⟩⟩
  .rename_i e;have e:¬ia+1+1=a.size:=λz=>e (a_.mpr z);have j:MI kf a b (out.push x) (ia+1) ib:=⟨f,by omega,d⟩;split
   .exact aM ⟨g,.inr ⟨rfl,j,by show c0+1<=ia+1+ib;omega⟩⟩
   .exact aM ⟨g,rfl,j,by show c0+1<=ia+1+ib;omega⟩
def T9{n:String}{Q:Unit->SortSt->Prop}(h:Q () st):wpS (model prog w) A E s (liftM (rule n):StateT SortSt Sem Unit) Q st:=wpS_lift (eH ⟨rfl,h⟩)
def a5T(T:Two D kf a b)(k:Cmp prog w A s κ D (ltK kf))(t:kindOf st=κ)(O:0<a.size)(F:0<b.size)(h0:∀y,b.toList[0]?=some y->∀x∈a.toList,leK kf y x){Q:Array Keyed->SortSt->Prop}
  (q:∀r st',D6 kf a b r->Good st st'->Q r st'):wpS (model prog w) A E s (a3m a b) Q st:=by
 rw[a6I];refine aB (T9 ?_);refine aB (B4 F λy f j=>?_);have l:MS kf a.toList b.toList (#[y]:Array Keyed).toList 0 1:=by
  have z:MS kf a.toList b.toList [] 0 0:=⟨.nil,.nil,(λ_ h=>nomatch h),λ_ h=>nomatch h⟩;exact z.stepB T.sb j (λx u=>h0 y j x u)
 have o:Good st st:=⟨rfl,rfl,rfl,rfl⟩;split
 .rename_i e;exact aM (q _ _ (a0A T l (eq_of_beq e)) o)
 .rename_i e;have e:¬1=b.size:=λz=>e (a_.mpr z);split
  .rename_i n;exact aM (q _ _ (a0w T l (eq_of_beq n)) o)
  .rename_i n;have n:¬0+1=a.size:=λz=>n (a_.mpr z);refine aB (fm ?_);refine aB (cE (cu (I:=λx c st'=>Good st st'/\c.1=none/\MI kf a b c.2.1 c.2.2.1 c.2.2.2.1/\x+1<=c.2.2.1+c.2.2.2.1)
    (Q:=λc st'=>Good st st'/\∃r,c.1=some r/\D6 kf a b r) ?step ?fin ⟨o,rfl,⟨l,by show 0+1<a.size;omega,by show 1<b.size;omega⟩,ak _⟩) ?post)
   case post =>
    rintro c st' ⟨g,r,f,j⟩;obtain⟨L,M⟩:=c;dsimp only at f;subst f;exact aM (q _ _ j g)
   case fin =>
    rintro c st' ⟨g,f,⟨_,h1,h2⟩,N⟩;exfalso;omega
   case step =>
    rintro x c J _ u ⟨g,f,p,G⟩;refine aB (cE (cu (I:=λz d st'=>Y1 kf st a b (x+1+min z 1) d st') (Q:=λd st'=>P1 kf st a b (x+2) d st') ?s1 ?f1 ⟨g,rfl,p,by show x+1+min 0 1<=c.2.2.1+c.2.2.2.1;omega⟩) ?p1)
    case f1 =>
     rintro d st' ⟨g,f,h1,h2⟩;exact⟨g,.inr ⟨f,h1,by omega⟩⟩
    case s1 =>
     rintro z d st' _ H ⟨g,f,h1,h2⟩;refine cE (b4w T k t g h1 (c0:=x+1) (by omega)) λr m i=>?_;cases r with
     |done c'=>exact i
     | «yield» c'=>exact⟨i.1,i.2.1,i.2.2.1,by have:=i.2.2.2;omega⟩
    case p1 =>
     rintro d st' ⟨g,hd⟩;obtain⟨v,B⟩:=d;rcases hd with⟨r,f,j⟩|⟨f,h1,h2⟩
     .dsimp only at f;subst f;exact aM ⟨g,r,rfl,j⟩
     .dsimp only at f;subst f;refine aB (T9 ?_);refine aB (cE (cu (I:=λz d st'=>Y2 kf st a b (x+2) d st') (Q:=λd st'=>P2 kf st a b (x+2) d st') ?s2 ?f2 ⟨g,rfl,h1,h2⟩) ?p2)
      case f2 =>
       rintro d st' ⟨g,f,h1,h2⟩;exact⟨g,.inr ⟨f,h1,h2⟩⟩
      case s2 =>
       rintro z d st' _ H ⟨g,f,h1,h2⟩;split
       .refine cE (a8u T k t g h1 h2) λr m i=>?_;cases r<;>exact i
       .refine cE (a8u T k t g h1 h2) λr m i=>?_;cases r<;>exact i
      case p2 =>
       rintro d st' ⟨g,hd⟩;obtain⟨v,B⟩:=d;rcases hd with⟨r,f,j⟩|⟨f,h1,h2⟩
       .dsimp only at f;subst f;exact aM ⟨g,r,rfl,j⟩
       .dsimp only at f;subst f;refine aB (V5 λK C=>?_);exact aM ⟨g.trans C,rfl,h1,h2⟩
end
section
variable {kf:Keyed->O.α}{la lb o:qA Keyed}{na nb:Nat}
structure MH(kf:Keyed->O.α)(la lb o:qA Keyed)(na nb:Nat):Prop where
 perm:o.Perm (la.drop na++lb.drop nb)
 sorted:o.Pairwise (leK kf)
 ra:∀x∈la.take na,∀y∈o,leK kf x y
 rb:∀x∈lb.take nb,∀y∈o,leK kf x y
def a1Y(hs:l.Pairwise (leK kf))(h:l[i]?=some x):∀y∈l.take i,leK kf y x:=λy a=>by
 have:=hs.take (i:=i+1);rw[V7 h,bG]at this;exact this.2.2 y a x (aG.mpr rfl)
def MH.stepA(h:MH kf la lb o (na+1) nb)(hs:la.Pairwise (leK kf))(e:la[na]?=some x)(c:∀y∈lb.take nb,leK kf y x):MH kf la lb (x::o) na nb:=by
 have d:x∈la.take (na+1):=by rw[V7 e];exact aR _ (aG.mpr rfl)
 refine⟨?_,?_,λz b y a=>?_,λz b y a=>?_⟩
 .rw[a0z e,dS];exact h.perm.cons x
 .rw[cT];exact⟨λy a=>h.ra x d y a,h.sorted⟩
 .rcases aA.mp a with rfl|a
  .exact a1Y hs e z b
  .exact h.ra z (by rw[V7 e];exact aQ _ b) y a
 .rcases aA.mp a with rfl|a
  .exact c z b
  .exact h.rb z b y a
def MH.swap(h:MH kf la lb o na nb):MH kf lb la o nb na:=⟨h.perm.trans cF,h.sorted,h.rb,h.ra⟩
def MH.stepB(h:MH kf la lb o na (nb+1))(hs:lb.Pairwise (leK kf))(e:lb[nb]?=some x)(a:∀y∈la.take na,leK kf y x):MH kf la lb (x::o) na nb:=(h.swap.stepA hs e a).swap
def MH.bulkA(hs:la.Pairwise (leK kf)){a:Nat}:∀(k:Nat) {o:qA Keyed},MH kf la lb o (a+k) nb->a+k<=la.length->(∀i x,a<=i->i<a+k->la[i]?=some x->∀y∈lb.take nb,leK kf y x)->MH kf la lb ((la.take (a+k)).drop a++o) a nb
 |0,o,h,d,_=>by
  rw[Nat.add_zero,cC (by rw[aN];omega),cO];exact h
 |k+1,o,h,d,c=>by
  obtain⟨x,b⟩:∃x,la[a+k]?=some x:=⟨_,aj (by omega)⟩;have h1:=MH.stepA (na:=a+k) h hs b (c _ x (by omega) (by omega) b);have h2:=MH.bulkA hs k h1 (by omega) λi y h1 h2 e=>c i y h1 (by omega) e;rw[show a+(k+1)=a+k+1 by omega,V7 b,dy (by rw[aN];omega),aI];exact h2
def MH.bulkB(hs:lb.Pairwise (leK kf))(h:MH kf la lb o na (a+k))(c:a+k<=lb.length)(b:∀i x,a<=i->i<a+k->lb[i]?=some x->∀y∈la.take na,leK kf y x):MH kf la lb ((lb.take (a+k)).drop a++o) na a :=
 (MH.bulkA hs k h.swap c b).swap
def MH.done(h:MH kf la lb o 0 nb)(hs:lb.Pairwise (leK kf)):a1S kf la lb (la.take 0++lb.take nb++o):=by
 rw[List.take_zero,cO];have a:=h.perm;rw[cX]at a;refine⟨?_,?_⟩
 .refine(cv _ a).trans ?_;rw[<-aI];refine(List.Perm.append_right _ cF).trans ?_;rw[aI,bo]
 .rw[bG];exact⟨hs.take,h.sorted,h.rb⟩
def MH.firstB(h:MH kf la lb o na nb)(hsa:la.Pairwise (leK kf))(hs:lb.Pairwise (leK kf))(b:∀y∈lb.take nb,∀x∈la.take na,leK kf y x):a1S kf la lb (lb.take nb++la.take na++o):=by
 refine⟨?_,?_⟩
 .refine(cv _ h.perm).trans ?_;rw[aI,<-aI (la.take na),bo];refine cF.trans ?_;rw[aI];refine cv _ (cF.trans ?_);rw[bo]
 .rw[bG];refine⟨?_,h.sorted,λx c y a=>?_⟩
  .rw[bG];exact⟨hs.take,hsa.take,b⟩
  .rcases aD.mp c with q|q
   .exact h.rb x q y a
   .exact h.ra x q y a
end
def a3n:Array Keyed->Array Keyed->StateT SortSt Sem (Array Keyed):=sortPriv% PySem.Builtin.mergeHi
def P7(a b out:Array Keyed)(na nb:Nat):Array Keyed:=a.extract 0 na++b.extract 0 nb++out.reverse
def X2(a b out:Array Keyed)(na nb:Nat):Array Keyed:=b.extract 0 nb++a.extract 0 na++out.reverse
abbrev U1:Type:=qD (Array Keyed)×Nat×Nat×Array Keyed×Nat×Nat
abbrev U2:Type:=qD (Array Keyed)×Nat×Nat×Array Keyed×Nat×Nat×Nat
def hiD(a b:Array Keyed)(na nb:Nat)(out:Array Keyed)(mg k k1:Nat):StateT SortSt Sem (ForInStep U2) :=
 elem' a (na-1)>>=λx =>
 if (na-1==0)=true then pure (.done (some (P7 a b (out.push x) (na-1) nb),na-1,nb,out.push x,mg,k,k1))
 else if (decide (k<7) && decide (k1<7))=true then pure (.done (none,na-1,nb,out.push x,mg,k,k1))
 else pure (.yield (none,na-1,nb,out.push x,mg,k,k1))
def hiC(a b:Array Keyed)(na nb:Nat)(out:Array Keyed)(mg k bc:Nat):StateT SortSt Sem (ForInStep U2) :=
 elem' b (nb-1)>>=λy =>
 if (nb-1==1)=true then pure (.done (some (X2 a b (out.push y) na (nb-1)),na,nb-1,out.push y,mg,k,bc))
 else elem' a (na-1)>>=λx=>T4 true x b 0 (nb-1) (nb-1-1)>>=λr =>
  match r with
  |some at_=>(if nb-1-at_ > 0 then
    (if (at_==1)=true then pure (.done (some (X2 a b (out.push y++(b.extract at_ (nb-1)).reverse) na at_),na,at_,out.push y++(b.extract at_ (nb-1)).reverse,mg,k,nb-1-at_))
    else if (at_==0)=true then pure (.done (some (P7 a b (out.push y++(b.extract at_ (nb-1)).reverse) na at_),na,at_,out.push y++(b.extract at_ (nb-1)).reverse,mg,k,nb-1-at_))
    else hiD a b na at_ (out.push y++(b.extract at_ (nb-1)).reverse) mg k (nb-1-at_))
   else hiD a b na (nb-1) (out.push y) mg k (nb-1-at_))
  |_=>pure (.done (some (P7 a b (out.push y) na (nb-1)),na,nb-1,out.push y,mg,k,bc))
def hiB(a b:Array Keyed)(na nb:Nat)(out:Array Keyed)(mg ac bc:Nat):StateT SortSt Sem (ForInStep U2) :=
 a0o mg>>=λ_=>elem' b (nb-1)>>=λy=>T4 false y a 0 na (na-1)>>=λr =>
 match r with
 |some at_=>(if na-at_ > 0 then
   (if (at_==0)=true then pure (.done (some (P7 a b (out++(a.extract at_ na).reverse) at_ nb),at_,nb,out++(a.extract at_ na).reverse,mg,na-at_,bc))
   else hiC a b at_ nb (out++(a.extract at_ na).reverse) mg (na-at_) bc)
  else hiC a b na nb out mg (na-at_) bc)
 |_=>pure (.done (some (P7 a b out na nb),na,nb,out,mg,ac,bc))
def hiA(a b:Array Keyed)(na nb:Nat)(out:Array Keyed)(ac bc mg:Nat):StateT SortSt Sem (ForInStep U1) :=
 elem' b (nb-1)>>=λy=>elem' a (na-1)>>=λx=>lt' y x>>=λr =>
 match r with
 |some aWins=>(if aWins=true then elem' a (na-1)>>=λx =>
   (if (na-1==0)=true then pure (.done (some (P7 a b (out.push x) (na-1) nb),na-1,nb,out.push x,ac+1,0))
   else if ac+1 ≥ mg then pure (.done (none,na-1,nb,out.push x,ac+1,0))
   else pure (.yield (none,na-1,nb,out.push x,ac+1,0)))
  else elem' b (nb-1)>>=λy =>
   (if (nb-1==1)=true then pure (.done (some (X2 a b (out.push y) na (nb-1)),na,nb-1,out.push y,0,bc+1))
   else if bc+1 ≥ mg then pure (.done (none,na,nb-1,out.push y,0,bc+1))
   else pure (.yield (none,na,nb-1,out.push y,0,bc+1))))
 |_=>pure (.done (some (P7 a b out na nb),na,nb,out,ac,bc))
def a6J(a b:Array Keyed):a3n a b=(do
 rule "list.sort.merge-hi"
 let y <-elem' a (a.size-1)
 if (a.size-1==0)=true then pure (P7 a b #[y] (a.size-1) b.size)
 else if (b.size==1)=true then pure (X2 a b #[y] (a.size-1) b.size)
 else do
  let g <-get
  let r <-forIn [:a.size+b.size] ((none,a.size-1,b.size,#[y],gallopOf g):qD (Array Keyed)×Nat×Nat×Array Keyed×Nat) λ_ c=>do
   let r <-forIn [:a.size+b.size] ((none,c.2.1,c.2.2.1,c.2.2.2.1,0,0):U1) λ_ d=>hiA a b d.2.1 d.2.2.1 d.2.2.2.1 d.2.2.2.2.1 d.2.2.2.2.2 c.2.2.2.2
   match r.1 with
   |some q=>pure (ForInStep.done (some q,r.2.1,r.2.2.1,r.2.2.2.1,c.2.2.2.2))
   |none=>do
    rule "list.sort.gallop"
    let t <-forIn [:a.size+b.size] ((none,r.2.1,r.2.2.1,r.2.2.2.1,c.2.2.2.2+1,r.2.2.2.2.1,r.2.2.2.2.2):U2) λ_ d =>
     if d.2.2.2.2.1 > 1 then hiB a b d.2.1 d.2.2.1 d.2.2.2.1 (d.2.2.2.2.1-1) d.2.2.2.2.2.1 d.2.2.2.2.2.2 else hiB a b d.2.1 d.2.2.1 d.2.2.2.1 d.2.2.2.2.1 d.2.2.2.2.2.1 d.2.2.2.2.2.2
    match t.1 with
    |some q=>pure (ForInStep.done (some q,t.2.1,t.2.2.1,t.2.2.2.1,t.2.2.2.2.1))
    |none=>do
     a0o (t.2.2.2.2.1+1)
     pure (ForInStep.yield (none,t.2.1,t.2.2.1,t.2.2.2.1,t.2.2.2.2.1+1))
  match r.1 with
  |some q=>pure q
  |none=>unsupported "internal:list.sort.merge-bound"):=by
 show(_>>=_)=(_>>=_);refine aP _ (funext λ_=>?_);dsimp only;refine aP _ (funext λy=>?_);refine dP rfl (λ_=>rfl) (λ_=>dP rfl (λ_=>rfl) λ_=>?_);refine aP _ (funext λg=>?_);refine congr (aP _ (aP _ (funext λ_=>funext λc=>?_))) (funext λr=>?_)
 .refine congr (aP _ (aP _ (funext λ_=>funext λd=>?_))) (funext λr=>?_)
  .rfl
  .rcases r with⟨_|q,r⟩
   .dsimp only;refine aP _ (funext λ_=>?_);refine congr (aP _ (aP _ (funext λ_=>funext λd=>?_))) (funext λr=>?_)
    .rfl
    .rcases r with⟨_|q,r⟩<;>rfl
   .rfl
 .rcases r with⟨_|q,r⟩
  .dsimp only
  .rfl
def a1N(a:Array α)(i n:Nat):(a.extract i n).toList=(a.toList.take n).drop i:=by
 rw[eQ];simp[List.extract_eq_drop_take']
def a7c(a b out:Array Keyed)(na nb:Nat):(P7 a b out na nb).toList=a.toList.take na++b.toList.take nb++out.toList.reverse:=by
 unfold P7;rw[bX,bX,a1N,a1N,fV,cX,cX]
def a5H(a b out:Array Keyed)(na nb:Nat):(X2 a b out na nb).toList=b.toList.take nb++a.toList.take na++out.toList.reverse:=by
 unfold X2;rw[bX,bX,a1N,a1N,fV,cX,cX]
def a1h(out:Array Keyed)(x:Keyed):(out.push x).toList.reverse=x::out.toList.reverse:=by
 rw[cZ,List.reverse_append];rfl
def a9I(out a:Array Keyed)(i n:Nat):(out++(a.extract i n).reverse).toList.reverse=(a.toList.take n).drop i++out.toList.reverse:=by
 rw[bX,List.reverse_append,fV,List.reverse_reverse,a1N]
section
variable {kf:Keyed->O.α}{a b out:Array Keyed}{na nb:Nat}
def a4T(kf:Keyed->O.α)(a b:Array Keyed):Prop:=∀y,b.toList[0]?=some y->∀x∈a.toList,ltK kf y x=true
def W4{z:Keyed}(hs:l.Pairwise (leK kf))(e:l[i]?=some x)(h:leK kf x z):∀y∈l.take (i+1),leK kf y z:=λy a=>by
 rw[V7 e]at a;rcases aD.mp a with a|a
 .exact bS (a1Y hs e y a) h
 .rw[aG.mp a];exact h
def MJ(kf:Keyed->O.α)(a b out:Array Keyed)(na nb:Nat):Prop:=MH kf a.toList b.toList out.toList.reverse na nb/\1<=na/\2<=nb/\na<=a.size/\nb<=b.size
def a0B(T:Two D kf a b)(h:MH kf a.toList b.toList out.toList.reverse na nb)(hi:na=0):D6 kf a b (P7 a b out na nb):=by
 subst hi;unfold D6;rw[a7c];exact h.done T.sb
def X1(T:Two D kf a b)(F:a4T kf a b)(h:MH kf a.toList b.toList out.toList.reverse na nb)(hi:nb=1)(d:0<b.size):D6 kf a b (X2 a b out na nb):=by
 subst hi;unfold D6;rw[a5H];refine h.firstB T.sa T.sb λy c x f=>?_;have e:b.toList[0]?=some (b.getD 0 (Value.none,Value.none)):=by rw[ay];exact gdK b d
 rw[V7 e,List.take_zero,cO,aG]at c;rw[c];exact bV (F _ e x (bT f))
def P4(kf:Keyed->O.α)(st:SortSt)(a b:Array Keyed)(c0:Nat)(c:U2)(st':SortSt):Prop:=Good st st'/\((∃r,c.1=some r/\D6 kf a b r)∨(c.1=none/\MJ kf a b c.2.2.2.1 c.2.1 c.2.2.1/\c.2.1+c.2.2.1+c0<=a.size+b.size))
def Y4(kf:Keyed->O.α)(st:SortSt)(a b:Array Keyed)(c0:Nat)(c:U2)(st':SortSt):Prop:=Good st st'/\c.1=none/\MJ kf a b c.2.2.2.1 c.2.1 c.2.2.1/\c.2.1+c.2.2.1+c0<=a.size+b.size
def R4(kf:Keyed->O.α)(st:SortSt)(a b:Array Keyed)(c0:Nat)(r:ForInStep U2)(st':SortSt):Prop:=match r with | .done c'=>P4 kf st a b c0 c' st' | .yield c'=>Y4 kf st a b c0 c' st'
variable {c0 mg k1 bc ac:Nat}
def a8v(T:Two D kf a b)(g:Good st st')(h:MJ kf a b out na nb)(j:∀x,a.toList[na-1]?=some x->∀y∈b.toList.take nb,leK kf y x)(o:na+nb+c0<=a.size+b.size):wpS (model prog w) A E s (hiD a b na nb out mg k k1) (R4 kf st a b c0) st':=by
 unfold hiD;obtain⟨f,h1,h2,p,m⟩:=h;refine aB (B4 (by omega) λx l c=>?_);obtain⟨n,rfl⟩:∃n,na=n+1:=⟨na-1,by omega⟩;rw[fb]at l c j⊢;have d:=f.stepA T.sa c (j x c);rw[<-a1h]at d;split
 .rename_i e;exact aM ⟨g,.inl ⟨_,rfl,a0B T d (eq_of_beq e)⟩⟩
 .rename_i e;have e:¬n=0:=λz=>e (a_.mpr z);have i:MJ kf a b (out.push x) n nb:=⟨d,by omega,h2,by omega,m⟩;split
  .exact aM ⟨g,.inr ⟨rfl,i,by show n+nb+c0<=_;omega⟩⟩
  .exact aM ⟨g,rfl,i,by show n+nb+c0<=_;omega⟩
def a8w(T:Two D kf a b)(F:a4T kf a b)(u:Cmp prog w A s κ D (ltK kf))(R:kindOf st=κ)(g:Good st st')(h:MJ kf a b out na nb)(J:∀y,b.toList[nb-1]?=some y->∀x∈a.toList.take na,leK kf x y)(P:na+nb+c0<=a.size+b.size):wpS (model prog w) A E s (hiC a b na nb out mg k bc) (R4 kf st a b c0) st':=by
 unfold hiC;obtain⟨C,h1,h2,I,X⟩:=h;refine aB (B4 (by omega) λy L r=>?_);obtain⟨m,rfl⟩:∃m,nb=m+1:=⟨nb-1,by omega⟩;rw[fb]at L r J⊢;have p:=C.stepB T.sb r (J y r);rw[<-a1h]at p;split
 .rename_i e;exact aM ⟨g,.inl ⟨_,rfl,X1 T F p (eq_of_beq e) (by omega)⟩⟩
 .rename_i e;have e:¬m=1:=λz=>e (a_.mpr z);refine aB (B4 (by omega) λx f1 f2=>?_);refine aB (K3 u (g.1.trans R) (T.da _ _ f1) (λi=>ltK kf (b.getD (0+i) (Value.none,Value.none)) x) (λi hi=>⟨_,gdK b (by omega),T.db _ _ (gdK b (by omega)),rfl⟩) (λi j Q v O=>?_) (by omega) λc q1 V K=>?_)
  .refine e_ (a0v T.sb (i:=0+i) (j:=0+j) (by omega) ?_ ?_) O
   .rw[ay];exact gdK b (by omega)
   .rw[ay];exact gdK b (by omega)
  .dsimp only;have N:1<=c:=by
    refine Nat.pos_of_ne_zero λz=>?_;have:=K 0 (by omega) (by omega);have M:=F (b.getD 0 (Value.none,Value.none)) (by rw[ay];exact gdK b (by omega)) x (aH f2);rw[dE]at this;rw[M]at this;cases this
   have d:∀o,a.toList[na-1]?=some o->∀f,f=c->∀y∈b.toList.take f,leK kf y o:=λo ex' f W=>by
    rw[f2]at ex';cases ex';obtain⟨n,S⟩:∃n,f=n+1:=⟨f-1,by omega⟩;rw[S];have t:b.toList[n]?=some (b.getD n (Value.none,Value.none)):=by rw[ay];exact gdK b (by omega)
    refine W4 T.sb t (bV ?_);have:=V n (by omega);rw[dE]at this;exact this
   split
   .obtain⟨j,v⟩:∃j,m=c+j:=⟨m-c,by omega⟩;have l:MH kf a.toList b.toList ((b.toList.take (c+j)).drop c++(out.push y).toList.reverse) na c:=by
     rw[v]at p;refine MH.bulkB T.sb p (by rw[az];omega) λi z U Y H=>?_;have:=K i U (by omega);rw[dE]at this;rw[ay,gdK b (by omega)]at H;cases H;have B:leK kf x (b.getD i (Value.none,Value.none)):=this;have:=W4 T.sa f2 B;rwa[show na-1+1=na by omega]at this
    rw[<-v,<-a9I]at l;split
    .rename_i q;exact aM ⟨g,.inl ⟨_,rfl,X1 T F l (eq_of_beq q) (by omega)⟩⟩
    .rename_i q;have q:¬c=1:=λz=>q (a_.mpr z);split
     .rename_i G;have G:=eq_of_beq G;omega
     .exact a8v T g ⟨l,h1,by omega,I,by omega⟩ (λo ex'=>d o ex' _ rfl) (by omega)
   .exact a8v T g ⟨p,h1,by omega,I,by omega⟩ (λo ex'=>d o ex' _ (by omega)) (by omega)
def a8x(T:Two D kf a b)(F:a4T kf a b)(l:Cmp prog w A s κ D (ltK kf))(t:kindOf st=κ)(g:Good st st')(h:MJ kf a b out na nb)(q:na+nb+c0<=a.size+b.size):wpS (model prog w) A E s (hiB a b na nb out mg ac bc) (R4 kf st a b c0) st':=by
 unfold hiB;obtain⟨m,h1,h2,L,H⟩:=h;refine aB (V5 λS K=>?_);have g:=g.trans K;refine aB (B4 (by omega) λy J B=>?_);refine aB (K3 l (g.1.trans t) (T.db _ _ J) (λi=>!(ltK kf y (a.getD (0+i) (Value.none,Value.none)))) (λi hi=>⟨_,gdK a (by omega),T.da _ _ (gdK a (by omega)),rfl⟩) (λi j M r I=>?_) (by omega) λc q1 Q R=>?_)
 .have hle:leK kf (a.getD (0+j) (Value.none,Value.none)) y:=by
   unfold leK KeyOrd.kle;unfold ltK at I;simpa using I
  have:=bS (a0v T.sa (i:=0+i) (j:=0+j) (by omega) (by rw[ay];exact gdK a (by omega)) (by rw[ay];exact gdK a (by omega))) hle;unfold KeyOrd.kle at this;unfold ltK;rw[this];rfl
 .dsimp only;have f:∀d,d=c->∀v,b.toList[nb-1]?=some v->∀x∈a.toList.take d,leK kf x v:=λd e v C=>by
   rw[B]at C;cases C;subst e;by_cases N:d=0
   .rw[N,List.take_zero];exact λ_ z=>nomatch z
   obtain⟨n,rfl⟩:∃n,d=n+1:=⟨d-1,by omega⟩;have p:a.toList[n]?=some (a.getD n (Value.none,Value.none)):=by rw[ay];exact gdK a (by omega)
   refine W4 T.sa p ?_;have:=Q n (by omega);rw[dE]at this;unfold leK KeyOrd.kle;unfold ltK at this;simpa using this
  split
  .obtain⟨j,r⟩:∃j,na=c+j:=⟨na-c,by omega⟩;have k:MH kf a.toList b.toList ((a.toList.take (c+j)).drop c++out.toList.reverse) c nb:=by
    rw[r]at m;refine MH.bulkA T.sa j m (by rw[az];omega) λi z P U G=>?_;have:=R i P (by omega);rw[dE]at this;rw[ay,gdK a (by omega)]at G;cases G;have u:O.klt (kf y) (kf (a.getD i (Value.none,Value.none))):=by
     unfold KeyOrd.klt;unfold ltK at this;simpa using this
    have:=W4 T.sb B (bV u);rwa[show nb-1+1=nb by omega]at this
   rw[<-r,<-a9I]at k;split
   .rename_i o;exact aM ⟨g,.inl ⟨_,rfl,a0B T k (eq_of_beq o)⟩⟩
   .rename_i o;have o:¬c=0:=λz=>o (a_.mpr z);exact a8w T F l t g ⟨k,by omega,h2,by omega,H⟩ (f _ rfl) (by omega)
  .exact a8w T F l t g ⟨m,h1,h2,L,H⟩ (f _ (by omega)) q
def P3(kf:Keyed->O.α)(st:SortSt)(a b:Array Keyed)(c0:Nat)(c:U1)(st':SortSt):Prop:=Good st st'/\((∃r,c.1=some r/\D6 kf a b r)∨(c.1=none/\MJ kf a b c.2.2.2.1 c.2.1 c.2.2.1/\c.2.1+c.2.2.1+c0<=a.size+b.size))
def Y3(kf:Keyed->O.α)(st:SortSt)(a b:Array Keyed)(c0:Nat)(c:U1)(st':SortSt):Prop:=Good st st'/\c.1=none/\MJ kf a b c.2.2.2.1 c.2.1 c.2.2.1/\c.2.1+c.2.2.1+c0<=a.size+b.size
def R3(kf:Keyed->O.α)(st:SortSt)(a b:Array Keyed)(c0:Nat)(r:ForInStep U1)(st':SortSt):Prop:=match r with | .done c'=>P3 kf st a b c0 c' st' | .yield c'=>Y3 kf st a b c0 c' st'
def b4x(T:Two D kf a b)(F:a4T kf a b)(l:Cmp prog w A s κ D (ltK kf))(u:kindOf st=κ)(g:Good st st')(h:MJ kf a b out na nb)(t:na+nb+c0<=a.size+b.size):wpS (model prog w) A E s (hiA a b na nb out ac bc mg) (R3 kf st a b (c0+1)) st':=by
 unfold hiA;obtain⟨f,h1,h2,q,r⟩:=h;refine aB (B4 (by omega) λy o j=>?_);refine aB (B4 (by omega) λx f1 f2=>?_);refine aB (a0W l (g.1.trans u) (T.db _ _ o) (T.da _ _ f1) ?_);dsimp only;obtain⟨n,rfl⟩:∃n,na=n+1:=⟨na-1,by omega⟩;obtain⟨m,rfl⟩:∃m,nb=m+1:=⟨nb-1,by omega⟩;rw[fb]at o j f1 f2⊢;rw[fb];cases p:ltK kf y x with
 |true =>
  rw[av rfl];refine aB (B4 (by omega) λv k c=>?_);rw[f2]at c;cases c;have d:=f.stepA T.sa f2 (W4 T.sb j (bV p));rw[<-a1h]at d;split
  .rename_i e;exact aM ⟨g,.inl ⟨_,rfl,a0B T d (eq_of_beq e)⟩⟩
  .rename_i e;have e:¬n=0:=λz=>e (a_.mpr z);have i:MJ kf a b (out.push x) n (m+1):=⟨d,by omega,h2,by omega,r⟩;split
   .exact aM ⟨g,.inr ⟨rfl,i,by show n+(m+1)+(c0+1)<=_;omega⟩⟩
   .exact aM ⟨g,rfl,i,by show n+(m+1)+(c0+1)<=_;omega⟩
 |false =>
  rw[ao (by simp)];refine aB (B4 (by omega) λB k c=>?_);rw[j]at c;cases c;have d:=f.stepB T.sb j (W4 T.sa f2 p);rw[<-a1h]at d;split
  .rename_i e;exact aM ⟨g,.inl ⟨_,rfl,X1 T F d (eq_of_beq e) (by omega)⟩⟩
  .rename_i e;have e:¬m=1:=λz=>e (a_.mpr z);have i:MJ kf a b (out.push y) (n+1) m:=⟨d,h1,by omega,q,by omega⟩;split
   .exact aM ⟨g,.inr ⟨rfl,i,by show n+1+m+(c0+1)<=_;omega⟩⟩
   .exact aM ⟨g,rfl,i,by show n+1+m+(c0+1)<=_;omega⟩
def a5U(T:Two D kf a b)(F:a4T kf a b)(k:Cmp prog w A s κ D (ltK kf))(t:kindOf st=κ)(P:0<a.size)(G:0<b.size){Q:Array Keyed->SortSt->Prop}
  (q:∀r st',D6 kf a b r->Good st st'->Q r st'):wpS (model prog w) A E s (a3n a b) Q st:=by
 rw[a6J];refine aB (T9 ?_);refine aB (B4 (by omega) λy f j=>?_);have l:MH kf a.toList b.toList (#[y]:Array Keyed).toList.reverse (a.size-1) b.size:=by
  have z:MH kf a.toList b.toList [] (a.size-1+1) b.size:=by
   refine⟨?_,.nil,(λ_ _ _ h=>nomatch h),λ_ _ _ h=>nomatch h⟩;rw[cC (by rw[az];omega),cC (by rw[az];omega)];exact .nil
  exact z.stepA T.sa j (λx u=>bV (T.last x (bT u) y f))
 have o:Good st st:=⟨rfl,rfl,rfl,rfl⟩;split
 .rename_i e;exact aM (q _ _ (a0B T l (eq_of_beq e)) o)
 .rename_i e;have e:¬a.size-1=0:=λz=>e (a_.mpr z);split
  .rename_i n;exact aM (q _ _ (X1 T F l (eq_of_beq n) G) o)
  .rename_i n;have n:¬b.size=1:=λz=>n (a_.mpr z);refine aB (fm ?_);refine aB (cE (cu (I:=λx c st'=>Good st st'/\c.1=none/\MJ kf a b c.2.2.2.1 c.2.1 c.2.2.1/\c.2.1+c.2.2.1+(x+1)<=a.size+b.size)
    (Q:=λc st'=>Good st st'/\∃r,c.1=some r/\D6 kf a b r) ?step ?fin ⟨o,rfl,⟨l,by show 1<=a.size-1;omega,by show 2<=b.size;omega,by show a.size-1<=a.size;omega,ak _⟩,by show a.size-1+b.size+(0+1)<=_;omega⟩) ?post)
   case post =>
    rintro c st' ⟨g,r,f,j⟩;obtain⟨M,N⟩:=c;dsimp only at f;subst f;exact aM (q _ _ j g)
   case fin =>
    rintro c st' ⟨g,f,⟨_,h1,h2,_⟩,O⟩;exfalso;omega
   case step =>
    rintro x c K _ u ⟨g,f,p,H⟩;refine aB (cE (cu (I:=λz d st'=>Y3 kf st a b (x+1+min z 1) d st') (Q:=λd st'=>P3 kf st a b (x+2) d st') ?s1 ?f1 ⟨g,rfl,p,by show c.2.1+c.2.2.1+(x+1+min 0 1)<=_;omega⟩) ?p1)
    case f1 =>
     rintro d st' ⟨g,f,h1,h2⟩;exact⟨g,.inr ⟨f,h1,by omega⟩⟩
    case s1 =>
     rintro z d st' _ J ⟨g,f,h1,h2⟩;refine cE (b4x T F k t g h1 (c0:=x+1) (by omega)) λr m i=>?_;cases r with
     |done c'=>exact i
     | «yield» c'=>exact⟨i.1,i.2.1,i.2.2.1,by have:=i.2.2.2;omega⟩
    case p1 =>
     rintro d st' ⟨g,hd⟩;obtain⟨v,B⟩:=d;rcases hd with⟨r,f,j⟩|⟨f,h1,h2⟩
     .dsimp only at f;subst f;exact aM ⟨g,r,rfl,j⟩
     .dsimp only at f;subst f;refine aB (T9 ?_);refine aB (cE (cu (I:=λz d st'=>Y4 kf st a b (x+2) d st') (Q:=λd st'=>P4 kf st a b (x+2) d st') ?s2 ?f2 ⟨g,rfl,h1,h2⟩) ?p2)
      case f2 =>
       rintro d st' ⟨g,f,h1,h2⟩;exact⟨g,.inr ⟨f,h1,h2⟩⟩
      case s2 =>
       rintro z d st' _ J ⟨g,f,h1,h2⟩;split
       .refine cE (a8x T F k t g h1 h2) λr m i=>?_;cases r<;>exact i
       .refine cE (a8x T F k t g h1 h2) λr m i=>?_;cases r<;>exact i
      case p2 =>
       rintro d st' ⟨g,hd⟩;obtain⟨v,B⟩:=d;rcases hd with⟨r,f,j⟩|⟨f,h1,h2⟩
       .dsimp only at f;subst f;exact aM ⟨g,r,rfl,j⟩
       .dsimp only at f;subst f;refine aB (V5 λL C=>?_);exact aM ⟨g.trans C,rfl,h1,h2⟩
end
def a7x(qN merged:Array Keyed)(sa:Nat):Array Keyed:=merged.toList.zipIdx.foldl (λa (p,j)=>a.setIfInBounds (sa+j) p) qN
def mgC(sa:Nat)(merged:Array Keyed):StateT SortSt Sem Bool :=
 (modify λs=>SortSt.mk' (kindOf s) (a7x (arrOf s) merged sa) (pendingOf s) (gallopOf s) (failedOf s))>>=λ_=>get>>=λs=>pure (failedOf s).isNone
def mgB(s:SortSt)(sa na sb nb:Nat):StateT SortSt Sem Bool :=
 elem' (arrOf s) (sa+na-1)>>=λx=>T4 true x (arrOf s) sb nb (nb-1)>>=λr=>match r with
 |some n=>(if (n==0)=true then pure true
  else if na<=n then a3m ((arrOf s).extract sa sb) ((arrOf s).extract sb (sb+n))>>=mgC sa
  else a3n ((arrOf s).extract sa sb) ((arrOf s).extract sb (sb+n))>>=mgC sa)
 |_=>pure false
def mgA(s:SortSt)(sa na sb nb:Nat):StateT SortSt Sem Bool :=
 elem' (arrOf s) sb>>=λy=>T4 false y (arrOf s) sa na 0>>=λr=>match r with
 |some k=>(if (na-k==0)=true then pure true else mgB s (sa+k) (na-k) sb nb)
 |_=>pure false
def a6K(i:Nat):mergeAt' i=(get>>=λs=>match ((pendingOf s)[i]?,(pendingOf s)[i+1]?)with
 |(some (sa,na,pw),some (sb,nb,_))=>set (SortSt.mk' (kindOf s) (arrOf s) (((pendingOf s).setIfInBounds i (sa,na+nb,pw)).eraseIdxIfInBounds (i+1)) (gallopOf s) (failedOf s))>>=λ_=>mgA s sa na sb nb
 |_=>liftM (unsupported "internal:list.sort.pending" : Sem Bool)):=by
 show(_>>=_)=(_>>=_);refine aP _ (funext λs=>?_);dsimp only;rcases(pendingOf s)[i]? with _|⟨sa,na,pw⟩
 .rfl
 rcases(pendingOf s)[i+1]? with _|⟨sb,nb,pw2⟩
 .rfl
 dsimp only;refine aP _ (funext λ_=>?_);unfold mgA;refine aP _ (funext λy=>?_);refine aP _ (funext λr=>?_);rcases r with _|k
 .rfl
 dsimp only;refine dP rfl (λ_=>rfl) λ_=>?_;unfold mgB;refine aP _ (funext λx=>?_);refine aP _ (funext λr=>?_);rcases r with _|n
 .rfl
 rfl
def a4E:∀(l:qA Keyed) (qN:Array Keyed) (sa j:Nat),sa+j+l.length<=qN.size ->
  ((l.zipIdx j).foldl (λa (p:Keyed×Nat)=>a.setIfInBounds (sa+p.2) p.1) qN).toList=qN.toList.take (sa+j)++l++qN.toList.drop (sa+j+l.length)
 |[],qN,sa,j,h=>by simp
 |x::l,qN,sa,j,h=>by
  rw[aZ]at h;rw[List.zipIdx_cons,dI,a4E l _ sa (j+1) (by rw[fc];omega)];rw[Array.toList_setIfInBounds];have b:sa+j<qN.toList.length:=by rw[az];omega
  rw[aZ,show sa+(j+1)=sa+j+1 by omega];rw[List.take_set,List.drop_set_of_lt (by omega)];rw[List.take_succ_eq_append_getElem b,List.set_append_right _ _ (by rw[aN];omega)];rw[aN,show sa+j-min (sa+j) qN.toList.length=0 by omega];simp[aI];congr 1;omega
def a6r(qN a:Array Keyed)(sa:Nat)(h:sa+a.size<=qN.size):(a7x qN a sa).toList=qN.toList.take sa++a.toList++qN.toList.drop (sa+a.size):=by
 have:=a4E a.toList qN sa 0 (by rw[az];omega);rw[Nat.add_zero,az]at this;exact this
def b4v{M:Model}{σ:Type}{st a:σ}{Q:PUnit->σ->Prop}(h:Q ⟨⟩ a):wpS M A E s (set a:StateT σ Sem PUnit) Q st:=by
 unfold wpS;rw[StateT.run_set];exact ag ⟨rfl,h⟩
section
variable {kf:Keyed->O.α}
structure Runs2(kf:Keyed->O.α)(D:Keyed->Prop)(qN:Array Keyed)(P LA LB R:qA Keyed):Prop where
 eq:qN.toList=P++LA++LB++R
 d:∀x∈qN.toList,D x
 sa:LA.Pairwise (leK kf)
 sb:LB.Pairwise (leK kf)
 na:0<LA.length
 nb:0<LB.length
variable {P LA LB R:qA Keyed}
def Runs2.atA(h:Runs2 kf D qN P LA LB R)(hi:i<LA.length):qN[P.length+i]?=LA[i]?:=by
 rw[<-ay,h.eq,aI,aI,a' (by omega),bx (by omega)];congr 1;omega
def Runs2.atB(h:Runs2 kf D qN P LA LB R)(hi:i<LB.length):qN[P.length+LA.length+i]?=LB[i]?:=by
 rw[<-ay,h.eq,aI,a' (by rw[ar];omega),bx (by rw[ar];omega)];congr 1;rw[ar];omega
def Runs2.dA(h:Runs2 kf D qN P LA LB R):∀x∈LA,D x:=λx a=>h.d x (by rw[h.eq];simp[a])
def Runs2.dB(h:Runs2 kf D qN P LA LB R):∀x∈LB,D x:=λx a=>h.d x (by rw[h.eq];simp[a])
def Runs2.size(h:Runs2 kf D qN P LA LB R):qN.size=P.length+LA.length+LB.length+R.length:=by
 rw[<-az,h.eq];simp[dX]
def Runs2.extA(h:Runs2 kf D qN P LA LB R)(k:Nat):(qN.extract (P.length+k) (P.length+LA.length)).toList=LA.drop k:=by
 rw[a1N,h.eq,aI (P++LA),eh (by simp)];rw[bP (by simp),List.drop_append,cC (by omega),cO];congr 1;omega
def Runs2.extB(h:Runs2 kf D qN P LA LB R)(a:k<=LB.length):(qN.extract (P.length+LA.length) (P.length+LA.length+k)).toList=LB.take k:=by
 rw[a3K,h.eq,aI,dy (by simp),cC (by simp),cO,eh a]
def a5V{pw a9:Nat}{Q:Bool->SortSt->Prop}(G:Cmp prog w A s κ D (ltK kf))(hk:kindOf st=κ)(h:Runs2 kf D (arrOf st) P LA LB R)(hp:(pendingOf st)[i]?=some (P.length,LA.length,pw))(a7:(pendingOf st)[i+1]?=some (P.length+LA.length,LB.length,a9))(hf:failedOf st=none)
  (q:∀(st':SortSt) (M:qA Keyed),kindOf st'=κ->failedOf st'=none->pendingOf st'=((pendingOf st).setIfInBounds i (P.length,LA.length+LB.length,pw)).eraseIdxIfInBounds (i+1)->a1S kf LA LB M->(arrOf st').toList=P++M++R->Q true st'):wpS (model prog w) A E s (mergeAt' i) Q st:=by
 rw[a6K];refine aB (fm ?_);rw[hp,a7];dsimp only;refine aB (b4v ?_);unfold mgA;have m:=heq_of_eq h.size;have a0:=h.na;have S:=h.nb;generalize f:SortSt.mk' (kindOf st) (arrOf st) (((pendingOf st).setIfInBounds i (P.length,LA.length+LB.length,pw)).eraseIdxIfInBounds (i+1)) (gallopOf st) (failedOf st)=d;have k2:kindOf d=κ:=by rw[<-f];exact hk
 have a2:arrOf d=arrOf st:=by rw[<-f]
 have p2:pendingOf d=((pendingOf st).setIfInBounds i (P.length,LA.length+LB.length,pw)).eraseIdxIfInBounds (i+1):=by rw[<-f]
 have f2:failedOf d=none:=by rw[<-f];exact hf
 have B:LA++LB=LA++LB->(∀x∈LA,∀y∈LB,leK kf x y)->Q true d:=λ_ a6=>by
  refine q d (LA++LB) k2 f2 p2 ⟨.refl _,bG.mpr ⟨h.sa,h.sb,a6⟩⟩ ?_;rw[a2,h.eq];simp[aI]
 refine aB (B4 (by have:=cU m;omega) λy e1 _=>?_);have ey:LB[0]?=some y:=by rw[<-h.atB S];exact e1
 have a3:∀z∈LB,leK kf y z:=W9 h.sb ey (cA _);have W:∀i,i<LA.length->(arrOf st)[P.length+i]?=some (LA.getD i (Value.none,Value.none))/\LA[i]?=some (LA.getD i (Value.none,Value.none)):=λi hi=>by
  have:LA[i]?=some (LA.getD i (Value.none,Value.none)):=by rw[aq,aj hi];rfl
  exact⟨by rw[h.atA hi];exact this,this⟩
 have X:∀i,i<LB.length->(arrOf st)[P.length+LA.length+i]?=some (LB.getD i (Value.none,Value.none))/\LB[i]?=some (LB.getD i (Value.none,Value.none)):=λi hi=>by
  have:LB[i]?=some (LB.getD i (Value.none,Value.none)):=by rw[aq,aj hi];rfl
  exact⟨by rw[h.atB hi];exact this,this⟩
 have t:∀{u v:Keyed},(!(ltK kf u v))=true->leK kf v u:=λ{u v} z=>by
  unfold leK KeyOrd.kle;unfold ltK at z;simpa using z
 refine aB (K3 G k2 (h.dB _ (aH ey)) (λi=>!(ltK kf y (LA.getD i (Value.none,Value.none)))) (λi hi=>⟨_,(W i hi).1,h.dA _ (aH (W i hi).2),rfl⟩) (λi j N c hb=>?_) a0 λk q1 q2 q3=>?_)
 .have:=bS (a0v h.sa N (W i (by omega)).2 (W j c).2) (t hb);unfold KeyOrd.kle at this;unfold ltK;rw[this];rfl
 .dsimp only;have Z:∀x∈LA.take k,leK kf x y:=λx hx=>by
   obtain⟨j,c,e⟩:=bR.mp hx;rw[aN]at c;have o:=aJ c (Nat.min_le_right _ _);have:=t (q2 j (aJ c (Nat.min_le_left _ _)));have a:=(W j o).2;rw[fA]at e;rw[aj o,e]at a;injection a with a
   rw[a];exact this
  split
  .rename_i e;have e:=eq_of_beq e;refine aM (B rfl λx hx z l=>bS (Z x ?_) (a3 z l));rw[bP (by omega)];exact hx
  .rename_i e;replace e:k<LA.length:=Nat.lt_of_sub_ne_zero λz=>e (a_.mpr z);clear q1;have a4:∀x∈LA.drop k,ltK kf y x=true:=λx hx=>by
    obtain⟨j,c,e⟩:=bR.mp hx;rw[bQ]at c;rw[fB]at e;clear m S;have O:k+j<LA.length:=by omega
    have:=q3 (k+j) (b_ _ _) O;have a:=(W (k+j) O).2;rw[aj O,e]at a;injection a with a
    rw[a];simpa using this
   unfold mgB;refine aB (B4 (by have:=cU m;omega) λx f1 _=>?_);rw[show P.length+k+(LA.length-k)-1=P.length+(LA.length-1) by omega]at f1;have ex:LA[LA.length-1]?=some x:=by rw[<-h.atA (by omega)];exact f1
   have V:∀z∈LA,leK kf z x:=λz l=>by
    have:=W4 h.sa ex (cA _) z;rw[show LA.length-1+1=LA.length by omega,bg]at this;exact this l
   refine aB (K3 G k2 (h.dA _ (aH ex)) (λi=>ltK kf (LB.getD i (Value.none,Value.none)) x) (λi hi=>⟨_,(X i hi).1,h.dB _ (aH (X i hi).2),rfl⟩) (λi j N c hb=>?_) (by omega) λn r1 r2 r3=>?_)
   .exact e_ (a0v h.sb N (X i (by omega)).2 (X j c).2) hb
   .dsimp only;have L:∀z∈LB.drop n,leK kf x z:=λz l=>by
     obtain⟨j,c,e⟩:=bR.mp l;rw[bQ]at c;rw[fB]at e;have U:n+j<LB.length:=by clear m a0 S;omega
     have:=r3 (n+j) (b_ _ _) U;have a:=(X (n+j) U).2;rw[aj U,e]at a;injection a with a
     rw[a];exact this
    have a5:∀z∈LB.take n,ltK kf z x=true:=λz l=>by
     obtain⟨j,c,e⟩:=bR.mp l;rw[aN]at c;rw[fA]at e;have o:=aJ c (Nat.min_le_right _ _);have:=r2 j (aJ c (Nat.min_le_left _ _));have a:=(X j o).2;rw[aj o,e]at a;injection a with a
     rw[a];exact this
    split
    .rename_i e;have e:=eq_of_beq e;refine aM (B rfl λu p z l=>bS (V u p) (L z ?_));rw[e,cX];exact l
    .rename_i Y;replace Y:0<n:=Nat.pos_of_ne_zero λz=>Y (a_.mpr z);have J:=h.extA k;have K:=h.extB r1;generalize b1:(arrOf st).extract (P.length+k) (P.length+LA.length)=Xa at J;generalize b2:(arrOf st).extract (P.length+LA.length) (P.length+LA.length+n)=Ya at K;have sX:=heq_of_eq (show Xa.size=LA.length-k by rw[<-az,J,bQ]);have sY:=heq_of_eq (show Ya.size=n by rw[<-az,K,aN,dj r1]);have T:Two D kf Xa Ya:=by
      refine⟨λi z C=>?_,λi z C=>?_,by rw[J];exact h.sa.drop,by rw[K];exact h.sb.take,λz l u eu=>?_⟩
      .refine h.dA z (cJ (i:=k) ?_);rw[<-J];rw[<-ay]at C;exact aH C
      .refine h.dB z (bT (i:=n) ?_);rw[<-K];rw[<-ay]at C;exact aH C
      .rw[K]at l;rw[<-ay,J,eZ,cU sX,show k+(LA.length-k-1)=LA.length-1 by omega,ex]at eu;cases eu;exact a5 z l
     have F:a4T kf Xa Ya:=λz C u p=>by
      rw[K,di Y,ey]at C;cases C;rw[J]at p;exact a4 u p
     have fin:∀(r:Array Keyed) (b:SortSt),D6 kf Xa Ya r->Good d b->wpS (model prog w) A E s (mgC (P.length+k) r) Q b:=λr b hr g=>by
      unfold mgC;obtain⟨H,a8⟩:=hr;rw[J,K]at H;have a1:=heq_of_eq (show r.size=LA.length-k+n by
       have:=H.length_eq;rw[ar,bQ,aN,az,dj r1]at this;exact this)
      refine aB (wpS_modify (aB (fm (aM ?_))));show Q (failedOf b).isNone _;rw[g.2.2.2,f2];have I:∀z∈r.toList,z∈LA.drop k∨z∈LB.take n:=λz l=>aD.mp (H.mem_iff.mp l);refine q _ (LA.take k++r.toList++LB.drop n) (g.1.trans k2) rfl (g.2.2.1.trans p2) ⟨?_,?_⟩ ?_
      .refine((cv _ H).append_right _).trans ?_;rw[<-aI (LA.take k),bo,aI,bo]
      .have sAk:∀u∈LA.take k,∀v∈LA.drop k,leK kf u v:=by
        have:=h.sa;rw[<-bo k LA,bG]at this;exact this.2.2
       have b0:∀u∈LB.take n,∀v∈LB.drop n,leK kf u v:=by
        have:=h.sb;rw[<-bo n LB,bG]at this;exact this.2.2
       rw[bG,bG];refine⟨⟨h.sa.take,a8,λu p v hv=>?_⟩,h.sb.drop,λu p v hv=>?_⟩
       .rcases I v hv with z|z
        .exact sAk u p v z
        .exact bS (Z u p) (a3 v (bT z))
       .rcases aD.mp p with z|z
        .exact bS (V u (bT z)) (L v hv)
        .rcases I u z with z|z
         .exact bS (V u (cJ z)) (L v hv)
         .exact b0 u z v hv
      .show(a7x (arrOf b) r (P.length+k)).toList=_;rw[g.2.1,a2,a6r _ _ _ (by rw[cU a1,cU m];clear m;omega),h.eq,cU a1];have e1:(P++LA++LB++R).take (P.length+k)=P++LA.take k:=by
        rw[aI,aI,List.take_append,bP (by omega),show P.length+k-P.length=k by omega,eh (by omega)]
       have a:(P++LA++LB++R).drop (P.length+k+(LA.length-k+n))=LB.drop n++R:=by
        rw[aI (P++LA),List.drop_append,cC (by rw[ar];omega),cO,ar,show P.length+k+(LA.length-k+n)-(P.length+LA.length)=n by omega,dy r1]
       rw[e1,a];simp[aI]
     split
     .exact aB (a5T T G k2 (by rw[cU sX];omega) (by rw[cU sY];exact Y) (λz C u p=>bV (F z C u p)) λr b hr g=>fin r b hr g)
     .exact aB (a5U T F G k2 (by rw[cU sX];omega) (by rw[cU sY];exact Y) λr b hr g=>fin r b hr g)
end
section
variable {kf:Keyed->O.α}
def kx(kf:Keyed->O.α)(qN:Array Keyed)(i:Nat):O.α:=kf (qN.getD i (Value.none,Value.none))
def SoO(kf:Keyed->O.α)(qN:Array Keyed)(lo m:Nat):Prop:=∀i j,i<=j->j<m->O.kle (kx kf qN (lo+i)) (kx kf qN (lo+j))
def NiO(kf:Keyed->O.α)(qN:Array Keyed)(lo m:Nat):Prop:=∀i j,i<=j->j<m->O.kle (kx kf qN (lo+j)) (kx kf qN (lo+i))
def Kept(lo:Nat)(st st':SortSt):Prop:=kindOf st'=kindOf st/\pendingOf st'=pendingOf st/\failedOf st'=failedOf st/\(arrOf st').Perm (arrOf st)/\∀i,i<lo->(arrOf st')[i]?=(arrOf st)[i]?
def Kept.refl{lo:Nat}:Kept lo st st:=⟨rfl,rfl,rfl,.refl _,λ_ _=>rfl⟩
def Kept.trans{lo:Nat}{st' a:SortSt}(h:Kept lo st st')(h2:Kept lo st' a):Kept lo st a:=⟨h2.1.trans h.1,h2.2.1.trans h.2.1,h2.2.2.1.trans h.2.2.1,h2.2.2.2.1.trans h.2.2.2.1,λi hi=>(h2.2.2.2.2 i hi).trans (h.2.2.2.2 i hi)⟩
def AllD(D:Keyed->Prop)(qN:Array Keyed):Prop:=∀x∈qN.toList,D x
def AllD.perm{a b:Array Keyed}(h:AllD D a)(p:b.Perm a):AllD D b:=λx c=>h x ((dM.mp p).mem_iff.mp c)
def a0b{a b:Array Keyed}(h:a[i]?=b[j]?):kx kf a i=kx kf b j:=by
 unfold kx;rw[bO,bO,h]
def U0{Q:qD Bool->SortSt->Prop}(a:Cmp prog w A s κ D (ltK kf))(f:kindOf st=κ)(d:AllD D (arrOf st))(hi:i<(arrOf st).size)(e:j<(arrOf st).size)(h:Q (some (O.blt (kx kf (arrOf st) i) (kx kf (arrOf st) j))) st):wpS (model prog w) A E s (ltAt' i j) Q st:=by
 rw[ltAt'_eq];refine aB (fm ?_);refine aB (B4 hi λx b f1=>aB (B4 e λy c f2=>?_));rw[gdK _ hi]at b;rw[gdK _ e]at c;cases b;cases c;exact a0W a f (d _ (aH f1)) (d _ (aH f2)) h
def b1u{src:Nat}{Q:Unit->SortSt->Prop}(h:Q () (setArr st (bubble (arrOf st) src (src-a)))):wpS (model prog w) A E s (moveDown' src a) Q st:=by
 rw[moveDown'_eq];exact wpS_modify h
def a1F{src:Nat}(hs:src<qN.size)(hd:a<=src)(i:Nat):kx kf (bubble qN src (src-a)) i=if i=a then kx kf qN src else if a<i/\i<=src then kx kf qN (i-1)else kx kf qN i:=by
 have e:=getElem?_bubble hs (src-a) (by omega) i;rw[show src-(src-a)=a by omega]at e;split
 .rename_i c;rw[av c]at e;exact a0b e
 .rename_i c;rw[ao c]at e;split
  .rename_i c2;rw[av c2]at e;exact a0b e
  .rename_i c2;rw[ao c2]at e;exact a0b e
def a3d{l:Nat}(h:l<j)(h2:j<=k):j-1<k:=by omega
section
variable {l:Nat}(hs:lo+k<qN.size)(hd:l<=k)
include hs hd
theorem b4k(h:i<l):kx kf (bubble qN (lo+k) (lo+k-(lo+l))) (lo+i)=kx kf qN (lo+i):=by
 rw[a1F hs (by omega),ao (by omega),ao (by omega)]
theorem a8l:kx kf (bubble qN (lo+k) (lo+k-(lo+l))) (lo+l)=kx kf qN (lo+k):=by
 rw[a1F hs (by omega),av rfl]
theorem a5O(h:l<i)(h2:i<=k):kx kf (bubble qN (lo+k) (lo+k-(lo+l))) (lo+i)=kx kf qN (lo+(i-1)):=by
 rw[a1F hs (by omega),ao (by omega),av (by omega),Nat.add_sub_assoc (by omega)]
end
def b1v{ok:Nat}{Q:Bool->SortSt->Prop}(C:Cmp prog w A s κ D (ltK kf))(L:kindOf st=κ)(J:AllD D (arrOf st))(N:lo+n<=(arrOf st).size)(H:ok<=n)(hs:SoO kf (arrOf st) lo ok)
  (h:∀st',Kept lo st st'->SoO kf (arrOf st') lo n->Q true st'):wpS (model prog w) A E s (binarySort' lo n ok) Q st:=by
 rw[binarySort'_eq];refine aB (cE (cu (I:=λk c st'=>c=(none,())/\Kept lo st st'/\SoO kf (arrOf st') lo (min k n))
  (Q:=λc st'=>c=(none,())/\Kept lo st st'/\SoO kf (arrOf st') lo n) ?step ?fin ?init) ?post)
 case post =>
  rintro c st' ⟨rfl,f,e⟩;exact aM (h st' f e)
 case init =>
  refine⟨rfl,Kept.refl,λi j g q=>?_⟩;by_cases h1:ok=0
  .have:i=j:=by omega
   subst this;exact cA _
  .exact hs i j g (by omega)
 case fin =>
  rintro c st' ⟨K,f,e⟩;refine⟨K,f,?_⟩;rwa[show min (max (max ok 1) n) n=n by omega]at e
 case step =>
  rintro k c st' B F ⟨rfl,f,e⟩;rw[show min k n=k by omega]at e;have t:lo+k<(arrOf st').size:=by have:=f.2.2.2.1.size_eq;omega
  have z:=J.perm f.2.2.2.1;have u:min (k+1) n=k+1:=by omega
  clear N H B F;refine aB (cE (cu (I:=λx c a=>a=st'/\∃l r,c=(none,l,r)/\l<=r/\r<=k/\r-l<=k-x /\
    (∀i,i<l->O.kle (kx kf (arrOf st') (lo+i)) (kx kf (arrOf st') (lo+k)))/\(∀i,r<=i->i<k->O.kle (kx kf (arrOf st') (lo+k)) (kx kf (arrOf st') (lo+i))))
   (Q:=λc a=>a=st'/\∃l r,c=(none,l,r)/\l<=k /\
    (∀i,i<l->O.kle (kx kf (arrOf st') (lo+i)) (kx kf (arrOf st') (lo+k)))/\(∀i,l<=i->i<k->O.kle (kx kf (arrOf st') (lo+k)) (kx kf (arrOf st') (lo+i)))) ?istep ?ifin ?iinit) ?ipost)
  case iinit=>exact⟨rfl,0,k,rfl,by omega,by omega,by omega,λi hi=>by omega,λi h1 h2=>by omega⟩
  case ifin =>
   rintro c a ⟨rfl,l,r,rfl,G,v,M,o,m⟩;have:l=r:=by omega
   subst this;exact⟨rfl,l,l,rfl,v,o,m⟩
  case istep =>
   rintro x c a _ P ⟨rfl,l,r,rfl,G,v,M,o,m⟩;dsimp only;by_cases y:l ≥ r
   .rw[av y];have:l=r:=by omega
    subst this;exact aM ⟨rfl,l,l,rfl,v,o,m⟩
   .rw[ao y];refine aB (U0 C (f.1.trans L) z (by omega) (by omega) ?_);dsimp only;cases p:O.blt (kx kf (arrOf a) (lo+k)) (kx kf (arrOf a) (lo+(l+r) / 2))with
    |true =>
     rw[av rfl];refine aM ⟨rfl,l,(l+r) / 2,rfl,by omega,by omega,by omega,o,λi h1 h2=>?_⟩;exact bS (bV p) (e _ _ h1 h2)
    |false =>
     rw[ao (by simp)];refine aM ⟨rfl,(l+r) / 2+1,r,rfl,by omega,by omega,by omega,λi h1=>?_,m⟩;exact bS (e i ((l+r) / 2) (by omega) (by omega)) p
  case ipost =>
   rintro c a ⟨rfl,l,r,rfl,b,o,m⟩;refine aB (b1u (aM ⟨rfl,f.trans ⟨rfl,rfl,rfl,bubble_perm _ _ _,λi hi=>?_⟩,?_⟩))
   .show(bubble (arrOf a) (lo+k) (lo+k-(lo+l)))[i]?=_;rw[getElem?_bubble t _ (by omega),ao (by omega),ao (by omega)]
   rw[u];clear u;intro i j g q;replace q:j<=k:=ek q;show O.kle (kx kf (bubble (arrOf a) (lo+k) (lo+k-(lo+l))) (lo+i)) (kx kf (bubble (arrOf a) (lo+k) (lo+k-(lo+l))) (lo+j));rcases du i l with c|rfl|c
   .rw[b4k t b c];rcases du j l with d|rfl|d
    .rw[b4k t b d];exact e i j g (aJ d b)
    .rw[a8l t b];exact o i c
    .rw[a5O t b d q];exact e i (j-1) (Nat.le_sub_one_of_lt (fU c d)) (a3d d q)
   .rw[a8l t b];rcases Nat.lt_or_eq_of_le g with d|rfl
    .rw[a5O t b d q];exact m (j-1) (Nat.le_sub_one_of_lt d) (a3d d q)
    .rw[a8l t b];exact cA _
   .have d:=aJ c g;rw[a5O t b c (bh g q),a5O t b d q];exact e (i-1) (j-1) (Nat.sub_le_sub_right g 1) (a3d d q)
end
def b4o(lo a nrem:Nat):StateT SortSt Sem AscSt:=forIn [a:nrem] ((none,a):AscSt) λ_ c=>ltAt' (lo+c.2) (lo+c.2-1)>>=λr=>match r with
 |some sm=>(if sm=true then pure (.done (none,c.2))else pure (.yield (none,c.2+1)))
 |_=>pure (.done (some none,c.2))
def a0N(lo n nrem:Nat):StateT SortSt Sem (qJ):=reverseSlice' lo (lo+n)>>=λ_=>b4o lo n nrem>>=λc=>match c.1 with
 |some r=>pure r
 |none=>pure (some c.2)
def a9x(lo n nrem:Nat):StateT SortSt Sem DescSt:=forIn [n:nrem] ((none,n,0):DescSt) λ_ c=>ltAt' (lo+c.2.1) (lo+c.2.1-1)>>=λr=>match r with
 |some sm=>(if sm=true then(if c.2.2 > 0 then reverseSlice' (lo+c.2.1-(c.2.2+1)) (lo+c.2.1)>>=λ_=>pure (.yield (none,c.2.1+1,0))else pure (.yield (none,c.2.1+1,0)))
  else ltAt' (lo+c.2.1-1) (lo+c.2.1)>>=λr=>match r with
   |some lg=>(if lg=true then pure (.done (none,c.2.1,c.2.2))else pure (.yield (none,c.2.1+1,c.2.2+1)))
   |_=>pure (.done (some none,c.2.1,c.2.2)))
 |_=>pure (.done (some none,c.2.1,c.2.2))
def dpO(lo n nrem:Nat):StateT SortSt Sem (qJ):=liftM (rule "list.sort.descending-run")>>=λ_=>a9x lo (n+1) nrem>>=λc=>match c.1 with
 |some r=>pure r
 |none=>(if c.2.2 > 0 then reverseSlice' (lo+c.2.1-(c.2.2+1)) (lo+c.2.1)>>=λ_=>a0N lo c.2.1 nrem else a0N lo c.2.1 nrem)
def b0T(lo a:Nat):countRun' lo a=(b4o lo 1 a>>=λc=>match c.1 with
 |some r=>pure r
 |none=>(if (c.2==a)=true then pure (some c.2)else if c.2 > 1 then ltAt' lo (lo+c.2-1)>>=λr=>match r with
   |some rose=>(if rose=true then pure (some c.2)else reverseSlice' lo (lo+c.2)>>=λ_=>dpO lo c.2 a)
   |_=>pure none
  else dpO lo c.2 a)):=by
 have e:∀(n:Nat),(reverseSlice' lo (lo+n)>>=λ_=>b4o lo n a>>=λc=>match c.1 with|some r=>pure r|none=>pure (some c.2))=a0N lo n a:=λn=>rfl;rw[countRun'_eq];dsimp only;refine congr (aP _ ?_) (funext λc=>?_)
 .rfl
 rcases c with⟨_|q,n⟩
 .dsimp only;have d:∀n:Nat,(liftM (rule "list.sort.descending-run")>>=λ_=>a9x lo (n+1) a>>=λc=>match c.1 with
    |some r=>pure r
    |none=>(if c.2.2 > 0 then reverseSlice' (lo+c.2.1-(c.2.2+1)) (lo+c.2.1)>>=λ_=>a0N lo c.2.1 a else a0N lo c.2.1 a))=dpO lo n a:=λn=>rfl
  have b:∀{β:Type}{m:StateT SortSt Sem β}{f g:β->StateT SortSt Sem (qJ)},(∀c,f c=g c)->(m>>=f)=(m>>=g):=λh=>aP _ (funext h);refine dP rfl (λ_=>rfl) λ_=>dP rfl (λ_=>?_) λ_=>?_
  .refine b λr=>?_;rcases r with _|r
   .rfl
   .dsimp only;refine dP rfl (λ_=>rfl) λ_=>?_;refine b λ_=>?_;rw[<-d];refine b λ_=>?_;refine congr (aP _ ?_) (funext λc=>?_)
    .rfl
    .rcases c with⟨_|q,n,z⟩
     .dsimp only;refine dP rfl (λ_=>?_) λ_=>?_
      .refine b λ_=>?_;refine b λ_=>?_;refine congr (aP _ ?_) (funext λc=>?_)
       .rfl
       .rcases c with⟨_|q,n⟩<;>rfl
      .refine b λ_=>?_;refine congr (aP _ ?_) (funext λc=>?_)
       .rfl
       .rcases c with⟨_|q,n⟩<;>rfl
     .rfl
  .rw[<-d];refine b λ_=>?_;refine congr (aP _ ?_) (funext λc=>?_)
   .rfl
   .rcases c with⟨_|q,n,z⟩
    .dsimp only;refine dP rfl (λ_=>?_) λ_=>?_
     .refine b λ_=>?_;refine b λ_=>?_;refine congr (aP _ ?_) (funext λc=>?_)
      .rfl
      .rcases c with⟨_|q,n⟩<;>rfl
     .refine b λ_=>?_;refine congr (aP _ ?_) (funext λc=>?_)
      .rfl
      .rcases c with⟨_|q,n⟩<;>rfl
    .rfl
 .rfl
section
variable {kf:Keyed->O.α}
def a1E(a:j<=qN.size)(k:Nat):kx kf (mirror qN i j ((j-i) / 2)) k=if i<=k/\k<j then kx kf qN (i+j-1-k)else kx kf qN k:=by
 have e:=getElem?_mirror_all (i:=i) a k;split
 .rename_i c;rw[av c]at e;exact a0b e
 .rename_i c;rw[ao c]at e;exact a0b e
def N5(b:j<=qN.size)(a:∀k,i<=k->k<j->kx kf qN k=kx kf qN (j-1))(k:Nat):kx kf (mirror qN i j ((j-i) / 2)) k=kx kf qN k:=by
 rw[a1E b];split
 .rw[a _ (by omega) (by omega),a k (by omega) (by omega)]
 .rfl
def Kept.rev(hi:lo<=i)(a:j<=(arrOf st).size):Kept lo st (setArr st (mirror (arrOf st) i j ((j-i) / 2))):=⟨rfl,rfl,rfl,mirror_perm _ _ _ _,λk b=>by
 show(mirror (arrOf st) i j ((j-i) / 2))[k]?=_;rw[getElem?_mirror_all a,ao (by omega)]⟩
def a5X{b:Nat}{Q:AscSt->SortSt->Prop}(k:Cmp prog w A s κ D (ltK kf))(u:kindOf st=κ)(t:AllD D (arrOf st))(r:lo+b<=(arrOf st).size)(q:1<=a)(f:a<=b)(hs:SoO kf (arrOf st) lo a)
  (h:∀n,a<=n->n<=b->SoO kf (arrOf st) lo n->(n=b∨O.klt (kx kf (arrOf st) (lo+n)) (kx kf (arrOf st) (lo+(n-1))))->Q (none,n) st):wpS (model prog w) A E s (b4o lo a b) Q st:=by
 unfold b4o;refine cu (I:=λx c st'=>st'=st/\c=(none,x)/\SoO kf (arrOf st) lo x) ?step ?fin ⟨rfl,rfl,hs⟩
 case fin =>
  rintro c st' ⟨rfl,rfl,d⟩;rw[Nat.max_eq_right f]at d⊢;exact h b f (ak _) d (.inl rfl)
 case step =>
  rintro x c st' g p ⟨rfl,rfl,d⟩;dsimp only;replace q:1<=x:=bh q g;rw[show lo+x-1=lo+(x-1) by clear r f g p;omega];refine aB (U0 k u t (by omega) (by omega) ?_);clear r f;dsimp only;cases e:O.blt (kx kf (arrOf st') (lo+x)) (kx kf (arrOf st') (lo+(x-1)))with
  |true =>
   rw[av rfl];exact aM (h x g (by omega) d (.inr e))
  |false =>
   rw[ao (by simp)];refine aM ⟨rfl,rfl,λi j m v=>?_⟩;by_cases o:j<x
   .exact d i j m o
   .have hj':j=x:=by omega
    subst hj';by_cases l:i=j
    .subst l;exact cA _
    .exact bS (d i (j-1) (by omega) (by omega)) e
def a2L(d:Cmp prog w A s κ D (ltK kf))(l:kindOf st=κ)(g:AllD D (arrOf st))(f:lo+a<=(arrOf st).size)(h1:1<=n)(b:n<=a)(hs:NiO kf (arrOf st) lo n)
  (h:∀m st',Kept lo st st'->1<=m->m<=a->SoO kf (arrOf st') lo m->Q (some m) st'):wpS (model prog w) A E s (a0N lo n a) Q st:=by
 unfold a0N;refine aB (wpS_reverse ?_);have c:Kept lo st (setArr st (mirror (arrOf st) lo (lo+n) ((lo+n-lo) / 2))):=Kept.rev (ak _) (by omega);refine aB (a5X d (c.1.trans l) (g.perm c.2.2.2.1) (by rw[c.2.2.2.1.size_eq];exact f) h1 b (λi j k q=>?_) λm q1 o p _=>aM (h m _ c (by omega) o p));show O.kle (kx kf (mirror (arrOf st) lo (lo+n) ((lo+n-lo) / 2)) (lo+i)) (kx kf (mirror (arrOf st) lo (lo+n) ((lo+n-lo) / 2)) (lo+j));have e:lo+n<=(arrOf st).size:=by omega
 rw[a1E e,a1E e];clear f h1 b e;rw[av (by omega),av (by omega),show lo+(lo+n)-1-(lo+i)=lo+(n-1-i) by omega,show lo+(lo+n)-1-(lo+j)=lo+(n-1-j) by omega];exact hs _ _ (by omega) (by omega)
def a9L{d:Nat}{Q:DescSt->SortSt->Prop}(H:Cmp prog w A s κ D (ltK kf))(J:kindOf st=κ)(M:AllD D (arrOf st))(L:lo+d<=(arrOf st).size)(h1:1<=n)(u:n<=d)(hs:NiO kf (arrOf st) lo n)
  (h:∀m a st',Kept lo st st'->n<=m->m<=d->NiO kf (arrOf st') lo m->a+1<=m->(∀i,lo+m-(a+1)<=i->i<lo+m->kx kf (arrOf st') i=kx kf (arrOf st') (lo+m-1))->Q (none,m,a) st'):wpS (model prog w) A E s (a9x lo n d) Q st:=by
 unfold a9x;refine cu (I:=λx c st'=>∃a,c=(none,x,a)/\Kept lo st st'/\NiO kf (arrOf st') lo x/\a+1<=x /\
   (∀i,lo+x-(a+1)<=i->i<lo+x->kx kf (arrOf st') i=kx kf (arrOf st') (lo+x-1))) ?step ?fin ⟨0,rfl,Kept.refl,hs,by omega,λi h1 h2=>by congr 1;omega⟩
 case fin =>
  rintro c st' ⟨a,rfl,b,g,F,y⟩;rw[Nat.max_eq_right u]at g F y⊢;exact h d a st' b u (ak _) g F y
 case step =>
  rintro x c st' o e ⟨a,rfl,b,g,F,y⟩;dsimp only;have t:lo+x<(arrOf st').size:=by rw[b.2.2.2.1.size_eq];exact aJ (Nat.add_lt_add_left e lo) L
  have G:=M.perm b.2.2.2.1;replace e:x<=d:=cK e;have ex:HEq (lo+x-1) (lo+(x-1)):=heq_of_eq (by clear L h1 u o e t;omega);have l:lo+x-1<(arrOf st').size:=fe (Nat.sub_le _ _) t;clear L h1 u;refine aB (U0 H (b.1.trans J) G t l ?_);dsimp only;rw[cU ex]at y l⊢;cases q:O.blt (kx kf (arrOf st') (lo+x)) (kx kf (arrOf st') (lo+(x-1)))with
  |true =>
   rw[av rfl];have r:∀xs:Array Keyed,(∀k,kx kf xs k=kx kf (arrOf st') k)->NiO kf xs lo (x+1):=by
    intro xs J i j B N;rw[J,J];by_cases C:j<x
    .exact g i j B C
    .have hj':j=x:=by omega
     subst hj';by_cases z:i=j
     .subst z;exact cA _
     .exact bS (bV q) (g i (j-1) (by omega) (by omega))
   by_cases f:a > 0
   .rw[av f];refine aB (wpS_reverse (aM ⟨0,rfl,b.trans (Kept.rev (by clear t l ex o e f;omega) (cK t)),r _ (N5 (cK t) (λk q1 P=>by rw[cU ex];exact y k q1 P)),ff _,λi h1 h2=>by clear t l ex o e f F;congr 1;omega⟩))
   .rw[ao f];exact aM ⟨0,rfl,b,r _ (λ_=>rfl),ff _,λi h1 h2=>by clear t l ex o e f F;congr 1;omega⟩
  |false =>
   rw[ao (by simp)];refine aB (U0 H (b.1.trans J) G l t ?_);dsimp only;clear t l;cases p:O.blt (kx kf (arrOf st') (lo+(x-1))) (kx kf (arrOf st') (lo+x))with
   |true =>
    rw[av rfl];exact aM (h x a st' b o e g F (by rw[cU ex];exact y))
   |false =>
    rw[ao (by simp)];have v:kx kf (arrOf st') (lo+x)=kx kf (arrOf st') (lo+(x-1)):=KeyOrd.kle_antisymm p q;clear o e;refine aM ⟨a+1,rfl,b,λi j B N=>?_,by omega,λi h1 h2=>?_⟩
    .by_cases C:j<x
     .exact g i j B C
     .have hj':j=x:=by omega
      subst hj';by_cases z:i=j
      .subst z;exact cA _
      .rw[v];exact g i (j-1) (by omega) (by omega)
    .rw[show lo+(x+1)-1=lo+x by omega];by_cases K:i=lo+x
     .subst K;rfl
     .rw[v];exact y i (by omega) (by omega)
def a8y(e:Cmp prog w A s κ D (ltK kf))(t:kindOf st=κ)(y:AllD D (arrOf st))(q:lo+a<=(arrOf st).size)(u:n+1<=a)(hs:NiO kf (arrOf st) lo (n+1))
  (h:∀m st',Kept lo st st'->1<=m->m<=a->SoO kf (arrOf st') lo m->Q (some m) st'):wpS (model prog w) A E s (dpO lo n a) Q st:=by
 unfold dpO;refine aB (T9 ?_);refine aB (a9L e t y q (by omega) u hs λm k st' b C f p F z=>?_);dsimp only;have v:=heq_of_eq (b.2.2.2.1.size_eq:(arrOf st').size=(arrOf st).size);have g:lo+m<=(arrOf st').size:=by rw[cU v];exact bh (Nat.add_le_add_left f lo) q
 have o:=y.perm b.2.2.2.1;by_cases d:k > 0
 .rw[av d];have c:Kept lo st' (setArr st' (mirror (arrOf st') (lo+m-(k+1)) (lo+m) ((lo+m-(lo+m-(k+1))) / 2))):=Kept.rev (by omega) g;refine aB (wpS_reverse (a2L e (c.1.trans (b.1.trans t)) (o.perm c.2.2.2.1) (by rw[c.2.2.2.1.size_eq,cU v];exact q) (by omega) f (λi j r B=>?_) λx l k2=>h x l (b.trans (c.trans k2))));show O.kle (kx kf (mirror (arrOf st') _ _ _) _) (kx kf (mirror (arrOf st') _ _ _) _);rw[N5 g z,N5 g z];exact p i j r B
 .rw[ao d];exact a2L e (b.1.trans t) o (by rw[cU v];exact q) (by omega) f p λx l k2=>h x l (b.trans k2)
def a7i{b:Nat}(f:Cmp prog w A s κ D (ltK kf))(v:kindOf st=κ)(F:AllD D (arrOf st))(q:lo+b<=(arrOf st).size)(h1:1<=b)
  (h:∀m st',Kept lo st st'->1<=m->m<=b->SoO kf (arrOf st') lo m->Q (some m) st'):wpS (model prog w) A E s (countRun' lo b) Q st:=by
 rw[b0T];refine aB (a5X f v F q (ak 1) h1 (λi j x J=>by have:i=j:=(by omega);subst this;exact cA _) λn g c l C=>?_);dsimp only;by_cases a:n=b
 .rw[av (by simpa using a)];exact aM (h n st Kept.refl g c l)
 .rw[ao (by simpa using a)];have y:O.klt (kx kf (arrOf st) (lo+n)) (kx kf (arrOf st) (lo+(n-1))):=C.resolve_left a;replace a:n+1<=b:=by omega
  clear C c h1;replace c:=Nat.le_of_succ_le a;have u:lo+n<(arrOf st).size:=aJ (Nat.add_lt_add_left a lo) q;by_cases o:n > 1
  .rw[av o];refine aB (U0 f v F (by omega) (by omega) ?_);dsimp only;have ex:lo+n-1=lo+(n-1):=by clear q a c u;omega
   rw[ex];cases t:O.blt (kx kf (arrOf st) lo) (kx kf (arrOf st) (lo+(n-1)))with
   |true =>
    rw[av rfl];exact aM (h n st Kept.refl g c l)
   |false =>
    rw[ao (by simp)];have r:=q;clear q;have d:∀k,k<n->kx kf (arrOf st) (lo+k)=kx kf (arrOf st) (lo+(n-1)):=by
     intro k v;clear u a c ex;have a1:=l 0 k (bw _) v;have K:=l k (n-1) (by omega) (by omega);exact KeyOrd.kle_antisymm K (bS t a1)
    have z:∀k,kx kf (mirror (arrOf st) lo (lo+n) ((lo+n-lo) / 2)) k=kx kf (arrOf st) k:=N5 (cK u) λk q1 M=>by
     rw[ex];clear u a c ex r;have:=d (k-lo) (by omega);rwa[show lo+(k-lo)=k by omega]at this
    have e:Kept lo st (setArr st (mirror (arrOf st) lo (lo+n) ((lo+n-lo) / 2))):=Kept.rev (ak _) (cK u);refine aB (wpS_reverse (a8y f (e.1.trans v) (F.perm e.2.2.2.1) (by rw[e.2.2.2.1.size_eq];exact r) a (λi j x J=>?_) λL I k2=>h L I (e.trans k2)));show O.kle (kx kf (mirror (arrOf st) _ _ _) _) (kx kf (mirror (arrOf st) _ _ _) _);rw[z,z];clear u a c ex r g;by_cases H:j<n
    .rw[d i (by omega),d j H];exact cA _
    .have hj':j=n:=by omega
     subst hj';by_cases p:i=j
     .subst p;exact cA _
     .rw[d i (by omega)];exact bV y
  .rw[ao o];have B:n=1:=by omega
   subst B;refine a8y f v F q a (λi j x J=>?_) h;clear u a c q g o;by_cases p:i=j
   .subst p;exact cA _
   .have hi0:i=0:=by omega
    have G:j=1:=by omega
    subst hi0;subst G;exact bV y
end
def a2k:Nat->qA (qA Keyed)->qA (Nat×Nat)
 |_,[]=>[]
 |o,r::rs=>(o,r.length)::a2k (o+r.length) rs
def S6:∀(o:Nat) (X Y:qA (qA Keyed)),a2k o (X++Y)=a2k o X++a2k (o+X.flatten.length) Y
 |o,[],Y=>by simp[a2k]
 |o,r::X,Y=>by
  simp only[dS,a2k,S6 (o+r.length) X Y,cY,ar,dX]
def a3h:∀(o:Nat) (X:qA (qA Keyed)),(a2k o X).length=X.length
 |_,[]=>rfl
 |o,r::X=>by simp only[a2k,aZ,a3h (o+r.length) X]
abbrev ent(e:Nat×Nat×Nat):Nat×Nat:=(e.1,e.2.1)
section
variable {kf:Keyed->O.α}
structure RI(kf:Keyed->O.α)(κ:SortKind)(a0:Array Keyed)(st:SortSt)(runs:qA (qA Keyed))(rest:qA Keyed):Prop where
 kind:kindOf st=κ
 failed:failedOf st=none
 perm:(arrOf st).Perm a0
 eq:(arrOf st).toList=runs.flatten++rest
 sorted:∀r∈runs,r.Pairwise (leK kf)
 ne:∀r∈runs,0<r.length
 pend:(pendingOf st).toList.map ent=a2k 0 runs
def RI.size(h:RI kf κ a0 st runs rest):(pendingOf st).size=runs.length:=by
 rw[<-az,<-ai (f:=ent),h.pend,a3h]
def a1V{X Y:qA (qA Keyed)}{ra b:qA Keyed}{Q:Bool->SortSt->Prop}(j:Cmp prog w A s κ D (ltK kf))(I:AllD D a0)(h:RI kf κ a0 st (X++ra::b::Y) rest)
  (q:∀(st':SortSt) (M:qA Keyed),RI kf κ a0 st' (X++M::Y) rest->M.length=ra.length+b.length->Q true st'):wpS (model prog w) A E s (mergeAt' X.length) Q st:=by
 have p:=h.pend;rw[S6,a2k,a2k]at p;obtain⟨c,R,i,n,v⟩:=List.map_eq_append_iff.mp p;obtain⟨x,S,B,e,C⟩:=List.map_eq_cons_iff.mp v;obtain⟨y,K,F,g,o⟩:=List.map_eq_cons_iff.mp C;subst B F;obtain⟨L,N,u⟩:=x;obtain⟨O,P,m⟩:=y;rw[dE]at e g o;have e:(L,N)=(X.flatten.length,ra.length):=e;have g:(O,P)=(X.flatten.length+ra.length,b.length):=g;cases e;cases g;have J:c.length=X.length:=by rw[<-ai (f:=ent),n,a3h]
 have G:(pendingOf st)[X.length]?=some (X.flatten.length,ra.length,u):=by
  rw[<-ay,i,a' (by omega),show X.length-c.length=0 by omega];rfl
 have H:(pendingOf st)[X.length+1]?=some (X.flatten.length+ra.length,b.length,m):=by
  rw[<-ay,i,a' (by omega),show X.length+1-c.length=1 by omega];rfl
 have a:Runs2 kf D (arrOf st) X.flatten ra b (Y.flatten++rest):=by
  refine⟨?_,λz t=>(I.perm h.perm) z t,h.sorted _ (by simp),h.sorted _ (by simp),h.ne _ (by simp),h.ne _ (by simp)⟩;rw[h.eq];simp[aI]
 refine a5V j h.kind a G H h.failed λst' M k1 k2 k3 l k5=>?_;have d:M.length=ra.length+b.length:=by rw[l.1.length_eq,ar]
 refine q st' M ⟨k1,k2,?_,?_,λr k=>?_,λr k=>?_,?_⟩ d
 .refine dM.mpr ?_;refine List.Perm.trans ?_ (dM.mp h.perm);rw[k5,a.eq];refine List.Perm.append_right _ ?_;rw[aI X.flatten];exact cv _ l.1
 .rw[k5];simp[aI]
 .rcases aD.mp k with z|z
  .exact h.sorted r (aQ _ z)
  .rcases aA.mp z with rfl|z
   .exact l.2
   .exact h.sorted r (aR _ (au _ (au _ z)))
 .rcases aD.mp k with z|z
  .exact h.ne r (aQ _ z)
  .rcases aA.mp z with rfl|z
   .have:=h.ne ra (by simp);omega
   .exact h.ne r (aR _ (au _ (au _ z)))
 .rw[k3,Array.eraseIdxIfInBounds];have t:(pendingOf st).size=X.length+(Y.length+2):=by rw[h.size];simp
  rw[dif_pos (by rw[fc];omega),Array.toList_eraseIdx,Array.toList_setIfInBounds,i];rw[List.set_append_right _ _ (by omega),show X.length-c.length=0 by omega,List.set_cons_zero];rw[List.eraseIdx_append_of_length_le (by omega),show X.length+1-c.length=1 by omega];show(c++(X.flatten.length,ra.length+b.length,u)::K).map ent=_;rw[bF,aV,n,o,S6,a2k,dE,d];show _++(X.flatten.length,ra.length+b.length)::_=_;rw[dX]
end
def a2C(lo n:Nat):StateT SortSt Sem (ForInStep (qD Unit×Nat)) :=
 (modify λs=>setPending s ((pendingOf s).push (lo,n,0)))>>=λ_=>pure (.yield (none,lo+n))
def a0c(sz pw:Nat):StateT SortSt Sem (qD Unit×Unit) :=
 forIn [:sz] ((none,()):qD Unit×Unit) λ_ _=>get>>=λg=>match (if (pendingOf g).size > 1 then(pendingOf g)[(pendingOf g).size-2]? else none)with
  |some (_,_,older)=>(if older<=pw then pure (.done (none,()))else mergeAt' ((pendingOf g).size-2)>>=λb=>if (!b)=true then pure (.done (some (),()))else pure (.yield (none,())))
  |_=>pure (.done (none,()))
def a0V(sz lo n:Nat):StateT SortSt Sem (ForInStep (qD Unit×Nat)):=get>>=λg=>match (pendingOf g).back? with
 |some (s1,n1,_)=>a0c sz (power' sz (2*s1+n1) (2*s1+n1+n1+n) sz)>>=λc=>match c.1 with
  |some r=>pure (.done (some r,lo))
  |none=>(modify λs=>setPending s ((pendingOf s).modify ((pendingOf s).size-1) λx=>(x.1,x.2.1,power' sz (2*s1+n1) (2*s1+n1+n1+n) sz)))>>=λ_=>a2C lo n
 |_=>a2C lo n
def a9l(sz:Nat):StateT SortSt Sem (qD Unit×Unit) :=
 forIn [:sz] ((none,()):qD Unit×Unit) λ_ _=>get>>=λg=>if (pendingOf g).size<=1 then pure (.done (none,()))
  else mergeAt' (if Option.any (λx=>decide (x<(pendingOf g)[(pendingOf g).size-2+1]?.elim 0 λx=>x.2.1)) (if (pendingOf g).size-2 > 0 then Option.map (λx=>x.2.1) (pendingOf g)[(pendingOf g).size-2-1]? else none)=true then(pendingOf g).size-2-1 else(pendingOf g).size-2)>>=λb=>if (!b)=true then pure (.done (some (),()))else pure (.yield (none,()))
section
variable {kf:Keyed->O.α}
def two_last{l:qA α}(h:2<=l.length):∃X a b,l=X++[a,b]/\X.length=l.length-2:=by
 refine⟨l.take (l.length-2),l[l.length-2],l[l.length-1],?_,by rw[aN];omega⟩;have c:l.drop (l.length-2)=[l[l.length-2],l[l.length-1]]:=by
  rw[cP (by omega),cP (by omega),cC (by omega)];congr 2;congr 1;omega
 rw[<-c,bo]
def a4U{sz:Nat}{Q:qD Unit×Unit->SortSt->Prop}(g:Cmp prog w A s κ D (ltK kf))(i:AllD D a0)(h:RI kf κ a0 st runs rest)
  (q:∀st' a,RI kf κ a0 st' a rest->a.flatten.length=runs.flatten.length->a.length<=runs.length->Q (none,()) st'):wpS (model prog w) A E s (a0c sz j) Q st:=by
 unfold a0c;refine cu (I:=λ_ c st'=>c=(none,())/\∃a,RI kf κ a0 st' a rest/\a.flatten.length=runs.flatten.length/\a.length<=runs.length) ?step (λc st' ⟨e,d,h1,h2,b⟩=>by rw[e];exact q st' d h1 h2 b) ⟨rfl,runs,h,rfl,ak _⟩;rintro x c st' _ _ ⟨rfl,d,h1,h2,b⟩;refine aB (fm ?_);split
 .rename_i older heq;split
  .exact aM (q st' d h1 h2 b)
  .have hz:(pendingOf st').size > 1:=by
    refine Nat.lt_of_not_le λz=>?_;rw[ao (by omega)]at heq;cases heq
   have hs:=h1.size;obtain⟨X,ra,n,f,m⟩:=two_last (l:=d) (by omega);rw[f]at h1;rw[show(pendingOf st').size-2=X.length by omega];refine aB (a1V g i h1 λk M k1 k2=>?_);rw[ao (by simp)];refine aM ⟨rfl,_,k1,?_,?_⟩
   .rw[<-h2,f];simp[k2]
   .rw[f]at b;simp at b⊢;omega
 .exact aM (q st' d h1 h2 b)
def a1U{Q:ForInStep (qD Unit×Nat)->SortSt->Prop}{r:qA Keyed}(h:RI kf κ a0 st runs (r++rest))(e:r.Pairwise (leK kf))(d:0<n)(c:r.length=n)(a:lo=runs.flatten.length)
  (q:∀st',RI kf κ a0 st' (runs++[r]) rest->Q (.yield (none,lo+n)) st'):wpS (model prog w) A E s (a2C lo n) Q st:=by
 unfold a2C;refine aB (wpS_modify (aM (q _ ⟨h.kind,h.failed,h.perm,?_,λz b=>?_,λz b=>?_,?_⟩)))
 .show(arrOf st).toList=_;rw[h.eq];simp
 .rcases aD.mp b with y|y
  .exact h.sorted z y
  .rw[aG.mp y];exact e
 .rcases aD.mp b with y|y
  .exact h.ne z y
  .rw[aG.mp y,c];exact d
 .show((pendingOf st).push (lo,n,0)).toList.map ent=_;rw[cZ,bF,h.pend,S6,dE,a,<-c];rfl
def map_modify{p:Array (Nat×Nat×Nat)}:(p.modify i λx=>(x.1,x.2.1,a)).toList.map ent=p.toList.map ent:=by
 rw[Array.toList_modify];refine el λj=>?_;rw[aX,aX,List.getElem?_modify];cases p.toList[j]? with
 |none=>rfl
 |some x =>
  by_cases e:i=j
  .simp[e]
  .simp[e]
def a7k{sz:Nat}{Q:ForInStep (qD Unit×Nat)->SortSt->Prop}{r:qA Keyed}(e:Cmp prog w A s κ D (ltK kf))(j:AllD D a0)(h:RI kf κ a0 st runs (r++rest))(i:r.Pairwise (leK kf))(g:0<n)(d:r.length=n)(b:lo=runs.flatten.length)
  (q:∀st' a,RI kf κ a0 st' a rest->a.flatten.length=lo+n->a.length<=runs.length+1->Q (.yield (none,lo+n)) st'):wpS (model prog w) A E s (a0V sz lo n) Q st:=by
 unfold a0V;refine aB (fm ?_);split
 .refine aB (a4U e j h λst' a k1 k2 k3=>?_);dsimp only;refine aB (wpS_modify ?_);refine a1U (runs:=a) (rest:=rest) ⟨k1.kind,k1.failed,k1.perm,k1.eq,k1.sorted,k1.ne,map_modify.trans k1.pend⟩ i g d (by rw[k2];exact b) λc f=>q c _ f ?_ ?_
  .simp[k2,d,b]
  .simp;omega
 .refine a1U h i g d b λc f=>q c _ f ?_ ?_
  .simp[d,b]
  .simp
end
section
variable {kf:Keyed->O.α}
def b4n{l:qA α}(h:i+1<l.length):∃X a b Y,l=X++a::b::Y/\X.length=i:=by
 refine⟨l.take i,l[i],l[i+1],l.drop (i+1+1),?_,by rw[aN];omega⟩;rw[<-cP (by omega),<-cP (by omega),bo]
def a5W{sz:Nat}{Q:qD Unit×Unit->SortSt->Prop}(j:Cmp prog w A s κ D (ltK kf))(n:AllD D a0)(h:RI kf κ a0 st runs rest)(t:runs.length<=sz)
  (q:∀st' a,RI kf κ a0 st' a rest->a.length<=1->Q (none,()) st'):wpS (model prog w) A E s (a9l sz) Q st:=by
 unfold a9l;refine cu (I:=λx c st'=>c=(none,())/\∃a,RI kf κ a0 st' a rest/\a.length+x<=sz+1) ?step (λc st' ⟨e,g,h1,h2⟩=>by rw[e];exact q st' g h1 (by omega)) ⟨rfl,runs,h,by omega⟩;rintro x c st' _ _ ⟨rfl,g,h1,h2⟩;refine aB (fm ?_);have hs:=h1.size;split
 .exact aM (q st' g h1 (by omega))
 .rename_i hz;have m:∀i,i+1<g.length->wpS (model prog w) A E s ((mergeAt' i>>=λb=>if (!b)=true then pure (ForInStep.done (some (),()))else pure (ForInStep.yield (none,()))):StateT SortSt Sem (ForInStep (qD Unit×Unit))) (λr d=>match r with|ForInStep.done c'=>Q c' d|ForInStep.yield c'=>c'=(none,())/\∃a,RI kf κ a0 d a rest/\a.length+(x+1)<=sz+1) st':=λi hi=>by
   obtain⟨X,ra,u,Y,k,l⟩:=b4n hi;rw[k]at h1 h2;rw[<-l];refine aB (a1V j n h1 λp M k1 k2=>?_);rw[ao (by simp)];refine aM ⟨rfl,_,k1,?_⟩;simp at h2⊢;omega
  refine cE (m _ ?_) (λr d o=>by cases r<;>exact o);by_cases f:(pendingOf st').size-2 > 0
  .rw[av f];split<;>omega
  .rw[ao f,ao (by simp)];omega
def RI.kept(h:RI kf κ a0 st runs rest)(k:Kept runs.flatten.length st st'):RI kf κ a0 st' runs ((arrOf st').toList.drop runs.flatten.length):=by
 refine⟨k.1.trans h.kind,k.2.2.1.trans h.failed,k.2.2.2.1.trans h.perm,?_,h.sorted,h.ne,by rw[k.2.1];exact h.pend⟩;have e:(arrOf st').toList.take runs.flatten.length=runs.flatten:=by
  have a:(arrOf st).toList.take runs.flatten.length=runs.flatten:=by rw[h.eq,List.take_left'];rfl
  rw[<-a];refine el λi=>?_;rw[aN];by_cases hi:i<runs.flatten.length
  .have hle:runs.flatten.length<=(arrOf st).toList.length:=by rw[h.eq,ar];omega
   rw[di (by omega),di hi,ay,ay];exact k.2.2.2.2 i hi
  .rw[cg (by rw[aN];omega),cg (by rw[aN];omega)]
 rw[<-bo runs.flatten.length (arrOf st').toList,e];congr 1;rw[dy (ak _),List.drop_length,cO]
def b4C(h:SoO kf qN lo n)(c:lo+n<=qN.size):((qN.toList.drop lo).take n).Pairwise (leK kf):=by
 rw[eW];intro i j hi b a;rw[aN,bQ,az]at hi b;have q:=h i j (cK a) (by omega);unfold leK;have g:∀k,k<n->kx kf qN (lo+k)=kf (qN[lo+k]?.getD (Value.none,Value.none)):=λk _=>by unfold kx;rw[bO]
 rw[g i (by omega),g j (by omega),getElem?_pos qN _ (by omega),getElem?_pos qN _ (by omega)]at q;simp only[fA,fB,Array.getElem_toList];exact q
def a3a:∀{runs:qA (qA Keyed)},(∀r∈runs,0<r.length)->runs.length<=runs.flatten.length
 |[],_=>ak _
 |r::runs,h=>by
  have:=a3a (runs:=runs) λz a=>h z (au _ a);have:=h r ax;simp only[aZ,cY,ar];omega
def a4h{m m':StateT SortSt Sem α}{Q:α->SortSt->Prop}(e:m=m')(h:wpS (model prog w) A E s m' Q st):wpS (model prog w) A E s m Q st:=by rw[e];exact h
def a5S{Q:Unit->SortSt->Prop}(f:Cmp prog w A s κ D (ltK kf))(P:kindOf st=κ)(y:AllD D (arrOf st))(hp:pendingOf st=#[])(O:failedOf st=none)
  (q:∀st':SortSt,(arrOf st').Perm (arrOf st)->failedOf st'=none->(arrOf st').toList.Pairwise (leK kf)->Q () st'):wpS (model prog w) A E s sortRuns' Q st:=by
 rw[sortRuns'_eq];refine aB (fm ?_);dsimp only;generalize F:(arrOf st).size=sz;have N:RI kf κ (arrOf st) st [] (arrOf st).toList:=⟨P,O,.refl _,rfl,(λ_ z=>nomatch z),(λ_ z=>nomatch z),by rw[hp];rfl⟩;have J:∀{st':SortSt}{runs:qA (qA Keyed)}{rest:qA Keyed},RI kf κ (arrOf st) st' runs rest->(arrOf st').size=sz:=λh=>by rw[h.perm.size_eq];exact F
 have L:∀{st':SortSt}{runs:qA (qA Keyed)}{rest:qA Keyed},RI kf κ (arrOf st) st' runs rest->runs.flatten.length+rest.length=sz:=λh=>by
  have:=aP List.length h.eq;rw[az,J h,ar]at this;omega
 refine aB (cE (cu (I:=λx c st'=>c.1=none/\∃runs rest,RI kf κ (arrOf st) st' runs rest/\c.2=runs.flatten.length/\x<=c.2)
  (Q:=λc st'=>c.1=none/\∃runs,RI kf κ (arrOf st) st' runs []/\runs.length<=sz) ?step ?fin ⟨rfl,[],_,N,rfl,ak _⟩) ?post)
 case fin =>
  rintro c st' ⟨k,runs,rest,h1,h2,K⟩;have:=L h1;have l:rest=[]:=List.eq_nil_of_length_eq_zero (by omega);subst l;exact⟨k,runs,h1,by have:=a3a h1.ne;omega⟩
 case step =>
  rintro x c st' _ X ⟨k,runs,rest,h1,h2,K⟩;obtain⟨M,lo⟩:=c;dsimp only at k h2 K⊢;subst k;have R:=L h1;have H:=J h1;by_cases t:lo ≥ sz
  .rw[av t];have l:rest=[]:=List.eq_nil_of_length_eq_zero (by omega);subst l;exact aM ⟨rfl,runs,h1,by have:=a3a h1.ne;omega⟩
  .rw[ao t];have p:=y.perm h1.perm;have add:∀(n:Nat) (d:SortSt),Kept lo st' d->0<n->lo+n<=sz->SoO kf (arrOf d) lo n->wpS (model prog w) A E s (a0V sz lo n) (λr e=>match r with|ForInStep.done c'=>c'.1=none/\∃runs,RI kf κ (arrOf st) e runs []/\runs.length<=sz|ForInStep.yield c'=>c'.1=none/\∃runs rest,RI kf κ (arrOf st) e runs rest/\c'.2=runs.flatten.length/\x+1<=c'.2) d:=λn d j C U i=>by
    rw[h2]at j;have hR:=h1.kept j;rw[<-h2]at hR;have G:=J hR;rw[<-bo n ((arrOf d).toList.drop lo)]at hR;refine a7k f y hR (b4C i (by omega)) C (by rw[aN,bQ,az];omega) h2 λv W k1 k2 k3=>⟨rfl,W,_,k1,k2.symm,by show x+1<=lo+n;omega⟩
   refine aB (a7i f h1.kind p (by omega) (by omega) λm d j S T i=>?_);dsimp only;split
   .refine aB (T9 ?_);have G:(arrOf d).size=sz:=by rw[j.2.2.2.1.size_eq];exact H
    refine aB (b1v f (j.1.trans h1.kind) (p.perm j.2.2.2.1) (by omega) (by omega) i λv B u=>?_);rw[ao (by simp)];refine a4h (m':=a0V sz lo (min (sz-lo) (minRun' sz sz 0))) (by
     unfold a0V;refine aP _ (funext λg=>?_);rcases(pendingOf g).back? with _|⟨s1,n1,z⟩
     .rfl
     .dsimp only;refine congr (aP _ ?_) (funext λc=>?_)
      .unfold a0c;refine aP _ (funext λ_=>funext λ_=>aP _ (funext λg=>?_));generalize (if (pendingOf g).size > 1 then(pendingOf g)[(pendingOf g).size-2]? else none)=o;rcases o with _|⟨a,b,o⟩<;>rfl
      .rcases c with⟨_|q,c⟩<;>rfl) (cE (add _ v (j.trans B) (by omega) (by omega) u) λr e l=>by cases r<;>exact l)
   .refine a4h (m':=a0V sz lo m) (by
     unfold a0V;refine aP _ (funext λg=>?_);rcases(pendingOf g).back? with _|⟨s1,n1,z⟩
     .rfl
     .dsimp only;refine congr (aP _ ?_) (funext λc=>?_)
      .unfold a0c;refine aP _ (funext λ_=>funext λ_=>aP _ (funext λg=>?_));generalize (if (pendingOf g).size > 1 then(pendingOf g)[(pendingOf g).size-2]? else none)=o;rcases o with _|⟨a,b,o⟩<;>rfl
      .rcases c with⟨_|q,c⟩<;>rfl) (cE (add _ d j (by omega) (by omega) i) λr e l=>by cases r<;>exact l)
 case post =>
  rintro c st' ⟨k,runs,h1,h2⟩;obtain⟨M,lo⟩:=c;dsimp only at k;subst k;dsimp only;refine aB (a5W (sz:=sz) f y h1 h2 λd V k1 k2=>?_);dsimp only;refine aM (q d k1.perm k1.failed ?_);rw[k1.eq,cp]
  match V,k2,k1.sorted with
  |[],_,_=>exact .nil
  |[r],_,hs=>simpa using hs r (by simp)
  |_::_::_,k2,_=>simp at k2
end
def G0(h:Heap)(v:qB):qI:=match v with
 |.ref b=>match h.get? b with
  |some o=>match o.data with
   |.seq xs _=>xs.toList.map numOf
   |_=>[]
  |none=>[]
 |_=>[]
def D7{b:qE}{its:Array qB}{r:qI}(t:IsTup h b its)(i:IntsAre its.toList r):G0 h (.ref b)=r:=by
 obtain⟨o,h1,h2,n,a⟩:=t;unfold G0;simp only[h1,a];exact i.nums
def N2{β:Type}{f:α->β}{os i:qA β}(h:os.Perm i):∀{T:qA α},i=T.map f->∃c:qA α,c.Perm T/\c.map f=os:=by
 induction h with
 |nil=>intro T e;cases T with|nil=>exact⟨[],.nil,rfl⟩|cons _ _=>cases e
 |cons x _ m =>
  intro T e;cases T with
  |nil=>cases e
  |cons t T =>
   injection e with e1 e2
   obtain⟨c,h1,h2⟩:=m e2;exact⟨t::c,h1.cons t,by rw[aV,h2,e1]⟩
 |swap x y l =>
  intro T e
  match T,e with
  |a::b::T,e =>
   injection e with e1 e2
   injection e2 with e2 e3
   exact⟨b::a::T,.swap a b T,by rw[aV,aV,e1,e2,e3]⟩
 |trans _ _ d g =>
  intro T e;obtain⟨c,h1,h2⟩:=g e;obtain⟨T2,j,k⟩:=d h2.symm;exact⟨T2,j.trans h1,k⟩
def kfH(h:Heap):Keyed->OL.α:=λx=>(G0 h x.1:qI)
def DH(h:Heap)(x:Keyed):Prop:=∃b its r,x.1=Value.ref b/\IsTup h b its/\IntsAre its.toList r
def c0c:Cmp prog w A s (tuples' true) (DH s.heap) (ltK (kfH s.heap)):=by
 rintro⟨x,z⟩ ⟨y,B⟩ C ⟨b,its,r,h,j,d⟩ ⟨b',a,t,i,k,e⟩ c;dsimp only at h i;subst h i;have c:C (HT.lexLt (G0 s.heap (.ref b)) (G0 s.heap (.ref b'))) s:=c;rw[D7 j d,D7 k e]at c;obtain⟨o,q1,v,n,q⟩:=j;obtain⟨o',f,p,u,g⟩:=k;refine kat_lt q1 q f g (a2d 0 d e ?_);have l:its.size=r.length:=by rw[<-az];exact d.length
 have m:a.size=t.length:=by rw[<-az];exact e.length
 rw[l,m,a6M];exact c
def a0J{a:qE}{P:Fin->qC->Prop}(m:s.heap.get? a=some (seqObj "list" vs.toArray n))(T:TupsAre s.heap vs rss)(hw:∀r∈rss,0<r.length)(Z:vs.length<=sizeLine)
  (h:∀os:qA qB,os.Perm vs->os.Pairwise (λx y=>HT.lexLt (G0 s.heap y) (G0 s.heap x)=false)->P (.done (.ret .none)) {s with heap:=sortedHeap s.heap a vs os.toArray}) :
  wpAny (model prog w) A (Builtin.«list.sort» ⟨[.ref a],[]⟩) P E s:=by
 rw[list_sort_plain];have N:a<s.heap.objs.size:=aF m;refine aa (listItems_at m rfl ?_);refine aa (listUpdate_at m rfl ?_ (by rw[aE];omega) (bw _));obtain⟨G,p⟩:∃G,(s.heap.update a (Obj.mapSeq λ_=>#[])).get? a=some (seqObj "list" #[] G):=⟨_,get?_update_seq m (λ_=>#[])⟩;refine aa (seqEpoch_at p rfl ?_);refine aa (wpAny_newTuple ?_ (by show vs.length<=_;omega));refine aa (wpAny_newList ?_ (bw _));refine ck ?_;have d:(((s.heap.update a (Obj.mapSeq λ_=>#[])).push (seqObj "tuple" vs.toArray 0)).push (seqObj "list" #[] 0)).get? a=some (seqObj "list" #[] G):=by
  rw[Heap.get?_push_ne _ _ _ (by rw[size_push',Heap.size_update];exact aK (cc N)),Heap.get?_push_ne _ _ _ (by rw[Heap.size_update];exact aK N)];exact p
 have g:∀b its,IsTup s.heap b its->IsTup (((s.heap.update a (Obj.mapSeq λ_=>#[])).push (seqObj "tuple" vs.toArray 0)).push (seqObj "list" #[] 0)) b its:=λb its ⟨o,q1,l,M⟩=>by
  have S:b≠a:=λz=>by
   rw[z,m]at q1;cases q1;have l:Value.type "list"=Value.type "tuple":=l;injection l with l
   exact absurd l (by decide)
  refine⟨o,?_,l,M⟩;exact ae _ (ae _ (by rw[Heap.get?_update_ne _ _ _ _ S];exact q1))
 have F:=T.keeps g;show wpAny (model prog w) A _ P E {s with heap:=((s.heap.update a (Obj.mapSeq λ_=>#[])).push (seqObj "tuple" vs.toArray 0)).push (seqObj "list" #[] 0)};have c:∀v∈vs,G0 (((s.heap.update a (Obj.mapSeq λ_=>#[])).push (seqObj "tuple" vs.toArray 0)).push (seqObj "list" #[] 0)) v=G0 s.heap v:=λv W=>by
  obtain⟨i,hi⟩:=cw.mp W;obtain⟨r,b,its,_,H,B,C⟩:=T.2 i v hi;rw[H,D7 B C,D7 (g b its B) C]
 generalize J:((s.heap.update a (Obj.mapSeq λ_=>#[])).push (seqObj "tuple" vs.toArray 0)).push (seqObj "list" #[] 0)=k at d F c;dsimp only;have fin:∀os:qA qB,os.Perm vs->os.Pairwise (λx y=>HT.lexLt (G0 s.heap y) (G0 s.heap x)=false)->P (.done (.ret .none)) {s with heap:=k.update a (Obj.mapSeq λ_=>os.toArray)}:=λos h1 h2=>by
  have:=h os h1 h2;unfold sortedHeap at this;rw[J]at this;exact this
 by_cases h2:vs.toArray.size<2
 .have h2':vs.length<2:=by simpa using h2
  rw[av h2,av h2];refine aa (ag ?_);rw[StateT.run_pure];refine aa (ag ?_);dsimp only;refine aa (seqEpoch_at d rfl ?_);refine aa (listUpdate_at d rfl ?_ (bw _) (by rw[Array.size_map];show(pairsOf vs).size<=_;rw[pairsOf_size];omega));simp only[bne_self_eq_false,Bool.false_eq_true,if_false];have e:((vs.toArray.zip vs.toArray).map (·.2))=vs.toArray:=by
   apply Array.toList_inj.mp;simp[List.map_snd_zip]
  show wpAny _ _ _ _ _ {s with heap:=k.update a (Obj.mapSeq λ_=>(vs.toArray.zip vs.toArray).map (·.2))};rw[e];refine ag (fin vs (.refl _) ?_);rw[eW];intro i j hi Y U;omega
 .have h2':2<=vs.length:=by
   have:¬vs.length<2:=by simpa using h2
   omega
  rw[ao h2,ao h2];refine aa (a9Q F hw (by omega) ?_);have I:AllD (DH k) (vs.toArray.zip vs.toArray):=λx u=>by
   have K:x∈vs.zip vs:=by simpa using u
   obtain⟨_,V⟩:=mem_zip_self K;obtain⟨i,hi⟩:=cw.mp V;obtain⟨r,b,its,_,H,B,C⟩:=F.2 i _ hi;exact⟨b,its,r,H,B,C⟩
  refine aa (cH (a5S (s:={s with heap:=k}) (st:=SortSt.mk' (tuples' true) (vs.toArray.zip vs.toArray) #[] 7 none) (kf:=kfH k) (D:=DH k) (c0c (s:={s with heap:=k})) rfl I rfl rfl
   (Q:=λ_ st'=>(arrOf st').Perm (vs.toArray.zip vs.toArray)/\failedOf st'=none/\(arrOf st').toList.Pairwise (leK (kfH k))) λst' q1 l M=>⟨q1,l,M⟩) ?_ λ_ _ e=>e)
  rintro⟨⟨⟩,st'⟩ s' ⟨rfl,R,O,hs⟩;dsimp only at R O hs⊢;have t:(arrOf st').toList.Perm (vs.zip vs):=by
   have:=dM.mp R;simpa using this
  have q:((arrOf st').toList.map (·.2)).Perm vs:=by
   have:=t.map Prod.snd;rwa[List.map_snd_zip (ak _)]at this
  have f:∀x∈(arrOf st').toList,x.1=x.2/\x.1∈vs:=λx u=>mem_zip_self (t.mem_iff.mp u);have e:(arrOf st').map (·.2)=((arrOf st').toList.map (·.2)).toArray:=by
   apply Array.toList_inj.mp;simp
  refine aa (seqEpoch_at d rfl ?_);rw[e];refine aa (listUpdate_at d rfl ?_ (bw _) (by rw[aE,q.length_eq];omega));rw[O];simp only[bne_self_eq_false,Bool.false_eq_true,if_false];refine ag (fin _ q ?_);rw[bL];refine hs.imp_of_mem λ{x y} u X L=>?_;have h1:=f x u;have h2:=f y X;rw[<-h1.1,<-h2.1,<-c _ h1.2,<-c _ h2.2];exact L
def a2t{x:qB}{Q:qH}(g:∀(q:Around) (t:qH) (l:qA qB->qC->Prop),(∀h1:Heap,(∀b o,s.heap.get? b=some o->h1.get? b=some o)->l vs {s with heap:=h1})->wpAny (model prog w) q (collect x) l t s)
  (T:TupsAre s.heap vs rss) (hw:∀r∈rss,0<r.length) (F:vs.length<=sizeLine)
  (h:∀(h1 h':Heap) (os:qA qB) (c:Nat),(∀b o,s.heap.get? b=some o->h1.get? b=some o)->(∀b o,h1.get? b=some o->h'.get? b=some o)->h'.get? h1.objs.size=some (seqObj "list" os.toArray c)->os.Perm vs->os.Pairwise (λx y=>HT.lexLt (G0 s.heap y) (G0 s.heap x)=false)->Q (.ref h1.objs.size) {s with heap:=h'}) :
  wpAny (model prog w) A (call (.builtin "sorted") [x]) Q E s:=by
 refine eX kind_sorted plain_sorted entry_sorted (args_sorted1 _) ?_;unfold Builtin.«sorted»;refine aa (m:=checkCount "sorted" 1 1 _) (ag ?_);refine aa (g _ _ _ λh1 k1=>?_);refine aa (wpAny_newList ?_ (by omega));have f:(h1.push (seqObj "list" vs.toArray 0)).get? h1.objs.size=some (seqObj "list" vs.toArray 0):=aC _ rfl;have a:∀b its,IsTup s.heap b its->IsTup (h1.push (seqObj "list" vs.toArray 0)) b its:=λb its ⟨o,q1,G⟩=>⟨o,ae _ (k1 _ _ q1),G⟩;have T2:=T.keeps a;have d:∀v∈vs,G0 (h1.push (seqObj "list" vs.toArray 0)) v=G0 s.heap v:=λv B=>by
  obtain⟨i,hi⟩:=cw.mp B;obtain⟨r,b,its,_,u,n,p⟩:=T.2 i v hi;rw[u,D7 n p,D7 (a b its n) p]
 show wpAny _ _ _ _ _ {s with heap:=h1.push (seqObj "list" vs.toArray 0)};refine aa (ck (bI slot_list_sort ⟨_,f,rfl⟩ entry_list_sort (a0J (s:={s with heap:=h1.push (seqObj "list" vs.toArray 0)}) f T2 hw F λos j hs=>⟨_,rfl,?_⟩) (args_list_sort _)));obtain⟨c,z⟩:=a0G (out:=os.toArray) f;refine ag ⟨_,rfl,h h1 _ os c k1 (λb o e=>?_) z j (hs.imp_of_mem λ{x y} C D k=>?_)⟩
 .exact X6 b o (aK (aF e)) (ae _ e)
 .rw[<-d _ (j.mem_iff.mp C),<-d _ (j.mem_iff.mp D)];exact k
def b2q(K:qF):RL:=λxs H Q=>∃(p:qE) (ys:qA V) (rss:LLI),xs=[.ref p]/\(SqL K H p ys∨SqT K H p ys)/\Its H ys rss/\(∀r∈rss,0<r.length) /\
 ∀l zs tss,H l=none->Its H zs tss->tss.Perm rss->C8 tss->zs.Perm ys->Q (.ref l) (upd H l (.lst zs))
def a0m:∀{ys:qA V}{us:qA qB}{rss:LLI},Vals ys us->ys.length=rss.length->∃T:qA (qB×V×qI),T.map (·.1)=us/\T.map (·.2.1)=ys/\T.map (·.2.2)=rss/\∀(i:Nat) t,T[i]?=some t->RelV t.2.1 t.1/\ys[i]?=some t.2.1/\rss[i]?=some t.2.2
 |[],us,rss,r,e=>by
  cases r;cases rss with
  |nil=>exact⟨[],rfl,rfl,rfl,λi t h=>by simp at h⟩
  |cons _ _=>cases e
 |y::ys,us,rss,r,e=>by
  cases r with
  |cons h hs =>
   cases rss with
   |nil=>cases e
   |cons r rss =>
    obtain⟨T,b,c,d,f⟩:=a0m hs (by simpa using e);refine⟨(_,y,r)::T,by rw[aV,b],by rw[aV,c],by rw[aV,d],λi t a=>?_⟩;cases i with
    |zero=>cases a;exact⟨h,rfl,rfl⟩
    |succ i=>exact f i t a
def Q0:∀{T:qA (qB×V×qI)},(∀t∈T,RelV t.2.1 t.1)->Vals (T.map (·.2.1)) (T.map (·.1))
 |[],_=>.nil
 |t::T,h=>.cons (h t ax) (Q0 λu a=>h u (au _ a))
def a8i(K:qF)(hK:X.K=K:=by rfl):D0 X (.builtin "sorted") (b2q K):=by
 subst hK;intro qK s σ H xs us Q I rv h;obtain⟨p,ys,rss,rfl,r,hI,hw,q⟩:=h;obtain⟨u,rfl,ru⟩:=rv.one;cases ru;obtain⟨its,N,z,l⟩:∃its:qA qB,Vals ys its/\ys.length<=sizeLine/\∀(D:Around) (E:qH) (B:qA qB->qC->Prop),(∀h1:Heap,(∀b o,s.heap.get? b=some o->h1.get? b=some o)->B its {s with heap:=h1})->wpAny (model X.prog X.w) D (collect (.ref p)) B E s:=by
  rcases r with r|r
  .obtain⟨its,g,pl,z⟩:=I.list r;obtain⟨o,J,G,n,hd⟩:=pl.isList;have m:=g.length;exact⟨its,g,z,λD E B k=>wpAny_collect_seq p (.inl rfl) J G hd (λh' M=>k h' M) (by simp only[aE];omega)⟩
  .obtain⟨its,g,pl,z⟩:=I.tuple r;obtain⟨o,J,G,n,hd⟩:=pl;have m:=g.length;exact⟨its,g,z,λD E B k=>wpAny_collect_seq p (.inr rfl) J G hd (λh' M=>k h' M) (by simp only[aE];omega)⟩
 have hl:=N.length;have TT:=a3B I hI N;obtain⟨T,S,t2,t3,t4⟩:=a0m N hI.1;refine a2t l TT hw (by omega) λh1 h' os c k1 k2 e hp hs=>?_;obtain⟨d,p1,p2⟩:=N2 (f:=λt:qB×V×qI=>t.1) hp S.symm;have O:=I.kept (t':=s.toks) k1;have C:∀t∈d,RelV t.2.1 t.1/\IT H t.2.1 t.2.2/\G0 s.heap t.1=t.2.2:=λt L=>by
  obtain⟨i,hi⟩:=cw.mp (p1.mem_iff.mp L);obtain⟨r1,r2,R⟩:=t4 i t hi;obtain⟨a0,q1,q2⟩:=hI.2 i _ r2;rw[R]at q1;cases q1;have W:its[i]?=some t.1:=by rw[<-S,aX,hi];rfl
  obtain⟨g,b,P,f1,f2,Y,Z⟩:=TT.2 i _ W;rw[R]at f1;cases f1;exact⟨r1,q2,by rw[f2];exact D7 Y Z⟩
 have A:(d.map (·.2.1)).Perm ys:=by rw[<-t2];exact p1.map _
 have hv:Vals (d.map (·.2.1)) os:=by rw[<-p2];exact Q0 λt L=>(C t L).1
 have U:=O.laid (h':=h') (a:=h1.objs.size) (o:=.lst (d.map (·.2.1))) (t':=s.toks) k2 (ak _) ⟨by rw[A.length_eq];exact z,os,c,hv,e⟩;refine⟨.ref h1.objs.size,_,U,rfl,q _ _ (d.map (·.2.2)) (O.hok.fresh (ak _)) ⟨by rw[ai,ai],λi v j=>?_⟩ (by rw[<-t3];exact p1.map _) ?_ A⟩
 .rw[aX]at j⊢;cases F:d[i]? with
  |none=>rw[F]at j;cases j
  |some t =>
   rw[F]at j;cases j;exact⟨t.2.2,rfl,(C t (aH F)).2.1⟩
 .unfold C8;rw[bL];rw[<-p2,bL]at hs;refine hs.imp_of_mem λ{x y} hx hy w=>?_;rw[(C x hx).2.2,(C y hy).2.2]at w;exact w
def a3y(K:qF){e:Expr}{t:TA}{p pos:Pos}(f:Gl X "sorted")(g:X.mg "sorted"=none)(c:JA X [e] t)(b:X.K=K:=by rfl)(d:starEach [e] X.env=(false,eval e X.env)::starEach [] X.env:=by rfl)(a:(backTo pos (starEach [] X.env)).any (·.1)=false:=by rfl):JE X (.Call (.Name "sorted" p) [e] [] pos) (tCB (b2q K) t):=⟨D8 (a8i K b) f g a1Q c.h (by decide) (by decide) d a⟩
def DRaw(h:Heap)(d:qE)(es:Array DictEntry)(ep:Nat):Prop:=∃ob:Obj,h.get? d=some ob/\ob.ExactDict/\ob.data=.dict es ep
def DRaw.typ(x:DRaw s.heap d es ep):s.TypeIs (.ref d) "dict":=by
 obtain⟨c,a,b,_⟩:=x;exact⟨c,a,b.1⟩
def DRaw.lt(x:DRaw h d es ep):d<h.objs.size:=by
 obtain⟨b,a,_⟩:=x;exact aF a
def DRaw.to{h':Heap}(x:DRaw h d es ep)(k:∀a,h.get? d=some a->h'.get? d=some a):DRaw h' d es ep:=by
 obtain⟨a,b,q⟩:=x;exact⟨a,k _ b,q⟩
section
variable {it:qE}
def a6v{Q:qH}(hs:(d==sysModules)=false)(D:DRaw s.heap d es ep)
  (q:Q (.ref s.heap.objs.size) {s with heap:=s.heap.push {cls:=.type "dict_keyiterator",data:=.fields #[.ref d,.int 0 0,.int es.size 0,.int ep 0]}}):wpAny (model prog w) A (pyIter (.ref d)) Q E s:=by
 have ty:=D.typ;obtain⟨c,a,_,b⟩:=D;refine wpAny_pyIter_slot ty PySem.F.slot_dict_iter (bI PySem.F.slot_dict_iter ty PySem.F.entry_dict_iter ?body (PySem.F.args_dict_iter_1 _))
 case body =>
  unfold Builtin.«dict.__iter__» Builtin.Dict.dictSlotNone;refine aa (aa (wpAny_notOrdered_dict ty (ag ?_)));show wpAny _ _ (Builtin.Dict.showsAll d>>=λ_=>_) _ _ _;unfold Builtin.Dict.showsAll;rw[ao (λz=>by rw[hs]at z;cases z)];refine aa (ag (aa (fC a b (aa (wpAny_dictEpoch a b ?_)))));refine aa (bU (ag ⟨_,rfl,"dict_keyiterator",_,⟨_,aC _ rfl,rfl⟩,PySem.F.slot_dict_keyiterator_next.lookup,?_⟩));exact q
def a6w{Q:qD qB->qC->Prop}(I:s.heap.IsKeyIter it d i es.size ep)(D:DRaw s.heap d es ep)(hi:i<es.size)
  (q:∀h',h'.IsKeyIter it d (i+1) es.size ep->Heap.SameBut it s.heap h'->Q (some es[i].key) {s with heap:=h'}):wpAny (model prog w) A (pyNext (.ref it)) Q E s:=by
 obtain⟨h,f1,f2,a⟩:=id I;obtain⟨od,e,g,f⟩:=D;unfold pyNext;refine aa (dv (bH (name:=Str.ofString "__next__") I.typeIs PySem.F.slot_dict_keyiterator_next (bI PySem.F.slot_dict_keyiterator_next I.typeIs PySem.F.entry_dict_keyiterator_next ?body (PySem.F.args_dict_keyiterator_next_1 _))))
 case body =>
  refine aa (ag (aa (aa ?_)))
  first|refine aa (dz I.typeIs (ag ?_))|refine aa (dU I.typeIs (ag ?_))
  refine aa (wpAny_fieldsOf f1 a ?_);rw[show Builtin.Dict_items.ownsTuple "dict_keyiterator"=false by decide,ao aY];show wpAny _ _ (if (Value.ref d==Value.none)=true then _ else _) _ _ _;have b:¬((Value.ref d==Value.none)=true):=aY;rw[ao b];refine aa (ag (aa (fC e f ?_)));rw[ao (by simp)];refine aa (ag (aa (wpAny_dictEpoch e f ?_)));rw[ao (by simp)];refine ag ?_;dsimp only;rw[show(if (i:Int)<0 then(none:qD DictEntry)else es[(i:Int).toNat]?)=some es[i] by rw[ao (by omega),bz,bM hi]];dsimp only;refine aa ?_
  first|refine aa (dz I.typeIs (ag ?_))|refine aa (dU I.typeIs (ag ?_))
  refine aa (wpAny_isOneOf_keyiter I.typeIs ?_);show wpAny _ _ (setField (.ref it) 1 (rawInt ((i:Int)+1))>>=λ_=>_) _ _ _;have c:(s.heap.update it (Obj.mapFields λz=>z.setIfInBounds 1 (rawInt ((i:Int)+1)))).IsKeyIter it d (i+1) es.size ep :=
   ⟨_,cQ _ f1 (eD (cS a _)),(fz ..).trans f2,by rw[cS a];simp[rawInt]⟩
  refine aa (dQ f1 a (by simp) (aa (ck ?_)));refine aa (wpAny_isOneOf_keyiter (s:={s with heap:=s.heap.update it (Obj.mapFields λz=>z.setIfInBounds 1 (rawInt ((i:Int)+1)))}) c.typeIs ?_);exact ag (ag ⟨_,rfl,ag (q _ c (cD ..))⟩)
def a8Y{Q:qD qB->qC->Prop}(h:A.handled=none)(I:s.heap.IsKeyIter it d i es.size ep)(D:DRaw s.heap d es ep)(hi:es.size<=i)
  (q:∀h',Heap.ExtBut it s.heap h'->Q none {s with heap:=h'}):wpAny (model prog w) A (pyNext (.ref it)) Q E s:=by
 obtain⟨k,f1,f2,g⟩:=id I;obtain⟨od,e,j,f⟩:=D;unfold pyNext;refine aa (dv (bH (name:=Str.ofString "__next__") I.typeIs PySem.F.slot_dict_keyiterator_next (bI PySem.F.slot_dict_keyiterator_next I.typeIs PySem.F.entry_dict_keyiterator_next ?body (PySem.F.args_dict_keyiterator_next_1 _))))
 case body =>
  refine aa (ag (aa (aa ?_)))
  first|refine aa (dz I.typeIs (ag ?_))|refine aa (dU I.typeIs (ag ?_))
  refine aa (wpAny_fieldsOf f1 g ?_);rw[show Builtin.Dict_items.ownsTuple "dict_keyiterator"=false by decide,ao aY];show wpAny _ _ (if (Value.ref d==Value.none)=true then _ else _) _ _ _;have c:¬((Value.ref d==Value.none)=true):=aY;rw[ao c];refine aa (ag (aa (fC e f ?_)));rw[ao (by simp)];refine aa (ag (aa (wpAny_dictEpoch e f ?_)));rw[ao (by simp)];refine ag ?_;dsimp only;rw[show(if (i:Int)<0 then(none:qD DictEntry)else es[(i:Int).toNat]?)=none by rw[ao (by omega),bz,dC hi]];dsimp only;refine aa ?_
  first|refine aa (dz I.typeIs (ag ?_))|refine aa (dU I.typeIs (ag ?_))
  show wpAny _ _ (setField (.ref it) 0 .none>>=λ_=>_) _ _ _;refine aa (dQ f1 g (by simp) ?_);show wpAny _ _ (newExc (.type "StopIteration") []>>=λ_=>_) _ _ _;refine aa ?_;simp only[newExc,newTuple];refine aa (bU ?_ (by size_fits));refine aa (m:=firstArgMember _ _) (wpAny_of_eq (a:=Value.none) (by first|rfl | (simp only[firstArgMember];rfl)) ?_);refine bU ?_ (by size_fits);simp only[raiseNew];refine aa (wpAny_handled ?_);rw[show A.in1.handled=none from h];refine aa (ag (wpAny_throw ?_));refine aa (eM (T:="StopIteration") (b:=true) ⟨_,aC _ rfl,rfl⟩ isSubtype_stop ?_);exact ag (q _ (((cD ..).extBut.push _).push _))
def b0d(m:A.handled=none)(J d:qE)(f:d≠J)(es:Array DictEntry)(ep:Nat) :
  Walks prog w A J [J,d] [J] es.size (λi v=>∃e,es[i]?=some e/\v=e.key) (λi h=>h.IsKeyIter J d i es.size ep/\DRaw h d es ep) where
 sub:=λb c=>by rw[aG.mp c];exact ax
 frame:=λi h h' st g=>⟨st.1.at λo e=>g J ax o e,st.2.to λo e=>g d (au _ ax) o e⟩
 item:=λi s Q E hi st a=>a6w st.1 st.2 hi λh' k j=>a _ h' s.toks ⟨es[i],by simp[hi],rfl⟩ ⟨k,st.2.to λo e=>j.extBut d o f e⟩ λb o c e=>j.extBut b o (λz=>c (by rw[z];exact ax)) e
 done:=λs Q E st a=>a8Y m st.1 st.2 (ak _) λh' l=>a h' s.toks λb o c e=>l b o (λz=>c (by rw[z];exact ax)) e
 self:=λ_ _ _ _ st a=>wpAny_pyIter_keyiter st.1 a
def b4T(hs:(d==sysModules)=false)(es:Array DictEntry)(ep:Nat):KdlSrc prog w "dict" d d es.size (λi v=>∃e,es[i]?=some e/\v=e.key) (λh=>DRaw h d es ep) where
 type:=λ_ D=>D.typ
 there:=λ_ D=>⟨D.lt,D.lt⟩
 keep:=λ_ _ D b=>D.to λo e=>b d (.inl rfl) o e
 notList:=by decide
 notTuple:=by decide
 hint:=λ_ _ _ _ D q=>kdl_hint_dict D.typ q
 iter:=λ_ _ a D=>⟨_,_,λ_ _ q=>a6v hs D q,b0d a _ d (aK D.lt) es ep,⟨⟨_,aC _ rfl,rfl,rfl⟩,D.to λo e=>ae _ e⟩⟩
end
def Y7{x:qB}{Q:qH}(g:∀(q:qH) (l:qA qB->qC->Prop),(∀(h1:Heap) (tk:Nat),(∀b o,s.heap.get? b=some o->h1.get? b=some o)->l vs {s with heap:=h1,toks:=tk})->wpAny (model prog w) A.in1 (collect x) l q s)
  (T:TupsAre s.heap vs rss) (hw:∀r∈rss,0<r.length) (D:vs.length<=sizeLine)
  (h:∀(h1 h':Heap) (os:qA qB) (c tk:Nat),(∀b o,s.heap.get? b=some o->h1.get? b=some o)->(∀b o,h1.get? b=some o->h'.get? b=some o)->h'.get? h1.objs.size=some (seqObj "list" os.toArray c)->os.Perm vs->os.Pairwise (λx y=>HT.lexLt (G0 s.heap y) (G0 s.heap x)=false)->Q (.ref h1.objs.size) {s with heap:=h',toks:=tk}) :
  wpAny (model prog w) A (call (.builtin "sorted") [x]) Q E s:=by
 refine eX kind_sorted plain_sorted entry_sorted (args_sorted1 _) ?_;unfold Builtin.«sorted»;refine aa (m:=checkCount "sorted" 1 1 _) (ag ?_);refine aa (g _ _ λh1 tk k1=>?_);refine aa (wpAny_newList ?_ (by omega));have f:(h1.push (seqObj "list" vs.toArray 0)).get? h1.objs.size=some (seqObj "list" vs.toArray 0):=aC _ rfl;have a:∀b its,IsTup s.heap b its->IsTup (h1.push (seqObj "list" vs.toArray 0)) b its:=λb its ⟨o,q1,F⟩=>⟨o,ae _ (k1 _ _ q1),F⟩;have T2:=T.keeps a;have d:∀v∈vs,G0 (h1.push (seqObj "list" vs.toArray 0)) v=G0 s.heap v:=λv z=>by
  obtain⟨i,hi⟩:=cw.mp z;obtain⟨r,b,its,_,t,n,p⟩:=T.2 i v hi;rw[t,D7 n p,D7 (a b its n) p]
 show wpAny _ _ _ _ _ {s with heap:=h1.push (seqObj "list" vs.toArray 0),toks:=tk};refine aa (ck (bI slot_list_sort ⟨_,f,rfl⟩ entry_list_sort (a0J (s:={s with heap:=h1.push (seqObj "list" vs.toArray 0),toks:=tk}) f T2 hw D λos j hs=>⟨_,rfl,?_⟩) (args_list_sort _)));obtain⟨c,u⟩:=a0G (out:=os.toArray) f;refine ag ⟨_,rfl,h h1 _ os c tk k1 (λb o e=>?_) u j (hs.imp_of_mem λ{x y} B C k=>?_)⟩
 .exact X6 b o (aK (aF e)) (ae _ e)
 .rw[<-d _ (j.mem_iff.mp B),<-d _ (j.mem_iff.mp C)];exact k
def IK(rss:LLI):qA (qA Key):=rss.map λr=>r.map Sum.inl
def a7F:RL:=λxs H Q=>∃(d:qE) (qL:qA (qA Key×V)) (rss:LLI),xs=[.ref d]/\H d=some (.dT qL)/\qL.map (·.1)=IK rss/\(∀r∈rss,0<r.length) /\
 ∀l zs tss,H l=none->Its H zs tss->tss.Perm rss->C8 tss->Q (.ref l) (upd H l (.lst zs))
def b5O{H:Hp}:∀{qL:qA (qA Key×V)}{xs:qA (qA Key×qE×qB)}{rss:LLI},KT H qL xs->qL.map (·.1)=IK rss->Its H (xs.map λx=>V.ref x.2.1) rss/\xs.length=rss.length:=by
 intro qL xs rss r e;induction r generalizing rss with
 |nil =>
  cases rss with
  |nil=>exact⟨⟨rfl,λi v z=>by simp at z⟩,rfl⟩
  |cons _ _=>cases e
 |@cons p q ps qs h _ d =>
  cases rss with
  |nil=>cases e
  |cons r rss =>
   injection e with a e2
   obtain⟨h1,h2⟩:=d e2;refine⟨⟨by rw[ai,aZ,aZ,h2],λi v c=>?_⟩,by rw[aZ,aZ,h2]⟩;cases i with
   |zero =>
    cases c;refine⟨r,rfl,q.2.1,rfl,?_⟩;have b:=h.2.1;have a:p.1=r.map Sum.inl:=a;rw[a,cG]at b;exact b
   |succ i=>exact h1.2 i v c
def a1w{α:Type}(f:α->qE):∀xs:qA α,Vals (xs.map λx=>V.ref (f x)) (xs.map λx=>Value.ref (f x))
 |[]=>.nil
 |x::xs=>.cons rfl (a1w f xs)
def a8h(hc:X.calm=true):D0 X (.builtin "sorted") a7F:=by
 intro qK s σ H xs us Q I rv h;obtain⟨d,qL,rss,rfl,hd,hk,hw,q⟩:=h;obtain⟨u,rfl,ru⟩:=rv.one;cases ru;obtain⟨hz,A,j,U,ob,es,ep,e1,p,e3,N,O⟩:=I.hok _ _ hd;obtain⟨hI,R⟩:=b5O U hk;have a0:qL.length=j.length:=Paired.length U;have w:es.size=j.length:=by rw[<-az,N,ai]
 have D:DRaw s.heap d es ep:=⟨ob,e1,p,e3⟩;have K:Vals (j.map λx=>V.ref x.2.1) (j.map λx=>Value.ref x.2.1):=a1w (λx:qA Key×qE×qB=>x.2.1) j;have z:∀(L:qH) (E:qA qB->qC->Prop),(∀(h1:Heap) (tk:Nat),(∀b o,s.heap.get? b=some o->h1.get? b=some o)->E (j.map λx=>Value.ref x.2.1) {s with heap:=h1,toks:=tk})->wpAny (model X.prog X.w) X.A.in1 (collect (.ref d)) E L s:=λL E k=>by
  refine kdu_collect (b4T A es ep) (show X.A.in1.handled=none from I.ok.hd hc) D (by omega) λh' tk l kp m=>?_;have:l.toList=j.map λx=>Value.ref x.2.1:=by
   refine el λi=>?_;rw[ay,aX];by_cases hi:i<j.length
   .have hia:i<l.size:=by rw[m.1,w];exact hi
    obtain⟨e,he,G⟩:=m.2 i l[i] (by simp[hia]);have g:es.toList[i]?=some e:=by rw[ay];exact he
    rw[N,aX,aj hi]at g;injection g with g
    rw[bM hia,aj hi,G,<-g];rfl
   .rw[dC (by rw[m.1,w];omega),cg (by omega)];rfl
  rw[this];exact k h' tk kp
 have hl:=K.length;have TT:=a3B I hI K;obtain⟨T,Y,t2,t3,t4⟩:=a0m K hI.1;refine Y7 z TT hw (by rw[ai];omega) λh1 h' os c tk k1 k2 e hp hs=>?_;obtain⟨n,p1,p2⟩:=N2 (f:=λt:qB×V×qI=>t.1) hp Y.symm;have M:=I.kept (t':=tk) k1;have C:∀t∈n,RelV t.2.1 t.1/\IT H t.2.1 t.2.2/\G0 s.heap t.1=t.2.2:=λt F=>by
  obtain⟨i,hi⟩:=cw.mp (p1.mem_iff.mp F);obtain⟨r1,r2,W⟩:=t4 i t hi;obtain⟨a1,q1,q2⟩:=hI.2 i _ r2;rw[W]at q1;cases q1;have O:(j.map λx=>Value.ref x.2.1)[i]?=some t.1:=by rw[<-Y,aX,hi];rfl
  obtain⟨r',b,S,f1,f2,f3,f4⟩:=TT.2 i _ O;rw[W]at f1;cases f1;exact⟨r1,q2,by rw[f2];exact D7 f3 f4⟩
 have J:(n.map (·.2.1)).length<=sizeLine:=by
  have P:=(p1.map (λt:qB×V×qI=>t.2.1)).length_eq;rw[t2]at P;simp only[ai]at P⊢;omega
 have G:Vals (n.map (·.2.1)) os:=by rw[<-p2];exact Q0 λt F=>(C t F).1
 have Z:=M.laid (h':=h') (a:=h1.objs.size) (o:=.lst (n.map (·.2.1))) (t':=tk) k2 (ak _) ⟨J,os,c,G,e⟩;refine⟨.ref h1.objs.size,_,Z,rfl,q _ _ (n.map (·.2.2)) (M.hok.fresh (ak _)) ⟨by rw[ai,ai],λi v r=>?_⟩ (by rw[<-t3];exact p1.map _) ?_⟩
 .rw[aX]at r⊢;cases p:n[i]? with
  |none=>rw[p]at r;cases r
  |some t =>
   rw[p]at r;cases r;exact⟨t.2.2,rfl,(C t (aH p)).2.1⟩
 .unfold C8;rw[bL];rw[<-p2,bL]at hs;refine hs.imp_of_mem λ{x y} hx hy B=>?_;rw[(C x hx).2.2,(C y hy).2.2]at B;exact B
end L2
namespace L2
open PySem PySem.Spec PyProof.Rows
def b7d(i j:Int):Prop:=0<j/\j<2 ^ 64
variable {X:Cx}
def b2Q:OpR X (binaryOp .FloorDiv) (rI b7d λi j=>.int (i / j)):=opI λi j _ _ _ _ _ a q=>by
 have h1:(0:Int)<j:=a.1;have h2:j<2 ^ 64:=a.2;refine floordiv_int (by omega) (by rw[Int.fdiv_eq_ediv_of_nonneg i (by omega)];exact q) (.inl (PyProof.noPylong_of_log2 ?_));have:j.natAbs.log2<64:=(Nat.log2_lt (by omega)).mpr (by omega);omega
def b5U{a b:Expr}{ta tb:TE}{pos:Pos}(c:JE X a ta)(d:JE X b tb):JE X (.BinOp a .FloorDiv b pos) (tOp (rI b7d λi j=>.int (i / j)) ta tb):=⟨a0I b2Q c.h d.h⟩
end L2
namespace L2
open PySem PySem.Spec PyProof.Rows PySem.W
section
variable {prog:qG}{w:World}{A:Around}{E:qH}{s:qC}{d:qE}{ep:Nat}{es:Array DictEntry}
def b4U{Q:qH}(hs:(d==sysModules)=false)(D:DRaw s.heap d es ep)(c:(es.size:Int)<2 ^ 63)
  (q:Q (.int es.size (s.toks+1)) {s with toks:=s.toks+1+1}):wpAny (model prog w) A (call (.builtin "len") [.ref d]) Q E s:=by
 refine eX kind_len plain_len entry_len (args_len1 _) ?_;have ty:=D.typ;obtain⟨e,a,_,b⟩:=D;unfold Builtin.«len»;refine aa (m:=oneArg "len" _) (ag ?_);refine aa (m:=callSpecial? (.ref d) (Str.ofString "__len__")) (bH (name:=Str.ofString "__len__") ty PySem.F.slot_dict_len (bI PySem.F.slot_dict_len ty PySem.F.entry_dict_len ?body (PySem.F.args_dict_len_1 _)))
 case body =>
  show wpAny _ _ (dictSize d>>=λn=>_) _ _ _;unfold dictSize;refine aa (aa (fC a b (ag ?_)));show wpAny _ _ (Builtin.Dict.pendingCount d>>=λn=>_) _ _ _;refine aa (wpAny_pendingCount_other hs (wpAny_ret_mkInt ?_));show wpAny _ _ _ _ _ {s with toks:=s.toks+1};rw[show((es.size:Nat):Int)+((0:Nat):Int)=(es.size:Int) by simp];refine aa (ck (ag (aa (wpAny_letGo ?_))));show wpAny _ _ (if ((es.size:Nat):Int)<0 then _ else _) _ _ _;rw[ao (by omega)];show wpAny _ _ (if ((es.size:Nat):Int) ≥ 2 ^ 63 then _ else _) _ _ _;rw[ao (by omega)];exact aa (wpAny_mkInt (ag ⟨_,rfl,q⟩))
end
def b6M:RL:=λxs H Q=>∃(a:qE) (qL:qA (qA Key×V)),xs=[V.ref a]/\H a=some (.dT qL)/\Q (.int qL.length) H
section
variable {X:Cx}
def b1d:D0 X (.builtin "len") b6M:=by
 intro qK s σ H xs v Q I r h;obtain⟨a,qL,rfl,l,q⟩:=h;obtain⟨u,rfl,p⟩:=r.one;cases p;obtain⟨m,b,f,n,o,es,ep,g,i,j,k,t⟩:=I.hok _ _ l;have d:qL.length=f.length:=Paired.length n;have c:es.size=f.length:=by rw[<-az,k,ai]
 have e:=m;rw[aU]at e;refine b4U b ⟨o,g,i,j⟩ (by omega) ?_;rw[c,<-d];exact⟨.int qL.length,H,I.tok _,⟨_,rfl⟩,q⟩
variable {a b c e o i value:Expr}{es rest:qA Expr}{ta tb tc te to td ty tv:TE}{t:TA}{pos p qO qM p2 pos' tpos:Pos}
def b5T(d:Gl X "len")(f:X.mg "len"=none)(b:JA X [e] t)(c:starEach [e] X.env=(false,eval e X.env)::starEach [] X.env:=by rfl)(a:(backTo pos (starEach [] X.env)).any (·.1)=false:=by rfl):JE X (.Call (.Name "len" p) [e] [] pos) (tCB b6M t):=⟨D8 b1d d f b4m b.h (by decide) (by decide) c a⟩
def b3u(f:Gl X "sorted")(g:X.mg "sorted"=none)(b:JA X [e] t)(c:X.calm=true:=by rfl)(d:starEach [e] X.env=(false,eval e X.env)::starEach [] X.env:=by rfl)(a:(backTo pos (starEach [] X.env)).any (·.1)=false:=by rfl):JE X (.Call (.Name "sorted" p) [e] [] pos) (tCB a7F t):=⟨D8 (a8h c) f g a1Q b.h (by decide) (by decide) d a⟩
def b5V:JE X (.Dict [] [] pos) b1H:=⟨b2K⟩
def b8t(c:X.A.units+60<cLine)(hi:JE X i ty)(b:JE X o td)(a:behindInMarks .In o=false):JE X (.Compare i [.In] [o] pos) (b9l ty td):=⟨b7Q (b7S (by omega) hi.h b.h) a⟩
def b0F(c:X.A.units+60<cLine)(hi:JE X i ty)(b:JE X o td)(a:behindInMarks .NotIn o=false):JT X (.Compare i [.NotIn] [o] pos) (tB (a8F ty td)):=⟨b7x (b0m (by omega) hi.h b.h) a⟩
def b5Q(c:X.A.units+60<cLine)(a:JE X o td)(hi:JE X i ty)(b:JE X value tv)(hs:swapsWith value (some (.Subscript o i pos')) pos.line X.env=pure false:=by rfl):JS X (.Assign [.Subscript o i pos'] value pos) (b6G td ty tv):=⟨b5d (by omega) a.h hi.h b.h hs⟩
def M1(K:qF){f:Str}(c:JE X e ta)(a:X.K=K:=by rfl)(b:attributeBase e f X.env (eval e X.env)=eval e X.env:=by rfl):JE X (.Attribute e f pos) (b9k K ta f):=by
 subst a;exact⟨b7P c.h b⟩
def W6(K:qF){f:Str}(b:JE X o ta)(c:JE X value tv)(a:X.K=K:=by rfl)(hs:swapsWith value (some (.Attribute o f pos')) pos.line X.env=pure false:=by rfl):JS X (.Assign [.Attribute o f pos'] value pos) (b9o K ta tv f):=by
 subst a;exact⟨b7C b.h c.h hs⟩
end
structure MethOk(P:qG)(w:World)(K:qF)(mg:Str->qD qB)(base:Heap)(C:qE)(m:Str)(k:Nat)(ps:qA Str)(sp:Sp):Prop where
 ex:∃f fd,Meth K C m f/\Binds K fd ps []/\FnOk P w K mg base CX0 k f fd ps sp
structure MethAt(K:qF)(C:qE)(m qual:Str)(st:Stmt)(ps:qA Str):Prop where
 ex:∃f fd,Meth K C m f/\Fun K m qual st f fd/\Binds K fd ps []
structure MakeOk(P:qG)(w:World)(K:qF)(mg:Str->qD qB)(base:Heap)(x:Str)(C:qE)(k:Nat)(ps:qA Str)(sp:Sp):Prop where
 ex:∃f fd,mg x=some (.ref C)/\Mk K C f/\Binds K fd ps []/\FnOk P w K mg base CX0 k f fd ps sp
section
variable {P:qG}{w:World}{K:qF}{mg:Str->qD qB}{base:Heap}{C:qE}{m qual:Str}{st:Stmt}{N ps:qA Str}{k:Nat}{sp:Sp}
def MethAt.fnJ(F:MethAt K C m qual st ps)(S:FnScope N ps (A1 st))(c:∀vs H Q E,sp vs H Q E->vs.length=ps.length)
  (b:∀(a:qB) (f:qE) (A:Around) (outer:qA Env) (s:qC) (H:Hp) (vs:qA V) (Q:VK) (E:XK),Room k (A.deeper (envOfC qual (A1 st) s.heap.objs.size f a))->sp vs H Q E ->
   ∃t,JB (K4 CX0 P w K mg base N qual (A1 st) f a A outer s H E).nox (E7 st) t/\t {nx:=λ_ H'=>Q .non H',rt:=Q} (start N vs) H):MethOk P w K mg base C m (k+1) ps sp:=by
 obtain⟨f,fd,h1,h2,d⟩:=F.ex;exact⟨f,fd,h1,d,h2.okJ S c λa=>b a f⟩
def MethOk.make{x:Str}(O:MethOk P w K mg base C "__init__" k ps sp)(d:mg x=some (.ref C))(c:PySem.W.makesIn K C=true)(b:PySem.W.keepIn K (.ref C)=true):MakeOk P w K mg base x C k ps sp:=by
 obtain⟨f,fd,h1,h2,a⟩:=O.ex;exact⟨f,fd,d,⟨c,h1.at_,h1.fn,b⟩,h2,a⟩
end
section
variable {X:Cx}{C:qE}{m x:Str}{k:Nat}{ps:qA Str}{sp:Sp}{o e:Expr}{es:qA Expr}{ta:TE}{t:TA}{pos qO p:Pos}
def b8y{pl:Sem Bool}(O:MethOk X.prog X.w X.K X.mg X.base C m k ps sp)(c:Cls X.K C)(j:Room k X.A)(i:JE X o ta)(h:JA X (e::es) t)
  (b:starEach (e::es) X.env=(false,eval e X.env)::starEach es X.env:=by rfl) (a:(backTo pos (starEach es X.env)).any (·.1)=false:=by rfl)
  (l:eval (.Call (.Attribute o m qO) (e::es) [] pos) X.env=(eval o X.env>>=λd=>standAt qO.atName>>=λ_=>holding [d] (getMethod d m pl)>>=λp=>match p with | (f,first)=>callWith pos f first (backTo pos (starEach (e::es) X.env)) (backToKw pos (keywordEach [] X.env))):=by rfl) :
  JE X (.Call (.Attribute o m qO) (e::es) [] pos) (a1X C m sp [] E0 ta t):=by
 obtain⟨f,fd,h1,h2,g⟩:=O.ex;exact⟨b5r (pl:=pl) i.h c h1 g j h2 .nil a9f h.h b a l⟩
def a5D{pl:Sem Bool}(O:MethOk X.prog X.w X.K X.mg X.base C m k ps sp)(c:Cls X.K C)(e:Room k X.A)(d:JE X o ta)
  (g:eval (.Call (.Attribute o m qO) [] [] pos) X.env=(eval o X.env>>=λa=>standAt qO.atName>>=λ_=>holding [a] (getMethod a m pl)>>=λp=>match p with | (f,first)=>callWith pos f first (backTo pos (starEach [] X.env)) (backToKw pos (keywordEach [] X.env))):=by rfl) :
  JE X (.Call (.Attribute o m qO) [] [] pos) (a1X C m sp [] E0 ta a2f):=by
 obtain⟨f,fd,h1,h2,b⟩:=O.ex;exact⟨b2I (pl:=pl) d.h c h1 b e h2 .nil a9f g⟩
def b8z(O:MakeOk X.prog X.w X.K X.mg X.base x C k ps sp)(j:Room (k+1) X.A)(i:Gl X x)(g:JA X (e::es) t)(a:(x==("__debug__" : Str))=false:=by decide)
  (h:starEach (e::es) X.env=(false,eval e X.env)::starEach es X.env:=by rfl) (b:(backTo pos (starEach es X.env)).any (·.1)=false:=by rfl) :
  JE X (.Call (.Name x p) (e::es) [] pos) (b6x C sp [] E0 t):=by
 obtain⟨f,fd,c,h1,h2,d⟩:=O.ex;exact⟨b5s h1 d j i c h2 .nil a9f g.h a h b⟩
end
end L2
namespace L2
open PySem PySem.Spec PyProof.Rows
variable {H:Hp}
def a3p{K:qF}{src:qA (qJ)}{σ caps:St}{Q:VK}{a:qE}{vs:qA V}{rss:LLI}{k:TT}(t:qI->Bool)(n:vs.length<=sizeLine)(b:∀H',Same H H'->SqL K H' a vs)(hI:Its H vs rss)(d:B2 src σ=none::caps)
  (g:∀v r H1 j,r∈rss->IT H1 v r->Same H H1->(∀H2,Same H1 H2->j (t r) H2)->k (some v::caps) H1 j) (hd:∀H1 p l,Same H H1->H1 p=none->Its H1 l (rss.filter t)->Q (.ref p) (upd H1 p (.lst l))):E8 src (B0 0) k (Z0 0) σ Q (Itl K a) H:=by
 refine V2 (xs:=vs) (by omega) (λi ys H'=>Same H H'/\Its H' ys ((rss.take i).filter t)) ⟨Same.refl H,by simpa using Its.nil⟩ (λi ys H' _ h=>⟨b H' h.1,by rw[h.2.1];exact bh (bu _ _) (bE _ _)⟩) ?_ ?_
 .rintro i x ys H' hx ⟨s,hy⟩;obtain⟨r,m,f,c⟩:=hI.mem hx;show Sub _ ((B2 src σ).set 0 (some x))/\_;rw[d];refine⟨Sub.one,g x r H' _ m (c.same s) s λH2 s2=>?_⟩;rw[ba,f];cases e:t r with
  |true=>exact⟨_,rfl,s.trans s2,by simpa[e]using(hy.same s2).snoc ((c.same s).same s2)⟩
  |false=>exact⟨s.trans s2,by simpa[e]using hy.same s2⟩
 .rintro ys H' ⟨s,hy⟩ p hp;rw[hI.1,bg]at hy;exact hd H' p ys s hp hy
def Prs(H:Hp)(ps:qA V)(f:Nat->qI)(js:qA Nat):Prop:=ps.length=js.length/\∀(i:Nat) (q:V),ps[i]?=some q->∃(j:Nat) (b:qE) (v:V),js[i]?=some j/\q=.ref b/\H b=some (.tup [.int j,v])/\IT H v (f j)
def Prs.same{H H':Hp}{ps:qA V}{f:Nat->qI}{a:qA Nat}(h:Prs H ps f a)(s:Same H H'):Prs H' ps f a :=
 ⟨h.1,λi q e=>let ⟨j,b,v,e1,e2,e3,e4⟩:=h.2 i q e;⟨j,b,v,e1,e2,s _ _ e3,e4.same s⟩⟩
def Prs.nil{f:Nat->qI}:Prs H [] f []:=⟨rfl,λi q e=>by simp at e⟩
def Prs.snoc{ps:qA V}{f:Nat->qI}{c:qA Nat}{j:Nat}{b:qE}{v:V}(h:Prs H ps f c)(k:H b=some (.tup [.int j,v]))(l:IT H v (f j)):Prs H (ps++[.ref b]) f (c++[j]):=by
 refine⟨by rw[ar,ar,h.1];rfl,λi q e=>?_⟩;rcases Nat.lt_or_ge i ps.length with hi|hi
 .rw[bx hi]at e;obtain⟨m,b',n,d,g⟩:=h.2 i q e;exact⟨m,b',n,by rw[bx (by rw[<-h.1];exact hi)];exact d,g⟩
 .rw[a' hi]at e;have a:i-ps.length=0:=by
   rcases Nat.eq_zero_or_pos (i-ps.length)with z|z
   .exact z
   .rw[cg (by simp;omega)]at e;cases e
  rw[a]at e;cases e;exact⟨j,b,v,by rw[a' (by rw[<-h.1];exact hi),<-h.1,a];rfl,rfl,k,l⟩
def a8C(K:qF)(i:Nat)(sp:Sp)(t:TA)(z:Int):TX:=λD R σ H=>t σ H λvs H1=>sp vs H1 (λv H2=>b4W K v (.int z) H2 λu H3=>D.nx (σ.set i (some u)) H3) λc _ H'=>∃C,c=.ref C/\R σ C H'
def b0i{X:Cx}{k:Nat}{ps:qA Str}{sp:Sp}{x y:Str}{p pos qM pos' ip sp':Pos}{e:Expr}{es:qA Expr}{t:TA}{i:Nat}{z:Int}{jj:Nat}(d:∀e s,¬X.xe e s)(O:OkE X.prog X.w X.K X.mg X.base x k ps sp)(hr:Room k X.A)(Z:Gl X x)
  (T:X.N.Nodup) (hi:X.N[i]?=some y) (hy:Loc X.env.scope y) (U:PA X (e::es) t) (l:(x==("__debug__" : Str))=false:=by decide)
  (W:starEach (e::es) X.env=(false,eval e X.env)::starEach es X.env:=by rfl) (m:(backTo qM (starEach es X.env)).any (·.1)=false:=by rfl)
  (n:a1s (.Constant (.int z) jj ip):=by intro _ _;rfl)
  (hs:swapsWith (.Subscript (.Call (.Name x p) (e::es) [] qM) (.Constant (.int z) jj ip) sp') (some (.Name y pos')) pos.line X.env=pure false:=by rfl) (Y:X.fn y=true∨X.env.scope.names.lookup y=some .local:=by first|exact .inl rfl|exact .inr rfl|assumption) :
  PSx X [.Assign [.Name y pos'] (.Subscript (.Call (.Name x p) (e::es) [] qM) (.Constant (.int z) jj ip) sp') pos] (a8C X.K i sp t z):=by
 intro qK s σ H D R I h;obtain⟨f,fd,hm,hk,V,F⟩:=O.ex;refine eG (wpAny_Assign_Name (Subscript_ ?_) hs);refine dg (N3 I Z hm ?_ l);refine PySem.W.callWith_K (h₀:=X.base) I.ok.mod.kin hk (cH (U qM qK s σ H _ I h) (λg s1 ⟨vs,H1,a,r,q⟩=>⟨a.kIn,?_⟩) λe s z=>absurd z (d e s)) W m;have hl:g.length=ps.length:=by rw[<-r.length];exact F.len _ _ _ _ q
 have b:=V s1 g a.kIn (by rw[cp];exact hl);rw[cp]at b;refine fi (de (F.run X.A X.stack s1 H1 ⟨g,[]⟩ g vs _ _ hr a.env0 b r q) λr s' c=>?_);cases r with
 |error e =>
  obtain⟨p,C,H',B,a0,h1,h2,K,L,M,N,P,Q,C',S,j⟩:=c;cases S;exact⟨σ,H1,s1,p,C,H',B,a0,h1,a,h2,K,L,M,N,P,Q,j⟩
 |ok fl =>
  cases fl with
  |ret u =>
   obtain⟨v,H2,A,rv,q2⟩:=a.after c;refine wpAny_Constant_int ?_;have E:=A.tok (s'.toks+1);refine cH (b3D _ _ qK _ σ H2 v (.int z) u _ _ E rv ⟨_,rfl⟩ q2 (n _ _)) (λu' s4 ⟨v',w,G,o,q4⟩=>?_) λe s z=>absurd z (d e s);exact O5 G T hi hy o (λs2 J=>c_ ⟨_,w,J,q4⟩) Y
  |next=>exact False.elim c
  |brk=>exact False.elim c
  |cont=>exact False.elim c
section
variable {X:Cx}{k:Nat}{ps:qA Str}{sp:Sp}{x y:Str}{p pos qM pos' ip sp':Pos}{e:Expr}{es:qA Expr}{t:TA}{i:Nat}{z:Int}{jj:Nat}
def b3m(K:qF)(O:OkE X.prog X.w X.K X.mg X.base x k ps sp)(n:Room k X.A)(m:Gl X x)(g:X.N.Nodup)(hi:X.N[i]?=some y)(o:Loc X.env.scope y)(h:JA X (e::es) t)(f:X.K=K:=by rfl)(d:∀e s,¬X.xe e s:=by exact λ_ _ z=>z)(a:(x==("__debug__" : Str))=false:=by decide)
  (j:starEach (e::es) X.env=(false,eval e X.env)::starEach es X.env:=by rfl) (b:(backTo qM (starEach es X.env)).any (·.1)=false:=by rfl) (c:a1s (.Constant (.int z) jj ip):=by intro _ _;rfl)
  (hs:swapsWith (.Subscript (.Call (.Name x p) (e::es) [] qM) (.Constant (.int z) jj ip) sp') (some (.Name y pos')) pos.line X.env=pure false:=by rfl) (l:X.fn y=true∨X.env.scope.names.lookup y=some .local:=by first|exact .inl rfl|exact .inr rfl|assumption) :
  JX X [.Assign [.Name y pos'] (.Subscript (.Call (.Name x p) (e::es) [] qM) (.Constant (.int z) jj ip) sp') pos] (a8C K i sp t z):=by
 subst f;exact⟨b0i d O n m g hi o h.h a j b c hs l⟩
end
end L2
namespace L2
open PySem PySem.Spec PyProof.Rows PySem.W
variable {X:Cx}{e:Expr}{es:qA Expr}{qL:qA (qA Key×V)}{rss:LLI}{t:TA}
def Itd(d:qE)(ob:Obj)(qL:qA (qA Key×V)):It:=⟨λi H=>H d=some (.frz ob (.dT qL))/\i<qL.length,λi H v H'=>H'=H/\∃p a,qL[i]?=some p/\v=.ref a/\H a=some (.tup (p.1.map kV)),λi H=>H d=some (.frz ob (.dT qL))/\qL.length<=i⟩
def b0n{α β:Type}{F:α->β->Prop}{c:qA α}{d:qA β}(r:Paired F c d):∀{i:Nat}{a:α},c[i]?=some a->∃b,d[i]?=some b/\F a b:=by
 induction r with
 |nil=>intro i a e;simp at e
 |cons h _ f =>
  intro i a e;cases i with
  |zero=>cases e;exact⟨_,rfl,h⟩
  |succ i=>exact f e
def a7o{P:qG}{w:World}{K:qF}{tg:Expr}(d it:qE)(a:Obj)(es:Array DictEntry)(ep:Nat)(qL:qA (qA Key×V))(F:a.ExactDict)(hd:a.data=.dict es ep)(W:es.size=qL.length):Turn P w K tg (Itd d a qL) [it] it (λi h=>h.IsKeyIter it d i es.size ep) where
 mem:=by simp
 obj:=λi h st b f=>by
  have e:b=it:=by simpa using f
  subst e;obtain⟨o,e,c,d⟩:=st;exact⟨o,e,λv z=>by rw[d]at z;cases z⟩
 keep:=λi h h' st k=>st.at λo e=>k it (by simp) o e
 item:=by
  intro X y hw x C i qK s σ H E I m st A;subst y hw x;obtain⟨g,hi⟩:=A;obtain⟨l,Y,D,ts,S,B,O,N,q1,Z,n,G,q5⟩:=(show ObjOk X.prog X.w H s.heap d (.frz a (.dT qL))from I.hok d _ g);have M:B=a:=bB (q1.symm.trans l);rw[M,hd]at n;injection n with n _
  obtain⟨p,f1,f2,r,t,u⟩:=m it (by simp);have j:i<es.size:=by omega
  refine a6w st ⟨a,l,F,hd⟩ j λh' st' U=>?_;have J:Inv X qK σ H {s with heap:=h'}:=I.turned (t':=s.toks) (λb o f e=>U.extBut b o f e) p f1 r t u;obtain⟨o,e,c,dd⟩:=id st';obtain⟨q,R,r1,T,r3⟩:=b0n S (aj hi);have Q:es[i].key=.ref q.2.1:=by
   have h1:es.toList[i]?=some es[i]:=by simp[j]
   rw[<-n]at G;rw[G,aX,R]at h1;injection h1 with h1
   rw[<-h1];rfl
  exact⟨_,rfl,a9p (s:={s with heap:=h'}) e c dd (by decide) ⟨.ref q.2.1,H,J,by rw[Q];rfl,⟨rfl,_,_,aj hi,rfl,T⟩,st',λb f=>(m b f).1⟩⟩
 done:=by
  intro X y hw x C i qK s σ H E I m st A;subst y hw x;obtain⟨g,hi⟩:=A;obtain⟨l,_⟩:=(show ObjOk X.prog X.w H s.heap d (.frz a (.dT qL))from I.hok d _ g);obtain⟨p,f1,f2,r,t,u⟩:=m it (by simp);exact a8Y (I.ok.hd C) st ⟨a,l,F,hd⟩ (by omega) λh' L=>⟨rfl,I.turned (t':=s.toks) (λb o f e=>L b o f e) p f1 r t u⟩
 self:=λ_ _ _ _ _ st h=>wpAny_pyIter_keyiter st h
def b6Z(tl:TE):TI:=λσ H R=>tl σ H λx H1=>∃d qL,x=.ref d/\H1 d=some (.dT qL)/\∀ob,R (Itd d ob qL) (upd H1 d (.frz ob (.dT qL)))
section
variable {tg:Expr}
def b5n{l:Expr}{tl:TE}(B:PE X l tl):PI X tg l (b6Z tl):=by
 intro qK s σ H R I h;refine thn (B qK s σ H _ I h) λv s1 ⟨x,H1,r,E,q1⟩=>?_;obtain⟨d,qL,rfl,hd,q⟩:=q1;cases E;obtain⟨D,c,p,u,f,es,ep,g,j,k,t,y⟩:=(show ObjOk X.prog X.w H1 s1.heap d (.dT qL)from r.hok _ _ hd);have m:qL.length=p.length:=Paired.length u;have C:es.size=qL.length:=by rw[m,<-az,t,ai]
 have n:KT (upd H1 d (.frz f (.dT qL))) qL p:=Paired.imp' (λa b ⟨F,w,G⟩=>⟨F,by rw[A5 (M0 w hd (by intro z;cases z))];exact w,G⟩) u;have i:Inv X qK σ (upd H1 d (.frz f (.dT qL))) s1:=r.write (x:=d) (e:=d) (t':=s1.toks) (by rw[hd];trivial) (.inl rfl) (λ_ _ _ q=>q) ⟨_,g⟩ ⟨g,D,c,p,n,f,es,ep,g,j,k,t,y⟩;refine a6v c ⟨f,g,j,k⟩ ?_;refine⟨s1.heap.objs.size,[s1.heap.objs.size],_,_,_,rfl,i.kept (t':=s1.toks) λb o e=>ae _ e,a7o d _ f es ep qL j k C,⟨_,aC _ rfl,rfl,rfl⟩,λb A=>?_,q f⟩;have e:b=s1.heap.objs.size:=by simpa using A
 subst e;exact i.fpOk (ak _) (i.hok.fresh (ak _))
def b5S{l:Expr}{tl:TE}(a:JE X l tl):JI X tg l (b6Z tl):=⟨b5n a.h⟩
end
def b0U{src:qA (qJ)}{g:TG}{k:TT}{te:TE}{σ:St}{Q:VK}{d:qE}{j:Obj}{H1:Hp}(s:qL.length<=sizeLine)(c:Nat->qA V->Hp->Prop)(h0:c 0 [] H1)
  (h:∀i ys H,i<=qL.length->c i ys H->H d=some (.frz j (.dT qL))/\ys.length<=i)
  (hs:∀i p a ys H,qL[i]?=some p->H a=some (.tup (p.1.map kV))->c i ys H->g (.ref a) (B2 src σ) H λσ2 H2=>Sub (B2 src σ) σ2/\k σ2 H2 λb f=>if b=true then te σ2 f λv l=>c (i+1) (ys++[v]) l else c (i+1) ys f)
  (hd:∀ys H,c qL.length ys H->∀p,H p=none->Q (.ref p) (upd H p (.lst ys))):E8 src g k te σ Q (Itd d j qL) H1 :=
 a1n qL.length c h0 (λi ys H hi p=>by
   obtain⟨q1,n⟩:=h i ys H (cK hi) p;refine⟨⟨q1,hi⟩,by omega,λx H' y=>?_⟩;obtain⟨e,m,a,o,q,r⟩:=y;subst e q;exact hs i m a ys _ o r p)
  λys H p=>by
   obtain⟨q1,n⟩:=h _ ys H (ak _) p;exact⟨⟨q1,ak _⟩,by omega,hd ys H p⟩
def b9O{i:Nat}{p:qA Key×V}(b:qL.map (·.1)=IK rss)(e:qL[i]?=some p):∃r,rss[i]?=some r/\p.1=r.map Sum.inl:=by
 have h1:(qL.map (·.1))[i]?=some p.1:=by rw[aX,e];rfl
 rw[b,IK,aX]at h1;cases a:rss[i]? with
 |none=>rw[a]at h1;cases h1
 |some r=>rw[a]at h1;injection h1 with h1;exact⟨r,rfl,h1.symm⟩
def b3G(a:qL.map (·.1)=IK rss):qL.length=rss.length:=by
 have:=aP List.length a;simpa[IK]using this
def b0R{src:qA (qJ)}{σ caps:St}{Q:VK}{d:qE}{o:Obj}{H:Hp}{te:TE}(f:qI->V)(t:qL.length<=sizeLine)(g:H d=some (.frz o (.dT qL)))(n:qL.map (·.1)=IK rss)(c:B2 src σ=none::caps)
  (l:∀v r H1 m,r∈rss->IT H1 v r->Same H H1->(∀H2,Same H1 H2->m (f r) H2)->te (some v::caps) H1 m) (hd:∀H1 p,Same H H1->H1 p=none->Q (.ref p) (upd H1 p (.lst (rss.map f)))):E8 src (B0 0) O3 te σ Q (Itd d o qL) H:=by
 have j:=b3G n;refine b0U (by omega) (λi ys H'=>Same H H'/\ys=(rss.take i).map f) ⟨Same.refl H,by simp⟩ (λi ys H' _ h=>⟨h.1 _ _ g,by rw[h.2,ai];exact bE _ _⟩) ?_ ?_
 .rintro i p a ys H' hx ha ⟨s,rfl⟩;obtain⟨r,b,k⟩:=b9O n hx;have q:=aH b;have e:IT H' (.ref a) r:=⟨a,rfl,by rw[ha,k,cG];rfl⟩;show Sub _ ((B2 src σ).set 0 (some (.ref a)))/\_;rw[c];refine⟨Sub.one,(l _ r H' _ q e s λH2 s2=>⟨s.trans s2,?_⟩)⟩;rw[ba,b,bF];rfl
 .rintro ys H' ⟨s,rfl⟩ p hp;rw[j,bg];exact hd H' p s hp
section
variable {o:Expr}{to:TE}{qO qM:Pos}
end
def b0g{κ:Type}[DecidableEq κ]{qL:qA (κ×V)}{k:κ}(v:V)(h:k∈qL.map (·.1)):(a0E qL k v).map (·.1)=qL.map (·.1):=by
 unfold a0E;obtain⟨p,a,rfl⟩:=aT.mp h;rw[av (bJ.mpr ⟨p,a,bj rfl⟩),cG];refine List.map_congr_left λq _=>?_;show(if q.1=p.1 then(q.1,v)else q).1=q.1;split<;>rfl
def b1A(sp:Sp)(t:TA):TX:=λD R σ H=>t σ H λvs H1=>sp vs H1 (λ_ H2=>D.nx σ H2) λc _ H'=>∃C,c=.ref C/\R σ C H'
def b2v{k:Nat}{ps:qA Str}{sp:Sp}{x:Str}{p pos qM:Pos}(l:∀e s,¬X.xe e s)(O:OkE X.prog X.w X.K X.mg X.base x k ps sp)(S:Room k X.A)(M:Gl X x)
  (J:PA X (e::es) t) (i:(x==("__debug__" : Str))=false:=by decide)
  (L:starEach (e::es) X.env=(false,eval e X.env)::starEach es X.env:=by rfl) (j:(backTo qM (starEach es X.env)).any (·.1)=false:=by rfl)
  (hs:swapsWith (.Call (.Name x p) (e::es) [] qM) none pos.line X.env=pure false:=by rfl) :
  PSx X [.Expr (.Call (.Name x p) (e::es) [] qM) pos] (b1A sp t):=by
 intro qK s σ H D R I h;obtain⟨f,fd,Q,N,K,F⟩:=O.ex;refine eG (wpAny_Expr_any ?_ I.quiet hs);refine dg (N3 I M Q ?_ i);refine PySem.W.callWith_K (h₀:=X.base) I.ok.mod.kin N (cH (J qM qK s σ H _ I h) (λd s1 ⟨U,H1,a,r,q⟩=>⟨a.kIn,?_⟩) λe s z=>absurd z (l e s)) L j;have P:d.length=ps.length:=by rw[<-r.length];exact F.len _ _ _ _ q
 have b:=K s1 d a.kIn (by rw[cp];exact P);rw[cp]at b;refine fi (de (F.run X.A X.stack s1 H1 ⟨d,[]⟩ d U _ _ S a.env0 b r q) λr s' c=>?_);cases r with
 |error e =>
  obtain⟨p,C,H',B,a0,h1,h2,n,o,w,y,A,E,V,G,g⟩:=c;cases G;exact⟨σ,H1,s1,p,C,H',B,a0,h1,a,h2,n,o,w,y,A,E,g⟩
 |ok fl =>
  cases fl with
  |ret u =>
   obtain⟨v,H2,m,W,T⟩:=a.after c;exact c_ ⟨σ,H2,m,T⟩
  |next=>exact False.elim c
  |brk=>exact False.elim c
  |cont=>exact False.elim c
section
variable {k:Nat}{ps:qA Str}{sp:Sp}{x:Str}{p pos qM:Pos}
def b5P(O:OkE X.prog X.w X.K X.mg X.base x k ps sp)(h:Room k X.A)(g:Gl X x)(d:JA X (e::es) t)(c:∀e s,¬X.xe e s:=by exact λ_ _ z=>z)(a:(x==("__debug__" : Str))=false:=by decide)
  (f:starEach (e::es) X.env=(false,eval e X.env)::starEach es X.env:=by rfl) (b:(backTo qM (starEach es X.env)).any (·.1)=false:=by rfl)
  (hs:swapsWith (.Call (.Name x p) (e::es) [] qM) none pos.line X.env=pure false:=by rfl) :
  JX X [.Expr (.Call (.Name x p) (e::es) [] qM) pos] (b1A sp t):=⟨b2v c O h g d.h a f b hs⟩
end
end L2
namespace L2
open PySem PySem.Spec PyProof.Rows
section
variable {prog:qG}{w:World}{A:Around}{E:qH}{s:qC}
end
section
variable {X:Cx}{pos:Pos}
end
section
variable {X:Cx}{es:qA Expr}{pos:Pos}
end
end L2
namespace L2
open PySem PySem.Spec PyProof.Rows PySem.W
variable {X:Cx}
section
variable {e:Expr}{es:qA Expr}{t:TA}{p pos:Pos}
end
section
variable {k v:Expr}{tk tv:TE}{pos:Pos}
end
end L2
section
open PySem PyProof.Rows
end
namespace L2
open PySem PySem.Spec PyProof.Rows
section
variable {X:Cx}
variable {o e:Expr}{es:qA Expr}{to:TE}{t:TA}{pos qO qM:Pos}
end
end L2
namespace L2
variable {α:Type}
def b9Y{us:qA α}(h:us.length=0):us=[]:=fq.mp h
def a2m{us:qA α}(h:us.length=1):∃a,us=[a]:=by
 cases us with
 |nil=>cases h
 |cons a us=>exact⟨a,by rw[b9Y (us:=us) (fg h)]⟩
def K1{us:qA α}(h:us.length=2):∃a b,us=[a,b]:=by
 cases us with
 |nil=>cases h
 |cons a us=>obtain⟨b,e⟩:=a2m (us:=us) (fg h);exact⟨a,b,by rw[e]⟩
def a3r{us:qA α}(h:us.length=3):∃a b c,us=[a,b,c]:=by
 cases us with
 |nil=>cases h
 |cons a us=>obtain⟨b,c,e⟩:=K1 (us:=us) (fg h);exact⟨a,b,c,by rw[e]⟩
def b3j{us:qA α}(h:us.length=4):∃a b c d,us=[a,b,c,d]:=by
 cases us with
 |nil=>cases h
 |cons a us=>obtain⟨b,c,d,e⟩:=a3r (us:=us) (fg h);exact⟨a,b,c,d,by rw[e]⟩
def b8m{us:qA α}(h:us.length=5):∃a b c d e,us=[a,b,c,d,e]:=by
 cases us with
 |nil=>cases h
 |cons a us=>obtain⟨b,c,d,e,q⟩:=b3j (us:=us) (fg h);exact⟨a,b,c,d,e,by rw[q]⟩
def b9X{us:qA α}(h:us.length=6):∃a b c d e f,us=[a,b,c,d,e,f]:=by
 cases us with
 |nil=>cases h
 |cons a us=>obtain⟨b,c,d,e,f,q⟩:=b8m (us:=us) (fg h);exact⟨a,b,c,d,e,f,by rw[q]⟩
section
open PySem PySem.Spec PyProof.Rows PySem.W
abbrev FnL(K:qF)(f:qE)(nm qn:Str)(st:Stmt)(oc:qB)(od:qD qE)(sl:Array (qD qB))(kV dc pm:qB)(an:qD qE)(cd ct:qB):Prop:=K.lookup f=some ⟨oc,od,.func (PySem.W.fnOf nm qn (T5 st) (E7 st) (A1 st) .none kV dc pm an cd ct),sl⟩
variable {K:qF}{h:Heap}{mg:Str->qD qB}{x qn:Str}{st:Stmt}{f:qE}{od an:qD qE}{sl:Array (qD qB)}{oc kV dc pm cd ct:qB}{C:qE}{m:Str}
def B3(X:K.In h)(G:h.Ns mainGlobals mg)(a:nsIn K mainGlobals x=some (some (.ref f)))(l:FnL K f x x st oc od sl kV dc pm an cd ct)(c:codeIn K cd x=true)(k:keepIn K (.ref f)=true){ps:qA Str}
  (e:∀(kV d pm:qB) (an:qD qE) (b ct:qB) (us:qA qB),us.length=ps.length->bindArgs (fnOf x x (T5 st) (E7 st) (A1 st) .none kV d pm an b ct) ⟨us,[]⟩=pure (ps.zip us):=by intro _ _ _ _ _ _ _ b;first|(obtain⟨_,rfl⟩:=a2m b;rfl)|(obtain⟨_,_,rfl⟩:=K1 b;rfl)|(obtain⟨_,_,_,rfl⟩:=a3r b;rfl)|(obtain⟨_,_,_,_,rfl⟩:=b3j b;rfl)|(obtain⟨_,_,_,_,_,rfl⟩:=b8m b;rfl)|(obtain⟨_,_,_,_,_,_,rfl⟩:=b9X b;rfl)):FunAt K mg x st ps:=⟨f,_,mg_of X G a,a3G (st:=st) l c k,(a3G (st:=st) l c k).binds e⟩
def a3o(a:findIn K (.ref C) m=some (some (.ref f)))(i:isFn K (.ref f)=true)(l:FnL K f m qn st oc od sl kV dc pm an cd ct)(c:codeIn K cd qn=true)(k:keepIn K (.ref f)=true){ps:qA Str}
  (e:∀(kV d pm:qB) (an:qD qE) (b ct:qB) (us:qA qB),us.length=ps.length->bindArgs (fnOf m qn (T5 st) (E7 st) (A1 st) .none kV d pm an b ct) ⟨us,[]⟩=pure (ps.zip us):=by intro _ _ _ _ _ _ _ b;first|(obtain⟨_,rfl⟩:=a2m b;rfl)|(obtain⟨_,_,rfl⟩:=K1 b;rfl)|(obtain⟨_,_,_,rfl⟩:=a3r b;rfl)|(obtain⟨_,_,_,_,rfl⟩:=b3j b;rfl)|(obtain⟨_,_,_,_,_,rfl⟩:=b8m b;rfl)|(obtain⟨_,_,_,_,_,_,rfl⟩:=b9X b;rfl)):MethAt K C m qn st ps:=⟨f,_,⟨a,i,k⟩,a3G (st:=st) l c k,(a3G (st:=st) l c k).binds e⟩
end
section
open PySem PySem.Spec PyProof.Rows PySem.W
variable {K:qF}{h:Heap}{mg:Str->qD qB}{x nm qn:Str}{C N:qE}{bs bm sub bmB above:qA qB}{hd ab:Bool}{sn:qA Str}{col:qD Bool}{dd:qD qE}{k0 k1 k2 k3 k5:qD qB}{qP:String}
def b2M(X:K.In h)(b:mg x=some (.ref C))(c:K.lookup C=some (excClassObj nm qn C N bs bm hd sn sub ab col dd k0 k1 k2 k3 k5 qP))(tx:tailIn K bmB bm=true)(ok:nsOkIn K N=true)(a:nsIn K N "__init__"=some none):OwnCls x C bmB qP mg h :=
 ⟨b,bm,N,nm,qn,bs,hd,sn,sub,ab,col,dd,k0,k1,k2,k3,k5,_,X _ _ c,.of_isNs (isNs_of_in X ok),nsMap_none_of_in X ok a,tail_of_in X tx⟩
end
inductive Ex1{α0:Type}(p:α0->Prop):Prop
 |mk (a0:α0) (h:p a0):Ex1 p
inductive Ex2{α0 α1:Type}(p:α0->α1->Prop):Prop
 |mk (a0:α0) (a1:α1) (h:p a0 a1):Ex2 p
inductive Ex3{α0 α1 α2:Type}(p:α0->α1->α2->Prop):Prop
 |mk (a0:α0) (a1:α1) (a2:α2) (h:p a0 a1 a2):Ex3 p
inductive Ex4{α0 α1 α2 α3:Type}(p:α0->α1->α2->α3->Prop):Prop
 |mk (a0:α0) (a1:α1) (a2:α2) (a3:α3) (h:p a0 a1 a2 a3):Ex4 p
inductive Ex5{α0 α1 α2 α3 α4:Type}(p:α0->α1->α2->α3->α4->Prop):Prop
 |mk (a0:α0) (a1:α1) (a2:α2) (a3:α3) (a4:α4) (h:p a0 a1 a2 a3 a4):Ex5 p
inductive Ex8{α0 α1 α2 α3 α4 α5 α6 α7:Type}(p:α0->α1->α2->α3->α4->α5->α6->α7->Prop):Prop
 |mk (a0:α0) (a1:α1) (a2:α2) (a3:α3) (a4:α4) (a5:α5) (a6:α6) (a7:α7) (h:p a0 a1 a2 a3 a4 a5 a6 a7):Ex8 p
inductive Ex10{α0 α1 α2 α3 α4 α5 α6 α7 α8 α9:Type}(p:α0->α1->α2->α3->α4->α5->α6->α7->α8->α9->Prop):Prop
 |mk (a0:α0) (a1:α1) (a2:α2) (a3:α3) (a4:α4) (a5:α5) (a6:α6) (a7:α7) (a8:α8) (a9:α9) (h:p a0 a1 a2 a3 a4 a5 a6 a7 a8 a9):Ex10 p
inductive An2(a0 a1:Prop):Prop
 |mk (h0:a0) (h1:a1):An2 a0 a1
inductive An3(a0 a1 a2:Prop):Prop
 |mk (h0:a0) (h1:a1) (h2:a2):An3 a0 a1 a2
inductive An4(a0 a1 a2 a3:Prop):Prop
 |mk (h0:a0) (h1:a1) (h2:a2) (h3:a3):An4 a0 a1 a2 a3
inductive An5(a0 a1 a2 a3 a4:Prop):Prop
 |mk (h0:a0) (h1:a1) (h2:a2) (h3:a3) (h4:a4):An5 a0 a1 a2 a3 a4
inductive An6(a0 a1 a2 a3 a4 a5:Prop):Prop
 |mk (h0:a0) (h1:a1) (h2:a2) (h3:a3) (h4:a4) (h5:a5):An6 a0 a1 a2 a3 a4 a5
inductive An7(a0 a1 a2 a3 a4 a5 a6:Prop):Prop
 |mk (h0:a0) (h1:a1) (h2:a2) (h3:a3) (h4:a4) (h5:a5) (h6:a6):An7 a0 a1 a2 a3 a4 a5 a6
inductive An9(a0 a1 a2 a3 a4 a5 a6 a7 a8:Prop):Prop
 |mk (h0:a0) (h1:a1) (h2:a2) (h3:a3) (h4:a4) (h5:a5) (h6:a6) (h7:a7) (h8:a8):An9 a0 a1 a2 a3 a4 a5 a6 a7 a8
inductive An10(a0 a1 a2 a3 a4 a5 a6 a7 a8 a9:Prop):Prop
 |mk (h0:a0) (h1:a1) (h2:a2) (h3:a3) (h4:a4) (h5:a5) (h6:a6) (h7:a7) (h8:a8) (h9:a9):An10 a0 a1 a2 a3 a4 a5 a6 a7 a8 a9
end L2
namespace L2
variable {i j k mask:Nat}{owner:Array (qJ)}{t:SetTable}{xs:Array Nat}{α:Type}
namespace Tab
open PySem
def gI:Nat->Nat->Nat
 |0,x=>x
 |n+1,x=>5*gI n x+1
def gS:Nat->Nat
 |0=>0
 |n+1=>5*gS n+1
def b7a:∀n x,gI n x=5 ^ n*x+gS n
 |0,x=>by simp[gI,gS]
 |n+1,x=>by
  rw[gI,b7a n x,gS,dm,Nat.mul_add,<-Nat.mul_assoc,fW 5 (5 ^ n)];omega
def a9r:∀n,4*gS n+1=5 ^ n
 |0=>rfl
 |n+1=>by
  have:=a9r n;rw[gS,dm];omega
def a3I:∀k,∃u,5 ^ (2 ^ k)=1+2 ^ (k+2)*(2*u+1)
 |0=>⟨0,rfl⟩
 |k+1=>by
  obtain⟨u,h⟩:=a3I k;refine⟨u+2 ^ k*(2*u+1)*(2*u+1),?_⟩;rw[dm 2 k,Nat.pow_mul,h,Nat.pow_two];have a:2 ^ (k+1+2)=8*2 ^ k:=by rw[Nat.pow_add,dm];omega
  have c:2 ^ (k+2)=4*2 ^ k:=by rw[Nat.pow_add,fW]
  rw[a,c];generalize 2 ^ k=b
  grind
def b8F(k:Nat):∃u,gS (2 ^ k)=2 ^ k*(2*u+1):=by
 obtain⟨u,h⟩:=a3I k;refine⟨u,?_⟩;have:=a9r (2 ^ k);have a:2 ^ (k+2)=4*2 ^ k:=by rw[Nat.pow_add,fW]
 rw[h,a,Nat.mul_assoc]at this;omega
def b6c(k y:Nat):gI (2 ^ k) y % 2 ^ (k+1)=(y+2 ^ k) % 2 ^ (k+1):=by
 obtain⟨u,h⟩:=a3I k;obtain⟨v,h2⟩:=b8F k;rw[b7a,h,h2];have e:(1+2 ^ (k+2)*(2*u+1))*y+2 ^ k*(2*v+1)=(y+2 ^ k)+2 ^ (k+1)*(2*(2*u+1)*y+v):=by
  have a:2 ^ (k+1)=2*2 ^ k:=by rw[dm];omega
  have c:2 ^ (k+2)=4*2 ^ k:=by rw[Nat.pow_add,fW]
  rw[a,c];generalize 2 ^ k=b
  grind
 rw[e,Nat.add_mul_mod_self_left]
def fI(M:Nat):Nat->Nat->Nat
 |0,x=>x
 |n+1,x=>(fI M n x*5+1) % M
def b3R(M:Nat)(x:Nat)(a:x<M):∀n,fI M n x=gI n x % M
 |0=>(cW a).symm
 |n+1=>by
  rw[fI,b3R M x a n,gI,fW,Nat.add_mod,Nat.mul_mod,Nat.mod_mod,<-Nat.mul_mod,<-Nat.add_mod]
def b3N(m:Nat):∀n x,gI (n+m) x=gI n (gI m x)
 |0,x=>by rw[dE];rfl
 |n+1,x=>by rw[Nat.add_right_comm,gI,b3N m n x,gI]
def b3M:∀(k x s:Nat),∃n,n<2 ^ k/\gI n x % 2 ^ k=s % 2 ^ k
 |0,x,s=>⟨0,by decide,by rw[Nat.pow_zero,Nat.mod_one,Nat.mod_one]⟩
 |k+1,x,s=>by
  obtain⟨n,l,h⟩:=b3M k x s;have f:2 ^ (k+1)=2*2 ^ k:=by rw[dm];omega
  have m:0<2 ^ k:=Nat.pow_pos (by decide);by_cases a:gI n x % 2 ^ (k+1)=s % 2 ^ (k+1)
  .exact⟨n,by omega,a⟩
  .refine⟨2 ^ k+n,by omega,?_⟩;rw[b3N,b6c];generalize gI n x=y at *;rw[f]at a⊢;generalize 2 ^ k=M at *;have a1:=Nat.mod_add_div y (2*M);have g:=Nat.mod_add_div s (2*M);have i:=fo y (show 0<2*M by omega);have j:=fo s (show 0<2*M by omega);have b:y % M=y % (2*M) % M:=(Nat.mod_mul_left_mod y 2 M).symm;have c:s % M=s % (2*M) % M:=(Nat.mod_mul_left_mod s 2 M).symm;rw[Nat.add_mod,cW (show M<2*M by omega)];generalize y % (2*M)=p at *;generalize s % (2*M)=q at *;rw[b,c]at h;have d:p % M=if p<M then p else p-M:=by
    split
    .exact cW (by assumption)
    .rw[Nat.mod_eq_sub_mod (by omega)];exact cW (by omega)
   have e:q % M=if q<M then q else q-M:=by
    split
    .exact cW (by assumption)
    .rw[Nat.mod_eq_sub_mod (by omega)];exact cW (by omega)
   rw[d,e]at h;split at h<;>split at h
   .omega
   .rw[cW (by omega)];omega
   .rw[show p+M=p-M+2*M by omega,Nat.add_mod_right,cW (by omega)];omega
   .omega
abbrev Pr:=SetTable.Probe
def adv(mask:Nat)(p:Pr):Pr :=
 if p.more > 0 then {p with j:=p.j+1,more:=p.more-1} else
 {p with j:=(SetTable.leap mask p.i p.perturb).1,more:=SetTable.runEnd mask (SetTable.leap mask p.i p.perturb).1-(SetTable.leap mask p.i p.perturb).1,i:=(SetTable.leap mask p.i p.perturb).1,perturb:=(SetTable.leap mask p.i p.perturb).2}
def b8U(t:SetTable)(p:Pr):t.advance p=adv t.mask p:=rfl
def C4(mask:Nat)(p:Pr):Nat->Pr
 |0=>p
 |n+1=>adv mask (C4 mask p n)
def J3(mask:Nat)(p:Pr):∀n,C4 mask p (n+1)=C4 mask (adv mask p) n
 |0=>rfl
 |n+1=>by rw[C4,J3 mask p n];rfl
def a0X(mask:Nat)(p:Pr)(m:Nat):∀n,C4 mask p (m+n)=C4 mask (C4 mask p m) n
 |0=>rfl
 |n+1=>by rw[<-dX,C4,a0X mask p m n];rfl
def a1u(mask:Nat)(p:Pr):∀n,(C4 mask p n).dummy=p.dummy
 |0=>rfl
 |n+1=>by
  rw[C4,<-a1u mask p n];unfold adv;split<;>rfl
def a1z(mask i pt:Nat):Pr:={j:=i,more:=SetTable.runEnd mask i-i,i,perturb:=pt,dummy:=none}
def st0(mask:Nat)(h:Int):Pr:=a1z mask (SetTable.bits h % (mask+1)) (SetTable.bits h)
def a1K(mask i pt:Nat):∀c,c<=SetTable.runEnd mask i-i->C4 mask (a1z mask i pt) c={j:=i+c,more:=SetTable.runEnd mask i-i-c,i,perturb:=pt,dummy:=none}
 |0,_=>rfl
 |c+1,h=>by
  rw[C4,a1K mask i pt c (by omega)];unfold adv;rw[av (show SetTable.runEnd mask i-i-c > 0 by omega)];simp only[SetTable.Probe.mk.injEq,and_true];omega
def b4O(mask i:Nat):SetTable.runEnd mask i-i<=9:=by
 unfold SetTable.runEnd;split<;>omega
def a6F(mask i pt:Nat):C4 mask (a1z mask i pt) (SetTable.runEnd mask i-i+1)=a1z mask (SetTable.leap mask i pt).1 (SetTable.leap mask i pt).2:=by
 rw[C4,a1K mask i pt _ (ak _)];unfold adv;rw[ao (by show ¬SetTable.runEnd mask i-i-(SetTable.runEnd mask i-i) > 0;omega)];rfl
def N0(mask:Nat)(i pt:Nat):Nat->Nat×Nat
 |0=>(i,pt)
 |k+1=>SetTable.leap mask (N0 mask i pt k).1 (N0 mask i pt k).2
def b2h(mask i pt:Nat):∀k,∃n,n<=10*k/\C4 mask (a1z mask i pt) n=a1z mask (N0 mask i pt k).1 (N0 mask i pt k).2
 |0=>⟨0,ak _,rfl⟩
 |k+1=>by
  obtain⟨n,h1,h2⟩:=b2h mask i pt k;have:=b4O mask (N0 mask i pt k).1;refine⟨n+(SetTable.runEnd mask (N0 mask i pt k).1-(N0 mask i pt k).1+1),by omega,?_⟩;rw[a0X,h2,a6F];rfl
def b2f(mask i pt:Nat):∀k,(N0 mask i pt k).2=pt / 32 ^ k
 |0=>by simp[N0]
 |k+1=>by
  rw[N0,dm,<-Nat.div_div_eq_div_mul,<-b2f mask i pt k];rfl
def a3b(mask i pt a:Nat):∀b,N0 mask i pt (a+b)=N0 mask (N0 mask i pt a).1 (N0 mask i pt a).2 b
 |0=>rfl
 |b+1=>by rw[<-dX,N0,a3b mask i pt a b];rfl
def a6t(mask i:Nat):∀k,N0 mask i 0 k=(fI (mask+1) k i,0)
 |0=>rfl
 |k+1=>by
  rw[N0,a6t mask i k];show((fI (mask+1) k i*5+1+0 / 32) % (mask+1),0 / 32)=_;rw[Nat.zero_div,Nat.add_zero];rfl
def b6i(h:Int):SetTable.bits h<2 ^ 64:=by
 unfold SetTable.bits;have h1:=d_ h (show(2:Int) ^ 64≠0 by decide);have h2:=dF h (show(0:Int)<2 ^ 64 by decide);omega
def b4P(mask i pt:Nat)(hi:i<=mask):∀k,(N0 mask i pt k).1<=mask
 |0=>hi
 |k+1=>by
  rw[N0];exact ek (fo _ (ff _))
def a6u(c:mask+1=2 ^ k)(h:Int)(s:Nat)(hs:s<=mask):∃r,r<mask+14/\(N0 mask (SetTable.bits h % (mask+1)) (SetTable.bits h) r).1=s:=by
 have b:=b6i h;have hi:=b4P mask (SetTable.bits h % (mask+1)) (SetTable.bits h) (ek (fo _ (ff _))) 13;have a:=b2f mask (SetTable.bits h % (mask+1)) (SetTable.bits h) 13;rw[Nat.div_eq_of_lt (aJ b (by decide))]at a;obtain⟨n,d,e⟩:=b3M k (N0 mask (SetTable.bits h % (mask+1)) (SetTable.bits h) 13).1 s;refine⟨13+n,by omega,?_⟩;rw[<-c]at e;rw[a3b,a,a6t];show fI _ _ _=s;rw[b3R _ _ (by omega),e];exact cW (by omega)
def pos(mask:Nat)(h:Int)(n:Nat):Nat:=(C4 mask (st0 mask h) n).j
def b2C(b:mask+1=2 ^ k)(h:Int)(s:Nat)(hs:s<=mask):∃n,n<10*SetTable.turns mask/\pos mask h n=s:=by
 obtain⟨r,d,e⟩:=a6u b h s hs;obtain⟨n,c,a⟩:=b2h mask (SetTable.bits h % (mask+1)) (SetTable.bits h) r;refine⟨n,by unfold SetTable.turns;omega,?_⟩;unfold pos st0;rw[a,<-e];rfl
def a3R(xs:Array Nat)(j:Nat)(k:∀a b:Nat,a<b->b<xs.size->xs.getD a 0<xs.getD b 0):∀(fuel lo hi:Nat),hi-lo<=fuel->lo<=hi->hi<=xs.size->(∀i,i<lo->xs.getD i 0<j)->(∀i,hi<=i->i<xs.size->j<=xs.getD i 0) ->
  SetTable.below.go xs j fuel lo hi<=xs.size/\(∀i,i<SetTable.below.go xs j fuel lo hi->xs.getD i 0<j)/\∀i,SetTable.below.go xs j fuel lo hi<=i->i<xs.size->j<=xs.getD i 0
 |0,lo,hi,h1,h2,c,d,f=>by
  have:hi=lo:=by omega
  subst this;exact⟨c,d,f⟩
 |fuel+1,lo,hi,h1,h2,c,d,f=>by
  unfold SetTable.below.go;by_cases h:lo<hi
  .rw[av h];have n:(lo+hi) / 2<hi/\lo<=(lo+hi) / 2:=by omega
   have m:xs.getD ((lo+hi) / 2) j=xs.getD ((lo+hi) / 2) 0:=by
    have:(lo+hi) / 2<xs.size:=by omega
    simp[Array.getD,this]
   dsimp only;rw[m];by_cases g:xs.getD ((lo+hi) / 2) 0<j
   .rw[av g];refine a3R xs j k fuel _ _ (by omega) (by omega) c (λi l=>?_) f;by_cases e:i=(lo+hi) / 2
    .rw[e];exact g
    .exact fU (k i _ (by omega) (by omega)) g
   .rw[ao g];refine a3R xs j k fuel _ _ (by omega) (by omega) (by omega) d (λi l hs=>?_);by_cases e:i=(lo+hi) / 2
    .rw[e];omega
    .have:=k ((lo+hi) / 2) i (by omega) hs;omega
  .rw[ao h];have:hi=lo:=by omega
   subst this;exact⟨c,d,f⟩
def Ris(xs:Array Nat):Prop:=∀a b:Nat,a<b->b<xs.size->xs.getD a 0<xs.getD b 0
def J0(a:Ris xs)(j:Nat):SetTable.below xs j<=xs.size/\(∀i,i<SetTable.below xs j->xs.getD i 0<j)/\∀i,SetTable.below xs j<=i->i<xs.size->j<=xs.getD i 0 :=
 a3R xs j a xs.size 0 xs.size (by omega) (by omega) (ak _) (λi h=>absurd h (by omega)) (λi h1 h2=>absurd h2 (by omega))
def a1k(h:i<xs.size):xs[i]?=some (xs.getD i 0):=by simp[Array.getD,h]
def a1q(a:Ris xs)(h:xs[i]?=some j):SetTable.below xs j=i:=by
 obtain⟨d,b,c⟩:=J0 a j;have hi:i<xs.size:=(df.mp h).1;have e:xs.getD i 0=j:=by have:=a1k hi;rw[h]at this;injection this with this;exact this.symm
 rcases du (SetTable.below xs j) i with z|z|z
 .have h1:=c _ (ak _) (by omega);have h2:=a _ _ z hi;omega
 .exact z
 .have:=b i z;omega
def a1P(a:Ris xs)(j:Nat):xs[SetTable.below xs j]?=some j↔j∈xs:=by
 constructor
 .intro h;exact Array.mem_of_getElem? h
 .intro h;obtain⟨i,hi⟩:=Array.mem_iff_getElem?.mp h;rw[a1q a hi];exact hi
def a8Q(a:Ris t.place)(hd:t.dummies=#[])(j:Nat):t.slot j=if j∈t.place then .live (SetTable.below t.place j)else .empty:=by
 unfold SetTable.slot;dsimp only;by_cases h:j∈t.place
 .rw[av h,av];rw[(a1P a j).mpr h];simp
 .rw[ao h,ao,hd]
  .rw[ao];unfold SetTable.has;simp
  .intro z;exact h ((a1P a j).mp (by simpa using z))
def a6B{t:SetTable}(i:Ris t.place)(hd:t.dummies=#[])(a:Nat->Int)(h:Int):∀(fuel:Nat) (p:Pr),p.dummy=none->(∃n,n<fuel/\(C4 t.mask p n).j∉t.place) ->
  (∃n,(C4 t.mask p n).j∉t.place/\(∀m,m<n->(C4 t.mask p m).j∈t.place/\a (SetTable.below t.place (C4 t.mask p m).j)≠h)/\SetTable.probe.go t a h fuel p=some (.empty (C4 t.mask p n).j none)) ∨
  ∃n,(C4 t.mask p n).j∈t.place/\a (SetTable.below t.place (C4 t.mask p n).j)=h/\(∀m,m<n->(C4 t.mask p m).j∈t.place/\a (SetTable.below t.place (C4 t.mask p m).j)≠h)/\SetTable.probe.go t a h fuel p=some (.candidate (C4 t.mask p n).j (SetTable.below t.place (C4 t.mask p n).j) (C4 t.mask p (n+1)))
 |0,p,_,⟨n,g,_⟩=>absurd g (by omega)
 |fuel+1,p,c,⟨n,g,f⟩=>by
  unfold SetTable.probe.go;rw[a8Q i hd];by_cases b:p.j∈t.place
  .rw[av b];dsimp only;by_cases d:a (SetTable.below t.place p.j)=h
   .right;refine⟨0,b,d,λm e=>absurd e (by omega),?_⟩;rw[av (by simpa using d)];rfl
   .have hn0:n≠0:=λz=>f (by rw[z];exact b);obtain⟨n,rfl⟩:∃k,n=k+1:=⟨n-1,by omega⟩;rw[J3]at f;rw[ao (by simpa using d),b8U];have first:∀N,(∀m,m<N->(C4 t.mask (adv t.mask p) m).j∈t.place/\a (SetTable.below t.place (C4 t.mask (adv t.mask p) m).j)≠h)->∀m,m<N+1->(C4 t.mask p m).j∈t.place/\a (SetTable.below t.place (C4 t.mask p m).j)≠h:=λN j m e=>by
     cases m with
     |zero=>exact⟨b,d⟩
     |succ m=>rw[J3];exact j m (by omega)
    rcases a6B i hd a h fuel (adv t.mask p) (by rw[<-c];exact a1u t.mask p 1) ⟨n,by omega,f⟩with⟨N,h1,h2,h3⟩|⟨N,h1,h2,h3,h4⟩
    .left;exact⟨N+1,by rw[J3];exact h1,first N h2,by rw[J3];exact h3⟩
    .right;exact⟨N+1,by rw[J3];exact h1,by rw[J3];exact h2,first N h3,by rw[J3,J3];exact h4⟩
  .rw[ao b];left;refine⟨0,b,λm e=>absurd e (by omega),?_⟩;show some (SetTable.Met.empty p.j p.dummy)=_;rw[c];rfl
def a0f(xs:Array α)(p:Nat)(x:α)(hp:p<=xs.size):(SetTable.insertAt xs p x).toList=xs.toList.take p++x::xs.toList.drop p:=by
 unfold SetTable.insertAt;simp only[bX,cZ,eQ,List.extract_eq_take_drop,cX,Nat.sub_zero,aI,List.singleton_append];rw[bP (l:=List.drop p xs.toList) (by simp)]
def ris_list:Ris xs↔xs.toList.Pairwise (· < ·):=by
 rw[eW];unfold Ris;constructor
 .intro h i j hi hj hij;have:=h i j hij (by simpa using hj);simpa[Array.getD,show i<xs.size by simpa using hi,show j<xs.size by simpa using hj]using this
 .intro h a b hab hb;have:=h a b (by simp;omega) (by simpa using hb) hab;simpa[Array.getD,show a<xs.size by omega,hb]using this
def a4C(h:i<xs.toList.length):xs.getD i 0=xs.toList[i]:=by
 have h':i<xs.size:=by simpa using h
 simp[Array.getD,h']
def b4z(b:Ris xs){x:Nat}(h:x∈xs.toList.take (SetTable.below xs j)):x<j:=by
 obtain⟨c,a,d⟩:=J0 b j;obtain⟨i,hi,rfl⟩:=bR.mp h;rw[aN]at hi;rw[fA,<-a4C];exact a i (by omega)
def a9v(d:Ris xs){x:Nat}(c:j∉xs)(h:x∈xs.toList.drop (SetTable.below xs j)):j<x:=by
 obtain⟨e,f,b⟩:=J0 d j;have a:x∈xs:=by simpa using cJ h
 obtain⟨i,hi,rfl⟩:=bR.mp h;rw[bQ]at hi;rw[fB,<-a4C]at a⊢;have:=b (SetTable.below xs j+i) (by omega) (by simp at hi;omega);rcases Nat.lt_or_eq_of_le this with z|z
 .exact z
 .exact absurd (z ▸ a) c
def b4Q(a:Ris xs)(c:j∉xs):Ris (SetTable.insertAt xs (SetTable.below xs j) j):=by
 rw[ris_list,a0f _ _ _ (J0 a j).1];have d:=ris_list.mp a;rw[bG,cT];refine⟨d.take,⟨λy b=>a9v a c b,d.drop⟩,λx e y b=>?_⟩;have h1:=b4z a e;rcases aA.mp b with z|z
 .rw[z];exact h1
 .exact fU h1 (a9v a c z)
def a5B{p x:Nat}(hp:p<=xs.size):x∈SetTable.insertAt xs p j↔x=j∨x∈xs:=by
 rw[<-eI,a0f _ _ _ hp,aD,aA,<-eI];constructor
 .rintro(h|h|h)
  .exact .inr (bT h)
  .exact .inl h
  .exact .inr (cJ h)
 .rintro(h|h)
  .exact .inr (.inl h)
  .rw[<-bo p xs.toList]at h;rcases aD.mp h with z|z
   .exact .inl z
   .exact .inr (.inr z)
def nodup_le{α:Type}[DecidableEq α]:∀(a b:qA α),a.Nodup->(∀x∈a,x∈b)->a.length<=b.length
 |[],b,_,_=>bw _
 |x::a,b,e,h=>by
  obtain⟨h1,h2⟩:=cq.mp e;have c:=h x ax;have:=nodup_le a (b.erase x) h2 λy d=>(List.mem_erase_of_ne (λz:y=x=>h1 (z ▸ d))).mpr (h y (au _ d));rw[List.length_erase_of_mem c]at this;have:=List.length_pos_of_mem c;rw[aZ];omega
structure TabOk{α:Type}(t:SetTable)(es:Array (Int×α)):Prop where
 size:t.place.size=es.size
 dum:t.dummies=#[]
 ris:Ris t.place
 le:∀j∈t.place,j<=t.mask
 pow:∃k,3<=k/\t.mask+1=2 ^ k
 room:es.size<=t.mask
 reach:∀(i j:Nat) (e:Int×α),t.place[i]?=some j->es[i]?=some e->∃n,pos t.mask e.1 n=j/\∀m,m<n->pos t.mask e.1 m∈t.place
def TabOk.free{es:Array (Int×α)}(h:TabOk t es)(x:Int):∃n,n<10*SetTable.turns t.mask/\pos t.mask x n∉t.place:=by
 obtain⟨k,_,e⟩:=h.pow;have:∃s,s<=t.mask/\s∉t.place:=by
  refine bY λd=>?_;have a:∀s,s<t.mask+1->s∈t.place.toList:=λs hs=>by
   refine bY λz=>d ⟨s,by omega,λq=>z (by simpa using q)⟩
  have:=nodup_le (List.range (t.mask+1)) t.place.toList fL λs hs=>a s (bf.mp hs);rw[fD,az,h.size]at this;have:=h.room;omega
 obtain⟨s,hs,f⟩:=this;obtain⟨n,b,c⟩:=b2C e x s hs;exact⟨n,b,by rw[c];exact f⟩
def TabOk.first{es:Array (Int×α)}(h:TabOk t es)(x:Int):∃N,N<10*SetTable.turns t.mask/\pos t.mask x N∉t.place/\∀m,m<N->pos t.mask x m∈t.place:=by
 obtain⟨n,d,c⟩:=h.free x;induction n using Nat.strongRecOn with
 |ind n e =>
  by_cases b:∃m,m<n/\pos t.mask x m∉t.place
  .obtain⟨m,a,hm2⟩:=b;exact e m a (by omega) hm2
  .exact⟨n,d,c,λm a=>bY λz=>b ⟨m,a,z⟩⟩
def a9q{xs:Array α}{p:Nat}{x:α}(hp:p<=xs.size)(i:Nat):(SetTable.insertAt xs p x)[i]?=if i<p then xs[i]? else if i=p then some x else xs[i-1]?:=by
 rw[<-ay,a0f _ _ _ hp];by_cases h1:i<p
 .rw[av h1,bx (by rw[aN,az];omega),di h1,ay]
 .rw[ao h1,a' (by rw[aN,az];omega),aN,az,dj hp];by_cases h2:i=p
  .rw[av h2,h2,fX];rfl
  .rw[ao h2];obtain⟨c,a⟩:∃c,i-p=c+1:=⟨i-p-1,by omega⟩;rw[a,List.getElem?_cons_succ,eZ,ay];congr 1;omega
def TabOk.add{es:Array (Int×α)}(h:TabOk t es){x:Int}{v:α}{N:Nat}(h1:pos t.mask x N∉t.place)(h2:∀m,m<N->pos t.mask x m∈t.place)(l:pos t.mask x N<=t.mask)(d:es.size<t.mask) :
  TabOk (t.put (pos t.mask x N)).1 (SetTable.insertAt es (t.put (pos t.mask x N)).2 (x,v)):=by
 have g:=(J0 h.ris (pos t.mask x N)).1;have hd:(t.put (pos t.mask x N)).1.dummies=#[]:=by
  show(if SetTable.has t.dummies (pos t.mask x N)=true then _ else t.dummies)=#[];rw[h.dum,ao];unfold SetTable.has;simp
 have c:SetTable.below t.place (pos t.mask x N)<=es.size:=by rw[<-h.size];exact g
 have f:∀{β:Type}(xs:Array β) (p:Nat) (y:β),p<=xs.size->(SetTable.insertAt xs p y).size=xs.size+1:=λxs p y u=>by
  rw[<-az,a0f _ _ _ u,ar,aZ,aN,bQ,az];omega
 refine⟨?_,hd,b4Q h.ris h1,λj s=>?_,h.pow,?_,λi j e b a=>?_⟩
 .show(SetTable.insertAt t.place (SetTable.below t.place (pos t.mask x N)) _).size=(SetTable.insertAt es (SetTable.below t.place (pos t.mask x N)) _).size;rw[f _ _ _ g,f _ _ _ c,h.size]
 .rcases(a5B g).mp s with z|z
  .rw[z];exact l
  .exact h.le j z
 .show(SetTable.insertAt es (SetTable.below t.place (pos t.mask x N)) _).size<=t.mask;rw[f _ _ _ c];exact d
 .change (SetTable.insertAt t.place (SetTable.below t.place (pos t.mask x N)) (pos t.mask x N))[i]?=some j at b;change (SetTable.insertAt es (SetTable.below t.place (pos t.mask x N)) (x,v))[i]?=some e at a;rw[a9q g]at b;rw[a9q c]at a;show ∃n,pos t.mask e.1 n=j/\∀m,m<n->pos t.mask e.1 m∈SetTable.insertAt t.place (SetTable.below t.place (pos t.mask x N)) (pos t.mask x N);have old:∀k,t.place[k]?=some j->es[k]?=some e->∃n,pos t.mask e.1 n=j/\∀m,m<n->pos t.mask e.1 m∈SetTable.insertAt t.place (SetTable.below t.place (pos t.mask x N)) (pos t.mask x N):=λk q1 A=>by
   obtain⟨n,n1,w⟩:=h.reach k j e q1 A;exact⟨n,n1,λm o=>(a5B g).mpr (.inr (w m o))⟩
  by_cases q:i<SetTable.below t.place (pos t.mask x N)
  .rw[av q]at b a;exact old i b a
  .rw[ao q]at b a;by_cases r:i=SetTable.below t.place (pos t.mask x N)
   .rw[av r]at b a;cases b;cases a;exact⟨N,rfl,λm o=>(a5B g).mpr (.inr (h2 m o))⟩
   .rw[ao r]at b a;exact old _ b a
def a4q(hi:i<=mask):SetTable.runEnd mask i<=mask:=by
 unfold SetTable.runEnd;split<;>omega
def b1x(mask:Nat)(p:Pr)(h:p.j+p.more<=mask):∀n,(C4 mask p n).j+(C4 mask p n).more<=mask
 |0=>h
 |n+1=>by
  have b:=b1x mask p h n;rw[C4];unfold adv;split
  .dsimp only;omega
  .dsimp only;have h1:(SetTable.leap mask (C4 mask p n).i (C4 mask p n).perturb).1<=mask:=ek (fo _ (ff _));have h2:=a4q h1;have a:(SetTable.leap mask (C4 mask p n).i (C4 mask p n).perturb).1<=SetTable.runEnd mask (SetTable.leap mask (C4 mask p n).i (C4 mask p n).perturb).1:=by
    unfold SetTable.runEnd;split<;>omega
   omega
def a1A(mask:Nat)(h:Int)(n:Nat):pos mask h n<=mask:=by
 have h1:SetTable.bits h % (mask+1)<=mask:=ek (fo _ (ff _));have h2:=a4q h1;have a:SetTable.bits h % (mask+1)<=SetTable.runEnd mask (SetTable.bits h % (mask+1)):=by
  unfold SetTable.runEnd;split<;>omega
 have:=b1x mask (st0 mask h) (by show SetTable.bits h % (mask+1)+(SetTable.runEnd mask (SetTable.bits h % (mask+1))-SetTable.bits h % (mask+1))<=mask;omega) n;unfold pos;omega
def fr(owner:Array (qJ))(j:Nat):Bool:=(owner.getD j (some 0)).isNone
def a9s(mask:Nat)(owner:Array (qJ)):∀(fuel i pt:Nat),(∃r,r<fuel/\fr owner (N0 mask i pt r).1=true) ->
  ∃n,fr owner (C4 mask (a1z mask i pt) n).j=true/\(∀m,m<n->fr owner (C4 mask (a1z mask i pt) m).j=false)/\SetTable.layClean.free mask owner fuel i pt=some (C4 mask (a1z mask i pt) n).j
 |0,_,_,⟨r,h,_⟩=>absurd h (by omega)
 |fuel+1,i,pt,⟨r,h,b⟩=>by
  unfold SetTable.layClean.free;have q:i<=SetTable.runEnd mask i:=by
   unfold SetTable.runEnd;split<;>omega
  cases e:(List.range (SetTable.runEnd mask i+1-i)).find? (λk=>(owner.getD (i+k) (some 0)).isNone)with
  |some k =>
   dsimp only;rw[List.find?_range_eq_some]at e;obtain⟨j,l,o⟩:=e;have s:=bf.mp l;refine⟨k,?_,λm d=>?_,?_⟩
   .rw[a1K mask i pt k (by omega)];exact j
   .rw[a1K mask i pt m (by omega)];have:=o m d;simpa[fr]using this
   .rw[a1K mask i pt k (by omega)]
  |none =>
   dsimp only;rw[List.find?_range_eq_none]at e;have a:∀m,m<SetTable.runEnd mask i-i+1->fr owner (C4 mask (a1z mask i pt) m).j=false:=λm d=>by
    rw[a1K mask i pt m (by omega)];have:=e m (by omega);simpa[fr]using this
   cases r with
   |zero =>
    have:=a 0 (by omega);rw[show(C4 mask (a1z mask i pt) 0).j=(N0 mask i pt 0).1 from rfl,b]at this;cases this
   |succ r =>
    have c:fr owner (N0 mask (SetTable.leap mask i pt).1 (SetTable.leap mask i pt).2 r).1=true:=by
     rw[Nat.add_comm,a3b]at b;exact b
    obtain⟨n,h1,h2,p⟩:=a9s mask owner fuel (SetTable.leap mask i pt).1 (SetTable.leap mask i pt).2 ⟨r,by omega,c⟩;have key:∀m,C4 mask (a1z mask i pt) (SetTable.runEnd mask i-i+1+m)=C4 mask (a1z mask (SetTable.leap mask i pt).1 (SetTable.leap mask i pt).2) m:=λm=>by
     rw[a0X,a6F]
    refine⟨SetTable.runEnd mask i-i+1+n,by rw[key];exact h1,λm d=>?_,by rw[key];exact p⟩;by_cases f:m<SetTable.runEnd mask i-i+1
    .exact a m f
    .obtain⟨g,rfl⟩:∃g,m=SetTable.runEnd mask i-i+1+g:=⟨m-(SetTable.runEnd mask i-i+1),by omega⟩;rw[key];exact h2 g (by omega)
structure Lay(mask:Nat)(owner:Array (qJ))(hs:qI):Prop where
 size:owner.size=mask+1
 val:∀j q:Nat,owner[j]?=some (some q)->∃h,hs[q]?=some h/\∃n,pos mask h n=j/\∀m,m<n->fr owner (pos mask h m)=false
 ex:∀q,q<hs.length->∃j:Nat,owner[j]?=some (some q)
 uniq:∀j j' q:Nat,owner[j]?=some (some q)->owner[j']?=some (some q)->j=j'
def a0g(hs:owner.size=mask+1)(a:j<=mask):fr owner j=false↔∃q,owner[j]?=some (some q):=by
 have h:j<owner.size:=by omega
 unfold fr;rw[bM h,show owner.getD j (some 0)=owner[j] by simp[Array.getD,h]];cases owner[j]with
 |none=>simp
 |some q=>simp
def Lay.start(mask:Nat):Lay mask (Array.replicate (mask+1) none) []:=by
 refine⟨by simp,λj q h=>?_,λq h=>absurd h (by simp),λj a q h=>?_⟩<;>
 .rw[Array.getElem?_replicate]at h;split at h
  .cases h
  .cases h
def Lay.free(z:mask+1=2 ^ k){hs:qI}(L:Lay mask owner hs)(A:hs.length<=mask)(h:Int):∃n,fr owner (pos mask h n)=true/\(∀m,m<n->fr owner (pos mask h m)=false)/\SetTable.layClean.free mask owner (SetTable.turns mask) (SetTable.bits h % (mask+1)) (SetTable.bits h)=some (pos mask h n):=by
 have:∃s,s<=mask/\fr owner s=true:=by
  refine bY λl=>?_;have c:∀s:Nat,s<=mask->∃q,owner[s]?=some (some q):=λs hs=>by
   rw[<-a0g L.size hs];cases e:fr owner s with
   |false=>rfl
   |true=>exact absurd ⟨s,hs,e⟩ l
  have:=nodup_le ((List.range (mask+1)).map λj=>(owner.getD j none).getD 0) (List.range hs.length) ?_ ?_
  .rw[ai,fD,fD]at this;omega
  .rw[eT,bL];refine(eT.mp fL).imp_of_mem λ{a b} v w i e=>i ?_;obtain⟨q,d⟩:=c a (by have:=bf.mp v;omega);obtain⟨t,f⟩:=c b (by have:=bf.mp w;omega);have g:owner.getD a none=some q:=by rw[bO,d];rfl
   have u:owner.getD b none=some t:=by rw[bO,f];rfl
   rw[g,u]at e;change q=t at e;exact L.uniq a b q d (e ▸ f)
  .intro x hx;obtain⟨j,y,rfl⟩:=aT.mp hx;obtain⟨q,d⟩:=c j (by have:=bf.mp y;omega);obtain⟨h',h1,_⟩:=L.val j q d;have g:owner.getD j none=some q:=by rw[bO,d];rfl
   rw[g];exact bf.mpr (aL.mp h1).1
 obtain⟨s,o,p⟩:=this;obtain⟨r,B,e⟩:=a6u z h s o;exact a9s mask owner _ _ _ ⟨r,by unfold SetTable.turns;omega,by rw[e];exact p⟩
def Lay.put{hs:qI}(L:Lay mask owner hs){h:Int}{n:Nat}(h1:fr owner (pos mask h n)=true)(h2:∀m,m<n->fr owner (pos mask h m)=false):Lay mask (owner.setIfInBounds (pos mask h n) (some hs.length)) (hs++[h]):=by
 have p:pos mask h n<owner.size:=by have:=a1A mask h n;rw[L.size];omega
 have i:∀q,owner[pos mask h n]?≠some (some q):=λq z=>by
  have:=(a0g L.size (a1A mask h n)).mpr ⟨q,z⟩;rw[h1]at this;cases this
 have get:∀j:Nat,(owner.setIfInBounds (pos mask h n) (some hs.length))[j]?=if j=pos mask h n then some (some hs.length)else owner[j]?:=λj=>by
  rw[Array.getElem?_setIfInBounds];by_cases e:pos mask h n=j
  .rw[av e,av e.symm,av p]
  .rw[ao e,ao λz=>e z.symm]
 have d:(owner.setIfInBounds (pos mask h n) (some hs.length)).size=mask+1:=by rw[fc,L.size]
 have keep:∀j,j<=mask->fr owner j=false->fr (owner.setIfInBounds (pos mask h n) (some hs.length)) j=false:=λj b e=>by
  rw[a0g d b,get];split
  .exact⟨_,rfl⟩
  .exact(a0g L.size b).mp e
 refine⟨d,λj q e=>?_,λq r=>?_,λj k q e a=>?_⟩
 .rw[get]at e;by_cases c:j=pos mask h n
  .rw[av c]at e;cases e;exact⟨h,by rw[a' (ak _),fX];rfl,n,c.symm,λm g=>keep _ (a1A mask h m) (h2 m g)⟩
  .rw[ao c]at e;obtain⟨h',f,s,l,o⟩:=L.val j q e;exact⟨h',by rw[bx (aL.mp f).1];exact f,s,l,λm g=>keep _ (a1A mask h' m) (o m g)⟩
 .by_cases c:q=hs.length
  .exact⟨pos mask h n,by rw[get,av rfl,c]⟩
  .rw[ar,eC]at r;obtain⟨j,b⟩:=L.ex q (by omega);refine⟨j,?_⟩;rw[get,ao]
   .exact b
   .intro z;exact i q (z ▸ b)
 .rw[get]at e a;have lt:∀j:Nat,owner[j]?=some (some q)->q<hs.length:=λj z=>by
   obtain⟨_,f,_⟩:=L.val j q z;exact(aL.mp f).1
  by_cases c:j=pos mask h n
  .by_cases c':k=pos mask h n
   .rw[c,c']
   .rw[av c]at e;rw[ao c']at a;cases e;exact absurd (lt _ a) (by omega)
  .by_cases c':k=pos mask h n
   .rw[ao c]at e;rw[av c']at a;cases a;exact absurd (lt _ e) (by omega)
   .rw[ao c]at e;rw[ao c']at a;exact L.uniq j k q e a
def a6N{mask k:Nat}(e:mask+1=2 ^ k):∀(rest done:qI) (owner:Array (qJ)),Lay mask owner done->done.length+rest.length<=mask ->
  ∃a,rest.foldl (λb h=>do
   let (owner,k) <-b
   let j <-SetTable.layClean.free mask owner (SetTable.turns mask) (SetTable.bits h % (mask+1)) (SetTable.bits h)
   pure (owner.setIfInBounds j (some k),k+1)) (some (owner,done.length))=some (a,(done++rest).length)/\Lay mask a (done++rest)
 |[],done,owner,L,_=>⟨owner,by simp,by simpa using L⟩
 |h::rest,done,owner,L,g=>by
  rw[aZ]at g;obtain⟨n,h1,h2,f⟩:=L.free e (by omega) h;obtain⟨a,c,d⟩:=a6N e rest (done++[h]) _ (L.put h1 h2) (by rw[ar,eC];omega);refine⟨a,?_,by rw[aI]at d;exact d⟩;rw[dI];rw[aI]at c;refine Eq.trans (aP (λz=>List.foldl _ z rest) ?_) c;show(Option.bind (SetTable.layClean.free mask owner (SetTable.turns mask) (SetTable.bits h % (mask+1)) (SetTable.bits h)) λj=>some (owner.setIfInBounds j (some done.length),done.length+1))=_;rw[f,ar];rfl
def a6O(d:mask+1=2 ^ k)(a:Array Int)(e:a.size<=mask):∃owner,SetTable.layClean mask a=some owner/\Lay mask owner a.toList:=by
 obtain⟨owner,b,c⟩:=a6N d a.toList [] _ (Lay.start mask) (by simpa using e);refine⟨owner,?_,c⟩;unfold SetTable.layClean;rw[<-Array.foldl_toList];exact aP (Option.map (·.1)) b
def a8c{α β:Type}(f:α->qD β):∀l:qA α,(∀x∈l,(f x).isSome=true)->(l.filterMap f).map some=l.map f
 |[],_=>rfl
 |x::l,h=>by
  have c:=a8c f l λy b=>h y (au _ b);have a:=h x ax;cases e:f x with
  |none=>rw[e]at a;cases a
  |some y=>rw[List.filterMap_cons_some e,aV,aV,c,e]
def b2n(es:Array α):(List.range es.size).filterMap (es[·]?)=es.toList:=by
 have h1:((List.range es.size).filterMap (es[·]?)).map some=(List.range es.size).map (es[·]?):=a8c _ _ λq a=>by
  have:=bf.mp a;simp[this]
 have h2:es.toList.map some=(List.range es.size).map (es[·]?):=by
  refine fJ (by simp) λi h1 h2=>?_;simp at h1;simp[h1]
 exact(List.map_inj_right (λ_ _ h=>bB h)).mp (h1.trans h2.symm)
def D9(mask:Nat)(owner:Array (qJ)):qA (Nat×Nat):=(List.range (mask+1)).filterMap λj=>(owner.getD j none).map (j,·)
def O6(hs:owner.size=mask+1)(j q:Nat):(j,q)∈D9 mask owner↔owner[j]?=some (some q):=by
 unfold D9;rw[cf];constructor
 .rintro⟨j',a,e⟩;have a:=bf.mp a;rw[fH]at e;obtain⟨f,b,c⟩:=e;cases c;rw[bO,bM (by omega)]at b;rw[bM (by omega)];exact aP some b
 .intro e;have d:j<owner.size:=(df.mp e).1;exact⟨j,bf.mpr (by omega),by rw[bO,e];rfl⟩
def b3i(mask:Nat)(owner:Array (qJ)):(D9 mask owner).Pairwise λa b=>a.1<b.1:=by
 unfold D9;refine List.Pairwise.filterMap _ (λa b c p d q e=>?_) List.pairwise_lt_range;rw[fH]at d e;obtain⟨_,_,rfl⟩:=d;obtain⟨_,_,rfl⟩:=e;exact c
def b5N(E:mask+1=2 ^ k)(I:3<=k)(es:Array (Int×α))(F:es.size<=mask)(finger moves:Nat)(led plain:Bool) :
  ∃t' d,SetTable.laid mask finger moves led plain (es.map (·.1))=some (t',d)/\t'.mask=mask/\t'.led=led/\t'.plain=plain/\TabOk t' (d.filterMap (es[·]?))/\(d.filterMap (es[·]?)).toList.Perm es.toList:=by
 obtain⟨c,e,L⟩:=a6O E (es.map (·.1)) (by simpa using F);refine⟨{mask,place:=((D9 mask c).map (·.1)).toArray,dummies:=#[],finger,led,moves,plain},((D9 mask c).map (·.2)).toArray,?_,rfl,rfl,rfl,?_⟩
 .unfold SetTable.laid;rw[e];rfl
 have A:∀p∈D9 mask c,p.2<es.size:=λp o=>by
  obtain⟨h,h1,_⟩:=L.val p.1 p.2 ((O6 L.size p.1 p.2).mp o);have:=(aL.mp h1).1;simpa using this
 have w:=b3i mask c;have nd:((D9 mask c).map (·.2)).Nodup:=by
  rw[eT,bL];refine w.imp_of_mem λ{a b} J M K z=>?_;have h1:=(O6 L.size a.1 a.2).mp J;have h2:=(O6 L.size b.1 b.2).mp M;rw[z]at h1;have:=L.uniq _ _ _ h1 h2;omega
 have g:∀q,q∈(D9 mask c).map (·.2)↔q∈List.range es.size:=λq=>by
  rw[bf];constructor
  .intro u;obtain⟨p,o,rfl⟩:=aT.mp u;exact A p o
  .intro u;obtain⟨j,s⟩:=L.ex q (by simpa using u);exact aT.mpr ⟨(j,q),(O6 L.size j q).mpr s,rfl⟩
 have perm:((D9 mask c).map (·.2)).Perm (List.range es.size):=(List.perm_ext_iff_of_nodup nd fL).mpr g;have r:∀l:qA Nat,(l.toArray.filterMap (es[·]?)).toList=l.filterMap (es[·]?):=λl=>by simp
 have f:(((D9 mask c).map (·.2)).filterMap (es[·]?)).map some=((D9 mask c).map (·.2)).map (es[·]?):=a8c _ _ λq u=>by
  have:=bf.mp ((g q).mp u);simp[this]
 have v:(((D9 mask c).map (·.2)).toArray.filterMap (es[·]?)).size=(D9 mask c).length:=by
  have:=aP List.length f;rw[ai,ai,ai]at this;rw[<-az,r];exact this
 have t:(D9 mask c).length=es.size:=by
  have:=perm.length_eq;rw[ai,fD]at this;exact this
 refine⟨⟨?_,rfl,?_,λj s=>?_,⟨k,I,E⟩,by rw[v,t];exact F,λi j y x D=>?_⟩,?_⟩
 .rw[v];simp
 .rw[ris_list];show((D9 mask c).map (·.1)).Pairwise (· < ·);rw[bL];exact w
 .have s:j∈(D9 mask c).map (·.1):=by simpa using s
  obtain⟨p,o,rfl⟩:=aT.mp s;have:=(df.mp ((O6 L.size p.1 p.2).mp o)).1;rw[L.size]at this;show p.1<=mask;omega
 .have x:((D9 mask c).map (·.1))[i]?=some j:=by simpa using x
  rw[<-ay,r]at D;rw[aX,fH]at x;obtain⟨p,o,rfl⟩:=x;have h1:=aP (λl=>l[i]?) f;simp only[aX,D,o,Option.map_some]at h1;injection h1 with h1
  have B:=(O6 L.size p.1 p.2).mp (aH o);obtain⟨h,q1,n,G,H⟩:=L.val p.1 p.2 B;have N:h=y.1:=by
   rw[ay,Array.getElem?_map,<-h1]at q1;injection q1 with q1
   exact q1.symm
  rw[N]at G H;refine⟨n,G,λm O=>?_⟩;obtain⟨P,C⟩:=(a0g L.size (a1A mask _ m)).mp (H m O);have:pos mask y.1 m∈(D9 mask c).map (·.1):=aT.mpr ⟨_,(O6 L.size _ P).mpr C,rfl⟩;show pos mask y.1 m∈((D9 mask c).map (·.1)).toArray;simpa using this
 .rw[r];refine(perm.filterMap _).trans (List.Perm.of_eq ?_);exact b2n es
def a8R(n:Nat):∀(fuel a:Nat),3<=a->n<2 ^ (a+fuel)->∃b,3<=b/\SetTable.sizeAbove.go n fuel (2 ^ a)=2 ^ b/\n<2 ^ b/\(b=a∨2 ^ b<=2*n)
 |0,a,c,h=>⟨a,c,rfl,h,.inl rfl⟩
 |fuel+1,a,c,h=>by
  unfold SetTable.sizeAbove.go;by_cases d:2 ^ a<=n
  .rw[av d,<-dm];obtain⟨b,e,f,g,i⟩:=a8R n fuel (a+1) (by omega) (by rw[dX,Nat.add_comm 1];exact h);refine⟨b,e,f,g,.inr ?_⟩;rcases i with z|z
   .rw[z,dm];omega
   .exact z
  .rw[ao d];exact⟨a,c,rfl,by omega,.inl rfl⟩
def a1a(n:Nat)(h:n<2 ^ 60):∃b,3<=b/\SetTable.sizeAbove n=2 ^ b/\n<2 ^ b/\(b=3∨2 ^ b<=2*n) :=
 a8R n 64 3 (ak _) (aJ h (by decide))
def b0c(t:SetTable)(es:Array (Int×α))(a:Nat)(hw:a<2 ^ 60)(m:es.size<a) :
  ∃t' c,t.relaid (es.map (·.1)) a=some (t',c)/\a<=t'.mask/\t'.mask<=2*a+7/\t'.led=t.led/\t'.plain=t.plain/\TabOk t' (c.filterMap (es[·]?))/\(c.filterMap (es[·]?)).toList.Perm es.toList:=by
 obtain⟨b,d,e,l,f⟩:=a1a a hw;have n:0<2 ^ b:=Nat.pow_pos (by decide);unfold SetTable.relaid;rw[e];obtain⟨t',c,h1,h2,g,h,i,j⟩:=b5N (mask:=2 ^ b-1) (k:=b) (by omega) d es (by omega) t.finger (t.movedTo (2 ^ b-1)) t.led t.plain;refine⟨t',c,h1,by rw[h2];omega,?_,g,h,i,j⟩;rw[h2];rcases f with z|z
 .rw[z];omega
 .omega
end Tab
end L2
namespace L2
variable {Q:Bool->qC->Prop}{a:qE}{r:qI}
namespace Tab
open PySem
section
variable {prog:qG}{w:World}{A:Around}{E:qH}{s:qC}
abbrev TK(prog:qG)(w:World)(h:Heap)(r:qI)(a:qE):Prop:=IsTupleKey (intKind prog w) h r a
def TK.keep{h h':Heap}(x:TK prog w h r a)(k:∀b o,h.get? b=some o->h'.get? b=some o):TK prog w h' r a:=by
 obtain⟨o,its,n,h1,h2⟩:=x;exact⟨o,its,n,k _ _ h1,h2⟩
def items_int{vs:qA qB}(h:ItemsAre (intKind prog w) r vs):∀v∈vs,∃i t,v=.int i t:=by
 induction h with
 |nil=>intro v b;cases b
 |@cons k v ks vs h1 _ c =>
  intro u a;rcases aA.mp a with e|a
  .obtain⟨t,ht⟩:=Value.isInt_shape h1;exact⟨k,t,e.trans ht⟩
  .exact c u a
def a6E(e:TK prog w s.heap r a)(h:Q false s):wpAny (model prog w) A (ofAClassStatement 8 (.ref a)) Q E s:=by
 have f:=e.typeIs;obtain⟨o,d,n,g,_,hd,hi⟩:=e;have c:=items_int hi;unfold ofAClassStatement;refine aa (eB f ?_);dsimp only;rw[av (by decide)];refine aa (ag ?_);rw[ao (by decide)];refine aa (cL g hd ?_);dsimp only;refine aa ?_;rw[<-Array.forIn_toList];refine wpAny_forIn_list _ (λrest b s'=>s'=s/\b.1=none/\∀v∈rest,∃i t,v=Value.int i t) _ ?_ ?_ _ _ ⟨rfl,rfl,c⟩
 .rintro x rest b s' ⟨rfl,hb,hr⟩;obtain⟨i,t,rfl⟩:=hr x ax;refine aa (m:=ofAClassStatement 7 (.int i t)) (ag ?_);rw[ao (by decide)];exact ag ⟨rfl,rfl,λv j=>hr v (au _ j)⟩
 .rintro b s' ⟨rfl,hb,_⟩;rw[hb];exact ag h
def b4j(e:TK prog w s.heap r a)(h:Q true s):wpAny (model prog w) A (hashByValue 8 (.ref a)) Q E s:=by
 have f:=e.typeIs;obtain⟨o,c,n,g,_,hd,hi⟩:=e;have d:=items_int hi;unfold hashByValue;refine aa (wpAny_specialOf f F.slot_tuple_hash.lookup ?_);dsimp only;refine aa (cL g hd ?_);refine aa ?_;show wpAny _ _ (forIn c _ _) _ _ _;rw[<-Array.forIn_toList];refine wpAny_forIn_list _ (λrest b s'=>s'=s/\b.1=none/\∀v∈rest,∃i t,v=Value.int i t) _ ?_ ?_ _ _ ⟨rfl,rfl,d⟩
 .rintro x rest b s' ⟨rfl,hb,hr⟩;obtain⟨i,t,rfl⟩:=hr x ax;refine aa (m:=hashByValue 7 (.int i t)) (ag ?_);rw[ao (by decide)];exact ag ⟨rfl,rfl,λv j=>hr v (au _ j)⟩
 .rintro b s' ⟨rfl,hb,_⟩;rw[hb];exact ag h
def b3d{b:qE}{l:qA qB}(f:TK prog w s.heap r b)(g:∀y∈l,∃a b',y=.ref b'/\TK prog w s.heap a b')(h:Q false s):wpAny (model prog w) A (searchCouldBeSeen (.ref b) l) Q E s:=by
 unfold searchCouldBeSeen;refine aa ?_;refine wpAny_forIn_list _ (λrest c s'=>s'=s/\c.1=none/\∀y∈rest,∃a b',y=.ref b'/\TK prog w s.heap a b') _ ?_ ?_ _ _ ⟨rfl,rfl,g⟩
 .rintro x rest c s' ⟨rfl,hc,hr⟩;obtain⟨a,b',rfl,d⟩:=hr x ax;have e:∀y∈rest,∃a b',y=.ref b'/\TK prog w s'.heap a b':=λv i=>hr v (au _ i);dsimp only;split
  .exact ag ⟨rfl,rfl,e⟩
  .refine aa ((tupleKind (intKind prog w)).quiet f ?_);rw[ao (by decide)];refine aa ((tupleKind (intKind prog w)).quiet d ?_);rw[ao (by decide)];refine aa (a6E f ?_);rw[ao (by decide)];refine aa (a6E d ?_);rw[ao (by decide)];exact ag ⟨rfl,rfl,e⟩
 .rintro c s' ⟨rfl,hc,_⟩;dsimp only;rw[hc];exact ag h
def hsh(prog:qG)(w:World)(r:qI):Int:=tupleKeyHash (intKind prog w) r
def ent(prog:qG)(w:World)(x:qI×qE):Int×qB:=(hsh prog w x.1,Value.ref x.2)
def G5{α:Type}{t:SetTable}{es:Array (Int×α)}(ok:TabOk t es):t.fits es.size=true:=by
 unfold SetTable.fits SetTable.fill;have:=ok.room;simp[ok.size,ok.dum,this]
def b8l{α:Type}{t:SetTable}{es:Array (Int×α)}(ok:TabOk t es):t.gaveWay=false:=by
 obtain⟨k,b,a⟩:=ok.pow;obtain⟨c,rfl⟩:∃c,k=c+1:=⟨k-1,by omega⟩;rw[dm]at a;unfold SetTable.gaveWay;have:t.mask % 2=1:=by omega
 rw[this];rfl
def b3k{c:Bool}{m:Sem Bool}{X Y:Sem SetFound}{Q:SetFound->qC->Prop}(b:∀a:Bool->qC->Prop,a false s->wpAny (model prog w) A m a E s)(h:wpAny (model prog w) A Y Q E s):wpAny (model prog w) A (if c=true then m>>=λz=>if z=true then X else Y else Y) Q E s:=by
 split
 .refine aa (b _ ?_);rw[ao (by decide)];exact h
 .exact h
def a4o{a b:qE}{r:qI}{o:Obj}{es:Array (Int×qB)}{ep:Nat}{t:SetTable}{xs:qA (qI×qE)}{Q:SetFound->qC->Prop}(S:s.heap.get? a=some o)(hd:o.data=.set es ep t)(ok:TabOk t es)
  (F:∀e∈es.toList,∃x∈xs,e=ent prog w x) (M:∀x∈xs,ent prog w x∈es.toList) (g:∀x∈xs,TK prog w s.heap x.1 x.2) (R:TK prog w s.heap r b) (X:A.units<cLine) {N:Nat}(Z:N<10*SetTable.turns t.mask) (j:pos t.mask (hsh prog w r) N∉t.place) (q:∀m,m<N->pos t.mask (hsh prog w r) m∈t.place)
  (J:r∈xs.map (·.1)->Q (.there none) s) (B:r∉xs.map (·.1)->Q (.free (pos t.mask (hsh prog w r) N) false) s) :
  ∀(fuel d:Nat) (st:qD SetTable.Probe),N-d<fuel->d<=N->st.getD (t.probeStart (hsh prog w r))=C4 t.mask (st0 t.mask (hsh prog w r)) d->(∀m,m<d->∀(i:Nat) (x:qI×qE),x∈xs->t.place[i]?=some (pos t.mask (hsh prog w r) m)->es[i]?=some (ent prog w x)->x.1≠r) ->
   wpAny (model prog w) A (setSearchFrom a (.ref b) (hsh prog w r) true fuel st) Q E s
 |0,d,st,h,_,_,_=>absurd h (by omega)
 |fuel+1,d,st,hf,a2,U,L=>by
  unfold setSearchFrom;refine aa (cx S hd (G5 ok) ?_);dsimp only;rw[b8l ok,ao (by decide),U];have f:∀m,(C4 t.mask (C4 t.mask (st0 t.mask (hsh prog w r)) d) m).j=pos t.mask (hsh prog w r) (d+m):=λm=>by rw[<-a0X];rfl
  have W:∀(i:Nat) (e:Int×qB),es[i]?=some e->(es[i]?.map (·.1)).getD 0=e.1:=λi e z=>by rw[z];rfl
  have O:∀n,d+n<N↔pos t.mask (hsh prog w r) (d+n)∈t.place/\∀m,m<n->pos t.mask (hsh prog w r) (d+m)∈t.place:=λn=>by
   constructor
   .intro h;exact⟨q _ h,λm K=>q _ (by omega)⟩
   .rintro⟨h1,h2⟩;rcases du (d+n) N with z|z|z
    .exact z
    .rw[z]at h1;exact absurd h1 j
    .have:=h2 (N-d) (by omega);rw[show d+(N-d)=N by omega]at this;exact absurd this j
  rcases a6B ok.ris ok.dum (λi=>(es[i]?.map (·.1)).getD 0) (hsh prog w r) (10*SetTable.turns t.mask) (C4 t.mask (st0 t.mask (hsh prog w r)) d) (by rw[a1u];rfl) ⟨N-d,by omega,by rw[f,show d+(N-d)=N by omega];exact j⟩with⟨n,h1,h2,h3⟩|⟨n,h1,h2,h3,h4⟩
  .have h3:t.probe (λi=>(es[i]?.map (·.1)).getD 0) (hsh prog w r) (C4 t.mask (st0 t.mask (hsh prog w r)) d)=_:=h3;erw [h3];dsimp only;rw[f]at h1⊢;have e:d+n=N:=by
    rcases du (d+n) N with z|z|z
    .exact absurd (q _ z) h1
    .exact z
    .have:=(h2 (N-d) (by omega)).1;rw[f,show d+(N-d)=N by omega]at this;exact absurd this j
   rw[e];refine ag (B λK=>?_);obtain⟨x,H,rfl⟩:=aT.mp K;obtain⟨i,hi⟩:=cw.mp (M x H);rw[ay]at hi;have u:i<t.place.size:=by rw[ok.size];exact(df.mp hi).1
   obtain⟨p,q1,Y⟩:=ok.reach i _ _ (a1k u) hi;change pos t.mask (hsh prog w x.1) p=_ at q1;change ∀m,m<p->pos t.mask (hsh prog w x.1) m∈t.place at Y;have k:t.place[i]?=some (pos t.mask (hsh prog w x.1) p):=by rw[q1];exact a1k u
   have a1:p<N:=by
    rcases du p N with z|z|z
    .exact z
    .rw[z]at k;exact absurd (Array.mem_of_getElem? k) j
    .exact absurd (Y N z) j
   by_cases c:p<d
   .exact L p c i x H k hi rfl
   .have C:=(h2 (p-d) (by omega)).2;rw[f,show d+(p-d)=p by omega,a1q ok.ris k,W i _ hi]at C;exact C rfl
  .have h4:t.probe (λi=>(es[i]?.map (·.1)).getD 0) (hsh prog w r) (C4 t.mask (st0 t.mask (hsh prog w r)) d)=_:=h4;erw [h4];dsimp only;rw[f]at h1 h2⊢;have a0:d+n<N:=(O n).mpr ⟨h1,λm K=>by have:=(h3 m K).1;rw[f]at this;exact this⟩;have k:=(a1P ok.ris _).mpr h1;generalize I:SetTable.below t.place (pos t.mask (hsh prog w r) (d+n))=ib at h2 k⊢;have u:ib<es.size:=by rw[<-ok.size];exact(df.mp k).1
   obtain⟨x,H,ex⟩:=F es[ib] (by simp);have D:es[ib]?=some (ent prog w x):=by rw[bM u,ex]
   rw[D];dsimp only;refine b3k (λQ' hq=>b3d R (λy hy=>?_) hq) ?_
   .obtain⟨e,P,rfl⟩:=aT.mp hy;have P:e∈es:=by
     have:=eI.mp P;exact(Array.mem_filter.mp this).1
    obtain⟨G,v,ex'⟩:=F e (by simpa using P);exact⟨G.1,G.2,by rw[ex'];rfl,g G v⟩
   refine aa (ck ((tupleKind (intKind prog w)).eqBool X (g x H) R ?_));refine aa (cx S hd (G5 ok) ?_);dsimp only;by_cases l:x.1=r
   .rw[av (by rw[bj l];rfl)];exact ag (J (aT.mpr ⟨x,H,l⟩))
   .rw[ao (by rw[bK l];decide)];have sm:t.sameMemory t.moves t.mask=some true:=by unfold SetTable.sameMemory;simp
    rw[sm];dsimp only;rw[av rfl,a8Q ok.ris ok.dum,av h1];dsimp only;rw[I,D];dsimp only;refine aa (wpAny_isSame_ref_self ?_);rw[av rfl];refine aa (ag ?_);dsimp only;rw[ao (by rw[bK l];decide)];refine a4o S hd ok F M g R X Z j q J B fuel (d+n+1) _ (by omega) (by omega) (by rw[<-a0X];rfl) λm K i G v T hi=>?_;by_cases c:m<d
    .exact L m c i G v T hi
    .by_cases c2:m=d+n
     .subst c2;have:ib=i:=by rw[<-I];exact a1q ok.ris T
      subst this;rw[D]at hi;injection hi with hi
      have C:x.2=G.2:=by
       have:=aP Prod.snd hi;injection this
      intro z;have V:=g x H;rw[C]at V;exact l ((V.inj (g G v)).trans z)
     .have C:=(h3 (m-d) (by omega)).2;rw[f,show d+(m-d)=m by omega,a1q ok.ris T,W i _ hi]at C;intro z;exact C (by rw[<-z];rfl)
def a0k(prog:qG)(w:World)(ld:Bool)(h:Heap)(a:qE)(xs:qA (qI×qE)):Prop :=
 ∃o es ep t,h.get? a=some o/\o.ExactSet/\o.data=.set es ep t/\es.toList.Perm (xs.map (ent prog w))/\TabOk t es/\t.plain=true/\es.size*5<t.mask*3/\t.mask<=8*xs.length+7/\t.led=ld
def b8V{ld:Bool}{b:qE}{xs:qA (qI×qE)}(hS:a0k prog w ld s.heap a xs)(L:∀x∈xs,TK prog w s.heap x.1 x.2)(Z:TK prog w s.heap r b)(hu:A.units<cLine)(hl:xs.length<1000)
  (h:∀h' H c,Heap.SameBut a s.heap h'->a0k prog w ld h' a H->((r∈xs.map (·.1)/\H=xs)∨(r∉xs.map (·.1)/\H=(r,b)::xs))->Q c {s with heap:=h',toks:=s.toks+(r.length+1)}):wpAny (model prog w) A (setAdd a (.ref b)) Q E s:=by
 obtain⟨o,es,ep,t,I,C,hd,q,ok,F,a1,a0,O⟩:=hS;have a2:es.size=xs.length:=by rw[<-az,q.length_eq,ai]
 unfold setAdd;refine ck (aa (wpAny_pyHash_tuple hu Z ?_));unfold setAddHashed;refine ck ?_;unfold setAddHashedIn;refine aa (cx (s:={s with toks:=s.toks+(r.length+1)}) I hd (G5 ok) ?_);dsimp only;rw[show byScan (.ref b) es=false from rfl,ao (by decide)];unfold setSearch;obtain⟨N,hN,J,K⟩:=ok.first (hsh prog w r);have a6:N<100000:=by unfold SetTable.turns at hN;omega
 refine aa (a4o (s:={s with toks:=s.toks+(r.length+1)}) (xs:=xs) I hd ok (λe he=>?_) (λx hx=>q.mem_iff.mpr (aT.mpr ⟨x,hx,rfl⟩)) L Z hu hN J K (λY=>?_) (λB=>?_) 100000 0 none (by omega) (bw _) rfl (λm hm=>absurd hm (by omega)))
 .obtain⟨x,hx,rfl⟩:=aT.mp (q.mem_iff.mp he);exact⟨x,hx,rfl⟩
 .refine ag ?_;exact h s.heap xs false (Heap.SameBut.refl a s.heap) ⟨o,es,ep,t,I,C,hd,q,ok,F,a1,a0,O⟩ (.inl ⟨Y,rfl⟩)
 .dsimp only;refine aa (cx (s:={s with toks:=s.toks+(r.length+1)}) I hd (G5 ok) ?_);dsimp only;rw[av (show(t.put (pos t.mask (hsh prog w r) N)).1.plain=true from F)];refine aa (b4j (s:={s with toks:=s.toks+(r.length+1)}) Z ?_);simp only[↓reduceIte,Bool.not_false,Bool.true_and];have k:=ok.add (v:=Value.ref b) J K (a1A _ _ _) (by omega);have P:(t.put (pos t.mask (hsh prog w r) N)).1.mask=t.mask:=rfl;have p:(t.put (pos t.mask (hsh prog w r) N)).1.plain=true:=F;have n:(t.put (pos t.mask (hsh prog w r) N)).1.led=ld:=O;have V:(t.put (pos t.mask (hsh prog w r) N)).2<=es.size:=by
   have:=(J0 ok.ris (pos t.mask (hsh prog w r) N)).1;rw[ok.size]at this;exact this
  have M:=a0f es (t.put (pos t.mask (hsh prog w r) N)).2 (hsh prog w r,Value.ref b) V;change wpAny _ _ (storeSet a (SetTable.insertAt es (t.put (pos t.mask (hsh prog w r) N)).2 (hsh prog w r,Value.ref b)) _>>=_) _ _ _;generalize (t.put (pos t.mask (hsh prog w r) N)).1=l at k P p n⊢;generalize SetTable.insertAt es (t.put (pos t.mask (hsh prog w r) N)).2 (hsh prog w r,Value.ref b)=d at k M⊢;have u:d.toList.Perm (((r,b)::xs).map (ent prog w)):=by
   rw[M];refine List.perm_middle.trans ?_;rw[bo,aV];exact List.Perm.cons _ q
  have R:d.size=xs.length+1:=by rw[<-az,u.length_eq,ai,aZ]
  have S:d.size<=sizeLine:=by rw[aU];omega
  refine aa (wpAny_storeSet_of (s:={s with toks:=s.toks+(r.length+1)}) I hd ?_ S);have y:(s.heap.update a (Obj.putSet d l)).get? a=some {o with data:=.set d (ep+1) l}:=by
   have:=cQ (Obj.putSet d l) I (by rw[putSet_of d l hd];rfl);rw[putSet_of d l hd]at this;exact this
  have U:=cD s.heap a (Obj.putSet d l);have hf1:l.fill=d.size:=by unfold SetTable.fill;rw[k.size,k.dum];rfl
  by_cases f:l.tooFull=true
  .rw[av f];unfold SetTable.tooFull at f;rw[hf1,bD]at f;refine aa ?_;unfold setRelay;refine aa (cx (s:={s with heap:=s.heap.update a (Obj.putSet d l),toks:=s.toks+(r.length+1)}) y rfl (G5 k) ?_);dsimp only;have X:SetTable.grown (es.size+1)=4*(xs.length+1):=by
    unfold SetTable.grown;rw[ao (by omega),a2];omega
   rw[X];obtain⟨sb,a5,a3,a8,a4⟩:=a1a (4*(xs.length+1)) (by omega);have a7:SetTable.sizeAbove (4*(xs.length+1))<=16000:=by
    rw[a3];rcases a4 with z|z
    .rw[z];decide
    .omega
   rw[ao (by rw[aU];omega)];obtain⟨G,g,r1,r2,r3,r4,r5,T,D⟩:=b0c l d (4*(xs.length+1)) (by omega) (by omega);rw[r1];have i:(g.filterMap (d[·]?)).size=d.size:=by rw[<-az,D.length_eq,az]
   refine aa ?_;show wpAny _ _ (if ((g.filterMap (d[·]?)).size != d.size)=true then _ else pure (g.filterMap (d[·]?),G)) _ _ _;rw[ao (by rw[i];simp)];refine ag ?_;dsimp only;generalize g.filterMap (d[·]?)=j at T D i⊢;refine wpAny_storeSet_of (s:={s with heap:=s.heap.update a (Obj.putSet d l),toks:=s.toks+(r.length+1)}) y rfl ?_ (by rw[i];exact S);have W:((s.heap.update a (Obj.putSet d l)).update a (Obj.putSet j G)).get? a=some {o with data:=.set j (ep+1+1) G}:=by
    have:=cQ (Obj.putSet j G) y (by rw[putSet_of j G rfl];rfl);rw[putSet_of j G rfl]at this;exact this
   refine ag (h _ ((r,b)::xs) true (U.trans (cD _ a _)) ⟨_,j,_,G,W,C,rfl,D.trans u,T,by rw[r5];exact p,?_,?_,by rw[r4];exact n⟩ (.inr ⟨B,rfl⟩))
   .rw[i,R];omega
   .rw[aZ];omega
  .rw[ao f];unfold SetTable.tooFull at f;rw[hf1,bD]at f;refine ag (h _ ((r,b)::xs) true U ⟨_,d,_,l,y,C,rfl,u,k,p,by omega,?_,n⟩ (.inr ⟨B,rfl⟩));rw[aZ,P];omega
end
end Tab
end L2
namespace L2
namespace Tab
open PySem
structure Came(rows:Nat->qI×qE)(i:Nat)(xs:qA (qI×qE)):Prop where
 len:xs.length<=i
 nd:(xs.map (·.1)).Nodup
 from_:∀x∈xs,∃j,j<i/\x=rows j
 all:∀j,j<i->(rows j).1∈xs.map (·.1)
section
variable {prog:qG}{w:World}{A:Around}{R:Result->qC->Prop}{I:qE}{fp wr:qA qE}{G:Array GenState->Array GenState->Prop}{n:Nat}{P:Nat->qB->Prop}{St:Nat->qC->Prop}
def a6f(W:WalksS prog w A.in1 I fp wr G n P St)(S:qE)(C:S∉fp){ld:Bool}{h0:Heap}(K:∀b o,h0.get? b=some o->b∉wr/\b≠S)(a:Nat->qI×qE)
  (J:∀i v,i<n->P i v->v=.ref (a i).2) (l:∀i,i<n->TK prog w h0 (a i).1 (a i).2) (hn:n<=1000) (hu:A.units+10<cLine) :
  ∀(k i:Nat) (s:qC) (xs:qA (qI×qE)),n-i=k->i<=n->St i s->(∀b o,h0.get? b=some o->s.heap.get? b=some o)->a0k prog w ld s.heap S xs->Came a i xs ->
   (∀s' f,Moved (S::wr) G s s'->a0k prog w ld s'.heap S f->Came a n f->R (.ok (.ret .none)) s') ->
   codeAny (model prog w) A (.builtin "set.update.loop" ⟨[.ref S,.ref I],[]⟩) R s:=by
 have D:S∉wr:=λh=>C (W.sub _ h);have m:∀b∈wr,b∈S::wr:=λb E=>au _ E;intro k;induction k with
 |zero =>
  intro i s xs hk hi q u Q d hR;have V:i=n:=by omega
  subst V;refine dk PyProof.Rows.F.entry_set_update_loop ?_;rw[dN dG _];show wpAny _ A.in1 (pyNext (.ref I)>>=_) _ _ s;refine aa (W.done s _ _ q λs' r=>?_);show wpAny _ A.in1 (ret Value.none) _ _ s';refine ag (hR s' xs (r.mono m) ?_ d);obtain⟨o,es,ep,t,X,rest⟩:=Q;exact⟨o,es,ep,t,r.heap S _ D X,rest⟩
 |succ k ih =>
  intro i s xs hk hi q u Q d hR;have g:i<n:=by omega
  refine dk PyProof.Rows.F.entry_set_update_loop ?_;rw[dN dG _];show wpAny _ A.in1 (pyNext (.ref I)>>=_) _ _ s;refine aa (W.item i s _ _ g q λv s' hP H r=>?_);obtain rfl:=J i v g hP;have T:a0k prog w ld s'.heap S xs:=by
   obtain⟨o,es,ep,tb,X,rest⟩:=Q;exact⟨o,es,ep,tb,r.heap S _ D X,rest⟩
  have p:∀b o,h0.get? b=some o->s'.heap.get? b=some o:=λb o e=>r.heap b o (K b o e).1 (u b o e);show wpAny _ A.in1 (holding [Value.ref (a i).2] (setAdd S (.ref (a i).2))>>=_) _ _ s';refine aa (ck (b8V T (λx L=>?_) ((l i g).keep p) (show A.units+1<cLine by omega) (by have:=d.len;omega) λh' f c hsb U Y=>?_))
  .obtain⟨j,N,rfl⟩:=d.from_ x L;exact(l j (by omega)).keep p
  have O:Came a (i+1) f:=by
   rcases Y with⟨h1,rfl⟩|⟨h1,rfl⟩
   .refine⟨by have:=d.len;omega,d.nd,λx L=>?_,λj N=>?_⟩
    .obtain⟨j,N,e⟩:=d.from_ x L;exact⟨j,by omega,e⟩
    .by_cases c:j=i
     .rw[c];exact h1
     .exact d.all j (by omega)
   .refine⟨by have:=d.len;rw[aZ];omega,by rw[aV,cq];exact⟨h1,d.nd⟩,λx L=>?_,λj N=>?_⟩
    .rcases aA.mp L with z|z
     .exact⟨i,by omega,z⟩
     .obtain⟨j,N,e⟩:=d.from_ x z;exact⟨j,by omega,e⟩
    .rw[aV];by_cases c:j=i
     .rw[c];exact ax
     .exact au _ (d.all j (by omega))
  refine ag ⟨plainId_quiet dG _,ih (i+1) _ f (by omega) g (W.frame _ s' _ _ H (b_ _ _) λb E o e=>?_) (λb o e=>?_) U O λZ M F B y=>?_⟩
  .rw[hsb.2 b (λh:b=S=>C (by rw[<-h];exact E))];exact e
  .show h'.get? b=some o;rw[hsb.2 b (K b o e).2];exact p b o e
  .refine hR Z M (Moved.trans W.gtrans ((r.mono m).then_heap (b_ _ _) λb o E e=>?_) F) B y;rw[hsb.2 b (λh:b=S=>E (by rw[h];exact ax))];exact e
end
section
variable {prog:qG}{w:World}{A:Around}{E:qH}{s:qC}
def a0L(a:qB){Q₁:qH}
  (h:Q₁ (.ref s.heap.objs.size) {s with heap:=s.heap.push {cls:=.type "set",dict:=none,data:=.set #[] 0 (.fresh 0 0 (!w.params.followText "set-order"))}}) :
  codeAny (model prog w) A (.call (.builtin "set.__new__") ⟨[.type "set",a],[]⟩) (wants Q₁ E) s:=by
 refine codeAny_of_tree ?_;show wpAny _ A.in1 (do checkBuiltinCall "set.__new__" ⟨[.type "set",a],[]⟩;again (.builtin "set.__new__" ⟨[.type "set",a],[]⟩)) _ _ s;refine aa (wpAny_of_eq (PySem.F.newCall_set_1 a) (ag ⟨plainId_quiet PySem.F.plain_set_new _,dk PySem.F.entry_set_new ?_⟩));rw[dN PySem.F.plain_set_new _];unfold Builtin.«set.__new__» Builtin.Frozenset.newClass;have b:=sub_set_self;obtain⟨c,g,d,tk,os⟩:=s;dsimp only
 wp_walk
 refine eR (ag ?_);dsimp only;simp only[newObj];refine aa (wpAny_alloc (ag ?_));exact ag h
def a4n{c:Bool}{h:Heap}{a:qE}(e:h.get? a=some {cls:=.type "set",dict:=none,data:=.set #[] 0 (.fresh 0 0 c)}):a0k prog w c h a [] :=
 ⟨_,#[],0,_,e,⟨rfl,rfl,rfl⟩,rfl,List.Perm.nil,⟨rfl,rfl,λa b h1 h2=>absurd h2 (by simp[SetTable.fresh]),λj d=>by simp[SetTable.fresh]at d,⟨3,ak _,rfl⟩,bw _,λi j e h1 h2=>by simp at h2⟩,rfl,by show 0*5<7*3;decide,by show 7<=8*0+7;decide,rfl⟩
def a4Z:isSubtype (.type "list") (.type "set")=pure false:=by rw[dR];kernel_rfl
def a0O:isSubtype (.type "list") (.type "frozenset")=pure false:=by rw[dR];kernel_rfl
def a4f{l:qE}{items:Array qB}{d:Nat->qI×qE}{Q:qH}
  (hh:A.handled=none) (hl:s.heap.IsList l items) (z:∀i v,i<items.size->items[i]?=some v->v=.ref (d i).2) (y:∀i,i<items.size->TK prog w s.heap (d i).1 (d i).2) (hn:items.size<=1000) (hu:A.units+20<cLine)
  (h:∀(h':Heap) (tk:Nat) (xs:qA (qI×qE)),a0k prog w (!w.params.followText "set-order") h' s.heap.objs.size xs->Came d items.size xs ->
   (∀b o,b<s.heap.objs.size->s.heap.get? b=some o->h'.get? b=some o)->Q (.ref s.heap.objs.size) {s with heap:=h',toks:=tk}) :
  wpAny (model prog w) A (call (.type "set") [.ref l]) Q E s:=by
 obtain⟨c,tl,T⟩:=PySem.F.called_set.mro;have J:=PySem.F.called_set.made;have W:=PySem.F.called_set.sub;refine fi (codeAny_of_tree ?_);show wpAny _ _ (callAny (.type "set") _) _ _ _;refine ag ⟨Code.quiet_builtin _ (by decide +kernel),dk PySem.F.entry_type_call ?_⟩;rw[Around.under_plain (weight_type_call_type "set" [.ref l] []) rfl];have h1:=PySem.F.called_set.notType;have h2:=PySem.F.called_set.canCreate;have a1:=PySem.F.typeCall_set_1 (.ref l)
 repeat (any_goals (first|assumption|wp_step))
 refine de (a0L (.ref l) (E:=E) (Q₁:=λobj s₁=>obj=.ref s.heap.objs.size/\s₁={s with heap:=s.heap.push {cls:=.type "set",dict:=none,data:=.set #[] 0 (.fresh 0 0 (!w.params.followText "set-order"))}}) ⟨rfl,rfl⟩) λr s₁ K=>?_;cases r with
 |error e=>exact K
 |ok fl =>
  cases fl with
  |ret obj =>
   obtain⟨rfl,rfl⟩:=K;generalize a2:(!w.params.followText "set-order")=a at h;have P:(s.heap.push {cls:=.type "set",dict:=none,data:=.set #[] 0 (.fresh 0 0 a)}).get? s.heap.objs.size=some {cls:=.type "set",dict:=none,data:=.set #[] 0 (.fresh 0 0 a)}:=aC _ rfl;have hT:Shared.TypeIs {s with heap:=s.heap.push {cls:=.type "set",dict:=none,data:=.set #[] 0 (.fresh 0 0 a)}} (.ref s.heap.objs.size) "set":=⟨_,P,rfl⟩;have a3:=PySem.F.called_set.init.lookup;have a0:=PySem.F.called_set.init.bind (.ref s.heap.objs.size)
   repeat (any_goals (first|assumption|wp_step))
   refine de (eO (R:=wants (λr s₂=>r=.none/\∃h' tk xs,s₂={s with heap:=h',toks:=tk}/\a0k prog w a h' s.heap.objs.size xs/\Came d items.size xs /\
     (∀b o,b<s.heap.objs.size->s.heap.get? b=some o->h'.get? b=some o)) E) PySem.F.called_set.init.plain PySem.F.entry_set_init (check_set_init_1 hT ?_)) λr₂ s₂ hr₂=>?_
   .obtain⟨ol,hol,hcl,nl,hdl⟩:=hl;obtain⟨X,m,L,f⟩:=ol;simp only at hcl hdl;subst hcl;subst hdl;have u:(s.heap.push {cls:=.type "set",dict:=none,data:=.set #[] 0 (.fresh 0 0 a)}).get? l=some {cls:=.type "list",dict:=m,data:=.seq items nl,slots:=f}:=ae _ hol;have V:=a4Z;have U:=a0O;have a4:(Value.type "list"==Value.type "dict")=false:=by decide
    have p:(s.heap.push {cls:=.type "set",dict:=none,data:=.set #[] 0 (.fresh 0 0 a)}).IsList l items:=⟨_,u,rfl,nl,rfl⟩;unfold Builtin.«set.__init__» noKeywords Builtin.Frozenset.updateFrom;generalize C:pyIter=PI
    wp_walk
    subst C;refine fu p ?_;refine aa (wpAny_runValue ?_);have q:l<s.heap.objs.size:=aF hol;have H:A.in1.in1.in1.handled=none:=by simp[hh]
    have t:l≠(s.heap.push {cls:=.type "set",dict:=none,data:=.set #[] 0 (.fresh 0 0 a)}).objs.size:=by
     rw[br];exact aK (cc q)
    have D:s.heap.objs.size∉[(s.heap.push {cls:=.type "set",dict:=none,data:=.set #[] 0 (.fresh 0 0 a)}).objs.size,l]:=by
     rw[br];simp only[aA,aG,bA,cI,not_or];exact⟨aK (cm _),cR q⟩
    have n:((s.heap.push {cls:=.type "set",dict:=none,data:=.set #[] 0 (.fresh 0 0 a)}).push {cls:=.type "list_iterator",data:=.fields #[.ref l,.int 0 0]}).get? s.heap.objs.size
       = some {cls:=.type "set",dict:=none,data:=.set #[] 0 (.fresh 0 0 a)}:=ae _ P
    refine a6f (ld:=a) (h0:=s.heap) ((Walks.list H _ l t items).toS) s.heap.objs.size D (λb o e=>?_) d z y hn (show A.units+2+10<cLine by omega) (items.size-0) 0 _ [] (by omega) (bw _)
     ⟨⟨_,aC _ rfl,rfl,rfl⟩,(p.push _)⟩ (λb o e=>ae _ (ae _ e)) (a4n n) ⟨ak _,fk,(λx hx=>nomatch hx),λj hj=>absurd hj (Nat.not_lt_zero j)⟩ ?hR
    .have:=aF e;rw[br];simp only[aA,bA,cI];exact⟨aK (cc this),aK this⟩
    case hR =>
     intro s' O B k g;obtain⟨h',g',Y,N,M⟩:=s';have eg:g'=s.gens:=B.gens;have Z:Y=s.drawn:=B.drawn;have eo:M=s.os:=B.os;subst eg;subst Z;subst eo;show wpAny _ _ _ _ _ _;refine ag ?_;show wpAny _ _ (ret Value.none) _ _ _;refine ag ⟨rfl,h',N,O,rfl,k,g,λb o S e=>?_⟩;have F:b≠s.heap.objs.size:=aK S;have G:b≠(s.heap.push {cls:=.type "set",dict:=none,data:=.set #[] 0 (.fresh 0 0 a)}).objs.size:=by
      rw[br];exact aK (cc S)
     exact B.heap b o (by simp only[aA,aG,bA,cI,not_or];exact⟨F,G⟩) (ae _ (ae _ e))
   .cases r₂ with
    |error e=>exact hr₂
    |ok fl₂ =>
     cases fl₂ with
     |ret r =>
      obtain⟨rfl,h',tk,xs,rfl,k,g,I⟩:=hr₂
      repeat (any_goals (first|assumption|wp_step))
      exact h _ _ _ k g I
     |_=>exact hr₂.elim
  |_=>exact K.elim
def a3U:isSubtype (.type "tuple") (.type "set")=pure false:=by rw[dR];kernel_rfl
def a0D:isSubtype (.type "tuple") (.type "frozenset")=pure false:=by rw[dR];kernel_rfl
def a3Q{l:qE}{items:Array qB}{d:Nat->qI×qE}{Q:qH}
  (hh:A.handled=none) (hl:s.heap.IsTuple l items) (z:∀i v,i<items.size->items[i]?=some v->v=.ref (d i).2) (y:∀i,i<items.size->TK prog w s.heap (d i).1 (d i).2) (hn:items.size<=1000) (hu:A.units+20<cLine)
  (h:∀(h':Heap) (tk:Nat) (xs:qA (qI×qE)),a0k prog w (!w.params.followText "set-order") h' s.heap.objs.size xs->Came d items.size xs ->
   (∀b o,b<s.heap.objs.size->s.heap.get? b=some o->h'.get? b=some o)->Q (.ref s.heap.objs.size) {s with heap:=h',toks:=tk}) :
  wpAny (model prog w) A (call (.type "set") [.ref l]) Q E s:=by
 obtain⟨c,tl,T⟩:=PySem.F.called_set.mro;have J:=PySem.F.called_set.made;have W:=PySem.F.called_set.sub;refine fi (codeAny_of_tree ?_);show wpAny _ _ (callAny (.type "set") _) _ _ _;refine ag ⟨Code.quiet_builtin _ (by decide +kernel),dk PySem.F.entry_type_call ?_⟩;rw[Around.under_plain (weight_type_call_type "set" [.ref l] []) rfl];have h1:=PySem.F.called_set.notType;have h2:=PySem.F.called_set.canCreate;have a1:=PySem.F.typeCall_set_1 (.ref l)
 repeat (any_goals (first|assumption|wp_step))
 refine de (a0L (.ref l) (E:=E) (Q₁:=λobj s₁=>obj=.ref s.heap.objs.size/\s₁={s with heap:=s.heap.push {cls:=.type "set",dict:=none,data:=.set #[] 0 (.fresh 0 0 (!w.params.followText "set-order"))}}) ⟨rfl,rfl⟩) λr s₁ K=>?_;cases r with
 |error e=>exact K
 |ok fl =>
  cases fl with
  |ret obj =>
   obtain⟨rfl,rfl⟩:=K;generalize a2:(!w.params.followText "set-order")=a at h;have P:(s.heap.push {cls:=.type "set",dict:=none,data:=.set #[] 0 (.fresh 0 0 a)}).get? s.heap.objs.size=some {cls:=.type "set",dict:=none,data:=.set #[] 0 (.fresh 0 0 a)}:=aC _ rfl;have hT:Shared.TypeIs {s with heap:=s.heap.push {cls:=.type "set",dict:=none,data:=.set #[] 0 (.fresh 0 0 a)}} (.ref s.heap.objs.size) "set":=⟨_,P,rfl⟩;have a3:=PySem.F.called_set.init.lookup;have a0:=PySem.F.called_set.init.bind (.ref s.heap.objs.size)
   repeat (any_goals (first|assumption|wp_step))
   refine de (eO (R:=wants (λr s₂=>r=.none/\∃h' tk xs,s₂={s with heap:=h',toks:=tk}/\a0k prog w a h' s.heap.objs.size xs/\Came d items.size xs /\
     (∀b o,b<s.heap.objs.size->s.heap.get? b=some o->h'.get? b=some o)) E) PySem.F.called_set.init.plain PySem.F.entry_set_init (check_set_init_1 hT ?_)) λr₂ s₂ hr₂=>?_
   .obtain⟨ol,hol,hcl,nl,hdl⟩:=hl;obtain⟨X,m,L,f⟩:=ol;simp only at hcl hdl;subst hcl;subst hdl;have u:(s.heap.push {cls:=.type "set",dict:=none,data:=.set #[] 0 (.fresh 0 0 a)}).get? l=some {cls:=.type "tuple",dict:=m,data:=.seq items nl,slots:=f}:=ae _ hol;have V:=a3U;have U:=a0D;have a4:(Value.type "tuple"==Value.type "dict")=false:=by decide
    have p:(s.heap.push {cls:=.type "set",dict:=none,data:=.set #[] 0 (.fresh 0 0 a)}).IsTuple l items:=⟨_,u,rfl,nl,rfl⟩;unfold Builtin.«set.__init__» noKeywords Builtin.Frozenset.updateFrom;generalize C:pyIter=PI
    wp_walk
    subst C;refine wpAny_pyIter_tuple p ?_;refine aa (wpAny_runValue ?_);have q:l<s.heap.objs.size:=aF hol;have H:A.in1.in1.in1.handled=none:=by simp[hh]
    have t:l≠(s.heap.push {cls:=.type "set",dict:=none,data:=.set #[] 0 (.fresh 0 0 a)}).objs.size:=by
     rw[br];exact aK (cc q)
    have D:s.heap.objs.size∉[(s.heap.push {cls:=.type "set",dict:=none,data:=.set #[] 0 (.fresh 0 0 a)}).objs.size,l]:=by
     rw[br];simp only[aA,aG,bA,cI,not_or];exact⟨aK (cm _),cR q⟩
    have n:((s.heap.push {cls:=.type "set",dict:=none,data:=.set #[] 0 (.fresh 0 0 a)}).push {cls:=.type "tuple_iterator",data:=.fields #[.ref l,.int 0 0]}).get? s.heap.objs.size
       = some {cls:=.type "set",dict:=none,data:=.set #[] 0 (.fresh 0 0 a)}:=ae _ P
    refine a6f (ld:=a) (h0:=s.heap) ((Walks.tuple H _ l t items).toS) s.heap.objs.size D (λb o e=>?_) d z y hn (show A.units+2+10<cLine by omega) (items.size-0) 0 _ [] (by omega) (bw _)
     ⟨⟨_,aC _ rfl,rfl,rfl⟩,(p.push _)⟩ (λb o e=>ae _ (ae _ e)) (a4n n) ⟨ak _,fk,(λx hx=>nomatch hx),λj hj=>absurd hj (Nat.not_lt_zero j)⟩ ?hR
    .have:=aF e;rw[br];simp only[aA,bA,cI];exact⟨aK (cc this),aK this⟩
    case hR =>
     intro s' O B k g;obtain⟨h',g',Y,N,M⟩:=s';have eg:g'=s.gens:=B.gens;have Z:Y=s.drawn:=B.drawn;have eo:M=s.os:=B.os;subst eg;subst Z;subst eo;show wpAny _ _ _ _ _ _;refine ag ?_;show wpAny _ _ (ret Value.none) _ _ _;refine ag ⟨rfl,h',N,O,rfl,k,g,λb o S e=>?_⟩;have F:b≠s.heap.objs.size:=aK S;have G:b≠(s.heap.push {cls:=.type "set",dict:=none,data:=.set #[] 0 (.fresh 0 0 a)}).objs.size:=by
      rw[br];exact aK (cc S)
     exact B.heap b o (by simp only[aA,aG,bA,cI,not_or];exact⟨F,G⟩) (ae _ (ae _ e))
   .cases r₂ with
    |error e=>exact hr₂
    |ok fl₂ =>
     cases fl₂ with
     |ret r =>
      obtain⟨rfl,h',tk,xs,rfl,k,g,I⟩:=hr₂
      repeat (any_goals (first|assumption|wp_step))
      exact h _ _ _ k g I
     |_=>exact hr₂.elim
  |_=>exact K.elim
end
end Tab
end L2
namespace L2
variable {i:Nat}{it:qE}{t:SetTable}
namespace Tab
open PySem PySem.W
def a3M{α:Type}:∀(l:qA α) (i:Nat) (h:i<l.length),([l[i]]++l.eraseIdx i).Perm l
 |x::l,0,_=>by simp
 |x::l,i+1,h=>by
  have a:=a3M l i (by simpa using h);simp only[List.getElem_cons_succ,List.eraseIdx_cons_succ,List.singleton_append];exact(List.Perm.swap x (l[i]'(by simpa using h)) _).trans (List.Perm.cons x a)
def a9d{α:Type}(next:Nat->Nat):∀(fuel k:Nat) (left:qA α) (out:Array α),left.length=fuel->(pickOrder.go next fuel k left out).toList.Perm (out.toList++left)
 |0,k,left,out,h=>by
  rw[fq.mp h,cp];exact List.Perm.refl _
 |fuel+1,k,left,out,h=>by
  unfold pickOrder.go;have hi:next k % left.length<left.length:=fo _ (by omega)
  rw[aj hi];dsimp only;refine(a9d next fuel (k+1) _ _ (by rw[List.length_eraseIdx_of_lt hi];omega)).trans ?_;rw[cZ,aI];exact cv _ (a3M left _ hi)
def b0k{α:Type}(next:Nat->Nat)(xs:Array α):(pickOrder next xs).toList.Perm xs.toList:=by
 have:=a9d next xs.size 0 xs.toList #[] (by simp)
 rw[show(#[]:Array α).toList=[] from rfl,cO]at this;exact this
def slot_seti_next:Slot "set_iterator" "__next__" "set_iterator.__next__" :=
 .of (owner:="set_iterator") (n:="__next__") (by rw[typeLookup_type,fM];kernel_rfl) (by decide +kernel) (by decide +kernel) (by decide +kernel)
  (by first|exact .inl (by decide +kernel)|exact .inr (by decide +kernel)) (by rw[dR];kernel_rfl)
def Y6:entryFor table "set_iterator.__next__"=some Builtin.«set_iterator.__next__»:=entryFor_of_tree (by kernel_rfl)
def a0j(a:qB):argsOk "set_iterator.__next__" ⟨[a],[]⟩:=by
 unfold argsOk;kernel_rfl
def Z4:Slot "set_iterator" "__iter__" "set_iterator.__iter__" :=
 .of (owner:="set_iterator") (n:="__iter__") (by rw[typeLookup_type,fM];kernel_rfl) (by decide +kernel) (by decide +kernel) (by decide +kernel)
  (by first|exact .inl (by decide +kernel)|exact .inr (by decide +kernel)) (by rw[dR];kernel_rfl)
def a3N:entryFor table "set.__iter__"=some Builtin.«frozenset.__iter__» :=
 entryFor_alias (id':="frozenset.__iter__") (by kernel_rfl) rfl (by decide +kernel) (by kernel_rfl)
structure SRaw(h:Heap)(a:qE)(es:Array (Int×qB))(ep:Nat)(t:SetTable):Prop where
 ex:∃o,h.get? a=some o/\o.ExactSet/\o.data=.set es ep t
 ok:TabOk t es
 plain:t.plain=true
section
variable {prog:qG}{w:World}{A:Around}{E:qH}{s:qC}{a:qE}{es:Array (Int×qB)}{ep:Nat}
def SRaw.typ(x:SRaw s.heap a es ep t):s.TypeIs (.ref a) "set":=let ⟨o,h1,h2,_⟩:=x.ex;⟨o,h1,h2.1⟩
def b3I{Q:Bool->qC->Prop}(e:s.TypeIs (.ref a) "set")(h:Q false s):wpAny (model prog w) A (Builtin.List.listLengthHint (.ref a)) Q E s:=by
 unfold Builtin.List.listLengthHint;refine aa (wpAny_specialOf e PySem.F.slot_set_len.lookup ?_);generalize d:("set.__len__" : String)=f
 wp_delta
 rw[show splitId f=some ("set","__len__")from by subst d;decide +kernel];subst d;refine aa (eM (T:="set") (b:=true) e (by rw[dR];kernel_rfl) ?_);refine wpAny_ite_split (λc=>absurd c (by decide)) (λ_=>?_);refine wpAny_ite_split (λ_=>?_) (λc=>absurd (by decide +kernel) c);refine aa (eB e ?_);exact ag h
def Z8(w:World)(a:qE)(ep:Nat)(es:Array (Int×qB)):Array (Int×qB):=if w.params.followText "set-order"=true then pickOrder (w.params.setOrder a ep) es else es
def ord_perm:(Z8 w a ep es).toList.Perm es.toList:=by
 unfold Z8;split
 .exact b0k _ _
 .exact List.Perm.refl _
def a2g(w:World)(t:SetTable):Nat->Nat
 |0=>0
 |i+1=>if w.params.followText "set-order"=true then 0 else t.place.getD i 0+1
def SetIt(w:World)(h:Heap)(it a:qE)(i n ep:Nat)(t:SetTable):Prop:=∃o,h.get? it=some o/\o.cls=.type "set_iterator"/\o.data=.fields #[rawInt (a2g w t i),rawInt i,.ref a,rawInt n,rawInt ep]
def b1Z{Q:qH}(D:SRaw s.heap a es ep t)
  (q:Q (.ref s.heap.objs.size) {s with heap:=s.heap.push {cls:=.type "set_iterator",data:=.fields #[rawInt 0,rawInt 0,.ref a,rawInt es.size,rawInt ep]}}):wpAny (model prog w) A (pyIter (.ref a)) Q E s:=by
 have ty:=D.typ;obtain⟨o,b,_,c⟩:=D.ex;refine wpAny_pyIter_slot ty PySem.F.slot_set_iter (bI PySem.F.slot_set_iter ty a3N ?body (PySem.F.args_set_iter_1 _))
 case body =>
  unfold Builtin.«frozenset.__iter__» Builtin.Frozenset.slot0;refine aa (aa (ag (ag ?_)));unfold Builtin.Frozenset.sizeOf setEntries;refine aa (aa (aa (cx b c (G5 D.ok) (ag (ag ?_)))));unfold setDrawn setsByText;refine aa (aa (cx b c (G5 D.ok) ?_));dsimp only;refine aa (aa (eR (ag (ag ?_))));dsimp only;rw[ao (λz=>by
   have d:=(aO _ _ ▸ z).2;change (!t.plain && decide (es.size > 1))=true at d;rw[D.plain]at d;cases d)]
  refine aa (ag ?_);refine aa (wpAny_setEpoch_of b c (G5 D.ok) ?_);refine aa (bU (ag ⟨_,rfl,"set_iterator",_,⟨_,aC _ rfl,rfl⟩,slot_seti_next.lookup,?_⟩));exact q
def SetIt.typ{a:qE}{n ep:Nat}(x:SetIt w s.heap it a i n ep t):s.TypeIs (.ref it) "set_iterator":=let ⟨o,h1,h2,_⟩:=x;⟨o,h1,h2⟩
def b1W(D:SRaw s.heap a es ep t)(e:w.params.followText "set-order"=false)(hi:i<=es.size):SetTable.below t.place (a2g w t i)=i:=by
 obtain⟨d,b,c⟩:=J0 D.ok.ris (a2g w t i);have f:=D.ok.size;cases i with
 |zero =>
  rcases Nat.eq_zero_or_pos (SetTable.below t.place (a2g w t 0))with z|z
  .exact z
  .have:=b 0 z;exact absurd this (Nat.not_lt_zero _)
 |succ i =>
  have hs:a2g w t (i+1)=t.place.getD i 0+1:=by
   show(if w.params.followText "set-order"=true then 0 else t.place.getD i 0+1)=_;rw[e,ao (by decide)]
  rw[hs]at d b c⊢;rcases du (SetTable.below t.place (t.place.getD i 0+1)) (i+1)with z|z|z
  .have:=c i (by omega) (by omega);omega
  .exact z
  .have h1:=b (i+1) z;have h2:=D.ok.ris i (i+1) (by omega) (by omega);omega
def a6q(D:SRaw s.heap a es ep t)(d:t.led=!w.params.followText "set-order"){Q:qD (qB×Nat)->qC->Prop}(hi:i<=es.size)
  (h:Q ((Z8 w a ep es)[i]?.map λe=>(e.2,a2g w t (i+1))) s):wpAny (model prog w) A (setNext a (a2g w t i) i ep) Q E s:=by
 obtain⟨o,f,_,g⟩:=D.ex;unfold setNext setsByText;refine aa (cx f g (G5 D.ok) ?_);dsimp only;refine aa (aa (eR (ag ?_)));dsimp only;by_cases b:w.params.followText "set-order"=true
 .rw[av (show(model prog w).w.params.followText "set-order"=true from b),ao (by simp)];unfold setWalk setsByText;refine aa (aa (cx f g (G5 D.ok) ?_));dsimp only;refine aa (aa (eR (ag ?_)));rw[av (show(model prog w).w.params.followText "set-order"=true from b)];refine aa (eR (ag (ag ?_)));have k:∀j,a2g w t j=0:=λj=>by
   cases j with
   |zero=>rfl
   |succ j=>show(if w.params.followText "set-order"=true then 0 else _)=0;rw[av b]
  rw[k]at h⊢;unfold Z8 at h;rw[av b]at h;exact h
 .have hf':w.params.followText "set-order"=false:=by simpa using b
  rw[ao (show ¬(model prog w).w.params.followText "set-order"=true from b)];rw[ao (λz=>by
   change (!t.plain && decide (es.size > 1))=true at z;rw[D.plain]at z;cases z)]
  refine aa ?_;show wpAny _ _ (if (!t.led && !es.isEmpty)=true then _ else pure ()) _ _ _;rw[ao (by rw[d,hf'];simp)];refine ag (ag ?_);rw[b1W D hf' hi];unfold Z8 at h;rw[ao b]at h;by_cases c:i<es.size
  .have hp:=a1k (xs:=t.place) (i:=i) (by rw[D.ok.size];exact c);rw[hp];have hs:a2g w t (i+1)=t.place.getD i 0+1:=by
    show(if w.params.followText "set-order"=true then 0 else t.place.getD i 0+1)=_;rw[hf',ao (by decide)]
   rw[hs]at h;rw[bM c]at h⊢;exact h
  .rw[dC (by omega)]at h⊢;exact h
def a9U{Q:qD qB->qC->Prop}(I:SetIt w s.heap it a i es.size ep t)(D:SRaw s.heap a es ep t)(d:t.led=!w.params.followText "set-order")(hi:i<es.size){v:Int×qB}(h:(Z8 w a ep es)[i]?=some v)
  (q:∀h',SetIt w h' it a (i+1) es.size ep t->Heap.SameBut it s.heap h'->Q (some v.2) {s with heap:=h'}):wpAny (model prog w) A (pyNext (.ref it)) Q E s:=by
 obtain⟨j,f1,f2,b⟩:=id I;obtain⟨od,f,k,g⟩:=D.ex;unfold pyNext;refine aa (dv (bH (name:=Str.ofString "__next__") I.typ slot_seti_next (bI slot_seti_next I.typ Y6 ?body (a0j _))))
 case body =>
  unfold Builtin.«set_iterator.__next__»;refine aa (ag (aa (wpAny_fieldsOf f1 b ?_)));dsimp only[rawInt];unfold setEntries;refine aa (aa (cx f g (G5 D.ok) (ag ?_)));rw[ao (by simp)];simp only[bz];refine aa (a6q D d (cK hi) ?_);rw[h];dsimp only[Option.map];have e:(s.heap.update it (Obj.mapFields λz=>z.setIfInBounds 0 (.int (a2g w t (i+1)) 0))).get? it=some (Obj.mapFields (λz=>z.setIfInBounds 0 (.int (a2g w t (i+1)) 0)) j):=cQ _ f1 (eD (cS b _));have c:=cS b (λz=>z.setIfInBounds 0 (.int (a2g w t (i+1)) 0));refine aa (dQ f1 b (by simp) ?_);refine aa (dQ (s:={s with heap:=_}) e c (by simp) ?_);refine ag ⟨_,rfl,ag (q _ ⟨_,cQ _ e (eD (cS c _)),?_,?_⟩ ((cD ..).trans (cD ..)))⟩
  .rw[fz,fz];exact f2
  .rw[cS c];simp[rawInt]
def b1X{Q:qD qB->qC->Prop}(g:A.handled=none)(I:SetIt w s.heap it a es.size es.size ep t)(D:SRaw s.heap a es ep t)(c:t.led=!w.params.followText "set-order")
  (q:∀h',Heap.ExtBut it s.heap h'->Q none {s with heap:=h'}):wpAny (model prog w) A (pyNext (.ref it)) Q E s:=by
 obtain⟨j,f1,f2,d⟩:=id I;obtain⟨od,e,i,f⟩:=D.ex;unfold pyNext;refine aa (dv (bH (name:=Str.ofString "__next__") I.typ slot_seti_next (bI slot_seti_next I.typ Y6 ?body (a0j _))))
 case body =>
  unfold Builtin.«set_iterator.__next__»;refine aa (ag (aa (wpAny_fieldsOf f1 d ?_)));dsimp only[rawInt];unfold setEntries;refine aa (aa (cx e f (G5 D.ok) (ag ?_)));rw[ao (by simp)];simp only[bz];refine aa (a6q D c (ak _) ?_);have h:(Z8 w a ep es).size=es.size:=by rw[<-az,ord_perm.length_eq,az]
  rw[dC (by omega)];dsimp only[Option.map];refine aa (dQ f1 d (by simp) ?_);show wpAny _ _ (newExc (.type "StopIteration") []>>=λ_=>_) _ _ _;refine aa ?_;simp only[newExc,newTuple];refine aa (bU ?_ (by size_fits));refine aa (m:=firstArgMember _ _) (wpAny_of_eq (a:=Value.none) (by first|rfl | (simp only[firstArgMember];rfl)) ?_);refine bU ?_ (by size_fits);simp only[raiseNew];refine aa (wpAny_handled ?_);rw[show A.in1.handled=none from g];refine aa (ag (wpAny_throw ?_));refine aa (eM (T:="StopIteration") (b:=true) ⟨_,aC _ rfl,rfl⟩ isSubtype_stop ?_);exact ag (q _ (((cD ..).extBut.push _).push _))
def SetIt.at{h h':Heap}{a:qE}{n ep:Nat}(x:SetIt w h it a i n ep t)(k:∀o,h.get? it=some o->h'.get? it=some o):SetIt w h' it a i n ep t:=let ⟨o,h1,h2⟩:=x;⟨o,k o h1,h2⟩
def SRaw.to{h h':Heap}(x:SRaw h a es ep t)(k:∀o,h.get? a=some o->h'.get? a=some o):SRaw h' a es ep t:=⟨let ⟨o,h1,h2⟩:=x.ex;⟨o,k o h1,h2⟩,x.ok,x.plain⟩
def a2r:entryFor table "set_iterator.__iter__"=some Builtin.«dict_keyiterator.__iter__» :=
 entryFor_alias (id':="dict_keyiterator.__iter__") (by kernel_rfl) rfl (by decide +kernel) (by kernel_rfl)
def a3S(a:qB):argsOk "set_iterator.__iter__" ⟨[a],[]⟩:=by
 unfold argsOk;kernel_rfl
def a9T{n:Nat}{Q:qH}(I:SetIt w s.heap it a i n ep t)(h:Q (.ref it) s):wpAny (model prog w) A (pyIter (.ref it)) Q E s:=by
 refine wpAny_pyIter_slot I.typ Z4 (bI Z4 I.typ a2r ?_ (a3S _));show wpAny _ _ (ret (.ref it)) _ _ s;exact ag ⟨_,rfl,"set_iterator",_,I.typ,slot_seti_next.lookup,h⟩
def b2N:(Z8 w a ep es).size=es.size:=by rw[<-az,ord_perm.length_eq,az]
def a9V(p:A.handled=none)(J:qE)(j:a≠J)(g:t.led=!w.params.followText "set-order") :
  Walks prog w A J [J,a] [J] es.size (λi v=>∃e,(Z8 w a ep es)[i]?=some e/\v=e.2) (λi h=>SetIt w h J a i es.size ep t/\SRaw h a es ep t) where
 sub:=λb d=>by rw[aG.mp d];exact ax
 frame:=λi h h' st k=>⟨st.1.at λo e=>k J ax o e,st.2.to λo e=>k a (au _ ax) o e⟩
 item:=λi s Q E hi st c=>by
  have f:i<(Z8 w a ep es).size:=by rw[b2N];exact hi
  exact a9U st.1 st.2 g hi (bM f) λh' m l=>c _ h' s.toks ⟨_,bM f,rfl⟩ ⟨m,st.2.to λo e=>l.extBut a o j e⟩ λb o d e=>l.extBut b o (λz=>d (by rw[z];exact ax)) e
 done:=λs Q E st c=>b1X p st.1 st.2 g λh' n=>c h' s.toks λb o d e=>n b o (λz=>d (by rw[z];exact ax)) e
 self:=λ_ _ _ _ st c=>a9T st.1 c
def SRaw.lt{h:Heap}(x:SRaw h a es ep t):a<h.objs.size:=let ⟨_,h1,_⟩:=x.ex;aF h1
def b4J(b:t.led=!w.params.followText "set-order"):KdlSrc prog w "set" a a es.size (λi v=>∃e,(Z8 w a ep es)[i]?=some e/\v=e.2) (λh=>SRaw h a es ep t) where
 type:=λ_ D=>D.typ
 there:=λ_ D=>⟨D.lt,D.lt⟩
 keep:=λ_ _ D d=>D.to λo e=>d a (.inl rfl) o e
 notList:=by decide
 notTuple:=by decide
 hint:=λ_ _ _ _ D q=>b3I D.typ q
 iter:=λ_ _ c D=>⟨_,_,λ_ _ q=>b1Z D q,a9V c _ (aK D.lt) b,⟨⟨_,aC _ rfl,rfl,rfl⟩,D.to λo e=>ae _ e⟩⟩
end
end Tab
end L2
namespace L2
open PySem PySem.Spec PyProof.Rows PySem.W Tab
def a1y(P:qG)(w:World)(a:qE)(xs:qA (qI×qE)):HO:=.ext λh=>∃es ep t,SRaw h a es ep t/\es.toList.Perm (xs.map (Tab.ent P w))/\t.led=!w.params.followText "set-order"
def b6v{P:qG}{w:World}{H:Hp}{h:Heap}(ok:HOk P w H h){r:qI}{b:qE}(x:IT H (.ref b) r):TK P w h r b:=by
 obtain⟨a,e,q⟩:=x;cases e;obtain⟨_,its,c,o,h1,h2,n,d⟩:=(show ObjOk P w H h b (.tup (r.map V.int))from ok b _ q);refine⟨o,its.toArray,n,h1,h2,d,?_⟩;have:∀{r:qI}{its:qA qB},Vals (r.map V.int) its->ItemsAre (intKind P w) r its:=by
  intro r;induction r with
  |nil=>intro its c;cases c;exact .nil
  |cons x r f =>
   intro its c;cases c with
   |cons h t =>
    obtain⟨tk,rfl⟩:=h;exact .cons (intKind_is _ _ _ _) (f t)
 simpa using this c
def b6I(K:qF)(P:qG)(w:World):RL:=λys H Q=>∃(k:Bool) (p:qE) (vs:qA V) (rss:LLI),ys=[.ref p]/\SqK k K H p vs/\Its H vs rss/\vs.length<=1000 /\
 ∀a xs,H a=none->(xs.map (·.1)).Nodup->(∀r,r∈xs.map (·.1)↔r∈rss)->(∀x∈xs,IT H (.ref x.2) x.1)->Q (.ref a) (upd H a (a1y P w a xs))
def b2p(P:qG)(w:World):RL:=λys H Q=>∃(a:qE) (xs:qA (qI×qE)),ys=[.ref a]/\H a=some (a1y P w a xs)/\(∀x∈xs,IT H (.ref x.2) x.1)/\(∀x∈xs,0<x.1.length)/\xs.length<=1000 /\
 ∀l zs tss,H l=none->Its H zs tss->tss.Perm (xs.map (·.1))->C8 tss->Q (.ref l) (upd H l (.lst zs))
section
variable {X:Cx}
def b0Y(K:qF)(P:qG)(w:World)(hu:X.A.units+60<cLine)(hc:X.calm=true)(hK:X.K=K:=by rfl)(hP:X.prog=P:=by rfl)(hw:X.w=w:=by rfl):D0 X (.type "set") (b6I K P w):=by
 subst hK hP hw;intro qK s σ H ys us Q I rv h;obtain⟨k,p,N,rss,rfl,S,hI,hn,q⟩:=h;obtain⟨u,rfl,D⟩:=rv.one;cases D;have R:X.A.handled=none:=I.ok.hd hc;have step:∀(its:qA qB),Vals N its->∀(h':Heap) (tk:Nat) (xs:qA (qI×qE)) (c:Nat->qI×qE),(∀i,i<its.toArray.size->rss[i]?=some (c i).1/\IT H (.ref (c i).2) (c i).1) ->
   a0k X.prog X.w (!X.w.params.followText "set-order") h' s.heap.objs.size xs->Came c its.toArray.size xs->(∀b o,b<s.heap.objs.size->s.heap.get? b=some o->h'.get? b=some o)->EP X qK σ Q (.ref s.heap.objs.size) {s with heap:=h',toks:=tk}:=by
  intro its r h' tk xs c d n l A;obtain⟨o,es,ep,t,O,T,U,V,W,Y,e7,e8,Z⟩:=n;have B:its.toArray.size=rss.length:=by rw[<-hI.1,r.length];simp
  have F:H s.heap.objs.size=none:=I.hok.fresh (ak _);have E:∀x∈xs,IT H (.ref x.2) x.1:=λx J=>by
   obtain⟨j,m,rfl⟩:=l.from_ x J;exact(d j m).2
  refine⟨.ref s.heap.objs.size,_,I.laid (h':=h') (a:=s.heap.objs.size) (o:=a1y X.prog X.w s.heap.objs.size xs) (t':=tk) (λb o e=>A b o (aF e) e) (ak _) ⟨⟨es,ep,t,⟨⟨o,O,T,U⟩,W,Y⟩,V,Z⟩,⟨o,O⟩,λh1 h2 ⟨es,ep,t,q1,q2⟩ kk=>⟨es,ep,t,q1.to kk,q2⟩⟩,rfl,q _ xs F l.nd (λr=>?_) E⟩;constructor
  .intro hr;obtain⟨x,J,rfl⟩:=aT.mp hr;obtain⟨j,m,rfl⟩:=l.from_ x J;exact aH (d j m).1
  .intro hr;obtain⟨j,m⟩:=cw.mp hr;have y:j<its.toArray.size:=by rw[B];exact(aL.mp m).1
   have h1:=(d j y).1;rw[m]at h1;injection h1 with h1
   rw[h1];exact l.all j y
 have f:∀(its:qA qB),Vals N its->∃c:Nat->qI×qE,(∀i v,i<its.toArray.size->its.toArray[i]?=some v->v=.ref (c i).2)/\∀i,i<its.toArray.size->rss[i]?=some (c i).1/\IT H (.ref (c i).2) (c i).1:=by
  intro its r;have g:∀i,∃x:qI×qE,i<its.toArray.size->(∀v,its.toArray[i]?=some v->v=.ref x.2)/\rss[i]?=some x.1/\IT H (.ref x.2) x.1:=λi=>by
   by_cases hi:i<its.toArray.size
   .have hi':i<N.length:=by rw[r.length];simpa using hi
    obtain⟨u,eu,D⟩:=r.get (aj hi');obtain⟨M,er,b,eb,hb⟩:=hI.2 i _ (aj hi');rw[eb]at D;cases D;refine⟨(M,b),λ_=>⟨λv G=>?_,er,b,rfl,hb⟩⟩;have:its[i]?=some v:=by simpa using G
    rw[eu]at this;injection this with this
    exact this.symm
   .exact⟨([],0),λz=>absurd z hi⟩
  exact⟨λi=>Classical.choose (g i),λi v hi G=>(Classical.choose_spec (g i) hi).1 v G,λi hi=>(Classical.choose_spec (g i) hi).2⟩
 cases k
 .obtain⟨its,r,pl,hz⟩:=I.list S;obtain⟨c,L,C⟩:=f its r;exact a4f R pl.isList L (λi hi=>b6v I.hok (C i hi).2) (by have:=r.length;simp;omega) (by omega) λh' tk xs n l A=>step its r h' tk xs c C n l A
 .obtain⟨its,r,pl,hz⟩:=I.tuple S;obtain⟨c,L,C⟩:=f its r;exact a3Q R pl L (λi hi=>b6v I.hok (C i hi).2) (by have:=r.length;simp;omega) (by omega) λh' tk xs n l A=>step its r h' tk xs c C n l A
def a8g(P:qG)(w:World)(hc:X.calm=true)(hP:X.prog=P:=by rfl)(hw:X.w=w:=by rfl):D0 X (.builtin "sorted") (b2p P w):=by
 subst hP hw;intro qK s σ H ys us Q I rv h;obtain⟨a,xs,rfl,ha,L,R,hn,q⟩:=h;obtain⟨u,rfl,ru⟩:=rv.one;cases ru;obtain⟨⟨es,ep,t,D,A,M⟩,_⟩:=(show ObjOk X.prog X.w H s.heap a (a1y X.prog X.w a xs)from I.hok _ _ ha);obtain⟨d,J,te⟩:=N2 (f:=Tab.ent X.prog X.w) ((ord_perm (w:=X.w) (a:=a) (ep:=ep)).trans A) rfl;have B:∀x∈d,x∈xs:=λx C=>J.mem_iff.mp C;have g:es.size=d.length:=by rw[<-az,A.length_eq,ai,J.length_eq]
 have hI:Its H (d.map λx=>V.ref x.2) (d.map (·.1)):=⟨by rw[ai,ai],λi v e=>by
  rw[aX]at e⊢;cases l:d[i]? with
  |none=>rw[l]at e;cases e
  |some x =>
   rw[l]at e;cases e;exact⟨x.1,rfl,L x (B x (aH l))⟩⟩
 have U:Vals (d.map λx=>V.ref x.2) (d.map λx=>Value.ref x.2):=a1w (λx:qI×qE=>x.2) d;have hz:(1000:Nat)<=sizeLine:=by rw[aU];decide
 have a1:d.length<=1000:=by rw[J.length_eq];exact hn
 have z:∀(W:qH) (K:qA qB->qC->Prop),(∀(h1:Heap) (tk:Nat),(∀b o,s.heap.get? b=some o->h1.get? b=some o)->K (d.map λx=>Value.ref x.2) {s with heap:=h1,toks:=tk})->wpAny (model X.prog X.w) X.A.in1 (collect (.ref a)) K W s:=λW K k=>by
  refine kdu_collect (b4J M) (show X.A.in1.handled=none from I.ok.hd hc) D (by omega) λh' tk j kp m=>?_;have:j.toList=d.map λx=>Value.ref x.2:=by
   refine el λi=>?_;rw[ay,aX];by_cases hi:i<d.length
   .have hia:i<j.size:=by rw[m.1,g];exact hi
    obtain⟨e,G,O⟩:=m.2 i j[i] (by simp[hia]);rw[<-ay,<-te,aX,aj hi]at G;injection G with G
    rw[bM hia,aj hi,O,<-G];rfl
   .rw[dC (by rw[m.1,g];omega),cg (by omega)];rfl
  rw[this];exact k h' tk kp
 have hl:=U.length;have TT:=a3B I hI U;obtain⟨T,t1,t2,t3,t4⟩:=a0m U hI.1;refine Y7 z TT (λr hr=>by obtain⟨x,C,rfl⟩:=aT.mp hr;exact R x (B x C)) (by rw[ai];omega) λh1 h' os c tk k1 k2 e hp hs=>?_;obtain⟨n,p1,p2⟩:=N2 (f:=λt:qB×V×qI=>t.1) hp t1.symm;have Y:=I.kept (t':=tk) k1;have F:∀t∈n,RelV t.2.1 t.1/\IT H t.2.1 t.2.2/\G0 s.heap t.1=t.2.2:=λt N=>by
  obtain⟨i,hi⟩:=cw.mp (p1.mem_iff.mp N);obtain⟨r1,r2,r3⟩:=t4 i t hi;obtain⟨a2,q1,q2⟩:=hI.2 i _ r2;rw[r3]at q1;cases q1;have e5:(d.map λx=>Value.ref x.2)[i]?=some t.1:=by rw[<-t1,aX,hi];rfl
  obtain⟨r',b,a0,f1,f2,f3,f4⟩:=TT.2 i _ e5;rw[r3]at f1;cases f1;exact⟨r1,q2,by rw[f2];exact D7 f3 f4⟩
 have S:(n.map (·.2.1)).length<=sizeLine:=by
  have Z:=(p1.map (λt:qB×V×qI=>t.2.1)).length_eq;rw[t2]at Z;simp only[ai]at Z⊢;omega
 have O:Vals (n.map (·.2.1)) os:=by rw[<-p2];exact Q0 λt N=>(F t N).1
 have I2:=Y.laid (h':=h') (a:=h1.objs.size) (o:=.lst (n.map (·.2.1))) (t':=tk) k2 (ak _) ⟨S,os,c,O,e⟩;refine⟨.ref h1.objs.size,_,I2,rfl,q _ _ (n.map (·.2.2)) (Y.hok.fresh (ak _)) ⟨by rw[ai,ai],λi v p=>?_⟩ (by have:=p1.map (λt:qB×V×qI=>t.2.2);rw[t3]at this;exact this.trans (J.map _)) ?_⟩
 .rw[aX]at p⊢;cases l:n[i]? with
  |none=>rw[l]at p;cases p
  |some t =>
   rw[l]at p;cases p;exact⟨t.2.2,rfl,(F t (aH l)).2.1⟩
 .unfold C8;rw[bL];rw[<-p2,bL]at hs;refine hs.imp_of_mem λ{x y} C hy E=>?_;rw[(F x C).2.2,(F y hy).2.2]at E;exact E
variable {e:Expr}{es:qA Expr}{t:TA}{p pos:Pos}
def a9m(K:qF)(P:qG)(w:World)(j:X.A.units+60<cLine)(h:Gl X "set")(i:X.mg "set"=none)(d:JA X (e::es) t)(f:X.calm=true:=by rfl)(b:X.K=K:=by rfl)(c:X.prog=P:=by rfl)(hw:X.w=w:=by rfl)(g:starEach (e::es) X.env=(false,eval e X.env)::starEach es X.env:=by rfl)(a:(backTo pos (starEach es X.env)).any (·.1)=false:=by rfl):JE X (.Call (.Name "set" p) (e::es) [] pos) (tCB (b6I K P w) t):=⟨U7 (b0Y K P w j f b c hw) h i b8N d.h (by decide) (by decide) g a⟩
def a6U(P:qG)(w:World)(g:Gl X "sorted")(h:X.mg "sorted"=none)(c:JA X (e::es) t)(d:X.calm=true:=by rfl)(b:X.prog=P:=by rfl)(hw:X.w=w:=by rfl)(f:starEach (e::es) X.env=(false,eval e X.env)::starEach es X.env:=by rfl)(a:(backTo pos (starEach es X.env)).any (·.1)=false:=by rfl):JE X (.Call (.Name "sorted" p) (e::es) [] pos) (tCB (b2p P w) t):=⟨D8 (a8g P w d b hw) g h a1Q c.h (by decide) (by decide) f a⟩
end
end L2
namespace L2
open PySem PySem.Spec PyProof.Rows
variable {H:Hp}{X:Cx}{a:qE}{r:qI}{rss:LLI}{vs:qA V}
def a3u:typeLookup (.type "list") "keys"=pure none:=by rw[typeLookup_type,fM];kernel_rfl
def a4H:entryFor table "dict.update.loop"=some Builtin.«dict.update.loop»:=entryFor_of_tree (by kernel_rfl)
def a0u:plainId "dict.update.loop"=true:=by decide +kernel
section
variable {prog:qG}{w:World}{A:Around}{E:qH}{s:qC}
def b5K{o:Obj}{xs:Array qB}{k:Nat}{Q:qD qB->qC->Prop}
  (q:s.heap.get? a=some o) (p:o.cls=.type "list") (f:o.data=.seq xs k) (hd:o.dict=none) (v:A.handled=none)
  (h:∀h' tk,(∀b r,s.heap.get? b=some r->h'.get? b=some r)->Q none {s with heap:=h',toks:=tk}):wpAny (model prog w) A (getAttr? (.ref a) "keys") Q E s:=by
 obtain⟨c,u,t,sl⟩:=o;simp only at p f hd;subst p f hd;obtain⟨x,g,d,tk,os⟩:=s;have n:∀l,(⟨x,g,d,l,os⟩:qC).TypeIs (.ref a) "list":=λ_=>⟨_,q,rfl⟩;have f1:=sub_AttributeError;have y:=PySem.F.slot_list_getattribute.lookup;have z:=PySem.F.slot_list_getattribute.bind (.ref a);have B:=am_list_getattr_none;have m:(Str.ofString "keys").length+100<=sizeLine:=by rw[aU];decide
 have i:(["__module__","__name__","__qualname__","__doc__","__annotations__"]:qA Str).contains "keys"=false:=by decide +kernel
 unfold getAttr? getAttrBy? getAttrBy
 repeat (any_goals (first|assumption|exact n _ | ((with_reducible show wpAny _ _ (call (Value.builtin "list.__getattribute__") _ _) _ _ _);refine eJ PySem.F.slot_list_getattribute (n _) am_entry_list_getattribute (PySem.F.args_list_getattribute_2 _ _) (meets_getattribute_miss_list a xs k sl "keys" _ a3u i m) ⟨q,v,λh' l e j=>?_⟩)|wp_step))
 obtain⟨t',D,C⟩:=j.there;show wpAny _ _ (getattributeRaised _ _ _ _ _ _ _) _ _ _;unfold getattributeRaised
 repeat (any_goals (first|assumption|wp_step))
 exact h _ _ j.keeps
def a6R{h h':Heap}{ks:qA Key}(k:∀b o,h.get? b=some o->h'.get? b=some o)(x:(tupleKind (C3 prog w)).is h ks a):(tupleKind (C3 prog w)).is h' ks a:=by
 obtain⟨o,its,n,h1,r⟩:=x;exact⟨o,its,n,k _ _ h1,r⟩
def b7c(prog:qG)(w:World)(h:Heap)(d:qE)(xs:qA (qA Key×qE×qB)):Prop :=
 ∃o es ep,h.get? d=some o/\o.ExactDict/\o.data=.dict es ep/\es.toList=xs.map (entryOfKey (tupleKind (C3 prog w)))/\(xs.map (·.1)).Nodup
def b3V{R:Result->qC->Prop}{s0:Heap}{d it l:qE}{items:Array qB}(h:d≠it)(K:s0.get? d=none)(m:s0.get? it=none)(W:s0.IsList l items)(hh:A.handled=none)(S:A.units+10<cLine)(hz:items.size<=sizeLine)
  (J:Nat->qA (qA Key×qE×qB)->Prop)
  (M:∀i,i<items.size->∃p k a v,items[i]?=some (.ref p)/\IsTup s0 p #[.ref a,v]/\(tupleKind (C3 prog w)).is s0 k a/\∀xs,J i xs->xs.length<=i/\(∀x∈xs,(tupleKind (C3 prog w)).is s0 x.1 x.2.1)/\J (i+1) (storedH xs k a v)) :
  ∀(n i:Nat) (s:qC) (xs:qA (qA Key×qE×qB)),items.size-i=n->i<=items.size->(∀b o,s0.get? b=some o->s.heap.get? b=some o)->s.heap.IsListIter it l i->b7c prog w s.heap d xs->J i xs ->
  (∀h' tk g,(∀b o,s0.get? b=some o->h'.get? b=some o)->b7c prog w h' d g->J items.size g->R (.ok (.ret .none)) {s with heap:=h',toks:=tk}) ->
  codeAny (model prog w) A (.builtin "dict.update.loop" ⟨[.ref d,.ref it,rawInt i,.none],[]⟩) R s:=by
 intro n;induction n with
 |zero =>
  intro i s xs hn hi q c F N hR;have L:i=items.size:=by omega
  subst L;refine dk a4H ?_;rw[dN a0u _];show wpAny _ A.in1 (pyNext (.ref it)>>=_) _ _ s;have j:s.heap.IsList l items:=let ⟨o,h1,h2⟩:=W;⟨o,q _ _ h1,h2⟩
  refine aa (wpAny_pyNext_list_end hh c j (by simp) λh' V=>?_);show wpAny _ _ (Builtin.Dict.addKeywords d []>>=_) _ _ _;refine aa (ag (ag ?_));obtain⟨o,es,ep,D,E⟩:=F;exact hR h' s.toks xs (λb X e=>V b X (λz=>by rw[z,m]at e;cases e) (q b X e)) ⟨o,es,ep,V _ _ h D,E⟩ N
 |succ n ih =>
  intro i s xs hn hi q c F N hR;have r:i<items.size:=by omega
  obtain⟨p,k,a,v,hp,hT,hK,I⟩:=M i r;obtain⟨a0,T,I⟩:=I xs N;refine dk a4H ?_;rw[dN a0u _];show wpAny _ A.in1 (pyNext (.ref it)>>=_) _ _ s;have j:s.heap.IsList l items:=let ⟨o,h1,h2⟩:=W;⟨o,q _ _ h1,h2⟩
  refine aa (wpAny_pyNext_list_item c j hp λh1 U u=>?_);have f:∀b o,s0.get? b=some o->h1.get? b=some o:=λb o e=>u.extBut b o (λz=>by rw[z,m]at e;cases e) (q b o e);obtain⟨o,es,ep,D,E,g3,g4,g5⟩:=F;have G:h1.DictOfH (tupleKind (C3 prog w)) d xs:=⟨o,es,ep,u.extBut _ _ h D,E,g3,g4,λx hx=>a6R f (T x hx),g5⟩;obtain⟨op,t,P,np,Q⟩:=hT;show wpAny _ A.in1 (holding [.ref p] _>>=_) _ _ _;refine aa (ck (aa (wpAny_tryCatch ?_)));unfold Builtin.Dict.pairItems;refine aa (eB (s:={s with heap:=h1}) ⟨op,f _ _ t,P⟩ ?_);rw[av (by decide)];refine aa (cL (s:={s with heap:=h1}) (f _ _ t) Q (ag ?_));show wpAny _ _ (holding [.ref a,v] (dictSet d (.ref a) v)) _ _ _;refine ck (wpAny_dictSet_heap (s:={s with heap:=h1}) (knd:=tupleKind (C3 prog w)) (hsz:=by omega) (show A.units+1<cLine by omega) (a6R f hK) G λh2 H y=>?_);refine ag ⟨plainId_quiet a0u _,?_⟩;have O:∀b o,s0.get? b=some o->h2.get? b=some o:=λb o e=>y.extBut b o (λz=>by rw[z,K]at e;cases e) (f b o e);obtain⟨o',C,B,q1,q2,q3,q4,_,q5⟩:=H;exact ih (i+1) _ _ (by omega) r O (U.extBut y.extBut (dq h)) ⟨o',C,B,q1,q2,q3,q4,q5⟩ I λh' tk g Y Z e3=>hR h' tk g Y Z e3
end
def PrT(H:Hp)(ps:qA V)(rss:LLI):Prop:=ps.length=rss.length/\∀(i:Nat) (q:V),ps[i]?=some q->∃(r:qI) (b:qE) (v y:V),rss[i]?=some r/\q=.ref b/\H b=some (.tup [v,y])/\IT H v r
def PrT.same{H H':Hp}{ps:qA V}{rss:LLI}(h:PrT H ps rss)(s:Same H H'):PrT H' ps rss :=
 ⟨h.1,λi q e=>let ⟨r,b,v,y,e1,e2,e3,e4⟩:=h.2 i q e;⟨r,b,v,y,e1,e2,s _ _ e3,e4.same s⟩⟩
def PrT.nil:PrT H [] []:=⟨rfl,λi q e=>by simp at e⟩
def PrT.snoc{ps:qA V}{b:qE}{v y:V}(h:PrT H ps rss)(c:H b=some (.tup [v,y]))(d:IT H v r):PrT H (ps++[.ref b]) (rss++[r]):=by
 refine⟨by simp[h.1],λi q e=>?_⟩;rw[dn]at e;rw[dn,<-h.1];split at e
 .rename_i hi;rw[av hi];exact h.2 i q e
 .rename_i hi;rw[ao hi];cases a:i-ps.length with
  |zero =>
   rw[a]at e;cases e;exact⟨r,b,v,y,rfl,rfl,c,d⟩
  |succ j=>rw[a]at e;simp at e
def a2G(r:qI):(r.map (Sum.inl:Int->Key)).map kV=r.map V.int:=by
 rw[cG];rfl
def b8B{qL:qA (qA Key×V)}(f:qL.map (·.1)=IK rss)(g:r∉rss):U5 qL (r.map Sum.inl)=none:=by
 rw[<-Option.not_isSome_iff_eq_none,Bool.not_eq_true,<-U4,fv];intro d c e;have e:=bp e;have:d.1∈IK rss:=by rw[<-f];exact aT.mpr ⟨d,c,rfl⟩
 obtain⟨h,h1,h2⟩:=aT.mp this;rw[e]at h2;have inj:∀{a b:qI},a.map (Sum.inl:Int->Key)=b.map Sum.inl->a=b:=λ{a b} z=>by
  have:=aP (List.map kV) z;rw[a2G,a2G]at this;exact map_int_inj.mp this
 exact g (inj h2 ▸ h1)
section
variable {e:Expr}{es:qA Expr}{t:TA}{p pos:Pos}
end
structure Onc(mss rss:LLI):Prop where
 nd:mss.Nodup
 mem:∀r,r∈mss↔r∈rss
 le:mss.length<=rss.length
def Onc.new{c:LLI}(h:Onc c rss)(g:r∉c):Onc (c++[r]) (rss++[r]):=by
 refine⟨ez.mpr ⟨h.nd,by simp,λa d b f e=>?_⟩,λq=>?_,?_⟩
 .rw[aG.mp f]at e;rw[e]at d;exact g d
 .rw[aD,aD,h.mem]
 .rw[ar,ar];have:=h.le;show _+1<=_+1;omega
def Onc.old{a:LLI}(h:Onc a rss)(b:r∈a):Onc a (rss++[r]):=by
 refine⟨h.nd,λq=>?_,?_⟩
 .rw[aD,aG,h.mem];exact⟨.inl,λz=>z.elim id λe=>by rw[e];exact(h.mem r).mp b⟩
 .rw[ar];have:=h.le;omega
def b2t:RL:=λxs H Q=>∃(l:qE) (ps:qA V) (rss:LLI),xs=[.ref l]/\H l=some (.lst ps)/\PrT H ps rss/\∀d qL mss,H d=none->qL.map (·.1)=IK mss->Onc mss rss->Q (.ref d) (upd H d (.dT qL))
section
def a8k(hu:X.A.units+60<cLine)(hc:X.calm=true):D0 X (.type "dict") b2t:=by
 intro qK s σ H xs us Q I rv h;obtain⟨l,ps,rss,rfl,hl,hP,q⟩:=h;obtain⟨u,rfl,L⟩:=rv.one;cases L;obtain⟨hz,its,n,r,e⟩:=(show ObjOk X.prog X.w H s.heap l (.lst ps)from I.hok _ _ hl);have hh:X.A.handled=none:=I.ok.hd hc;have G:its.toArray.size=ps.length:=by simpa using r.length.symm
 have C:sysModules<s.heap.objs.size:=fU (by decide) (I.mod.glob.keeps I.bk).lt;refine callType_codes (Q₁:=λobj s₁=>obj=.ref s.heap.objs.size/\s₁={s with heap:=s.heap.push {cls:=.type "dict",data:=.dict #[]}}) PySem.F.kt_called_dict (PySem.F.kt_typeCall_dict_1 _) PySem.F.entry_dict_init (kt_code_dict_new _ ⟨rfl,rfl⟩) ?_;rintro obj s₁ ⟨rfl,rfl⟩;have K:(s.heap.push {cls:=.type "dict",data:=.dict #[]}).get? s.heap.objs.size=some {cls:=.type "dict",data:=.dict #[]}:=aC _ rfl;have k0:∀b o,s.heap.get? b=some o->(s.heap.push {cls:=.type "dict",data:=.dict #[]}).get? b=some o:=λb o e=>ae _ e;generalize s.heap.push {cls:=.type "dict",data:=.dict #[]}=Z at K k0;refine⟨⟨_,K,rfl⟩,PySem.F.args_dict_init_2 _ _,?_⟩;unfold Builtin.«dict.__init__»;refine aa ?_;unfold Builtin.Dict.selfAndRest;refine aa (wpAny_notOrdered_dict ⟨_,K,rfl⟩ ?_);show wpAny _ _ (pure (s.heap.objs.size,[Value.ref l])) _ _ _;refine ag ?_;show wpAny _ _ (Builtin.Dict.updateFrom "dict.__init__" s.heap.objs.size (.ref l) [] .none) _ _ _;unfold Builtin.Dict.updateFrom;refine aa (eB (s:={s with heap:=Z}) ⟨_,k0 _ _ e,rfl⟩ ?_);rw[av (by decide)];refine aa (b5K (s:={s with heap:=Z}) (k0 _ _ e) rfl rfl rfl hh λh1 J k1=>?_);rw[av (show(none:qD qB).isNone=true from rfl)];refine aa (eH ?_);have k:∀b o,s.heap.get? b=some o->h1.get? b=some o:=λb o e=>k1 _ _ (k0 _ _ e);refine aa (fu (s:={s with heap:=h1,toks:=J}) ⟨_,k _ _ e,rfl,n,rfl⟩ ?_);have N:(h1.push {cls:=.type "list_iterator",data:=.fields #[.ref l,.int 0 0]}).IsListIter h1.objs.size l 0:=⟨_,aC _ rfl,rfl,rfl⟩;have k2:∀b o,h1.get? b=some o->(h1.push {cls:=.type "list_iterator",data:=.fields #[.ref l,.int 0 0]}).get? b=some o:=λb o e=>ae _ e;have U:=k1 _ _ K;refine ag ⟨plainId_quiet a0u _,?_⟩;refine b3V (prog:=X.prog) (w:=X.w) (A:=X.A.in1) (s0:=s.heap) (l:=l) (items:=its.toArray) (aK (aF U)) ?_ ?_ ⟨_,e,rfl,n,rfl⟩ hh (show X.A.units+1+10<cLine by omega) (by omega)
  (λi xs=>∃qL d,KT H qL xs/\qL.map (·.1)=IK d/\Onc d (rss.take i)) (λi hi=>?_) _ 0 {s with heap:=h1.push {cls:=.type "list_iterator",data:=.fields #[.ref l,.int 0 0]},toks:=J} [] rfl (bw _) (λb o e=>k2 _ _ (k _ _ e)) N ⟨{cls:=.type "dict",data:=.dict #[]},#[],0,k2 _ _ U,⟨rfl,rfl,rfl⟩,rfl,rfl,fk⟩ ⟨[],[],.nil,rfl,⟨.nil,λ_=>Iff.rfl,ak _⟩⟩ λh' tk T e1 e2 ⟨qL,d,e3,W,M⟩=>?_
 .cases z:s.heap.get? s.heap.objs.size with
  |none=>rfl
  |some o=>exact absurd (aF z) (bN _)
 .cases z:s.heap.get? h1.objs.size with
  |none=>rfl
  |some o=>exact absurd (aF (k _ _ z)) (bN _)
 .have hi':i<ps.length:=by omega
  obtain⟨u,eu,L⟩:=r.get (aj hi');obtain⟨f,b,v,y,er,eb,hb,a,rfl,ha⟩:=hP.2 i _ (aj hi');rw[eb]at L;cases L;obtain⟨_,a0,r2,O⟩:=(show ObjOk X.prog X.w H s.heap b (.tup [.ref a,y])from I.hok _ _ hb);obtain⟨u1,u2,rfl,R,S⟩:=r2.two;cases R;refine⟨b,f.map Sum.inl,a,u2,by simpa using eu,O,a1H I.hok (by rw[a2G];exact ha),?_⟩;rintro xs ⟨qL,d,P,E,g⟩;have F:xs.length=d.length:=by
   have h1:=Paired.length P;have h2:=aP List.length E;rw[IK,ai,ai]at h2;omega
  refine⟨by rw[F];exact bh g.le (bE _ _),λx j=>?_,a0E qL (f.map Sum.inl) y,if f∈d then d else d++[f],P.put _ (by rw[a2G];exact ha) S,?_⟩
  .have all:∀{l:qA (qA Key×V)}{m:qA (qA Key×qE×qB)},KT H l m->∀x∈m,(tupleKind (C3 X.prog X.w)).is s.heap x.1 x.2.1:=by
    intro l m q;induction q with
    |nil=>intro x j;exact nomatch j
    |@cons p q ps qs hq t ih =>
     intro x j;rcases aA.mp j with e|j
     .subst e;exact a1H I.hok (by rw[<-hq.1];exact hq.2.1)
     .exact ih x j
   exact all P x j
  .have et:rss.take (i+1)=rss.take i++[f]:=by rw[ba,er];rfl
   rw[et];by_cases B:f∈d
   .rw[av B,b0g _ (by rw[E];exact aT.mpr ⟨f,B,rfl⟩)];exact⟨E,g.old B⟩
   .rw[ao B,a6A _ (b8B E B),bF,E];refine⟨?_,g.new B⟩;unfold IK;rw[bF];rfl
 .have hil:ps.length=rss.length:=hP.1;rw[G,hil,bg]at M;obtain⟨o,es,ep,g1,g2,g3,g4,g5⟩:=e2;have D:H s.heap.objs.size=none:=I.hok.fresh (ak _);have F:qL.length<=rss.length:=by
   have h2:=aP List.length W;rw[IK,ai,ai]at h2;rw[h2];exact M.le
  refine⟨rfl,.ref s.heap.objs.size,_,I.laid (h':=h') (a:=s.heap.objs.size) (o:=.dT qL) (t':=tk) e1 (ak _) ⟨by omega,cM.mpr (dq (aK C)),T,e3.keeps λc ys Y=>?_,o,es,ep,g1,g2,g3,g4,g5⟩,rfl,q _ qL d D W M⟩;rw[A5 (A9 Y D)];exact Y
variable {e:Expr}{es:qA Expr}{t:TA}{p pos:Pos}
def b3x(h:X.A.units+60<cLine)(f:Gl X "dict")(g:X.mg "dict"=none)(b:JA X (e::es) t)(c:X.calm=true:=by rfl)(d:starEach (e::es) X.env=(false,eval e X.env)::starEach es X.env:=by rfl)(a:(backTo pos (starEach es X.env)).any (·.1)=false:=by rfl):JE X (.Call (.Name "dict" p) (e::es) [] pos) (tCB b2t t):=⟨U7 (a8k h c) f g b6m b.h (by decide) (by decide) d a⟩
end
section
variable {a b:Expr}{ta tb:TE}{pos:Pos}
def b8v{i j:Nat}{x y:Str}{ta:TA}{d e pt:Pos}{kt k2 pt2}(h:X.calm=true)(f:X.N.Nodup)(hi:X.N[i]?=some x)(k:X.N[j]?=some y)(c:i≠j)
  (l:X.env.scope.names.lookup x=some .local) (m:X.env.scope.names.lookup y=some .local) (g:JA X [a,b] ta)
  (hw:swappedStores [.Tuple [.Name x d,.Name y e] kt pt] (.Tuple [a,b] k2 pt2) X.env=pure (some [x,y]))
  (hs:swapsWithSole [.Tuple [.Name x d,.Name y e] kt pt] (.Tuple [a,b] k2 pt2) pos.line X.env=pure false:=by rfl) :
  JS X (.Assign [.Tuple [.Name x d,.Name y e] kt pt] (.Tuple [a,b] k2 pt2) pos) (b9f i j ta):=⟨b7A h f hi k c l m g.h hw hs⟩
end
def a6a{K:qF}{src:qA (qJ)}{σ caps:St}{Q:VK}{te:TE}(f:qI->qI)(n:vs.length<=sizeLine)(b:∀H',Same H H'->SqT K H' a vs)(hI:Its H vs rss)(c:B2 src σ=none::caps)
  (g:∀v r H1 (j:VK),r∈rss->IT H1 v r->Same H H1->(∀u H2,Same H1 H2->IT H2 u (f r)->j u H2)->te (some v::caps) H1 j) (hd:∀H1 p k,Same H H1->H1 p=none->Its H1 k (rss.map f)->Q (.ref p) (upd H1 p (.lst k))):E8 src (B0 0) O3 te σ Q (Itt K a) H:=by
 refine P8 (xs:=vs) (by omega) (λi ys H'=>Same H H'/\Its H' ys ((rss.take i).map f)) ⟨Same.refl H,by simpa using Its.nil⟩ (λi ys H' _ h=>⟨b H' h.1,by rw[h.2.1,ai];exact bE _ _⟩) ?_ ?_
 .rintro i x ys H' hx ⟨s,hy⟩;obtain⟨r,l,d,e⟩:=hI.mem hx;show Sub _ ((B2 src σ).set 0 (some x))/\_;rw[c];refine⟨Sub.one,g x r H' _ l (e.same s) s λu H2 s2 m=>?_⟩;rw[ba,d,bF];exact⟨s.trans s2,(hy.same s2).snoc m⟩
 .rintro ys H' ⟨s,hy⟩ p hp;rw[hI.1,bg]at hy;exact hd H' p ys s hp hy
def Its.take(h:Its H vs rss)(n:Nat):Its H (vs.take n) (rss.take n):=by
 refine⟨by rw[aN,aN,h.1],λi v e=>?_⟩;rw[List.getElem?_take]at e;split at e
 .rename_i hi;obtain⟨r,a,b⟩:=h.2 i v e;exact⟨r,by rw[List.getElem?_take,av hi];exact a,b⟩
 .cases e
def Its.drop(h:Its H vs rss)(n:Nat):Its H (vs.drop n) (rss.drop n):=by
 refine⟨by rw[bQ,bQ,h.1],λi v e=>?_⟩;rw[eZ]at e⊢;exact h.2 _ v e
def Its.app{b:qA V}{a:LLI}(h:Its H vs rss)(g:Its H b a):Its H (vs++b) (rss++a):=by
 refine⟨by rw[ar,ar,h.1,g.1],λi v e=>?_⟩;rcases Nat.lt_or_ge i vs.length with hi|hi
 .rw[bx hi]at e;rw[bx (by rw[<-h.1];exact hi)];exact h.2 i v e
 .rw[a' hi]at e;rw[a' (by rw[<-h.1];exact hi),<-h.1];exact g.2 _ v e
def Its.one{v:V}(h:IT H v r):Its H [v] [r]:=Its.nil.snoc h
def a4r:∀{a b:LLI},C8 a->C8 b->a.Nodup->b.Nodup->(∀v,v∈a↔v∈b)->a=b
 |[],[],_,_,_,_,_=>rfl
 |[],y::b,_,_,_,_,h=>by have:=(h y).mpr ax;cases this
 |x::a,[],_,_,_,_,h=>by have:=(h x).mp ax;cases this
 |x::a,y::b,ra,rb,na,nb,h=>by
  obtain⟨i,j⟩:=cT.mp ra;obtain⟨q1,g⟩:=cT.mp rb;obtain⟨n1,f⟩:=cq.mp na;obtain⟨c,d⟩:=cq.mp nb;have e:x=y:=by
   refine O0 x y ?_ ?_
   .rcases aA.mp ((h x).mp ax)with z|z
    .rw[z];exact G6 y
    .exact q1 x z
   .rcases aA.mp ((h y).mpr ax)with z|z
    .rw[z];exact G6 x
    .exact i y z
  subst e;rw[a4r j g f d λv=>?_];constructor
  .intro hv;rcases aA.mp ((h v).mp (au _ hv))with z|z
   .exact absurd (z ▸ hv) n1
   .exact z
  .intro hv;rcases aA.mp ((h v).mpr (au _ hv))with z|z
   .exact absurd (z ▸ hv) c
   .exact z
structure Srt(rss srt:LLI):Prop where
 ri:C8 srt
 nd:srt.Nodup
 mem:∀r,r∈srt↔r∈rss
def Srt.eq{a b:LLI}(h:Srt rss a)(g:Srt rss b):a=b:=a4r h.ri g.ri h.nd g.nd λv=>(h.mem v).trans (g.mem v).symm
end L2
namespace K28
open PySem PySem.Spec PyProof.Rows L2
variable {C a b c p:qE}{F L W rss:LLI}{H H':Hp}{P:qG}{Q:VK}{base:Heap}{cs:qA (qD Int)}{i j k n:Nat}{qL:qA (qA Key×V)}{mg:Str->qD qB}{ns r u v xs:qI}{o:HO}{vs:qA V}{w:World}{x:V}{σ:L2.St}
def top(i:Nat):Stmt:=PySem.Challenge.pw_leastlays_k28_no_answer_to_the_sides.main.body.getD i (.Pass ⟨0,0,0,0⟩)
abbrev a5u:Stmt:=top 1
abbrev a1b:Stmt:=top 2
abbrev a0p:Stmt:=top 11
abbrev a5t:Stmt:=top 12
abbrev R0:Stmt:=top 13
abbrev a0q:Stmt:=top 14
abbrev a2A:Stmt:=top 15
abbrev a2B:Stmt:=top 17
abbrev a8W:Stmt:=top 18
abbrev a8U:Stmt:=top 19
abbrev a5s:Stmt:=top 20
abbrev V9:Stmt:=top 21
abbrev L9:Stmt:=top 22
abbrev K7:Stmt:=top 24
abbrev a1c:Stmt:=top 25
abbrev a2w:Stmt:=top 26
abbrev Q9:Stmt:=top 28
abbrev M7:Stmt:=top 29
abbrev a2z:Stmt:=top 31
abbrev Q8:Stmt:=top 33
abbrev Q7:Stmt:=top 34
abbrev K8:Stmt:=top 35
abbrev a8V:Stmt:=top 37
abbrev b2e:Stmt:=top 38
abbrev a0s:Stmt:=top 40
abbrev R1:Stmt:=top 41
abbrev a1d:Stmt:=top 42
abbrev a0r:Stmt:=top 43
abbrev a2y:Stmt:=top 44
abbrev a2x:Stmt:=top 46
abbrev M6:Stmt:=top 47
abbrev a1e:Stmt:=top 48
abbrev a1f:Stmt:=top 49
abbrev M8:Stmt:=top 50
abbrev J4:Stmt:=top 51
abbrev Z5:Stmt:=top 52
abbrev K6:Stmt:=top 53
abbrev W1:Stmt:=top 55
abbrev R7:Stmt:=top 56
abbrev L3:Stmt:=top 57
abbrev K9:Stmt:=top 58
abbrev R9:Stmt:=top 59
abbrev S3:Stmt:=top 60
abbrev M9:Stmt:=top 61
abbrev L4:Stmt:=top 62
abbrev S0:Stmt:=top 63
abbrev W0:Stmt:=top 64
abbrev J5:Stmt:=top 65
abbrev G3:Stmt:=top 66
abbrev a2Z:Stmt:=top 67
abbrev E6:Stmt:=W8 (top 30) 0
abbrev a0H:Stmt:=W8 (top 30) 1
abbrev D4:Stmt:=W8 (top 30) 2
abbrev Z6:Stmt:=W8 (top 30) 3
abbrev L5:Stmt:=W8 (top 30) 4
abbrev J6:Stmt:=W8 (top 30) 5
abbrev J7:Stmt:=W8 (top 30) 6
structure Tx(mg:Str->qD qB):Prop where
 b_ValueError:mg "ValueError"=none
 b_abs:mg "abs"=none
 b_all:mg "all"=none
 b_any:mg "any"=none
 b_bool:mg "bool"=none
 b_dict:mg "dict"=none
 b_enumerate:mg "enumerate"=none
 b_int:mg "int"=none
 b_isinstance:mg "isinstance"=none
 b_len:mg "len"=none
 b_list:mg "list"=none
 b_max:mg "max"=none
 b_min:mg "min"=none
 b_range:mg "range"=none
 b_set:mg "set"=none
 b_sorted:mg "sorted"=none
 b_sum:mg "sum"=none
 b_tuple:mg "tuple"=none
 b_zip:mg "zip"=none
structure PotAt(H:Hp)(a b:qE)(n:Nat):Prop where
 ne:a≠b
 ex:∃(cs:qI) (t k:Int),H a=some (.lst [.ref b,.int t])/\H b=some (.lst (cs.map V.int))/\cs.length<=63/\(∀c∈cs,0<=c)/\0<=t/\t<2 ^ 61/\0<=k/\k<=n
def PotAt.same(h:PotAt H a b n)(s:Same H H'):PotAt H' a b n:=by
 obtain⟨ne,c,t,k,h1,h2,d⟩:=h;exact⟨ne,c,t,k,s _ _ h1,s _ _ h2,d⟩
def PotAt.mono{m:Nat}(h:PotAt H a b n)(l:n<=m):PotAt H a b m:=by
 obtain⟨ne,c,t,k,h1,h2,d,e,f,g,i,j⟩:=h;exact⟨ne,c,t,k,h1,h2,d,e,f,g,i,by omega⟩
def a9C{hi:qD Int}(h:(K5 (ns.map V.int) none hi)[i]?=some x):∃z,x=V.int z:=by
 unfold K5 at h;have b:=aH h;have a:=cJ (bT b);obtain⟨z,_,e⟩:=aT.mp a;exact⟨z,e.symm⟩
def b6f{hi:qD Int}:(K5 (ns.map V.int) none hi).length<=ns.length:=by
 have:=a0i (ns.map V.int) none hi;rwa[ai]at this
section
variable {K:qF}
inductive IspPot(K:qF)(vs:qA V)(H:Hp)(Q:VK)(E:XK):Prop
 |mk (a:qE) (ns:qI) (_:vs=[.ref a]) (_:SqL K H a (ns.map V.int)) (_:ns.length<=63) (_:∀p b H',H p=none->H b=none->PotAt H' p b 0->Same H H'->Q (.ref p) H'):IspPot K vs H Q E
def b6E(K:qF):Sp:=λvs H Q E=>IspPot K vs H Q E
def sc__law_pot:FnScope ["_law_script","_law_seed","_law_cell"] ["_law_script"] (A1 W1):={}
def b8i(F:FunAt K mg "_law_pot" W1 ["_law_script"])(T:Tx mg):Ok P w K mg base "_law_pot" 1 ["_law_script"] (b6E K):=by
 refine F.okJ sc__law_pot (λI H Q E h=>?_) (λy f A m s H I Q E J h=>?_)
 .obtain⟨a,ns,rfl,_⟩:=h;rfl
 .obtain⟨a,ns,rfl,hS,hl,k⟩:=h;refine⟨_,(A2 (B1 (i:=1) sc__law_pot.nd rfl (Or.inl rfl) A3)
 (A2 (O7 (F0 K (b6V K (jv 0) S9 (S7 A3))) (A7 (i:=2) sc__law_pot.nd rfl (Or.inl rfl))
 (A4 (B1 (i:=1) sc__law_pot.nd rfl (Or.inl rfl) (a3z (M2 (M2 (X9 (jv 1) A3) (a3z (jv 2) (a0K A3 A3))) A3) A3))))
 (A4 (A8 (Y0 (jaC (B7 (N:=["_law_cell"]) (src:=[none]) (F0 K (b6V K (jv 0) S9 (S7 A3))) (by show B9 _ _=true;rfl) (by rfl) (by rfl)
 (λ_ _ _ _ _=>(A7 (i:=0) (L2.nd ["_law_cell"]) rfl (Or.inl rfl))) (λ_ _ _ _ _=>(a1J (b9K (b3y rfl T.b_abs (jaC (jv 0) jaN)) (a0K A3 A3)))) (λ_ _ _ _ _=>(b3y rfl T.b_abs (jaC (jv 0) jaN)))) (jaC (jv 1) jaN))))))),?_⟩
  refine⟨_,rfl,63,rfl,a,_,rfl,hS,λp D=>?_⟩;refine⟨p,rfl,⟨_,SqL.of A0⟩,?_⟩;refine U9 (K:=K) (a:=p) (xs:=K5 (ns.map V.int) none (some 63)) (λi σ H2=>Ex2 λ(t:Int) (v:qD V)=>An4 (σ=[some (.ref a),some (.int t),v]) (0<=t) (t<2 ^ 61) (H2=upd H p (.lst (K5 (ns.map V.int) none (some 63)))))
   ⟨29,none,rfl,by decide,by decide,rfl⟩ (λi σ H2 _ ⟨_,_,_,_,_,e⟩=>by rw[e];exact SqL.of A0) ?_ ?_
  .rintro i x σ H2 hx ⟨t,v,rfl,h0,h1,rfl⟩;obtain⟨z,rfl⟩:=a9C hx;dsimp only[B0];refine⟨_,rfl,_,_,rfl,rfl,.inl ⟨by omega,by omega⟩,_,rfl,_,_,rfl,rfl,⟨by decide,by decide,by decide⟩,_,_,rfl,rfl,(show(0:Int)<10 ^ Int.toNat 30 by decide),_,_,rfl,rfl,_,_,rfl,rfl,_,_,rfl,rfl,(show(0:Int)<2305843009213693951 by decide),?_⟩;refine⟨_,_,rfl,d_ _ (by decide),?_,rfl⟩;have:=dF (t*6364136223846793005+z % 10 ^ Int.toNat 30+1442695040888963407) (show(0:Int)<2305843009213693951 by decide);omega
  .rintro σ H2 ⟨t,v,rfl,h0,h1,rfl⟩;have n:Same H (upd H p (.lst (K5 (ns.map V.int) none (some 63)))):=(Same.refl H).upd D;generalize upd H p (.lst (K5 (ns.map V.int) none (some 63)))=H1 at n;refine⟨_,rfl,63,rfl,a,_,rfl,n.seq hS,λp2 l=>?_⟩;have s2:Same H (upd H1 p2 (.lst (K5 (ns.map V.int) none (some 63)))):=n.upd l;refine⟨p2,rfl,⟨_,SqL.of A0⟩,?_⟩;have r:(1000:Nat)<=sizeLine:=by rw[aU];decide
   have C:=b6f (ns:=ns) (hi:=some 63);refine V2 (K:=K) (a:=p2) (xs:=K5 (ns.map V.int) none (some 63)) (by omega) (λi ys g=>g=upd H1 p2 (.lst (K5 (ns.map V.int) none (some 63)))/\ys.length<=i/\∃b:qI,ys=b.map V.int/\∀c∈b,0<=c)
    ⟨rfl,ak _,[],rfl,λ_ h=>nomatch h⟩ (λi ys g _ ⟨e,B,_⟩=>⟨by rw[e];exact SqL.of A0,B⟩) ?_ ?_
   .rintro i x ys g hx ⟨rfl,hy,b,rfl,hc⟩;obtain⟨z,rfl⟩:=a9C hx;refine⟨Sub.one,?_⟩;refine⟨_,rfl,z,rfl,_,_,rfl,rfl,⟨by decide,by decide,by decide⟩,_,_,rfl,rfl,_,rfl,a0e (λr=>?_) (λr=>?_)⟩
    .refine⟨_,rfl,z,rfl,rfl,by rw[ar];simpa using hy,b++[if z<0 then -z else z],by simp,λc j=>?_⟩;rcases aD.mp j with q|q
     .exact hc c q
     .rw[aG.mp q];split<;>omega
    .exact⟨rfl,by omega,b,rfl,hc⟩
   .rintro ys g ⟨rfl,hy,b,rfl,hc⟩ p3 hp3;refine⟨_,rfl,by show 2<=sizeLine;omega,λG d=>?_⟩;have u:=s2.upd (o:=.lst (b.map V.int)) hp3;refine k G p3 _ (u.free d) (s2.free hp3) ⟨?_,b,t,0,A0,?_,?_,hc,h0,h1,by decide,by decide⟩ (u.upd d)
    .exact(A9 (o:=.lst (b.map V.int)) A0 d).symm
    .exact O1 A0 d
    .rw[ai]at hy;omega
def at0{y:V}:atI [x,y] 0=some x:=rfl
def at1{y:V}:atI [x,y] 1=some y:=rfl
def atc{xs:qA V}:atI (x::xs) 0=some x:=a1r (j:=0) rfl
def c0a{x:Int}:ixN ((x::xs).map V.int).length 0=some 0:=by
 rw[ai,aZ];unfold ixN;rw[av (by decide),av (by omega)];rfl
inductive IspTake(vs:qA V)(H:Hp)(Q:VK)(E:XK):Prop
 |mk (a b:qE) (n:Nat) (m:Int) (_:vs=[.ref a,.int m]) (_:PotAt H a b n) (_:n<2 ^ 60) (_:0<m) (_:m<2 ^ 60) (_:∀r H',0<=r->r<m->PotAt H' a b (n+1)->Off [a,b] H H'->Q (.int r) H'):IspTake  vs H Q E
def a1x:Sp:=λvs H Q E=>IspTake  vs H Q E
def sc__law_take:FnScope ["_law_pot_here","_law_many","_law_number_here","_law_mixed"] ["_law_pot_here","_law_many"] (A1 R7):={}
def b5E(F:FunAt K mg "_law_take" R7 ["_law_pot_here","_law_many"])(T:Tx mg):Ok P w K mg base "_law_take" 1 ["_law_pot_here","_law_many"] a1x:=by
 refine F.okJ sc__law_take (λS H Q E h=>?_) (λL f A J s H S Q E N h=>?_)
 .obtain⟨a,b,n,m,rfl,_⟩:=h;rfl
 .obtain⟨a,b,n,m,rfl,⟨ne,cs,t,k,ha,hb,hlen,hpos,ht0,ht1,hk0,hk1⟩,hn,hm0,hm1,kk⟩:=h;have O:=N.u60;refine⟨_,(A2 (C7 (b3o K O (T3 K (jv 0) A3) (Y0 jaN))
 (A2 (B1 (i:=2) sc__law_take.nd rfl (Or.inl rfl) (T3 K (T3 K (jv 0) A3) A3))
 (A2 (a3x (b5U (jv 2) (jv 1)) (a7T (T3 K (jv 0) A3) A3))
 (A2 (C7 (X7 (T3 K (T3 K (jv 0) A3) A3) A3)
 (A4 (W7 (b3t K (T3 K (jv 0) A3) (jaC A3 jaN))))
 B6)
 (A4 (A8 (a3z (jv 2) (jv 1)))))))
 B6)
 (A2 (a3x (a3z (M2 (X9 (T3 K (jv 0) A3) A3) A3) A3) (a7T (jv 0) A3))
 (A2 (B1 (i:=3) sc__law_take.nd rfl (Or.inl rfl) (a3z (X9 (M2 (a3z (T3 K (jv 0) A3) A3) A3) (M2 (b3C (T3 K (jv 0) A3) A3) A3)) A3))
 (A4 (A8 (a3z (b3C (jv 3) A3) (jv 1))))))),?_⟩
  refine b9d (b:=b) (cs:=cs) (λU q=>ixL (var rfl) con ha at0 q) hb λp D=>?_;have j:=O1 (o:=.lst []) ha D;have r:=O1 (o:=.lst []) hb D;have l:Off [a,b] H (upd H p (.lst [])):=(Off.refl _ _).upd D;generalize upd H p (.lst [])=H1 at j r l;cases cs with
  |nil =>
   refine C9 ?_;refine⟨_,rfl,a,_,1,_,rfl,rfl,SqL.of j,at1,_,_,rfl,rfl,.inl ⟨by omega,by omega⟩,_,_,rfl,rfl,_,_,rfl,rfl,(show(0:Int)<2305843009213693951 by decide),?_⟩;dsimp only;generalize v:(t*3935559000370003845+2691343689449507681) % 2305843009213693951=x;have I:0<=x:=by rw[<-v];exact d_ _ (by decide)
   have R:x<2305843009213693951:=by rw[<-v];exact dF _ (by decide)
   refine⟨_,rfl,a,_,1,1,rfl,rfl,j,rfl,?_⟩;have y:PotAt (upd H1 a (.lst [.ref b,.int x])) a b (n+1):=⟨ne,[],x,0,A0,by rw[A5 ne.symm];exact r,by decide,(λ_ z=>nomatch z),I,by omega,by decide,by omega⟩;have g:Off [a,b] H (upd H1 a (.lst [.ref b,.int x])):=l.set (by simp);have d:upd H1 a (.lst [.ref b,.int x]) a=some (.lst [.ref b,.int x]):=A0;dsimp only[List.set_cons_succ,List.set_cons_zero];generalize upd H1 a (.lst [.ref b,.int x])=H2 at y g d⊢;have W:0<=x % 1000000007:=d_ _ (by decide);have q1:x % 1000000007<1000000007:=dF _ (by decide);refine⟨_,rfl,a,_,1,_,rfl,rfl,SqL.of d,at1,_,_,rfl,rfl,(show(0:Int)<1000000007 by decide),_,_,rfl,rfl,_,rfl,a,_,1,_,rfl,rfl,SqL.of d,at1,_,_,rfl,rfl,⟨by decide,by decide⟩,_,_,rfl,rfl,_,_,rfl,rfl,.inl ⟨by omega,by omega⟩,_,_,rfl,rfl,(show(0:Int)<2305843009213693921 by decide),?_⟩;dsimp only[B0];refine⟨_,rfl,_,_,rfl,rfl,⟨by decide,by decide⟩,_,rfl,_,_,rfl,rfl,hm0,?_⟩;exact kk _ _ (d_ _ (by omega)) (dF _ hm0) y g
  |cons c cs =>
   refine E5 ?_;have C:0<=c:=hpos c ax;have M:cs.length+1<=63:=hlen;refine⟨_,rfl,a,_,0,_,rfl,rfl,SqL.of j,at0,b,_,0,_,rfl,rfl,SqL.of r,atc,?_⟩;dsimp only[B0];refine⟨_,rfl,_,rfl,_,_,rfl,rfl,⟨hm0,by omega⟩,?_⟩;refine⟨_,rfl,a,_,0,_,rfl,rfl,SqL.of j,at0,b,_,0,0,rfl,rfl,r,c0a,?_⟩;have G:0<=c / m:=Int.ediv_nonneg C (by omega);dsimp only;generalize B:upd H1 b _=H2;have u:H2 b=some (.lst ((c / m::cs).map V.int)):=by rw[<-B];exact A0
   have d:H2 a=some (.lst [.ref b,.int t]):=by rw[<-B,A5 ne];exact j
   have g:Off [a,b] H H2:=by rw[<-B];exact l.set (by simp)
   refine Q6 (λσ H'=>Ex1 λo=>An3 (σ=[some (.ref a),some (.int m),some (.int c),o]) (PotAt H' a b (n+1)) (Off [a,b] H H')) ?fin λfin=>?_
   case fin =>
    rintro σ H' ⟨o,rfl,y,off⟩;refine⟨_,rfl,_,rfl,_,_,rfl,rfl,hm0,?_⟩;exact kk _ _ (d_ _ (by omega)) (dF _ hm0) y off
   refine⟨_,rfl,a,_,0,_,rfl,rfl,SqL.of d,at0,b,_,0,_,rfl,rfl,SqL.of u,atc,rfl,_,rfl,a0e (λe=>?_) (λe=>?_)⟩
   .refine⟨_,rfl,a,_,0,_,rfl,rfl,SqL.of d,at0,.inl ⟨rfl,_,SqL.of u⟩,b,_,0,0,_,rfl,rfl,u,by decide,by decide,seqIndex_of (by decide) (by simp),rfl,?_⟩;exact fin _ _ ⟨none,rfl,⟨ne,cs,t,0,by rw[A5 ne];exact d,A0,by omega,λx v=>hpos x (au _ v),ht0,ht1,by decide,by omega⟩,g.set (by simp)⟩
   .refine fin _ _ ⟨none,rfl,⟨ne,c / m::cs,t,0,d,u,hlen,λx v=>?_,ht0,ht1,by decide,by omega⟩,g⟩;rcases aA.mp v with rfl|v
    .exact G
    .exact hpos x (au _ v)
end
def X5(h:k<ns.length):atI (ns.map V.int) (k:Int)=some (.int (ns.getD k 0)):=by
 refine a1r ?_;rw[aX,aj h];simp[aq,h]
def a9c(h:PotAt H a b n){xs:qA V}(d:H c=some (.tup xs)):c∉[a,b]:=by
 obtain⟨_,e,t,k,h1,h2,_⟩:=h;simp only[aA,bA,cI,not_or];exact⟨M0 d h1 (by intro z;cases z),M0 d h2 (by intro z;cases z)⟩
def IT.off{v:V}(h:IT H v ns)(d:PotAt H a b n)(o:Off [a,b] H H'):IT H' v ns:=by
 obtain⟨c,e,q⟩:=h;exact⟨c,e,o c _ (a9c d q) q⟩
def sqt{K:qF}{xs:qA V}(h:H a=some (.tup xs)):SqK true K H a xs:=SqT.of h
def Bel(xs ys:qI):Bool:=(List.zipWith (λa b=>decide (a<=b)) xs ys).all id
def b9a(xs ys:qI):(List.zipWith (λa b=>V.bl (decide (a<=b))) xs ys).all trV=Bel xs ys:=by
 unfold Bel;induction xs generalizing ys with
 |nil=>rfl
 |cons x xs c =>
  cases ys with
  |nil=>rfl
  |cons y ys=>simp only[bq,dw,c ys];rfl
def a8q{γ:Type}(f:Int->Int->Int)(g:Int->γ):∀xs ys:qI,List.zipWith (λa b=>g (f a b)) xs ys=(List.zipWith f xs ys).map g
 |[],_=>rfl
 |_::_,[]=>rfl
 |x::xs,y::ys=>by rw[bq,bq,aV,a8q f g xs ys]
section
variable {K:qF}
end
def b3P(n:Nat):(List.replicate n [V.int 0]).flatten=(List.replicate n (0:Int)).map V.int:=by
 induction n with
 |zero=>rfl
 |succ n a=>rw[cj,cY,a,cj];rfl
def dot(xs ys:qI):Int:=(List.zipWith (λa b=>a*b) xs ys).sum
def Ans(rss:LLI)(ys:qI):Bool:=rss.all λr=>decide (dot r ys=0)
def Sm(ys:qI):Prop:=∀z∈ys,-2 ^ 64<z/\z<2 ^ 64
section
variable {K:qF}
inductive IspRowSum(vs:qA V)(H:Hp)(Q:VK)(E:XK):Prop
 |mk (x:_) (y:_) (xs:_) (ys:_) (_:vs=[x,y]) (_:IT H x xs) (_:IT H y ys) (_:xs.length<=1000) (_:Sm ys) (_:∀H',Same H H'->Q (.int (dot xs ys)) H'):IspRowSum  vs H Q E
def a6g:Sp:=λvs H Q E=>IspRowSum  vs H Q E
def a7y:FnScope ["row","one"] ["row","one"] (A1 a0p):={}
def a7J(F:FunAt K mg "row_sum" a0p ["row","one"])(T:Tx mg):Ok P w K mg base "row_sum" 1 ["row","one"] a6g:=by
 refine F.okJ a7y (λj H Q E h=>?_) (λd f A c s H j Q E m h=>?_)
 .obtain⟨x,y,xs,ys,rfl,_⟩:=h;rfl
 .obtain⟨_,_,xs,ys,rfl,⟨a,rfl,ha⟩,⟨b,rfl,hb⟩,hl,hs,k⟩:=h;refine⟨_,(A4 (A8 (a7U K rfl T.b_sum (jaC (B7 (N:=["a","b"]) (src:=[none,none]) (a1I K rfl T.b_zip (jaC (jv 0) (jaC (jv 1) jaN))) (by show B9 _ _=true;rfl) (by rfl) (by rfl)
 (λ_ _ _ _ _=>(O8 K 2 (B5 (A7 (i:=0) (L2.nd ["a","b"]) rfl (Or.inl rfl)) (B5 (A7 (i:=1) (L2.nd ["a","b"]) rfl (Or.inl rfl)) K2)))) (λ_ _ _ _ _=>C1) (λ_ _ _ _ _=>(X9 (jv 0) (jv 1)))) jaN)))),?_⟩
  refine⟨_,rfl,_,rfl,true,true,a,b,rfl,⟨_,SqT.of ha⟩,⟨_,SqT.of hb⟩,?_⟩;refine a9K (caps:=[]) (λx y=>V.int (x*y)) hl (λH' s=>⟨sqt (s _ _ ha),sqt (s _ _ hb)⟩) rfl (λx y H1 l _ g _ q=>⟨_,rfl,_,rfl,_,_,rfl,rfl,.inr (hs y g),q⟩) λH1 p s e=>?_;rw[a8q (λx y=>x*y) V.int];exact⟨false,p,_,rfl,SqL.of A0,k _ (s.upd e)⟩
inductive IspSums(vs:qA V)(H:Hp)(Q:VK)(E:XK):Prop
 |mk (a:qE) (y:V) (us:qA V) (rss:LLI) (ys:qI) (_:vs=[.ref a,y]) (_:H a=some (.tup us)) (_:Its H us rss) (_:IT H y ys) (_:us.length<=1000) (_:(∀r∈rss,r.length<=1000)) (_:Sm ys) (_:∀v H',Same H H'->IT H' v (rss.map λr=>dot r ys)->Q v H'):IspSums  vs H Q E
def a7u:Sp:=λvs H Q E=>IspSums  vs H Q E
def b4M:FnScope ["rows","one"] ["rows","one"] (A1 a5t):={}
def b5F(F:FunAt K mg "sums" a5t ["rows","one"])(T:Tx mg)(b:Ok P w K mg base "row_sum" 1 ["row","one"] a6g):Ok P w K mg base "sums" 2 ["rows","one"] a7u:=by
 refine F.okJ b4M (λn H Q E h=>?_) (λg f A e s H n Q E d h=>?_)
 .obtain⟨a,y,us,rss,ys,rfl,_⟩:=h;rfl
 .obtain⟨a,y,us,rss,ys,rfl,ha,hI,hy,c,hl2,hs,k⟩:=h;refine⟨_,(A4 (A8 (C2 K rfl T.b_tuple (jaC (B7 (N:=["row","one"]) (src:=[none,some 1]) (G7 K (jv 0)) (by show B9 _ _=true;rfl) (by rfl) (by rfl)
 (λ_ _ _ _ _=>(A7 (i:=0) (L2.nd ["row","one"]) rfl (Or.inl rfl))) (λ_ _ _ _ _=>C1) (λ_ _ _ _ _=>(A6 b (d.mono (by omega)) rfl (jaC (jv 0) (jaC (jv 1) jaN))))) jaN)))),?_⟩
  refine⟨_,rfl,a,rfl,⟨_,SqT.of ha⟩,?_⟩;refine a8D (caps:=[some y]) (λr=>V.int (dot r ys)) c (λH' s=>SqT.of (s _ _ ha)) hI rfl (λv r H1 o d m s1 q=>⟨_,rfl,_,rfl,v,y,r,ys,rfl,m,hy.same s1,hl2 r d,hs,q⟩) λH1 p s j=>?_;rw[show(rss.map λr=>V.int (dot r ys))=(rss.map λr=>dot r ys).map V.int by rw[cG];rfl];refine⟨p,_,rfl,.inl ⟨SqL.of A0,λl c=>?_⟩⟩;exact k _ _ ((s.upd j).upd c) ⟨l,rfl,A0⟩
inductive IspIsAns(vs:qA V)(H:Hp)(Q:VK)(E:XK):Prop
 |mk (a:qE) (y:V) (us:qA V) (rss:LLI) (ys:qI) (_:vs=[.ref a,y]) (_:H a=some (.tup us)) (_:Its H us rss) (_:IT H y ys) (_:us.length<=1000) (_:(∀r∈rss,r.length<=1000)) (_:Sm ys) (_:∀H',Same H H'->Q (.bl (Ans rss ys)) H'):IspIsAns  vs H Q E
def a2u:Sp:=λvs H Q E=>IspIsAns  vs H Q E
def a5n:FnScope ["rows","one"] ["rows","one"] (A1 R0):={}
def a5z(F:FunAt K mg "is_answer" R0 ["rows","one"])(T:Tx mg)(b:Ok P w K mg base "sums" 2 ["rows","one"] a7u):Ok P w K mg base "is_answer" 3 ["rows","one"] a2u:=by
 refine F.okJ a5n (λn H Q E h=>?_) (λj f A d s H n Q E m h=>?_)
 .obtain⟨a,y,us,rss,ys,rfl,_⟩:=h;rfl
 .obtain⟨a,y,us,rss,ys,rfl,ha,hI,hy,hl,hl2,hs,k⟩:=h;refine⟨_,(A4 (A8 (P0 K rfl T.b_all (jaC (B7 (N:=["total"]) (src:=[none]) (G7 K (A6 b (m.mono (by omega)) rfl (jaC (jv 0) (jaC (jv 1) jaN)))) (by show B9 _ _=true;rfl) (by rfl) (by rfl)
 (λ_ _ _ _ _=>(A7 (i:=0) (L2.nd ["total"]) rfl (Or.inl rfl))) (λ_ _ _ _ _=>C1) (λ_ _ _ _ _=>(a4y (jv 0) A3))) jaN)))),?_⟩
  refine⟨_,rfl,_,rfl,a,y,us,rss,ys,rfl,ha,hI,hy,hl,hl2,hs,λv H1 s1 c=>?_⟩;obtain⟨q,rfl,g⟩:=c;refine⟨q,rfl,⟨_,SqT.of g⟩,?_⟩;refine a6b (caps:=[]) (λx=>V.bl (decide (V.int x=V.int 0))) (by rw[ai,<-hI.1];exact hl) (λH' s=>SqT.of (s _ _ g)) rfl (λx H2 o _ _ q=>⟨_,rfl,rfl,q⟩) λH2 p s2 l=>?_;refine⟨false,p,_,rfl,SqL.of A0,?_,?_⟩
  .rw[aS];intro v c;obtain⟨x,_,rfl⟩:=aT.mp c;rfl
  .have e:((rss.map λr=>dot r ys).map λx=>V.bl (decide (V.int x=V.int 0))).all trV=Ans rss ys:=by
    rw[List.all_map,List.all_map];unfold Ans;congr 1;funext r;show decide (V.int (dot r ys)=V.int 0)=decide (dot r ys=0);simp
   rw[e];exact k _ (s1.trans (s2.upd l))
end
def a5R{α β γ:Type}(f:α->β->Int)(g:Int->γ):∀(xs:qA α) (ys:qA β),List.zipWith (λa b=>g (f a b)) xs ys=(List.zipWith f xs ys).map g
 |[],_=>rfl
 |_::_,[]=>rfl
 |x::xs,y::ys=>by rw[bq,bq,aV,a5R f g xs ys]
def S5(rss:LLI)(ts:qI)(j:Nat):Int:=(List.zipWith (λt r=>t*r.getD j 0) ts rss).sum
def a1R(rss:LLI)(ys:qI)(j:Nat):Int:=S5 rss (rss.map λr=>dot r ys) j
def Rs(n:Nat)(rss:LLI):Prop:=∀r∈rss,r.length=n/\Sm r
def Sm.at(h:Sm r)(a:j<r.length) : -2 ^ 64<r.getD j 0/\r.getD j 0<2 ^ 64:=by
 refine h _ ?_;rw[aq,aj a];exact cB _
section
variable {K:qF}
inductive IspPullOf(vs:qA V)(H:Hp)(Q:VK)(E:XK):Prop
 |mk (a:qE) (y:V) (us:qA V) (rss:LLI) (ts:qI) (j n:Nat) (_:vs=[.ref a,y,.int j]) (_:H a=some (.tup us)) (_:Its H us rss) (_:IT H y ts) (_:ts.length<=1000) (_:j<n) (_:n<=1000) (_:Rs n rss) (_:∀H',Same H H'->Q (.int (S5 rss ts j)) H'):IspPullOf  vs H Q E
def a6i:Sp:=λvs H Q E=>IspPullOf  vs H Q E
def a7z:FnScope ["rows","totals","j"] ["rows","totals","j"] (A1 a0q):={}
def a7K(F:FunAt K mg "pull_of" a0q ["rows","totals","j"])(T:Tx mg):Ok P w K mg base "pull_of" 1 ["rows","totals","j"] a6i:=by
 refine F.okJ a7z (λo H Q E h=>?_) (λe f A c s H o Q E d h=>?_)
 .obtain⟨a,y,us,rss,ts,j,n,rfl,_⟩:=h;rfl
 .obtain⟨a,_,us,rss,ts,j,n,rfl,ha,hI,⟨b,rfl,hb⟩,hl,hj,hn,hR,k⟩:=h;refine⟨_,(A4 (A8 (a7U K rfl T.b_sum (jaC (B7 (N:=["total","row","j"]) (src:=[none,none,some 2]) (a1I K rfl T.b_zip (jaC (jv 1) (jaC (jv 0) jaN))) (by show B9 _ _=true;rfl) (by rfl) (by rfl)
 (λ_ _ _ _ _=>(O8 K 2 (B5 (A7 (i:=0) (L2.nd ["total","row","j"]) rfl (Or.inl rfl)) (B5 (A7 (i:=1) (L2.nd ["total","row","j"]) rfl (Or.inl rfl)) K2)))) (λ_ _ _ _ _=>C1) (λ_ _ _ _ _=>(X9 (jv 0) (G1 K (jv 1) (jv 2))))) jaN)))),?_⟩
  refine⟨_,rfl,_,rfl,true,true,b,a,rfl,⟨_,SqT.of hb⟩,⟨_,SqT.of ha⟩,?_⟩;refine b1o (caps:=[some (.int j)]) (λt r=>V.int (t*r.getD j 0)) hl (λH' s=>⟨sqt (s _ _ hb),sqt (s _ _ ha)⟩) hI rfl (λx v r H1 u _ d m _ q=>?_) λH1 p s l=>?_
  .obtain⟨va,rfl,hva⟩:=m;obtain⟨z,g⟩:=hR r d;exact⟨_,rfl,_,rfl,_,rfl,va,_,_,_,rfl,rfl,SqT.of hva,X5 (by omega),_,_,rfl,rfl,.inr (g.at (by omega)),q⟩
  .rw[a5R (λt r=>t*List.getD r j 0) V.int];exact⟨false,p,_,rfl,SqL.of A0,k _ (s.upd l)⟩
inductive IspFalls(vs:qA V)(H:Hp)(Q:VK)(E:XK):Prop
 |mk (a:qE) (y:V) (us:qA V) (rss:LLI) (ys:qI) (_:vs=[.ref a,y]) (_:H a=some (.tup us)) (_:Its H us rss) (_:IT H y ys) (_:us.length<=1000) (_:ys.length<=1000) (_:Rs ys.length rss) (_:Sm ys) (_:∀v H',Same H H'->IT H' v (((List.range ys.length).filter λj=>decide (a1R rss ys j<0)).map λ(i:Nat)=>(i:Int))->Q v H'):IspFalls  vs H Q E
def a8O:Sp:=λvs H Q E=>IspFalls  vs H Q E
def sc_falls:FnScope ["rows","one","totals"] ["rows","one"] (A1 a2A):={}
def b2Z(F:FunAt K mg "falls" a2A ["rows","one"])(T:Tx mg)(b:Ok P w K mg base "pull_of" 1 ["rows","totals","j"] a6i)(c:Ok P w K mg base "sums" 2 ["rows","one"] a7u):Ok P w K mg base "falls" 3 ["rows","one"] a8O:=by
 refine F.okJ sc_falls (λx H Q E h=>?_) (λn f A m s H x Q E e h=>?_)
 .obtain⟨a,y,us,rss,ts,rfl,_⟩:=h;rfl
 .obtain⟨a,y,us,rss,ys,rfl,ha,hI,hy,d,hn,hR,hs,k⟩:=h;refine⟨_,(A2 (B1 (i:=2) sc_falls.nd rfl (Or.inr rfl) (A6 c (e.mono (by omega)) rfl (jaC (jv 0) (jaC (jv 1) jaN))))
 (A4 (A8 (C2 K rfl T.b_tuple (jaC (B7 (N:=["j","rows","totals"]) (src:=[none,some 0,some 2]) (E4 rfl T.b_range (jaC (G8 K rfl T.b_len (jaC (jv 1) jaN)) jaN)) (by show B9 _ _=true;rfl) (by rfl) (by rfl)
 (λ_ _ _ _ _=>(A7 (i:=0) (L2.nd ["j","rows","totals"]) rfl (Or.inl rfl))) (λ_ _ _ _ _=>(a1J (b3p (A6 b (e.mono (by omega)) rfl (jaC (jv 1) (jaC (jv 2) (jaC (jv 0) jaN)))) A3))) (λ_ _ _ _ _=>(jv 0))) jaN))))),?_⟩
  refine⟨_,rfl,_,rfl,a,y,us,rss,ys,rfl,ha,hI,hy,d,λr e=>by rw[(hR r e).1];exact hn,hs,λv H1 s1 t=>?_⟩;dsimp only[B0];obtain⟨z,rfl,g⟩:=hy.same s1;refine⟨_,rfl,z,_,rfl,.inr (SqT.of g),_,rfl,by omega,by rw[ai];omega,?_⟩;rw[bz,ai];refine a7E (caps:=[some (.ref a),some v]) (λj=>decide (a1R rss ys j<0)) hn rfl (λi H2 C hi s2 q=>?_) λH2 p s2 o=>?_
  .refine⟨_,rfl,_,rfl,_,rfl,a,v,us,rss,_,i,ys.length,rfl,(s1.trans s2) _ _ ha,hI.same (s1.trans s2),t.same s2,by rw[ai,<-hI.1];exact d,hi,hn,hR,λB u=>?_⟩;exact⟨_,_,rfl,rfl,_,rfl,q _ u⟩
  .refine⟨p,_,rfl,.inl ⟨SqL.of A0,λl d=>?_⟩⟩;exact k _ _ (s1.trans ((s2.upd o).upd d)) ⟨l,rfl,A0⟩
end
def E1(x y:Int)(xs ys:qI):dot (x::xs) (y::ys)=x*y+dot xs ys:=by unfold dot;rw[bq,bC]
def a1m(ys:qI):dot [] ys=0:=rfl
def V0(xs:qI):dot xs []=0:=by cases xs<;>rfl
def a4K:∀(xs ys:qI),xs.length=ys.length->dot xs ys=((List.range ys.length).map λj=>xs.getD j 0*ys.getD j 0).sum
 |[],[],_=>rfl
 |x::xs,y::ys,h=>by
  rw[E1,a4K xs ys (by simpa using h),aZ,List.range_succ_eq_map,aV,bC,cG];rfl
def a8J(l:qA Nat)(f g:Nat->Int):(l.map λj=>f j+g j).sum=(l.map f).sum+(l.map g).sum:=by
 induction l with
 |nil=>rfl
 |cons x l a=>simp only[aV,bC,a];omega
def a4Y(l:qA Nat)(c:Int)(f:Nat->Int):(l.map λj=>c*f j).sum=c*(l.map f).sum:=by
 induction l with
 |nil=>simp
 |cons x l a=>simp only[aV,bC,a,Int.mul_add]
def bump(now:qI)(j:Nat):qI:=now.set j (now.getD j 0+1)
def Pl(rss:LLI)(now xs:qI):qA Nat:=(List.range xs.length).filter λj=>decide (now.getD j 0<xs.getD j 0) && (Ans rss now || decide (a1R rss now j<0))
def Under(now xs:qI):Prop:=now.length=xs.length/\∀j,j<xs.length->now.getD j 0<=xs.getD j 0
def E9(a:qI)(j:Nat):(bump a j).length=a.length:=eV
def b2D{a:qI}(h:j∈Pl rss a xs):j<xs.length/\a.getD j 0<xs.getD j 0:=by
 unfold Pl at h;rw[aW,bf,aO,bD]at h;exact⟨h.1,h.2.1⟩
def a1p(a:qI)(j k:Nat)(b:j<a.length):(bump a j).getD k 0=if k=j then a.getD j 0+1 else a.getD k 0:=by
 unfold bump;rw[aq,fE];by_cases e:j=k
 .subst e;rw[av rfl,av b,av rfl];rfl
 .rw[ao e,ao (dq e),aq]
def Under.bump{a:qI}(h:Under a xs)(b:j∈Pl rss a xs):Under (bump a j) xs:=by
 obtain⟨h1,h2⟩:=b2D b;refine⟨by rw[E9];exact h.1,λk c=>?_⟩;rw[a1p _ _ _ (by rw[h.1];exact h1)];by_cases e:k=j
 .rw[av e,e];omega
 .rw[ao e];exact h.2 k c
def a8H:∀(xs:qI) (k:Nat) (z:Int),k<xs.length->(xs.set k z).sum=xs.sum-xs.getD k 0+z
 |[],_,_,h=>by simp at h
 |x::xs,0,z,_=>by rw[List.set_cons_zero,bC,bC,List.getD_cons_zero];omega
 |x::xs,k+1,z,h=>by rw[List.set_cons_succ,bC,bC,List.getD_cons_succ,a8H xs k z (by simpa using h)];omega
def a7g(a:qI)(j:Nat)(h:j<a.length):(bump a j).sum=a.sum+1:=by
 unfold bump;rw[a8H _ _ _ h];omega
def Under.tail{x y:Int}{ys:qI}(h:Under (x::xs) (y::ys)):x<=y/\Under xs ys :=
 ⟨by simpa using h.2 0 (by simp),by simpa using h.1,λj a=>by simpa using h.2 (j+1) (by simpa using a)⟩
def Under.sum:∀{xs ys:qI},Under xs ys->xs.sum<=ys.sum/\(xs≠ys->xs.sum<ys.sum)
 |[],[],_=>⟨dh _,λh=>absurd rfl h⟩
 |[],_::_,h=>by have:=h.1;simp at this
 |_::_,[],h=>by have:=h.1;simp at this
 |x::xs,y::ys,h=>by
  obtain⟨h1,h2⟩:=h.tail;obtain⟨b,a⟩:=Under.sum h2;rw[bC,bC];refine⟨by omega,λne=>?_⟩;by_cases e:xs=ys
  .subst e;have:x≠y:=λq=>ne (by rw[q]);omega
  .have:=a e;omega
def Under.ne:∀{xs ys:qI},Under xs ys->xs≠ys->∃j,j<ys.length/\xs.getD j 0<ys.getD j 0
 |[],[],_,h=>absurd rfl h
 |[],_::_,h,_=>by have:=h.1;simp at this
 |_::_,[],h,_=>by have:=h.1;simp at this
 |x::xs,y::ys,h,ne=>by
  obtain⟨h1,h2⟩:=h.tail;by_cases e:xs=ys
  .subst e;have:x≠y:=λq=>ne (by rw[q]);exact⟨0,by simp,by simp;omega⟩
  .obtain⟨j,q1,q2⟩:=Under.ne h2 e;exact⟨j+1,by simpa using q1,by simpa using q2⟩
def a4X(l:qI)(h:∀x∈l,0<=x):0<=l.sum:=by
 induction l with
 |nil=>exact dh _
 |cons x l b =>
  rw[bC];have:=h x (ax ..);have:=b λy a=>h y (au _ a);omega
def a8I(l:qI)(h:∀x∈l,0<=x)(y:Int)(b:y∈l)(hp:0<y):0<l.sum:=by
 induction l with
 |nil=>cases b
 |cons x l c =>
  rw[bC];have e:=h x (ax ..);have d:=a4X l λz a=>h z (au _ a);rcases aA.mp b with q|q
  .omega
  .have:=c (λz a=>h z (au _ a)) q;omega
def a1Z(t:Int):0<=t*t:=by
 rcases Int.le_total 0 t with h|h
 .exact eF h h
 .have:=eF (a := -t) (b := -t) (by omega) (by omega);rwa[Int.neg_mul_neg]at this
def a2Q(ys:qI):∀(rss:LLI) (a:qI),(∀r∈rss,r.length=ys.length)->a.length=rss.length ->
  ((List.range ys.length).map λj=>S5 rss a j*ys.getD j 0).sum=(List.zipWith (λt r=>t*dot r ys) a rss).sum
 |[],[],_,_=>by
  have e:((List.range ys.length).map λj=>S5 [] [] j*ys.getD j 0)=(List.range ys.length).map λj=>0*ys.getD j 0:=rfl;rw[e,a4Y,Int.zero_mul];rfl
 |[],_::_,_,h=>by simp at h
 |_::_,[],_,h=>by simp at h
 |r::rss,t::a,h,b=>by
  have d:=a2Q ys rss a (λq c=>h q (au _ c)) (by simpa using b);rw[bq,bC,<-d];have e:(λj=>S5 (r::rss) (t::a) j*ys.getD j 0)=λj=>t*(r.getD j 0*ys.getD j 0)+S5 rss a j*ys.getD j 0:=by
   funext j;unfold S5;rw[bq,bC,Int.add_mul,Int.mul_assoc]
  rw[e,a8J,a4Y,<-a4K r ys (h r (ax ..))]
def a8K:∀(rss:LLI) (a xs:qI),Ans rss xs=true->(List.zipWith (λt r=>t*dot r xs) (rss.map λr=>dot r a) rss).sum=0
 |[],_,_,_=>rfl
 |r::rss,a,xs,h=>by
  unfold Ans at h;rw[dw,aO,bD]at h;rw[aV,bq,bC,h.1,a8K rss a xs h.2];omega
def b7n(rss:LLI)(a:qI)(h:Ans rss a=false):0<(List.zipWith (λt r=>t*dot r a) (rss.map λr=>dot r a) rss).sum:=by
 have e:List.zipWith (λt r=>t*dot r a) (rss.map λr=>dot r a) rss=rss.map λr=>dot r a*dot r a:=by
  clear h;induction rss with
  |nil=>rfl
  |cons r rss f=>rw[aV,bq,aV,f]
 rw[e];have:∃r∈rss,dot r a≠0:=by
  refine bY λq=>?_;have:Ans rss a=true:=by
   unfold Ans;rw[aS];intro r c;rw[bD];exact bY λz=>q ⟨r,c,z⟩
  rw[this]at h;cases h
 obtain⟨r,c,b⟩:=this;refine a8I _ (λx d=>?_) (dot r a*dot r a) (aT.mpr ⟨r,c,rfl⟩) ?_
 .obtain⟨q,_,rfl⟩:=aT.mp d;exact a1Z _
 .have h1:=a1Z (dot r a);have h2:dot r a*dot r a≠0:=λz=>by
   rcases Int.mul_eq_zero.mp z with q|q<;>exact b q
  omega
def b9y(rss:LLI)(a xs:qI)(hR:∀r∈rss,r.length=xs.length)(c:Under a xs)(h:a≠xs)(m:Ans rss xs=true):Pl rss a xs≠[]:=by
 intro b;unfold Pl at b;rw[List.filter_eq_nil_iff]at b;cases d:Ans rss a with
 |true =>
  obtain⟨j,h1,h2⟩:=c.ne h;refine b j (bf.mpr h1) ?_;rw[d,aO,bD];exact⟨h2,rfl⟩
 |false =>
  have p1:=a2Q a rss (rss.map λr=>dot r a) (λr o=>by rw[hR r o,c.1]) (by simp);have p2:=a2Q xs rss (rss.map λr=>dot r a) hR (by simp);have w:=b7n rss a d;have u:=a8K rss a xs m;rw[c.1]at p1;have v:((List.range xs.length).map λj=>S5 rss (rss.map λr=>dot r a) j*a.getD j 0+(-1)*(S5 rss (rss.map λr=>dot r a) j*xs.getD j 0)).sum<=0:=by
   have hs:∀(l:qI),(∀x∈l,x<=0)->l.sum<=0:=λl k=>by
    induction l with
    |nil=>exact dh _
    |cons x l t =>
     rw[bC];have:=k x (ax ..);have:=t λy s=>k y (au _ s);omega
   refine hs _ λx p=>?_;obtain⟨j,i,rfl⟩:=aT.mp p;have f:=bf.mp i;have n:=c.2 j f;have e:S5 rss (rss.map λr=>dot r a) j*a.getD j 0+(-1)*(S5 rss (rss.map λr=>dot r a) j*xs.getD j 0) = -(S5 rss (rss.map λr=>dot r a) j*(xs.getD j 0-a.getD j 0)):=by
    rw[Int.mul_sub];omega
   rw[e];by_cases g:a.getD j 0<xs.getD j 0
   .have hp:0<=S5 rss (rss.map λr=>dot r a) j:=by
     have q:=b j i;rw[d]at q;have A:¬a1R rss a j<0:=λz=>q (by simp only[eS,aO,bD];exact⟨g,z⟩);show 0<=a1R rss a j;omega
    have:=eF hp (show 0<=xs.getD j 0-a.getD j 0 by omega);omega
   .have:xs.getD j 0-a.getD j 0=0:=by omega
    rw[this,Int.mul_zero];exact dh _
  rw[a8J,a4Y,p1,p2,u]at v;omega
section
variable {K:qF}
inductive IspBelow(vs:qA V)(H:Hp)(Q:VK)(E:XK):Prop
 |mk (x:_) (y:_) (xs:_) (ys:_) (_:vs=[x,y]) (_:IT H x xs) (_:IT H y ys) (_:xs.length<=1000) (_:∀H',Same H H'->Q (.bl (Bel xs ys)) H'):IspBelow  vs H Q E
def a2v:Sp:=λvs H Q E=>IspBelow  vs H Q E
def b2d:FnScope ["one","other"] ["one","other"] (A1 a2B):={}
def b3b(F:FunAt K mg "below" a2B ["one","other"])(T:Tx mg):Ok P w K mg base "below" 1 ["one","other"] a2v:=by
 refine F.okJ b2d (λj H Q E h=>?_) (λd f A c s H j Q E m h=>?_)
 .obtain⟨x,y,xs,ys,rfl,_⟩:=h;rfl
 .obtain⟨_,_,xs,ys,rfl,⟨a,rfl,ha⟩,⟨b,rfl,hb⟩,hl,k⟩:=h;refine⟨_,(A4 (A8 (P0 K rfl T.b_all (jaC (B7 (N:=["a","b"]) (src:=[none,none]) (a1I K rfl T.b_zip (jaC (jv 0) (jaC (jv 1) jaN))) (by show B9 _ _=true;rfl) (by rfl) (by rfl)
 (λ_ _ _ _ _=>(O8 K 2 (B5 (A7 (i:=0) (L2.nd ["a","b"]) rfl (Or.inl rfl)) (B5 (A7 (i:=1) (L2.nd ["a","b"]) rfl (Or.inl rfl)) K2)))) (λ_ _ _ _ _=>C1) (λ_ _ _ _ _=>(b6S (jv 0) (jv 1)))) jaN)))),?_⟩
  refine⟨_,rfl,_,rfl,true,true,a,b,rfl,⟨_,SqT.of ha⟩,⟨_,SqT.of hb⟩,?_⟩;refine b1q (caps:=[]) (λx y=>V.bl (decide (x<=y))) (sqt ha) (sqt hb) hl (λH' s=>⟨sqt (s _ _ ha),sqt (s _ _ hb)⟩) rfl (λx y H1 l _ q=>⟨_,rfl,_,rfl,_,_,rfl,rfl,q⟩) λH1 p s e=>?_;refine⟨false,p,_,rfl,SqL.of A0,?_,?_⟩
  .rw[aS];intro v g;obtain⟨i,hi,rfl⟩:=bR.mp g;rw[fY];rfl
  .rw[b9a];exact k _ (s.upd e)
inductive IspUnit(vs:qA V)(H:Hp)(Q:VK)(E:XK):Prop
 |mk (wd:Int) (n j:Nat) (_:vs=[.int wd,.int j]) (_:wd=n) (_:n<=1000) (_:j<n) (_:∀v H',Same H H'->IT H' v ((List.range n).map λi=>if i=j then 1 else 0)->Q v H'):IspUnit  vs H Q E
def b1K:Sp:=λvs H Q E=>IspUnit  vs H Q E
def b4L:FnScope ["width","j"] ["width","j"] (A1 a5s):={}
def b5C(F:FunAt K mg "unit" a5s ["width","j"])(T:Tx mg):Ok P w K mg base "unit" 1 ["width","j"] b1K:=by
 refine F.okJ b4L (λm H Q E h=>?_) (λc f A b s H m Q E r h=>?_)
 .obtain⟨_,n,j,rfl,_⟩:=h;rfl
 .obtain⟨_,n,j,rfl,rfl,hn,hj,k⟩:=h;refine⟨_,(A4 (A8 (C2 K rfl T.b_tuple (jaC (B7 (N:=["k","j"]) (src:=[none,some 1]) (E4 rfl T.b_range (jaC (jv 0) jaN)) (by show B9 _ _=true;rfl) (by rfl) (by rfl)
 (λ_ _ _ _ _=>(A7 (i:=0) (L2.nd ["k","j"]) rfl (Or.inl rfl))) (λ_ _ _ _ _=>C1) (λ_ _ _ _ _=>(b9M (X7 (jv 0) (jv 1)) A3 A3))) jaN)))),?_⟩
  refine⟨_,rfl,n,rfl,by omega,by omega,?_⟩;rw[bz];refine a3c (caps:=[some (.int j)]) (λi=>V.int (if i=j then 1 else 0)) hn rfl (λi H1 o hi _ q=>?_) λH1 p s g=>?_
  .refine⟨_,rfl,_,rfl,rfl,_,rfl,a0e (λe=>?_) (λe=>?_)⟩
   .have e1:(i:Int)=(j:Int):=by simpa using e
    have a:i=j:=by omega
    rw[av a]at q;exact q
   .have e1:¬(i:Int)=(j:Int):=by simpa using e
    have a:i≠j:=by omega
    rw[ao a]at q;exact q
  .rw[show((List.range n).map λi=>V.int (if i=j then 1 else 0))=((List.range n).map λi=>if i=j then(1:Int)else 0).map V.int by rw[cG];rfl];refine⟨p,_,rfl,.inl ⟨SqL.of A0,λl d=>?_⟩⟩;exact k _ _ ((s.upd g).upd d) ⟨l,rfl,A0⟩
def cV:qD Int->V
 |none=>.non
 |some c=>.int c
def b0W(c:qD Int)(x:Int):Bool:=match c with|none=>true|some c=>decide (x<=c)
def Wi(cs:qA (qD Int))(xs:qI):Bool:=(List.zipWith b0W cs xs).all id
def b9b(cs:qA (qD Int))(xs:qI):(List.zipWith (λc x=>V.bl (b0W c x)) cs xs).all trV=Wi cs xs:=by
 unfold Wi;induction cs generalizing xs with
 |nil=>rfl
 |cons c cs a =>
  cases xs with
  |nil=>rfl
  |cons x xs=>rw[bq,bq,dw,dw,a];rfl
inductive IspWithin(vs:qA V)(H:Hp)(Q:VK)(E:XK):Prop
 |mk (a b:qE) (cs:qA (qD Int)) (xs:qI) (_:vs=[.ref a,.ref b]) (_:H a=some (.tup (cs.map cV))) (_:H b=some (.tup (xs.map V.int))) (_:cs.length<=1000) (_:∀H',Same H H'->Q (.bl (Wi cs xs)) H'):IspWithin  vs H Q E
def a2R:Sp:=λvs H Q E=>IspWithin  vs H Q E
def a9Y:FnScope ["caps","one"] ["caps","one"] (A1 a1b):={}
def a4t(F:FunAt K mg "within" a1b ["caps","one"])(T:Tx mg):Ok P w K mg base "within" 1 ["caps","one"] a2R:=by
 refine F.okJ a9Y (λl H Q E h=>?_) (λe f A d s H l Q E n h=>?_)
 .obtain⟨a,b,cs,xs,rfl,_⟩:=h;rfl
 .obtain⟨a,b,cs,xs,rfl,ha,hb,hl,k⟩:=h;refine⟨_,(A4 (A8 (P0 K rfl T.b_all (jaC (B7 (N:=["cap","number"]) (src:=[none,none]) (a1I K rfl T.b_zip (jaC (jv 0) (jaC (jv 1) jaN))) (by show B9 _ _=true;rfl) (by rfl) (by rfl)
 (λ_ _ _ _ _=>(O8 K 2 (B5 (A7 (i:=0) (L2.nd ["cap","number"]) rfl (Or.inl rfl)) (B5 (A7 (i:=1) (L2.nd ["cap","number"]) rfl (Or.inl rfl)) K2)))) (λ_ _ _ _ _=>C1) (λ_ _ _ _ _=>(b9L (b8s (jv 0) X8) (a0d (b6S (jv 1) (jv 0)))))) jaN)))),?_⟩
  refine⟨_,rfl,_,rfl,true,true,a,b,rfl,⟨_,SqT.of ha⟩,⟨_,SqT.of hb⟩,?_⟩;refine b4s (caps:=[]) cV V.int (λc x=>V.bl (b0W c x)) hl (λH' s=>⟨sqt (s _ _ ha),sqt (s _ _ hb)⟩) rfl (λc x H1 m _ _ _ q=>?_) λH1 p s g=>?_
  .cases c with
   |none=>exact⟨_,rfl,rfl,true,rfl,E5 (q _ (Same.refl _))⟩
   |some c=>exact⟨_,rfl,rfl,false,rfl,C9 ⟨_,rfl,_,rfl,_,_,rfl,rfl,q _ (Same.refl _)⟩⟩
  refine⟨false,p,_,rfl,SqL.of A0,?_,?_⟩
  .rw[aS];intro v j;obtain⟨i,hi,rfl⟩:=bR.mp j;rw[fY];rfl
  .rw[b9b];exact k _ (s.upd g)
end
def O2(n j:Nat):qI:=(List.range n).map λi=>if i=j then(1:Int)else 0
def P9(cs:qA (qD Int)):LLI:=((List.range cs.length).map (O2 cs.length)).filter λu=>Wi cs u
def a9E(c:qD Int)(x:Int):Bool:=match c with|none=>true|some c=>decide (x<c)
def StP(rss:LLI)(cs:qA (qD Int))(ys:qI):qA Nat:=((List.range ys.length).filter λj=>decide (a1R rss ys j<0)).filter λj=>a9E (cs.getD j none) (ys.getD j 0)
section
variable {K:qF}
inductive IspFirst(vs:qA V)(H:Hp)(Q:VK)(E:XK):Prop
 |mk (a:qE) (cs:qA (qD Int)) (_:vs=[.ref a]) (_:H a=some (.tup (cs.map cV))) (_:1<=cs.length) (_:cs.length<=100) (_:∀p zs tss H',Same H H'->H' p=some (.tup zs)->Its H' zs tss->tss.Perm (P9 cs)->C8 tss->Q (.ref p) H'):IspFirst  vs H Q E
def a5h:Sp:=λvs H Q E=>IspFirst  vs H Q E
def sc_first_steps:FnScope ["caps","units"] ["caps"] (A1 K7):={}
def a3g(F:FunAt K mg "first_steps" K7 ["caps"])(T:Tx mg)(c:Ok P w K mg base "unit" 1 ["width","j"] b1K)(b:Ok P w K mg base "within" 1 ["caps","one"] a2R):Ok P w K mg base "first_steps" 2 ["caps"] a5h:=by
 refine F.okJ sc_first_steps (λX H Q E h=>?_) (λU f A L s H X Q E n h=>?_)
 .obtain⟨a,cs,rfl,_⟩:=h;rfl
 .obtain⟨a,cs,rfl,ha,h1,h2,k⟩:=h;have Z:(3000:Nat)<=sizeLine:=by rw[aU];decide
  refine⟨_,(A2 (a5C (i:=1) sc_first_steps.nd rfl (Or.inl rfl) (N:=["j","caps"]) (src:=[none,some 0]) (E4 rfl T.b_range (jaC (G8 K rfl T.b_len (jaC (jv 0) jaN)) jaN)) (by show B9 _ _=true;rfl) (by rfl) (by rfl)
 (λ_ _ _ _ _=>(A7 (i:=0) (L2.nd ["j","caps"]) rfl (Or.inl rfl))) (λ_ _ _ _ _=>C1) (λ_ _ _ _ _=>(A6 c (n.mono (by omega)) rfl (jaC (G8 K rfl T.b_len (jaC (jv 1) jaN)) (jaC (jv 0) jaN)))))
 (A4 (A8 (C2 K rfl T.b_tuple (jaC (a3y K rfl T.b_sorted (jaC (B7 (N:=["one","caps"]) (src:=[none,some 0]) (F0 K (jv 1)) (by show B9 _ _=true;rfl) (by rfl) (by rfl)
 (λ_ _ _ _ _=>(A7 (i:=0) (L2.nd ["one","caps"]) rfl (Or.inl rfl))) (λ_ _ _ _ _=>(a1J (C6 K (A6 b (n.mono (by omega)) rfl (jaC (jv 1) (jaC (jv 0) jaN)))))) (λ_ _ _ _ _=>(jv 0))) jaN)) jaN))))),?_⟩
  refine⟨_,rfl,a,_,rfl,.inr (SqT.of ha),_,rfl,by rw[ai];omega,by rw[ai];omega,?_⟩;rw[bz,ai];refine a1g (caps:=[some (.ref a)]) (by omega) rfl (λi ys H'=>Same H H'/\Its H' ys ((List.range i).map (O2 cs.length))) ⟨Same.refl H,.nil⟩ (λi ys H' h=>by rw[h.2.1];simp) ?_ ?_
  .rintro i ys H' hi ⟨s',hI⟩;refine⟨_,rfl,a,_,rfl,.inr (SqT.of (s' _ _ ha)),_,rfl,_,cs.length,i,rfl,by rw[ai],by omega,hi,λv H2 s2 J=>⟨s'.trans s2,?_⟩⟩;rw[List.range_succ,bF];exact(hI.same s2).snoc J
  .rintro ys H' ⟨s',hI⟩ p hp;dsimp only[B0];have s1:=s'.upd (o:=.lst ys) hp;have e:=hI.same ((Same.refl H').upd (o:=.lst ys) hp);have y:upd H' p (.lst ys) p=some (.lst ys):=A0;generalize upd H' p (.lst ys)=H1 at s1 e y;refine⟨_,rfl,p,rfl,⟨_,SqL.of y⟩,?_⟩;have V:ys.length=cs.length:=by rw[hI.1];simp
   refine a3p (caps:=[some (.ref a)]) (λu=>Wi cs u) (by omega) (λH2 s2=>SqL.of (s2 _ _ y)) e rfl (λv r H2 Y n J s2 q=>?_) λH2 p2 d s2 m z=>?_
   .obtain⟨va,rfl,hva⟩:=J;exact⟨_,rfl,_,rfl,a,va,cs,r,rfl,(s1.trans s2) _ _ ha,hva,by omega,λt x=>⟨Wi cs r,rfl,q t x⟩⟩
   have x:=(s1.trans s2).upd (o:=.lst d) m;have g:=z.same ((Same.refl H2).upd (o:=.lst d) m);have O:upd H2 p2 (.lst d) p2=some (.lst d):=A0;generalize upd H2 p2 (.lst d)=t at x g O;refine⟨p2,d,_,rfl,.inl (SqL.of O),g,λr n=>?_,λl zs M C B G I _=>?_⟩
   .obtain⟨j,_,rfl⟩:=aT.mp (aW.mp n).1;simp[O2];omega
   refine⟨l,_,rfl,.inl ⟨SqL.of A0,λW D=>?_⟩⟩;have R:=(Same.refl t).upd (o:=.lst zs) C;have S:=(Same.refl (upd t l (.lst zs))).upd (o:=.tup zs) D;exact k W zs M _ ((x.trans R).trans S) A0 ((B.same R).same S) G I
inductive IspRaised(vs:qA V)(H:Hp)(Q:VK)(E:XK):Prop
 |mk (y:V) (ys:qI) (j:Nat) (_:vs=[y,.int j]) (_:IT H y ys) (_:j<ys.length) (_:ys.length<=1000) (_:∀v H',Same H H'->IT H' v (bump ys j)->Q v H'):IspRaised  vs H Q E
def a6h:Sp:=λvs H Q E=>IspRaised  vs H Q E
def a9Z:FnScope ["one","j"] ["one","j"] (A1 a1c):={}
def b0q(F:FunAt K mg "raised" a1c ["one","j"]):Ok P w K mg base "raised" 1 ["one","j"] a6h:=by
 refine F.okJ a9Z (λd H Q E h=>?_) (λc f A b s H d Q E e h=>?_)
 .obtain⟨y,ys,j,rfl,_⟩:=h;rfl
 .obtain⟨_,ys,j,rfl,⟨a,rfl,ha⟩,hj,hl,k⟩:=h;refine⟨_,(A4 (A8 (N7 (N7 (b3A K (jv 0) S9 (S7 (jv 1))) (E3 (jaC (M2 (G1 K (jv 0) (jv 1)) A3) jaN))) (b3A K (jv 0) (S7 (M2 (jv 1) A3)) S9)))),?_⟩;exact b7v (i:=0) (j:=1) (a:=a) (xs:=ys) (k:=j) (z:=ys.getD j 0+1) rfl rfl ha hj hl (λH' N s' q=>⟨_,rfl,_,rfl,a,_,_,_,rfl,rfl,SqT.of (s' _ _ ha),X5 hj,_,_,rfl,rfl,q⟩) k
inductive IspSteps(vs:qA V)(H:Hp)(Q:VK)(E:XK):Prop
 |mk (a c:qE) (y:V) (us:qA V) (rss:LLI) (cs:qA (qD Int)) (ys:qI) (_:vs=[.ref a,.ref c,y]) (_:H a=some (.tup us)) (_:Its H us rss) (_:H c=some (.tup (cs.map cV))) (_:IT H y ys) (_:us.length<=1000) (_:ys.length<=100) (_:cs.length=ys.length) (_:Rs ys.length rss) (_:Sm ys) (_:∀p ps H',Same H H'->H' p=some (.lst ps)->Prs H' ps (bump ys) (StP rss cs ys)->Q (.ref p) H'):IspSteps  vs H Q E
def a5c:Sp:=λvs H Q E=>IspSteps  vs H Q E
def b4d(h:j<cs.length):atI (cs.map cV) (j:Int)=some (cV (cs.getD j none)):=by
 refine a1r ?_;rw[aX,aj h];simp[aq,h]
def sc_steps:FnScope ["rows","caps","one","places"] ["rows","caps","one"] (A1 a2w):={}
def b2T(F:FunAt K mg "steps" a2w ["rows","caps","one"])(T:Tx mg)(d:Ok P w K mg base "falls" 3 ["rows","one"] a8O)(b:Ok P w K mg base "raised" 1 ["one","j"] a6h):Ok P w K mg base "steps" 4 ["rows","caps","one"] a5c:=by
 refine F.okJ sc_steps (λU H Q E h=>?_) (λO f A D s H U Q E J h=>?_)
 .obtain⟨a,c,y,us,rss,cs,ys,rfl,_⟩:=h;rfl
 .obtain⟨a,c,_,us,rss,cs,ys,rfl,ha,hI,hc,⟨y,rfl,hy⟩,hl,hn,hcl,hR,hs,k⟩:=h;have X:(3000:Nat)<=sizeLine:=by rw[aU];decide
  refine⟨_,(A2 (a5C (i:=3) sc_steps.nd rfl (Or.inl rfl) (N:=["j","caps","one"]) (src:=[none,some 1,some 2]) (G7 K (A6 d (J.mono (by omega)) rfl (jaC (jv 0) (jaC (jv 2) jaN)))) (by show B9 _ _=true;rfl) (by rfl) (by rfl)
 (λ_ _ _ _ _=>(A7 (i:=0) (L2.nd ["j","caps","one"]) rfl (Or.inl rfl))) (λ_ _ _ _ _=>(a1J (a1j (a2e (b8u (G1 K (jv 1) (jv 0)) X8) (a0R (b3p (G1 K (jv 2) (jv 0)) (G1 K (jv 1) (jv 0)))))))) (λ_ _ _ _ _=>(jv 0)))
 (A4 (A8 (B7 (N:=["j","one"]) (src:=[none,some 2]) (F0 K (jv 3)) (by show B9 _ _=true;rfl) (by rfl) (by rfl)
 (λ_ _ _ _ _=>(A7 (i:=0) (L2.nd ["j","one"]) rfl (Or.inl rfl))) (λ_ _ _ _ _=>C1) (λ_ _ _ _ _=>(E3 (jaC (jv 0) (jaC (A6 b (J.mono (by omega)) rfl (jaC (jv 1) (jaC (jv 0) jaN))) jaN)))))))),?_⟩
  refine⟨_,rfl,_,rfl,a,_,us,rss,ys,rfl,ha,hI,⟨y,rfl,hy⟩,hl,by omega,hR,hs,λv H1 s1 C=>?_⟩;obtain⟨va,rfl,hva⟩:=C;refine⟨va,rfl,⟨_,SqT.of hva⟩,?_⟩;rw[cG]at hva;have m:∀j∈(List.range ys.length).filter (λj=>decide (a1R rss ys j<0)),j<ys.length:=λj g=>bf.mp (aW.mp g).1;have r:((List.range ys.length).filter (λj=>decide (a1R rss ys j<0))).length<=ys.length:=bh (bu _ _) (by simp);refine a9R (caps:=[some (.ref c),some (.ref y)]) (λ(j:Nat)=>V.int j) (λj=>a9E (cs.getD j none) (ys.getD j 0)) (by omega) (λH' s=>SqT.of (s _ _ hva)) rfl (λj H2 W g s2 q=>?_) λH2 p2 s2 t=>?_
  .have hj':=m j g;refine⟨_,rfl,_,rfl,c,_,_,_,rfl,rfl,SqT.of ((s1.trans s2) _ _ hc),b4d (by omega),rfl,_,rfl,?_⟩;cases e:cs.getD j none with
   |none =>
    rw[e]at q;exact E5 (q _ (Same.refl _))
   |some z =>
    rw[e]at q;refine C9 ⟨_,rfl,_,rfl,y,_,_,_,rfl,rfl,SqT.of ((s1.trans s2) _ _ hy),X5 hj',_,rfl,_,rfl,c,_,_,_,rfl,rfl,SqT.of ((s1.trans s2) _ _ hc),b4d (by omega),?_⟩;rw[e];exact⟨_,_,rfl,rfl,_,rfl,q _ (Same.refl _)⟩
  have G:=(s1.trans s2).upd (o:=.lst ((StP rss cs ys).map λ(j:Nat)=>V.int j)) t;have p:upd H2 p2 (.lst ((StP rss cs ys).map λ(j:Nat)=>V.int j)) p2=some (.lst ((StP rss cs ys).map λ(j:Nat)=>V.int j)):=A0;have B:∀j∈StP rss cs ys,j<ys.length:=λj g=>m j (aW.mp g).1;have S:(StP rss cs ys).length<=ys.length:=bh (bu _ _) r;have R:((List.range ys.length).filter λj=>decide (a1R rss ys j<0)).filter (λj=>a9E (cs.getD j none) (ys.getD j 0))=StP rss cs ys:=rfl;rw[R];dsimp only[B0];generalize upd H2 p2 (.lst ((StP rss cs ys).map λ(j:Nat)=>V.int j))=I at G p;refine⟨_,rfl,p2,rfl,⟨_,SqL.of p⟩,?_⟩;refine V2 (xs:=(StP rss cs ys).map λ(j:Nat)=>V.int j) (by rw[ai];omega) (λi qs H'=>Same I H'/\Prs H' qs (bump ys) ((StP rss cs ys).take i)) ⟨Same.refl I,Prs.nil⟩ (λi qs H' _ h=>⟨SqL.of (h.1 _ _ p),by rw[h.2.1];exact bE _ _⟩) ?_ ?_
  .rintro i x qs H' hx ⟨s',hP⟩;rw[aX]at hx;cases n:(StP rss cs ys)[i]? with
   |none=>rw[n]at hx;cases hx
   |some j =>
    rw[n]at hx;cases hx;have g:=B j (aH n);refine⟨Sub.one,_,rfl,_,rfl,_,rfl,_,ys,j,rfl,⟨y,rfl,(G.trans s') _ _ hy⟩,g,by omega,λv M L C=>?_⟩;refine⟨by show 2<=sizeLine;omega,λY u=>?_⟩;have l:=(Same.refl M).upd (o:=.tup [.int j,v]) u;refine⟨(s'.trans L).trans l,?_⟩;rw[ba,n];exact((hP.same L).same l).snoc A0 (C.same l)
  .rintro qs H' ⟨s',hP⟩ p4 hp4;rw[ai,bg]at hP;have l:=(Same.refl H').upd (o:=.lst qs) hp4;exact k p4 qs _ ((G.trans s').trans l) A0 (hP.same l)
def Bar(fss:LLI)(ys:qI)(j:Nat):Bool:=fss.any λf=>decide (f.getD j 0=ys.getD j 0) && Bel f ys
inductive IspBarred(vs:qA V)(H:Hp)(Q:VK)(E:XK):Prop
 |mk (l:qE) (y:V) (fs:qA V) (fss:LLI) (ys:qI) (j:Nat) (_:vs=[.ref l,y,.int j]) (_:H l=some (.lst fs)) (_:Its H fs fss) (_:IT H y ys) (_:j<ys.length) (_:ys.length<=1000) (_:(∀f∈fss,f.length=ys.length)) (_:∀H',Same H H'->Q (.bl (Bar fss ys j)) H'):IspBarred  vs H Q E
def a6n:Sp:=λvs H Q E=>IspBarred  vs H Q E
def sc_is_barred:FnScope ["found","one","j","answer"] ["found","one","j"] (A1 Q9):={}
def a5y(F:FunAt K mg "is_barred" Q9 ["found","one","j"])(T:Tx mg)(b:Ok P w K mg base "below" 1 ["one","other"] a2v):Ok P w K mg base "is_barred" 2 ["found","one","j"] a6n:=by
 refine F.okJ sc_is_barred (λC H Q E h=>?_) (λv f A q s H C Q E m h=>?_)
 .obtain⟨l,y,fs,fss,ys,j,rfl,_⟩:=h;rfl
 .obtain⟨l,_,fs,fss,ys,j,rfl,hl,hI,⟨y,rfl,hy⟩,hj,hn,hL,k⟩:=h;refine⟨_,(A2 (O7 (F0 K (jv 0)) (A7 (i:=3) sc_is_barred.nd rfl (Or.inl rfl))
 (A4 (C7 (a1j (a0S (X7 (G1 K (jv 3) (jv 2)) (G1 K (jv 1) (jv 2))) (W5 (C6 K (A6 b (m.mono (by omega)) rfl (jaC (jv 3) (jaC (jv 1) jaN)))))))
 (A4 (A8 N8))
 B6)))
 (A4 (A8 N8))),?_⟩
  refine⟨_,rfl,l,rfl,⟨_,SqL.of hl⟩,?_⟩;refine U9 (K:=K) (a:=l) (xs:=fs) (λi σ H'=>Ex1 λo=>An3 (σ=[some (.ref l),some (.ref y),some (.int j),o]) (Same H H') (Bar (fss.take i) ys j=false)) ⟨none,rfl,Same.refl H,rfl⟩ (λi σ H' _ ⟨_,_,s',_⟩=>SqL.of (s' _ _ hl)) ?_ ?_
  .rintro i x σ H' hx ⟨o,rfl,s',hB⟩;obtain⟨r,m,n,p⟩:=hI.mem hx;obtain⟨u,rfl,g⟩:=p.same s';have B:=hL r m;have d:Bar (fss.take (i+1)) ys j=(decide (r.getD j 0=ys.getD j 0) && Bel r ys):=by
    unfold Bar at hB⊢;rw[ba,n,List.any_append,hB];simp
   have c:(decide (r.getD j 0=ys.getD j 0) && Bel r ys)=true->Bar fss ys j=true:=λe=>by
    unfold Bar;rw[bJ];exact⟨r,m,e⟩
   dsimp only[B0];refine⟨_,rfl,_,rfl,u,_,_,_,rfl,rfl,SqT.of g,X5 (by omega),_,rfl,_,rfl,y,_,_,_,rfl,rfl,SqT.of (s' _ _ hy),X5 hj,rfl,_,rfl,?_⟩;have z:decide (V.int (r.getD j 0)=V.int (ys.getD j 0))=decide (r.getD j 0=ys.getD j 0):=by simp
   rw[z];cases e:decide (r.getD j 0=ys.getD j 0)with
   |false =>
    rw[e]at d;refine C9 (C9 ?_);exact⟨_,rfl,s',d⟩
   |true =>
    rw[e]at d c;refine E5 ⟨_,rfl,_,rfl,_,_,r,ys,rfl,⟨u,rfl,g⟩,⟨y,rfl,s' _ _ hy⟩,by omega,λH2 s2=>⟨_,rfl,?_⟩⟩;cases t:Bel r ys with
    |false =>
     rw[t]at d;exact C9 ⟨_,rfl,s'.trans s2,d⟩
    |true =>
     rw[t]at c;refine E5 ?_;have:=k H2 (s'.trans s2);rw[c rfl]at this;exact this
  .rintro σ H' ⟨o,rfl,s',hB⟩;rw[hI.1,bg]at hB;have:=k H' s';rw[hB]at this;exact this
end
def a1t(rss:LLI)(cs:qA (qD Int))(F:LLI)(u v:qI):Prop:=∃j,j∈StP rss cs u/\v=bump u j/\Bar F v j=false
def b6a{a b:qI}(h:a.map (Sum.inl:Int->Key)=b.map Sum.inl):a=b:=by
 induction a generalizing b with
 |nil=>cases b with|nil=>rfl|cons _ _=>cases h
 |cons x a c =>
  cases b with
  |nil=>cases h
  |cons y b =>
   injection h with h1 h2
   injection h1 with h1
   rw[h1,c h2]
def a3v{a:LLI}(e:qL.map (·.1)=IK a):U5 qL (r.map Sum.inl)=none↔r∉a:=by
 constructor
 .intro h hm;refine b1y h ?_;rw[e];exact aT.mpr ⟨r,hm,rfl⟩
 .intro h;cases d:U5 qL (r.map Sum.inl)with
  |none=>rfl
  |some v =>
   have:=b4y d;rw[e]at this;obtain⟨q,c,b⟩:=aT.mp this;exact absurd (b6a b ▸ c) h
def a6Q{a:LLI}(e:qL.map (·.1)=IK a):(U5 qL (r.map Sum.inl)).isSome=decide (r∈a):=by
 by_cases h:r∈a
 .rw[bj h];cases b:U5 qL (r.map Sum.inl)with
  |none=>exact absurd h ((a3v e).mp b)
  |some v=>rfl
 .rw[bK h,(a3v e).mpr h];rfl
def a7S(r:qI):(r.map (Sum.inl:Int->Key)).map kV=r.map V.int:=by rw[cG];rfl
def b5Z{d:qE}(h:Its H vs rss)(hd:H d=some (.dT qL))(o:Off [d] H H'):Its H' vs rss :=
 ⟨h.1,λi v e=>let ⟨r,e1,a,e2,q⟩:=h.2 i v e;⟨r,e1,a,e2,o _ _ (by simpa using M0 q hd (by intro z;cases z)) q⟩⟩
def a2Y{H1 H2:Hp}(s:Same H H1)(c:H a=none)(o:Off [a] H1 H2):Same H H2:=λb u e=>o b u (by simpa using A9 e c) (s b u e)
structure NxPre(H:Hp)(a c f l:qE)(us:qA V)(rss:LLI)(cs:qA (qD Int))(fs:qA V)(F:LLI)(ls:qA V)(L:LLI):Prop where
 ha:H a=some (.tup us)
 hI:Its H us rss
 hc:H c=some (.tup (cs.map cV))
 hf:H f=some (.lst fs)
 hF:Its H fs F
 hl:H l=some (.lst ls)
 hL:Its H ls L
 us1:us.length<=1000
 n1:1<=cs.length
 n2:cs.length<=100
 hR:Rs cs.length rss
 fw:∀v∈F,v.length=cs.length
 lw:∀v∈L,v.length=cs.length/\Sm v
 big:L.length*cs.length+100<=100000
section
variable {K:qF}
inductive IspNext(vs:qA V)(H:Hp)(Q:VK)(E:XK):Prop
 |mk (a c f l:qE) (r:V) (us:qA V) (rss:LLI) (cs:qA (qD Int)) (fs:qA V) (F:LLI) (ls:qA V) (L:LLI) (_:vs=[.ref a,.ref c,.ref f,.ref l,r]) (_:NxPre H a c f l us rss cs fs F ls L) (_:(r=.non∨∃m:Int,r=.int m/\0<=m)) (_:∀p zs tss H',Same H H'->H p=none->H' p=some (.lst zs)->Its H' zs tss->C8 tss->tss.Nodup->(∀v∈tss,∃u∈L,a1t rss cs F u v)->((∀u∈L,∀v,a1t rss cs F u v->v∈tss)∨∃m:Int,r=.int m/\m<tss.length)->tss.length<=L.length*cs.length->(∀m:Int,r=.int m->(tss.length:Int)<=m+cs.length)->Q (.ref p) H'):IspNext  vs H Q E
def b1O:Sp:=λvs H Q E=>IspNext  vs H Q E
def sc_next_level:FnScope ["rows","caps","found","level","room","met","one","j","more"] ["rows","caps","found","level","room"] (A1 M7):={}
def a3Z(F':FunAt K mg "next_level" M7 ["rows","caps","found","level","room"])(T:Tx mg)(I:Ok P w K mg base "steps" 4 ["rows","caps","one"] a5c)(n:Ok P w K mg base "is_barred" 2 ["found","one","j"] a6n):Ok P w K mg base "next_level" 5 ["rows","caps","found","level","room"] b1O:=by
 refine F'.okJ sc_next_level (λvs H Q E h=>?_) (λc6 f A c1 s H vs Q E hr h=>?_)
 .obtain⟨a,c,f,l,r,us,rss,cs,fs,F,ls,L,rfl,_⟩:=h;rfl
 .obtain⟨a,c,f,l,r,us,rss,cs,fs,F,ls,L,rfl,N,hroom,k⟩:=h;have O:=hr.u60;have hz:(100000:Nat)<=sizeLine:=by rw[aU];decide
  have c4:=N.big;refine⟨_,(A2 (B1 (i:=5) sc_next_level.nd rfl (Or.inl rfl) b5V)
 (A2 (O7 (F0 K (jv 3)) (A7 (i:=6) sc_next_level.nd rfl (Or.inl rfl))
 (A2 (O7 (F0 K (A6 I (hr.mono (by omega)) rfl (jaC (jv 0) (jaC (jv 1) (jaC (jv 6) jaN))))) (O8 K 2 (B5 (A7 (i:=7) sc_next_level.nd rfl (Or.inl rfl)) (B5 (A7 (i:=8) sc_next_level.nd rfl (Or.inl rfl)) K2)))
 (A4 (C7 (a1j (a0S (b0F O (jv 8) (jv 5) (by with_unfolding_all rfl)) (W5 (G2 (C6 K (A6 n (hr.mono (by omega)) rfl (jaC (jv 2) (jaC (jv 8) (jaC (jv 7) jaN)))))))))
 (A4 (b5Q O (jv 5) (jv 8) N8))
 B6)))
 (A4 (C7 (a1j (a0S (a2H (jv 4) X8) (W5 (a9k (b5T rfl T.b_len (jaC (jv 5) jaN)) (jv 4)))))
 (A4 b3s)
 B6))))
 (A4 (A8 (b3u rfl T.b_sorted (jaC (jv 5) jaN)))))),?_⟩
  intro d hd;dsimp only[B0];have s0:=(Same.refl H).upd (o:=.dT []) hd;have e0:upd H d (.dT []) d=some (.dT []):=A0;generalize upd H d (.dT [])=H0 at s0 e0;have fin:∀(qL:qA (qA Key×V)) (g:LLI) (σ:L2.St) (H':Hp),σ[5]?=some (some (.ref d))->Same H H'->H' d=some (.dT qL)->qL.map (·.1)=IK g->g.Nodup->(∀v∈g,∃u∈L,a1t rss cs F u v)->((∀u∈L,∀v,a1t rss cs F u v->v∈g)∨∃m:Int,r=.int m/\m<g.length)->g.length<=L.length*cs.length->(∀m:Int,r=.int m->(g.length:Int)<=m+cs.length) ->
    b7m (tCB a7F (a6c (Z0 5) a2f)) {nx:=λx H'=>Q V.non H',rt:=Q} σ H':=by
   intro qL g σ H' hσ s' M y D h1 h2 S J;refine⟨_,hσ,d,qL,g,rfl,M,y,λv t=>?_,λp zs c2 hp hI G b8=>?_⟩
   .obtain⟨u,O,j,_,rfl,_⟩:=h1 v t;rw[E9,(N.lw u O).1];exact N.n1
   refine k p zs c2 _ (s'.upd hp) (s'.free hp) A0 (hI.same ((Same.refl H').upd hp)) b8 (G.symm.nodup D) (λv t=>h1 v (G.mem_iff.mp t)) ?_ (by rw[G.length_eq];exact S) λm e=>by rw[G.length_eq];exact J m e
   rcases h2 with h2|⟨m,e,h2⟩
   .exact .inl λu O v t=>G.mem_iff.mpr (h2 u O v t)
   .exact .inr ⟨m,e,by rw[G.length_eq];exact h2⟩
  refine⟨_,rfl,l,rfl,⟨_,SqL.of (s0 _ _ N.hl)⟩,?_⟩;refine U9 (K:=K) (a:=l) (xs:=ls) (λi σ H'=>Ex5 λo6 W X qL g=>An9 (σ=[some (.ref a),some (.ref c),some (.ref f),some (.ref l),some r,some (.ref d),o6,W,X]) (Same H H') (H' d=some (.dT qL)) (qL.map (·.1)=IK g) (g.Nodup) ((∀v∈g,∃u∈L,a1t rss cs F u v)) ((∀u∈L.take i,∀v,a1t rss cs F u v->v∈g)) (g.length<=i*cs.length) (∀m:Int,r=.int m->(g.length:Int)<=m))
   ⟨none,none,none,[],[],rfl,s0,e0,rfl,fk,(λ_ z=>nomatch z),(λ_ z=>by simp at z),by simp,λm e=>?_⟩ (λi σ H' _ h=>by obtain⟨_,_,_,_,_,_,s',_⟩:=h;exact SqL.of (s' _ _ N.hl)) ?_ ?_
  .rcases hroom with e'|⟨m',e',hm'⟩
   .rw[e']at e;cases e
   .rw[e']at e;cases e;simpa using hm'
  .rintro i x σ H' hx ⟨o6,W,X,qL,g,rfl,s',M,y,D,h1,h2,S,J⟩;obtain⟨ys,a8,a9,c0⟩:=N.hL.mem hx;obtain⟨yw,c3⟩:=N.lw ys a8;have b5:i<L.length:=(aL.mp a9).1;have c9:(i+1)*cs.length<=L.length*cs.length:=Nat.mul_le_mul_right _ b5;have c5:(i+1)*cs.length=i*cs.length+cs.length:=by rw[Nat.add_mul,Nat.one_mul]
   dsimp only[B0];have b1:Rs ys.length rss:=by rw[yw];exact N.hR
   refine⟨_,rfl,_,rfl,_,rfl,a,c,x,us,rss,cs,ys,rfl,s' _ _ N.ha,N.hI.same s',s' _ _ N.hc,c0.same s',N.us1,by rw[yw];exact N.n2,yw.symm,b1,c3,λp1 ps H1 s1 a0 Z=>?_⟩;have C:=s1 _ _ M;have a1:=s'.trans s1;refine⟨p1,rfl,⟨_,SqL.of a0⟩,?_⟩;have b9:∀j∈StP rss cs ys,j<ys.length:=λj hj=>bf.mp (aW.mp (aW.mp hj).1).1;have d2:(StP rss cs ys).length<=cs.length:=by rw[<-yw];exact bh (bu _ _) (bh (bu _ _) (by simp))
   have b3:d≠p1:=M0 C a0 (by intro z;cases z);refine U9 (K:=K) (a:=p1) (xs:=ps) (λU σ H2=>Ex4 λW X qL g=>An10 (σ=[some (.ref a),some (.ref c),some (.ref f),some (.ref l),some r,some (.ref d),some x,W,X]) (Off [d] H1 H2) (H2 d=some (.dT qL)) (qL.map (·.1)=IK g) (g.Nodup) ((∀v∈g,∃u∈L,a1t rss cs F u v)) ((∀u∈L.take i,∀v,a1t rss cs F u v->v∈g)) ((∀j∈(StP rss cs ys).take U,Bar F (bump ys j) j=false->bump ys j∈g)) (g.length<=i*cs.length+U) (∀m:Int,r=.int m->(g.length:Int)<=m+U))
    ⟨W,X,qL,g,rfl,Off.refl _ _,C,y,D,h1,h2,(λ_ z=>by simp at z),S,λm e=>by have:=J m e;omega⟩ (λU σ H2 _ h=>by obtain⟨_,_,_,_,_,o2,_⟩:=h;exact SqL.of (o2 _ _ (by simpa using b3.symm) a0)) ?_ ?_
   .rintro U q σ H2 hq ⟨W,X,qL,g,rfl,off2,hd2,y,D,h1,h2,h5,S,J⟩;obtain⟨j,b,v,ej,rfl,hb,t⟩:=Z.2 U q hq;obtain⟨va,rfl,hva⟩:=t;have a6:=aH ej;have hj:=b9 j a6;have b2:=off2 _ _ (by simpa using M0 hb C (by intro z;cases z)) hb;have R:=off2 _ _ (by simpa using M0 hva C (by intro z;cases z)) hva;have hf1:=a1 _ _ N.hf;have b4:=off2 _ _ (by simpa using M0 hf1 C (by intro z;cases z)) hf1;have b0:=b5Z (N.hF.same a1) C off2;have c8:U<(StP rss cs ys).length:=(aL.mp ej).1;have b7:qL.length=g.length:=by
     have:=aP List.length y;simpa[IK]using this
    have Y:∀B:LLI,(∀v∈g,v∈B)->(Bar F (bump ys j) j=false->bump ys j∈B)->∀j'∈(StP rss cs ys).take (U+1),Bar F (bump ys j') j'=false->bump ys j'∈B:=λB a7 b6 j' a5 a3=>by
     rw[ba,ej]at a5;rcases aD.mp a5 with z|z
     .exact a7 _ (h5 j' z a3)
     .have:j'=j:=by simpa using z
      subst this;exact b6 a3
    refine⟨b,[.int j,.ref va],rfl,SqT.of b2,rfl,.int j,[.ref va],rfl,.ref va,[],rfl,rfl,?_⟩;refine⟨_,rfl,_,rfl,d,_,rfl,DGet.t hd2 (by rw[a7S];exact R),_,rfl,?_⟩;rw[a6Q y];by_cases hm:bump ys j∈g
    .rw[bj hm];refine C9 (C9 ?_);exact⟨_,_,qL,g,rfl,off2,hd2,y,D,h1,h2,Y g (λ_ z=>z) (λ_=>hm),by omega,λm e=>by have:=J m e;omega⟩
    .rw[bK hm];refine E5 ⟨_,rfl,_,rfl,_,rfl,f,.ref va,fs,F,bump ys j,j,rfl,b4,b0,⟨va,rfl,R⟩,by rw[E9];exact hj,by rw[E9,yw];have:=N.n2;omega,λv t=>by rw[E9,yw];exact N.fw v t,λH3 s3=>⟨_,rfl,?_⟩⟩;have a4:=s3 _ _ hd2;cases e:Bar F (bump ys j) j with
     |true =>
      refine C9 ?_;exact⟨_,_,qL,g,rfl,off2.trans s3.off,a4,y,D,h1,h2,Y g (λ_ z=>z) (λz=>by rw[e]at z;cases z),by omega,λm e=>by have:=J m e;omega⟩
     |false =>
      refine E5 ?_;refine⟨_,rfl,_,rfl,d,_,rfl,DPut.t a4 (by rw[a7S];exact s3 _ _ R) (by omega),?_⟩;rw[a6A _ ((a3v y).mpr hm)];refine⟨_,_,_,g++[bump ys j],rfl,(off2.trans s3.off).set (by simp),A0,by rw[bF,y];simp[IK],a9h D hm,λv t=>?_,λu O v t=>aQ _ (h2 u O v t),Y _ (λv t=>aQ _ t) (λ_=>by simp),by rw[ar];simp;omega,λm e=>by have:=J m e;rw[ar];simp;omega⟩;rcases aD.mp t with z|z
      .exact h1 v z
      .rw[aG.mp z];exact⟨ys,a8,j,a6,rfl,e⟩
   .rintro σ H2 ⟨W,X,qL,g,rfl,off2,hd2,y,D,h1,h2,h5,S,J⟩;rw[Z.1,bg]at h5;have b7:qL.length=g.length:=by
     have:=aP List.length y;simpa[IK]using this
    have d1:=Z.1;have s2:Same H H2:=a2Y a1 hd off2;have a2:∀u∈L.take (i+1),∀v,a1t rss cs F u v->v∈g:=λu O v t=>by
     rw[ba,a9]at O;rcases aD.mp O with z|z
     .exact h2 u z v t
     .have:u=ys:=by simpa using z
      subst this;obtain⟨j,hj,rfl,hb⟩:=t;exact h5 j hj hb
    rcases hroom with rfl|⟨m,rfl,d0⟩
    .refine⟨_,rfl,rfl,_,rfl,C9 (C9 ?_)⟩;exact⟨_,_,_,qL,g,rfl,s2,hd2,y,D,h1,a2,by omega,λm e=>by cases e⟩
    .refine⟨_,rfl,rfl,_,rfl,E5 ?_⟩;refine⟨_,rfl,d,qL,rfl,hd2,_,rfl,_,_,rfl,rfl,_,rfl,a0e (λe=>?_) (λe=>?_)⟩
     .have e':m<(qL.length:Int):=bp e;have c7:=J m rfl;exact fin qL g _ H2 rfl s2 hd2 y D h1 (.inr ⟨m,rfl,by omega⟩) (by omega) λm' e2=>by cases e2;omega
     .have e':¬m<(qL.length:Int):=λz=>e (bj z);exact⟨_,_,_,qL,g,rfl,s2,hd2,y,D,h1,a2,by omega,λm' e2=>by cases e2;omega⟩
  .rintro σ H' ⟨o6,W,X,qL,g,rfl,s',M,y,D,h1,h2,S,J⟩;rw[N.hL.1,bg]at h2;exact fin qL g _ H' rfl s' M y D h1 (.inl h2) (by rw[N.hL.1]at S;exact S) λm e=>by have:=J m e;omega
end
def ffl(ra ca:qE)(b:Bool)(ah af aw:qE):qA (Str×V):=[("rows",.ref ra),("caps",.ref ca),("begun",.bl b),("here",.ref ah),("found",.ref af),("walked",.ref aw)]
section
variable (ra ca ah ah' af aw:qE)(b b':Bool)
def a6Y:(ffl ra ca b ah af aw).lookup ("rows" : Str)=some (.ref ra):=by with_unfolding_all rfl
def a6Z:(ffl ra ca b ah af aw).lookup ("caps" : Str)=some (.ref ca):=by with_unfolding_all rfl
def a4G:(ffl ra ca b ah af aw).lookup ("begun" : Str)=some (.bl b):=by with_unfolding_all rfl
def a0h:(ffl ra ca b ah af aw).lookup ("here" : Str)=some (.ref ah):=by with_unfolding_all rfl
def a1M:(ffl ra ca b ah af aw).lookup ("found" : Str)=some (.ref af):=by with_unfolding_all rfl
def a3J:(ffl ra ca b ah af aw).lookup ("walked" : Str)=some (.ref aw):=by with_unfolding_all rfl
def a6z:J8 "here" (.ref ah') (ffl ra ca b ah af aw)=ffl ra ca b ah' af aw:=by with_unfolding_all rfl
def b0f:J8 "begun" (.bl b') (ffl ra ca b ah af aw)=ffl ra ca b' ah af aw:=by with_unfolding_all rfl
def a6y:J8 "walked" (.ref aw) (J8 "found" (.ref af) (J8 "here" (.ref ah) (J8 "begun" (.bl b) (J8 "caps" (.ref ca) (J8 "rows" (.ref ra) [])))))=ffl ra ca b ah af aw:=by with_unfolding_all rfl
def b3Q:(ffl ra ca b ah af aw).lookup ("told" : Str)=none:=by with_unfolding_all rfl
def b0N:(ffl ra ca b ah af aw).lookup ("paper" : Str)=none:=by with_unfolding_all rfl
def b0O:(ffl ra ca b ah af aw).lookup ("ended" : Str)=none:=by with_unfolding_all rfl
def a2o:(ffl ra ca b ah af aw).lookup ("step_within" : Str)=none:=by with_unfolding_all rfl
end
structure FiTx(K:qF)(C:qE):Prop where
 cl:Cls K C
 n1:NoAttr K C "rows"
 n2:NoAttr K C "caps"
 n3:NoAttr K C "begun"
 n4:NoAttr K C "here"
 n5:NoAttr K C "found"
 n6:NoAttr K C "walked"
structure FAt(C:qE)(H:Hp)(p ra ca af aw:qE)(b:Bool)(L F W:LLI):Prop where
 ob:∃dx ah hs,H p=some (.ins C dx (ffl ra ca b ah af aw))/\H ah=some (.lst hs)/\Its H hs L/\ah≠af/\ah≠aw
 hf:∃fs,H af=some (.lst fs)/\Its H fs F
 hw:∃ws,H aw=some (.lst ws)/\Its H ws W
 ne:af≠aw
def FAt.same{C:qE}{H H':Hp}{p ra ca af aw:qE}{b:Bool}{L F W:LLI}(h:FAt C H p ra ca af aw b L F W)(s:Same H H'):FAt C H' p ra ca af aw b L F W:=by
 obtain⟨⟨dx,ah,hs,h1,h2,a,c,d⟩,⟨fs,f1,f2⟩,⟨g,e,f⟩,ne⟩:=h;exact⟨⟨dx,ah,hs,s _ _ h1,s _ _ h2,a.same s,c,d⟩,⟨fs,s _ _ f1,f2.same s⟩,⟨g,s _ _ e,f.same s⟩,ne⟩
structure SyAt(H:Hp)(a c:qE)(rss:LLI)(cs:qA (qD Int)):Prop where
 ex:∃us,H a=some (.tup us)/\Its H us rss/\us.length<=1000
 hc:H c=some (.tup (cs.map cV))
 n1:1<=cs.length
 n2:cs.length<=100
 hR:Rs cs.length rss
def SyAt.same{H H':Hp}{a c:qE}{rss:LLI}{cs:qA (qD Int)}(h:SyAt H a c rss cs)(s:Same H H'):SyAt H' a c rss cs:=by
 obtain⟨⟨f,h1,h2,b⟩,d,n1,e,hR⟩:=h;exact⟨⟨f,s _ _ h1,h2.same s,b⟩,s _ _ d,n1,e,hR⟩
structure StR(rss:LLI)(cs:qA (qD Int))(b:Bool)(L F:LLI)(r:V)(L':LLI):Prop where
 ri:C8 L'
 nd:L'.Nodup
 fst:b=false->∀v,v∈L'↔v∈P9 cs
 snd:b=true->∀v∈L',∃u∈L,a1t rss cs F u v
 all:b=true->(∀u∈L,∀v,a1t rss cs F u v->v∈L')∨∃m:Int,r=.int m/\m<L'.length
 len:L'.length<=cs.length+L.length*cs.length
 few:∀m:Int,r=.int m->(L'.length:Int)<=m+cs.length
def a0n(n j i:Nat)(hi:i<n):(O2 n j).getD i 0=if i=j then 1 else 0:=by
 unfold O2;simp[aq,hi]
def N9(n j:Nat):(O2 n j).length=n:=by simp[O2]
def b0M(cs:qA (qD Int)):(P9 cs).Nodup:=by
 unfold P9;refine List.Nodup.sublist (List.filter_sublist) ?_;unfold List.Nodup;rw[bL];refine(fL (n:=cs.length)).imp_of_mem λ{i j} hi b a e=>?_;have h1:(O2 cs.length i).getD i 0=(O2 cs.length j).getD i 0:=aP (λl:qI=>l.getD i 0) e;rw[a0n _ _ _ (bf.mp hi),a0n _ _ _ (bf.mp hi),av rfl,ao a]at h1;omega
def lp{f:Str}{v:V}{fs:qA (Str×V)}(h:fs.length<=k):(J8 f v fs).length<=k+1:=by
 refine bh ?_ (Nat.succ_le_succ h);clear h;induction fs with
 |nil=>exact ak _
 |cons p r a =>
  obtain⟨g,x⟩:=p;show(if g=f then(g,v)::r else(g,x)::J8 f v r).length<=_;split
  .simp
  .simpa using a
section
variable {K:qF}
inductive IspFInit(C:qE)(vs:qA V)(H:Hp)(Q:VK)(E:XK):Prop
 |mk (p dx ra ca:qE) (_:vs=[.ref p,.ref ra,.ref ca]) (_:H p=some (.ins C dx [])) (_:∀(af aw:qE) (H':Hp),H af=none->H aw=none->FAt C H' p ra ca af aw false [] [] []->(∃dx ah,H' p=some (.ins C dx (ffl ra ca false ah af aw))/\H ah=none)->(∀b o,H b=some o->b≠p->H' b=some o)->Q .non H'):IspFInit C vs H Q E
def a8P(C:qE):Sp:=λvs H Q E=>IspFInit C vs H Q E
def a0P:FnScope ["self","rows","caps"] ["self","rows","caps"] (A1 E6):={}
def b2Y(I:MethAt K C "__init__" "Finder.__init__" E6 ["self","rows","caps"])(U:FiTx K C):MethOk P w K mg base C "__init__" 1 ["self","rows","caps"] (a8P C):=by
 refine I.fnJ a0P (λL H Q E h=>?_) (λJ f A F s H L Q E M h=>?_)
 .obtain⟨p,dx,ra,ca,rfl,_⟩:=h;rfl
 .obtain⟨p,dx,ra,ca,rfl,hp,k⟩:=h;refine⟨_,(A2 (W6 K (jv 0) (jv 1))
 (A2 (W6 K (jv 0) (jv 2))
 (A2 (W6 K (jv 0) N8)
 (A2 (W6 K (jv 0) (Y0 jaN))
 (A2 (W6 K (jv 0) (Y0 jaN))
 (A4 (W6 K (jv 0) (Y0 jaN)))))))),?_⟩
  have t:([]:qA (Str×V)).length<=0:=ak _;refine⟨_,rfl,_,rfl,p,C,dx,_,rfl,hp,U.cl,U.n1,fe t (by decide),?_⟩;refine⟨_,rfl,_,rfl,p,C,dx,_,rfl,A0,U.cl,U.n2,fe (lp t) (by decide),?_⟩;rw[a4W];refine⟨_,rfl,p,C,dx,_,rfl,A0,U.cl,U.n3,fe (lp (lp t)) (by decide),?_⟩;rw[a4W];generalize D:J8 "begun" (V.bl false) (J8 "caps" (.ref ca) (J8 "rows" (.ref ra) []))=r;have G:r.length<=3:=by rw[<-D];exact lp (lp (lp t))
  have k1:∀b o,H b=some o->b≠p->upd H p (.ins C dx r) b=some o:=λb o e c=>by rw[A5 c];exact e
  have B:upd H p (.ins C dx r) p=some (.ins C dx r):=A0;have n1:∀b,upd H p (.ins C dx r) b=none->H b=none:=λb e=>by
   by_cases c:b=p
   .subst c;rw[A0]at e;cases e
   .rwa[A5 c]at e
  generalize upd H p (.ins C dx r)=H1 at k1 B n1;refine⟨bw _,λah n=>?_⟩;have u:p≠ah:=A9 B n;refine⟨_,rfl,p,C,dx,_,rfl,by rw[A5 u];exact B,U.cl,U.n4,by omega,?_⟩;refine⟨bw _,λaf m=>?_⟩;have x:p≠af:=λz=>by subst z;rw[A0]at m;cases m
  have g:upd H1 ah (.lst []) af=none:=by rwa[A5 x.symm]at m
  have j:ah≠af:=A9 (o:=.lst []) A0 g;have d:H1 af=none:=by rwa[A5 j.symm]at g
  refine⟨_,rfl,p,C,dx,_,rfl,by rw[A5 x];exact A0,U.cl,U.n5,by have:=lp (f:="here") (v:=.ref ah) G;omega,?_⟩;refine⟨bw _,λaw q=>?_⟩;have y:p≠aw:=λz=>by subst z;rw[A0]at q;cases q
  have a:=q;rw[A5 y.symm]at a;have i:af≠aw:=A9 (o:=.lst []) A0 a;rw[A5 i.symm,A5 y.symm]at a;have l:ah≠aw:=A9 (o:=.lst []) A0 a;rw[A5 l.symm]at a;refine⟨_,rfl,p,C,dx,_,rfl,by rw[A5 y];exact A0,U.cl,U.n6,by have:=lp (f:="found") (v:=.ref af) (lp (f:="here") (v:=.ref ah) G);omega,?_⟩;refine k af aw _ (n1 _ d) (n1 _ a) ⟨⟨dx,ah,[],?_,?_,.nil,j,l⟩,⟨[],?_,.nil⟩,⟨[],?_,.nil⟩,i⟩ ⟨dx,ah,by rw[A0,<-D,<-a6y],n1 _ n⟩ λb o e c=>?_
  .rw[A0,<-D,<-a6y]
  .rw[A5 u.symm,A5 l,A5 u.symm,A5 j,A5 u.symm,A0]
  .rw[A5 x.symm,A5 i,A5 x.symm,A0]
  .rw[A5 y.symm,A0]
  .have e2:=k1 b o e c;rw[A5 c,A5 (A9 e2 a),A5 c,A5 (A9 e2 d),A5 c,A5 (A9 e2 n)];exact e2
def a5F:∀{vs c:qA V}{rss tss:LLI},Its H vs rss->Its H c tss->Its H (vs++c) (rss++tss):=by
 intro vs c rss tss h g;refine⟨by rw[ar,ar,h.1,g.1],λi v e=>?_⟩;rcases Nat.lt_or_ge i vs.length with hi|hi
 .rw[bx hi]at e;obtain⟨r,a,b⟩:=h.2 i v e;exact⟨r,by rw[bx (by rw[<-h.1];exact hi)];exact a,b⟩
 .rw[a' hi]at e;obtain⟨r,a,b⟩:=g.2 _ v e;exact⟨r,by rw[a' (by rw[<-h.1];exact hi),<-h.1];exact a,b⟩
def a0y{o':HO}(h:Its H vs rss)(b:H c=some o)(d:∀xs,HO.tup xs≠o):Its (upd H c o') vs rss :=
 ⟨h.1,λi v e=>let ⟨r,e1,a,e2,q⟩:=h.2 i v e;⟨r,e1,a,e2,by rw[A5 (M0 q b (d _))];exact q⟩⟩
def a3C(h:Its H vs rss)(b:H c=some o)(d:∀xs,HO.tup xs≠o)(off:Off [c] H H'):Its H' vs rss :=
 ⟨h.1,λi v e=>let ⟨r,e1,a,e2,q⟩:=h.2 i v e;⟨r,e1,a,e2,off _ _ (by simpa using M0 q b (d _)) q⟩⟩
def b4B(h:SyAt H a c rss cs)(d:H b=some o)(e:∀xs,HO.tup xs≠o)(off:Off [b] H H'):SyAt H' a c rss cs:=by
 obtain⟨⟨j,h1,h2,g⟩,f,n1,i,hR⟩:=h;exact⟨⟨j,off _ _ (by simpa using M0 h1 d (e _)) h1,a3C h2 d e off,g⟩,off _ _ (by simpa using M0 f d (e _)) f,n1,i,hR⟩
def b4D{B:Int}(h:∀x∈u,0<=x/\x<=B)(b:B<=2 ^ 60):∀x∈bump u j,0<=x/\x<=2 ^ 60+1:=by
 intro x a;unfold bump at a;rcases eY a with z|z
 .have:=h x z;omega
 .by_cases hj:j<u.length
  .have:=h _ (cB (h:=hj));rw[aq,aj hj]at z;simp at z;omega
  .rw[aq,cg (by omega)]at z;simp at z;omega
inductive IspStepW(C:qE)(vs:qA V)(H:Hp)(Q:VK)(E:XK):Prop
 |mk (p ra ca af aw:qE) (b:Bool) (L F W rss:LLI) (cs:qA (qD Int)) (r:V) (B:Int) (_:vs=[.ref p,r]) (_:FAt C H p ra ca af aw b L F W) (_:SyAt H ra ca rss cs) (_:(r=.non∨∃m:Int,r=.int m/\0<=m)) (_:(∀v∈L,v.length=cs.length/\∀x∈v,0<=x/\x<=B)) (_:B<=2 ^ 60) (_:(∀v∈F,v.length=cs.length)) (_:L.length*cs.length+100<=100000) (_:F.length<=100000) (_:W.length<=100000) (_:∀L' H',StR rss cs b L F r L'->FAt C H' p ra ca af aw true L' (F++L'.filter λv=>Ans rss v) (W++L')->(∃dx ah,H' p=some (.ins C dx (ffl ra ca true ah af aw))/\H ah=none)->Off [p,af,aw] H H'->Q (.int L'.length) H'):IspStepW C vs H Q E
def a5d(C:qE):Sp:=λvs H Q E=>IspStepW C vs H Q E
def b2j{ra ca af aw:qE}{b:Bool}{r:V}{B:Int}(hi:σ[i]?=some (some (.ref p)))(h:σ[j]?=some (some r))(D:FAt C H p ra ca af aw b L F W)(Y:SyAt H ra ca rss cs)(h1:r=.non∨∃m:Int,r=.int m/\0<=m)(h2:∀v∈L,v.length=cs.length/\∀x∈v,0<=x/\x<=B)(c:B<=2 ^ 60)(d:∀v∈F,v.length=cs.length)(e:L.length*cs.length+100<=100000)(f:F.length<=100000)(g:W.length<=100000)
  (k:∀L' H',StR rss cs b L F r L'->FAt C H' p ra ca af aw true L' (F++L'.filter λv=>Ans rss v) (W++L')->(∃dx ah,H' p=some (.ins C dx (ffl ra ca true ah af aw))/\H ah=none)->Off [p,af,aw] H H'->Q (.int L'.length) H'):a1X C "step_within" (a5d C) [] E0 (Z0 i) (a6c (Z0 j) a2f) σ H Q:=by
 obtain⟨⟨dx,ah,hs,a,_⟩,_,_,_⟩:=id D;exact⟨_,hi,p,dx,_,rfl,a,a2o _ _ _ _ _ _,_,h,p,ra,ca,af,aw,b,L,F,W,rss,cs,r,B,rfl,D,Y,h1,h2,c,d,e,f,g,k⟩
def Y8:FnScope ["self","room"] ["self","room"] (A1 D4):={}
def b2S(FM:MethAt K C "step_within" "Finder.step_within" D4 ["self","room"])(U:FiTx K C)(T:Tx mg)(d:Ok P w K mg base "next_level" 5 ["rows","caps","found","level","room"] b1O)(a:Ok P w K mg base "first_steps" 2 ["caps"] a5h)(n:Ok P w K mg base "is_answer" 3 ["rows","one"] a2u) :
  MethOk P w K mg base C "step_within" 6 ["self","room"] (a5d C):=by
 refine FM.fnJ Y8 (λvs H Q E h=>?_) (λc8 f A c4 s H vs Q E hr h=>?_)
 .obtain⟨p,ra,ca,af,aw,b,L,F,W,rss,cs,r,B,rfl,_⟩:=h;rfl
 .obtain⟨p,ra,ca,af,aw,b,L,F,W,rss,cs,r,B,rfl,D,Y,hroom,hL,hB,hF,hbig,hF1,hW1,k⟩:=h;have hz:(300000:Nat)<=sizeLine:=by rw[aU];decide
  obtain⟨⟨dx,ah,hs,h1,h2,h3,h4,h5⟩,⟨fs,f1,f2⟩,⟨ws,w1,w2⟩,ne⟩:=id D;have b4:p≠af:=M0 h1 f1 (by intro z;cases z);have b5:p≠aw:=M0 h1 w1 (by intro z;cases z);refine⟨_,(A2 (C7 (C6 K (M1 K (jv 0)))
 (A4 (W6 K (jv 0) (A6 d (hr.mono (by omega)) rfl (jaC (M1 K (jv 0)) (jaC (M1 K (jv 0)) (jaC (M1 K (jv 0)) (jaC (M1 K (jv 0)) (jaC (jv 1) jaN))))))))
 (A2 (W6 K (jv 0) (a9n K rfl T.b_list (jaC (A6 a (hr.mono (by omega)) rfl (jaC (M1 K (jv 0)) jaN)) jaN)))
 (A4 (W6 K (jv 0) N8))))
 (A2 (W7 (a4z K (M1 K (jv 0)) (jaC (B7 (N:=["one","self"]) (src:=[none,some 0]) (F0 K (M1 K (jv 0))) (by show B9 _ _=true;rfl) (by rfl) (by rfl)
 (λ_ _ _ _ _=>(A7 (i:=0) (L2.nd ["one","self"]) rfl (Or.inl rfl))) (λ_ _ _ _ _=>(a1J (C6 K (A6 n (hr.mono (by omega)) rfl (jaC (M1 K (jv 1)) (jaC (jv 0) jaN)))))) (λ_ _ _ _ _=>(jv 0))) jaN)))
 (A2 (W7 (a4z K (M1 K (jv 0)) (jaC (M1 K (jv 0)) jaN)))
 (A4 (A8 (G8 K rfl T.b_len (jaC (M1 K (jv 0)) jaN))))))),?_⟩
  refine Q6 (λσ H'=>σ=[some (.ref p),some r]/\∃ah' c L',H' p=some (.ins C dx (ffl ra ca true ah' af aw))/\H' ah'=some (.lst c)/\Its H' c L'/\H ah'=none/\StR rss cs b L F r L'/\Off [p] H H'/\∀v∈L',v.length=cs.length/\Sm v) ?fin λfin=>?_
  case fin =>
   rintro σ H1 ⟨rfl,ah',c,L',p1,a1,i1,a0,R,g,b9⟩;have c1:=Y.n2;have b2:L'.length<=100000:=by have:=R.len;omega
   have a7:=g _ _ (by simpa using b4.symm) f1;have c6:=g _ _ (by simpa using b5.symm) w1;have b7:=a3C f2 h1 (λ_ z=>by cases z) g;have c7:=a3C w2 h1 (λ_ z=>by cases z) g;have Y1:=b4B Y h1 (λ_ z=>by cases z) g;have a8:ah'≠af:=(A9 f1 a0).symm;have b0:ah'≠aw:=(A9 w1 a0).symm;have c9:p≠ah':=A9 h1 a0;refine⟨_,rfl,p,C,dx,_,_,rfl,p1,U.cl,U.n5,a1M _ _ _ _ _ _,.inl ⟨rfl,_,SqL.of a7⟩,?_⟩;refine⟨_,rfl,p,C,dx,_,_,rfl,p1,U.cl,U.n4,a0h _ _ _ _ _ _,ah',rfl,⟨_,SqL.of a1⟩,?_⟩;refine a3p (caps:=[some (.ref p)]) (λv=>Ans rss v) (by rw[i1.1];omega) (λH2 s2=>SqL.of (s2 _ _ a1)) i1 rfl (λv r' H2 Q2 c3 X s2 q=>?_) λH2 p2 zs s2 b3 M=>?_
   .obtain⟨⟨us,u1,u2,u3⟩,_,_,_,hR⟩:=Y1.same s2;refine⟨_,rfl,p,C,dx,_,_,rfl,s2 _ _ p1,U.cl,U.n1,a6Y _ _ _ _ _ _,_,rfl,ra,v,us,rss,r',rfl,u1,u2,X,u3,λr hr=>by rw[(hR r hr).1];omega,(b9 r' c3).2,λJ t=>⟨_,rfl,q J t⟩⟩
   have c0:(L'.filter λv=>Ans rss v).length<=L'.length:=bu _ _;have t:=s2.upd (o:=.lst zs) b3;have c5:=(Same.refl H2).upd (o:=.lst zs) b3;have e3:upd H2 p2 (.lst zs) p2=some (.lst zs):=A0;have y:=M.same c5;generalize upd H2 p2 (.lst zs)=J at t e3 y;have f3:=t _ _ a7;refine⟨af,p2,fs,zs,rfl,rfl,f3,e3,by rw[f2.1,M.1];omega,?_⟩;have p4:upd J af (.lst (fs++zs)) p=some (.ins C dx (ffl ra ca true ah' af aw)):=by rw[A5 b4];exact t _ _ p1
   have w4:upd J af (.lst (fs++zs)) aw=some (.lst ws):=by rw[A5 ne.symm];exact t _ _ c6
   have a4:upd J af (.lst (fs++zs)) ah'=some (.lst c):=by rw[A5 a8];exact t _ _ a1
   refine⟨_,rfl,p,C,dx,_,_,rfl,p4,U.cl,U.n6,a3J _ _ _ _ _ _,.inl ⟨rfl,_,SqL.of w4⟩,?_⟩;refine⟨_,rfl,p,C,dx,_,_,rfl,p4,U.cl,U.n4,a0h _ _ _ _ _ _,aw,ah',ws,c,rfl,rfl,w4,a4,by rw[w2.1,i1.1];omega,?_⟩;have p5:upd (upd J af (.lst (fs++zs))) aw (.lst (ws++c)) p=some (.ins C dx (ffl ra ca true ah' af aw)):=by rw[A5 b5];exact p4
   have a5:upd (upd J af (.lst (fs++zs))) aw (.lst (ws++c)) ah'=some (.lst c):=by rw[A5 b0];exact a4
   refine⟨_,rfl,p,C,dx,_,_,rfl,p5,U.cl,U.n4,a0h _ _ _ _ _ _,ah',_,rfl,.inl (SqL.of a5),?_⟩;rw[i1.1];have I:∀{vs:qA V}{rss:LLI},Its J vs rss->Its (upd (upd J af (.lst (fs++zs))) aw (.lst (ws++c))) vs rss:=λh=>a0y (a0y h f3 (λ_ z=>by cases z)) w4 (λ_ z=>by cases z);refine k L' _ R ⟨⟨dx,ah',c,p5,a5,I (i1.same t),a8,b0⟩,⟨fs++zs,by rw[A5 ne];exact A0,I (a5F (b7.same t) y)⟩,⟨ws++c,A0,I (a5F (c7.same t) (i1.same t))⟩,ne⟩ ⟨dx,ah',p5,a0⟩ λb o hb e=>?_;have Z:b≠p/\b≠af/\b≠aw:=by simpa using hb
   rw[A5 Z.2.2,A5 Z.2.1];exact t _ _ (g _ _ (by simpa using Z.1) e)
  refine⟨_,rfl,p,C,dx,_,_,rfl,h1,U.cl,U.n3,a4G _ _ _ _ _ _,b,rfl,?_⟩;obtain⟨us,u1,u2,u3⟩:=Y.ex;have c1:=Y.n2;cases b with
  |true =>
   refine E5 ?_;refine⟨_,rfl,p,C,dx,_,_,rfl,h1,U.cl,U.n1,a6Y _ _ _ _ _ _,_,rfl,p,C,dx,_,_,rfl,h1,U.cl,U.n2,a6Z _ _ _ _ _ _,_,rfl,p,C,dx,_,_,rfl,h1,U.cl,U.n5,a1M _ _ _ _ _ _,_,rfl,p,C,dx,_,_,rfl,h1,U.cl,U.n4,a0h _ _ _ _ _ _,_,rfl,?_⟩;refine⟨ra,ca,af,ah,r,us,rss,cs,fs,F,hs,L,rfl,⟨u1,u2,Y.hc,f1,f2,h2,h3,u3,Y.n1,Y.n2,Y.hR,hF,λv X=>⟨(hL v X).1,λx hx=>by have:=(hL v X).2 x hx;omega⟩,hbig⟩,hroom,λp9 zs a6 H9 s9 G h9 b8 a3 c2 S a9 b2 b1=>?_⟩;have b6:=s9 _ _ h1;have a2:p≠p9:=A9 h1 G;refine⟨_,rfl,p,C,dx,_,rfl,b6,U.cl,U.n4,by show 6<1000;decide,?_⟩;rw[a6z];refine fin _ _ ⟨rfl,p9,zs,a6,A0,by rw[A5 a2.symm];exact h9,a0y b8 b6 (λ_ z=>by cases z),G,⟨a3,c2,(λz=>by cases z),λ_=>S,λ_=>a9,by omega,b1⟩,s9.off.set (by simp),λv X=>?_⟩;obtain⟨u,hu,j,_,rfl,_⟩:=S v X;have:=b4D (j:=j) (hL u hu).2 hB;exact⟨by rw[E9];exact(hL u hu).1,λx hx=>by have:=this x hx;omega⟩
  |false =>
   refine C9 ?_;refine⟨_,rfl,p,C,dx,_,_,rfl,h1,U.cl,U.n2,a6Z _ _ _ _ _ _,ca,cs,rfl,Y.hc,Y.n1,Y.n2,λq zs a6 H2 s2 hq M O a3=>?_⟩;refine⟨q,zs,rfl,.inr (SqT.of hq),λl hl=>?_⟩;have p3:=O1 (o:=.lst zs) (s2 _ _ h1) hl;have t:=s2.upd (o:=.lst zs) hl;have y:=M.same ((Same.refl H2).upd (o:=.lst zs) hl);have e3:upd H2 l (.lst zs) l=some (.lst zs):=A0;have G:=s2.free hl;generalize upd H2 l (.lst zs)=J at p3 t y e3;refine⟨_,rfl,p,C,dx,_,rfl,p3,U.cl,U.n4,by show 6<1000;decide,?_⟩;rw[a6z];refine⟨_,rfl,p,C,dx,_,rfl,A0,U.cl,U.n3,by show 6<1000;decide,?_⟩;rw[a4W,b0f];have a2:p≠l:=A9 h1 G;have c0:(P9 cs).length<=cs.length:=bh (bu _ _) (by simp);have d0:=O.length_eq;refine fin _ _ ⟨rfl,l,zs,a6,A0,by rw[A5 a2.symm];exact e3,a0y y p3 (λ_ z=>by cases z),G,⟨a3,O.symm.nodup (b0M cs),λ_ v=>O.mem_iff,(λz=>by cases z),(λz=>by cases z),by omega,λm e=>?_⟩,t.off.set (by simp),λv X=>?_⟩
   .rcases hroom with z|⟨m',z,hm'⟩
    .rw[z]at e;cases e
    .rw[z]at e;cases e;omega
   .obtain⟨j,_,rfl⟩:=aT.mp (aW.mp (O.mem_iff.mp X)).1;refine⟨N9 _ _,λx hx=>?_⟩;unfold O2 at hx;obtain⟨i,_,rfl⟩:=aT.mp hx;split<;>omega
inductive IspEnded(C:qE)(vs:qA V)(H:Hp)(Q:VK)(E:XK):Prop
 |mk (p ra ca af aw:qE) (b:Bool) (L F W:LLI) (_:vs=[.ref p]) (_:FAt C H p ra ca af aw b L F W) (_:Q (.bl (b && decide (L=[]))) H):IspEnded C vs H Q E
def a5i(C:qE):Sp:=λvs H Q E=>IspEnded C vs H Q E
def b2l{ra ca af aw:qE}{b:Bool}(hi:σ[i]?=some (some (.ref p)))(D:FAt C H p ra ca af aw b L F W)(k:Q (.bl (b && decide (L=[]))) H):a1X C "ended" (a5i C) [] E0 (Z0 i) a2f σ H Q:=by
 obtain⟨⟨dx,ah,hs,a,_⟩,_,_,_⟩:=id D;exact⟨_,hi,p,dx,_,rfl,a,b0O _ _ _ _ _ _,p,ra,ca,af,aw,b,L,F,W,rfl,D,k⟩
def a2i:FnScope ["self"] ["self"] (A1 J7):={}
def b3a(c:MethAt K C "ended" "Finder.ended" J7 ["self"])(U:FiTx K C)(T:Tx mg):MethOk P w K mg base C "ended" 1 ["self"] (a5i C):=by
 refine c.fnJ a2i (λi H Q E h=>?_) (λd f A a s H i Q E m h=>?_)
 .obtain⟨p,ra,ca,af,aw,b,L,F,W,rfl,_⟩:=h;rfl
 .obtain⟨p,ra,ca,af,aw,b,L,F,W,rfl,D,k⟩:=h;obtain⟨⟨dx,ah,hs,h1,h2,g,j,l⟩,⟨fs,f1,f2⟩,⟨q,n,o⟩,ne⟩:=id D;refine⟨_,(A4 (A8 (U8 (M1 K (jv 0)) (a0d (a4y (G8 K rfl T.b_len (jaC (M1 K (jv 0)) jaN)) A3))))),?_⟩;refine⟨_,rfl,p,C,dx,_,_,rfl,h1,U.cl,U.n3,a4G _ _ _ _ _ _,?_⟩;refine⟨b,rfl,?_⟩;cases b with
  |false=>exact C9 k
  |true =>
   refine E5 ⟨_,rfl,p,C,dx,_,_,rfl,h1,U.cl,U.n4,a0h _ _ _ _ _ _,ah,_,rfl,.inl (SqL.of h2),rfl,?_⟩;have e:decide (V.int (hs.length:Int)=V.int 0)=decide (L=[]):=by
    rw[g.1];cases L with
    |nil=>simp
    |cons x L=>simp;omega
   rw[e];exact k
inductive IspTold(C:qE)(vs:qA V)(H:Hp)(Q:VK)(E:XK):Prop
 |mk (p ra ca af aw:qE) (b:Bool) (L F W:LLI) (_:vs=[.ref p]) (_:FAt C H p ra ca af aw b L F W) (_:(∀v∈F,0<v.length)) (_:∀q zs tss H',Same H H'->H' q=some (.tup zs)->Its H' zs tss->tss.Perm F->C8 tss->Q (.ref q) H'):IspTold C vs H Q E
def a7t(C:qE):Sp:=λvs H Q E=>IspTold C vs H Q E
def b4R{ra ca af aw:qE}{b:Bool}(hi:σ[i]?=some (some (.ref p)))(D:FAt C H p ra ca af aw b L F W)(h:∀v∈F,0<v.length)(k:∀q zs tss H',Same H H'->H' q=some (.tup zs)->Its H' zs tss->tss.Perm F->C8 tss->Q (.ref q) H'):a1X C "told" (a7t C) [] E0 (Z0 i) a2f σ H Q:=by
 obtain⟨⟨dx,ah,hs,a,_⟩,_,_,_⟩:=id D;exact⟨_,hi,p,dx,_,rfl,a,b3Q _ _ _ _ _ _,p,ra,ca,af,aw,b,L,F,W,rfl,D,h,k⟩
def a2X:FnScope ["self"] ["self"] (A1 L5):={}
def b5D(g:MethAt K C "told" "Finder.told" L5 ["self"])(U:FiTx K C)(T:Tx mg):MethOk P w K mg base C "told" 1 ["self"] (a7t C):=by
 refine g.fnJ a2X (λn H Q E h=>?_) (λi f A d s H n Q E v h=>?_)
 .obtain⟨p,ra,ca,af,aw,b,L,F,W,rfl,_⟩:=h;rfl
 .obtain⟨p,ra,ca,af,aw,b,L,F,W,rfl,D,hF,k⟩:=h;obtain⟨⟨dx,ah,hs,h1,h2,r,t,u⟩,⟨fs,f1,f2⟩,⟨z,x,y⟩,ne⟩:=id D;refine⟨_,(A4 (A8 (C2 K rfl T.b_tuple (jaC (a3y K rfl T.b_sorted (jaC (M1 K (jv 0)) jaN)) jaN)))),?_⟩;refine⟨_,rfl,p,C,dx,_,_,rfl,h1,U.cl,U.n5,a1M _ _ _ _ _ _,af,fs,F,rfl,.inl (SqL.of f1),f2,hF,λl zs e j hI a c _=>?_⟩;refine⟨l,_,rfl,.inl ⟨SqL.of A0,λq m=>?_⟩⟩;have s2:=((Same.refl H).upd (o:=.lst zs) j).upd (o:=.tup zs) m;exact k q zs e _ s2 A0 (hI.same s2) a c
inductive IspPaper(C:qE)(vs:qA V)(H:Hp)(Q:VK)(E:XK):Prop
 |mk (p ra ca af aw:qE) (b:Bool) (L F W:LLI) (_:vs=[.ref p]) (_:FAt C H p ra ca af aw b L F W) (_:∀q zs H',Same H H'->H' q=some (.tup zs)->Its H' zs W->Q (.ref q) H'):IspPaper C vs H Q E
def a5f(C:qE):Sp:=λvs H Q E=>IspPaper C vs H Q E
def b2k{ra ca af aw:qE}{b:Bool}(hi:σ[i]?=some (some (.ref p)))(D:FAt C H p ra ca af aw b L F W)(k:∀q zs H',Same H H'->H' q=some (.tup zs)->Its H' zs W->Q (.ref q) H'):a1X C "paper" (a5f C) [] E0 (Z0 i) a2f σ H Q:=by
 obtain⟨⟨dx,ah,hs,a,_⟩,_,_,_⟩:=id D;exact⟨_,hi,p,dx,_,rfl,a,b0N _ _ _ _ _ _,p,ra,ca,af,aw,b,L,F,W,rfl,D,k⟩
def a2h:FnScope ["self"] ["self"] (A1 J6):={}
def b2W(d:MethAt K C "paper" "Finder.paper" J6 ["self"])(U:FiTx K C)(T:Tx mg):MethOk P w K mg base C "paper" 1 ["self"] (a5f C):=by
 refine d.fnJ a2h (λi H Q E h=>?_) (λe f A a s H i Q E t h=>?_)
 .obtain⟨p,ra,ca,af,aw,b,L,F,W,rfl,_⟩:=h;rfl
 .obtain⟨p,ra,ca,af,aw,b,L,F,W,rfl,D,k⟩:=h;obtain⟨⟨dx,ah,hs,h1,h2,m,n,r⟩,⟨fs,f1,f2⟩,⟨c,j,l⟩,ne⟩:=id D;refine⟨_,(A4 (A8 (C2 K rfl T.b_tuple (jaC (M1 K (jv 0)) jaN)))),?_⟩;refine⟨_,rfl,p,C,dx,_,_,rfl,h1,U.cl,U.n6,a3J _ _ _ _ _ _,aw,_,rfl,.inl ⟨SqL.of j,λq g=>?_⟩⟩;have s2:=(Same.refl H).upd (o:=.tup c) g;exact k q c _ s2 A0 (l.same s2)
end
inductive Wk(rss:LLI)(cs:qA (qD Int)):LLI->LLI->LLI->Nat->Prop
 |one {L:LLI}(ri:C8 L) (nd:L.Nodup) (h:∀v,v∈L↔v∈P9 cs):Wk rss cs (L.filter λv=>Ans rss v) L L 1
 |more {F W L L':LLI}{k:Nat}(h:Wk rss cs F W L k) (ne:L≠[]) (ri:C8 L') (nd:L'.Nodup) (hm:∀v,v∈L'↔∃u∈L,a1t rss cs F u v):Wk rss cs (F++L'.filter λv=>Ans rss v) (W++L') L' (k+1)
def b6s(rss:LLI)(cs:qA (qD Int))(most:Int):Prop:=∃F W L k,Wk rss cs F W L k/\(most<W.length∨(L≠[]/\∃L':LLI,L'.Nodup/\(∀v∈L',∃u∈L,a1t rss cs F u v)/\most<W.length+L'.length))
def b3f(h:∀x∈v,0<=x):∀x∈v,x<=v.sum:=by
 induction v with
 |nil=>intro x a;cases a
 |cons y v c =>
  intro x a;have h1:=h y ax;have h2:=a4X v λz b=>h z (au _ b);rw[bC];rcases aA.mp a with rfl|a
  .omega
  .have:=c (λz b=>h z (au _ b)) x a;omega
def b6h(h:∀x∈u,0<=x):∀x∈bump u j,0<=x:=by
 intro x a;unfold bump at a;rcases eY a with z|z
 .exact h x z
 .by_cases hj:j<u.length
  .have:=h _ (cB (h:=hj));rw[aq,aj hj]at z;simp at z;omega
  .rw[aq,cg (by omega)]at z;simp at z;omega
def b1z(n j:Nat):∀x∈O2 n j,0<=x:=by
 intro x a;unfold O2 at a;obtain⟨i,_,rfl⟩:=aT.mp a;split<;>omega
def a7l(n j:Nat)(c:j<n):O2 n j=bump (List.replicate n 0) j:=by
 refine fJ (by rw[N9,E9,bt]) λi h1 h2=>?_;rw[N9]at h1;have a:=a0n n j i h1;have b:=a1p (List.replicate n 0) j i (by simpa using c);rw[aq,aj (by rw[N9];exact h1)]at a;rw[aq,aj h2]at b;simp only[Option.getD_some]at a b;rw[a,b];simp only[aq,dW,c,h1,fj];by_cases e:i=j<;>simp[e]
def b2i(n:Nat):(List.replicate n (0:Int)).sum=0:=by
 induction n with
 |zero=>rfl
 |succ n a=>rw[cj,bC,a];rfl
def a9N(n j:Nat)(a:j<n):(O2 n j).sum=1:=by
 rw[a7l n j a,a7g _ _ (by simpa using a),b2i];rfl
def a7r(h:j∈StP rss cs u):j<u.length/\a1R rss u j<0/\a9E (cs.getD j none) (u.getD j 0)=true:=by
 unfold StP at h;rw[aW,aW,bf,bD]at h;exact⟨h.1.1,h.1.2,h.2⟩
structure LvF(n k:Nat)(v:qI):Prop where
 len:v.length=n
 nn:∀x∈v,0<=x
 sum:v.sum=k
def a1L(h:v∈P9 cs):LvF cs.length 1 v:=by
 obtain⟨j,a,rfl⟩:=aT.mp (aW.mp h).1;exact⟨N9 _ _,b1z _ _,a9N _ _ (bf.mp a)⟩
def b3c(a:LvF n k u)(h:a1t rss cs F u v):LvF n (k+1) v:=by
 obtain⟨j,b,rfl,_⟩:=h;have:=(a7r b).1;exact⟨by rw[E9];exact a.len,b6h a.nn,by rw[a7g _ _ this,a.sum];omega⟩
def Wk.lv(h:Wk rss cs F W L k):(∀v∈L,LvF cs.length k v)/\(∀v∈W,∃i,1<=i/\i<=k/\LvF cs.length i v)/\(∀v∈F,v∈W/\Ans rss v=true)/\F.length<=W.length/\L.length<=W.length/\1<=k/\k<=W.length+1/\(L≠[]->k<=W.length):=by
 induction h with
 |@one L ri nd h =>
  refine⟨λv a=>a1L ((h v).mp a),λv a=>⟨1,by omega,by omega,a1L ((h v).mp a)⟩,λv a=>aW.mp a,bu _ _,ak _,by omega,by omega,λne=>?_⟩;cases L with
  |nil=>exact absurd rfl ne
  |cons x L=>simp
 |@more F W L L' k h ne ri nd e n =>
  obtain⟨j,l,d,o,p,q,r,m⟩:=n;have b:∀v∈L',LvF cs.length (k+1) v:=λv a=>by
   obtain⟨u,f,g⟩:=(e v).mp a;exact b3c (j u f) g
  have:=bu (λv=>Ans rss v) L';have s:=m ne;refine⟨b,λv a=>?_,λv a=>?_,by rw[ar,ar];omega,by rw[ar];omega,by omega,by rw[ar];omega,λc=>?_⟩
  .rcases aD.mp a with z|z
   .obtain⟨i,q1,q2,q3⟩:=l v z;exact⟨i,q1,by omega,q3⟩
   .exact⟨k+1,by omega,by omega,b v z⟩
  .rcases aD.mp a with z|z
   .exact⟨aQ _ (d v z).1,(d v z).2⟩
   .exact⟨aR _ (aW.mp z).1,(aW.mp z).2⟩
  .rw[ar];have:0<L'.length:=List.length_pos_iff.mpr c;omega
section
variable {K:qF}
inductive IspLeast(D:qE)(vs:qA V)(H:Hp)(Q:VK)(E:XK):Prop
 |mk (ra ca:qE) (rss:LLI) (cs:qA (qD Int)) (most:Nat) (mi:Int) (_:vs=[.ref ra,.ref ca,.int mi]) (_:mi=most) (_:SyAt H ra ca rss cs) (_:(most+1)*cs.length+200<=100000) (_:(∀q t pp zs tss ws F W k H',Same H H'->H' q=some (.tup [.ref t,.ref pp])->H' t=some (.tup zs)->Its H' zs tss->tss.Perm F->C8 tss->H' pp=some (.tup ws)->Its H' ws W->Wk rss cs F W [] k->W.length<=most->Q (.ref q) H')) (_:(∀H',Same H H'->b6s rss cs most->E (.ref D) none H')):IspLeast D vs H Q E
def a5g(D:qE):Sp:=λvs H Q E=>IspLeast D vs H Q E
def sc_least:FnScope ["rows","caps","most","finder","room"] ["rows","caps","most"] (A1 a2z):={}
def b2X{r:qE}(V:FunAt K mg "least" a2z ["rows","caps","most"])(T:Tx mg)(U:FiTx K C)(a:Cls K C)(G:MakeOk P w K mg base "Finder" C 1 ["self","rows","caps"] (a8P C))(g:MethOk P w K mg base C "step_within" 6 ["self","room"] (a5d C))(n:MethOk P w K mg base C "ended" 1 ["self"] (a5i C))(t:MethOk P w K mg base C "told" 1 ["self"] (a7t C))(p:MethOk P w K mg base C "paper" 1 ["self"] (a5f C))
  (D:OwnCls "TooMany" r [.type "ValueError",.type "Exception",.type "BaseException",.type "object"] "ValueError.__new__" mg base):OkE P w K mg base "least" 7 ["rows","caps","most"] (a5g r):=by
 refine V.okE sc_least (λvs H Q E h=>?_) (λc0 f A b7 s H vs Q E hr h=>?_)
 .obtain⟨ra,ca,rss,cs,most,mi,rfl,_⟩:=h;rfl
 .obtain⟨ra,ca,rss,cs,most,_,rfl,rfl,Y,hbig,kq,ke⟩:=h;refine⟨_,(A2 (B1 (i:=3) sc_least.nd rfl (Or.inl rfl) (b8z G (hr.mono (by omega)) rfl (jaC (jv 0) (jaC (jv 1) jaN))))
 (A2 (B1 (i:=4) sc_least.nd rfl (Or.inl rfl) (jv 2))
 (A2 (b3q (G2 (C6 K (a5D n a (hr.mono (by omega)) (jv 3))))
 (A2 (B1 (i:=4) sc_least.nd rfl (Or.inl rfl) (T0 (jv 4) (b8y g a (hr.mono (by omega)) (jv 3) (jaC (jv 4) jaN))))
 (A4 (C7 (b3p (jv 4) A3)
 (A4 (a6T D PySem.F.excBase_ValueError rfl PySem.F.excBase_ValueError rfl (jaC b6U jaN)))
 B6))) (hp:=PassesOwn.leaving))
 (A4 (A8 (E3 (jaC (a5D t a (hr.mono (by omega)) (jv 3)) (jaC (a5D p a (hr.mono (by omega)) (jv 3)) jaN)))))))),?_⟩
  refine⟨_,rfl,_,rfl,λx dx hx a9 M=>?_⟩;have b6:upd H dx (.own x) x=none:=by rw[A5 M.symm];exact hx
  have s0:Same H (upd (upd H dx (.own x)) x (.ins C dx [])):=((Same.refl H).upd a9).upd b6;refine⟨x,dx,ra,ca,rfl,A0,λaf aw H1 a7 a8 D1 _ kp=>⟨rfl,?_⟩⟩;have Z:H af=none:=s0.free a7;have a0:H aw=none:=s0.free a8;have s1:Same H H1:=λb o e=>kp b o (s0 b o e) (A9 e hx);dsimp only[B0];refine⟨_,rfl,?_⟩;dsimp only[B0];have hz:(300000:Nat)<=sizeLine:=by rw[aU];decide
  refine Q6 (λσ H'=>σ=[some (.ref ra),some (.ref ca),some (.int most),some (.ref x),σ.getD 4 none]/\Same H H'/\∃F W k,FAt C H' x ra ca af aw true [] F W/\Wk rss cs F W [] k/\W.length<=most) ?fin λfin=>?_
  case fin =>
   rintro σ H2 ⟨hσ,s2,F,W,k,N,I,O⟩;obtain⟨⟨a3,ah,hs,h1,h2,h3,h4,h5⟩,_,_,_⟩:=id N;have a1:=I.lv;rw[hσ];refine b4R rfl N (λv J=>?_) λq1 zs b8 H3 s3 b3 a4 b2 b5=>?_
   .obtain⟨i,_,_,lv⟩:=a1.2.1 v (a1.2.2.1 v J).1;rw[lv.len];exact Y.n1
   have D3:=N.same s3;obtain⟨⟨c1,b9,c7,g1,_⟩,_,_,_⟩:=id D3;refine b2k rfl D3 λq2 ws H4 s4 b4 a5=>?_;refine⟨by show 2<=sizeLine;omega,λq hq=>?_⟩;have s5:=(Same.refl H4).upd (o:=.tup [.ref q1,.ref q2]) hq;exact kq q q1 q2 zs b8 ws F W k _ (((s2.trans s3).trans s4).trans s5) A0 (s5 _ _ (s4 _ _ b3)) ((a4.same s4).same s5) b2 b5 (s5 _ _ b4) (a5.same s5) I O
  refine⟨λm σ H'=>∃(b:Bool) (L F W:LLI) (d:Int),σ=[some (.ref ra),some (.ref ca),some (.int most),some (.ref x),some (.int d)]/\Same H H'/\FAt C H' x ra ca af aw b L F W/\0<=d/\m=d.toNat+(if b=true/\L=[] then 0 else 1)/\((b=false/\L=[]/\F=[]/\W=[]/\d=most)∨(b=true/\∃k,Wk rss cs F W L k/\d=most-W.length)),
   ⟨_,false,[],[],[],_,rfl,s1,D1,by omega,rfl,.inl ⟨rfl,rfl,rfl,rfl,rfl⟩⟩,?_⟩
  rintro m σ H2 ⟨b,L,F,W,d,rfl,s2,N,r0,rfl,S⟩;obtain⟨⟨a3,ah,hs,h1,h2,h3,h4,h5⟩,_,_,_⟩:=id N;refine b2l rfl N ⟨_,rfl,?_⟩;have b1:=Y.n1;have c5:most+1<=(most+1)*cs.length:=Nat.le_mul_of_pos_right _ b1;by_cases he:b=true/\L=[]
  .obtain⟨rfl,rfl⟩:=he;refine C9 ?_;rcases S with⟨z,_⟩|⟨_,k,I,j⟩
   .cases z
   .exact fin _ _ ⟨rfl,s2,F,W,k,N,I,by omega⟩
  .have hb:(b && decide (L=[]))=false:=by
    cases b with
    |false=>rfl
    |true =>
     have:L≠[]:=λz=>he ⟨rfl,z⟩;simpa using this
   rw[hb,ao he];refine E5 ⟨λσ' H'=>∃(L' V X:LLI) (k:Nat) (l:Int),σ'=[some (.ref ra),some (.ref ca),some (.int most),some (.ref x),some (.int l)]/\Same H H'/\FAt C H' x ra ca af aw true L' V X/\0<=l/\Wk rss cs V X L' k/\l=most-X.length/\l.toNat+(if L'=[] then 0 else 1)<d.toNat+1,λσ' H' ⟨L',V,X,k,l,e1,e2,e3,e4,e5,e6,e7⟩=>⟨_,e7,true,L',V,X,l,e1,e2,e3,e4,by simp,.inr ⟨rfl,k,e5,e6⟩⟩,?_⟩;obtain⟨B,hB,hL,hF,c4,a6,c2⟩:∃B:Int,B<=2 ^ 60/\(∀v∈L,v.length=cs.length/\∀y∈v,0<=y/\y<=B)/\(∀v∈F,v.length=cs.length)/\W.length<=most/\L.length<=most/\F.length<=most:=by
    rcases S with⟨rfl,rfl,rfl,rfl,_⟩|⟨rfl,k,I,j⟩
    .exact⟨0,by omega,(λ_ z=>nomatch z),(λ_ z=>nomatch z),by simp,by simp,by simp⟩
    .obtain⟨i1,i2,i3,i4,i5,i6,i7,i8⟩:=I.lv;refine⟨k,by omega,λv J=>⟨(i1 v J).len,λy hy=>⟨(i1 v J).nn y hy,?_⟩⟩,λv J=>?_,by omega,by omega,by omega⟩
     .have:=b3f (i1 v J).nn y hy;rw[(i1 v J).sum]at this;exact this
     .obtain⟨i,_,_,lv⟩:=i2 v (i3 v J).1;exact lv.len
   have c3:L.length*cs.length<=most*cs.length:=Nat.mul_le_mul_right _ a6;have c6:(most+1)*cs.length=most*cs.length+cs.length:=by rw[Nat.add_mul,Nat.one_mul]
   refine⟨_,rfl,b2j rfl rfl N (Y.same s2) (.inr ⟨d,rfl,r0⟩) hL hB hF (by omega) (by omega) (by omega) λL' H3 R D3 _ a2=>?_⟩;refine⟨_,_,rfl,rfl,?_⟩;dsimp only[B0];have s3:Same H H3:=λc o e=>a2 c o (by simpa using⟨A9 e hx,A9 e Z,A9 e a0⟩) (s2 c o e);have key:(∃k,Wk rss cs (F++L'.filter λv=>Ans rss v) (W++L') L' k/\d=most-W.length)∨(d<L'.length/\b6s rss cs most):=by
    rcases S with⟨rfl,rfl,rfl,rfl,j⟩|⟨rfl,k,I,j⟩
    .exact .inl ⟨1,by simpa using Wk.one R.ri R.nd (R.fst rfl),by simpa using j⟩
    .have M:L≠[]:=λz=>he ⟨rfl,z⟩;rcases R.all rfl with ha|⟨m',e',hm'⟩
     .exact .inl ⟨k+1,.more I M R.ri R.nd λv=>⟨R.snd rfl v,λ⟨u,hu,J⟩=>ha u hu v J⟩,j⟩
     .cases e';exact .inr ⟨hm',F,W,L,k,I,.inr ⟨M,L',R.nd,R.snd rfl,by omega⟩⟩
   refine⟨_,rfl,_,_,rfl,rfl,_,rfl,a0e (λe=>?_) (λe=>?_)⟩
   .have e':d-(L'.length:Int)<0:=bp e;refine⟨by rw[aU];decide,ke _ s3 ?_⟩;rcases key with⟨k,I,j⟩|⟨_,ho⟩
    .exact⟨_,_,_,k,I,.inl (by rw[ar];omega)⟩
    .exact ho
   .have e':¬d-(L'.length:Int)<0:=λz=>e (bj z);rcases key with⟨k,I,j⟩|⟨b0,_⟩
    .refine⟨L',_,_,k,_,rfl,s3,D3,by omega,I,by rw[ar];omega,?_⟩;cases L' with
     |nil=>simp
     |cons y L'=>simp only[aZ]at e'⊢;rw[ao (by simp)];omega
    .exact absurd b0 (by omega)
end
structure Answer(rss:LLI)(n:Nat)(v:qI):Prop where
 len:v.length=n
 nn:∀x∈v,0<=x
 ans:Ans rss v=true
 pos:0<v.sum
structure Least(rss:LLI)(cs:qA (qD Int))(v:qI):Prop where
 an:Answer rss cs.length v
 wi:Wi cs v=true
 min:∀u,Answer rss cs.length u->Under u v->u=v
def Under.refl(v:qI):Under v v:=⟨rfl,λ_ _=>dh _⟩
def Under.trans{a b c:qI}(h:Under a b)(g:Under b c):Under a c :=
 ⟨h.1.trans g.1,λj d=>Int.le_trans (h.2 j (by rw[g.1];exact d)) (g.2 j d)⟩
def Under.eq{a b:qI}(h:Under a b)(hs:b.sum<=a.sum):a=b:=by
 refine bY λne=>?_;have:=h.sum.2 ne;omega
def Y9(h:v.length=cs.length):Wi cs v=true↔∀j,j<cs.length->b0W (cs.getD j none) (v.getD j 0)=true:=by
 unfold Wi;induction cs generalizing v with
 |nil=>simp
 |cons c cs b =>
  cases v with
  |nil=>cases h
  |cons x v =>
   rw[bq,dw,aO,b (by simpa using h)];constructor
   .rintro⟨h1,h2⟩ j a;cases j with
    |zero=>exact h1
    |succ j=>exact h2 j (by simpa using a)
   .intro h1;exact⟨h1 0 (by simp),λj a=>h1 (j+1) (by simpa using a)⟩
def b0V{c:qD Int}{x y:Int}(h:b0W c y=true)(a:x<=y):b0W c x=true:=by
 cases c with
 |none=>rfl
 |some c =>
  have:y<=c:=bp h;exact bj (by omega)
def a4V(a:v.length=cs.length)(h:Wi cs v=true)(c:Under u v):Wi cs u=true:=by
 rw[Y9 a]at h;rw[Y9 (by rw[c.1];exact a)];intro j b;exact b0V (h j b) (c.2 j (by rw[a];exact b))
def b4p(h:Ans rss v=true)(j:Nat):a1R rss v j=0:=by
 unfold a1R S5;unfold Ans at h;induction rss with
 |nil=>rfl
 |cons r rss a =>
  rw[dw,aO,bD]at h;rw[aV,bq,bC,a h.2,h.1];omega
def J2{f:qI}(a:f.length=v.length):Bel f v=true↔Under f v:=by
 constructor
 .intro h;refine⟨a,?_⟩;unfold Bel at h;induction f generalizing v with
  |nil =>
   intro j b;rw[<-a]at b;simp at b
  |cons x f c =>
   cases v with
   |nil=>cases a
   |cons y v =>
    rw[bq,dw,aO]at h;intro j b;cases j with
    |zero=>exact bp h.1
    |succ j=>exact c (by simpa using a) h.2 j (by simpa using b)
 .intro h;unfold Bel;induction f generalizing v with
  |nil=>rfl
  |cons x f c =>
   cases v with
   |nil=>cases a
   |cons y v =>
    obtain⟨h1,h2⟩:=h.tail;rw[bq,dw,c (by simpa using a) h2,Bool.and_true];exact bj h1
def X4{rss:LLI}{cs:qA (qD Int)}:∀(m:Nat) {u:qI},u.sum<=m->Answer rss cs.length u->Wi cs u=true->∃a,Least rss cs a/\Under a u
 |0,u,e,h,_=>absurd h.pos (by omega)
 |m+1,u,e,h,hw=>by
  by_cases c:∃t,Answer rss cs.length t/\Under t u/\t≠u
  .obtain⟨t,h1,h2,h3⟩:=c;have:=h2.sum.2 h3;obtain⟨a,d,b⟩:=X4 m (u:=t) (by omega) h1 (a4V h.len hw h2);exact⟨a,d,b.trans h2⟩
  .exact⟨u,⟨h,hw,λt f b=>bY λne=>c ⟨t,f,b,ne⟩⟩,Under.refl u⟩
def a7G:∀{v:qI},(∀x∈v,0<=x)->0<v.sum->∃j,j<v.length/\1<=v.getD j 0
 |[],_,h=>by simp at h
 |x::v,a,h=>by
  by_cases b:1<=x
  .exact⟨0,by simp,by simpa using b⟩
  .have h0:=a x ax;rw[bC]at h;obtain⟨j,h1,h2⟩:=a7G (v:=v) (λy c=>a y (au _ c)) (by omega);exact⟨j+1,by simpa using h1,by simpa using h2⟩
def b6Q(h:∀x∈v,0<=x)(j:Nat):0<=v.getD j 0:=by
 rw[aq];cases e:v[j]? with
 |none=>simp
 |some x=>simpa using h x (aH e)
structure WkOk(rss:LLI)(cs:qA (qD Int))(F L:LLI)(k:Nat):Prop where
 wi:∀v∈L,Wi cs v=true
 bar:∀v∈L,∀f∈F,Under f v->f=v
 snd:∀f∈F,Least rss cs f
 all:∀a,Least rss cs a->a.sum<=k->a∈F
 up:∀a,Least rss cs a->k<=a.sum->∃v∈L,Under v a
def Wk.ok(hR:∀r∈rss,r.length=cs.length)(h:Wk rss cs F W L k):WkOk rss cs F L k:=by
 induction h with
 |@one L ri nd h =>
  have l:∀v∈L,LvF cs.length 1 v:=λv g=>a1L ((h v).mp g);have o:∀v∈L,Wi cs v=true:=λv g=>(aW.mp ((h v).mp g)).2;have s:∀a,Least rss cs a->((1:Nat):Int)<=a.sum->∃v∈L,Under v a:=λa b _=>by
   obtain⟨j,h1,h2⟩:=a7G b.an.nn b.an.pos;rw[b.an.len]at h1;have d:Under (O2 cs.length j) a:=⟨by rw[N9,b.an.len],λi hi=>by
    rw[b.an.len]at hi;rw[a0n _ _ _ hi];by_cases e:i=j
    .rw[av e,e];exact h2
    .rw[ao e];exact b6Q b.an.nn i⟩
   exact⟨_,(h _).mpr (aW.mpr ⟨aT.mpr ⟨j,bf.mpr h1,rfl⟩,a4V b.an.len b.wi d⟩),d⟩
  refine⟨o,λv g f m d=>?_,λf m=>?_,λa b hs=>?_,s⟩
  .have h1:=(l v g).sum;have h2:=(l f (aW.mp m).1).sum;exact d.eq (by omega)
  .obtain⟨hf1,n⟩:=aW.mp m;have lv:=l f hf1;refine⟨⟨lv.len,lv.nn,n,by rw[lv.sum];decide⟩,o f hf1,λu p d=>d.eq ?_⟩;have:=p.pos;rw[lv.sum];omega
  .obtain⟨v,g,d⟩:=s a b (by have:=b.an.pos;omega);have h1:=(l v g).sum;have:v=a:=d.eq (by omega);subst this;exact aW.mpr ⟨g,b.an.ans⟩
 |@more F W L L' k h ne ri nd J C =>
  obtain⟨K,Y,S,Z,i5,i6,i7,i8⟩:=h.lv;have l:∀v∈L',LvF cs.length (k+1) v:=λv g=>by
   obtain⟨u,p,X⟩:=(J v).mp g;exact b3c (K u p) X
  have y:∀f∈F,f.length=cs.length/\f.sum<=k:=λf m=>by
   obtain⟨i,q1,q2,lv⟩:=Y f (S f m).1;exact⟨lv.len,by rw[lv.sum];omega⟩
  have s:∀a,Least rss cs a->((k+1:Nat):Int)<=a.sum->∃v∈L',Under v a:=λa b hs=>by
   obtain⟨v,g,d⟩:=C.up a b (by omega);have lv:=K v g;have hva:v≠a:=λz=>by rw[<-z,lv.sum]at hs;omega
   have P:Ans rss v=false:=by
    cases e:Ans rss v with
    |false=>rfl
    |true=>exact absurd (b.min v ⟨lv.len,lv.nn,e,by rw[lv.sum];omega⟩ d) hva
   have U:=b9y rss v a (λr V=>by rw[hR r V,b.an.len]) d hva b.an.ans;obtain⟨j,t⟩:=List.exists_mem_of_ne_nil _ U;have H:=b2D t;have N:a1R rss v j<0:=by
    unfold Pl at t;rw[aW,P,eS,aO]at t;exact bp t.2.2
   have D:Under (bump v j) a:=d.bump t;have hw:=(Y9 b.an.len).mp b.wi j (by rw[<-b.an.len];exact H.1);refine⟨bump v j,(J _).mpr ⟨v,g,j,?_,rfl,?_⟩,D⟩
   .unfold StP;rw[aW,aW,bf,bD];refine⟨⟨by rw[d.1];exact H.1,N⟩,?_⟩;cases e:cs.getD j none with
    |none=>rfl
    |some c =>
     rw[e]at hw;have:a.getD j 0<=c:=bp hw;exact bj (by omega)
   .cases e:Bar F (bump v j) j with
    |false=>rfl
    |true =>
     unfold Bar at e;obtain⟨f,m,n⟩:=bJ.mp e;rw[aO]at n;have A:=(y f m).1;have B:Under f a:=((J2 (by rw[A,E9,lv.len])).mp n.2).trans D;have:=b.min f (C.snd f m).an B;have h2:=(y f m).2;rw[this]at h2;omega
  have o:∀v∈L',Wi cs v=true:=λv g=>by
   obtain⟨u,p,j,t,rfl,_⟩:=(J v).mp g;have w:=(K u p).len;have q:=a7r t;have hw:=C.wi u p;rw[Y9 w]at hw;rw[Y9 (by rw[E9];exact w)];intro i hi;rw[a1p _ _ _ q.1];by_cases e:i=j
   .rw[av e,e];have I:=q.2.2;cases T:cs.getD j none with
    |none=>rfl
    |some c =>
     rw[T]at I;have:u.getD j 0<c:=bp I;exact bj (by omega)
   .rw[ao e];exact hw i hi
  have x:∀v∈L',∀f∈F++L'.filter (λv=>Ans rss v),Under f v->f=v:=λv g f m d=>by
   rcases aD.mp m with z|z
   .obtain⟨u,p,j,t,rfl,hb⟩:=(J v).mp g;have w:=(K u p).len;have q:=a7r t;have A:=(y f z).1;exfalso;by_cases e:f.getD j 0=(bump u j).getD j 0
    .have:Bar F (bump u j) j=true:=by
      unfold Bar;exact bJ.mpr ⟨f,z,by rw[aO];exact⟨bj e,(J2 d.1).mpr d⟩⟩
     rw[this]at hb;cases hb
    .have B:Under f u:=⟨by rw[A,w],λi hi=>by
      have h1:=d.2 i (by rw[E9];exact hi);rw[a1p _ _ _ q.1]at h1;by_cases R:i=j
      .subst R;rw[a1p _ _ _ q.1,av rfl]at e;rw[av rfl]at h1;omega
      .rw[ao R]at h1;exact h1⟩
     have h2:=C.bar u p f z B;have I:=b4p (S f z).2 j;rw[h2]at I;omega
   .have h1:=(l v g).sum;have h2:=(l f (aW.mp z).1).sum;exact d.eq (by omega)
  have E:∀a,Least rss cs a->a.sum<=((k+1:Nat):Int)->a∈F++L'.filter (λv=>Ans rss v):=λa b hs=>by
   by_cases h1:a.sum<=(k:Int)
   .exact aQ _ (C.all a b h1)
   .obtain⟨v,g,d⟩:=s a b (by omega);have h2:=(l v g).sum;have:v=a:=d.eq (by omega);subst this;exact aR _ (aW.mpr ⟨g,b.an.ans⟩)
  refine⟨o,x,λf m=>?_,E,s⟩;rcases aD.mp m with z|z
  .exact C.snd f z
  .obtain⟨hf1,n⟩:=aW.mp z;have lv:=l f hf1;refine⟨⟨lv.len,lv.nn,n,by rw[lv.sum];omega⟩,o f hf1,λu p d=>?_⟩;refine bY λQ=>?_;have O:=d.sum.2 Q;rw[lv.sum]at O;obtain⟨a,b,G⟩:=X4 (rss:=rss) (cs:=cs) u.sum.toNat (by have:=p.pos;omega) p (a4V lv.len (o f hf1) d);have hs:=G.sum.1;have M:=C.all a b (by omega);have:=x f hf1 a (aQ _ M) (G.trans d);rw[this,lv.sum]at hs;omega
def Wk.least(hR:∀r∈rss,r.length=cs.length)(h:Wk rss cs F W [] k)(v:qI):v∈F↔Least rss cs v:=by
 have o:=h.ok hR;refine⟨o.snd v,λa=>?_⟩;by_cases hs:v.sum<=(k:Int)
 .exact o.all v a hs
 .obtain⟨u,hu,_⟩:=o.up v a (by omega);cases hu
def Wk.nd{rss:LLI}{cs:qA (qD Int)}{F W L:LLI}{k:Nat}(h:Wk rss cs F W L k):W.Nodup/\F.Nodup:=by
 induction h with
 |@one L ri nd h=>exact⟨nd,nd.sublist List.filter_sublist⟩
 |@more F W L L' k h ne ri nd f d =>
  obtain⟨l,m,n,o,p,q,r,s⟩:=h.lv;have a:∀v∈W,∀u∈L',v≠u:=λv c u b e=>by
   obtain⟨i,q1,w,lv⟩:=m v c;obtain⟨t,g,j⟩:=(f u).mp b;have:=(b3c (l t g) j).sum;rw[<-e,lv.sum]at this;omega
  refine⟨ez.mpr ⟨d.1,nd,a⟩,ez.mpr ⟨d.2,nd.sublist List.filter_sublist,λv c u b=>a v (n v c).1 u (aW.mp b).1⟩⟩
def Z7:∀{a b:LLI},C8 a->C8 b->a.Nodup->b.Nodup->(∀v,v∈a↔v∈b)->a=b
 |[],[],_,_,_,_,_=>rfl
 |[],y::b,_,_,_,_,h=>by have:=(h y).mpr ax;cases this
 |x::a,[],_,_,_,_,h=>by have:=(h x).mp ax;cases this
 |x::a,y::b,ra,rb,na,nb,h=>by
  obtain⟨i,j⟩:=cT.mp ra;obtain⟨q1,g⟩:=cT.mp rb;obtain⟨n1,f⟩:=cq.mp na;obtain⟨c,d⟩:=cq.mp nb;have e:x=y:=by
   refine O0 x y ?_ ?_
   .rcases aA.mp ((h x).mp ax)with z|z
    .rw[z];exact G6 y
    .exact q1 x z
   .rcases aA.mp ((h y).mpr ax)with z|z
    .rw[z];exact G6 x
    .exact i y z
  subst e;rw[Z7 j g f d λv=>?_];constructor
  .intro hv;rcases aA.mp ((h v).mp (au _ hv))with z|z
   .exact absurd (z ▸ hv) n1
   .exact z
  .intro hv;rcases aA.mp ((h v).mpr (au _ hv))with z|z
   .exact absurd (z ▸ hv) c
   .exact z
def W2(h:PotAt H a b n)(d:H c=none):c∉[a,b]:=by
 obtain⟨_,e,t,k,h1,h2,_⟩:=h;simp only[aA,bA,cI,not_or];exact⟨(A9 h1 d).symm,(A9 h2 d).symm⟩
def a2D(h:PotAt H a b n)(d:c∉[a,b]):PotAt (upd H c o) a b n:=by
 simp only[aA,bA,cI,not_or]at d;obtain⟨ne,e,t,j,f,g,i⟩:=h;exact⟨ne,e,t,j,by rw[A5 (dq d.1)];exact f,by rw[A5 (dq d.2)];exact g,i⟩
section
variable {K:qF}
def two_at'(x y r:Int)(h0:0<=r)(h1:r<2):∃m:Int,atI [V.int x,.int y] r=some (.int m)/\(m=x∨m=y):=by
 have:r=0∨r=1:=by omega
 rcases this with rfl|rfl
 .exact⟨x,rfl,.inl rfl⟩
 .exact⟨y,rfl,.inr rfl⟩
def b9N(h:k<n):ixN n (k:Int)=some k:=by
 unfold ixN;rw[av (by omega),av (by omega)];rfl
def a0t{src:qA (qJ)}{caps:L2.St}{f c:Nat}{te:TE}(R:Int->Prop)(s:n<=1000)(k:B2 src σ=none::caps)(o:PotAt H a b f)
  (m:∀(i:Nat) (H':Hp) (N:VK),i<n->PotAt H' a b (f+c*i)->(∀r d,R r->PotAt d a b (f+c*i+c)->Off [a,b] H' d->N (.int r) d)->te (some (.int i)::caps) H' N)
  (hd:∀H' p (xs:qI),xs.length=n->(∀x∈xs,R x)->PotAt H' a b (f+c*n)->Off [a,b] H H'->H' p=none->Q (.ref p) (upd H' p (.lst (xs.map V.int)))):E8 src (B0 0) O3 te σ Q (Itr 0 n) H:=by
 refine a1g s k (λi ys H'=>Ex1 λ(xs:qI)=>An5 (ys=xs.map V.int) (xs.length=i) ((∀x∈xs,R x)) (PotAt H' a b (f+c*i)) (Off [a,b] H H')) ⟨[],rfl,rfl,(λ_ z=>nomatch z),o,Off.refl _ _⟩ (λi ys H' h=>by obtain⟨xs,e,g,_⟩:=h;rw[e,ai,g];exact ak _) ?_ ?_
 .rintro i ys H' hi ⟨xs,rfl,g,hR,hP',off⟩;refine m i H' _ hi hP' λr d t j l=>⟨xs++[r],by simp,by simp[g],λx u=>?_,?_,off.trans l⟩
  .rcases aD.mp u with q|q
   .exact hR x q
   .rw[aG.mp q];exact t
  .have:f+c*(i+1)=f+c*i+c:=by rw[Nat.mul_add,Nat.mul_one,dX]
   rw[this];exact j
 .rintro ys H' ⟨xs,rfl,g,hR,hP',off⟩ p hp;exact hd H' p xs g hR hP' off hp
def a3j{l:qA qE}(s:Off l H H')(hp:H p=none):Off l H (upd H' p o):=λb u a e=>by
 rw[A5 (A9 e hp)];exact s b u a e
def a3i(o:Off [a,b] H H')(c:PotAt H' a b n)(hp:H' p=none):H p=none:=by
 rcases e:H p with _|u
 .rfl
 .have:=o _ _ (W2 c hp) e;rw[hp]at this;cases this
def a5E(h:Its H vs rss)(c:PotAt H a b n)(o:Off [a,b] H H'):Its H' vs rss:=⟨h.1,λi v e=>let ⟨r,e1,e2⟩:=h.2 i v e;⟨r,e1,IT.off e2 c o⟩⟩
end
def Bd(B:Int)(r:qI):Prop:=∀z∈r,-B<=z/\z<=B
section
variable {K:qF}
inductive IspNumber(vs:qA V)(H:Hp)(Q:VK)(E:XK):Prop
 |mk (a b:qE) (n:Nat) (far:Int) (_:vs=[.ref a,.int far]) (_:0<=far) (_:far<=1000000000000) (_:PotAt H a b n) (_:n+10<2 ^ 60) (_:∀r H',-(far+3)<=r->r<=far+3->PotAt H' a b (n+3)->Off [a,b] H H'->Q (.int r) H'):IspNumber  vs H Q E
def a6j:Sp:=λvs H Q E=>IspNumber  vs H Q E
def a2W:FnScope ["_law_pot_here","_law_far"] ["_law_pot_here","_law_far"] (A1 L3):={}
def b0r(F:FunAt K mg "_law_number" L3 ["_law_pot_here","_law_far"])(T:Tx mg)(c:Ok P w K mg base "_law_take" 1 ["_law_pot_here","_law_many"] a1x):Ok P w K mg base "_law_number" 2 ["_law_pot_here","_law_far"] a6j:=by
 refine F.okJ a2W (λy H Q E h=>?_) (λp f A m s H y Q E l h=>?_)
 .obtain⟨a,b,n,far,rfl,_⟩:=h;rfl
 .obtain⟨a,b,n,far,rfl,hf0,hf1,hP,hn,k⟩:=h;refine⟨_,(A2 (C7 (a1j (a0S (a9k (jv 1) A3) (W5 (X7 (A6 c (l.mono (by omega)) rfl (jaC (jv 0) (jaC A3 jaN))) A3))))
 (A4 (A8 (T0 (A6 c (l.mono (by omega)) rfl (jaC (jv 0) (jaC (M2 (X9 A3 (jv 1)) A3) jaN))) (jv 1))))
 B6)
 (A4 (A8 (T0 (A6 c (l.mono (by omega)) rfl (jaC (jv 0) (jaC A3 jaN))) A3)))),?_⟩
  refine⟨_,rfl,_,_,rfl,rfl,_,rfl,a0e (λe=>?_) (λe=>?_)⟩
  .have e':0<far:=bp e;refine⟨_,rfl,a,b,_,4,rfl,hP,by omega,by decide,by decide,λz H1 t u j i=>?_⟩;refine⟨rfl,_,rfl,a0e (λe=>?_) (λe=>⟨_,rfl,a,b,_,7,rfl,j,by omega,by decide,by decide,λr H2 q h1 g d=>⟨_,_,rfl,rfl,k _ _ (by show _<=r-3;omega) (by show r-3<=_;omega) (g.mono (by omega)) (i.trans d)⟩⟩)⟩;refine⟨_,rfl,_,rfl,_,_,rfl,rfl,.inl ⟨by omega,by omega⟩,_,_,rfl,rfl,a,b,_,_,rfl,j,by omega,by omega,by omega,λo H2 v x g d=>?_⟩;exact⟨_,rfl,_,_,rfl,rfl,k _ _ (by show _<=o-far;omega) (by show o-far<=_;omega) (g.mono (by omega)) (i.trans d)⟩
  .exact C9 (⟨_,rfl,a,b,_,7,rfl,hP,by omega,by decide,by decide,λr H2 q h1 g d=>⟨_,_,rfl,rfl,k _ _ (by show _<=r-3;omega) (by show r-3<=_;omega) (g.mono (by omega)) ((Off.refl _ _).trans d)⟩⟩)
inductive IspSys(vs:qA V)(H:Hp)(Q:VK)(E:XK):Prop
 |mk (a b:qE) (n:Nat) (wide far:Int) (_:vs=[.ref a,.int wide,.int far]) (_:1<=wide) (_:wide<=8) (_:0<=far) (_:far<=1000000000000) (_:PotAt H a b n) (_:n+1000<2 ^ 60) (_:∀q qr us rss (m:Nat) H',H' q=some (.tup [.ref qr,.int m])->H' qr=some (.tup us)->Its H' us rss->us.length<=6->(∀r∈rss,r.length=m/\Bd (far+3) r)->1<=m->m<=8->(m:Int)<=max 4 wide->PotAt H' a b (n+200)->Off [a,b] H H'->Q (.ref q) H'):IspSys  vs H Q E
def b6A:Sp:=λvs H Q E=>IspSys  vs H Q E
def sc__law_system:FnScope ["_law_pot_here","_law_wide","_law_far","_law_width","_law_many","_law_great","_law_rows","_law_k"] ["_law_pot_here","_law_wide","_law_far"] (A1 K9):={}
def b8e(F:FunAt K mg "_law_system" K9 ["_law_pot_here","_law_wide","_law_far"])(T:Tx mg)(d:Ok P w K mg base "_law_take" 1 ["_law_pot_here","_law_many"] a1x)(p:Ok P w K mg base "_law_number" 2 ["_law_pot_here","_law_far"] a6j):Ok P w K mg base "_law_system" 3 ["_law_pot_here","_law_wide","_law_far"] b6A:=by
 refine F.okJ sc__law_system (λvs H Q E h=>?_) (λf7 f A f5 s H vs Q E S h=>?_)
 .obtain⟨a,b,n,wide,far,rfl,_⟩:=h;rfl
 .obtain⟨a,b,n,wide,far,rfl,hw1,hw8,hf0,hf1,hP,hn,k⟩:=h;have hz:(3000:Nat)<=sizeLine:=by rw[aU];decide
  refine⟨_,(A2 (B1 (i:=3) sc__law_system.nd rfl (Or.inl rfl) (M2 A3 (A6 d (S.mono (by omega)) rfl (jaC (jv 0) (jaC A3 jaN)))))
 (A2 (C7 (X7 (A6 d (S.mono (by omega)) rfl (jaC (jv 0) (jaC A3 jaN))) A3)
 (A4 (B1 (i:=3) sc__law_system.nd rfl (Or.inl rfl) (M2 A3 (A6 d (S.mono (by omega)) rfl (jaC (jv 0) (jaC (jv 1) jaN))))))
 B6)
 (A2 (B1 (i:=4) sc__law_system.nd rfl (Or.inl rfl) (A6 d (S.mono (by omega)) rfl (jaC (jv 0) (jaC A3 jaN))))
 (A2 (C7 (X7 (A6 d (S.mono (by omega)) rfl (jaC (jv 0) (jaC A3 jaN))) A3)
 (A4 (B1 (i:=4) sc__law_system.nd rfl (Or.inl rfl) (A6 d (S.mono (by omega)) rfl (jaC (jv 0) (jaC A3 jaN)))))
 B6)
 (A2 (B1 (i:=5) sc__law_system.nd rfl (Or.inr rfl) (X9 (jv 2) (b3w rfl T.b_int (jaC (a4y (A6 d (S.mono (by omega)) rfl (jaC (jv 0) (jaC A3 jaN))) A3) jaN))))
 (A2 (B1 (i:=6) sc__law_system.nd rfl (Or.inl rfl) (Y0 jaN))
 (A2 (O7 (E4 rfl T.b_range (jaC (jv 4) jaN)) (A7 (i:=7) sc__law_system.nd rfl (Or.inl rfl))
 (A2 (W7 (a0x K (jv 6) (jaC (C2 K rfl T.b_tuple (jaC (B7 (N:=["_law_j","_law_pot_here","_law_great"]) (src:=[none,some 0,some 5]) (E4 rfl T.b_range (jaC (jv 3) jaN)) (by show B9 _ _=true;rfl) (by rfl) (by rfl)
 (λ_ _ _ _ _=>(A7 (i:=0) (L2.nd ["_law_j","_law_pot_here","_law_great"]) rfl (Or.inl rfl))) (λ_ _ _ _ _=>C1) (λ_ _ _ _ _=>(A6 p (S.mono (by omega)) rfl (jaC (jv 1) (jaC (jv 2) jaN))))) jaN)) jaN)))
 (A4 (C7 (a1j (a0S (a9k (jv 7) A3) (W5 (X7 (A6 d (S.mono (by omega)) rfl (jaC (jv 0) (jaC A3 jaN))) A3))))
 (A4 (a3x (T3 K (jv 6) (T0 (jv 7) A3)) (a7T (jv 6) (jv 7))))
 B6))))
 (A4 (A8 (E3 (jaC (C2 K rfl T.b_tuple (jaC (jv 6) jaN)) (jaC (jv 3) jaN)))))))))))),?_⟩
  refine⟨_,rfl,a,b,_,4,rfl,hP,by omega,by decide,by decide,λr1 H1 d5 d6 c9 Z=>?_⟩;refine⟨_,_,rfl,rfl,?_⟩;dsimp only[B0];refine Q6 (λσ H'=>Ex1 λ(m:Nat)=>An6 (σ=[some (.ref a),some (.int wide),some (.int far),some (.int m),none,none,none,none]) (1<=m) (m<=8) ((m:Int)<=max 4 wide) (PotAt H' a b (n+3)) (Off [a,b] H H')) ?fin λfin=>?_
  case fin =>
   rintro σ H3 ⟨m,rfl,e3,e4,e5,a6,G⟩;clear d5 d6 c9 Z hP;refine⟨_,rfl,a,b,_,3,rfl,a6,by omega,by decide,by decide,λr4 H4 d7 d8 d1 a2=>?_⟩;dsimp only[B0];refine Q6 (λσ H'=>Ex1 λ(N:Nat)=>An4 (σ=[some (.ref a),some (.int wide),some (.int far),some (.int m),some (.int N),none,none,none]) (N<=6) (PotAt H' a b (n+6)) (Off [a,b] H H')) ?fin2 λfin2=>?_
   case fin2 =>
    rintro σ H5 ⟨N,rfl,hN,X,I⟩;clear d7 d8 d1 a2 a6 G;refine⟨_,rfl,_,rfl,a,b,_,8,rfl,X,by omega,by decide,by decide,λr6 H6 _ _ R u=>?_⟩;refine⟨rfl,.inr ⟨_,rfl,?_⟩⟩;have u:=I.trans u;generalize decide (V.int r6=V.int 0)=cb;refine⟨_,_,rfl,rfl,.inr ⟨by cases cb<;>decide,by cases cb<;>decide⟩,?_⟩;obtain⟨g,hg,e2,g2⟩:∃g:Int,far*(if cb=true then 1 else 0)=g/\0<=g/\g<=far:=by
     cases cb
     .exact⟨0,by simp,by omega,by omega⟩
     .exact⟨far,by simp,by omega,by omega⟩
    dsimp only[B0];rw[hg];refine⟨bw _,λU c3=>?_⟩;have O:=W2 R c3;have c1:=a3i u R c3;have s7:=(Same.refl H6).upd (o:=.lst []) c3;have e7:upd H6 U (.lst []) U=some (.lst []):=A0;have c0:=R.same s7;have b5:=a3j (o:=.lst []) u c1;generalize upd H6 U (.lst [])=H7 at s7 e7 c0 b5;dsimp only[B0];refine⟨_,rfl,_,rfl,by omega,by omega,?_⟩;rw[bz];refine a4D (lo:=0) (n:=N) (λi σ H'=>Ex3 λo7 y rss=>An7 (σ=[some (.ref a),some (.int wide),some (.int far),some (.int m),some (.int N),some (.int g),some (.ref U),o7]) (PotAt H' a b (n+7+30*i)) (Off [a,b] H H') (H' U=some (.lst y)) (Its H' y rss) (y.length=i) (∀r∈rss,r.length=m/\Bd (far+3) r)) ⟨none,[],[],rfl,c0.mono (by omega),b5,e7,.nil,rfl,λ_ z=>nomatch z⟩ ?_ ?_
    .rintro i σ H8 hi ⟨o7,y,rss,rfl,hP8,off8,e8,hI8,hul,hR8⟩;obtain⟨nn,d2⟩:∃nn,nn=n+7+30*i:=⟨_,rfl⟩;rw[<-d2]at hP8;have hb:nn+100<2 ^ 60:=by omega
     have en:nn+30=n+7+30*(i+1):=by omega
     clear d2 X I R c0 hn;dsimp only[B0];refine⟨_,rfl,.inl ⟨rfl,_,SqL.of e8⟩,?_⟩;refine⟨_,rfl,_,rfl,by omega,by omega,?_⟩;rw[bz];refine a0t (caps:=[some (.ref a),some (.int g)]) (c:=3) (λz => -(far+3)<=z/\z<=far+3) (by omega) rfl hP8 (λi' H' N' g3 e0 q=>⟨_,rfl,_,rfl,a,b,_,g,rfl,e2,by omega,e0,by omega,λr d3 h0 h1 c8 f4=>q r d3 ⟨by omega,by omega⟩ c8 f4⟩) ?_;intro H9 pw xs f1 f3 e1 a3 e6;have e9:=a3 _ _ O e8;have d9:=a5E hI8 hP8 a3;have c4:=off8.trans a3;have J:=(Same.refl H9).upd (o:=.lst (xs.map V.int)) e6;have a8:upd H9 pw (.lst (xs.map V.int)) pw=some (.lst (xs.map V.int)):=A0;have c6:=J _ _ e9;have a9:=d9.same J;have b1:=e1.same J;have a0:=c4.trans (J.off (l:=[a,b]));generalize upd H9 pw (.lst (xs.map V.int))=b6 at J a8 c6 a9 b1 a0;refine⟨pw,_,rfl,.inl ⟨SqL.of a8,λq hq=>?_⟩⟩;have a4:=(Same.refl b6).upd (o:=.tup (xs.map V.int)) hq;have b8:=a4 _ _ c6;have a7:upd b6 q (.tup (xs.map V.int)) q=some (.tup (xs.map V.int)):=A0;have b2:=b1.same a4;have b0:=a9.same a4;have a1:=a0.trans (a4.off (l:=[a,b]));generalize upd b6 q (.tup (xs.map V.int))=b7 at a4 b8 a7 b2 b0 a1;refine⟨U,_,_,rfl,rfl,b8,by omega,?_⟩;have W:Its (upd b7 U (.lst (y++[.ref q]))) (y++[.ref q]) (rss++[xs]):=a0y (b0.snoc ⟨q,rfl,a7⟩) b8 (λ_ z=>by cases z);have b9:upd b7 U (.lst (y++[.ref q])) U=some (.lst (y++[.ref q])):=A0;have L:=a2D (o:=.lst (y++[.ref q])) b2 O;have B:=a3j (o:=.lst (y++[.ref q])) a1 c1;generalize upd b7 U (.lst (y++[.ref q]))=f6 at W b9 L B;have M:∀r∈rss++[xs],r.length=m/\Bd (far+3) r:=λr S=>by
      rcases aD.mp S with z|z
      .exact hR8 r z
      .rw[aG.mp z];exact⟨f1,f3⟩
     have Y:(y++[V.ref q]).length=i+1:=by simp[hul]
     refine⟨_,rfl,_,_,rfl,rfl,_,rfl,a0e (λe=>?_) (λe=>?_)⟩
     .have hi0:0<i:=by have:=bp e;omega
      refine⟨_,rfl,a,b,_,8,rfl,L,by omega,by decide,by decide,λg5 d4 _ _ b3 C=>?_⟩;have a5:=C _ _ O b9;have D:=a5E W L C;refine⟨rfl,_,rfl,a0e (λe=>?_) (λe=>?_)⟩
      .obtain⟨x,hx⟩:∃x,(y++[V.ref q])[i-1]?=some x:=⟨_,aj (by omega)⟩;obtain⟨r,S,g4,f2⟩:=D.mem hx;refine⟨_,rfl,_,rfl,_,_,rfl,rfl,U,_,_,x,rfl,rfl,SqL.of a5,?_,?_⟩
       .rw[show(0+(i:Int)-1)=((i-1:Nat):Int) by omega];exact a1r hx
       refine⟨_,rfl,_,rfl,U,_,_,i,rfl,rfl,a5,?_,?_⟩
       .rw[Int.zero_add];exact b9N (by omega)
       have c7:Its d4 ((y++[V.ref q]).set i x) ((rss++[xs]).set i r):=by
        refine⟨by rw[eV,eV,D.1],λj v ej=>?_⟩;rw[fE]at ej;by_cases c2:i=j
        .subst c2;rw[av rfl,av (by omega)]at ej;cases ej;exact⟨r,by rw[fE,av rfl,av (by rw[<-D.1];omega)],f2⟩
        .rw[ao c2]at ej;obtain⟨q,q1,q2⟩:=D.2 j v ej;exact⟨q,by rw[fE,ao c2];exact q1,q2⟩
       refine⟨_,_,_,rfl,en ▸ a2D (b3.mono (by omega)) O,a3j (B.trans C) c1,A0,a0y c7 a5 (λ_ z=>by cases z),by rw[eV];exact Y,λq hq=>?_⟩;rcases eY hq with z|z
       .exact M q z
       .rw[z];exact M r S
      .exact⟨_,_,_,rfl,en ▸ b3.mono (by omega),B.trans C,a5,D,Y,M⟩
     .exact⟨_,_,_,rfl,en ▸ L.mono (by omega),B,b9,W,Y,M⟩
    .rintro σ H8 ⟨o7,y,rss,rfl,hP8,off8,e8,hI8,hul,hR8⟩;refine⟨_,rfl,U,_,rfl,.inl ⟨SqL.of e8,λq hq=>?_⟩⟩;have s9:=(Same.refl H8).upd (o:=.tup y) hq;have e9:upd H8 q (.tup y) q=some (.tup y):=A0;generalize upd H8 q (.tup y)=H9 at s9 e9;refine⟨_,rfl,by show 2<=sizeLine;omega,λq2 f0=>?_⟩;have J:=(Same.refl H9).upd (o:=.tup [.ref q,.int m]) f0;have c5:=s9.trans J;exact k q2 q y rss m _ A0 (J _ _ e9) (hI8.same c5) (by omega) hR8 e3 e4 e5 ((hP8.same c5).mono (by omega)) (off8.trans c5.off)
   obtain⟨N4,rfl⟩:∃t:Nat,r4=t:=⟨r4.toNat,by omega⟩;refine⟨_,rfl,a,b,_,8,rfl,d1,by omega,by decide,by decide,λr5 H5 _ _ X I=>?_⟩;refine⟨rfl,_,rfl,a0e (λe=>?_) (λe=>fin2 _ _ ⟨N4,rfl,by omega,X.mono (by omega),(G.trans a2).trans I⟩)⟩;refine⟨_,rfl,a,b,_,7,rfl,X,by omega,by decide,by decide,λr6 H6 g0 g1 R u=>?_⟩;obtain⟨N6,rfl⟩:∃t:Nat,r6=t:=⟨r6.toNat,by omega⟩;exact fin2 _ _ ⟨N6,rfl,by omega,R.mono (by omega),((G.trans a2).trans I).trans u⟩
  obtain⟨t1,rfl⟩:∃t:Nat,r1=t:=⟨r1.toNat,by omega⟩;refine⟨_,rfl,a,b,_,8,rfl,c9,by omega,by decide,by decide,λr2 H2 _ _ d0 b4=>?_⟩;refine⟨rfl,_,rfl,a0e (λe=>?_) (λe=>fin _ _ ⟨t1+1,?_,by omega,by omega,by omega,d0.mono (by omega),Z.trans b4⟩)⟩
  .refine⟨_,rfl,_,rfl,a,b,_,_,rfl,d0,by omega,by omega,by omega,λr3 H3 f8 f9 a6 G=>?_⟩;obtain⟨t3,rfl⟩:∃t:Nat,r3=t:=⟨r3.toNat,by omega⟩;refine⟨_,_,rfl,rfl,fin _ _ ⟨t3+1,?_,by omega,by omega,by omega,a6.mono (by omega),(Z.trans b4).trans G⟩⟩;rw[show((t3+1:Nat):Int)=1+(t3:Int) by omega];rfl
  .rw[show((t1+1:Nat):Int)=1+(t1:Int) by omega];rfl
def b0K(n:Nat)(v:V):(List.replicate n [v]).flatten=List.replicate n v:=by
 induction n with
 |zero=>rfl
 |succ n a=>rw[cj,cY,a,cj];rfl
inductive IspFree(vs:qA V)(H:Hp)(Q:VK)(E:XK):Prop
 |mk (n:Int) (_:vs=[.int n]) (_:1<=n) (_:n<=1000) (_:∀p H',Same H H'->H' p=some (.tup ((List.replicate n.toNat (none:qD Int)).map cV))->Q (.ref p) H'):IspFree  vs H Q E
def a7v:Sp:=λvs H Q E=>IspFree  vs H Q E
def b4N:FnScope ["width"] ["width"] (A1 a5u):={}
def b5H(F:FunAt K mg "free" a5u ["width"]):Ok P w K mg base "free" 1 ["width"] a7v:=by
 refine F.okJ b4N (λd H Q E h=>?_) (λb f A a s H d Q E g h=>?_)
 .obtain⟨n,rfl,_⟩:=h;rfl
 .obtain⟨n,rfl,h1,h2,k⟩:=h;refine⟨_,(A4 (A8 (a7V (E3 (jaC X8 jaN)) (jv 0)))),?_⟩;have i:(1000:Nat)<=sizeLine:=by rw[aU];decide
  refine⟨by show 1<=sizeLine;omega,λp c=>⟨_,rfl,p,[.non],n,rfl,rfl,A0,by simp,h1,?_,λq H' s e=>?_⟩⟩
  .show(1:Int)*n<=_;omega
  .rw[b0K]at e;exact k _ _ (((Same.refl H).upd c).trans s) (by rw[e,List.map_replicate];rfl)
end
end K28
namespace K28
open PySem PySem.Spec PyProof.Rows L2
variable {H:Hp}{P:qG}{a:qE}{base:Heap}{cs:qA (qD Int)}{k n:Nat}{mg:Str->qD qB}{rss tss:LLI}{ss u v x:qI}{t:Int}{w:World}{α:Type}
def b3Y:∀(r v:qI) (a b:Int),r.length=v.length->dot (r++[a]) (v++[b])=dot r v+a*b
 |[],[],a,b,_=>by simp[dot]
 |x::r,y::v,a,b,h=>by
  rw[dS,dS,E1,E1,b3Y r v a b (by simpa using h)];omega
def a2F(h:v.length=n+1):∃u t,v=u++[t]/\u.length=n:=by
 refine⟨v.take n,v.getD n 0,?_,by rw[aN];omega⟩;refine el λj=>?_;rw[dn,aN,dj (by omega)];split
 .rw[List.getElem?_take,av (by assumption)]
 .by_cases e:j=n
  .subst e;rw[fX,aq,aj (by omega)];rfl
  .rw[cg (by omega),cg (by simp;omega)]
def J1(xs:qI)(z:Int)(k:Nat):(xs++[z]).getD k 0=if k<xs.length then xs.getD k 0 else if k=xs.length then z else 0:=by
 rw[aq,dn];split
 .rw[aq]
 .split
  .rename_i e;rw[e,fX];rfl
  .rw[cg (by simp;omega)];rfl
def V6{a b:Int}(c:u.length=v.length):Under (u++[a]) (v++[b])↔Under u v/\a<=b:=by
 constructor
 .rintro⟨h1,h2⟩;refine⟨⟨c,λj d=>?_⟩,?_⟩
  .have:=h2 j (by simp;omega);rwa[J1,J1,av (by omega),av d]at this
  .have:=h2 v.length (by simp);rwa[J1,J1,ao (by omega),av c.symm,ao (by omega),av rfl]at this
 .rintro⟨h1,h2⟩;refine⟨by simp[c],λj d=>?_⟩;rw[J1,J1,c];split
  .exact h1.2 j (by assumption)
  .split
   .exact h2
   .exact dh _
def a3T(x a:qI):qI:=List.zipWith (λp q=>p-q) x a
def a2N{a:qI}(h:a.length=x.length):(a3T x a).length=x.length:=by unfold a3T;rw[cN,h,fS]
def a8A{a:qI}(h:a.length=x.length){j:Nat}(b:j<x.length):(a3T x a).getD j 0=x.getD j 0-a.getD j 0:=by
 unfold a3T;rw[aq,List.getElem?_zipWith,aq,aq,aj b,aj (by omega)];rfl
def a7a:∀(r x a:qI),a.length=x.length->dot r (a3T x a)=dot r x-dot r a
 |[],_,_,_=>rfl
 |p::r,[],[],_=>rfl
 |p::r,y::x,b::a,h=>by
  show dot (p::r) ((y-b)::a3T x a)=_;rw[E1,E1,E1,a7a r x a (by simpa using h),Int.mul_sub];omega
def a6e:∀(x a:qI),a.length=x.length->(a3T x a).sum=x.sum-a.sum
 |[],[],_=>rfl
 |y::x,b::a,h=>by
  show((y-b)::a3T x a).sum=_;rw[bC,bC,bC,a6e x a (by simpa using h)];omega
def a7O(h:∀j,j<v.length->0<=v.getD j 0):∀x∈v,0<=x:=λx b=>by
 obtain⟨j,a,rfl⟩:=bR.mp b;have:=h j a;rwa[aq,aj a]at this
def sdC(n:Nat):qA (qD Int):=List.replicate n none++[some 1]
def C0(n:Nat):(sdC n).length=n+1:=by simp[sdC]
def b2a(b:v.length=n)(c:t<=1):Wi (sdC n) (v++[t])=true:=by
 rw[Y9 (by rw[C0];simp[b])];intro j a;rw[C0]at a;unfold sdC;rw[aq,dn,bt];split
 .rw[dW,av (by assumption)];rfl
 .rw[show j-n=0 by omega,J1,ao (by omega),av (by omega)];exact bj c
def b2b(a:v.length=n)(h:Wi (sdC n) (v++[t])=true):t<=1:=by
 have:=(Y9 (by rw[C0];simp[a])).mp h n (by rw[C0];omega);rw[J1,ao (by omega),av a.symm]at this;unfold sdC at this;rw[aq,dn,bt,ao (by omega),fX]at this;exact bp this
def O4(v:qI)(t:Int):(v++[t]).sum=v.sum+t:=by
 rw[List.sum_append];simp
def sdS(rss:LLI)(ss:qI):LLI:=List.zipWith (λr s=>r++[-s]) rss ss
def a8S(h:ss.length=rss.length):(sdS rss ss).length=rss.length:=by unfold sdS;rw[cN,h,fS]
def a5k(h:x∈sdS rss ss):∃r s,r∈rss/\s∈ss/\x=r++[-s]:=by
 obtain⟨i,hi,rfl⟩:=bR.mp h;unfold sdS at hi⊢;rw[cN]at hi;rw[fY];exact⟨_,_,cB (by omega),cB (by omega),rfl⟩
def M5:∀{rss:LLI}{ss:qI}{v:qI}{t:Int},ss.length=rss.length->(∀r∈rss,r.length=v.length)->(Ans (sdS rss ss) (v++[t])=true↔(rss.map λr=>dot r v)=ss.map λs=>s*t)
 |[],[],v,t,_,_=>by simp[Ans,sdS]
 |[],_::_,_,_,h,_=>nomatch h
 |_::_,[],_,_,h,_=>nomatch h
 |r::rss,s::ss,v,t,h,hR=>by
  have b:=M5 (rss:=rss) (ss:=ss) (v:=v) (t:=t) (by simpa using h) λq a=>hR q (au _ a);have e:Ans (sdS (r::rss) (s::ss)) (v++[t])=(decide (dot (r++[-s]) (v++[t])=0) && Ans (sdS rss ss) (v++[t])):=rfl;rw[e,aO,b,aV,aV,List.cons.injEq,bD,b3Y r v _ _ (hR r ax),Int.neg_mul];constructor
  .exact λ⟨h1,h2⟩=>⟨by omega,h2⟩
  .exact λ⟨h1,h2⟩=>⟨by omega,h2⟩
def AnS(n:Nat)(rss:LLI)(ss:qI)(v:qI):Prop:=v.length=n/\(∀x∈v,0<=x)/\(rss.map λr=>dot r v)=ss
def a9M(a:u.length=x.length)(h0:(rss.map λr=>dot r u)=ss.map λ_=>(0:Int))(h:(rss.map λr=>dot r x)=ss):(rss.map λr=>dot r (a3T x u))=ss:=by
 rw[<-h];refine List.map_congr_left λr c=>?_;have e:dot r u=0:=by
  obtain⟨i,hi,rfl⟩:=bR.mp c;have b:ss.length=rss.length:=by rw[<-h,ai]
  have:=aP (λl:qI=>l[i]?) h0;simp only[aX,aj hi,Option.map_some,aj (show i<ss.length by omega)]at this;exact bB this
 rw[a7a r x u a,e];omega
def b6k(hs:ss.length=rss.length)(hR:∀r∈rss,r.length=n):Least (sdS rss ss) (sdC n) (u++[1])↔AnS n rss ss u/\∀v,AnS n rss ss v->Under v u->v=u:=by
 have c:ss.map (λs=>s*1)=ss:=by simp
 have z:ss.map (λs=>s*0)=ss.map λ_=>(0:Int):=by simp
 constructor
 .intro h;have g:u.length=n:=by have:=h.an.len;rw[C0]at this;simpa using this
  have B:∀x∈u,0<=x:=λx i=>h.an.nn x (aQ _ i);have b:AnS n rss ss u:=⟨g,B,by rw[<-c];exact(M5 hs λr f=>by rw[hR r f,g]).mp h.an.ans⟩;refine⟨b,λv k y=>?_⟩;have G:=a4X _ k.2.1;have:=h.min (v++[1]) ⟨by rw[C0];simp[k.1],λx i=>by
   rcases aD.mp i with q|q
   .exact k.2.1 x q
   .rw[aG.mp q];decide,(M5 hs λr f=>by rw[hR r f,k.1]).mpr (by rw[c];exact k.2.2),by rw[O4];omega⟩ ((V6 (by rw[k.1,g])).mpr ⟨y,dh _⟩)
  exact dV this
 .rintro⟨b,hmin⟩;have F:=a4X _ b.2.1;have A:Answer (sdS rss ss) (sdC n).length (u++[1]):=⟨by rw[C0];simp[b.1],λx i=>by
   rcases aD.mp i with q|q
   .exact b.2.1 x q
   .rw[aG.mp q];decide,(M5 hs λr f=>by rw[hR r f,b.1]).mpr (by rw[c];exact b.2.2),by rw[O4];omega⟩
  refine⟨A,b2a b.1 (dh _),λw hw y=>?_⟩;obtain⟨v,t,rfl,d⟩:=a2F (n:=n) (by rw[hw.len,C0]);have l:=(V6 (by rw[d,b.1])).mp y;have p:∀x∈v,0<=x:=λx i=>hw.nn x (aQ _ i);have E:0<=t:=hw.nn t (aR _ (ft _));have hd:=(M5 hs λr f=>by rw[hR r f,d]).mp hw.ans;by_cases e:t=1
  .subst e;rw[c]at hd;rw[hmin v ⟨d,p,hd⟩ l.1]
  .exfalso;have C:t=0:=by omega
   subst C;rw[z]at hd;have o:=hw.pos;rw[O4]at o;have a:v.length=u.length:=by rw[d,b.1]
   have h2:=hmin (a3T u v) ⟨by rw[a2N a,b.1],a7O λj m=>by
    rw[a2N a]at m;rw[a8A a m];have:=l.1.2 j m;omega,a9M a hd b.2.2⟩ ⟨by rw[a2N a],λj m=>by
    rw[a8A a m];have:=b6Q p j;omega⟩
   have D:=a6e u v a;rw[h2]at D;omega
def a8m(hs:ss.length=rss.length)(hR:∀r∈rss,r.length=n):Least (sdS rss ss) (sdC n) (u++[0])↔(AnS n rss (ss.map λ_=>0) u/\0<u.sum)/\∀v,AnS n rss (ss.map λ_=>0) v->0<v.sum->Under v u->v=u:=by
 have b:ss.map (λs=>s*0)=ss.map λ_=>(0:Int):=by simp
 constructor
 .intro h;have d:u.length=n:=by have:=h.an.len;rw[C0]at this;simpa using this
  have k:∀x∈u,0<=x:=λx f=>h.an.nn x (aQ _ f);have a:=h.an.pos;rw[O4]at a;refine⟨⟨⟨d,k,by rw[<-b];exact(M5 hs λr c=>by rw[hR r c,d]).mp h.an.ans⟩,by omega⟩,λv g p i=>?_⟩;have:=h.min (v++[0]) ⟨by rw[C0];simp[g.1],λx f=>by
   rcases aD.mp f with q|q
   .exact g.2.1 x q
   .rw[aG.mp q];decide,(M5 hs λr c=>by rw[hR r c,g.1]).mpr (by rw[b];exact g.2.2),by rw[O4];omega⟩ ((V6 (by rw[g.1,d])).mpr ⟨i,dh _⟩)
  exact dV this
 .rintro⟨⟨hA,hus⟩,hmin⟩;refine⟨⟨by rw[C0];simp[hA.1],λx f=>by
   rcases aD.mp f with q|q
   .exact hA.2.1 x q
   .rw[aG.mp q];decide,(M5 hs λr c=>by rw[hR r c,hA.1]).mpr (by rw[b];exact hA.2.2),by rw[O4];omega⟩,b2a hA.1 (by decide),λw hw i=>?_⟩
  obtain⟨v,t,rfl,e⟩:=a2F (n:=n) (by rw[hw.len,C0]);have j:=(V6 (by rw[e,hA.1])).mp i;have l:∀x∈v,0<=x:=λx f=>hw.nn x (aQ _ f);have o:0<=t:=hw.nn t (aR _ (ft _));have m:t=0:=by omega
  subst m;have hd:=(M5 hs λr c=>by rw[hR r c,e]).mp hw.ans;rw[b]at hd;have a:=hw.pos;rw[O4]at a;rw[hmin v ⟨e,l,hd⟩ (by omega) j.1]
section
variable {K:qF}
def b6o{xs:qA V}{v:V}(h:xs[xs.length-1]?=some v):atI xs (-1)=some v:=by
 have a:0<xs.length:=by
  have:=(aL.mp h).1;omega
 unfold atI ixN;rw[ao (by decide),av (by omega),Option.bind_some,show((-1:Int)+(xs.length:Int)).toNat=xs.length-1 by omega];exact h
def b4b(ys:qI)(h:0<ys.length):K5 (ys.map V.int) none (some (-1))=ys.dropLast.map V.int:=by
 unfold K5;have e:HT.sIx (ys.map V.int).length (ys.map V.int).length (some (-1))=ys.length-1:=by
  rw[ai];show(if (-1:Int)<0 then((-1:Int)+(ys.length:Int)).toNat else min (-1:Int).toNat ys.length)=_;rw[av (by decide)];omega
 rw[e,HT.sIx_none,cX,Nat.sub_zero,<-List.map_take,List.dropLast_eq_take]
structure Ry(H:Hp)(ra:qE)(us:qA V)(rss:LLI)(n:Nat)(B:Int):Prop where
 e:H ra=some (.tup us)
 I:Its H us rss
 l:us.length<=6
 R:∀r∈rss,r.length=n/\Bd B r
def Ry.same{H H':Hp}{ra:qE}{us:qA V}{rss:LLI}{n:Nat}{B:Int}(h:Ry H ra us rss n B)(s:Same H H'):Ry H' ra us rss n B:=⟨s _ _ h.e,h.I.same s,h.l,h.R⟩
def Vn(n:Nat)(B:Int)(tss:LLI):Prop:=∀v∈tss,v.length=n/\∀x∈v,0<=x/\x<=B
def b1w{F W:LLI}{most:Nat}(h:Wk rss cs F W [] k)(e:W.length<=most):Vn cs.length (most+1) F:=λv b=>by
 obtain⟨f,c,d,g,j,l,m,n⟩:=h.lv;obtain⟨i,q1,o,lv⟩:=c v (d v b).1;refine⟨lv.len,λx a=>⟨lv.nn x a,?_⟩⟩;have:=b3f lv.nn x a;rw[lv.sum]at this;omega
def b9V{caps:L2.St}{u v:V}:Sub (none::none::caps) (some u::some v::caps):=⟨rfl,λj x e=>by
 match j,e with
 |0,e=>cases e
 |1,e=>cases e
 |j+2,e=>exact e⟩
inductive IspSided(vs:qA V)(H:Hp)(Q:VK)(E:XK):Prop
 |mk (ra sa:qE) (us:qA V) (rss:LLI) (ss:qI) (_:vs=[.ref ra,.ref sa]) (_:H ra=some (.tup us)) (_:Its H us rss) (_:us.length<=1000) (_:(∀r∈rss,r.length<=1000)) (_:ss.length=rss.length) (_:H sa=some (.tup (ss.map V.int))) (_:∀q zs H',Same H H'->H' q=some (.tup zs)->Its H' zs (sdS rss ss)->Q (.ref q) H'):IspSided  vs H Q E
def a5e:Sp:=λvs H Q E=>IspSided  vs H Q E
def b2c:FnScope ["rows","sides"] ["rows","sides"] (A1 a2x):={}
def b2U(F:FunAt K mg "sided" a2x ["rows","sides"])(T:Tx mg):Ok P w K mg base "sided" 1 ["rows","sides"] a5e:=by
 refine F.okJ b2c (λD H Q E h=>?_) (λt f A m s H D Q E I h=>?_)
 .obtain⟨ra,sa,us,rss,x0,rfl,_⟩:=h;rfl
 .obtain⟨ra,sa,us,rss,ss,rfl,hra,hI,hul,hrl,hsl,hsa,kk⟩:=h;have J:(3000:Nat)<=sizeLine:=by rw[aU];decide
  refine⟨_,(A4 (A8 (C2 K rfl T.b_tuple (jaC (B7 (N:=["row","side"]) (src:=[none,none]) (a1I K rfl T.b_zip (jaC (jv 0) (jaC (jv 1) jaN))) (by show B9 _ _=true;rfl) (by rfl) (by rfl)
 (λ_ _ _ _ _=>(O8 K 2 (B5 (A7 (i:=0) (L2.nd ["row","side"]) rfl (Or.inl rfl)) (B5 (A7 (i:=1) (L2.nd ["row","side"]) rfl (Or.inl rfl)) K2)))) (λ_ _ _ _ _=>C1) (λ_ _ _ _ _=>(N7 (jv 0) (E3 (jaC (a4A (jv 1)) jaN))))) jaN)))),?_⟩
  refine⟨_,rfl,_,rfl,true,true,ra,sa,rfl,⟨_,SqT.of hra⟩,⟨_,SqT.of hsa⟩,?_⟩;refine V1 (xs:=us) (zs:=ss.map V.int) (by omega) (λi ys H'=>Same H H'/\Its H' ys (sdS (rss.take i) (ss.take i))) ⟨Same.refl H,Its.nil⟩ (λi ys H' _ _ h=>⟨SqT.of (h.1 _ _ hra),SqT.of (h.1 _ _ hsa),by rw[h.2.1];unfold sdS;rw[cN,aN];omega⟩) ?_ ?_
  .rintro i x z ys H1 p hx hz' ⟨s1,hy⟩ hp;obtain⟨r,j,a,d,rfl,l⟩:=hI.mem hx;obtain⟨sz,k,rfl⟩:=L6 hz';have n:=hrl r j;have s2:=(Same.refl H1).upd (o:=.tup [.ref d,.int sz]) hp;refine⟨p,[.ref d,.int sz],rfl,SqT.of A0,rfl,.ref d,[.int sz],rfl,.int sz,[],rfl,rfl,?_⟩;generalize upd H1 p (.tup [.ref d,.int sz])=H2 at s2;refine⟨b9V,?_⟩;refine⟨_,rfl,_,rfl,_,rfl,by show 1<=sizeLine;omega,λy g=>?_⟩;have c:=s2.upd (o:=.tup [.int (-sz)]) g;refine⟨d,y,_,_,rfl,rfl,(s1.trans c) _ _ l,A0,by rw[ai];show _+1<=_;omega,λB G C u=>?_⟩;have b:=c.trans C;refine⟨s1.trans b,?_⟩;have e:sdS (rss.take (i+1)) (ss.take (i+1))=sdS (rss.take i) (ss.take i)++[r++[-sz]]:=by
    have h1:=(aL.mp a).1;unfold sdS;rw[ba,ba,a,k,List.zipWith_append (by rw[aN,aN];omega)];rfl
   rw[e];exact(hy.same b).snoc ⟨B,rfl,by rw[u,bF];rfl⟩
  .rintro ys H1 ⟨s1,hy⟩ p hp;rw[ai,hI.1,hsl,fS,bg,<-hsl,bg]at hy;have s2:=s1.upd (o:=.lst ys) hp;refine⟨p,ys,rfl,.inl ⟨SqL.of A0,λq v=>?_⟩⟩;have c:=((Same.refl H1).upd (o:=.lst ys) hp).upd (o:=.tup ys) v;exact kk q ys _ (s1.trans c) A0 (hy.same c)
inductive IspSidedCaps(vs:qA V)(H:Hp)(Q:VK)(E:XK):Prop
 |mk (n:Nat) (wi:Int) (_:vs=[.int wi]) (_:wi=n) (_:1<=n) (_:n<=100) (_:∀q H',Same H H'->H' q=some (.tup ((sdC n).map cV))->Q (.ref q) H'):IspSidedCaps  vs H Q E
def Z2:Sp:=λvs H Q E=>IspSidedCaps  vs H Q E
def a3W:FnScope ["width"] ["width"] (A1 M6):={}
def a3Y(F:FunAt K mg "sided_caps" M6 ["width"])(T:Tx mg)(a:Ok P w K mg base "free" 1 ["width"] a7v):Ok P w K mg base "sided_caps" 2 ["width"] Z2:=by
 refine F.okJ a3W (λm H Q E h=>?_) (λg f A c s H m Q E j h=>?_)
 .obtain⟨n,wi,rfl,_⟩:=h;rfl
 .obtain⟨n,_,rfl,rfl,h1,h2,kk⟩:=h;have q:(3000:Nat)<=sizeLine:=by rw[aU];decide
  refine⟨_,(A4 (A8 (N7 (A6 a (j.mono (by omega)) rfl (jaC (jv 0) jaN)) (E3 (jaC A3 jaN))))),?_⟩;refine⟨_,rfl,_,rfl,by omega,by omega,λp H1 s1 d=>?_⟩;rw[bz]at d;refine⟨by show 1<=sizeLine;omega,λp2 b=>?_⟩;have s2:=(Same.refl H1).upd (o:=.tup [.int 1]) b;refine⟨p,p2,_,_,rfl,rfl,s2 _ _ d,A0,by rw[ai,bt];show _+1<=_;omega,λk e l i=>?_⟩;exact kk k e ((s1.trans s2).trans l) (by rw[i];unfold sdC;rw[bF];rfl)
def G9(t:Int)(tss:LLI):LLI:=(tss.filter λv=>decide (v.getLast?=some t)).map List.dropLast
def mem_endL:v∈G9 t tss↔v++[t]∈tss:=by
 unfold G9;rw[aT];constructor
 .rintro⟨u,hu,rfl⟩;obtain⟨h1,h2⟩:=aW.mp hu;have h2:=bp h2;obtain⟨ys,rfl⟩:=dO.mp h2;rwa[fZ]
 .intro h;exact⟨v++[t],aW.mpr ⟨h,by simp⟩,by simp⟩
inductive IspEnding(vs:qA V)(H:Hp)(Q:VK)(E:XK):Prop
 |mk (p:qE) (us:qA V) (tss:LLI) (n:Nat) (t:Int) (_:vs=[.ref p,.int t]) (_:H p=some (.tup us)) (_:Its H us tss) (_:us.length<=1000) (_:n<=1000) (_:(∀v∈tss,v.length=n+1)) (_:∀q zs H',Same H H'->H' q=some (.tup zs)->Its H' zs (G9 t tss)->Q (.ref q) H'):IspEnding  vs H Q E
def a6l:Sp:=λvs H Q E=>IspEnding  vs H Q E
def b0b:FnScope ["some","last"] ["some","last"] (A1 a1e):={}
def b0u(F:FunAt K mg "ending" a1e ["some","last"])(T:Tx mg):Ok P w K mg base "ending" 1 ["some","last"] a6l:=by
 refine F.okJ b0b (λD H Q E h=>?_) (λy f A m s H D Q E G h=>?_)
 .obtain⟨p,us,tss,n,t,rfl,_⟩:=h;rfl
 .obtain⟨p,us,tss,n,t,rfl,hp,hI,hul,hn,hl,kk⟩:=h;have J:(3000:Nat)<=sizeLine:=by rw[aU];decide
  refine⟨_,(A4 (A8 (C2 K rfl T.b_tuple (jaC (B7 (N:=["one","last"]) (src:=[none,some 1]) (G7 K (jv 0)) (by show B9 _ _=true;rfl) (by rfl) (by rfl)
 (λ_ _ _ _ _=>(A7 (i:=0) (L2.nd ["one","last"]) rfl (Or.inl rfl))) (λ_ _ _ _ _=>(a1J (X7 (G1 K (jv 0) (a4A A3)) (jv 1)))) (λ_ _ _ _ _=>(b3A K (jv 0) S9 (S7 (a4A A3))))) jaN)))),?_⟩
  refine⟨_,rfl,p,rfl,⟨_,SqT.of hp⟩,?_⟩;refine P8 (xs:=us) (by omega) (λi ys H'=>Same H H'/\Its H' ys (G9 t (tss.take i))/\ys.length<=i) ⟨Same.refl H,Its.nil,ak _⟩ (λi ys H' _ h=>⟨SqT.of (h.1 _ _ hp),h.2.2⟩) ?_ ?_
  .rintro i x ys H1 hx ⟨s1,hy,hyl⟩;obtain⟨r,g,j,v,rfl,l⟩:=hI.mem hx;have k:=hl r g;obtain⟨u,z,rfl,I⟩:=a2F (n:=n) k;have a:=s1 _ _ l;have c:atI ((u++[z]).map V.int) (-1)=some (.int z):=b6o (by rw[ai,ar,bF,a' (by simp)];simp);have e:G9 t (tss.take (i+1))=G9 t (tss.take i)++(if z=t then[u] else[]):=by
    unfold G9;rw[ba,j,List.filter_append,bF];congr 1;by_cases e:z=t
    .rw[av e];simp[e]
    .rw[ao e];simp[e]
   rw[e];refine⟨Sub.one,?_⟩;refine⟨_,rfl,_,rfl,v,_,_,_,rfl,rfl,SqT.of a,c,_,rfl,rfl,_,rfl,a0e (λe=>?_) (λe=>?_)⟩
   .have e':z=t:=by simpa using e
    rw[av e'];refine⟨_,rfl,_,rfl,_,rfl,v,_,rfl,SqT.of a,?_,λC d=>?_⟩
    .rw[show HT.sIx ((u++[z]).map V.int).length ((u++[z]).map V.int).length (some (-1))=u.length by
      rw[ai,ar];show(if (-1:Int)<0 then((-1:Int)+((u.length+1:Nat):Int)).toNat else min (-1:Int).toNat (u.length+1))=_;rw[av (by decide)];omega]
     rw[ai,ar];show ¬(_/\u.length=u.length+1);omega
    rw[b4b _ (by simp),fZ];have b:=(Same.refl H1).upd (o:=.tup (u.map V.int)) d;exact⟨s1.trans b,(hy.same b).snoc ⟨C,rfl,A0⟩,by simp;omega⟩
   .have e':¬z=t:=by simpa using e
    rw[ao e',cp];exact⟨s1,hy,by omega⟩
  .rintro ys H1 ⟨s1,hy,_⟩ p1 hp1;rw[hI.1,bg]at hy;refine⟨p1,ys,rfl,.inl ⟨SqL.of A0,λq B=>?_⟩⟩;have b:=((Same.refl H1).upd (o:=.lst ys) hp1).upd (o:=.tup ys) B;exact kk q ys _ (s1.trans b) A0 (hy.same b)
inductive IspBeyond(D:qE)(vs:qA V)(H:Hp)(Q:VK)(E:XK):Prop
 |mk (ra sa:qE) (us:qA V) (rss:LLI) (n most:Nat) (ss:qI) (wi mi B:Int) (_:vs=[.ref ra,.ref sa,.int wi,.int mi]) (_:wi=n) (_:mi=most) (_:Ry H ra us rss n B) (_:0<=B) (_:B<=10000000000000) (_:1<=n) (_:n<=8) (_:most<=900) (_:ss.length=rss.length) (_:Bd 10000000000000 ss) (_:H sa=some (.tup (ss.map V.int))) (_:(∀(q t b pp:qE) (zs ys ws:qA V) (wss Fl W:LLI) (k:Nat) (H':Hp),Same H H'->H' q=some (.tup [.ref t,.ref b,.ref pp])->H' t=some (.tup zs)->Its H' zs (G9 1 wss)->H' b=some (.tup ys)->Its H' ys (G9 0 wss)->H' pp=some (.tup ws)->Its H' ws W->Wk (sdS rss ss) (sdC n) Fl W [] k->W.length<=most->wss.Perm Fl->wss.length<=most->C8 wss->wss.Nodup->Vn (n+1) (most+1) wss->(∀v,v∈wss↔Least (sdS rss ss) (sdC n) v)->Q (.ref q) H')) (_:∀H',Same H H'->b6s (sdS rss ss) (sdC n) most->E (.ref D) none H'):IspBeyond D vs H Q E
def a6m(D:qE):Sp:=λvs H Q E=>IspBeyond D vs H Q E
def sc_beyond:FnScope ["rows","sides","width","most","walk"] ["rows","sides","width","most"] (A1 a1f):={}
def b0v(F':FunAt K mg "beyond" a1f ["rows","sides","width","most"])(T:Tx mg)(g:Ok P w K mg base "sided" 1 ["rows","sides"] a5e)(b:Ok P w K mg base "sided_caps" 2 ["width"] Z2)(c:Ok P w K mg base "ending" 1 ["some","last"] a6l)(d:OkE P w K mg base "least" 7 ["rows","caps","most"] (a5g a)):OkE P w K mg base "beyond" 8 ["rows","sides","width","most"] (a6m a):=by
 refine F'.okE sc_beyond (λvs H Q E h=>?_) (λa6 f A a3 s H vs Q E G h=>?_)
 .obtain⟨ra,sa,us,rss,n,most,x0,wi,mi,B,rfl,_⟩:=h;rfl
 .obtain⟨ra,sa,us,rss,n,most,ss,_,_,B,rfl,rfl,rfl,hR,hB0,hB1,n1,n8,hmo,hsl,hsb,hsa,kq,ke⟩:=h;have hz:(3000:Nat)<=sizeLine:=by rw[aU];decide
  refine⟨_,(A2 (B1 (i:=4) sc_beyond.nd rfl (Or.inl rfl) (b5W d (G.mono (by omega)) rfl (jaC (A6 g (G.mono (by omega)) rfl (jaC (jv 0) (jaC (jv 1) jaN))) (jaC (A6 b (G.mono (by omega)) rfl (jaC (jv 2) jaN)) (jaC (jv 3) jaN)))))
 (A4 (A8 (E3 (jaC (A6 c (G.mono (by omega)) rfl (jaC (G1 K (jv 4) A3) (jaC A3 jaN))) (jaC (A6 c (G.mono (by omega)) rfl (jaC (G1 K (jv 4) A3) (jaC A3 jaN))) (jaC (G1 K (jv 4) A3) jaN))))))),?_⟩
  refine⟨_,rfl,_,rfl,ra,sa,us,rss,ss,rfl,hR.e,hR.I,by have:=hR.l;omega,λr l=>by rw[(hR.R r l).1];omega,hsl,hsa,λq1 z1 H1 s1 e1 D=>?_⟩;refine⟨_,rfl,n,_,rfl,rfl,n1,by omega,λc2 H2 s2 e2=>?_⟩;have J:=s1.trans s2;have Y:SyAt H2 q1 c2 (sdS rss ss) (sdC n):=⟨⟨z1,s2 _ _ e1,D.same s2,by rw[D.1,a8S hsl,<-hR.I.1];have:=hR.l;omega⟩,e2,by rw[C0];omega,by rw[C0];omega,λr l=>by
   obtain⟨x,sz,hx,a1,rfl⟩:=a5k l;refine⟨by rw[ar,(hR.R x hx).1,C0];rfl,λz hz=>?_⟩;rcases aD.mp hz with q|q
   .have:=(hR.R x hx).2 z q;omega
   .rw[aG.mp q];have:=hsb sz a1;omega⟩
  have a5:(most+1)*(n+1)<=901*9:=Nat.mul_le_mul (by omega) (by omega);refine⟨_,rfl,q1,c2,sdS rss ss,sdC n,most,_,rfl,rfl,Y,by rw[C0];omega,λq t pp zs e ws Fl W k H3 s3 Z ht m j a0 X R F p=>?_,λH3 s3 U=>ke H3 (J.trans s3) U⟩;have a4:=J.trans s3;have hV:=b1w F p;rw[C0]at hV;have u:Vn (n+1) (most+1) e:=λv I=>hV v (j.mem_iff.mp I);have S:∀v,v∈e↔Least (sdS rss ss) (sdC n) v:=λv=>j.mem_iff.trans (F.least (λr l=>(Y.hR r l).1) v);have a7:=F.lv;have a2:e.length<=most:=by rw[j.length_eq];omega
  dsimp only[B0];refine⟨_,rfl,q,_,0,.ref t,rfl,rfl,SqT.of Z,rfl,t,zs,e,n,1,rfl,ht,m,by rw[m.1];omega,by omega,λv I=>(u v I).1,λb4 z4 H4 C e4 N=>?_⟩;refine⟨_,rfl,q,_,0,.ref t,rfl,rfl,SqT.of (C _ _ Z),rfl,t,zs,e,n,0,rfl,C _ _ ht,m.same C,by rw[m.1];omega,by omega,λv I=>(u v I).1,λb5 z5 H5 s5 e5 O=>?_⟩;refine⟨_,rfl,q,_,1,.ref pp,rfl,rfl,SqT.of ((C.trans s5) _ _ Z),rfl,by show 3<=sizeLine;omega,λp6 V=>?_⟩;have y:=(Same.refl H5).upd (o:=.tup [.ref b4,.ref b5,.ref pp]) V;have M:=s5.trans y;have L:=C.trans M;exact kq p6 b4 b5 pp z4 z5 ws e Fl W k _ ((a4.trans C).trans M) A0 (M _ _ e4) (N.same M) (y _ _ e5) (O.same y) (L _ _ X) (R.same L) F p j a2 a0 (j.symm.nodup F.nd.2) u S
end
def b6R{α:Type}[DecidableEq α]:∀(a b:qA α),a.Nodup->(∀x∈a,x∈b)->a.length<=b.length
 |[],b,_,_=>bw _
 |x::a,b,e,h=>by
  obtain⟨h1,h2⟩:=cq.mp e;have c:=h x ax;have:=b6R a (b.erase x) h2 λy d=>(List.mem_erase_of_ne (λz:y=x=>h1 (z ▸ d))).mpr (h y (au _ d));rw[List.length_erase_of_mem c]at this;have:=List.length_pos_of_mem c;rw[aZ];omega
structure Pap(rss:LLI)(cs:qA (qD Int))(F W L:LLI):Prop where
 wi:∀v∈W,Wi cs v=true
 fst:∀u∈P9 cs,u∈W
 an:∀v∈W,Ans rss v=true->v∈F
 nx:∀v∈W,v∉L->∀j∈StP rss cs v,bump v j∈W∨∃f∈F,Bel f (bump v j)=true
def Wk.pap{F W L:LLI}(hR:∀r∈rss,r.length=cs.length)(h:Wk rss cs F W L k):Pap rss cs F W L:=by
 induction h with
 |@one L ri nd h=>exact⟨(Wk.one ri nd h).ok hR |>.wi,λu i=>(h u).mpr i,λv a e=>aW.mpr ⟨a,e⟩,λv a g=>absurd a g⟩
 |@more F W L L' k h ne ri nd n c =>
  have o:=(Wk.more h ne ri nd n).ok hR;refine⟨λv a=>?_,λu i=>aQ _ (c.fst u i),λv a e=>?_,λv a g j m=>?_⟩
  .rcases aD.mp a with z|z
   .exact c.wi v z
   .exact o.wi v z
  .rcases aD.mp a with z|z
   .exact aQ _ (c.an v z e)
   .exact aR _ (aW.mpr ⟨z,e⟩)
  .have hvW:v∈W:=(aD.mp a).resolve_right g;by_cases l:v∈L
   .cases e:Bar F (bump v j) j with
    |true =>
     unfold Bar at e;obtain⟨f,d,b⟩:=bJ.mp e;rw[aO]at b;exact .inr ⟨f,aQ _ d,b.2⟩
    |false=>exact .inl (aR _ ((n _).mpr ⟨v,l,j,m,rfl,e⟩))
   .rcases c.nx v hvW l j m with z|⟨f,d,hb⟩
    .exact .inl (aQ _ z)
    .exact .inr ⟨f,aQ _ d,hb⟩
def Lst(rss:LLI)(v:qI):Bool:=!(rss.any λu=>!decide (u=v) && Bel u v)
structure Srt(rss srt:LLI):Prop where
 ri:C8 srt
 nd:srt.Nodup
 mem:∀r,r∈srt↔r∈rss
def Srt.eq{a b:LLI}(h:Srt rss a)(g:Srt rss b):a=b:=Z7 h.ri g.ri h.nd g.nd λv=>(h.mem v).trans (g.mem v).symm
def b0A{a:LLI}(h:∀r,r∈rss↔r∈a)(v:qI):Lst rss v=Lst a v:=by
 unfold Lst;congr 1;rw[cz,bJ,bJ];exact⟨λ⟨u,b,e⟩=>⟨u,(h u).mp b,e⟩,λ⟨u,b,e⟩=>⟨u,(h u).mpr b,e⟩⟩
def a9F:∀{u v:qI},u.length=v.length->Bel u v=true->u≠v->HT.lexLt v u=false
 |[],[],_,_,ne=>absurd rfl ne
 |[],_::_,h,_,_=>by cases h
 |_::_,[],h,_,_=>by cases h
 |x::u,y::v,h,a,ne=>by
  unfold Bel at a;rw[bq,dw,aO]at a;have h1:x<=y:=bp a.1;by_cases e:x=y
  .subst e;have c:=a9F (u:=u) (v:=v) (by simpa using h) a.2 λz=>ne (by rw[z]);simp[HT.lexLt,c]
  .have:¬y<x:=by omega
   have b:¬y=x:=λz=>e z.symm;simp[HT.lexLt,this,b]
def a8X{m:qA α->Prop}(l:qA α)(nil:m [])(snoc:∀(l:qA α) (v:α),m l->m (l++[v])):m l:=by
 have:∀r:qA α,m r.reverse:=λr=>by
  induction r with
  |nil=>exact nil
  |cons x r a=>rw[List.reverse_cons];exact snoc _ x a
 have:=this l.reverse;rwa[List.reverse_reverse]at this
def LO(l:LLI):LLI:=l.foldl (λacc v=>if acc.any (λu=>Bel u v)then acc else acc++[v]) []
def a5Q(l:LLI)(v:qI):LO (l++[v])=if (LO l).any (λu=>Bel u v)then LO l else LO l++[v]:=by
 unfold LO;rw[List.foldl_append];rfl
def b4l(v:qI):Bel v v=true:=(J2 rfl).mpr (Under.refl v)
def b1m{a b c:qI}(h1:a.length=b.length)(h2:b.length=c.length)(d:Bel a b=true)(e:Bel b c=true):Bel a c=true :=
 (J2 (h1.trans h2)).mpr (((J2 h1).mp d).trans ((J2 h2).mp e))
def a9J:∀(l:LLI),(∀r∈l,r.length=n)->(∀x∈LO l,x∈l)/\∀u∈l,∃x∈LO l,Bel x u=true:=by
 intro l;induction l using a8X with
 |nil=>intro _;exact⟨λ_ z=>z,λ_ z=>nomatch z⟩
 |snoc l v h =>
  intro f;obtain⟨c,d⟩:=h λr g=>f r (aQ _ g);rw[a5Q];cases e:(LO l).any (λu=>Bel u v)with
  |true =>
   rw[av rfl];refine⟨λx b=>aQ _ (c x b),λu a=>?_⟩;rcases aD.mp a with z|z
   .exact d u z
   .rw[aG.mp z];exact bJ.mp e
  |false =>
   rw[ao (by decide)];refine⟨λx b=>?_,λu a=>?_⟩
   .rcases aD.mp b with z|z
    .exact aQ _ (c x z)
    .exact aR _ z
   .rcases aD.mp a with z|z
    .obtain⟨x,h1,h2⟩:=d u z;exact⟨x,aQ _ h1,h2⟩
    .rw[aG.mp z];exact⟨v,aR _ ax,b4l v⟩
def b1n(a:LLI)(f:∀r∈a,r.length=n)(m:C8 a)(nd:a.Nodup):∀(l rest:LLI),a=l++rest->LO l=l.filter (λv=>Lst a v):=by
 intro l;induction l using a8X with
 |nil=>intro _ _;rfl
 |snoc l v t =>
  intro rest e;have c:a=l++(v::rest):=by rw[e,aI];rfl
  have k:v∈a:=by rw[c];simp
  have b:∀r∈l,r.length=n:=λr o=>f r (by rw[c];exact aQ _ o);obtain⟨i,s⟩:=a9J l b;rw[a5Q,List.filter_append,<-t _ c];have key:(LO l).any (λu=>Bel u v)=!Lst a v:=by
   rw[cz];unfold Lst;rw[Bool.not_not,bJ,bJ];constructor
   .rintro⟨u,hu,hb⟩;refine⟨u,by rw[c];exact aQ _ (i u hu),?_⟩;have g:u≠v:=λz=>by
     rw[c]at nd;exact(ez.mp nd).2.2 u (i u hu) v ax z
    rw[hb,bK g];rfl
   .rintro⟨u,hu,hb⟩;rw[aO,ei,decide_eq_false_iff_not]at hb;have d:u∈l:=by
     rw[c]at hu;rcases aD.mp hu with z|z
     .exact z
     .rcases aA.mp z with q|q
      .exact absurd q hb.1
      .exfalso;have h:HT.lexLt u v=false:=by
        rw[c]at m;have:=(bG.mp m).2.1;exact(cT.mp this).1 u q
       have h2:=a9F (by rw[f u (by rw[c];exact aR _ z),f v k]) hb.2 hb.1;exact hb.1 (O0 u v h h2)
    obtain⟨x,h1,h2⟩:=s u d;exact⟨x,h1,b1m (by rw[b x (i x h1),b u d]) (by rw[b u d,f v k]) h2 hb.2⟩
  rw[key];cases j:Lst a v with
  |true=>rw[ao (by decide),List.filter_cons_of_pos (p:=λv=>Lst a v) j];rfl
  |false=>rw[av (by decide),List.filter_cons_of_neg (p:=λv=>Lst a v) (by rw[j];decide)];simp
section
variable {K:qF}
inductive IspAboveL(vs:qA V)(H:Hp)(Q:VK)(E:XK):Prop
 |mk (l:qE) (y:V) (fs:qA V) (fss:LLI) (ys:qI) (_:vs=[.ref l,y]) (_:H l=some (.lst fs)) (_:Its H fs fss) (_:IT H y ys) (_:(∀f∈fss,f.length<=1000)) (_:∀H',Same H H'->Q (.bl (fss.any λf=>Bel f ys)) H'):IspAboveL  vs H Q E
def a6p:Sp:=λvs H Q E=>IspAboveL  vs H Q E
inductive IspAboveT(vs:qA V)(H:Hp)(Q:VK)(E:XK):Prop
 |mk (l:qE) (y:V) (fs:qA V) (fss:LLI) (ys:qI) (_:vs=[.ref l,y]) (_:H l=some (.tup fs)) (_:Its H fs fss) (_:IT H y ys) (_:(∀f∈fss,f.length<=1000)) (_:∀H',Same H H'->Q (.bl (fss.any λf=>Bel f ys)) H'):IspAboveT  vs H Q E
def a2T:Sp:=λvs H Q E=>IspAboveT  vs H Q E
def sc_above_any:FnScope ["some","one","other"] ["some","one"] (A1 L9):={}
def a4d(F:FunAt K mg "above_any" L9 ["some","one"])(T:Tx mg)(b:Ok P w K mg base "below" 1 ["one","other"] a2v):Ok P w K mg base "above_any" 2 ["some","one"] a6p:=by
 refine F.okJ sc_above_any (λp H Q E h=>?_) (λn f A j s H p Q E c h=>?_)
 .obtain⟨l,y,fs,fss,ys,rfl,_⟩:=h;rfl
 .obtain⟨l,y,fs,fss,ys,rfl,hl,hI,hy,hL,k⟩:=h;refine⟨_,(A2 (O7 (F0 K (jv 0)) (A7 (i:=2) sc_above_any.nd rfl (Or.inl rfl))
 (A4 (C7 (C6 K (A6 b (c.mono (by omega)) rfl (jaC (jv 2) (jaC (jv 1) jaN))))
 (A4 (A8 N8))
 B6)))
 (A4 (A8 N8))),?_⟩
  refine⟨_,rfl,l,rfl,⟨_,SqL.of hl⟩,?_⟩;refine U9 (K:=K) (a:=l) (xs:=fs) (λi σ H'=>Ex1 λo=>An3 (σ=[some (.ref l),some y,o]) (Same H H') (((fss.take i).any λf=>Bel f ys)=false)) ⟨none,rfl,Same.refl H,rfl⟩ (λi σ H' _ h=>by obtain⟨_,_,s',_⟩:=h;exact SqL.of (s' _ _ hl)) ?_ ?_
  .rintro i x σ H' hx ⟨o,rfl,s',hB⟩;obtain⟨r,c,d,g⟩:=hI.mem hx;have m:((fss.take (i+1)).any λf=>Bel f ys)=Bel r ys:=by
    rw[ba,d,List.any_append,hB];simp
   dsimp only[B0];refine⟨_,rfl,_,rfl,x,y,r,ys,rfl,g.same s',hy.same s',hL r c,λH2 s2=>⟨_,rfl,?_⟩⟩;cases e:Bel r ys with
   |false =>
    rw[e]at m;exact C9 ⟨_,rfl,s'.trans s2,m⟩
   |true =>
    refine E5 ?_;have:=k H2 (s'.trans s2);rw[show(fss.any λf=>Bel f ys)=true from bJ.mpr ⟨r,c,e⟩]at this;exact this
  .rintro σ H' ⟨o,rfl,s',hB⟩;rw[hI.1,bg]at hB;have:=k H' s';rw[hB]at this;exact this
def a4c(F:FunAt K mg "above_any" L9 ["some","one"])(T:Tx mg)(b:Ok P w K mg base "below" 1 ["one","other"] a2v):Ok P w K mg base "above_any" 2 ["some","one"] a2T:=by
 refine F.okJ sc_above_any (λp H Q E h=>?_) (λn f A j s H p Q E c h=>?_)
 .obtain⟨l,y,fs,fss,ys,rfl,_⟩:=h;rfl
 .obtain⟨l,y,fs,fss,ys,rfl,hl,hI,hy,hL,k⟩:=h;refine⟨_,(A2 (O7 (G7 K (jv 0)) (A7 (i:=2) sc_above_any.nd rfl (Or.inl rfl))
 (A4 (C7 (C6 K (A6 b (c.mono (by omega)) rfl (jaC (jv 2) (jaC (jv 1) jaN))))
 (A4 (A8 N8))
 B6)))
 (A4 (A8 N8))),?_⟩
  refine⟨_,rfl,l,rfl,⟨_,SqT.of hl⟩,?_⟩;refine a9t (K:=K) (a:=l) (xs:=fs) (λi σ H'=>Ex1 λo=>An3 (σ=[some (.ref l),some y,o]) (Same H H') (((fss.take i).any λf=>Bel f ys)=false)) ⟨none,rfl,Same.refl H,rfl⟩ (λi σ H' _ h=>by obtain⟨_,_,s',_⟩:=h;exact SqT.of (s' _ _ hl)) ?_ ?_
  .rintro i x σ H' hx ⟨o,rfl,s',hB⟩;obtain⟨r,c,d,g⟩:=hI.mem hx;have m:((fss.take (i+1)).any λf=>Bel f ys)=Bel r ys:=by
    rw[ba,d,List.any_append,hB];simp
   dsimp only[B0];refine⟨_,rfl,_,rfl,x,y,r,ys,rfl,g.same s',hy.same s',hL r c,λH2 s2=>⟨_,rfl,?_⟩⟩;cases e:Bel r ys with
   |false =>
    rw[e]at m;exact C9 ⟨_,rfl,s'.trans s2,m⟩
   |true =>
    refine E5 ?_;have:=k H2 (s'.trans s2);rw[show(fss.any λf=>Bel f ys)=true from bJ.mpr ⟨r,c,e⟩]at this;exact this
  .rintro σ H' ⟨o,rfl,s',hB⟩;rw[hI.1,bg]at hB;have:=k H' s';rw[hB]at this;exact this
inductive IspLeastOf(vs:qA V)(H:Hp)(Q:VK)(E:XK):Prop
 |mk (p:qE) (us:qA V) (rss:LLI) (n:Nat) (_:vs=[.ref p]) (_:H p=some (.tup us)) (_:Its H us rss) (_:us.length<=1000) (_:1<=n) (_:n<=1000) (_:(∀r∈rss,r.length=n)) (_:∀q zs srt H',Same H H'->Srt rss srt->H' q=some (.tup zs)->Its H' zs (srt.filter λv=>Lst rss v)->Q (.ref q) H'):IspLeastOf  vs H Q E
def a4l:Sp:=λvs H Q E=>IspLeastOf  vs H Q E
def sc_least_of:FnScope ["some","found","one"] ["some"] (A1 V9):={}
def a6D(F:FunAt K mg "least_of" V9 ["some"])(T:Tx mg)(c:Ok P w K mg base "above_any" 2 ["some","one"] a6p):Ok P w K mg base "least_of" 3 ["some"] a4l:=by
 refine F.okJ sc_least_of (λvs H Q E h=>?_) (λa6 f A a5 s H vs Q E m h=>?_)
 .obtain⟨p,us,rss,n,rfl,_⟩:=h;rfl
 .obtain⟨p,us,rss,n,rfl,hp,hI,hl,hn1,hn2,hR,k⟩:=h;have hu:=m.u60;have hz:(3000:Nat)<=sizeLine:=by rw[aU];decide
  refine⟨_,(A2 (B1 (i:=1) sc_least_of.nd rfl (Or.inl rfl) (Y0 jaN))
 (A2 (O7 (F0 K (a6U P w rfl T.b_sorted (jaC (a9m K P w hu rfl T.b_set (jaC (jv 0) jaN)) jaN))) (A7 (i:=2) sc_least_of.nd rfl (Or.inl rfl))
 (A4 (C7 (G2 (C6 K (A6 c (m.mono (by omega)) rfl (jaC (jv 1) (jaC (jv 2) jaN)))))
 (A4 (W7 (a0x K (jv 1) (jaC (jv 2) jaN))))
 B6)))
 (A4 (A8 (C2 K rfl T.b_tuple (jaC (jv 1) jaN)))))),?_⟩
  refine⟨bw _,λg M=>?_⟩;have s1:=(Same.refl H).upd (o:=.lst []) M;have V:upd H g (.lst []) g=some (.lst []):=A0;generalize upd H g (.lst [])=H1 at s1 V;dsimp only[B0];refine⟨_,rfl,true,p,us,rss,rfl,SqT.of (s1 _ _ hp),hI.same s1,hl,λa xs ha L j X=>?_⟩;have s2:=s1.upd (o:=a1y P w a xs) ha;have B:=(Same.refl H1).upd (o:=a1y P w a xs) ha;have U:upd H1 a (a1y P w a xs) a=some (a1y P w a xs):=A0;generalize upd H1 a (a1y P w a xs)=H2 at s2 B U;have a3:xs.length<=1000:=by
   have:=Tab.nodup_le (xs.map (·.1)) rss L λr m=>(j r).mp m;rw[ai,<-hI.1]at this;omega
  refine⟨a,xs,rfl,U,λx J=>(X x J).same B,λx J=>by rw[hR x.1 ((j x.1).mp (aT.mpr ⟨x,J,rfl⟩))];exact hn1,a3,λl zs b y d N a2=>?_⟩;have S:Srt rss b:=⟨a2,N.symm.nodup L,λr=>(N.mem_iff).trans (j r)⟩;have s3:=s2.upd (o:=.lst zs) y;have W:upd H2 l (.lst zs) l=some (.lst zs):=A0;have C:upd H2 l (.lst zs) g=some (.lst []):=O1 (B _ _ V) y;have d:=d.same ((Same.refl H2).upd (o:=.lst zs) y);have a4:l≠g:=(A9 (B _ _ V) y).symm;generalize upd H2 l (.lst zs)=H3 at s3 W C d;have I:∀r∈b,r.length=n:=λr m=>hR r ((S.mem r).mp m);have a8:zs.length<=1000:=by
   have:=Tab.nodup_le b rss S.nd λr m=>(S.mem r).mp m;rw[d.1];rw[<-hI.1]at this;omega
  have Z:H g=none:=M;refine⟨l,rfl,⟨_,SqL.of W⟩,?_⟩;refine U9 (K:=K) (a:=l) (xs:=zs) (λi σ H'=>Ex2 λo2 fs=>An5 (σ=[some (.ref p),some (.ref g),o2]) (Off [g] H3 H') (H' g=some (.lst fs)) (Its H' fs (LO (b.take i))) (fs.length<=i)) ⟨none,[],rfl,Off.refl _ _,C,.nil,ak _⟩ (λi σ H' _ h=>by obtain⟨_,_,_,o',_⟩:=h;exact SqL.of (o' _ _ (by simpa using a4) W)) ?_ ?_
  .rintro i x σ H' J ⟨o2,fs,rfl,off,D,hIf,hfl⟩;obtain⟨r,m,a0,a1⟩:=d.mem J;have a7:i<zs.length:=(aL.mp J).1;have O:IT H' x r:=by
    obtain⟨xa,rfl,R⟩:=a1;exact⟨xa,rfl,off _ _ (by simpa using M0 R C (by intro z;cases z)) R⟩
   have Y:∀f∈LO (b.take i),f.length<=1000:=λf D=>by
    have:=(a9J (n:=n) (b.take i) λr m=>I r (bT m)).1 f D;rw[I f (bT this)];exact hn2
   have t:LO (b.take (i+1))=if (LO (b.take i)).any (λu=>Bel u r)then LO (b.take i)else LO (b.take i)++[r]:=by
    rw[ba,a0];exact a5Q _ _
   dsimp only[B0];refine⟨_,rfl,_,rfl,g,x,fs,_,r,rfl,D,hIf,O,Y,λH2 s2=>⟨_,rfl,?_⟩⟩;cases e:(LO (b.take i)).any (λu=>Bel u r)with
   |true =>
    rw[e,av rfl]at t;refine C9 ⟨_,fs,rfl,off.trans s2.off,s2 _ _ D,?_,by omega⟩;rw[t];exact hIf.same s2
   |false =>
    rw[e,ao (by decide)]at t;have G:=s2 _ _ D;refine E5 ⟨_,rfl,.inl ⟨rfl,_,SqL.of G⟩,_,rfl,g,_,_,rfl,rfl,G,by omega,?_⟩;refine⟨_,fs++[x],rfl,(off.trans s2.off).set (by simp),A0,?_,by simp;omega⟩;rw[t];exact Its.put ((hIf.same s2).snoc (O.same s2)) G
  .rintro σ H' ⟨o2,fs,rfl,off,D,hIf,_⟩;rw[d.1,bg]at hIf;refine⟨_,rfl,g,fs,rfl,.inl ⟨SqL.of D,λq hq=>?_⟩⟩;have s4:=(Same.refl H').upd (o:=.tup fs) hq;refine k q fs b _ ((a2Y s3 Z off).trans s4) S A0 ?_;have e:=b1n (n:=n) b I S.ri S.nd b [] (by simp);rw[e]at hIf;have U:(b.filter λv=>Lst b v)=b.filter λv=>Lst rss v:=by
    congr 1;funext v;exact b0A S.mem v
   rw[U]at hIf;exact hIf.same s4
end
def a1v(n:Nat)(v:qI):Bool:=decide (v.length=n) && v.all λx=>decide (0<=x)
def a8d(cs:qA (qD Int))(v:qI):Bool:=(v.any λx=>!decide (x=0)) && Wi cs v
def Z9(tss mss:LLI)(v:qI):Bool:=decide (v∈mss) || tss.any λt=>Bel t v
def goI(rss:LLI)(cs:qA (qD Int))(tss mss:LLI)(v:qI):Bool:=(tss.any λt=>Bel t v) || (!Ans rss v && (StP rss cs v).all λj=>Z9 tss mss (bump v j))
structure Anti(rss tss:LLI):Prop where
 ri:C8 tss
 nd:tss.Nodup
 lst:∀v∈tss,Lst tss v=true
 ans:∀v∈tss,Ans rss v=true
def a0U(l:qA α)(f:α->Bool):(l.map λx=>V.bl (f x)).all trV=l.all f:=by rw[List.all_map];rfl
def X0(l:qA α)(f:α->Bool):(l.map λx=>V.bl (f x)).all a4F=true:=by
 rw[aS];intro v a;obtain⟨_,_,rfl⟩:=aT.mp a;rfl
def b0L(l:qI):(l.map V.int).all a4F=true:=by
 rw[aS];intro v a;obtain⟨_,_,rfl⟩:=aT.mp a;rfl
def b8T(l:qI):(l.map V.int).any trV=l.any λx=>!decide (x=0):=by
 rw[List.any_map];rfl
section
variable {K:qF}
inductive IspNumI(vs:qA V)(H:Hp)(Q:VK)(E:XK):Prop
 |mk (z:Int) (_:vs=[.int z]) (_:Q (.bl (decide (0<=z))) H):IspNumI  vs H Q E
def b1N:Sp:=λvs H Q E=>IspNumI  vs H Q E
def a5m:FnScope ["value"] ["value"] (A1 Q8):={}
def a4b(F:FunAt K mg "is_number" Q8 ["value"])(T:Tx mg):Ok P w K mg base "is_number" 1 ["value"] b1N:=by
 refine F.okJ a5m (λc H Q E h=>?_) (λb f A a s H c Q E d h=>?_)
 .obtain⟨z,rfl,_⟩:=h;rfl
 .obtain⟨z,rfl,k⟩:=h;refine⟨_,(A4 (A8 (U8 (C5 K rfl T.b_isinstance (jaC (jv 0) (jaC (T8 (v:=.ty "int") rfl T.b_int a8n rfl) jaN))) (U8 (b3B (C5 K rfl T.b_isinstance (jaC (jv 0) (jaC (T8 (v:=.ty "bool") rfl T.b_bool a9G rfl) jaN)))) (a0d (b9J (jv 0) A3)))))),?_⟩;refine⟨_,rfl,.int z,"int",_,true,rfl,.int z,by with_unfolding_all rfl,true,rfl,E5 ?_⟩;refine⟨_,rfl,.int z,"bool",_,false,rfl,.int z,by with_unfolding_all rfl,false,rfl,_,rfl,E5 ?_⟩;exact⟨_,rfl,_,_,rfl,rfl,k⟩
inductive IspVecI(vs:qA V)(H:Hp)(Q:VK)(E:XK):Prop
 |mk (y:V) (xs:qI) (n:Nat) (wi:Int) (_:vs=[y,.int wi]) (_:wi=n) (_:IT H y xs) (_:xs.length<=1000) (_:∀H',Same H H'->Q (.bl (a1v n xs)) H'):IspVecI  vs H Q E
def b1J:Sp:=λvs H Q E=>IspVecI  vs H Q E
def a5l:FnScope ["value","width"] ["value","width"] (A1 Q7):={}
def a4a(F:FunAt K mg "is_vector" Q7 ["value","width"])(T:Tx mg)(b:Ok P w K mg base "is_number" 1 ["value"] b1N):Ok P w K mg base "is_vector" 2 ["value","width"] b1J:=by
 refine F.okJ a5l (λl H Q E h=>?_) (λd f A c s H l Q E j h=>?_)
 .obtain⟨y,xs,n,wi,rfl,_⟩:=h;rfl
 .obtain⟨_,xs,n,_,rfl,rfl,⟨a,rfl,ha⟩,hl,k⟩:=h;refine⟨_,(A4 (A8 (U8 (C5 K rfl T.b_isinstance (jaC (jv 0) (jaC (T8 (v:=.ty "tuple") rfl T.b_tuple V4 rfl) jaN))) (U8 (a4y (G8 K rfl T.b_len (jaC (jv 0) jaN)) (jv 1)) (a0d (P0 K rfl T.b_all (jaC (B7 (N:=["part"]) (src:=[none]) (G7 K (jv 0)) (by show B9 _ _=true;rfl) (by rfl) (by rfl)
 (λ_ _ _ _ _=>(A7 (i:=0) (L2.nd ["part"]) rfl (Or.inl rfl))) (λ_ _ _ _ _=>C1) (λ_ _ _ _ _=>(A6 b (j.mono (by omega)) rfl (jaC (jv 0) jaN)))) jaN))))))),?_⟩
  refine⟨_,rfl,.ref a,"tuple",_,true,rfl,.tup ha,by with_unfolding_all rfl,true,rfl,E5 ?_⟩;refine⟨_,rfl,a,_,rfl,.inr (SqT.of ha),_,rfl,rfl,_,rfl,?_⟩;by_cases e:xs.length=n
  .rw[show decide (V.int ((xs.map V.int).length:Int)=V.int (n:Int))=true by rw[ai,e];simp];refine E5 ⟨_,rfl,a,rfl,⟨_,SqT.of ha⟩,?_⟩;refine a6b (caps:=[]) (λx=>V.bl (decide (0<=x))) hl (λH' s=>SqT.of (s _ _ ha)) rfl (λx H2 m _ _ q=>⟨_,rfl,x,rfl,q⟩) λH2 p s2 g=>?_;refine⟨false,p,_,rfl,SqL.of A0,X0 _ _,?_⟩;rw[a0U];have:=k _ (s2.upd (o:=.lst (xs.map λx=>V.bl (decide (0<=x)))) g);unfold a1v at this;rw[bj e,Bool.true_and]at this;exact this
  .rw[show decide (V.int ((xs.map V.int).length:Int)=V.int (n:Int))=false by rw[ai,decide_eq_false_iff_not];intro z;injection z with z;exact e (by omega)];refine C9 ?_;have:=k H (Same.refl H);unfold a1v at this;rw[bK e,Bool.false_and]at this;exact this
inductive IspVecsI(vs:qA V)(H:Hp)(Q:VK)(E:XK):Prop
 |mk (a:qE) (us:qA V) (rss:LLI) (n:Nat) (wi:Int) (_:vs=[.ref a,.int wi]) (_:wi=n) (_:H a=some (.tup us)) (_:Its H us rss) (_:us.length<=100000) (_:(∀r∈rss,r.length<=1000)) (_:∀H',Same H H'->Q (.bl (rss.all (a1v n))) H'):IspVecsI  vs H Q E
def a5b:Sp:=λvs H Q E=>IspVecsI  vs H Q E
def a2V:FnScope ["value","width"] ["value","width"] (A1 K8):={}
def a2j(F:FunAt K mg "are_vectors" K8 ["value","width"])(T:Tx mg)(b:Ok P w K mg base "is_vector" 2 ["value","width"] b1J):Ok P w K mg base "are_vectors" 3 ["value","width"] a5b:=by
 refine F.okJ a2V (λl H Q E h=>?_) (λe f A d s H l Q E c h=>?_)
 .obtain⟨a,us,rss,n,wi,rfl,_⟩:=h;rfl
 .obtain⟨a,us,rss,n,_,rfl,rfl,ha,hI,hl,hw,k⟩:=h;have o:(300000:Nat)<=sizeLine:=by rw[aU];decide
  refine⟨_,(A4 (A8 (U8 (C5 K rfl T.b_isinstance (jaC (jv 0) (jaC (T8 (v:=.ty "tuple") rfl T.b_tuple V4 rfl) jaN))) (a0d (P0 K rfl T.b_all (jaC (B7 (N:=["part","width"]) (src:=[none,some 1]) (G7 K (jv 0)) (by show B9 _ _=true;rfl) (by rfl) (by rfl)
 (λ_ _ _ _ _=>(A7 (i:=0) (L2.nd ["part","width"]) rfl (Or.inl rfl))) (λ_ _ _ _ _=>C1) (λ_ _ _ _ _=>(A6 b (c.mono (by omega)) rfl (jaC (jv 0) (jaC (jv 1) jaN))))) jaN)))))),?_⟩
  refine⟨_,rfl,.ref a,"tuple",_,true,rfl,.tup ha,by with_unfolding_all rfl,true,rfl,E5 ?_⟩;refine⟨_,rfl,a,rfl,⟨_,SqT.of ha⟩,?_⟩;refine a0Y (caps:=[some (.int n)]) (λr=>V.bl (a1v n r)) (by omega) (λH' s=>SqT.of (s _ _ ha)) hI rfl (λv r H1 m c j s1 q=>?_) λH1 p s1 g=>?_
  .exact⟨_,rfl,_,rfl,v,r,n,_,rfl,rfl,j,hw r c,q⟩
  .refine⟨false,p,_,rfl,SqL.of A0,X0 _ _,?_⟩;rw[a0U];exact k _ (s1.upd g)
inductive IspAllFit(vs:qA V)(H:Hp)(Q:VK)(E:XK):Prop
 |mk (c a:qE) (us:qA V) (rss:LLI) (cs:qA (qD Int)) (_:vs=[.ref c,.ref a]) (_:H c=some (.tup (cs.map cV))) (_:cs.length<=1000) (_:H a=some (.tup us)) (_:Its H us rss) (_:us.length<=200000) (_:∀H',Same H H'->Q (.bl (rss.all (a8d cs))) H'):IspAllFit  vs H Q E
def a6o:Sp:=λvs H Q E=>IspAllFit  vs H Q E
def a7B:FnScope ["caps","some"] ["caps","some"] (A1 a0s):={}
def a7N(F:FunAt K mg "all_fit" a0s ["caps","some"])(T:Tx mg)(b:Ok P w K mg base "within" 1 ["caps","one"] a2R):Ok P w K mg base "all_fit" 2 ["caps","some"] a6o:=by
 refine F.okJ a7B (λn H Q E h=>?_) (λj f A d s H n Q E g h=>?_)
 .obtain⟨c,a,us,rss,cs,rfl,_⟩:=h;rfl
 .obtain⟨c,a,us,rss,cs,rfl,hc,hcl,ha,hI,hl,k⟩:=h;have t:(300000:Nat)<=sizeLine:=by rw[aU];decide
  refine⟨_,(A4 (A8 (P0 K rfl T.b_all (jaC (B7 (N:=["one","caps"]) (src:=[none,some 0]) (G7 K (jv 1)) (by show B9 _ _=true;rfl) (by rfl) (by rfl)
 (λ_ _ _ _ _=>(A7 (i:=0) (L2.nd ["one","caps"]) rfl (Or.inl rfl))) (λ_ _ _ _ _=>C1) (λ_ _ _ _ _=>(U8 (b8x K rfl T.b_any (jaC (jv 0) jaN)) (a0d (A6 b (g.mono (by omega)) rfl (jaC (jv 1) (jaC (jv 0) jaN))))))) jaN)))),?_⟩
  refine⟨_,rfl,a,rfl,⟨_,SqT.of ha⟩,?_⟩;refine a0Y (caps:=[some (.ref c)]) (λr=>V.bl (a8d cs r)) (by omega) (λH' s=>SqT.of (s _ _ ha)) hI rfl (λv r H1 o g m s1 q=>?_) λH1 p s1 l=>?_
  .obtain⟨va,rfl,hva⟩:=id m;refine⟨_,rfl,true,va,_,rfl,SqT.of hva,b0L _,_,rfl,?_⟩;rw[b8T];unfold a8d at q;cases e:r.any λx=>!decide (x=0)with
   |false =>
    rw[e,Bool.false_and]at q;exact C9 (q _ (Same.refl _))
   |true =>
    rw[e,Bool.true_and]at q;exact E5 ⟨_,rfl,_,rfl,c,va,cs,r,rfl,s1 _ _ hc,hva,hcl,q⟩
  .refine⟨false,p,_,rfl,SqL.of A0,X0 _ _,?_⟩;rw[a0U];exact k _ (s1.upd l)
end
def b5e{K:qF}{src:qA (qJ)}{σ caps:L2.St}{Q:VK}{ps:qA V}{f:Nat->qI}{d:qA Nat}{te:TE}(g:Nat->Bool)(t:ps.length<=1000)(o:H a=some (.lst ps))(n:Prs H ps f d)(c:B2 src σ=none::none::caps)
  (l:∀(j:Nat) v H1 Q1,j∈d->IT H1 v (f j)->Same H H1->(∀H2,Same H1 H2->Q1 (.bl (g j)) H2)->te (some (.int j)::some v::caps) H1 Q1)
  (hd:∀H1 p,Same H H1->H1 p=none->Q (.ref p) (upd H1 p (.lst (d.map λj=>V.bl (g j))))) :
  E8 src (a6W K 2 (Y5 (B0 0) (Y5 (B0 1) a8b))) O3 te σ Q (Itl K a) H:=by
 have w:(3000:Nat)<=sizeLine:=by rw[aU];decide
 refine V2 (xs:=ps) (by omega) (λi ys H'=>Same H H'/\ys=(d.take i).map λj=>V.bl (g j)) ⟨Same.refl H,by simp⟩ (λi ys H' _ h=>⟨SqL.of (h.1 _ _ o),by rw[h.2,ai];exact bE _ _⟩) ?_ ?_
 .rintro i x ys H' hx ⟨s,rfl⟩;obtain⟨j,b,v,m,rfl,q,r⟩:=n.2 i x hx;refine⟨b,[.int j,v],rfl,SqT.of (s _ _ q),rfl,.int j,[v],rfl,v,[],rfl,rfl,?_⟩;rw[c];show Sub _ (some (.int j)::some v::caps)/\_;refine⟨⟨rfl,λk u e=>?_⟩,?_⟩
  .match k,e with
   |0,e=>cases e
   |1,e=>cases e
   |k+2,e=>exact e
  .refine l j v H' _ (aH m) (r.same s) s λH2 s2=>⟨s.trans s2,?_⟩;rw[ba,m,bF];rfl
 .rintro ys H' ⟨s,rfl⟩ p hp;rw[n.1,bg];exact hd H' p s hp
def b4S{H':Hp}{d:qE}{o:HO}(h:Rd H d o)(s:Same H H'):Rd H' d o:=by
 rcases h with h|⟨a,h⟩
 .exact .inl (s _ _ h)
 .exact .inr ⟨a,s _ _ h⟩
def DGet.rd{b:qE}{qL:qA (qA Key×V)}{k:qA Key}(e:Rd H a (.dT qL))(c:H b=some (.tup (k.map kV))):DGet H a (.ref b) (U5 qL k):=.inr ⟨qL,k,b,e,rfl,c,rfl⟩
section
variable {K:qF}
inductive IspAreLeast(vs:qA V)(H:Hp)(Q:VK)(E:XK):Prop
 |mk (ra t:qE) (us zs:qA V) (rss tss:LLI) (n:Nat) (_:vs=[.ref ra,.ref t]) (_:H ra=some (.tup us)) (_:Its H us rss) (_:us.length<=1000) (_:(∀r∈rss,r.length<=1000)) (_:H t=some (.tup zs)) (_:Its H zs tss) (_:zs.length<=1000) (_:1<=n) (_:n<=1000) (_:(∀v∈tss,v.length=n/\Sm v)) (_:∀b H',Same H H'->(b=true↔Anti rss tss)->Q (.bl b) H'):IspAreLeast  vs H Q E
def a2S:Sp:=λvs H Q E=>IspAreLeast  vs H Q E
def a5o:FnScope ["rows","told"] ["rows","told"] (A1 R1):={}
def a5A(F:FunAt K mg "are_least" R1 ["rows","told"])(T:Tx mg)(b:Ok P w K mg base "least_of" 3 ["some"] a4l)(a:Ok P w K mg base "is_answer" 3 ["rows","one"] a2u):Ok P w K mg base "are_least" 4 ["rows","told"] a2S:=by
 refine F.okJ a5o (λD H Q E h=>?_) (λo f A m s H D Q E d h=>?_)
 .obtain⟨ra,t,us,zs,rss,tss,n,rfl,_⟩:=h;rfl
 .obtain⟨ra,t,us,zs,rss,tss,n,rfl,hra,hI,hul,hRl,ht,hJ,hzl,n1,n2,hT,k⟩:=h;have I:(3000:Nat)<=sizeLine:=by rw[aU];decide
  have B:=d.u60;refine⟨_,(A4 (A8 (U8 (b3n K B (A6 b (d.mono (by omega)) rfl (jaC (jv 1) jaN)) (jv 1)) (a0d (P0 K rfl T.b_all (jaC (B7 (N:=["one","rows"]) (src:=[none,some 0]) (G7 K (jv 1)) (by show B9 _ _=true;rfl) (by rfl) (by rfl)
 (λ_ _ _ _ _=>(A7 (i:=0) (L2.nd ["one","rows"]) rfl (Or.inl rfl))) (λ_ _ _ _ _=>C1) (λ_ _ _ _ _=>(A6 a (d.mono (by omega)) rfl (jaC (jv 1) (jaC (jv 0) jaN))))) jaN)))))),?_⟩
  refine⟨_,rfl,t,zs,tss,n,rfl,ht,hJ,hzl,n1,n2,λr d=>(hT r d).1,λq J g H1 s1 S y j=>?_⟩;have u:C8 tss->tss.Nodup->g=tss:=λh1 h2=>S.eq ⟨h1,h2,λ_=>Iff.rfl⟩;refine⟨_,rfl,2,_,by decide,EqV.its (k:=true) (SqT.of y) (SqT.of (s1 _ _ ht)) j (hJ.same s1),⟨_,_,rfl,rfl⟩,_,rfl,?_⟩;by_cases e:(g.filter λv=>Lst tss v)=tss
  .rw[bj e];refine E5 ⟨_,rfl,t,rfl,⟨_,SqT.of (s1 _ _ ht)⟩,?_⟩;refine a0Y (caps:=[some (.ref ra)]) (λr=>V.bl (Ans rss r)) (by omega) (λH' s=>SqT.of (s _ _ (s1 _ _ ht))) (hJ.same s1) rfl (λv r H2 G l c s2 C=>?_) λH2 p s2 x=>?_
   .have s12:=s1.trans s2;exact⟨_,rfl,_,rfl,ra,v,us,rss,r,rfl,s12 _ _ hra,hI.same s12,c,hul,hRl,(hT r l).2,C⟩
   .refine⟨false,p,_,rfl,SqL.of A0,X0 _ _,?_⟩;rw[a0U];refine k _ _ (s1.trans (s2.upd x)) ?_;rw[aS];refine⟨λh=>⟨?_,?_,λv c=>?_,h⟩,λh=>h.ans⟩
    .rw[<-e];exact List.Pairwise.filter _ S.ri
    .rw[<-e];exact S.nd.filter _
    .rw[<-e]at c;exact(aW.mp c).2
  .rw[bK e];refine C9 (k _ _ s1 ⟨(λz=>nomatch z),λh=>absurd ?_ e⟩);rw[u h.ri h.nd];exact List.filter_eq_self.mpr λv c=>h.lst v c
inductive IspMet(vs:qA V)(H:Hp)(Q:VK)(E:XK):Prop
 |mk (t d:qE) (y:V) (zs:qA V) (tss:LLI) (qL:qA (qA Key×V)) (mss:LLI) (ys:qI) (_:vs=[.ref t,.ref d,y]) (_:H t=some (.tup zs)) (_:Its H zs tss) (_:Rd H d (.dT qL)) (_:qL.map (·.1)=IK mss) (_:IT H y ys) (_:(∀f∈tss,f.length<=1000)) (_:∀H',Same H H'->Q (.bl (Z9 tss mss ys)) H'):IspMet  vs H Q E
def b1Q:Sp:=λvs H Q E=>IspMet  vs H Q E
def b0a:FnScope ["told","listed","one"] ["told","listed","one"] (A1 a1d):={}
def b0t(F:FunAt K mg "is_met" a1d ["told","listed","one"])(T:Tx mg)(a:Ok P w K mg base "above_any" 2 ["some","one"] a2T):Ok P w K mg base "is_met" 3 ["told","listed","one"] b1Q:=by
 refine F.okJ b0a (λj H Q E h=>?_) (λg f A c s H j Q E e h=>?_)
 .obtain⟨t,d,y,zs,tss,qL,mss,ys,rfl,_⟩:=h;rfl
 .obtain⟨t,d,_,zs,tss,qL,mss,ys,rfl,ht,hI,hd,hk,⟨y,rfl,hy⟩,hL,k⟩:=h;have i:=e.u60;refine⟨_,(A4 (A8 (b9L (b8t i (jv 2) (jv 1) (by with_unfolding_all rfl)) (a0d (A6 a (e.mono (by omega)) rfl (jaC (jv 0) (jaC (jv 2) jaN))))))),?_⟩;refine⟨_,rfl,_,rfl,d,_,rfl,DGet.rd hd (by rw[a7S];exact hy),_,rfl,?_⟩;rw[a6Q hk];unfold Z9 at k;by_cases b:ys∈mss
  .rw[bj b]at k⊢;exact E5 (k _ (Same.refl _))
  .rw[bK b,eS]at k;rw[bK b];exact C9 ⟨_,rfl,_,rfl,t,_,zs,tss,ys,rfl,ht,hI,⟨y,rfl,hy⟩,hL,k⟩
structure Ps(H:Hp)(ra c t d:qE)(us zs:qA V)(qL:qA (qA Key×V))(rss tss mss:LLI)(cs:qA (qD Int)):Prop where
 r:H ra=some (.tup us)
 I:Its H us rss
 c:H c=some (.tup (cs.map cV))
 t:H t=some (.tup zs)
 J:Its H zs tss
 d:Rd H d (.dT qL)
def Ps.same{H H':Hp}{ra c t d:qE}{us zs:qA V}{qL:qA (qA Key×V)}{rss tss a:LLI}{cs:qA (qD Int)}(h:Ps H ra c t d us zs qL rss tss a cs)(s:Same H H'):Ps H' ra c t d us zs qL rss tss a cs:=⟨s _ _ h.r,h.I.same s,s _ _ h.c,s _ _ h.t,h.J.same s,b4S h.d s⟩
structure Pk(us:qA V)(qL:qA (qA Key×V))(rss tss mss:LLI)(cs:qA (qD Int)):Prop where
 ul:us.length<=1000
 R:Rs cs.length rss
 n1:1<=cs.length
 n2:cs.length<=100
 k:qL.map (·.1)=IK mss
 T:∀v∈tss,v.length=cs.length
 M:∀v∈mss,v.length=cs.length/\Sm v
inductive IspGoes(vs:qA V)(H:Hp)(Q:VK)(E:XK):Prop
 |mk (ra c t d:qE) (y:V) (us zs:qA V) (qL:qA (qA Key×V)) (rss tss mss:LLI) (cs:qA (qD Int)) (ys:qI) (_:vs=[.ref ra,.ref c,.ref t,.ref d,y]) (_:Ps H ra c t d us zs qL rss tss mss cs) (_:Pk us qL rss tss mss cs) (_:IT H y ys) (_:ys∈mss) (_:∀H',Same H H'->Q (.bl (goI rss cs tss mss ys)) H'):IspGoes  vs H Q E
def b1R:Sp:=λvs H Q E=>IspGoes  vs H Q E
def a7A:FnScope ["rows","caps","told","listed","one"] ["rows","caps","told","listed","one"] (A1 a0r):={}
def a7M(F:FunAt K mg "goes_on" a0r ["rows","caps","told","listed","one"])(T:Tx mg)(a:Ok P w K mg base "above_any" 2 ["some","one"] a2T)(b:Ok P w K mg base "is_answer" 3 ["rows","one"] a2u)(l:Ok P w K mg base "steps" 4 ["rows","caps","one"] a5c)(g:Ok P w K mg base "is_met" 3 ["told","listed","one"] b1Q):Ok P w K mg base "goes_on" 5 ["rows","caps","told","listed","one"] b1R:=by
 refine F.okJ a7A (λvs H Q E h=>?_) (λU f A D s H vs Q E x h=>?_)
 .obtain⟨ra,c,t,d,y,us,zs,qL,rss,tss,mss,cs,ys,rfl,_⟩:=h;rfl
 .obtain⟨ra,c,t,d,y,us,zs,qL,rss,tss,mss,cs,ys,rfl,S,W,hy,hm,k⟩:=h;have n:∀f∈tss,f.length<=1000:=λf V=>by rw[W.T f V];have:=W.n2;omega
  obtain⟨o,u⟩:=W.M ys hm;have X:=W.n2;refine⟨_,(A2 (C7 (C6 K (A6 a (x.mono (by omega)) rfl (jaC (jv 2) (jaC (jv 4) jaN))))
 (A4 (A8 N8))
 B6)
 (A2 (C7 (C6 K (A6 b (x.mono (by omega)) rfl (jaC (jv 0) (jaC (jv 4) jaN))))
 (A4 (A8 N8))
 B6)
 (A4 (A8 (P0 K rfl T.b_all (jaC (B7 (N:=["j","more","told","listed"]) (src:=[none,none,some 2,some 3]) (F0 K (A6 l (x.mono (by omega)) rfl (jaC (jv 0) (jaC (jv 1) (jaC (jv 4) jaN))))) (by show B9 _ _=true;rfl) (by rfl) (by rfl)
 (λ_ _ _ _ _=>(O8 K 2 (B5 (A7 (i:=0) (L2.nd ["j","more","told","listed"]) rfl (Or.inl rfl)) (B5 (A7 (i:=1) (L2.nd ["j","more","told","listed"]) rfl (Or.inl rfl)) K2)))) (λ_ _ _ _ _=>C1) (λ_ _ _ _ _=>(A6 g (x.mono (by omega)) rfl (jaC (jv 2) (jaC (jv 3) (jaC (jv 1) jaN)))))) jaN)))))),?_⟩
  refine⟨_,rfl,_,rfl,t,y,zs,tss,ys,rfl,S.t,S.J,hy,n,λH1 s1=>⟨_,rfl,?_⟩⟩;unfold goI at k;cases e:tss.any λt=>Bel t ys with
  |true =>
   rw[e,Bool.true_or]at k;exact E5 (k _ s1)
  |false =>
   rw[e,eS]at k;have I:=S.same s1;refine C9 ⟨_,rfl,_,rfl,ra,y,us,rss,ys,rfl,I.r,I.I,hy.same s1,W.ul,λr C=>by rw[(W.R r C).1];omega,u,λH2 s2=>⟨_,rfl,?_⟩⟩;have m:=s1.trans s2;cases J:Ans rss ys with
   |true =>
    rw[J]at k;exact E5 (k _ m)
   |false =>
    rw[J,Bool.not_false,Bool.true_and]at k;have z:=S.same m;refine C9 ⟨_,rfl,_,rfl,_,rfl,ra,c,y,us,rss,cs,ys,rfl,z.r,z.I,z.c,hy.same m,W.ul,by omega,o.symm,by rw[o];exact W.R,u,λp ps H3 O M L=>?_⟩;refine⟨p,rfl,⟨_,SqL.of M⟩,?_⟩;have Y:(StP rss cs ys).length<=ys.length:=bh (bu _ _) (bh (bu _ _) (by simp));refine b5e (caps:=[some (.ref t),some (.ref d)]) (λj=>Z9 tss mss (bump ys j)) (by rw[L.1];omega) M L rfl (λj v R Q4 hj Z G q=>?_) λR p4 G B=>?_
    .have S4:=S.same (m.trans (O.trans G));exact⟨_,rfl,_,rfl,_,rfl,t,d,v,zs,tss,qL,mss,bump ys j,rfl,S4.t,S4.J,S4.d,W.k,Z,n,q⟩
    .refine⟨false,p4,_,rfl,SqL.of A0,X0 _ _,?_⟩;rw[a0U];exact k _ (m.trans (O.trans (G.upd B)))
structure Shw(rss:LLI)(cs:qA (qD Int))(tss pss:LLI):Prop where
 tv:tss.all (a1v cs.length)=true
 pv:pss.all (a1v cs.length)=true
 fit:(tss++pss).all (a8d cs)=true
 an:Anti rss tss
 fst:(P9 cs).all (Z9 tss pss)=true
 go:pss.all (goI rss cs tss pss)=true
inductive IspShows(vs:qA V)(H:Hp)(Q:VK)(E:XK):Prop
 |mk (ra c t p:qE) (us zs ws:qA V) (rss tss pss:LLI) (cs:qA (qD Int)) (_:vs=[.ref ra,.ref c,.ref t,.ref p]) (_:H ra=some (.tup us)) (_:Its H us rss) (_:us.length<=1000) (_:H c=some (.tup (cs.map cV))) (_:1<=cs.length) (_:cs.length<=100) (_:Rs cs.length rss) (_:H t=some (.tup zs)) (_:Its H zs tss) (_:zs.length<=1000) (_:H p=some (.tup ws)) (_:Its H ws pss) (_:ws.length<=100000) (_:(∀v∈tss++pss,v.length<=1000/\Sm v)) (_:∀b H',Same H H'->(b=true↔Shw rss cs tss pss)->Q (.bl b) H'):IspShows  vs H Q E
def a8M:Sp:=λvs H Q E=>IspShows  vs H Q E
def a4u{a b:LLI}(h:∀r,r∈a↔r∈b):Z9 tss a=Z9 tss b:=by
 funext v;unfold Z9;congr 1;rw[cz,bD,bD];exact h v
def b3K{a b:LLI}(h:∀r,r∈a↔r∈b):goI rss cs tss a=goI rss cs tss b:=by
 funext v;unfold goI;rw[a4u h]
def a8B{l:LLI}(h:l.all (a1v n)=true):∀v∈l,v.length=n:=λv a=>by
 have:=aS.mp h v a;unfold a1v at this;rw[aO]at this;exact bp this.1
def sc_shows:FnScope ["rows","caps","told","paper","listed"] ["rows","caps","told","paper"] (A1 a2y):={}
def b2V(F:FunAt K mg "shows" a2y ["rows","caps","told","paper"])(T:Tx mg)(a:Ok P w K mg base "are_vectors" 3 ["value","width"] a5b)(m:Ok P w K mg base "all_fit" 2 ["caps","some"] a6o)(l:Ok P w K mg base "are_least" 4 ["rows","told"] a2S)(y:Ok P w K mg base "is_met" 3 ["told","listed","one"] b1Q)(e:Ok P w K mg base "first_steps" 2 ["caps"] a5h)(n:Ok P w K mg base "goes_on" 5 ["rows","caps","told","listed","one"] b1R):Ok P w K mg base "shows" 6 ["rows","caps","told","paper"] a8M:=by
 refine F.okJ sc_shows (λvs H Q E h=>?_) (λd6 f A c6 s H vs Q E R h=>?_)
 .obtain⟨ra,c,t,p,us,zs,ws,rss,tss,pss,cs,rfl,_⟩:=h;rfl
 .obtain⟨ra,c,t,p,us,zs,ws,rss,tss,pss,cs,rfl,hra,hI,hul,hc,n1,n2,hR,ht,hJ,hzl,hp,hM,hwl,hV,k⟩:=h;have hu:=R.u60;have hz:(300000:Nat)<=sizeLine:=by rw[aU];decide
  have Y:∀v∈tss,v.length<=1000/\Sm v:=λv j=>hV v (aQ _ j);have a4:∀v∈pss,v.length<=1000/\Sm v:=λv j=>hV v (aR _ j);refine⟨_,(A2 (C7 (a1j (a2e (G2 (C6 K (A6 a (R.mono (by omega)) rfl (jaC (jv 2) (jaC (G8 K rfl T.b_len (jaC (jv 1) jaN)) jaN))))) (a0R (G2 (C6 K (A6 a (R.mono (by omega)) rfl (jaC (jv 3) (jaC (G8 K rfl T.b_len (jaC (jv 1) jaN)) jaN))))))))
 (A4 (A8 N8))
 B6)
 (A2 (C7 (a1j (a2e (G2 (C6 K (A6 m (R.mono (by omega)) rfl (jaC (jv 1) (jaC (N7 (jv 2) (jv 3)) jaN))))) (a0R (G2 (C6 K (A6 l (R.mono (by omega)) rfl (jaC (jv 0) (jaC (jv 2) jaN))))))))
 (A4 (A8 N8))
 B6)
 (A2 (B1 (i:=4) sc_shows.nd rfl (Or.inr rfl) (b3x hu rfl T.b_dict (jaC (B7 (N:=["one"]) (src:=[none]) (G7 K (jv 3)) (by show B9 _ _=true;rfl) (by rfl) (by rfl)
 (λ_ _ _ _ _=>(A7 (i:=0) (L2.nd ["one"]) rfl (Or.inl rfl))) (λ_ _ _ _ _=>C1) (λ_ _ _ _ _=>(E3 (jaC (jv 0) (jaC N8 jaN))))) jaN)))
 (A2 (C7 (G2 (C6 K (P0 K rfl T.b_all (jaC (B7 (N:=["one","told","listed"]) (src:=[none,some 2,some 4]) (G7 K (A6 e (R.mono (by omega)) rfl (jaC (jv 1) jaN))) (by show B9 _ _=true;rfl) (by rfl) (by rfl)
 (λ_ _ _ _ _=>(A7 (i:=0) (L2.nd ["one","told","listed"]) rfl (Or.inl rfl))) (λ_ _ _ _ _=>C1) (λ_ _ _ _ _=>(A6 y (R.mono (by omega)) rfl (jaC (jv 1) (jaC (jv 2) (jaC (jv 0) jaN)))))) jaN))))
 (A4 (A8 N8))
 B6)
 (A4 (A8 (P0 K rfl T.b_all (jaC (B7 (N:=["one","rows","caps","told","listed"]) (src:=[none,some 0,some 1,some 2,some 4]) (b5S (jv 4)) (by show B9 _ _=true;rfl) (by rfl) (by rfl)
 (λ_ _ _ _ _=>(A7 (i:=0) (L2.nd ["one","rows","caps","told","listed"]) rfl (Or.inl rfl))) (λ_ _ _ _ _=>C1) (λ_ _ _ _ _=>(A6 n (R.mono (by omega)) rfl (jaC (jv 1) (jaC (jv 2) (jaC (jv 3) (jaC (jv 4) (jaC (jv 0) jaN)))))))) jaN)))))))),?_⟩
  refine⟨_,rfl,_,rfl,c,_,rfl,.inr (SqT.of hc),t,zs,tss,cs.length,_,rfl,by rw[ai],ht,hJ,by omega,λr D=>(Y r D).1,λH1 s1=>⟨_,rfl,?_⟩⟩;cases e1:tss.all (a1v cs.length)with
  |false=>exact E5 (k _ _ s1 ⟨(λz=>nomatch z),λh=>by rw[h.tv]at e1;cases e1⟩)
  |true =>
  refine C9 ⟨_,rfl,_,rfl,c,_,rfl,.inr (SqT.of (s1 _ _ hc)),p,ws,pss,cs.length,_,rfl,by rw[ai],s1 _ _ hp,hM.same s1,by omega,λr D=>(a4 r D).1,λH2 s2=>⟨_,rfl,?_⟩⟩;have M:=s1.trans s2;cases e2:pss.all (a1v cs.length)with
  |false=>exact E5 (k _ _ M ⟨(λz=>nomatch z),λh=>by rw[h.pv]at e2;cases e2⟩)
  |true =>
  have a3:=a8B e1;have c1:=a8B e2;refine C9 ?_;refine⟨_,rfl,_,rfl,_,rfl,t,p,zs,ws,rfl,rfl,M _ _ ht,M _ _ hp,by omega,λq H3 s3 hq=>?_⟩;have O:=M.trans s3;have b9:Its H3 (zs++ws) (tss++pss):=a5F (hJ.same O) (hM.same O);refine⟨c,q,_,_,cs,rfl,O _ _ hc,by omega,hq,b9,by rw[ar];omega,λH4 s4=>⟨_,rfl,?_⟩⟩;have B:=O.trans s4;cases e3:(tss++pss).all (a8d cs)with
  |false=>exact E5 (k _ _ B ⟨(λz=>nomatch z),λh=>by rw[h.fit]at e3;cases e3⟩)
  |true =>
  refine C9 ⟨_,rfl,_,rfl,ra,t,us,zs,rss,tss,cs.length,rfl,B _ _ hra,hI.same B,hul,λr D=>by rw[(hR r D).1];omega,B _ _ ht,hJ.same B,hzl,n1,by omega,λv j=>⟨a3 v j,(Y v j).2⟩,λb5 H5 s5 h5=>⟨_,rfl,?_⟩⟩;have I:=B.trans s5;cases b5 with
  |false=>exact E5 (k _ _ I ⟨(λz=>nomatch z),λh=>by have:=h5.mpr h.an;cases this⟩)
  |true =>
  have b8:=h5.mp rfl;refine C9 ?_;have a7:=I _ _ hp;have c0:=hM.same I;refine⟨_,rfl,p,rfl,⟨_,SqT.of a7⟩,?_⟩;refine P8 (K:=K) (xs:=ws) (by omega) (λi qs H'=>Same H5 H'/\PrT H' qs (pss.take i)) ⟨Same.refl H5,PrT.nil⟩ (λi qs H' _ h=>⟨SqT.of (h.1 _ _ a7),by rw[h.2.1];exact bE _ _⟩) ?_ ?_
  .rintro i x qs H' hx ⟨s',hP'⟩;obtain⟨r,e0,c4,c5⟩:=c0.mem hx;refine⟨Sub.one,_,rfl,by show 2<=sizeLine;omega,λp8 c3=>?_⟩;have J:=(Same.refl H').upd (o:=.tup [x,.bl true]) c3;refine⟨s'.trans J,?_⟩;rw[ba,c4];exact(hP'.same J).snoc A0 ((c5.same s').same J)
  rintro qs H6 ⟨s6,X⟩ p6 a8;rw[hM.1,bg]at X;have s7:=(Same.refl H6).upd (o:=.lst qs) a8;refine⟨p6,qs,pss,rfl,A0,X.same s7,λd qL b hd hk u=>?_⟩;have J:=I.trans ((s6.trans s7).upd (o:=.dT qL) hd);have e8:upd (upd H6 p6 (.lst qs)) d (.dT qL) d=some (.dT qL):=A0;have c2:H d=none:=I.free ((s6.trans s7).free hd);generalize upd (upd H6 p6 (.lst qs)) d (.dT qL)=H8 at J e8;clear hd s7 X s6 a8;dsimp only[B0];have em:=a4u (tss:=tss) u.mem;have b7:=b3K (rss:=rss) (tss:=tss) (cs:=cs) u.mem;have W:Pk us qL rss tss b cs:=⟨hul,hR,n1,n2,hk,a3,λv j=>⟨c1 v ((u.mem v).mp j),(a4 v ((u.mem v).mp j)).2⟩⟩;have S8:Ps H8 ra c t d us zs qL rss tss b cs:=⟨J _ _ hra,hI.same J,J _ _ hc,J _ _ ht,hJ.same J,.inl e8⟩;refine⟨_,rfl,c,cs,rfl,S8.c,n1,n2,λq9 d0 fss H9 s9 a9 a2 Z d2=>?_⟩;have d7:d0.length<=100:=by
   rw[a2.1,Z.length_eq];exact bh (bu _ _) (by simp;omega)
  refine⟨q9,rfl,⟨_,SqT.of a9⟩,?_⟩;refine a0Y (caps:=[some (.ref t),some (.ref d)]) (λr=>V.bl (Z9 tss b r)) (by omega) (λH' s=>SqT.of (s _ _ a9)) a2 rfl (λv r a1 d3 d1 j a0 c8=>?_) λa1 b1 a0 a5=>?_
  .have S10:=S8.same (s9.trans a0);exact⟨_,rfl,_,rfl,_,rfl,t,d,v,zs,tss,qL,b,r,rfl,S10.t,S10.J,S10.d,hk,j,λf hf=>(Y f hf).1,c8⟩
  have L:=(s9.trans a0).upd (o:=.lst (fss.map λr=>V.bl (Z9 tss b r))) a5;refine⟨false,b1,_,rfl,SqL.of A0,X0 _ _,?_⟩;rw[a0U];have ef:fss.all (Z9 tss b)=(P9 cs).all (Z9 tss pss):=by
   rw[em];rw[cz,aS,aS];exact⟨λh v j=>h v (Z.mem_iff.mpr j),λh v j=>h v (Z.mem_iff.mp j)⟩
  rw[ef];generalize upd a1 b1 (.lst (fss.map λr=>V.bl (Z9 tss b r)))=C at L;have S:=J.trans L;refine⟨_,rfl,?_⟩;cases e4:(P9 cs).all (Z9 tss pss)with
  |false=>exact E5 (k _ _ S ⟨(λz=>nomatch z),λh=>by rw[h.fst]at e4;cases e4⟩)
  |true =>
  refine C9 ?_;have b6:=L _ _ e8;have d5:=S8.same L;refine⟨_,rfl,d,qL,rfl,b6,λob=>?_⟩;have off:Off [d] C (upd C d (.frz ob (.dT qL))):=(Off.refl _ _).set (by simp);have U:upd C d (.frz ob (.dT qL)) d=some (.frz ob (.dT qL)):=A0;have g:Same H (upd C d (.frz ob (.dT qL))):=a2Y S c2 off;generalize upd C d (.frz ob (.dT qL))=b2 at g U;have b4:Ps b2 ra c t d us zs qL rss tss b cs:=⟨g _ _ hra,hI.same g,g _ _ hc,g _ _ ht,hJ.same g,.inr ⟨ob,U⟩⟩;have d8:=b3G hk;have d9:b.length<=100000:=by have:=u.le;rw[<-hM.1]at this;omega
  refine b0R (caps:=[some (.ref ra),some (.ref c),some (.ref t),some (.ref d)]) (λr=>V.bl (goI rss cs tss b r)) (by omega) U hk rfl (λv r b3 d4 b0 j G c9=>?_) λb3 c7 G a6=>?_
  .have S13:=b4.same G;exact⟨_,rfl,_,rfl,_,rfl,_,rfl,_,rfl,ra,c,t,d,v,us,zs,qL,rss,tss,b,cs,r,rfl,S13,W,j,b0,c9⟩
  .refine⟨false,c7,_,rfl,SqL.of A0,X0 _ _,?_⟩;rw[a0U];have ea:b.all (goI rss cs tss b)=pss.all (goI rss cs tss pss):=by
    rw[b7];rw[cz,aS,aS];exact⟨λh v j=>h v ((u.mem v).mpr j),λh v j=>h v ((u.mem v).mp j)⟩
   rw[ea];refine k _ _ (g.trans (G.upd a6)) ⟨λh=>⟨e1,e2,e3,b8,e4,h⟩,λh=>h.go⟩
end
def a9u(a:∀x∈v,0<=x):a8d cs v=true↔0<v.sum/\Wi cs v=true:=by
 unfold a8d;rw[aO];refine and_congr_left λ_=>?_;rw[bJ];constructor
 .rintro⟨x,hx,h⟩;have h1:¬x=0:=by simpa using h
  have h2:=a x hx;exact a8I v a x hx (by omega)
 .intro h;obtain⟨j,b,h1⟩:=a7G a h;rw[aq,aj b]at h1;have h1:1<=v[j]:=h1;exact⟨v[j],cB _,by simp;omega⟩
def vecI_iff:a1v n v=true↔v.length=n/\∀x∈v,0<=x:=by
 unfold a1v;rw[aO,bD,aS];exact and_congr_right λ_=>⟨λh x a=>bp (h x a),λh x a=>bj (h x a)⟩
def b4H{F W c:LLI}(hR:∀r∈rss,r.length=cs.length)(h:Wk rss cs F W [] k)(g:tss.Perm F)(o:C8 tss)(l:∀v∈c,v.length=cs.length/\(∀x∈v,0<=x)/\0<v.sum/\Wi cs v=true)(n:∀v∈c,v∈W∨(tss.any λt=>Bel t v)=true)(q:∀v∈W,v∈c∨(tss.any λt=>Bel t v)=true):Shw rss cs tss c:=by
 have d:∀v,v∈tss↔Least rss cs v:=λv=>g.mem_iff.trans (h.least hR v);have m:tss.Nodup:=g.symm.nodup h.nd.2;have pap:=h.pap hR;have met:∀v,v∈W->Z9 tss c v=true:=λv b=>by
  unfold Z9;rcases q v b with z|z
  .rw[bj z,Bool.true_or]
  .rw[z,fT]
 refine⟨aS.mpr λv b=>?_,aS.mpr λv b=>?_,aS.mpr λv b=>?_,⟨o,m,λv b=>?_,λv b=>((d v).mp b).an.ans⟩,aS.mpr λv b=>met v (pap.fst v b),aS.mpr λv b=>?_⟩
 .exact vecI_iff.mpr ⟨((d v).mp b).an.len,((d v).mp b).an.nn⟩
 .exact vecI_iff.mpr ⟨(l v b).1,(l v b).2.1⟩
 .rcases aD.mp b with z|z
  .have:=(d v).mp z;exact(a9u this.an.nn).mpr ⟨this.an.pos,this.wi⟩
  .have:=l v z;exact(a9u this.2.1).mpr this.2.2
 .unfold Lst;rw[ei,fv];intro u C i;rw[aO]at i;have h1:=(d u).mp C;have h2:=(d v).mp b;have:=h2.min u h1.an ((J2 (by rw[h1.an.len,h2.an.len])).mp i.2);rw[this]at i;simp at i
 .obtain⟨h1,h2,h3,h4⟩:=l v b;unfold goI;cases s:tss.any λt=>Bel t v with
  |true=>rfl
  |false =>
   have p:v∈W:=(n v b).resolve_right (by rw[s];decide);rw[eS,aO,ei];constructor
   .cases e:Ans rss v with
    |false=>rfl
    |true =>
     obtain⟨a,w,y⟩:=X4 v.sum.toNat (by omega) ⟨h1,h2,e,h3⟩ h4;have:=fv.mp s a ((d a).mpr w);rw[(J2 (by rw[w.an.len,h1])).mpr y]at this;exact absurd rfl this
   .rw[aS];intro j B;rcases pap.nx v p (by simp) j B with z|⟨f,A,i⟩
    .exact met _ z
    .unfold Z9;rw[bJ.mpr ⟨f,g.mem_iff.mpr A,i⟩,fT]
end K28
namespace K28
open PySem PySem.Spec PyProof.Rows L2
def a6L:∀{a b:qI}{x y:Int},a.length=b.length->HT.lexLt (a++[x]) (b++[y])=if a=b then decide (x<y)else HT.lexLt a b
 |[],[],x,y,_=>by
  show(if x=y then HT.lexLt [] [] else decide (x<y))=_;by_cases e:x=y
  .subst e;rw[av rfl,av rfl];exact(bK (Int.lt_irrefl x)).symm
  .rw[ao e];rfl
 |u::a,v::b,x,y,h=>by
  have d:=a6L (a:=a) (b:=b) (x:=x) (y:=y) (by simpa using h);rw[dS,dS,HT.lexLt_cons,HT.lexLt_cons,d];by_cases e:u=v
  .subst e;rw[av rfl,av rfl];by_cases c:a=b
   .subst c;simp
   .rw[ao c,ao (λz=>c (List.cons.inj z).2)]
  .rw[ao e,ao e,ao (λz=>e (List.cons.inj z).1)]
def a5I{t:Int}{n:Nat}{c:LLI}(j:∀v∈c,v.length=n+1)(l:C8 c)(k:c.Nodup):C8 (G9 t c)/\(G9 t c).Nodup:=by
 have hw:∀v∈c.filter (λv=>decide (v.getLast?=some t)),v=v.dropLast++[t]:=λv i=>by
  obtain⟨ys,rfl⟩:=dO.mp (bp (aW.mp i).2);rw[fZ]
 have d:∀v∈c.filter (λv=>decide (v.getLast?=some t)),v.dropLast.length=n:=λv i=>by
  rw[List.length_dropLast,j v (aW.mp i).1];rfl
 unfold G9 C8;constructor
 .rw[bL];refine List.Pairwise.imp_of_mem (λ{a b} f g h=>?_) (l.filter _);rw[hw a f,hw b g,a6L (by rw[d a f,d b g])]at h;by_cases e:b.dropLast=a.dropLast
  .rw[e];exact G6 _
  .rw[ao e]at h;exact h
 .refine bL.mpr (List.Pairwise.imp_of_mem (λ{a b} f g h e=>h ?_) (k.filter _));rw[hw a f,hw b g,e]
section
variable {P:qG}{w:World}{K:qF}{mg:Str->qD qB}{base:Heap}
inductive IspRis(vs:qA V)(H:Hp)(Q:VK)(E:XK):Prop
 |mk (p:qE) (us:qA V) (rss:LLI) (n:Nat) (_:vs=[.ref p,.int n]) (_:H p=some (.tup us)) (_:Its H us rss) (_:us.length<=1000) (_:1<=n) (_:n<=1000) (_:(∀r∈rss,r.length=n/\∀x∈r,0<=x)) (_:C8 rss) (_:rss.Nodup) (_:∀H',Same H H'->Q (.bl true) H'):IspRis  vs H Q E
def b6C:Sp:=λvs H Q E=>IspRis  vs H Q E
def a3X:FnScope ["value","width"] ["value","width"] (A1 M8):={}
def b8g(F:FunAt K mg "are_rising" M8 ["value","width"])(T:Tx mg)(b:Ok P w K mg base "are_vectors" 3 ["value","width"] a5b):Ok P w K mg base "are_rising" 4 ["value","width"] b6C:=by
 refine F.okJ a3X (λR H Q E h=>?_) (λL f A y s H R Q E c h=>?_)
 .obtain⟨p,us,rss,n,rfl,_⟩:=h;rfl
 .obtain⟨p,us,rss,n,rfl,hp,hI,hul,n1,n2,hR,hri,hnd,kk⟩:=h;have S:(3000:Nat)<=sizeLine:=by rw[aU];decide
  have I:=c.u60;refine⟨_,(A4 (A8 (U8 (A6 b (c.mono (by omega)) rfl (jaC (jv 0) (jaC (jv 1) jaN))) (a0d (b3n K I (a9n K rfl T.b_list (jaC (jv 0) jaN)) (a6U P w rfl T.b_sorted (jaC (a9m K P w I rfl T.b_set (jaC (jv 0) jaN)) jaN))))))),?_⟩;refine⟨_,rfl,_,rfl,p,us,rss,n,_,rfl,rfl,hp,hI,by omega,(λr c=>by rw[(hR r c).1];exact n2),λH1 s1=>⟨true,?_,E5 ?_⟩⟩
  .exact aP V.bl (aS.mpr λr c=>vecI_iff.mpr (hR r c))
  refine⟨_,rfl,p,us,rfl,.inr (SqT.of (s1 _ _ hp)),λl O=>?_⟩;have s2:=s1.upd (o:=.lst us) O;have D:upd H1 l (.lst us) l=some (.lst us):=A0;generalize upd H1 l (.lst us)=H2 at s2 D;refine⟨_,rfl,true,p,us,rss,rfl,SqT.of (s2 _ _ hp),hI.same s2,hul,λa xs N j d t=>?_⟩;have z:=(Same.refl H2).upd (o:=a1y P w a xs) N;have G:upd H2 a (a1y P w a xs) a=some (a1y P w a xs):=A0;generalize upd H2 a (a1y P w a xs)=J at z G;have u:xs.length<=1000:=by
   have:=b6R (xs.map (·.1)) rss j λr c=>(d r).mp c;rw[ai,<-hI.1]at this;omega
  refine⟨a,xs,rfl,G,λx q=>(t x q).same z,λx q=>by
   have:=(hR x.1 ((d x.1).mp (aT.mpr ⟨x,q,rfl⟩))).1;omega,u,λU zs C e m g i=>?_⟩
  have B:=z.upd (o:=.lst zs) e;have M:rss=C:=Z7 hri i hnd (g.symm.nodup j) λv=>(d v).symm.trans g.mem_iff.symm;refine⟨2,_,by decide,EqV.its (k:=false) (SqL.of (B _ _ D)) (SqL.of A0) (hI.same (s2.trans B)) (m.same ((Same.refl J).upd e)),⟨_,_,rfl,rfl⟩,?_⟩;rw[bj M];exact kk _ (s2.trans B)
inductive IspShB(vs:qA V)(H:Hp)(Q:VK)(E:XK):Prop
 |mk (ra sa pt pb pp:qE) (us ts ys ws:qA V) (rss wss pss:LLI) (ss:qI) (n:Nat) (B:Int) (_:vs=[.ref ra,.ref sa,.int n,.ref pt,.ref pb,.ref pp]) (_:Ry H ra us rss n B) (_:B<=10000000000000) (_:ss.length=rss.length) (_:Bd 10000000000000 ss) (_:H sa=some (.tup (ss.map V.int))) (_:1<=n) (_:n<=8) (_:H pt=some (.tup ts)) (_:Its H ts (G9 1 wss)) (_:H pb=some (.tup ys)) (_:Its H ys (G9 0 wss)) (_:wss.length<=900) (_:C8 wss) (_:wss.Nodup) (_:(∀v∈wss,v.length=n+1/\(∀x∈v,0<=x/\x<=1000)/\(v.getLast?=some 1∨v.getLast?=some 0))) (_:H pp=some (.tup ws)) (_:Its H ws pss) (_:ws.length<=100000) (_:(∀v∈pss,v.length<=1000/\Sm v)) (_:∀b H',Same H H'->(b=true↔Shw (sdS rss ss) (sdC n) wss pss)->Q (.bl b) H'):IspShB  vs H Q E
def b6B:Sp:=λvs H Q E=>IspShB  vs H Q E
def sc_shows_beyond:FnScope ["rows","sides","width","told","base","paper","both"] ["rows","sides","width","told","base","paper"] (A1 J4):={}
def b8f(F:FunAt K mg "shows_beyond" J4 ["rows","sides","width","told","base","paper"])(T:Tx mg)(c:Ok P w K mg base "are_rising" 4 ["value","width"] b6C)(m:Ok P w K mg base "sided" 1 ["rows","sides"] a5e)(d:Ok P w K mg base "sided_caps" 2 ["width"] Z2)(l:Ok P w K mg base "shows" 6 ["rows","caps","told","paper"] a8M):Ok P w K mg base "shows_beyond" 7 ["rows","sides","width","told","base","paper"] b6B:=by
 refine F.okJ sc_shows_beyond (λvs H Q E h=>?_) (λc9 f A c1 s H vs Q E j h=>?_)
 .obtain⟨ra,sa,pt,pb,pp,us,ts,ys,ws,rss,wss,pss,ss,n,B,rfl,_⟩:=h;rfl
 .obtain⟨ra,sa,pt,pb,pp,us,ts,ys,ws,rss,wss,pss,ss,n,B,rfl,hR,hB1,hsl,hsb,hsa,n1,n8,hpt,hts,hpb,hys,hwl,hri,hnd,hwv,hpp,hws,hpl,hpv,kk⟩:=h;have hz:(3000:Nat)<=sizeLine:=by rw[aU];decide
  have hu:=j.u60;refine⟨_,(A2 (C7 (a1j (a2e (G2 (C6 K (A6 c (j.mono (by omega)) rfl (jaC (jv 3) (jaC (jv 2) jaN))))) (a0R (G2 (C6 K (A6 c (j.mono (by omega)) rfl (jaC (jv 4) (jaC (jv 2) jaN))))))))
 (A4 (A8 N8))
 B6)
 (A2 (B1 (i:=6) sc_shows_beyond.nd rfl (Or.inl rfl) (a3y K rfl T.b_sorted (jaC (b6W (B7 (N:=["one"]) (src:=[none]) (G7 K (jv 3)) (by show B9 _ _=true;rfl) (by rfl) (by rfl)
 (λ_ _ _ _ _=>(A7 (i:=0) (L2.nd ["one"]) rfl (Or.inl rfl))) (λ_ _ _ _ _=>C1) (λ_ _ _ _ _=>(N7 (jv 0) (E3 (jaC A3 jaN))))) (B7 (N:=["one"]) (src:=[none]) (G7 K (jv 4)) (by show B9 _ _=true;rfl) (by rfl) (by rfl)
 (λ_ _ _ _ _=>(A7 (i:=0) (L2.nd ["one"]) rfl (Or.inl rfl))) (λ_ _ _ _ _=>C1) (λ_ _ _ _ _=>(N7 (jv 0) (E3 (jaC A3 jaN)))))) jaN)))
 (A4 (A8 (A6 l (j.mono (by omega)) rfl (jaC (A6 m (j.mono (by omega)) rfl (jaC (jv 0) (jaC (jv 1) jaN))) (jaC (A6 d (j.mono (by omega)) rfl (jaC (jv 2) jaN)) (jaC (C2 K rfl T.b_tuple (jaC (jv 6) jaN)) (jaC (jv 5) jaN))))))))),?_⟩
  obtain⟨r1,d1⟩:=a5I (t:=1) (λv k=>(hwv v k).1) hri hnd;obtain⟨r0,d0⟩:=a5I (t:=0) (λv k=>(hwv v k).1) hri hnd;have a4:∀t:Int,(G9 t wss).length<=wss.length:=λt=>by unfold G9;rw[ai];exact bu _ _
  have l1:=a4 1;have l0:=a4 0;have I:∀(t:Int) v,v∈G9 t wss->v.length=n/\∀x∈v,0<=x:=λt v k=>by
   obtain⟨h1,h2,_⟩:=hwv _ (mem_endL.mp k);exact⟨by simpa using h1,λx hx=>(h2 x (aQ _ hx)).1⟩
  have d3:=hts.1;have d4:=hys.1;refine⟨_,rfl,_,rfl,pt,ts,G9 1 wss,n,rfl,hpt,hts,by omega,n1,by omega,I 1,r1,d1,λH1 s1=>⟨true,rfl,C9 ?_⟩⟩;refine⟨_,rfl,_,rfl,pb,ys,G9 0 wss,n,rfl,s1 _ _ hpb,hys.same s1,by omega,n1,by omega,I 0,r0,d0,λH2 s2=>⟨true,rfl,C9 ?_⟩⟩;have L:=s1.trans s2;refine⟨_,rfl,pt,rfl,⟨_,SqT.of (L _ _ hpt)⟩,?_⟩;refine a6a (caps:=[]) (λv=>v++[1]) (by omega) (λH' s=>SqT.of (s _ _ (L _ _ hpt))) (hts.same L) rfl (λv r H3 Q3 j k s3 q=>?_) λH3 p3 S s3 b5 b2=>?_
  .obtain⟨va,rfl,hva⟩:=k;refine⟨_,rfl,by show 1<=sizeLine;omega,λp4 b6=>?_⟩;have s4:=(Same.refl H3).upd (o:=.tup [.int 1]) b6;exact⟨va,p4,_,_,rfl,rfl,s4 _ _ hva,A0,by rw[ai,(I 1 r j).1];show n+1<=_;omega,λp5 H5 s5 e5=>q _ _ (s4.trans s5) ⟨p5,rfl,by rw[e5,bF];rfl⟩⟩
  have s4:=(Same.refl H3).upd (o:=.lst S) b5;have e4:upd H3 p3 (.lst S) p3=some (.lst S):=A0;have X:=b2.same s4;generalize upd H3 p3 (.lst S)=H4 at s4 e4 X;have M:=(L.trans s3).trans s4;refine⟨_,rfl,pb,rfl,⟨_,SqT.of (M _ _ hpb)⟩,?_⟩;refine a6a (caps:=[]) (λv=>v++[0]) (by omega) (λH' s=>SqT.of (s _ _ (M _ _ hpb))) (hys.same M) rfl (λv r H5 Q5 j k s5 q=>?_) λH5 p5 U s5 b7 b3=>?_
  .obtain⟨va,rfl,hva⟩:=k;refine⟨_,rfl,by show 1<=sizeLine;omega,λp6 b8=>?_⟩;have s6:=(Same.refl H5).upd (o:=.tup [.int 0]) b8;exact⟨va,p6,_,_,rfl,rfl,s6 _ _ hva,A0,by rw[ai,(I 0 r j).1];show n+1<=_;omega,λp7 H7 s7 e7=>q _ _ (s6.trans s7) ⟨p7,rfl,by rw[e7,bF];rfl⟩⟩
  have s6:=(Same.refl H5).upd (o:=.lst U) b7;have e6:upd H5 p5 (.lst U) p5=some (.lst U):=A0;have Y:=b3.same s6;generalize upd H5 p5 (.lst U)=H6 at s6 e6 Y;have Z:=s5.trans s6;have c2:=M.trans Z;have c5:=X.1;have c6:=Y.1;rw[ai]at c5 c6;refine⟨p3,p5,S,U,rfl,rfl,Z _ _ e4,e6,by omega,λp7 b9=>?_⟩;have s7:=(Same.refl H6).upd (o:=.lst (S++U)) b9;have e7:upd H6 p7 (.lst (S++U)) p7=some (.lst (S++U)):=A0;have a1:=((X.same Z).app Y).same s7;generalize upd H6 p7 (.lst (S++U))=H7 at s7 e7 a1;have c3:=c2.trans s7;have mB:∀v,v∈((G9 1 wss).map λv=>v++[1])++(G9 0 wss).map (λv=>v++[0])↔v∈wss:=λv=>by
   rw[aD,aT,aT];constructor
   .rintro(⟨u,hu,rfl⟩|⟨u,hu,rfl⟩)
    .exact mem_endL.mp hu
    .exact mem_endL.mp hu
   .intro k;rcases(hwv v k).2.2 with q|q
    .obtain⟨ys',rfl⟩:=dO.mp q;exact .inl ⟨ys',mem_endL.mpr k,rfl⟩
    .obtain⟨ys',rfl⟩:=dO.mp q;exact .inr ⟨ys',mem_endL.mpr k,rfl⟩
  have nB:(((G9 1 wss).map λv=>v++[1])++(G9 0 wss).map (λv=>v++[0])).Nodup:=by
   refine ez.mpr ⟨bL.mpr (d1.imp λ{a b} h e=>h (dV e)),bL.mpr (d0.imp λ{a b} h e=>h (dV e)),λx hx y hy e=>?_⟩;obtain⟨u,_,rfl⟩:=aT.mp hx;obtain⟨u2,_,rfl⟩:=aT.mp hy;have e2:=List.append_inj_right' e rfl;injection e2 with e2
   cases e2
  refine⟨p7,_,_,rfl,.inl (SqL.of e7),a1,λr j=>by rw[(hwv r ((mB r).mp j)).1];omega,λl8 G a8 b4 p a6 a7 _=>?_⟩;have b1:a8=wss:=Z7 a7 hri (a6.symm.nodup nB) hnd λv=>a6.mem_iff.trans (mB v);subst b1;have s8:=(Same.refl H7).upd (o:=.lst G) b4;have e8:upd H7 l8 (.lst G) l8=some (.lst G):=A0;have p:=p.same s8;generalize upd H7 l8 (.lst G)=H8 at s8 e8 p;have O:=c3.trans s8;dsimp only[B0];refine⟨_,rfl,_,rfl,ra,sa,us,rss,ss,rfl,O _ _ hR.e,hR.I.same O,by have:=hR.l;omega,λr j=>by rw[(hR.R r j).1];omega,hsl,O _ _ hsa,λq9 z9 H9 s9 c0 a2=>?_⟩;refine⟨_,rfl,n,_,rfl,rfl,n1,by omega,λb0 W R a3=>?_⟩;refine⟨_,rfl,l8,G,rfl,.inl ⟨SqL.of ((s9.trans R) _ _ e8),λJ a5=>?_⟩⟩;have D:=(Same.refl W).upd (o:=.tup G) a5;have a0:upd W J (.tup G) J=some (.tup G):=A0;generalize upd W J (.tup G)=c8 at D a0;have V:=(s9.trans R).trans D;have C:=O.trans V;have d5:=p.1;have c7:=a2.1;rw[a8S hsl,<-hR.I.1]at c7;have d2:=hR.l;refine⟨_,rfl,q9,b0,J,pp,z9,G,ws,sdS rss ss,a8,pss,sdC n,rfl,(R.trans D) _ _ c0,a2.same (R.trans D),by omega,D _ _ a3,by rw[C0];omega,by rw[C0];omega,λr j=>?_,a0,p.same V,by omega,C _ _ hpp,hws.same C,hpl,λv k=>?_,λbb a9 c4 hb=>kk bb a9 (C.trans c4) hb⟩
  .obtain⟨x,sz,hx,hsz,rfl⟩:=a5k j;refine⟨by rw[ar,(hR.R x hx).1,C0];rfl,λz hz=>?_⟩;rcases aD.mp hz with g|g
   .have:=(hR.R x hx).2 z g;omega
   .rw[aG.mp g];have:=hsb sz hsz;omega
  .rcases aD.mp k with g|g
   .obtain⟨g1,g2,_⟩:=hwv v g;exact⟨by omega,λz hz=>by have:=g2 z hz;omega⟩
   .exact hpv v g
end
end K28
namespace K28
open PySem PySem.Spec PyProof.Rows L2
def b8E{xs:qI}{j:Nat}(h:j<xs.length):xs.getD j 0∈xs:=by
 rw[aq,aj h];exact cB h
section
variable {P:qG}{w:World}{K:qF}{mg:Str->qD qB}{base:Heap}
def a3O:∀(r ys:qI),r.length=ys.length->((List.range ys.length).map λj=>r.getD j 0*ys.getD j 0).sum=dot r ys
 |[],[],_=>rfl
 |x::r,y::ys,h=>by
  have a:=a3O r ys (by simpa using h);rw[aZ,List.range_succ_eq_map,aV,bC,cG,E1];have e:((λj=>(x::r).getD j 0*(y::ys).getD j 0) ∘ Nat.succ)=λj=>r.getD j 0*ys.getD j 0:=rfl;rw[e,a];rfl
inductive IspSumsT(vs:qA V)(H:Hp)(Q:VK)(E:XK):Prop
 |mk (a:qE) (y:V) (us:qA V) (rss:LLI) (ys:qI) (_:vs=[.ref a,y]) (_:H a=some (.tup us)) (_:Its H us rss) (_:IT H y ys) (_:us.length<=1000) (_:ys.length<=1000) (_:(∀r∈rss,r.length=ys.length)) (_:Sm ys) (_:∀p H',Same H H'->H' p=some (.tup ((rss.map λr=>dot r ys).map V.int))->Q (.ref p) H'):IspSumsT  vs H Q E
def a8L:Sp:=λvs H Q E=>IspSumsT  vs H Q E
def a5p:FnScope ["_law_rows","_law_one"] ["_law_rows","_law_one"] (A1 R9):={}
def b2R(F:FunAt K mg "_law_sums" R9 ["_law_rows","_law_one"])(T:Tx mg):Ok P w K mg base "_law_sums" 1 ["_law_rows","_law_one"] a8L:=by
 refine F.okJ a5p (λu H Q E h=>?_) (λl f A g s H u Q E e h=>?_)
 .obtain⟨a,y,us,rss,ys,rfl,_⟩:=h;rfl
 .obtain⟨a,_,us,rss,ys,rfl,ha,hI,⟨y,rfl,hy⟩,hl,hyl,hl2,hs,k⟩:=h;refine⟨_,(A4 (A8 (C2 K rfl T.b_tuple (jaC (B7 (N:=["_law_row","_law_one"]) (src:=[none,some 1]) (G7 K (jv 0)) (by show B9 _ _=true;rfl) (by rfl) (by rfl)
 (λ_ _ _ _ _=>(A7 (i:=0) (L2.nd ["_law_row","_law_one"]) rfl (Or.inr rfl))) (λ_ _ _ _ _=>C1) (λ_ _ _ _ _=>(a7U K rfl T.b_sum (jaC (B7 (N:=["_law_j","_law_row","_law_one"]) (src:=[none,some 0,some 1]) (E4 rfl T.b_range (jaC (G8 K rfl T.b_len (jaC (jv 1) jaN)) jaN)) (by show B9 _ _=true;rfl) (by rfl) (by rfl)
 (λ_ _ _ _ _=>(A7 (i:=0) (L2.nd ["_law_j","_law_row","_law_one"]) rfl (Or.inl rfl))) (λ_ _ _ _ _=>C1) (λ_ _ _ _ _=>(X9 (G1 K (jv 1) (jv 0)) (G1 K (jv 2) (jv 0))))) jaN)))) jaN)))),?_⟩
  refine⟨_,rfl,a,rfl,⟨_,SqT.of ha⟩,?_⟩;refine a8D (caps:=[some (.ref y)]) (λr=>V.int (dot r ys)) hl (λH' s=>SqT.of (s _ _ ha)) hI rfl (λv r H1 x e o s1 q=>?_) λH1 p s m=>?_
  .obtain⟨va,rfl,hva⟩:=o;have b:=s1 _ _ hy;refine⟨_,rfl,y,_,rfl,.inr (SqT.of b),_,rfl,by omega,by rw[ai];omega,?_⟩;rw[bz,ai];refine a3c (caps:=[some (.ref va),some (.ref y)]) (λj=>V.int (r.getD j 0*ys.getD j 0)) (by omega) rfl (λj H2 z c s2 t=>?_) λH2 p2 s2 d=>?_
   .exact⟨_,rfl,_,rfl,va,_,_,_,rfl,rfl,SqT.of (s2 _ _ hva),X5 (by rw[hl2 r e];exact c),_,rfl,_,rfl,y,_,_,_,rfl,rfl,SqT.of (s2 _ _ b),X5 c,_,_,rfl,rfl,.inr (hs _ (b8E c)),t⟩
   rw[show(List.range ys.length).map (λj=>V.int (r.getD j 0*ys.getD j 0))=((List.range ys.length).map λj=>r.getD j 0*ys.getD j 0).map V.int by rw[cG];rfl];refine⟨false,p2,_,rfl,SqL.of A0,?_⟩;rw[a3O r ys (hl2 r e)];exact q _ (s2.upd d)
  .rw[show(rss.map λr=>V.int (dot r ys))=(rss.map λr=>dot r ys).map V.int by rw[cG];rfl];refine⟨p,_,rfl,.inl ⟨SqL.of A0,λq n=>?_⟩⟩;exact k _ _ ((s.upd m).upd n) A0
inductive IspLSides(vs:qA V)(H:Hp)(Q:VK)(E:XK):Prop
 |mk (a b ra:qE) (us:qA V) (rss:LLI) (n m:Nat) (_:vs=[.ref a,.ref ra,.int m]) (_:PotAt H a b n) (_:n+200<2 ^ 60) (_:H ra=some (.tup us)) (_:Its H us rss) (_:us.length<=6) (_:(∀r∈rss,r.length=m)) (_:1<=m) (_:m<=8) (_:∀(p:qE) (ss:qI) (H':Hp),H' p=some (.tup (ss.map V.int))->ss.length=rss.length->Bd 1000000000000 ss->PotAt H' a b (n+100)->Off [a,b] H H'->Q (.ref p) H'):IspLSides  vs H Q E
def a6k:Sp:=λvs H Q E=>IspLSides  vs H Q E
def sc__law_sides:FnScope ["_law_pot_here","_law_rows","_law_width","_law_sort","_law_some","_law_sides_here","_law_total","_law_others"] ["_law_pot_here","_law_rows","_law_width"] (A1 M9):={}
def b0s(F:FunAt K mg "_law_sides" M9 ["_law_pot_here","_law_rows","_law_width"])(T:Tx mg)(e:Ok P w K mg base "_law_take" 1 ["_law_pot_here","_law_many"] a1x)(j:Ok P w K mg base "_law_sums" 1 ["_law_rows","_law_one"] a8L):Ok P w K mg base "_law_sides" 2 ["_law_pot_here","_law_rows","_law_width"] a6k:=by
 refine F.okJ sc__law_sides (λvs H Q E h=>?_) (λe8 f A e7 s H vs Q E Z h=>?_)
 .obtain⟨a,b,ra,us,rss,n,m,rfl,_⟩:=h;rfl
 .obtain⟨a,b,ra,us,rss,n,m,rfl,hP,hn,hra,hI,hul,hR,hm1,hm8,kk⟩:=h;have hz:(3000:Nat)<=sizeLine:=by rw[aU];decide
  refine⟨_,(A2 (B1 (i:=3) sc__law_sides.nd rfl (Or.inl rfl) (A6 e (Z.mono (by omega)) rfl (jaC (jv 0) (jaC A3 jaN))))
 (A2 (B1 (i:=4) sc__law_sides.nd rfl (Or.inl rfl) (C2 K rfl T.b_tuple (jaC (B7 (N:=["_law_j","_law_pot_here"]) (src:=[none,some 0]) (E4 rfl T.b_range (jaC (jv 2) jaN)) (by show B9 _ _=true;rfl) (by rfl) (by rfl)
 (λ_ _ _ _ _=>(A7 (i:=0) (L2.nd ["_law_j","_law_pot_here"]) rfl (Or.inl rfl))) (λ_ _ _ _ _=>C1) (λ_ _ _ _ _=>(A6 e (Z.mono (by omega)) rfl (jaC (jv 1) (jaC A3 jaN))))) jaN)))
 (A2 (B1 (i:=5) sc__law_sides.nd rfl (Or.inl rfl) (Y0 jaN))
 (A2 (O7 (G7 K (A6 j (Z.mono (by omega)) rfl (jaC (jv 1) (jaC (jv 4) jaN)))) (A7 (i:=6) sc__law_sides.nd rfl (Or.inl rfl))
 (A2 (B1 (i:=7) sc__law_sides.nd rfl (Or.inl rfl) (Y0 (jaC (jv 6) (jaC A3 (jaC (T0 (A6 e (Z.mono (by omega)) rfl (jaC (jv 0) (jaC A3 jaN))) A3) (jaC (T0 (M2 (jv 6) (A6 e (Z.mono (by omega)) rfl (jaC (jv 0) (jaC A3 jaN)))) A3) jaN))))))
 (A2 (W7 (a0x K (jv 7) (jaC (T0 (A6 e (Z.mono (by omega)) rfl (jaC (jv 0) (jaC (M2 (X9 A3 (a0K A3 A3)) A3) jaN))) (a0K A3 A3)) jaN)))
 (A4 (W7 (a0x K (jv 5) (jaC (b3v rfl T.b_max (jaC (a4A (a0K A3 A3)) (jaC (b8w rfl T.b_min (jaC (a0K A3 A3) (jaC (T3 K (b6W (jv 7) (Y0 (jaC (jv 6) (jaC (jv 6) (jaC (jv 6) jaN))))) (jv 3)) jaN))) jaN))) jaN)))))))
 (A4 (A8 (C2 K rfl T.b_tuple (jaC (jv 5) jaN)))))))),?_⟩
  refine⟨_,rfl,a,b,_,8,rfl,hP,by omega,by decide,by decide,λr1 H1 f0 f1 d1 c4=>?_⟩;dsimp only[B0];refine⟨_,rfl,_,rfl,by omega,by omega,?_⟩;rw[bz];refine a0t (caps:=[some (.ref a)]) (c:=1) (λz=>0<=z/\z<=3) (by omega) rfl d1 (λi' H' N' f3 d0 q=>⟨_,rfl,a,b,_,4,rfl,d0,by omega,by decide,by decide,λr c6 h0 h1 b4 e6=>q r c6 ⟨h0,by omega⟩ b4 e6⟩) ?_;intro H2 p2 xs d8 d9 d2 c5 d6;have s3:=(Same.refl H2).upd (o:=.lst (xs.map V.int)) d6;refine⟨p2,_,rfl,.inl ⟨SqL.of A0,λq3 d7=>?_⟩⟩;have s3:=s3.upd (o:=.tup (xs.map V.int)) d7;have e3:upd (upd H2 p2 (.lst (xs.map V.int))) q3 (.tup (xs.map V.int)) q3=some (.tup (xs.map V.int)):=A0;generalize upd (upd H2 p2 (.lst (xs.map V.int))) q3 (.tup (xs.map V.int))=H3 at s3 e3;have a2:=d2.same s3;have a0:=(c4.trans c5).trans s3.off;dsimp only[B0];refine⟨bw _,λO a4=>?_⟩;have d5:=a3i a0 a2 a4;have t:=W2 a2 a4;have s4:=(Same.refl H3).upd (o:=.lst []) a4;have e4:upd H3 O (.lst []) O=some (.lst []):=A0;have u:=a0.trans s4.off;have b6:=a2.same s4;have q4:=s4 _ _ e3;generalize upd H3 O (.lst [])=H4 at s4 e4 u b6 q4;dsimp only[B0];have c2:=u _ _ (a9c hP hra) hra;have c9:=a5E hI hP u;refine⟨_,rfl,_,rfl,ra,.ref q3,us,rss,xs,rfl,c2,c9,⟨q3,rfl,q4⟩,by omega,by omega,λr Z=>by rw[hR r Z,d8],λz hz=>by have:=d9 z hz;omega,λp5 H5 s5 e5=>?_⟩;refine⟨p5,rfl,⟨_,SqT.of e5⟩,?_⟩;have nq:O≠p5:=λz=>by
   have:=s5 _ _ e4;rw[z,e5]at this;cases this
  refine a9t (K:=K) (a:=p5) (xs:=(rss.map λr=>dot r xs).map V.int) (λi σ H'=>Ex3 λ(o6 o7:qD V) (ss:qI)=>An7 (σ=[some (.ref a),some (.ref ra),some (.int m),some (.int r1),some (.ref q3),some (.ref O),o6,o7]) (PotAt H' a b (n+20+5*i)) (Off [a,b] H H') (H' p5=some (.tup ((rss.map λr=>dot r xs).map V.int))) (H' O=some (.lst (ss.map V.int))) (ss.length=i) (Bd 1000000000000 ss))
   ⟨none,none,[],rfl,(b6.same s5).mono (by omega),u.trans s5.off,e5,s5 _ _ e4,rfl,λ_ z=>nomatch z⟩ (λi σ H' _ h=>by
    obtain⟨_,_,_,_,_,_,h5,_⟩:=h;exact SqT.of h5) ?_ ?_
  .rintro i x σ H6 hx ⟨o6,o7,ss,rfl,hP6,off6,h56,h46,hsl,hsb⟩;obtain⟨d,c3,rfl⟩:=L6 hx;have hi:i<rss.length:=by
    have:=(aL.mp c3).1;rwa[ai]at this
   have f4:i<6:=by rw[<-hI.1]at hi;omega
   dsimp only[B0];refine⟨_,rfl,_,rfl,a,b,_,9,rfl,hP6,by omega,by decide,by decide,λl H7 _ _ d3 G=>?_⟩;refine⟨_,_,rfl,rfl,_,rfl,_,rfl,a,b,_,3,rfl,d3,by omega,by decide,by decide,λp H8 _ _ a3 I=>?_⟩;refine⟨_,_,rfl,rfl,_,_,rfl,rfl,by show 4<=sizeLine;omega,λv C=>?_⟩;dsimp only[B0];have J:=(off6.trans G).trans I;have b7:=a3i J a3 C;have Y:=W2 a3 C;have B:p5∉[a,b]:=a9c hP6 h56;have b1:=I _ _ t (G _ _ t h46);have b3:=I _ _ B (G _ _ B h56);have s9:=(Same.refl H8).upd (o:=.lst [V.int d,V.int 0,V.int (l-4),V.int (d+p-1)]) C;have e9:upd H8 v (.lst [V.int d,V.int 0,V.int (l-4),V.int (d+p-1)]) v=some (.lst [V.int d,V.int 0,V.int (l-4),V.int (d+p-1)]):=A0;have e0:O≠v:=A9 b1 C;have e2:p5≠v:=A9 b3 C;generalize upd H8 v (.lst [V.int d,V.int 0,V.int (l-4),V.int (d+p-1)])=H9 at s9 e9;have d4:=a3.same s9;refine⟨_,rfl,.inl ⟨rfl,_,SqL.of e9⟩,_,rfl,_,_,rfl,rfl,⟨by decide,by decide,by decide⟩,_,_,rfl,rfl,.inl ⟨by decide,by decide⟩,_,_,rfl,rfl,a,b,_,_,rfl,d4,by omega,by decide,by decide,λg R _ _ b5 k=>?_⟩;have c8:=k _ _ Y e9;have a9:=k _ _ t (s9 _ _ b1);have b2:=k _ _ B (s9 _ _ b3);refine⟨_,_,rfl,rfl,⟨by decide,by decide,by decide⟩,_,_,rfl,rfl,v,_,_,rfl,rfl,c8,by show 4<sizeLine;omega,?_⟩;have D:=a3j (o:=.lst ([V.int d,V.int 0,V.int (l-4),V.int (d+p-1)]++[V.int (g-10 ^ (12:Int).toNat)])) ((J.trans s9.off).trans k) b7;have X:=a2D (o:=.lst ([V.int d,V.int 0,V.int (l-4),V.int (d+p-1)]++[V.int (g-10 ^ (12:Int).toNat)])) b5 Y;have a7:upd R v (.lst ([V.int d,V.int 0,V.int (l-4),V.int (d+p-1)]++[V.int (g-10 ^ (12:Int).toNat)])) v=some (.lst ([d,0,l-4,d+p-1,g-10 ^ (12:Int).toNat].map V.int)):=A0;have y:upd R v (.lst ([V.int d,V.int 0,V.int (l-4),V.int (d+p-1)]++[V.int (g-10 ^ (12:Int).toNat)])) O=some (.lst (ss.map V.int)):=by rw[A5 e0];exact a9
   have W:upd R v (.lst ([V.int d,V.int 0,V.int (l-4),V.int (d+p-1)]++[V.int (g-10 ^ (12:Int).toNat)])) p5=some (.tup ((rss.map λr=>dot r xs).map V.int)):=by rw[A5 e2];exact b2
   generalize upd R v (.lst ([V.int d,V.int 0,V.int (l-4),V.int (d+p-1)]++[V.int (g-10 ^ (12:Int).toNat)]))=a1 at D X a7 y W;refine⟨_,rfl,.inl ⟨rfl,_,SqL.of y⟩,_,_,rfl,rfl,⟨by decide,by decide,by decide⟩,_,rfl,_,_,rfl,rfl,⟨by decide,by decide,by decide⟩,_,rfl,_,rfl,_,rfl,_,rfl,by show 3<=sizeLine;omega,λU b9=>?_⟩;have a5:=(Same.refl a1).upd (o:=.lst [V.int d,V.int d,V.int d]) b9;have a8:upd a1 U (.lst [V.int d,V.int d,V.int d]) U=some (.lst [V.int d,V.int d,V.int d]):=A0;generalize upd a1 U (.lst [V.int d,V.int d,V.int d])=a6 at a5 a8;refine⟨v,U,_,_,rfl,rfl,a5 _ _ a7,a8,by show 5+3<=sizeLine;omega,λL c0=>?_⟩;have M:=a5.upd (o:=.lst ([d,0,l-4,d+p-1,g-10 ^ (12:Int).toNat].map V.int++[V.int d,V.int d,V.int d])) c0;have S:upd a6 L (.lst ([d,0,l-4,d+p-1,g-10 ^ (12:Int).toNat].map V.int++[V.int d,V.int d,V.int d])) L=some (.lst ([d,0,l-4,d+p-1,g-10 ^ (12:Int).toNat,d,d,d].map V.int)):=A0;generalize upd a6 L (.lst ([d,0,l-4,d+p-1,g-10 ^ (12:Int).toNat].map V.int++[V.int d,V.int d,V.int d]))=c7 at M S;obtain⟨L8,f2,S⟩:∃L8:qI,L8.length=8/\c7 L=some (.lst (L8.map V.int)):=⟨_,rfl,S⟩;have b8:(10:Int) ^ (12:Int).toNat=1000000000000:=by decide
   have e1:r1=((r1.toNat:Nat):Int):=by omega
   have b0:=M _ _ y;refine⟨_,rfl,L,_,_,.int (L8.getD r1.toNat 0),rfl,rfl,SqL.of S,?_,_,_,rfl,_,_,rfl,O,_,_,rfl,rfl,b0,by rw[ai];omega,?_⟩
   .rw[e1];exact X5 (by omega)
   rw[b8];generalize L8.getD r1.toNat 0=z;refine⟨_,_,ss++[_],rfl,(a2D (X.same M) t).mono (by omega),a3j (D.trans M.off) d5,by rw[A5 nq.symm];exact M _ _ W,by rw[A0,bF];rfl,by rw[ar,eC,hsl],λx hx=>?_⟩;rcases aD.mp hx with q|q
   .exact hsb x q
   .rw[aG.mp q];constructor<;>(repeat' split)<;>omega
  .rintro σ H6 ⟨o6,o7,ss,rfl,hP6,off6,h56,h46,hsl,hsb⟩;rw[ai,ai]at hsl;refine⟨_,rfl,O,_,rfl,.inl ⟨SqL.of h46,λq7 c1=>?_⟩⟩;rw[ai,ai,<-hI.1]at hP6;exact kk q7 ss _ A0 hsl hsb ((hP6.same ((Same.refl H6).upd c1)).mono (by omega)) (off6.trans (((Same.refl H6).upd c1).off))
end
def SD(H:Hp):Nat->V->V->Prop
 |0,_,_=>False
 |n+1,x,y=>(∃i,x=.int i/\y=.int i)∨∃a b xs ys,x=.ref a/\y=.ref b/\H a=some (.tup xs)/\H b=some (.tup ys)/\xs.length=ys.length/\xs.length<=1000/\∀(i:Nat) x' y',xs[i]?=some x'->ys[i]?=some y'->SD H n x' y'
def SD.same{H H':Hp}(s:Same H H'):∀{n:Nat}{x y:V},SD H n x y->SD H' n x y
 |0,_,_,h=>h
 |n+1,x,y,h=>by
  rcases h with h|⟨a,b,xs,ys,h1,h2,d,f,g,j,k⟩
  .exact .inl h
  .exact .inr ⟨a,b,xs,ys,h1,h2,s _ _ d,s _ _ f,g,j,λi l m e c=>SD.same s (k i l m e c)⟩
def SD.ints{H:Hp}{x y:V}{ns:qI}(h:IT H x ns)(j:IT H y ns)(g:ns.length<=1000):SD H 2 x y:=by
 obtain⟨a,rfl,d⟩:=h;obtain⟨b,rfl,f⟩:=j;refine .inr ⟨a,b,_,_,rfl,rfl,d,f,rfl,by rw[ai];exact g,λi k l e c=>?_⟩;rw[e]at c;cases c;obtain⟨z,_,rfl⟩:=L6 e;exact .inl ⟨z,rfl,rfl⟩
section
variable {P:qG}{w:World}{K:qF}{mg:Str->qD qB}{base:Heap}
inductive IspSame(n:Nat)(vs:qA V)(H:Hp)(Q:VK)(E:XK):Prop
 |mk (x:_) (y:_) (_:vs=[x,y]) (_:SD H n x y) (_:∀H',Same H H'->Q (.bl true) H'):IspSame n vs H Q E
def b1M(n:Nat):Sp:=λvs H Q E=>IspSame n vs H Q E
def a2E{x:Str}{st:Stmt}{ps:qA Str}{k:Nat}(F:FunAt K mg x st ps):Ok P w K mg base x k ps (λ_ _ _ _=>False):=by
 obtain⟨f,fd,h1,h2,a⟩:=F.ex;exact⟨f,fd,h1,h2.kp,a,⟨λ_ _ _ _ z=>z.elim,λ_ _ _ _ _ _ _ _ _ _ _ _ _ z=>z.elim⟩⟩
def a5q:FnScope ["_law_found","_law_due"] ["_law_found","_law_due"] (A1 S3):={}
def a9g(F:FunAt K mg "_law_same" S3 ["_law_found","_law_due"])(T:Tx mg):∀n:Nat,Ok P w K mg base "_law_same" (n+1) ["_law_found","_law_due"] (b1M n)
 |0=>(a2E F).imp λm H Q E ⟨_,_,_,z,_⟩=>z
 |n+1=>by
  have c:=a9g F T n;refine F.okJ a5q (λm H Q E h=>?_) (λo f A k s H m Q E r h=>?_)
  .obtain⟨x,y,rfl,_⟩:=h;rfl
  .obtain⟨x,y,rfl,hS,kk⟩:=h;refine⟨_,(A2 (C7 (C6 K (C5 K rfl T.b_isinstance (jaC (jv 1) (jaC (T8 (v:=.ty "tuple") rfl T.b_tuple V4 rfl) jaN))))
 (A2 (C7 (a1j (a2e (G2 (C6 K (C5 K rfl T.b_isinstance (jaC (jv 0) (jaC (T8 (v:=.ty "tuple") rfl T.b_tuple V4 rfl) jaN))))) (a0R (b6T (G8 K rfl T.b_len (jaC (jv 0) jaN)) (G8 K rfl T.b_len (jaC (jv 1) jaN))))))
 (A4 (A8 N8))
 B6)
 (A4 (A8 (P0 K rfl T.b_all (jaC (B7 (N:=["_law_one","_law_other"]) (src:=[none,none]) (a1I K rfl T.b_zip (jaC (jv 0) (jaC (jv 1) jaN))) (by show B9 _ _=true;rfl) (by rfl) (by rfl)
 (λ_ _ _ _ _=>(O8 K 2 (B5 (A7 (i:=0) (L2.nd ["_law_one","_law_other"]) rfl (Or.inl rfl)) (B5 (A7 (i:=1) (L2.nd ["_law_one","_law_other"]) rfl (Or.inl rfl)) K2)))) (λ_ _ _ _ _=>C1) (λ_ _ _ _ _=>(A6 c (r.mono (by omega)) rfl (jaC (jv 0) (jaC (jv 1) jaN))))) jaN)))))
 B6)
 (A4 (A8 (U8 (C5 K rfl T.b_isinstance (jaC (jv 0) (jaC (T8 (v:=.ty "int") rfl T.b_int a8n rfl) jaN))) (U8 (b3B (C5 K rfl T.b_isinstance (jaC (jv 0) (jaC (T8 (v:=.ty "bool") rfl T.b_bool a9G rfl) jaN)))) (a0d (a4y (jv 0) (jv 1)))))))),?_⟩
   rcases hS with⟨i,rfl,rfl⟩|⟨a,b,xs,ys,rfl,rfl,d,g,q,l,hi⟩
   .refine⟨_,rfl,_,_,_,false,rfl,.int i,rfl,_,rfl,C9 ?_⟩;refine⟨_,rfl,_,_,_,true,rfl,.int i,rfl,_,rfl,E5 ?_⟩;refine⟨_,rfl,_,_,_,false,rfl,.int i,rfl,_,rfl,_,rfl,E5 ?_⟩;refine⟨_,rfl,_,rfl,rfl,?_⟩;rw[show decide (V.int i=V.int i)=true from bj rfl];exact kk H (Same.refl H)
   .refine⟨_,rfl,_,_,_,true,rfl,.tup g,rfl,_,rfl,E5 ?_⟩;refine⟨_,rfl,_,_,_,true,rfl,.tup d,rfl,_,rfl,C9 ?_⟩;refine⟨_,rfl,_,_,rfl,.inr (SqT.of d),_,rfl,_,_,rfl,.inr (SqT.of g),rfl,_,rfl,?_⟩;rw[show decide (V.int (xs.length:Int)=V.int (ys.length:Int))=true from bj (by rw[q])];refine C9 ?_;refine⟨_,rfl,_,rfl,true,true,a,b,rfl,⟨_,SqT.of d⟩,⟨_,SqT.of g⟩,?_⟩;have B:(1000:Nat)<=sizeLine:=by rw[aU];decide
    refine V1 (K:=K) (k1:=true) (k2:=true) (a:=a) (b:=b) (xs:=xs) (zs:=ys) (by omega) (λi zs H'=>Same H H'/\zs=List.replicate i (.bl true)) ⟨Same.refl H,rfl⟩
     (λi zs H' _ _ h=>⟨SqT.of (h.1 _ _ d),SqT.of (h.1 _ _ g),by rw[h.2,bt];exact ak _⟩) ?_ ?_
    .rintro i x z zs H' p hx hy ⟨s',rfl⟩ hp;have s2:Same H (upd H' p (.tup [x,z])):=s'.upd hp;refine⟨p,[x,z],rfl,SqT.of A0,rfl,x,[z],rfl,z,[],rfl,rfl,⟨rfl,λj v e=>?_⟩,?_⟩
     .match j,e with
      |0,e=>cases e
      |1,e=>cases e
     .refine⟨_,rfl,_,rfl,x,z,rfl,(hi i x z hx hy).same s2,λu t=>⟨s2.trans t,?_⟩⟩;rw[List.replicate_succ']
    .rintro zs H' ⟨s',rfl⟩ p hp;refine⟨false,p,_,rfl,SqL.of A0,?_,?_⟩
     .simp[a4F]
     .rw[show(List.replicate (min xs.length ys.length) (V.bl true)).all trV=true by simp[trV]];exact kk _ (s'.upd hp)
inductive IspLBeyond(vs:qA V)(H:Hp)(Q:VK)(E:XK):Prop
 |mk (ra sa:qE) (us:qA V) (rss:LLI) (n most:Nat) (ss:qI) (wi mi B:Int) (_:vs=[.ref ra,.ref sa,.int wi,.int mi]) (_:wi=n) (_:mi=most) (_:Ry H ra us rss n B) (_:0<=B) (_:B<=10000000000000) (_:1<=n) (_:n<=8) (_:most<=900) (_:ss.length=rss.length) (_:Bd 10000000000000 ss) (_:H sa=some (.tup (ss.map V.int))) (_:(∀(q t b pp:qE) (zs ys ws:qA V) (wss Fl W:LLI) (k:Nat) (H':Hp),Same H H'->H' q=some (.tup [.ref t,.ref b,.ref pp])->H' t=some (.tup zs)->Its H' zs (G9 1 wss)->H' b=some (.tup ys)->Its H' ys (G9 0 wss)->H' pp=some (.tup ws)->Its H' ws W->Wk (sdS rss ss) (sdC n) Fl W [] k->W.length<=most->wss.Perm Fl->wss.length<=most->C8 wss->wss.Nodup->Vn (n+1) (most+1) wss->(∀v,v∈wss↔Least (sdS rss ss) (sdC n) v)->Q (.ref q) H')) (_:∀H',Same H H'->b6s (sdS rss ss) (sdC n) most->Q .non H'):IspLBeyond  vs H Q E
def a4m:Sp:=λvs H Q E=>IspLBeyond  vs H Q E
def sc__law_beyond:FnScope ["_law_rows","_law_sides_here","_law_width","_law_most","_law_told"] ["_law_rows","_law_sides_here","_law_width","_law_most"] (A1 L4):={}
def a7L{a:qE}(z:FunAt K mg "_law_beyond" L4 ["_law_rows","_law_sides_here","_law_width","_law_most"])(T:Tx mg)(d:OkE P w K mg base "beyond" 8 ["rows","sides","width","most"] (a6m a))(c:mg "TooMany"=some (.ref a))(e:ClsX K a []):Ok P w K mg base "_law_beyond" 9 ["_law_rows","_law_sides_here","_law_width","_law_most"] a4m:=by
 refine z.okJ sc__law_beyond (λU H Q E h=>?_) (λD f A x s H U Q E O h=>?_)
 .obtain⟨ra,sa,us,rss,n,most,ss,wi,mi,B,rfl,_⟩:=h;rfl
 .obtain⟨ra,sa,us,rss,n,most,ss,_,_,B,rfl,rfl,rfl,hR,hB0,hB1,n1,n8,hmo,hsl,hsb,hsa,kq,kn⟩:=h;refine⟨_,(A2 (B1 (i:=4) sc__law_beyond.nd rfl (Or.inl rfl) X8)
 (A2 (a6S K (b8r (i:=4) d (O.mono (by omega)) rfl sc__law_beyond.nd rfl (Or.inl rfl) (jaC (jv 0) (jaC (jv 1) (jaC (jv 2) (jaC (jv 3) jaN))))) rfl c e (λ_=>(A4 (B1 (i:=4) sc__law_beyond.nd rfl (Or.inl rfl) X8))))
 (A4 (A8 (jv 4))))),?_⟩
  refine⟨_,rfl,_,rfl,_,rfl,_,rfl,ra,sa,us,rss,n,most,ss,_,_,B,rfl,rfl,rfl,hR,hB0,hB1,n1,n8,hmo,hsl,hsb,hsa,λq t b S zs ys V y C W k H' s' N R hI I g u j G m r J v o F l=>?_,λH' s' L=>⟨a,rfl,rfl,λp M=>?_⟩⟩
  .exact⟨_,rfl,kq q t b S zs ys V y C W k H' s' N R hI I g u j G m r J v o F l⟩
  .exact⟨_,rfl,kn _ (s'.upd M) L⟩
end
end K28
namespace K28
open PySem PySem.Spec PyProof.Rows L2
variable {k:Nat}
def a4g:bootBuiltins "ValueError"=some (.type "ValueError"):=by kernel_rfl
section
variable {P:qG}{w:World}{K:qF}{mg:Str->qD qB}{base:Heap}
def a7s:Sp:=λ_ _ _ _=>False
def b1S(C:qE):Sp:=λvs H _ E=>∃(pt:qE) (x y:V),vs=[.ref pt,x,y]/\H pt=some (.tup [])/\∀H',Same H H'->E (.ref C) none H'
def sc_laid_beyond:FnScope ["told","base","one","k","start","counts"] ["told","base","one"] (A1 K6):={}
def b5I{C:qE}(F:FunAt K mg "laid_beyond" K6 ["told","base","one"])(T:Tx mg)(d:Ok P w K mg base "below" 1 ["one","other"] a7s)(e:Ok P w K mg base "minus" 1 ["one","other"] a7s)(b:Ok P w K mg base "laid_or_none" 3 ["base","one"] a7s)(c:OwnCls "NoLay" C [.type "ValueError",.type "Exception",.type "BaseException",.type "object"] "ValueError.__new__" mg base):OkE P w K mg base "laid_beyond" 4 ["told","base","one"] (b1S C):=by
 refine F.okE sc_laid_beyond (λm H Q E h=>?_) (λl f A j s H m Q E g h=>?_)
 .obtain⟨pt,x,y,rfl,_⟩:=h;rfl
 .obtain⟨pt,x,y,rfl,hpt,kk⟩:=h;have n:(3000:Nat)<=sizeLine:=by rw[aU];decide
  refine⟨_,(A2 (O7 (b5R K rfl T.b_enumerate (jaC (jv 0) jaN)) (O8 K 2 (B5 (A7 (i:=3) sc_laid_beyond.nd rfl (Or.inl rfl)) (B5 (A7 (i:=4) sc_laid_beyond.nd rfl (Or.inl rfl)) K2)))
 (A4 (C7 (C6 K (A6 d (g.mono (by omega)) rfl (jaC (jv 4) (jaC (jv 2) jaN))))
 (A2 (B1 (i:=5) sc_laid_beyond.nd rfl (Or.inl rfl) (A6 b (g.mono (by omega)) rfl (jaC (jv 1) (jaC (A6 e (g.mono (by omega)) rfl (jaC (jv 2) (jaC (jv 4) jaN))) jaN))))
 (A4 (C7 (a2H (jv 5) X8)
 (A4 (A8 (E3 (jaC (jv 3) (jaC (jv 5) jaN)))))
 B6)))
 B6)) (hp:=PassesOwn.leaving))
 (A4 (a6T c PySem.F.excBase_ValueError rfl PySem.F.excBase_ValueError rfl (jaC b6U jaN)))),?_⟩
  refine⟨_,rfl,true,pt,rfl,⟨_,SqT.of hpt⟩,?_⟩;refine b3O (K:=K) (k:=true) (a:=pt) (xs:=[]) (λi σ H'=>Same H H') (Same.refl _) (λi σ H' _ s'=>SqT.of (s' _ _ hpt)) ?_ ?_
  .rintro i x σ H' p hx;cases hx
  .intro σ H' s';exact⟨by rw[aU];decide,kk _ s'⟩
inductive IspNRef(vs:qA V)(H:Hp)(Q:VK)(E:XK):Prop
 |mk (x y:V) (_:vs=[x,y]) (_:∀H',Same H H'->Q (.bl true) H'):IspNRef  vs H Q E
def b1P:Sp:=λvs H Q E=>IspNRef  vs H Q E
def sc__law_refused:FnScope ["_law_base","_law_one","_law_caught","e","_law_odd"] ["_law_base","_law_one"] (A1 J5):={}
def a6C{g b a d e c:qE}(M:FunAt K mg "_law_refused" J5 ["_law_base","_law_one"])(T:Tx mg)(k:OkE P w K mg base "laid_beyond" 4 ["told","base","one"] (b1S a))(l:mg "LayError"=some (.ref g))(n:ClsX K g [])(C:ClsX K a [.ref g])
  (m:mg "NoAnswer"=some (.ref b)) (u:mg "NoLay"=some (.ref a)) (r:mg "NoLine"=some (.ref d)) (t:mg "NoText"=some (.ref e)) (q:mg "TooMany"=some (.ref c))
  (Z:IsX K a) (h1:PySem.W.kitOne K (.ref a) (.ref a)=some true) (h2:PySem.W.kitOne K (.ref a) (.type "ValueError")=some true) (O:PySem.W.kitAny K (.ref a) [.ref b,.ref d,.ref e,.ref c]=some false):Ok P w K mg base "_law_refused" 5 ["_law_base","_law_one"] b1P:=by
 refine M.okJ sc__law_refused (λU H Q E h=>?_) (λN f A F s H U Q E S h=>?_)
 .obtain⟨x,y,rfl,_⟩:=h;rfl
 .obtain⟨x,y,rfl,kk⟩:=h;have W:(3000:Nat)<=sizeLine:=by rw[aU];decide
  refine⟨_,(A2 (B1 (i:=2) sc__law_refused.nd rfl (Or.inl rfl) X8)
 (A2 (b3r K (j:=3) (b5P k (S.mono (by omega)) rfl (jaC (E3 jaN) (jaC (jv 0) (jaC (jv 1) jaN)))) rfl l n sc__law_refused.nd rfl rfl (λ_=>(A4 (B1 (i:=2) sc__law_refused.nd rfl (Or.inl rfl) (jv 3)))))
 (A2 (B1 (i:=4) sc__law_refused.nd rfl (Or.inl rfl) (O9 K rfl T.b_isinstance (jaC (jv 2) (jaC (E3 (jaC (a3A (v:=.ref b) rfl m rfl) (jaC (a3A (v:=.ref d) rfl r rfl) (jaC (a3A (v:=.ref e) rfl t rfl) (jaC (a3A (v:=.ref c) rfl q rfl) jaN))))) jaN))))
 (A4 (A8 (U8 (O9 K rfl T.b_isinstance (jaC (jv 2) (jaC (a3A (v:=.ref a) rfl u rfl) jaN))) (U8 (O9 K rfl T.b_isinstance (jaC (jv 2) (jaC (T8 (v:=.ty "ValueError") rfl T.b_ValueError a4g rfl) jaN))) (a0d (b3B (jv 4)))))))))),?_⟩
  try dsimp only[B0,List.set]
  refine⟨bw _,λp1 D=>?_⟩;have s1:=(Same.refl H).upd (o:=.tup []) D;have G:upd H p1 (.tup []) p1=some (.tup []):=A0;generalize upd H p1 (.tup [])=H1 at s1 G;refine⟨_,rfl,_,rfl,p1,x,y,rfl,G,λH' s'=>⟨a,rfl,C,λp R=>?_⟩⟩;have s2:=(s1.trans s').upd (o:=a2p p a) R;have I:upd H' p (a2p p a) p=some (a2p p a):=A0;generalize upd H' p (a2p p a)=H2 at s2 I;refine⟨_,rfl,?_⟩;refine⟨_,rfl,by show 4<=sizeLine;omega,λL z=>?_⟩;have J:=s2.upd (o:=.tup [.ref b,.ref d,.ref e,.ref c]) z;have B:=O1 (o:=.tup [.ref b,.ref d,.ref e,.ref c]) I z;refine⟨p,a,_,false,rfl,B,Z,.inr (.inr ⟨L,[b,d,e,c],rfl,A0,O⟩),?_⟩;generalize upd H2 L (.tup [.ref b,.ref d,.ref e,.ref c])=V at J B
  try dsimp only[B0,List.set]
  refine⟨_,rfl,p,a,_,true,rfl,B,Z,.inr (.inl ⟨_,rfl,h1⟩),?_⟩;refine⟨true,rfl,E5 ⟨_,rfl,p,a,_,true,rfl,B,Z,.inl ⟨_,rfl,h2⟩,true,rfl,E5 ⟨_,rfl,false,rfl,?_⟩⟩⟩;exact kk _ J
def b6e{xs:qA V}(a:k<=xs.length):K5 xs none (some (k:Int))=xs.take k:=by
 unfold K5;rw[HT.sIx_none,HT.sIx_nat,dj a,cX,Nat.sub_zero]
def b6g{xs:qA V}(a:k<=xs.length):K5 xs (some (k:Int)) none=xs.drop k:=by
 unfold K5;rw[HT.sIx_none,HT.sIx_nat,dj a,bP (by simp)]
def b1U{H:Hp}{Q:VK}{t:qE}{zs:qA V}(a:H t=some (.tup zs))(q:∀p H',Same H H'->H' p=some (.tup (zs.take k))->Q (.ref p) H'):b4V K (.ref t) none (some (k:Int)) H Q:=by
 refine⟨t,zs,rfl,SqT.of a,λh=>?_,λh p b=>?_⟩
 .have h1:=h.2;rw[HT.sIx_nat]at h1;exact q t H (Same.refl _) (by rw[bP (by omega)];exact a)
 .rw[HT.sIx_none,HT.sIx_nat]at h;refine q p _ ((Same.refl H).upd b) ?_;rw[A0,b6e (by omega)]
def b7o{H:Hp}{Q:VK}{t:qE}{zs:qA V}(a:H t=some (.tup zs))(b:k<=zs.length)(q:∀p H',Same H H'->H' p=some (.tup (zs.drop k))->Q (.ref p) H'):b4V K (.ref t) (some (k:Int)) none H Q:=by
 refine⟨t,zs,rfl,SqT.of a,λh=>?_,λ_ p c=>?_⟩
 .have h1:=h.1;rw[HT.sIx_nat]at h1;have:zs.drop k=zs:=by
   by_cases e:k=0
   .rw[e];rfl
   .have:zs.length=0:=by omega
    rw[fq.mp this];simp
  exact q t H (Same.refl _) (by rw[this];exact a)
 .refine q p _ ((Same.refl H).upd c) ?_;rw[A0,b6g b]
inductive IspPut(vs:qA V)(H:Hp)(Q:VK)(E:XK):Prop
 |mk (t:qE) (zs:qA V) (k:Nat) (x:V) (_:vs=[.ref t,.int k,x]) (_:H t=some (.tup zs)) (_:k<=zs.length) (_:zs.length<=1000) (_:∀p H',Same H H'->H' p=some (.tup (zs.take k++x::zs.drop k))->Q (.ref p) H'):IspPut  vs H Q E
def b6D:Sp:=λvs H Q E=>IspPut  vs H Q E
def a6s:FnScope ["_law_some","_law_at","_law_one"] ["_law_some","_law_at","_law_one"] (A1 W0):={}
def b8h(F:FunAt K mg "_law_put" W0 ["_law_some","_law_at","_law_one"])(T:Tx mg):Ok P w K mg base "_law_put" 1 ["_law_some","_law_at","_law_one"] b6D:=by
 refine F.okJ a6s (λy H Q E h=>?_) (λi f A c s H y Q E C h=>?_)
 .obtain⟨t,zs,k,x,rfl,_⟩:=h;rfl
 .obtain⟨t,zs,k,x,rfl,ht,hk,hl,kk⟩:=h;have D:(3000:Nat)<=sizeLine:=by rw[aU];decide
  refine⟨_,(A4 (A8 (N7 (N7 (b3z K (jv 0) S9 (S7 (jv 1))) (E3 (jaC (jv 2) jaN))) (b3z K (jv 0) (S7 (jv 1)) S9)))),?_⟩
  try dsimp only[V8]
  refine⟨_,rfl,_,rfl,k,rfl,b1U ht λp1 H1 s1 j=>?_⟩;refine⟨_,rfl,by show 1<=sizeLine;omega,λp2 b=>?_⟩;have s2:=(Same.refl H1).upd (o:=.tup [x]) b;have d:upd H1 p2 (.tup [x]) p2=some (.tup [x]):=A0;generalize upd H1 p2 (.tup [x])=H2 at s2 d;have h1:(zs.take k).length=k:=by rw[aN];omega
  have h2:(zs.drop k).length=zs.length-k:=bQ;refine⟨p1,p2,_,_,rfl,rfl,s2 _ _ j,d,by rw[h1];show k+1<=_;omega,λp z u l=>?_⟩;have a:=(s1.trans s2).trans u;refine⟨_,rfl,_,rfl,k,rfl,?_⟩;dsimp only[V8];refine b7o (a _ _ ht) hk λq B e m=>?_;refine⟨p,q,_,_,rfl,rfl,e _ _ l,m,by rw[ar,h1,h2];show k+1+_<=_;omega,λr g v n=>?_⟩;exact kk r g ((a.trans e).trans v) (by rw[n,aI];rfl)
inductive IspLLo(vs:qA V)(H:Hp)(Q:VK)(E:XK):Prop
 |mk (ra:qE) (us:qA V) (rss:LLI) (n:Nat) (B wi:Int) (_:vs=[.ref ra,.int wi]) (_:wi=n) (_:Ry H ra us rss n B) (_:B<=10000000000000) (_:1<=n) (_:n<=8) (_:(∀H',Same H H'->Q .non H')) (_:∀t zs tss H',Same H H'->H' t=some (.tup zs)->Its H' zs tss->C8 tss->tss.Nodup->(∀v,v∈tss↔Least rss (List.replicate n none) v)->Q (.ref t) H'):IspLLo  vs H Q E
def b6F:Sp:=λvs H Q E=>IspLLo  vs H Q E
def sc__law_least_of:FnScope ["_law_rows","_law_width","_law_told"] ["_law_rows","_law_width"] (A1 G3):={}
def b8j{a:qE}(M:FunAt K mg "_law_least_of" G3 ["_law_rows","_law_width"])(T:Tx mg)(e:Ok P w K mg base "free" 1 ["width"] a7v)(d:OkE P w K mg base "least" 7 ["rows","caps","most"] (a5g a))(b:mg "TooMany"=some (.ref a))(c:ClsX K a []):Ok P w K mg base "_law_least_of" 8 ["_law_rows","_law_width"] b6F:=by
 refine M.okJ sc__law_least_of (λvs H Q E h=>?_) (λO f A u s H vs Q E J h=>?_)
 .obtain⟨ra,us,rss,n,B,wi,rfl,_⟩:=h;rfl
 .obtain⟨ra,us,rss,n,B,_,rfl,rfl,R,hB,n1,n8,kn,kq⟩:=h;have L:(3000:Nat)<=sizeLine:=by rw[aU];decide
  have Z:=R.l;refine⟨_,(A2 (B1 (i:=2) sc__law_least_of.nd rfl (Or.inl rfl) X8)
 (A2 (a6S K (b3m K (i:=2) d (J.mono (by omega)) rfl sc__law_least_of.nd rfl (Or.inl rfl) (jaC (jv 0) (jaC (A6 e (J.mono (by omega)) rfl (jaC (jv 1) jaN)) (jaC A3 jaN)))) rfl b c (λ_=>(A4 (B1 (i:=2) sc__law_least_of.nd rfl (Or.inl rfl) X8))))
 (A4 (A8 (jv 2))))),?_⟩
  try dsimp only[B0,List.set]
  refine⟨_,rfl,_,rfl,_,rfl,by omega,by omega,λca N x D=>?_⟩;rw[bz]at D;have R3:=R.same x;have Y:SyAt N ra ca rss (List.replicate n none):=⟨⟨us,R3.e,R3.I,by omega⟩,D,by rw[bt];omega,by rw[bt];omega,λj g=>by
   rw[bt];exact⟨(R.R j g).1,λz L=>by have:=(R.R j g).2 z L;omega⟩⟩
  have I:(100+1)*(n+1)<=101*9:=Nat.mul_le_mul (by omega) (by omega);refine⟨ra,ca,_,List.replicate n none,100,_,rfl,rfl,Y,by rw[bt];omega,λq t0 pp ys m ws Fl W k C y X t o l r V S F G=>?_,λC y ho=>⟨a,rfl,rfl,λp U=>?_⟩⟩
  .have hR':∀j∈rss,j.length=(List.replicate n (none:qD Int)).length:=λj g=>(Y.hR j g).1;exact⟨q,_,0,_,rfl,rfl,SqT.of X,rfl,_,rfl,kq t0 ys m C (x.trans y) t o r (l.symm.nodup F.nd.2) λv=>l.mem_iff.trans (F.least hR' v)⟩
  .exact⟨_,rfl,kn _ ((x.trans y).upd U)⟩
end
end K28
namespace K28
open PySem PySem.Spec PyProof.Rows L2
variable {H H':Hp}
def Tk(H H':Hp):Prop:=∀c xs,H c=some (HO.tup xs)->H' c=some (.tup xs)
def Tk.trans{a:Hp}(h:Tk H H')(g:Tk H' a):Tk H a:=λc xs e=>g c xs (h c xs e)
def Tk.same(s:Same H H'):Tk H H':=λc xs e=>s c _ e
def Tk.pot{a b:qE}{n:Nat}(d:PotAt H a b n)(o:Off [a,b] H H'):Tk H H':=λc xs e=>o c _ (a9c d e) e
def Tk.it(h:Tk H H'){v:V}{r:qI}(g:IT H v r):IT H' v r:=let ⟨a,e,q⟩:=g;⟨a,e,h _ _ q⟩
def Tk.its(h:Tk H H'){vs:qA V}{rss:LLI}(g:Its H vs rss):Its H' vs rss:=⟨g.1,λi v e=>let ⟨r,e1,e2⟩:=g.2 i v e;⟨r,e1,h.it e2⟩⟩
def a4I:∀(n:Nat) (ys:qI),dot (List.replicate n 0) ys=0
 |0,ys=>a1m ys
 |n+1,[]=>V0 _
 |n+1,y::ys=>by rw[cj,E1,a4I n ys,Int.zero_mul];rfl
def a5J:∀(a c:qI),(∀x∈a,0<=x)->(∀x∈c,0<=x)->0<=dot a c
 |[],c,_,_=>by rw[a1m];exact dh _
 |x::a,[],_,_=>by rw[V0];exact dh _
 |x::a,y::c,d,e=>by
  have f:=a5J a c (λz b=>d z (au _ b)) λz b=>e z (au _ b);have h1:=eF (d x ax) (e y ax);rw[E1];omega
def a4J(k:Int):∀(a c:qI),dot (a.map λx=>x*k) c=k*dot a c
 |[],c=>by rw[fO,a1m,Int.mul_zero]
 |x::a,[]=>by rw[V0,V0,Int.mul_zero]
 |x::a,y::c=>by
  rw[aV,E1,E1,a4J k a c,Int.mul_add,Int.mul_comm x k,Int.mul_assoc]
def a9w:∀(a c:qI),dot (a.map λx=>0-x) c = -dot a c
 |[],c=>by rw[fO,a1m];rfl
 |x::a,[]=>by rw[V0,V0];rfl
 |x::a,y::c=>by
  rw[aV,E1,E1,a9w a c,Int.sub_mul];omega
def b8Y(n:Nat)(rss:LLI)(ss row:qI)(side:Int):Prop:=∀v:qI,v.length=n->(∀x∈v,0<=x)->dot row v=side->(rss.map λr=>dot r v)≠ss
section
variable {P:qG}{w:World}{K:qF}{mg:Str->qD qB}{base:Heap}
inductive IspShut(vs:qA V)(H:Hp)(Q:VK)(E:XK):Prop
 |mk (a b ra sa:qE) (us:qA V) (rss:LLI) (ss:qI) (m n:Nat) (wi:Int) (_:vs=[.ref a,.ref ra,.ref sa,.int wi]) (_:wi=n) (_:PotAt H a b m) (_:m+200<2 ^ 60) (_:Ry H ra us rss n 1000000000003) (_:1<=n) (_:n<=8) (_:ss.length=rss.length) (_:Bd 1000000000000 ss) (_:H sa=some (.tup (ss.map V.int))) (_:∀(p q:qE) (row:qI) (side:Int) (H':Hp),H' p=some (.tup [.ref q,.int side])->H' q=some (.tup (row.map V.int))->row.length=n->Bd 1000000000003 row -> -1000000000003<=side->side<=1000000000003->b8Y n rss ss row side->PotAt H' a b (m+100)->Off [a,b] H H'->Q (.ref p) H'):IspShut  vs H Q E
def b1L:Sp:=λvs H Q E=>IspShut  vs H Q E
def sc__law_shut:FnScope ["_law_pot_here","_law_rows","_law_sides_here","_law_width","_law_sort","_law_some","_law_far","_law_by","_law_at"] ["_law_pot_here","_law_rows","_law_sides_here","_law_width"] (A1 S0):={}
def b5G(F:FunAt K mg "_law_shut" S0 ["_law_pot_here","_law_rows","_law_sides_here","_law_width"])(T:Tx mg)(d:Ok P w K mg base "_law_take" 1 ["_law_pot_here","_law_many"] a1x):Ok P w K mg base "_law_shut" 2 ["_law_pot_here","_law_rows","_law_sides_here","_law_width"] b1L:=by
 refine F.okJ sc__law_shut (λvs H Q E h=>?_) (λh7 f A g9 s H vs Q E hr h=>?_)
 .obtain⟨a,b,ra,sa,us,rss,ss,m,n,wi,rfl,_⟩:=h;rfl
 .obtain⟨a,b,ra,sa,us,rss,ss,m,n,_,rfl,rfl,hP,hm,R,n1,n8,hsl,hsb,hsa,kk⟩:=h;have hz:(3000:Nat)<=sizeLine:=by rw[aU];decide
  have hu:=hr.u60;refine⟨_,(A2 (B1 (i:=4) sc__law_shut.nd rfl (Or.inl rfl) (A6 d (hr.mono (by omega)) rfl (jaC (jv 0) (jaC A3 jaN))))
 (A2 (a5C (i:=5) sc__law_shut.nd rfl (Or.inl rfl) (N:=["_law_j","_law_pot_here"]) (src:=[none,some 0]) (E4 rfl T.b_range (jaC (jv 3) jaN)) (by show B9 _ _=true;rfl) (by rfl) (by rfl)
 (λ_ _ _ _ _=>(A7 (i:=0) (L2.nd ["_law_j","_law_pot_here"]) rfl (Or.inl rfl))) (λ_ _ _ _ _=>C1) (λ_ _ _ _ _=>(A6 d (hr.mono (by omega)) rfl (jaC (jv 1) (jaC A3 jaN)))))
 (A2 (B1 (i:=6) sc__law_shut.nd rfl (Or.inl rfl) (M2 A3 (A6 d (hr.mono (by omega)) rfl (jaC (jv 0) (jaC (T3 K (Y0 (jaC A3 (jaC (a0K A3 A3) jaN))) (A6 d (hr.mono (by omega)) rfl (jaC (jv 0) (jaC A3 jaN)))) jaN)))))
 (A2 (B1 (i:=7) sc__law_shut.nd rfl (Or.inr rfl) (M2 A3 (A6 d (hr.mono (by omega)) rfl (jaC (jv 0) (jaC A3 jaN)))))
 (A2 (C7 (X7 (jv 4) A3)
 (A4 (A8 (E3 (jaC (C2 K rfl T.b_tuple (jaC (B7 (N:=["_law_number_here"]) (src:=[none]) (F0 K (jv 5)) (by show B9 _ _=true;rfl) (by rfl) (by rfl)
 (λ_ _ _ _ _=>(A7 (i:=0) (L2.nd ["_law_number_here"]) rfl (Or.inl rfl))) (λ_ _ _ _ _=>C1) (λ_ _ _ _ _=>(T0 A3 (jv 0)))) jaN)) (jaC (jv 6) jaN)))))
 B6)
 (A2 (C7 (X7 (jv 4) A3)
 (A4 (A8 (E3 (jaC (a7V (E3 (jaC A3 jaN)) (jv 3)) (jaC (T3 K (Y0 (jaC (jv 6) (jaC (T0 A3 (jv 6)) jaN))) (A6 d (hr.mono (by omega)) rfl (jaC (jv 0) (jaC A3 jaN)))) jaN)))))
 B6)
 (A2 (C7 (X7 (jv 4) A3)
 (A4 (A8 (E3 (jaC (C2 K rfl T.b_tuple (jaC (B7 (N:=["_law_number_here","_law_by"]) (src:=[none,some 7]) (F0 K (jv 5)) (by show B9 _ _=true;rfl) (by rfl) (by rfl)
 (λ_ _ _ _ _=>(A7 (i:=0) (L2.nd ["_law_number_here","_law_by"]) rfl (Or.inl rfl))) (λ_ _ _ _ _=>C1) (λ_ _ _ _ _=>(X9 (jv 0) (jv 1)))) jaN)) (jaC (T0 (T0 (X9 (jv 7) (A6 d (hr.mono (by omega)) rfl (jaC (jv 0) (jaC A3 jaN)))) A3) (A6 d (hr.mono (by omega)) rfl (jaC (jv 0) (jaC (T0 (jv 7) A3) jaN)))) jaN)))))
 B6)
 (A2 (C7 (a1j (a0S (X7 (jv 4) A3) (W5 (a9k (G8 K rfl T.b_len (jaC (jv 1) jaN)) A3))))
 (A2 (B1 (i:=8) sc__law_shut.nd rfl (Or.inl rfl) (A6 d (hr.mono (by omega)) rfl (jaC (jv 0) (jaC (G8 K rfl T.b_len (jaC (jv 1) jaN)) jaN))))
 (A4 (A8 (E3 (jaC (G1 K (jv 1) (jv 8)) (jaC (M2 (b3v rfl T.b_max (jaC (a4A (a0K A3 A3)) (jaC (T0 (G1 K (jv 2) (jv 8)) A3) jaN))) (X9 A3 (b3w rfl T.b_int (jaC (a4y (G1 K (jv 2) (jv 8)) (a4A (a0K A3 A3))) jaN)))) jaN))))))
 B6)
 (A4 (A8 (E3 (jaC (C2 K rfl T.b_tuple (jaC (jv 5) jaN)) (jaC (T0 A3 (jv 6)) jaN))))))))))))),?_⟩
  refine⟨_,rfl,a,b,_,5,rfl,hP,by omega,by decide,by decide,λi5 H1 h8 h9 d7 b5=>?_⟩;dsimp only[B0];refine⟨_,rfl,_,rfl,by omega,by omega,?_⟩;rw[bz];refine a0t (caps:=[some (.ref a)]) (c:=1) (λz=>0<=z/\z<=3) (by omega) rfl d7 (λi' H' N' i2 g0 q=>⟨_,rfl,a,b,_,4,rfl,g0,by omega,by decide,by decide,λr f1 h0 h1 d6 g8=>q r f1 ⟨h0,by omega⟩ d6 g8⟩) ?_;intro H2 p2 xs a5 t c2 b6 f0;have b1:=W2 c2 f0;have s3:=(Same.refl H2).upd (o:=.lst (xs.map V.int)) f0;have e3:upd H2 p2 (.lst (xs.map V.int)) p2=some (.lst (xs.map V.int)):=A0;generalize upd H2 p2 (.lst (xs.map V.int))=H3 at s3 e3;have c3:=c2.same s3;have b7:=(b5.trans b6).trans s3.off;clear b5 b6 d7 c2 s3;dsimp only[B0];refine⟨_,rfl,_,_,rfl,rfl,⟨by decide,by decide,by decide⟩,by show 2<=sizeLine;omega,λp4 c6=>?_⟩;have b2:=W2 c3 c6;have s4:=(Same.refl H3).upd (o:=.lst [.int 3,.int ((10:Int) ^ Int.toNat 12)]) c6;have e4:upd H3 p4 (.lst [.int 3,.int ((10:Int) ^ Int.toNat 12)]) p4=some (.lst [.int 3,.int ((10:Int) ^ Int.toNat 12)]):=A0;generalize upd H3 p4 (.lst [.int 3,.int ((10:Int) ^ Int.toNat 12)])=H4 at s4 e4;refine⟨_,rfl,a,b,_,2,rfl,c3.same s4,by omega,by decide,by decide,λr5 H5 d4 d5 d8 a1=>?_⟩;obtain⟨fr,a4,U⟩:=two_at' 3 ((10:Int) ^ Int.toNat 12) r5 d4 d5;have c1:(10:Int) ^ Int.toNat 12=1000000000000:=by decide
  rw[c1]at U;refine⟨p4,_,_,.int fr,rfl,rfl,SqL.of (a1 _ _ b2 e4),a4,a,b,_,fr,rfl,d8,by omega,by omega,by omega,λr6 H6 f5 f6 d9 b8=>⟨_,_,rfl,rfl,?_⟩⟩;have D:=(s4.off.trans a1).trans b8;have e6:=D _ _ b1 e3;have Y:=b7.trans D;have d1:1<=1+r6:=by omega
  have d2:1+r6<=1000000000000:=by omega
  clear a1 b8 D a4 U f5 f6 d4 d5 e4 s4 d8 e3 b7 c3 b2 c6;dsimp only[B0];generalize 1+r6=far at d1 d2⊢;refine⟨_,rfl,a,b,_,8,rfl,d9,by omega,by decide,by decide,λr7 H7 f7 f8 B a2=>⟨_,_,rfl,rfl,?_⟩⟩;have e7:=a2 _ _ b1 e6;have Z:=Y.trans a2;have f3:2<=2+r7:=by omega
  have f4:2+r7<=9:=by omega
  clear f7 f8 Y a2 d9 e6;dsimp only[B0];generalize 2+r7=u at f3 f4⊢;have fin:∀(G:qI) {L H9:Hp}{q p:qE}{J:Int}{mm:Nat},Off [a,b] H7 L->PotAt L a b mm->mm<=m+100->L q=some (.tup (G.map V.int))->Same L H9->H9 p=some (.tup [.ref q,.int J])->G.length=n->Bd 1000000000003 G -> -1000000000003<=J->J<=1000000000003->b8Y n rss ss G J->Q (.ref p) H9:=λ_ _ _ _ _ _ _ o8 c4 g1 hq M hp hl hb l1 l2 hs=>kk _ _ _ _ _ hp (M _ _ hq) hl hb l1 l2 hs ((c4.same M).mono g1) ((Z.trans o8).trans M.off);refine⟨_,rfl,rfl,_,rfl,a0e (λe=>?_) (λe=>?_)⟩
  .refine⟨_,rfl,p2,rfl,⟨_,SqL.of e7⟩,?_⟩;refine a4v (caps:=[]) (λx=>V.int (0-x)) (by omega) (λH' s=>SqL.of (s _ _ e7)) rfl (λx H1 Q1 _ _ q=>⟨_,rfl,_,_,rfl,rfl,q⟩) λL p8 s8 j=>?_;refine⟨p8,_,rfl,.inl ⟨SqL.of A0,λp9 l=>?_⟩⟩;have M:=(s8.upd (o:=.lst (xs.map λx=>V.int (0-x))) j).upd (o:=.tup (xs.map λx=>V.int (0-x))) l;have e9:upd (upd L p8 (.lst (xs.map λx=>V.int (0-x)))) p9 (.tup (xs.map λx=>V.int (0-x))) p9=some (.tup ((xs.map λx=>0-x).map V.int)):=by rw[A0,cG];rfl
   generalize upd (upd L p8 (.lst (xs.map λx=>V.int (0-x)))) p9 (.tup (xs.map λx=>V.int (0-x)))=H9 at M e9;refine⟨_,rfl,by show 2<=sizeLine;omega,λa3 I=>?_⟩;refine fin (xs.map λx=>0-x) M.off (B.same M) (by omega) e9 ((Same.refl H9).upd I) A0 (by rw[ai];exact a5) (λz hz=>?_) (by omega) (by omega) λv hv hn hd=>?_
   .obtain⟨x,O,rfl⟩:=aT.mp hz;have:=t x O;omega
   .rw[a9w]at hd;have:=a5J xs v (λx O=>(t x O).1) hn;omega
  refine⟨_,rfl,rfl,_,rfl,a0e (λe=>?_) (λe=>?_)⟩
  .refine⟨by show 1<=sizeLine;omega,λp8 j=>⟨_,rfl,p8,[.int 0],_,rfl,rfl,A0,by simp,by omega,?_,λp9 H9 M e9=>?_⟩⟩
   .show(1:Int)*_<=_;omega
   rw[b3P,bz]at e9;have c8:=((Same.refl H7).upd (o:=.tup [.int 0]) j).trans M;refine⟨_,rfl,_,rfl,_,_,rfl,rfl,by show 2<=sizeLine;omega,λa3 I=>?_⟩;have c5:=W2 (B.same c8) I;have a7:=(Same.refl H9).upd (o:=.lst [.int far,.int (0-far)]) I;have d0:upd H9 a3 (.lst [.int far,.int (0-far)]) a3=some (.lst [.int far,.int (0-far)]):=A0;generalize upd H9 a3 (.lst [.int far,.int (0-far)])=f2 at a7 d0;have y:=(B.same c8).same a7;refine⟨_,rfl,a,b,_,2,rfl,y,by omega,by decide,by decide,λa6 c0 a9 b0 S g=>?_⟩;obtain⟨fr,a4,U⟩:=two_at' far (0-far) a6 a9 b0;refine⟨a3,_,_,.int fr,rfl,rfl,SqL.of (g _ _ c5 d0),a4,by show 2<=sizeLine;omega,λh5 W=>?_⟩;refine fin (List.replicate n 0) ((c8.off.trans a7.off).trans g) S (by omega) (Tk.pot y g _ _ (a7 _ _ e9)) ((Same.refl c0).upd W) A0 bt (λz hz=>?_) (by omega) (by omega) λv hv hn hd=>?_
   .rw[List.eq_of_mem_replicate hz];omega
   .rw[a4I]at hd;omega
  refine⟨_,rfl,rfl,_,rfl,a0e (λe=>?_) (λe=>?_)⟩
  .refine⟨_,rfl,p2,rfl,⟨_,SqL.of e7⟩,?_⟩;refine a4v (caps:=[some (.int u)]) (λx=>V.int (x*u)) (by omega) (λH' s=>SqL.of (s _ _ e7)) rfl (λx H1 Q1 O _ q=>⟨_,rfl,_,rfl,_,_,rfl,rfl,(.inl ⟨by have:=t x O;omega,by have:=t x O;omega⟩),q⟩) λL p8 s8 j=>?_;refine⟨p8,_,rfl,.inl ⟨SqL.of A0,λp9 l=>?_⟩⟩;have M:=(s8.upd (o:=.lst (xs.map λx=>V.int (x*u))) j).upd (o:=.tup (xs.map λx=>V.int (x*u))) l;have e9:upd (upd L p8 (.lst (xs.map λx=>V.int (x*u)))) p9 (.tup (xs.map λx=>V.int (x*u))) p9=some (.tup ((xs.map λx=>x*u).map V.int)):=by rw[A0,cG];rfl
   generalize upd (upd L p8 (.lst (xs.map λx=>V.int (x*u)))) p9 (.tup (xs.map λx=>V.int (x*u)))=H9 at M e9;have e0:=B.same M;refine⟨_,rfl,_,rfl,a,b,_,9,rfl,e0,by omega,by decide,by decide,λc7 f2 d3 h6 y a0=>?_⟩;refine⟨_,_,rfl,rfl,.inl ⟨by omega,by omega⟩,_,_,rfl,rfl,_,rfl,_,rfl,_,_,rfl,rfl,a,b,_,_,rfl,y,by omega,by omega,by omega,λa6 c0 a9 b0 S g=>⟨_,_,rfl,rfl,by show 2<=sizeLine;omega,λh5 W=>?_⟩⟩;have g2:0<=u*c7:=eF (by omega) d3;have g3:u*c7<=u*8:=Int.mul_le_mul_of_nonneg_left (by omega) (by omega);refine fin (xs.map λx=>x*u) (M.off.trans (a0.trans g)) S (by omega) (Tk.pot y g _ _ (Tk.pot e0 a0 _ _ e9)) ((Same.refl c0).upd W) A0 (by rw[ai];exact a5) (λz hz=>?_) (by omega) (by omega) λv hv hn hd=>?_
   .obtain⟨x,O,rfl⟩:=aT.mp hz;have:=t x O;have h1:0<=x*u:=eF (by omega) (by omega);have h2:x*u<=3*u:=Int.mul_le_mul_of_nonneg_right (by omega) (by omega);omega
   .rw[a4J]at hd;have h3:u*(c7-dot xs v)=1+a6:=by rw[Int.mul_sub];omega
    have h4:u ∣ 1+a6:=⟨_,h3.symm⟩;have:=Int.le_of_dvd (by omega) h4;omega
  have c9:Tk H H7:=Tk.pot hP Z;have X:=c9 _ _ R.e;have f9:=c9.its R.I;have b4:=c9 _ _ hsa;have i4:=R.l;refine⟨_,rfl,rfl,_,rfl,a0e (λe4=>?_) (λe4=>?_)⟩
  .refine⟨_,rfl,ra,us,rfl,.inr (SqT.of X),_,_,rfl,rfl,_,rfl,a0e (λe5=>?_) (λe5=>?_)⟩
   .have e5:(0:Int)<us.length:=bp e5;refine⟨_,rfl,_,rfl,ra,us,rfl,.inr (SqT.of X),a,b,_,_,rfl,B,by omega,by omega,by omega,λr8 L i0 i1 c4 b9=>?_⟩;obtain⟨k,rfl⟩:∃k:Nat,r8=k:=⟨r8.toNat,by omega⟩;have a8:Tk H7 L:=Tk.pot B b9;have hk:k<us.length:=by omega
    obtain⟨G,g4,g5,xa,g7,g6⟩:=f9.mem (aj hk);have e8:k<ss.length:=by rw[hsl,<-R.I.1];exact hk
    have e1:atI (ss.map V.int) (k:Int)=some (.int (ss.getD k 0)):=X5 e8;have b3:=R.R G g4;have i3:=hsb (ss.getD k 0) (by rw[aq,aj e8];exact cB _);dsimp only[B0];refine⟨_,rfl,_,rfl,ra,us,_,.ref xa,rfl,rfl,SqT.of (a8 _ _ X),by rw[<-g7];exact a1r (aj hk),?_⟩;refine⟨_,_,rfl,rfl,⟨by decide,by decide,by decide⟩,_,rfl,_,rfl,_,rfl,sa,_,_,_,rfl,rfl,SqT.of (a8 _ _ b4),e1,_,_,rfl,rfl,_,_,rfl,?_⟩;refine⟨_,rfl,_,rfl,sa,_,_,_,rfl,rfl,SqT.of (a8 _ _ b4),e1,_,_,rfl,rfl,⟨by decide,by decide,by decide⟩,_,rfl,rfl,.inr ⟨_,rfl,_,_,rfl,rfl,.inl ⟨by decide,by decide⟩,_,_,rfl,rfl,by show 2<=sizeLine;omega,λp9 l=>?_⟩⟩;have c1:(10:Int) ^ Int.toNat 12=1000000000000:=by decide
    dsimp only;rw[c1];have e2:(if decide (V.int (ss.getD k 0)=V.int (-1000000000000))=true then(1:Int)else 0)=if ss.getD k 0 = -1000000000000 then 1 else 0:=by
     by_cases e:ss.getD k 0 = -1000000000000
     .rw[e];rfl
     .rw[ao e,ao (λz=>e (V.int.inj (bp z)))]
    have C : -1000000000003<=(if ss.getD k 0-1 > -1000000000000 then ss.getD k 0-1 else -1000000000000)+2*(if decide (V.int (ss.getD k 0)=V.int (-1000000000000))=true then(1:Int)else 0)/\(if ss.getD k 0-1 > -1000000000000 then ss.getD k 0-1 else -1000000000000)+2*(if decide (V.int (ss.getD k 0)=V.int (-1000000000000))=true then(1:Int)else 0)<=1000000000003/\(if ss.getD k 0-1 > -1000000000000 then ss.getD k 0-1 else -1000000000000)+2*(if decide (V.int (ss.getD k 0)=V.int (-1000000000000))=true then(1:Int)else 0)≠ss.getD k 0:=by
     rw[e2];split<;>split<;>omega
    refine fin G b9 c4 (by omega) (a8 _ _ g6) ((Same.refl L).upd l) A0 b3.1 b3.2 C.1 C.2.1 λv hv hn hd he=>?_;refine C.2.2 (hd.symm.trans ?_);rw[<-he,aq,aX,g5];rfl
   .refine⟨_,rfl,p2,_,rfl,.inl ⟨SqL.of e7,λp8 j=>?_⟩⟩;have s8:=(Same.refl H7).upd (o:=.tup (xs.map V.int)) j;refine⟨_,rfl,_,_,rfl,rfl,by show 2<=sizeLine;omega,λp9 l=>?_⟩;exact fin xs s8.off (B.same s8) (by omega) A0 ((Same.refl _).upd l) A0 a5 (λz hz=>by have:=t z hz;omega) (by omega) (by omega) λv hv hn hd=>by
     have:=a5J xs v (λx O=>(t x O).1) hn;omega
  .refine C9 ?_;refine⟨_,rfl,p2,_,rfl,.inl ⟨SqL.of e7,λp8 j=>?_⟩⟩;have s8:=(Same.refl H7).upd (o:=.tup (xs.map V.int)) j;refine⟨_,rfl,_,_,rfl,rfl,by show 2<=sizeLine;omega,λp9 l=>?_⟩;exact fin xs s8.off (B.same s8) (by omega) A0 ((Same.refl _).upd l) A0 a5 (λz hz=>by have:=t z hz;omega) (by omega) (by omega) λv hv hn hd=>by
    have:=a5J xs v (λx O=>(t x O).1) hn;omega
end
end K28
namespace K28
open PySem PySem.Spec PyProof.Rows L2
variable {n:Nat}{rss:LLI}
def a2K{ss v:qI}(b:ss.length=rss.length):Ans rss v=true↔(rss.map λr=>dot r v)=ss.map λ_=>(0:Int):=by
 have e:(ss.map λ_=>(0:Int))=List.replicate rss.length 0:=List.eq_replicate_iff.mpr ⟨by rw[ai,b],λx c=>by obtain⟨_,_,rfl⟩:=aT.mp c;rfl⟩;unfold Ans;rw[e,aS,List.eq_replicate_iff];constructor
 .intro h;exact⟨ai _,λx c=>by obtain⟨r,a,rfl⟩:=aT.mp c;exact bp (h r a)⟩
 .rintro⟨_,h⟩ r a;exact bj (h _ (aT.mpr ⟨r,a,rfl⟩))
def b7g{v:qI}(b:v.length=n):Wi (List.replicate n none) v=true:=by
 rw[Y9 (by rw[bt,b])];intro j a;rw[bt]at a;rw[aq,dW,av a];rfl
def a8o{ss v:qI}(a:ss.length=rss.length)(hR:∀r∈rss,r.length=n):Least (sdS rss ss) (sdC n) (v++[0])↔Least rss (List.replicate n none) v:=by
 rw[a8m a hR];constructor
 .rintro⟨⟨⟨h1,h2,h3⟩,h4⟩,h5⟩;exact⟨⟨by rw[bt];exact h1,h2,(a2K a).mpr h3,h4⟩,b7g h1,λw hw b=>h5 w ⟨by have:=hw.len;rwa[bt]at this,hw.nn,(a2K a).mp hw.ans⟩ hw.pos b⟩
 .intro h;have c:=h.an.len;rw[bt]at c;exact⟨⟨⟨c,h.an.nn,(a2K a).mp h.an.ans⟩,h.an.pos⟩,λw hw d b=>h.min w ⟨by rw[bt];exact hw.1,hw.2.1,(a2K a).mpr hw.2.2,d⟩ b⟩
def b4I{k:Nat}{ss b:qI}{a:Int}(c:ss.length=rss.length)(h:b8Y n rss ss b a)(u:qI):¬AnS n (rss.take k++b::rss.drop k) (ss.take k++a::ss.drop k) u:=by
 rintro⟨h1,h2,d⟩;rw[bF,aV]at d;obtain⟨e,f⟩:=List.append_inj d (by rw[ai,aN,aN,c]);injection f with e3 e4
 refine h u h1 h2 e3 ?_;rw[<-bo k rss,bF,e,e4,bo]
def SD.its{H:Hp}{a b:qE}{us c:qA V}{A:LLI}(j:H a=some (.tup us))(k:H b=some (.tup c))(hI:Its H us A)(f:Its H c A)(l:A.length<=1000)(m:∀r∈A,r.length<=1000):SD H 3 (.ref a) (.ref b):=by
 refine .inr ⟨a,b,us,c,rfl,rfl,j,k,by rw[hI.1,f.1],by rw[hI.1];exact l,λi n o e g=>?_⟩;obtain⟨r,d,h⟩:=hI.2 i n e;obtain⟨p,f1,f2⟩:=f.2 i o g;rw[d]at f1;cases f1;exact SD.ints h f2 (m r (aH d))
section
variable {P:qG}{w:World}{K:qF}{mg:Str->qD qB}{base:Heap}
def sc_law:FnScope ["_law_script","_law_pot_here","_law_turn","_law_rows","_law_width","_law_sides_here","_law_row","_law_side","_law_at","_law_one","_law_told","_law_due"] ["_law_script"] (A1 a2Z):={}
def b8k{f:qE}{fd:FuncData}(F':Fun K "law" "law" a2Z f fd)(T:Tx mg)(X:Ok P w K mg base "_law_pot" 1 ["_law_script"] (b6E K))(p:Ok P w K mg base "_law_take" 1 ["_law_pot_here","_law_many"] a1x)(I:Ok P w K mg base "_law_system" 3 ["_law_pot_here","_law_wide","_law_far"] b6A)(L:Ok P w K mg base "_law_sides" 2 ["_law_pot_here","_law_rows","_law_width"] a6k)(S:Ok P w K mg base "_law_shut" 2 ["_law_pot_here","_law_rows","_law_sides_here","_law_width"] b1L)(B:Ok P w K mg base "_law_put" 1 ["_law_some","_law_at","_law_one"] b6D)(G:Ok P w K mg base "_law_beyond" 9 ["_law_rows","_law_sides_here","_law_width","_law_most"] a4m)(y:Ok P w K mg base "_law_least_of" 8 ["_law_rows","_law_width"] b6F)(R:Ok P w K mg base "_law_same" 4 ["_law_found","_law_due"] (b1M 3))(F:Ok P w K mg base "shows_beyond" 7 ["rows","sides","width","told","base","paper"] b6B)(d:Ok P w K mg base "_law_refused" 5 ["_law_base","_law_one"] b1P) :
  FnOk P w K mg base CX0 10 f fd ["_law_script"] (a8N K):=by
 refine F'.okJ sc_law (λvs H Q E h=>?_) (λn1 A m7 s H vs Q E C h=>?_)
 .obtain⟨a,ns,rfl,_⟩:=h;rfl
 .obtain⟨c,ns,rfl,hS,hl,kk⟩:=h;have hu:=C.u60;have hz:(3000:Nat)<=sizeLine:=by rw[aU];decide
  refine⟨_,(A2 (B1 (i:=1) sc_law.nd rfl (Or.inr rfl) (A6 X (C.mono (by omega)) rfl (jaC (jv 0) jaN)))
 (A2 (O7 (E4 rfl T.b_range (jaC A3 jaN)) (A7 (i:=2) sc_law.nd rfl (Or.inl rfl))
 (A2 (a3x (A6 I (C.mono (by omega)) rfl (jaC (jv 1) (jaC A3 (jaC (a0K A3 A3) jaN)))) (O8 K 2 (B5 (A7 (i:=3) sc_law.nd rfl (Or.inl rfl)) (B5 (A7 (i:=4) sc_law.nd rfl (Or.inl rfl)) K2))))
 (A2 (B1 (i:=3) sc_law.nd rfl (Or.inl rfl) (b3z K (jv 3) S9 (S7 A3)))
 (A2 (B1 (i:=5) sc_law.nd rfl (Or.inl rfl) (A6 L (C.mono (by omega)) rfl (jaC (jv 1) (jaC (jv 3) (jaC (jv 4) jaN)))))
 (A2 (a3x (A6 S (C.mono (by omega)) rfl (jaC (jv 1) (jaC (jv 3) (jaC (jv 5) (jaC (jv 4) jaN))))) (O8 K 2 (B5 (A7 (i:=6) sc_law.nd rfl (Or.inl rfl)) (B5 (A7 (i:=7) sc_law.nd rfl (Or.inl rfl)) K2))))
 (A2 (B1 (i:=8) sc_law.nd rfl (Or.inl rfl) (A6 p (C.mono (by omega)) rfl (jaC (jv 1) (jaC (M2 (G8 K rfl T.b_len (jaC (jv 3) jaN)) A3) jaN))))
 (A2 (b8v (i:=3) (j:=5) rfl sc_law.nd rfl rfl (by decide) rfl rfl (jaC (A6 B (C.mono (by omega)) rfl (jaC (jv 3) (jaC (jv 8) (jaC (jv 6) jaN)))) (jaC (A6 B (C.mono (by omega)) rfl (jaC (jv 5) (jaC (jv 8) (jaC (jv 7) jaN)))) jaN)) rfl)
 (A2 (B1 (i:=9) sc_law.nd rfl (Or.inl rfl) (C2 K rfl T.b_tuple (jaC (B7 (N:=["_law_j","_law_pot_here"]) (src:=[none,some 1]) (E4 rfl T.b_range (jaC (jv 4) jaN)) (by show B9 _ _=true;rfl) (by rfl) (by rfl)
 (λ_ _ _ _ _=>(A7 (i:=0) (L2.nd ["_law_j","_law_pot_here"]) rfl (Or.inl rfl))) (λ_ _ _ _ _=>C1) (λ_ _ _ _ _=>(A6 p (C.mono (by omega)) rfl (jaC (jv 1) (jaC A3 jaN))))) jaN)))
 (A2 (B1 (i:=10) sc_law.nd rfl (Or.inl rfl) (A6 G (C.mono (by omega)) rfl (jaC (jv 3) (jaC (jv 5) (jaC (jv 4) (jaC A3 jaN))))))
 (A2 (C7 (a2H (jv 10) X8)
 (A2 (C7 (a1j (a2e (G2 (C6 K (C5 K rfl T.b_isinstance (jaC (jv 10) (jaC (T8 (v:=.ty "tuple") rfl T.b_tuple V4 rfl) jaN))))) (a2e (b6T (G8 K rfl T.b_len (jaC (jv 10) jaN)) A3) (a0R (b3o K hu (G1 K (jv 10) A3) (E3 jaN))))))
 (A4 (A8 N8))
 B6)
 (A2 (B1 (i:=11) sc_law.nd rfl (Or.inl rfl) (A6 y (C.mono (by omega)) rfl (jaC (jv 3) (jaC (jv 4) jaN))))
 (A2 (C7 (a1j (a0S (a2H (jv 11) X8) (W5 (G2 (C6 K (A6 R (C.mono (by omega)) rfl (jaC (G1 K (jv 10) A3) (jaC (jv 11) jaN))))))))
 (A4 (A8 N8))
 B6)
 (A2 (C7 (b0E true (A6 F (C.mono (by omega)) rfl (jaC (jv 3) (jaC (jv 5) (jaC (jv 4) (jaC (G1 K (jv 10) A3) (jaC (G1 K (jv 10) A3) (jaC (G1 K (jv 10) A3) jaN))))))) N8)
 (A4 (A8 N8))
 B6)
 (A4 (C7 (G2 (C6 K (A6 d (C.mono (by omega)) rfl (jaC (G1 K (jv 10) A3) (jaC (jv 9) jaN)))))
 (A4 (A8 N8))
 B6))))))
 B6)
 (A4 (C7 (a1j (a2e (G2 (C6 K (A6 d (C.mono (by omega)) rfl (jaC (E3 jaN) (jaC (jv 9) jaN))))) (a0R (G2 (C6 K (A6 d (C.mono (by omega)) rfl (jaC (E3 (jaC (a7V (E3 (jaC A3 jaN)) (jv 4)) jaN)) (jaC (jv 9) jaN))))))))
 (A4 (A8 N8))
 B6))))))))))))
 (A4 (A8 N8)))),?_⟩
  refine⟨_,rfl,c,ns,rfl,hS,hl,λa b H1 _ _ i4 _=>?_⟩;refine⟨_,rfl,by decide,by decide,?_⟩;refine a4D (lo:=0) (n:=2) (λi σ H'=>Ex10 λo2 o3 o4 o5 o6 o7 o8 o9 a6 a7=>An2 (σ=[some (.ref c),some (.ref a),o2,o3,o4,o5,o6,o7,o8,o9,a6,a7]) (PotAt H' a b (1000*i))) ⟨none,none,none,none,none,none,none,none,none,none,rfl,i4⟩ ?_ ?_
  .rintro i σ H hi ⟨o2,o3,o4,o5,o6,o7,o8,o9,a6,a7,rfl,hP⟩
   try dsimp only[B0,List.set]
   refine⟨_,rfl,_,_,rfl,rfl,⟨by decide,by decide,by decide⟩,a,b,_,7,_,rfl,by decide,by decide,by decide,by decide,hP,by omega,λq qr k8 e8 m H2 hq d9 h9 k0 f5 b5 b6 l9 f0 k6=>?_⟩;have l2:(10:Int) ^ Int.toNat 12=1000000000000:=by decide
   rw[l2]at f5;refine⟨q,[.ref qr,.int m],rfl,SqT.of hq,rfl,.ref qr,[.int m],rfl,.int m,[],rfl,rfl,?_⟩
   try dsimp only[B0,List.set]
   clear hq l9;refine⟨_,rfl,?_⟩
   try dsimp only[V8]
   refine⟨((5:Nat):Int),rfl,b1U d9 λra H3 s3 hra=>?_⟩;have b3:=(h9.same s3).take 5;have a5:∀r∈e8.take 5,r.length=m/\Bd (1000000000000+3) r:=λr C=>f5 r (bT C);have c1:(k8.take 5).length<=5:=by rw[aN];omega
   have f1:=f0.same s3;generalize k8.take 5=us at hra b3 c1;generalize e8.take 5=rss at b3 a5;clear d9 h9 k0 f5 f0 k6 s3 hP i4
   try dsimp only[B0,List.set]
   refine⟨_,rfl,_,rfl,_,rfl,a,b,ra,us,rss,_,m,rfl,f1,by omega,hra,b3,by omega,λr C=>(a5 r C).1,b5,b6,λsa ss H4 hsa c6 hsb f2 e4=>?_⟩;have h5:Tk H3 H4:=Tk.pot f1 e4;have R4:Ry H4 ra us rss m 1000000000003:=⟨h5 _ _ hra,h5.its b3,by omega,λr C=>a5 r C⟩;clear h5 e4 f1 hra b3
   try dsimp only[B0,List.set]
   refine⟨_,rfl,_,rfl,_,rfl,_,rfl,a,b,ra,sa,us,rss,ss,_,m,_,rfl,rfl,f2,by omega,R4,b5,b6,c6,hsb,hsa,λp5 q5 c9 l H5 j3 j5 j8 j7 m4 m5 hsh f3 e5=>?_⟩;have d4:Tk H4 H5:=Tk.pot f2 e5;have R5:Ry H5 ra us rss m 1000000000003:=⟨d4 _ _ R4.e,d4.its R4.I,R4.l,R4.R⟩;have e1:=d4 _ _ hsa;refine⟨p5,[.ref q5,.int l],rfl,SqT.of j3,rfl,.ref q5,[.int l],rfl,.int l,[],rfl,rfl,?_⟩;clear j3 d4 R4 hsa f2 e5
   try dsimp only[B0,List.set]
   refine⟨_,rfl,_,rfl,ra,us,rfl,.inr (SqT.of R5.e),_,_,rfl,rfl,a,b,_,_,rfl,f3,by omega,by omega,by omega,λr6 H6 l4 l5 i6 e6=>?_⟩;obtain⟨k,rfl⟩:∃k:Nat,r6=k:=⟨r6.toNat,by omega⟩;have c2:Tk H5 H6:=Tk.pot f3 e6;have R6:Ry H6 ra us rss m 1000000000003:=⟨c2 _ _ R5.e,c2.its R5.I,R5.l,R5.R⟩;have e2:=c2 _ _ e1;have j6:=c2 _ _ j5;clear c2 e6 f3 R5 e1 j5
   try dsimp only[B0,List.set]
   have l6:=R6.I.1;refine⟨_,rfl,_,rfl,_,rfl,ra,us,k,.ref q5,rfl,R6.e,by omega,by omega,λY H7 s7 e0=>?_⟩;refine⟨_,rfl,_,rfl,_,rfl,sa,ss.map V.int,k,.int l,rfl,s7 _ _ e2,by rw[ai];omega,by rw[ai];omega,λa9 H8 s8 e3=>?_⟩;refine⟨.ref Y,.ref a9,rfl,?_⟩;have d3:=s7.trans s8;have e9:=R6.I.same d3;have R8:Ry H8 Y (us.take k++.ref q5::us.drop k) (rss.take k++c9::rss.drop k) m 1000000000003:=⟨s8 _ _ e0,(e9.take k).app ((Its.one ⟨q5,rfl,d3 _ _ j6⟩).app (e9.drop k)),by rw[ar,aZ,aN,bQ];omega,λr C=>by
    rcases aD.mp C with g|g
    .exact a5 r (bT g)
    rcases aA.mp g with g|g
    .rw[g];exact⟨j8,j7⟩
    .exact a5 r (cJ g)⟩
   have Z:H8 a9=some (.tup ((ss.take k++l::ss.drop k).map V.int)):=by rw[e3,bF,aV,List.map_take,List.map_drop]
   have M:(ss.take k++l::ss.drop k).length=(rss.take k++c9::rss.drop k).length:=by simp[c6]
   have b9:Bd 10000000000000 (ss.take k++l::ss.drop k):=λz hz=>by
    rcases aD.mp hz with g|g
    .have:=hsb z (bT g);omega
    rcases aA.mp g with g|g
    .rw[g];omega
    .have:=hsb z (cJ g);omega
   have g1:∀u,¬AnS m (rss.take k++c9::rss.drop k) (ss.take k++l::ss.drop k) u:=b4I c6 hsh;have f4:=i6.same d3;generalize us.take k++.ref q5::us.drop k=d5 at R8;generalize rss.take k++c9::rss.drop k=O at R8 M g1;generalize ss.take k++l::ss.drop k=h4 at Z M b9 g1;clear e3 e9 d3 s7 s8 e0 j6 e2 R6 i6 hsh j7 m4 m5 j8 hsb c6 a5 c1 l6 l4 l5
   try dsimp only[B0,List.set]
   refine⟨_,rfl,_,rfl,by omega,by omega,?_⟩;rw[bz];refine a0t (caps:=[some (.ref a)]) (c:=1) (λz=>0<=z/\z<=9) (by omega) rfl f4 (λi' H' N' n3 l7 q=>⟨_,rfl,a,b,_,10,rfl,l7,by omega,by decide,by decide,λr k9 h0 h1 i3 m6=>q r k9 ⟨h0,by omega⟩ i3 m6⟩) ?_;intro H9 p9 xs n8 n9 i7 e7 j4;refine⟨p9,_,rfl,.inl ⟨SqL.of A0,λc8 d8=>?_⟩⟩;have d1:=((Same.refl H9).upd (o:=.lst (xs.map V.int)) j4).upd (o:=.tup (xs.map V.int)) d8;generalize upd (upd H9 p9 (.lst (xs.map V.int))) c8 (.tup (xs.map V.int))=h7 at d1;have a4:Tk H8 h7:=(Tk.pot f4 e7).trans (Tk.same d1);have c5:Ry h7 Y d5 O m 1000000000003:=⟨a4 _ _ R8.e,a4.its R8.I,R8.l,R8.R⟩;have b8:=a4 _ _ Z;have d7:=i7.same d1;clear a4 d1 i7 e7 R8 Z f4 j4 d8
   try dsimp only[B0,List.set]
   have tail:∀(σ:L2.St) (H':Hp),True->True:=λ_ _ _=>trivial;refine⟨_,rfl,_,rfl,_,rfl,Y,a9,d5,O,m,100,h4,_,_,1000000000003,rfl,rfl,rfl,c5,by decide,by decide,b5,b6,by decide,M,b9,b8,λq9 t b' pp zs ys ws U Fl W kw b1 d2 b7 j9 i2 i9 i0 m1 i1 hW n2 m0 n7 g5 j0 k5 f8=>?_,λb1 d2 _=>?_⟩
   .try dsimp only[B0,List.set]
    refine Q6 (λσ H'=>Ex8 λo2 o3 o5 o6 o7 o8 a6 a7=>An2 (σ=[some (.ref c),some (.ref a),o2,o3,some (.int m),o5,o6,o7,o8,some (.ref c8),a6,a7]) (PotAt H' a b (1000*i+500))) ?fin λfin=>?_
    case fin =>
     rintro σ c4 ⟨o2,o3,o5,o6,o7,o8,a6,a7,rfl,i5⟩;refine⟨bw _,λpa g2=>⟨_,rfl,_,_,rfl,λHa h2=>⟨true,rfl,C9 ?_⟩⟩⟩;have sA:=((Same.refl c4).upd (o:=.tup []) g2).trans h2;refine⟨by show 1<=sizeLine;omega,λpb g3=>⟨_,rfl,pb,[.int 1],_,rfl,rfl,A0,by simp,by omega,?_,λpc Hc h3 ec=>?_⟩⟩
     .show(1:Int)*_<=_;omega
     have sB:=(sA.upd (o:=.tup [.int 1]) g3).trans h3;refine⟨by show 1<=sizeLine;omega,λpd g4=>⟨_,rfl,_,_,rfl,λHe se=>⟨true,rfl,C9 ?_⟩⟩⟩;exact⟨_,_,_,_,_,_,_,_,_,_,rfl,((i5).same ((sB.upd g4).trans se)).mono (by omega)⟩
    have f6:∀r∈O,r.length=m:=λr C=>(c5.R r C).1;have i8:∀r∈sdS O h4,r.length=(sdC m).length:=λr m2=>by
     obtain⟨x,sz,hx,n6,rfl⟩:=a5k m2;rw[ar,f6 x hx,C0];rfl
    have j1:G9 1 U=[]:=List.eq_nil_iff_forall_not_mem.mpr λv J=>g1 v ((b6k M f6).mp ((f8 _).mp (mem_endL.mp J))).1;have c7:∀v∈U,v.length=m+1:=λv J=>(k5 v J).1;have l8:∀t:Int,(G9 t U).length<=U.length:=λt=>by unfold G9;rw[ai];exact bu _ _
    have l0:=l8 0;have m3:∀(t:Int) v,v∈G9 t U->v.length<=1000:=λt v J=>by
     have h1:=c7 _ (mem_endL.mp J);rw[ar]at h1;have h1:v.length+1=m+1:=h1;omega
    refine⟨_,rfl,rfl,true,rfl,E5 ?_⟩;refine⟨_,rfl,_,_,_,true,rfl,.tup b7,rfl,true,rfl,C9 ?_⟩;refine⟨_,rfl,q9,_,rfl,.inr (SqT.of b7),rfl,false,rfl,C9 ?_⟩;refine⟨_,rfl,q9,_,_,.ref t,rfl,rfl,SqT.of b7,rfl,bw _,λg7 j2=>?_⟩;have a8:=(Same.refl b1).upd (o:=.tup []) j2;have d6:upd b1 g7 (.tup []) g7=some (.tup []):=A0;generalize upd b1 g7 (.tup [])=c4 at a8 d6;refine⟨2,_,by decide,EqV.its (k:=true) (SqT.of (a8 _ _ j9)) (SqT.of d6) (i2.same a8) Its.nil,⟨_,_,rfl,rfl⟩,false,by rw[j1];rfl,C9 ?_⟩;have g8:=d2.trans a8;refine(show ∀{D:Ends}{σ:L2.St}{H:Hp},D.nx σ H->b1G D σ H from λh=>h) ?_;dsimp only;refine Q6 (λσ H'=>Ex1 λa2=>An3 (σ=[some (.ref c),some (.ref a),some (.int (0+i)),some (.ref Y),some (.int m),some (.ref a9),some (.ref q5),some (.int l),some (.int k),some (.ref c8),some (.ref q9),some a2]) (Same c4 H') ((a2=.non∨∃(b0:qE) (c3:qA V),a2=.ref b0/\H' b0=some (.tup c3)/\Its H' c3 (G9 0 U)))) ?fin2 λfin2=>?_
    case fin2 =>
     rintro σ h8 ⟨a2,rfl,a1,k4⟩;refine Q6 (λσ H'=>Ex1 λa2=>An2 (σ=[some (.ref c),some (.ref a),some (.int (0+i)),some (.ref Y),some (.int m),some (.ref a9),some (.ref q5),some (.int l),some (.int k),some (.ref c8),some (.ref q9),some a2]) (Same c4 H')) ?fin3 λfin3=>?_
     case fin3 =>
      rintro σ l1 ⟨a2,rfl,g9⟩;have e:=a8.trans g9;have a0:=d2.trans e;have a3:=e _ _ b7;have f7:∀v∈U,∃u z,v=u++[z]/\u.length=m/\(z=1∨z=0):=λv J=>by
       have hL:=(f8 v).mp J;obtain⟨u,z,rfl,c1⟩:=a2F (n:=m) (c7 v J);have h1:=b2b c1 hL.wi;have h0:=hL.an.nn z (aR _ (ft _));exact⟨u,z,rfl,c1,by omega⟩
      have pap:=hW.pap i8;have b4:∀v∈W,v.length=m+1/\(∀x∈v,0<=x/\x<=10000000000000)/\0<v.sum:=λv J=>by
       obtain⟨i',n4,n5,lv⟩:=hW.lv.2.1 v J;have hk:=hW.lv.2.2.2.2.2.2.1;refine⟨by rw[lv.len,C0],λx hx=>⟨lv.nn x hx,?_⟩,by rw[lv.sum];omega⟩;have:=b3f lv.nn x hx;rw[lv.sum]at this;omega
      refine⟨_,rfl,_,rfl,_,rfl,_,rfl,q9,_,_,.ref t,rfl,rfl,SqT.of a3,rfl,_,rfl,q9,_,_,.ref b',rfl,rfl,SqT.of a3,rfl,_,rfl,q9,_,_,.ref pp,rfl,rfl,SqT.of a3,rfl,Y,a9,t,b',pp,d5,zs,ys,ws,O,U,W,h4,m,1000000000003,rfl,c5.same a0,by decide,M,b9,a0 _ _ b8,b5,b6,e _ _ j9,i2.same e,e _ _ i9,i0.same e,by omega,g5,j0,(λv J=>⟨c7 v J,λx hx=>by have:=(k5 v J).2 x hx;omega,?_⟩),e _ _ m1,i1.same e,by rw[i1.1];omega,(λv J=>?_),λbb m9 k7 hb=>?_⟩
      .obtain⟨u,z,rfl,_,rfl|rfl⟩:=f7 v J
       .exact .inl (by simp)
       .exact .inr (by simp)
      .obtain⟨k1,k2,_⟩:=b4 v J;exact⟨by omega,λz hz=>by have:=k2 z hz;omega⟩
      obtain rfl:bb=true:=hb.mpr (b4H i8 hW m0 g5 (λv J=>by
       obtain⟨k1,k2,k3⟩:=b4 v J;exact⟨by rw[k1,C0],λx hx=>(k2 x hx).1,k3,pap.wi v J⟩) (λv J=>.inl J) λv J=>.inl J)
      refine⟨rfl,_,rfl,C9 ?_⟩;refine⟨_,rfl,q9,_,_,.ref b',rfl,rfl,SqT.of (k7 _ _ a3),rfl,_,rfl,_,_,rfl,λn0 m8=>⟨true,rfl,C9 ?_⟩⟩;exact fin _ _ ⟨_,_,_,_,_,_,_,_,rfl,(d7.same ((a0.trans k7).trans m8)).mono (by omega)⟩
     rcases k4 with rfl|⟨b0,c3,rfl,c0,b2⟩
     .exact⟨_,rfl,rfl,false,rfl,C9 (C9 (fin3 _ _ ⟨_,rfl,a1⟩))⟩
     .have s1113:=a8.trans a1;refine⟨_,rfl,rfl,true,rfl,E5 ?_⟩;refine⟨_,rfl,q9,_,_,.ref b',rfl,rfl,SqT.of (s1113 _ _ b7),rfl,_,rfl,.ref b',.ref b0,rfl,SD.its (s1113 _ _ i9) c0 (i0.same s1113) b2 (by omega) (m3 0),λl1 g9=>⟨true,rfl,C9 (fin3 _ _ ⟨_,rfl,a1.trans g9⟩)⟩⟩
    refine⟨_,rfl,_,rfl,Y,d5,O,m,_,_,rfl,rfl,c5.same g8,by decide,b5,b6,λh8 a1=>fin2 _ _ ⟨_,rfl,a1,.inl rfl⟩,λb0 c3 h6 h8 a1 c0 b2 g6 g0 f9=>?_⟩;obtain⟨r0,d0⟩:=a5I (t:=0) c7 g5 j0;have l3:h6=G9 0 U:=Z7 g6 r0 g0 d0 λv=>by rw[f9,mem_endL,f8,a8o M f6]
    exact fin2 _ _ ⟨_,rfl,a1,.inr ⟨b0,c3,rfl,c0,by rw[<-l3];exact b2⟩⟩
   .try dsimp only[B0,List.set]
    refine⟨_,rfl,rfl,false,rfl,C9 ?_⟩;refine⟨bw _,λpa g2=>⟨_,rfl,_,_,rfl,λHa h2=>⟨true,rfl,C9 ?_⟩⟩⟩;have sA:=((Same.refl b1).upd (o:=.tup []) g2).trans h2;refine⟨by show 1<=sizeLine;omega,λpb g3=>⟨_,rfl,pb,[.int 1],_,rfl,rfl,A0,by simp,by omega,?_,λpc Hc h3 ec=>?_⟩⟩
    .show(1:Int)*_<=_;omega
    have sB:=(sA.upd (o:=.tup [.int 1]) g3).trans h3;refine⟨by show 1<=sizeLine;omega,λpd g4=>⟨_,rfl,_,_,rfl,λHe se=>⟨true,rfl,C9 ?_⟩⟩⟩;exact⟨_,_,_,_,_,_,_,_,_,_,rfl,((d7.same d2).same ((sB.upd g4).trans se)).mono (by omega)⟩
  .rintro σ H2 ⟨o2,o3,o4,o5,o6,o7,o8,o9,a6,a7,rfl,f0⟩;exact kk H2
end
end K28
namespace K28
open PySem PySem.Spec PyProof.Rows L2
open PySem.W
def nI(K:qF)(x:Str)(f:qE):Prop:=nsIn K mainGlobals x=some (some (.ref f))
def all_mk{l:PySem.W.OpenLaw}{w:World}{K:qF}{h:Heap}{mg:Str->qD qB}{fa:qE}(X:K.In h)(G:h.Ns mainGlobals mg)(hfa:mg "law"=some (.ref fa))
 (a1:nI K "free" f1) (l1:FnL K f1 "free" "free" a5u o1 d1 s1 v1 x1 p1 n1 c1 t1) (c_1:codeIn K c1 "free"=true) (k1:keepIn K (.ref f1)=true)
 (a2:nI K "within" f2) (l2:FnL K f2 "within" "within" a1b o2 d2 s2 v2 x2 p2 n2 c2 t2) (c_2:codeIn K c2 "within"=true) (k2:keepIn K (.ref f2)=true)
 (a3:nI K "row_sum" f3) (l3:FnL K f3 "row_sum" "row_sum" a0p o3 d3 s3 v3 x3 p3 n3 c3 t3) (c_3:codeIn K c3 "row_sum"=true) (k3:keepIn K (.ref f3)=true)
 (a4:nI K "sums" f4) (l4:FnL K f4 "sums" "sums" a5t o4 d4 s4 v4 x4 p4 n4 c4 t4) (c_4:codeIn K c4 "sums"=true) (k4:keepIn K (.ref f4)=true)
 (a5:nI K "is_answer" f5) (l5:FnL K f5 "is_answer" "is_answer" R0 o5 d5 s5 v5 x5 p5 n5 c5 t5) (c_5:codeIn K c5 "is_answer"=true) (k5:keepIn K (.ref f5)=true)
 (a6:nI K "pull_of" f6) (l6:FnL K f6 "pull_of" "pull_of" a0q o6 d6 s6 v6 x6 p6 n6 c6 t6) (c_6:codeIn K c6 "pull_of"=true) (k6:keepIn K (.ref f6)=true)
 (a7:nI K "falls" f7) (l7:FnL K f7 "falls" "falls" a2A o7 d7 s7 v7 x7 p7 n7 c7 t7) (c_7:codeIn K c7 "falls"=true) (k7:keepIn K (.ref f7)=true)
 (a8:nI K "below" f8) (l8:FnL K f8 "below" "below" a2B o8 d8 s8 v8 x8 p8 n8 c8 t8) (c_8:codeIn K c8 "below"=true) (k8:keepIn K (.ref f8)=true)
 (a9:nI K "minus" f9) (l9:FnL K f9 "minus" "minus" a8W o9 d9 s9 v9 x9 p9 n9 c9 t9) (c_9:codeIn K c9 "minus"=true) (k9:keepIn K (.ref f9)=true)
 (Q5:nI K "times" f10) (l10:FnL K f10 "times" "times" a8U o10 d10 s10 v10 x10 p10 n10 c10 t10) (q0:codeIn K c10 "times"=true) (k10:keepIn K (.ref f10)=true)
 (R5:nI K "unit" f11) (l11:FnL K f11 "unit" "unit" a5s o11 d11 s11 v11 x11 p11 n11 c11 t11) (r0:codeIn K c11 "unit"=true) (k11:keepIn K (.ref f11)=true)
 (R6:nI K "least_of" f12) (l12:FnL K f12 "least_of" "least_of" V9 o12 d12 s12 v12 x12 p12 n12 c12 t12) (r1:codeIn K c12 "least_of"=true) (k12:keepIn K (.ref f12)=true)
 (R8:nI K "above_any" f13) (l13:FnL K f13 "above_any" "above_any" L9 o13 d13 s13 v13 x13 p13 n13 c13 t13) (r2:codeIn K c13 "above_any"=true) (k13:keepIn K (.ref f13)=true)
 (S1:nI K "first_steps" f14) (l14:FnL K f14 "first_steps" "first_steps" K7 o14 d14 s14 v14 x14 p14 n14 c14 t14) (r3:codeIn K c14 "first_steps"=true) (k14:keepIn K (.ref f14)=true)
 (S2:nI K "raised" f15) (l15:FnL K f15 "raised" "raised" a1c o15 d15 s15 v15 x15 p15 n15 c15 t15) (r4:codeIn K c15 "raised"=true) (k15:keepIn K (.ref f15)=true)
 (S4:nI K "steps" f16) (l16:FnL K f16 "steps" "steps" a2w o16 d16 s16 v16 x16 p16 n16 c16 t16) (r5:codeIn K c16 "steps"=true) (k16:keepIn K (.ref f16)=true)
 (S8:nI K "is_barred" f17) (l17:FnL K f17 "is_barred" "is_barred" Q9 o17 d17 s17 v17 x17 p17 n17 c17 t17) (r6:codeIn K c17 "is_barred"=true) (k17:keepIn K (.ref f17)=true)
 (T6:nI K "next_level" f18) (l18:FnL K f18 "next_level" "next_level" M7 o18 d18 s18 v18 x18 p18 n18 c18 t18) (r7:codeIn K c18 "next_level"=true) (k18:keepIn K (.ref f18)=true)
 (U3:nI K "least" f19) (l19:FnL K f19 "least" "least" a2z o19 d19 s19 v19 x19 p19 n19 c19 t19) (r8:codeIn K c19 "least"=true) (k19:keepIn K (.ref f19)=true)
 (X3:nI K "is_number" f20) (l20:FnL K f20 "is_number" "is_number" Q8 o20 d20 s20 v20 x20 p20 n20 c20 t20) (r9:codeIn K c20 "is_number"=true) (k20:keepIn K (.ref f20)=true)
 (a21:nI K "is_vector" f21) (l21:FnL K f21 "is_vector" "is_vector" Q7 o21 d21 s21 v21 x21 p21 n21 c21 t21) (s0:codeIn K c21 "is_vector"=true) (k21:keepIn K (.ref f21)=true)
 (a22:nI K "are_vectors" f22) (l22:FnL K f22 "are_vectors" "are_vectors" K8 o22 d22 s22 v22 x22 p22 n22 c22 t22) (t0:codeIn K c22 "are_vectors"=true) (k22:keepIn K (.ref f22)=true)
 (a23:nI K "often" f23) (l23:FnL K f23 "often" "often" a8V o23 d23 s23 v23 x23 p23 n23 c23 t23) (u0:codeIn K c23 "often"=true) (k23:keepIn K (.ref f23)=true)
 (a24:nI K "laid" f24) (l24:FnL K f24 "laid" "laid" b2e o24 d24 s24 v24 x24 p24 n24 c24 t24) (u1:codeIn K c24 "laid"=true) (k24:keepIn K (.ref f24)=true)
 (a25:nI K "all_fit" f25) (l25:FnL K f25 "all_fit" "all_fit" a0s o25 d25 s25 v25 x25 p25 n25 c25 t25) (u2:codeIn K c25 "all_fit"=true) (k25:keepIn K (.ref f25)=true)
 (a26:nI K "are_least" f26) (l26:FnL K f26 "are_least" "are_least" R1 o26 d26 s26 v26 x26 p26 n26 c26 t26) (u3:codeIn K c26 "are_least"=true) (k26:keepIn K (.ref f26)=true)
 (a27:nI K "is_met" f27) (l27:FnL K f27 "is_met" "is_met" a1d o27 d27 s27 v27 x27 p27 n27 c27 t27) (u4:codeIn K c27 "is_met"=true) (k27:keepIn K (.ref f27)=true)
 (a28:nI K "goes_on" f28) (l28:FnL K f28 "goes_on" "goes_on" a0r o28 d28 s28 v28 x28 p28 n28 c28 t28) (u5:codeIn K c28 "goes_on"=true) (k28:keepIn K (.ref f28)=true)
 (a29:nI K "shows" f29) (l29:FnL K f29 "shows" "shows" a2y o29 d29 s29 v29 x29 p29 n29 c29 t29) (u6:codeIn K c29 "shows"=true) (k29:keepIn K (.ref f29)=true)
 (a30:nI K "sided" f30) (l30:FnL K f30 "sided" "sided" a2x o30 d30 s30 v30 x30 p30 n30 c30 t30) (u7:codeIn K c30 "sided"=true) (k30:keepIn K (.ref f30)=true)
 (a31:nI K "sided_caps" f31) (l31:FnL K f31 "sided_caps" "sided_caps" M6 o31 d31 s31 v31 x31 p31 n31 c31 t31) (u8:codeIn K c31 "sided_caps"=true) (k31:keepIn K (.ref f31)=true)
 (a32:nI K "ending" f32) (l32:FnL K f32 "ending" "ending" a1e o32 d32 s32 v32 x32 p32 n32 c32 t32) (u9:codeIn K c32 "ending"=true) (k32:keepIn K (.ref f32)=true)
 (a33:nI K "beyond" f33) (l33:FnL K f33 "beyond" "beyond" a1f o33 d33 s33 v33 x33 p33 n33 c33 t33) (v0:codeIn K c33 "beyond"=true) (k33:keepIn K (.ref f33)=true)
 (a34:nI K "are_rising" f34) (l34:FnL K f34 "are_rising" "are_rising" M8 o34 d34 s34 v34 x34 p34 n34 c34 t34) (w0:codeIn K c34 "are_rising"=true) (k34:keepIn K (.ref f34)=true)
 (a35:nI K "shows_beyond" f35) (l35:FnL K f35 "shows_beyond" "shows_beyond" J4 o35 d35 s35 v35 x35 p35 n35 c35 t35) (w1:codeIn K c35 "shows_beyond"=true) (k35:keepIn K (.ref f35)=true)
 (a36:nI K "laid_or_none" f36) (l36:FnL K f36 "laid_or_none" "laid_or_none" Z5 o36 d36 s36 v36 x36 p36 n36 c36 t36) (w2:codeIn K c36 "laid_or_none"=true) (k36:keepIn K (.ref f36)=true)
 (a37:nI K "laid_beyond" f37) (l37:FnL K f37 "laid_beyond" "laid_beyond" K6 o37 d37 s37 v37 x37 p37 n37 c37 t37) (w3:codeIn K c37 "laid_beyond"=true) (k37:keepIn K (.ref f37)=true)
 (a38:nI K "_law_pot" f38) (l38:FnL K f38 "_law_pot" "_law_pot" W1 o38 d38 s38 v38 x38 p38 n38 c38 t38) (w4:codeIn K c38 "_law_pot"=true) (k38:keepIn K (.ref f38)=true)
 (a39:nI K "_law_take" f39) (l39:FnL K f39 "_law_take" "_law_take" R7 o39 d39 s39 v39 x39 p39 n39 c39 t39) (w5:codeIn K c39 "_law_take"=true) (k39:keepIn K (.ref f39)=true)
 (a40:nI K "_law_number" f40) (l40:FnL K f40 "_law_number" "_law_number" L3 o40 d40 s40 v40 x40 p40 n40 c40 t40) (w6:codeIn K c40 "_law_number"=true) (k40:keepIn K (.ref f40)=true)
 (a41:nI K "_law_system" f41) (l41:FnL K f41 "_law_system" "_law_system" K9 o41 d41 s41 v41 x41 p41 n41 c41 t41) (w7:codeIn K c41 "_law_system"=true) (k41:keepIn K (.ref f41)=true)
 (a42:nI K "_law_sums" f42) (l42:FnL K f42 "_law_sums" "_law_sums" R9 o42 d42 s42 v42 x42 p42 n42 c42 t42) (w8:codeIn K c42 "_law_sums"=true) (k42:keepIn K (.ref f42)=true)
 (a43:nI K "_law_same" f43) (l43:FnL K f43 "_law_same" "_law_same" S3 o43 d43 s43 v43 x43 p43 n43 c43 t43) (w9:codeIn K c43 "_law_same"=true) (k43:keepIn K (.ref f43)=true)
 (a44:nI K "_law_sides" f44) (l44:FnL K f44 "_law_sides" "_law_sides" M9 o44 d44 s44 v44 x44 p44 n44 c44 t44) (x0:codeIn K c44 "_law_sides"=true) (k44:keepIn K (.ref f44)=true)
 (a45:nI K "_law_beyond" f45) (l45:FnL K f45 "_law_beyond" "_law_beyond" L4 o45 d45 s45 v45 x45 p45 n45 c45 t45) (y0:codeIn K c45 "_law_beyond"=true) (k45:keepIn K (.ref f45)=true)
 (a46:nI K "_law_shut" f46) (l46:FnL K f46 "_law_shut" "_law_shut" S0 o46 d46 s46 v46 x46 p46 n46 c46 t46) (y1:codeIn K c46 "_law_shut"=true) (k46:keepIn K (.ref f46)=true)
 (a47:nI K "_law_put" f47) (l47:FnL K f47 "_law_put" "_law_put" W0 o47 d47 s47 v47 x47 p47 n47 c47 t47) (y2:codeIn K c47 "_law_put"=true) (k47:keepIn K (.ref f47)=true)
 (a48:nI K "_law_refused" f48) (l48:FnL K f48 "_law_refused" "_law_refused" J5 o48 d48 s48 v48 x48 p48 n48 c48 t48) (y3:codeIn K c48 "_law_refused"=true) (k48:keepIn K (.ref f48)=true)
 (a49:nI K "_law_least_of" f49) (l49:FnL K f49 "_law_least_of" "_law_least_of" G3 o49 d49 s49 v49 x49 p49 n49 c49 t49) (y4:codeIn K c49 "_law_least_of"=true) (k49:keepIn K (.ref f49)=true)
 (a50:nI K "law" f50) (l50:FnL K f50 "law" "law" a2Z o50 d50 s50 v50 x50 p50 n50 c50 t50) (y5:codeIn K c50 "law"=true) (k50:keepIn K (.ref f50)=true)
  (z1:PySem.W.nsIn K mainGlobals "ValueError"=some none) (z2:PySem.W.nsIn K mainGlobals "abs"=some none) (z3:PySem.W.nsIn K mainGlobals "all"=some none) (z4:PySem.W.nsIn K mainGlobals "any"=some none) (z5:PySem.W.nsIn K mainGlobals "bool"=some none) (z6:PySem.W.nsIn K mainGlobals "dict"=some none) (z7:PySem.W.nsIn K mainGlobals "enumerate"=some none) (z8:PySem.W.nsIn K mainGlobals "int"=some none) (z9:PySem.W.nsIn K mainGlobals "isinstance"=some none) (z10:PySem.W.nsIn K mainGlobals "len"=some none) (z11:PySem.W.nsIn K mainGlobals "list"=some none) (z12:PySem.W.nsIn K mainGlobals "max"=some none) (z13:PySem.W.nsIn K mainGlobals "min"=some none) (z14:PySem.W.nsIn K mainGlobals "range"=some none) (z15:PySem.W.nsIn K mainGlobals "set"=some none) (z16:PySem.W.nsIn K mainGlobals "sorted"=some none) (z17:PySem.W.nsIn K mainGlobals "sum"=some none) (z18:PySem.W.nsIn K mainGlobals "tuple"=some none) (z19:PySem.W.nsIn K mainGlobals "zip"=some none)
  {F:qE}(e8:nI K "NoAnswer" F) {p:qE}(e7:nI K "LayError" p) {c:qE}(j4:nI K "NoLay" c) {e5:qE}(i1:nI K "NoLine" e5) {e6:qE}(i2:nI K "NoText" e6) {f:qE}(g3:nI K "TooMany" f) {a:qE}(i0:nI K "Finder" a) (q1:a1O K p []=true) (q2:a1O K c [.ref p]=true) (q3:a1O K c []=true) (q4:PySem.W.mroIn K c (.type "object")=some true) (q5:PySem.W.findIn K (.ref c) "__class__"=some (some (.builtin "object.__class__"))) (q6:PySem.W.findIn K (.ref c) "__getattribute__"=some (some (.builtin "BaseException.__getattribute__"))) (q7:PySem.W.findIn K (.ref c) "__getattr__"=some none) (q8:PySem.W.kitOne K (.ref c) (.ref c)=some true) (q9:PySem.W.kitOne K (.ref c) (.type "ValueError")=some true) (q10:PySem.W.kitAny K (.ref c) [.ref F,.ref e5,.ref e6,.ref f]=some false) (y6:a1O K f []=true) {h5 h7:Str}{t:qE}{g5 q f0:qA qB}{g7 g4:Bool}{h8:qA Str}{e9:qD Bool}{g6:qD qE}{g9 h0 h1 h2 h3:qD qB}(h4:K.lookup f=some (excClassObj h5 h7 f t g5 q g7 h8 f0 g4 e9 g6 g9 h0 h1 h2 h3 "ValueError.__new__")) (h9:PySem.W.tailIn K [.type "ValueError",.type "Exception",.type "BaseException",.type "object"] q=true) (h6:PySem.W.nsOkIn K t=true) (g8:PySem.W.nsIn K t "__init__"=some none) (n0:q.contains (.type "BaseException")=true) {m4 m6:Str}{b3:qE}{j6 D i9:qA qB}{j8 j5:Bool}{m7:qA Str}{i3:qD Bool}{j7:qD qE}{k0 l0 m0 m1 m2:qD qB}(m3:K.lookup c=some (excClassObj m4 m6 c b3 j6 D j8 m7 i9 j5 i3 j7 k0 l0 m0 m1 m2 "ValueError.__new__")) (m8:PySem.W.tailIn K [.type "ValueError",.type "Exception",.type "BaseException",.type "object"] D=true) (m5:PySem.W.nsOkIn K b3=true) (j9:PySem.W.nsIn K b3 "__init__"=some none) (o0:D.contains (.type "BaseException")=true) (pg_Finder:PySem.W.plainGet K a Str.empty=true) (i4:PySem.W.hasDictIn K a=true) (i7:PySem.W.plainOver K a=true) (i8:PySem.W.findIn K (.ref a) "__setattr__"=some (some (.builtin "object.__setattr__"))) (i6:PySem.W.makesIn K a=true) (i5:PySem.W.keepIn K (.ref a)=true) (e4:PySem.W.findIn K (.ref a) "rows"=some none) (e2:PySem.W.findIn K (.ref a) "caps"=some none) (b0:PySem.W.findIn K (.ref a) "begun"=some none) (e3:PySem.W.findIn K (.ref a) "here"=some none) (b1:PySem.W.findIn K (.ref a) "found"=some none) (E:PySem.W.findIn K (.ref a) "walked"=some none) (u:findIn K (.ref a) "__init__"=some (some (.ref f_Finder___init__))) (y:isFn K (.ref f_Finder___init__)=true) (A:FnL K f_Finder___init__ "__init__" "Finder.__init__" E6 o_Finder___init__ d_Finder___init__ s0_Finder___init__ v_Finder___init__ x_Finder___init__ p_Finder___init__ n0_Finder___init__ c0_Finder___init__ t_Finder___init__) (x:codeIn K c0_Finder___init__ "Finder.__init__"=true) (z:keepIn K (.ref f_Finder___init__)=true) (b4:findIn K (.ref a) "step"=some (some (.ref f_Finder_step))) (b8:isFn K (.ref f_Finder_step)=true) (e0:FnL K f_Finder_step "step" "Finder.step" a0H o_Finder_step d_Finder_step s0_Finder_step v_Finder_step x_Finder_step p_Finder_step n0_Finder_step c0_Finder_step t_Finder_step) (b6:codeIn K c0_Finder_step "Finder.step"=true) (c0:keepIn K (.ref f_Finder_step)=true) (j:findIn K (.ref a) "step_within"=some (some (.ref f_Finder_step_within))) (m:isFn K (.ref f_Finder_step_within)=true) (o:FnL K f_Finder_step_within "step_within" "Finder.step_within" D4 o_Finder_step_within d_Finder_step_within s0_Finder_step_within v_Finder_step_within x_Finder_step_within p_Finder_step_within n0_Finder_step_within c0_Finder_step_within t_Finder_step_within) (k:codeIn K c0_Finder_step_within "Finder.step_within"=true) (n:keepIn K (.ref f_Finder_step_within)=true) (J:findIn K (.ref a) "level"=some (some (.ref f_Finder_level))) (R:isFn K (.ref f_Finder_level)=true) (Z:FnL K f_Finder_level "level" "Finder.level" Z6 o_Finder_level d_Finder_level s0_Finder_level v_Finder_level x_Finder_level p_Finder_level n0_Finder_level c0_Finder_level t_Finder_level) (N:codeIn K c0_Finder_level "Finder.level"=true) (V:keepIn K (.ref f_Finder_level)=true) (b5:findIn K (.ref a) "told"=some (some (.ref f_Finder_told))) (b9:isFn K (.ref f_Finder_told)=true) (e1:FnL K f_Finder_told "told" "Finder.told" L5 o_Finder_told d_Finder_told s0_Finder_told v_Finder_told x_Finder_told p_Finder_told n0_Finder_told c0_Finder_told t_Finder_told) (b7:codeIn K c0_Finder_told "Finder.told"=true) (d0:keepIn K (.ref f_Finder_told)=true) (L:findIn K (.ref a) "paper"=some (some (.ref f_Finder_paper))) (S:isFn K (.ref f_Finder_paper)=true) (a0:FnL K f_Finder_paper "paper" "Finder.paper" J6 o_Finder_paper d_Finder_paper s0_Finder_paper v_Finder_paper x_Finder_paper p_Finder_paper n0_Finder_paper c0_Finder_paper t_Finder_paper) (O:codeIn K c0_Finder_paper "Finder.paper"=true) (W:keepIn K (.ref f_Finder_paper)=true) (I:findIn K (.ref a) "ended"=some (some (.ref f_Finder_ended))) (Q:isFn K (.ref f_Finder_ended)=true) (Y:FnL K f_Finder_ended "ended" "Finder.ended" J7 o_Finder_ended d_Finder_ended s0_Finder_ended v_Finder_ended x_Finder_ended p_Finder_ended n0_Finder_ended c0_Finder_ended t_Finder_ended) (M:codeIn K c0_Finder_ended "Finder.ended"=true) (U:keepIn K (.ref f_Finder_ended)=true) :
  ∃fd:FuncData,(∀(s:qC) (v:qB),BindsTo s fd ⟨[v],[]⟩ [("_law_script",v)])/\∀base:Heap,K.In base->base.Ns mainGlobals mg->FnOk l.prog w K mg base CX0 10 fa fd ["_law_script"] (a8N K):=by
 have e:=hfa.symm.trans (PySem.W.mg_of X G a50);cases e;have T:Tx mg:=⟨PySem.W.mg_none_of X G z1,PySem.W.mg_none_of X G z2,PySem.W.mg_none_of X G z3,PySem.W.mg_none_of X G z4,PySem.W.mg_none_of X G z5,PySem.W.mg_none_of X G z6,PySem.W.mg_none_of X G z7,PySem.W.mg_none_of X G z8,PySem.W.mg_none_of X G z9,PySem.W.mg_none_of X G z10,PySem.W.mg_none_of X G z11,PySem.W.mg_none_of X G z12,PySem.W.mg_none_of X G z13,PySem.W.mg_none_of X G z14,PySem.W.mg_none_of X G z15,PySem.W.mg_none_of X G z16,PySem.W.mg_none_of X G z17,PySem.W.mg_none_of X G z18,PySem.W.mg_none_of X G z19⟩;have F1:FunAt K mg "free" a5u ["width"]:=B3 X G a1 l1 c_1 k1
 have F2:FunAt K mg "within" a1b ["caps","one"]:=B3 X G a2 l2 c_2 k2
 have F3:FunAt K mg "row_sum" a0p ["row","one"]:=B3 X G a3 l3 c_3 k3
 have F4:FunAt K mg "sums" a5t ["rows","one"]:=B3 X G a4 l4 c_4 k4
 have F5:FunAt K mg "is_answer" R0 ["rows","one"]:=B3 X G a5 l5 c_5 k5
 have F6:FunAt K mg "pull_of" a0q ["rows","totals","j"]:=B3 X G a6 l6 c_6 k6
 have F7:FunAt K mg "falls" a2A ["rows","one"]:=B3 X G a7 l7 c_7 k7
 have F8:FunAt K mg "below" a2B ["one","other"]:=B3 X G a8 l8 c_8 k8
 have F9:FunAt K mg "minus" a8W ["one","other"]:=B3 X G a9 l9 c_9 k9
 have F10:FunAt K mg "times" a8U ["many","one"]:=B3 X G Q5 l10 q0 k10
 have y7:FunAt K mg "unit" a5s ["width","j"]:=B3 X G R5 l11 r0 k11
 have y8:FunAt K mg "least_of" V9 ["some"]:=B3 X G R6 l12 r1 k12
 have p0:FunAt K mg "above_any" L9 ["some","one"]:=B3 X G R8 l13 r2 k13
 have y9:FunAt K mg "first_steps" K7 ["caps"]:=B3 X G S1 l14 r3 k14
 have z0:FunAt K mg "raised" a1c ["one","j"]:=B3 X G S2 l15 r4 k15
 have D1:FunAt K mg "steps" a2w ["rows","caps","one"]:=B3 X G S4 l16 r5 k16
 have D2:FunAt K mg "is_barred" Q9 ["found","one","j"]:=B3 X G S8 l17 r6 k17
 have D3:FunAt K mg "next_level" M7 ["rows","caps","found","level","room"]:=B3 X G T6 l18 r7 k18
 have H0:FunAt K mg "least" a2z ["rows","caps","most"]:=B3 X G U3 l19 r8 k19
 have H1:FunAt K mg "is_number" Q8 ["value"]:=B3 X G X3 l20 r9 k20
 have H2:FunAt K mg "is_vector" Q7 ["value","width"]:=B3 X G a21 l21 s0 k21
 have H3:FunAt K mg "are_vectors" K8 ["value","width"]:=B3 X G a22 l22 t0 k22
 have F23:FunAt K mg "often" a8V ["one","rest"]:=B3 X G a23 l23 u0 k23
 have F24:FunAt K mg "laid" b2e ["told","one"]:=B3 X G a24 l24 u1 k24
 have H4:FunAt K mg "all_fit" a0s ["caps","some"]:=B3 X G a25 l25 u2 k25
 have H5:FunAt K mg "are_least" R1 ["rows","told"]:=B3 X G a26 l26 u3 k26
 have H6:FunAt K mg "is_met" a1d ["told","listed","one"]:=B3 X G a27 l27 u4 k27
 have H7:FunAt K mg "goes_on" a0r ["rows","caps","told","listed","one"]:=B3 X G a28 l28 u5 k28
 have H8:FunAt K mg "shows" a2y ["rows","caps","told","paper"]:=B3 X G a29 l29 u6 k29
 have H9:FunAt K mg "sided" a2x ["rows","sides"]:=B3 X G a30 l30 u7 k30
 have I1:FunAt K mg "sided_caps" M6 ["width"]:=B3 X G a31 l31 u8 k31
 have I2:FunAt K mg "ending" a1e ["some","last"]:=B3 X G a32 l32 u9 k32
 have I3:FunAt K mg "beyond" a1f ["rows","sides","width","most"]:=B3 X G a33 l33 v0 k33
 have I4:FunAt K mg "are_rising" M8 ["value","width"]:=B3 X G a34 l34 w0 k34
 have I5:FunAt K mg "shows_beyond" J4 ["rows","sides","width","told","base","paper"]:=B3 X G a35 l35 w1 k35
 have I6:FunAt K mg "laid_or_none" Z5 ["base","one"]:=B3 X G a36 l36 w2 k36
 have I7:FunAt K mg "laid_beyond" K6 ["told","base","one"]:=B3 X G a37 l37 w3 k37
 have I8:FunAt K mg "_law_pot" W1 ["_law_script"]:=B3 X G a38 l38 w4 k38
 have I9:FunAt K mg "_law_take" R7 ["_law_pot_here","_law_many"]:=B3 X G a39 l39 w5 k39
 have L0:FunAt K mg "_law_number" L3 ["_law_pot_here","_law_far"]:=B3 X G a40 l40 w6 k40
 have L1:FunAt K mg "_law_system" K9 ["_law_pot_here","_law_wide","_law_far"]:=B3 X G a41 l41 w7 k41
 have L2:FunAt K mg "_law_sums" R9 ["_law_rows","_law_one"]:=B3 X G a42 l42 w8 k42
 have L8:FunAt K mg "_law_same" S3 ["_law_found","_law_due"]:=B3 X G a43 l43 w9 k43
 have N4:FunAt K mg "_law_sides" M9 ["_law_pot_here","_law_rows","_law_width"]:=B3 X G a44 l44 x0 k44
 have N6:FunAt K mg "_law_beyond" L4 ["_law_rows","_law_sides_here","_law_width","_law_most"]:=B3 X G a45 l45 y0 k45
 have Q1:FunAt K mg "_law_shut" S0 ["_law_pot_here","_law_rows","_law_sides_here","_law_width"]:=B3 X G a46 l46 y1 k46
 have Q2:FunAt K mg "_law_put" W0 ["_law_some","_law_at","_law_one"]:=B3 X G a47 l47 y2 k47
 have Q3:FunAt K mg "_law_refused" J5 ["_law_base","_law_one"]:=B3 X G a48 l48 y3 k48
 have Q4:FunAt K mg "_law_least_of" G3 ["_law_rows","_law_width"]:=B3 X G a49 l49 y4 k49
 refine⟨fnOf "law" "law" (T5 a2Z) (E7 a2Z) (A1 a2Z) .none v50 x50 p50 n50 c50 t50,λs v=>.of_eq rfl,λbase XB GB=>?_⟩;have g1:=PySem.W.mg_of X G e8;have g0:=PySem.W.mg_of X G e7;have g2:=PySem.W.mg_of X G j4;have j2:=PySem.W.mg_of X G i1;have j3:=PySem.W.mg_of X G i2;have i:=PySem.W.mg_of X G g3;have j1:=PySem.W.mg_of X G i0;have b2:Cls K a:=⟨pg_Finder,i4,i7,i8⟩;have r:MethAt K a "__init__" "Finder.__init__" E6 ["self","rows","caps"]:=a3o u y A x z
 have m9:MethAt K a "step" "Finder.step" a0H ["self"]:=a3o b4 b8 e0 b6 c0
 have g:MethAt K a "step_within" "Finder.step_within" D4 ["self","room"]:=a3o j m o k n
 have j0:MethAt K a "level" "Finder.level" Z6 ["self"]:=a3o J R Z N V
 have H:MethAt K a "told" "Finder.told" L5 ["self"]:=a3o b5 b9 e1 b7 d0
 have C:MethAt K a "paper" "Finder.paper" J6 ["self"]:=a3o L S a0 O W
 have B:MethAt K a "ended" "Finder.ended" J7 ["self"]:=a3o I Q Y M U
 have FL:=a3G (st:=a2Z) l50 y5 k50;have RS:=a7J (base:=base) (P:=l.prog) (w:=w) F3 T;have SU:=b5F F4 T RS;have IA:=a5z F5 T SU;have FA:=b2Z F7 T (a7K F6 T) SU;have BE:=b3b (base:=base) (P:=l.prog) (w:=w) F8 T;have ST:=b2T D1 T FA (b0q z0);have NX:=a3Z D3 T ST (a5y D2 T BE);have FS:=a3g (base:=base) (P:=l.prog) (w:=w) y9 T (b5C y7 T) (a4t F2 T);have UF:FiTx K a:=⟨b2,e4,e2,b0,e3,b1,E⟩;have MI:=(b2Y (base:=base) (P:=l.prog) (w:=w) (mg:=mg) r UF).make j1 i6 i5;have MS:=b2S g UF T NX FS IA;have ME:=b3a (base:=base) (P:=l.prog) (w:=w) B UF T;have MT:=b5D (base:=base) (P:=l.prog) (w:=w) H UF T;have MP:=b2W (base:=base) (P:=l.prog) (w:=w) C UF T;have LE:=b2X H0 T UF b2 MI MS ME MT MP (b2M XB i h4 h9 h6 g8);have TK:=b5E (base:=base) (P:=l.prog) (w:=w) I9 T;have SY:=b8e L1 T TK (b0r L0 T TK);have FR:=b5H (base:=base) (P:=l.prog) (w:=w) F1;have SD:=b2U (base:=base) (P:=l.prog) (w:=w) H9 T;have SC:=a3Y I1 T FR;have BY:=b0v I3 T SD SC (b0u I2 T) LE;have SU:=b2R (base:=base) (P:=l.prog) (w:=w) L2 T;have SM:=a9g (base:=base) (P:=l.prog) (w:=w) L8 T;have AT:=a4c p0 T BE;have LO:=a6D y8 T (a4d p0 T BE);have AV:=a2j H3 T (a4a H2 T (a4b (base:=base) (P:=l.prog) (w:=w) H1 T));have AF:=a7N H4 T (a4t (base:=base) (P:=l.prog) (w:=w) F2 T);have AL:=a5A H5 T LO IA;have MM:=b0t H6 T AT;have GO:=a7M H7 T AT IA ST MM;have SH:=b2V H8 T AV AF AL MM FS GO;have SB:=b8f I5 T (b8g I4 T AV) SD SC SH;have BN:=b5I I7 T (a2E (base:=base) (P:=l.prog) (w:=w) F8) (a2E F9) (a2E I6) (b2M XB g2 m3 m8 m5 j9);have RF:=a6C Q3 T BN g0 (a1o q1) (a1o q2) g1 g2 j2 j3 i ⟨a1o q3,q4,q5,q6,q7⟩ q8 q9 q10;exact b8k FL T (b8i I8 T) TK SY (b0s N4 T TK SU) (b5G Q1 T TK) (b8h Q2 T) (a7L N6 T BY i (a1o y6)) (b8j Q4 T FR LE i (a1o y6)) (SM 3) SB RF
end K28
end
namespace PySem.W.Fast
theorem tw15766512652105457965:True:=⟨⟩
theorem tw17346366063364687131:True:=⟨⟩
theorem tw8223314762455373835:True:=⟨⟩
theorem tw7683930613565600216:True:=⟨⟩
theorem tw3199464527993474870:True:=⟨⟩
theorem tw708105376291224857:True:=⟨⟩
theorem tw5385439090465958453:True:=⟨⟩
theorem tw2214886193411232392:True:=⟨⟩
theorem tw17380401559180633846:True:=⟨⟩
theorem tw10898282845346419441:True:=⟨⟩
theorem tw9637893162232570783:True:=⟨⟩
theorem tw9962328164171599276:True:=⟨⟩
theorem tw15117485114718253446:True:=⟨⟩
theorem tw9411260580866586468:True:=⟨⟩
theorem tw102957307698990827:True:=⟨⟩
theorem tw9752000460411639704:True:=⟨⟩
theorem tw5929943454562252855:True:=⟨⟩
theorem tw10175715124811784987:True:=⟨⟩
theorem tw10522089106680447536:True:=⟨⟩
theorem tw16936054800744807031:True:=⟨⟩
theorem tw2249105361565639290:True:=⟨⟩
theorem tw12763158503166006800:True:=⟨⟩
theorem tw1265928147720778049:True:=⟨⟩
theorem tw11469092975965040426:True:=⟨⟩
theorem tw16464595438605411819:True:=⟨⟩
theorem tw16377641010996861093:True:=⟨⟩
theorem tw665071949749558305:True:=⟨⟩
theorem tw12791209754097477090:True:=⟨⟩
theorem tw4462334338703050396:True:=⟨⟩
theorem tw14479810204511285609:True:=⟨⟩
theorem tw17823823694801425828:True:=⟨⟩
theorem tw8032740308211265877:True:=⟨⟩
theorem tw1417144235468599105:True:=⟨⟩
theorem tw17629399320455123287:True:=⟨⟩
theorem tw15258218136632332774:True:=⟨⟩
theorem tw1847633824040194256:True:=⟨⟩
theorem tw7073312467057544191:True:=⟨⟩
theorem tw6827824912091643753:True:=⟨⟩
theorem tw7908453932107739414:True:=⟨⟩
theorem tw12559146756294677327:True:=⟨⟩
theorem tw1538236342191586213:True:=⟨⟩
theorem tw13326331135058196705:True:=⟨⟩
theorem tw4102149466376484848:True:=⟨⟩
theorem tw15962962671273139600:True:=⟨⟩
theorem tw2690557584221863078:True:=⟨⟩
theorem tw15420126468640972695:True:=⟨⟩
theorem tw890976074532017209:True:=⟨⟩
theorem tw7073948466896493291:True:=⟨⟩
theorem tw204786739081857663:True:=⟨⟩
theorem tw13974770825796727924:True:=⟨⟩
theorem tw1369991563732094404:True:=⟨⟩
theorem tw6205936467508526401:True:=⟨⟩
theorem tw11816193409591577671:True:=⟨⟩
theorem tw11437177542964102854:True:=⟨⟩
theorem tw13440681179894774561:True:=⟨⟩
theorem tw329236435185146713:True:=⟨⟩
theorem tw195017254782425110:True:=⟨⟩
theorem tw8856075951782540338:True:=⟨⟩
theorem tw4665520755233169484:True:=⟨⟩
theorem tw1972088090633406415:True:=⟨⟩
theorem tw14802382351055066681:True:=⟨⟩
theorem tw6091781090630971236:True:=⟨⟩
theorem tw17877440420403540091:True:=⟨⟩
theorem tw8387989395351322860:True:=⟨⟩
theorem tw11664389618879965543:True:=⟨⟩
theorem tw18072953090531966694:True:=⟨⟩
theorem tw14191755393256990308:True:=⟨⟩
theorem tw4159543408008748875:True:=⟨⟩
theorem tw14699608497683434219:True:=⟨⟩
theorem tw11511961583620781577:True:=⟨⟩
theorem tw17310301128638793947:True:=⟨⟩
theorem tw15875504646720064754:True:=⟨⟩
theorem tw4599695354863134982:True:=⟨⟩
theorem tw15698093306403232217:True:=⟨⟩
theorem tw14387331451544281183:True:=⟨⟩
theorem tw11521291012380088838:True:=⟨⟩
theorem tw13764961574140923241:True:=⟨⟩
theorem tw4666199842266068247:True:=⟨⟩
theorem tw12815211518867513848:True:=⟨⟩
theorem tw11278945091663580795:True:=⟨⟩
theorem tw17576056804769294509:True:=⟨⟩
theorem tw10520334845641787220:True:=⟨⟩
theorem tw14567250790491780464:True:=⟨⟩
theorem tw2586744746587046366:True:=⟨⟩
theorem tw12162387624534702971:True:=⟨⟩
theorem tw17147143259721083112:True:=⟨⟩
theorem tw14745585502890802665:True:=⟨⟩
theorem tw810416432922412136:True:=⟨⟩
theorem tw18051477132751104898:True:=⟨⟩
theorem tw17114671021614494868:True:=⟨⟩
theorem tw17545898311498522748:True:=⟨⟩
theorem tw5770624307758885320:True:=⟨⟩
theorem tw5662849851015551078:True:=⟨⟩
theorem tw3965518967635519750:True:=⟨⟩
theorem tw10587269160749753807:True:=⟨⟩
theorem tw10418757355197158324:True:=⟨⟩
theorem tw11777902619571761082:True:=⟨⟩
theorem tw5830319602833462423:True:=⟨⟩
theorem tw9370149310197673423:True:=⟨⟩
theorem tw1253432037424229516:True:=⟨⟩
theorem tw1707110589101609879:True:=⟨⟩
theorem tw803740460323445839:True:=⟨⟩
theorem tw17817977582483985885:True:=⟨⟩
theorem tw2961192669248223474:True:=⟨⟩
theorem tw10890582456643652947:True:=⟨⟩
theorem tw5244295047644601845:True:=⟨⟩
theorem tw2238732668467294496:True:=⟨⟩
theorem tw3806422441688559553:True:=⟨⟩
theorem tw11167320680613939520:True:=⟨⟩
theorem tw15952677426343190852:True:=⟨⟩
theorem tw13422001301153278057:True:=⟨⟩
theorem tw9763152791840393169:True:=⟨⟩
theorem tw15285394205675388731:True:=⟨⟩
theorem tw4664071527236668371:True:=⟨⟩
theorem tw11671823217990796498:True:=⟨⟩
theorem tw7525789292753489667:True:=⟨⟩
theorem tw8227554831624476153:True:=⟨⟩
theorem tw3508146246465951123:True:=⟨⟩
theorem tw12146242417065628321:True:=⟨⟩
theorem tw4274063961193282663:True:=⟨⟩
theorem tw41413259493978350:True:=⟨⟩
theorem tw16475729433040123302:True:=⟨⟩
theorem tw13526709561951973113:True:=⟨⟩
theorem tw8936384621691209614:True:=⟨⟩
theorem tw7082220978297889347:True:=⟨⟩
theorem tw5041627609868503991:True:=⟨⟩
theorem tw10471159484296260374:True:=⟨⟩
theorem tw11747053494346898526:True:=⟨⟩
theorem tw11820956725009580406:True:=⟨⟩
theorem tw9074361654183478830:True:=⟨⟩
theorem tw13145662918549047341:True:=⟨⟩
theorem tw12200097686520516122:True:=⟨⟩
end PySem.W.Fast
open PySem PySem.W PyProof.Rows
set_option maxRecDepth 100000 in
set_option maxHeartbeats 0 in
theorem PySem.Challenge.cw_leastlays_k28_no_answer_to_the_sides_holds : PySem.Challenge.rw_leastlays_k28_no_answer_to_the_sides.Holds := by
 w_on;o_law;k_head;(case hw=>w_witness2)
 k_fill
 refine L2.law_walk (l:=PySem.Challenge.rw_leastlays_k28_no_answer_to_the_sides) 10 rfl rfl ⟨rfl,by decide,by decide⟩ (λw h Y=>PySem.W.kIn_of Y) ?F
 case F =>
  intro w mg fa h KX G hmg
  refine' K28.all_mk KX G hmg ?a1 ?l1 ?c_1 ?k1 ?a2 ?l2 ?c_2 ?k2 ?a3 ?l3 ?c_3 ?k3 ?a4 ?l4 ?c_4 ?k4 ?a5 ?l5 ?c_5 ?k5 ?a6 ?l6 ?c_6 ?k6 ?a7 ?l7 ?c_7 ?k7 ?a8 ?l8 ?c_8 ?k8 ?a9 ?l9 ?c_9 ?k9 ?a10 ?l10 ?c_10 ?k10 ?a11 ?l11 ?c_11 ?k11 ?a12 ?l12 ?c_12 ?k12 ?a13 ?l13 ?c_13 ?k13 ?a14 ?l14 ?c_14 ?k14 ?a15 ?l15 ?c_15 ?k15 ?a16 ?l16 ?c_16 ?k16 ?a17 ?l17 ?c_17 ?k17 ?a18 ?l18 ?c_18 ?k18 ?a19 ?l19 ?c_19 ?k19 ?a20 ?l20 ?c_20 ?k20 ?a21 ?l21 ?c_21 ?k21 ?a22 ?l22 ?c_22 ?k22 ?a23 ?l23 ?c_23 ?k23 ?a24 ?l24 ?c_24 ?k24 ?a25 ?l25 ?c_25 ?k25 ?a26 ?l26 ?c_26 ?k26 ?a27 ?l27 ?c_27 ?k27 ?a28 ?l28 ?c_28 ?k28 ?a29 ?l29 ?c_29 ?k29 ?a30 ?l30 ?c_30 ?k30 ?a31 ?l31 ?c_31 ?k31 ?a32 ?l32 ?c_32 ?k32 ?a33 ?l33 ?c_33 ?k33 ?a34 ?l34 ?c_34 ?k34 ?a35 ?l35 ?c_35 ?k35 ?a36 ?l36 ?c_36 ?k36 ?a37 ?l37 ?c_37 ?k37 ?a38 ?l38 ?c_38 ?k38 ?a39 ?l39 ?c_39 ?k39 ?a40 ?l40 ?c_40 ?k40 ?a41 ?l41 ?c_41 ?k41 ?a42 ?l42 ?c_42 ?k42 ?a43 ?l43 ?c_43 ?k43 ?a44 ?l44 ?c_44 ?k44 ?a45 ?l45 ?c_45 ?k45 ?a46 ?l46 ?c_46 ?k46 ?a47 ?l47 ?c_47 ?k47 ?a48 ?l48 ?c_48 ?k48 ?a49 ?l49 ?c_49 ?k49 ?a50 ?l50 ?c_50 ?k50 ?z1 ?z2 ?z3 ?z4 ?z5 ?z6 ?z7 ?z8 ?z9 ?z10 ?z11 ?z12 ?z13 ?z14 ?z15 ?z16 ?z17 ?z18 ?z19 ?aD_NoAnswer ?aD_LayError ?aD_NoLay ?aD_NoLine ?aD_NoText ?aD_TooMany ?aD_Finder ?q1 ?q2 ?q3 ?q4 ?q5 ?q6 ?q7 ?q8 ?q9 ?q10 ?q11 ?lx_TooMany ?tx_TooMany ?ok_TooMany ?in_TooMany ?be_TooMany ?lx_NoLay ?tx_NoLay ?ok_NoLay ?in_NoLay ?be_NoLay ?pg_Finder ?hd_Finder ?po_Finder ?sa_Finder ?mk_Finder ?kc_Finder ?n_Finder_rows ?n_Finder_caps ?n_Finder_begun ?n_Finder_here ?n_Finder_found ?n_Finder_walked ?a_Finder___init__ ?i_Finder___init__ ?l_Finder___init__ ?c_Finder___init__ ?k_Finder___init__ ?a_Finder_step ?i_Finder_step ?l_Finder_step ?c_Finder_step ?k_Finder_step ?a_Finder_step_within ?i_Finder_step_within ?l_Finder_step_within ?c_Finder_step_within ?k_Finder_step_within ?a_Finder_level ?i_Finder_level ?l_Finder_level ?c_Finder_level ?k_Finder_level ?a_Finder_told ?i_Finder_told ?l_Finder_told ?c_Finder_told ?k_Finder_told ?a_Finder_paper ?i_Finder_paper ?l_Finder_paper ?c_Finder_paper ?k_Finder_paper ?a_Finder_ended ?i_Finder_ended ?l_Finder_ended ?c_Finder_ended ?k_Finder_ended
  (case a1|l1|c_1|k1|a2|l2|c_2|k2|a3|l3|c_3|k3|a4|l4|c_4|k4|a5|l5|c_5|k5|a6|l6|c_6|k6|a7|l7|c_7|k7|a8|l8|c_8|k8|a9|l9|c_9|k9|a10|l10|c_10|k10|a11|l11|c_11|k11|a12|l12|c_12|k12|a13|l13|c_13|k13|a14|l14|c_14|k14|a15|l15|c_15|k15|a16|l16|c_16|k16|a17|l17|c_17|k17|a18|l18|c_18|k18|a19|l19|c_19|k19|a20|l20|c_20|k20|a21|l21|c_21|k21|a22|l22|c_22|k22|a23|l23|c_23|k23|a24|l24|c_24|k24|a25|l25|c_25|k25|a26|l26|c_26|k26|a27|l27|c_27|k27|a28|l28|c_28|k28|a29|l29|c_29|k29|a30|l30|c_30|k30|a31|l31|c_31|k31|a32|l32|c_32|k32|a33|l33|c_33|k33|a34|l34|c_34|k34|a35|l35|c_35|k35|a36|l36|c_36|k36|a37|l37|c_37|k37|a38|l38|c_38|k38|a39|l39|c_39|k39|a40|l40|c_40|k40|a41|l41|c_41|k41|a42|l42|c_42|k42|a43|l43|c_43|k43|a44|l44|c_44|k44|a45|l45|c_45|k45|a46|l46|c_46|k46|a47|l47|c_47|k47|a48|l48|c_48|k48|a49|l49|c_49|k49|a50|l50|c_50|k50|z1|z2|z3|z4|z5|z6|z7|z8|z9|z10|z11|z12|z13|z14|z15|z16|z17|z18|z19|aD_NoAnswer|aD_LayError|aD_NoLay|aD_NoLine|aD_NoText|aD_TooMany|aD_Finder=>(try unfold L2.FnL);(try unfold K28.nI);k_is)
  (case q1|q2|q3|q4|q5|q6|q7|q8|q9|q10|q11|lx_TooMany|tx_TooMany|ok_TooMany|in_TooMany|be_TooMany|lx_NoLay|tx_NoLay|ok_NoLay|in_NoLay|be_NoLay=>first|k_is|kernel_rfl|rfl)
  (case pg_Finder|hd_Finder|po_Finder|sa_Finder|mk_Finder|kc_Finder|n_Finder_rows|n_Finder_caps|n_Finder_begun|n_Finder_here|n_Finder_found|n_Finder_walked|a_Finder___init__|i_Finder___init__|l_Finder___init__|c_Finder___init__|k_Finder___init__|a_Finder_step|i_Finder_step|l_Finder_step|c_Finder_step|k_Finder_step|a_Finder_step_within|i_Finder_step_within|l_Finder_step_within|c_Finder_step_within|k_Finder_step_within|a_Finder_level|i_Finder_level|l_Finder_level|c_Finder_level|k_Finder_level|a_Finder_told|i_Finder_told|l_Finder_told|c_Finder_told|k_Finder_told|a_Finder_paper|i_Finder_paper|l_Finder_paper|c_Finder_paper|k_Finder_paper|a_Finder_ended|i_Finder_ended|l_Finder_ended|c_Finder_ended|k_Finder_ended=>(try unfold L2.FnL);(try unfold K28.nI);k_is)
#print axioms PySem.Challenge.cw_leastlays_k28_no_answer_to_the_sides_holds
