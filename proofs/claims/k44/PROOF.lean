import PyProof.Rows.All
import Wide.All
import OpenK.AllK
import Wide.FinOn
import Lean
import PyProof.EqAt
import PyProof.EqKinds
import PyProof.TupleCall
import PyProof.ZipIter
import PyProof.ExcArgsOwn
import PyProof.ExcAttrAll.ValueError
import KE.KSortTup
import PyProof.ExcInit
import PyProof.ExcClass3
import PyProof.InstStore
import PyProof.InstStoreFacts
import OpenK.KCls
import PySem.SetTable
import PyProof.SetNew
import PyProof.TupleKey
import PyProof.DictRoadsH
import PyProof.DictKinds
import PyProof.IsRules
import PyProof.Rows.SetFrom
import PyProof.WalksMore
import KE.KDictSum
import PyProof.Rows.CallKwBuiltin
import PyProof.MinMaxWalk
import KE.KDictOf
import PyProof.AttrMissHeap
import PyProof.AutoSeq1
import PyProof.TupleOfSeq
import PyProof.ListRange
import KE.KRevIter
import PyProof.StrBlock2
import PyProof.MeetsStr
import PyProof.MeetsStr2
import PyProof.StrLawsJoin
import PyProof.StrLawsChain
import PyProof.Rows.StrItems
import KE.KIntText
import PyProof.Rows.ReprOcc
import PyProof.StrWalks
import PyProof.CallType
import PyProof.StrOps
import PyProof.StrLawsIn
import PyProof.FString2
import PyProof.SetKind
import PyProof.StrBlockH
import PyProof.StrBlock
import PyProof.SliceStr2
import PySem.Challenge.RW_leastlays_k44_system_lines_refused
set_option compiler.extract_closed false
set_option bootstrap.genMatcherCode false
set_option genSizeOf false
set_option Elab.async false
set_option linter.all false
set_option maxRecDepth 2000000
set_option maxHeartbeats 4000000
abbrev LLI:=List (List Int)
namespace L2
open PySem PySem.Spec PyProof.Rows
abbrev Key:=Sum Int Str
noncomputable def a3p:Key->Value->Bool
 |.inl k,v=>Value.isInt k v
 |.inr x,v=>Value.isStrOf x v
noncomputable def b8H(w:World):Key->Int
 |.inl k=>hashInt k
 |.inr x=>hashStr w x
theorem G6:∀{k:Key}{v:Value},a3p k v=true->(∃i t,k=Sum.inl i/\v=Value.int i t)∨(∃x t,k=Sum.inr x/\v=Value.str x t)
 |.inl i,v,h=>by
  obtain⟨t,e⟩:=Value.isInt_shape (k:=i) (v:=v) h;exact .inl ⟨i,t,rfl,e⟩
 |.inr x,v,h=>by
  obtain⟨t,e⟩:=Value.isStrOf_shape (x:=x) (v:=v) h;exact .inr ⟨x,t,rfl,e⟩
theorem a7U(i:Int)(t:Tok):a3p (.inl i) (.int i t)=true:=by simp[a3p,Value.isInt]
theorem a7T(x:Str)(t:Tok):a3p (.inr x) (.str x t)=true:=by simp[a3p,Value.isStrOf]
theorem b6j(a b:Int):decide ((Sum.inl a:Key)=Sum.inl b)=(a==b):=by
 by_cases e:a=b
 .subst e;simp
 .have h:¬(Sum.inl a:Key)=Sum.inl b:=λq=>e (Sum.inl.inj q);rw[decide_eq_false h];exact(beq_eq_false_iff_ne.mpr e).symm
theorem b6g(a b:Str):decide ((Sum.inr a:Key)=Sum.inr b)=decide (a=b):=by
 by_cases e:a=b
 .subst e;simp
 .have h:¬(Sum.inr a:Key)=Sum.inr b:=λq=>e (Sum.inr.inj q);rw[decide_eq_false h,decide_eq_false e]
theorem b6i(a:Int)(b:Str):decide ((Sum.inl a:Key)=Sum.inr b)=false:=decide_eq_false (λq=>nomatch q)
theorem b6h(a:Str)(b:Int):decide ((Sum.inr a:Key)=Sum.inl b)=false:=decide_eq_false (λq=>nomatch q)
noncomputable def G4(prog:Program)(w:World):PySem.KeyKind prog w Key where
 is:=a3p
 hash:=b8H w
 inj:=λv a b ha hb=>by
  rcases G6 ha with⟨i,t,rfl,rfl⟩|⟨x,t,rfl,rfl⟩
  .rcases G6 hb with⟨j,u,rfl,e⟩|⟨y,u,rfl,e⟩
   .injection e with e1 _;rw[e1]
   .exact nomatch e
  .rcases G6 hb with⟨j,u,rfl,e⟩|⟨y,u,rfl,e⟩
   .exact nomatch e
   .injection e with e1 _;rw[e1]
 byValue:=λk v h=>by
  rcases G6 h with⟨i,t,rfl,rfl⟩|⟨x,t,rfl,rfl⟩<;>rfl
 pyHash:=λhv h=>by
  rcases G6 hv with⟨i,t,rfl,rfl⟩|⟨x,t,rfl,rfl⟩
  .exact wpAny_pyHash_int h
  .exact wpAny_pyHash_str h
 eqBool:=λhu hv h=>by
  rcases G6 hu with⟨i,t,rfl,rfl⟩|⟨x,t,rfl,rfl⟩
  .rcases G6 hv with⟨j,u,rfl,rfl⟩|⟨y,u,rfl,rfl⟩
   .rw[b6j]at h;exact wpAny_eqBool_int h
   .rw[b6i]at h;exact SeqAt.EqAt.int_str i t y u _ _ _ _ h
  .rcases G6 hv with⟨j,u,rfl,rfl⟩|⟨y,u,rfl,rfl⟩
   .rw[b6h]at h;exact SeqAt.EqAt.str_int x t j u _ _ _ _ h
   .rw[b6g]at h;exact wpAny_eqBool_str h
 «strs»:=λk x t v h=>by
  rcases G6 h with⟨i,u,rfl,e⟩|⟨y,u,rfl,e⟩
  .exact nomatch e
  .injection e with e1 _
   subst e1;cases v<;>rfl
theorem a5d(prog:Program)(w:World)(i:Int)(t:Tok):(G4 prog w).is (.inl i) (.int i t)=true:=a7U i t
theorem a5c(prog:Program)(w:World)(x:Str)(t:Tok):(G4 prog w).is (.inr x) (.str x t)=true:=a7T x t
inductive V where
 |non|bl (b:Bool)|int (i:Int)|str (x:Str)|byt (b:Array UInt8)|flt (b:UInt64)|ref (a:Addr)|ty (n:String)
 deriving DecidableEq
def RelV:V->Value->Prop
 |.non,u=>u=Value.none
 |.bl b,u=>u=Value.bool b
 |.int i,u=>∃t,u=Value.int i t
 |.str x,u=>∃t,u=Value.str x t
 |.byt b,u=>∃t,u=Value.bytes b t
 |.flt b,u=>∃t,u=Value.float b t
 |.ref a,u=>u=Value.ref a
 |.ty n,u=>u=Value.type n
abbrev Vals:List V->List Value->Prop:=Paired RelV
theorem Vals.length{xs:List V}{us:List Value}(r:Vals xs us):xs.length=us.length:=Paired.length r
theorem Vals.get:∀{xs:List V}{us:List Value}{i:Nat}{x:V},Vals xs us->xs[i]?=some x->∃u,us[i]?=some u/\RelV x u
 |_,_,_,_,.nil,e=>by simp at e
 |_,_,0,_,.cons r _,e=>by simp at e;subst e;exact⟨_,rfl,r⟩
 |_,_,i+1,x,.cons _ t,e=>by
  obtain⟨u,h1,h2⟩:=Vals.get (i:=i) (x:=x) t (by simpa using e);exact⟨u,by simpa using h1,h2⟩
theorem Vals.set{x:V}{u:Value}(r:RelV x u):∀{xs:List V}{us:List Value}(i:Nat),Vals xs us->Vals (xs.set i x) (us.set i u)
 |_,_,_,.nil=>.nil
 |_,_,0,.cons _ t=>.cons r t
 |_,_,i+1,.cons q t=>.cons q (Vals.set r i t)
theorem Vals.append:∀{xs ys:List V}{us ws:List Value},Vals xs us->Vals ys ws->Vals (xs++ys) (us++ws)
 |_,_,_,_,.nil,s=>s
 |_,_,_,_,.cons r t,s=>.cons r (Vals.append t s)
theorem Vals.take:∀{xs:List V}{us:List Value}(n:Nat),Vals xs us->Vals (xs.take n) (us.take n)
 |_,_,0,_=>.nil
 |_,_,_+1,.nil=>.nil
 |_,_,n+1,.cons r t=>.cons r (Vals.take n t)
theorem Vals.drop:∀{xs:List V}{us:List Value}(n:Nat),Vals xs us->Vals (xs.drop n) (us.drop n)
 |_,_,0,r=>r
 |_,_,_+1,.nil=>.nil
 |_,_,n+1,.cons _ t=>Vals.drop n t
def RelO:Option V->Option Value->Prop
 |some v,some u=>RelV v u
 |none,none=>True
 |_,_=>False
def KV{κ:Type}:List (κ×V)->List (κ×Value)->Prop:=Paired λ(p:κ×V) (q:κ×Value)=>p.1=q.1/\RelV p.2 q.2
noncomputable def kV:Key->V
 |.inl i=>.int i
 |.inr x=>.str x
inductive HO where
 |lst (xs:List V)
 |tup (xs:List V)
 |dK (kvs:List (Key×V))|dT (kvs:List (List Key×V))
 |set (S:Int->Bool) (n:Nat)
 |ins (C dx:Addr) (fs:List (Str×V))
 |own (x:Addr)
 |xd (fs:List (Str×V))
 |met (f x:Addr)
 |rng (lo hi:Int)
 |frz (o:Obj) (u:HO)
 |tbl (ps:Array Value)
 |ext (φ:Heap->Prop)
abbrev Hp:=Addr->Option HO
noncomputable def upd(H:Hp)(a:Addr)(o:HO):Hp:=λb=>if b=a then some o else H b
theorem A0{H:Hp}{a:Addr}{o:HO}:upd H a o a=some o:=by unfold upd;rw[if_pos rfl]
theorem A5{H:Hp}{a b:Addr}{o:HO}(h:b≠a):upd H a o b=H b:=by unfold upd;rw[if_neg h]
theorem a6y{H:Hp}{a:Addr}{o u:HO}:upd (upd H a o) a u=upd H a u:=by
 funext b;unfold upd;split<;>rfl
theorem T7{H:Hp}{a b:Addr}{o u:HO}(h:H a=some o)(h':H b=some u)(d:o≠u):a≠b:=by
 intro e;subst e;rw[h]at h';exact d (Option.some.inj h')
theorem B0{H:Hp}{a b:Addr}{o:HO}(h:H a=some o)(h':H b=none):a≠b:=by
 intro e;subst e;rw[h]at h';cases h'
def IsTp(h:Heap)(a:Addr)(items:Array Value):Prop:=∃o:Obj,h.get? a=some o/\(o.cls,o.dict)=(.type "tuple",none)/\∃n,o.data=.seq items n
theorem IsTp.tup{h:Heap}{a:Addr}{items:Array Value}(x:IsTp h a items):IsTup h a items:=let ⟨o,e,c,d⟩:=x;⟨o,e,congrArg Prod.fst c,d⟩
theorem IsTp.new(h:Heap)(items:Array Value):IsTp (h.push {cls:=.type "tuple",data:=.seq items}) h.objs.size items:=⟨_,Heap.get?_push_size _ rfl,rfl,_,rfl⟩
section
variable (P:Program) (w:World)
def ObjOk(H:Hp)(h:Heap)(a:Addr):HO->Prop
 |.lst xs=>xs.length<=sizeLine/\∃(its:List Value) (n:Nat),Vals xs its/\h.get? a=some {cls:=.type "list",data:=.seq its.toArray n}
 |.tup xs=>xs.length<=sizeLine/\∃its:List Value,Vals xs its/\IsTp h a its.toArray
 |.dK kvs=>kvs.length<=sizeLine/\(a==sysModules)=false/\∃vs,KV kvs vs/\h.DictOf (G4 P w) a vs
 |.dT kvs=>kvs.length<=sizeLine/\(a==sysModules)=false/\∃xs:List (List Key×Addr×Value),
   Paired (λ(p:List Key×V) (q:List Key×Addr×Value)=>p.1=q.1/\H q.2.1=some (.tup (p.1.map kV))/\RelV p.2 q.2.2) kvs xs /\
   ∃o es ep,h.get? a=some o/\o.ExactDict/\o.data=.dict es ep/\es.toList=xs.map (entryOfKey (tupleKind (G4 P w)))/\(xs.map (·.1)).Nodup
 |.set S n=>h.SetOf (intKind P w) a S n
 |.ins C dx fs=>H dx=some (.own a)/\fs.length<=1000/\dx≠a/\h.get? a=some (PySem.W.instObj C dx) /\
   ∃mA,h.Ns1 dx mA/\(∀f,RelO (fs.lookup f) (mA f))/\PySem.Within mA (fs.map (·.1))
 |.own _=>∃o,h.get? a=some o
 |.xd fs=>∃mA,h.Ns1 a mA/\∀f,RelO (fs.lookup f) (mA f)
 |.rng lo hi=>∃t u v,h.get? a=some {cls:=.type "range",data:=.fields #[.int lo t,.int hi u,.int 1 v]}
 |.frz o u=>h.get? a=some o/\ObjOk H h a u
 |.tbl ps=>h.get? a=some {cls:=.none,data:=.fields ps}
 |.met f x=>h.get? a=some (PySem.W.methodObj (.ref f) (.ref x))
 |.ext φ=>φ h/\(∃o,h.get? a=some o)/\∀h1 h2:Heap,φ h1->(∀o,h1.get? a=some o->h2.get? a=some o)->φ h2
def HOk(H:Hp)(h:Heap):Prop:=∀a o,H a=some o->ObjOk P w H h a o
end
section
variable {P:Program}{w:World}{H H':Hp}{h h':Heap}{a:Addr}{o:HO}
theorem ObjOk.lt(x:ObjOk P w H h a o):a<h.objs.size:=by
 cases o with
 |lst xs=>obtain⟨_,_,_,_,e⟩:=x;exact Heap.lt_size e
 |tup xs=>obtain⟨_,_,_,p⟩:=x;exact p.tup.lt
 |dK kvs=>obtain⟨_,_,_,_,o,_,_,e,_⟩:=x;exact Heap.lt_size e
 |dT kvs=>obtain⟨_,_,_,_,o,_,_,e,_⟩:=x;exact Heap.lt_size e
 |set S n=>obtain⟨o,_,_,_,e,_⟩:=x;exact Heap.lt_size e
 |ins C dx fs=>obtain⟨_,_,_,e,_⟩:=x;exact Heap.lt_size e
 |own y=>obtain⟨_,e⟩:=x;exact Heap.lt_size e
 |xd fs=>obtain⟨_,⟨_,_,_,e,_⟩,_⟩:=x;exact Heap.lt_size e
 |rng lo hi=>obtain⟨_,_,_,e⟩:=x;exact Heap.lt_size e
 |frz ob u=>obtain⟨e,_⟩:=x;exact Heap.lt_size e
 |tbl ps=>exact Heap.lt_size (show h.get? a=some _ from x)
 |met f y=>exact Heap.lt_size (show h.get? a=some _ from x)
 |ext φ=>obtain⟨_,⟨_,e⟩,_⟩:=x;exact Heap.lt_size e
theorem Paired.mapP{α β:Type}{F G:α->β->Prop}:∀{l₁:List α}{l₂:List β},Paired F l₁ l₂->(∀a b,F a b->G a b)->Paired G l₁ l₂
 |_,_,.nil,_=>.nil
 |_,_,.cons r t,f=>.cons (f _ _ r) (Paired.mapP t f)
theorem ObjOk.stay(x:ObjOk P w H h a o)(k:∀b u,(b=a∨H b=some (.own a))->h.get? b=some u->h'.get? b=some u)
  (j:∀b,H b=some (.own a)->H' b=some (.own a)) (l:∀b xs,H b=some (.tup xs)->H' b=some (.tup xs)):ObjOk P w H' h' a o:=by
 induction o with
 |lst xs=>obtain⟨z,i,n,r,e⟩:=x;exact⟨z,i,n,r,k _ _ (.inl rfl) e⟩
 |tup xs=>obtain⟨z,i,r,g,e,c⟩:=x;exact⟨z,i,r,g,k _ _ (.inl rfl) e,c⟩
 |dK kvs=>obtain⟨z,y,vs,r,g,es,ep,e,c⟩:=x;exact⟨z,y,vs,r,g,es,ep,k _ _ (.inl rfl) e,c⟩
 |dT kvs =>
  obtain⟨z,y,xs,r,g,es,ep,e,c⟩:=x;exact⟨z,y,xs,Paired.mapP r λp q z=>⟨z.1,l _ _ z.2.1,z.2.2⟩,g,es,ep,k _ _ (.inl rfl) e,c⟩
 |set S n=>obtain⟨g,es,ep,t,e,c⟩:=x;exact⟨g,es,ep,t,k _ _ (.inl rfl) e,c⟩
 |ins C dx fs =>
  obtain⟨d,z,ne,e,mA,⟨od,es,ep,e2,c⟩,r⟩:=x;exact⟨j _ d,z,ne,k _ _ (.inl rfl) e,mA,⟨od,es,ep,k _ _ (.inr d) e2,c⟩,r⟩
 |own y=>obtain⟨g,e⟩:=x;exact⟨g,k _ _ (.inl rfl) e⟩
 |xd fs=>obtain⟨mA,⟨od,es,ep,e,c⟩,r⟩:=x;exact⟨mA,⟨od,es,ep,k _ _ (.inl rfl) e,c⟩,r⟩
 |rng lo hi=>obtain⟨t,u,v,e⟩:=x;exact⟨t,u,v,k _ _ (.inl rfl) e⟩
 |frz g u m=>obtain⟨e,q⟩:=x;exact⟨k _ _ (.inl rfl) e,m q⟩
 |tbl ps =>
  have e:h.get? a=some {cls:=.none,data:=.fields ps}:=x;show h'.get? a=some {cls:=.none,data:=.fields ps};exact k a _ (.inl rfl) e
 |met f y =>
  have e:h.get? a=some (PySem.W.methodObj (.ref f) (.ref y)):=x;show h'.get? a=some (PySem.W.methodObj (.ref f) (.ref y));exact k a _ (.inl rfl) e
 |ext φ=>obtain⟨p,⟨o,e⟩,st⟩:=x;exact⟨st _ _ p λo q=>k _ _ (.inl rfl) q,⟨o,k _ _ (.inl rfl) e⟩,st⟩
theorem HOk.lt(x:HOk P w H h)(e:H a=some o):a<h.objs.size:=(x a o e).lt
theorem HOk.fresh(x:HOk P w H h)(e:h.objs.size<=a):H a=none:=by
 cases q:H a with
 |none=>rfl
 |some u=>exact absurd (Nat.lt_of_lt_of_le (x.lt q) e) (Nat.lt_irrefl _)
theorem HOk.kept(x:HOk P w H h)(k:∀b u,h.get? b=some u->h'.get? b=some u):HOk P w H h':=λa o e =>
 (x a o e).stay (λb u _ q=>k b u q) (λ_ q=>q) λ_ _ q=>q
theorem HOk.laid(x:HOk P w H h)(k:∀b u,h.get? b=some u->h'.get? b=some u)(hp:h.objs.size<=a)(new:ObjOk P w (upd H a o) h' a o):HOk P w (upd H a o) h':=λb u e=>by
 have hn:=x.fresh hp;by_cases d:b=a
 .subst d;rw[A0]at e;cases e;exact new
 .rw[A5 d]at e;exact(x b u e).stay (λc v _ q=>k c v q) (λc q=>by rw[A5 (B0 q hn)];exact q) λc xs q=>by rw[A5 (B0 q hn)];exact q
end
def Rd(H:Hp)(a:Addr)(u:HO):Prop:=H a=some u∨∃o,H a=some (.frz o u)
theorem Rd.ok{P:Program}{w:World}{H:Hp}{h:Heap}{a:Addr}{u:HO}(r:Rd H a u)(x:HOk P w H h):ObjOk P w H h a u:=by
 rcases r with r|⟨o,r⟩
 .exact x a u r
 .obtain⟨_,q⟩:=x a _ r;exact q
def Mut:Option HO->Prop
 |some (.lst _)=>True
 |some (.dK _)=>True
 |some (.dT _)=>True
 |some (.set _ _)=>True
 |some (.ins _ _ _)=>True
 |some (.ext _)=>True
 |_=>False
section
variable {P:Program}{w:World}{H:Hp}{h h':Heap}{x e:Addr}{o':HO}
theorem HOk.write(ok:HOk P w H h)(j:Mut (H x))(m:e=x∨H e=some (.own x))(k:∀b u,b≠e->h.get? b=some u->h'.get? b=some u)(l:∃u,h'.get? e=some u)
  (new:ObjOk P w (upd H x o') h' x o'):HOk P w (upd H x o') h':=λb u q=>by
 have d:∀c y,H c=some (.own y)->c≠x:=λc y r z=>by subst z;rw[r]at j;exact j
 have f:∀c xs,H c=some (.tup xs)->c≠x:=λc xs r z=>by subst z;rw[r]at j;exact j
 by_cases g:b=x
 .subst g;rw[A0]at q;cases q;exact new
 .rw[A5 g]at q;by_cases a:b=e
  .have q':H b=some (.own x):=by
    rcases m with z|z
    .exact absurd (a.trans z) g
    .rw[a];exact z
   rw[q]at q';cases q';obtain⟨v,n⟩:=l;exact⟨v,by rw[a];exact n⟩
  .refine(ok b u q).stay (λc v i r=>k c v ?_ r) (λc r=>by rw[A5 (d c b r)];exact r) λc xs r=>by rw[A5 (f c xs r)];exact r
   rcases i with rfl|i
   .exact a
   .rintro rfl;rcases m with z|z
    .exact d c b i z
    .rw[i]at z;cases z;exact g rfl
end
structure Un(fs ex:List Addr)(H H':Hp)(h h':Heap):Prop where
 keep:∀b o,h.get? b=some o->H b=none->b∉fs->b∉ex->h'.get? b=some o
 slot:∀b o,h.get? b=some o->H b=none->b∈fs->b∉ex->∃sl,h'.get? b=some {o with slots:=sl}
 free:∀b o,h.get? b=some o->H b=none->b∉ex->H' b=none
 there:∀b o,h.get? b=some o->b∉ex->∃o',h'.get? b=some o'
 tups:∀b xs,H b=some (.tup xs)->H' b=some (.tup xs)
 frzs:∀b o u,H b=some (.frz o u)->H' b=some (.frz o u)
 tbls:∀b ps,H b=some (.tbl ps)->∃more,H' b=some (.tbl (ps++more))
section
variable {fs fs' ex ex':List Addr}{H H1 H2:Hp}{h h1 h2 h':Heap}{a x e:Addr}{o:HO}
theorem Un.any(u:Un fs ex H H1 h h1){b:Addr}{a:Obj}(q:h.get? b=some a)(n:H b=none)(d:b∉ex):∃sl,h1.get? b=some {a with slots:=sl}:=by
 by_cases c:b∈fs
 .exact u.slot b a q n c d
 .exact⟨a.slots,u.keep b a q n c d⟩
theorem Un.kept(k:∀b u,h.get? b=some u->h'.get? b=some u):Un fs ex H H h h' :=
 ⟨λb a q _ _ _=>k b a q,λb a q _ _ _=>⟨a.slots,k b a q⟩,λ_ _ _ n _=>n,λb a q _=>⟨a,k b a q⟩,λ_ _ q=>q,λ_ _ _ q=>q,λ_ ps q=>⟨#[],by rw[q];simp⟩⟩
theorem Un.refl:Un fs ex H H h h:=Un.kept λ_ _ q=>q
theorem Un.laid(k:∀b u,h.get? b=some u->h'.get? b=some u)(hp:h.objs.size<=a)(hn:H a=none):Un fs ex H (upd H a o) h h' where
 keep:=λb u q _ _ _=>k b u q
 slot:=λb u q _ _ _=>⟨u.slots,k b u q⟩
 free:=λb u q n _=>by rw[A5 (Nat.ne_of_lt (Nat.lt_of_lt_of_le (Heap.lt_size q) hp))];exact n
 there:=λb u q _=>⟨u,k b u q⟩
 tups:=λb xs q=>by rw[A5 (B0 q hn)];exact q
 frzs:=λb u xs q=>by rw[A5 (B0 q hn)];exact q
 tbls:=λb ps q=>⟨#[],by rw[A5 (B0 q hn),q];simp⟩
theorem Un.write(c:Mut (H x))(j:e=x∨H e=some (.own x))(k:∀b u,b≠e->h.get? b=some u->h'.get? b=some u)(d:∃u,h'.get? e=some u):Un fs ex H (upd H x o) h h':=by
 have i:∀b,H b=none->b≠x:=λb n z=>by subst z;rw[n]at c;exact c
 have g:∀b,H b=none->b≠e:=λb n z=>by
  subst z;rcases j with r|r
  .exact i b n r
  .rw[n]at r;cases r
 have f:∀b u,H b=some u->¬Mut (some u)->b≠x:=λb u q nm z=>by subst z;rw[q]at c;exact nm c
 refine⟨λb u q n _ _=>k b u (g b n) q,λb u q n _ _=>⟨u.slots,k b u (g b n) q⟩,λb u q n _=>by rw[A5 (i b n)];exact n,λb u q _=>?_,
  λb xs q=>by rw[A5 (f b _ q λz=>z)];exact q,λb u xs q=>by rw[A5 (f b _ q λz=>z)];exact q,λb ps q=>⟨#[],by rw[A5 (f b _ q λz=>z),q];simp⟩⟩
 by_cases a:b=e
 .subst a;exact d
 .exact⟨u,k b u a q⟩
end
noncomputable def trk(h:Heap)(H:Hp):List Addr:=(List.range h.objs.size).filter λa=>(H a).isSome
noncomputable def a4o(h:Heap)(H:Hp):Heap:=PySem.W.hideAll h (trk h H)
theorem a8c(h:Heap)(H:Hp):(a4o h H).objs.size=h.objs.size:=PySem.W.hideAll_size _ _
theorem b0N{h:Heap}{H:Hp}{b:Addr}{o:Obj}(e:h.get? b=some o)(n:H b=none):(a4o h H).get? b=some o :=
 PySem.W.hideAll_get _ e λa=>by
  have q:(H b).isSome=true:=(List.mem_filter.mp a).2;rw[n]at q;simp at q
theorem b2L{h:Heap}{H:Hp}{b:Addr}{o:Obj}(e:(a4o h H).get? b=some o):h.get? b=some o/\H b=none:=by
 have e':h.get? b=some o:=PySem.W.of_hideAll (trk h H) e;refine⟨e',?_⟩;cases q:H b with
 |none=>rfl
 |some x =>
  have a:b∈trk h H:=List.mem_filter.mpr ⟨List.mem_range.mpr (Heap.lt_size e'),by simp[q]⟩;have z:(a4o h H).get? b=none:=PySem.W.hideAll_none (trk h H) a;rw[z]at e;cases e
noncomputable def b3A(g h:Heap)(L:Addr):List (Addr×Obj):=(List.range h.objs.size).filterMap λa=>if a=L∨(g.get? a).isSome=true then none else(h.get? a).map λo=>(a,o)
noncomputable def rest(g h:Heap)(L d:Addr):List (Addr×Obj):=(b3A g h L).filter λp=>decide (p.1≠d)
structure Mod(K:PySem.W.Frag)(mg:Str->Option Value)(base:Heap):Prop where
 kin:K.In base
 glob:base.Ns mainGlobals mg
 blt:∃mb,base.Ns builtinsNs mb/\∀x:Str,x≠"__name__"->mb x=bootBuiltins x
 nolimit:base.NoLimit
structure Cx where
 prog:Program
 w:World
 K:PySem.W.Frag
 mg:Str->Option Value
 base:Heap
 A:Around
 N:List Str
 s₀:Shared
 H₀:Hp
 env:Env
 outer:List Env
 stack:List Env
 ex:List Addr
 fn:Str->Bool
 calm:Bool
 pn:List (Addr×Obj)
 xe:Value->Shared->Prop
noncomputable def frs(l:List Env):List Addr:=l.filterMap (·.frame)
noncomputable abbrev Cx.fs(X:Cx):List Addr:=frs X.outer
def Vis(sc:Scope)(x:Str):Prop:=sc.names.lookup x=some .local∨sc.names.lookup x=some .cell∨sc.names.lookup x=some .free
def Loc(sc:Scope)(x:Str):Prop:=sc.names.lookup x=some .local∨sc.names.lookup x=some .cell
def b8X(env:Env)(h:Heap)(m:Str->Option Value)(x:Str)(u:Value):Prop :=
 (env.kindOf x=some .local/\m x=some u)∨((env.kindOf x=some .cell∨env.kindOf x=some .free)/\∃c,env.cells.lookup x=some c/\h.IsCell c (some u))
structure Cx.Ok(X:Cx):Prop where
 mod:Mod X.K X.mg X.base
 kind:X.env.scope.kind=.function
 glob:X.env.globals=mainGlobals
 blt:X.env.builtins=builtinsNs
 above:X.s₀.heap.objs.size<=X.env.locals
 inj:∀x y c,X.env.cells.lookup x=some c->X.env.cells.lookup y=some c->x=y
 has:∀x,(X.env.kindOf x=some .cell∨X.env.kindOf x=some .free)->∃c,X.env.cells.lookup x=some c
 cab:∀x c,X.fn x=true->X.env.cells.lookup x=some c->X.s₀.heap.objs.size<=c
 hd:X.calm=true->X.A.handled=none
 frames:X.A.frames=some X.stack
 stk:X.stack=X.outer∨(X.stack=X.env::X.outer/\X.env.frame=some X.env.locals)
 exf:∀b∈X.ex,b≠X.env.locals/\∀x c,X.env.cells.lookup x=some c->c≠b
 bs:∀b o,X.base.get? b=some o->X.s₀.heap.get? b=some o/\X.H₀ b=none
 bsz:X.base.objs.size<=X.s₀.heap.objs.size
 noex:∀b o,X.base.get? b=some o->b∉X.ex
 exfs:∀b∈X.ex,b∉X.fs
 funs:X.s₀.heap.FunFrames X.base X.outer
 frf:∀b∈X.fs,X.H₀ b=none
structure Inv(X:Cx)(pins:List (Addr×Obj))(σ:List (Option V))(H:Hp)(s:Shared):Prop where
 ok:X.Ok
 os:s.os=X.s₀.os
 bare:AllBare s.gens
 base:Un X.fs X.ex X.H₀ H X.s₀.heap s.heap
 loc:∃m,s.heap.Ns X.env.locals m/\∀(i:Nat) (x:Str) (v:V),X.N[i]?=some x->σ[i]?=some (some v)->Vis X.env.scope x->∃u,RelV v u/\b8X X.env s.heap m x u
 cell:∀x c,X.env.cells.lookup x=some c->∃v,s.heap.IsCell c v
 free:H X.env.locals=none
 freeC:∀x c,X.env.cells.lookup x=some c->H c=none
 pin:∀p∈X.pn++pins,s.heap.get? p.1=some p.2/\H p.1=none/\p.1≠X.env.locals/\p.1∉X.fs/\∀v,p.2.data≠.cell v
 hok:HOk X.prog X.w H s.heap
 len:σ.length=X.N.length
section
variable {X:Cx}{pins:List (Addr×Obj)}{σ:List (Option V)}{H H':Hp}{s:Shared}{h':Heap}
theorem Cx.Ok.nofr(ok:X.Ok){b:Addr}{o:Obj}(e:X.base.get? b=some o):b∉X.fs:=λa=>by
 have:=(ok.funs.mem a).1;rw[e]at this;cases this
theorem Inv.bs(I:Inv X pins σ H s):∀b o,X.base.get? b=some o->s.heap.get? b=some o/\H b=none:=λb o e =>
 ⟨I.base.keep b o (I.ok.bs b o e).1 (I.ok.bs b o e).2 (I.ok.nofr e) (I.ok.noex b o e),I.base.free b o (I.ok.bs b o e).1 (I.ok.bs b o e).2 (I.ok.noex b o e)⟩
theorem Inv.bk(I:Inv X pins σ H s):∀b o,X.base.get? b=some o->s.heap.get? b=some o:=λb o e=>(I.bs b o e).1
theorem Inv.mod(I:Inv X pins σ H s):Mod X.K X.mg X.base:=I.ok.mod
theorem Inv.kIn(I:Inv X pins σ H s):X.K.In s.heap:=I.ok.mod.kin.keeps I.bk
theorem Inv.lt(I:Inv X pins σ H s):X.env.locals<s.heap.objs.size:=let ⟨_,hn,_⟩:=I.loc;hn.lt
theorem Inv.sz(I:Inv X pins σ H s):X.s₀.heap.objs.size<=s.heap.objs.size:=Nat.le_trans I.ok.above (Nat.le_of_lt I.lt)
theorem Inv.nofs(I:Inv X pins σ H s){a:Addr}(h:s.heap.objs.size<=a):a∉X.fs:=λb=>by
 obtain⟨_,o,c,_⟩:=I.ok.funs.mem b;exact absurd (Nat.lt_of_lt_of_le (Heap.lt_size c) (Nat.le_trans I.sz h)) (Nat.lt_irrefl _)
theorem Inv.cne(I:Inv X pins σ H s):∀x c,X.env.cells.lookup x=some c->c≠X.env.locals:=λx c e z=>by
 obtain⟨v,o,d,hd⟩:=I.cell x c e;obtain⟨m,⟨o',es,ep,b,a,_⟩,_⟩:=I.loc;rw[z,b]at d;cases d;rw[a]at hd;cases hd
theorem Inv.funs(I:Inv X pins σ H s):s.heap.FunFrames X.base X.outer:=by
 have all:∀(l:List Env),(∀b∈frs l,b∈X.fs)->X.s₀.heap.FunFrames X.base l->s.heap.FunFrames X.base l:=by
  intro l;induction l with
  |nil=>intro _ _;trivial
  |cons env r j =>
   intro hs g;obtain⟨f,⟨L,o,d,hn,h,hd⟩,i⟩:=g;have a:L∈X.fs:=hs L (by unfold frs;rw[List.filterMap_cons,d];exact List.mem_cons_self);obtain⟨sl,e⟩:=I.base.slot L o h (I.ok.frf L a) a λz=>I.ok.exfs L z a;exact⟨f,⟨L,_,d,hn,e,hd⟩,j (λb c=>hs b (by unfold frs;rw[List.filterMap_cons,d];exact List.mem_cons_of_mem _ c)) i⟩
 exact all X.outer (λ_ c=>c) I.ok.funs
theorem Inv.stack(I:Inv X pins σ H s):s.heap.FunFrames X.base X.stack:=by
 rcases I.ok.stk with e|⟨e,a⟩
 .rw[e];exact I.funs
 .rw[e];obtain⟨m,hn,_⟩:=I.loc;refine .cons (by rw[I.ok.kind];decide) a hn ?_ I.funs;exact Heap.get?_none_of_le (Nat.le_trans I.ok.bsz I.ok.above)
theorem Inv.stkSub(I:Inv X pins σ H s):∀b∈frs X.stack,b∈X.env.locals::X.fs:=λb a=>by
 rcases I.ok.stk with e|⟨e,c⟩
 .rw[e]at a;exact List.mem_cons_of_mem _ a
 .rw[e]at a;unfold frs at a;rw[List.filterMap_cons,c]at a;exact a
theorem Inv.stkFree(I:Inv X pins σ H s):∀b∈frs X.stack,H b=none:=λb a=>by
 rcases List.mem_cons.mp (I.stkSub b a)with e|a
 .rw[e];exact I.free
 .obtain⟨_,o,ho,_⟩:=I.ok.funs.mem a;exact I.base.free b o ho (I.ok.frf b a) λz=>I.ok.exfs b z a
theorem Inv.step{g':Array GenState}{t':Nat}{d':Drawn}{ch:List Addr}(I:Inv X pins σ H s)
  (g:∀b∈ch,(b∈X.ex∨X.s₀.heap.objs.size<=b)/\b≠X.env.locals/\(∀x c,X.env.cells.lookup x=some c->c≠b)/\∀p∈X.pn++pins,p.1≠b)
  (keep:∀b o,b≠X.env.locals->b∉X.fs->b∉ch->s.heap.get? b=some o->H b=none->h'.get? b=some o)
  (t:∀b o,b≠X.env.locals->b∈X.fs->b∉ch->s.heap.get? b=some o->H b=none->∃sl,h'.get? b=some {o with slots:=sl}) (free:∀b o,b∉ch->s.heap.get? b=some o->H b=none->H' b=none)
  (there:∀b o,b∉ch->s.heap.get? b=some o->∃o',h'.get? b=some o')
  (E:∀b xs,H b=some (.tup xs)->H' b=some (.tup xs)) (A:∀b o u,H b=some (.frz o u)->H' b=some (.frz o u)) (D:∀b ps,H b=some (.tbl ps)->∃B,H' b=some (.tbl (ps++B)))
  (ns:∀m,s.heap.Ns X.env.locals m->h'.Ns X.env.locals m) (F:HOk X.prog X.w H' h') (M:AllBare g') :
  Inv X pins σ H' {s with heap:=h',gens:=g',drawn:=d',toks:=t'}:=by
 have C:∀b o,X.s₀.heap.get? b=some o->b≠X.env.locals:=λb o e=>Nat.ne_of_lt (Nat.lt_of_lt_of_le (Heap.lt_size e) I.ok.above);have j:∀b o,X.s₀.heap.get? b=some o->b∉X.ex->b∉ch:=λb o e a w=>by
  rcases(g b w).1 with z|z
  .exact a z
  .exact absurd (Nat.lt_of_lt_of_le (Heap.lt_size e) z) (Nat.lt_irrefl _)
 have f:∀x c,X.env.cells.lookup x=some c->∀v,s.heap.IsCell c v->h'.IsCell c v:=λx c e v ⟨o,y,hd⟩=>by
  have h:c∉ch:=λz=>(g c z).2.2.1 x c e rfl;by_cases J:c∈X.fs
  .obtain⟨sl,q⟩:=t c o (I.cne x c e) J h y (I.freeC x c e);exact⟨_,q,hd⟩
  .exact⟨o,keep c o (I.cne x c e) J h y (I.freeC x c e),hd⟩
 refine⟨I.ok,I.os,M,⟨λb o e n w a=>?_,λb o e n w a=>?_,λb o e n a=>?_,λb o e a=>?_,λb xs e=>E b xs (I.base.tups b xs e),λb o xs e=>A b o xs (I.base.frzs b o xs e),λb ps e=>?_⟩,?_,λx c e=>?_,?_,λx c e=>?_,λp K=>?_,F,I.len⟩
 .exact keep b o (C b o e) w (j b o e a) (I.base.keep b o e n w a) (I.base.free b o e n a)
 .obtain⟨sl,e1⟩:=I.base.slot b o e n w a;obtain⟨G,e2⟩:=t b _ (C b o e) w (j b o e a) e1 (I.base.free b o e n a);exact⟨G,e2⟩
 .obtain⟨o',e1⟩:=I.base.there b o e a;exact free b o' (j b o e a) e1 (I.base.free b o e n a)
 .obtain⟨o',e1⟩:=I.base.there b o e a;exact there b o' (j b o e a) e1
 .obtain⟨m1,e1⟩:=I.base.tbls b ps e;obtain⟨N,e2⟩:=D b _ e1;exact⟨m1++N,by rw[e2,Array.append_assoc]⟩
 .obtain⟨m,hn,hl⟩:=I.loc;refine⟨m,ns m hn,λi x v e1 e2 L=>?_⟩;obtain⟨u,r,l⟩:=hl i x v e1 e2 L;refine⟨u,r,?_⟩;rcases l with l|⟨k,c,e,z⟩
  .exact .inl l
  .exact .inr ⟨k,c,e,f x c e _ z⟩
 .obtain⟨v,z⟩:=I.cell x c e;exact⟨v,f x c e v z⟩
 .obtain⟨m,⟨o,_,_,y,_⟩,_⟩:=I.loc;exact free _ o (λz=>(g _ z).2.1 rfl) y I.free
 .obtain⟨v,o,y,hd⟩:=I.cell x c e;exact free c o (λz=>(g c z).2.2.1 x c e rfl) y (I.freeC x c e)
 .obtain⟨e,n,ne,nf,d⟩:=I.pin p K;have h:p.1∉ch:=λz=>(g p.1 z).2.2.2 p K rfl;exact⟨keep p.1 p.2 ne nf h e n,free p.1 p.2 h e n,ne,nf,d⟩
theorem Inv.un{t':Nat}(I:Inv X pins σ H s)(u:Un X.fs [] H H' s.heap h')(f:HOk X.prog X.w H' h'):Inv X pins σ H' {s with heap:=h',toks:=t'}:=by
 obtain⟨m,⟨o,es,ep,g,r⟩,_⟩:=id I.loc;obtain⟨sl,h⟩:=u.any g I.free (by simp);exact I.step (g':=s.gens) (d':=s.drawn) (ch:=[]) (λ_ z=>nomatch z) (λb o _ d _ e n=>u.keep b o e n d (by simp)) (λb o _ d _ e n=>u.slot b o e n d (by simp)) (λb o _ e n=>u.free b o e n (by simp)) (λb o _ e=>u.there b o e (by simp)) u.tups u.frzs u.tbls (λk i=>by
  obtain⟨o',es',c,a,j⟩:=i;rw[g]at a;cases a;exact⟨_,es',c,h,j⟩) f I.bare
theorem Inv.call{g':Array GenState}{t':Nat}{d':Drawn}{ch:List Addr}(I:Inv X pins σ H s)(u:Un (frs X.stack) ch H H' s.heap h')(i:HOk X.prog X.w H' h')(l:AllBare g')
  (d:∀b∈ch,(b∈X.ex∨X.s₀.heap.objs.size<=b)/\b≠X.env.locals/\(∀x c,X.env.cells.lookup x=some c->c≠b)/\∀p∈X.pn++pins,p.1≠b) :
  Inv X pins σ H' {s with heap:=h',gens:=g',drawn:=d',toks:=t'}:=by
 obtain⟨m,⟨o,es,ep,j,r⟩,_⟩:=id I.loc;obtain⟨sl,h⟩:=u.any j I.free λz=>(d _ z).2.1 rfl;exact I.step (ch:=ch) d (λb o h k a e n=>u.keep b o e n (λz=>(List.mem_cons.mp (I.stkSub b z)).elim h k) a) (λb o _ _ a e n=>u.any e n a) (λb o a e n=>u.free b o e n a) (λb o a e=>u.there b o e a) u.tups u.frzs u.tbls (λv q=>by
  obtain⟨o',es',g,f,t⟩:=q;rw[j]at f;cases f;exact⟨_,es',g,h,t⟩) i l
theorem Inv.turned{t':Nat}{it:Addr}(I:Inv X pins σ H s)(k:∀b o,b≠it->s.heap.get? b=some o->h'.get? b=some o)(hn:H it=none)(f:it≠X.env.locals)
  (h1:it∈X.ex∨X.s₀.heap.objs.size<=it) (h2:∀x c,X.env.cells.lookup x=some c->c≠it) (g:∀p∈X.pn++pins,p.1≠it):Inv X pins σ H {s with heap:=h',toks:=t'}:=by
 have d:∀b u,H b=some u->b≠it:=λb u e z=>by rw[z,hn]at e;cases e
 refine I.step (g':=s.gens) (d':=s.drawn) (ch:=[it]) (λb h=>?_) (λb o _ _ a e _=>k b o (λz=>a (by simp[z])) e) (λb o _ _ a e _=>⟨o.slots,k b o (λz=>a (by simp[z])) e⟩) (λ_ _ _ _ n=>n)
  (λb o a e=>⟨o,k b o (λz=>a (by simp[z])) e⟩) (λ_ _ e=>e) (λ_ _ _ e=>e) (λb ps e=>⟨#[],by rw[e];simp⟩) (λm i=>?_) (λb u e=>?_) I.bare
 .have e:b=it:=by simpa using h
  subst e;exact⟨h1,f,h2,g⟩
 .obtain⟨o,es,ep,ho,r⟩:=i;exact⟨o,es,ep,k _ o (Ne.symm f) ho,r⟩
 .refine(I.hok b u e).stay (λc v a q=>k c v ?_ q) (λ_ q=>q) λ_ _ q=>q;rcases a with z|z
  .rw[z];exact d b u e
  .exact d c _ z
theorem Inv.tok(I:Inv X pins σ H s)(t:Nat):Inv X pins σ H {s with toks:=t}:=I.un (h':=s.heap) (t':=t) Un.refl I.hok
theorem Inv.kept{t':Nat}(I:Inv X pins σ H s)(k:∀b u,s.heap.get? b=some u->h'.get? b=some u):Inv X pins σ H {s with heap:=h',toks:=t'}:=I.un (Un.kept k) (I.hok.kept k)
theorem Inv.laid{a:Addr}{o:HO}{t':Nat}(I:Inv X pins σ H s)(k:∀b u,s.heap.get? b=some u->h'.get? b=some u)(hp:s.heap.objs.size<=a)(new:ObjOk X.prog X.w (upd H a o) h' a o) :
  Inv X pins σ (upd H a o) {s with heap:=h',toks:=t'}:=I.un (Un.laid k hp (I.hok.fresh hp)) (I.hok.laid k hp new)
theorem Inv.write{x e:Addr}{o:HO}{t':Nat}(I:Inv X pins σ H s)(d:Mut (H x))(c:e=x∨H e=some (.own x))(k:∀b u,b≠e->s.heap.get? b=some u->h'.get? b=some u)(a:∃u,h'.get? e=some u)
  (new:ObjOk X.prog X.w (upd H x o) h' x o):Inv X pins σ (upd H x o) {s with heap:=h',toks:=t'}:=I.un (Un.write d c k a) (I.hok.write d c k a new)
theorem Inv.weak{σ':List (Option V)}(I:Inv X pins σ H s)(b:σ'.length=σ.length)(w:∀(i:Nat) v,σ'[i]?=some (some v)->σ[i]?=some (some v)):Inv X pins σ' H s :=
 ⟨I.ok,I.os,I.bare,I.base,let ⟨m,hn,hl'⟩:=I.loc;⟨m,hn,λi x v e1 e2 a=>hl' i x v e1 (w i v e2) a⟩,I.cell,I.free,I.freeC,I.pin,I.hok,b.trans I.len⟩
theorem Inv.pins_of{pins':List (Addr×Obj)}(I:Inv X pins σ H s)(h:∀p∈pins',s.heap.get? p.1=some p.2/\H p.1=none/\p.1≠X.env.locals/\p.1∉X.fs/\∀v,p.2.data≠.cell v):Inv X pins' σ H s :=
 ⟨I.ok,I.os,I.bare,I.base,I.loc,I.cell,I.free,I.freeC,λp a=>(List.mem_append.mp a).elim (λz=>I.pin p (List.mem_append_left _ z)) (h p),I.hok,I.len⟩
theorem a2r{N:List Str}(c:N.Nodup){i j:Nat}{x:Str}(a:N[i]?=some x)(b:N[j]?=some x):i=j:=by
 obtain⟨h1,e1⟩:=List.getElem?_eq_some_iff.mp a;obtain⟨h2,e2⟩:=List.getElem?_eq_some_iff.mp b;exact(List.getElem_inj c).mp (e1.trans e2.symm)
theorem a3h{M:Model}{A:Around}{E:Value->Shared->Prop}{i:Nat}{x:Str}{v:V}{u:Value}{Q:Unit->Shared->Prop}(I:Inv X pins σ H s)(U:X.N.Nodup)(hi:X.N[i]?=some x)(l:Loc X.env.scope x)(r:RelV v u)
  (h:∀s',Inv X pins (σ.set i (some v)) H s'->(∃a,Heap.SameBut a s.heap s'.heap/\(a=X.env.locals∨X.env.cells.lookup x=some a))->Q () s') (Z:X.fn x=true∨X.env.scope.names.lookup x=some .local:=by first|exact .inl rfl|exact .inr rfl|assumption):wpAny M A (storeName X.env x u) Q E s:=by
 obtain⟨m,hn,W⟩:=id I.loc;have D:(X.env.scope.kind==.class || (X.env.scope.kind==.module && X.env.locals != X.env.globals))=false:=by rw[I.ok.kind];rfl
 have hiσ:i<σ.length:=by rw[I.len];exact(List.getElem?_eq_some_iff.mp hi).1
 have cne:=I.cne;have f:∀{a:Addr}{h':Heap},(∃o,s.heap.get? a=some o/\H a=none)->Heap.SameBut a s.heap h'->HOk X.prog X.w H h':=λ{a h'} Y hs b ob e=>by
  obtain⟨_,_,t⟩:=Y;refine(I.hok b ob e).stay (λc K g q=>(hs.2 c ?_).trans q) (λ_ q=>q) λ_ _ q=>q;rintro rfl;rcases g with rfl|g
  .rw[t]at e;cases e
  .rw[t]at g;cases g
 rcases l with w|w
 .refine wpAny_storeName_local w hn (λh' N hs=>?_) D;obtain⟨oL,_,_,O,_⟩:=id hn;refine h _ ⟨I.ok,I.os,I.bare,⟨λb o e n B l=>?_,λb o e n B l=>?_,I.base.free,λb o e l=>?_,I.base.tups,I.base.frzs,I.base.tbls⟩,⟨_,N,λj y T e1 e2 L=>?_⟩,λy c e=>?_,I.free,I.freeC,λp P=>?_,f ⟨oL,O,I.free⟩ hs,by simpa using I.len⟩ ⟨_,hs,.inl rfl⟩
  .exact(hs.2 b (Nat.ne_of_lt (Nat.lt_of_lt_of_le (Heap.lt_size e) I.ok.above))).trans (I.base.keep b o e n B l)
  .obtain⟨sl,e1⟩:=I.base.slot b o e n B l;exact⟨sl,(hs.2 b (Nat.ne_of_lt (Nat.lt_of_lt_of_le (Heap.lt_size e) I.ok.above))).trans e1⟩
  .obtain⟨o',e1⟩:=I.base.there b o e l;exact⟨o',(hs.2 b (Nat.ne_of_lt (Nat.lt_of_lt_of_le (Heap.lt_size e) I.ok.above))).trans e1⟩
  .by_cases hj:j=i
   .subst hj;rw[hi]at e1;cases e1;rw[List.getElem?_set_self hiσ]at e2;cases e2;exact⟨u,r,.inl ⟨w,by simp⟩⟩
   .rw[List.getElem?_set_ne (Ne.symm hj)]at e2;obtain⟨S,R,q⟩:=W j y T e1 e2 L;refine⟨S,R,?_⟩;rcases q with⟨k,e⟩|⟨k,c,e,z⟩
    .refine .inl ⟨k,?_⟩;have:y≠x:=λe=>hj (a2r U e1 (e ▸ hi));simp[this,e]
    .exact .inr ⟨k,c,e,z.sameBut hs (cne y c e)⟩
  .obtain⟨K,z⟩:=I.cell y c e;exact⟨K,z.sameBut hs (cne y c e)⟩
  .obtain⟨e,n,ne,nf,d⟩:=I.pin p P;exact⟨(hs.2 p.1 ne).trans e,n,ne,nf,d⟩
 .have hfn:X.fn x=true:=by
   rcases Z with z|z
   .exact z
   .rw[z]at w;cases w
  obtain⟨c,g⟩:=I.ok.has x (.inl w);obtain⟨K,z⟩:=I.cell x c g;refine wpAny_storeName_cell I.ok.kind w g z (λh' C hs=>?_);obtain⟨oc,F,G⟩:=id z;refine h {s with heap:=h'} ⟨I.ok,I.os,I.bare,⟨λb o e n B l=>?_,λb o e n B l=>?_,I.base.free,λb o e l=>?_,I.base.tups,I.base.frzs,I.base.tbls⟩,⟨m,hn.sameBut hs (Ne.symm (cne x c g)),λj y T e1 e2 L=>?_⟩,λy J e=>?_,I.free,I.freeC,λp P=>?_,f ⟨oc,F,I.freeC x c g⟩ hs,by simpa using I.len⟩ ⟨c,hs,.inr g⟩
  .exact(hs.2 b (Nat.ne_of_lt (Nat.lt_of_lt_of_le (Heap.lt_size e) (I.ok.cab x c hfn g)))).trans (I.base.keep b o e n B l)
  .obtain⟨sl,e1⟩:=I.base.slot b o e n B l;exact⟨sl,(hs.2 b (Nat.ne_of_lt (Nat.lt_of_lt_of_le (Heap.lt_size e) (I.ok.cab x c hfn g)))).trans e1⟩
  .obtain⟨o',e1⟩:=I.base.there b o e l;exact⟨o',(hs.2 b (Nat.ne_of_lt (Nat.lt_of_lt_of_le (Heap.lt_size e) (I.ok.cab x c hfn g)))).trans e1⟩
  .by_cases hj:j=i
   .subst hj;rw[hi]at e1;cases e1;rw[List.getElem?_set_self hiσ]at e2;cases e2;exact⟨u,r,.inr ⟨.inl w,c,g,C⟩⟩
   .rw[List.getElem?_set_ne (Ne.symm hj)]at e2;obtain⟨S,R,q⟩:=W j y T e1 e2 L;refine⟨S,R,?_⟩;rcases q with q|⟨k,J,e,z'⟩
    .exact .inl q
    .refine .inr ⟨k,J,e,z'.sameBut hs ?_⟩;rintro rfl;exact hj (a2r U e1 (I.ok.inj _ _ _ e g ▸ hi))
  .by_cases hcc:J=c
   .subst hcc;exact⟨_,C⟩
   .obtain⟨w2,z2⟩:=I.cell y J e;exact⟨w2,z2.sameBut hs hcc⟩
  .obtain⟨e,n,ne,nf,d⟩:=I.pin p P;refine⟨(hs.2 p.1 ?_).trans e,n,ne,nf,d⟩;intro q;rw[q,F]at e;have q':oc=p.2:=Option.some.inj e;exact d K (by rw[<-q'];exact G)
theorem Z6{M:Model}{A:Around}{E:Value->Shared->Prop}{i:Nat}{x:Str}{v:V}{u:Value}{Q:Unit->Shared->Prop}(I:Inv X pins σ H s)(b:X.N.Nodup)(hi:X.N[i]?=some x)(d:Loc X.env.scope x)(r:RelV v u)
  (h:∀s',Inv X pins (σ.set i (some v)) H s'->Q () s') (c:X.fn x=true∨X.env.scope.names.lookup x=some .local:=by first|exact .inl rfl|exact .inr rfl|assumption):wpAny M A (storeName X.env x u) Q E s :=
 a3h I b hi d r (λs' a _=>h s' a) c
theorem Inv.call'{s':Shared}{ch:List Addr}(I:Inv X pins σ H s)(h:s'.os=s.os)(u:Un (frs X.stack) ch H H' s.heap s'.heap)(d:HOk X.prog X.w H' s'.heap)(g:AllBare s'.gens)
  (a:∀b∈ch,(b∈X.ex∨X.s₀.heap.objs.size<=b)/\b≠X.env.locals/\(∀x c,X.env.cells.lookup x=some c->c≠b)/\∀p∈X.pn++pins,p.1≠b):Inv X pins σ H' s':=by
 obtain⟨h',g',f,t',o'⟩:=s';have e:o'=s.os:=h;subst e;exact I.call (g':=g') (t':=t') (d':=f) u d g a
end
abbrev XK:=Value->Option Addr->Hp->Prop
abbrev St:=List (Option V)
abbrev VK:=V->Hp->Prop
abbrev TE:=St->Hp->VK->Prop
abbrev TT:=St->Hp->(Bool->Hp->Prop)->Prop
abbrev TA:=St->Hp->(List V->Hp->Prop)->Prop
structure Ends where
 nx:St->Hp->Prop
 rt:VK
 bk:St->Hp->Prop:=λ_ _=>False
 ct:St->Hp->Prop:=λ_ _=>False
abbrev TS:=Ends->St->Hp->Prop
def EP(X:Cx)(pins:List (Addr×Obj))(σ:St)(Q:VK)(u:Value)(s':Shared):Prop:=∃v H',Inv X pins σ H' s'/\RelV v u/\Q v H'
def TP(X:Cx)(pins:List (Addr×Obj))(σ:St)(Q:Bool->Hp->Prop)(b:Bool)(s':Shared):Prop:=∃H',Inv X pins σ H' s'/\Q b H'
def AP(X:Cx)(pins:List (Addr×Obj))(σ:St)(Q:List V->Hp->Prop)(us:List Value)(s':Shared):Prop:=∃vs H',Inv X pins σ H' s'/\Vals vs us/\Q vs H'
def SP(X:Cx)(pins:List (Addr×Obj))(D:Ends)(f:Flow)(s':Shared):Prop :=
 match f with
 |.next=>∃σ' H',Inv X pins σ' H' s'/\D.nx σ' H'
 |.brk=>∃σ' H',Inv X pins σ' H' s'/\D.bk σ' H'
 |.cont=>∃σ' H',Inv X pins σ' H' s'/\D.ct σ' H'
 |.ret u=>∃v σ' H',Inv X pins σ' H' s'/\RelV v u/\D.rt v H'
def PE(X:Cx)(e:Expr)(t:TE):Prop :=
 ∀(pins:List (Addr×Obj)) (s:Shared) (σ:St) (H:Hp) (Q:VK),Inv X pins σ H s->t σ H Q->wpAny (model X.prog X.w) X.A (eval e X.env) (EP X pins σ Q) X.xe s
def PT(X:Cx)(e:Expr)(t:TT):Prop :=
 ∀(pins:List (Addr×Obj)) (s:Shared) (σ:St) (H:Hp) (Q:Bool->Hp->Prop),Inv X pins σ H s->t σ H Q->wpAny (model X.prog X.w) X.A (isTrue e X.env (eval e X.env)) (TP X pins σ Q) X.xe s
def PW(X:Cx)(e:Expr)(t:TT):Prop :=
 ∀(whole:Sem Value) (pins:List (Addr×Obj)) (s:Shared) (σ:St) (H:Hp) (Q:Bool->Hp->Prop),Inv X pins σ H s->t σ H Q->wpAny (model X.prog X.w) X.A (isTrue e X.env whole) (TP X pins σ Q) X.xe s
theorem PW.pt{X:Cx}{e:Expr}{t:TT}(h:PW X e t):PT X e t:=h _
def PA(X:Cx)(es:List Expr)(t:TA):Prop :=
 ∀(pos:Pos) (pins:List (Addr×Obj)) (s:Shared) (σ:St) (H:Hp) (Q:List V->Hp->Prop),Inv X pins σ H s->t σ H Q->wpAny (model X.prog X.w) X.A (spliced (backTo pos (starEach es X.env))) (AP X pins σ Q) X.xe s
def PS(X:Cx)(st:Stmt)(t:TS):Prop :=
 ∀(pins:List (Addr×Obj)) (s:Shared) (σ:St) (H:Hp) (D:Ends),Inv X pins σ H s->t D σ H->wpAny (model X.prog X.w) X.A (exec st X.env) (SP X pins D) X.xe s
def PSs(X:Cx)(st:List Stmt)(t:TS):Prop :=
 ∀(pins:List (Addr×Obj)) (s:Shared) (σ:St) (H:Hp) (D:Ends),Inv X pins σ H s->t D σ H->wpAny (model X.prog X.w) X.A (execs st X.env) (SP X pins D) X.xe s
theorem thn{α:Type}{t:Sem α}{Q b:α->Shared->Prop}{M:Model}{A:Around}{E:Value->Shared->Prop}{s:Shared}(h:wpAny M A t Q E s)(c:∀a s,Q a s->b a s):wpAny M A t b E s:=wpAny_mono h c λ_ _ x=>x
section
variable {X:Cx}
def U9(i:Nat):TE:=λσ H Q=>∃v,σ[i]?=some (some v)/\Q v H
def tC(v:V):TE:=λ_ H Q=>Q v H
theorem b5w{i:Nat}{x:Str}{pos:Pos}(g:X.N[i]?=some x)(n:Vis X.env.scope x)(hd:(x==("__debug__" : Str))=false:=by decide)(d:(x==("__classdict__" : Str))=false:=by decide):PE X (.Name x pos) (U9 i):=by
 intro pins s σ H Q I h;obtain⟨v,e,h⟩:=h;obtain⟨m,hn,j⟩:=I.loc;obtain⟨u,r,l⟩:=j i x v g e n;have fin:EP X pins σ Q u s:=⟨v,H,I,r,h⟩;rcases l with⟨b,k⟩|⟨b,c,f,a⟩
 .exact wpAny_Name (wpAny_loadName_local I.ok.kind b hn k fin) hd
 .rcases b with b|b
  .exact wpAny_Name (wpAny_loadName_cell I.ok.kind b f a fin) hd
  .exact wpAny_Name (wpAny_loadName_free I.ok.kind b f a fin d) hd
theorem b5D{i j pos}:PE X (.Constant (.int i) j pos) (tC (.int i)):=λ_ _ _ H _ I h=>wpAny_Constant_int ⟨.int i,H,I.tok _,⟨_,rfl⟩,h⟩
theorem b8d{b j pos}:PE X (.Constant (.bool b) j pos) (tC (.bl b)):=λ_ _ _ H _ I h=>Constant_bool ⟨.bl b,H,I,rfl,h⟩
theorem b5B{j pos}:PE X (.Constant .none j pos) (tC .non):=λ_ _ _ H _ I h=>Constant_none ⟨.non,H,I,rfl,h⟩
theorem b5z{x j pos}:PE X (.Constant (.str x) j pos) (tC (.str x)):=λ_ _ _ H _ I h=>Calls.Constant_str ⟨.str x,H,I.tok _,⟨_,rfl⟩,h⟩
def Gl(X:Cx)(x:Str):Prop:=X.env.kindOf x=some .globalImplicit
theorem Y5{E:Value->Shared->Prop}{pins:List (Addr×Obj)}{s:Shared}{σ:St}{H:Hp}{x:Str}{u:Value}{pos:Pos}{Q:Value->Shared->Prop}(I:Inv X pins σ H s)(a:Gl X x)(b:X.mg x=some u)(h:Q u s)
  (hd:(x==("__debug__" : Str))=false:=by decide):wpAny (model X.prog X.w) X.A (eval (.Name x pos) X.env) Q E s :=
 Calls.Name_function_global I.ok.kind a (Calls.loadGlobal_global (by rw[I.ok.glob];exact I.mod.glob.keeps I.bk) b h) hd
theorem a0H{E:Value->Shared->Prop}{pins:List (Addr×Obj)}{s:Shared}{σ:St}{H:Hp}{x:Str}{u:Value}{pos:Pos}{Q:Value->Shared->Prop}(I:Inv X pins σ H s)(a:Gl X x)(b:X.mg x=none)(c:bootBuiltins x=some u)(h:Q u s)
  (hn:x≠"__name__":=by decide) (hd:(x==("__debug__" : Str))=false:=by decide):wpAny (model X.prog X.w) X.A (eval (.Name x pos) X.env) Q E s:=by
 obtain⟨d,h1,h2⟩:=I.mod.blt;exact Calls.Name_function_global I.ok.kind a (Calls.loadGlobal_builtin (by rw[I.ok.glob];exact I.mod.glob.keeps I.bk) b (by rw[I.ok.blt];exact h1.keeps I.bk) ((h2 x hn).trans c) h) hd
theorem b2q{x:Str}{v:V}{u:Value}{pos:Pos}(a:Gl X x)(b:X.mg x=some u)(r:RelV v u)(hd:(x==("__debug__" : Str))=false:=by decide):PE X (.Name x pos) (tC v) :=
 λ_ _ _ H _ I h=>Y5 I a b ⟨v,H,I,r,h⟩ hd
theorem b2v{x:Str}{v:V}{u:Value}{pos:Pos}(a:Gl X x)(b:X.mg x=none)(c:bootBuiltins x=some u)(r:RelV v u)(hn:x≠"__name__":=by decide)(hd:(x==("__debug__" : Str))=false:=by decide):PE X (.Name x pos) (tC v) :=
 λ_ _ _ H _ I h=>a0H I a b c ⟨v,H,I,r,h⟩ hn hd
variable {a b:Expr}{ta tb:TE}{pos:Pos}
def PC(X:Cx)(op:CmpOp)(a b:Expr)(t:TE):Prop :=
 ∀(pins:List (Addr×Obj)) (s:Shared) (σ:St) (H:Hp) (Q:VK),Inv X pins σ H s->t σ H Q ->
  wpAny (model X.prog X.w) X.A (eval a X.env) (λv s₁=>wpAny (model X.prog X.w) X.A (eval b X.env) (λu s₂=>wpAny (model X.prog X.w) X.A (compareOp op v u) (EP X pins σ Q) X.xe s₂) X.xe s₁) X.xe s
def tB(t:TE):TT:=λσ H Q=>t σ H λx H1=>∃c,x=.bl c/\Q c H1
theorem b5F{c:CmpOp}{t:TE}(h:PC X c a b t)(h1:behindInMarks c b=false:=by first|exact nobehind _ (by decide) (by decide)|rfl):PE X (.Compare a [c] [b] pos) t:=λpins s σ H Q I hw=>wpAny_Compare1 (h pins s σ H Q I hw) h1
theorem b5j{e:CmpOp}{t:TE}(h:PC X e a b t)(h1:behindInMarks e b=false:=by first|exact nobehind _ (by decide) (by decide)|rfl):PT X (.Compare a [e] [b] pos) (tB t):=by
 intro pins s σ H Q I hw;refine wpAny_isTrue_Compare1 (thn (h pins s σ H _ I hw) λv s1 h1=>thn h1 λu i h2=>thn h2 λc j ⟨x,H1,f,g,q1⟩=>?_) h1;obtain⟨d,rfl,q⟩:=q1;cases g;exact wpAny_truthy_bool ⟨H1,f,q⟩
variable {tA tB':TT}{rest:List Expr}
def b7u(t u:TT):TT:=λσ H Q=>t σ H λc H1=>if c=true then u σ H1 Q else Q false H1
def tOr(t u:TT):TT:=λσ H Q=>t σ H λc H1=>if c=true then Q true H1 else u σ H1 Q
def b7q(t:TT):TT:=λσ H Q=>t σ H λc H1=>Q (!c) H1
theorem pw_and1(b:PT X a tA):PW X (.BoolOp .And [a] pos) tA:=by
 intro d pins s σ H Q I h;refine isTrue_and (thn (b pins s σ H Q I h) λc s1 e=>?_);cases c with
 |true=>exact isTrue_and_nil e
 |false=>exact e
theorem pw_or1(b:PT X a tA):PW X (.BoolOp .Or [a] pos) tA:=by
 intro d pins s σ H Q I h;refine isTrue_or (thn (b pins s σ H Q I h) λc s1 e=>?_);cases c with
 |false=>exact isTrue_or_nil e
 |true=>exact e
theorem pw_and(e:PT X a tA)(f:PW X (.BoolOp .And (b::rest) pos) tB'):PW X (.BoolOp .And (a::b::rest) pos) (b7u tA tB'):=by
 intro g pins s σ H Q I h;refine isTrue_and (thn (e pins s σ H _ I h) λc s1 ⟨H1,d,q1⟩=>?_);cases c with
 |true=>exact f g pins s1 σ H1 Q d q1
 |false=>exact⟨H1,d,q1⟩
theorem pw_or(e:PT X a tA)(f:PW X (.BoolOp .Or (b::rest) pos) tB'):PW X (.BoolOp .Or (a::b::rest) pos) (tOr tA tB'):=by
 intro g pins s σ H Q I h;refine isTrue_or (thn (e pins s σ H _ I h) λc s1 ⟨H1,d,q1⟩=>?_);cases c with
 |true=>exact⟨H1,d,q1⟩
 |false=>exact f g pins s1 σ H1 Q d q1
theorem b5i(b:PT X a tA):PT X (.UnaryOp .Not a pos) (b7q tA):=by
 intro pins s σ H Q I h;exact isTrue_not (b pins s σ H (λc H1=>Q (!c) H1) I h)
def b3J(ta tb:TE):TE:=λσ H Q=>ta σ H λx H1=>∃c,x=.bl c/\if c=true then tb σ H1 Q else Q (.bl false) H1
def b7p(ta tb:TE):TE:=λσ H Q=>ta σ H λx H1=>∃c,x=.bl c/\if c=true then Q (.bl true) H1 else tb σ H1 Q
def b8Z(ta:TE):TE:=λσ H Q=>ta σ H λx H1=>∃c,x=.bl c/\Q (.bl (!c)) H1
theorem b5A{op}{t:TE}(h:PE X a t):PE X (.BoolOp op [a] pos) t:=λpins s σ H Q I hw=>BoolOp_one (h pins s σ H Q I hw)
theorem b5I(e:PE X a ta)(f:PE X (.BoolOp .And (b::rest) pos) tb):PE X (.BoolOp .And (a::b::rest) pos) (b3J ta tb):=by
 intro pins s σ H Q I h;refine BoolOp_and (thn (e pins s σ H _ I h) λv s1 ⟨x,H1,d,g,q1⟩=>?_);obtain⟨c,rfl,q1⟩:=q1;cases g;refine wpAny_truthy_bool ?_;cases c with
 |true=>exact f pins s1 σ H1 Q d q1
 |false=>exact⟨.bl false,H1,d,rfl,q1⟩
theorem b8b(e:PE X a ta)(f:PE X (.BoolOp .Or (b::rest) pos) tb):PE X (.BoolOp .Or (a::b::rest) pos) (b7p ta tb):=by
 intro pins s σ H Q I h;refine BoolOp_or (thn (e pins s σ H _ I h) λv s1 ⟨x,H1,d,g,q1⟩=>?_);obtain⟨c,rfl,q1⟩:=q1;cases g;refine wpAny_truthy_bool ?_;cases c with
 |false=>exact f pins s1 σ H1 Q d q1
 |true=>exact⟨.bl true,H1,d,rfl,q1⟩
def tIf(t:TT)(ta tb:TE):TE:=λσ H Q=>t σ H λc H1=>if c=true then ta σ H1 Q else tb σ H1 Q
theorem a9R{c:Expr}(i:PT X c tA)(f:PE X a ta)(g:PE X b tb):PE X (.IfExp c a b pos) (tIf tA ta tb):=by
 intro pins s σ H Q I h;refine wpAny_IfExp (thn (i pins s σ H _ I h) λd s1 ⟨H1,e,q1⟩=>?_);cases d with
 |true=>exact f pins s1 σ H1 Q e q1
 |false=>exact g pins s1 σ H1 Q e q1
end
def SqL(K:PySem.W.Frag)(H:Hp)(a:Addr)(xs:List V):Prop :=
 Rd H a (.lst xs) ∨
  ∃(o:Obj) (its:Array Value) (n:Nat),K.lookup a=some o/\o.cls=.type "list"/\o.dict=none/\o.data=.seq its n/\its.size<=sizeLine/\Vals xs its.toList
def SqT(K:PySem.W.Frag)(H:Hp)(a:Addr)(xs:List V):Prop :=
 Rd H a (.tup xs) ∨
  ∃(o:Obj) (its:Array Value) (n:Nat),K.lookup a=some o/\o.cls=.type "tuple"/\o.data=.seq its n/\its.size<=sizeLine/\Vals xs its.toList
noncomputable def b8V:Value->Option V
 |.none=>some .non
 |.bool b=>some (.bl b)
 |.int i _=>some (.int i)
 |.str x _=>some (.str x)
 |.bytes b _=>some (.byt b)
 |.float b _=>some (.flt b)
 |.ref a=>some (.ref a)
 |.type n=>some (.ty n)
 |_=>none
theorem RelV.abs{x:V}{u:Value}(r:RelV x u):b8V u=some x:=by
 cases x with
 |non=>cases r;rfl
 |bl _=>cases r;rfl
 |int _=>obtain⟨t,rfl⟩:=r;rfl
 |str _=>obtain⟨t,rfl⟩:=r;rfl
 |byt _=>obtain⟨t,rfl⟩:=r;rfl
 |flt _=>obtain⟨t,rfl⟩:=r;rfl
 |ref _=>cases r;rfl
 |ty _=>cases r;rfl
theorem RelV.inj{x y:V}{u:Value}(r:RelV x u)(q:RelV y u):x=y:=Option.some.inj (r.abs.symm.trans q.abs)
theorem Vals.inj:∀{xs ys:List V}{us:List Value},Vals xs us->Vals ys us->xs=ys
 |_,_,_,.nil,.nil=>rfl
 |_,_,_,.cons r t,.cons r' t'=>by rw[r.inj r',Vals.inj t t']
section
variable {X:Cx}{pins:List (Addr×Obj)}{σ:St}{H:Hp}{s:Shared}{a:Addr}{xs ys:List V}
theorem SqL.of{K:PySem.W.Frag}(h:H a=some (.lst xs)):SqL K H a xs:=.inl (.inl h)
theorem SqT.of{K:PySem.W.Frag}(h:H a=some (.tup xs)):SqT K H a xs:=.inl (.inl h)
theorem Inv.list(I:Inv X pins σ H s)(h:SqL X.K H a xs):∃b:List Value,Vals xs b/\PlainL s.heap a b.toArray/\xs.length<=sizeLine:=by
 rcases h with h|⟨o,b,n,d,c,hd,hs,f,r⟩
 .obtain⟨z,b,n,r,e⟩:=h.ok I.hok;exact⟨b,r,⟨_,n,e,rfl,rfl,rfl⟩,z⟩
 .refine⟨b.toList,r,⟨o,n,I.kIn a o d,c,hd,by simpa using hs⟩,?_⟩;have e:=r.length;simp only[Array.length_toList]at e;omega
theorem Inv.tuple(I:Inv X pins σ H s)(h:SqT X.K H a xs):∃b:List Value,Vals xs b/\IsTup s.heap a b.toArray/\xs.length<=sizeLine:=by
 rcases h with h|⟨o,b,n,d,c,hs,f,r⟩
 .obtain⟨z,b,r,p⟩:=h.ok I.hok;exact⟨b,r,p.tup,z⟩
 .refine⟨b.toList,r,⟨o,I.kIn a o d,c,n,by simpa using hs⟩,?_⟩;have e:=r.length;simp only[Array.length_toList]at e;omega
theorem Inv.list_inj(I:Inv X pins σ H s)(h:SqL X.K H a xs)(h':SqL X.K H a ys):xs=ys:=by
 obtain⟨c,r,⟨o,n,e,_,_,d⟩,_⟩:=I.list h;obtain⟨b,g,⟨o',i,e',_,_,f⟩,_⟩:=I.list h';rw[e]at e';cases e';rw[d]at f;injection f with d1 _
 have:c=b:=by simpa using congrArg Array.toList d1
 subst this;exact r.inj g
theorem Inv.tuple_inj(I:Inv X pins σ H s)(h:SqT X.K H a xs)(h':SqT X.K H a ys):xs=ys:=by
 obtain⟨c,r,⟨o,e,_,n,d⟩,_⟩:=I.tuple h;obtain⟨b,g,⟨o',e',_,i,f⟩,_⟩:=I.tuple h';rw[e]at e';cases e';rw[d]at f;injection f with d1 _
 have:c=b:=by simpa using congrArg Array.toList d1
 subst this;exact r.inj g
end
noncomputable abbrev Cx.wish(X:Cx)(E:Value->Shared->Prop):Cx:={X with xe:=E}
noncomputable abbrev Cx.nox(X:Cx):Cx:=X.wish λ_ _=>False
theorem Cx.Ok.wish{X:Cx}(ok:X.Ok)(E:Value->Shared->Prop):(X.wish E).Ok :=
 ⟨ok.mod,ok.kind,ok.glob,ok.blt,ok.above,ok.inj,ok.has,ok.cab,ok.hd,ok.frames,ok.stk,ok.exf,ok.bs,ok.bsz,ok.noex,ok.exfs,ok.funs,ok.frf⟩
theorem Cx.Ok.unwish{X:Cx}{E:Value->Shared->Prop}(ok:(X.wish E).Ok):X.Ok :=
 ⟨ok.mod,ok.kind,ok.glob,ok.blt,ok.above,ok.inj,ok.has,ok.cab,ok.hd,ok.frames,ok.stk,ok.exf,ok.bs,ok.bsz,ok.noex,ok.exfs,ok.funs,ok.frf⟩
section
variable {X:Cx}{pins:List (Addr×Obj)}{σ:St}{H:Hp}{s:Shared}{E:Value->Shared->Prop}
theorem Inv.wish(I:Inv X pins σ H s)(E:Value->Shared->Prop):Inv (X.wish E) pins σ H s:=⟨I.ok.wish E,I.os,I.bare,I.base,I.loc,I.cell,I.free,I.freeC,I.pin,I.hok,I.len⟩
theorem Inv.unwish(I:Inv (X.wish E) pins σ H s):Inv X pins σ H s:=⟨I.ok.unwish,I.os,I.bare,I.base,I.loc,I.cell,I.free,I.freeC,I.pin,I.hok,I.len⟩
theorem SP.unwish{D:Ends}{f:Flow}{s':Shared}(h:SP (X.wish E) pins D f s'):SP X pins D f s':=by
 cases f with
 |next=>obtain⟨σ',H',I,q⟩:=h;exact⟨σ',H',I.unwish,q⟩
 |brk=>obtain⟨σ',H',I,q⟩:=h;exact⟨σ',H',I.unwish,q⟩
 |cont=>obtain⟨σ',H',I,q⟩:=h;exact⟨σ',H',I.unwish,q⟩
 |ret u=>obtain⟨v,σ',H',I,r,q⟩:=h;exact⟨v,σ',H',I.unwish,r,q⟩
theorem PSs.nox{st:List Stmt}{t:TS}(h:PSs X.nox st t):PSs X st t:=λpins s σ H D I hw =>
 wpAny_mono (h pins s σ H D (I.wish _) hw) (λ_ _ q=>q.unwish) λ_ _ z=>False.elim z
end
section
variable {X:Cx}{st:Stmt}{rest:List Stmt}{t u:TS}{e:Expr}{te:TE}{pos:Pos}
def b3E:TS:=λD σ H=>D.nx σ H
def a8U(t u:TS):TS:=λD σ H=>t {D with nx:=u D} σ H
theorem b1R:PSs X [] b3E:=λ_ _ σ H _ I h=>wpAny_execs_nil ⟨σ,H,I,h⟩
theorem a9E(h1:PS X st t)(h2:PSs X rest u):PSs X (st::rest) (a8U t u):=by
 intro pins s σ H D I h;refine wpAny_execs_cons (thn (h1 pins s σ H {D with nx:=u D} I h) λf s1 q=>?_);cases f with
 |next =>
  obtain⟨σ',H',a,q⟩:=q;exact h2 pins s1 σ' H' D a q
 |ret v=>exact q
 |brk=>exact q
 |cont=>exact q
theorem b1Q(h1:PS X st t):PSs X [st] t:=by
 intro pins s σ H D I h;refine wpAny_execs_cons (thn (h1 pins s σ H D I h) λf s1 q=>?_);cases f with
 |next=>exact wpAny_execs_nil q
 |ret v=>exact q
 |brk=>exact q
 |cont=>exact q
theorem Inv.quiet{pins:List (Addr×Obj)}{σ:St}{H:Hp}{s:Shared}(I:Inv X pins σ H s):interactive X.env=false:=by simp[interactive,I.ok.kind]
def a6E(te:TE):TS:=λD σ H=>te σ H λ_ H1=>D.nx σ H1
theorem b1T(b:PE X e te)(hs:swapsWith e none pos.line X.env=pure false:=by rfl):PS X (.Expr e pos) (a6E te):=by
 intro pins s σ H D I h;exact wpAny_Expr_any (thn (b pins s σ H _ I h) λv s1 ⟨x,H1,a,c,q1⟩=>⟨σ,H1,a,q1⟩) I.quiet hs
def b1C(te:TE):TS:=λD σ H=>te σ H D.rt
theorem b5l(b:PE X e te):PS X (.Return (some e) pos) (b1C te):=by
 intro pins s σ H D I h;exact wpAny_Return_some (thn (b pins s σ H _ I h) λv s1 ⟨x,H1,a,c,q1⟩=>⟨x,σ,H1,a,c,q1⟩)
def b8Y:TS:=λD _ H=>D.rt .non H
def b7r(c:TT)(t u:TS):TS:=λD σ H=>c σ H λb H1=>if b=true then t D σ H1 else u D σ H1
theorem b7Y{c:Expr}{a b:List Stmt}{tc:TT}(i:PT X c tc)(f:PSs X a t)(g:PSs X b u):PS X (.If c a b pos) (b7r tc t u):=by
 intro pins s σ H D I h;refine wpAny_If (thn (i pins s σ H _ I h) λd s1 ⟨H1,e,q1⟩=>?_);cases d with
 |true=>exact f pins s1 σ H1 D e q1
 |false=>exact g pins s1 σ H1 D e q1
end
abbrev TG:=V->St->Hp->(St->Hp->Prop)->Prop
abbrev TGs:=List V->St->Hp->(St->Hp->Prop)->Prop
def PG(X:Cx)(target:Expr)(t:TG):Prop :=
 ∀(pins:List (Addr×Obj)) (s:Shared) (σ:St) (H:Hp) (v:V) (u:Value) (Q:St->Hp->Prop),Inv X pins σ H s->RelV v u->t v σ H Q ->
  wpAny (model X.prog X.w) X.A (assign target X.env u) (λ_ s'=>∃σ' H',Inv X pins σ' H' s'/\Q σ' H') X.xe s
def PGs(X:Cx)(ts:List Expr)(t:TGs):Prop :=
 ∀(pins:List (Addr×Obj)) (s:Shared) (σ:St) (H:Hp) (vs:List V) (us:List Value) (Q:St->Hp->Prop),Inv X pins σ H s->Vals vs us->t vs σ H Q ->
  wpAny (model X.prog X.w) X.A (assignInOrder ((assignEach ts X.env).map (·.2)) us) (λ_ s'=>∃σ' H',Inv X pins σ' H' s'/\Q σ' H') X.xe s
abbrev b1q:=V->V->V->Hp->(Hp->Prop)->Prop
def b6W(X:Cx)(t:b1q):Prop :=
 ∀(pins:List (Addr×Obj)) (s:Shared) (σ:St) (H:Hp) (o i v:V) (ov iv u:Value) (Q:Hp->Prop),Inv X pins σ H s->RelV o ov->RelV i iv->RelV v u->t o i v H Q ->
  wpAny (model X.prog X.w) X.A (setItem ov iv u) (λ_ s'=>∃H',Inv X pins σ H' s'/\Q H') X.xe s
abbrev TIp:=V->V->Hp->VK->Prop
def PIp(X:Cx)(op:Operator)(t:TIp):Prop :=
 ∀(pins:List (Addr×Obj)) (s:Shared) (σ:St) (H:Hp) (x y:V) (v u:Value) (Q:VK),Inv X pins σ H s->RelV x v->RelV y u->t x y H Q ->
  wpAny (model X.prog X.w) X.A (inplaceOp op v u) (EP X pins σ Q) X.xe s
section
variable {X:Cx}{pos:Pos}
def B1(i:Nat):TG:=λv σ H Q=>Q (σ.set i (some v)) H
theorem b2o{i:Nat}{x:Str}(b:X.N.Nodup)(hi:X.N[i]?=some x)(d:Loc X.env.scope x)(c:X.fn x=true∨X.env.scope.names.lookup x=some .local:=by first|exact .inl rfl|exact .inr rfl|assumption):PG X (.Name x pos) (B1 i):=by
 intro pins s σ H v u Q I r h;exact wpAny_assign_Name (Z6 I b hi d r (λs' a=>⟨_,H,a,h⟩) c)
def b6E:TGs:=λvs σ H Q=>vs=[]/\Q σ H
def a7e(t:TG)(u:TGs):TGs:=λvs σ H Q=>∃v r,vs=v::r/\t v σ H λσ' H'=>u r σ' H' Q
theorem b2m:PGs X [] b6E:=by
 intro pins s σ H vs a Q I r h;obtain⟨e,h⟩:=h;subst e;cases r;exact assignInOrder_nil ⟨σ,H,I,h⟩
theorem a9N{e:Expr}{es:List Expr}{t:TG}{u:TGs}(h1:PG X e t)(h2:PGs X es u)
  (hs:(assignEach (e::es) X.env).map (·.2)=assign e X.env::(assignEach es X.env).map (·.2):=by rfl):PGs X (e::es) (a7e t u):=by
 intro pins s σ H vs b Q I r h;obtain⟨v,c,e1,h⟩:=h;subst e1;cases r with
 |cons r rr =>
  rw[hs];refine assignInOrder_cons (thn (h1 pins s σ H _ _ _ I r h) λ_ s1 ⟨σ1,H1,a,q1⟩=>?_);exact h2 pins s1 σ1 H1 _ _ Q a rr q1
def b3p(K:PySem.W.Frag)(n:Nat)(t:TGs):TG:=λv σ H Q=>∃a xs,v=.ref a/\SqT K H a xs/\xs.length=n/\t xs σ H Q
theorem b5t{es:List Expr}{k:Nat}{t:TGs}{n:Nat}(g:X.calm=true)(h:PGs X es t)
  (hn:(assignEach es X.env).length=n:=by rfl) (c:(assignEach es X.env).findIdx? (·.1)=none:=by rfl):PG X (.Tuple es k pos) (b3p X.K n t):=by
 intro pins s σ H v u Q I r hw;obtain⟨a,xs,e1,j,i,hw⟩:=hw;subst e1;cases r;obtain⟨p,d,l,q⟩:=I.tuple j;refine assign_Tuple_tuple (I.ok.hd g) l (by simp[hn,<-i,d.length]) c λh' m=>?_;have f:Inv X pins σ H {s with heap:=h'}:=I.kept (t':=s.toks) λb o e=>m b o (Nat.ne_of_lt (Heap.lt_size e)) e;exact h pins _ σ H xs _ Q f (by simpa using d) hw
def b8q(to ti:TE)(t:b1q):TG:=λv σ H Q=>to σ H λo H1=>ti σ H1 λi H2=>t o i v H2 λH3=>Q σ H3
theorem b5u{o i:Expr}{to c:TE}{t:b1q}(k:PE X o to)(hi:PE X i c)(hs:b6W X t)
  (j:∀v,assign (.Subscript o i pos) X.env v=(do
   let a <-holding [v] (eval o X.env)
   let b <-holding [v,a] (eval i X.env)
   standAt pos
   holding [v,a,b] (setItem a b v)
   release [v,a,b] []):=by intro _;rfl):PG X (.Subscript o i pos) (b8q to c t):=by
 intro pins s σ H v u Q I r h;rw[j];refine wpAny_bind (wpAny_holding (thn (k pins s σ H _ I h) λa s1 ⟨x,H1,e,n,q1⟩=>?_));refine wpAny_bind (wpAny_holding (thn (hi pins s1 σ H1 _ e q1) λb q ⟨y,H2,f,p,l⟩=>?_));refine wpAny_bind (wpAny_standAt (wpAny_bind (wpAny_holding (thn (hs pins q σ H2 x y v a b u _ f n p r l) λ_ w ⟨d,g,m⟩=>?_))));exact wpAny_release ⟨σ,d,g,m⟩
def a5K(te:TE)(g:TG):TS:=λD σ H=>te σ H λx H1=>g x σ H1 D.nx
theorem b5p{tg e:Expr}{te:TE}{g:TG}(b:PE X e te)(c:PG X tg g)(hs:swapsWithSole [tg] e pos.line X.env=pure false:=by rfl)(hw:swappedStores [tg] e X.env=pure none:=by rfl)
  (h1:(assignEach [tg] X.env).map (·.2)=[assign tg X.env]:=by rfl):PS X (.Assign [tg] e pos) (a5K te g):=by
 intro pins s σ H D I h;refine wpAny_Assign_stores (thn (b pins s σ H _ I h) λv s1 ⟨x,H1,a,d,q1⟩=>?_) hs hw;rw[h1];exact thn (c pins s1 σ H1 x v _ a d q1) λ_ f q=>q
theorem b5k{i:Nat}{x:Str}{e:Expr}{te:TE}{pos':Pos}(c:X.N.Nodup)(hi:X.N[i]?=some x)(g:Loc X.env.scope x)(d:PE X e te)(hs:swapsWith e (some (.Name x pos')) pos.line X.env=pure false:=by rfl)(f:X.fn x=true∨X.env.scope.names.lookup x=some .local:=by first|exact .inl rfl|exact .inr rfl|assumption) :
  PS X (.Assign [.Name x pos'] e pos) (a5K te (B1 i)):=by
 intro pins s σ H D I h;refine wpAny_Assign_Name (thn (d pins s σ H _ I h) λv s1 ⟨y,H1,a,j,q1⟩=>?_) hs;exact Z6 a c hi g j (λk b=>⟨_,H1,b,q1⟩) f
def b7o(i j:Nat)(ta:TA):TS:=λD σ H=>ta σ H λvs H1=>∃v w,vs=[v,w]/\D.nx ((σ.set i (some v)).set j (some w)) H1
theorem b5m{i j:Nat}{x y:Str}{a b:Expr}{ta:TA}{k l pt:Pos}{kt k2 pt2}(F:X.calm=true)(r:X.N.Nodup)(hi:X.N[i]?=some x)(G:X.N[j]?=some y)(f:i≠j)
  (t:X.env.scope.names.lookup x=some .local) (u:X.env.scope.names.lookup y=some .local) (E:PA X [a,b] ta)
  (hw:swappedStores [.Tuple [.Name x k,.Name y l] kt pt] (.Tuple [a,b] k2 pt2) X.env=pure (some [x,y]))
  (hs:swapsWithSole [.Tuple [.Name x k,.Name y l] kt pt] (.Tuple [a,b] k2 pt2) pos.line X.env=pure false:=by rfl) :
  PS X (.Assign [.Tuple [.Name x k,.Name y l] kt pt] (.Tuple [a,b] k2 pt2) pos) (b7o i j ta):=by
 intro pins s σ H D I h;rw[exec_Assign_arm];refine wpAny_bind (wpAny_standAt ?_);rw[hs];refine wpAny_bind (wpAny_pure ?_);rw[if_neg (by decide)];refine wpAny_bind (Tuple_ (thn (E _ pins s σ H _ I h) λL s1 ⟨vs,H1,z,J,q1⟩=>?_));obtain⟨v,w,e1,q1⟩:=q1;subst e1;obtain⟨c,d,rfl,K,m⟩:∃c d,L=[c,d]/\RelV v c/\RelV w d:=by
  cases J with
  |cons p q =>
   cases q with
   |cons p' q' =>
    cases q';exact⟨_,_,rfl,p,p'⟩
 refine wpAny_newObj_type ?_ (by show 2<=sizeLine;decide);have A:Inv X pins σ H1 {s1 with heap:=s1.heap.push {cls:=.type "tuple",data:=.seq [c,d].toArray}}:=z.kept (t':=s1.toks) λb o e=>Heap.get?_push_of_some _ e;rw[hw];refine wpAny_bind (wpAny_pure ?_);show wpAny (model X.prog X.w) X.A (do rule "assign.swapped-stores";let items <-unpackItems (.ref s1.heap.objs.size) 2 none;assignInOrder [λv=>bindName X.env y v,λv=>bindName X.env x v] items.reverse;pure Flow.next) _ _ _;refine wpAny_bind (wpAny_rule (wpAny_bind (unpackItems_tuple (items:=#[c,d]) (I.ok.hd F) (IsTup.new s1.heap _) λh' g=>?_)));have B:=A.kept (h':=h') (t':=s1.toks) λb o e=>g b o (Nat.ne_of_lt (Heap.lt_size e)) e;show wpAny _ _ (assignInOrder [λv=>bindName X.env y v,λv=>bindName X.env x v] [d,c]>>=λ_=>pure Flow.next) _ _ _;refine wpAny_bind (assignInOrder_cons (wpAny_bindName (Z6 B r G (.inl u) m (λM C=>?_) (.inr u))));refine assignInOrder_cons (wpAny_bindName (Z6 C r hi (.inl t) K (λN n=>assignInOrder_nil (wpAny_pure ?_)) (.inr t)));rw[List.set_comm _ _ (Ne.symm f)]at n;exact⟨_,H1,n,q1⟩
def b3I(to ti te:TE)(tget:V->V->Hp->VK->Prop)(tip:TIp)(tset:b1q):TS:=λD σ H=>to σ H λo H1=>ti σ H1 λi H2=>tget o i H2 λx H3=>te σ H3 λy H4=>tip x y H4 λz H5=>tset o i z H5 λH6=>D.nx σ H6
def b6X(X:Cx)(t:V->V->Hp->VK->Prop):Prop :=
 ∀(pins:List (Addr×Obj)) (s:Shared) (σ:St) (H:Hp) (o i:V) (ov iv:Value) (Q:VK),Inv X pins σ H s->RelV o ov->RelV i iv->t o i H Q ->
  wpAny (model X.prog X.w) X.A (getItem ov iv) (EP X pins σ Q) X.xe s
theorem b1V{o i e:Expr}{to m te:TE}{a:V->V->Hp->VK->Prop}{f:TIp}{b:b1q}{j:Operator}{tpos:Pos}(G:PE X o to)(hi:PE X i m)(F:b6X X a)(E:PE X e te)(hp:PIp X j f)(hs:b6W X b)
  (C:∀d c new,augStore i d c new=(do holding [new,d,c] (setItem d c new);release [new,d,c] [];pure .next):=by intros;rfl):PS X (.AugAssign (.Subscript o i tpos) j e pos) (b3I to m te a f b):=by
 intro pins s σ H D I h;refine wpAny_AugAssign_SubscriptAny (thn (G pins s σ H _ I h) λd s1 ⟨n,H1,w,k,q1⟩=>?_) C;refine thn (hi pins s1 σ H1 _ w q1) λc R ⟨p,H2,x,l,J⟩=>?_;refine thn (F pins R σ H2 n p d c _ x k l J) λg S ⟨W,q,y,O,K⟩=>?_;refine thn (E pins S σ q _ y K) λv T ⟨Y,r,z,P,L⟩=>?_;refine thn (hp pins T σ r W Y g v _ z O P L) λnew U ⟨Z,t,A,Q,M⟩=>?_;exact thn (hs pins U σ t n p Z d c new _ A k l Q M) λ_ s6 ⟨u,B,N⟩=>⟨σ,u,B,N⟩
def ipI(f:Int->Int->Int):TIp:=λx y H Q=>∃i j,x=.int i/\y=.int j/\Q (.int (f i j)) H
theorem b6y:PIp X .Add (ipI λi j=>i+j):=by
 intro pins s σ H x y v u Q I a b h;obtain⟨i,j,e1,e2,q⟩:=h;subst e1;subst e2;obtain⟨t,rfl⟩:=a;obtain⟨t',rfl⟩:=b;exact iadd_int ⟨.int _,H,I.tok _,⟨_,rfl⟩,q⟩
def a8T(c:TT)(tb:TS):TS:=λD σ H=>∃W:Nat->St->Hp->Prop,(∃m,W m σ H)/\∀m σ H,W m σ H ->
 c σ H λb H1=>if b=true then ∃N:St->Hp->Prop,(∀σ' H',N σ' H'->∃m',m'<m/\W m' σ' H')/\tb {D with nx:=N,ct:=N,bk:=D.nx} σ H1 else D.nx σ H1
theorem a9F{c:Expr}{a:List Stmt}{tc:TT}{tb:TS}(hp:PassesOwn (model X.prog X.w) X.A X.env X.xe)(u:PT X c tc)(t:PSs X a tb):PS X (.While c a [] pos) (a8T tc tb):=by
 intro pins s σ H D I h;obtain⟨W,⟨w,y⟩,e⟩:=h;refine wpAny_While (codeAny_whileLoop (λn s'=>∃σ' H',Inv X pins σ' H' s'/\W n σ' H') ?_ w ⟨σ,H,I,y⟩);rintro n s1 ⟨σ1,H1,r,z⟩;refine wpAny_passesOwn hp (thn (u pins s1 σ1 H1 _ r (e n σ1 H1 z)) λb x ⟨H2,p,g⟩=>?_);cases b with
 |true =>
  obtain⟨N,q,g⟩:=g;rw[if_pos rfl];refine wpAny_passesOwn hp (thn (t pins x σ1 H2 _ p g) λf A i=>?_);cases f with
  |next =>
   obtain⟨σ3,d,j,m⟩:=i;obtain⟨l,k,o⟩:=q σ3 d m;exact⟨l,k,σ3,d,j,o⟩
  |cont =>
   obtain⟨σ3,d,j,m⟩:=i;obtain⟨l,k,o⟩:=q σ3 d m;exact⟨l,k,σ3,d,j,o⟩
  |brk=>exact i
  |ret v=>exact i
 |false =>
  rw[if_neg Bool.false_ne_true];exact wpAny_execs_nil ⟨σ1,H2,p,g⟩
end
structure It where
 go:Nat->Hp->Prop
 yld:Nat->Hp->V->Hp->Prop
 stop:Nat->Hp->Prop
def a1s(X:Cx)(pins:List (Addr×Obj))(H:Hp)(b:Addr):Prop :=
 H b=none/\b≠X.env.locals/\b∉X.fs/\(b∈X.ex∨X.s₀.heap.objs.size<=b)/\(∀x c,X.env.cells.lookup x=some c->c≠b)/\∀p∈X.pn++pins,p.1≠b
theorem Inv.fpOk{X:Cx}{pins:List (Addr×Obj)}{σ:St}{H H':Hp}{s:Shared}{b:Addr}(I:Inv X pins σ H s)(a:s.heap.objs.size<=b)(hn:H' b=none):a1s X pins H' b:=by
 refine⟨hn,Nat.ne_of_gt (Nat.lt_of_lt_of_le I.lt a),I.nofs a,.inr (Nat.le_trans I.sz a),λx c e z=>?_,λp d z=>?_⟩
 .obtain⟨v,q⟩:=I.cell x c e;exact absurd (Nat.lt_of_lt_of_le q.lt (by rw[z];exact a)) (Nat.lt_irrefl _)
 .exact absurd (Nat.lt_of_lt_of_le (Heap.lt_size (I.pin p d).1) (by rw[z];exact a)) (Nat.lt_irrefl _)
structure Turn(P:Program)(w:World)(K:PySem.W.Frag)(tg:Expr)(J:It)(fp:List Addr)(it:Addr)(tn:Nat->Heap->Prop):Prop where
 mem:it∈fp
 obj:∀i h,tn i h->∀b∈fp,∃o,h.get? b=some o/\∀v,o.data≠.cell v
 keep:∀i h h',tn i h->(∀b∈fp,∀o,h.get? b=some o->h'.get? b=some o)->tn i h'
 item:∀(X:Cx),X.prog=P->X.w=w->X.K=K->X.calm=true->∀(i:Nat) (pins:List (Addr×Obj)) (s:Shared) (σ:St) (H:Hp) (E:Value->Shared->Prop),Inv X pins σ H s->(∀b∈fp,a1s X pins H b)->tn i s.heap->J.go i H ->
  wpAny (model P w) X.A (pyNext (.ref it)) (λr s1=>∃u,r=some u /\
   wpAny (model P w) X.A (letOwnedTupleGo tg (.ref it) u) (λ_ s2=>∃x H',Inv X pins σ H' s2/\RelV x u/\J.yld i H x H'/\tn (i+1) s2.heap/\∀b∈fp,H' b=none) E s1) E s
 done:∀(X:Cx),X.prog=P->X.w=w->X.K=K->X.calm=true->∀(i:Nat) (pins:List (Addr×Obj)) (s:Shared) (σ:St) (H:Hp) (E:Value->Shared->Prop),Inv X pins σ H s->(∀b∈fp,a1s X pins H b)->tn i s.heap->J.stop i H ->
  wpAny (model P w) X.A (pyNext (.ref it)) (λr s1=>r=none/\Inv X pins σ H s1) E s
 self:∀(A:Around) (i:Nat) (s:Shared) (Q:Value->Shared->Prop) (E:Value->Shared->Prop),tn i s.heap->Q (.ref it) s->wpAny (model P w) A (pyIter (.ref it)) Q E s
abbrev TI:=St->Hp->(It->Hp->Prop)->Prop
def PIE(X:Cx)(pins:List (Addr×Obj))(σ:St)(tg:Expr)(R:It->Hp->Prop)(itv:Value)(s2:Shared):Prop :=
 ∃(it:Addr) (fp:List Addr) (tn:Nat->Heap->Prop) (J:It) (H':Hp),itv=.ref it/\Inv X pins σ H' s2/\Turn X.prog X.w X.K tg J fp it tn/\tn 0 s2.heap/\(∀b∈fp,a1s X pins H' b)/\R J H'
def PI(X:Cx)(tg iter:Expr)(wi:TI):Prop :=
 ∀(pins:List (Addr×Obj)) (s:Shared) (σ:St) (H:Hp) (R:It->Hp->Prop),Inv X pins σ H s->wi σ H R ->
  wpAny (model X.prog X.w) X.A (eval iter X.env) (λv s1=>wpAny (model X.prog X.w) X.A (pyIter v) (PIE X pins σ tg R) X.xe s1) X.xe s
theorem a7d{M:Model}{A:Around}{E:Value->Shared->Prop}{s:Shared}{tg:Expr}{it:Addr}{u:Value}{o:Obj}{n:String}{vs:Array Value}{Q:Unit->Shared->Prop}(c:s.heap.get? it=some o)(b:o.cls=.type n)(hd:o.data=.fields vs)
  (hn:["enumerate","zip","dict_itemiterator","dict_reverseitemiterator","odict_iterator","itertools.zip_longest","itertools.pairwise"].contains n=false) (a:Q () s):wpAny M A (letOwnedTupleGo tg (.ref it) u) Q E s:=by
 unfold letOwnedTupleGo;cases tg<;>first
  |exact wpAny_pure a
  | (cases u <;> first
    |exact wpAny_pure a
    | (refine wpAny_bind (wpAny_load c ?_)
       rw[b,hd];show wpAny M A (if (["enumerate","zip","dict_itemiterator","dict_reverseitemiterator","odict_iterator","itertools.zip_longest","itertools.pairwise"].contains n && vs[0]? == some (rawInt _))=true then _ else _) Q E s;rw[if_neg (by intro h;rw[hn,Bool.false_and]at h;cases h)];exact wpAny_pure a))
noncomputable def Itl(K:PySem.W.Frag)(a:Addr):It :=
 ⟨λi H=>∃xs x,SqL K H a xs/\xs[i]?=some x,λi H x H'=>H'=H/\∀xs,SqL K H a xs->xs[i]?=some x,λi H=>∃xs,SqL K H a xs/\xs.length<=i⟩
noncomputable def Itt(K:PySem.W.Frag)(a:Addr):It :=
 ⟨λi H=>∃xs x,SqT K H a xs/\xs[i]?=some x,λi H x H'=>H'=H/\∀xs,SqT K H a xs->xs[i]?=some x,λi H=>∃xs,SqT K H a xs/\xs.length<=i⟩
noncomputable def Itr(lo:Int)(n:Nat):It:=⟨λi _=>i<n,λi H x H'=>H'=H/\x=.int (lo+i),λi _=>n<=i⟩
theorem a7r{P:Program}{w:World}{K:PySem.W.Frag}{tg:Expr}(a it:Addr):Turn P w K tg (Itl K a) [it] it (λi h=>h.IsListIter it a i) where
 mem:=by simp
 obj:=λi h st b f=>by
  have e:b=it:=by simpa using f
  subst e;obtain⟨o,e,c,d⟩:=st;exact⟨o,e,λv z=>by rw[d]at z;cases z⟩
 keep:=λi h h' st k=>st.at λo e=>k it (by simp) o e
 item:=by
  intro X y hw t F i pins s σ H E I g st A;subst y hw t;obtain⟨xs,x,j,B⟩:=A;obtain⟨C,D,p,O⟩:=I.list j;obtain⟨u,M,Q⟩:=D.get B;obtain⟨l,m,L,n,q,r⟩:=g it (by simp);refine wpAny_pyNext_list_item st p.isList (x:=u) (by simpa using M) λh' st' sb=>?_;have G:Inv X pins σ H {s with heap:=h'}:=I.turned (t':=s.toks) (λb o f e=>(sb.2 b f).trans e) l m n q r;obtain⟨o,e,c,d⟩:=id st';exact⟨u,rfl,a7d (s:={s with heap:=h'}) e c d (by decide) ⟨x,H,G,Q,⟨rfl,λys N=>by rw[I.list_inj N j];exact B⟩,st',λb f=>(g b f).1⟩⟩
 done:=by
  intro X y hw t F i pins s σ H E I g st A;subst y hw t;obtain⟨xs,j,B⟩:=A;obtain⟨C,D,p,O⟩:=I.list j;obtain⟨l,m,L,n,q,r⟩:=g it (by simp);have R:=D.length;exact wpAny_pyNext_list_end (I.ok.hd F) st p.isList (by simp;omega) λh' J=>⟨rfl,I.turned (t':=s.toks) (λb o f e=>J b o f e) l m n q r⟩
 self:=λ_ _ _ _ _ st h=>wpAny_pyIter_listiter st h
theorem a5D{P:Program}{w:World}{K:PySem.W.Frag}{tg:Expr}(a it:Addr):Turn P w K tg (Itt K a) [it] it (λi h=>h.IsTupleIter it a i) where
 mem:=by simp
 obj:=λi h st b f=>by
  have e:b=it:=by simpa using f
  subst e;obtain⟨o,e,c,d⟩:=st;exact⟨o,e,λv z=>by rw[d]at z;cases z⟩
 keep:=λi h h' st k=>st.at λo e=>k it (by simp) o e
 item:=by
  intro X A hw y F i pins s σ H E I j st B;subst A hw y;obtain⟨xs,x,l,C⟩:=B;obtain⟨g,D,p,O⟩:=I.tuple l;obtain⟨u,M,Q⟩:=D.get C;obtain⟨m,n,L,q,r,t⟩:=j it (by simp);refine wpAny_pyNext_tuple_item st (show s.heap.IsTuple a g.toArray from p) (x:=u) (by simpa using M) λh' st' sb=>?_;have G:Inv X pins σ H {s with heap:=h'}:=I.turned (t':=s.toks) (λb o f e=>(sb.2 b f).trans e) m n q r t;obtain⟨o,e,c,d⟩:=id st';exact⟨u,rfl,a7d (s:={s with heap:=h'}) e c d (by decide) ⟨x,H,G,Q,⟨rfl,λys N=>by rw[I.tuple_inj N l];exact C⟩,st',λb f=>(j b f).1⟩⟩
 done:=by
  intro X A hw y F i pins s σ H E I j st B;subst A hw y;obtain⟨xs,l,C⟩:=B;obtain⟨g,D,p,O⟩:=I.tuple l;obtain⟨m,n,L,q,r,t⟩:=j it (by simp);have R:=D.length;exact wpAny_pyNext_tuple_end (I.ok.hd F) st (show s.heap.IsTuple a g.toArray from p) (by simp;omega) λh' J=>⟨rfl,I.turned (t':=s.toks) (λb o f e=>J b o f e) m n q r t⟩
 self:=λ_ _ _ _ _ st h=>wpAny_pyIter_tupleiter st h
theorem a5E{P:Program}{w:World}{K:PySem.W.Frag}{tg:Expr}(it:Addr)(lo:Int)(n:Nat):Turn P w K tg (Itr lo n) [it] it (λi h=>IsRangeIter h it (lo+(i:Nat)*1) ((n:Int)-(i:Nat)) 1) where
 mem:=by simp
 obj:=λi h st b a=>by
  have e:b=it:=by simpa using a
  subst e;exact⟨_,st,λv z=>by
   have B:Data.fields _=Data.cell v:=z;cases B⟩
 keep:=λi h h' st k=>k it (by simp) _ st
 item:=by
  intro X p hw m q i pins s σ H E I c st r;subst p hw m;obtain⟨d,f,y,g,j,l⟩:=c it (by simp);have W:=Walks.range (prog:=X.prog) (w:=X.w) (I.ok.hd q) it lo 1 n;refine W.item i s _ _ r st λv h' tk A st' kk=>?_;obtain⟨t,rfl⟩:=A;have u:Inv X pins σ H {s with heap:=h',toks:=tk}:=I.turned (λb o a e=>kk b o (by simpa using a) e) d f g j l;refine⟨_,rfl,a7d (s:={s with heap:=h',toks:=tk}) (n:="range_iterator") st' rfl rfl (by decide) ⟨.int (lo+i),H,u,⟨t,?_⟩,⟨rfl,rfl⟩,st',λb a=>(c b a).1⟩⟩;rw[Int.mul_one]
 done:=by
  intro X p hw m q i pins s σ H E I c st r;subst p hw m;obtain⟨d,f,y,g,j,l⟩:=c it (by simp);exact wpAny_pyNext_range_end (I.ok.hd q) st (by have:n<=i:=r;omega) λh' x=>⟨rfl,I.turned (t':=s.toks) (λb o a e=>x b o a e) d f g j l⟩
 self:=λ_ _ _ _ _ st h=>wpAny_pyIter_rangeiter st h
section
variable {X:Cx}{tg:Expr}
def a5m(K:PySem.W.Frag)(tl:TE):TI:=λσ H R=>tl σ H λx H1=>∃a,x=.ref a/\(∃xs,SqL K H1 a xs)/\R (Itl K a) H1
def b6C(K:PySem.W.Frag)(tl:TE):TI:=λσ H R=>tl σ H λx H1=>∃a,x=.ref a/\(∃xs,SqT K H1 a xs)/\R (Itt K a) H1
theorem b2l{l:Expr}{tl:TE}(f:PE X l tl):PI X tg l (a5m X.K tl):=by
 intro pins s σ H R I h;refine thn (f pins s σ H _ I h) λv s1 ⟨x,H1,c,j,q1⟩=>?_;obtain⟨a,e,⟨xs,g⟩,q⟩:=q1;subst e;cases j;obtain⟨i,m,p,k⟩:=c.list g;refine wpAny_pyIter_list p.isList ?_;refine⟨s1.heap.objs.size,[s1.heap.objs.size],_,_,H1,rfl,c.kept (t':=s1.toks) λb o e=>Heap.get?_push_of_some _ e,a7r a _,⟨_,Heap.get?_push_size _ rfl,rfl,rfl⟩,λb d=>?_,q⟩;have e:b=s1.heap.objs.size:=by simpa using d
 subst e;exact c.fpOk (Nat.le_refl _) (c.hok.fresh (Nat.le_refl _))
theorem b5s{l:Expr}{tl:TE}(g:PE X l tl):PI X tg l (b6C X.K tl):=by
 intro pins s σ H R I h;refine thn (g pins s σ H _ I h) λv s1 ⟨x,H1,c,j,q1⟩=>?_;obtain⟨a,e,⟨xs,i⟩,q⟩:=q1;subst e;cases j;obtain⟨d,m,p,k⟩:=c.tuple i;refine wpAny_pyIter_tuple (show s1.heap.IsTuple a d.toArray from p) ?_;refine⟨s1.heap.objs.size,[s1.heap.objs.size],_,_,H1,rfl,c.kept (t':=s1.toks) λb o e=>Heap.get?_push_of_some _ e,a5D a _,⟨_,Heap.get?_push_size _ rfl,rfl,rfl⟩,λb f=>?_,q⟩;have e:b=s1.heap.objs.size:=by simpa using f
 subst e;exact c.fpOk (Nat.le_refl _) (c.hok.fresh (Nat.le_refl _))
theorem a4P{pins:List (Addr×Obj)}{σ:St}{H:Hp}{s:Shared}{R:It->Hp->Prop}{E:Value->Shared->Prop}{lo hi:Int}{t u v:Tok}{tk:Nat}(I:Inv X pins σ H s)(h1 : -(2 ^ 62)<=lo)(h2:lo<2 ^ 62)(c : -(2 ^ 62)<=hi)(d:hi<2 ^ 62)
  (q:R (Itr lo (hi-lo).toNat) H):wpAny (model X.prog X.w) X.A (pyIter (.ref s.heap.objs.size)) (PIE X pins σ tg R) E {s with heap:=s.heap.push {cls:=.type "range",data:=.fields #[.int lo t,.int hi u,.int 1 v]},toks:=tk}:=by
 refine wpAny_pyIter_range (IsRange.new ..) (small_one h1 h2 c d) ?_;have a:Inv X pins σ H {s with heap:=s.heap.push {cls:=.type "range",data:=.fields #[.int lo t,.int hi u,.int 1 v]},toks:=tk}:=I.kept λb o e=>Heap.get?_push_of_some _ e;refine⟨(s.heap.push {cls:=.type "range",data:=.fields #[.int lo t,.int hi u,.int 1 v]}).objs.size,[(s.heap.push {cls:=.type "range",data:=.fields #[.int lo t,.int hi u,.int 1 v]}).objs.size],_,_,H,rfl,
  a.kept (t':=tk) λb o e=>Heap.get?_push_of_some _ e,a5E _ lo (hi-lo).toNat,?_,λb f=>?_,q⟩
 .have e1:lo+((0:Nat):Int)*1=lo:=by simp
  have e2:(((hi-lo).toNat:Nat):Int)-((0:Nat):Int)=Builtin.Range.rangeSize lo hi 1:=by rw[rangeSize_one];split<;>omega
  show IsRangeIter _ _ (lo+((0:Nat):Int)*1) ((((hi-lo).toNat:Nat):Int)-((0:Nat):Int)) 1;rw[e1,e2];exact Heap.get?_push_size _ rfl
 .have e:b=(s.heap.push {cls:=.type "range",data:=.fields #[.int lo t,.int hi u,.int 1 v]}).objs.size:=by simpa using f
  subst e;exact a.fpOk (Nat.le_refl _) (a.hok.fresh (Nat.le_refl _))
def b4t(ta:TA):TI:=λσ H R=>ta σ H λvs H1=>∃j:Int,vs=[.int j] /\ -(2 ^ 62)<=j/\j<2 ^ 62/\R (Itr 0 j.toNat) H1
def b4s(ta:TA):TI:=λσ H R=>ta σ H λvs H1=>∃i j:Int,vs=[.int i,.int j]/\(-(2 ^ 62)<=i/\i<2 ^ 62 /\ -(2 ^ 62)<=j/\j<2 ^ 62)/\R (Itr i (j-i).toNat) H1
theorem a7F{a:Expr}{ta:TA}{p pos:Pos}(d:Gl X "range")(f:X.mg "range"=none)(c:PA X [a] ta)(hs:starEach [a] X.env=[(false,eval a X.env)]:=by rfl):PI X tg (.Call (.Name "range" p) [a] [] pos) (b4t ta):=by
 intro pins s σ H R I h;refine Call_ (a0H I d f boot_range (PyProof.Rows.callWith_type1 (thn (c pos pins s σ H _ I h) λk s1 ⟨vs,H1,b,i,q1⟩=>?_) hs rfl));obtain⟨j,e,q1,g,q⟩:=q1;subst e;cases i with
 |cons r rr =>
  cases rr;obtain⟨t,rfl⟩:=r;exact call_range_1 (a4P b (by omega) (by omega) q1 g (by simpa using q))
theorem a7E{a b:Expr}{ta:TA}{p pos:Pos}(g:Gl X "range")(k:X.mg "range"=none)(f:PA X [a,b] ta)(hs:starEach [a,b] X.env=[(false,eval a X.env),(false,eval b X.env)]:=by rfl)(c:starEach [b] X.env=[(false,eval b X.env)]:=by rfl) :
  PI X tg (.Call (.Name "range" p) [a,b] [] pos) (b4s ta):=by
 intro pins s σ H R I h;refine Call_ (a0H I g k boot_range (PyProof.Rows.callWith_type1 (thn (f pos pins s σ H _ I h) λu s1 ⟨vs,H1,d,o,q1⟩=>?_) (by rw[hs,c]) (by rw[c];rfl)));obtain⟨i,j,e,⟨q1,l,m,n⟩,q⟩:=q1;subst e;cases o with
 |cons r rr =>
  cases rr with
  |cons r' rr =>
   cases rr;obtain⟨t,rfl⟩:=r;obtain⟨t',rfl⟩:=r';exact call_range_2 (a4P d q1 l m n q)
def b1D(wi:TI)(g:TG)(tb:TS):TS:=λD σ H=>wi σ H λJ H1=>∃W:Nat->Nat->St->Hp->Prop,(∃m,W 0 m σ H1)/\∀i m σ H,W i m σ H ->
 (J.stop i H/\D.nx σ H)∨(J.go i H/\∃N:St->Hp->Prop,(∀σ' H',N σ' H'->∃m',m'<m/\W (i+1) m' σ' H')/\∀x H',J.yld i H x H'->g x σ H' λσ2 H2=>tb {D with nx:=N,ct:=N,bk:=D.nx} σ2 H2)
noncomputable def a2m(fp:List Addr)(h:Heap):List (Addr×Obj):=fp.filterMap λb=>(h.get? b).map λo=>(b,o)
theorem Y4{fp:List Addr}{h:Heap}{b:Addr}{o:Obj}(a:b∈fp)(e:h.get? b=some o):(b,o)∈a2m fp h:=List.mem_filterMap.mpr ⟨b,a,by rw[e];rfl⟩
theorem a7M{fp:List Addr}{h:Heap}{p:Addr×Obj}(hp:p∈a2m fp h):p.1∈fp/\h.get? p.1=some p.2:=by
 obtain⟨b,a,e⟩:=List.mem_filterMap.mp hp;cases q:h.get? b with
 |none=>rw[q]at e;cases e
 |some o =>
  rw[q]at e;have e':(b,o)=p:=Option.some.inj e;subst e';exact⟨a,q⟩
theorem Inv.pinned{pins:List (Addr×Obj)}{σ:St}{H:Hp}{s:Shared}{fp:List Addr}(I:Inv X pins σ H s)(h:∀b∈fp,a1s X pins H b)(i:∀b∈fp,∃o,s.heap.get? b=some o/\∀v,o.data≠.cell v):Inv X (pins++a2m fp s.heap) σ H s :=
 I.pins_of λp j=>(List.mem_append.mp j).elim (λz=>I.pin p (List.mem_append_right _ z)) λz=>by
  obtain⟨a,e⟩:=a7M z;obtain⟨c,f,g,_⟩:=h p.1 a;obtain⟨o,e',d⟩:=i p.1 a;rw[e]at e';cases e';exact⟨e,c,f,g,d⟩
theorem Inv.unpinned{pins pl:List (Addr×Obj)}{σ:St}{H:Hp}{s:Shared}(I:Inv X (pins++pl) σ H s):Inv X pins σ H s:=I.pins_of λp a=>I.pin p (List.mem_append_right _ (List.mem_append_left _ a))
theorem b5n{k:Expr}{p:List Stmt}{U:TI}{g:TG}{tb:TS}{pos:Pos}(hp:PassesOwn (model X.prog X.w) X.A X.env X.xe)(Q:X.calm=true)(hi:PI X tg k U)(hg:PG X tg g)(j:PSs X p tb)
  (hs:∀x,foldedSetIterable k X.env x=pure x:=by intro _;rfl):PS X (.For tg k p [] pos) (b1D U g tb):=by
 intro pins s σ H D I h;refine wpAny_For (thn (hi pins s σ H _ I h) λv s1 h1=>thn h1 λa0 s2 h2=>?_) hs;obtain⟨it,fp,tn,J,H2,e,Y,T,L,P,W,⟨m0,w0⟩,B⟩:=h2;subst e;have l:∀{H':Hp},(∀b∈fp,H' b=none)->∀b∈fp,a1s X pins H' b:=λhn b j=>⟨hn b j,(P b j).2⟩;refine codeAny_forLoop_any (λn s'=>∃i σ' H',Inv X pins σ' H' s'/\tn i s'.heap/\(∀b∈fp,H' b=none)/\W i n σ' H') ?_ m0 ⟨0,σ,H2,Y,L,λb j=>(P b j).1,w0⟩;rintro n R ⟨i,σ3,C,O,z,w,w3⟩;rcases B i n σ3 C w3 with⟨A,qn⟩|⟨go,N,hN,step⟩
 .refine wpAny_passesOwn hp (thn (T.done X rfl rfl rfl Q i pins R σ3 C X.xe O (l w) z A) λr s4 ⟨G,Z⟩=>?_);subst G;exact wpAny_execs_nil ⟨σ3,C,Z,qn⟩
 .refine wpAny_passesOwn hp (thn (T.item X rfl rfl rfl Q i pins R σ3 C X.xe O (l w) z go) λr s4 ⟨u,G,h4⟩=>?_);subst G;refine wpAny_passesOwn hp (thn h4 λ_ S ⟨x,M,I5,r5,y5,t,F⟩=>?_);have E:=I5.pinned (l F) (T.obj _ _ t);refine wpAny_passesOwn hp (thn (hg _ S σ3 M x u _ E r5 (step x M y5)) λ_ s6 ⟨σ6,V,I6,q6⟩=>?_);refine wpAny_passesOwn hp (thn (j _ s6 σ6 V _ I6 q6) λf K q=>?_);have again:∀{σ7:St}{a:Hp},Inv X (pins++a2m fp S.heap) σ7 a K->N σ7 a->∃m,m<n/\∃i σ' H',Inv X pins σ' H' K/\tn i K.heap/\(∀b∈fp,H' b=none)/\W i m σ' H':=λ{σ7 a} c y=>by
   obtain⟨m',hm,w7⟩:=hN σ7 a y;refine⟨m',hm,i+1,σ7,a,c.unpinned,T.keep _ _ _ t λb j o e=>(c.pin (b,o) (List.mem_append_right _ (List.mem_append_right _ (Y4 j e)))).1,λb j=>?_,w7⟩;obtain⟨o,e,d⟩:=T.obj _ _ t b j;exact(c.pin (b,o) (List.mem_append_right _ (List.mem_append_right _ (Y4 j e)))).2.1
  cases f with
  |next=>obtain⟨σ7,a,c,y⟩:=q;exact again c y
  |cont=>obtain⟨σ7,a,c,y⟩:=q;exact again c y
  |brk=>obtain⟨σ7,a,c,q⟩:=q;exact⟨σ7,a,c.unpinned,q⟩
  |ret v=>obtain⟨x7,σ7,a,c,r7,q⟩:=q;exact⟨x7,σ7,a,c.unpinned,r7,q⟩
end
theorem a1e{K:PySem.W.Frag}{a:Addr}{xs:List V}{g:TG}{tb:TS}{D:Ends}{σ:St}{H:Hp}(b:Nat->St->Hp->Prop)(h0:b 0 σ H)(f:∀i σ H,i<=xs.length->b i σ H->SqL K H a xs)
  (hs:∀i x σ H,xs[i]?=some x->b i σ H->g x σ H λσ2 H2=>tb {D with nx:=b (i+1),ct:=b (i+1),bk:=D.nx} σ2 H2) (hd:∀σ H,b xs.length σ H->D.nx σ H) :
  ∃W:Nat->Nat->St->Hp->Prop,(∃m,W 0 m σ H)/\∀i m σ H,W i m σ H ->
   ((Itl K a).stop i H/\D.nx σ H)∨((Itl K a).go i H/\∃N:St->Hp->Prop,(∀σ' H',N σ' H'->∃d,d<m/\W (i+1) d σ' H')/\∀x H',(Itl K a).yld i H x H'->g x σ H' λσ2 H2=>tb {D with nx:=N,ct:=N,bk:=D.nx} σ2 H2):=by
 refine⟨λi m σ H=>m=xs.length-i/\i<=xs.length/\b i σ H,⟨xs.length,by simp,Nat.zero_le _,h0⟩,?_⟩;rintro i m σ H ⟨rfl,hi,p⟩;have q:=f i σ H hi p;by_cases c:i<xs.length
 .refine .inr ⟨⟨xs,xs[i],q,by simp[c]⟩,b (i+1),λσ' H' p'=>⟨xs.length-(i+1),by omega,rfl,c,p'⟩,λx H' y=>?_⟩;obtain⟨e,y⟩:=y;subst e;exact hs i x σ _ (y xs q) p
 .have e:i=xs.length:=by omega
  subst e;exact .inl ⟨⟨xs,q,Nat.le_refl _⟩,hd σ H p⟩
theorem X5{lo:Int}{n:Nat}{g:TG}{tb:TS}{D:Ends}{σ:St}{H:Hp}(a:Nat->St->Hp->Prop)(h0:a 0 σ H)
  (hs:∀i σ H,i<n->a i σ H->g (.int (lo+i)) σ H λσ2 H2=>tb {D with nx:=a (i+1),ct:=a (i+1),bk:=D.nx} σ2 H2) (hd:∀σ H,a n σ H->D.nx σ H) :
  ∃W:Nat->Nat->St->Hp->Prop,(∃m,W 0 m σ H)/\∀i m σ H,W i m σ H ->
   ((Itr lo n).stop i H/\D.nx σ H)∨((Itr lo n).go i H/\∃N:St->Hp->Prop,(∀σ' H',N σ' H'->∃c,c<m/\W (i+1) c σ' H')/\∀x H',(Itr lo n).yld i H x H'->g x σ H' λσ2 H2=>tb {D with nx:=N,ct:=N,bk:=D.nx} σ2 H2):=by
 refine⟨λi m σ H=>m=n-i/\i<=n/\a i σ H,⟨n,by simp,Nat.zero_le _,h0⟩,?_⟩;rintro i m σ H ⟨rfl,hi,p⟩;by_cases b:i<n
 .refine .inr ⟨b,a (i+1),λσ' H' p'=>⟨n-(i+1),by omega,rfl,b,p'⟩,λx H' y=>?_⟩;obtain⟨e,y⟩:=y;subst e y;exact hs i σ _ b p
 .have e:i=n:=by omega
  subst e;exact .inl ⟨Nat.le_refl _,hd σ H p⟩
abbrev R2:=V->V->Hp->VK->Prop
def OpR(X:Cx)(f:Value->Value->Sem Value)(r:R2):Prop :=
 ∀(pins:List (Addr×Obj)) (s:Shared) (σ:St) (H:Hp) (x y:V) (v u:Value) (Q:VK),Inv X pins σ H s->RelV x v->RelV y u->r x y H Q ->
  wpAny (model X.prog X.w) X.A (f v u) (EP X pins σ Q) X.xe s
def UnR(X:Cx)(f:Value->Sem Value)(r:V->Hp->VK->Prop):Prop :=
 ∀(pins:List (Addr×Obj)) (s:Shared) (σ:St) (H:Hp) (x:V) (v:Value) (Q:VK),Inv X pins σ H s->RelV x v->r x H Q ->
  wpAny (model X.prog X.w) X.A (f v) (EP X pins σ Q) X.xe s
def K1(X:Cx)(f:Value)(r:List V->Hp->VK->Prop):Prop :=
 ∀(pins:List (Addr×Obj)) (s:Shared) (σ:St) (H:Hp) (xs:List V) (us:List Value) (Q:VK),Inv X pins σ H s->Vals xs us->r xs H Q ->
  wpAny (model X.prog X.w) X.A (call f us) (EP X pins σ Q) X.xe s
def b8W(X:Cx)(r:V->Hp->(Bool->Hp->Prop)->Prop):Prop :=
 ∀(pins:List (Addr×Obj)) (s:Shared) (σ:St) (H:Hp) (x:V) (v:Value) (Q:Bool->Hp->Prop),Inv X pins σ H s->RelV x v->r x H Q ->
  wpAny (model X.prog X.w) X.A (truthy v) (TP X pins σ Q) X.xe s
def tOp(r:R2)(ta tb:TE):TE:=λσ H Q=>ta σ H λx H1=>tb σ H1 λy H2=>r x y H2 Q
def tUn(r:V->Hp->VK->Prop)(ta:TE):TE:=λσ H Q=>ta σ H λx H1=>r x H1 Q
def rI(C:Int->Int->Prop)(g:Int->Int->V):R2:=λx y H Q=>∃i j,x=.int i/\y=.int j/\C i j/\Q (g i j) H
def rI0(g:Int->Int->V):R2:=λx y H Q=>∃i j,x=.int i/\y=.int j/\Q (g i j) H
def rU(g:Int->V):V->Hp->VK->Prop:=λx H Q=>∃i,x=.int i/\Q (g i) H
section
variable {X:Cx}{a b c:Expr}{ta tb tc:TE}{pos:Pos}
theorem b6M(g:PE X a ta)(i:PE X b tb){pins:List (Addr×Obj)}{s:Shared}{σ:St}{H:Hp}{R:V->V->Hp->Prop}(I:Inv X pins σ H s)
  (h:ta σ H λx H1=>tb σ H1 λy H2=>R x y H2) {Q:Value->Shared->Prop}{f:Value->Value->Sem Value}
  (j:∀v u c x y H2,Inv X pins σ H2 c->RelV x v->RelV y u->R x y H2->wpAny (model X.prog X.w) X.A (f v u) Q X.xe c) :
  wpAny (model X.prog X.w) X.A (eval a X.env) (λv s₁=>wpAny (model X.prog X.w) X.A (eval b X.env) (λu s₂=>wpAny (model X.prog X.w) X.A (f v u) Q X.xe s₂) X.xe s₁) X.xe s:=by
 refine thn (g pins s σ H _ I h) λv s1 ⟨x,H1,d,l,q1⟩=>?_;refine thn (i pins s1 σ H1 _ d q1) λu c ⟨y,H2,e,m,k⟩=>?_;exact j v u c x y H2 e l m k
theorem X2{c:Operator}{r:R2}(g:OpR X (binaryOp c) r)(e:PE X a ta)(f:PE X b tb):PE X (.BinOp a c b pos) (tOp r ta tb):=by
 intro pins s σ H Q I h;exact wpAny_BinOp (b6M e f I h λv u k x y H2 d i j q=>g pins k σ H2 x y v u Q d i j q)
theorem b8a{b:UnaryOp}{r:V->Hp->VK->Prop}(e:UnR X (unaryOp b) r)(d:PE X a ta):PE X (.UnaryOp b a pos) (tUn r ta):=by
 intro pins s σ H Q I h;exact UnaryOp_ (thn (d pins s σ H _ I h) λv s1 ⟨x,H1,c,f,q1⟩=>e pins s1 σ H1 x v Q c f q1)
theorem opI{f:Value->Value->Sem Value}{C:Int->Int->Prop}{g:Int->Int->Int}
  (rule:∀(i j:Int) (t u:Tok) (s:Shared) (Q:Value->Shared->Prop) (E:Value->Shared->Prop),C i j->Q (.int (g i j) s.toks) {s with toks:=s.toks+1}->wpAny (model X.prog X.w) X.A (f (.int i t) (.int j u)) Q E s) :
  OpR X f (rI C λi j=>.int (g i j)):=by
 intro pins s σ H x y v u Q I b c h;obtain⟨i,j,rfl,rfl,a,q⟩:=h;obtain⟨t,rfl⟩:=b;obtain⟨t',rfl⟩:=c;exact rule i j t t' s _ _ a ⟨.int (g i j),H,I.tok _,⟨_,rfl⟩,q⟩
theorem b8j{f:Value->Value->Sem Value}{g:Int->Int->Int}
  (rule:∀(i j:Int) (t u:Tok) (s:Shared) (Q:Value->Shared->Prop) (E:Value->Shared->Prop),Q (.int (g i j) s.toks) {s with toks:=s.toks+1}->wpAny (model X.prog X.w) X.A (f (.int i t) (.int j u)) Q E s) :
  OpR X f (rI0 λi j=>.int (g i j)):=by
 intro pins s σ H x y v u Q I a b h;obtain⟨i,j,rfl,rfl,q⟩:=h;obtain⟨t,rfl⟩:=a;obtain⟨t',rfl⟩:=b;exact rule i j t t' s _ _ ⟨.int (g i j),H,I.tok _,⟨_,rfl⟩,q⟩
theorem b2C{f:Value->Value->Sem Value}{g:Int->Int->Bool}
  (rule:∀(i j:Int) (t u:Tok) (s:Shared) (Q:Value->Shared->Prop) (E:Value->Shared->Prop),Q (.bool (g i j)) s->wpAny (model X.prog X.w) X.A (f (.int i t) (.int j u)) Q E s) :
  OpR X f (rI0 λi j=>.bl (g i j)):=by
 intro pins s σ H x y v u Q I a b h;obtain⟨i,j,rfl,rfl,q⟩:=h;obtain⟨t,rfl⟩:=a;obtain⟨t',rfl⟩:=b;exact rule i j t t' s _ _ ⟨.bl (g i j),H,I,rfl,q⟩
def b8B(i j:Int):Prop:=0<j/\j<1073741824
def b8A(i j:Int):Prop:=0<=j/\j<=1000000/\i.natAbs<2 ^ 64
def CMul(i j:Int):Prop:=(-(2 ^ 64)<i/\i<2 ^ 64)∨(-(2 ^ 64)<j/\j<2 ^ 64)
theorem CMul.ok{i j:Int}(h:CMul i j):IntMulOk i j:=by
 rcases h with⟨h1,h2⟩|⟨h1,h2⟩
 .exact .of_left (intBits_le_64 h1 h2)
 .exact .of_right (intBits_le_64 h1 h2)
theorem b5Z:OpR X (binaryOp .Add) (rI0 λi j=>.int (i+j)):=b8j λ_ _ _ _ _ _ _ q=>add_int q
theorem b5M:OpR X (binaryOp .Sub) (rI0 λi j=>.int (i-j)):=b8j λ_ _ _ _ _ _ _ q=>sub_int q
theorem b5R:OpR X (binaryOp .Mult) (rI CMul λi j=>.int (i*j)):=opI λ_ _ _ _ _ _ _ a q=>mul_int q a.ok
theorem b2A:OpR X (binaryOp .FloorDiv) (rI b8B λi j=>.int (i / j)):=opI λi j _ _ _ _ _ a q=>by
 have h1:(0:Int)<j:=a.1;have h2:j<1073741824:=a.2;exact floordiv_int (by omega) (by rw[Int.fdiv_eq_ediv_of_nonneg i (by omega)];exact q) (.inl (PyProof.noPylong_small (by omega)))
theorem b5S:OpR X (binaryOp .Mod) (rI (λ_ j=>0<j) λi j=>.int (i % j)):=opI λi j _ _ _ _ _ a q=>by
 have h1:(0:Int)<j:=a;exact mod_int' (by omega) (by rw[Int.fmod_eq_emod_of_nonneg i (by omega)];exact q)
theorem b5O:OpR X (binaryOp .Pow) (rI b8A λi j=>.int (i ^ j.toNat)):=opI λ_ _ _ _ _ _ _ a q=>pow_int_small a.1 a.2.1 a.2.2 q
theorem unI{f:Value->Sem Value}{g:Int->Int}
  (rule:∀(i:Int) (t:Tok) (s:Shared) (Q:Value->Shared->Prop) (E:Value->Shared->Prop),Q (.int (g i) s.toks) {s with toks:=s.toks+1}->wpAny (model X.prog X.w) X.A (f (.int i t)) Q E s) :
  UnR X f (rU λi=>.int (g i)):=by
 intro pins s σ H x v Q I a h;obtain⟨i,rfl,q⟩:=h;obtain⟨t,rfl⟩:=a;exact rule i t s _ _ ⟨.int (g i),H,I.tok _,⟨_,rfl⟩,q⟩
theorem b4Q:UnR X (unaryOp .USub) (rU λi=>.int (-i)):=unI λ_ _ _ _ _ q=>neg_int q
end
noncomputable def b7K:V->V->Bool
 |.non,.non=>true | .non,.int _=>true | .int _,.non=>true | .non,.bl _=>true | .bl _,.non=>true | .non,.str _=>true | .str _,.non=>true
 |.int _,.int _=>true | .bl _,.bl _=>true | .str _,.str _=>true | .byt _,.byt _=>true
 |.int _,.str _=>true | .str _,.int _=>true | .bl _,.str _=>true | .str _,.bl _=>true
 |_,_=>false
def rEq:R2:=λx y H Q=>b7K x y=true/\Q (.bl (decide (x=y))) H
def rNe:R2:=λx y H Q=>b7K x y=true/\Q (.bl (!decide (x=y))) H
theorem a7j{i j:Int}:decide (V.int i=V.int j)=(i==j):=by
 rw[Bool.eq_iff_iff];simp
theorem b1e{i j:Bool}:decide (V.bl i=V.bl j)=(i==j):=by
 rw[Bool.eq_iff_iff];simp
theorem a7i{i j:Str}:decide (V.str i=V.str j)=(i==j):=by
 rw[Bool.eq_iff_iff];simp
theorem a7k{i j:Array UInt8}:decide (V.byt i=V.byt j)=(i.toList==j.toList):=by
 rw[Bool.eq_iff_iff];cases i;cases j;simp
section
variable {X:Cx}{a b c:Expr}{ta tb tc:TE}{pos:Pos}
theorem D0{pins:List (Addr×Obj)}{σ:St}{H:Hp}{s:Shared}{Q:VK}{k k':Bool}(I:Inv X pins σ H s)(q:Q (.bl k) H)(e:k=k'):EP X pins σ Q (.bool k') s:=by
 subst e;exact⟨.bl k,H,I,rfl,q⟩
theorem b4g:OpR X (compareOp .Eq) rEq:=by
 intro pins s σ H x y v u Q I b a h;obtain⟨hs,q⟩:=h;cases x with
 |non =>
  cases b;cases y with
  |non=>cases a;exact PySem.EqNone.eq_none_none (D0 I q (by simp))
  |bl j=>cases a;exact PySem.EqNone.eq_none_bool (D0 I q (by simp))
  |int j=>obtain⟨t',rfl⟩:=a;exact PySem.EqNone.eq_none_int (D0 I q (by simp))
  |str j=>obtain⟨t',rfl⟩:=a;exact PySem.EqNone.eq_none_str (D0 I q (by simp))
  |_=>exact absurd (show false=true from hs) Bool.false_ne_true
 |bl i =>
  cases b;cases y with
  |non=>cases a;exact PySem.EqNone.eq_bool_none (D0 I q (by simp))
  |bl j=>cases a;exact eq_bool (D0 I q b1e)
  |str j=>obtain⟨t',rfl⟩:=a;exact PySem.EqMixed.eq_bool_str (D0 I q (by simp))
  |_=>exact absurd (show false=true from hs) Bool.false_ne_true
 |int i =>
  obtain⟨t,rfl⟩:=b;cases y with
  |non=>cases a;exact PySem.EqNone.eq_int_none (D0 I q (by simp))
  |int j=>obtain⟨t',rfl⟩:=a;exact eq_int (D0 I q a7j)
  |str j=>obtain⟨t',rfl⟩:=a;exact PySem.EqMixed.eq_int_str (D0 I q (by simp))
  |_=>exact absurd (show false=true from hs) Bool.false_ne_true
 |str i =>
  obtain⟨t,rfl⟩:=b;cases y with
  |non=>cases a;exact PySem.EqNone.eq_str_none (D0 I q (by simp))
  |bl j=>cases a;exact PySem.EqMixed.eq_str_bool (D0 I q (by simp))
  |int j=>obtain⟨t',rfl⟩:=a;exact PySem.EqMixed.eq_str_int (D0 I q (by simp))
  |str j=>obtain⟨t',rfl⟩:=a;exact eq_str (D0 I q a7i)
  |_=>exact absurd (show false=true from hs) Bool.false_ne_true
 |byt i =>
  obtain⟨t,rfl⟩:=b;cases y with
  |byt j=>obtain⟨t',rfl⟩:=a;exact PySem.W.eq_bytes (D0 I q a7k)
  |_=>exact absurd (show false=true from hs) Bool.false_ne_true
 |_=>cases y<;>exact absurd (show false=true from hs) Bool.false_ne_true
theorem b4f:OpR X (compareOp .NotEq) rNe:=by
 intro pins s σ H x y v u Q I b a h;obtain⟨hs,q⟩:=h;cases x with
 |non =>
  cases b;cases y with
  |non=>cases a;exact PySem.EqNone.ne_none_none (D0 I q (by simp))
  |bl j=>cases a;exact PySem.EqNone.ne_none_bool (D0 I q (by simp))
  |int j=>obtain⟨t',rfl⟩:=a;exact PySem.EqNone.ne_none_int (D0 I q (by simp))
  |str j=>obtain⟨t',rfl⟩:=a;exact PySem.EqNone.ne_none_str (D0 I q (by simp))
  |_=>exact absurd (show false=true from hs) Bool.false_ne_true
 |bl i =>
  cases b;cases y with
  |non=>cases a;exact PySem.EqNone.ne_bool_none (D0 I q (by simp))
  |bl j=>cases a;exact ne_bool (D0 I q (congrArg not b1e))
  |str j=>obtain⟨t',rfl⟩:=a;exact PySem.EqMixed.ne_bool_str (D0 I q (by simp))
  |_=>exact absurd (show false=true from hs) Bool.false_ne_true
 |int i =>
  obtain⟨t,rfl⟩:=b;cases y with
  |non=>cases a;exact PySem.EqNone.ne_int_none (D0 I q (by simp))
  |int j=>obtain⟨t',rfl⟩:=a;exact ne_int (D0 I q (congrArg not a7j))
  |str j=>obtain⟨t',rfl⟩:=a;exact PySem.EqMixed.ne_int_str (D0 I q (by simp))
  |_=>exact absurd (show false=true from hs) Bool.false_ne_true
 |str i =>
  obtain⟨t,rfl⟩:=b;cases y with
  |non=>cases a;exact PySem.EqNone.ne_str_none (D0 I q (by simp))
  |bl j=>cases a;exact PySem.EqMixed.ne_str_bool (D0 I q (by simp))
  |int j=>obtain⟨t',rfl⟩:=a;exact PySem.EqMixed.ne_str_int (D0 I q (by simp))
  |str j=>obtain⟨t',rfl⟩:=a;exact ne_str (D0 I q (congrArg not a7i))
  |_=>exact absurd (show false=true from hs) Bool.false_ne_true
 |byt i =>
  obtain⟨t,rfl⟩:=b;cases y with
  |byt j=>obtain⟨t',rfl⟩:=a;exact PySem.W.ne_bytes (D0 I q (congrArg not a7k))
  |_=>exact absurd (show false=true from hs) Bool.false_ne_true
 |_=>cases y<;>exact absurd (show false=true from hs) Bool.false_ne_true
theorem b8g:OpR X (compareOp .Lt) (rI0 λi j=>.bl (decide (i<j))):=b2C λ_ _ _ _ _ _ _ q=>lt_int q
theorem a4T:OpR X (compareOp .LtE) (rI0 λi j=>.bl (decide (i<=j))):=b2C λ_ _ _ _ _ _ _ q=>le_int q
theorem b8h:OpR X (compareOp .Gt) (rI0 λi j=>.bl (decide (j<i))):=b2C λ_ _ _ _ _ _ _ q=>gt_int q
theorem b8i:OpR X (compareOp .GtE) (rI0 λi j=>.bl (decide (j<=i))):=b2C λ_ _ _ _ _ _ _ q=>ge_int q
theorem b5T:OpR X (compareOp .Is) (λx y H Q=>y=.non/\Q (.bl (decide (x=.non))) H):=by
 intro pins s σ H x y v u Q I a b h;obtain⟨rfl,q⟩:=h;cases b;refine is_none_gen (D0 I q ?_);cases x<;>first
  |(cases a;rfl)
  |(obtain⟨t,rfl⟩:=a;rfl)
theorem P0(b:Expr){a:CmpOp}(h:a≠.In:=by decide)(h2:a≠.NotIn:=by decide):behindInMarks a b=false:=by
 have e1:(a==CmpOp.In)=false:=by cases a<;>first|rfl|exact absurd rfl h
 have e2:(a==CmpOp.NotIn)=false:=by cases a<;>first|rfl|exact absurd rfl h2
 cases b with
 |Set elts k p=>show(k==0 && (a==CmpOp.In || a==CmpOp.NotIn) && elts.all (constantsAlone 8))=false;rw[e1,e2,Bool.or_false,Bool.and_false,Bool.false_and]
 |_=>rfl
theorem a1L{c:CmpOp}{r:R2}(i:OpR X (compareOp c) r)(e:PE X a ta)(f:PE X b tb)(g:behindInMarks c b=false):PE X (.Compare a [c] [b] pos) (tOp r ta tb):=by
 intro pins s σ H Q I h;exact wpAny_Compare1 (b6M e f I h λv u l x y H2 d j k q=>i pins l σ H2 x y v u Q d j k q) g
def O7(t:TE):TT:=λσ H Q=>t σ H λx H'=>∃k,x=.bl k/\Q k H'
theorem M6{d:CmpOp}{r:R2}(o:OpR X (compareOp d) r)(l:PE X a ta)(m:PE X b tb)(n:behindInMarks d b=false):PT X (.Compare a [d] [b] pos) (O7 (tOp r ta tb)):=by
 intro pins s σ H Q I h;refine wpAny_isTrue_Compare1 (thn (l pins s σ H _ I h) λv s1 ⟨x,H1,g,t,q1⟩=>thn (m pins s1 σ H1 _ g q1) λu B ⟨y,H2,i,w,p⟩ =>
  thn (o pins B σ H2 x y v u _ i t w p) λc C ⟨z,f,j,A,k,e,q⟩=>?_) n
 subst e;cases A;exact wpAny_truthy_bool ⟨f,j,q⟩
def a3O(r r':R2)(ta tb tc:TE):TE:=λσ H Q=>ta σ H λx H1=>tb σ H1 λy H2=>r x y H2 λz H3=>∃k,z=.bl k /\
 (if k=true then tc σ H3 λw' H4=>r' y w' H4 Q else Q (.bl false) H3)
theorem a9V{i f:CmpOp}{r n:R2}(E:OpR X (compareOp i) r)(g:OpR X (compareOp f) n)(A:PE X a ta)(B:PE X b tb)(C:PE X c tc)
  (D:lastMarks [i,f] [b,c]=false:=by with_unfolding_all rfl):PE X (.Compare a [i,f] [b,c] pos) (a3O r n ta tb tc):=by
 intro pins s σ H Q I h;refine Compare_chain (thn (A pins s σ H _ I h) λv s1 ⟨x,H1,q,J,q1⟩=>chain_link (thn (B pins s1 σ H1 _ q q1) λu M ⟨y,H2,t,o,F⟩ =>
  thn (E pins M σ H2 x y v u _ t J o F) λd N ⟨z,j,l,K,k,e,m⟩=>?_)) D
 subst e;cases K;refine wpAny_truthy_bool ?_;cases k with
 |false=>exact ite_ff ⟨.bl false,j,l,rfl,m⟩
 |true=>exact ite_tt (chain_last (thn (C pins N σ j _ l m) λP O ⟨R,p,w,L,G⟩=>g pins O σ p y R u P Q w o L G))
theorem a9D{i f:CmpOp}{r n:R2}(G:OpR X (compareOp i) r)(g:OpR X (compareOp f) n)(C:PE X a ta)(D:PE X b tb)(E:PE X c tc)
  (F:lastMarks [i,f] [b,c]=false:=by with_unfolding_all rfl):PT X (.Compare a [i,f] [b,c] pos) (O7 (a3O r n ta tb tc)):=by
 intro pins s σ H Q I h;refine isTrue_chain (thn (C pins s σ H _ I h) λv s1 ⟨x,H1,t,N,q1⟩=>test_link (thn (D pins s1 σ H1 _ t q1) λu S ⟨y,H2,w,o,K⟩ =>
  thn (G pins S σ H2 x y v u _ w N o K) λd T ⟨z,j,l,O,k,e,m⟩=>?_)) F
 subst e;cases O;refine wpAny_truthy_bool ?_;cases k with
 |false =>
  obtain⟨k',e',J⟩:=m;cases e';exact ite_ff ⟨j,l,J⟩
 |true =>
  refine ite_tt (test_last (thn (E pins T σ j _ l m) λV U ⟨W,p,A,P,L⟩=>thn (g pins U σ p y W u V _ A o P L) λY Z ⟨z2,q,B,R,k2,e2,M⟩=>?_));subst e2;cases R;exact wpAny_truthy_bool ⟨q,B,M⟩
def b6V(K:PySem.W.Frag)(x:V)(H:Hp)(k:Bool):Prop :=
 match x with
 |.non=>k=false
 |.bl b=>k=b
 |.int i=>k=(i != 0)
 |.str y=>y.length<=sizeLine/\k=((y.length:Int) != 0)
 |.byt y=>y.size<=sizeLine/\k=((y.size:Int) != 0)
 |.ref p=>(∃xs,SqL K H p xs/\k=!xs.isEmpty)∨(∃xs,SqT K H p xs/\k=!xs.isEmpty)∨∃kvs,H p=some (.dK kvs)/\k=!kvs.isEmpty
 |_=>False
theorem a6g{κ:Type}{kvs:List (κ×V)}{vs:List (κ×Value)}(r:KV kvs vs):(!vs.isEmpty)=!kvs.isEmpty:=by
 cases r<;>rfl
theorem a2y{xs:List V}{a:List Value}(r:Vals xs a):(!a.toArray.isEmpty)=!xs.isEmpty:=by
 cases r<;>simp
theorem Z9:(sizeLine:Nat)<2 ^ 63:=by rw[sizeLine_eq];decide
theorem b4T:b8W X (λx H Q=>∃k,b6V X.K x H k/\Q k H):=by
 intro pins s σ H x v Q I c h;obtain⟨k,e,q⟩:=h;have n:=Z9;have hs:sizeLine=16777216:=sizeLine_eq;cases x with
 |non =>
  cases c;have e':k=false:=e;subst e';exact truthy_none ⟨H,I,q⟩
 |bl b =>
  cases c;have e':k=b:=e;subst e';exact wpAny_truthy_bool ⟨H,I,q⟩
 |int i =>
  obtain⟨t,rfl⟩:=c;have e':k=(i != 0):=e;subst e';exact PySem.P.truthy_int ⟨H,I,q⟩
 |str y =>
  obtain⟨t,rfl⟩:=c;obtain⟨l,e'⟩:y.length<=sizeLine/\k=((y.length:Int) != 0):=e;subst e';exact PySem.P.truthy_str (by omega) ⟨H,I.tok _,q⟩
 |byt y =>
  obtain⟨t,rfl⟩:=c;obtain⟨l,e'⟩:y.size<=sizeLine/\k=((y.size:Int) != 0):=e;subst e';exact PySem.W.truthy_bytes (by omega) ⟨H,I.tok _,q⟩
 |ref p =>
  cases c;have e':(∃xs,SqL X.K H p xs/\k=!xs.isEmpty)∨(∃xs,SqT X.K H p xs/\k=!xs.isEmpty)∨∃kvs,H p=some (.dK kvs)/\k=!kvs.isEmpty:=e;rcases e' with⟨xs,d,e'⟩|⟨xs,d,e'⟩|⟨kvs,d,e'⟩
  .subst e';obtain⟨f,r,pl,g⟩:=I.list d;have a:=r.length;exact wpAny_truthy_list pl.isList (by simp only[List.size_toArray];omega) ⟨H,I.tok _,by rw[a2y r];exact q⟩
  .subst e';obtain⟨f,r,pl,g⟩:=I.tuple d;have a:=r.length;exact truthy_tuple pl (by simp only[List.size_toArray];omega) ⟨H,I.tok _,by rw[a2y r];exact q⟩
  .subst e';obtain⟨g,j,vs,r,m⟩:kvs.length<=sizeLine/\(p==sysModules)=false/\∃vs,KV kvs vs/\s.heap.DictOf (G4 X.prog X.w) p vs:=I.hok p _ d;have a:kvs.length=vs.length:=Paired.length r;exact wpAny_truthy_dict j m (by omega) ⟨H,I.tok _,by rw[a6g r];exact q⟩
 |_=>exact(show False from e).elim
theorem a9C(d:PE X a ta)(e:∀b,isTrue a X.env b=(do let v <-b;standAt a.pos;holding [v] (truthy v))) :
  PT X a (λσ H Q=>ta σ H λx H'=>∃k,b6V X.K x H' k/\Q k H'):=by
 intro pins s σ H Q I h;exact isTrue_plain (thn (d pins s σ H _ I h) λv s1 ⟨x,H1,c,f,q1⟩=>b4T pins s1 σ H1 x v Q c f q1) (e _)
theorem a5T:OpR X (binaryOp .Add) (λx y H Q=>∃i j,x=.str i/\y=.str j/\i.length+j.length<=sizeLine/\Q (.str (i++j)) H):=by
 intro pins s σ H x y v u Q I b c h;obtain⟨i,j,rfl,rfl,a,q⟩:=h;obtain⟨t,rfl⟩:=b;obtain⟨t',rfl⟩:=c;exact add_str (λt' tk=>⟨.str (i++j),H,I.tok _,⟨_,rfl⟩,q⟩) a
theorem a1t{x:V}{us:List Value}(r:Vals [x] us):∃u,us=[u]/\RelV x u:=by
 cases r with
 |cons r1 r2=>cases r2;exact⟨_,rfl,r1⟩
theorem b7f{x y:V}{us:List Value}(r:Vals [x,y] us):∃u a,us=[u,a]/\RelV x u/\RelV y a:=by
 cases r with
 |cons r1 r2 =>
  cases r2 with
  |cons r3 r4=>cases r4;exact⟨_,_,rfl,r1,r3⟩
theorem a8q(b:X.calm=true):K1 X (.builtin "min") (λxs H Q=>∃i j,xs=[.int i,.int j]/\Q (.int (if j<i then j else i)) H):=by
 intro pins s σ H xs c Q I r h;obtain⟨i,j,rfl,q⟩:=h;obtain⟨u,d,rfl,⟨t,rfl⟩,⟨t',rfl⟩⟩:=b7f r;refine min_two_ints (I.ok.hd b) λh' tk k=>⟨_,H,I.kept k,?_,q⟩;by_cases a:j<i
 .rw[if_pos a,if_pos a];exact⟨_,rfl⟩
 .rw[if_neg a,if_neg a];exact⟨_,rfl⟩
theorem a8x:K1 X (.type "int") (λxs H Q=>(∃i,xs=[.int i]/\Q (.int i) H)∨∃k,xs=[.bl k]/\Q (.int (if k then 1 else 0)) H):=by
 intro pins s σ H xs a Q I r h;rcases h with⟨i,rfl,q⟩|⟨k,rfl,q⟩
 .obtain⟨u,rfl,t,rfl⟩:=a1t r;exact call_int_int ⟨.int i,H,I,⟨_,rfl⟩,q⟩
 .obtain⟨u,rfl,r1⟩:=a1t r;cases r1;exact call_int_bool ⟨.int (if k then 1 else 0),H,I.tok _,⟨_,rfl⟩,q⟩
theorem a4w:K1 X (.type "str") (λxs H Q=>∃i,xs=[.int i]/\i.natAbs.log2<1920/\Q (.str (toString i)) H):=by
 intro pins s σ H xs b Q I r h;obtain⟨i,rfl,a,q⟩:=h;obtain⟨u,rfl,t,rfl⟩:=a1t r;exact PySem.P.str_of_int a ⟨.str _,H,I.tok _,⟨_,rfl⟩,q⟩
end
structure ObjM(h:Heap)(x dx C:Addr)(mA:Str->Option Value):Prop where
 obj:h.get? x=some (PySem.W.instObj C dx)
 ns:h.Ns1 dx mA
 ne:dx≠x
theorem a7S{h:Heap}{dx:Addr}{mA:Str->Option Value}(n:h.Ns1 dx mA):∃od,h.get? dx=some od/\∀name,PySem.W.lookIn name od=some (mA name):=by
 obtain⟨o,es,ep,g,hd,d,_,f⟩:=n;refine⟨o,g,λname=>?_⟩;have e:=f name;unfold nsFind findBy at e;rw[<-Array.find?_toList]at e;unfold PySem.W.lookIn;rw[hd];dsimp only;split
 .rename_i y q;rw[q]at e;exact congrArg some e
 .rename_i q;rw[q]at e;have a:es.toList.any (·.refKey)=false:=by
   rw[List.any_eq_false];intro y i;obtain⟨z,t,b⟩:=d y (Array.mem_toList_iff.mp i);simp[DictEntry.refKey,b]
  have c:¬es.toList.any (·.refKey)=true:=by rw[a];exact Bool.false_ne_true
  rw[if_neg c];exact congrArg some e
theorem ObjM.look{h:Heap}{x dx C:Addr}{mA:Str->Option Value}(I:ObjM h x dx C mA):∃od,PySem.W.InstAt h x (PySem.W.instObj C dx) C (some od)/\∀name,PySem.W.lookIn name od=some (mA name) :=
 let ⟨od,ho,hl⟩:=a7S I.ns
 ⟨od,⟨I.obj,rfl,rfl,ho⟩,hl⟩
section
variable {prog:Program}{w:World}{A:Around}{E:Value->Shared->Prop}{s:Shared}{K:PySem.W.Frag}{x dx C f:Addr}{mA:Str->Option Value}{name:Str}{v:Value}
theorem b3o{a:Bool}{Q:Value->Shared->Prop}(X:K.In s.heap)(I:ObjM s.heap x dx C mA)(d:PySem.W.plainGet K C name=true)(e:PySem.W.hasDictIn K C=true)
  (c:PySem.W.findIn K (.ref C) name=some none) (g:mA name=some v) (b:PySem.W.handedIn v=true) (h:Q v {s with toks:=s.toks+1}) :
  wpAny (model prog w) A (getAttr (.ref x) name a) Q E s:=by
 obtain⟨od,J,f⟩:=I.look;exact PySem.W.get_value X J (PySem.W.plainGet_of d).1 (PySem.W.findObj_own e c rfl (by rw[f,g])) b h
theorem b0O{pl:Sem Bool}{Q:Value×List Value->Shared->Prop}(X:K.In s.heap)(I:ObjM s.heap x dx C mA)(a:PySem.W.plainGet K C name=true)
  (b:PySem.W.findIn K (.ref C) name=some (some (.ref f))) (d:PySem.W.isFn K (.ref f)=true) (e:mA name=none) (h:Q (.ref f,[.ref x]) s) :
  wpAny (model prog w) A (getMethod (.ref x) name pl) Q E s:=by
 obtain⟨od,J,c⟩:=I.look;exact PySem.W.method_fn X J (PySem.W.plainGet_of a).1 (PySem.W.plainGet_of a).2 b (beq_iff_eq.mp d) (by show(PySem.W.lookIn name od).map (·.isSome)=some false;rw[c,e];rfl) h
theorem b1I{ns:List Str}{Q:Unit->Shared->Prop}(X:K.In s.heap)(I:ObjM s.heap x dx C mA)
  (hs:PySem.W.findIn K (.ref C) "__setattr__"=some (some (.builtin "object.__setattr__"))) (hp:PySem.W.plainOver K C=true) (n:PySem.W.takerIn K C name=some none) (m:PySem.W.hasDictIn K C=true)
  (hw:PySem.Within mA ns) (hsz:ns.length<=sizeLine)
  (h:∀h',ObjM h' x dx C (λy=>if y=name then some v else mA y)->Heap.SameBut dx s.heap h'->Q () {s with heap:=h',toks:=s.toks+2}) :
  wpAny (model prog w) A (setAttr (.ref x) name v) Q E s:=by
 obtain⟨od,J,p⟩:=I.look;refine PySem.W.set_plain X J hs (PySem.W.osa_open (s:={s with toks:=s.toks+1}) (r:=none) X J hp n λb=>?_);obtain⟨cd,l,f⟩:=PySem.W.any_some m;have o:s.heap.get? x=some ⟨.ref C,some dx,.plain,#[]⟩:=I.obj;refine wpAny_bind (wpAny_pure (wpAny_bind (wpAny_bind (wpAny_loadPart o (wpAny_bind (PySem.W.Looks.here (s:={s with toks:=s.toks+1}) (PySem.W.looks_clsIn X l) ?_))))));rw[f];refine wpAny_pure (a:=some dx) (wpAny_bind (wpAny_pure (wpAny_bind ?_)));refine wpAny_nsSet1 (s:={s with toks:=s.toks+1}) I.ns λh' c d=>?_;obtain⟨q,k,j,i,g,e⟩:=c.count (PySem.Within.cons name v hw);refine wpAny_bind (wpAny_lookBehind i (by rw[g];exact pastItsLine_dict (Nat.le_trans e (by rw[List.length_cons];omega))) ?_);exact wpAny_pure (h _ ⟨(d.2 _ (Ne.symm I.ne)).trans I.obj,c,I.ne⟩ d)
theorem b0p{R:Result->Shared->Prop}{vs:List Value}{kw:List (Str×Value)}(X:K.In s.heap)(b:PySem.W.makesIn K C=true)
  (hi:PySem.W.findIn K (.ref C) "__init__"=some (some (.ref f))) (a:PySem.W.typeIn K (.ref f)=some (.type "function"))
  (h:codeAny (model prog w) (A.under (.builtin "type.__call__" ⟨.ref C::vs,kw⟩)) (.call (.ref f) ⟨.ref (s.heap.objs.size+1)::vs,kw⟩) (PySem.W.InitBack (s.heap.objs.size+1) R)
   {s with heap:=(s.heap.push PySem.W.emptyDict).push (PySem.W.instObj C s.heap.objs.size)}) :
  codeAny (model prog w) A (.call (.ref C) ⟨vs,kw⟩) R s:=by
 obtain⟨c,g,d,t,os⟩:=s;exact PySem.W.make_core (PySem.W.makes_of X b) (PySem.W.looks_findIn X hi) (λself=>PySem.W.bind_fn X self a) (.inl rfl) h
end
noncomputable def K7(f:Str)(v:V):List (Str×V)->List (Str×V)
 |[]=>[(f,v)]
 |(g,x)::r=>if g=f then(g,v)::r else(g,x)::K7 f v r
theorem a1u(f g:Str)(v:V):∀fs:List (Str×V),(K7 f v fs).lookup g=if g=f then some v else fs.lookup g
 |[]=>by
  show List.lookup g [(f,v)]=_;by_cases h:g=f
  .have hb:(g==f)=true:=beq_iff_eq.mpr h;simp only[List.lookup,hb,if_pos h]
  .have hb:(g==f)=false:=beq_eq_false_iff_ne.mpr h;simp only[List.lookup,hb,if_neg h]
 |(k,x)::r=>by
  have b:=a1u f g v r;rw[show K7 f v ((k,x)::r)=(if k=f then(k,v)::r else(k,x)::K7 f v r)from rfl];by_cases a:k=f
  .rw[if_pos a];by_cases h:g=k
   .have hb:(g==k)=true:=beq_iff_eq.mpr h;simp only[List.lookup,hb,if_pos (h.trans a)]
   .have hb:(g==k)=false:=beq_eq_false_iff_ne.mpr h;simp only[List.lookup,hb,if_neg (λe:g=f=>h (e.trans a.symm))]
  .rw[if_neg a];by_cases h:g=k
   .have hb:(g==k)=true:=beq_iff_eq.mpr h;simp only[List.lookup,hb,if_neg (λe:g=f=>a (h.symm.trans e))]
   .have hb:(g==k)=false:=beq_eq_false_iff_ne.mpr h;simp only[List.lookup,hb];exact b
theorem a1m(f:Str)(v:V):∀fs:List (Str×V),f∈(K7 f v fs).map (·.1)/\∀g,g∈fs.map (·.1)->g∈(K7 f v fs).map (·.1)
 |[]=>⟨by simp[K7],λg h=>by simp at h⟩
 |(k,x)::r=>by
  obtain⟨b,c⟩:=a1m f v r;rw[show K7 f v ((k,x)::r)=(if k=f then(k,v)::r else(k,x)::K7 f v r)from rfl];by_cases a:k=f
  .rw[if_pos a];subst a;exact⟨by simp,λg h=>by simpa using h⟩
  .rw[if_neg a];refine⟨?_,λg h=>?_⟩
   .rw[List.map_cons];exact List.mem_cons_of_mem _ b
   .rw[List.map_cons]at h⊢;rcases List.mem_cons.mp h with e|e
    .exact List.mem_cons.mpr (.inl e)
    .exact List.mem_cons_of_mem _ (c g e)
theorem a1v(f:Str)(v:V):∀fs:List (Str×V),(K7 f v fs).length<=fs.length+1
 |[]=>by simp[K7]
 |(k,x)::r=>by
  have b:=a1v f v r;rw[show K7 f v ((k,x)::r)=(if k=f then(k,v)::r else(k,x)::K7 f v r)from rfl];by_cases a:k=f
  .rw[if_pos a,List.length_cons,List.length_cons];omega
  .rw[if_neg a,List.length_cons,List.length_cons];omega
theorem RelO.some_of{v:V}{o:Option Value}(r:RelO (some v) o):∃u,o=some u/\RelV v u:=by
 cases o with
 |none=>exact(show False from r).elim
 |some u=>exact⟨u,rfl,r⟩
theorem RelO.none_of{o:Option Value}(r:RelO none o):o=none:=by
 cases o with
 |none=>rfl
 |some u=>exact(show False from r).elim
theorem a3t{v:V}{u:Value}(r:RelV v u):PySem.W.handedIn u=true:=by
 cases v with
 |non=>cases(show u=Value.none from r);rfl
 |bl b=>cases(show u=Value.bool b from r);rfl
 |int i=>obtain⟨t,e⟩:=(show ∃t,u=Value.int i t from r);cases e;rfl
 |str x=>obtain⟨t,e⟩:=(show ∃t,u=Value.str x t from r);cases e;rfl
 |byt b=>obtain⟨t,e⟩:=(show ∃t,u=Value.bytes b t from r);cases e;rfl
 |flt b=>obtain⟨t,e⟩:=(show ∃t,u=Value.float b t from r);cases e;rfl
 |ref a=>cases(show u=Value.ref a from r);rfl
 |ty n=>cases(show u=Value.type n from r);rfl
section
variable {P:Program}{w:World}{H H':Hp}{h h':Heap}{a C dx:Addr}{fs fs':List (Str×V)}
theorem a1O(b:HOk P w H h)(e:H a=some (.ins C dx fs)):∃mA,ObjM h a dx C mA/\(∀f,RelO (fs.lookup f) (mA f))/\PySem.Within mA (fs.map (·.1))/\fs.length<=1000/\H dx=some (.own a):=by
 obtain⟨d,z,ne,c,mA,n,r,q⟩:=(show ObjOk P w H h a (.ins C dx fs)from b a _ e);exact⟨mA,⟨c,n,ne⟩,r,q,z,d⟩
end
structure Cls(K:PySem.W.Frag)(C:Addr):Prop where
 pg:PySem.W.plainGet K C Str.empty=true
 hd:PySem.W.hasDictIn K C=true
 po:PySem.W.plainOver K C=true
 sa:PySem.W.findIn K (.ref C) "__setattr__"=some (some (.builtin "object.__setattr__"))
theorem Cls.get{K:PySem.W.Frag}{C:Addr}(c:Cls K C)(f:Str):PySem.W.plainGet K C f=true:=c.pg
def NoAttr(K:PySem.W.Frag)(C:Addr)(f:Str):Prop:=PySem.W.findIn K (.ref C) f=some none
theorem NoAttr.taker{K:PySem.W.Frag}{C:Addr}{f:Str}(n:NoAttr K C f):PySem.W.takerIn K C f=some none:=by
 unfold PySem.W.takerIn;rw[show PySem.W.findIn K (.ref C) f=some none from n];rfl
structure Meth(K:PySem.W.Frag)(C:Addr)(m:Str)(f:Addr):Prop where
 at_:PySem.W.findIn K (.ref C) m=some (some (.ref f))
 fn:PySem.W.isFn K (.ref f)=true
 kp:PySem.W.keepIn K (.ref f)=true
section
variable {X:Cx}{pins:List (Addr×Obj)}{σ:St}{H:Hp}{s:Shared}{a C dx:Addr}{fs:List (Str×V)}{f:Str}{v:V}{A:Around}{E:Value->Shared->Prop}
theorem a6i{b:Bool}{Q:Value->Shared->Prop}(I:Inv X pins σ H s)(e:H a=some (.ins C dx fs))(c:Cls X.K C)(n:NoAttr X.K C f)(l:fs.lookup f=some v)
  (h:∀u s',Inv X pins σ H s'->RelV v u->Q u s'):wpAny (model X.prog X.w) A (getAttr (.ref a) f b) Q E s:=by
 obtain⟨mA,O,r,_,_,_⟩:=a1O I.hok e;obtain⟨u,g,d⟩:=RelO.some_of (v:=v) (o:=mA f) (by rw[<-l];exact r f);exact b3o I.kIn O (c.get f) c.hd n g (a3t d) (h u _ (I.tok _) d)
theorem a2z{m:Str}{g:Addr}{pl:Sem Bool}{Q:Value×List Value->Shared->Prop}(I:Inv X pins σ H s)(e:H a=some (.ins C dx fs))(c:Cls X.K C)(k:Meth X.K C m g)(l:fs.lookup m=none)
  (h:Q (.ref g,[.ref a]) s):wpAny (model X.prog X.w) A (getMethod (.ref a) m pl) Q E s:=by
 obtain⟨mA,O,r,_,_,_⟩:=a1O I.hok e;have hn:mA m=none:=RelO.none_of (by rw[<-l];exact r m);exact b0O I.kIn O (c.get m) k.at_ k.fn hn h
theorem a5O{y:V}{u:Value}{Q:Unit->Shared->Prop}(I:Inv X pins σ H s)(e:H a=some (.ins C dx fs))(c:Cls X.K C)(n:NoAttr X.K C f)(t:fs.length<1000)(p:RelV y u)
  (h:∀s',Inv X pins σ (upd H a (.ins C dx (K7 f y fs))) s'->Q () s'):wpAny (model X.prog X.w) A (setAttr (.ref a) f u) Q E s:=by
 obtain⟨mA,O,r,j,_,i⟩:=a1O I.hok e;have m:(fs.map (·.1)).length<=sizeLine:=by rw[List.length_map,sizeLine_eq];omega
 refine b1I I.kIn O c.sa c.po n.taker c.hd j m λh' d sb=>h _ ?_;have hd:∃o,h'.get? dx=some o:=let ⟨o,_,_,e',_⟩:=d.ns;⟨o,e'⟩
 refine I.write (x:=a) (e:=dx) (by rw[e];exact True.intro) (.inr i) (λb q k z=>(sb.2 b k).trans z) hd ?_;refine⟨by rw[A5 O.ne];exact i,?_,O.ne,d.obj,_,d.ns,λg=>?_,λg l=>?_⟩
 .have:=a1v f y fs;omega
 .show RelO ((K7 f y fs).lookup g) (if g=f then some u else mA g);rw[a1u];by_cases q:g=f
  .rw[if_pos q,if_pos q];exact p
  .rw[if_neg q,if_neg q];exact r g
 .by_cases q:g=f
  .rw[q];exact(a1m f y fs).1
  .refine(a1m f y fs).2 g (j g λz=>l ?_);show(if g=f then some u else mA g)=none;rw[if_neg q];exact z
theorem Inv.made(I:Inv X pins σ H s):Inv X pins σ (upd (upd H s.heap.objs.size (.own (s.heap.objs.size+1))) (s.heap.objs.size+1) (.ins C s.heap.objs.size []))
  {s with heap:=(s.heap.push PySem.W.emptyDict).push (PySem.W.instObj C s.heap.objs.size)}:=by
 have e1:(s.heap.push PySem.W.emptyDict).get? s.heap.objs.size=some PySem.W.emptyDict:=Heap.get?_push_size s.heap rfl;have e2:((s.heap.push PySem.W.emptyDict).push (PySem.W.instObj C s.heap.objs.size)).get? (s.heap.objs.size+1)=some (PySem.W.instObj C s.heap.objs.size):=by
  have:=Heap.get?_push_size (s.heap.push PySem.W.emptyDict) (o:=PySem.W.instObj C s.heap.objs.size) rfl;rwa[Heap.size_push]at this
 have d:(s.heap.push PySem.W.emptyDict).Ns s.heap.objs.size (λ_=>none):=⟨PySem.W.emptyDict,#[],_,e1,rfl,(λe f=>absurd f (by simp)),λ_=>rfl⟩;have c:=I.laid (a:=s.heap.objs.size) (o:=.own (s.heap.objs.size+1)) (h':=s.heap.push PySem.W.emptyDict) (t':=s.toks) (λb u q=>Heap.get?_push_of_some _ q) (Nat.le_refl _) ⟨_,e1⟩;refine c.laid (a:=s.heap.objs.size+1) (o:=.ins C s.heap.objs.size []) (t':=s.toks) (λb u q=>Heap.get?_push_of_some _ q) (Nat.le_of_eq (Heap.size_push _ _)) ?_;have ne:s.heap.objs.size≠s.heap.objs.size+1:=Nat.ne_of_lt (Nat.lt_succ_self _);refine⟨by rw[A5 ne,A0],Nat.zero_le _,ne,e2,λ_=>none,(Heap.Ns1.of_empty d).at λo q=>Heap.get?_push_of_some _ q,λ_=>True.intro,λy g=>absurd rfl g⟩
theorem a7m{prog:Program}{w:World}{env:Env}{e:Expr}{f:Str}{pos:Pos}{s:Shared}{Q:Value->Shared->Prop}(a:attributeBase e f env (eval e env)=eval e env)
  (h:wpAny (model prog w) A (eval e env) (λo s₁=>wpAny (model prog w) A (getAttr o f true) Q E s₁) E s):wpAny (model prog w) A (eval (.Attribute e f pos) env) Q E s :=
 Attribute_any_ h (by rw[arm_eval_Attribute,a])
end
def b7s(K:PySem.W.Frag)(ta:TE)(f:Str):TE:=λσ H Q=>ta σ H λx H1=>∃a C dx fs v,x=.ref a/\H1 a=some (.ins C dx fs)/\Cls K C/\NoAttr K C f/\fs.lookup f=some v/\Q v H1
def b7M(K:PySem.W.Frag)(ta tv:TE)(f:Str):TS:=λD σ H=>tv σ H λy H1=>ta σ H1 λx H2=>∃a C dx fs,x=.ref a/\H2 a=some (.ins C dx fs)/\Cls K C/\NoAttr K C f/\fs.length<1000 /\
 D.nx σ (upd H2 a (.ins C dx (K7 f y fs)))
section
variable {X:Cx}{o e value:Expr}{f:Str}{pos pos' tpos:Pos}{ta tv:TE}
theorem b5E(j:PE X e ta)(i:attributeBase e f X.env (eval e X.env)=eval e X.env):PE X (.Attribute e f pos) (b7s X.K ta f):=by
 intro pins s σ H Q I h;refine a7m i (thn (j pins s σ H _ I h) λu s1 ⟨x,H1,b,m,a,C,dx,fs,v,ex,g,c,n,l,q⟩=>?_);subst ex;obtain rfl:u=Value.ref a:=m;exact a6i b g c n l λp o d k=>⟨v,H1,d,k,q⟩
theorem b5o(i:PE X o ta)(j:PE X value tv)(hs:swapsWith value (some (.Attribute o f pos')) pos.line X.env=pure false):PS X (.Assign [.Attribute o f pos'] value pos) (b7M X.K ta tv f):=by
 intro pins s σ H D I h;refine plainObj_wpAny_Assign_Attribute (thn (j pins s σ H _ I h) λu s1 ⟨y,H1,b,r,q⟩=>thn (i pins s1 σ H1 _ b q) λk t ⟨x,H2,d,p,a,C,dx,fs,ex,g,c,n,l,m⟩=>?_) hs;subst ex;obtain rfl:k=Value.ref a:=p;exact a5O d g c n l r λv e=>⟨σ,_,e,m⟩
end
section
variable {X:Cx}{pins:List (Addr×Obj)}{σ:St}{H:Hp}{s:Shared}{A:Around}{E:Value->Shared->Prop}{Q:Value->Shared->Prop}{c:Value}{b:Bool}
inductive TyOf(K:PySem.W.Frag)(H:Hp):V->Value->Prop where
 |non:TyOf K H .non (.type "NoneType")
 |bl (x:Bool):TyOf K H (.bl x) (.type "bool")
 |int (i:Int):TyOf K H (.int i) (.type "int")
 |str (x:Str):TyOf K H (.str x) (.type "str")
 |flt (x:UInt64):TyOf K H (.flt x) (.type "float")
 |lst {a:Addr}{xs:List V}(e:H a=some (.lst xs)):TyOf K H (.ref a) (.type "list")
 |frz {a:Addr}{o:Obj}{xs:List V}(e:H a=some (.frz o (.lst xs))):TyOf K H (.ref a) (.type "list")
 |tup {a:Addr}{xs:List V}(e:H a=some (.tup xs)):TyOf K H (.ref a) (.type "tuple")
 |dK {a:Addr}{kvs:List (Key×V)}(e:H a=some (.dK kvs)):TyOf K H (.ref a) (.type "dict")
 |dT {a:Addr}{kvs:List (List Key×V)}(e:H a=some (.dT kvs)):TyOf K H (.ref a) (.type "dict")
 |ins {a C dx:Addr}{fs:List (Str×V)}(e:H a=some (.ins C dx fs)) (cl:Cls K C) (ha:PySem.W.findIn K (.ref C) "__class__"=some (some (.builtin "object.__class__")))
   (hn:PySem.W.specialIn K (.builtin "object.__class__") "__get__"=some (some (.builtin "getset_descriptor.__get__"))) (htk:PySem.W.takesIn K (.builtin "object.__class__")=some true)
   (hm:PySem.W.mroIn K C (.type "object")=some true):TyOf K H (.ref a) (.ref C)
theorem a8a{x:V}{u t:Value}(I:Inv X pins σ H s)(d:RelV x u)(ty:TyOf X.K H x t)(e:PySem.W.kitOne X.K t c=some b)(h:∀tk,Q (.bool b) {s with toks:=tk}) :
  wpAny (model X.prog X.w) A (call (.builtin "isinstance") [u,c]) Q E s:=by
 cases ty with
 |non=>cases(show u=Value.none from d);exact PySem.W.kia_one PySem.W.kitx_none I.kIn True.intro e (λz=>nomatch z) h
 |bl y=>cases(show u=Value.bool y from d);exact PySem.W.kia_one PySem.W.kitx_bool I.kIn True.intro e (λz=>nomatch z) h
 |int i=>obtain⟨t,q⟩:=(show ∃t,u=Value.int i t from d);cases q;exact PySem.W.kia_one PySem.W.kitx_int I.kIn True.intro e (λz=>nomatch z) h
 |str y=>obtain⟨t,q⟩:=(show ∃t,u=Value.str y t from d);cases q;exact PySem.W.kia_one PySem.W.kitx_str I.kIn True.intro e (λz=>nomatch z) h
 |flt y=>obtain⟨t,q⟩:=(show ∃t,u=Value.float y t from d);cases q;exact PySem.W.kia_one PySem.W.kitx_float I.kIn True.intro e (λz=>nomatch z) h
 |@lst a xs ea =>
  cases(show u=Value.ref a from d);obtain⟨_,_,n,_,h1⟩:=(show ObjOk X.prog X.w H s.heap a (.lst xs)from I.hok a _ ea);exact PySem.W.kia_one PySem.W.kitx_list I.kIn ⟨_,h1,rfl⟩ e (λz=>nomatch z) h
 |@frz a ob xs ea =>
  cases(show u=Value.ref a from d);obtain⟨_,_,_,n,_,h1⟩:=(show ObjOk X.prog X.w H s.heap a (.frz ob (.lst xs))from I.hok a _ ea);exact PySem.W.kia_one PySem.W.kitx_list I.kIn ⟨_,h1,rfl⟩ e (λz=>nomatch z) h
 |@tup a xs ea =>
  cases(show u=Value.ref a from d);obtain⟨_,_,_,p⟩:=(show ObjOk X.prog X.w H s.heap a (.tup xs)from I.hok a _ ea);obtain⟨o,h1,h2,_⟩:=p.tup;exact PySem.W.kia_one PySem.W.kitx_tuple I.kIn ⟨o,h1,h2⟩ e (λz=>nomatch z) h
 |@dK a kvs ea =>
  cases(show u=Value.ref a from d);obtain⟨_,_,vs,_,p⟩:=(show ObjOk X.prog X.w H s.heap a (.dK kvs)from I.hok a _ ea);obtain⟨o,es,ep,h1,h2,_⟩:=p;exact PySem.W.kia_one PySem.W.kitx_dict I.kIn ⟨o,h1,h2.1⟩ e (λz=>nomatch z) h
 |@dT a kvs ea =>
  cases(show u=Value.ref a from d);obtain⟨_,_,xs,_,o,es,ep,h1,h2,_⟩:=(show ObjOk X.prog X.w H s.heap a (.dT kvs)from I.hok a _ ea);exact PySem.W.kia_one PySem.W.kitx_dict I.kIn ⟨o,h1,h2.1⟩ e (λz=>nomatch z) h
 |@ins a C dx fs ea cl g hn f j =>
  cases(show u=Value.ref a from d);obtain⟨mA,O,_⟩:=a1O I.hok ea;obtain⟨od,J,_⟩:=O.look;exact PySem.W.kia_one (PySem.W.kitx_own (cl.get _) cl.hd g hn f j) I.kIn J e (λz=>nomatch z) h
end
structure Room(k:Nat)(A:Around):Prop where
 hd:A.handled=none
 dp:A.depth+3*k+5<recursionLimit
 un:A.units+16*k+200<cLine
theorem Room.mono{j k:Nat}{A:Around}(r:Room k A)(h:j<=k):Room j A:=⟨r.hd,by have:=r.dp;omega,by have:=r.un;omega⟩
theorem Room.deeper{k:Nat}{A:Around}(r:Room (k+1) A)(env:Env):Room k (A.deeper env) :=
 ⟨r.hd,by have:=r.dp;show A.depth+1+3*k+5<_;omega,by have:=r.un;show A.units+3+16*k+200<_;omega⟩
theorem a5Y{A:Around}{C:Addr}{us:List Value}{kw:List (Str×Value)}:(A.under (.builtin "type.__call__" ⟨.ref C::us,kw⟩)).depth=A.depth+1:=by
 first|rfl|simp[Around.under,Code.weight,Code.isCreation,Code.isGuard,Code.isCaller,Code.frames,Code.isFrame,guardIds]
theorem a5X{A:Around}{C:Addr}{us:List Value}{kw:List (Str×Value)}:(A.under (.builtin "type.__call__" ⟨.ref C::us,kw⟩)).units=A.units+1:=by
 first|rfl|simp[Around.under,Code.cUnits,Code.frames,Code.isFrame]
theorem Room.make{k:Nat}{A:Around}(r:Room (k+1) A)(C:Addr)(us:List Value)(kw:List (Str×Value)):Room k (A.under (.builtin "type.__call__" ⟨.ref C::us,kw⟩)) :=
 ⟨r.hd,by have:=r.dp;rw[a5Y];omega,by have:=r.un;rw[a5X];omega⟩
theorem Room.depth{k:Nat}{A:Around}(r:Room k A):A.depth<recursionLimit:=by have:=r.dp;omega
def a0P:TA:=λ_ H Q=>Q [] H
def a2a(ta:TE)(tr:TA):TA:=λσ H Q=>ta σ H λx H1=>tr σ H1 λxs H2=>Q (x::xs) H2
section
variable {X:Cx}{e:Expr}{es:List Expr}{te:TE}{t:TA}{pos:Pos}
theorem b5J:PA X [] a0P:=λ_ _ _ _ H Q I h=>Calls.spliced_nil ⟨[],H,I,.nil,h⟩
theorem b2w(c:PE X e te)(d:PA X es t)(hs:starEach (e::es) X.env=(false,eval e X.env)::starEach es X.env:=by rfl):PA X (e::es) (a2a te t):=by
 intro pos pins s σ H Q I h;rw[hs];show wpAny _ _ (spliced ((false,eval e X.env)::backTo pos (starEach es X.env))) _ _ s;refine Calls.spliced_cons (thn (c pins s σ H _ I h) λu s1 ⟨x,H1,a,g,q1⟩=>?_);exact thn (d pos pins s1 σ H1 _ a q1) λk j ⟨xs,H2,b,i,f⟩=>⟨x::xs,H2,b,.cons g i,f⟩
def b7k(t:TA):TE:=λσ H Q=>t σ H λxs H1=>xs.length<=sizeLine/\∀p,H1 p=none->Q (.ref p) (upd H1 p (.tup xs))
def a2P(t:TA):TE:=λσ H Q=>t σ H λxs H1=>xs.length<=sizeLine/\∀p,H1 p=none->Q (.ref p) (upd H1 p (.lst xs))
theorem b5x{x1}(h:PA X es t):PE X (.Tuple es x1 pos) (b7k t):=by
 intro pins s σ H Q I d;refine wpAny_Tuple_spliced (thn (h pos pins s σ H _ I d) λf s1 ⟨xs,H1,a,r,z,q⟩=>⟨by rw[<-r.length];exact z,?_⟩);have c:H1 s1.heap.objs.size=none:=a.hok.fresh (Nat.le_refl _);refine⟨.ref s1.heap.objs.size,upd H1 s1.heap.objs.size (.tup xs),a.laid (t':=s1.toks) (λb u e=>Heap.get?_push_of_some _ e) (Nat.le_refl _) ?_,rfl,q _ c⟩;exact⟨z,f,r,⟨_,Heap.get?_push_size _ rfl,rfl,_,rfl⟩⟩
theorem b5C(h:PA X es t):PE X (.List es pos) (a2P t):=by
 intro pins s σ H Q I d;refine wpAny_List_spliced (thn (h pos pins s σ H _ I d) λf s1 ⟨xs,H1,a,r,z,q⟩=>⟨by rw[<-r.length];exact z,?_⟩);have c:H1 s1.heap.objs.size=none:=a.hok.fresh (Nat.le_refl _);refine⟨.ref s1.heap.objs.size,upd H1 s1.heap.objs.size (.lst xs),a.laid (t':=s1.toks) (λb u e=>Heap.get?_push_of_some _ e) (Nat.le_refl _) ?_,rfl,q _ c⟩;exact⟨z,f,0,r,Heap.get?_push_size _ rfl⟩
end
abbrev Sp:=List V->Hp->VK->XK->Prop
abbrev CXT:=List Env->Hp->Shared->XK->Value->Shared->Prop
structure Env0(P:Program)(w:World)(K:PySem.W.Frag)(mg:Str->Option Value)(base:Heap)(A:Around)(outer:List Env)(s:Shared)(H:Hp):Prop where
 frames:A.frames=some outer
 mod:Mod K mg base
 bs:∀b o,base.get? b=some o->s.heap.get? b=some o/\H b=none
 bsz:base.objs.size<=s.heap.objs.size
 funs:s.heap.FunFrames base outer
 frf:∀b∈frs outer,H b=none
 hok:HOk P w H s.heap
 bare:AllBare s.gens
def CE(outer:List Env)(P:Program)(w:World)(H:Hp)(s:Shared)(Q:VK)(u:Value)(s':Shared):Prop :=
 ∃v H',s'.os=s.os/\AllBare s'.gens/\Un (frs outer) [] H H' s.heap s'.heap/\HOk P w H' s'.heap/\RelV v u/\Q v H'
def CR(CX:CXT)(outer:List Env)(P:Program)(w:World)(H:Hp)(s:Shared)(Q:VK)(E:XK)(r:Result)(s':Shared):Prop :=
 match r with
 |.ok (.ret u)=>CE outer P w H s Q u s'
 |.ok _=>False
 |.error e=>CX outer H s E e s'
structure FnOk(P:Program)(w:World)(K:PySem.W.Frag)(mg:Str->Option Value)(base:Heap)(CX:CXT)(k:Nat)(f:Addr)(fd:FuncData)(ps:List Str)(sp:Sp):Prop where
 len:∀vs H Q E,sp vs H Q E->vs.length=ps.length
 run:∀(A:Around) (outer:List Env) (s:Shared) (H:Hp) (args:Args) (us:List Value) (vs:List V) (Q:VK) (E:XK),Room k A->Env0 P w K mg base A outer s H->BindsTo s fd args (ps.zip us)->Vals vs us->sp vs H Q E ->
  codeAny (model P w) A (.call (.ref f) args) (CR CX outer P w H s Q E) s
theorem Env0.make{P:Program}{w:World}{K:PySem.W.Frag}{mg:Str->Option Value}{base:Heap}{A:Around}{outer:List Env}{s:Shared}{H:Hp}(e:Env0 P w K mg base A outer s H)(C:Addr)(us:List Value)(kw:List (Str×Value)) :
  Env0 P w K mg base (A.under (.builtin "type.__call__" ⟨.ref C::us,kw⟩)) outer s H:=⟨by first|exact e.frames | (simpa[Around.under,Code.envs,Code.isFrame,pushEnvs]using e.frames),e.mod,e.bs,e.bsz,e.funs,e.frf,e.hok,e.bare⟩
section
variable {X:Cx}{pins:List (Addr×Obj)}{σ:St}{H:Hp}{s s':Shared}
theorem Inv.env0(I:Inv X pins σ H s):Env0 X.prog X.w X.K X.mg X.base X.A X.stack s H :=
 ⟨I.ok.frames,I.ok.mod,I.bs,Nat.le_trans I.ok.bsz I.sz,I.stack,I.stkFree,I.hok,I.bare⟩
theorem Inv.after{Q:VK}{u:Value}(I:Inv X pins σ H s)(h:CE X.stack X.prog X.w H s Q u s'):EP X pins σ Q u s':=by
 obtain⟨v,H',os,a,un,c,r,q⟩:=h;obtain⟨f,g,d,t,e⟩:=s';obtain rfl:e=s.os:=os;exact⟨v,H',I.call (h':=f) (g':=g) (d':=d) (t':=t) (ch:=[]) un c a (λb z=>absurd z (by simp)),r,q⟩
end
def a6F(sp:Sp)(dvs:List V)(E:XK)(t:TA):TE:=λσ H Q=>t σ H λvs H1=>sp (vs++dvs) H1 Q E
def a6D(C:Addr)(m:Str)(sp:Sp)(dvs:List V)(E:XK)(ta:TE)(t:TA):TE:=λσ H Q=>ta σ H λx H1=>∃a dx fs,x=.ref a/\H1 a=some (.ins C dx fs)/\fs.lookup m=none /\
 t σ H1 λvs H2=>sp (x::(vs++dvs)) H2 Q E
def b3F(C:Addr)(sp:Sp)(dvs:List V)(E:XK)(t:TA):TE:=λσ H Q=>t σ H λvs H1=>∀x dx,H1 x=none->H1 dx=none->dx≠x ->
 sp (.ref x::(vs++dvs)) (upd (upd H1 dx (.own x)) x (.ins C dx [])) (λv H2=>v=.non/\Q (.ref x) H2) E
def Binds(K:PySem.W.Frag)(fd:FuncData)(ps:List Str)(ds:List Value):Prop :=
 ∀(s:Shared) (us:List Value),K.In s.heap->(us++ds).length=ps.length->BindsTo s fd ⟨us,[]⟩ (ps.zip (us++ds))
theorem Binds.all{K:PySem.W.Frag}{fd:FuncData}{ps:List Str}(h:∀us:List Value,us.length=ps.length->bindArgs fd ⟨us,[]⟩=pure (ps.zip us)):Binds K fd ps []:=λs us _ a=>by
 rw[List.append_nil]at a⊢;exact .of_eq (h us a)
def Z1(CX:CXT)(X:Cx)(E:XK):Prop:=∀(pins:List (Addr×Obj)) (σ:St) (H:Hp) (s:Shared) (e:Value) (s':Shared),Inv X pins σ H s->CX X.stack H s E e s'->X.xe e s'
section
variable {X:Cx}{CX:CXT}{k:Nat}{f C:Addr}{fd:FuncData}{ps:List Str}{sp:Sp}{dvs:List V}{ds:List Value}{E:XK}{x m:Str}{p pos apos:Pos}{e o:Expr}{es:List Expr}{ta:TE}{t:TA}
theorem a5Q{pins:List (Addr×Obj)}{σ:St}{H:Hp}{s:Shared}{Q:VK}{us:List Value}{vs:List V}(F:FnOk X.prog X.w X.K X.mg X.base CX k f fd ps sp)(g:Room k X.A)(c:Binds X.K fd ps ds)(hd:Vals dvs ds)(i:Z1 CX X E)
  (I:Inv X pins σ H s) (r:Vals vs us) (h:sp (vs++dvs) H Q E):wpAny (model X.prog X.w) X.A (call (.ref f) us) (EP X pins σ Q) X.xe s:=by
 have b:Vals (vs++dvs) (us++ds):=r.append hd;have d:(us++ds).length=ps.length:=by rw[<-b.length];exact F.len _ _ _ _ h
 refine wpAny_call (codeAny_mono (F.run X.A X.stack s H ⟨us,[]⟩ (us++ds) (vs++dvs) Q E g I.env0 (c s us I.kIn d) b h) λr s' a=>?_);cases r with
 |error e=>exact i pins σ H s e s' I a
 |ok fl =>
  cases fl with
  |ret u=>exact I.after a
  |next=>exact False.elim a
  |brk=>exact False.elim a
  |cont=>exact False.elim a
theorem a6O(F:FnOk X.prog X.w X.K X.mg X.base CX k f fd ps sp)(m:Room k X.A)(i:Gl X x)(l:X.mg x=some (.ref f))(j:PySem.W.keepIn X.K (.ref f)=true)(d:Binds X.K fd ps ds)(hd:Vals dvs ds)(n:Z1 CX X E)
  (c:PA X (e::es) t) (a:(x==("__debug__" : Str))=false:=by decide) (g:starEach (e::es) X.env=(false,eval e X.env)::starEach es X.env:=by rfl) (hpl:(backTo pos (starEach es X.env)).any (·.1)=false:=by rfl) :
  PE X (.Call (.Name x p) (e::es) [] pos) (a6F sp dvs E t):=by
 intro pins s σ H Q I h;refine wpAny_Call_Name_kw (Y5 I i l ?_ a);refine PySem.W.callWith_K (h₀:=X.base) I.ok.mod.kin j (thn (c pos pins s σ H _ I h) λo s1 ⟨vs,H1,b,r,q⟩=>⟨b.kIn,?_⟩) g hpl;exact a5Q F m d hd n b r q
theorem b2p{pl:Sem Bool}(v:PE X o ta)(c:Cls X.K C)(i:Meth X.K C m f)(F:FnOk X.prog X.w X.K X.mg X.base CX k f fd ps sp)(w:Room k X.A)(p:Binds X.K fd ps ds)(hd:Vals dvs ds)(z:Z1 CX X E)(n:PA X (e::es) t)
  (b:starEach (e::es) X.env=(false,eval e X.env)::starEach es X.env:=by rfl) (hpl:(backTo pos (starEach es X.env)).any (·.1)=false:=by rfl)
  (y:eval (.Call (.Attribute o m apos) (e::es) [] pos) X.env=(do
   let ov <-eval o X.env
   standAt apos.atName
   let (f,first) <-holding [ov] (getMethod ov m pl)
   callWith pos f first (backTo pos (starEach (e::es) X.env)) (backToKw pos (keywordEach [] X.env))):=by rfl) :
  PE X (.Call (.Attribute o m apos) (e::es) [] pos) (a6D C m sp dvs E ta t):=by
 intro pins s σ H Q I h;refine PySem.W.methodCall_KW (pl:=pl) (thn (v pins s σ H _ I h) λu s1 ⟨x,H1,d,B,a,dx,fs,ex,j,l,q⟩=>?_) y;subst ex;obtain rfl:u=Value.ref a:=B;refine a2z d j c i l ?_;refine PySem.W.callWith_K (first:=[.ref a]) (h₀:=X.base) I.ok.mod.kin i.kp (thn (n pos pins s1 σ H1 _ d q) λD G ⟨vs,H2,g,r,A⟩=>⟨g.kIn,?_⟩) b hpl;exact a5Q (us:=.ref a::D) (vs:=.ref a::vs) F w p hd z g (.cons rfl r) A
theorem a9P{pl:Sem Bool}(i:PE X o ta)(c:Cls X.K C)(d:Meth X.K C m f)(F:FnOk X.prog X.w X.K X.mg X.base CX k f fd ps sp)(j:Room k X.A)(g:Binds X.K fd ps ds)(hd:Vals dvs ds)(p:Z1 CX X E)
  (n:eval (.Call (.Attribute o m apos) [] [] pos) X.env=(do
   let ov <-eval o X.env
   standAt apos.atName
   let (f,first) <-holding [ov] (getMethod ov m pl)
   callWith pos f first (backTo pos (starEach [] X.env)) (backToKw pos (keywordEach [] X.env))):=by rfl) :
  PE X (.Call (.Attribute o m apos) [] [] pos) (a6D C m sp dvs E ta a0P):=by
 intro pins s σ H Q I h;refine PySem.W.methodCall_KW (pl:=pl) (thn (i pins s σ H _ I h) λu s1 ⟨x,H1,b,r,a,dx,fs,ex,e,l,q⟩=>?_) n;subst ex;obtain rfl:u=Value.ref a:=r;refine a2z b e c d l ?_;exact PySem.W.callWith_K0 (first:=[.ref a]) b.kIn d.kp (a5Q (us:=[.ref a]) (vs:=[.ref a]) F j g hd p b (.cons rfl .nil) q)
structure Mk(K:PySem.W.Frag)(C f:Addr):Prop where
 makes:PySem.W.makesIn K C=true
 init:PySem.W.findIn K (.ref C) "__init__"=some (some (.ref f))
 fn:PySem.W.isFn K (.ref f)=true
 kp:PySem.W.keepIn K (.ref C)=true
theorem a9l{pins:List (Addr×Obj)}{σ:St}{H:Hp}{s:Shared}{Q:VK}{us:List Value}{vs:List V}(M:Mk X.K C f)(F:FnOk X.prog X.w X.K X.mg X.base CX k f fd ps sp)(m:Room (k+1) X.A)(j:Binds X.K fd ps ds)(hd:Vals dvs ds)
  (n:Z1 CX X E) (I:Inv X pins σ H s) (r:Vals vs us)
  (h:∀x dx,H x=none->H dx=none->dx≠x->sp (.ref x::(vs++dvs)) (upd (upd H dx (.own x)) x (.ins C dx [])) (λv H2=>v=.non/\Q (.ref x) H2) E) :
  wpAny (model X.prog X.w) X.A (call (.ref C) us) (EP X pins σ Q) X.xe s:=by
 have c:=h (s.heap.objs.size+1) s.heap.objs.size (I.hok.fresh (Nat.le_succ _)) (I.hok.fresh (Nat.le_refl _)) (Nat.ne_of_lt (Nat.lt_succ_self _));have b:=Inv.made (C:=C) I;have d:Vals (V.ref (s.heap.objs.size+1)::(vs++dvs)) (Value.ref (s.heap.objs.size+1)::(us++ds)):=.cons rfl (r.append hd);have l:(Value.ref (s.heap.objs.size+1)::us++ds).length=ps.length:=by
  have e:=d.length;rw[F.len _ _ _ _ c]at e;exact e.symm
 refine wpAny_call (b0p (f:=f) I.kIn M.makes M.init (beq_iff_eq.mp M.fn) (codeAny_mono (F.run _ X.stack _ _ ⟨Value.ref (s.heap.objs.size+1)::us,[]⟩ (Value.ref (s.heap.objs.size+1)::(us++ds)) _ _ E (m.make C us [])
  (b.env0.make C us []) (j _ (Value.ref (s.heap.objs.size+1)::us) b.kIn l) d c) λr s' a=>?_))
 cases r with
 |error e=>exact n pins σ _ _ e s' b a
 |ok fl =>
  cases fl with
  |ret u =>
   obtain⟨v,H',g,p,i,o⟩:=b.after a;subst i;exact⟨p,⟨V.ref (s.heap.objs.size+1),H',g,rfl,o⟩⟩
  |next=>exact False.elim a
  |brk=>exact False.elim a
  |cont=>exact False.elim a
theorem a9Q(M:Mk X.K C f)(F:FnOk X.prog X.w X.K X.mg X.base CX k f fd ps sp)(e:Room (k+1) X.A)(c:Gl X x)(d:X.mg x=some (.ref C))(b:Binds X.K fd ps ds)(hd:Vals dvs ds)(g:Z1 CX X E)
  (a:(x==("__debug__" : Str))=false:=by decide):PE X (.Call (.Name x p) [] [] pos) (b3F C sp dvs E a0P):=by
 intro pins s σ H Q I h;refine wpAny_Call_Name_kw (Y5 I c d ?_ a);exact PySem.W.callWith_K0 I.kIn M.kp (a9l (us:=[]) M F e b hd g I .nil h)
end
section
variable {X:Cx}{CX:CXT}{k:Nat}{f C:Addr}{fd:FuncData}{ps ks:List Str}{sp:Sp}{E:XK}{x m:Str}{p pos apos kpos:Pos}{e o:Expr}{es:List Expr}{kws:List Keyword}{te ta:TE}{t tk:TA}{nm:Option Str}
variable {g:List Value->List Value->List Value}{gV:List V->List V->List V}
end
structure FnScope(N P:List Str)(sc:Scope):Prop where
 kind:sc.kind=.function
 co:sc.isCoroutine=false
 gen:sc.isGenerator=false
 nd:N.Nodup
 pre:N.take P.length=P
 par:∀x∈P,sc.names.lookup x=some .local∨sc.names.lookup x=some .cell
 nofree:∀y∈sc.names,y.2≠.free
theorem a3D{a:Str->Option NameKind}{x:Str}:∀{binds:List (Str×Value)}{m:Str->Option Value},(∀v,(x,v)∉binds)->bindL a binds m x=m x
 |[],_,_=>rfl
 |(n,v)::r,m,h=>by
  unfold bindL;rw[a3D λw hw=>h w (List.mem_cons_of_mem _ hw)];split
  .have:x≠n:=by rintro rfl;exact h v List.mem_cons_self
   simp[this]
  .rfl
theorem a3F{a:Str->Option NameKind}{x:Str}:∀{binds:List (Str×Value)}{m:Str->Option Value},(∀v,(x,v)∉binds)->bindC a binds m x=m x
 |[],_,_=>rfl
 |(n,v)::r,m,h=>by
  unfold bindC;rw[a3F λw hw=>h w (List.mem_cons_of_mem _ hw)];split
  .rfl
  .have:x≠n:=by rintro rfl;exact h v List.mem_cons_self
   simp[this]
theorem a3E{a:Str->Option NameKind}{x:Str}{v:Value}:∀{P:List Str}{vs:List Value}{i:Nat}{m:Str->Option Value},P.Nodup->P[i]?=some x->vs[i]?=some v->a x=some .local ->
  bindL a (P.zip vs) m x=some v
 |[],_,_,_,_,h,_,_=>by simp at h
 |_::_,[],_,_,_,_,h,_=>by simp at h
 |p::P,w::vs,0,m,nd,h1,h2,b=>by
  simp at h1 h2;subst h1;subst h2;show bindL a ((p,w)::P.zip vs) m p=_;unfold bindL;rw[a3D λv c=>(List.nodup_cons.mp nd).1 (List.of_mem_zip c).1,if_pos b];simp
 |p::P,w::vs,i+1,m,nd,h1,h2,b=>by
  show bindL a ((p,w)::P.zip vs) m x=_;unfold bindL;exact a3E (i:=i) (List.nodup_cons.mp nd).2 (by simpa using h1) (by simpa using h2) b
theorem a3G{a:Str->Option NameKind}{x:Str}{v:Value}:∀{P:List Str}{vs:List Value}{i:Nat}{m:Str->Option Value},P.Nodup->P[i]?=some x->vs[i]?=some v->a x≠some .local ->
  bindC a (P.zip vs) m x=some v
 |[],_,_,_,_,h,_,_=>by simp at h
 |_::_,[],_,_,_,_,h,_=>by simp at h
 |p::P,w::vs,0,m,nd,h1,h2,b=>by
  simp at h1 h2;subst h1;subst h2;show bindC a ((p,w)::P.zip vs) m p=_;unfold bindC;rw[a3F λv c=>(List.nodup_cons.mp nd).1 (List.of_mem_zip c).1,if_neg b];simp
 |p::P,w::vs,i+1,m,nd,h1,h2,b=>by
  show bindC a ((p,w)::P.zip vs) m x=_;unfold bindC;exact a3G (i:=i) (List.nodup_cons.mp nd).2 (by simpa using h1) (by simpa using h2) b
noncomputable def start(N:List Str)(vs:List V):St:=vs.map some++List.replicate (N.length-vs.length) none
noncomputable def N9(CX:CXT)(P:Program)(w:World)(K:PySem.W.Frag)(mg:Str->Option Value)(base:Heap)(N:List Str)(qual:Str)(scope:Scope)(f:Addr)(cd:Value)(A:Around)(outer:List Env)(s:Shared)(H:Hp)(E:XK):Cx where
 prog:=P
 w:=w
 K:=K
 mg:=mg
 base:=base
 A:=A.deeper (envOfC qual scope s.heap.objs.size f cd)
 N:=N
 s₀:=s
 H₀:=H
 env:=envOfC qual scope s.heap.objs.size f cd
 outer:=outer
 stack:=envOfC qual scope s.heap.objs.size f cd::outer
 ex:=[]
 calm:=true
 fn:=λ_=>true
 pn:=[]
 xe:=λe s'=>wpAny (model P w) (A.deeper (envOfC qual scope s.heap.objs.size f cd)) (leaving (envOfC qual scope s.heap.objs.size f cd) e) (λ_ s''=>CX outer H s E e s'') (λe' s''=>CX outer H s E e' s'') s'
theorem a5v{a:Scope}{n:Nat}{x:Str}(h:a.names.lookup x=some .cell):∃c,(cellsFrom n a.names []).lookup x=some c:=by
 have q:=PySem.W.cellsFrom_some a.names n [] (.inl h);exact Option.isSome_iff_exists.mp q
theorem a8b{CX:CXT}{P:Program}{w:World}{K:PySem.W.Frag}{mg:Str->Option Value}{base:Heap}{N ps:List Str}{qual:Str}{scope:Scope}{f:Addr}{cd:Value}{A:Around}{outer:List Env}{s s1:Shared}{H:Hp}{E:XK}{us:List Value}{vs:List V}
  (S:FnScope N ps scope) (hd:A.handled=none) (d:Env0 P w K mg base A outer s H) (F:vs.length=ps.length) (r:Vals vs us)
  (x:InCallC s s.heap.objs.size (bindL (envOfC qual scope s.heap.objs.size f cd).kindOf (ps.zip us) λ_=>none) (cellsFrom (s.heap.objs.size+1) scope.names []) (bindC (envOfC qual scope s.heap.objs.size f cd).kindOf (ps.zip us) λ_=>none) s1) :
  Inv (N9 CX P w K mg base N qual scope f cd A outer s H E) [] (start N vs) H s1:=by
 have hpl:ps.length<=N.length:=by have:=congrArg List.length S.pre;rw[List.length_take]at this;omega
 obtain⟨h1,tk,rfl,o⟩:=x.done;have j:∀b:Addr,b∉(N9 CX P w K mg base N qual scope f cd A outer s H E).ex:=λb z=>absurd (show b∈([]:List Addr)from z) (by simp);refine⟨⟨d.mod,S.kind,rfl,rfl,Nat.le_refl _,λy z c h1 h2=>?_,λy g=>?_,λy c _ h=>?_,λ_=>hd,Around.frames_deeper d.frames,.inr ⟨rfl,rfl⟩,λb z=>absurd z (j b),d.bs,d.bsz,λb _ _=>j b,λb z=>absurd z (j b),d.funs,d.frf⟩,
  rfl,d.bare,Un.kept o,⟨_,x.toInCall.ns,λi y v h1 h2 D=>?_⟩,λy c h=>⟨_,x.cell y c h⟩,d.hok.fresh (Nat.le_refl _),λy c h=>?_,λp l=>absurd (show p∈([]:List (Addr×Obj))from l) (by simp),d.hok.kept o,?_⟩
 .exact name_of_addr x.apart (PySem.mem_of_lookup h1) (PySem.mem_of_lookup h2)
 .have g:scope.names.lookup y=some .cell∨scope.names.lookup y=some .free:=g;rcases g with g|g
  .exact a5v g
  .exact absurd rfl (S.nofree _ (PySem.mem_of_lookup g))
 .exact Nat.le_of_lt (x.above y c (PySem.mem_of_lookup h))
 .have hi:i<vs.length:=by
   unfold start at h2;by_cases hi:i<vs.length
   .exact hi
   .rw[List.getElem?_append_right (by simpa using hi)]at h2;rw[List.getElem?_replicate]at h2;split at h2<;>cases h2
  have B:vs[i]?=some v:=by
   unfold start at h2;rw[List.getElem?_append_left (by simpa using hi),List.getElem?_map]at h2;cases e:vs[i]? with
   |none=>rw[e]at h2;cases h2
   |some a=>rw[e]at h2;cases h2;rfl
  obtain⟨u,t,C⟩:=r.get B;have l:ps[i]?=some y:=by
   rw[<-S.pre,List.getElem?_take_of_lt (by omega)];exact h1
  have m:ps.Nodup:=by rw[<-S.pre];exact S.nd.sublist (List.take_sublist _ _)
  refine⟨u,C,?_⟩;rcases S.par y (List.mem_of_getElem? l)with k|k
  .exact .inl ⟨k,a3E m l t k⟩
  .obtain⟨c,e⟩:=a5v (n:=s.heap.objs.size+1) k;refine .inr ⟨.inl k,c,e,?_⟩;have q:=x.cell y c e;rw[a3G m l t (by show scope.names.lookup y≠_;rw[k];decide)]at q;exact q
 .exact d.hok.fresh (Nat.le_of_lt (x.above y c (PySem.mem_of_lookup h)))
 .unfold start;show _=N.length;rw[List.length_append,List.length_map,List.length_replicate];omega
theorem b4v{CX:CXT}{P:Program}{w:World}{K:PySem.W.Frag}{mg:Str->Option Value}{base:Heap}{k:Nat}{f:Addr}{name qual:Str}{c:Arguments}{d:List Stmt}{scope:Scope}{G kV i pm a ct oc:Value}{an od:Option Addr}
  {B:Array (Option Value)}{N ps:List Str}{sp:Sp}(lk:K.lookup f=some ⟨oc,od,.func (PySem.W.fnOf name qual c d scope G kV i pm an a ct),B⟩) (m:PySem.W.codeIn K a qual=true) (S:FnScope N ps scope)
  (len:∀vs H Q E,sp vs H Q E->vs.length=ps.length)
  (g:∀(A:Around) (outer:List Env) (s:Shared) (H:Hp) (vs:List V) (Q:VK) (E:XK),Room k (A.deeper (envOfC qual scope s.heap.objs.size f a))->sp vs H Q E ->
   ∃t,PSs (N9 CX P w K mg base N qual scope f a A outer s H E) d t/\t {nx:=λ_ H'=>Q .non H',rt:=Q} (start N vs) H) :
  FnOk P w K mg base CX (k+1) f (PySem.W.fnOf name qual c d scope G kV i pm an a ct) ps sp:=by
 refine⟨len,λA outer s H F W vs Q E p j L r l=>?_⟩;have O:=len _ _ _ _ l;have D:K.In s.heap:=j.mod.kin.keeps λb o e=>(j.bs b o e).1;have z:s.heap.NoLimit:=j.mod.nolimit.keeps λb o e=>(j.bs b o e).1;have h:∀y∈ps.zip W,scope.names.lookup y.1=some .local∨(scope.names.lookup y.1=some .cell/\((cellsFrom (s.heap.objs.size+1) scope.names []).lookup y.1).isSome=true):=λ⟨n,v⟩ U=>by
  rcases S.par n (List.of_mem_zip U).1 with q|q
  .exact .inl q
  .exact .inr ⟨q,PySem.W.cellsFrom_some _ _ _ (.inl q)⟩
 refine codeAny_call_function p.depth (D _ _ lk) rfl S.co S.gen rfl (PySem.W.codeRec_of D m) (L _ _ _ _ ?_);refine wpAny_newFunctionEnv_cells S.kind h λenv M s1 x=>?_;subst M;refine⟨z.keeps x.toInCall.keep,codeAny_func ?_⟩;obtain⟨t,T,R⟩:=g A outer s H vs Q E (p.deeper _) l;have I:Inv (N9 CX P w K mg base N qual scope f a A outer s H E) [] (start N vs) H s1:=a8b S p.hd j O r x;refine wpAny_mono (T [] s1 (start N vs) H _ I R) (λfl s' hs=>?_) λe s' hs=>hs;have fin:∀{σ':St}{H':Hp}{v:V}{u:Value},Inv (N9 CX P w K mg base N qual scope f a A outer s H E) [] σ' H' s'->RelV v u->Q v H'->CE outer P w H s Q u s' :=
  λ{σ' H' v u} J C q=>⟨v,H',J.os,J.bare,J.base,J.hok,C,q⟩
 cases fl with
 |ret u =>
  obtain⟨v,σ',H',J,C,q⟩:=hs;exact fin J C q
 |next =>
  obtain⟨σ',H',J,q⟩:=hs;exact fin (v:=V.non) (u:=Value.none) J rfl q
 |brk =>
  obtain⟨_,_,_,q⟩:=hs;exact False.elim q
 |cont =>
  obtain⟨_,_,_,q⟩:=hs;exact False.elim q
section
variable {X:Cx}{x:Str}{p pos:Pos}{e:Expr}{es:List Expr}{t:TA}{id T:String}{r:List V->Hp->VK->Prop}
def tCB(r:List V->Hp->VK->Prop)(t:TA):TE:=λσ H Q=>t σ H λvs H1=>r vs H1 Q
theorem N4(d:K1 X (.builtin id) r)(g:Gl X x)(i:X.mg x=none)(j:bootBuiltins x=some (.builtin id))(c:PA X (e::es) t)(hn:x≠"__name__":=by decide)(a:(x==("__debug__" : Str))=false:=by decide)
  (f:starEach (e::es) X.env=(false,eval e X.env)::starEach es X.env:=by rfl) (hpl:(backTo pos (starEach es X.env)).any (·.1)=false:=by rfl):PE X (.Call (.Name x p) (e::es) [] pos) (tCB r t):=by
 intro pins s σ H Q I h;refine wpAny_Call_Name_kw (a0H I g i j ?_ hn a);exact PyProof.Rows.callWith_builtin1 (thn (c pos pins s σ H _ I h) λl s1 ⟨vs,H1,b,k,q1⟩=>d pins s1 σ H1 vs l Q b k q1) f hpl
theorem R7(d:K1 X (.type T) r)(g:Gl X x)(i:X.mg x=none)(j:bootBuiltins x=some (.type T))(c:PA X (e::es) t)(hn:x≠"__name__":=by decide)(a:(x==("__debug__" : Str))=false:=by decide)
  (f:starEach (e::es) X.env=(false,eval e X.env)::starEach es X.env:=by rfl) (hpl:(backTo pos (starEach es X.env)).any (·.1)=false:=by rfl):PE X (.Call (.Name x p) (e::es) [] pos) (tCB r t):=by
 intro pins s σ H Q I h;refine wpAny_Call_Name_kw (a0H I g i j ?_ hn a);exact PyProof.Rows.callWith_type1 (thn (c pos pins s σ H _ I h) λl s1 ⟨vs,H1,b,k,q1⟩=>d pins s1 σ H1 vs l Q b k q1) f hpl
end
end L2
namespace HT
open PySem PyProof.Rows
section
open PySem.SeqAt
open PySem.AutoSeq1 (wpAny_loadPart')
open PySem.MeetsSeq PySem.MeetsSeq2 PySem.MeetsSeq3
end
section
variable {prog:Program}{w:World}{A:Around}{E:Value->Shared->Prop}{s:Shared}
theorem cat_tup{t b:Addr}{vs ws:List Value}{Q:Value->Shared->Prop}(q:IsTup s.heap t vs.toArray)(p:IsTup s.heap b ws.toArray)(m:vs≠[])
  (h1:ws=[]->Q (.ref t) s) (h2:ws≠[]->Q (.ref s.heap.objs.size) {s with heap:=s.heap.push {cls:=.type "tuple",data:=.seq (vs++ws).toArray}})
  (j:vs.length+ws.length<=sizeLine):wpAny (model prog w) A (binaryOp .Add (.ref t) (.ref b)) Q E s:=by
 obtain⟨⟨cls,dd,data,sl⟩,h,l,n,hd⟩:=id q;obtain⟨⟨k,c,i,g⟩,a,d,o,f⟩:=id p;simp only at l hd d f;subst l hd d f;have e:vs.toArray++ws.toArray=(vs++ws).toArray:=by simp
 by_cases hw:ws=[]
 .exact concat_meets ⟨_,h,rfl⟩ ⟨_,a,rfl⟩ noFill_tuple_add seq_tuple_add PySem.F.slot_tuple_add PySem.F.entry_tuple_add (PySem.F.args_tuple_add_2 _ _)
   (tuple_addW1 t b vs.toArray ws.toArray n o dd c sl g (by simpa using m) (by simp[hw])) ⟨h,a,h1 hw⟩
 .refine concat_meets ⟨_,h,rfl⟩ ⟨_,a,rfl⟩ noFill_tuple_add seq_tuple_add PySem.F.slot_tuple_add PySem.F.entry_tuple_add (PySem.F.args_tuple_add_2 _ _)
   (tuple_addW2 t b vs.toArray ws.toArray n o dd c sl g (by simpa using m) (by simpa using hw) (by rw[List.size_toArray,List.size_toArray];exact j)) ⟨h,a,?_⟩
  rw[e];exact h2 hw
noncomputable def sIx(n d:Nat):Option Int->Nat
 |none=>d
 |some v=>if v<0 then(v+(n:Int)).toNat else min v.toNat n
theorem sIx_none(n d:Nat):sIx n d none=d:=rfl
theorem sIx_nat(n d k:Nat):sIx n d (some (k:Int))=min k n:=by
 show(if (k:Int)<0 then((k:Int)+(n:Int)).toNat else min (k:Int).toNat n)=min k n;rw[if_neg (by omega),Int.toNat_natCast]
end
end HT
namespace L2
open PySem PySem.Spec PyProof.Rows
abbrev TO:=St->Hp->(Option Int->Hp->Prop)->Prop
def PO(X:Cx)(e:Option Expr)(t:TO):Prop :=
 ∀(pins:List (Addr×Obj)) (s:Shared) (σ:St) (H:Hp) (Q:Option Int->Hp->Prop),Inv X pins σ H s->t σ H Q ->
  wpAny (model X.prog X.w) X.A (evalPart e X.env) (λu s'=>∃o H',Inv X pins σ H' s'/\IsPart u o/\Q o H') X.xe s
def L3:TO:=λ_ H Q=>Q none H
def a4H(t:TE):TO:=λσ H Q=>t σ H λx H1=>∃i,x=.int i/\Q (some i) H1
section
variable {X:Cx}{e:Expr}{te:TE}{lo hi:Option Expr}{tl th:TO}{pos p2:Pos}
theorem b2b:PO X none L3:=by
 intro pins s σ H Q I h;rw[evalPart_none];exact wpAny_pure ⟨none,H,I,.none,h⟩
theorem b2a(h:PE X e te):PO X (some e) (a4H te):=by
 intro pins s σ H Q I hw;rw[evalPart_some];refine thn (h pins s σ H _ I hw) λu s1 ⟨x,H1,a,b,q1⟩=>?_;obtain⟨i,rfl,q⟩:=q1;obtain⟨t,rfl⟩:=b;exact⟨some i,H1,a,.int i t,q⟩
def SlR(X:Cx)(r:V->Option Int->Option Int->Hp->VK->Prop):Prop :=
 ∀(pins:List (Addr×Obj)) (s:Shared) (σ:St) (H:Hp) (x:V) (v vl vu:Value) (lo hi:Option Int) (sl:Addr) (Q:VK),Inv X pins σ H s->RelV x v->s.heap.IsSliceOf sl vl vu .none->IsPart vl lo->IsPart vu hi->r x lo hi H Q ->
  ∃T id,typeLookup (.type T) "__getitem__"=pure (some (.builtin id))/\s.TypeIs v T/\wpAny (model X.prog X.w) X.A (getItem v (.ref sl)) (EP X pins σ Q) X.xe s
def tSl(r:V->Option Int->Option Int->Hp->VK->Prop)(te:TE)(tl th:TO):TE:=λσ H Q=>te σ H λx H1=>tl σ H1 λl H2=>th σ H2 λu H3=>r x l u H3 Q
theorem a4R{r:V->Option Int->Option Int->Hp->VK->Prop}(p:SlR X r)(m:PE X e te)(o:PO X lo tl)(w:PO X hi th):PE X (.Subscript e (.Slice lo hi none p2) pos) (tSl r te tl th):=by
 intro pins s σ H Q I h;refine Subscript_ (thn (m pins s σ H _ I h) λv s1 ⟨x,H1,f,B,q1⟩=>?_);refine wpAny_Slice (thn (o pins s1 σ H1 _ f q1) λc C ⟨l,H2,g,pl,z⟩=>thn (w pins C σ H2 _ g z) λvu a ⟨u,d,i,y,A⟩=>?_);rw[evalPart_none];refine wpAny_pure ?_;have j:Inv X pins σ d {a with heap:=a.heap.push {cls:=.type "slice",data:=.fields #[c,vu,.none]}}:=i.kept (t':=a.toks) λb D q=>Heap.get?_push_of_some _ q;obtain⟨T,id,k,t,n⟩:=p pins {a with heap:=a.heap.push {cls:=.type "slice",data:=.fields #[c,vu,.none]}} σ d x v c vu l u a.heap.objs.size Q j B (Heap.IsSliceOf.new ..) pl y A;show wpAny (model X.prog X.w) X.A (subscriptTail e (.Slice lo hi none p2) v (.ref a.heap.objs.size)) (EP X pins σ Q) X.xe {a with heap:=a.heap.push {cls:=.type "slice",data:=.fields #[c,vu,.none]}};exact tail_any (ops:=[.ref a.heap.objs.size,v]) t k n (by with_unfolding_all rfl)
noncomputable def W7(xs:List V)(lo hi:Option Int):List V:=(xs.drop (HT.sIx xs.length 0 lo)).take (HT.sIx xs.length xs.length hi-HT.sIx xs.length 0 lo)
theorem a5t(xs:List V)(lo hi:Option Int):(W7 xs lo hi).length<=xs.length:=by
 unfold W7;rw[List.length_take,List.length_drop];omega
def b7W(K:PySem.W.Frag):R2:=λx y H Q=>∃a b xs ys,x=.ref a/\y=.ref b/\SqT K H a xs/\SqT K H b ys/\xs≠[]/\xs.length+ys.length<=sizeLine /\
 (ys=[]->Q (.ref a) H)/\(ys≠[]->∀p,H p=none->Q (.ref p) (upd H p (.tup (xs++ys))))
theorem Vals.nil_iff{xs:List V}{us:List Value}(r:Vals xs us):us=[]↔xs=[]:=by
 cases r with
 |nil=>simp
 |cons _ _=>simp
theorem b2B:OpR X (binaryOp .Add) (b7W X.K):=by
 intro pins s σ H x y v u Q I n p h;obtain⟨a,b,xs,ys,rfl,rfl,g,i,j,e,q1,m⟩:=h;cases n;cases p;obtain⟨k,d,l,_⟩:=I.tuple g;obtain⟨f,c,p2,_⟩:=I.tuple i;refine HT.cat_tup l p2 (λz=>j (d.nil_iff.mp z)) (λz=>⟨.ref a,H,I,rfl,q1 (c.nil_iff.mp z)⟩) (λz=>?_) (by rw[<-d.length,<-c.length];exact e);refine⟨.ref s.heap.objs.size,_,I.laid (t':=s.toks) (o:=.tup (xs++ys)) (λb r q=>Heap.get?_push_of_some _ q) (Nat.le_refl _) ?_,rfl,m (λw=>z (c.nil_iff.mpr w)) _ (I.hok.fresh (Nat.le_refl _))⟩;exact⟨by rw[List.length_append];exact e,_,d.append c,IsTp.new _ _⟩
end
noncomputable def ixN(n:Nat)(i:Int):Option Nat:=if 0<=i then(if i<n then some i.toNat else none)else if -(n:Int)<=i then some (i+n).toNat else none
noncomputable def atI{α:Type}(xs:List α)(i:Int):Option α:=(ixN xs.length i).bind λj=>xs[j]?
theorem a7a{n:Nat}{i:Int}{j:Nat}(h:ixN n i=some j):seqIndex? i n=some j/\j<n /\ -(n:Int)<=i/\i<n:=by
 unfold ixN at h;by_cases a:0<=i
 .rw[if_pos a]at h;by_cases h1:i<n
  .rw[if_pos h1]at h;have e:i.toNat=j:=Option.some.inj h;exact⟨by rw[seqIndex_of a h1,e],by omega,by omega,h1⟩
  .rw[if_neg h1]at h;cases h
 .rw[if_neg a]at h;by_cases h1 : -(n:Int)<=i
  .rw[if_pos h1]at h;have e:(i+n).toNat=j:=Option.some.inj h;exact⟨by rw[seqIndex_neg (by omega) h1,e],by omega,h1,by omega⟩
  .rw[if_neg h1]at h;cases h
theorem a1R{α:Type}{xs:List α}{i:Int}{v:α}(h:atI xs i=some v):∃j,seqIndex? i xs.length=some j/\xs[j]?=some v/\j<xs.length /\ -(xs.length:Int)<=i/\i<xs.length:=by
 unfold atI at h;cases e:ixN xs.length i with
 |none=>rw[e]at h;cases h
 |some j =>
  rw[e]at h;obtain⟨h1,h2,a,b⟩:=a7a e;exact⟨j,h1,h,h2,a,b⟩
theorem F0{α:Type}{xs:List α}{j:Nat}{v:α}(h:xs[j]?=some v):atI xs (j:Int)=some v:=by
 have a:j<xs.length:=(List.getElem?_eq_some_iff.mp h).1;have e:ixN xs.length (j:Int)=some j:=by
  unfold ixN;rw[if_pos (by omega),if_pos (by omega)];simp
 unfold atI;rw[e];exact h
theorem a2O{α:Type}(xs:List α)(v:α):atI (xs++[v]) (-1)=some v:=by
 have a:(xs++[v]).length=xs.length+1:=by simp
 have e:ixN (xs++[v]).length (-1)=some xs.length:=by
  unfold ixN;rw[a,if_neg (by decide),if_pos (by omega)];congr 1;omega
 unfold atI;rw[e];show(xs++[v])[xs.length]?=some v;simp
def a1i(b:Expr):Prop:=∀o i,subscripted b false o i=operate [o,i] (getItem o i)
def IxR(X:Cx)(r:R2):Prop :=
 ∀(value slice:Expr) (pins:List (Addr×Obj)) (s:Shared) (σ:St) (H:Hp) (x y:V) (v u:Value) (Q:VK),Inv X pins σ H s->RelV x v->RelV y u->r x y H Q ->
  subscripted slice false v u=operate [v,u] (getItem v u)->wpAny (model X.prog X.w) X.A (subscriptTail value slice v u) (EP X pins σ Q) X.xe s
def MtR(X:Cx)(id:String)(r:V->List V->Hp->VK->Prop):Prop :=
 ∀(pins:List (Addr×Obj)) (s:Shared) (σ:St) (H:Hp) (x:V) (xs:List V) (v:Value) (us:List Value) (Q:VK),Inv X pins σ H s->RelV x v->Vals xs us->r x xs H Q ->
  wpAny (model X.prog X.w) X.A (call (.builtin id) (v::us)) (EP X pins σ Q) X.xe s
section
variable {X:Cx}{a b:Expr}{ta tb:TE}{pos:Pos}
theorem IxR.or{r b:R2}(h:IxR X r)(h':IxR X b):IxR X (λx y H Q=>r x y H Q∨b x y H Q):=by
 intro value a pins s σ H x y v u Q I c d q hs;rcases q with q|q
 .exact h value a pins s σ H x y v u Q I c d q hs
 .exact h' value a pins s σ H x y v u Q I c d q hs
theorem a6N{r:R2}(f:IxR X r)(d:PE X a ta)(e:PE X b tb)(hs:a1i b):PE X (.Subscript a b pos) (tOp r ta tb):=by
 intro pins s σ H Q I h;exact Subscript_ (b6M d e I h λv u j x y H2 c g i q=>f a b pins j σ H2 x y v u Q c g i q (hs _ _))
def a5S(K:PySem.W.Frag):R2:=λx y H Q=>∃p xs i v,x=.ref p/\y=.int i/\SqL K H p xs/\atI xs i=some v/\Q v H
def a9y(K:PySem.W.Frag):R2:=λx y H Q=>∃p xs i v,x=.ref p/\y=.int i/\SqT K H p xs/\atI xs i=some v/\Q v H
def b5f:R2:=λx y H Q=>∃z i c,x=.str z/\y=.int i/\z.length<=sizeLine/\atI z.cps.toList i=some c/\Q (.str ⟨#[c]⟩) H
theorem ix_list:IxR X (a5S X.K):=by
 intro value c pins s σ H x y v u Q I n o h hs;obtain⟨p,xs,i,z,rfl,rfl,m,k,q⟩:=h;cases n;obtain⟨t,rfl⟩:=o;obtain⟨a,r,pl,B⟩:=I.list m;obtain⟨j,h1,h2,A,f,g⟩:=a1R k;obtain⟨w,d,b⟩:=r.get h2;have l:=r.length;have hn:=Z9;have fin:EP X pins σ Q w s:=⟨z,H,I,b,q⟩;by_cases e:0<=i
 .have hj:i.toNat=j:=by
   rw[seqIndex_of e g]at h1;exact Option.some.inj h1
  exact item_listR pl.isList e (by omega) (by rw[hj];simpa using d) fin hs
 .have hj:(i+(a.toArray.size:Int)).toNat=j:=by
   rw[seqIndex_neg (by omega) f]at h1;rw[List.size_toArray,<-l];exact Option.some.inj h1
  exact subscriptTail_builtinR (x:=w) pl.isList.typeIs slot_list_getitem.lookup
   (wpAny_getItem_list_neg (Q:=λr s'=>r=w/\EP X pins σ Q r s') pl.isList (by omega) (by rw[List.size_toArray]<;>omega) (by omega) (by rw[hj];simpa using d) ⟨rfl,fin⟩) hs
theorem ix_tup:IxR X (a9y X.K):=by
 intro value b pins s σ H x y v u Q I k l h hs;obtain⟨p,xs,i,z,rfl,rfl,f,d,q⟩:=h;cases k;obtain⟨t,rfl⟩:=l;obtain⟨g,r,pl,A⟩:=I.tuple f;obtain⟨j,h1,h2,m,n,o⟩:=a1R d;obtain⟨w,c,a⟩:=r.get h2;have e:=r.length;have hn:=Z9;have fin:EP X pins σ Q w s:=⟨z,H,I,a,q⟩;exact subscriptTail_builtinR (x:=w) pl.typeIs slot_tuple_getitem.lookup
  (getItem_tuple (j:=j) (Q:=λr s'=>r=w/\EP X pins σ Q r s') pl (by omega) (by omega) (by rw[List.size_toArray,<-e];exact h1) (by simpa using c) ⟨rfl,fin⟩) hs
theorem b0G:IxR X b5f:=by
 intro value a pins s σ H x y v u Q I g k h hs;obtain⟨z,i,c,rfl,rfl,m,e,q⟩:=h;obtain⟨t,rfl⟩:=g;obtain⟨t',rfl⟩:=k;obtain⟨j,h1,h2,l,b,d⟩:=a1R e;have f:z.cps.toList.length=z.length:=by simp[Str.length]
 rw[f]at h1 b d;have hn:=Z9;exact tail_any (typeIs_str s z t) slot_str_getitem.lookup (getItem_str (c:=c) (by
  have e1:decide (i < -(2 ^ 63:Int))=false:=decide_eq_false (by omega);have e2:decide (i ≥ 2 ^ 63)=false:=decide_eq_false (by omega);rw[e1,e2,Bool.or_false]) (by rw[h1];simpa using h2) ⟨.str ⟨#[c]⟩,H,I.tok _,⟨_,rfl⟩,q⟩) hs
def rIx(K:PySem.W.Frag):R2:=λx y H Q=>a5S K x y H Q∨a9y K x y H Q∨b5f x y H Q
theorem b6w:IxR X (rIx X.K):=ix_list.or (ix_tup.or b0G)
theorem a5W(a:List Value)(n j:Nat)(u:Value):Obj.mapSeq (·.setIfInBounds j u) {cls:=.type "list",data:=.seq a.toArray n}={cls:=.type "list",data:=.seq (a.set j u).toArray n}:=by
 simp[Obj.mapSeq]
theorem Inv.lst{pins:List (Addr×Obj)}{σ:St}{H:Hp}{s:Shared}{p:Addr}{xs:List V}(I:Inv X pins σ H s)(h:H p=some (.lst xs)) :
  ∃(a:List Value) (n:Nat),Vals xs a/\s.heap.get? p=some {cls:=.type "list",data:=.seq a.toArray n}/\xs.length<=sizeLine:=by
 obtain⟨z,a,n,r,e⟩:=I.hok p _ h;exact⟨a,n,r,e,z⟩
theorem Inv.lstUpd{pins:List (Addr×Obj)}{σ:St}{H:Hp}{s:Shared}{p:Addr}{xs ys:List V}{a its':List Value}{n c:Nat}{f:Obj->Obj}(I:Inv X pins σ H s)(h:H p=some (.lst xs))
  (i:s.heap.get? p=some {cls:=.type "list",data:=.seq a.toArray n}) (d:f {cls:=.type "list",data:=.seq a.toArray n}={cls:=.type "list",data:=.seq its'.toArray c}) (r:Vals ys its') (j:ys.length<=sizeLine) (t:Nat) :
  Inv X pins σ (upd H p (.lst ys)) {s with heap:=s.heap.update p f,toks:=t}:=by
 have e:(s.heap.update p f).get? p=some {cls:=.type "list",data:=.seq its'.toArray c}:=by
  rw[Heap.get?_update_self f i (by rw[d]<;>rfl),d]
 refine I.write (x:=p) (e:=p) (by rw[h];trivial) (.inl rfl) (λb u g q=>(Heap.get?_update_other _ _ (Ne.symm g)).trans q) ⟨_,e⟩ ?_;exact⟨j,its',c,r,e⟩
def a9u:V->V->V->Hp->(Hp->Prop)->Prop:=λo i v H Q=>∃p xs k j,o=.ref p/\i=.int k/\H p=some (.lst xs)/\ixN xs.length k=some j/\Q (upd H p (.lst (xs.set j v)))
theorem a4M:b6W X a9u:=by
 intro pins s σ H o i v B A u Q I y x z h;obtain⟨p,xs,k,j,rfl,rfl,l,m,q⟩:=h;cases y;obtain⟨t,rfl⟩:=x;obtain⟨a,n,r,c,w⟩:=I.lst l;obtain⟨h1,h2,f,g⟩:=a7a m;have b:=r.length;have hn:=Z9;have d:Inv X pins σ (upd H p (.lst (xs.set j v))) {s with heap:=s.heap.update p (Obj.mapSeq (·.setIfInBounds j u))} :=
  I.lstUpd l c (a5W a n j u) (r.set z j) (by rw[List.length_set];exact w) s.toks
 by_cases e:0<=k
 .have hk:k.toNat=j:=by
   rw[seqIndex_of e g]at h1;exact Option.some.inj h1
  exact PySem.W.ki_setAt c e (by omega) (by rw[List.size_toArray,<-b];exact g) (by rw[hk];exact⟨_,d,q⟩)
 .have hk:(k+(a.toArray.size:Int)).toNat=j:=by
   rw[seqIndex_neg (by omega) f]at h1;rw[List.size_toArray,<-b];exact Option.some.inj h1
  exact PySem.W.ki_setBack c (by omega) (by rw[List.size_toArray,<-b];exact f) (by omega) (by rw[hk];exact⟨_,d,q⟩)
theorem a3R(lo hi:Option Int)(n:Nat):(sliceBounds lo hi none n).1=((HT.sIx n 0 lo:Nat):Int)/\(sliceBounds lo hi none n).2.1=((HT.sIx n n hi:Nat):Int)/\(sliceBounds lo hi none n).2.2=1:=by
 refine⟨?_,?_,rfl⟩
 .cases lo with
  |none=>simp[sliceBounds,HT.sIx]
  |some i =>
   simp only[sliceBounds,HT.sIx,Option.getD_none,show(1:Int) > 0 by decide,if_true];by_cases h:i<0
   .simp only[h,if_true]<;>omega
   .simp only[h,if_false]<;>omega
 .cases hi with
  |none=>simp[sliceBounds,HT.sIx]
  |some i =>
   simp only[sliceBounds,HT.sIx,Option.getD_none,show(1:Int) > 0 by decide,if_true];by_cases h:i<0
   .simp only[h,if_true]<;>omega
   .simp only[h,if_false]<;>omega
theorem a2Q(a:List Value)(lo hi:Option Int):slicePick a.toArray lo hi none=((a.drop (HT.sIx a.length 0 lo)).take (HT.sIx a.length a.length hi-HT.sIx a.length 0 lo)).toArray:=by
 obtain⟨h1,h2,b⟩:=a3R lo hi a.toArray.size;unfold slicePick;rw[h1,h2,b];simp only[sliceRange_one,pick_run,List.size_toArray]<;>rfl
def a9t(K:PySem.W.Frag):V->Option Int->Option Int->Hp->VK->Prop:=λx lo hi H Q=>∃a xs,x=.ref a/\SqL K H a xs/\∀p,H p=none->Q (.ref p) (upd H p (.lst (W7 xs lo hi)))
theorem b1G:SlR X (a9t X.K):=by
 intro pins s σ H x v l m lo hi sl Q I j hs pl i h;obtain⟨a,xs,rfl,e,q⟩:=h;cases j;obtain⟨g,r,d,f⟩:=I.list e;have c:=r.length;refine⟨"list",_,slot_list_getitem.lookup,d.isList.typeIs,?_⟩;refine wpAny_getItem_list_slice d.isList hs pl i .none (by simp) ?_ (by rw[List.size_toArray]<;>omega);rw[a2Q,<-c];refine⟨.ref s.heap.objs.size,_,I.laid (t':=s.toks) (o:=.lst (W7 xs lo hi)) (λb k q=>Heap.get?_push_of_some _ q) (Nat.le_refl _) ?_,rfl,q _ (I.hok.fresh (Nat.le_refl _))⟩;exact⟨Nat.le_trans (a5t xs lo hi) f,_,0,(r.drop (HT.sIx xs.length 0 lo)).take (HT.sIx xs.length xs.length hi-HT.sIx xs.length 0 lo),Heap.get?_push_size _ rfl⟩
noncomputable def M3:V->Bool
 |.non=>true
 |.bl _=>true
 |.int _=>true
 |.str _=>true
 |_=>false
noncomputable def eqV:V->V->Bool
 |.non,.non=>true
 |.bl a,.bl b=>a==b
 |.bl a,.int b=>(if a then 1 else 0)==b
 |.int a,.bl b=>a==(if b then 1 else 0)
 |.int a,.int b=>a==b
 |.str a,.str b=>a==b
 |_,_=>false
theorem b0X{A:Around}{s:Shared}{y x:V}{u v:Value}(e:RelV y u)(c:RelV x v)(f:M3 y=true)(d:M3 x=true):SeqAt.EqAt A s u v (eqV y x):=by
 cases y with
 |non =>
  cases e;cases x with
  |non=>cases c;exact SeqAt.EqAt.same _
  |bl b=>cases c;exact SeqAt.EqAt.none_bool b
  |int b=>obtain⟨t,rfl⟩:=c;exact SeqAt.EqAt.none_int b t
  |str b=>obtain⟨t,rfl⟩:=c;exact SeqAt.EqAt.none_str b t
  |_=>exact absurd (show false=true from d) Bool.false_ne_true
 |bl a =>
  cases e;cases x with
  |non=>cases c;exact SeqAt.EqAt.bool_none a
  |bl b=>cases c;exact SeqAt.EqAt.bool_bool a b
  |int b=>obtain⟨t,rfl⟩:=c;exact SeqAt.EqAt.bool_int a b t
  |str b=>obtain⟨t,rfl⟩:=c;exact SeqAt.EqAt.bool_str a b t
  |_=>exact absurd (show false=true from d) Bool.false_ne_true
 |int a =>
  obtain⟨t',rfl⟩:=e;cases x with
  |non=>cases c;exact SeqAt.EqAt.int_none a t'
  |bl b=>cases c;exact SeqAt.EqAt.int_bool a t' b
  |int b=>obtain⟨t,rfl⟩:=c;exact SeqAt.EqAt.int_int a t' b t
  |str b=>obtain⟨t,rfl⟩:=c;exact SeqAt.EqAt.int_str a t' b t
  |_=>exact absurd (show false=true from d) Bool.false_ne_true
 |str a =>
  obtain⟨t',rfl⟩:=e;cases x with
  |non=>cases c;exact SeqAt.EqAt.str_none a t'
  |bl b=>cases c;exact SeqAt.EqAt.str_bool a t' b
  |int b=>obtain⟨t,rfl⟩:=c;exact SeqAt.EqAt.str_int a t' b t
  |str b=>obtain⟨t,rfl⟩:=c;exact SeqAt.EqAt.str_str a t' b t
  |_=>exact absurd (show false=true from d) Bool.false_ne_true
 |_=>exact absurd (show false=true from f) Bool.false_ne_true
noncomputable def eqU(x:V)(u:Value):Bool:=match u with
 |.none=>eqV .non x
 |.bool b=>eqV (.bl b) x
 |.int i _=>eqV (.int i) x
 |.str z _=>eqV (.str z) x
 |_=>false
theorem b0W{x y:V}{u:Value}(r:RelV y u)(f:M3 y=true):eqU x u=eqV y x:=by
 cases y with
 |non=>cases r;rfl
 |bl b=>cases r;rfl
 |int i=>obtain⟨t,rfl⟩:=r;rfl
 |str z=>obtain⟨t,rfl⟩:=r;rfl
 |_=>exact absurd (show false=true from f) Bool.false_ne_true
theorem a1h{x:V}:∀{xs:List V}{us:List Value},Vals xs us->xs.all M3=true->us.any (eqU x)=xs.any λy=>eqV y x
 |_,_,.nil,_=>rfl
 |y::xs,u::us,.cons r t,f=>by
  rw[List.all_cons,Bool.and_eq_true]at f;rw[List.any_cons,List.any_cons,b0W r f.1,a1h t f.2]
theorem Z7{A:Around}{s:Shared}{x:V}{v:Value}(c:RelV x v)(b:M3 x=true):∀{xs:List V}{us:List Value},Vals xs us->xs.all M3=true->∀u∈us,SeqAt.EqAt A s u v (eqU x u)
 |_,_,.nil,_=>λu a=>by cases a
 |y::xs,u::us,.cons r t,f=>λd a=>by
  rw[List.all_cons,Bool.and_eq_true]at f;rcases List.mem_cons.mp a with rfl|a
  .rw[b0W r f.1];exact b0X r c f.1 b
  .exact Z7 c b t f.2 d a
noncomputable def inV(x:V)(xs:List V):Bool:=xs.any λy=>eqV y x
def rIn(K:PySem.W.Frag)(neg:Bool):R2:=λx y H Q=>∃p xs,y=.ref p/\(SqL K H p xs∨SqT K H p xs)/\M3 x=true/\xs.all M3=true/\Q (.bl (if neg then !inV x xs else inV x xs)) H
theorem a7H:OpR X (compareOp .In) (rIn X.K false):=by
 intro pins s σ H x y v u Q I c d h;obtain⟨p,xs,rfl,a,b,fs,q⟩:=h;cases d;rcases a with a|a
 .obtain⟨its,r,pl,hz⟩:=I.list a;refine SeqAt.in_listAt (eqU x) pl.isList (λw hw=>Z7 c b r fs w (by simpa using hw)) ⟨.bl _,H,I,rfl,?_⟩;rw[show its.toArray.any (eqU x)=its.any (eqU x) by simp,a1h r fs];exact q
 .obtain⟨its,r,pl,hz⟩:=I.tuple a;refine SeqAt.in_tupleAt (eqU x) pl (λw hw=>Z7 c b r fs w (by simpa using hw)) ⟨.bl _,H,I,rfl,?_⟩;rw[show its.toArray.any (eqU x)=its.any (eqU x) by simp,a1h r fs];exact q
theorem a4a:OpR X (compareOp .NotIn) (rIn X.K true):=by
 intro pins s σ H x y v u Q I c d h;obtain⟨p,xs,rfl,a,b,fs,q⟩:=h;cases d;rcases a with a|a
 .obtain⟨its,r,pl,hz⟩:=I.list a;refine SeqAt.notIn_listAt (eqU x) pl.isList (λw hw=>Z7 c b r fs w (by simpa using hw)) ⟨.bl _,H,I,rfl,?_⟩;rw[show its.toArray.any (eqU x)=its.any (eqU x) by simp,a1h r fs];exact q
 .obtain⟨its,r,pl,hz⟩:=I.tuple a;refine SeqAt.notIn_tupleAt (eqU x) pl (λw hw=>Z7 c b r fs w (by simpa using hw)) ⟨.bl _,H,I,rfl,?_⟩;rw[show its.toArray.any (eqU x)=its.any (eqU x) by simp,a1h r fs];exact q
theorem a4z:K1 X (.builtin "len") (λxs H Q=>∃p ys,xs=[.ref p]/\(SqL X.K H p ys∨SqT X.K H p ys)/\Q (.int ys.length) H):=by
 intro pins s σ H xs d Q I r h;obtain⟨p,ys,rfl,b,q⟩:=h;obtain⟨u,rfl,c⟩:=a1t r;cases c;have hn:=Z9;rcases b with b|b
 .obtain⟨its,r',pl,hz⟩:=I.list b;have a:=r'.length;exact Calls.call_len_list pl.isList (by simp only[List.size_toArray]<;>omega) ⟨.int ys.length,H,I.tok _,⟨s.toks+1,by rw[List.size_toArray,a]⟩,q⟩
 .obtain⟨its,r',pl,hz⟩:=I.tuple b;have a:=r'.length;exact len_tuple pl (by simp only[List.size_toArray]<;>omega) ⟨.int ys.length,H,I.tok _,⟨s.toks+1,by rw[List.size_toArray,a]⟩,q⟩
theorem a4y:K1 X (.builtin "len") (λxs H Q=>∃z,xs=[.str z]/\z.length<=sizeLine/\Q (.int z.length) H):=by
 intro pins s σ H xs b Q I r h;obtain⟨z,rfl,a,q⟩:=h;obtain⟨u,rfl,t,rfl⟩:=a1t r;have hn:=Z9;exact len_str (by omega) ⟨.int z.length,H,I.tok _,⟨_,rfl⟩,q⟩
theorem a4x:K1 X (.type "list") (λxs H Q=>∃p ys,xs=[.ref p]/\(SqL X.K H p ys∨SqT X.K H p ys)/\∀l,H l=none->Q (.ref l) (upd H l (.lst ys))):=by
 intro pins s σ H xs t Q I r h;obtain⟨p,ys,rfl,g,q⟩:=h;obtain⟨u,rfl,m⟩:=a1t r;cases m;have fin:∀(a:List Value),Vals ys a->ys.length<=sizeLine->∀(h':Heap) (c:Nat),(∀b o',s.heap.get? b=some o'->h'.get? b=some o') ->
   h'.get? s.heap.objs.size=some {cls:=.type "list",dict:=none,data:=.seq a.toArray c,slots:=#[]}->EP X pins σ Q (.ref s.heap.objs.size) {s with heap:=h'}:=λa d i h' c kp e =>
  ⟨.ref s.heap.objs.size,_,I.laid (t':=s.toks) kp (Nat.le_refl _) (show ObjOk X.prog X.w _ h' _ (.lst ys)from⟨i,a,c,d,e⟩),rfl,q _ (I.hok.fresh (Nat.le_refl _))⟩
 rcases g with g|g
 .obtain⟨a,d,pl,i⟩:=I.list g;have f:=d.length;obtain⟨o,k,j,n,hd⟩:=pl.isList;exact call_list_seq p (.inl rfl) k j hd (λh' c kp e=>fin a d i h' c kp e) (by simp only[List.size_toArray]<;>omega)
 .obtain⟨a,d,pl,i⟩:=I.tuple g;have f:=d.length;obtain⟨o,k,j,n,hd⟩:=pl;exact call_list_seq p (.inr rfl) k j hd (λh' c kp e=>fin a d i h' c kp e) (by simp only[List.size_toArray]<;>omega)
theorem a3a:K1 X (.type "tuple") (λxs H Q=>∃p ys,xs=[.ref p]/\((SqL X.K H p ys/\∀l,H l=none->Q (.ref l) (upd H l (.tup ys)))∨(SqT X.K H p ys/\Q (.ref p) H))):=by
 intro pins s σ H xs i Q I r h;obtain⟨p,ys,rfl,h⟩:=h;obtain⟨u,rfl,g⟩:=a1t r;cases g;rcases h with⟨a,q⟩|⟨a,q⟩
 .obtain⟨its,r',pl,hz⟩:=I.list a;have d:=r'.length;refine call_tuple_list pl.isList (λh' kp=>?_) (by simp only[List.size_toArray]<;>omega);have c:Inv X pins σ H {s with heap:=h'}:=I.kept (t':=s.toks) kp;have f:Inv X pins σ (upd H h'.objs.size (.tup ys)) {s with heap:=h'.push {cls:=.type "tuple",data:=.seq its.toArray}} :=
   c.laid (t':=s.toks) (λb o e=>Heap.get?_push_of_some _ e) (Nat.le_refl _) (show ObjOk X.prog X.w _ _ _ (.tup ys)from⟨hz,its,r',IsTp.new _ _⟩)
  exact⟨.ref h'.objs.size,_,f,rfl,q _ (c.hok.fresh (Nat.le_refl _))⟩
 .obtain⟨its,r',pl,hz⟩:=I.tuple a;exact call_tuple_same pl ⟨.ref p,H,I,rfl,q⟩
def tyV(K:PySem.W.Frag)(T:String)(x:V)(H:Hp):Prop:=match x with
 |.str _=>T="str"
 |.int _=>T="int"
 |.ref p=>(T="list" /\ ∃xs,SqL K H p xs)∨(T="tuple" /\ ∃o,K.lookup p=some o/\o.cls=.type "tuple"/\o.dict=none) ∨
   (T="dict"/\((∃kvs,H p=some (.dK kvs))∨∃kvs,H p=some (.dT kvs)))∨(T="set" /\ ∃S n,H p=some (.set S n))
 |_=>False
theorem a8M{pins:List (Addr×Obj)}{σ:St}{H:Hp}{s:Shared}{T:String}{x:V}{v:Value}(I:Inv X pins σ H s)(r:RelV x v)(ty:tyV X.K T x H) :
  s.TypeIs v T/\∀a,v=.ref a->∃d,s.heap.get? a=some d/\d.dict=none:=by
 cases x with
 |str z =>
  obtain⟨t,rfl⟩:=r;cases(show T="str" from ty);exact⟨typeIs_str s z t,λ_ e=>nomatch e⟩
 |int i =>
  obtain⟨t,rfl⟩:=r;cases(show T="int" from ty);exact⟨typeIs_int s i t,λ_ e=>nomatch e⟩
 |ref p =>
  cases r;rcases ty with⟨rfl,xs,g⟩|⟨rfl,o,b,f,hd⟩|⟨rfl,b⟩|⟨rfl,S,n,b⟩
  .obtain⟨its,_,pl,_⟩:=I.list g;refine⟨pl.isList.typeIs,λa e=>?_⟩;cases e;obtain⟨o,n,e,c,hd,_⟩:=pl;exact⟨o,e,hd⟩
  .refine⟨⟨o,I.kIn p o b,f⟩,λa e=>?_⟩;cases e;exact⟨o,I.kIn _ o b,hd⟩
  .have z:∃o,s.heap.get? p=some o/\o.ExactDict:=by
    rcases b with⟨kvs,b⟩|⟨kvs,b⟩
    .obtain⟨_,_,_,_,o,_,_,e,ex,_⟩:=I.hok p _ b;exact⟨o,e,ex⟩
    .obtain⟨_,_,_,_,o,_,_,e,ex,_⟩:=I.hok p _ b;exact⟨o,e,ex⟩
   obtain⟨o,e,ex⟩:=z;refine⟨⟨o,e,ex.1⟩,λa e2=>?_⟩;cases e2;exact⟨o,e,ex.2.1⟩
  .obtain⟨o,_,_,_,e,ex,_⟩:=I.hok p _ b;refine⟨⟨o,e,ex.1⟩,λa e2=>?_⟩;cases e2;exact⟨o,e,ex.2.1⟩
 |_=>exact False.elim ty
def b1E(K:PySem.W.Frag)(T:String)(r:V->List V->Hp->VK->Prop)(to:TE):TE:=λσ H Q=>to σ H λx H1=>tyV K T x H1/\r x [] H1 Q
def tBM(K:PySem.W.Frag)(T:String)(r:V->List V->Hp->VK->Prop)(to:TE)(t:TA):TE:=λσ H Q=>to σ H λx H1=>tyV K T x H1/\t σ H1 λxs H2=>r x xs H2 Q
variable {o e:Expr}{es:List Expr}{to:TE}{t:TA}{name:Str}{apos cpos:Pos}{T id:String}{r:V->List V->Hp->VK->Prop}
theorem b5H(j:PlainAttrs T)(c:Slot T name id)(d:typeOf (.builtin id)=pure (.type "method_descriptor"))(g:MtR X id r)(i:PE X o to)
  (a:attributeBase o name X.env (eval o X.env)=eval o X.env:=by rfl) (b:(apos.endLine==cpos.line)=true:=by rfl):PE X (.Call (.Attribute o name apos) [] [] cpos) (b1E X.K T r to):=by
 intro pins s σ H Q I h;refine wpAny_Call_method0_late a b (thn (i pins s σ H _ I h) λv s1 ⟨x,H1,e,f,ty,q1⟩=>?_);obtain⟨h1,h2⟩:=a8M e f ty;exact⟨T,id,j,c,d,h1,h2,Calls.callWith_builtin rfl (PySem.evalArgs_none (g pins s1 σ H1 x [] v [] Q e f .nil q1))⟩
theorem b8c(q:PlainAttrs T)(f:Slot T name id)(g:typeOf (.builtin id)=pure (.type "method_descriptor"))(n:MtR X id r)(p:PE X o to)(m:PA X (e::es) t)
  (b:attributeBase o name X.env (eval o X.env)=eval o X.env:=by rfl)
  (d:((backTo cpos (starEach (e::es) X.env)).all (λx=>!x.1) && (backToKw cpos (keywordEach [] X.env)).all (λx=>x.1.isSome)
   && decide ((e::es).length+([]:List Keyword).length+(if ([]:List Keyword).isEmpty then 0 else 1)<30))=true:=by rfl)
  (c:(apos.endLine==cpos.line)=true:=by rfl) (hs:starEach (e::es) X.env=(false,eval e X.env)::starEach es X.env:=by rfl) (a:(backTo cpos (starEach es X.env)).any (·.1)=false:=by rfl) :
  PE X (.Call (.Attribute o name apos) (e::es) [] cpos) (tBM X.K T r to t):=by
 intro pins s σ H Q I h;refine wpAny_Call_method_late b d c rfl (thn (p pins s σ H _ I h) λv s1 ⟨x,H1,i,k,ty,q1⟩=>?_);obtain⟨h1,h2⟩:=a8M i k ty;refine⟨T,id,q,f,g,h1,h2,?_⟩;have j:=m cpos pins s1 σ H1 _ i q1;rw[hs]at j⊢;refine Calls.callWith_builtin (by show(false || (backTo cpos (starEach es X.env)).any (·.1))=false;rw[a]<;>rfl) (Calls.evalArgs_plain ?_);exact thn j λz y ⟨vs,H2,l,w,u⟩=>n pins y σ H2 x vs v z Q l k w u
end
def MtM(X:Cx)(id:String)(r:V->List V->Hp->VK->Prop):Prop :=
 ∀(pins:List (Addr×Obj)) (s:Shared) (σ:St) (H:Hp) (x:V) (xs:List V) (v:Value) (us:List Value) (Q:VK),Inv X pins σ H s->RelV x v->Vals xs us->r x xs H Q ->
  wpAny (model X.prog X.w) X.A (call (.builtin id) (v::us)) (EP X pins σ Q) X.xe s
theorem Vals.one{x:V}{us:List Value}(h:Vals [x] us):∃u,us=[u]/\RelV x u:=by
 cases h with
 |cons r q=>cases q;exact⟨_,rfl,r⟩
theorem Vals.two{x y:V}{us:List Value}(h:Vals [x,y] us):∃u v,us=[u,v]/\RelV x u/\RelV y v:=by
 cases h with
 |cons r h=>obtain⟨v,rfl,q⟩:=Vals.one (x:=y) h;exact⟨_,_,rfl,r,q⟩
theorem Vals.eraseIdx:∀{xs:List V}{us:List Value}(i:Nat),Vals xs us->Vals (xs.eraseIdx i) (us.eraseIdx i)
 |_,_,_,.nil=>.nil
 |_,_,0,.cons _ t=>t
 |_,_,i+1,.cons r t=>.cons r (Vals.eraseIdx i t)
theorem Vals.rep{xs:List V}{us:List Value}(h:Vals xs us):∀k:Nat,Vals (List.replicate k xs).flatten (List.replicate k us).flatten
 |0=>.nil
 |k+1=>by
  rw[List.replicate_succ,List.replicate_succ,List.flatten_cons,List.flatten_cons];exact Vals.append h (Vals.rep h k)
theorem a3m{α:Type}:∀(l:List α) (i:Nat),(l.eraseIdx i).length<=l.length
 |[],_=>Nat.le_refl _
 |_::_,0=>Nat.le_succ _
 |_::r,i+1=>Nat.succ_le_succ (a3m r i)
theorem a3u(b:List Value):∀(k:Nat) (a:List Value),
  List.foldl (λc d=>c++d) a.toArray (List.replicate k b.toArray)=(a++(List.replicate k b).flatten).toArray
 |0,a=>by simp
 |k+1,a=>by
  have e:a.toArray++b.toArray=(a++b).toArray:=by simp
  have e2:(a++b)++(List.replicate k b).flatten=a++(List.replicate (k+1) b).flatten:=by
   rw[List.replicate_succ,List.flatten_cons,List.append_assoc]
  rw[<-e2,<-a3u b k (a++b),<-e,List.replicate_succ,List.foldl_cons]
section
variable {X:Cx}{pins:List (Addr×Obj)}{σ:St}{H:Hp}{s:Shared}{l b:Addr}{xs ys zs:List V}
theorem Inv.lset{a its':List Value}{n:Nat}{f:Array Value->Array Value}{t':Nat}(I:Inv X pins σ H s)(b:H l=some (.lst xs))
  (e:s.heap.get? l=some {cls:=.type "list",data:=.seq a.toArray n}) (d:f a.toArray=its'.toArray) (h:Vals ys its') (i:ys.length<=sizeLine) :
  Inv X pins σ (upd H l (.lst ys)) {s with heap:=s.heap.update l (Obj.mapSeq f),toks:=t'}:=by
 have q:=PySem.IsL.update e f;rw[d]at q;refine I.write (x:=l) (e:=l) (by rw[b];exact trivial) (.inl rfl) (λj u c g=>(Heap.get?_update_other s.heap (Obj.mapSeq f) (Ne.symm c)).trans g) ⟨_,q⟩ ?_;exact⟨i,its',_,h,q⟩
theorem Inv.lnew{a:List Value}{t':Nat}(I:Inv X pins σ H s)(b:Vals ys a)(c:ys.length<=sizeLine) :
  Inv X pins σ (upd H s.heap.objs.size (.lst ys)) {s with heap:=s.heap.push {cls:=.type "list",data:=.seq a.toArray},toks:=t'} :=
 I.laid (λ_ _ q=>Heap.get?_push_of_some _ q) (Nat.le_refl _) ⟨c,a,0,b,Heap.get?_push_size _ rfl⟩
theorem Inv.fresh(I:Inv X pins σ H s):H s.heap.objs.size=none:=I.hok.fresh (Nat.le_refl _)
theorem Inv.lstM(I:Inv X pins σ H s)(b:H l=some (.lst xs)):xs.length<=sizeLine/\∃(a:List Value) (n:Nat),Vals xs a/\xs.length=a.length/\s.heap.get? l=some {cls:=.type "list",data:=.seq a.toArray n}:=by
 obtain⟨z,a,n,r,e⟩:=I.hok l _ b;exact⟨z,a,n,r,r.length,e⟩
theorem a5a{n:Nat}(h:n<=sizeLine):Builtin.List.listTooLong n=false:=by
 unfold Builtin.List.listTooLong;exact decide_eq_false (by omega)
end
section
variable {X:Cx}
def a1K:V->List V->Hp->VK->Prop:=λx vs H Q=>∃l xs y,x=.ref l/\vs=[y]/\H l=some (.lst xs)/\xs.length<sizeLine/\Q .non (upd H l (.lst (xs++[y])))
theorem a7R:MtM X "list.append" a1K:=by
 intro pins s σ H x vs v j Q I f d h;obtain⟨l,xs,y,rfl,rfl,b,i,q⟩:=h;cases f;obtain⟨u,rfl,c⟩:=d.one;obtain⟨z,a,n,r,g,e⟩:=I.lstM b;refine call_meets F.slot_list_append ⟨_,e,rfl⟩ F.entry_list_append (F.args_list_append_2 _ _) (PySem.list_append l a.toArray n u (by rw[List.size_toArray];omega)) ⟨e,?_⟩;refine⟨.non,_,I.lset (its':=a++[u]) b e (by simp) (r.append (.cons c .nil)) ?_,rfl,q⟩;rw[List.length_append,List.length_singleton];omega
def b1P:V->List V->Hp->VK->Prop:=λx vs H Q=>∃l b xs zs,x=.ref l/\vs=[.ref b]/\H l=some (.lst xs)/\H b=some (.lst zs)/\xs.length+zs.length<=sizeLine/\Q .non (upd H l (.lst (xs++zs)))
theorem b7b:MtM X "list.extend" b1P:=by
 intro pins s σ H x vs v A Q I t p h;obtain⟨l,b,xs,zs,rfl,rfl,g,i,y,q⟩:=h;cases t;obtain⟨u,rfl,o⟩:=p.one;cases o;obtain⟨z,c,n,r,w,e⟩:=I.lstM g;obtain⟨B,a,k,m,j,e2⟩:=I.lstM i;have f:c.toArray.size+a.toArray.size<=sizeLine:=by rw[List.size_toArray,List.size_toArray];omega
 have d:¬(!c.toArray.isEmpty && Builtin.List.listTooLong (c.toArray.size+a.toArray.size))=true:=by
  rw[a5a f,Bool.and_false];exact Bool.false_ne_true
 refine call_meets F.slot_list_extend ⟨_,e,rfl⟩ F.entry_list_extend (F.args_list_extend_2 _ _)
  (AutoSeq1.list_extend_list_list_0 l c.toArray n b a.toArray k d (by rw[List.size_toArray];omega) (by omega)) ⟨e,e2,?_⟩
 refine⟨.non,_,I.lset (its':=c++a) g e (by simp) (r.append m) ?_,rfl,q⟩;rw[List.length_append];omega
def a9v:V->List V->Hp->VK->Prop:=λx vs H Q=>∃l xs i k y,x=.ref l/\vs=[.int i]/\H l=some (.lst xs) /\ -(2 ^ 63)<=i/\i<2 ^ 63/\seqIndex? i xs.length=some k/\xs[k]?=some y/\Q y (upd H l (.lst (xs.eraseIdx k)))
theorem b0l:MtM X "list.pop" a9v:=by
 intro pins s σ H x vs v p Q I o m h;obtain⟨l,xs,i,k,y,rfl,rfl,c,h1,h2,d,g,q⟩:=h;cases o;obtain⟨u,rfl,j⟩:=m.one;obtain⟨t,rfl⟩:=j;obtain⟨z,a,n,r,f,e⟩:=I.lstM c;obtain⟨w,hw,b⟩:=r.get g;refine call_meets F.slot_list_pop ⟨_,e,rfl⟩ F.entry_list_pop (F.args_list_pop_2 _ _)
  (MeetsSeq.list_pop_at l a.toArray n i t k w (fitsIndex_both h1 h2) (by rw[List.size_toArray,<-f];exact d) (by rw[<-Array.getElem?_toList];exact hw) (by rw[List.size_toArray];omega)) ⟨e,?_⟩
 refine⟨y,_,I.lset (its':=a.eraseIdx k) c e ?_ (r.eraseIdx k) ?_,b,q⟩
 .show a.toArray.eraseIdxIfInBounds k=(a.eraseIdx k).toArray;rw[List.eraseIdxIfInBounds_toArray]
 .have:=a3m xs k;omega
def a7z:R2:=λx y H Q=>∃l b xs zs,x=.ref l/\y=.ref b/\H l=some (.lst xs)/\H b=some (.lst zs)/\xs.length+zs.length<=sizeLine/\∀p,H p=none->Q (.ref p) (upd H p (.lst (xs++zs)))
theorem b5Y:OpR X (binaryOp .Add) a7z:=by
 intro pins s σ H x y v u Q I k m h;obtain⟨l,b,xs,zs,rfl,rfl,g,f,p,q⟩:=h;cases k;cases m;obtain⟨z,c,n,r,o,e⟩:=I.lstM g;obtain⟨w,a,t,j,i,e2⟩:=I.lstM f;refine PySem.P.add_list e e2 ?_ (by rw[List.size_toArray,List.size_toArray];omega);have d:c.toArray++a.toArray=(c++a).toArray:=by simp
 rw[d];exact⟨.ref _,_,I.lnew (t':=s.toks) (r.append j) (by rw[List.length_append];omega),rfl,q _ I.fresh⟩
def b7O:R2:=λx y H Q=>∃l k xs,x=.ref l/\y=.int k/\H l=some (.lst xs) /\ -(2 ^ 63)<=k/\k<2 ^ 63/\xs.length*k.toNat<=sizeLine /\
 ∀p,H p=none->Q (.ref p) (upd H p (.lst (List.replicate k.toNat xs).flatten))
theorem a0Z{α:Type}(xs:List α)(k:Nat):(List.replicate k xs).flatten.length=k*xs.length:=by
 induction k with
 |zero=>simp
 |succ k a=>rw[List.replicate_succ,List.flatten_cons,List.length_append,a,Nat.succ_mul,Nat.add_comm]
theorem b5N:OpR X (binaryOp .Mult) b7O:=by
 intro pins s σ H x y v u Q I C D h;obtain⟨l,k,xs,rfl,rfl,A,h1,h2,p,q⟩:=h;cases C;obtain⟨t,rfl⟩:=D;obtain⟨z,b,n,r,B,e⟩:=I.lstM A;have g:b.toArray.size*k.toNat<=sizeLine:=by rw[List.size_toArray,<-B];exact p
 have d:¬b.toArray.size*k.toNat > (2 ^ 63-1) / 8:=by
  have:(sizeLine:Nat)<=(2 ^ 63-1) / 8:=by decide
  omega
 have f:¬(!Builtin.List.listFitsIndex k)=true:=by
  rw[fitsIndex_both h1 h2];exact Bool.false_ne_true
 have c:¬Builtin.List.listTooLong (b.toArray.size*k.toNat)=true:=by
  rw[a5a g];exact Bool.false_ne_true
 have i:List.foldl (λj o=>j++o) #[] (List.replicate (if b.toArray.isEmpty=true then 0 else k.toNat) b.toArray)=(List.replicate k.toNat b).flatten.toArray:=by
  have w:∀m:Nat,List.foldl (λj o=>j++o) #[] (List.replicate m b.toArray)=(List.replicate m b).flatten.toArray:=λm=>by
   have:=a3u b m [];rw[List.nil_append]at this;exact this
  rw[w];cases b with
  |nil=>simp
  |cons a r'=>rw[if_neg (by simp)]
 refine wpAny_binaryOp_repeat_ref (T:="list") (U:="int") (by decide) ⟨_,e,rfl⟩ (λs'=>typeIs_int s' k t) noFill_list_mul F.fills_int_mul F.slot_int_rmul repeat_list F.slot_int_index.lookup
  (call_meets F.slot_int_rmul (typeIs_int s k t) F.entry_int_rmul (F.args_int_rmul_2 _ _) (int___rmul___int_list k t l b.toArray n)
   ⟨e,rfl,⟨_,e,rfl⟩,call_meets F.slot_list_mul ⟨_,e,rfl⟩ F.entry_list_mul (F.args_list_mul_2 _ _) (AutoListH.list___mul___list_int_3 l b.toArray n k t f d c) ⟨e,?_⟩⟩)
 rw[i];exact⟨.ref _,_,I.lnew (t':=s.toks) (r.rep k.toNat) (by rw[a0Z,Nat.mul_comm];exact p),rfl,q _ I.fresh⟩
end
section
variable {prog:Program}{w:World}{A:Around}{E:Value->Shared->Prop}{s:Shared}
end
section
variable {X:Cx}
end
end L2
namespace Att
open PySem PySem.W PySem.Calls PyProof.Rows
theorem a1F{P:Params}{h:Heap}:∀(ns:List Int) (vs:List Value),WellAll P h vs (ns.map WData.int)->IntsAre vs ns:=by
 intro ns;induction ns with
 |nil =>
  intro vs w;rw[List.map_nil]at w;cases w;exact .nil
 |cons n ns c =>
  intro vs w;rw[List.map_cons]at w;cases w with
  |cons a b =>
   cases a;exact .cons _ _ (c _ b)
theorem a7v{l:OpenLaw}{n:Nat}(hn:l.most=some n){P:Params}{h:Heap}{args:List WData}{c:List Value}
  (b:l.row.toRowW.claim.pre args=true) (j:WellAll P h c args) :
  ∃a vs ns,c=[Value.ref a]/\args=[WData.list (ns.map WData.int)]/\h.get? a=some {cls:=.type "list",data:=.seq vs.toArray}/\IntsAre vs ns/\ns.length<=n:=by
 have hsh:WShape.hasAll [] args [.list .int]=true:=(pre_splitW b).1;have k:l.pre.holds [] {args:=args}=true:=(pre_splitW b).2;obtain⟨d,r,rfl,h1,h2⟩:=hasAllW_cons hsh;obtain rfl:=hasAllW_nil h2;obtain⟨xs,rfl,m⟩:=hasW_list h1;obtain⟨ns,rfl⟩:=items_int m;have f:ns.length<=n:=by
  unfold OpenLaw.pre at k;have g:(WTm.not (.lt (.lit (.int (n:Int))) (.len (.arg 0)))).holds [] {args:=[.list (ns.map .int)]}=true:=by
   have g:=(holds_andW k).1;rw[hn]at g;exact g
  have i:=condW_of g (w_not (w_lt w_lit (w_len_list (w_arg rfl))));rw[List.length_map]at i;refine Nat.le_of_not_lt λq=>?_;have p:(n:Int)<((ns.length:Nat):Int):=by omega
  first
   |(rw[decide_eq_true p]at i;exact absurd i (by decide))
   |(simp at i;omega)
 cases j with
 |cons w1 w2 =>
  cases w2;cases w1 with
  |list o e=>exact⟨_,_,ns,rfl,rfl,o,a1F ns _ e,f⟩
theorem a7D(l:OpenLaw)(args:List WData):l.row.toRowW.claim.post args (.bool true) args=true :=
 postW_of (r:=l.row.toRowW) (X:=(true==true))
  (show WShape.has [] (.bool true) .bool=true by first|rfl|decide|simp[WShape.has,WShape.arms,WShape.armsAll])
  (show(WTm.eq .res (.lit (.bool true))).value [] {args:=args,res:=some (.bool true),after:=args}=some (.bool (true==true))from w_eq_bool (w_res rfl) w_lit) rfl
theorem attach_call{l:OpenLaw}{n:Nat}{q:Program}{b:List Str}{XP:(Str->Option Value)->Heap->Prop}{u:World->Heap->Prop}{d:DefRec}
  (hn:l.most=some n) (m:d.params.defaults=[])
  (call:∀(w:World) (s₀ s₁:Shared) (mg t:Str->Option Value) (g:Addr) (o:Obj) (pm cd c:Value) (a:Addr) (vs:List Value) (ns:List Int),
   Ground q b [] XP w s₀ mg t s₁.heap->u w s₁.heap ->
   s₁.heap.get? g=some o->o.data=.func (docDef d.name d.params d.body d.scope pm cd c)->s₁.heap.CodeRec cd d.name->mg d.name=some (.ref g) ->
   s₁.heap.get? a=some {cls:=.type "list",data:=.seq vs.toArray}->IntsAre vs ns->ns.length<=n->s₁.gens=#[] ->
   codeAny (model l.prog w) callerA (.call (.ref g) ⟨[.ref a],[]⟩) (λr s'=>r=.ok (.ret (.bool true))/\OldK s₁.heap s'.heap/\s'.os=s₁.os/\AllBare s'.gens) s₁) :
  WalkO q b XP u l.row.toRowW d [] (λf vs=>PySem.call f vs):=by
 intro w s₀ s₁ mg t G Y g o pm cd c A kV H hd k x p D v z as j y J s E;obtain rfl:A=.none:=Dflts.none x m;obtain rfl:kV=.none:=Dflts.noKw x;obtain⟨a,vs,ns,rfl,rfl,i,e,h⟩:=a7v hn j s;refine enter_call (codeAny_mono (call w s₀ s₁ mg t g o pm cd c a vs ns G Y H (fd_plain hd) k p i e h D) λr s' I=>?_);obtain⟨rfl,h2,B,C⟩:=I;exact⟨.inl ⟨.bool true,.bool true,[],rfl,λ_=>rfl,.bool true,a7D l _,λ_=>⟨List.Pairwise.nil,λ_ F=>(nomatch F)⟩⟩,h2,B,C⟩
section
variable {prog:Program}{w:World}{A:Around}{E:Value->Shared->Prop}{s:Shared}{K:Frag}
end
end Att
namespace L2
open PySem PySem.Spec PyProof.Rows
theorem a3e:∀{vs:List Value}{ns:List Int},IntsAre vs ns->Vals (ns.map V.int) vs
 |_,_,.nil=>.nil
 |_,_,.cons n t h=>.cons ⟨t,rfl⟩ (a3e h)
def b6Y(H:Hp):Prop:=∀b,H b=none∨∃o xs,H b=some (.frz o (.lst xs))
theorem b0t{P:Program}{w:World}{K:PySem.W.Frag}{mg N:Str->Option Value}{CX:CXT}{k:Nat}{G a:Addr}{fd:FuncData}{x:Str}{sp:Sp}{s₁:Shared}{vs:List Value}{ns:List Int}
  (Q:K.In s₁.heap) (y:s₁.heap.Ns mainGlobals mg) (f:s₁.heap.Ns builtinsNs N) (J:∀x:Str,x≠"__name__"->N x=bootBuiltins x) (t:s₁.heap.NoLimit) (hg:s₁.gens=#[])
  (E:s₁.heap.get? a=some {cls:=.type "list",data:=.seq vs.toArray}) (hi:IntsAre vs ns) (T:ns.length<=sizeLine) (hr:Room k callerA)
  (F:∀base:Heap,K.In base->base.Ns mainGlobals mg->FnOk P w K mg base CX k G fd [x] sp) (j:∀(s:Shared) (u:Value),BindsTo s fd ⟨[u],[]⟩ [(x,u)])
  (M:∀H:Hp,b6Y H->SqL K H a (ns.map V.int)->sp [.ref a] H (λv _=>v=.bl true) λ_ _ _=>False)
  (I:∀H e s',CX [] H s₁ (λ_ _ _=>False) e s'->False) :
  codeAny (model P w) callerA (.call (.ref G) ⟨[.ref a],[]⟩) (λr s'=>r=.ok (.ret (.bool true))/\OldK s₁.heap s'.heap/\s'.os=s₁.os/\AllBare s'.gens) s₁:=by
 have U:=a3e hi;have C:=hi.length;have i:∀H:Hp,b6Y H->SqL K H a (ns.map V.int)->HOk P w H s₁.heap->(∀b,H b≠none->b=a)->(H a≠none->K.lookup a=none) ->
   codeAny (model P w) callerA (.call (.ref G) ⟨[.ref a],[]⟩) (λr s'=>r=.ok (.ret (.bool true))/\OldK s₁.heap s'.heap/\s'.os=s₁.os/\AllBare s'.gens) s₁:=by
  intro H S hS A R Y;have c:∀{b:Addr}{o:Obj},s₁.heap.get? b=some o->H b=none->(a4o s₁.heap H).get? b=some o:=λe n=>b0N e n;have O:∀{b:Addr}{o:Obj}{es:Array DictEntry}{ep:Nat},s₁.heap.get? b=some o->o.data=.dict es ep->H b=none:=λ{b o es ep} e d=>by
   cases q:H b with
   |none=>rfl
   |some u =>
    have e':b=a:=R b (by rw[q];simp);subst e';rw[E]at e;cases e;have W:Data.seq vs.toArray _=Data.dict es ep:=d;cases W
  have g:∀{b:Addr}{m:Str->Option Value},s₁.heap.Ns b m->(a4o s₁.heap H).Ns b m:=λ{b m} ⟨o,es,ep,e,d,r⟩=>⟨o,es,ep,c e (O e d),d,r⟩;have p:K.In (a4o s₁.heap H):=λb o e=>c (Q b o e) (by
   cases q:H b with
   |none=>rfl
   |some u =>
    have e':b=a:=R b (by rw[q];simp);subst e';rw[Y (by rw[q];simp)]at e;cases e)
  have Z:Mod K mg (a4o s₁.heap H):=⟨p,g y,⟨N,g f,J⟩,let ⟨mc,h1,h2⟩:=t;⟨mc,g h1,h2⟩⟩;have X:Env0 P w K mg (a4o s₁.heap H) callerA [] s₁ H:=⟨rfl,Z,λb o e=>b2L e,Nat.le_of_eq (a8c _ _),trivial,λb f=>absurd (show b∈([]:List Addr)from f) (by simp),A,.of_eq hg⟩;refine codeAny_mono ((F _ p (g y)).run callerA [] s₁ H ⟨[.ref a],[]⟩ [.ref a] [.ref a] _ _ hr X (j s₁ (.ref a)) (.cons rfl .nil) (M H S hS)) λr s' h=>?_;cases r with
  |error e=>exact(I H e s' h).elim
  |ok fl =>
   cases fl with
   |next=>exact False.elim h
   |brk=>exact False.elim h
   |cont=>exact False.elim h
   |ret u =>
    obtain⟨v,H',os,l,un,B,r',q⟩:=h;have q':v=.bl true:=q;subst q';obtain rfl:u=Value.bool true:=r';refine⟨rfl,OldK.of_keep λb o e=>?_,os,l⟩;cases q:H b with
    |none=>exact un.keep b o e q (by intro z;exact absurd (show b∈([]:List Addr)from z) (by simp)) (by simp)
    |some u =>
     rcases S b with z|⟨ob,xs,z⟩
     .rw[q]at z;cases z
     .have z2:=un.frzs b ob _ z;obtain⟨e1,_⟩:=A b _ z;obtain⟨e2,_⟩:=B b _ z2;rw[e]at e1;cases e1;exact e2
 cases L:K.lookup a with
 |some o =>
  have e:=Q a o L;rw[E]at e;cases e;refine i (λ_=>none) (λ_=>.inl rfl) (.inr ⟨_,vs.toArray,_,L,rfl,rfl,rfl,by rw[List.size_toArray,C];exact T,by simpa using U⟩) (λb u z=>by have D:(none:Option HO)=some u:=z;cases D) (λb z=>absurd rfl z) λz=>absurd rfl z
 |none =>
  refine i (λb=>if b=a then some (.frz {cls:=.type "list",data:=.seq vs.toArray} (.lst (ns.map V.int)))else none) (λb=>?_) (.inl (.inr ⟨{cls:=.type "list",data:=.seq vs.toArray},if_pos rfl⟩)) (λb u z=>?_) (λb z=>?_) λ_=>L
  .by_cases f:b=a
   .exact .inr ⟨_,_,if_pos f⟩
   .exact .inl (if_neg f)
  .by_cases f:b=a
   .have D:=(if_pos f).symm.trans z;cases D;subst f;exact⟨E,by rw[List.length_map];exact T,vs,_,U,E⟩
   .have D:=(if_neg f).symm.trans z;cases D
  .by_cases f:b=a
   .exact f
   .exact absurd (if_neg f) z
theorem walk_of{l:PySem.W.OpenLaw}{n k:Nat}{q:Program}{g:List Str}{XP:(Str->Option Value)->Heap->Prop}{A:World->Heap->Prop}{d:DefRec}{K:Params->PySem.W.Frag}{CX:World->CXT}{sp:World->Sp}{x:Str}
  (hn:l.most=some n) (t:n<=sizeLine) (p:d.params.defaults=[]) (N:Room k callerA)
  (I:∀(w:World) (h:Heap),A w h->(K w.params).In h)
  (F:∀(w:World) (mg:Str->Option Value) (j:Addr) (h:Heap),(K w.params).In h->h.Ns mainGlobals mg->mg d.name=some (.ref j) ->
   ∃fd:FuncData,(∀(s:Shared) (u:Value),BindsTo s fd ⟨[u],[]⟩ [(x,u)]) /\
    ∀base:Heap,(K w.params).In base->base.Ns mainGlobals mg->FnOk l.prog w (K w.params) mg base (CX w) k j fd [x] (sp w))
  (y:∀(w:World) (H:Hp) (a:Addr) (ns:List Int),ns.length<=n->b6Y H->SqL (K w.params) H a (ns.map V.int)->sp w [.ref a] H (λv _=>v=.bl true) λ_ _ _=>False)
  (m:∀(w:World) (H:Hp) (s:Shared) (e:Value) (s':Shared),CX w [] H s (λ_ _ _=>False) e s'->False) :
  PySem.W.WalkO q g XP A l.row.toRowW d [] (λf vs=>PySem.call f vs):=by
 refine Att.attach_call hn p λw s₀ s₁ mg P j o pm cd B a vs ns G Y O hd L r i c b M=>?_;have z:=I w _ Y;obtain⟨fd,J,C⟩:=F w mg j _ z G.T.g r;exact b0t z G.T.g G.T.b G.T.builtins G.T.nolimit M i c (Nat.le_trans b t) N C J (λH D E=>y w H a ns b D E) λH e s'=>m w H s₁ e s'
end L2
namespace L2
open PySem PySem.Spec PyProof.Rows
noncomputable def a0p(s:Stmt)(j:Nat):Stmt:=match s with
 |.ClassDef _ _ _ body _ _ _ _ _ _ _=>body.getD j (.Pass ⟨0,0,0,0⟩)
 |_=>.Pass ⟨0,0,0,0⟩
noncomputable def W1(s:Stmt):Arguments:=match s with
 |.FunctionDef _ a _ _ _ _ _ _ _ _=>a
 |_=>{posonlyargs:=[],args:=[],vararg:=none,kwonlyargs:=[],kw_defaults:=[],kwarg:=none,defaults:=[]}
noncomputable def K5(s:Stmt):List Stmt:=match s with
 |.FunctionDef _ _ b _ _ _ _ _ _ _=>b
 |_=>[]
noncomputable def A8(s:Stmt):Scope:=match s with
 |.FunctionDef _ _ _ _ _ _ sc _ _ _=>sc
 |_=>{kind:=.function,names:=[],isGenerator:=false,isCoroutine:=false}
abbrev CX0:CXT:=λ_ _ _ _ _ _=>False
abbrev E0:XK:=λ_ _ _=>False
theorem a4S{X:Cx}:Z1 CX0 X E0:=λ_ _ _ _ _ _ _ h=>h.elim
structure Fun(K:PySem.W.Frag)(x qual:Str)(st:Stmt)(f:Addr)(fd:FuncData):Prop where
 ex:∃(oc:Value) (od:Option Addr) (kV doc pm:Value) (an:Option Addr) (cdv ct:Value) (osl:Array (Option Value)),
  fd=PySem.W.fnOf x qual (W1 st) (K5 st) (A8 st) .none kV doc pm an cdv ct/\K.lookup f=some ⟨oc,od,.func fd,osl⟩/\PySem.W.codeIn K cdv qual=true
 kp:PySem.W.keepIn K (.ref f)=true
section
variable {P:Program}{w:World}{K:PySem.W.Frag}{mg:Str->Option Value}{base:Heap}
theorem Fun.ok{x qual:Str}{st:Stmt}{f:Addr}{fd:FuncData}{N ps:List Str}{k:Nat}{sp:Sp}(F:Fun K x qual st f fd)(S:FnScope N ps (A8 st))(len:∀vs H Q E,sp vs H Q E->vs.length=ps.length)
  (b:∀(a:Value) (A:Around) (outer:List Env) (s:Shared) (H:Hp) (vs:List V) (Q:VK) (E:XK),Room k (A.deeper (envOfC qual (A8 st) s.heap.objs.size f a))->sp vs H Q E ->
   ∃t,PSs (N9 CX0 P w K mg base N qual (A8 st) f a A outer s H E).nox (K5 st) t/\t {nx:=λ_ H'=>Q .non H',rt:=Q} (start N vs) H):FnOk P w K mg base CX0 (k+1) f fd ps sp:=by
 obtain⟨oc,od,kV,e,pm,an,a,ct,i,rfl,lk,c⟩:=F.ex;refine b4v lk c S len λA outer s H vs Q E g d=>?_;obtain⟨t,h,q⟩:=b a A outer s H vs Q E g d;exact⟨t,h.nox,q⟩
theorem Fun.binds{x qual:Str}{st:Stmt}{f:Addr}{fd:FuncData}{ps:List Str}(F:Fun K x qual st f fd)
  (h:∀(kV b pm:Value) (an:Option Addr) (a ct:Value) (us:List Value),us.length=ps.length->bindArgs (PySem.W.fnOf x qual (W1 st) (K5 st) (A8 st) .none kV b pm an a ct) ⟨us,[]⟩=pure (ps.zip us)):Binds K fd ps []:=by
 obtain⟨oc,od,kV,b,pm,an,a,ct,d,rfl,lk,c⟩:=F.ex;exact .all (h kV b pm an a ct)
theorem a2A{x qual:Str}{st:Stmt}{f:Addr}{oc:Value}{od an:Option Addr}{d:Array (Option Value)}{kV b pm a ct:Value}(l:K.lookup f=some ⟨oc,od,.func (PySem.W.fnOf x qual (W1 st) (K5 st) (A8 st) .none kV b pm an a ct),d⟩)
  (c:PySem.W.codeIn K a qual=true) (k:PySem.W.keepIn K (.ref f)=true):Fun K x qual st f (PySem.W.fnOf x qual (W1 st) (K5 st) (A8 st) .none kV b pm an a ct):=⟨⟨oc,od,kV,b,pm,an,a,ct,d,rfl,l,c⟩,k⟩
end
section
variable {X:Cx}
end
theorem Y9{A B:Prop}(h:B):if false=true then A else B:=by
 rw[if_neg Bool.false_ne_true];exact h
theorem a0I{A B:Prop}(h:A):if true=true then A else B:=by
 rw[if_pos rfl];exact h
theorem G7{c A B:Prop}[Decidable c](h1:c->A)(h2:¬c->B):if c then A else B:=by
 by_cases h:c
 .rw[if_pos h];exact h1 h
 .rw[if_neg h];exact h2 h
def Same(H H':Hp):Prop:=∀b o,H b=some o->H' b=some o
theorem Same.refl(H:Hp):Same H H:=λ_ _ h=>h
theorem Same.trans{H H1 H2:Hp}(a:Same H H1)(b:Same H1 H2):Same H H2:=λc o h=>b c o (a c o h)
theorem Same.free{H H':Hp}(e:Same H H'){l:Addr}(h:H' l=Option.none):H l=Option.none:=by
 cases q:H l with
 |none=>rfl
 |some o =>
  rw[e l o q]at h;cases h
theorem Same.seq{K:PySem.W.Frag}{H H':Hp}{a:Addr}{xs:List V}(e:Same H H')(h:SqL K H a xs):SqL K H' a xs:=by
 rcases h with(h|⟨o,h⟩)|h
 .exact .inl (.inl (e _ _ h))
 .exact .inl (.inr ⟨o,e _ _ h⟩)
 .exact .inr h
noncomputable def M7(env:Env)(cs:List (Str×Addr))(x:Str×NameKind):List (Str×Addr) :=
 if x.2==.free then(match env.cells.lookup x.1 with|some a=>(x.1,a)::cs|none=>cs)else cs
noncomputable def a1G(scope:Scope)(env:Env):List (Str×Addr):=scope.names.foldl (M7 env) []
theorem a2K{env:Env}(f:Str×NameKind->List (Str×Addr)->Sem (ForInStep (List (Str×Addr))))
  (b:∀n k r,f (n,k) r=if (k==NameKind.free)=true then(do let a <-cellOf env n;pure (ForInStep.yield ((n,a)::r)))else pure (ForInStep.yield r)) :
  ∀(names:List (Str×NameKind)) (cs:List (Str×Addr)),(∀x∈names,x.2=.free->∃a,env.cells.lookup x.1=some a)->forIn names cs f=pure (names.foldl (M7 env) cs)
 |[],cs,_=>rfl
 |(n,k)::r,cs,h=>by
  rw[List.forIn_cons,List.foldl_cons,b];have e:=λy g=>h y (List.mem_cons_of_mem _ g);by_cases d:k=.free
  .subst d;obtain⟨a,c⟩:=h (n,NameKind.free) List.mem_cons_self rfl;have e1:cellOf env n=pure a:=by unfold cellOf;rw[c]
   have e2:M7 env cs (n,NameKind.free)=(n,a)::cs:=by unfold M7;rw[c];rfl
   rw[e2,<-a2K f b r _ e,e1];rfl
  .have hb:(k==NameKind.free)=false:=by simpa using d
   have e2:M7 env cs (n,k)=cs:=by unfold M7;rw[hb];rfl
   rw[e2,<-a2K f b r _ e,hb];rfl
theorem b1i{scope:Scope}{env:Env}(h:∀x∈scope.names,x.2=.free->∃a,env.cells.lookup x.1=some a):closureFor scope env=pure (a1G scope env):=by
 simp only[closureFor];rw[a2K (env:=env) _ (λn k r=>by cases b:k==NameKind.free<;>simp[b]) scope.names [] h];rfl
theorem a3A{env:Env}{x:Str}{c:Addr}:∀(names:List (Str×NameKind)) (cs:List (Str×Addr)),(names.foldl (M7 env) cs).lookup x=some c->env.cells.lookup x=some c∨cs.lookup x=some c
 |[],cs,h=>.inr h
 |y::r,cs,h=>by
  rw[List.foldl_cons]at h;rcases a3A r _ h with z|z
  .exact .inl z
  .unfold M7 at z;split at z
   .split at z
    .rename_i a ha;rw[List.lookup_cons]at z;cases b:x==y.1 with
     |true =>
      rw[b]at z;rw[beq_iff_eq.mp b];exact .inl (ha.trans z)
     |false =>
      rw[b]at z;exact .inr z
    .exact .inr z
   .exact .inr z
theorem a0u{scope:Scope}{env:Env}{x:Str}{c:Addr}(h:(a1G scope env).lookup x=some c):env.cells.lookup x=some c :=
 (a3A scope.names [] h).elim id λz=>by cases z
theorem a0L{env:Env}{x:Str}{a:Addr}(d:env.cells.lookup x=some a):∀(names:List (Str×NameKind)) (cs:List (Str×Addr)),((x,NameKind.free)∈names∨cs.lookup x=some a)->(∀c,cs.lookup x=some c->c=a)->(names.foldl (M7 env) cs).lookup x=some a
 |[],cs,h,_=>h.elim (λz=>by cases z) id
 |y::r,cs,h,i=>by
  rw[List.foldl_cons];by_cases b:y.2=.free/\y.1=x
  .have e2:M7 env cs y=(x,a)::cs:=by unfold M7;rw[b.2,d,b.1];rfl
   rw[e2];have f:((x,a)::cs).lookup x=some a:=by rw[List.lookup_cons];simp
   exact a0L d r _ (.inr f) λc z=>by rw[f]at z;exact(Option.some.inj z).symm
  .have same:(M7 env cs y).lookup x=cs.lookup x:=by
    unfold M7;split
    .rename_i hk;split
     .have hne:(x==y.1)=false:=by
       cases g:x==y.1 with
       |false=>rfl
       |true=>exact absurd ⟨by simpa using hk,(beq_iff_eq.mp g).symm⟩ b
      rw[List.lookup_cons,hne]
     .rfl
    .rfl
   refine a0L d r _ ?_ (by rw[same];exact i);rw[same];rcases h with z|z
   .rcases List.mem_cons.mp z with e|z
    .exact absurd ⟨by rw[<-e],by rw[<-e]⟩ b
    .exact .inl z
   .exact .inr z
theorem a5u{scope:Scope}{env:Env}{x:Str}{a:Addr}(b:env.cells.lookup x=some a)(d:(x,NameKind.free)∈scope.names):(a1G scope env).lookup x=some a :=
 a0L b _ _ (.inl d) λc z=>by cases z
theorem X6{x:Str}{c:Addr}:∀(names:List (Str×NameKind)) (n:Nat) (a:List (Str×Addr)),(cellsFrom n names a).lookup x=some c->(n<=c/\(x,NameKind.cell)∈names)∨a.lookup x=some c
 |[],_,_,h=>.inr h
 |(y,k)::r,n,a,h=>by
  unfold cellsFrom at h;split at h
  .rename_i hk;have d:k=.cell:=by simpa using hk
   rcases X6 r _ _ h with⟨f,e⟩|z
   .exact .inl ⟨by omega,List.mem_cons_of_mem _ e⟩
   .rw[List.lookup_cons]at z;cases b:x==y with
    |true =>
     rw[b]at z;cases z;exact .inl ⟨Nat.le_refl _,by rw[d,beq_iff_eq.mp b];exact List.mem_cons_self⟩
    |false =>
     rw[b]at z;exact .inr z
  .rcases X6 r _ _ h with⟨f,e⟩|z
   .exact .inl ⟨f,List.mem_cons_of_mem _ e⟩
   .exact .inr z
theorem a6q:∀(names:List (Str×NameKind)) (n:Nat) (a:List (Str×Addr)),(∀x c,a.lookup x=some c->c<n)->(∀x y c,a.lookup x=some c->a.lookup y=some c->x=y) ->
  ∀x y c,(cellsFrom n names a).lookup x=some c->(cellsFrom n names a).lookup y=some c->x=y
 |[],_,_,_,h2=>h2
 |(z,k)::r,n,a,h1,h2=>by
  unfold cellsFrom;split
  .have lk:∀x c,List.lookup x ((z,n)::a)=some c->(x=z/\c=n)∨a.lookup x=some c:=λx c e=>by
    rw[List.lookup_cons]at e;cases b:x==z with
    |true=>rw[b]at e;cases e;exact .inl ⟨beq_iff_eq.mp b,rfl⟩
    |false=>rw[b]at e;exact .inr e
   refine a6q r (n+1) _ (λx c e=>?_) λx y c e e'=>?_
   .rcases lk x c e with⟨_,q⟩|q
    .rw[q];exact Nat.lt_succ_self _
    .exact Nat.lt_succ_of_lt (h1 x c q)
   .rcases lk x c e with⟨q1,q2⟩|q<;>rcases lk y c e' with⟨d,p2⟩|p
    .rw[q1,d]
    .exact absurd (h1 y c p) (by rw[q2];exact Nat.lt_irrefl _)
    .exact absurd (h1 x c q) (by rw[p2];exact Nat.lt_irrefl _)
    .exact h2 x y c q p
  .exact a6q r n a h1 h2
theorem a4v{x:Str}:∀(names:List (Str×NameKind)) (n:Nat) (a:List (Str×Addr)),((x,NameKind.cell)∈names∨∃c,a.lookup x=some c)->∃c,(cellsFrom n names a).lookup x=some c
 |[],_,_,h=>h.elim (λz=>by cases z) id
 |(y,k)::r,n,a,h=>by
  unfold cellsFrom;split
  .rename_i hk;refine a4v r _ _ ?_;by_cases b:x=y
   .exact .inr ⟨n,by rw[List.lookup_cons,b];simp⟩
   .have hb:(x==y)=false:=beq_eq_false_iff_ne.mpr b;rcases h with z|⟨c,z⟩
    .rcases List.mem_cons.mp z with e|z
     .exact absurd (Prod.mk.inj e).1 b
     .exact .inl z
    .exact .inr ⟨c,by rw[List.lookup_cons,hb];exact z⟩
  .rename_i hk;refine a4v r _ _ ?_;rcases h with z|z
   .rcases List.mem_cons.mp z with e|z
    .exact absurd (by rw[<-(Prod.mk.inj e).2];rfl) hk
    .exact .inl z
   .exact .inr z
theorem a3Y{x:Str}{c:Addr}:∀(names:List (Str×NameKind)) (h:Heap) (a:List (Str×Addr)),(∀x c,a.lookup x=some c->∃v,h.IsCell c v)->(cellsFrom h.objs.size names a).lookup x=some c->∃v,(pushCells h names).IsCell c v
 |[],h,a,d,e=>d x c e
 |(y,k)::r,h,a,d,e=>by
  unfold cellsFrom at e;unfold pushCells;split at e
  .rename_i hk;rw[if_pos hk];rw[show h.objs.size+1=(h.push {cls:=.type "cell",data:=.cell none}).objs.size from(Heap.size_push ..).symm]at e;refine a3Y r _ _ (λx' g e'=>?_) e;rw[List.lookup_cons]at e';cases f:x'==y with
   |true=>rw[f]at e';cases e';exact⟨_,_,Heap.get?_push_size _ rfl,rfl⟩
   |false =>
    rw[f]at e';obtain⟨v,z⟩:=d x' g e';exact⟨v,z.keeps λb o q=>Heap.get?_push_of_some _ q⟩
  .rename_i hk;rw[if_neg hk];exact a3Y r _ _ d e
section
variable {M:Model}{A:Around}{E:Value->Shared->Prop}{s:Shared}
theorem a5B{scope:Scope}{b:Addr}{a:List (Str×Addr)}{qual:Str}{outer:Env}{Q:Env->Shared->Prop}
  (f:Q (newEnv scope s.heap.objs.size b (cellsFrom (s.heap.objs.size+1) scope.names a) qual none .none (some outer) builtinsNs) {s with heap:=pushCells (s.heap.push {cls:=.type "dict",data:=.dict #[]}) scope.names}) :
  wpAny M A (newFunctionEnv scope b a [] qual none .none (some outer)) Q E s:=by
 simp only[newFunctionEnv,Option.isSome_some,if_true];refine wpAny_bind (wpAny_alloc ?_);refine wpAny_bind (wpAny_layCells _ (λname c d=>by cases e:c==NameKind.cell<;>simp[e]) _ _ _ _ ?_);rw[show({s with heap:=s.heap.push {cls:=.type "dict",data:=.dict #[]}}:Shared).heap.objs.size=s.heap.objs.size+1 from Heap.size_push ..];exact wpAny_bind (wpAny_pure (wpAny_pure f))
end
section
variable {prog:Program}{w:World}{A:Around}{s:Shared}
abbrev NoX:Value->Shared->Prop:=λ_ _=>False
theorem toE{α:Type}{M:Model}{A:Around}{t:Sem α}{Q b:α->Shared->Prop}{E:Value->Shared->Prop}{s:Shared}(h:wpAny M A t Q NoX s)(c:∀a s,Q a s->b a s):wpAny M A t b E s :=
 wpAny_mono h c λ_ _ z=>z.elim
theorem a4t{e a b:Expr}{f:List Expr}{scope:Scope}{pos:Pos}{it d:Value}{env:Env}{R:Result->Shared->Prop}(I:Nat->Shared->Prop)
  (g:∀n s,I n s->wpAny (model prog w) A (pyNext it) (λr s₁=>match r with
   |none=>R (.ok .next) s₁
   |some v=>wpAny (model prog w) A (letOwnedTupleGo a it v) (λ_ s₂=>wpAny (model prog w) A (assign a env v) (λ_ s₃ =>
     wpAny (model prog w) A (forIn f true λc r=>if r=true then do let ok <-isTrue c env (eval c env);pure (ForInStep.yield ok)else pure (ForInStep.yield r)) (λok s₄ =>
      if ok=true then wpAny (model prog w) A (eval e env) (λx s₅=>wpAny (model prog w) A (call (.builtin "list.append") [d,x]) (λ_ s₆=>∃m,m<n/\I m s₆) NoX s₅) NoX s₄
      else ∃m,m<n/\I m s₄) NoX s₃) NoX s₂) NoX s₁) NoX s)
  (n:Nat) (h:I n s):codeAny (model prog w) A (.compLoop (.ListComp e [⟨a,b,f,0⟩] scope pos) 0 it d env) R s:=by
 refine codeAny_loop rfl I (λn s i=>?_) n h;show wpAny _ A ((compTurn (.ListComp e [⟨a,b,f,0⟩] scope pos) 0 it d env).onRaise (λx=>do noteFrame x env;theTreesLotGoes x)) _ _ s;refine wpAny_noted ?_;rw[compTurn_list];refine wpAny_bind (wpAny_standAt (wpAny_bind (toE (g n s i) λr s₁ h₁=>?_)));cases r with
 |none=>exact wpAny_pure h₁
 |some v =>
  refine wpAny_bind (toE h₁ λ_ s₂ h₂=>wpAny_bind (toE h₂ λ_ s₃ h₃=>wpAny_bind (toE h₃ λok s₄ h₄=>?_)));cases ok with
  |false=>exact wpAny_pure ⟨rfl,h₄⟩
  |true=>exact wpAny_bind (wpAny_bind (toE h₄ λx s₅ h₅=>wpAny_bind (toE h₅ λ_ s₆ h₆=>wpAny_pure (wpAny_pure ⟨rfl,h₆⟩))))
end
noncomputable def Cx.blk(X:Cx)(N:List Str)(scope:Scope)(cells:List (Str×Addr))(C:Addr)(s:Shared)(H:Hp)(ex:List Addr):Cx :=
 {X with N:=N,s₀:=s,H₀:=H,env:=compEnvC scope cells C X.env,outer:=X.stack,stack:=X.stack,ex:=ex,fn:=λx=>scope.names.any λy=>y.1==x && y.2==.cell,pn:=[],xe:=NoX}
noncomputable def D6(src:List (Option Nat))(σ:St):St:=src.map λo=>o.bind λj=>(σ[j]?).join
noncomputable def K6(sc out:Scope):Bool:=sc.names.all λx=>x.2 != .free || (out.names.lookup x.1==some .cell || out.names.lookup x.1==some .free)
noncomputable def Q8:List Str->List (Option Nat)->List Str->Scope->Bool
 |[],[],_,_=>true
 |x::N,o::src,M,sc=>(match o with|none=>true|some j=>M[j]? == some x && sc.names.lookup x==some .free) && Q8 N src M sc
 |_,_,_,_=>false
noncomputable def a3S(sc:Scope):Bool:=sc.kind==.function && sc.names.all λx=>sc.names.lookup x.1==some x.2
theorem a3B:∀{N:List Str}{src:List (Option Nat)}{M:List Str}{a:Scope},Q8 N src M a=true->src.length=N.length
 |[],[],_,_,_=>rfl
 |_::N,_::src,M,a,h=>by
  unfold Q8 at h;rw[Bool.and_eq_true]at h;rw[List.length_cons,List.length_cons,a3B h.2]
 |[],_::_,_,_,h=>by simp[Q8]at h
 |_::_,[],_,_,h=>by simp[Q8]at h
theorem a3C:∀{N:List Str}{src:List (Option Nat)}{M:List Str}{a:Scope}{i:Nat}{x:Str}{j:Nat},Q8 N src M a=true->N[i]?=some x->src[i]?=some (some j)->M[j]?=some x/\a.names.lookup x=some .free
 |[],[],_,_,_,_,_,_,h,_=>by simp at h
 |y::N,o::src,M,a,0,x,j,h,h1,h2=>by
  unfold Q8 at h;rw[Bool.and_eq_true]at h;simp at h1 h2;subst h1 h2;have q:=h.1;rw[Bool.and_eq_true]at q;exact⟨beq_iff_eq.mp q.1,beq_iff_eq.mp q.2⟩
 |y::N,o::src,M,a,i+1,x,j,h,h1,h2=>by
  unfold Q8 at h;rw[Bool.and_eq_true]at h;exact a3C h.2 (by simpa using h1) (by simpa using h2)
 |[],_::_,_,_,_,_,_,h,_,_=>by simp[Q8]at h
 |_::_,[],_,_,_,_,_,h,_,_=>by simp[Q8]at h
theorem a8A{src:List (Option Nat)}{σ:St}{i:Nat}{v:V}(h:(D6 src σ)[i]?=some (some v)):∃j,src[i]?=some (some j)/\σ[j]?=some (some v):=by
 unfold D6 at h;rw[List.getElem?_map]at h;cases e:src[i]? with
 |none=>rw[e]at h;cases h
 |some o =>
  rw[e]at h;cases o with
  |none=>cases h
  |some j =>
   refine⟨j,rfl,?_⟩;have h':(σ[j]?).join=some v:=Option.some.inj h;cases q:σ[j]? with
   |none=>rw[q]at h';cases h'
   |some z=>rw[q]at h';rw[show z=some v from h']
theorem Z8{env:Env}:∀{names:List (Str×NameKind)}{x:Str}{k:NameKind},
  (names.map λ(n,k)=>if (k==NameKind.free && env.scope.kind==.function && env.kindOf n==some .cell)then(n,NameKind.cell)else(n,k)).lookup x=some k ->
  ∃k',names.lookup x=some k'/\(k=k'∨(k'=.free/\k=.cell))
 |[],_,_,h=>by cases h
 |(n,k0)::r,x,k,h=>by
  rw[List.map_cons,List.lookup_cons]at h;rw[List.lookup_cons];dsimp only at h;split at h
  .rename_i h0;have a:x==n:=by
    split at h0<;>exact h0
   rw[a];refine⟨k0,rfl,?_⟩;split at h
   .rename_i hc;cases h;simp only[Bool.and_eq_true]at hc;exact .inr ⟨by simpa using hc.1.1,rfl⟩
   .cases h;exact .inl rfl
  .rename_i h0;have a:(x==n)=false:=by
    split at h0<;>exact h0
   rw[a];exact Z8 h
theorem N5{env:Env}:∀{names:List (Str×NameKind)}{x:Str}{k':NameKind},names.lookup x=some k' ->
  ∃k,(names.map λ(n,k)=>if (k==NameKind.free && env.scope.kind==.function && env.kindOf n==some .cell)then(n,NameKind.cell)else(n,k)).lookup x=some k/\(k=k'∨(k'=.free/\k=.cell))
 |[],_,_,h=>by cases h
 |(n,k0)::r,x,k',h=>by
  rw[List.lookup_cons]at h;rw[List.map_cons];by_cases b:(k0==NameKind.free && env.scope.kind==.function && env.kindOf n==some .cell)=true
  .simp only[b,if_true];rw[List.lookup_cons];cases a:x==n with
   |true =>
    rw[a]at h;cases h;simp only[Bool.and_eq_true]at b;exact⟨_,rfl,.inr ⟨by simpa using b.1.1,rfl⟩⟩
   |false=>rw[a]at h;exact N5 h
  .simp only[if_neg b];rw[List.lookup_cons];cases a:x==n with
   |true=>rw[a]at h;cases h;exact⟨_,rfl,.inl rfl⟩
   |false=>rw[a]at h;exact N5 h
def PIf(X:Cx)(ifs:List Expr)(t:TT):Prop :=
 ∀(pins:List (Addr×Obj)) (s:Shared) (σ:St) (H:Hp) (Q:Bool->Hp->Prop),Inv X pins σ H s->t σ H Q ->
  wpAny (model X.prog X.w) X.A (forIn ifs true λc r=>if r=true then do let ok <-isTrue c X.env (eval c X.env);pure (ForInStep.yield ok)else pure (ForInStep.yield r)) (TP X pins σ Q) X.xe s
def a1Z:TT:=λ_ H Q=>Q true H
theorem b2h{X:Cx}:PIf X [] a1Z:=λpins s σ H Q I h=>wpAny_tests_nil ⟨H,I,h⟩
theorem b2g{X:Cx}{c:Expr}{t:TT}(h:PT X c t):PIf X [c] t:=λpins s σ H Q I q=>wpAny_tests_one (h pins s σ H Q I q)
def Sub(σ σ':St):Prop:=σ.length=σ'.length/\∀(i:Nat) (v:V),σ[i]?=some (some v)->σ'[i]?=some (some v)
def U8(src:List (Option Nat))(g:TG)(tt:TT)(te:TE)(σ:St)(Q:VK)(J:It)(H1:Hp):Prop :=
 ∃W:Nat->Nat->List V->Hp->Prop,(∃m,W 0 m [] H1)/\∀i m ys H,W i m ys H ->
  (J.stop i H/\ys.length<=sizeLine/\∀p,H p=none->Q (.ref p) (upd H p (.lst ys))) ∨
  (J.go i H/\ys.length<sizeLine/\∃N:List V->Hp->Prop,(∀zs H',N zs H'->∃m',m'<m/\W (i+1) m' zs H')/\∀x H',J.yld i H x H'->g x (D6 src σ) H' λσ2 H2=>Sub (D6 src σ) σ2/\tt σ2 H2 λb H3 =>
   if b=true then te σ2 H3 λv H4=>N (ys++[v]) H4 else N ys H3)
def a4I(src:List (Option Nat))(wi:TI)(g:TG)(tt:TT)(te:TE):TE:=λσ H Q=>wi σ H (U8 src g tt te σ Q)
section
variable {X:Cx}{pins:List (Addr×Obj)}{σ:St}{H:Hp}{s:Shared}
theorem Inv.block{N:List Str}{src:List (Option Nat)}{scope:Scope}{fp:List Addr}(I:Inv X pins σ H s)(O:∀b∈fp,a1s X pins H b)(U:∀b∈fp,∃o,s.heap.get? b=some o)
  (G:K6 scope X.env.scope=true) (C:Q8 N src X.N scope=true) (B:a3S scope=true) {lo:Obj} :
  Inv (X.blk N scope (cellsFrom (s.heap.objs.size+2) scope.names (a1G scope X.env)) (s.heap.objs.size+1) s H fp) [] (D6 src σ) H
   {s with heap:=pushCells ((s.heap.push lo).push {cls:=.type "dict",data:=.dict #[]}) scope.names}:=by
 unfold a3S at B;rw[Bool.and_eq_true]at B;have D:scope.kind=.function:=by simpa using B.1
 have E:∀x∈scope.names,scope.names.lookup x.1=some x.2:=λx t=>by simpa using List.all_eq_true.mp B.2 x t
 have g:∀x∈scope.names,x.2=.free->X.env.kindOf x.1=some .cell∨X.env.kindOf x.1=some .free:=λx t f=>by
  have q:=List.all_eq_true.mp G x t;rw[f]at q;have R:(X.env.scope.names.lookup x.1==some .cell || X.env.scope.names.lookup x.1==some .free)=true:=by simpa using q
  rw[Bool.or_eq_true]at R;exact R.imp (λz=>beq_iff_eq.mp z) λz=>beq_iff_eq.mp z
 have keep:∀b o,s.heap.get? b=some o->(pushCells ((s.heap.push lo).push {cls:=.type "dict",data:=.dict #[]}) scope.names).get? b=some o:=λb o e =>
  pushCells_keeps _ _ _ _ (Heap.get?_push_of_some _ (Heap.get?_push_of_some _ e))
 have Q:∀x c,(a1G scope X.env).lookup x=some c->c<s.heap.objs.size:=λx c e=>by
  obtain⟨v,z⟩:=I.cell x c (a0u e);exact z.lt
 have d:∀x c,(cellsFrom (s.heap.objs.size+2) scope.names (a1G scope X.env)).lookup x=some c->(s.heap.objs.size+2<=c/\(x,NameKind.cell)∈scope.names)∨X.env.cells.lookup x=some c:=λx c e =>
  (X6 _ _ _ e).imp id a0u
 have J:∀x k,(compEnvC scope (cellsFrom (s.heap.objs.size+2) scope.names (a1G scope X.env)) (s.heap.objs.size+1) X.env).kindOf x=some k->∃k',scope.names.lookup x=some k'/\(k=k'∨(k'=.free/\k=.cell)):=λx k e =>
  Z8 (env:=X.env) e
 have mem:∀{x k},scope.names.lookup x=some k->(x,k)∈scope.names:=λe=>mem_of_lookup e;refine⟨⟨I.ok.mod,?_,I.ok.glob,I.ok.blt,?_,?_,?_,?_,I.ok.hd,I.ok.frames,.inl rfl,?_,I.bs,Nat.le_trans I.ok.bsz I.sz,?_,?_,I.stack,I.stkFree⟩,rfl,I.bare,Un.kept keep,?_,?_,?_,?_,?_,I.hok.kept keep,?_⟩
 .exact D
 .exact Nat.le_succ _
 .-- inj
  refine a6q _ _ _ (λx c e=>?_) λx y c e e'=>I.ok.inj x y c (a0u e) (a0u e');exact Nat.lt_of_lt_of_le (Q x c e) (Nat.le_add_right _ 2)
 .-- has
  intro x t;refine a4v _ _ _ ?_;have f:∃k',scope.names.lookup x=some k'/\(k'=.cell∨k'=.free):=by
   rcases t with t|t
   .obtain⟨k',e,z⟩:=J x _ t;exact⟨k',e,z.elim (λz=>.inl z.symm) λz=>.inr z.1⟩
   .obtain⟨k',e,z⟩:=J x _ t;exact⟨k',e,z.elim (λz=>.inr z.symm) λz=>by cases z.2⟩
  obtain⟨k',e,rfl|rfl⟩:=f
  .exact .inl (mem e)
  .obtain⟨a,ha⟩:=I.ok.has x (g _ (mem e) rfl);exact .inr ⟨a,a5u ha (mem e)⟩
 .-- cab
  intro x c t e;rcases d x c e with z|z
  .exact Nat.le_trans (Nat.le_add_right _ 2) z.1
  .-- x is the block's own cell, so it is not in the closure's part
   exfalso;obtain⟨y,W,F⟩:=List.any_eq_true.mp t;rw[Bool.and_eq_true]at F;have e1:y.1=x:=beq_iff_eq.mp F.1;have e2:y.2=.cell:=by simpa using F.2
   have Z:scope.names.lookup x=some .cell:=by rw[<-e1,<-e2];exact E y W
   rcases X6 _ _ _ e with q|q
   .obtain⟨v,z'⟩:=I.cell x c z;exact absurd (Nat.lt_of_lt_of_le z'.lt (Nat.le_trans (Nat.le_add_right _ 2) q.1)) (Nat.lt_irrefl _)
   .-- the closure holds free names alone
    have fr:∀(names:List (Str×NameKind)) (K:List (Str×Addr)),(names.foldl (M7 X.env) K).lookup x=some c->(x,NameKind.free)∈names∨K.lookup x=some c:=by
     intro names;induction names with
     |nil=>intro K h;exact .inr h
     |cons n r Y =>
      intro K h;rw[List.foldl_cons]at h;rcases Y _ h with w|w
      .exact .inl (List.mem_cons_of_mem _ w)
      .unfold M7 at w;split at w
       .rename_i f;split at w
        .rw[List.lookup_cons]at w;cases A:x==n.1 with
         |true =>
          have:n=(x,NameKind.free):=Prod.ext (beq_iff_eq.mp A).symm (by simpa using f);exact .inl (by rw[this];exact List.mem_cons_self)
         |false=>rw[A]at w;exact .inr w
        .exact .inr w
       .exact .inr w
    rcases fr _ _ q with w|w
    .have:=E _ w;rw[Z]at this;cases this
    .cases w
 .-- exf
  intro b A;obtain⟨o,e⟩:=U b A;have lt:=Heap.lt_size e;refine⟨Nat.ne_of_lt (Nat.lt_succ_of_lt lt),λx c M=>?_⟩;rcases d x c M with z|z
  .exact Nat.ne_of_gt (Nat.lt_of_lt_of_le lt (Nat.le_trans (Nat.le_add_right _ 2) z.1))
  .exact(O b A).2.2.2.2.1 x c z
 .-- noex
  intro b o e A;rcases(O b A).2.2.2.1 with z|z
  .exact I.ok.noex b o e z
  .exact absurd (Nat.lt_of_lt_of_le (Heap.lt_size (I.ok.bs b o e).1) z) (Nat.lt_irrefl _)
 .-- exfs
  intro b A z;rcases List.mem_cons.mp (I.stkSub b z)with q|q
  .exact(O b A).2.1 q
  .exact(O b A).2.2.1 q
 .-- loc
  refine⟨λ_=>none,?_,λi x v e1 e2 e3=>?_⟩
  .have:=(Heap.Ns.new (s.heap.push lo) (.type "dict")).keeps (pushCells_keeps scope.names _);rw[Heap.size_push]at this;exact this
  .obtain⟨j,e4,e5⟩:=a8A e2;obtain⟨S,L⟩:=a3C C e1 e4;obtain⟨m,_,T⟩:=I.loc;have f:=g _ (mem L) rfl;have V:Vis X.env.scope x:=.inr (f.imp id id);obtain⟨u,r,l⟩:=T j x v S e5 V;refine⟨u,r,.inr ⟨?_,?_⟩⟩
   .obtain⟨k,q,z⟩:=N5 (env:=X.env) L;rcases z with z|z
    .exact .inr (by rw[<-z];exact q)
    .exact .inl (by rw[<-z.2];exact q)
   .rcases l with l|⟨_,c,M,z⟩
    .exfalso;rcases f with f|f<;>rw[l.1]at f<;>cases f
    .refine⟨c,?_,z.keeps keep⟩;have own:¬(x,NameKind.cell)∈scope.names:=λw=>by
      have:=E _ w;rw[L]at this;cases this
     obtain⟨P,q⟩:=a4v (x:=x) scope.names (s.heap.objs.size+2) (a1G scope X.env) (.inr ⟨c,a5u M (mem L)⟩);rcases d x P q with w|w
     .exact absurd w.2 own
     .rw[M]at w;cases w;exact q
 .-- cell
  intro x c e;have e':(cellsFrom ((s.heap.push lo).push {cls:=.type "dict",data:=.dict #[]}).objs.size scope.names (a1G scope X.env)).lookup x=some c:=by
   rw[Heap.size_push,Heap.size_push];exact e
  refine a3Y _ _ _ (λx' P q=>?_) e';obtain⟨v,z⟩:=I.cell x' P (a0u q);exact⟨v,z.keeps λb o q=>Heap.get?_push_of_some _ (Heap.get?_push_of_some _ q)⟩
 .exact I.hok.fresh (Nat.le_succ _)
 .intro x c e;rcases d x c e with z|z
  .exact I.hok.fresh (Nat.le_trans (Nat.le_add_right _ 2) z.1)
  .exact I.freeC x c z
 .intro p hp;cases hp
 .show(D6 src σ).length=N.length;unfold D6;rw[List.length_map];exact a3B C
theorem Inv.unblock{N:List Str}{scope:Scope}{f:List (Str×Addr)}{C a:Addr}{fp:List Addr}{pins':List (Addr×Obj)}{σ':St}{H':Hp}{s':Shared}{h':Heap}{ys:List V}{us:List Value}{n:Nat}
  (I:Inv X pins σ H s) (y:∀b∈fp,a1s X pins H b) (x:s.heap.objs.size<=C) (w:s.heap.objs.size<=a) (p:a≠C) (J:Inv (X.blk N scope f C s H fp) pins' σ' H' s')
  (hn:H' a=none) (A:s'.heap.get? a=some {cls:=.type "list",data:=.seq us.toArray n}) (B:Vals ys us) (D:ys.length<=sizeLine) (m:Heap.SameBut C s'.heap h') :
  Inv X pins σ (upd H' a (.lst ys)) {s' with heap:=h'}:=by
 have base:Un (frs X.stack) fp H H' s.heap s'.heap:=J.base;have kp:∀b o,b≠C->s'.heap.get? b=some o->h'.get? b=some o:=λb o q e=>m.extBut b o q e;have d:∀b o,s.heap.get? b=some o->b≠C/\b≠a:=λb o e=>by
  have:=Heap.lt_size e;exact⟨Nat.ne_of_lt (Nat.lt_of_lt_of_le this x),Nat.ne_of_lt (Nat.lt_of_lt_of_le this w)⟩
 have h:H' C=none:=J.free;have i:H a=none:=I.hok.fresh w;have k:HOk X.prog X.w H' s'.heap:=J.hok;have v:HOk X.prog X.w (upd H' a (.lst ys)) h':=by
  intro b o e;by_cases j:b=a
  .subst j;rw[A0]at e;cases e;exact⟨D,us,n,B,kp _ _ p A⟩
  .rw[A5 j]at e;refine(k b o e).stay (λc u l q=>kp c u ?_ q) (λc q=>?_) λc xs q=>?_
   .rintro rfl;rcases l with rfl|l
    .rw[h]at e;cases e
    .rw[h]at l;cases l
   .rw[A5 (by rintro rfl;rw[hn]at q;cases q)];exact q
   .rw[A5 (by rintro rfl;rw[hn]at q;cases q)];exact q
 have g:∀b u,H b=some u->b≠a:=λb u e=>by rintro rfl;rw[i]at e;cases e
 refine I.call' (s':={s' with heap:=h'}) (ch:=fp) (J.os) ⟨λb o e q r t=>?_,λb o e q r t=>?_,λb o e q t=>?_,λb o e t=>?_,λb xs e=>?_,λb o u e=>?_,λb ps e=>?_⟩ v J.bare λb m=>?_
 .exact kp b o (d b o e).1 (base.keep b o e q r t)
 .obtain⟨sl,z⟩:=base.slot b o e q r t;exact⟨sl,kp b _ (d b o e).1 z⟩
 .rw[A5 (d b o e).2];exact base.free b o e q t
 .obtain⟨o',z⟩:=base.there b o e t;exact⟨o',kp b _ (d b o e).1 z⟩
 .rw[A5 (g b _ e)];exact base.tups b xs e
 .rw[A5 (g b _ e)];exact base.frzs b o u e
 .rw[A5 (g b _ e)];exact base.tbls b ps e
 .obtain⟨_,h1,_,h3,h4,h5⟩:=y b m;exact⟨h3,h1,h4,h5⟩
set_option maxHeartbeats 4000000 in
theorem a3z{tg w G:Expr}{L:List Expr}{scope:Scope}{pos:Pos}{N:List Str}{src:List (Option Nat)}{wi:TI}{g:TG}{tt:TT}{te:TE}{Q:VK}{RR:Value->Addr->Result->Shared->Prop}(hc:X.calm=true)(hi:PI X tg w wi)
  (b9:K6 scope X.env.scope=true) (b8:Q8 N src X.N scope=true) (d6:a3S scope=true)
  (hg:∀a C s H ex,PG (X.blk N scope a C s H ex) tg g) (ht:∀a C s H ex,PIf (X.blk N scope a C s H ex) L tt) (he:∀a C s H ex,PE (X.blk N scope a C s H ex) G te)
  (I:Inv X pins σ H s) (h:a4I src wi g tt te σ H Q)
  (c0:∀(f s4:Shared) (H2 H4:Hp) (fp:List Addr) (a:List (Str×Addr)) (pl:List (Addr×Obj)) (σ4:St) (ys:List V) (us:List Value) (k:Nat),Inv X pins σ H2 f->(∀b∈fp,a1s X pins H2 b) ->
   Inv (X.blk N scope a (f.heap.objs.size+1) f H2 fp) pl σ4 H4 s4->H4 f.heap.objs.size=none->s4.heap.get? f.heap.objs.size=some {cls:=.type "list",data:=.seq us.toArray k}->Vals ys us->ys.length<=sizeLine ->
   Q (.ref f.heap.objs.size) (upd H4 f.heap.objs.size (.lst ys))->RR (.ref f.heap.objs.size) (f.heap.objs.size+1) (.ok .next) s4) :
  wpAny (model X.prog X.w) X.A (eval w X.env) (λx s₁=>wpAny (model X.prog X.w) X.A (pyIter x) (λit s₂=>wpAny (model X.prog X.w) X.A (newList []) (λb0 s₃ =>
   wpAny (model X.prog X.w) X.A (newFunctionEnv scope X.env.globals (a1G scope X.env) [] X.env.qual none .none (some X.env)) (λR s₄ =>
    codeAny (model X.prog X.w) X.A (.compStart (.ListComp G [⟨tg,w,L,0⟩] scope pos) 0 it b0 {R with scope:=relabel scope X.env}) (RR b0 R.locals) s₄) X.xe s₃) X.xe s₂) X.xe s₁) X.xe s:=by
 refine thn (hi pins s σ H _ I h) λv s1 h1=>thn h1 λd8 f h2=>?_;obtain⟨it,fp,tn,J,H2,e,I2,T,c5,f2,W,⟨m0,w0⟩,c7⟩:=h2;subst e;have c1:∀b∈fp,∃o,f.heap.get? b=some o:=λb m=>(T.obj _ _ c5 b m).imp λ_ q=>q.1;refine wpAny_newObj_type (a5B ?_);have hB:=I2.block (lo:={cls:=.type "list",dict:=none,data:=.seq ([]:List Value).toArray}) f2 c1 b9 b8 d6;rw[show({f with heap:=f.heap.push {cls:=.type "list",dict:=none,data:=.seq ([]:List Value).toArray}}:Shared).heap.objs.size=f.heap.objs.size+1 from Heap.size_push ..];generalize K:cellsFrom (f.heap.objs.size+1+1) scope.names (a1G scope X.env)=a at hB⊢;generalize D:pushCells ((f.heap.push {cls:=.type "list",dict:=none,data:=.seq ([]:List Value).toArray}).push {cls:=.type "dict",data:=.dict #[]}) scope.names=h4 at hB⊢;have a6:∀b o,f.heap.get? b=some o->h4.get? b=some o:=λb o q=>by
  rw[<-D];exact pushCells_keeps _ _ _ _ (Heap.get?_push_of_some _ (Heap.get?_push_of_some _ q))
 have b6:h4.get? f.heap.objs.size=some {cls:=.type "list",data:=.seq ([]:List Value).toArray 0}:=by
  rw[<-D];exact pushCells_keeps _ _ _ _ (Heap.get?_push_of_some _ (Heap.get?_push_size _ rfl))
 have c6:tn 0 h4:=T.keep _ _ _ c5 λb _ o q=>a6 b o q;generalize j:X.blk N scope a (f.heap.objs.size+1) f H2 fp=l at hB;have eA:l.A=X.A:=by rw[<-j];rfl
 have eP:l.prog=X.prog:=by rw[<-j];rfl
 have ew:l.w=X.w:=by rw[<-j];rfl
 have eK:l.K=X.K:=by rw[<-j];rfl
 have ec:l.calm=true:=by rw[<-j];exact hc
 have ee:l.env=compEnvC scope a (f.heap.objs.size+1) X.env:=by rw[<-j];rfl
 have ex:l.ex=fp:=by rw[<-j];rfl
 have b7:l.pn=[]:=by rw[<-j];rfl
 have d1:l.s₀=f:=by rw[<-j];rfl
 have a4:l.xe=NoX:=by rw[<-j];rfl
 have eL:l.env.locals=f.heap.objs.size+1:=by rw[ee];rfl
 have d0:l.fs=frs X.stack:=by rw[<-j];rfl
 have c4:=hB.ok;have cne:∀x c,l.env.cells.lookup x=some c->c≠f.heap.objs.size:=λx c q=>by
  rw[ee]at q;have q':a.lookup x=some c:=q;rw[<-K]at q';rcases X6 _ _ _ q' with z|z
  .exact Nat.ne_of_gt (Nat.lt_of_lt_of_le (Nat.lt_succ_self _) (Nat.le_trans (Nat.le_succ _) z.1))
  .obtain⟨v,z'⟩:=I2.cell x c (a0u z);exact Nat.ne_of_lt z'.lt
 have S:∀b∈fp,b≠f.heap.objs.size:=λb m=>by
  obtain⟨o,q⟩:=c1 b m;exact Nat.ne_of_lt (Heap.lt_size q)
 have B:f.heap.objs.size∉l.fs:=by
  rw[d0];intro z;rcases List.mem_cons.mp (I2.stkSub _ z)with q|q
  .exact absurd I2.lt (by rw[<-q];exact Nat.lt_irrefl _)
  .exact I2.nofs (Nat.le_refl _) q
 have A:∀{H':Hp}{pl:List (Addr×Obj)},(∀b∈fp,H' b=none)->(∀p∈pl,p.1=f.heap.objs.size)->∀b∈fp,a1s l pl H' b:=λ{H' pl} hn E b m=>by
  obtain⟨x1,x2⟩:=c4.exf b (by rw[ex];exact m);refine⟨hn b m,x1,c4.exfs b (by rw[ex];exact m),.inl (by rw[ex];exact m),x2,λp c2=>?_⟩;rw[b7,List.nil_append]at c2;rw[E p c2];exact(S b m).symm
 have c3:∀s5:Shared,s5={f with heap:=h4}->codeAny (model X.prog X.w) X.A (.compLoop (.ListComp G [⟨tg,w,L,0⟩] scope pos) 0 (.ref it) (.ref f.heap.objs.size) l.env)
   (RR (.ref f.heap.objs.size) (f.heap.objs.size+1)) s5:=by
  rintro s5 rfl;refine a4t (λn s'=>∃i H' ys us k,Inv l [] (D6 src σ) H' s'/\tn i s'.heap/\(∀b∈fp,H' b=none)/\H' f.heap.objs.size=none /\
   s'.heap.get? f.heap.objs.size=some {cls:=.type "list",data:=.seq (us:List Value).toArray k}/\Vals ys us/\W i n ys H') ?_ m0
   ⟨0,H2,[],[],0,hB,c6,λb m=>(f2 b m).1,I2.hok.fresh (Nat.le_refl _),b6,.nil,w0⟩
  rintro n s3 ⟨i,Y,ys,us,k,I3,a7,a5,M,a9,r3,w3⟩;rcases c7 i n ys Y w3 with⟨U,hz,qn⟩|⟨go,hz,Nn,hN,step⟩
  .have d:=T.done l eP ew eK ec i [] s3 (D6 src σ) Y NoX I3 (A a5 (λ_ z=>by cases z)) a7 U;rw[eA]at d;have a0:Inv l [(f.heap.objs.size,{cls:=.type "list",data:=.seq us.toArray k})] (D6 src σ) Y s3:=I3.pins_of λp E=>by
    rw[List.mem_singleton.mp E];exact⟨a9,M,by rw[eL];exact Nat.ne_of_lt (Nat.lt_succ_self _),B,λv z=>by cases z⟩
   have d:=T.done l eP ew eK ec i _ s3 (D6 src σ) Y NoX a0 (A a5 (λp z=>by rw[List.mem_singleton.mp z])) a7 U;rw[eA]at d;refine thn d λr s4 ⟨hr,I4⟩=>?_;subst hr;have c9:=(I4.pin (f.heap.objs.size,{cls:=.type "list",data:=.seq us.toArray k}) (List.mem_append_right _ List.mem_cons_self)).1;rw[<-j]at I4;exact c0 f s4 H2 Y fp a _ _ ys us k I2 f2 I4 M c9 r3 hz (qn _ M)
  .have a0:Inv l [(f.heap.objs.size,{cls:=.type "list",data:=.seq us.toArray k})] (D6 src σ) Y s3:=I3.pins_of λp E=>by
    rw[List.mem_singleton.mp E];exact⟨a9,M,by rw[eL];exact Nat.ne_of_lt (Nat.lt_succ_self _),B,λv z=>by cases z⟩
   have d:=T.item l eP ew eK ec i _ s3 (D6 src σ) Y NoX a0 (A a5 (λp z=>by rw[List.mem_singleton.mp z])) a7 go;rw[eA]at d;refine thn d λr s4 ⟨u,hr,d3⟩=>?_;subst hr;refine thn d3 λ_ s5 ⟨x,H5,I5,r5,y5,a8,d2⟩=>?_;have c8:=I5.pinned (A d2 (λp z=>by rw[List.mem_singleton.mp z])) (T.obj _ _ a8);have d5:PG l tg g:=by rw[<-j];exact hg _ _ _ _ _
   have d7:PIf l L tt:=by rw[<-j];exact ht _ _ _ _ _
   have d4:PE l G te:=by rw[<-j];exact he _ _ _ _ _
   have a1:=d5 _ s5 _ H5 x u _ c8 r5 (step x H5 y5);rw[eP,ew,eA,a4]at a1;refine thn a1 λ_ s6 ⟨σ6,H6,I6,sb,q6⟩=>?_;have a2:=d7 _ s6 σ6 H6 _ I6 q6;rw[eP,ew,eA,a4]at a2;refine thn a2 λok s7 ⟨H7,I7,q7⟩=>?_;have P:∀{Z:Hp}{O:Shared}{pl:List (Addr×Obj)},Inv l ([(f.heap.objs.size,{cls:=.type "list",data:=.seq us.toArray k})]++a2m fp s5.heap) σ6 Z O ->
     Inv l [] (D6 src σ) Z O/\tn (i+1) O.heap/\(∀b∈fp,Z b=none)/\Z f.heap.objs.size=none/\O.heap.get? f.heap.objs.size=some {cls:=.type "list",data:=.seq us.toArray k}:=λ{Z O pl} I8=>by
    have p0:=I8.pin (f.heap.objs.size,{cls:=.type "list",data:=.seq us.toArray k}) (List.mem_append_right _ (List.mem_append_left _ List.mem_cons_self));refine⟨(I8.pins_of (pins':=[]) λp E=>by cases E).weak sb.1 sb.2,T.keep _ _ _ a8 λb m o e=>(I8.pin (b,o) (List.mem_append_right _ (List.mem_append_right _ (Y4 m e)))).1,λb m=>?_,p0.2.1,p0.1⟩;obtain⟨o,e,_⟩:=T.obj _ _ a8 b m;exact(I8.pin (b,o) (List.mem_append_right _ (List.mem_append_right _ (Y4 m e)))).2.1
   cases ok with
   |false =>
    obtain⟨m',hm,w7⟩:=hN _ _ q7;obtain⟨b1,b2,b3,b4,b5⟩:=P (pl:=[]) I7;exact⟨m',hm,i+1,H7,ys,us,k,b1,b2,b3,b4,b5,r3,w7⟩
   |true =>
    have a3:=d4 _ s7 σ6 H7 _ I7 q7;rw[eP,ew,eA,a4]at a3;refine thn a3 λy O ⟨vy,Z,I8,ry,n8⟩=>?_;obtain⟨m',hm,w8⟩:=hN _ _ n8;obtain⟨b1,b2,b3,b4,b5⟩:=P (pl:=[]) I8;refine call_meets F.slot_list_append ⟨_,b5,rfl⟩ F.entry_list_append (F.args_list_append_2 _ _) (PySem.list_append f.heap.objs.size us.toArray k y (by rw[List.size_toArray,<-r3.length];omega)) ⟨b5,?_⟩;have q:=PySem.IsL.update b5 (λxs=>xs.push y);rw[show us.toArray.push y=(us++[y]).toArray by simp]at q;have nb:∀b o,b≠f.heap.objs.size->O.heap.get? b=some o->(O.heap.update f.heap.objs.size (Obj.mapSeq λxs=>xs.push y)).get? b=some o:=λb o m e =>
     (Heap.get?_update_other O.heap _ (Ne.symm m)).trans e
    refine⟨m',hm,i+1,Z,ys++[vy],us++[y],_,?_,?_,b3,b4,q,r3.append (.cons ry .nil),w8⟩
    .exact b1.turned nb b4 (by rw[eL];exact Nat.ne_of_lt (Nat.lt_succ_self _)) (.inr (by rw[d1];exact Nat.le_refl _)) cne λp E=>by rw[b7]at E;cases E
    .exact T.keep _ _ _ b2 λb m o e=>nb b o (S b m) e
 have t:=c3 _ rfl;rw[ee]at t;exact codeAny_compStart_list t (T.self _ 0 _ _ _ c6 t)
theorem a3i{scope:Scope}(a:a3S scope=true):scope.kind=.function/\∀x∈scope.names,scope.names.lookup x.1=some x.2:=by
 unfold a3S at a;rw[Bool.and_eq_true]at a;exact⟨by simpa using a.1,λx b=>by simpa using List.all_eq_true.mp a.2 x b⟩
theorem Inv.clos{scope:Scope}(I:Inv X pins σ H s)(a:K6 scope X.env.scope=true):closureFor scope X.env=pure (a1G scope X.env):=b1i λx d c=>by
 have q:=List.all_eq_true.mp a x d;rw[c]at q;have b:(X.env.scope.names.lookup x.1==some .cell || X.env.scope.names.lookup x.1==some .free)=true:=by simpa using q
 rw[Bool.or_eq_true]at b;exact I.ok.has x.1 (b.imp (λz=>beq_iff_eq.mp z) λz=>beq_iff_eq.mp z)
theorem b2t{tg b e:Expr}{j:List Expr}{scope:Scope}{pos:Pos}{N:List Str}{src:List (Option Nat)}{u:TI}{g:TG}{t:TT}{te:TE}(z:X.calm=true)(hi:PI X tg b u)
  (c:K6 scope X.env.scope=true) (f:Q8 N src X.N scope=true) (i:a3S scope=true)
  (B:∀a C s H ex,PG (X.blk N scope a C s H ex) tg g) (E:∀a C s H ex,PIf (X.blk N scope a C s H ex) j t) (A:∀a C s H ex,PE (X.blk N scope a C s H ex) e te)
  (hs:∀x,foldedSetIterable b X.env x=pure x:=by intro _;rfl):PE X (.ListComp e [⟨tg,b,j,0⟩] scope pos) (a4I src u g t te):=by
 intro pins s σ H Q I h;obtain⟨d,n⟩:=a3i i;rw[eval_ListComp];refine wpAny_comprehension_free (use:=none) rfl hs (I.clos c) d (λx F D=>by rw[<-D];exact n x F) (a3z (RR:=compPost (model X.prog X.w) X.A X.xe none (EP X pins σ Q)) z hi c f i B E A I h ?_);intro K M H2 L fp a pl σ4 ys O k v w r p l J G q;obtain⟨m,o,_⟩:=r.loc;exact⟨m,o,λh' y=>⟨.ref K.heap.objs.size,_,Inv.unblock v w (Nat.le_succ _) (Nat.le_refl _) (Nat.ne_of_lt (Nat.lt_succ_self _)) r p l J G y,rfl,q⟩⟩
theorem b1S{i:Nat}{y:Str}{w t:Pos}{tg f j:Expr}{l:List Expr}{scope:Scope}{pos:Pos}{N:List Str}{src:List (Option Nat)}{wi:TI}{g:TG}{tt:TT}{te:TE}
  (hN:X.N.Nodup) (hy:X.N[i]?=some y) (Z:Loc X.env.scope y)
  (hc:X.calm=true) (hi:PI X tg f wi) (n:K6 scope X.env.scope=true) (E:Q8 N src X.N scope=true) (G:a3S scope=true)
  (hg:∀d C s H ex,PG (X.blk N scope d C s H ex) tg g) (ht:∀d C s H ex,PIf (X.blk N scope d C s H ex) l tt) (T:∀d C s H ex,PE (X.blk N scope d C s H ex) j te)
  (Y:swapsWith (.ListComp j [⟨tg,f,l,0⟩] scope pos) (some (.Name y w)) t.line X.env=pure true:=by rfl) (hs:∀x,foldedSetIterable f X.env x=pure x:=by intro _;rfl)
  (hf:X.fn y=true∨X.env.scope.names.lookup y=some .local:=by first|exact .inl rfl|exact .inr rfl|assumption) :
  PS X (.Assign [.Name y w] (.ListComp j [⟨tg,f,l,0⟩] scope pos) t) (a5K (a4I src wi g tt te) (B1 i)):=by
 intro pins s σ H D I h;obtain⟨u,U⟩:=a3i G;rw[exec_Assign_Name_used _ _ _ _ Y];refine wpAny_bind (wpAny_standAt (wpAny_bind ?_));show wpAny _ X.A (do let _ <-comprehension (.ListComp j [⟨tg,f,l,0⟩] scope pos) scope X.env _ (newList []) false (eval f X.env) (some (assign (.Name y w) X.env))) _ _ s;refine wpAny_bind (wpAny_mono (wpAny_comprehension_free (use:=some (assign (.Name y w) X.env)) (Q:=λ_ s'=>SP X pins D .next s') rfl hs (I.clos n) u (λx Z hk=>by rw[<-hk];exact U x Z)
  (a3z (RR:=compPost (model X.prog X.w) X.A X.xe (some (assign (.Name y w) X.env)) (λ_ s'=>SP X pins D .next s')) hc hi n E G hg ht T I h ?_)) (λ_ s' hq=>wpAny_pure (wpAny_pure hq)) λ_ _ e=>e)
 intro r s4 H2 H4 fp d pl σ4 ys us k A f2 M a0 O r4 hz q;obtain⟨m,W,_⟩:=M.loc;have F:s4.heap.Ns (r.heap.objs.size+1) m:=W;have P:H4 (r.heap.objs.size+1)=none:=M.free;have J:=Inv.unblock A f2 (Nat.le_succ _) (Nat.le_refl _) (Nat.ne_of_lt (Nat.lt_succ_self _)) M a0 O r4 hz (Heap.SameBut.refl _ _);have L:r.heap.objs.size+1≠X.env.locals:=Nat.ne_of_gt (Nat.lt_succ_of_lt A.lt);have K:∀x c,X.env.cells.lookup x=some c->c≠r.heap.objs.size+1:=λx c e=>by
  obtain⟨v,z⟩:=A.cell x c e;exact Nat.ne_of_lt (Nat.lt_succ_of_lt z.lt)
 show wpAny _ X.A (assign (.Name y w) X.env (.ref r.heap.objs.size)) _ _ s4;refine wpAny_assign_Name (a3h (v:=.ref r.heap.objs.size) J hN hy Z rfl (λs' I' hb=>?_) hf);obtain⟨a,sb,R⟩:=hb;have B:r.heap.objs.size+1≠a:=by
  rcases R with rfl|R
  .exact L
  .exact(K _ _ R).symm
 refine⟨m,F.sameBut sb B,λh' S=>⟨_,_,I'.turned (t':=s'.toks) (it:=r.heap.objs.size+1) (λb o V e=>S.extBut b o V e) ?_ L (.inr (Nat.le_trans A.sz (Nat.le_succ _))) K λp hp=>?_,q⟩⟩
 .rw[A5 (Nat.ne_of_gt (Nat.lt_succ_self _))];exact P
 .exact Nat.ne_of_lt (Nat.lt_succ_of_lt (Heap.lt_size (A.pin p hp).1))
end
def SqAt(k:Bool)(h:Heap)(l:Addr)(xs:Array Value):Prop:=match k with|true=>h.IsTuple l xs|false=>h.IsList l xs
def ItAt(k:Bool)(h:Heap)(i l:Addr)(n:Nat):Prop:=match k with|true=>h.IsTupleIter i l n|false=>h.IsListIter i l n
noncomputable def b6x:Bool->String|true => "tuple_iterator" | false => "list_iterator"
noncomputable def U6(k:Bool)(l:Addr):Obj:={cls:=.type (b6x k),data:=.fields #[.ref l,.int 0 0]}
theorem ItAt.extBut{k:Bool}{h h':Heap}{i l b:Addr}{n:Nat}(x:ItAt k h i l n)(hs:Heap.ExtBut b h h')(a:i≠b):ItAt k h' i l n:=by
 cases k
 .exact Heap.IsListIter.extBut x hs a
 .exact Heap.IsTupleIter.extBut x hs a
theorem ItAt.at{k:Bool}{h h':Heap}{i l:Addr}{n:Nat}(x:ItAt k h i l n)(e:∀o,h.get? i=some o->h'.get? i=some o):ItAt k h' i l n:=by
 cases k
 .exact Heap.IsListIter.at x e
 .exact Heap.IsTupleIter.at x e
theorem ItAt.get{k:Bool}{h:Heap}{i l:Addr}{n:Nat}(x:ItAt k h i l n):∃o,h.get? i=some o/\o.data=.fields #[.ref l,.int n 0]:=by
 cases k<;>obtain⟨o,e,c,d⟩:=x<;>exact⟨o,e,d⟩
theorem SqAt.extBut{k:Bool}{h h':Heap}{l b:Addr}{xs:Array Value}(x:SqAt k h l xs)(hs:Heap.ExtBut b h h')(a:l≠b):SqAt k h' l xs:=by
 cases k
 .exact Heap.IsList.extBut x hs a
 .exact Heap.IsTuple.extBut x hs a
theorem SqAt.at{k:Bool}{h h':Heap}{l:Addr}{xs:Array Value}(x:SqAt k h l xs)(e:∀o,h.get? l=some o->h'.get? l=some o):SqAt k h' l xs:=by
 cases k<;>obtain⟨o,q,r⟩:=x<;>exact⟨o,e o q,r⟩
theorem SqAt.get{k:Bool}{h:Heap}{l:Addr}{xs:Array Value}(x:SqAt k h l xs):∃o,h.get? l=some o:=by
 cases k<;>obtain⟨o,q,r⟩:=x<;>exact⟨o,q⟩
section
variable {prog:Program}{w:World}{A:Around}{E:Value->Shared->Prop}{s:Shared}
theorem a1C{it t:Addr}{i:Nat}{items:Array Value}{x:Value}{Q:Value->Shared->Prop}(a:s.heap.IsTupleIter it t i)(g:s.heap.IsTuple t items)(h:items[i]?=some x)
  (e:∀h',h'.IsTupleIter it t (i+1)->Heap.SameBut it s.heap h'->Q x {s with heap:=h'}):wpAny (model prog w) A (Builtin.SmallTypes.nextOf (.ref it)) Q E s:=by
 obtain⟨o,b,f,hd⟩:=id a;obtain⟨k,d,_,j,c⟩:=g;unfold Builtin.SmallTypes.nextOf;refine wpAny_bind (wpAny_callSpecial?_slot (name:=Str.ofString "__next__") a.typeIs F.slot_tuple_iterator_next
  (wpAny_call_entry F.slot_tuple_iterator_next a.typeIs F.entry_tuple_iterator_next ?_ (F.args_tuple_iterator_next_1 _)))
 show wpAny _ _ (field (.ref it) 0>>=_) _ _ s;refine wpAny_bind (wpAny_field b hd (x:=.ref t) rfl ?_);show wpAny _ _ (if (Value.ref t==Value.none)=true then _ else _) _ _ s;rw[if_neg (show ¬((Value.ref t==Value.none)=true)from Bool.false_ne_true)];show wpAny _ _ (field (.ref it) 1>>=_) _ _ s;refine wpAny_bind (wpAny_field b hd (x:=.int i 0) rfl ?_);show wpAny _ _ (seqItems? (.ref t)>>=_) _ _ s;refine wpAny_bind (wpAny_seqItems d c ?_);simp only[Int.toNat_natCast,h];refine wpAny_bind (wpAny_setField b hd (by simp) (wpAny_pure ⟨x,rfl,wpAny_pure (e _ ?_ (Heap.SameBut.update ..))⟩));exact⟨_,Heap.get?_update_self _ b (Obj.isFreed_of_fields (Obj.data_mapFields hd _)),(Obj.cls_mapFields ..).trans f,by
  rw[Obj.data_mapFields hd];simp[rawInt]⟩
theorem a2s{it t:Addr}{i:Nat}{items:Array Value}{Q:Value->Shared->Prop}(g:A.handled=none)(b:s.heap.IsTupleIter it t i)(j:s.heap.IsTuple t items)(k:items[i]?=none)
  (h:∀h' e,Heap.ExtBut it s.heap h'->(∃o,h'.get? e=some o/\o.cls=.type "StopIteration")->E (.ref e) {s with heap:=h'}) :
  wpAny (model prog w) A (Builtin.SmallTypes.nextOf (.ref it)) Q E s:=by
 obtain⟨o,d,l,hd⟩:=id b;obtain⟨p,f,_,n,c⟩:=j;unfold Builtin.SmallTypes.nextOf;refine wpAny_bind (wpAny_callSpecial?_slot (name:=Str.ofString "__next__") b.typeIs F.slot_tuple_iterator_next
  (wpAny_call_entry F.slot_tuple_iterator_next b.typeIs F.entry_tuple_iterator_next ?_ (F.args_tuple_iterator_next_1 _)))
 show wpAny _ _ (field (.ref it) 0>>=_) _ _ s;refine wpAny_bind (wpAny_field d hd (x:=.ref t) rfl ?_);show wpAny _ _ (if (Value.ref t==Value.none)=true then _ else _) _ _ s;rw[if_neg (show ¬((Value.ref t==Value.none)=true)from Bool.false_ne_true)];show wpAny _ _ (field (.ref it) 1>>=_) _ _ s;refine wpAny_bind (wpAny_field d hd (x:=.int i 0) rfl ?_);show wpAny _ _ (seqItems? (.ref t)>>=_) _ _ s;refine wpAny_bind (wpAny_seqItems f c ?_);simp only[Int.toNat_natCast,k];refine wpAny_bind (wpAny_rule (wpAny_bind (wpAny_setField d hd (by simp) ?_)));show wpAny _ _ (newExc (.type "StopIteration") []>>=_) _ _ _;refine wpAny_bind ?_;simp only[newExc,newTuple];refine wpAny_bind (wpAny_newObj_type ?_ (by size_fits));refine wpAny_bind (m:=firstArgMember _ _) (wpAny_of_eq (a:=Value.none) (by first|rfl | (simp only[firstArgMember];rfl)) ?_);refine wpAny_newObj_type ?_ (by size_fits);simp only[raiseNew];refine wpAny_bind (wpAny_handled ?_)
 first|rw[show A.in1.handled=none from g]|rw[g]
 refine wpAny_bind (wpAny_pure (wpAny_throw ?_));exact h _ _ (((Heap.SameBut.update ..).extBut.push _).push _) ⟨_,Heap.get?_push_size _ rfl,rfl⟩
theorem a0Q{k:Bool}{it l:Addr}{i:Nat}{items:Array Value}{x:Value}{Q:Value->Shared->Prop}(a:ItAt k s.heap it l i)(c:SqAt k s.heap l items)(d:items[i]?=some x)
  (b:∀h',ItAt k h' it l (i+1)->Heap.SameBut it s.heap h'->Q x {s with heap:=h'}):wpAny (model prog w) A (Builtin.SmallTypes.nextOf (.ref it)) Q E s:=by
 cases k
 .exact wpAny_nextOf_list_item a c d b
 .exact a1C a c d b
theorem a3Q{k:Bool}{it l:Addr}{i:Nat}{items:Array Value}{Q:Value->Shared->Prop}(c:A.handled=none)(a:ItAt k s.heap it l i)(d:SqAt k s.heap l items)(f:items[i]?=none)
  (b:∀h' e,Heap.ExtBut it s.heap h'->(∃o,h'.get? e=some o/\o.cls=.type "StopIteration")->E (.ref e) {s with heap:=h'}) :
  wpAny (model prog w) A (Builtin.SmallTypes.nextOf (.ref it)) Q E s:=by
 cases k
 .exact wpAny_nextOf_list_end c a d f b
 .exact a2s c a d f b
theorem T4{k:Bool}{l:Addr}{items:Array Value}{Q:Value->Shared->Prop}(b:SqAt k s.heap l items)(a:Q (.ref s.heap.objs.size) {s with heap:=s.heap.push (U6 k l)}):wpAny (model prog w) A (pyIter (.ref l)) Q E s:=by
 cases k
 .exact wpAny_pyIter_list b a
 .exact wpAny_pyIter_tuple b a
end
section
variable {prog:Program}{w:World}{A:Around}{E:Value->Shared->Prop}{s:Shared}{k1 k2:Bool}
theorem a8C{z TI TO f g l m:Addr}{p q:Nat}{xs ys:Array Value}{x y a b:Value}{Q:Value->Shared->Prop}(D:ZipApart z TI TO f g l m)
  (j:IsZip s.heap z TI TO .none) (B:IsPair s.heap TI (.ref f) (.ref g)) (C:IsPair s.heap TO a b)
  (h1:ItAt k1 s.heap f l p) (h2:ItAt k2 s.heap g m q) (F:SqAt k1 s.heap l xs) (G:SqAt k2 s.heap m ys) (I:xs[p]?=some x) (J:ys[q]?=some y)
  (H:∀h',IsZip h' z TI TO (rawInt s.heap.objs.size)->IsPair h' TO x y->ItAt k1 h' f l (p+1)->ItAt k2 h' g m (q+1)->IsPair h' s.heap.objs.size x y->h'.objs.size=s.heap.objs.size+1 ->
   (∀c o,c≠z->c≠TO->c≠f->c≠g->s.heap.get? c=some o->h'.get? c=some o)->Q (.ref s.heap.objs.size) {s with heap:=h'}) :
  wpAny (model prog w) A (Builtin.«zip.__next__» ⟨[.ref z],[]⟩) (λfin s'=>∃v,fin=.done (.ret v)/\Q v s') E s:=by
 show wpAny _ _ (field (.ref z) 2>>=_) _ _ _;refine wpAny_bind (wpAny_field j rfl (x:=.bool false) rfl ?_);show wpAny _ _ (field (.ref z) 3>>=_) _ _ _;refine wpAny_bind (wpAny_field j rfl (x:=.ref TI) rfl ?_);refine wpAny_bind (wpAny_seqItems B rfl ?_);show wpAny _ _ (Builtin.SmallTypes.ownedTupleIsFree (.ref z)>>=_) _ _ _;refine wpAny_bind ?_;unfold Builtin.SmallTypes.ownedTupleIsFree;refine wpAny_bind (wpAny_field j rfl (x:=.none) rfl (wpAny_pure ?_));simp only[if_true];refine wpAny_bind (wpAny_rule ?_);refine wpAny_bind (wpAny_field j rfl (x:=.ref TO) rfl ?_);refine wpAny_bind (wpAny_setField_rec j (by simp) λh₁ hz₁ hs₁=>?_);replace hz₁:IsZip h₁ z TI TO .ellipsis:=hz₁;refine wpAny_bind ?_;simp only[List.zipIdx_cons,List.zipIdx_nil,List.forIn_cons,List.forIn_nil];refine wpAny_bind (wpAny_bind (wpAny_onRaise ?_));show wpAny _ _ (Builtin.SmallTypes.nextOf (.ref f)>>=_) _ _ _;refine wpAny_bind (a0Q (h1.extBut hs₁.extBut D.i1z) (F.extBut hs₁.extBut D.l1z) I λh₂ h1₂ hs₂=>wpAny_pure ?_);have hTO₂:IsPair h₂ TO a b:=hs₂.extBut _ _ D.TOi1 (hs₁.extBut _ _ D.TOz C);refine wpAny_bind (wpAny_seqItems hTO₂ rfl ?_);refine wpAny_bind (wpAny_updateSeq_pair hTO₂ λh₃ hTO₃ hs₃=>?_);replace hTO₃:IsPair h₃ TO x b:=hTO₃;refine wpAny_bind (wpAny_letGo (wpAny_pure ?_));refine wpAny_bind (wpAny_bind (wpAny_onRaise ?_));show wpAny _ _ (Builtin.SmallTypes.nextOf (.ref g)>>=_) _ _ _;refine wpAny_bind (a0Q (((h2.extBut hs₁.extBut D.i2z).extBut hs₂.extBut D.i12.symm).extBut hs₃.extBut D.TOi2.symm)
  (((G.extBut hs₁.extBut D.l2z).extBut hs₂.extBut D.l2i1).extBut hs₃.extBut D.l2TO) J λh₄ h2₄ hs₄=>wpAny_pure ?_)
 have hTO₄:IsPair h₄ TO x b:=hs₄.extBut _ _ D.TOi2 hTO₃;refine wpAny_bind (wpAny_seqItems hTO₄ rfl ?_);refine wpAny_bind (wpAny_updateSeq_pair hTO₄ λh₅ hTO₅ hs₅=>?_);replace hTO₅:IsPair h₅ TO x y:=hTO₅;refine wpAny_bind (wpAny_letGo (wpAny_pure (wpAny_pure ?_)));refine wpAny_bind (wpAny_seqItems hTO₅ rfl ?_);refine wpAny_bind (wpAny_newTuple ?_);have i:h₅.objs.size=s.heap.objs.size:=by rw[hs₅.1,hs₄.1,hs₃.1,hs₂.1,hs₁.1]
 have hz₅:IsZip h₅ z TI TO .ellipsis:=hs₅.extBut _ _ D.TOz.symm (hs₄.extBut _ _ D.i2z.symm (hs₃.extBut _ _ D.TOz.symm (hs₂.extBut _ _ D.i1z.symm hz₁)));have hk₅:∀c o,c≠z->c≠TO->c≠f->c≠g->s.heap.get? c=some o->h₅.get? c=some o:=λc o h n t u e =>
  hs₅.extBut _ _ n (hs₄.extBut _ _ u (hs₃.extBut _ _ n (hs₂.extBut _ _ t (hs₁.extBut _ _ h e))))
 have h1₅:ItAt k1 h₅ f l (p+1):=((h1₂.extBut hs₃.extBut D.TOi1.symm).extBut hs₄.extBut D.i12).extBut hs₅.extBut D.TOi1.symm;have h2₅:ItAt k2 h₅ g m (q+1):=h2₄.extBut hs₅.extBut D.TOi2.symm;have d:z<h₅.objs.size:=Heap.lt_size hz₅;show wpAny _ _ (Builtin.SmallTypes.ownedTupleHandOut (.ref z) (.ref h₅.objs.size)>>=_) _ _ _;refine wpAny_bind ?_;unfold Builtin.SmallTypes.ownedTupleHandOut;have hz₆:IsZip (h₅.push {cls:=.type "tuple",data:=.seq #[x,y]}) z TI TO .ellipsis:=Heap.get?_push_of_some _ hz₅;refine wpAny_bind (wpAny_setField_rec hz₆ (by simp) λh₇ hz₇ hs₇=>?_);replace hz₇:IsZip h₇ z TI TO (rawInt h₅.objs.size):=hz₇;refine wpAny_setField_rec hz₇ (by simp) λh₈ hz₈ hs₈=>?_;replace hz₈:IsZip h₈ z TI TO (rawInt h₅.objs.size):=hz₈;have r:∀c o,c≠z->h₅.get? c=some o->h₈.get? c=some o:=λc o h e=>hs₈.extBut _ _ h (hs₇.extBut _ _ h (Heap.get?_push_of_some _ e));have hT₈:IsPair h₈ h₅.objs.size x y:=hs₈.extBut _ _ (Nat.ne_of_gt d) (hs₇.extBut _ _ (Nat.ne_of_gt d) (Heap.get?_push_size _ rfl));have k:h₈.objs.size=h₅.objs.size+1:=by rw[hs₈.1,hs₇.1,Heap.size_push]
 rw[i]at hz₈ hT₈ k;refine wpAny_pure ⟨_,rfl,?_⟩;show Q (.ref h₅.objs.size) _;rw[i];exact H h₈ hz₈ (r _ _ D.TOz hTO₅) (h1₅.at λo e=>r _ o D.i1z e) (h2₅.at λo e=>r _ o D.i2z e) hT₈ k λc o h n t u e=>r c o h (hk₅ c o h n t u e)
theorem b1s{z TI TO m n y B:Addr}{C F:Nat}{xs ys:Array Value}{a b:Value}{Q:Fin->Shared->Prop}(I:A.handled=none)(D:ZipApart z TI TO m n y B)
  (l:IsZip s.heap z TI TO .none) (q:IsPair s.heap TI (.ref m) (.ref n)) (r:IsPair s.heap TO a b)
  (h1:ItAt k1 s.heap m y C) (h2:ItAt k2 s.heap n B F) (k:SqAt k1 s.heap y xs) (u:SqAt k2 s.heap B ys) (j:xs[C]?=none∨ys[F]?=none)
  (H:∀h' e,(∀c o,c≠z->c≠TO->c≠m->c≠n->s.heap.get? c=some o->h'.get? c=some o)->(∃o,h'.get? e=some o/\o.cls=.type "StopIteration")->E (.ref e) {s with heap:=h'}) :
  wpAny (model prog w) A (Builtin.«zip.__next__» ⟨[.ref z],[]⟩) Q E s:=by
 show wpAny _ _ (field (.ref z) 2>>=_) _ _ _;refine wpAny_bind (wpAny_field l rfl (x:=.bool false) rfl ?_);show wpAny _ _ (field (.ref z) 3>>=_) _ _ _;refine wpAny_bind (wpAny_field l rfl (x:=.ref TI) rfl ?_);refine wpAny_bind (wpAny_seqItems q rfl ?_);show wpAny _ _ (Builtin.SmallTypes.ownedTupleIsFree (.ref z)>>=_) _ _ _;refine wpAny_bind ?_;unfold Builtin.SmallTypes.ownedTupleIsFree;refine wpAny_bind (wpAny_field l rfl (x:=.none) rfl (wpAny_pure ?_));simp only[if_true];refine wpAny_bind (wpAny_rule ?_);refine wpAny_bind (wpAny_field l rfl (x:=.ref TO) rfl ?_);refine wpAny_bind (wpAny_setField_rec l (by simp) λh₁ hz₁ hs₁=>?_);replace hz₁:IsZip h₁ z TI TO .ellipsis:=hz₁;refine wpAny_bind ?_;simp only[List.zipIdx_cons,List.zipIdx_nil,List.forIn_cons,List.forIn_nil];refine wpAny_bind (wpAny_bind (wpAny_onRaise ?_));show wpAny _ _ (Builtin.SmallTypes.nextOf (.ref m)>>=_) _ _ _;cases v:xs[C]? with
 |none =>
  refine wpAny_bind (a3Q I (h1.extBut hs₁.extBut D.i1z) (k.extBut hs₁.extBut D.l1z) v λh₂ e hs₂ t=>?_);obtain⟨G,d,f⟩:=t;have hz₂:IsZip h₂ z TI TO .ellipsis:=hs₂ _ _ D.i1z.symm hz₁;have g:e≠z:=λx=>by subst x;rw[hz₂]at d;cases d;simp at f
  refine wpAny_setField_rec hz₂ (by simp) λh₃ _ hs₃=>H h₃ e (λc o i _ p _ x=>hs₃.extBut _ _ i (hs₂ _ _ p (hs₁.extBut _ _ i x))) ⟨G,hs₃.extBut _ _ g d,f⟩
 |some x =>
  have L:ys[F]?=none:=by rcases j with h|h;rw[v]at h;cases h;exact h
  refine wpAny_bind (a0Q (h1.extBut hs₁.extBut D.i1z) (k.extBut hs₁.extBut D.l1z) v λh₂ h1₂ hs₂=>wpAny_pure ?_);have hTO₂:IsPair h₂ TO a b:=hs₂.extBut _ _ D.TOi1 (hs₁.extBut _ _ D.TOz r);refine wpAny_bind (wpAny_seqItems hTO₂ rfl ?_);refine wpAny_bind (wpAny_updateSeq_pair hTO₂ λh₃ hTO₃ hs₃=>?_);refine wpAny_bind (wpAny_letGo (wpAny_pure ?_));refine wpAny_bind (wpAny_bind (wpAny_onRaise ?_));show wpAny _ _ (Builtin.SmallTypes.nextOf (.ref n)>>=_) _ _ _;refine wpAny_bind (a3Q I (((h2.extBut hs₁.extBut D.i2z).extBut hs₂.extBut D.i12.symm).extBut hs₃.extBut D.TOi2.symm)
   (((u.extBut hs₁.extBut D.l2z).extBut hs₂.extBut D.l2i1).extBut hs₃.extBut D.l2TO) L λh₄ e hs₄ t=>?_)
  obtain⟨G,d,f⟩:=t;have hz₄:IsZip h₄ z TI TO .ellipsis:=hs₄ _ _ D.i2z.symm (hs₃.extBut _ _ D.TOz.symm (hs₂.extBut _ _ D.i1z.symm hz₁));have g:e≠z:=λx=>by subst x;rw[hz₄]at d;cases d;simp at f
  refine wpAny_setField_rec hz₄ (by simp) λh₅ _ hs₅=>H h₅ e (λc o i J p K x=>hs₅.extBut _ _ i (hs₄ _ _ K (hs₃.extBut _ _ J (hs₂.extBut _ _ p (hs₁.extBut _ _ i x))))) ⟨G,hs₅.extBut _ _ g d,f⟩
noncomputable abbrev zH1(k1:Bool)(h:Heap)(l1:Addr):Heap:=h.push (U6 k1 l1)
noncomputable abbrev zH2(k1 k2:Bool)(h:Heap)(l1 l2:Addr):Heap:=(zH1 k1 h l1).push (U6 k2 l2)
noncomputable abbrev zH3(k1 k2:Bool)(h:Heap)(l1 l2:Addr):Heap:=(zH2 k1 k2 h l1 l2).push {cls:=.type "tuple",data:=.seq #[.ref h.objs.size,.ref (zH1 k1 h l1).objs.size]}
noncomputable abbrev zH4(k1 k2:Bool)(h:Heap)(l1 l2:Addr):Heap:=(zH3 k1 k2 h l1 l2).push {cls:=.type "tuple",data:=.seq #[.none,.none]}
noncomputable abbrev zH5(k1 k2:Bool)(h:Heap)(l1 l2:Addr):Heap:=(zH4 k1 k2 h l1 l2).push {cls:=.type "zip",data:=.fields #[.none,.bool false,.bool false,.ref (zH2 k1 k2 h l1 l2).objs.size,.ref (zH3 k1 k2 h l1 l2).objs.size]}
theorem b1r(a b:Addr)(xs ys:Array Value) :
  Meets (Builtin.«zip.__new__» ⟨[.type "zip",.ref a,.ref b],[]⟩) (λ_ R s=>SqAt k1 s.heap a xs/\SqAt k2 s.heap b ys /\
   R (.ok (.ret (.ref (zH4 k1 k2 s.heap a b).objs.size))) {s with heap:=zH5 k1 k2 s.heap a b}) :=
 .of_wp λprog w A R s h=>by
  obtain⟨k,g,d,tk,os⟩:=s;obtain⟨i,j,h⟩:=h;have l:=sub_zip;have c:SqAt k1 (Shared.heap ⟨k,g,d,tk,os⟩) a xs:=i;have f:SqAt k2 (Shared.heap ⟨k.push (U6 k1 a),g,d,tk,os⟩) b ys:=j.at λo e=>Heap.get?_push_of_some _ e
  wp_walk using T4 c,T4 f
  exact⟨_,rfl,h⟩
theorem a8E{a b:Addr}{xs ys:Array Value}{Q:Value->Shared->Prop}(e:SqAt k1 s.heap a xs)(f:SqAt k2 s.heap b ys)
  (h:∀h',IsZip h' (s.heap.objs.size+4) (s.heap.objs.size+2) (s.heap.objs.size+3) .none->IsPair h' (s.heap.objs.size+2) (.ref s.heap.objs.size) (.ref (s.heap.objs.size+1)) ->
   IsPair h' (s.heap.objs.size+3) .none .none->ItAt k1 h' s.heap.objs.size a 0->ItAt k2 h' (s.heap.objs.size+1) b 0->h'.objs.size=s.heap.objs.size+5 ->
   (∀c o,s.heap.get? c=some o->h'.get? c=some o)->Q (.ref (s.heap.objs.size+4)) {s with heap:=h'}) :
  wpAny (model prog w) A (call (.type "zip") [.ref a,.ref b]) Q E s:=by
 refine callType_new F.called_zip (by decide) (F.typeCall_zip_2 _ _) (F.newCall_zip_2 _ _) (λobj=>F.args_object_init_3 obj _ _) F.entry_zip_new
  (b1r (k1:=k1) (k2:=k2) a b xs ys) ⟨e,f,?_⟩
 have g:(zH1 k1 s.heap a).objs.size=s.heap.objs.size+1:=Heap.size_push ..;have i:(zH2 k1 k2 s.heap a b).objs.size=s.heap.objs.size+2:=by rw[Heap.size_push,g]
 have j:(zH3 k1 k2 s.heap a b).objs.size=s.heap.objs.size+3:=by rw[Heap.size_push,i]
 have k:(zH4 k1 k2 s.heap a b).objs.size=s.heap.objs.size+4:=by rw[Heap.size_push,j]
 have q:(zH5 k1 k2 s.heap a b).objs.size=s.heap.objs.size+5:=by rw[Heap.size_push,k]
 have d:(zH5 k1 k2 s.heap a b).get? (zH4 k1 k2 s.heap a b).objs.size=some _:=Heap.get?_push_size _ rfl;have n:(zH5 k1 k2 s.heap a b).get? (zH3 k1 k2 s.heap a b).objs.size=some _:=Heap.get?_push_of_some _ (Heap.get?_push_size _ rfl);have m:(zH5 k1 k2 s.heap a b).get? (zH2 k1 k2 s.heap a b).objs.size=some _:=Heap.get?_push_of_some _ (Heap.get?_push_of_some _ (Heap.get?_push_size _ rfl));have l:(zH5 k1 k2 s.heap a b).get? (zH1 k1 s.heap a).objs.size=some (U6 k2 b):=Heap.get?_push_of_some _ (Heap.get?_push_of_some _ (Heap.get?_push_of_some _ (Heap.get?_push_size _ rfl)));have p:(zH5 k1 k2 s.heap a b).get? s.heap.objs.size=some (U6 k1 a):=Heap.get?_push_of_some _ (Heap.get?_push_of_some _ (Heap.get?_push_of_some _ (Heap.get?_push_of_some _ (Heap.get?_push_size _ rfl))));show _/\_;rw[i,j,k]at d;rw[g,i]at m;rw[j]at n;rw[g]at l;rw[k];refine⟨⟨_,d,rfl⟩,h _ d m n ?_ ?_ q λc o x =>
  Heap.get?_push_of_some _ (Heap.get?_push_of_some _ (Heap.get?_push_of_some _ (Heap.get?_push_of_some _ (Heap.get?_push_of_some _ x))))⟩
 .cases k1<;>exact⟨_,p,rfl,rfl⟩
 .cases k2<;>exact⟨_,l,rfl,rfl⟩
end
def SqK(k:Bool)(K:PySem.W.Frag)(H:Hp)(a:Addr)(xs:List V):Prop:=match k with|true=>SqT K H a xs|false=>SqL K H a xs
theorem Inv.sqk{X:Cx}{pins:List (Addr×Obj)}{σ:St}{H:Hp}{s:Shared}{k:Bool}{a:Addr}{xs:List V}(I:Inv X pins σ H s)(h:SqK k X.K H a xs):∃b:List Value,Vals xs b/\SqAt k s.heap a b.toArray/\xs.length<=sizeLine:=by
 cases k
 .obtain⟨b,r,p,z⟩:=I.list h;exact⟨b,r,p.isList,z⟩
 .obtain⟨b,r,p,z⟩:=I.tuple h;exact⟨b,r,p,z⟩
theorem Inv.sqk_inj{X:Cx}{pins:List (Addr×Obj)}{σ:St}{H:Hp}{s:Shared}{k:Bool}{a:Addr}{xs ys:List V}(I:Inv X pins σ H s)(h:SqK k X.K H a xs)(h':SqK k X.K H a ys):xs=ys:=by
 cases k
 .exact I.list_inj h h'
 .exact I.tuple_inj h h'
noncomputable def Itz(K:PySem.W.Frag)(k1 k2:Bool)(a b:Addr):It :=
 ⟨λi H=>∃xs ys x y,SqK k1 K H a xs/\SqK k2 K H b ys/\xs[i]?=some x/\ys[i]?=some y,
  λi H v H'=>∃p x y,v=.ref p/\H p=none/\H'=upd H p (.tup [x,y])/\(∀xs,SqK k1 K H a xs->xs[i]?=some x)/\∀ys,SqK k2 K H b ys->ys[i]?=some y,
  λi H=>∃xs ys,SqK k1 K H a xs/\SqK k2 K H b ys/\(xs.length<=i∨ys.length<=i)⟩
structure ZTurn(k1 k2:Bool)(z TI TO i1 i2 a b:Addr)(i:Nat)(f0:Value)(h:Heap):Prop where
 zz:IsZip h z TI TO f0
 ti:IsPair h TI (.ref i1) (.ref i2)
 to:∃u v,IsPair h TO u v
 t1:ItAt k1 h i1 a i
 t2:ItAt k2 h i2 b i
structure ZNe(z TI TO i1 i2:Addr):Prop where
 TIz:TI≠z
 TOz:TO≠z
 i1z:i1≠z
 i2z:i2≠z
 TITO:TI≠TO
 TIi1:TI≠i1
 TIi2:TI≠i2
 TOi1:TO≠i1
 TOi2:TO≠i2
 i12:i1≠i2
section
variable {X:Cx}{pins:List (Addr×Obj)}{σ:St}{H:Hp}{s:Shared}
theorem Inv.turnedT{h':Heap}{ch:List Addr}{p:Addr}{o:HO}(I:Inv X pins σ H s)(h:∀b∈ch,a1s X pins H b)(hp:s.heap.objs.size=p)(k:∀b o,b∉ch->s.heap.get? b=some o->h'.get? b=some o)
  (new:ObjOk X.prog X.w (upd H p o) h' p o):Inv X pins σ (upd H p o) {s with heap:=h'}:=by
 have hn:H p=none:=I.hok.fresh (Nat.le_of_eq hp);have f:∀b u,H b=some u->b∉ch:=λb u e z=>by rw[(h b z).1]at e;cases e
 have a:∀b u,H b=some u->b≠p:=λb u e z=>by rw[z,hn]at e;cases e
 have i:∀b u,s.heap.get? b=some u->b≠p:=λb u e=>by
  rw[<-hp];exact Nat.ne_of_lt (Heap.lt_size e)
 refine I.step (g':=s.gens) (d':=s.drawn) (t':=s.toks) (ch:=ch) (λb g=>?_) (λb o _ _ d e _=>k b o d e) (λb o _ _ d e _=>⟨o.slots,k b o d e⟩) (λb u _ e n=>by rw[A5 (i b u e)];exact n)
  (λb o d e=>⟨o,k b o d e⟩) (λb xs e=>by rw[A5 (a b _ e)];exact e) (λb u v e=>by rw[A5 (a b _ e)];exact e) (λb ps e=>⟨#[],by rw[A5 (a b _ e),e];simp⟩) (λm j=>?_) (λb u e=>?_) I.bare
 .obtain⟨_,h1,_,h3,h4,h5⟩:=h b g;exact⟨h3,h1,h4,h5⟩
 .obtain⟨o,es,ep,ho,r⟩:=j;exact⟨o,es,ep,k _ o (λz=>(h _ z).2.1 rfl) ho,r⟩
 .by_cases g:b=p
  .subst g;rw[A0]at e;cases e;exact new
  .rw[A5 g]at e;refine(I.hok b u e).stay (λc v d q=>k c v ?_ q) (λc q=>by rw[A5 (a c _ q)];exact q) λc xs q=>by rw[A5 (a c _ q)];exact q
   rcases d with z|z
   .rw[z];exact f b u e
   .exact f c _ z
theorem Inv.turnedL{h':Heap}{ch:List Addr}(I:Inv X pins σ H s)(f:∀b∈ch,a1s X pins H b)(k:∀b o,b∉ch->s.heap.get? b=some o->h'.get? b=some o):Inv X pins σ H {s with heap:=h'}:=by
 have d:∀b u,H b=some u->b∉ch:=λb u e z=>by rw[(f b z).1]at e;cases e
 refine I.step (g':=s.gens) (d':=s.drawn) (t':=s.toks) (ch:=ch) (λb g=>?_) (λb o _ _ a e _=>k b o a e) (λb o _ _ a e _=>⟨o.slots,k b o a e⟩) (λb u _ e n=>n)
  (λb o a e=>⟨o,k b o a e⟩) (λb xs e=>e) (λb u v e=>e) (λb ps e=>⟨#[],by rw[e];simp⟩) (λm h=>?_) (λb u e=>?_) I.bare
 .obtain⟨_,h1,_,h3,h4,h5⟩:=f b g;exact⟨h3,h1,h4,h5⟩
 .obtain⟨o,es,ep,ho,r⟩:=h;exact⟨o,es,ep,k _ o (λz=>(f _ z).2.1 rfl) ho,r⟩
 .refine(I.hok b u e).stay (λc v a q=>k c v ?_ q) (λc q=>q) λc xs q=>q;rcases a with z|z
  .rw[z];exact d b u e
  .exact d c _ z
theorem Inv.apart{k:Bool}{a:Addr}{xs:List V}{b:Addr}{o:Obj}(I:Inv X pins σ H s)(hs:SqK k X.K H a xs)(h:a1s X pins H b):a≠b:=by
 rintro rfl;have c:∀{u:HO},Rd H a u->False:=λr=>by
  rcases r with r|⟨o,r⟩<;>rw[h.1]at r<;>cases r
 have d:∀{f:Obj},X.K.lookup a=some f->False:=λe=>by
  have g:=I.mod.kin a _ e;rcases h.2.2.2.1 with z|z
  .exact I.ok.noex _ _ g z
  .exact absurd (Nat.lt_of_lt_of_le (Heap.lt_size (I.ok.bs _ _ g).1) z) (Nat.lt_irrefl _)
 cases k
 .rcases hs with r|⟨f,_,_,e,_⟩
  .exact c r
  .exact d e
 .rcases hs with r|⟨f,_,_,e,_⟩
  .exact c r
  .exact d e
end
theorem a8N{P:Program}{w:World}{K:PySem.W.Frag}{es:List Expr}{kt:Nat}{tp:Pos}{k1 k2:Bool}{a b z TI TO g j:Addr}(D:ZNe z TI TO g j) :
  Turn P w K (.Tuple es kt tp) (Itz K k1 k2 a b) [z,TI,TO,g,j] z (λi h=>ZTurn k1 k2 z TI TO g j a b i .none h) where
 mem:=by simp
 obj:=λi h st c f=>by
  simp only[List.mem_cons,List.not_mem_nil,or_false]at f;rcases f with rfl|rfl|rfl|rfl|rfl
  .exact⟨_,st.zz,λv z=>by cases z⟩
  .exact⟨_,st.ti,λv z=>by cases z⟩
  .obtain⟨u,v,q⟩:=st.to;exact⟨_,q,λv z=>by cases z⟩
  .obtain⟨o,e,d⟩:=st.t1.get;exact⟨o,e,λv z=>by rw[d]at z;cases z⟩
  .obtain⟨o,e,d⟩:=st.t2.get;exact⟨o,e,λv z=>by rw[d]at z;cases z⟩
 keep:=λi h h' st k=>⟨k z (by simp) _ st.zz,k TI (by simp) _ st.ti,let ⟨u,v,q⟩:=st.to;⟨u,v,k TO (by simp) _ q⟩,st.t1.at λo e=>k g (by simp) o e,st.t2.at λo e=>k j (by simp) o e⟩
 item:=by
  intro X M hw L f i pins s σ H E I r st N;subst M hw L;obtain⟨xs,ys,x,y,m,n,hx,hy⟩:=N;obtain⟨us,W,U,zu⟩:=I.sqk m;obtain⟨ws,B,V,zw⟩:=I.sqk n;obtain⟨u,hu,Y⟩:=W.get hx;obtain⟨v,hv,Z⟩:=B.get hy;have ap:∀c∈[z,TI,TO,g,j],a≠c/\b≠c:=λc f=>⟨I.apart (o:=default) m (r c f),I.apart (o:=default) n (r c f)⟩;have J:ZipApart z TI TO g j a b:=⟨D.TIz,D.TOz,D.i1z,D.i2z,D.TITO,D.TIi1,D.TIi2,D.TOi1,D.TOi2,D.i12,(ap z (by simp)).1,(ap TO (by simp)).1,(ap g (by simp)).1,(ap j (by simp)).1,(ap z (by simp)).2,(ap TO (by simp)).2,(ap g (by simp)).2,(ap j (by simp)).2⟩;obtain⟨ua,ub,p⟩:=st.to;have C:s.TypeIs (.ref z) "zip":=⟨_,st.zz,rfl⟩;unfold pyNext;refine wpAny_bind (wpAny_attempt (wpAny_callSpecial?_slot (name:=Str.ofString "__next__") C F.slot_zip_next
   (wpAny_call_entry F.slot_zip_next C F.entry_zip_next
    (a8C J st.zz st.ti p st.t1 st.t2 U V (x:=u) (y:=v) (by simpa using hu) (by simpa using hv) λh' a1 a2 a3 a4 a5 a6 a7=>wpAny_pure ?_) (F.args_zip_next_1 _))))
  refine⟨_,rfl,?_⟩;refine wpAny_letOwnedTupleGo_zip (s:={s with heap:=h'}) a1 λh2 R l=>?_;have ne:∀c∈[z,TI,TO,g,j],c≠s.heap.objs.size:=λc f e=>by
   have:∃o,s.heap.get? c=some o:=by
    simp only[List.mem_cons,List.not_mem_nil,or_false]at f;rcases f with rfl|rfl|rfl|rfl|rfl
    .exact⟨_,st.zz⟩
    .exact⟨_,st.ti⟩
    .exact⟨_,p⟩
    .obtain⟨o,e,d⟩:=st.t1.get;exact⟨o,e⟩
    .obtain⟨o,e,d⟩:=st.t2.get;exact⟨o,e⟩
   obtain⟨o,q⟩:=this;exact absurd (Heap.lt_size q) (by rw[e];exact Nat.lt_irrefl _)
  have t:H s.heap.objs.size=none:=I.hok.fresh (Nat.le_refl _);have S:IsPair h2 s.heap.objs.size u v:=l.extBut _ _ (ne z (by simp)).symm a5;have kk:∀c o,c∉[z,TI,TO,g,j]->s.heap.get? c=some o->h2.get? c=some o:=λc o f e=>by
   simp only[List.mem_cons,List.not_mem_nil,or_false,not_or]at f;exact l.extBut _ _ f.1 (a7 c o f.1 f.2.2.1 f.2.2.2.1 f.2.2.2.2 e)
  have I2:Inv X pins σ (upd H s.heap.objs.size (.tup [x,y])) {s with heap:=h2} :=
   I.turnedT (ch:=[z,TI,TO,g,j]) r rfl kk ⟨by show 2<=sizeLine;decide,[u,v],.cons Y (.cons Z .nil),⟨_,S,rfl,0,rfl⟩⟩
  refine⟨.ref s.heap.objs.size,_,I2,rfl,⟨_,x,y,rfl,t,rfl,λzs O=>?_,λzs O=>?_⟩,⟨R,l.extBut _ _ D.TIz (a7 _ _ D.TIz D.TITO D.TIi1 D.TIi2 st.ti),⟨u,v,l.extBut _ _ D.TOz a2⟩,a3.extBut l.extBut D.i1z,a4.extBut l.extBut D.i2z⟩,λc f=>?_⟩
  .rw[I.sqk_inj O m];exact hx
  .rw[I.sqk_inj O n];exact hy
  .rw[A5 (ne c f)];exact(r c f).1
 done:=by
  intro X M hw L f i pins s σ H E I r st N;subst M hw L;obtain⟨xs,ys,m,n,G⟩:=N;obtain⟨us,W,U,zu⟩:=I.sqk m;obtain⟨ws,B,V,zw⟩:=I.sqk n;have l1:=W.length;have l2:=B.length;have ap:∀c∈[z,TI,TO,g,j],a≠c/\b≠c:=λc f=>⟨I.apart (o:=default) m (r c f),I.apart (o:=default) n (r c f)⟩;have J:ZipApart z TI TO g j a b:=⟨D.TIz,D.TOz,D.i1z,D.i2z,D.TITO,D.TIi1,D.TIi2,D.TOi1,D.TOi2,D.i12,(ap z (by simp)).1,(ap TO (by simp)).1,(ap g (by simp)).1,(ap j (by simp)).1,(ap z (by simp)).2,(ap TO (by simp)).2,(ap g (by simp)).2,(ap j (by simp)).2⟩;obtain⟨ua,ub,p⟩:=st.to;have C:s.TypeIs (.ref z) "zip":=⟨_,st.zz,rfl⟩;unfold pyNext;refine wpAny_bind (wpAny_attempt (wpAny_callSpecial?_slot (name:=Str.ofString "__next__") C F.slot_zip_next
   (wpAny_call_entry F.slot_zip_next C F.entry_zip_next (b1s (I.ok.hd f) J st.zz st.ti p st.t1 st.t2 U V ?_ λh' e hk he=>?_) (F.args_zip_next_1 _))))
  .rcases G with q|q
   .exact .inl (by simp;omega)
   .exact .inr (by simp;omega)
  .obtain⟨o,ho,f⟩:=he;refine wpAny_bind (wpAny_isInstance (T:="StopIteration") (b:=true) ⟨o,ho,f⟩ isSubtype_stop ?_);refine wpAny_pure ⟨rfl,I.turnedL (ch:=[z,TI,TO,g,j]) r λc o f e=>?_⟩;simp only[List.mem_cons,List.not_mem_nil,or_false,not_or]at f;exact hk c o f.1 f.2.2.1 f.2.2.2.1 f.2.2.2.2 e
 self:=λA i s Q E st h=>wpAny_pyIter_zip st.zz h
theorem nne{a b:Nat}(h:a≠b):@Ne Addr a b:=h
theorem zne(n:Nat):ZNe (n+4) (n+2) (n+3) n (n+1) :=
 ⟨nne (by omega),nne (by omega),nne (by omega),nne (by omega),nne (by omega),nne (by omega),nne (by omega),nne (by omega),nne (by omega),nne (by omega)⟩
def b6B(K:PySem.W.Frag)(ta:TA):TI:=λσ H R=>ta σ H λvs H1=>∃k1 k2 a b,vs=[.ref a,.ref b]/\(∃xs,SqK k1 K H1 a xs)/\(∃ys,SqK k2 K H1 b ys)/\R (Itz K k1 k2 a b) H1
section
variable {X:Cx}
theorem b5r{es:List Expr}{u:Nat}{z:Pos}{a b:Expr}{ta:TA}{p pos:Pos}(m:Gl X "zip")(n:X.mg "zip"=none)(l:PA X [a,b] ta)(i:bootBuiltins "zip"=some (.type "zip"))
  (hs:starEach [a,b] X.env=[(false,eval a X.env),(false,eval b X.env)]:=by rfl) (g:starEach [b] X.env=[(false,eval b X.env)]:=by rfl) :
  PI X (.Tuple es u z) (.Call (.Name "zip" p) [a,b] [] pos) (b6B X.K ta):=by
 intro pins s σ H R I h;refine Call_ (a0H I m n i (PyProof.Rows.callWith_type1 (thn (l pos pins s σ H _ I h) λA s1 ⟨vs,H1,d,x,q1⟩=>?_) (by rw[hs,g]) (by rw[g];rfl)));obtain⟨k1,k2,G,J,e,⟨xs,o⟩,⟨ys,t⟩,q⟩:=q1;subst e;cases x with
 |cons r rr =>
  cases rr with
  |cons r' rr =>
   cases rr;cases r;cases r';obtain⟨A,K,v,M⟩:=d.sqk o;obtain⟨ws,y,w,N⟩:=d.sqk t;refine a8E v w λh' k B C D E L F=>?_;refine wpAny_pyIter_zip (s:={s1 with heap:=h'}) k ?_;refine⟨s1.heap.objs.size+4,[s1.heap.objs.size+4,s1.heap.objs.size+2,s1.heap.objs.size+3,s1.heap.objs.size,s1.heap.objs.size+1],_,_,H1,rfl,d.kept (t':=s1.toks) F,a8N (zne _),
    ⟨k,B,⟨_,_,C⟩,D,E⟩,λc j=>?_,q⟩
   have f:s1.heap.objs.size<=c:=by
    simp only[List.mem_cons,List.not_mem_nil,or_false]at j;rcases j with rfl|rfl|rfl|rfl|rfl
    .exact Nat.le_add_right _ _
    .exact Nat.le_add_right _ _
    .exact Nat.le_add_right _ _
    .exact Nat.le_refl _
    .exact Nat.le_add_right _ _
   exact d.fpOk f (d.hok.fresh f)
end
theorem a4D{prog:Program}{w:World}{A:Around}{k:Bool}{I l:Addr}{items:Array Value}(b:A.handled=none)(a:l≠I) :
  Walks prog w A I [I,l] [I] items.size (λi v=>items[i]?=some v) (λi h=>ItAt k h I l i/\SqAt k h l items):=by
 cases k
 .exact Walks.list b I l a items
 .exact Walks.tuple b I l a items
noncomputable def trV:V->Bool
 |.bl b=>b
 |.int i=>i != 0
 |.non=>false
 |_=>true
noncomputable def b0Q:V->Bool
 |.bl _=>true
 |.int _=>true
 |.non=>true
 |_=>false
theorem a4E{prog:Program}{w:World}{A:Around}{E:Value->Shared->Prop}{s:Shared}{x:V}{v:Value}{Q:Bool->Shared->Prop}(r:RelV x v)(f:b0Q x=true)(h:Q (trV x) s):wpAny (model prog w) A (truthy v) Q E s:=by
 cases x with
 |non=>cases r;exact truthy_none h
 |bl b=>cases r;exact wpAny_truthy_bool h
 |int i=>obtain⟨t,rfl⟩:=r;exact PySem.P.truthy_int h
 |_=>cases f
theorem a7y{α:Type}(xs:List α)(p:α->Bool)(d:α):(List.range xs.length).all (λi=>p (xs.getD i d))=xs.all p:=by
 rw[Bool.eq_iff_iff,List.all_eq_true,List.all_eq_true];constructor
 .intro h x hx;obtain⟨i,hi,rfl⟩:=List.mem_iff_getElem.mp hx;have:=h i (List.mem_range.mpr hi);simpa[List.getD_eq_getElem?_getD,hi]using this
 .intro h i hi;have a:=List.mem_range.mp hi;simpa[List.getD_eq_getElem?_getD,a]using h xs[i] (List.getElem_mem a)
section
variable {X:Cx}
abbrev RL:=List V->Hp->VK->Prop
def b5h(K:PySem.W.Frag):RL:=λxs H Q=>∃(k:Bool) (p:Addr) (ys:List V),xs=[.ref p]/\SqK k K H p ys/\ys.all b0Q=true/\Q (.bl (ys.all trV)) H
theorem b0K{k:Bool}{l:Addr}{items:Array Value}{s:Shared}(h:SqAt k s.heap l items):ItAt k (s.heap.push (U6 k l)) s.heap.objs.size l 0/\SqAt k (s.heap.push (U6 k l)) l items:=by
 refine⟨?_,h.at λo e=>Heap.get?_push_of_some _ e⟩;cases k<;>exact⟨_,Heap.get?_push_size _ rfl,rfl,rfl⟩
theorem a5f{k:Bool}{l:Addr}{items:Array Value}{s:Shared}(h:SqAt k s.heap l items):l≠s.heap.objs.size:=by
 obtain⟨o,e⟩:=h.get;exact Nat.ne_of_lt (Heap.lt_size e)
theorem a5g{s:Shared}{h':Heap}{c:Obj}(a:∀b o,b∉[s.heap.objs.size]->(s.heap.push c).get? b=some o->h'.get? b=some o):∀b o,s.heap.get? b=some o->h'.get? b=some o:=λb o e =>
 a b o (λz=>by have:=Heap.lt_size e;rw[List.mem_singleton.mp z]at this;exact Nat.lt_irrefl _ this) (Heap.get?_push_of_some _ e)
theorem b1l(j:X.calm=true):K1 X (.builtin "all") (b5h X.K):=by
 intro pins s σ H xs x Q I t h;obtain⟨k,p,ys,rfl,hs,m,q⟩:=h;obtain⟨u,rfl,r⟩:=t.one;cases r;obtain⟨a,d,f,w⟩:=I.sqk hs;have n:X.A.in1.handled=none:=I.ok.hd j;refine call_all_walk (T4 f ?_);refine⟨s.heap.objs.size,_,_,_,_,_,λi=>trV (ys.getD i .non),rfl,a4D (k:=k) (l:=p) (items:=a.toArray) n (a5f f),b0K f,?_,λh' tk o=>?_⟩
 .intro i v s' Q' E' hv hq;have c:a[i]?=some v:=by simpa using hv
  obtain⟨hi,_⟩:=List.getElem?_eq_some_iff.mp c;have b:i<ys.length:=by rw[d.length];exact hi
  have g:ys[i]?=some ys[i]:=List.getElem?_eq_getElem b;obtain⟨y,e1,e2⟩:=d.get g;rw[c]at e1;cases e1;refine a4E e2 (List.all_eq_true.mp m _ (List.getElem_mem b)) ?_;simpa[List.getD_eq_getElem?_getD,g]using hq
 .have e:(List.range a.toArray.size).all (λi=>trV (ys.getD i .non))=ys.all trV:=by
   rw[List.size_toArray,<-d.length];exact a7y ys trV .non
  rw[e];exact⟨.bl _,H,I.kept (a5g o),rfl,q⟩
def b5g(K:PySem.W.Frag):RL:=λxs H Q=>∃x n t b,xs=[x,.ty n]/\TyOf K H x t/\PySem.W.kitOne K t (.type n)=some b/\Q (.bl b) H
theorem b1j:K1 X (.builtin "isinstance") (b5g X.K):=by
 intro pins s σ H xs f Q I d h;obtain⟨x,n,t,b,rfl,ty,e,q⟩:=h;obtain⟨u,v,rfl,c,a⟩:=d.two;cases a;exact a8a I c ty e λtk=>⟨.bl b,H,I.tok tk,rfl,q⟩
end
theorem a6t:bootBuiltins "len"=some (.builtin "len"):=boot_len
theorem b6N:bootBuiltins "zip"=some (.type "zip"):=by kernel_rfl
theorem b6S:bootBuiltins "all"=some (.builtin "all"):=by kernel_rfl
theorem b6Q:bootBuiltins "min"=some (.builtin "min"):=by kernel_rfl
theorem b6R:bootBuiltins "max"=some (.builtin "max"):=by kernel_rfl
theorem b6T:bootBuiltins "abs"=some (.builtin "abs"):=by kernel_rfl
theorem a0z:bootBuiltins "isinstance"=some (.builtin "isinstance"):=by kernel_rfl
theorem a5z:bootBuiltins "tuple"=some (.type "tuple"):=by kernel_rfl
theorem b3v:bootBuiltins "list"=some (.type "list"):=by kernel_rfl
theorem b1p:bootBuiltins "int"=some (.type "int"):=by kernel_rfl
theorem b3w:bootBuiltins "bool"=some (.type "bool"):=by kernel_rfl
theorem b6O:bootBuiltins "str"=some (.type "str"):=by kernel_rfl
theorem b6P:bootBuiltins "set"=some (.type "set"):=by kernel_rfl
theorem a1g{src:List (Option Nat)}{g:TG}{f:TT}{te:TE}{σ:St}{Q:VK}{J:It}{H1:Hp}(n:Nat)(a:Nat->List V->Hp->Prop)(h0:a 0 [] H1)
  (hs:∀i ys H,i<n->a i ys H->J.go i H/\ys.length<sizeLine/\∀x H',J.yld i H x H'->g x (D6 src σ) H' λσ2 H2=>Sub (D6 src σ) σ2/\f σ2 H2 λb d=>if b=true then te σ2 d λv h=>a (i+1) (ys++[v]) h else a (i+1) ys d)
  (hd:∀ys H,a n ys H->J.stop n H/\ys.length<=sizeLine/\∀p,H p=none->Q (.ref p) (upd H p (.lst ys))):U8 src g f te σ Q J H1:=by
 refine⟨λi m ys H=>m=n-i/\i<=n/\a i ys H,⟨n,by omega,Nat.zero_le _,h0⟩,?_⟩;rintro i m ys H ⟨rfl,hi,p⟩;by_cases c:i<n
 .obtain⟨q1,q2,q3⟩:=hs i ys H c p;exact .inr ⟨q1,q2,a (i+1),λzs H' p'=>⟨n-(i+1),by omega,rfl,c,p'⟩,q3⟩
 .have e:i=n:=by omega
  subst e;exact .inl (hd ys H p)
theorem a2J{src:List (Option Nat)}{g:TG}{f:TT}{te:TE}{σ:St}{Q:VK}{lo:Int}{n:Nat}{H1:Hp}(hn:n<=sizeLine)(a:Nat->List V->Hp->Prop)(h0:a 0 [] H1)
  (d:∀i ys H,a i ys H->ys.length<=i)
  (hs:∀i ys H,i<n->a i ys H->g (.int (lo+i)) (D6 src σ) H λσ2 H2=>Sub (D6 src σ) σ2/\f σ2 H2 λb c=>if b=true then te σ2 c λv h=>a (i+1) (ys++[v]) h else a (i+1) ys c)
  (hd:∀ys H,a n ys H->∀p,H p=none->Q (.ref p) (upd H p (.lst ys))):U8 src g f te σ Q (Itr lo n) H1 :=
 a1g n a h0 (λi ys H hi p=>⟨hi,by have:=d i ys H p;omega,λx H' y=>by obtain⟨e,y⟩:=y;subst e y;exact hs i ys _ hi p⟩)
  λys H p=>⟨Nat.le_refl _,Nat.le_trans (d n ys H p) hn,hd ys H p⟩
theorem a1r{K:PySem.W.Frag}{src:List (Option Nat)}{g:TG}{h:TT}{te:TE}{σ:St}{Q:VK}{a:Addr}{xs:List V}{H1:Hp}(hn:xs.length<=sizeLine)(c:Nat->List V->Hp->Prop)(h0:c 0 [] H1)
  (f:∀i ys H,i<=xs.length->c i ys H->SqL K H a xs/\ys.length<=i)
  (hs:∀i x ys H,xs[i]?=some x->c i ys H->g x (D6 src σ) H λσ2 H2=>Sub (D6 src σ) σ2/\h σ2 H2 λb d=>if b=true then te σ2 d λv j=>c (i+1) (ys++[v]) j else c (i+1) ys d)
  (hd:∀ys H,c xs.length ys H->∀p,H p=none->Q (.ref p) (upd H p (.lst ys))):U8 src g h te σ Q (Itl K a) H1 :=
 a1g xs.length c h0 (λi ys H hi p=>by
   obtain⟨q1,k⟩:=f i ys H (Nat.le_of_lt hi) p;refine⟨⟨xs,xs[i],q1,List.getElem?_eq_getElem hi⟩,by omega,λx H' y=>?_⟩;obtain⟨e,y⟩:=y;subst e;exact hs i x ys _ (y xs q1) p)
  λys H p=>by
   obtain⟨q1,k⟩:=f _ ys H (Nat.le_refl _) p;exact⟨⟨xs,q1,Nat.le_refl _⟩,by omega,hd ys H p⟩
theorem b1h{K:PySem.W.Frag}{src:List (Option Nat)}{g:TG}{h:TT}{te:TE}{σ:St}{Q:VK}{a:Addr}{xs:List V}{H1:Hp}(hn:xs.length<=sizeLine)(c:Nat->List V->Hp->Prop)(h0:c 0 [] H1)
  (f:∀i ys H,i<=xs.length->c i ys H->SqT K H a xs/\ys.length<=i)
  (hs:∀i x ys H,xs[i]?=some x->c i ys H->g x (D6 src σ) H λσ2 H2=>Sub (D6 src σ) σ2/\h σ2 H2 λb d=>if b=true then te σ2 d λv j=>c (i+1) (ys++[v]) j else c (i+1) ys d)
  (hd:∀ys H,c xs.length ys H->∀p,H p=none->Q (.ref p) (upd H p (.lst ys))):U8 src g h te σ Q (Itt K a) H1 :=
 a1g xs.length c h0 (λi ys H hi p=>by
   obtain⟨q1,k⟩:=f i ys H (Nat.le_of_lt hi) p;refine⟨⟨xs,xs[i],q1,List.getElem?_eq_getElem hi⟩,by omega,λx H' y=>?_⟩;obtain⟨e,y⟩:=y;subst e;exact hs i x ys _ (y xs q1) p)
  λys H p=>by
   obtain⟨q1,k⟩:=f _ ys H (Nat.le_refl _) p;exact⟨⟨xs,q1,Nat.le_refl _⟩,by omega,hd ys H p⟩
theorem b1g{K:PySem.W.Frag}{src:List (Option Nat)}{g:TG}{l:TT}{te:TE}{σ:St}{Q:VK}{k1 k2:Bool}{a b:Addr}{xs zs:List V}{H1:Hp}(hn:xs.length<=sizeLine)(c:Nat->List V->Hp->Prop)(h0:c 0 [] H1)
  (k:∀i ys H,i<=xs.length->i<=zs.length->c i ys H->SqK k1 K H a xs/\SqK k2 K H b zs/\ys.length<=i)
  (hs:∀i x z ys H p,xs[i]?=some x->zs[i]?=some z->c i ys H->H p=none->g (.ref p) (D6 src σ) (upd H p (.tup [x,z])) λσ2 H2=>Sub (D6 src σ) σ2/\l σ2 H2 λb j=>if b=true then te σ2 j λv m=>c (i+1) (ys++[v]) m else c (i+1) ys j)
  (hd:∀ys H,c (min xs.length zs.length) ys H->∀p,H p=none->Q (.ref p) (upd H p (.lst ys))):U8 src g l te σ Q (Itz K k1 k2 a b) H1 :=
 a1g (min xs.length zs.length) c h0 (λi ys H hi p=>by
   have f:i<xs.length:=by omega
   have h:i<zs.length:=by omega
   obtain⟨q1,d,q⟩:=k i ys H (by omega) (by omega) p;refine⟨⟨xs,zs,xs[i],zs[i],q1,d,List.getElem?_eq_getElem f,List.getElem?_eq_getElem h⟩,by omega,λx H' y=>?_⟩;obtain⟨o,x',t,e,e2,n,r,s⟩:=y;subst e n;exact hs i x' t ys _ o (r xs q1) (s zs d) p e2)
  λys H p=>by
   obtain⟨q1,d,q⟩:=k _ ys H (by omega) (by omega) p;exact⟨⟨xs,zs,q1,d,by omega⟩,by omega,hd ys H p⟩
structure Ok(P:Program)(w:World)(K:PySem.W.Frag)(mg:Str->Option Value)(base:Heap)(x:Str)(k:Nat)(ps:List Str)(sp:Sp):Prop where
 ex:∃f fd,mg x=some (.ref f)/\PySem.W.keepIn K (.ref f)=true/\Binds K fd ps []/\FnOk P w K mg base CX0 k f fd ps sp
structure FunAt(K:PySem.W.Frag)(mg:Str->Option Value)(x:Str)(st:Stmt)(ps:List Str):Prop where
 ex:∃f fd,mg x=some (.ref f)/\Fun K x x st f fd/\Binds K fd ps []
section
variable {P:Program}{w:World}{K:PySem.W.Frag}{mg:Str->Option Value}{base:Heap}
theorem FunAt.ok{x:Str}{st:Stmt}{N ps:List Str}{k:Nat}{sp:Sp}(F:FunAt K mg x st ps)(S:FnScope N ps (A8 st))(len:∀vs H Q E,sp vs H Q E->vs.length=ps.length)
  (b:∀(a:Value) (f:Addr) (A:Around) (outer:List Env) (s:Shared) (H:Hp) (vs:List V) (Q:VK) (E:XK),Room k (A.deeper (envOfC x (A8 st) s.heap.objs.size f a))->sp vs H Q E ->
   ∃t,PSs (N9 CX0 P w K mg base N x (A8 st) f a A outer s H E).nox (K5 st) t/\t {nx:=λ_ H'=>Q .non H',rt:=Q} (start N vs) H):Ok P w K mg base x (k+1) ps sp:=by
 obtain⟨f,fd,h1,h2,c⟩:=F.ex;exact⟨f,fd,h1,h2.kp,c,h2.ok S len λa=>b a f⟩
end
section
variable {X:Cx}{k:Nat}{ps:List Str}{sp:Sp}{x:Str}{p pos:Pos}{e:Expr}{es:List Expr}{t:TA}
theorem a9W(O:Ok X.prog X.w X.K X.mg X.base x k ps sp)(i:Room k X.A)(h:Gl X x)(d:PA X (e::es) t)(a:(x==("__debug__" : Str))=false:=by decide)
  (g:starEach (e::es) X.env=(false,eval e X.env)::starEach es X.env:=by rfl) (hpl:(backTo pos (starEach es X.env)).any (·.1)=false:=by rfl):PE X (.Call (.Name x p) (e::es) [] pos) (a6F sp [] E0 t):=by
 obtain⟨f,fd,h1,h2,b,c⟩:=O.ex;exact a6O c i h h1 h2 b .nil a4S d a g hpl
end
inductive EqV(K:PySem.W.Frag)(H:Hp):Nat->V->V->Bool->Prop
 |flat {n:Nat}{x y:V}(fx:M3 x=true) (fy:M3 y=true):EqV K H n x y (eqV x y)
 |tup {n:Nat}{a b:Addr}{xs ys:List V}(e:Nat->Bool) (ha:SqT K H a xs) (hb:SqT K H b ys) (he:∀j x y,xs[j]?=some x->ys[j]?=some y->EqV K H n x y (e j)) :
   EqV K H (n+1) (.ref a) (.ref b) ((List.range (min xs.length ys.length)).all e && xs.length==ys.length)
 |lst {n:Nat}{a b:Addr}{xs ys:List V}(e:Nat->Bool) (ha:SqL K H a xs) (hb:SqL K H b ys) (he:∀j x y,xs[j]?=some x->ys[j]?=some y->EqV K H n x y (e j)) :
   EqV K H (n+1) (.ref a) (.ref b) ((List.range (min xs.length ys.length)).all e && xs.length==ys.length)
theorem a5p:∀{x:V},M3 x=true->eqV x x=true
 |.non,_=>rfl
 |.bl b,_=>beq_self_eq_true b
 |.int i,_=>beq_self_eq_true i
 |.str y,_=>beq_self_eq_true y
 |.byt _,h=>by cases h
 |.flt _,h=>by cases h
 |.ref _,h=>by cases h
 |.ty _,h=>by cases h
section
variable {X:Cx}{pins:List (Addr×Obj)}{σ:St}{H:Hp}{s:Shared}
theorem EqV.same{n:Nat}{x y:V}{b:Bool}(I:Inv X pins σ H s)(h:EqV X.K H n x y b):x=y->b=true:=by
 induction h with
 |flat fx fy=>rintro rfl;exact a5p fx
 |tup e c d g f =>
  intro z;cases z;have q:=I.tuple_inj c d;subst q;simp only[Nat.min_self,Bool.and_eq_true,beq_self_eq_true,and_true,List.all_eq_true,List.mem_range];intro j a;exact f j _ _ (List.getElem?_eq_getElem a) (List.getElem?_eq_getElem a) rfl
 |lst e c d g f =>
  intro z;cases z;have q:=I.list_inj c d;subst q;simp only[Nat.min_self,Bool.and_eq_true,beq_self_eq_true,and_true,List.all_eq_true,List.mem_range];intro j a;exact f j _ _ (List.getElem?_eq_getElem a) (List.getElem?_eq_getElem a) rfl
theorem J7{xs:List V}{us:List Value}{j:Nat}{u:Value}(r:Vals xs us)(h:us[j]?=some u):∃x,xs[j]?=some x/\RelV x u:=by
 obtain⟨c,_⟩:=List.getElem?_eq_some_iff.mp h;have a:j<xs.length:=by rw[r.length];exact c
 have b:xs[j]?=some xs[j]:=List.getElem?_eq_getElem a;obtain⟨d,e,q⟩:=r.get b;rw[h]at e;cases e;exact⟨_,b,q⟩
theorem EqV.at{n:Nat}{x y:V}{b:Bool}(I:Inv X pins σ H s)(h:EqV X.K H n x y b):∀{A:Around}{u v:Value},A.units+n<cLine->RelV x u->RelV y v->SeqAt.EqAt A s u v b:=by
 induction h with
 |flat fx fy=>intro A u v _ k l;exact b0X k l fx fy
 |@tup n a b xs ys e f g p q =>
  intro A u v z k l;cases k;cases l;by_cases c:a=b
  .have:=(EqV.tup e f g p).same I (by rw[c]);rw[this,c];exact SeqAt.EqAt.same _
  .obtain⟨us,r1,p1,_⟩:=I.tuple f;obtain⟨ws,i,p2,_⟩:=I.tuple g;rw[r1.length,i.length];refine SeqAt.EqAt.of_refs c ?_;have:=SeqAt.RcAt.tuples (A:=A) (s:=s) (e:=e) (show s.heap.IsTuple a us.toArray from p1) (show s.heap.IsTuple b ws.toArray from p2) (by omega) (λj h1 h2=>?_)
   .simpa using this
   .have h1':us[j]?=some us.toArray[j]:=by simp at h1⊢
    have d:ws[j]?=some ws.toArray[j]:=by simp at h2⊢
    obtain⟨x,ex,r⟩:=J7 r1 h1';obtain⟨y,o,t⟩:=J7 i d;exact q j x y ex o (by show A.units+1+n<cLine;omega) r t
 |@lst n a b xs ys e f g p q =>
  intro A u v z k l;cases k;cases l;by_cases c:a=b
  .have:=(EqV.lst e f g p).same I (by rw[c]);rw[this,c];exact SeqAt.EqAt.same _
  .obtain⟨us,r1,p1,_⟩:=I.list f;obtain⟨ws,i,p2,_⟩:=I.list g;rw[r1.length,i.length];refine SeqAt.EqAt.of_refs c ?_;by_cases m:us.length=ws.length
   .have:=SeqAt.RcAt.lists (A:=A) (s:=s) (e:=e) p1.isList p2.isList (by simpa using m) (by omega) (λj h1 h2=>?_)
    .simpa[m]using this
    .have h1':us[j]?=some us.toArray[j]:=by simp at h1⊢
     have d:ws[j]?=some ws.toArray[j]:=by simp at h2⊢
     obtain⟨x,ex,r⟩:=J7 r1 h1';obtain⟨y,o,t⟩:=J7 i d;exact q j x y ex o (by show A.units+1+n<cLine;omega) r t
   .have:=SeqAt.RcAt.lists_lengths (A:=A) (s:=s) p1.isList p2.isList (by simpa using m) (by omega);have w:(us.length==ws.length)=false:=by simpa using m
    rw[w,Bool.and_false];exact this
end
def a2T(K:PySem.W.Frag)(neg:Bool):R2:=λx y H Q=>∃n b,n<=50/\EqV K H n x y b/\(∃a c,x=.ref a/\y=.ref c)/\Q (.bl (if neg then !b else b)) H
section
variable {X:Cx}
theorem b5X(B:X.A.units+60<cLine):OpR X (compareOp .Eq) (a2T X.K false):=by
 intro pins s σ H x y v u Q I l m h;obtain⟨n,b,hn,g,⟨a,c,rfl,rfl⟩,q⟩:=h;cases l;cases m;show wpAny _ _ (richCompare .Eq (.ref a) (.ref c)) _ _ s;have key:SeqAt.RcAt X.A s (.ref a) (.ref c) b:=by
  cases g with
  |flat fx fy=>cases fx
  |@tup n _ _ xs ys e t w g =>
   obtain⟨d,i,p,_⟩:=I.tuple t;obtain⟨ws,k,p2,_⟩:=I.tuple w;rw[i.length,k.length];have:=SeqAt.RcAt.tuples (A:=X.A) (s:=s) (e:=e) (show s.heap.IsTuple a d.toArray from p) (show s.heap.IsTuple c ws.toArray from p2) (by omega) (λj h1 h2=>?_)
   .simpa using this
   .have h1':d[j]?=some d.toArray[j]:=by simp at h1⊢
    have f:ws[j]?=some ws.toArray[j]:=by simp at h2⊢
    obtain⟨x,ex,l⟩:=J7 i h1';obtain⟨y,r,m⟩:=J7 k f;exact(g j x y ex r).at I (by show X.A.units+1+n<cLine;omega) l m
  |@lst n _ _ xs ys e t w g =>
   obtain⟨d,i,p,_⟩:=I.list t;obtain⟨ws,k,p2,_⟩:=I.list w;rw[i.length,k.length];by_cases o:d.length=ws.length
   .have:=SeqAt.RcAt.lists (A:=X.A) (s:=s) (e:=e) p.isList p2.isList (by simpa using o) (by omega) (λj h1 h2=>?_)
    .simpa[o]using this
    .have h1':d[j]?=some d.toArray[j]:=by simp at h1⊢
     have f:ws[j]?=some ws.toArray[j]:=by simp at h2⊢
     obtain⟨x,ex,l⟩:=J7 i h1';obtain⟨y,r,m⟩:=J7 k f;exact(g j x y ex r).at I (by show X.A.units+1+n<cLine;omega) l m
   .have:=SeqAt.RcAt.lists_lengths (A:=X.A) (s:=s) p.isList p2.isList (by simpa using o) (by omega);have z:(d.length==ws.length)=false:=by simpa using o
    rw[z,Bool.and_false];exact this
 exact key _ _ _ _ ⟨.bl _,H,I,rfl,q⟩
theorem b5Q(B:X.A.units+60<cLine):OpR X (compareOp .NotEq) (a2T X.K true):=by
 intro pins s σ H x y v u Q I l m h;obtain⟨n,b,hn,g,⟨a,c,rfl,rfl⟩,q⟩:=h;cases l;cases m;show wpAny _ _ (richCompare .NotEq (.ref a) (.ref c)) _ _ s;have key:SeqAt.RcNeAt X.A s (.ref a) (.ref c) (!b):=by
  cases g with
  |flat fx fy=>cases fx
  |@tup n _ _ xs ys e t w g =>
   obtain⟨d,i,p,_⟩:=I.tuple t;obtain⟨ws,k,p2,_⟩:=I.tuple w;rw[i.length,k.length];have:=SeqAt.RcNeAt.tuples (A:=X.A) (s:=s) (e:=e) (show s.heap.IsTuple a d.toArray from p) (show s.heap.IsTuple c ws.toArray from p2) (by omega) (λj h1 h2=>?_)
   .simpa using this
   .have h1':d[j]?=some d.toArray[j]:=by simp at h1⊢
    have f:ws[j]?=some ws.toArray[j]:=by simp at h2⊢
    obtain⟨x,ex,l⟩:=J7 i h1';obtain⟨y,r,m⟩:=J7 k f;exact(g j x y ex r).at I (by show X.A.units+1+n<cLine;omega) l m
  |@lst n _ _ xs ys e t w g =>
   obtain⟨d,i,p,_⟩:=I.list t;obtain⟨ws,k,p2,_⟩:=I.list w;rw[i.length,k.length];by_cases o:d.length=ws.length
   .have:=SeqAt.RcNeAt.lists (A:=X.A) (s:=s) (e:=e) p.isList p2.isList (by simpa using o) (by omega) (λj h1 h2=>?_)
    .simpa[o]using this
    .have h1':d[j]?=some d.toArray[j]:=by simp at h1⊢
     have f:ws[j]?=some ws.toArray[j]:=by simp at h2⊢
     obtain⟨x,ex,l⟩:=J7 i h1';obtain⟨y,r,m⟩:=J7 k f;exact(g j x y ex r).at I (by show X.A.units+1+n<cLine;omega) l m
   .have:=SeqAt.RcNeAt.lists_lengths (A:=X.A) (s:=s) p.isList p2.isList (by simpa using o) (by omega);have z:(d.length==ws.length)=false:=by simpa using o
    rw[z,Bool.and_false];exact this
 exact key _ _ _ _ ⟨.bl _,H,I,rfl,q⟩
theorem b3z{ns ms:List Int}:((List.range (min ns.length ms.length)).all (λj=>decide (ns.getD j 0=ms.getD j 0)) && ns.length==ms.length)=decide (ns=ms):=by
 rw[Bool.eq_iff_iff];simp only[Bool.and_eq_true,List.all_eq_true,List.mem_range,decide_eq_true_eq,beq_iff_eq];constructor
 .rintro⟨h1,h2⟩;refine List.ext_getElem h2 λi a b=>?_;have:=h1 i (by omega);simpa[List.getD_eq_getElem?_getD,a,b]using this
 .rintro rfl;exact⟨λ_ _=>rfl,rfl⟩
theorem b0M{ns:List Int}{j:Nat}{x:V}(h:(ns.map V.int)[j]?=some x):x=.int (ns.getD j 0)/\j<ns.length:=by
 rw[List.getElem?_map]at h;cases e:ns[j]? with
 |none=>rw[e]at h;cases h
 |some z =>
  rw[e]at h;obtain⟨a,_⟩:=List.getElem?_eq_some_iff.mp e;exact⟨by rw[List.getD_eq_getElem?_getD,e];exact(Option.some.inj h).symm,a⟩
theorem EqV.ints{K:PySem.W.Frag}{H:Hp}{k:Bool}{a b:Addr}{ns ms:List Int}(c:SqK k K H a (ns.map V.int))(d:SqK k K H b (ms.map V.int)):EqV K H 1 (.ref a) (.ref b) (decide (ns=ms)):=by
 have step:∀j x y,(ns.map V.int)[j]?=some x->(ms.map V.int)[j]?=some y->EqV K H 0 x y (decide (ns.getD j 0=ms.getD j 0)):=λj x y e f=>by
  obtain⟨rfl,_⟩:=b0M e;obtain⟨rfl,_⟩:=b0M f;have:=EqV.flat (K:=K) (H:=H) (n:=0) (x:=.int (ns.getD j 0)) (y:=.int (ms.getD j 0)) rfl rfl;rw[show eqV (.int (ns.getD j 0)) (.int (ms.getD j 0))=decide (ns.getD j 0=ms.getD j 0)from rfl]at this;exact this
 rw[<-b3z];cases k
 .have:=EqV.lst (λj=>decide (ns.getD j 0=ms.getD j 0)) c d step;simpa using this
 .have:=EqV.tup (λj=>decide (ns.getD j 0=ms.getD j 0)) c d step;simpa using this
theorem b0P:b6X X (a5S X.K):=by
 intro pins s σ H x y v u Q I m n h;obtain⟨p,xs,i,z,rfl,rfl,l,g,q⟩:=h;cases m;obtain⟨t,rfl⟩:=n;obtain⟨a,r,pl,A⟩:=I.list l;obtain⟨j,h1,h2,o,e,f⟩:=a1R g;obtain⟨w,c,b⟩:=r.get h2;have k:=r.length;have hn:=Z9;have fin:EP X pins σ Q w s:=⟨z,H,I,b,q⟩;by_cases d:0<=i
 .have hj:i.toNat=j:=by
   rw[seqIndex_of d f]at h1;exact Option.some.inj h1
  exact wpAny_getItem_list pl.isList d (by omega) (by rw[hj];simpa using c) fin
 .have hj:(i+(a.toArray.size:Int)).toNat=j:=by
   rw[seqIndex_neg (by omega) e]at h1;rw[List.size_toArray,<-k];exact Option.some.inj h1
  exact wpAny_getItem_list_neg pl.isList (by omega) (by rw[List.size_toArray]<;>omega) (by omega) (by rw[hj];simpa using c) fin
def a9w:R2:=λx y H Q=>∃a b xs ys,x=.ref a/\y=.ref b/\H a=some (.tup xs)/\H b=some (.tup ys)/\xs.length+ys.length<=sizeLine/\∀p H',Same H H'->H' p=some (.tup (xs++ys))->Q (.ref p) H'
theorem a9Y:OpR X (binaryOp .Add) a9w:=by
 intro pins s σ H x y v u Q I B C h;obtain⟨a,b,xs,ys,rfl,rfl,k,l,E,q⟩:=h;by_cases z:xs=[]
 .subst z;cases B;cases C;obtain⟨F,K,J,_⟩:=I.tuple (.inl (.inl k));obtain⟨A,L,p2,_⟩:=I.tuple (.inl (.inl l));cases K;obtain⟨⟨cls,dd,data,sl⟩,w,t,n,hd⟩:=id J;obtain⟨⟨r,j,i,m⟩,g,d,G,f⟩:=id p2;simp only at t hd d f;subst t hd d f;exact concat_meets ⟨_,w,rfl⟩ ⟨_,g,rfl⟩ noFill_tuple_add seq_tuple_add PySem.F.slot_tuple_add PySem.F.entry_tuple_add (PySem.F.args_tuple_add_2 _ _)
   (tuple_addW0 a b _ _ n G dd j sl m (by simp)) ⟨w,g,⟨.ref b,H,I,rfl,q b H (Same.refl H) l⟩⟩
 .refine b2B pins s σ H _ _ v u Q I B C ⟨a,b,xs,ys,rfl,rfl,.inl (.inl k),.inl (.inl l),z,E,λe=>?_,λ_ p D=>?_⟩
  .subst e;exact q a H (Same.refl H) (by rw[List.append_nil];exact k)
  .exact q p _ (λc o e=>by rw[A5 (B0 e D)];exact e) A0
end
open PySem.AutoSeq1 (wpAny_loadPart')
theorem X3:fillsNumberSlot (.type "tuple") "mul"=pure false :=
 PySem.fillsNumberSlot_seq (id:="tuple.__mul__") (r:=some (.builtin "tuple.__rmul__")) F.slot_tuple_mul.lookup (by decide +kernel) F.slot_tuple_rmul.lookup (by decide +kernel)
theorem a0V:seqRepeat? (.type "tuple")=pure (some (.builtin "tuple.__mul__")):=by
 unfold seqRepeat?;rw[PySem.seqSlot_of (T:="tuple") (name:="__mul__") (id:="tuple.__mul__") F.slot_tuple_mul.lookup (by decide +kernel),PySem.seqSlot_of (T:="tuple") (name:="__rmul__") (id:="tuple.__rmul__") F.slot_tuple_rmul.lookup (by decide +kernel)];rfl
theorem a2h(a:Int)(t:Tok)(l:Addr)(items:Array Value)(n:Nat)(dd:Option Addr)(sl:Array (Option Value)) :
  Meets (Builtin.«int.__rmul__» ⟨[.int a t,.ref l],[]⟩) (λ_ R s=>s.heap.get? l=some {cls:=.type "tuple",dict:=dd,data:=.seq items n,slots:=sl}/\R (.ok (.ret Value.notImplemented)) s) :=
 .of_wp λprog w A R s h=>by obtain⟨c,g,d,tk,os⟩:=s;obtain⟨b,h⟩:=h;wp_walk;exact⟨_,rfl,h⟩
theorem a5H(l:Addr)(items:Array Value)(n:Nat)(dd:Option Addr)(sl:Array (Option Value))(u:Tok) :
  Meets (Builtin.«tuple.__mul__» ⟨[.ref l,.int 1 u],[]⟩) (λ_ R s=>s.heap.get? l=some {cls:=.type "tuple",dict:=dd,data:=.seq items n,slots:=sl}/\R (.ok (.ret (.ref l))) s) :=
 .of_wp λprog w A R s h=>by
  obtain⟨c,g,d,tk,os⟩:=s;obtain⟨a,h⟩:=h;have b:=AutoSeq1.idx_int
  wp_walk using wpAny_loadPart' a
  exact⟨_,rfl,h⟩
theorem a5G(l:Addr)(items:Array Value)(n:Nat)(dd:Option Addr)(sl:Array (Option Value))(x:Int)(u:Tok)(e:items.isEmpty=false)(h1:1<x)(h2:¬(decide (x < -(2 ^ 63)) || decide (x ≥ 2 ^ 63))=true)
  (f:¬((items.size:Int)*x > (2 ^ 63-1) / 8)) (i:¬Builtin.Tuple.tupleTooMany ((items.size:Int)*x)=true) (hsz:(List.foldl (λb c=>b++c) #[] (List.replicate x.toNat items)).size<=sizeLine) :
  Meets (Builtin.«tuple.__mul__» ⟨[.ref l,.int x u],[]⟩) (λ_ R s=>s.heap.get? l=some {cls:=.type "tuple",dict:=dd,data:=.seq items n,slots:=sl} /\
   R (.ok (.ret (.ref s.heap.objs.size))) {s with heap:=s.heap.push {cls:=.type "tuple",data:=.seq (List.foldl (λb c=>b++c) #[] (List.replicate x.toNat items))}}) :=
 .of_wp λprog w A R s h=>by
  obtain⟨o,g,d,tk,os⟩:=s;obtain⟨a,h⟩:=h;have m:=AutoSeq1.idx_int;have e1:(x==1)=false:=by simp;omega
  have e2:decide (x<=0)=false:=by simp;omega
  have j:¬((items.isEmpty || x==1)=true):=by rw[e,e1];decide
  have k:¬((decide (x<=0) || items.isEmpty)=true):=by rw[e,e2];decide
  wp_walk using wpAny_loadPart' a
  rw[if_neg h2]
  wp_walk using wpAny_loadPart' a
  rw[if_neg f]
  wp_walk using wpAny_loadPart' a
  first
   |exact⟨_,rfl,h⟩
   |(rw[if_neg i];wp_walk using wpAny_loadPart' a;exact⟨_,rfl,h⟩)
theorem a2B{α:Type}(b:List α):∀(k:Nat) (a:List α),List.foldl (λc d=>c++d) a.toArray (List.replicate k b.toArray)=(a++(List.replicate k b).flatten).toArray
 |0,a=>by simp
 |k+1,a=>by
  have e:a.toArray++b.toArray=(a++b).toArray:=by simp
  rw[List.replicate_succ,List.foldl_cons,e,a2B b k,List.replicate_succ,List.flatten_cons,List.append_assoc]
section
variable {X:Cx}
def b7N:R2:=λx y H Q=>∃a xs n,x=.ref a/\y=.int n/\H a=some (.tup xs)/\xs≠[]/\1<=n/\(xs.length:Int)*n<=(sizeLine:Int)/\∀p H',Same H H'->H' p=some (.tup (List.replicate n.toNat xs).flatten)->Q (.ref p) H'
theorem b2y:OpR X (binaryOp .Mult) b7N:=by
 intro pins s σ H x y v u Q I L M h;obtain⟨a,xs,n,rfl,rfl,p,j,hn,N,q⟩:=h;cases L;obtain⟨t,rfl⟩:=M;obtain⟨d,r,K,J⟩:=I.tuple (.inl (.inl p));obtain⟨⟨cls,dd,data,sl⟩,i,A,m,hd⟩:=id K;simp only at A hd;subst A hd;have f:=r.length;have g:0<d.length:=by rw[<-f];exact List.length_pos_iff.mpr j
 refine wpAny_binaryOp_repeat_ref (T:="tuple") (U:="int") (by decide) ⟨_,i,rfl⟩ (λs'=>typeIs_int s' n t) X3 F.fills_int_mul F.slot_int_rmul a0V F.slot_int_index.lookup
  (call_meets F.slot_int_rmul (typeIs_int s n t) F.entry_int_rmul (F.args_int_rmul_2 _ _) (a2h n t a d.toArray m dd sl) ⟨i,rfl,⟨_,i,rfl⟩,?_⟩)
 by_cases h1:n=1
 .subst h1;refine call_meets F.slot_tuple_mul ⟨_,i,rfl⟩ F.entry_tuple_mul (F.args_tuple_mul_2 _ _) (a5H a d.toArray m dd sl t) ⟨i,.ref a,H,I,rfl,q a H (Same.refl H) ?_⟩;rw[p];simp
 .have e0:=a2B d n.toNat [];rw[List.nil_append]at e0;have D:((List.replicate n.toNat d).flatten).length=n.toNat*d.length:=a0Z d n.toNat;have w:n.toNat*d.length<=sizeLine:=by
   have e1:((n.toNat*d.length:Nat):Int)=(xs.length:Int)*n:=by
    rw[f];push_cast;rw[Int.toNat_of_nonneg (by omega),Int.mul_comm]
   omega
  have hs:sizeLine=16777216:=sizeLine_eq;have G:(d.toArray.size:Int)*n<=16777216:=by rw[List.size_toArray,<-f];omega
  have E:n<=(d.toArray.size:Int)*n:=by
   have B:(1:Int)<=(d.toArray.size:Int):=by rw[List.size_toArray];omega
   have:=Int.mul_le_mul_of_nonneg_right B (show(0:Int)<=n by omega);omega
  refine call_meets F.slot_tuple_mul ⟨_,i,rfl⟩ F.entry_tuple_mul (F.args_tuple_mul_2 _ _) (a5G a d.toArray m dd sl n t (by simp;intro z;rw[z]at g;exact Nat.lt_irrefl _ g) (by omega) ?_ ?_ ?_ ?_) ⟨i,?_⟩
  .simp only[Bool.or_eq_true,decide_eq_true_eq,not_or];omega
  .omega
  .simp only[Builtin.Tuple.tupleTooMany,decide_eq_true_eq];omega
  .have e0':List.foldl (λk l=>k++l) #[] (List.replicate n.toNat d.toArray)=(List.replicate n.toNat d).flatten.toArray:=e0;rw[e0',List.size_toArray,D];exact w
  .have e0':List.foldl (λk l=>k++l) #[] (List.replicate n.toNat d.toArray)=(List.replicate n.toNat d).flatten.toArray:=e0;rw[e0'];have C:H s.heap.objs.size=none:=I.hok.fresh (Nat.le_refl _);refine⟨.ref s.heap.objs.size,_,I.laid (t':=s.toks) (o:=.tup (List.replicate n.toNat xs).flatten) (λb O q=>Heap.get?_push_of_some _ q) (Nat.le_refl _) ?_,rfl,q _ _ (λc o e=>by rw[A5 (B0 e C)];exact e) A0⟩;exact⟨by rw[a0Z,f];exact w,_,r.rep n.toNat,IsTp.new _ _⟩
end
end L2
namespace L2
open PySem PySem.Spec PyProof.Rows
section
variable {X:Cx}{pos:Pos}
theorem b2n(K:PySem.W.Frag){es:List Expr}{k:Nat}{t:TGs}{n:Nat}(c:X.calm=true)(h:PGs X es t)(b:X.K=K:=by rfl)
  (hn:(assignEach es X.env).length=n:=by rfl) (a:(assignEach es X.env).findIdx? (·.1)=none:=by rfl):PG X (.Tuple es k pos) (b3p K n t):=by
 subst b;exact b5t c h hn a
theorem a9M(K:PySem.W.Frag){tg l:Expr}{tl:TE}(b:PE X l tl)(a:X.K=K:=by rfl):PI X tg l (a5m K tl):=by subst a;exact b2l b
theorem b2j(K:PySem.W.Frag){tg l:Expr}{tl:TE}(b:PE X l tl)(a:X.K=K:=by rfl):PI X tg l (b6C K tl):=by subst a;exact b5s b
theorem b2i(K:PySem.W.Frag){es:List Expr}{h:Nat}{i:Pos}{a b:Expr}{ta:TA}{p pos:Pos}(f:Gl X "zip")(g:X.mg "zip"=none)(e:PA X [a,b] ta)(d:X.K=K:=by rfl)
  (hs:starEach [a,b] X.env=[(false,eval a X.env),(false,eval b X.env)]:=by rfl) (c:starEach [b] X.env=[(false,eval b X.env)]:=by rfl) :
  PI X (.Tuple es h i) (.Call (.Name "zip" p) [a,b] [] pos) (b6B K ta):=by subst d;exact b5r f g e b6N hs c
def b7m(K:PySem.W.Frag)(ta:TE):TT:=λσ H Q=>ta σ H λx H'=>∃k,b6V K x H' k/\Q k H'
theorem a7A(K:PySem.W.Frag){a:Expr}{ta:TE}(d:PE X a ta)(e:∀b,isTrue a X.env b=(do let v <-b;standAt a.pos;holding [v] (truthy v)))(c:X.K=K:=by rfl):PT X a (b7m K ta):=by
 subst c;exact a9C d e
theorem b0I(K:PySem.W.Frag)(a:X.K=K:=by rfl):IxR X (a5S K):=by subst a;exact ix_list
theorem b3l(K:PySem.W.Frag)(a:X.K=K:=by rfl):IxR X (a9y K):=by subst a;exact ix_tup
theorem b3m(K:PySem.W.Frag)(a:X.K=K:=by rfl):IxR X (rIx K):=by subst a;exact b6w
theorem a8d(K:PySem.W.Frag)(a:X.K=K:=by rfl):b6X X (a5S K):=by subst a;exact b0P
theorem a9k(K:PySem.W.Frag)(a:X.K=K:=by rfl):SlR X (a9t K):=by subst a;exact b1G
theorem b5W(K:PySem.W.Frag)(a:X.K=K:=by rfl):OpR X (compareOp .In) (rIn K false):=by subst a;exact a7H
theorem a7G(K:PySem.W.Frag)(a:X.K=K:=by rfl):OpR X (compareOp .NotIn) (rIn K true):=by subst a;exact a4a
theorem b0a(K:PySem.W.Frag)(b:X.A.units+60<cLine)(a:X.K=K:=by rfl):OpR X (compareOp .Eq) (a2T K false):=by subst a;exact b5X b
theorem b5P(K:PySem.W.Frag)(b:X.A.units+60<cLine)(a:X.K=K:=by rfl):OpR X (compareOp .NotEq) (a2T K true):=by subst a;exact b5Q b
theorem a8y(K:PySem.W.Frag)(b:X.calm=true)(a:X.K=K:=by rfl):K1 X (.builtin "all") (b5h K):=by subst a;exact b1l b
theorem a8u(K:PySem.W.Frag)(a:X.K=K:=by rfl):K1 X (.builtin "isinstance") (b5g K):=by subst a;exact b1j
def b7R(K:PySem.W.Frag):RL:=λxs H Q=>∃p ys,xs=[.ref p]/\(SqL K H p ys∨SqT K H p ys)/\Q (.int ys.length) H
def b4a(K:PySem.W.Frag):RL:=λxs H Q=>∃p ys,xs=[.ref p]/\(SqL K H p ys∨SqT K H p ys)/\∀l,H l=none->Q (.ref l) (upd H l (.lst ys))
def a9q(K:PySem.W.Frag):RL:=λxs H Q=>∃p ys,xs=[.ref p]/\((SqL K H p ys/\∀l,H l=none->Q (.ref l) (upd H l (.tup ys)))∨(SqT K H p ys/\Q (.ref p) H))
theorem a8t(K:PySem.W.Frag)(a:X.K=K:=by rfl):K1 X (.builtin "len") (b7R K):=by subst a;exact a4z
theorem a6s(K:PySem.W.Frag)(a:X.K=K:=by rfl):K1 X (.type "list") (b4a K):=by subst a;exact a4x
theorem a5w(K:PySem.W.Frag)(a:X.K=K:=by rfl):K1 X (.type "tuple") (a9q K):=by subst a;exact a3a
def b7P:RL:=λxs H Q=>∃i j,xs=[.int i,.int j]/\Q (.int (if j<i then j else i)) H
def b9a:RL:=λxs H Q=>∃i j,xs=[.int i,.int j]/\Q (.int (if j > i then j else i)) H
def b7T:RL:=λxs H Q=>(∃i,xs=[.int i]/\Q (.int i) H)∨∃k,xs=[.bl k]/\Q (.int (if k then 1 else 0)) H
theorem a8p(a:X.calm=true):K1 X (.builtin "min") b7P:=a8q a
theorem a8w:K1 X (.type "int") b7T:=a8x
variable {o e:Expr}{es:List Expr}{to:TE}{t:TA}{name:Str}{apos cpos:Pos}{T id:String}{r:V->List V->Hp->VK->Prop}
theorem a0G(K:PySem.W.Frag)(l:PlainAttrs T)(f:Slot T name id)(g:typeOf (.builtin id)=pure (.type "method_descriptor"))(j:MtR X id r)(k:PE X o to)(i:PA X (e::es) t)(h:X.K=K:=by rfl)
  (b:attributeBase o name X.env (eval o X.env)=eval o X.env:=by rfl)
  (d:((backTo cpos (starEach (e::es) X.env)).all (λx=>!x.1) && (backToKw cpos (keywordEach [] X.env)).all (λx=>x.1.isSome)
   && decide ((e::es).length+([]:List Keyword).length+(if ([]:List Keyword).isEmpty then 0 else 1)<30))=true:=by rfl)
  (c:(apos.endLine==cpos.line)=true:=by rfl) (hs:starEach (e::es) X.env=(false,eval e X.env)::starEach es X.env:=by rfl) (a:(backTo cpos (starEach es X.env)).any (·.1)=false:=by rfl) :
  PE X (.Call (.Attribute o name apos) (e::es) [] cpos) (tBM K T r to t):=by subst h;exact b8c l f g j k i b d c hs a
theorem b2u(K:PySem.W.Frag)(h:PlainAttrs T)(c:Slot T name id)(d:typeOf (.builtin id)=pure (.type "method_descriptor"))(f:MtR X id r)(g:PE X o to)(e:X.K=K:=by rfl)
  (a:attributeBase o name X.env (eval o X.env)=eval o X.env:=by rfl) (b:(apos.endLine==cpos.line)=true:=by rfl):PE X (.Call (.Attribute o name apos) [] [] cpos) (b1E K T r to):=by
 subst e;exact b5H h c d f g a b
end
def IT(H:Hp)(v:V)(ns:List Int):Prop:=∃a,v=.ref a/\H a=some (.tup (ns.map V.int))
theorem IT.same{H H':Hp}{v:V}{ns:List Int}(h:IT H v ns)(s:Same H H')   : IT H' v ns:=let ⟨a,e,q⟩:=h;⟨a,e,s a _ q⟩
theorem Same.upd{H H':Hp}{p:Addr}{o:HO}(s:Same H H')(hp:H' p=none):Same H (upd H' p o):=λb u e=>by
 rw[A5 (B0 (s b u e) hp)];exact s b u e
theorem G0{H:Hp}{p b:Addr}{o u:HO}(a:H b=some u)(hp:H p=none):upd H p o b=some u:=by rw[A5 (B0 a hp)];exact a
def Off(l:List Addr)(H H':Hp):Prop:=∀b o,b∉l->H b=some o->H' b=some o
theorem Off.refl(l:List Addr)(H:Hp):Off l H H:=λ_ _ _ e=>e
theorem Off.trans{l:List Addr}{H H1 H2:Hp}(a:Off l H H1)(b:Off l H1 H2):Off l H H2:=λc o d e=>b c o d (a c o d e)
theorem Same.off{l:List Addr}{H H':Hp}(s:Same H H'):Off l H H':=λb o _ e=>s b o e
theorem Off.upd{l:List Addr}{H H':Hp}{p:Addr}{o:HO}(s:Off l H H')(hp:H' p=none):Off l H (upd H' p o):=λb u a e=>by
 rw[A5 (B0 (s b u a e) hp)];exact s b u a e
theorem Off.set{l:List Addr}{H H':Hp}{p:Addr}{o:HO}(s:Off l H H')(hp:p∈l):Off l H (L2.upd H' p o):=λb u a e=>by
 rw[A5 (by rintro rfl;exact a hp)];exact s b u a e
theorem Off.mono{l a:List Addr}{H H':Hp}(s:Off l H H')(h:∀b∈l,b∈a):Off a H H':=λb o c e=>s b o (λz=>c (h b z)) e
theorem a4f(ns:List Int):(ns.map V.int).length=ns.length:=List.length_map _
theorem a4p{ns:List Int}{i:Nat}{x:V}(h:(ns.map V.int)[i]?=some x):∃z,ns[i]?=some z/\x=.int z:=by
 rw[List.getElem?_map]at h;cases e:ns[i]? with
 |none=>rw[e]at h;cases h
 |some z=>rw[e]at h;exact⟨z,rfl,(Option.some.inj h).symm⟩
theorem a3N{α β γ:Type}(f:α->β->γ){xs:List α}{ys:List β}{i:Nat}{x:α}{y:β}(a:xs[i]?=some x)(b:ys[i]?=some y):(List.zipWith f xs ys).take (i+1)=(List.zipWith f xs ys).take i++[f x y]:=by
 have:(List.zipWith f xs ys)[i]?=some (f x y):=by rw[List.getElem?_zipWith,a,b]
 rw[List.take_add_one,this];rfl
theorem a8D{K:PySem.W.Frag}{src:List (Option Nat)}{σ caps:St}{Q:VK}{k1 k2:Bool}{a b:Addr}{xs ys:List Int}{H:Hp}{te:TE}(f:Int->Int->V)(o:SqK k1 K H a (xs.map V.int))(q:SqK k2 K H b (ys.map V.int))(r:xs.length<=1000)
  (c:∀H',Same H H'->SqK k1 K H' a (xs.map V.int)/\SqK k2 K H' b (ys.map V.int))
  (g:D6 src σ=none::none::caps) (k:∀x y H1 n,Same H H1->n (f x y) H1->te (some (.int x)::some (.int y)::caps) H1 n)
  (hd:∀H1 p,Same H H1->H1 p=none->Q (.ref p) (upd H1 p (.lst (List.zipWith f xs ys)))) :
  U8 src (b3p K 2 (a7e (B1 0) (a7e (B1 1) b6E))) a1Z te σ Q (Itz K k1 k2 a b) H:=by
 have t:(1000:Nat)<=sizeLine:=by rw[sizeLine_eq];decide
 refine b1g (xs:=xs.map V.int) (zs:=ys.map V.int) (by rw[a4f];omega) (λi zs H'=>Same H H'/\zs=(List.zipWith f xs ys).take i) ⟨Same.refl H,by simp⟩ (λi zs H' _ _ h=>⟨(c H' h.1).1,(c H' h.1).2,by rw[h.2];exact List.length_take_le _ _⟩) ?_ ?_
 .rintro i x z zs H' p hx hy ⟨s,rfl⟩ hp;obtain⟨x',l,e1⟩:=a4p hx;obtain⟨d,m,e2⟩:=a4p hy;subst e1 e2;clear hx hy;have s':Same H (upd H' p (.tup [.int x',.int d])):=s.upd hp;refine⟨p,[.int x',.int d],rfl,SqT.of A0,rfl,.int x',[.int d],rfl,.int d,[],rfl,rfl,?_⟩;rw[g];show Sub _ (some (.int x')::some (.int d)::caps)/\_;refine⟨⟨rfl,λj v e=>?_⟩,?_⟩
  .match j,e with
   |0,e=>cases e
   |1,e=>cases e
   |j+2,e=>exact e
  .exact k x' d _ _ s' ⟨s',(a3N f l m).symm⟩
 .rintro zs H' ⟨s,rfl⟩ p hp;have e:(List.zipWith f xs ys).take (min (xs.map V.int).length (ys.map V.int).length)=List.zipWith f xs ys:=by
   rw[a4f,a4f,List.take_of_length_le];rw[List.length_zipWith];exact Nat.le_refl _
  rw[e];exact hd H' p s hp
theorem Sub.one{caps:St}{v:V}:Sub (none::caps) (some v::caps):=⟨rfl,λj u e=>by
 match j,e with
 |0,e=>cases e
 |j+1,e=>exact e⟩
theorem a9o{src:List (Option Nat)}{σ caps:St}{Q:VK}{n:Nat}{H:Hp}{e:TT}{te:TE}(hn:n<=1000)(c:D6 src σ=none::caps)(a:Nat->List V->Hp->Prop)(h0:a 0 [] H)(g:∀i ys H,a i ys H->ys.length<=i)
  (hs:∀i ys H,i<n->a i ys H->e (some (.int i)::caps) H λb d=>if b=true then te (some (.int i)::caps) d λv f=>a (i+1) (ys++[v]) f else a (i+1) ys d)
  (hd:∀ys H,a n ys H->∀p,H p=none->Q (.ref p) (upd H p (.lst ys))):U8 src (B1 0) e te σ Q (Itr 0 n) H:=by
 have h:(1000:Nat)<=sizeLine:=by rw[sizeLine_eq];decide
 refine a2J (by omega) a h0 g (λi ys H hi p=>?_) hd;show Sub _ ((D6 src σ).set 0 (some (.int (0+(i:Int)))))/\_;rw[c,Int.zero_add];exact⟨Sub.one,hs i ys H hi p⟩
theorem a5R{src:List (Option Nat)}{σ caps:St}{Q:VK}{n:Nat}{H:Hp}{te:TE}(f:Nat->V)(hn:n<=1000)(a:D6 src σ=none::caps)(b:∀(i:Nat) H1 Q1,i<n->Same H H1->Q1 (f i) H1->te (some (.int i)::caps) H1 Q1)
  (hd:∀H1 p,Same H H1->H1 p=none->Q (.ref p) (upd H1 p (.lst ((List.range n).map f)))):U8 src (B1 0) a1Z te σ Q (Itr 0 n) H:=by
 refine a9o hn a (λi ys H'=>Same H H'/\ys=(List.range i).map f) ⟨Same.refl H,rfl⟩ (λi ys H' h=>by rw[h.2];simp) ?_ ?_
 .rintro i ys H' hi ⟨s,rfl⟩;refine b i H' _ hi s ⟨s,?_⟩;rw[List.range_succ,List.map_append];rfl
 .rintro ys H' ⟨s,rfl⟩ p hp;exact hd H' p s hp
theorem Room.u60{k:Nat}{A:Around}(r:Room k A):A.units+60<cLine:=by have:=r.un;omega
theorem a0S{t u:TS}{D:Ends}{σ:St}{H:Hp}(a:St->Hp->Prop)(fin:∀σ H,a σ H->u D σ H)(h:(∀σ H,a σ H->u D σ H)->t {D with nx:=u D} σ H):a8U t u D σ H:=h fin
theorem b7g{K:PySem.W.Frag}{a:Bool}{te:TE}{σ:St}{H:Hp}{Q:VK}{b:Addr}{cs:List Int}(c:∀d:VK,d (.ref b) H->te σ H d)(f:H b=some (.lst (cs.map V.int)))
  (q:∀p,H p=none->Q (.bl (if a then !decide (cs=[])else decide (cs=[]))) (upd H p (.lst []))):tOp (a2T K a) te (a2P a0P) σ H Q :=
 c _ ⟨Nat.zero_le _,λp e=>⟨1,_,by decide,EqV.ints (k:=false) (ms:=[]) (SqL.of (G0 f e)) (SqL.of A0),⟨_,_,rfl,rfl⟩,q p e⟩⟩
theorem b7j{K:PySem.W.Frag}{a:Bool}{te:TE}{σ:St}{H:Hp}{Q:Bool->Hp->Prop}{b:Addr}{cs:List Int}(c:∀d:VK,d (.ref b) H->te σ H d)(e:H b=some (.lst (cs.map V.int)))
  (q:∀p,H p=none->Q (if a then !decide (cs=[])else decide (cs=[])) (upd H p (.lst []))):O7 (tOp (a2T K a) te (a2P a0P)) σ H Q :=
 b7g c e λp f=>⟨_,rfl,q p f⟩
theorem cut_lo(xs:List Int)(k:Nat)(a:k<=xs.length):W7 (xs.map V.int) none (some (k:Int))=(xs.take k).map V.int:=by
 unfold W7;rw[HT.sIx_none,HT.sIx_nat,List.length_map,Nat.min_eq_left a,List.drop_zero,Nat.sub_zero,List.map_take]
theorem cut_hi(xs:List Int)(k:Nat)(a:k<=xs.length):W7 (xs.map V.int) (some (k:Int)) none=(xs.drop k).map V.int:=by
 unfold W7;rw[HT.sIx_none,HT.sIx_nat,List.length_map,Nat.min_eq_left a,List.take_of_length_le (by simp),List.map_drop]
structure JE(X:Cx)(e:Expr)(t:TE):Prop where
 h:PE X e t
structure JT(X:Cx)(e:Expr)(t:TT):Prop where
 h:PT X e t
structure JW(X:Cx)(e:Expr)(t:TT):Prop where
 h:PW X e t
structure JA(X:Cx)(es:List Expr)(t:TA):Prop where
 h:PA X es t
structure JS(X:Cx)(st:Stmt)(t:TS):Prop where
 h:PS X st t
structure JB(X:Cx)(st:List Stmt)(t:TS):Prop where
 h:PSs X st t
structure JG(X:Cx)(tg:Expr)(t:TG):Prop where
 h:PG X tg t
structure JGs(X:Cx)(ts:List Expr)(t:TGs):Prop where
 h:PGs X ts t
structure JI(X:Cx)(tg iter:Expr)(t:TI):Prop where
 h:PI X tg iter t
structure JF(X:Cx)(ifs:List Expr)(t:TT):Prop where
 h:PIf X ifs t
structure JO(X:Cx)(e:Option Expr)(t:TO):Prop where
 h:PO X e t
section
variable {X:Cx}{a b c e o:Expr}{es rest:List Expr}{ta tb tc te to:TE}{tA tB:TT}{t:TA}{pos p apos cpos p2:Pos}
theorem jv(i:Nat){x:Str}(b:X.N[i]?=some x:=by rfl)(c:Vis X.env.scope x:=by first|exact Or.inl rfl|exact Or.inr (Or.inl rfl)|exact Or.inr (Or.inr rfl))(hd:(x==("__debug__" : Str))=false:=by decide)
  (a:(x==("__classdict__" : Str))=false:=by decide):JE X (.Name x pos) (U9 i):=⟨b5w b c hd a⟩
theorem A4{i j}:JE X (.Constant (.int i) j pos) (tC (.int i)):=⟨b5D⟩
theorem a2x{i j}:JE X (.Constant (.bool i) j pos) (tC (.bl i)):=⟨b8d⟩
theorem N8{j}:JE X (.Constant .none j pos) (tC .non):=⟨b5B⟩
theorem A2{x j}:JE X (.Constant (.str x) j pos) (tC (.str x)):=⟨b5z⟩
theorem a6f{x:Str}{v:V}{u:Value}(a:Gl X x)(b:X.mg x=none)(c:bootBuiltins x=some u)(r:RelV v u)(hn:x≠"__name__":=by decide)(hd:(x==("__debug__" : Str))=false:=by decide):JE X (.Name x pos) (tC v):=⟨b2v a b c r hn hd⟩
theorem J3(c:JE X a ta)(d:JE X b tb):JE X (.BinOp a .Add b pos) (tOp (rI0 λi j=>.int (i+j)) ta tb):=⟨X2 b5Z c.h d.h⟩
theorem a5k(c:JE X a ta)(d:JE X b tb):JE X (.BinOp a .Sub b pos) (tOp (rI0 λi j=>.int (i-j)) ta tb):=⟨X2 b5M c.h d.h⟩
theorem a2w(c:JE X a ta)(d:JE X b tb):JE X (.BinOp a .Mult b pos) (tOp (rI CMul λi j=>.int (i*j)) ta tb):=⟨X2 b5R c.h d.h⟩
theorem a1d(c:JE X a ta)(d:JE X b tb):JE X (.BinOp a .Mod b pos) (tOp (rI (λ_ j=>0<j) λi j=>.int (i % j)) ta tb):=⟨X2 b5S c.h d.h⟩
theorem b6u(c:JE X a ta)(d:JE X b tb):JE X (.BinOp a .FloorDiv b pos) (tOp (rI b8B λi j=>.int (i / j)) ta tb):=⟨X2 b2A c.h d.h⟩
theorem a1c(c:JE X a ta)(d:JE X b tb):JE X (.BinOp a .Pow b pos) (tOp (rI b8A λi j=>.int (i ^ j.toNat)) ta tb):=⟨X2 b5O c.h d.h⟩
theorem a6X(c:JE X a ta)(d:JE X b tb):JE X (.BinOp a .Add b pos) (tOp (a9w) ta tb):=⟨X2 a9Y c.h d.h⟩
theorem J9(c:JE X a ta)(d:JE X b tb):JE X (.BinOp a .Add b pos) (tOp (a7z) ta tb):=⟨X2 b5Y c.h d.h⟩
theorem b0F(c:JE X a ta)(d:JE X b tb):JE X (.BinOp a .Mult b pos) (tOp (b7O) ta tb):=⟨X2 b5N c.h d.h⟩
def N2:R2:=λx y H Q=>∃i j,x=.str i/\y=.str j/\i.length+j.length<=sizeLine/\Q (.str (i++j)) H
theorem C4(c:JE X a ta)(d:JE X b tb):JE X (.BinOp a .Add b pos) (tOp N2 ta tb):=⟨X2 a5T c.h d.h⟩
theorem Q0(b:JE X a ta):JE X (.UnaryOp .USub a pos) (tUn (rU λi=>.int (-i)) ta):=⟨b8a b4Q b.h⟩
theorem a5l{op}(h:JE X a ta):JE X (.BoolOp op [a] pos) ta:=⟨b5A h.h⟩
theorem a6Y(c:JE X a ta)(d:JE X (.BoolOp .And (b::rest) pos) tb):JE X (.BoolOp .And (a::b::rest) pos) (b3J ta tb):=⟨b5I c.h d.h⟩
theorem b8J(c:JE X a ta)(d:JE X (.BoolOp .Or (b::rest) pos) tb):JE X (.BoolOp .Or (a::b::rest) pos) (b7p ta tb):=⟨b8b c.h d.h⟩
theorem b4p(f:JT X c tA)(d:JE X a ta)(e:JE X b tb):JE X (.IfExp c a b pos) (tIf tA ta tb):=⟨a9R f.h d.h e.h⟩
theorem a3q(c:JE X a ta)(d:JE X b tb):JE X (.Compare a [.Eq] [b] pos) (tOp (rEq) ta tb):=⟨a1L b4g c.h d.h (P0 _)⟩
theorem O8(c:JE X a ta)(d:JE X b tb):JT X (.Compare a [.Eq] [b] pos) (O7 (tOp (rEq) ta tb)):=⟨M6 b4g c.h d.h (P0 _)⟩
theorem b4j(c:JE X a ta)(d:JE X b tb):JE X (.Compare a [.NotEq] [b] pos) (tOp (rNe) ta tb):=⟨a1L b4f c.h d.h (P0 _)⟩
theorem a6U(c:JE X a ta)(d:JE X b tb):JT X (.Compare a [.NotEq] [b] pos) (O7 (tOp (rNe) ta tb)):=⟨M6 b4f c.h d.h (P0 _)⟩
theorem b4k(c:JE X a ta)(d:JE X b tb):JT X (.Compare a [.Lt] [b] pos) (O7 (tOp (rI0 λi j=>.bl (decide (i<j))) ta tb)):=⟨M6 b8g c.h d.h (P0 _)⟩
theorem b8n(c:JE X a ta)(d:JE X b tb):JT X (.Compare a [.LtE] [b] pos) (O7 (tOp (rI0 λi j=>.bl (decide (i<=j))) ta tb)):=⟨M6 a4T c.h d.h (P0 _)⟩
theorem a5h(c:JE X a ta)(d:JE X b tb):JT X (.Compare a [.Gt] [b] pos) (O7 (tOp (rI0 λi j=>.bl (decide (j<i))) ta tb)):=⟨M6 b8h c.h d.h (P0 _)⟩
theorem b8o(c:JE X a ta)(d:JE X b tb):JT X (.Compare a [.GtE] [b] pos) (O7 (tOp (rI0 λi j=>.bl (decide (j<=i))) ta tb)):=⟨M6 b8i c.h d.h (P0 _)⟩
theorem b6l(K:PySem.W.Frag)(f:X.A.units+60<cLine)(d:JE X a ta)(e:JE X b tb)(c:X.K=K:=by rfl):JE X (.Compare a [.Eq] [b] pos) (tOp (a2T K false) ta tb):=⟨a1L (b0a K f c) d.h e.h (P0 _)⟩
theorem b0v(K:PySem.W.Frag)(f:X.A.units+60<cLine)(d:JE X a ta)(e:JE X b tb)(c:X.K=K:=by rfl):JT X (.Compare a [.Eq] [b] pos) (O7 (tOp (a2T K false) ta tb)):=⟨M6 (b0a K f c) d.h e.h (P0 _)⟩
theorem a4h(K:PySem.W.Frag)(f:X.A.units+60<cLine)(d:JE X a ta)(e:JE X b tb)(c:X.K=K:=by rfl):JT X (.Compare a [.NotEq] [b] pos) (O7 (tOp (a2T K true) ta tb)):=⟨M6 (b5P K f c) d.h e.h (P0 _)⟩
theorem a1o(c:JE X a ta)(d:JE X b tb):JT X (.Compare a [.Is] [b] pos) (O7 (tOp (λx y H Q=>y=.non/\Q (.bl (decide (x=.non))) H) ta tb)):=⟨M6 b5T c.h d.h (P0 _)⟩
theorem b6n(K:PySem.W.Frag)(d:JE X a ta)(e:JE X b tb)(f:behindInMarks .In b=false)(c:X.K=K:=by rfl):JT X (.Compare a [.In] [b] pos) (O7 (tOp (rIn K false) ta tb)):=⟨M6 (b5W K c) d.h e.h f⟩
theorem a7V(K:PySem.W.Frag)(d:JE X a ta)(e:JE X b tb)(f:behindInMarks .NotIn b=false)(c:X.K=K:=by rfl):JT X (.Compare a [.NotIn] [b] pos) (O7 (tOp (rIn K true) ta tb)):=⟨M6 (a7G K c) d.h e.h f⟩
theorem a1E(h:JW X e tA):JT X e tA:=⟨h.h.pt⟩
theorem a4g(b:JT X a tA):JW X (.BoolOp .And [a] pos) tA:=⟨pw_and1 b.h⟩
theorem Y6(b:JT X a tA):JW X (.BoolOp .Or [a] pos) tA:=⟨pw_or1 b.h⟩
theorem a6a(c:JT X a tA)(d:JW X (.BoolOp .And (b::rest) pos) tB):JW X (.BoolOp .And (a::b::rest) pos) (b7u tA tB):=⟨pw_and c.h d.h⟩
theorem a0b(c:JT X a tA)(d:JW X (.BoolOp .Or (b::rest) pos) tB):JW X (.BoolOp .Or (a::b::rest) pos) (tOr tA tB):=⟨pw_or c.h d.h⟩
theorem a0c(b:JT X a tA):JT X (.UnaryOp .Not a pos) (b7q tA):=⟨b5i b.h⟩
theorem Y7(K:PySem.W.Frag)(d:JE X a ta)(e:∀b,isTrue a X.env b=(do let v <-b;standAt a.pos;holding [v] (truthy v)):=by intro _;rfl)(c:X.K=K:=by rfl):JT X a (b7m K ta):=⟨a7A K d.h e c⟩
theorem jaN:JA X [] a0P:=⟨b5J⟩
theorem jaC(a:JE X e te)(b:JA X es t)(hs:starEach (e::es) X.env=(false,eval e X.env)::starEach es X.env:=by rfl):JA X (e::es) (a2a te t):=⟨b2w a.h b.h hs⟩
theorem J2{x1}(h:JA X es t):JE X (.Tuple es x1 pos) (b7k t):=⟨b5x h.h⟩
theorem C5(h:JA X es t):JE X (.List es pos) (a2P t):=⟨b5C h.h⟩
theorem K4(K:PySem.W.Frag)(d:JE X a ta)(e:JE X b tb)(hs:a1i b:=by intro _ _;rfl)(c:X.K=K:=by rfl):JE X (.Subscript a b pos) (tOp (a5S K) ta tb):=⟨a6N (b0I K c) d.h e.h hs⟩
theorem V8(K:PySem.W.Frag)(d:JE X a ta)(e:JE X b tb)(hs:a1i b:=by intro _ _;rfl)(c:X.K=K:=by rfl):JE X (.Subscript a b pos) (tOp (a9y K) ta tb):=⟨a6N (b3l K c) d.h e.h hs⟩
theorem b4n(K:PySem.W.Frag)(d:JE X a ta)(e:JE X b tb)(hs:a1i b:=by intro _ _;rfl)(c:X.K=K:=by rfl):JE X (.Subscript a b pos) (tOp (rIx K) ta tb):=⟨a6N (b3m K c) d.h e.h hs⟩
theorem I0:JO X none L3:=⟨b2b⟩
theorem G9(h:JE X e te):JO X (some e) (a4H te):=⟨b2a h.h⟩
theorem V7(K:PySem.W.Frag){lo hi:Option Expr}{tl th:TO}(b:JE X e te)(c:JO X lo tl)(d:JO X hi th)(a:X.K=K:=by rfl):JE X (.Subscript e (.Slice lo hi none p2) pos) (tSl (a9t K) te tl th):=⟨a4R (a9k K a) b.h c.h d.h⟩
theorem C0{k:Nat}{ps:List Str}{sp:Sp}{x:Str}(O:Ok X.prog X.w X.K X.mg X.base x k ps sp)(f:Room k X.A)(d:Gl X x)(b:JA X (e::es) t)(a:(x==("__debug__" : Str))=false:=by decide)
  (c:starEach (e::es) X.env=(false,eval e X.env)::starEach es X.env:=by rfl) (hpl:(backTo pos (starEach es X.env)).any (·.1)=false:=by rfl):JE X (.Call (.Name x p) (e::es) [] pos) (a6F sp [] E0 t):=⟨a9W O f d b.h a c hpl⟩
theorem D7(K:PySem.W.Frag)(d:Gl X "len")(f:X.mg "len"=none)(b:JA X (e::es) t)(a:X.K=K:=by rfl)(c:starEach (e::es) X.env=(false,eval e X.env)::starEach es X.env:=by rfl)(hpl:(backTo pos (starEach es X.env)).any (·.1)=false:=by rfl):JE X (.Call (.Name "len" p) (e::es) [] pos) (tCB (b7R K) t):=⟨N4 (a8t K a) d f a6t b.h (by decide) (by decide) c hpl⟩
theorem a6d(K:PySem.W.Frag)(f:Gl X "all")(g:X.mg "all"=none)(b:JA X (e::es) t)(c:X.calm=true:=by rfl)(a:X.K=K:=by rfl)(d:starEach (e::es) X.env=(false,eval e X.env)::starEach es X.env:=by rfl)(hpl:(backTo pos (starEach es X.env)).any (·.1)=false:=by rfl):JE X (.Call (.Name "all" p) (e::es) [] pos) (tCB (b5h K) t):=⟨N4 (a8y K c a) f g b6S b.h (by decide) (by decide) d hpl⟩
theorem a0y(K:PySem.W.Frag)(d:Gl X "isinstance")(f:X.mg "isinstance"=none)(b:JA X (e::es) t)(a:X.K=K:=by rfl)(c:starEach (e::es) X.env=(false,eval e X.env)::starEach es X.env:=by rfl)(hpl:(backTo pos (starEach es X.env)).any (·.1)=false:=by rfl):JE X (.Call (.Name "isinstance" p) (e::es) [] pos) (tCB (b5g K) t):=⟨N4 (a8u K a) d f a0z b.h (by decide) (by decide) c hpl⟩
theorem b6s(d:Gl X "min")(f:X.mg "min"=none)(a:JA X (e::es) t)(b:X.calm=true:=by rfl)(c:starEach (e::es) X.env=(false,eval e X.env)::starEach es X.env:=by rfl)(hpl:(backTo pos (starEach es X.env)).any (·.1)=false:=by rfl):JE X (.Call (.Name "min" p) (e::es) [] pos) (tCB (b7P) t):=⟨N4 (a8p b) d f b6Q a.h (by decide) (by decide) c hpl⟩
theorem J8(K:PySem.W.Frag)(d:Gl X "tuple")(f:X.mg "tuple"=none)(b:JA X (e::es) t)(a:X.K=K:=by rfl)(c:starEach (e::es) X.env=(false,eval e X.env)::starEach es X.env:=by rfl)(hpl:(backTo pos (starEach es X.env)).any (·.1)=false:=by rfl):JE X (.Call (.Name "tuple" p) (e::es) [] pos) (tCB (a9q K) t):=⟨R7 (a5w K a) d f a5z b.h (by decide) (by decide) c hpl⟩
theorem a6W(K:PySem.W.Frag)(d:Gl X "list")(f:X.mg "list"=none)(b:JA X (e::es) t)(a:X.K=K:=by rfl)(c:starEach (e::es) X.env=(false,eval e X.env)::starEach es X.env:=by rfl)(hpl:(backTo pos (starEach es X.env)).any (·.1)=false:=by rfl):JE X (.Call (.Name "list" p) (e::es) [] pos) (tCB (b4a K) t):=⟨R7 (a6s K a) d f b3v b.h (by decide) (by decide) c hpl⟩
theorem a4l(c:Gl X "int")(d:X.mg "int"=none)(a:JA X (e::es) t)(b:starEach (e::es) X.env=(false,eval e X.env)::starEach es X.env:=by rfl)(hpl:(backTo pos (starEach es X.env)).any (·.1)=false:=by rfl):JE X (.Call (.Name "int" p) (e::es) [] pos) (tCB (b7T) t):=⟨R7 a8w c d b1p a.h (by decide) (by decide) b hpl⟩
theorem G5(K:PySem.W.Frag)(h:JE X o to)(g:JA X (e::es) t)(f:X.K=K:=by rfl)(b:attributeBase o "append" X.env (eval o X.env)=eval o X.env:=by rfl)
  (d:((backTo cpos (starEach (e::es) X.env)).all (λx=>!x.1) && (backToKw cpos (keywordEach [] X.env)).all (λx=>x.1.isSome) && decide ((e::es).length+([]:List Keyword).length+(if ([]:List Keyword).isEmpty then 0 else 1)<30))=true:=by rfl)
  (c:(apos.endLine==cpos.line)=true:=by rfl) (hs:starEach (e::es) X.env=(false,eval e X.env)::starEach es X.env:=by rfl) (a:(backTo cpos (starEach es X.env)).any (·.1)=false:=by rfl) :
  JE X (.Call (.Attribute o "append" apos) (e::es) [] cpos) (tBM K "list" a1K to t):=⟨a0G K PySem.F.plainAttrs_list PySem.F.slot_list_append PySem.F.type_list_append a7R h.h g.h f b d c hs a⟩
theorem a1b(K:PySem.W.Frag)(h:JE X o to)(g:JA X (e::es) t)(f:X.K=K:=by rfl)(b:attributeBase o "pop" X.env (eval o X.env)=eval o X.env:=by rfl)
  (d:((backTo cpos (starEach (e::es) X.env)).all (λx=>!x.1) && (backToKw cpos (keywordEach [] X.env)).all (λx=>x.1.isSome) && decide ((e::es).length+([]:List Keyword).length+(if ([]:List Keyword).isEmpty then 0 else 1)<30))=true:=by rfl)
  (c:(apos.endLine==cpos.line)=true:=by rfl) (hs:starEach (e::es) X.env=(false,eval e X.env)::starEach es X.env:=by rfl) (a:(backTo cpos (starEach es X.env)).any (·.1)=false:=by rfl) :
  JE X (.Call (.Attribute o "pop" apos) (e::es) [] cpos) (tBM K "list" a9v to t):=⟨a0G K PySem.F.plainAttrs_list PySem.F.slot_list_pop PySem.F.type_list_pop b0l h.h g.h f b d c hs a⟩
theorem C3{i:Nat}{x:Str}(a:X.N.Nodup)(hi:X.N[i]?=some x)(c:Loc X.env.scope x)(b:X.fn x=true∨X.env.scope.names.lookup x=some .local:=by first|exact .inl rfl|exact .inr rfl|assumption):JG X (.Name x pos) (B1 i):=⟨b2o a hi c b⟩
theorem R6:JGs X [] b6E:=⟨b2m⟩
theorem D5{g:TG}{u:TGs}(h1:JG X e g)(h2:JGs X es u)(hs:(assignEach (e::es) X.env).map (·.2)=assign e X.env::(assignEach es X.env).map (·.2):=by rfl):JGs X (e::es) (a7e g u):=⟨a9N h1.h h2.h hs⟩
theorem Y8(K:PySem.W.Frag)(n:Nat){k:Nat}{u:TGs}(h:JGs X es u)(c:X.calm=true:=by rfl)(b:X.K=K:=by rfl)(hn:(assignEach es X.env).length=n:=by rfl)(a:(assignEach es X.env).findIdx? (·.1)=none:=by rfl):JG X (.Tuple es k pos) (b3p K n u):=⟨b2n K c h.h b hn a⟩
theorem b0C{i:Expr}{a:TE}(c:JE X o to)(hi:JE X i a)
  (b:∀v,assign (.Subscript o i pos) X.env v=(do
   let ov <-holding [v] (eval o X.env)
   let iv <-holding [v,ov] (eval i X.env)
   standAt pos
   holding [v,ov,iv] (setItem ov iv v)
   release [v,ov,iv] []):=by intro _;rfl):JG X (.Subscript o i pos) (b8q to a a9u):=⟨b5u c.h hi.h a4M b⟩
theorem L7(K:PySem.W.Frag){tg l:Expr}{tl:TE}(b:JE X l tl)(a:X.K=K:=by rfl):JI X tg l (a5m K tl):=⟨a9M K b.h a⟩
theorem a4j(K:PySem.W.Frag){tg l:Expr}{tl:TE}(b:JE X l tl)(a:X.K=K:=by rfl):JI X tg l (b6C K tl):=⟨b2j K b.h a⟩
theorem b6q(K:PySem.W.Frag){h:Nat}{i:Pos}(f:Gl X "zip")(g:X.mg "zip"=none)(e:JA X [a,b] t)(d:X.K=K:=by rfl)(hs:starEach [a,b] X.env=[(false,eval a X.env),(false,eval b X.env)]:=by rfl)(c:starEach [b] X.env=[(false,eval b X.env)]:=by rfl) :
  JI X (.Tuple es h i) (.Call (.Name "zip" p) [a,b] [] pos) (b6B K t):=⟨b2i K f g e.h d hs c⟩
theorem R8{tg:Expr}(c:Gl X "range")(d:X.mg "range"=none)(b:JA X [a] t)(hs:starEach [a] X.env=[(false,eval a X.env)]:=by rfl):JI X tg (.Call (.Name "range" p) [a] [] pos) (b4t t):=⟨a7F c d b.h hs⟩
theorem a7Z{tg:Expr}(e:Gl X "range")(f:X.mg "range"=none)(d:JA X [a,b] t)(hs:starEach [a,b] X.env=[(false,eval a X.env),(false,eval b X.env)]:=by rfl)(c:starEach [b] X.env=[(false,eval b X.env)]:=by rfl):JI X tg (.Call (.Name "range" p) [a,b] [] pos) (b4s t):=⟨a7E e f d.h hs c⟩
theorem N7:JF X [] a1Z:=⟨b2h⟩
theorem a6c(h:JT X c tA):JF X [c] tA:=⟨b2g h.h⟩
theorem U5{tg b c:Expr}{f:List Expr}{scope:Scope}{N:List Str}{src:List (Option Nat)}{j:TI}{g:TG}{i:TT}(hi:JI X tg b j)(e:K6 scope X.env.scope=true)(d:Q8 N src X.N scope=true)(h:a3S scope=true)
  (m:∀a C s H ex,JG (X.blk N scope a C s H ex) tg g) (n:∀a C s H ex,JF (X.blk N scope a C s H ex) f i) (l:∀a C s H ex,JE (X.blk N scope a C s H ex) c te)
  (k:X.calm=true:=by rfl) (hs:∀x,foldedSetIterable b X.env x=pure x:=by intro _;rfl):JE X (.ListComp c [⟨tg,b,f,0⟩] scope pos) (a4I src j g i te) :=
 ⟨b2t k hi.h e d h (λ_ _ _ _ _=>(m _ _ _ _ _).h) (λ_ _ _ _ _=>(n _ _ _ _ _).h) (λ_ _ _ _ _=>(l _ _ _ _ _).h) hs⟩
variable {st:Stmt}{sts:List Stmt}{u v:TS}
theorem C9:JB X [] b3E:=⟨b1R⟩
theorem A1(h1:JS X st u)(h2:JB X sts v):JB X (st::sts) (a8U u v):=⟨a9E h1.h h2.h⟩
theorem A9(h1:JS X st u):JB X [st] u:=⟨b1Q h1.h⟩
theorem C2(a:JE X e te):JS X (.Return (some e) pos) (b1C te):=⟨b5l a.h⟩
theorem G8(a:JE X e te)(hs:swapsWith e none pos.line X.env=pure false:=by rfl):JS X (.Expr e pos) (a6E te):=⟨b1T a.h hs⟩
theorem G2{A B:List Stmt}(d:JT X c tA)(a:JB X A u)(b:JB X B v):JS X (.If c A B pos) (b7r tA u v):=⟨b7Y d.h a.h b.h⟩
theorem b0w{B:List Stmt}(b:JT X c tA)(a:JB X B v)(hp:PassesOwn (model X.prog X.w) X.A X.env X.xe:=by exact PassesOwn.never):JS X (.While c B [] pos) (a8T tA v):=⟨a9F hp b.h a.h⟩
theorem T8{tg a:Expr}{B:List Stmt}{b:TI}{g:TG}(hi:JI X tg a b)(e:JG X tg g)(c:JB X B v)(hp:PassesOwn (model X.prog X.w) X.A X.env X.xe:=by exact PassesOwn.never)(d:X.calm=true:=by rfl)
  (hs:∀x,foldedSetIterable a X.env x=pure x:=by intro _;rfl):JS X (.For tg a B [] pos) (b1D b g v):=⟨b5n hp d hi.h e.h c.h hs⟩
theorem B7{i:Nat}{x:Str}{pos':Pos}(a:X.N.Nodup)(hi:X.N[i]?=some x)(d:Loc X.env.scope x)(b:JE X e te)(hs:swapsWith e (some (.Name x pos')) pos.line X.env=pure false:=by rfl)
  (c:X.fn x=true∨X.env.scope.names.lookup x=some .local:=by first|exact .inl rfl|exact .inr rfl|assumption):JS X (.Assign [.Name x pos'] e pos) (a5K te (B1 i)):=⟨b5k a hi d b.h hs c⟩
theorem a0n{i:Nat}{y:Str}{m c:Pos}{tg b d:Expr}{e:List Expr}{scope:Scope}{N:List Str}{src:List (Option Nat)}{o:TI}{g:TG}{n:TT}
  (p:X.N.Nodup) (w:X.N[i]?=some y) (v:Loc X.env.scope y) (hi:JI X tg b o) (h:K6 scope X.env.scope=true) (f:Q8 N src X.N scope=true) (k:a3S scope=true)
  (t:∀a C s H ex,JG (X.blk N scope a C s H ex) tg g) (u:∀a C s H ex,JF (X.blk N scope a C s H ex) e n) (j:∀a C s H ex,JE (X.blk N scope a C s H ex) d te)
  (q:X.calm=true:=by rfl) (l:swapsWith (.ListComp d [⟨tg,b,e,0⟩] scope pos) (some (.Name y m)) c.line X.env=pure true:=by rfl) (hs:∀x,foldedSetIterable b X.env x=pure x:=by intro _;rfl)
  (r:X.fn y=true∨X.env.scope.names.lookup y=some .local:=by first|exact .inl rfl|exact .inr rfl|assumption) :
  JS X (.Assign [.Name y m] (.ListComp d [⟨tg,b,e,0⟩] scope pos) c) (a5K (a4I src o g n te) (B1 i)) :=
 ⟨b1S p w v q hi.h h f k (λ_ _ _ _ _=>(t _ _ _ _ _).h) (λ_ _ _ _ _=>(u _ _ _ _ _).h) (λ_ _ _ _ _=>(j _ _ _ _ _).h) l hs r⟩
theorem a0d{tg:Expr}{g:TG}(a:JE X e te)(b:JG X tg g)(hs:swapsWithSole [tg] e pos.line X.env=pure false:=by rfl)(hw:swappedStores [tg] e X.env=pure none:=by rfl)
  (h1:(assignEach [tg] X.env).map (·.2)=[assign tg X.env]:=by rfl):JS X (.Assign [tg] e pos) (a5K te g):=⟨b5p a.h b.h hs hw h1⟩
theorem a6b(K:PySem.W.Frag){i:Expr}{c:TE}{tpos:Pos}(h:JE X o to)(hi:JE X i c)(g:JE X e te)(d:X.K=K:=by rfl)
  (f:∀b a new,augStore i b a new=(do holding [new,b,a] (setItem b a new);release [new,b,a] [];pure .next):=by intros;rfl):JS X (.AugAssign (.Subscript o i tpos) .Add e pos) (b3I to c te (a5S K) (ipI λi j=>i+j) a9u):=⟨b1V h.h hi.h (a8d K d) g.h b6y a4M f⟩
end
section
variable {P:Program}{w:World}{K:PySem.W.Frag}{mg:Str->Option Value}{base:Heap}
theorem FunAt.okJ{x:Str}{st:Stmt}{N ps:List Str}{k:Nat}{sp:Sp}(F:FunAt K mg x st ps)(S:FnScope N ps (A8 st))(len:∀vs H Q E,sp vs H Q E->vs.length=ps.length)
  (b:∀(a:Value) (f:Addr) (A:Around) (outer:List Env) (s:Shared) (H:Hp) (vs:List V) (Q:VK) (E:XK),Room k (A.deeper (envOfC x (A8 st) s.heap.objs.size f a))->sp vs H Q E ->
   ∃t,JB (N9 CX0 P w K mg base N x (A8 st) f a A outer s H E).nox (K5 st) t/\t {nx:=λ_ H'=>Q .non H',rt:=Q} (start N vs) H):Ok P w K mg base x (k+1) ps sp :=
 F.ok S len λa f A outer s H vs Q E c h=>let ⟨t,d,r⟩:=b a f A outer s H vs Q E c h;⟨t,d.h,r⟩
theorem Fun.okJ{x qual:Str}{st:Stmt}{f:Addr}{fd:FuncData}{N ps:List Str}{k:Nat}{sp:Sp}(F:Fun K x qual st f fd)(S:FnScope N ps (A8 st))(len:∀vs H Q E,sp vs H Q E->vs.length=ps.length)
  (b:∀(a:Value) (A:Around) (outer:List Env) (s:Shared) (H:Hp) (vs:List V) (Q:VK) (E:XK),Room k (A.deeper (envOfC qual (A8 st) s.heap.objs.size f a))->sp vs H Q E ->
   ∃t,JB (N9 CX0 P w K mg base N qual (A8 st) f a A outer s H E).nox (K5 st) t/\t {nx:=λ_ H'=>Q .non H',rt:=Q} (start N vs) H):FnOk P w K mg base CX0 (k+1) f fd ps sp :=
 F.ok S len λa A outer s H vs Q E c h=>let ⟨t,d,r⟩:=b a A outer s H vs Q E c h;⟨t,d.h,r⟩
end
def a6I(K:PySem.W.Frag):Sp:=λvs H Q _=>∃(a:Addr) (ns:List Int),vs=[.ref a]/\SqL K H a (ns.map V.int)/\ns.length<=63/\∀H',Q (.bl true) H'
theorem law_walk{l:PySem.W.OpenLaw}{q:Program}{b:List Str}{XP:(Str->Option Value)->Heap->Prop}{e:World->Heap->Prop}{d:DefRec}{K:Params->PySem.W.Frag}(k:Nat)(hn:l.most=some 63)(c:d.params.defaults=[])(o:Room k callerA)
  (j:∀(w:World) (h:Heap),e w h->(K w.params).In h)
  (F:∀(w:World) (mg:Str->Option Value) (g:Addr) (h:Heap),(K w.params).In h->h.Ns mainGlobals mg->mg d.name=some (.ref g) ->
   ∃fd:FuncData,(∀(s:Shared) (u:Value),BindsTo s fd ⟨[u],[]⟩ [("_law_script",u)])/\∀base:Heap,(K w.params).In base->base.Ns mainGlobals mg->FnOk l.prog w (K w.params) mg base CX0 k g fd ["_law_script"] (a6I (K w.params))) :
  PySem.W.WalkO q b XP e l.row.toRowW d [] (λf vs=>PySem.call f vs) :=
 L2.walk_of (n:=63) (k:=k) (x:="_law_script") (CX:=λ_=>CX0) (sp:=λw=>a6I (K w.params)) hn (by decide) c o j F (λ_ _ a ns m _ i=>⟨a,ns,rfl,i,m,λ_=>rfl⟩) λ_ _ _ _ _ z=>z
def Its(H:Hp)(vs:List V)(rss:LLI):Prop:=vs.length=rss.length/\∀(i:Nat) (v:V),vs[i]?=some v->∃r,rss[i]?=some r/\IT H v r
theorem Its.same{H H':Hp}{vs:List V}{a:LLI}(h:Its H vs a)(s:Same H H'):Its H' vs a:=⟨h.1,λi v e=>let ⟨r,e1,e2⟩:=h.2 i v e;⟨r,e1,e2.same s⟩⟩
theorem Its.nil{H:Hp}:Its H [] []:=⟨rfl,λi v e=>by simp at e⟩
theorem Its.snoc{H:Hp}{vs:List V}{a:LLI}{v:V}{r:List Int}(h:Its H vs a)(c:IT H v r):Its H (vs++[v]) (a++[r]):=by
 refine⟨by simp[h.1],λi u e=>?_⟩;by_cases hi:i<vs.length
 .rw[List.getElem?_append_left hi]at e;obtain⟨q,e1,e2⟩:=h.2 i u e;exact⟨q,by rw[List.getElem?_append_left (by rw[<-h.1];exact hi)];exact e1,e2⟩
 .rw[List.getElem?_append_right (by omega)]at e;have b:i-vs.length=0:=by
   have:=(List.getElem?_eq_some_iff.mp e).1;simp at this;omega
  rw[b]at e;simp at e;subst e;refine⟨r,?_,c⟩;rw[List.getElem?_append_right (by rw[<-h.1];omega),<-h.1,b];rfl
end L2
namespace L2
open PySem PySem.Spec PyProof.Rows PySem.W
theorem ObjOk.there{P:Program}{w:World}{H:Hp}{h:Heap}{a:Addr}{o:HO}(x:ObjOk P w H h a o):∃u,h.get? a=some u:=by
 induction o with
 |lst xs=>obtain⟨_,_,_,_,e⟩:=x;exact⟨_,e⟩
 |tup xs=>obtain⟨_,_,_,b,e,_⟩:=x;exact⟨_,e⟩
 |dK kvs=>obtain⟨_,_,_,_,o,_,_,e,_⟩:=x;exact⟨_,e⟩
 |dT kvs=>obtain⟨_,_,_,_,o,_,_,e,_⟩:=x;exact⟨_,e⟩
 |set S n=>obtain⟨o,_,_,_,e,_⟩:=x;exact⟨_,e⟩
 |ins C dx fs=>obtain⟨_,_,_,e,_⟩:=x;exact⟨_,e⟩
 |own y=>obtain⟨_,e⟩:=x;exact⟨_,e⟩
 |xd fs=>obtain⟨_,⟨_,_,_,e,_⟩,_⟩:=x;exact⟨_,e⟩
 |rng lo hi=>obtain⟨_,_,_,e⟩:=x;exact⟨_,e⟩
 |frz b u c=>obtain⟨e,_⟩:=x;exact⟨_,e⟩
 |tbl ps=>exact⟨_,x⟩
 |met f y=>exact⟨_,x⟩
 |ext φ=>exact x.2.1
def Cov(l:List Env)(H:Hp)(h0 h B:Heap):Prop:=∀b o,h.get? b=some o->b∉frs l->(H b≠none∨∃o',h0.get? b=some o')->B.get? b=some o
theorem a1f{P:Program}{w:World}{l:List Env}{H H':Hp}{h0 h1 h2 B base:Heap}(f:Un (frs l) [] H H' h0 h1)(i:HOk P w H' h1)(d:Cov l H' h0 h1 B)(st:B.StaysIn h2)(r:h1.UpToSlots h2)(m:h1.FunFrames base l)(s:∀b∈frs l,H' b=none) :
  Un (frs l) [] H H' h0 h2/\HOk P w H' h2/\Cov l H' h0 h2 B:=by
 have v:∀b,H' b≠none->b∉frs l:=λb n c=>n (s b c);refine⟨⟨?_,?_,f.free,?_,f.tups,f.frzs,f.tbls⟩,?_,?_⟩
 .intro b o e n c hx;exact st b o (d b o (f.keep b o e n c hx) c (.inr ⟨o,e⟩))
 .intro b o e n c hx;obtain⟨sl,q⟩:=f.slot b o e n c hx;obtain⟨_,t,e2,nf⟩:=m.mem c;rw[q]at e2;cases e2;obtain⟨j,h⟩:=r b _ q nf;exact⟨j,h⟩
 .intro b o e hx;obtain⟨g,q⟩:=f.there b o e hx;by_cases c:b∈frs l
  .obtain⟨_,t,e2,nf⟩:=m.mem c;rw[q]at e2;cases e2;obtain⟨j,h⟩:=r b _ q nf;exact⟨_,h⟩
  .exact⟨g,st b g (d b g q c (.inr ⟨o,e⟩))⟩
 .intro a o e;refine(i a o e).stay (λb u c q=>?_) (λ_ q=>q) λ_ _ q=>q;have k:H' b≠none:=by
   rcases c with rfl|c
   .rw[e];intro z;cases z
   .rw[c];intro z;cases z
  exact st b u (d b u q (v b k) (.inl k))
 .intro b o e c ho;have ex:∃g,h1.get? b=some g:=by
   rcases ho with k|⟨o',q⟩
   .cases eq:H' b with
    |none=>exact absurd eq k
    |some u=>exact(i b u eq).there
   .exact f.there b o' q (by simp)
  obtain⟨g,q1⟩:=ex;have h:=d b g q1 c ho;have p:=st b g h;rw[e]at p;cases p;exact h
theorem b8D{K:PySem.W.Frag}{h:Heap}{mg:Str->Option Value}{x:Str}{C:Addr}{bmB:List Value}{newId:String}(X:K.In h)(f:mg x=some (.ref C))(q:excIn K C bmB newId=true):OwnCls x C bmB newId mg h:=by
 refine⟨f,?_⟩;unfold excIn at q;split at q
 .rename_i dd cd sl ho;split at q
  .rename_i C' bm k0 k1 k2 k3 n k5 hmro hs;simp only[Bool.and_eq_true,beq_iff_eq,Bool.not_eq_true']at q;obtain⟨⟨⟨⟨⟨rfl,rfl⟩,a⟩,g⟩,b⟩,c⟩:=q;obtain⟨nm,bs,i,ns,qn,hd,sn,sub,ab,col,e⟩:=cd;dsimp only at hmro a b c;subst hmro a;have d:sl=#[k0,k1,k2,k3,some (.builtin n),k5]:=by
    obtain⟨l⟩:=sl;simp only at hs;rw[hs]
   subst d;exact⟨bm,ns,nm,qn,bs,hd,sn,sub,ab,col,dd,k0,k1,k2,k3,k5,_,X _ _ ho,.of_isNs (isNs_of_in X b),nsMap_none_of_in X b c,tail_of_in X g⟩
  .cases q
 .cases q
def XP(X:Cx)(pins:List (Addr×Obj))(R:St->Addr->Hp->Prop)(e:Value)(s':Shared):Prop :=
 ∃(σ1:St) (H1:Hp) (s1:Shared) (p C:Addr) (H':Hp) (B:Heap) (a0:Value),e=.ref p/\Inv X pins σ1 H1 s1/\s'.os=s1.os/\AllBare s'.gens/\Un (frs X.stack) [] H1 H' s1.heap s'.heap/\HOk X.prog X.w H' s'.heap /\
  H' p=none/\Heap.FlyingW B X.stack p (.ref C) a0 s'.heap/\Cov X.stack H' s1.heap s'.heap B/\R σ1 C H'
section
variable {M:Model}{A:Around}{E:Value->Shared->Prop}
structure ClsX(K:PySem.W.Frag)(C:Addr)(above:List Value):Prop where
 ex:∃nm q N bs bm hdct sn sub ab col dd k0 k1 k2 k3 k5 newId,K.lookup C=some (excClassObj nm q C N bs bm hdct sn sub ab col dd k0 k1 k2 k3 k5 newId)/\bm.contains (.type "BaseException")=true/\∀v∈above,bm.contains v=true
theorem a2D{nm q u L:Str}{C N D y:Addr}{bs bm n b:List Value}{hdct i:Bool}{sn v:List Str}{sub l:List Value}{ab m:Bool}{col j:Option Bool}{dd o:Option Addr}{k0 k1 k2 k3 k5 G H I J K:Option Value}{newId a:String}
  {h:Heap}{g:Array GenState}{d:Drawn}{t:Nat}{os:OsState}{e:Addr}{x:Obj}{Q:Bool->Shared->Prop}
  (z:h.get? C=some (excClassObj nm q C N bs bm hdct sn sub ab col dd k0 k1 k2 k3 k5 newId)) (w:h.get? D=some (excClassObj u L D y n b i v l m j o G H I J K a)) (B:h.get? e=some x) (k:x.cls=.ref C)
  (c:b.contains (.type "BaseException")=true) (s:bm.contains (.ref D)=true) (F:Q true ⟨h,g,d,t,os⟩):wpAny M A (excMatches (.ref e) (.ref D)) Q E ⟨h,g,d,t,os⟩:=by
 have p:(Value.ref D::b).contains (.type "BaseException")=true:=by rw[List.contains_cons,c,Bool.or_true]
 have r:(Value.ref C::bm).contains (.ref D)=true:=by rw[List.contains_cons,s,Bool.or_true]
 have f:=tc_notTuple;unfold excMatches
 repeat (first | (with_reducible refine wpAny_loadPart_at B ?_;rw[k])|with_reducible refine wpAny_loadPart_at w ?_ | (with_reducible refine wpAny_isSubtype_exc w ?_;rw[p]) | (with_reducible refine wpAny_isSubtype_exc z ?_;rw[r])|wp_step)
 exact F
end
section
variable {X:Cx}{pins:List (Addr×Obj)}{σ:St}{H1 H':Hp}{s1 s':Shared}{p C:Addr}{B:Heap}{a0:Value}{h2:Heap}
theorem Inv.land(a:Inv X pins σ H1 s1)(e:s'.os=s1.os)(k:AllBare s'.gens)(g:Un (frs X.stack) [] H1 H' s1.heap s'.heap)(d:HOk X.prog X.w H' s'.heap)(i:s'.heap.FunFrames B X.stack)(c:Cov X.stack H' s1.heap s'.heap B)(st:B.StaysIn h2)(m:s'.heap.UpToSlots h2) :
  Inv X pins σ H' {s' with heap:=h2}:=by
 have j:∀b∈frs X.stack,H' b=none:=λb h=>by
  obtain⟨_,o,l,_⟩:=a.stack.mem h;exact g.free b o l (a.stkFree b h) (by simp)
 obtain⟨U2,f,_⟩:=a1f g d c st m i j;exact a.call' (ch:=[]) e U2 f k (λb z=>absurd z (by simp))
end
section
variable {X:Cx}{pins:List (Addr×Obj)}{σ:St}{H:Hp}{s:Shared}
theorem a7P{M:Model}{A:Around}{E:Value->Shared->Prop}{i:Nat}{n:Str}{pos:Pos}{Q:Unit->Shared->Prop}(I:Inv X pins σ H s)(B:X.N.Nodup)(hi:X.N[i]?=some n)(C:X.env.scope.names.lookup n=some .local)
  (h:∀s',Inv X pins (σ.set i none) H s'->Q () s'):wpAny M A (do bindName X.env n .none;unbindBehindTheSuite X.env n pos) Q E s:=by
 obtain⟨m,hn,D⟩:=I.loc;have g:(X.env.scope.kind==.class || (X.env.scope.kind==.module && X.env.locals != X.env.globals))=false:=by rw[I.ok.kind];rfl
 have hiσ:i<σ.length:=by rw[I.len];exact(List.getElem?_eq_some_iff.mp hi).1
 have cne:=I.cne;refine wpAny_nameGoes_keeps C hn g λh' v u hs=>?_;obtain⟨O,_,_,F,_⟩:=id hn;have f:HOk X.prog X.w H h':=λb J e=>by
  refine(I.hok b J e).stay (λc w r q=>(hs.2 c ?_).trans q) (λ_ q=>q) λ_ _ q=>q;have a:=I.free;rintro rfl;rcases r with z|r
  .rw[<-z,a]at e;cases e
  .rw[a]at r;cases r
 refine h _ ⟨I.ok,I.os,I.bare,⟨λb o e n t l=>?_,λb o e n t l=>?_,I.base.free,λb o e l=>?_,I.base.tups,I.base.frzs,I.base.tbls⟩,⟨_,u,λj y N e1 e2 x=>?_⟩,λy c e=>?_,I.free,I.freeC,λp G=>?_,f,by simpa using I.len⟩
 .exact(hs.2 b (Nat.ne_of_lt (Nat.lt_of_lt_of_le (Heap.lt_size e) I.ok.above))).trans (I.base.keep b o e n t l)
 .obtain⟨sl,e1⟩:=I.base.slot b o e n t l;exact⟨sl,(hs.2 b (Nat.ne_of_lt (Nat.lt_of_lt_of_le (Heap.lt_size e) I.ok.above))).trans e1⟩
 .obtain⟨o',e1⟩:=I.base.there b o e l;exact⟨o',(hs.2 b (Nat.ne_of_lt (Nat.lt_of_lt_of_le (Heap.lt_size e) I.ok.above))).trans e1⟩
 .by_cases hj:j=i
  .subst hj;rw[List.getElem?_set_self hiσ]at e2;cases e2
  .rw[List.getElem?_set_ne (Ne.symm hj)]at e2;obtain⟨L,K,q⟩:=D j y N e1 e2 x;refine⟨L,K,?_⟩;rcases q with⟨k,e⟩|⟨k,c,e,z⟩
   .refine .inl ⟨k,?_⟩;have:y≠n:=λe=>hj (a2r B e1 (e ▸ hi));simp[this,e]
   .exact .inr ⟨k,c,e,z.sameBut hs (cne y c e)⟩
 .obtain⟨w,z⟩:=I.cell y c e;exact⟨w,z.sameBut hs (cne y c e)⟩
 .obtain⟨e,n,ne,nf,d⟩:=I.pin p G;exact⟨(hs.2 p.1 ne).trans e,n,ne,nf,d⟩
noncomputable abbrev Cx.held(X:Cx)(p:Addr):Cx:={X with A:=X.A.mark (some (.ref p)),calm:=false,xe:=λ_ _=>False}
theorem Inv.held(I:Inv X pins σ H s)(p:Addr):Inv (X.held p) pins σ H s :=
 ⟨⟨I.ok.mod,I.ok.kind,I.ok.glob,I.ok.blt,I.ok.above,I.ok.inj,I.ok.has,I.ok.cab,(λz=>by cases z),I.ok.frames,I.ok.stk,I.ok.exf,I.ok.bs,I.ok.bsz,I.ok.noex,I.ok.exfs,I.ok.funs,I.ok.frf⟩,I.os,I.bare,I.base,I.loc,I.cell,I.free,I.freeC,I.pin,I.hok,I.len⟩
theorem Inv.unheld{p:Addr}(J:X.Ok)(I:Inv (X.held p) pins σ H s):Inv X pins σ H s :=
 ⟨J,I.os,I.bare,I.base,I.loc,I.cell,I.free,I.freeC,I.pin,I.hok,I.len⟩
end
def a0K(K:PySem.W.Frag)(C:Addr)(above:List Value):Bool:=match K.lookup C with
 |some ⟨.type "type",_,.cls cd,sl⟩=>(match cd.mro,sl.toList with
  |.ref C'::bm,[_,_,_,_,some (.builtin _),_]=>C'==C && !cd.hasDel && bm.contains (.type "BaseException") && above.all λv=>bm.contains v
  |_,_=>false)
 |_=>false
theorem a4u{K:PySem.W.Frag}{C:Addr}{above:List Value}(q:a0K K C above=true):ClsX K C above:=by
 unfold a0K at q;split at q
 .rename_i dd cd sl ho;split at q
  .rename_i C' bm k0 k1 k2 k3 n k5 hmro hs;simp only[Bool.and_eq_true,beq_iff_eq,Bool.not_eq_true',List.all_eq_true]at q;obtain⟨⟨⟨rfl,a⟩,e⟩,d⟩:=q;obtain⟨nm,bs,g,ns,qn,hd,sn,sub,ab,col,c⟩:=cd;dsimp only at hmro a;subst hmro a;have b:sl=#[k0,k1,k2,k3,some (.builtin n),k5]:=by
    obtain⟨l⟩:=sl;simp only at hs;rw[hs]
   subst b;exact⟨nm,qn,ns,bs,bm,hd,sn,sub,ab,col,dd,k0,k1,k2,k3,k5,n,ho,e,λv f=>d v f⟩
  .cases q
 .cases q
section
variable {X:Cx}{k:Nat}{ps:List Str}{sp:Sp}{x y:Str}{p pos cpos pos':Pos}{e:Expr}{es:List Expr}{t:TA}{i:Nat}
end
end L2
namespace L2
open PySem PySem.Spec PyProof.Rows PySem.W Builtin Builtin.ObjectAttr Builtin.Getset_descriptor
section
variable {K:PySem.W.Frag}{prog:Program}{w:World}{A:Around}{E:Value->Shared->Prop}{h:Heap}{g:Array GenState}{d:Drawn}{t:Nat}{os:OsState}{a:Addr}{o:Obj}
 {nm q:Str}{C N:Addr}{bs bm:List Value}{hdct:Bool}{sn:List Str}{sub:List Value}{ab:Bool}{col:Option Bool}{dd:Option Addr}{k0 k1 k2 k3 k5:Option Value}{newId:String}
theorem a4C{M:Model}{b:Value}{Q:Unit->Shared->Prop}(f:h.get? C=some (excClassObj nm q C N bs bm hdct sn sub ab col dd k0 k1 k2 k3 k5 newId))(i:bm.contains (.type "BaseException")=true)
  (m:h.get? a=some o) (j:o.cls=.ref C) (l:Q () ⟨h,g,d,t,os⟩):wpAny M A (checkBuiltinCall "BaseException.__getattribute__" ⟨[.ref a,b],[]⟩) Q E ⟨h,g,d,t,os⟩:=by
 have k:builtinKind "BaseException.__getattribute__"=some .slot:=by decide +kernel
 have c:splitId "BaseException.__getattribute__"=some ("BaseException","__getattribute__"):=by decide +kernel
 have e:(Value.ref C::bm).contains (.type "BaseException")=true:=by rw[List.contains_cons,i];rfl
 have n:=F.args_bexc_ga (.ref a) b;simp only[checkBuiltinCall,k,c];refine wpAny_bind ?_
 .unfold isInstance
  repeat (first | (with_reducible refine wpAny_loadPart_at m ?_;rw[j]) | (with_reducible refine wpAny_isSubtype_exc f ?_;rw[e])|wp_step)
  exact l
theorem a6w{M:Model}(c:h.get? a=some o)(b:o.cls=.ref C):Looks M h (typeOf (.ref a)) (.ref C):=b ▸ (Looks.ld c).andThen .now
theorem b4N{R:Result->Shared->Prop}{i:Value}(X:K.In h)(f:h.get? a=some o)(b:o.cls=.ref C)(c:mroIn K C (.type "object")=some true)(e:R (.ok (.ret (.ref C))) ⟨h,g,d,t,os⟩) :
  codeAny (model prog w) A (.call (.builtin "getset_descriptor.__get__") ⟨[.builtin "object.__class__",.ref a,i],[]⟩) R ⟨h,g,d,t,os⟩:=by
 have j:=a6w (M:=model prog w) f b;have k:=looks_mroIn (M:=model prog w) X c;refine codeAny_call_builtin KF.slot_gs.plain KF.entry_gs (KF.slot_gs.check _ _ _ _ _ _ _ _ KF.type_class (KF.args_gs _ _ _) ?_);unfold Builtin.«getset_descriptor.__get__» descrGet;rw[dga_obj];refine wpAny_bind (wpAny_pure ?_);unfold descrGetter descrCheckInstance descrNameAndClass isInstance;simp only[KF.owner_class]
 repeat lk
 refine⟨Code.quiet_builtin _ (by decide +kernel),codeAny_builtin KF.entry_class ?_⟩;unfold Builtin.«object.__class__» shownTypeOf
 repeat lk
 exact e
theorem a8I{tk:Tok}{Q:Fin->Shared->Prop}(X:K.In h)(f:mroIn K C (.type "object")=some true)(b:findIn K (.ref C) "__class__"=some (some (.builtin "object.__class__")))(e:h.get? a=some o)(c:o.cls=.ref C)(l:Q (.done (.ret (.ref C))) ⟨h,g,d,t,os⟩) :
  wpAny (model prog w) A (Builtin.«object.__getattribute__» ⟨[.ref a,.str "__class__" tk],[]⟩) Q E ⟨h,g,d,t,os⟩:=by
 have L:=looks_findIn (M:=model prog w) X b;have j:=F.slot_gs_get.lookup;have k:=F.slot_gs_set.lookup;have i:=KF.type_class
 repeat (any_goals (first|assumption | (with_reducible refine wpAny_loadPart_at e ?_;rw[c])|with_reducible refine L.at ?_|wp_step))
 refine b4N X e c f ?_
 repeat (any_goals (first|assumption|wp_step))
theorem b1v{Q:Option Value->Shared->Prop}(X:K.In h)(m:h.get? C=some (excClassObj nm q C N bs bm hdct sn sub ab col dd k0 k1 k2 k3 k5 newId))(n:bm.contains (.type "BaseException")=true)(p:mroIn K C (.type "object")=some true)
  (c:findIn K (.ref C) "__class__"=some (some (.builtin "object.__class__"))) (e:findIn K (.ref C) "__getattribute__"=some (some (.builtin "BaseException.__getattribute__"))) (f:findIn K (.ref C) "__getattr__"=some none)
  (i:h.get? a=some o) (b:o.cls=.ref C) (r:Q (some (.ref C)) ⟨h,g,d,t+1,os⟩):wpAny (model prog w) A (getAttr? (.ref a) "__class__") Q E ⟨h,g,d,t,os⟩:=by
 have l:=looks_findIn (M:=model prog w) X e;have L2:=looks_findIn (M:=model prog w) X f;have k:=PySem.F.attrBase_ValueError;have u:=k.ga.bind (.ref a);have j:(Value.builtin "BaseException.__getattribute__"==Value.builtin "object.__getattribute__")=false:=by decide +kernel
 have s:(onTheHeap (Value.ref C) && Value.builtin "BaseException.__getattribute__"==Value.builtin "object.__getattribute__")=false:=by rw[j];rfl
 unfold getAttr? getAttrBy? getAttrBy
 repeat (any_goals (first|assumption | (with_reducible refine wpAny_loadPart_at i ?_;rw[b])|with_reducible refine l.at ?_|with_reducible refine L2.at ?_|wp_step))
 refine codeAny_call_builtin k.ga.plain F.entry_bexc_ga (a4C m n i b (a8I X p c i b ?_));exact handed_on rfl (wpAny_pure r)
structure IsX(K:PySem.W.Frag)(C:Addr):Prop where
 cls:ClsX K C []
 mro:mroIn K C (.type "object")=some true
 cl:findIn K (.ref C) "__class__"=some (some (.builtin "object.__class__"))
 ga:findIn K (.ref C) "__getattribute__"=some (some (.builtin "BaseException.__getattribute__"))
 gr:findIn K (.ref C) "__getattr__"=some none
theorem a2u(Z:IsX K C):KitX K (.ref a) (.ref C) (λh=>∃o,h.get? a=some o/\o.cls=.ref C) where
 ty:=λ_ _ _ ⟨o,f,b⟩=>a6w f b
 it:=λ_ _ X _=>by
  obtain⟨nm,q,N,bs,bm,hdct,sn,sub,ab,col,dd,k0,k1,k2,k3,k5,newId,lk,_⟩:=Z.cls.ex;intro p r E' s' k q;unfold isType loadHead;exact wpAny_bind (wpAny_loadPart (k _ _ (X _ _ lk)) (wpAny_pure q))
 ne:=λh m dd l n sl X c=>by
  obtain⟨nm,q,N,bs,bm,hdct,sn,sub,ab,col,dd,k0,k1,k2,k3,k5,newId,lk,_⟩:=Z.cls.ex;refine Bool.eq_false_iff.mpr λq=>?_;have e:C=m:=Value.ref.inj (beq_iff_eq.mp q);subst e;have z:=congrArg Obj.data (Option.some.inj ((X _ _ lk).symm.trans c));unfold excClassObj at z;cases z
 ca:=λ{prog w A E Q s} X ⟨o,f,b⟩ j=>by
  obtain⟨nm,q,N,bs,bm,hdct,sn,sub,ab,col,dd,k0,k1,k2,k3,k5,newId,lk,i,_⟩:=Z.cls.ex;obtain⟨h,g,d,t,os⟩:=s;exact b1v X (X _ _ lk) i Z.mro Z.cl Z.ga Z.gr f b j
end
section
variable {X:Cx}{es:List Expr}{e:Expr}{t:TA}{pos p:Pos}
theorem a3d:∀{a:List Addr}{us:List Value},Vals (a.map V.ref) us->us=a.map Value.ref
 |[],_,.nil=>rfl
 |D::a,_,.cons r t=>by
  have:=a3d t;subst this;cases r;rfl
theorem W4{x:Str}{v:V}{u:Value}(a:Gl X x)(b:X.mg x=some u)(r:RelV v u)(hd:(x==("__debug__" : Str))=false:=by decide):JE X (.Name x pos) (tC v):=⟨b2q a b r hd⟩
end
end L2
namespace L2
open PySem PySem.Spec PyProof.Rows
theorem Its.put{H:Hp}{vs:List V}{b:LLI}{c:Addr}{xs:List V}{o:HO}(h:Its H vs b)(d:H c=some (.lst xs)):Its (upd H c o) vs b:=⟨h.1,λi v e=>let ⟨r,e1,a,e2,q⟩:=h.2 i v e;⟨r,e1,a,e2,by rw[A5 (T7 q d (by intro z;cases z))];exact q⟩⟩
open _root_.HT
section
variable {prog:Program}{w:World}{A:Around}{E:Value->Shared->Prop}{s:Shared}
end
section
variable {X:Cx}{e:Expr}{te:TE}{lo hi:Option Expr}{tl th:TO}{pos p2:Pos}
theorem a5I(l:Addr)(items:Array Value)(n:Nat)(dd:Option Addr)(sl:Array (Option Value))(u:Tok)(a:items.isEmpty=false) :
  Meets (Builtin.«tuple.__mul__» ⟨[.ref l,.int 0 u],[]⟩) (λ_ R s=>s.heap.get? l=some {cls:=.type "tuple",dict:=dd,data:=.seq items n,slots:=sl}/\R (.ok (.ret (.ref s.heap.objs.size))) {s with heap:=s.heap.push {cls:=.type "tuple",data:=.seq #[]}}) :=
 .of_wp λprog w A R s h=>by
  obtain⟨f,g,d,tk,os⟩:=s;obtain⟨b,h⟩:=h;have e:=AutoSeq1.idx_int;have c:¬((items.isEmpty || (0:Int)==1)=true):=by rw[a];decide
  wp_walk using PySem.AutoSeq1.wpAny_loadPart' b
  exact⟨_,rfl,h⟩
def b3Y:R2:=λx y H Q=>∃a xs n,x=.ref a/\y=.int n/\H a=some (.tup xs)/\xs≠[]/\0<=n/\(xs.length:Int)*n<=(sizeLine:Int)/\∀p H',Same H H'->H' p=some (.tup (List.replicate n.toNat xs).flatten)->Q (.ref p) H'
theorem b2z:OpR X (binaryOp .Mult) b3Y:=by
 intro pins s σ H x y v u Q I p w h;obtain⟨a,xs,n,rfl,rfl,k,i,hn,C,q⟩:=h;by_cases A:n=0
 .subst A;cases p;obtain⟨t,rfl⟩:=w;obtain⟨f,r,E,D⟩:=I.tuple (.inl (.inl k));obtain⟨⟨cls,dd,data,sl⟩,j,l,m,hd⟩:=id E;simp only at l hd;subst l hd;have g:=r.length;have d:0<f.length:=by rw[<-g];exact List.length_pos_iff.mpr i
  refine wpAny_binaryOp_repeat_ref (T:="tuple") (U:="int") (by decide) ⟨_,j,rfl⟩ (λs'=>typeIs_int s' 0 t) X3 F.fills_int_mul F.slot_int_rmul a0V F.slot_int_index.lookup
   (call_meets F.slot_int_rmul (typeIs_int s 0 t) F.entry_int_rmul (F.args_int_rmul_2 _ _) (a2h 0 t a f.toArray m dd sl) ⟨j,rfl,⟨_,j,rfl⟩,?_⟩)
  refine call_meets F.slot_tuple_mul ⟨_,j,rfl⟩ F.entry_tuple_mul (F.args_tuple_mul_2 _ _) (a5I a f.toArray m dd sl t (by simp;intro z;rw[z]at d;exact Nat.lt_irrefl _ d)) ⟨j,?_⟩;have B:H s.heap.objs.size=none:=I.hok.fresh (Nat.le_refl _);refine⟨.ref s.heap.objs.size,_,I.laid (t':=s.toks) (o:=.tup []) (λb G q=>Heap.get?_push_of_some _ q) (Nat.le_refl _) ?_,rfl,q _ _ (λc o e=>by rw[A5 (B0 e B)];exact e) A0⟩;exact⟨Nat.zero_le _,[],.nil,IsTp.new _ _⟩
 .exact b2y pins s σ H (.ref a) (.int n) v u Q I p w ⟨a,xs,n,rfl,rfl,k,i,by omega,C,q⟩
theorem b0E{a b:Expr}{ta tb:TE}(c:JE X a ta)(d:JE X b tb):JE X (.BinOp a .Mult b pos) (tOp b3Y ta tb):=⟨X2 b2z c.h d.h⟩
end
end L2
namespace L2
open PySem PySem.Spec PyProof.Rows
theorem a2g{M:Model}{Γ:PySem.Ctx}{p:Pos}{t:Sem PySem.Fin}{fs:List Frame}{s:Shared}{e:End}{s':Shared}(h:Runs M Γ p t fs s e s'):∀{e2:End}{f:Shared},Runs M Γ p t fs s e2 f->e=e2/\s'=f:=by
 induction h with
 |done=>intro e2 f h2;cases h2;exact⟨rfl,rfl⟩
 |raise=>intro e2 f h2;cases h2;exact⟨rfl,rfl⟩
 |again _ _ d=>intro e2 f h2;cases h2 with|again _ q=>exact d q
 |rule _ d=>intro e2 f h2;cases h2 with|rule q=>exact d q
 | «at» _ d=>intro e2 f h2;cases h2 with | «at» q=>exact d q
 |load e1 _ d=>intro e2 f h2;cases h2 with|load e2 q=>rw[e1]at e2;cases e2;exact d q
 |update _ _ d=>intro e2 f h2;cases h2 with|update _ q=>exact d q
 |loadIfAlive _ d=>intro e2 f h2;cases h2 with|loadIfAlive q=>exact d q
 |point _ d=>intro e2 f h2;cases h2 with|point q=>exact d q
 |alloc _ d=>intro e2 f h2;cases h2 with|alloc q=>exact d q
 |fresh _ d=>intro e2 f h2;cases h2 with|fresh q=>exact d q
 |ask _ d=>intro e2 f h2;cases h2 with|ask q=>exact d q
 |choose _ _ d=>intro e2 f h2;cases h2 with|choose _ q=>exact d q
 |os _ d=>intro e2 f h2;cases h2 with|os q=>exact d q
 |handled _ d=>intro e2 f h2;cases h2 with|handled q=>exact d q
 |genState e1 _ d=>intro e2 f h2;cases h2 with|genState e2 q=>rw[e1]at e2;cases e2;exact d q
 |stack _ d=>intro e2 f h2;cases h2 with|stack q=>exact d q
 |thread _ d=>intro e2 f h2;cases h2 with|thread q=>exact d q
 |newGen _ d=>intro e2 f h2;cases h2 with|newGen q=>exact d q
 |call _ _ c g =>
  intro e2 f h2;cases h2 with
  |call q1 q2 =>
   obtain⟨a,b⟩:=c q1;cases a;subst b;exact g q2
  |callSusp q1=>exact absurd (c q1).1 (by intro z;cases z)
 |callSusp _ c =>
  intro e2 f h2;cases h2 with
  |call q1 q2=>exact absurd (c q1).1 (by intro z;cases z)
  |callSusp q1 =>
   obtain⟨a,b⟩:=c q1;cases a;subst b;exact⟨rfl,rfl⟩
 |yield=>intro e2 f h2;cases h2;exact⟨rfl,rfl⟩
 |resumeFresh g1 _ _ _ c g =>
  intro e2 f h2;cases h2 with
  |resumeFresh g2 q1 _ q2 =>
   rw[g1]at g2;cases g2;obtain⟨a,b⟩:=c q1;subst a b;exact g q2
  |resumeSuspended g2=>rw[g1]at g2;cases g2
  |resumeJustStarted g2 v=>exact absurd rfl v
  |resumeRunning g2=>rw[g1]at g2;cases g2
  |resumeFinished g2=>rw[g1]at g2;cases g2
 |resumeSuspended g1 _ _ _ c g =>
  intro e2 f h2;cases h2 with
  |resumeFresh g2=>rw[g1]at g2;cases g2
  |resumeSuspended g2 q1 _ q2 =>
   rw[g1]at g2;cases g2;obtain⟨a,b⟩:=c q1;subst a b;exact g q2
  |resumeJustStarted g2 v=>rw[g1]at g2;cases g2
  |resumeThrowFresh g2=>rw[g1]at g2;cases g2
  |resumeRunning g2=>rw[g1]at g2;cases g2
  |resumeFinished g2=>rw[g1]at g2;cases g2
 |resumeJustStarted g1 v _ d =>
  intro e2 f h2;cases h2 with
  |resumeFresh g2=>exact absurd rfl v
  |resumeSuspended g2=>rw[g1]at g2;cases g2
  |resumeJustStarted g2 v2 q=>exact d q
  |resumeRunning g2=>rw[g1]at g2;cases g2
  |resumeFinished g2=>rw[g1]at g2;cases g2
 |resumeThrowFresh g1 _ d =>
  intro e2 f h2;cases h2 with
  |resumeSuspended g2=>rw[g1]at g2;cases g2
  |resumeThrowFresh g2 q=>exact d q
  |resumeRunning g2=>rw[g1]at g2;cases g2
  |resumeFinished g2=>rw[g1]at g2;cases g2
 |resumeRunning g1 _ d =>
  intro e2 f h2;cases h2 with
  |resumeFresh g2=>rw[g1]at g2;cases g2
  |resumeSuspended g2=>rw[g1]at g2;cases g2
  |resumeJustStarted g2 v=>rw[g1]at g2;cases g2
  |resumeThrowFresh g2=>rw[g1]at g2;cases g2
  |resumeRunning g2 q=>exact d q
  |resumeFinished g2=>rw[g1]at g2;cases g2
 |resumeFinished g1 _ d =>
  intro e2 f h2;cases h2 with
  |resumeFresh g2=>rw[g1]at g2;cases g2
  |resumeSuspended g2=>rw[g1]at g2;cases g2
  |resumeJustStarted g2 v=>rw[g1]at g2;cases g2
  |resumeThrowFresh g2=>rw[g1]at g2;cases g2
  |resumeRunning g2=>rw[g1]at g2;cases g2
  |resumeFinished g2 q=>exact d q
 |segRet _ _ c g =>
  intro e2 f h2;cases h2 with
  |segRet q1 q2 =>
   obtain⟨a,b⟩:=c q1;cases a;subst b;exact g q2
  |segSuspOut _ q1=>exact absurd (c q1).1 (by intro z;cases z)
  |segSuspGen _ q1=>exact absurd (c q1).1 (by intro z;cases z)
 |segGen _ _ c g =>
  intro e2 f h2;cases h2 with
  |segGen q1 q2 =>
   obtain⟨a,b⟩:=c q1;cases a;subst b;exact g q2
  |segSuspOut _ q1=>exact absurd (c q1).1 (by intro z;cases z)
  |segSuspGen _ q1=>exact absurd (c q1).1 (by intro z;cases z)
 |segSuspOut e1 _ c =>
  intro e2 f h2;cases h2 with
  |segRet q1 q2=>exact absurd (c q1).1 (by intro z;cases z)
  |segGen q1 q2=>exact absurd (c q1).1 (by intro z;cases z)
  |segSuspOut e2 q1 =>
   obtain⟨a,b⟩:=c q1;cases a;subst b;exact⟨rfl,rfl⟩
  |segSuspGen e2 q1=>rw[e1]at e2;cases e2
 |segSuspGen e1 _ _ _ c g =>
  intro e2 f h2;cases h2 with
  |segRet q1 q2=>exact absurd (c q1).1 (by intro z;cases z)
  |segGen q1 q2=>exact absurd (c q1).1 (by intro z;cases z)
  |segSuspOut e2 q1=>rw[e1]at e2;cases e2
  |segSuspGen e2 q1 _ q2 =>
   rw[e1]at e2;cases e2;obtain⟨a,b⟩:=c q1;cases a;subst b;exact g q2
theorem a5C{M:Model}{Γ:PySem.Ctx}{R e:Result->Shared->Prop}{p:Pos}{s:Shared}(h:wpCode M Γ R p s)(h':wpCode M Γ e p s):wpCode M Γ (λr s'=>R r s'/\e r s') p s:=by
 obtain⟨r,s1,q1,f⟩:=h;obtain⟨i,g,c,d⟩:=h';obtain⟨a,b⟩:=a2g q1 c;cases a;subst b;exact⟨r,s1,q1,f,d⟩
theorem a7p{M:Model}{Γ:PySem.Ctx}{p:Pos}{g:Nat}{r:Resume}{s:Shared}{a f:GenResult}{s1 c:Shared}(h:Wakes M Γ p g r s a s1)(h':Wakes M Γ p g r s f c):a=f/\s1=c:=by
 unfold Wakes at h h';split at h
 .exact h.elim
 .split at h
  .obtain⟨e,u,q1,i,rfl,rfl⟩:=h;simp_all only;obtain⟨e',j,b,d,rfl,rfl⟩:=h';obtain⟨x,y⟩:=a2g q1 b;subst x y;exact⟨rfl,rfl⟩
  .simp_all
  .simp_all
 .simp_all only;obtain⟨e,u,q1,i,rfl,rfl⟩:=h;obtain⟨e',j,b,d,rfl,rfl⟩:=h';obtain⟨x,y⟩:=a2g q1 b;subst x y;exact⟨rfl,rfl⟩
 .simp_all
 .simp_all
theorem b4P{α:Type}{M:Model}{Γ:PySem.Ctx}(t:Sem α):∀{Q d:α->Pos->Shared->Prop}{E E':Value->Pos->Shared->Prop}{p:Pos}{s:Shared},Sem.wp M Γ t Q E p s->Sem.wp M Γ t d E' p s->Sem.wp M Γ t (λa p s=>Q a p s/\d a p s) (λa p s=>E a p s/\E' a p s) p s:=by
 induction t with
 |pure a=>intro Q d E E' p s h h';exact⟨h,h'⟩
 |raise e=>intro Q d E E' p s h h';exact⟨h,h'⟩
 |load a part k b=>intro Q d E E' p s h h';obtain⟨o,e1,q⟩:=h;obtain⟨o',e2,i⟩:=h';rw[e1]at e2;cases e2;exact⟨o,e1,b _ q i⟩
 |update a part f k b=>intro Q d E E' p s h h';exact⟨h.1,b _ h.2 h'.2⟩
 |choose src n k b=>intro Q d E E' p s h h';exact⟨h.1,b _ h.2 h'.2⟩
 |call c w g l k b=>intro Q d E E' p s h h';exact wpCode_mono (λr s' q=>b _ q.1 q.2) (a5C h h')
 |genState g k b=>intro Q d E E' p s h h';obtain⟨o,e1,q⟩:=h;obtain⟨o',e2,i⟩:=h';rw[e1]at e2;cases e2;exact⟨o,e1,b _ q i⟩
 |resume g r l k b=>intro Q d E E' p s h h';obtain⟨a,s1,j,q⟩:=h;obtain⟨v,m,u,i⟩:=h';obtain⟨x,y⟩:=a7p j u;subst x y;exact⟨a,s1,j,b _ q i⟩
 |_=>intro Q d E E' p s h h';first|exact(h:False).elim | (rename_i b;exact b _ h h')
theorem X7{α:Type}{M:Model}{A:Around}{t:Sem α}{Q b:α->Shared->Prop}{E E':Value->Shared->Prop}{s:Shared}(h:wpAny M A t Q E s)(h':wpAny M A t b E' s):wpAny M A t (λa s=>Q a s/\b a s) (λa s=>E a s/\E' a s) s :=
 λΓ p c=>b4P t (h Γ p c) (h' Γ p c)
section
variable {X:Cx}
end
section
variable {X:Cx}
def b7X:RL:=λxs H Q=>∃i:Int,xs=[.int i]/\Q (.int (if i<0 then -i else i)) H
theorem a8z:K1 X (.builtin "abs") b7X:=by
 intro pins s σ H xs c Q I b h;obtain⟨i,rfl,q⟩:=h;obtain⟨u,rfl,a⟩:=b.one;obtain⟨t,rfl⟩:=a;exact call_abs_int λu tk=>⟨.int _,H,I.tok tk,⟨u,rfl⟩,q⟩
theorem b6t{e:Expr}{es:List Expr}{t:TA}{p pos:Pos}(c:Gl X "abs")(d:X.mg "abs"=none)(a:JA X (e::es) t)(b:starEach (e::es) X.env=(false,eval e X.env)::starEach es X.env:=by rfl)(hpl:(backTo pos (starEach es X.env)).any (·.1)=false:=by rfl):JE X (.Call (.Name "abs" p) (e::es) [] pos) (tCB b7X t):=⟨N4 a8z c d b6T a.h (by decide) (by decide) b hpl⟩
def b3Z(K:PySem.W.Frag):RL:=λxs H Q=>∃(k:Bool) (p:Addr) (ns:List Int),xs=[.ref p]/\SqK k K H p (ns.map V.int)/\0<ns.length/\∀M,M∈ns->(∀a∈ns,a<=M)->Q (.int M) H
theorem a8r(K:PySem.W.Frag)(B:X.calm=true)(z:X.K=K:=by rfl):K1 X (.builtin "max") (b3Z K):=by
 subst z;intro pins s σ H xs N Q I J h;obtain⟨k,p,ns,rfl,hs,hn,q⟩:=h;obtain⟨u,rfl,G⟩:=J.one;cases G;obtain⟨c,x,m,M⟩:=I.sqk hs;have w:=x.length;rw[List.length_map]at w;have C:X.A.in1.handled=none:=I.ok.hd B;have d:∀i v,c.toArray[i]?=some v->∃t,v=Value.int (ns.getD i 0) t:=λi v r=>by
  have g:c[i]?=some v:=by simpa using r
  obtain⟨hi,_⟩:=List.getElem?_eq_some_iff.mp g;have F:(ns.map V.int)[i]?=some (.int ns[i]):=by rw[List.getElem?_map,List.getElem?_eq_getElem (by omega)];rfl
  obtain⟨O,e1,t,e2⟩:=x.get F;rw[g]at e1;cases e1;exact⟨t,by rw[e2,List.getD_eq_getElem?_getD,List.getElem?_eq_getElem (by omega)];rfl⟩
 refine call_max_walk (T4 m ?_);refine⟨s.heap.objs.size,_,_,_,_,_,_,rfl,a4D (k:=k) (l:=p) (items:=c.toArray) C (a5f m),b0K m,λb f=>?_,?_,CmpOf.ints_gt (λi=>ns.getD i 0) d,λv h' tk r D=>?_⟩
 .rw[Heap.size_push];obtain⟨o,e⟩:=m.get;have n:=Heap.lt_size e;simp only[List.mem_cons,List.not_mem_nil,or_false]at f;rcases f with rfl|rfl
  .exact Nat.lt_succ_self _
  .exact Nat.lt_succ_of_lt n
 .rw[List.size_toArray];omega
 .obtain⟨t,rfl⟩:=d _ _ r;obtain⟨L,y⟩:=argBest_gt (λi=>ns.getD i 0) (c.toArray.size-1);have E:c.toArray.size=ns.length:=by rw[List.size_toArray];exact w.symm
  have f:argBest (λi j=>decide (ns.getD i 0 > ns.getD j 0)) (c.toArray.size-1)<ns.length:=by omega
  refine⟨.int _,H,I.kept (t':=tk) (a5g D),⟨t,rfl⟩,q _ ?_ λa A=>?_⟩
  .rw[List.getD_eq_getElem?_getD,List.getElem?_eq_getElem f];exact List.getElem_mem f
  .obtain⟨i,hi,rfl⟩:=List.mem_iff_getElem.mp A;have:=y i (by omega);have e:ns.getD i 0=ns[i]:=by rw[List.getD_eq_getElem?_getD,List.getElem?_eq_getElem hi];rfl
   rw[<-e];exact this
theorem b3d(K:PySem.W.Frag){e:Expr}{t:TA}{p pos:Pos}(f:Gl X "max")(g:X.mg "max"=none)(b:JA X [e] t)(c:X.calm=true:=by rfl)(a:X.K=K:=by rfl)(d:starEach [e] X.env=(false,eval e X.env)::starEach [] X.env:=by rfl)(hpl:(backTo pos (starEach [] X.env)).any (·.1)=false:=by rfl):JE X (.Call (.Name "max" p) [e] [] pos) (tCB (b3Z K) t):=⟨N4 (a8r K c a) f g b6R b.h (by decide) (by decide) d hpl⟩
end
section
variable {prog:Program}{w:World}{A:Around}{E:Value->Shared->Prop}{s:Shared}{k:Bool}
theorem b4O{α:Type}{M:Model}{A:Around}{c:Bool}{t u:Sem α}{Q:α->Shared->Prop}{E:Value->Shared->Prop}{s:Shared}(h1:wpAny M A t Q E s)(h2:wpAny M A u Q E s):wpAny M A (if c=true then t else u) Q E s:=by
 cases c
 .exact h2
 .exact h1
end
section
variable {X:Cx}
end
theorem a4B:bootBuiltins "enumerate"=some (.type "enumerate"):=by kernel_rfl
section
variable {X:Cx}
end
section
variable {M:Model}{A:Around}{E:Value->Shared->Prop}
end
section
variable {X:Cx}{k:Nat}{ps:List Str}{sp:Sp}{x:Str}{p pos cpos:Pos}{e:Expr}{es:List Expr}{t:TA}
end
section
variable (P:Program) (w:World)
end
section
variable {P:Program}{w:World}{H H':Hp}{h h':Heap}{a:Addr}{o:HO}
end
section
variable {P:Program}{w:World}{H:Hp}{h h':Heap}{x e:Addr}{o':HO}
end
section
variable {fs fs' ex ex':List Addr}{H H1 H2:Hp}{h h1 h2 h':Heap}{a x e:Addr}{o:HO}
end
section
variable {X:Cx}{pins:List (Addr×Obj)}{σ:List (Option V)}{H H':Hp}{s:Shared}{h':Heap}
end
section
variable {X:Cx}
variable {a b:Expr}{ta tb:TE}{pos:Pos}
variable {tA tB':TT}{rest:List Expr}
end
section
variable {X:Cx}{pins:List (Addr×Obj)}{σ:St}{H:Hp}{s:Shared}{a:Addr}{xs ys:List V}
end
section
variable {X:Cx}{pins:List (Addr×Obj)}{σ:St}{H:Hp}{s:Shared}{E:Value->Shared->Prop}
end
section
variable {X:Cx}{st:Stmt}{rest:List Stmt}{t u:TS}{e:Expr}{te:TE}{pos:Pos}
end
section
variable {X:Cx}{pos:Pos}
end
section
variable {X:Cx}{tg:Expr}
end
section
variable {X:Cx}{a b c:Expr}{ta tb tc:TE}{pos:Pos}
end
section
variable {prog:Program}{w:World}{A:Around}{E:Value->Shared->Prop}{s:Shared}{K:PySem.W.Frag}{x dx C f:Addr}{mA:Str->Option Value}{name:Str}{v:Value}
end
section
variable {P:Program}{w:World}{H H':Hp}{h h':Heap}{a C dx:Addr}{fs fs':List (Str×V)}
end
section
variable {X:Cx}{pins:List (Addr×Obj)}{σ:St}{H:Hp}{s:Shared}{a C dx:Addr}{fs:List (Str×V)}{f:Str}{v:V}{A:Around}{E:Value->Shared->Prop}
end
section
variable {X:Cx}{o e value:Expr}{f:Str}{pos pos' tpos:Pos}{ta tv:TE}
end
section
variable {X:Cx}{pins:List (Addr×Obj)}{σ:St}{H:Hp}{s:Shared}{A:Around}{E:Value->Shared->Prop}{Q:Value->Shared->Prop}{c:Value}{b:Bool}
end
section
variable {X:Cx}{e:Expr}{es:List Expr}{te:TE}{t:TA}{pos:Pos}
end
section
variable {X:Cx}{pins:List (Addr×Obj)}{σ:St}{H:Hp}{s s':Shared}
end
section
variable {X:Cx}{CX:CXT}{k:Nat}{f C:Addr}{fd:FuncData}{ps:List Str}{sp:Sp}{dvs:List V}{ds:List Value}{E:XK}{x m:Str}{p pos apos:Pos}{e o:Expr}{es:List Expr}{ta:TE}{t:TA}
end
section
variable {X:Cx}{CX:CXT}{k:Nat}{f C:Addr}{fd:FuncData}{ps ks:List Str}{sp:Sp}{E:XK}{x m:Str}{p pos apos kpos:Pos}{e o:Expr}{es:List Expr}{kws:List Keyword}{te ta:TE}{t tk:TA}{nm:Option Str}
variable {g:List Value->List Value->List Value}{gV:List V->List V->List V}
end
section
variable {X:Cx}{x:Str}{p pos:Pos}{e:Expr}{es:List Expr}{t:TA}{id T:String}{r:List V->Hp->VK->Prop}
end
section
variable {κ:Type} [DecidableEq κ]
noncomputable def Z4(kvs:List (κ×V))(k:κ):Option V:=(kvs.find? λkv=>decide (kv.1=k)).map (·.2)
noncomputable def W2(kvs:List (κ×V))(k:κ)(v:V):List (κ×V) :=
 if (kvs.any λkv=>decide (kv.1=k))=true then kvs.map (λkv=>if kv.1=k then(kv.1,v)else kv)else kvs++[(k,v)]
theorem a0M{p:κ×V}{r:List (κ×V)}{k:κ}(e:p.1=k):Z4 (p::r) k=some p.2:=by simp[Z4,List.find?_cons,e]
theorem a0N{p:κ×V}{r:List (κ×V)}{k:κ}(e:¬p.1=k):Z4 (p::r) k=Z4 r k:=by simp[Z4,List.find?_cons,e]
theorem a1U(k:κ):∀kvs:List (κ×V),(kvs.any λa=>decide (a.1=k))=(Z4 kvs k).isSome
 |[]=>rfl
 |p::r=>by
  rw[List.any_cons];by_cases e:p.1=k
  .simp only[a0M e,decide_eq_true e,Bool.true_or,Option.isSome_some]
  .rw[a0N e,decide_eq_false e,Bool.false_or];exact a1U k r
theorem a0a(kvs:List (κ×V))(k:κ)(v:V):(W2 kvs k v).length<=kvs.length+1:=by
 unfold W2;split
 .rw[List.length_map];omega
 .rw[List.length_append,List.length_cons,List.length_nil];omega
theorem a9B{kvs:List (κ×V)}{k:κ}(v:V)(h:Z4 kvs k=none):W2 kvs k v=kvs++[(k,v)]:=by
 unfold W2;rw[a1U,h];exact if_neg (by decide)
theorem RelO.isSome_eq{o:Option V}{u:Option Value}(r:RelO o u):o.isSome=u.isSome:=by
 cases o with
 |none=>cases u with
  |none=>rfl
  |some _=>exact(show False from r).elim
 |some _=>cases u with
  |none=>exact(show False from r).elim
  |some _=>rfl
theorem RelO.getD{o:Option V}{u:Option Value}{d:V}{d':Value}(r:RelO o u)(rd:RelV d d'):RelV (o.getD d) (u.getD d'):=by
 cases o with
 |none=>cases u with
  |none=>exact rd
  |some _=>exact(show False from r).elim
 |some _=>cases u with
  |none=>exact(show False from r).elim
  |some _=>exact r
theorem KV.val{kvs:List (κ×V)}{vs:List (κ×Value)}(r:KV kvs vs)(k:κ):RelO (Z4 kvs k) (valueAt vs k):=by
 unfold KV at r;induction r with
 |nil=>exact True.intro
 |@cons p q ps qs h t a =>
  obtain⟨h1,h2⟩:=h;by_cases e:p.1=k
  .have e':q.1=k:=h1.symm.trans e;have b:valueAt (q::qs) k=some q.2:=by simp[valueAt,List.find?_cons,e']
   rw[a0M e,b];exact h2
  .have e':¬q.1=k:=λz=>e (h1.trans z);have b:valueAt (q::qs) k=valueAt qs k:=by simp[valueAt,List.find?_cons,e']
   rw[a0N e,b];exact a
theorem KV.any{kvs:List (κ×V)}{vs:List (κ×Value)}(r:KV kvs vs)(k:κ):(kvs.any λa=>decide (a.1=k))=vs.any λa=>decide (a.1=k):=by
 unfold KV at r;induction r with
 |nil=>rfl
 |cons h t b=>rw[List.any_cons,List.any_cons,b,h.1]
theorem KV.repl{kvs:List (κ×V)}{vs:List (κ×Value)}(r:KV kvs vs)(k:κ){y:V}{u:Value}(c:RelV y u) :
  KV (kvs.map λa=>if a.1=k then(a.1,y)else a) (vs.map λa=>if a.1=k then(a.1,u)else a):=by
 unfold KV at r⊢;induction r with
 |nil=>exact .nil
 |@cons p q ps qs h t b =>
  rw[List.map_cons,List.map_cons];refine .cons ?_ b;obtain⟨h1,h2⟩:=h;by_cases e:p.1=k
  .rw[if_pos e,if_pos (h1.symm.trans e)];exact⟨h1,c⟩
  .rw[if_neg e,if_neg (λz=>e (h1.trans z))];exact⟨h1,h2⟩
theorem KV.put{kvs:List (κ×V)}{vs:List (κ×Value)}(r:KV kvs vs)(k:κ){y:V}{u:Value}(a:RelV y u):KV (W2 kvs k y) (stored vs k u):=by
 unfold W2 stored;rw[r.any k];by_cases e:(vs.any λb=>decide (b.1=k))=true
 .rw[if_pos e,if_pos e];exact r.repl k a
 .rw[if_neg e,if_neg e];exact Paired.snoc r ⟨rfl,a⟩
theorem KV.length{kvs:List (κ×V)}{vs:List (κ×Value)}(r:KV kvs vs):kvs.length=vs.length:=Paired.length r
end
theorem a2v{P:Program}{w:World}{k:Key}{u:Value}(r:RelV (kV k) u):(G4 P w).is k u=true:=by
 cases k with
 |inl i=>obtain⟨t,e⟩:=(show ∃t,u=Value.int i t from r);subst e;exact a5d P w i t
 |inr x=>obtain⟨t,e⟩:=(show ∃t,u=Value.str x t from r);subst e;exact a5c P w x t
theorem a3r{P:Program}{w:World}:∀{ks:List Key}{us:List Value},Vals (ks.map kV) us->ItemsAre (G4 P w) ks us
 |[],_,r=>by rw[List.map_nil]at r;cases r;exact .nil
 |k::ks,_,r=>by
  rw[List.map_cons]at r;cases r with
  |cons h t=>exact .cons (a2v h) (a3r t)
abbrev KT(H:Hp):List (List Key×V)->List (List Key×Addr×Value)->Prop:=Paired λp q=>p.1=q.1/\H q.2.1=some (.tup (p.1.map kV))/\RelV p.2 q.2.2
theorem KT.val{H:Hp}{kvs:List (List Key×V)}{xs:List (List Key×Addr×Value)}(r:KT H kvs xs)(k:List Key):RelO (Z4 kvs k) ((atKey xs k).map (·.2)):=by
 induction r with
 |nil=>exact True.intro
 |@cons p q ps qs h t a =>
  obtain⟨h1,_,h2⟩:=h;by_cases e:p.1=k
  .have e':q.1=k:=h1.symm.trans e;have b:atKey (q::qs) k=some q.2:=by simp[atKey,List.find?_cons,e']
   rw[a0M e,b];exact h2
  .have e':¬q.1=k:=λz=>e (h1.trans z);have b:atKey (q::qs) k=atKey qs k:=by simp[atKey,List.find?_cons,e']
   rw[a0N e,b];exact a
theorem KT.repl{H:Hp}{kvs:List (List Key×V)}{xs:List (List Key×Addr×Value)}(r:KT H kvs xs)(k:List Key){y:V}{u:Value}(d:RelV y u) :
  KT H (kvs.map λa=>if a.1=k then(a.1,y)else a) (xs.map (putAt k u)):=by
 induction r with
 |nil=>exact .nil
 |@cons p q ps qs h t c =>
  rw[List.map_cons,List.map_cons];refine .cons ?_ c;obtain⟨h1,h2,b⟩:=h;unfold putAt;by_cases e:p.1=k
  .rw[if_pos e,if_pos (h1.symm.trans e)];exact⟨h1,h2,d⟩
  .rw[if_neg e,if_neg (λz=>e (h1.trans z))];exact⟨h1,h2,b⟩
theorem KT.put{H:Hp}{kvs:List (List Key×V)}{xs:List (List Key×Addr×Value)}(r:KT H kvs xs)(k:List Key){b:Addr}{y:V}{u:Value}(c:H b=some (.tup (k.map kV)))(a:RelV y u) :
  KT H (W2 kvs k y) (storedH xs k b u):=by
 have e:(kvs.any λd=>decide (d.1=k))=(atKey xs k).isSome:=by
  rw[a1U,(r.val k).isSome_eq,Option.isSome_map]
 unfold W2 storedH;rw[e];by_cases q:(atKey xs k).isSome=true
 .rw[if_pos q,if_pos q];exact r.repl k a
 .rw[if_neg q,if_neg q];exact Paired.snoc r ⟨rfl,c,a⟩
theorem KT.keeps{H H':Hp}{kvs:List (List Key×V)}{xs:List (List Key×Addr×Value)}(r:KT H kvs xs)(a:∀b ys,H b=some (.tup ys)->H' b=some (.tup ys)):KT H' kvs xs :=
 Paired.mapP r λ_ _ z=>⟨z.1,a _ _ z.2.1,z.2.2⟩
section
variable {P:Program}{w:World}{H:Hp}{h:Heap}{a:Addr}
theorem b3V{u:HO}(ok:HOk P w H h)(e:Rd H a u):ObjOk P w H h a u:=e.ok ok
theorem a2F{kvs:List (Key×V)}(ok:HOk P w H h)(e:Rd H a (.dK kvs)):kvs.length<=sizeLine/\(a==sysModules)=false/\∃vs,KV kvs vs/\h.DictOf (G4 P w) a vs :=
 show ObjOk P w H h a (.dK kvs)from b3V ok e
theorem b4B{kvs:List (Key×V)}(ok:HOk P w H h)(e:H a=some (.dK kvs)):kvs.length<=sizeLine/\(a==sysModules)=false/\∃vs,KV kvs vs/\h.DictOf (G4 P w) a vs:=a2F ok (.inl e)
theorem a1n{ks:List Key}(ok:HOk P w H h)(e:H a=some (.tup (ks.map kV))):(tupleKind (G4 P w)).is h ks a:=by
 obtain⟨_,b,r,o,h1,h2,n,c⟩:=(show ObjOk P w H h a (.tup (ks.map kV))from ok a _ e);exact⟨o,b.toArray,n,h1,congrArg Prod.fst h2,c,by simpa using a3r r⟩
theorem a2E{kvs:List (List Key×V)}(ok:HOk P w H h)(e:Rd H a (.dT kvs)):kvs.length<=sizeLine/\(a==sysModules)=false /\
  ∃xs,KT H kvs xs/\h.DictOfH (tupleKind (G4 P w)) a xs:=by
 obtain⟨z,y,xs,r,o,es,ep,h1,h2,d,f,g⟩:=(show ObjOk P w H h a (.dT kvs)from b3V ok e);refine⟨z,y,xs,r,o,es,ep,h1,h2,d,f,λx b=>?_,g⟩;have all:∀{l:List (List Key×V)}{m:List (List Key×Addr×Value)},KT H l m->∀x∈m,(tupleKind (G4 P w)).is h x.1 x.2.1:=by
  intro l m q;induction q with
  |nil=>intro x b;exact nomatch b
  |@cons p q ps qs c t i =>
   intro x b;rcases List.mem_cons.mp b with e|b
   .subst e;exact a1n ok (by rw[<-c.1];exact c.2.1)
   .exact i x b
 exact all r x b
theorem b8v{kvs:List (List Key×V)}(ok:HOk P w H h)(e:H a=some (.dT kvs)):kvs.length<=sizeLine/\(a==sysModules)=false /\
  ∃xs,KT H kvs xs/\h.DictOfH (tupleKind (G4 P w)) a xs:=a2E ok (.inl e)
end
def DGet(H:Hp)(a:Addr)(y:V)(r:Option V):Prop :=
 (∃kvs k,Rd H a (.dK kvs)/\y=kV k/\r=Z4 kvs k)∨∃kvs k b,Rd H a (.dT kvs)/\y=.ref b/\H b=some (.tup (k.map kV))/\r=Z4 kvs k
def DPut(H:Hp)(a:Addr)(y v:V)(H':Hp):Prop :=
 (∃kvs k,H a=some (.dK kvs)/\y=kV k/\kvs.length<sizeLine/\H'=upd H a (.dK (W2 kvs k v))) ∨
 ∃kvs k b,H a=some (.dT kvs)/\y=.ref b/\H b=some (.tup (k.map kV))/\kvs.length<sizeLine/\H'=upd H a (.dT (W2 kvs k v))
theorem DGet.k{H:Hp}{a:Addr}{kvs:List (Key×V)}{k:Key}(e:H a=some (.dK kvs)):DGet H a (kV k) (Z4 kvs k):=.inl ⟨kvs,k,.inl e,rfl,rfl⟩
theorem DPut.k{H:Hp}{a:Addr}{kvs:List (Key×V)}{k:Key}{v:V}(e:H a=some (.dK kvs))(b:kvs.length<sizeLine):DPut H a (kV k) v (upd H a (.dK (W2 kvs k v))):=.inl ⟨kvs,k,e,rfl,b,rfl⟩
section
variable {X:Cx}{pins:List (Addr×Obj)}{σ:St}{H:Hp}{s:Shared}{a:Addr}{y v:V}{u r:Value}{o:Option V}{A:Around}{E:Value->Shared->Prop}
theorem Inv.big(I:Inv X pins σ H s):sysModules<s.heap.objs.size:=by
 have h:mainGlobals<s.heap.objs.size:=(I.mod.glob.keeps I.bk).lt;exact Nat.lt_trans (by decide) h
theorem a8l{Q:Value->Shared->Prop}(r:A.units+1<cLine)(I:Inv X pins σ H s)(g:DGet H a y (some v))(m:RelV y u)(h:∀f s',Inv X pins σ H s'->RelV v f->Q f s') :
  wpAny (model X.prog X.w) A (getItem (.ref a) u) Q E s:=by
 rcases g with⟨kvs,k,e,i,l⟩|⟨kvs,k,b,e,i,n,l⟩
 .subst i;obtain⟨z,hd,vs,c,dd⟩:=a2F I.hok e;obtain⟨f,hw,d⟩:=RelO.some_of (v:=v) (o:=valueAt vs k) (by rw[l];exact c.val k);exact wpAny_getItem_of (a2v m) dd.mapOf hw (h f _ (I.tok _) d)
 .subst i;cases(show u=Value.ref b from m);obtain⟨z,hd,xs,c,dd⟩:=a2E I.hok e;obtain⟨f,hw,d⟩:=RelO.some_of (v:=v) (o:=(atKey xs k).map (·.2)) (by rw[l];exact c.val k);obtain⟨p,q,j⟩:=Option.map_eq_some_iff.mp hw;refine wpAny_getItem_heap (tupleKind_room_in1 r) (a1n I.hok n) dd q ?_;rw[j];exact h f _ (I.tok _) d
theorem b8R{Q:Value->Shared->Prop}(j:A.units+1<cLine)(I:Inv X pins σ H s)(g:DGet H a y o)(f:RelV y u)(h:∀s',Inv X pins σ H s'->Q (.bool o.isSome) s') :
  wpAny (model X.prog X.w) A (compareOp .In u (.ref a)) Q E s:=by
 rcases g with⟨kvs,k,e,d,l⟩|⟨kvs,k,b,e,d,i,l⟩
 .subst d;obtain⟨z,hd,vs,c,dd⟩:=a2F I.hok e;refine wpAny_in_of (a2v f) hd dd.mapOf ?_;rw[<-(c.val k).isSome_eq,<-l];exact h _ (I.tok _)
 .subst d;cases(show u=Value.ref b from f);obtain⟨z,hd,xs,c,dd⟩:=a2E I.hok e;refine wpAny_in_heap (tupleKind_room_in1 j) (a1n I.hok i) hd dd ?_;have q:=(c.val k).isSome_eq;rw[Option.isSome_map]at q;rw[<-q,<-l];exact h _ (I.tok _)
theorem a4s{h':Heap}{t':Nat}{c:HO}(I:Inv X pins σ H s)(g:Mut (H a))(hs:Heap.SameBut a s.heap h')(f:∃q,h'.get? a=some q)(new:ObjOk X.prog X.w (upd H a c) h' a c) :
  Inv X pins σ (upd H a c) {s with heap:=h',toks:=t'} :=
 I.write (x:=a) (e:=a) g (.inl rfl) (λb q d z=>(hs.2 b d).trans z) f new
theorem b0Y{P:Program}{w:World}{H':Hp}{h':Heap}{kvs:List (Key×V)}{vs:List (Key×Value)}(z:kvs.length<=sizeLine)(hd:(a==sysModules)=false)(b:KV kvs vs)(dd:h'.DictOf (G4 P w) a vs) :
  ObjOk P w H' h' a (.dK kvs):=⟨z,hd,vs,b,dd⟩
theorem a8k{H':Hp}{Q:Unit->Shared->Prop}(G:A.units+1<cLine)(I:Inv X pins σ H s)(g:DPut H a y v H')(x:RelV y u)(w:RelV v r)(h:∀s',Inv X pins σ H' s'->Q () s') :
  wpAny (model X.prog X.w) A (setItem (.ref a) u r) Q E s:=by
 rcases g with⟨kvs,k,e,m,l,j⟩|⟨kvs,k,b,e,m,p,l,j⟩
 .subst m j;obtain⟨z,hd,vs,d,dd⟩:=b4B I.hok e;have o:vs.length<=sizeLine:=by rw[<-d.length];exact z
  have n:(W2 kvs k v).length<=sizeLine:=by have:=a0a kvs k v;omega
  refine wpAny_setItem_pairs (hsz:=o) (a2v x) dd λh' f hs=>h _ ?_;have F:∃q,h'.get? a=some q:=let ⟨q,_,_,i,_⟩:=f;⟨q,i⟩
  exact a4s I (by rw[e];exact True.intro) hs F (b0Y n hd (d.put k w) f)
 .subst m j;cases(show u=Value.ref b from x);obtain⟨z,hd,xs,d,dd⟩:=b8v I.hok e;have o:xs.length<=sizeLine:=by rw[<-Paired.length d];exact z
  have n:(W2 kvs k v).length<=sizeLine:=by have:=a0a kvs k v;omega
  refine wpAny_setItem_heap (hsz:=o) (tupleKind_room_in1 G) (a1n I.hok p) dd λh' f hs=>h _ ?_;obtain⟨q,es,ep,i,h2,B,C,_,D⟩:=f;refine a4s I (by rw[e];exact True.intro) hs ⟨q,i⟩ ⟨n,hd,_,(d.put k p w).keeps λc ys t=>?_,q,es,ep,i,h2,B,C,D⟩;rw[A5 (T7 t e (λz=>nomatch z))];exact t
end
section
variable {X:Cx}{pins:List (Addr×Obj)}{σ:St}{H:Hp}{s:Shared}{a:Addr}{kvs:List (Key×V)}{k:Key}{u:Value}{A:Around}{E:Value->Shared->Prop}
end
def b6Z(i:Expr):Prop:=∀ov iv,subscripted i false ov iv=operate [ov,iv] (getItem ov iv)
theorem b1F{prog:Program}{w:World}{A:Around}{E:Value->Shared->Prop}{s:Shared}{env:Env}{value a:Expr}{pos:Pos}{T id:String}{Q:Value->Shared->Prop}
  (c:typeLookup (.type T) "__getitem__"=pure (some (.builtin id))) (hs:b6Z a)
  (h:wpAny (model prog w) A (eval value env) (λo s₁=>wpAny (model prog w) A (eval a env) (λi s₂=>s₂.TypeIs o T/\wpAny (model prog w) A (getItem o i) Q E s₂) E s₁) E s) :
  wpAny (model prog w) A (eval (.Subscript value a pos) env) Q E s:=by
 refine Subscript_ (wpAny_mono h (λo s₁ h₁=>wpAny_mono h₁ (λi s₂ h₂=>?_) λ_ _ x=>x) λ_ _ x=>x);obtain⟨b,h₂⟩:=h₂;unfold subscriptTail;refine wpAny_bind ?_;rw[getitemInPython_of_ne b.not_modules];refine wpAny_bind (wpAny_specialOf b c ?_);have fin:wpAny (model prog w) A (subscripted a false o i) (λr s₃=>wpAny (model prog w) A (letTemporaryGo value o r>>=λ_=>pure r) Q E s₃) E s₂:=by
  rw[hs o i];exact wpAny_operating (wpAny_mono h₂ (λr s₃ h₃=>wpAny_bind (wpAny_letTemporaryGo (wpAny_pure h₃))) λ_ _ x=>x)
 first
  |exact wpAny_pure (wpAny_bind fin)
  |exact wpAny_bind (wpAny_pure (wpAny_bind fin))
  |exact wpAny_bind fin
theorem a5s{X:Cx}{pins:List (Addr×Obj)}{σ:St}{H:Hp}{s:Shared}{a:Addr}{y:V}{o:Option V}(I:Inv X pins σ H s)(g:DGet H a y o):s.TypeIs (.ref a) "dict":=by
 rcases g with⟨kvs,k,e,_,_⟩|⟨kvs,k,b,e,_,_,_⟩
 .obtain⟨_,_,vs,_,dd⟩:=a2F I.hok e;exact dd.typeIs
 .obtain⟨_,_,xs,_,dd⟩:=a2E I.hok e;exact dd.typeIs
def b3H(td ty:TE):TE:=λσ H Q=>td σ H λx H1=>ty σ H1 λy H2=>∃a v,x=.ref a/\DGet H2 a y (some v)/\Q v H2
def b4V(ty td:TE):TE:=λσ H Q=>ty σ H λy H1=>td σ H1 λx H2=>∃a o,x=.ref a/\DGet H2 a y o/\Q (.bl o.isSome) H2
def b3U(td ty tv:TE):TS:=λD σ H=>tv σ H λv H1=>td σ H1 λx H2=>ty σ H2 λy H3=>∃a H4,x=.ref a/\DPut H3 a y v H4/\D.nx σ H4
section
variable {X:Cx}{o i e value:Expr}{pos pos' tpos:Pos}{td ty tv:TE}
theorem b2s(j:X.A.units+1<cLine)(f:PE X o td)(hi:PE X i ty)(hs:b6Z i):PE X (.Subscript o i pos) (b3H td ty):=by
 intro pins s σ H Q I h;refine b1F PySem.F.slot_dict_getitem.lookup hs (thn (f pins s σ H _ I h) λu s1 ⟨x,H1,d,l,q1⟩=>thn (hi pins s1 σ H1 _ d q1) λn p ⟨y,H2,c,m,a,v,ex,g,k⟩=>?_);subst ex;obtain rfl:u=Value.ref a:=l;exact⟨a5s c g,a8l j c g m λr q e b=>⟨v,H2,e,b,k⟩⟩
theorem a9X(f:X.A.units+1<cLine)(hi:PE X i ty)(e:PE X o td):PC X .In i o (b4V ty td):=by
 intro pins s σ H Q I h;refine thn (hi pins s σ H _ I h) λn s1 ⟨y,H1,b,m,q1⟩=>thn (e pins s1 σ H1 _ b q1) λu p ⟨x,H2,c,l,a,j,ex,g,k⟩=>?_;subst ex;obtain rfl:u=Value.ref a:=l;exact b8R f c g m λq d=>⟨.bl j.isSome,H2,d,rfl,k⟩
theorem b1U(k:X.A.units+1<cLine)(j:PE X o td)(hi:PE X i ty)(l:PE X value tv)(hs:swapsWith value (some (.Subscript o i pos')) pos.line X.env=pure false) :
  PS X (.Assign [.Subscript o i pos'] value pos) (b3U td ty tv):=by
 intro pins s σ H D I h;refine wpAny_Assign_Subscript (thn (l pins s σ H _ I h) λr s1 ⟨v,H1,c,p,q1⟩=>thn (j pins s1 σ H1 _ c q1) λu w ⟨x,H2,d,q,m⟩=>thn (hi pins w σ H2 _ d m) λA B ⟨y,z,e,t,a,b,ex,g,n⟩=>?_) hs;subst ex;obtain rfl:u=Value.ref a:=q;exact a8k k e g t p λC f=>⟨σ,b,f,n⟩
end
theorem a5r{P:Program}{w:World}{H:Hp}(h:Heap)(a:sysModules<h.objs.size):ObjOk P w H (h.push {cls:=.type "dict",data:=.dict #[]}) h.objs.size (.dK []) :=
 ⟨Nat.zero_le _,beq_eq_false_iff_ne.mpr (Ne.symm (Nat.ne_of_lt a)),[],.nil,Heap.DictOf.new h⟩
def a8V:TE:=λ_ H Q=>∀p,H p=none->Q (.ref p) (upd H p (.dK []))
section
variable {X:Cx}{pos:Pos}
theorem a9S:PE X (.Dict [] [] pos) a8V:=λpins s σ H Q I h =>
 wpAny_Dict_empty ⟨.ref s.heap.objs.size,_,I.laid (a:=s.heap.objs.size) (o:=.dK []) (t':=s.toks) (λ_ _ q=>Heap.get?_push_of_some _ q) (Nat.le_refl _) (a5r s.heap I.big),rfl,h _ (I.hok.fresh (Nat.le_refl _))⟩
end
def a5J:List (TE×TE)->St->Hp->(List (V×V)->Hp->Prop)->Prop
 |[],_,H,Q=>Q [] H
 |(tk,tv)::r,σ,H,Q=>tk σ H λx H1=>tv σ H1 λy H2=>a5J r σ H2 λps H3=>Q ((x,y)::ps) H3
abbrev VV:List (V×V)->List (Value×Value)->Prop:=Paired λp q=>RelV p.1 q.1/\RelV p.2 q.2
def PPs(X:Cx)(pos:Pos)(keys:List (Option Expr))(values:List Expr)(trs:List (TE×TE)):Prop :=
 ∀(pins:List (Addr×Obj)) (s:Shared) (σ:St) (H:Hp) (Q:List (V×V)->Hp->Prop),Inv X pins σ H s->a5J trs σ H Q ->
  wpAny (model X.prog X.w) X.A (evalPairs (pairTrees keys values X.env pos)) (λvs s'=>∃ps H',Inv X pins σ H' s'/\VV ps vs/\Q ps H') X.xe s
theorem b1Z{X:Cx}{pos:Pos}:PPs X pos [] [] []:=λpins s σ H Q I h=>pairTrees_nil_walk ⟨[],H,I,.nil,h⟩
theorem a9I{X:Cx}{pos:Pos}{k v:Expr}{ks:List (Option Expr)}{vs:List Expr}{tk tv:TE}{trs:List (TE×TE)}(f:PE X k tk)(i:PE X v tv)(g:PPs X pos ks vs trs) :
  PPs X pos (some k::ks) (v::vs) ((tk,tv)::trs):=λpins s σ H Q I h =>
 pairTrees_cons_walk (thn (f pins s σ H _ I h) λu s1 ⟨x,H1,c,m,q1⟩=>thn (i pins s1 σ H1 _ c q1) λq o ⟨y,H2,d,n,j⟩ =>
  thn (g pins o σ H2 _ d j) λws p ⟨ps,b,e,a,l⟩=>⟨(x,y)::ps,b,e,.cons ⟨m,n⟩ a,l⟩)
noncomputable def a1l(kvs more:List (Key×V)):List (Key×V):=more.foldl (λacc kv=>W2 acc kv.1 kv.2) kvs
theorem KV.merge:∀{more:List (Key×V)}{a:List (Key×Value)}{kvs:List (Key×V)}{vs:List (Key×Value)},KV more a->KV kvs vs->KV (a1l kvs more) (merged vs a):=by
 intro more a kvs vs r;unfold KV at r;induction r generalizing kvs vs with
 |nil=>intro q;exact q
 |@cons p q ps qs h t b =>
  intro c;have e:KV (W2 kvs p.1 p.2) (stored vs q.1 q.2):=by
   have:=c.put p.1 h.2;rw[<-h.1];exact this
  exact b e
theorem a0x:∀(more kvs:List (Key×V)),(a1l kvs more).length<=kvs.length+more.length
 |[],kvs=>by show kvs.length<=kvs.length+0;omega
 |p::r,kvs=>by
  have h1:=a0x r (W2 kvs p.1 p.2);have h2:=a0a kvs p.1 p.2;show(a1l (W2 kvs p.1 p.2) r).length<=_;rw[List.length_cons];omega
theorem a2L{P:Program}{w:World}:∀{kvs:List (Key×V)}{ws:List (Value×Value)},VV (kvs.map λe=>(kV e.1,e.2)) ws->∃d,Carries (G4 P w) ws d/\KV kvs d
 |[],_,r=>by rw[List.map_nil]at r;cases r;exact⟨[],True.intro,.nil⟩
 |p::kvs,_,r=>by
  rw[List.map_cons]at r;cases r with
  |@cons a b as bs h t =>
   obtain⟨d,c,q⟩:=a2L (P:=P) (w:=w) t;obtain⟨g,f⟩:=b;exact⟨(p.1,f)::d,⟨a2v h.1,rfl,c⟩,.cons ⟨rfl,h.2⟩ q⟩
def b3G(trs:List (TE×TE)):TE:=λσ H Q=>∀p,H p=none->a5J trs σ (upd H p (.dK [])) λps H2=>H2 p=some (.dK [])/\∃kvs:List (Key×V),ps=kvs.map (λkv=>(kV kv.1,kv.2))/\kvs.length<=15/\Q (.ref p) (upd H2 p (.dK (a1l [] kvs)))
theorem b2r{X:Cx}{pos:Pos}{b:List (Option Expr)}{d:List Expr}{trs:List (TE×TE)}(h:PPs X pos b d trs)(g:b.all (·.isSome)=true)(n:b.length=d.length)(h0:b≠[])
  (i:b.length<=15):PE X (.Dict b d pos) (b3G trs):=by
 intro pins s σ H Q I q;have hn:=I.hok.fresh (Nat.le_refl s.heap.objs.size);have l:=I.laid (a:=s.heap.objs.size) (o:=.dK []) (h':=s.heap.push {cls:=.type "dict",data:=.dict #[]}) (t':=s.toks) (λ_ _ q=>Heap.get?_push_of_some _ q) (Nat.le_refl _) (a5r s.heap I.big);refine wpAny_Dict_walk (knd:=G4 X.prog X.w) g n h0 i (thn (h pins _ σ _ _ l (q _ hn)) λws y ⟨ps,H2,k,j,e,kvs,ep,lk,r⟩=>?_);subst ep;obtain⟨v,c,u⟩:=a2L (P:=X.prog) (w:=X.w) j;obtain⟨z,hd,x,t,dd⟩:=b4B k.hok e;cases t;refine⟨v,c,dd,λh' f hs=>⟨.ref s.heap.objs.size,_,?_,rfl,r⟩⟩;have p:(a1l [] kvs).length<=sizeLine:=by
  have h1:=a0x kvs [];rw[List.length_nil]at h1;rw[sizeLine_eq];omega
 have m:∃q,h'.get? s.heap.objs.size=some q:=let ⟨q,_,_,hq,_⟩:=f;⟨q,hq⟩
 exact a4s k (by rw[e];exact True.intro) hs m (b0Y p hd (u.merge .nil) f)
structure M1(X:Cx)(o:Expr)(m:Str)(apos:Pos)(e:Expr)(cpos:Pos):Prop where
 base:attributeBase o m X.env (eval o X.env)=eval o X.env
 few:((backTo cpos (starEach [e] X.env)).all (λx=>!x.1) && (backToKw cpos (keywordEach [] X.env)).all (λx=>x.1.isSome)
  && decide (([e]:List Expr).length+([]:List Keyword).length+(if ([]:List Keyword).isEmpty then 0 else 1)<30))=true
 line:(apos.endLine==cpos.line)=true
 trees:backTo cpos (starEach [e] X.env)=[(false,eval e X.env)]
structure M2(X:Cx)(o:Expr)(m:Str)(apos:Pos)(e f:Expr)(cpos:Pos):Prop where
 base:attributeBase o m X.env (eval o X.env)=eval o X.env
 few:((backTo cpos (starEach [e,f] X.env)).all (λx=>!x.1) && (backToKw cpos (keywordEach [] X.env)).all (λx=>x.1.isSome)
  && decide (([e,f]:List Expr).length+([]:List Keyword).length+(if ([]:List Keyword).isEmpty then 0 else 1)<30))=true
 line:(apos.endLine==cpos.line)=true
 trees:backTo cpos (starEach [e,f] X.env)=[(false,eval e X.env),(false,eval f X.env)]
def IsD(H:Hp)(a:Addr):Prop:=(∃kvs,Rd H a (.dK kvs))∨∃kvs,Rd H a (.dT kvs)
theorem b0L{X:Cx}{pins:List (Addr×Obj)}{σ:St}{H:Hp}{s:Shared}{a:Addr}(I:Inv X pins σ H s)(d:IsD H a) :
  s.TypeIs (.ref a) "dict"/\(∀b,Value.ref a=.ref b->∃c,s.heap.get? b=some c/\c.dict=none)/\(a==sysModules)=false:=by
 rcases d with⟨kvs,e⟩|⟨kvs,e⟩
 .obtain⟨_,hd,vs,_,dd⟩:=a2F I.hok e;refine⟨dd.typeIs,λb q=>?_,hd⟩;cases q;obtain⟨c,_,_,h1,h2,_⟩:=dd;exact⟨c,h1,h2.2.1⟩
 .obtain⟨_,hd,xs,_,dd⟩:=a2E I.hok e;refine⟨dd.typeIs,λb q=>?_,hd⟩;cases q;obtain⟨c,_,_,h1,h2,_⟩:=dd;exact⟨c,h1,h2.2.1⟩
section
variable {X:Cx}{pins:List (Addr×Obj)}{σ:St}{H:Hp}{s:Shared}{a:Addr}{y d:V}{u r:Value}{o:Option V}{A:Around}{E:Value->Shared->Prop}
theorem b6L{Q:Value->Shared->Prop}(m:A.units+1<cLine)(I:Inv X pins σ H s)(g:DGet H a y o)(f:RelV y u)(h:∀i s',Inv X pins σ H s'->RelV (o.getD .non) i->Q i s') :
  wpAny (model X.prog X.w) A (call (.builtin "dict.get") [.ref a,u]) Q E s:=by
 rcases g with⟨kvs,k,e,d,l⟩|⟨kvs,k,b,e,d,j,l⟩
 .subst d;obtain⟨z,hd,vs,c,dd⟩:=a2F I.hok e;refine call_meetsIn PySem.F.slot_dict_get dd.typeIs PySem.F.entry_dict_get (PySem.F.args_dict_get_2 _ _) (meets_dict_get (G4 X.prog X.w) a (a2v f) hd) ⟨_,dd.mapOf,h _ _ (I.tok _) ?_⟩;rw[l];exact(c.val k).getD rfl
 .subst d;cases(show u=Value.ref b from f);obtain⟨z,hd,xs,c,dd⟩:=a2E I.hok e;refine call_meetsIn PySem.F.slot_dict_get dd.typeIs PySem.F.entry_dict_get (PySem.F.args_dict_get_2 _ _) (meetsH_dict_get (tupleKind (G4 X.prog X.w)) a b hd) ⟨tupleKind_room_in1 m,k,xs,a1n I.hok j,dd,h _ _ (I.tok _) ?_⟩;rw[l];exact(c.val k).getD rfl
theorem b6K{Q:Value->Shared->Prop}(n:A.units+1<cLine)(I:Inv X pins σ H s)(g:DGet H a y o)(i:RelV y u)(rd:RelV d r)(h:∀j s',Inv X pins σ H s'->RelV (o.getD d) j->Q j s') :
  wpAny (model X.prog X.w) A (call (.builtin "dict.get") [.ref a,u,r]) Q E s:=by
 rcases g with⟨kvs,k,e,f,l⟩|⟨kvs,k,b,e,f,m,l⟩
 .subst f;obtain⟨z,hd,vs,c,dd⟩:=a2F I.hok e;refine call_meetsIn PySem.F.slot_dict_get dd.typeIs PySem.F.entry_dict_get (PySem.F.args_dict_get_3 _ _ _) (meets_dict_get_default (G4 X.prog X.w) a (a2v i) hd r) ⟨_,dd.mapOf,h _ _ (I.tok _) ?_⟩;rw[l];exact(c.val k).getD rd
 .subst f;cases(show u=Value.ref b from i);obtain⟨z,hd,xs,c,dd⟩:=a2E I.hok e;refine call_meetsIn PySem.F.slot_dict_get dd.typeIs PySem.F.entry_dict_get (PySem.F.args_dict_get_3 _ _ _) (meetsH_dict_get_default (tupleKind (G4 X.prog X.w)) a b hd r) ⟨tupleKind_room_in1 n,k,xs,a1n I.hok m,dd,h _ _ (I.tok _) ?_⟩;rw[l];exact(c.val k).getD rd
end
def a8X(td ty:TE):TE:=λσ H Q=>td σ H λx H1=>∃a,x=.ref a/\IsD H1 a/\ty σ H1 λy H2=>∃o,DGet H2 a y o/\Q (o.getD .non) H2
def a8W(td ty tx:TE):TE:=λσ H Q=>td σ H λx H1=>∃a,x=.ref a/\IsD H1 a/\ty σ H1 λy H2=>tx σ H2 λz H3=>∃o,DGet H3 a y o/\Q (o.getD z) H3
section
variable {X:Cx}{o e f:Expr}{apos cpos:Pos}{td ty tx:TE}
theorem a9U(l:X.A.units+1<cLine)(k:PE X o td)(j:PE X e ty)(m:M1 X o "get" apos e cpos):PE X (.Call (.Attribute o "get" apos) [e] [] cpos) (a8X td ty):=by
 intro pins s σ H Q I h;refine wpAny_Call_method m.base m.few m.line PySem.F.plainAttrs_dict PySem.F.slot_dict_get PySem.F.type_dict_get (thn (k pins s σ H _ I h) λu s1 ⟨x,H1,c,p,a,ex,d,q1⟩=>?_);subst ex;obtain rfl:u=Value.ref a:=p;obtain⟨r,t,_⟩:=b0L c d;refine⟨r,t,?_⟩;rw[m.trees];refine Calls.callWith_builtin rfl (Calls.evalArgs_plain (Calls.spliced_cons (thn (j pins s1 σ H1 _ c q1) λv z ⟨y,H2,f,q,w,g,n⟩=>Calls.spliced_nil ?_)));exact b6L l f g q λB A i b=>⟨_,H2,i,b,n⟩
theorem a9T(r:X.A.units+1<cLine)(q:PE X o td)(n:PE X e ty)(p:PE X f tx)(m:M2 X o "get" apos e f cpos):PE X (.Call (.Attribute o "get" apos) [e,f] [] cpos) (a8W td ty tx):=by
 intro pins s σ H Q I h;refine wpAny_Call_method m.base m.few m.line PySem.F.plainAttrs_dict PySem.F.slot_dict_get PySem.F.type_dict_get (thn (q pins s σ H _ I h) λu s1 ⟨x,H1,c,w,a,ex,d,q1⟩=>?_);subst ex;obtain rfl:u=Value.ref a:=w;obtain⟨D,E,_⟩:=b0L c d;refine⟨D,E,?_⟩;rw[m.trees];refine Calls.callWith_builtin rfl (Calls.evalArgs_plain (Calls.spliced_cons (thn (n pins s1 σ H1 _ c q1) λG C ⟨y,H2,j,A,t⟩ =>
  Calls.spliced_cons (thn (p pins C σ H2 _ j t) λF K ⟨z,i,k,B,J,g,v⟩=>Calls.spliced_nil ?_))))
 exact b6K r k g A B λM L l b=>⟨_,i,l,b,v⟩
end
section
variable {X:Cx}{pins:List (Addr×Obj)}{σ:St}{H:Hp}{s:Shared}{a:Addr}{kvs:List (Key×V)}{A:Around}{E:Value->Shared->Prop}
end
section
variable {X:Cx}{pins:List (Addr×Obj)}{σ:St}{H:Hp}{s:Shared}{a:Addr}{y:V}{u:Value}{A:Around}{E:Value->Shared->Prop}
end
end L2
namespace Att
open PySem PySem.W PySem.Calls PyProof.Rows
section
variable {prog:Program}{w:World}{A:Around}{E:Value->Shared->Prop}{s:Shared}{K:Frag}
end
end Att
namespace L2
open PySem PySem.Spec PyProof.Rows
end L2
namespace L2
open PySem PySem.Spec PyProof.Rows
section
variable {P:Program}{w:World}{K:PySem.W.Frag}{mg:Str->Option Value}{base:Heap}
end
section
variable {X:Cx}
end
section
variable {κ:Type} [DecidableEq κ]
end
end L2
namespace L2
open PySem PySem.Spec PyProof.Rows PySem.W
section
variable {O:KeyOrd}{key:Nat->O.α}{N:Nat}{p:Array Nat}
noncomputable def kk(key:Nat->O.α)(p:Array Nat)(i:Nat):O.α:=key (p[i]?.getD 0)
end
section
variable {prog:Program}{w:World}{A:Around}{E:Value->Shared->Prop}{s:Shared}
end
section
variable {prog:Program}{w:World}{A:Around}{E:Value->Shared->Prop}{s:Shared}
end
section
variable {X:Cx}
end
section
variable {prog:Program}{w:World}{A:Around}{E:Value->Shared->Prop}{s:Shared}
variable {κ:SortKind}{D:Keyed->Prop}{lt:Keyed->Keyed->Bool}
end
section
variable {O:KeyOrd}{kf:Keyed->O.α}{la lb o:List Keyed}{ia ib:Nat}
def leK(kf:Keyed->O.α)(x y:Keyed):Prop:=O.kle (kf x) (kf y)
structure MS(kf:Keyed->O.α)(la lb o:List Keyed)(ia ib:Nat):Prop where
 perm:o.Perm (la.take ia++lb.take ib)
 sorted:o.Pairwise (leK kf)
 ra:∀x∈o,∀y∈la.drop ia,leK kf x y
 rb:∀x∈o,∀y∈lb.drop ib,leK kf x y
def b7a(kf:Keyed->O.α)(la lb o:List Keyed):Prop:=o.Perm (la++lb)/\o.Pairwise (leK kf)
end
abbrev T1:Type:=Option (Array Keyed)×Array Keyed×Nat×Nat×Nat×Nat
abbrev T2:Type:=Option (Array Keyed)×Array Keyed×Nat×Nat×Nat×Nat×Nat
section
variable {prog:Program}{w:World}{A:Around}{E:Value->Shared->Prop}{s:Shared}{κ:SortKind}{D:Keyed->Prop}{O:KeyOrd}{kf:Keyed->O.α}{a b out:Array Keyed}{ia ib:Nat}{st:SortSt}
def b3B(st st':SortSt):Prop:=kindOf st'=kindOf st/\arrOf st'=arrOf st/\pendingOf st'=pendingOf st/\failedOf st'=failedOf st
def MI(kf:Keyed->O.α)(a b out:Array Keyed)(ia ib:Nat):Prop:=MS kf a.toList b.toList out.toList ia ib/\ia+1<a.size/\ib<b.size
def a1T(kf:Keyed->O.α)(a b r:Array Keyed):Prop:=b7a kf a.toList b.toList r.toList
def P2(kf:Keyed->O.α)(st:SortSt)(a b:Array Keyed)(c0:Nat)(c:T2)(st':SortSt):Prop:=b3B st st'/\((∃r,c.1=some r/\a1T kf a b r)∨(c.1=none/\MI kf a b c.2.1 c.2.2.1 c.2.2.2.1/\c0<=c.2.2.1+c.2.2.2.1))
variable {c0 mg k k1 bc ac:Nat}{st':SortSt}
def P1(kf:Keyed->O.α)(st:SortSt)(a b:Array Keyed)(c0:Nat)(c:T1)(st':SortSt):Prop:=b3B st st'/\((∃r,c.1=some r/\a1T kf a b r)∨(c.1=none/\MI kf a b c.2.1 c.2.2.1 c.2.2.2.1/\c0<=c.2.2.1+c.2.2.2.1))
end
section
variable {O:KeyOrd}{kf:Keyed->O.α}{la lb o:List Keyed}{na nb:Nat}
structure MH(kf:Keyed->O.α)(la lb o:List Keyed)(na nb:Nat):Prop where
 perm:o.Perm (la.drop na++lb.drop nb)
 sorted:o.Pairwise (leK kf)
 ra:∀x∈la.take na,∀y∈o,leK kf x y
 rb:∀x∈lb.take nb,∀y∈o,leK kf x y
end
abbrev U1:Type:=Option (Array Keyed)×Nat×Nat×Array Keyed×Nat×Nat
abbrev U2:Type:=Option (Array Keyed)×Nat×Nat×Array Keyed×Nat×Nat×Nat
section
variable {prog:Program}{w:World}{A:Around}{E:Value->Shared->Prop}{s:Shared}{κ:SortKind}{D:Keyed->Prop}{O:KeyOrd}{kf:Keyed->O.α}{a b out:Array Keyed}{na nb:Nat}{st:SortSt}
def MJ(kf:Keyed->O.α)(a b out:Array Keyed)(na nb:Nat):Prop:=MH kf a.toList b.toList out.toList.reverse na nb/\1<=na/\2<=nb/\na<=a.size/\nb<=b.size
def P4(kf:Keyed->O.α)(st:SortSt)(a b:Array Keyed)(c0:Nat)(c:U2)(st':SortSt):Prop:=b3B st st'/\((∃r,c.1=some r/\a1T kf a b r)∨(c.1=none/\MJ kf a b c.2.2.2.1 c.2.1 c.2.2.1/\c.2.1+c.2.2.1+c0<=a.size+b.size))
variable {c0 mg k k1 bc ac:Nat}{st':SortSt}
def P3(kf:Keyed->O.α)(st:SortSt)(a b:Array Keyed)(c0:Nat)(c:U1)(st':SortSt):Prop:=b3B st st'/\((∃r,c.1=some r/\a1T kf a b r)∨(c.1=none/\MJ kf a b c.2.2.2.1 c.2.1 c.2.2.1/\c.2.1+c.2.2.1+c0<=a.size+b.size))
end
section
variable {prog:Program}{w:World}{A:Around}{E:Value->Shared->Prop}{s:Shared}{κ:SortKind}{D:Keyed->Prop}{O:KeyOrd}{kf:Keyed->O.α}{st:SortSt}
variable {arr:Array Keyed}{P LA LB R:List Keyed}
end
section
variable {prog:Program}{w:World}{A:Around}{E:Value->Shared->Prop}{s:Shared}{κ:SortKind}{D:Keyed->Prop}{O:KeyOrd}{kf:Keyed->O.α}{st:SortSt}
section
variable {arr:Array Keyed}{lo k l i:Nat}(hs:lo+k<arr.size) (hd:l<=k)
include hs hd
end
end
section
variable {prog:Program}{w:World}{A:Around}{E:Value->Shared->Prop}{s:Shared}{κ:SortKind}{D:Keyed->Prop}{O:KeyOrd}{kf:Keyed->O.α}{st:SortSt}
end
section
variable {prog:Program}{w:World}{A:Around}{E:Value->Shared->Prop}{s:Shared}{κ:SortKind}{D:Keyed->Prop}{O:KeyOrd}{kf:Keyed->O.α}{st:SortSt}{a0:Array Keyed}
end
section
variable {prog:Program}{w:World}{A:Around}{E:Value->Shared->Prop}{s:Shared}{κ:SortKind}{D:Keyed->Prop}{O:KeyOrd}{kf:Keyed->O.α}{st:SortSt}{a0:Array Keyed}{runs:List (List Keyed)}{rest:List Keyed}
end
section
variable {prog:Program}{w:World}{A:Around}{E:Value->Shared->Prop}{s:Shared}{κ:SortKind}{D:Keyed->Prop}{O:KeyOrd}{kf:Keyed->O.α}{st:SortSt}{a0:Array Keyed}{runs:List (List Keyed)}{rest:List Keyed}
end
section
variable {prog:Program}{w:World}{A:Around}{E:Value->Shared->Prop}{s:Shared}
end
section
variable {X:Cx}
end
section
variable {prog:Program}{w:World}{A:Around}{E:Value->Shared->Prop}{s:Shared}{it d:Addr}{i ep:Nat}{es:Array DictEntry}
end
section
variable {prog:Program}{w:World}{A:Around}{E:Value->Shared->Prop}{s:Shared}
end
section
variable {X:Cx}
end
end L2
namespace L2
open PySem PySem.Spec PyProof.Rows
variable {X:Cx}
end L2
namespace L2
open PySem PySem.Spec PyProof.Rows PySem.W
section
variable {prog:Program}{w:World}{A:Around}{E:Value->Shared->Prop}{s:Shared}{d:Addr}{ep:Nat}{es:Array DictEntry}
end
section
variable {X:Cx}
variable {a b c e o i value:Expr}{es rest:List Expr}{ta tb tc te to td ty tv:TE}{t:TA}{pos p apos cpos p2 pos' tpos:Pos}
theorem b8I(c:X.A.units+60<cLine)(hi:JE X i ty)(b:JE X o td)(a:behindInMarks .In o=false):JE X (.Compare i [.In] [o] pos) (b4V ty td):=⟨b5F (a9X (by omega) hi.h b.h) a⟩
theorem b6o(c:X.A.units+60<cLine)(hi:JE X i ty)(b:JE X o td)(a:behindInMarks .In o=false):JT X (.Compare i [.In] [o] pos) (tB (b4V ty td)):=⟨b5j (a9X (by omega) hi.h b.h) a⟩
theorem a0o(c:X.A.units+60<cLine)(a:JE X o td)(hi:JE X i ty)(b:JE X value tv)(hs:swapsWith value (some (.Subscript o i pos')) pos.line X.env=pure false:=by rfl):JS X (.Assign [.Subscript o i pos'] value pos) (b3U td ty tv):=⟨b1U (by omega) a.h hi.h b.h hs⟩
theorem Q5(K:PySem.W.Frag){f:Str}(c:JE X e ta)(a:X.K=K:=by rfl)(b:attributeBase e f X.env (eval e X.env)=eval e X.env:=by rfl):JE X (.Attribute e f pos) (b7s K ta f):=by
 subst a;exact⟨b5E c.h b⟩
theorem a1p(K:PySem.W.Frag){f:Str}(b:JE X o ta)(c:JE X value tv)(a:X.K=K:=by rfl)(hs:swapsWith value (some (.Attribute o f pos')) pos.line X.env=pure false:=by rfl):JS X (.Assign [.Attribute o f pos'] value pos) (b7M K ta tv f):=by
 subst a;exact⟨b5o b.h c.h hs⟩
end
structure MethOk(P:Program)(w:World)(K:PySem.W.Frag)(mg:Str->Option Value)(base:Heap)(C:Addr)(m:Str)(k:Nat)(ps:List Str)(sp:Sp):Prop where
 ex:∃f fd,Meth K C m f/\Binds K fd ps []/\FnOk P w K mg base CX0 k f fd ps sp
structure MethAt(K:PySem.W.Frag)(C:Addr)(m qual:Str)(st:Stmt)(ps:List Str):Prop where
 ex:∃f fd,Meth K C m f/\Fun K m qual st f fd/\Binds K fd ps []
structure MakeOk(P:Program)(w:World)(K:PySem.W.Frag)(mg:Str->Option Value)(base:Heap)(x:Str)(C:Addr)(k:Nat)(ps:List Str)(sp:Sp):Prop where
 ex:∃f fd,mg x=some (.ref C)/\Mk K C f/\Binds K fd ps []/\FnOk P w K mg base CX0 k f fd ps sp
section
variable {P:Program}{w:World}{K:PySem.W.Frag}{mg:Str->Option Value}{base:Heap}{C:Addr}{m qual:Str}{st:Stmt}{N ps:List Str}{k:Nat}{sp:Sp}
theorem MethAt.fnJ(F:MethAt K C m qual st ps)(S:FnScope N ps (A8 st))(len:∀vs H Q E,sp vs H Q E->vs.length=ps.length)
  (b:∀(a:Value) (f:Addr) (A:Around) (outer:List Env) (s:Shared) (H:Hp) (vs:List V) (Q:VK) (E:XK),Room k (A.deeper (envOfC qual (A8 st) s.heap.objs.size f a))->sp vs H Q E ->
   ∃t,JB (N9 CX0 P w K mg base N qual (A8 st) f a A outer s H E).nox (K5 st) t/\t {nx:=λ_ H'=>Q .non H',rt:=Q} (start N vs) H):MethOk P w K mg base C m (k+1) ps sp:=by
 obtain⟨f,fd,h1,h2,c⟩:=F.ex;exact⟨f,fd,h1,c,h2.okJ S len λa=>b a f⟩
theorem MethOk.make{x:Str}(O:MethOk P w K mg base C "__init__" k ps sp)(d:mg x=some (.ref C))(c:PySem.W.makesIn K C=true)(b:PySem.W.keepIn K (.ref C)=true):MakeOk P w K mg base x C k ps sp:=by
 obtain⟨f,fd,h1,h2,a⟩:=O.ex;exact⟨f,fd,d,⟨c,h1.at_,h1.fn,b⟩,h2,a⟩
end
section
variable {X:Cx}{C:Addr}{m x:Str}{k:Nat}{ps:List Str}{sp:Sp}{o e:Expr}{es:List Expr}{ta:TE}{t:TA}{pos apos p:Pos}
theorem a6e{pl:Sem Bool}(O:MethOk X.prog X.w X.K X.mg X.base C m k ps sp)(c:Cls X.K C)(i:Room k X.A)(h:JE X o ta)(g:JA X (e::es) t)
  (a:starEach (e::es) X.env=(false,eval e X.env)::starEach es X.env:=by rfl) (hpl:(backTo pos (starEach es X.env)).any (·.1)=false:=by rfl)
  (j:eval (.Call (.Attribute o m apos) (e::es) [] pos) X.env=(eval o X.env>>=λb=>standAt apos.atName>>=λ_=>holding [b] (getMethod b m pl)>>=λp=>match p with | (f,first)=>callWith pos f first (backTo pos (starEach (e::es) X.env)) (backToKw pos (keywordEach [] X.env))):=by rfl) :
  JE X (.Call (.Attribute o m apos) (e::es) [] pos) (a6D C m sp [] E0 ta t):=by
 obtain⟨f,fd,h1,h2,d⟩:=O.ex;exact⟨b2p (pl:=pl) h.h c h1 d i h2 .nil a4S g.h a hpl j⟩
theorem b3g{pl:Sem Bool}(O:MethOk X.prog X.w X.K X.mg X.base C m k ps sp)(c:Cls X.K C)(e:Room k X.A)(d:JE X o ta)
  (g:eval (.Call (.Attribute o m apos) [] [] pos) X.env=(eval o X.env>>=λa=>standAt apos.atName>>=λ_=>holding [a] (getMethod a m pl)>>=λp=>match p with | (f,first)=>callWith pos f first (backTo pos (starEach [] X.env)) (backToKw pos (keywordEach [] X.env))):=by rfl) :
  JE X (.Call (.Attribute o m apos) [] [] pos) (a6D C m sp [] E0 ta a0P):=by
 obtain⟨f,fd,h1,h2,b⟩:=O.ex;exact⟨a9P (pl:=pl) d.h c h1 b e h2 .nil a4S g⟩
theorem b3h(O:MakeOk X.prog X.w X.K X.mg X.base x C k ps sp)(e:Room (k+1) X.A)(d:Gl X x)(a:(x==("__debug__" : Str))=false:=by decide) :
  JE X (.Call (.Name x p) [] [] pos) (b3F C sp [] E0 a0P):=by
 obtain⟨f,fd,b,h1,h2,c⟩:=O.ex;exact⟨a9Q h1 c e d b h2 .nil a4S a⟩
end
section
variable {prog:Program}{w:World}{A:Around}{E:Value->Shared->Prop}{h:Heap}{g:Array GenState}{d:Drawn}{t:Nat}{os:OsState}
variable {nm q:Str}{C N:Addr}{bs bm bmB:List Value}{hdct:Bool}{sn:List Str}{sub:List Value}{ab:Bool}{col:Option Bool}{dd:Option Addr}{k0 k1 k2 k3 k5:Option Value}{B Bn newId nid initId inN:String}{bmN:List Value}
abbrev b1O(C:Addr)(n:Nat):Obj:={cls:=.ref C,data:=.fields #[.ref n,.none,.none,.none,.bool false,.none]}
theorem b2M{K:PySem.W.Frag}(X:K.In h)(j:ExcBaseFacts Bn newId inN bmN)(f:bmB.contains (.type Bn)=true)(F:ExcBaseFacts B nid initId bmB)(T:OwnTail h bmB bm){rest:List Value}{fI:Addr}{Q:Fin->Shared->Prop}
  (i:h.get? C=some (excClassObj nm q C N bs bm hdct sn sub ab col dd k0 k1 k2 k3 k5 newId)) (hi:findIn K (.ref C) "__init__"=some (some (.ref fI))) (v:isFn K (.ref fI)=true)
  (y:∀h',Heap.MadeExcOf h h' (h.objs.size+1) (.ref C) rest->wpAny (model prog w) A (call (.ref fI) (.ref (h.objs.size+1)::rest)) (λr s'=>r=.none/\Q (.done (.ret (.ref (h.objs.size+1)))) s') E ⟨h',g,d,t,os⟩) (c:rest.length<=sizeLine) :
  wpAny (model prog w) A (Builtin.«type.__call__» ⟨.ref C::rest,[]⟩) Q E ⟨h,g,d,t,os⟩:=by
 repeat (first|with_reducible refine wpAny_loadPart_at i ?_|with_reducible refine wpAny_madeBy_exc i ?_|wp_step)
 refine codeAny_call_builtin_code (Code.quiet_builtin _ j.quiet) (wpAny_check_new_subU j f T i (codeAny_exc_new_subU j f F T i ?_ c));show wpAny _ _ _ _ _ _;have m:∀{b:Addr}{o:Obj},h.get? b=some o->((h.push {cls:=.type "tuple",data:=.seq rest.toArray}).push (b1O C h.objs.size)).get? b=some o:=λe=>Heap.get?_push_of_some _ (Heap.get?_push_of_some _ e);have k:=m i;have n:K.In ((h.push {cls:=.type "tuple",data:=.seq rest.toArray}).push (b1O C h.objs.size)):=X.keeps λb o e=>m e;have a:((h.push {cls:=.type "tuple",data:=.seq rest.toArray}).push (b1O C h.objs.size)).get? (h.objs.size+1)=some (b1O C h.objs.size):=Heap.get?_push_at (by simp only[Heap.size_push]) rfl;have l:(Value.ref C::bm).contains (.ref C)=true:=by simp
 have p:=looks_findIn (M:=model prog w) n hi;unfold isInstance
 repeat (first|with_reducible refine wpAny_loadPart_at a ?_ | (with_reducible refine wpAny_isSubtype_exc k ?_;rw[l])|wp_step)
 show wpAny _ _ (typeLookup (.ref C) _) _ _ _;refine p.at ?_;refine wpAny_holding (wpAny_bind ?_);unfold bindSpecial;refine wpAny_bind ((looks_typeIn n (beq_iff_eq.mp v)).at ?_);rw[if_pos (by decide)];refine wpAny_pure (wpAny_bind (wpAny_mono (y _ ⟨λb o u=>m u,Heap.get?_none_of_le (Nat.le_succ _),h.objs.size,a,Heap.get?_none_of_le (Nat.le_refl _),Heap.get?_push_of_some _ (Heap.get?_push_at rfl rfl)⟩) (λr s' z=>?_) λ_ _ x=>x));obtain⟨rfl,s⟩:=z
 wp_walk
 exact s
theorem b2N{K:PySem.W.Frag}(X:K.In h)(e:ExcBaseFacts Bn newId inN bmN)(c:bmB.contains (.type Bn)=true)(F:ExcBaseFacts B nid initId bmB)(T:OwnTail h bmB bm){rest:List Value}{fI:Addr}{Q:Value->Shared->Prop}
  (b:h.get? C=some (excClassObj nm q C N bs bm hdct sn sub ab col dd k0 k1 k2 k3 k5 newId)) (hi:findIn K (.ref C) "__init__"=some (some (.ref fI))) (f:isFn K (.ref fI)=true)
  (j:∀h',Heap.MadeExcOf h h' (h.objs.size+1) (.ref C) rest->wpAny (model prog w) (A.under (.builtin "type.__call__" ⟨.ref C::rest,[]⟩)) (call (.ref fI) (.ref (h.objs.size+1)::rest)) (λr s'=>r=.none/\Q (.ref (h.objs.size+1)) s') E ⟨h',g,d,t,os⟩) (a:rest.length<=sizeLine) :
  wpAny (model prog w) A (call (.ref C) rest) Q E ⟨h,g,d,t,os⟩:=by
 have k:=tc_lookup;have l:=tc_bind (.ref C);have m:(⟨h,g,d,t,os⟩:Shared).TypeIs (.ref C) "type":=⟨_,b,rfl⟩;refine wpAny_call (codeAny_of_tree ?_);show wpAny _ _ (callAny (.ref C) _) _ _ _
 repeat (any_goals (first|assumption|with_reducible refine wpAny_loadPart_at b ?_|wp_step))
 refine⟨rfl,codeAny_call_builtin_at (Code.quiet_builtin _ (by decide +kernel)) entry_typeCall (wpAny_check_type_call_sub b (b2M X e c F T b hi f (λh' i=>j h' i) a))⟩
end
section
open Builtin Builtin.ObjectAttr
variable {K:PySem.W.Frag}{prog:Program}{w:World}{A:Around}{E:Value->Shared->Prop}{h:Heap}{g:Array GenState}{d:Drawn}{t:Nat}{os:OsState}
variable {nm q:Str}{C N L x:Addr}{bs bmB:List Value}{sn:List Str}{sub:List Value}{ab:Bool}{col:Option Bool}{dd:Option Addr}{k0 k1 k2 k3 k5:Option Value}{B newId sa owner:String}{name:Str}{v:Value}{o:Obj}
theorem a8G{M:Model}{a:Value}{Q:Unit->Shared->Prop}(c:StoreFacts B bmB sa owner)(j:h.get? C=some (excClassObj nm q C N bs (.ref L::bmB) true sn sub ab col dd k0 k1 k2 k3 k5 newId))(l:h.get? x=some o)(k:o.cls=.ref C)
  (i:Q () ⟨h,g,d,t,os⟩):wpAny M A (checkBuiltinCall sa ⟨[.ref x,a,v],[]⟩) Q E ⟨h,g,d,t,os⟩:=by
 have e:(Value.ref C::.ref L::bmB).contains (.type owner)=true:=by rw[List.contains_cons,List.contains_cons,c.hasOwner,Bool.or_true,Bool.or_true]
 have f:=c.args (.ref x) a v;simp only[checkBuiltinCall,c.kind,c.split];refine wpAny_bind ?_;unfold isInstance
 repeat (first | (with_reducible refine wpAny_loadPart_at l ?_;rw[k]) | (with_reducible refine wpAny_isSubtype_exc j ?_;rw[e])|wp_step)
 cases b:Manifest.signature? sa with
 |none=>exact wpAny_pure i
 |some sig =>
  simp only[argsOk,b]at f;show wpAny M A (Bind.checkArgs sa sig ⟨[.ref x,a,v],[]⟩) Q E _;rw[show Bind.checkArgs sa sig ⟨[.ref x,a,v],[]⟩=pure ()from f];exact wpAny_pure i
theorem a8F{tk:Tok}{Q:Fin->Shared->Prop}(X:K.In h)(H:StoreFacts B bmB sa owner)(O:h.get? C=some (excClassObj nm q C N bs (.ref L::bmB) true sn sub ab col dd k0 k1 k2 k3 k5 newId))
  (p:findIn K (.ref C) name=some none) (D:h.get? x=some o) (R:o.cls=.ref C) (m:o.dict=none) {vs:Array Value}(c:o.data=.fields vs)
  (T:∀h' F,h'.get? x=some {o with dict:=some h.objs.size}->h'.Ns1 h.objs.size (λy=>if y=name then some v else none)->(∀b u,b≠x->h.get? b=some u->h'.get? b=some u)->Q (.done (.ret .none)) ⟨h',g,d,F,os⟩) :
  wpAny (model prog w) A (Builtin.«object.__setattr__» ⟨[.ref x,.str name tk,v],[]⟩) Q E ⟨h,g,d,t,os⟩:=by
 have G:=looks_findIn (M:=model prog w) X p;have a:=H.passes (.ref x);unfold Builtin.«object.__setattr__»
 repeat (first|rw[refuse_eq] | (rw[refuseLoop_ref,refuseLoop_ref,a]) | (with_reducible refine wpAny_loadPart_at D ?_;rw[R])|with_reducible refine wpAny_mroOf_exc O ?_|with_reducible refine G.at ?_|wp_step)
 rw[m,if_neg (by simp[typeHasDict])];split
 .rename_i z;cases z
 split
 .rename_i z;rw[c]at z;cases z
 have i:(h.push {cls:=.type "dict",data:=.dict #[]}).get? x=some o:=Heap.get?_push_of_some _ D;have j:x≠h.objs.size:=Nat.ne_of_lt (Heap.lt_size D);refine wpAny_bind (wpAny_alloc' (wpAny_bind (wpAny_update' i (wpAny_pure ?_))));have n:((h.push {cls:=.type "dict",data:=.dict #[]}).update x λo=>{cls:=o.cls,dict:=some h.objs.size,data:=o.data,slots:=o.slots}).get? h.objs.size=some {cls:=.type "dict",data:=.dict #[]} :=
  (Heap.get?_update_ne _ _ _ _ j.symm).trans (Heap.get?_push_at rfl rfl)
 have r:((h.push {cls:=.type "dict",data:=.dict #[]}).update x λo=>{cls:=o.cls,dict:=some h.objs.size,data:=o.data,slots:=o.slots}).Ns h.objs.size (λ_=>none) :=
  ⟨_,#[],_,n,rfl,λe S=>absurd S (by simp),λ_=>rfl⟩
 show wpAny _ _ (storeInDict h.objs.size (.str name tk) name v) _ _ _;unfold storeInDict newKeyGuard;refine wpAny_bind (wpAny_pure (wpAny_bind (wpAny_nsSet1 (Heap.Ns1.of_empty r) λh' f hs=>?_)));obtain⟨U,J,I,s,l,k⟩:=f.count (Within.cons name v Within.nil);refine wpAny_bind (wpAny_lookBehind s (by rw[l];exact pastItsLine_dict (Nat.le_trans k (by rw[List.length_cons,List.length_nil,sizeLine_eq];omega))) ?_)
 wp_walk
 refine T h' _ ((hs.2 x j).trans (Heap.get?_update_self _ i ?_)) f λb u P e=>(hs.2 b (Nat.ne_of_lt (Heap.lt_size e))).trans ((Heap.get?_update_ne _ _ _ _ P).trans (Heap.get?_push_of_some _ e));exact Obj.isFreed_of_fields (vs:=vs) c
theorem b1t{Q:Unit->Shared->Prop}(X:K.In h)(c:StoreFacts B bmB sa owner)(m:h.get? C=some (excClassObj nm q C N bs (.ref L::bmB) true sn sub ab col dd k0 k1 k2 k3 k5 newId))
  (k:findIn K (.ref C) "__setattr__"=some (some (.builtin sa))) (j:findIn K (.ref C) name=some none) (l:h.get? x=some o) (e:o.cls=.ref C) (f:o.dict=none) {vs:Array Value}(i:o.data=.fields vs)
  (r:∀h' a,h'.get? x=some {o with dict:=some h.objs.size}->h'.Ns1 h.objs.size (λy=>if y=name then some v else none)->(∀b u,b≠x->h.get? b=some u->h'.get? b=some u)->Q () ⟨h',g,d,a,os⟩) :
  wpAny (model prog w) A (setAttr (.ref x) name v) Q E ⟨h,g,d,t,os⟩:=by
 have s:=c.slot.bind (.ref x);have n:=looks_findIn (M:=model prog w) X k;unfold setAttr callSpecial? specialOf
 repeat (any_goals (first|assumption | (with_reducible refine wpAny_loadPart_at l ?_;rw[e])|with_reducible refine n.at ?_|wp_step))
 refine codeAny_call_builtin c.slot.plain c.entry (a8G c m l e (a8F X c m j l e f i λh' a e1 e2 p=>?_))
 repeat (any_goals (first|assumption|wp_step))
 exact r h' a e1 e2 p
theorem a8H{tk:Tok}{bm:List Value}{Q:Fin->Shared->Prop}(X:K.In h)(j:h.get? C=some (excClassObj nm q C N bs bm true sn sub ab col dd k0 k1 k2 k3 k5 newId))(c:findIn K (.ref C) name=some none)(f:h.get? x=some o)(e:o.cls=.ref C)
  {dx:Addr}(b:o.dict=some dx) {vs:Array Value}(a:o.data=.fields vs) {mA:Str->Option Value}(hn:h.Ns1 dx mA) (l:mA name=some v) (k:Q (.done (.ret v)) ⟨h,g,d,t,os⟩) :
  wpAny (model prog w) A (Builtin.«object.__getattribute__» ⟨[.ref x,.str name tk],[]⟩) Q E ⟨h,g,d,t,os⟩:=by
 have i:=looks_findIn (M:=model prog w) X c
 repeat (any_goals (first|assumption | (with_reducible refine wpAny_loadPart_at f ?_;rw[e])|with_reducible refine i.at ?_|wp_step))
 split
 .rename_i z;rw[a]at z;cases z
 unfold instanceDict
 repeat (first | (with_reducible refine wpAny_loadPart_at f ?_;rw[e])|with_reducible refine wpAny_loadPart_at j ?_|wp_step)
 rw[b]
 repeat (first | (with_reducible refine wpAny_nsGet hn.ns ?_;rw[l])|wp_step)
 exact k
theorem b1u{bm:List Value}{a:Bool}{Q:Value->Shared->Prop}(X:K.In h)(n:h.get? C=some (excClassObj nm q C N bs bm true sn sub ab col dd k0 k1 k2 k3 k5 newId))(r:bm.contains (.type "BaseException")=true)
  (f:findIn K (.ref C) "__getattribute__"=some (some (.builtin "BaseException.__getattribute__"))) (i:findIn K (.ref C) "__getattr__"=some none) (j:findIn K (.ref C) name=some none) (k:h.get? x=some o) (b:o.cls=.ref C)
  {dx:Addr}(e:o.dict=some dx) {vs:Array Value}(c:o.data=.fields vs) {mA:Str->Option Value}(hn:h.Ns1 dx mA) (y:mA name=some v) (s:handedIn v=true) (u:Q v ⟨h,g,d,t+1,os⟩) :
  wpAny (model prog w) A (getAttr (.ref x) name a) Q E ⟨h,g,d,t,os⟩:=by
 have p:=looks_findIn (M:=model prog w) X f;have L2:=looks_findIn (M:=model prog w) X i;have m:=PySem.F.attrBase_ValueError;have B:=m.ga.bind (.ref x);have l:(Value.builtin "BaseException.__getattribute__"==Value.builtin "object.__getattribute__")=false:=by decide +kernel
 have z:(onTheHeap (Value.ref C) && Value.builtin "BaseException.__getattribute__"==Value.builtin "object.__getattribute__")=false:=by rw[l];rfl
 unfold getAttr getAttrBy
 repeat (any_goals (first|assumption | (with_reducible refine wpAny_loadPart_at k ?_;rw[b])|with_reducible refine p.at ?_|with_reducible refine L2.at ?_|wp_step))
 rw[show(a && onTheHeap (Value.builtin "BaseException.__getattribute__"))=false from Bool.and_false _,if_neg (by decide)];unfold boundAndCalled
 repeat (any_goals (first|assumption|wp_step))
 refine codeAny_call_builtin m.ga.plain F.entry_bexc_ga (a4C n r k b (a8H X n j k b e c hn y ?_));exact handed_on s u
end
abbrev bmV:List Value:=[.type "ValueError",.type "Exception",.type "BaseException",.type "object"]
def xI(a C:Addr)(dd:Option Addr):HO:=.ext λh=>∃o t0,h.get? a=some o/\o.cls=.ref C/\o.dict=dd/\o.data=.fields #[.ref t0,.none,.none,.none,.bool false,.none]
theorem a8J{P:Program}{w:World}{H:Hp}{h:Heap}{a C b:Addr}{dd:Option Addr}{o:Obj}(e:h.get? a=some o)(e1:o.cls=.ref C)(e2:o.dict=dd)(c:o.data=.fields #[.ref b,.none,.none,.none,.bool false,.none]):ObjOk P w H h a (xI a C dd) :=
 ⟨⟨o,b,e,e1,e2,c⟩,⟨o,e⟩,λf g ⟨o,b,q1,d⟩ k=>⟨o,b,k o q1,d⟩⟩
structure MkX(K:PySem.W.Frag)(C L f:Addr):Prop where
 cls:∃nm q N bs sn sub ab col dd k0 k1 k2 k3 k5,K.lookup C=some (excClassObj nm q C N bs (.ref L::bmV) true sn sub ab col dd k0 k1 k2 k3 k5 "ValueError.__new__")
 tail:tailIn K bmV (.ref L::bmV)=true
 init:Meth K C "__init__" f
 kp:keepIn K (.ref C)=true
 sa:findIn K (.ref C) "__setattr__"=some (some (.builtin "object.__setattr__"))
 lx:a0K K C [.ref L]=true
 ga:findIn K (.ref C) "__getattribute__"=some (some (.builtin "BaseException.__getattribute__"))
 gr:findIn K (.ref C) "__getattr__"=some none
section
variable {X:Cx}{CX:CXT}{k:Nat}{f C L:Addr}{fd:FuncData}{ps:List Str}{sp:Sp}{E:XK}{pins:List (Addr×Obj)}{σ:St}{H:Hp}{s:Shared}
theorem a7w{Q:Addr->Hp->Prop}{us:List Value}{vs:List V}(M:MkX X.K C L f)(F:FnOk X.prog X.w X.K X.mg X.base CX k f fd ps sp)(z:Room (k+1) X.A)(w:Binds X.K fd ps [])(B:Z1 CX X E)(I:Inv X pins σ H s)(r:Vals vs us)(y:us.length<=sizeLine)
  (h:∀x,H x=none->sp (.ref x::vs) (upd H x (xI x C none)) (λv H2=>v=.non/\Q x H2) E):wpAny (model X.prog X.w) X.A (call (.ref C) us) (λu s'=>∃x H',u=.ref x/\s.heap.objs.size<=x/\Inv X pins σ H' s'/\Q x H') X.xe s:=by
 obtain⟨nm,q,N,bs,sn,sub,ab,col,dd,k0,k1,k2,k3,k5,lk⟩:=M.cls;have m:=h (s.heap.objs.size+1) (I.hok.fresh (Nat.le_succ _));have n:Vals (V.ref (s.heap.objs.size+1)::vs) (Value.ref (s.heap.objs.size+1)::us):=.cons rfl r;have j:(Value.ref (s.heap.objs.size+1)::us++[]).length=ps.length:=by
  have e:=n.length;rw[F.len _ _ _ _ m]at e;rw[List.append_nil];exact e.symm
 obtain⟨b,g,d,t,os⟩:=s;refine b2N I.kIn PySem.F.excBase_ValueError rfl PySem.F.excBase_ValueError (tail_of_in I.kIn M.tail) (I.kIn _ _ lk) M.init.at_ M.init.fn (λh' l=>?_) y;obtain⟨J,A,_,_⟩:=l.there;have i:Inv X pins σ (upd H (b.objs.size+1) (xI (b.objs.size+1) C none)) {heap:=h',gens:=g,drawn:=d,toks:=t,os:=os}:=I.laid l.keeps (Nat.le_succ _) (a8J A rfl rfl rfl);have c:=w _ (Value.ref (b.objs.size+1)::us) i.kIn j;rw[List.append_nil]at c;refine wpAny_call (codeAny_mono (F.run _ X.stack _ _ ⟨Value.ref (b.objs.size+1)::us,[]⟩ (Value.ref (b.objs.size+1)::us) _ _ E (z.make C us []) (i.env0.make C us []) c n m) λr s' a=>?_);cases r with
 |error e=>exact B pins σ _ _ e s' i a
 |ok fl =>
  cases fl with
  |ret u =>
   obtain⟨v,H',o,G,p,D⟩:=i.after a;subst p;exact⟨G,⟨b.objs.size+1,H',rfl,Nat.le_succ _,o,D⟩⟩
  |next=>exact False.elim a
  |brk=>exact False.elim a
  |cont=>exact False.elim a
end
def b7n(K:PySem.W.Frag)(t:TA):TE:=λσ H Q=>t σ H λvs H1=>∃a C L f y,vs=[.ref a,.str y]/\H1 a=some (xI a C none)/\MkX K C L f/\Q .non (upd H1 a (xI a C none))
section
variable {X:Cx}{pins:List (Addr×Obj)}{σ:St}{H:Hp}{s:Shared}{C L f a:Addr}
theorem b4W{y:Str}{tk:Tok}{Q:Value->Shared->Prop}(I:Inv X pins σ H s)(M:MkX X.K C L f)(j:H a=some (xI a C none))(n:∀s',Inv X pins σ (upd H a (xI a C none)) s'->Q .none s') :
  wpAny (model X.prog X.w) X.A (call (.builtin "ValueError.__init__") [.ref a,.str y tk]) Q X.xe s:=by
 obtain⟨nm,q,N,bs,sn,sub,ab,col,dd,k0,k1,k2,k3,k5,lk⟩:=M.cls;obtain⟨⟨o,v,c,e1,e2,i⟩,_⟩:=(show ObjOk X.prog X.w H s.heap a (xI a C none)from I.hok a _ j);have F:=PySem.F.excBase_ValueError;obtain⟨m,g,d,t,os⟩:=s;obtain⟨oc,od,p,r⟩:=o;dsimp only at e1 e2 i c;subst e1 e2 i;refine wpAny_call (codeAny_call_builtin F.init.plain F.initEntry (wpAny_check_init_subU F (tail_of_in I.kIn M.tail) (I.kIn _ _ lk) c rfl ?_))
 wp_walk
 refine n _ ?_;have k:=Heap.get?_push_of_some (h:=m) {cls:=.type "tuple",data:=.seq #[.str y tk]} c;refine I.write (x:=a) (e:=a) (by rw[j];exact True.intro) (.inl rfl) (λb u l z=>?_) ⟨_,Heap.get?_update_self _ k rfl⟩ (a8J (Heap.get?_update_self _ k rfl) rfl rfl rfl);exact(Heap.get?_update_other _ _ (Ne.symm l)).trans (Heap.get?_push_of_some _ z)
theorem b5y{x:Str}{pl:Sem Bool}{e:Expr}{es:List Expr}{t:TA}{p apos pos:Pos}(l:Gl X x)(m:X.mg x=some (.ref L))(n:readsIn X.K L (.type "type")=true)(k:findCls X.K (.ref L) (.type "type") "__init__"=some (.val (.builtin "ValueError.__init__")))
  (hs:specialIn X.K (.ref L) "__getattribute__"=some (some (.builtin "type.__getattribute__"))) (j:PA X (e::es) t) (hd:(x==("__debug__" : Str))=false:=by decide)
  (b:starEach (e::es) X.env=(false,eval e X.env)::starEach es X.env:=by rfl) (hpl:(backTo pos (starEach es X.env)).any (·.1)=false:=by rfl)
  (o:eval (.Call (.Attribute (.Name x p) "__init__" apos) (e::es) [] pos) X.env=(do
   let ov <-eval (.Name x p) X.env
   standAt apos.atName
   let (f,first) <-holding [ov] (getMethod ov "__init__" pl)
   callWith pos f first (backTo pos (starEach (e::es) X.env)) (backToKw pos (keywordEach [] X.env))):=by rfl) :
  PE X (.Call (.Attribute (.Name x p) "__init__" apos) (e::es) [] pos) (b7n X.K t):=by
 intro pins s σ H Q I h;refine PySem.W.methodCall_KW (pl:=pl) (Y5 I l m ?_ hd) o;refine method_cls I.kIn hs (cls_value I.kIn n k (by decide +kernel) ?_);refine PyProof.Rows.callWith_builtin1 (thn (j pos pins _ σ H _ (I.tok _) h) λB s1 ⟨vs,H1,c,r,a,C,L,f,y,i,g,M,q⟩=>?_) b hpl;subst i;obtain⟨u,v,rfl,w,z⟩:=r.two;cases w;obtain⟨tk,rfl⟩:=z;exact b4W c M g λA d=>⟨.non,_,d,rfl,q⟩
def sXf(K:PySem.W.Frag)(ta tv:TE)(f:Str):TS:=λD σ H=>tv σ H λy H1=>ta σ H1 λx H2=>∃a C L g,x=.ref a/\H2 a=some (xI a C none)/\MkX K C L g/\findIn K (.ref C) f=some none /\
 ∀dx,H2 dx=none->dx≠a->D.nx σ (upd (upd H2 dx (.xd [(f,y)])) a (xI a C (some dx)))
theorem b1J{n:Str}{y:V}{u:Value}{Q:Unit->Shared->Prop}(I:Inv X pins σ H s)(M:MkX X.K C L f)(hn:findIn X.K (.ref C) n=some none)(k:H a=some (xI a C none))(G:RelV y u)
  (F:∀dx s',H dx=none->dx≠a->Inv X pins σ (upd (upd H dx (.xd [(n,y)])) a (xI a C (some dx))) s'->Q () s'):wpAny (model X.prog X.w) X.A (setAttr (.ref a) n u) Q X.xe s:=by
 obtain⟨nm,q,N,bs,sn,sub,ab,col,dd,k0,k1,k2,k3,k5,lk⟩:=M.cls;obtain⟨⟨o,R,D,e1,e2,r⟩,_⟩:=(show ObjOk X.prog X.w H s.heap a (xI a C none)from I.hok a _ k);obtain⟨c,g,d,t,os⟩:=s;refine b1t I.kIn PySem.F.store_ValueError (I.kIn _ _ lk) M.sa hn D e1 e2 r λh' J v K O=>?_;have i:H c.objs.size=none:=I.hok.fresh (Nat.le_refl _);have j:c.objs.size≠a:=λz=>by rw[<-z,i]at k;cases k
 refine F c.objs.size _ i j ?_;obtain⟨od,es,ep,w,P⟩:=id K;have p:=(Heap.get?_some_iff.mp w).2;have A:(c.push od).get? c.objs.size=some od:=Heap.get?_push_at rfl p;have B:Inv X pins σ (upd H c.objs.size (.xd [(n,y)])) {heap:=c.push od,gens:=g,drawn:=d,toks:=t,os:=os}:=I.laid (λb u z=>Heap.get?_push_of_some _ z) (Nat.le_refl _) ⟨_,⟨od,es,ep,A,P⟩,λm=>by
  by_cases l:m=n
  .subst l;show RelO (List.lookup m [(m,y)]) (if m=m then some u else none);rw[if_pos rfl,List.lookup_cons,show(m==m)=true from by simp];exact G
  .show RelO (List.lookup m [(n,y)]) (if m=n then some u else none);rw[if_neg l,List.lookup_cons,show(m==n)=false from by simpa using l];exact True.intro⟩
 refine B.write (x:=a) (e:=a) (by rw[A5 (Ne.symm j),k];exact True.intro) (.inl rfl) (λb u E z=>?_) ⟨_,v⟩ (a8J v e1 rfl r);by_cases h:b=c.objs.size
 .subst h;rw[A]at z;cases z;exact w
 .rw[Heap.get?_push_ne c b od h]at z;exact O b u E z
theorem b7Z{o value:Expr}{n:Str}{pos pos':Pos}{ta tv:TE}(f:PE X o ta)(i:PE X value tv)(hs:swapsWith value (some (.Attribute o n pos')) pos.line X.env=pure false):PS X (.Assign [.Attribute o n pos'] value pos) (sXf X.K ta tv n):=by
 intro pins s σ H D I h;refine plainObj_wpAny_Assign_Attribute (thn (i pins s σ H _ I h) λu s1 ⟨y,H1,b,m,q⟩=>thn (f pins s1 σ H1 _ b q) λj p ⟨x,H2,c,l,a,C,L,g,ex,e,M,hn,k⟩=>?_) hs;subst ex;obtain rfl:j=Value.ref a:=l;exact b1J c M hn e m λdx r h1 h2 d=>⟨σ,_,d,k dx h1 h2⟩
end
def KD(h h':Heap):Prop:=∀b o,h.get? b=some o->∃o',h'.get? b=some o'/\o'.dict=o.dict
theorem KD.trans{h1 h2 a:Heap}(x:KD h1 h2)(y:KD h2 a):KD h1 a:=λb o e=>by
 obtain⟨f,e1,c⟩:=x b o e;obtain⟨g,e2,d⟩:=y b f e1;exact⟨g,e2,d.trans c⟩
theorem KD.slots{S:List Addr}{h h':Heap}(x:Heap.SlotsOnly S h h'):KD h h':=λb o e=>let ⟨sl,q⟩:=x.2.2 b o e;⟨_,q,rfl⟩
theorem KD.push{h:Heap}{o:Obj}:KD h (h.push o):=λb o e=>⟨o,Heap.get?_push_of_some _ e,rfl⟩
theorem a8j(f:Array Value->Array Value):∀o:Obj,(Obj.mapFields f o).dict=o.dict
 |⟨c,d,dt,s⟩=>by cases dt<;>rfl
theorem KD.fields{h:Heap}{b:Addr}{o:Obj}{vs:Array Value}(f:Array Value->Array Value)(e:h.get? b=some o)(hd:o.data=.fields vs):KD h (h.update b (Obj.mapFields f)):=λc u q=>by
 by_cases a:c=b
 .subst a;rw[e]at q;cases q;exact⟨_,Heap.get?_update_self _ e (Obj.isFreed_of_fields (Obj.data_mapFields hd _)),a8j _ _⟩
 .exact⟨u,(Heap.get?_update_other _ _ (Ne.symm a)).trans q,rfl⟩
section
variable {M:Model}{A:Around}{E:Value->Shared->Prop}{s:Shared}{base:Heap}{env:Env}{outer:List Env}{L e:Addr}{cls a0:Value}
theorem a5q{i:Obj}{vs:Array Value}{d:Value}{c:Bool}(g:A.frames=some (env::outer))(l:s.heap.FunFrames base (env::outer))(k:env.frame=some L)(j:s.heap.get? e=some i)(hd:i.data=.fields vs)(hsz:1<vs.size) :
  wpAny M A (do let a <-frameOf env;let pl <-entryPlaceOf L c;let b <-EntryCells.newEntry d a .none (rawInt L) .none pl;setField (.ref e) 1 b) (λ_ s'=>KD s.heap s'.heap) E s:=by
 refine wpAny_bind (wpAny_frameOf_fun g l k λh1 f=>wpAny_bind (wpAny_entryPlaceOf λpl hpl=>?_));unfold EntryCells.newEntry newFields;refine wpAny_bind (wpAny_newObj_type ?_ (hpl.sizeOk5 _ _ _ _ _));obtain⟨sl,e1⟩:=f.2.2 e i j;have e2:=Heap.get?_push_of_some (h:=h1) {cls:=.type "traceback",dict:=none,data:=.fields ([d,.ref L,.none,rawInt L,.none]++(if pl.isEmpty then List.replicate 6 Value.none else pl)).toArray} e1;exact wpAny_setField e2 hd hsz ((KD.slots f).trans (KD.push.trans (KD.fields _ e2 hd)))
theorem b2O(h:A.frames=some (env::outer))(p:s.heap.FunFrames base (env::outer))(n:env.frame=some L)(t:s.heap.TracedW base e cls a0):wpAny M A (noteFrame (.ref e) env) (λ_ s'=>KD s.heap s'.heap) E s:=by
 obtain⟨y,vs,T,w,u,m,⟨l,v⟩,hd,h1,r,g,f,c,j⟩:=t;unfold noteFrame;simp only[n];refine wpAny_bind (wpAny_field m hd h1 ?_);rw[if_pos (show(Value.ref T != Value.none)=true from by simp)];refine wpAny_bind (wpAny_field f c j ?_);rw[if_neg (show ¬((Value.none==rawInt L)=true)from by simp[rawInt])];refine wpAny_bind (wpAny_setField f c (Array.getElem?_eq_some_iff.mp j).1 ?_);have a:∀b,b≠T->(s.heap.update T (Obj.mapFields (·.setIfInBounds 3 Value.none))).get? b=s.heap.get? b:=λb d=>Heap.get?_update_other _ _ (Ne.symm d);refine wpAny_mono (a5q h (p.of_keeps λb o d i=>⟨o,(a b λq=>?_).trans d,rfl⟩) n ((a e (Ne.symm g)).trans m) hd (Array.getElem?_eq_some_iff.mp h1).1) (λ_ s' k=>(KD.fields _ f c).trans k) λ_ _ x=>x;rw[q,f]at d;cases d;exact i u c
theorem b0g{d:Obj}{vs:Array Value}(a:A.frames=some (env::outer))(f:s.heap.FunFrames base (env::outer))(c:env.frame=some L)(b:s.heap.get? e=some d)(hd:d.data=.fields vs)(h1:vs[1]?=some .none):wpAny M A (noteFrame (.ref e) env) (λ_ s'=>KD s.heap s'.heap) E s:=by
 unfold noteFrame;simp only[c];refine wpAny_bind (wpAny_field b hd h1 ?_);rw[if_neg (by decide)];exact a5q a f c b hd (Array.getElem?_eq_some_iff.mp h1).1
theorem a3v{fl:Value}(i:s.heap.TracedAtW base e cls a0 fl):wpAny M A (setFlight (.ref e) none) (λ_ s'=>KD s.heap s'.heap) E s:=by
 obtain⟨k,vs,T,j,l,g,c,hd,h1,h,f,b,a,d⟩:=i;unfold setFlight;refine wpAny_bind (wpAny_field g hd h1 ?_);rw[if_pos (show(Value.ref T != Value.none)=true from by simp)];exact wpAny_setField b a (Array.getElem?_eq_some_iff.mp d).1 (KD.fields _ b a)
theorem b0q{Q:Unit->Shared->Prop}(d:A.frames=some (env::outer))(f:env.frame=some L)(c:Heap.FlyingW base (env::outer) e cls a0 s.heap)
  (g:∀h',Heap.HeldW base (env::outer) e cls a0 L h'->s.heap.UpToSlots h'->KD s.heap h'->Q () {s with heap:=h'}):wpAny M A (noteFrame (.ref e) env) Q E s :=
 wpAny_mono (X7 (E':=E) (Q:=λ_ s'=>∃h',s'={s with heap:=h'}/\Heap.HeldW base (env::outer) e cls a0 L h'/\s.heap.UpToSlots h') (wpAny_looks_onW d f c λh' a b=>⟨h',rfl,a,b⟩) (b2O d c.2.2.1 f c.2.2.2)) (λ_ s' ⟨⟨h',z,a,b⟩,k⟩=>by subst z;exact g h' a b k) λ_ _ x=>x.1
theorem a5Z{Q:Unit->Shared->Prop}{l:List Env}(c:Heap.HeldW base l e cls a0 L s.heap)(d:∀h',Heap.FlyingW base l e cls a0 h'->s.heap.UpToSlots h'->KD s.heap h'->Q () {s with heap:=h'}):wpAny M A (setFlight (.ref e) none) Q E s :=
 wpAny_mono (X7 (E':=E) (Q:=λ_ s'=>∃h',s'={s with heap:=h'}/\Heap.FlyingW base l e cls a0 h'/\s.heap.UpToSlots h') (wpAny_landsW c λh' a b=>⟨h',rfl,a,b⟩) (a3v c.2.2.2)) (λ_ s' ⟨⟨h',z,a,b⟩,k⟩=>by subst z;exact d h' a b k) λ_ _ x=>x.1
theorem b6U{Q:Unit->Shared->Prop}{l:List Env}(c:Heap.FlyingW base l e cls a0 s.heap)(d:∀h',Heap.FlyingW base l e cls a0 h'->s.heap.UpToSlots h'->KD s.heap h'->Q () {s with heap:=h'}):wpAny M A (setFlight (.ref e) none) Q E s :=
 wpAny_mono (X7 (E':=E) (Q:=λ_ s'=>∃h',s'={s with heap:=h'}/\Heap.FlyingW base l e cls a0 h'/\s.heap.UpToSlots h') (lands_againW c λh' a b=>⟨h',rfl,a,b⟩) (a3v c.2.2.2.at)) (λ_ s' ⟨⟨h',z,a,b⟩,k⟩=>by subst z;exact d h' a b k) λ_ _ x=>x.1
theorem b2W{Q:Unit->Shared->Prop}(b:A.frames=some (env::outer))(h:env.frame=some L)(a:Heap.FlyingW base (env::outer) e cls a0 s.heap)
  (g:∀h',Heap.FlyingW base outer e cls a0 h'->s.heap.UpToSlots h'->KD s.heap h'->Q () {s with heap:=h'}):wpAny M A (leaving env (.ref e)) Q E s:=by
 unfold leaving;refine wpAny_bind (b0q b h a λh1 a1 d k1=>a5Z (s:={s with heap:=h1}) a1 λh2 c f k2=>?_);obtain⟨i,j,⟨_,_,k⟩,l⟩:=c;exact g h2 ⟨i,j,k,l⟩ (d.trans f) (k1.trans k2)
theorem b0s{Q:Unit->Shared->Prop}{c:Obj}{vs:Array Value}(b:A.frames=some (env::outer))(f:env.frame=some L)(h:s.heap.FunFrames base (env::outer))(d:s.heap.get? e=some c)(g:base.StaysIn s.heap)(a:base.get? e=none)(hd:c.data=.fields vs)
  (h1:vs[1]?=some .none) (h0:vs[0]?=some a0) (k:∀h',Heap.FlyingW base outer e c.cls a0 h'->s.heap.UpToSlots h'->KD s.heap h'->Q () {s with heap:=h'}):wpAny M A (leaving env (.ref e)) Q E s:=by
 unfold leaving;have l:wpAny M A (noteFrame (.ref e) env) (λ_ s'=>∃h',s'={s with heap:=h'}/\Heap.NotedW base (env::outer) e c.cls a0 (rawInt L) s.heap h') E s:=by
  unfold noteFrame;simp only[f];refine wpAny_bind (wpAny_field d hd h1 ?_);rw[if_neg (by decide)];exact wpAny_entryW b h f d g a hd (Array.getElem?_eq_some_iff.mp h1).1 h0 λh' x=>⟨h',rfl,x⟩
 refine wpAny_bind (wpAny_mono (X7 (E':=E) l (b0g b h f d hd h1)) (λ_ s1 ⟨⟨h',z,m,n,o,p⟩,k1⟩=>?_) λ_ _ x=>x.1);subst z;refine a5Z (s:={s with heap:=h'}) ⟨m,a,n,o⟩ λh2 i j k2=>?_;obtain⟨q,r,⟨_,_,t⟩,u⟩:=i;exact k h2 ⟨q,r,t,u⟩ (Heap.UpToSlots.trans p j) (k1.trans k2)
end
end L2
namespace L2
open PySem PySem.Spec PyProof.Rows
section
variable {X:Cx}{k:Nat}{ps:List Str}{sp:Sp}{x y:Str}{p pos cpos pos' ip sp':Pos}{e:Expr}{es:List Expr}{t:TA}{i:Nat}{z:Int}{jj:Nat}
end
end L2
section
open PySem PyProof.Rows
end
namespace L2
open PySem PySem.Spec PyProof.Rows
section
variable {X:Cx}
variable {o e:Expr}{es:List Expr}{to:TE}{t:TA}{pos apos cpos:Pos}
end
end L2
namespace L2
theorem b8G{α:Type}{us:List α}(h:us.length=0):us=[]:=List.length_eq_zero_iff.mp h
theorem a1D{α:Type}{us:List α}(h:us.length=1):∃a,us=[a]:=by
 cases us with
 |nil=>cases h
 |cons a us=>exact⟨a,by rw[b8G (us:=us) (Nat.succ.inj h)]⟩
theorem Z3{α:Type}{us:List α}(h:us.length=2):∃a b,us=[a,b]:=by
 cases us with
 |nil=>cases h
 |cons a us=>obtain⟨b,e⟩:=a1D (us:=us) (Nat.succ.inj h);exact⟨a,b,by rw[e]⟩
theorem b2V{α:Type}{us:List α}(h:us.length=3):∃a b c,us=[a,b,c]:=by
 cases us with
 |nil=>cases h
 |cons a us=>obtain⟨b,c,e⟩:=Z3 (us:=us) (Nat.succ.inj h);exact⟨a,b,c,by rw[e]⟩
theorem b8F{α:Type}{us:List α}(h:us.length=4):∃a b c d,us=[a,b,c,d]:=by
 cases us with
 |nil=>cases h
 |cons a us=>obtain⟨b,c,d,e⟩:=b2V (us:=us) (Nat.succ.inj h);exact⟨a,b,c,d,by rw[e]⟩
section
open PySem PySem.Spec PyProof.Rows PySem.W
abbrev FnL(K:PySem.W.Frag)(f:Addr)(nm qn:Str)(st:Stmt)(oc:Value)(od:Option Addr)(sl:Array (Option Value))(kV dc pm:Value)(an:Option Addr)(cd ct:Value):Prop:=K.lookup f=some ⟨oc,od,.func (PySem.W.fnOf nm qn (W1 st) (K5 st) (A8 st) .none kV dc pm an cd ct),sl⟩
variable {K:PySem.W.Frag}{h:Heap}{mg:Str->Option Value}{x qn:Str}{st:Stmt}{f:Addr}{od an:Option Addr}{sl:Array (Option Value)}{oc kV dc pm cd ct:Value}{C:Addr}{m:Str}
theorem J4(X:K.In h)(G:h.Ns mainGlobals mg)(a:nsIn K mainGlobals x=some (some (.ref f)))(l:FnL K f x x st oc od sl kV dc pm an cd ct)(c:codeIn K cd x=true)(k:keepIn K (.ref f)=true){ps:List Str}
  (e:∀(kV d pm:Value) (an:Option Addr) (b ct:Value) (us:List Value),us.length=ps.length->bindArgs (fnOf x x (W1 st) (K5 st) (A8 st) .none kV d pm an b ct) ⟨us,[]⟩=pure (ps.zip us)):FunAt K mg x st ps:=⟨f,_,mg_of X G a,a2A (st:=st) l c k,(a2A (st:=st) l c k).binds e⟩
theorem a3l(a:findIn K (.ref C) m=some (some (.ref f)))(i:isFn K (.ref f)=true)(l:FnL K f m qn st oc od sl kV dc pm an cd ct)(c:codeIn K cd qn=true)(k:keepIn K (.ref f)=true){ps:List Str}
  (e:∀(kV d pm:Value) (an:Option Addr) (b ct:Value) (us:List Value),us.length=ps.length->bindArgs (fnOf m qn (W1 st) (K5 st) (A8 st) .none kV d pm an b ct) ⟨us,[]⟩=pure (ps.zip us)):MethAt K C m qn st ps:=⟨f,_,⟨a,i,k⟩,a2A (st:=st) l c k,(a2A (st:=st) l c k).binds e⟩
end
section
open PySem PySem.Spec PyProof.Rows PySem.W
variable {K:PySem.W.Frag}{h:Heap}{mg:Str->Option Value}{x nm qn:Str}{C N:Addr}{bs bm sub bmB above:List Value}{hd ab:Bool}{sn:List Str}{col:Option Bool}{dd:Option Addr}{k0 k1 k2 k3 k5:Option Value}{newId:String}
end
end L2
namespace L2
namespace Tab
open PySem
def gS:Nat->Nat
 |0=>0
 |n+1=>5*gS n+1
def fI(M:Nat):Nat->Nat->Nat
 |0,x=>x
 |n+1,x=>(fI M n x*5+1) % M
abbrev Pr:=SetTable.Probe
noncomputable def adv(mask:Nat)(p:Pr):Pr :=
 if p.more > 0 then {p with j:=p.j+1,more:=p.more-1} else
 {p with j:=(SetTable.leap mask p.i p.perturb).1,more:=SetTable.runEnd mask (SetTable.leap mask p.i p.perturb).1-(SetTable.leap mask p.i p.perturb).1,i:=(SetTable.leap mask p.i p.perturb).1,perturb:=(SetTable.leap mask p.i p.perturb).2}
noncomputable def b7e(mask:Nat)(p:Pr):Nat->Pr
 |0=>p
 |n+1=>adv mask (b7e mask p n)
noncomputable def b8C(mask i pt:Nat):Pr:={j:=i,more:=SetTable.runEnd mask i-i,i,perturb:=pt,dummy:=none}
noncomputable def st0(mask:Nat)(h:Int):Pr:=b8C mask (SetTable.bits h % (mask+1)) (SetTable.bits h)
noncomputable def pos(mask:Nat)(h:Int)(n:Nat):Nat:=(b7e mask (st0 mask h) n).j
theorem nodup_le{α:Type}[DecidableEq α]:∀(a b:List α),a.Nodup->(∀x∈a,x∈b)->a.length<=b.length
 |[],b,_,_=>Nat.zero_le _
 |x::a,b,hn,h=>by
  obtain⟨h1,h2⟩:=List.nodup_cons.mp hn;have c:=h x List.mem_cons_self;have:=nodup_le a (b.erase x) h2 λy d=>(List.mem_erase_of_ne (λz:y=x=>h1 (z ▸ d))).mpr (h y (List.mem_cons_of_mem _ d));rw[List.length_erase_of_mem c]at this;have:=List.length_pos_of_mem c;rw[List.length_cons];omega
noncomputable def fr(owner:Array (Option Nat))(j:Nat):Bool:=(owner.getD j (some 0)).isNone
theorem fm_all{α β:Type}(f:α->Option β):∀l:List α,(∀x∈l,(f x).isSome=true)->(l.filterMap f).map some=l.map f
 |[],_=>rfl
 |x::l,h=>by
  have c:=fm_all f l λy b=>h y (List.mem_cons_of_mem _ b);have a:=h x List.mem_cons_self;cases e:f x with
  |none=>rw[e]at a;cases a
  |some y=>rw[List.filterMap_cons_some e,List.map_cons,List.map_cons,c,e]
end Tab
end L2
namespace L2
namespace Tab
open PySem
section
variable {prog:Program}{w:World}{A:Around}{E:Value->Shared->Prop}{s:Shared}
theorem items_int{r:List Int}{vs:List Value}(h:ItemsAre (intKind prog w) r vs):∀v∈vs,∃i t,v=.int i t:=by
 induction h with
 |nil=>intro v b;cases b
 |@cons k v ks vs h1 _ c =>
  intro u a;rcases List.mem_cons.mp a with e|a
  .obtain⟨t,ht⟩:=Value.isInt_shape h1;exact⟨k,t,e.trans ht⟩
  .exact c u a
noncomputable def hsh(prog:Program)(w:World)(r:List Int):Int:=tupleKeyHash (intKind prog w) r
end
end Tab
end L2
namespace L2
namespace Tab
open PySem
section
variable {prog:Program}{w:World}{A:Around}{R:Result->Shared->Prop}{I:Addr}{fp wr:List Addr}{G:Array GenState->Array GenState->Prop}{n:Nat}{P:Nat->Value->Prop}{St:Nat->Shared->Prop}
end
section
variable {prog:Program}{w:World}{A:Around}{E:Value->Shared->Prop}{s:Shared}
theorem a2Z(a:Value){Q₁:Value->Shared->Prop}
  (h:Q₁ (.ref s.heap.objs.size) {s with heap:=s.heap.push {cls:=.type "set",dict:=none,data:=.set #[] 0 (.fresh 0 0 (!w.params.followText "set-order"))}}) :
  codeAny (model prog w) A (.call (.builtin "set.__new__") ⟨[.type "set",a],[]⟩) (wants Q₁ E) s:=by
 refine codeAny_of_tree ?_;show wpAny _ A.in1 (do checkBuiltinCall "set.__new__" ⟨[.type "set",a],[]⟩;again (.builtin "set.__new__" ⟨[.type "set",a],[]⟩)) _ _ s;refine wpAny_bind (wpAny_of_eq (PySem.F.newCall_set_1 a) (wpAny_pure ⟨plainId_quiet PySem.F.plain_set_new _,codeAny_builtin PySem.F.entry_set_new ?_⟩));rw[Around.under_plainId PySem.F.plain_set_new _];unfold Builtin.«set.__new__» Builtin.Frozenset.newClass;have b:=sub_set_self;obtain⟨c,g,d,tk,os⟩:=s;dsimp only
 wp_walk
 refine wpAny_askSetting (wpAny_pure ?_);dsimp only;simp only[newObj];refine wpAny_bind (wpAny_alloc (wpAny_pure ?_));exact wpAny_pure h
theorem a3P:isSubtype (.type "list") (.type "set")=pure false:=by rw[isSubtype_type];kernel_rfl
theorem a0B:isSubtype (.type "list") (.type "frozenset")=pure false:=by rw[isSubtype_type];kernel_rfl
end
end Tab
end L2
namespace L2
namespace Tab
open PySem PySem.W
section
variable {prog:Program}{w:World}{A:Around}{E:Value->Shared->Prop}{s:Shared}{a it:Addr}{es:Array (Int×Value)}{ep i:Nat}{t:SetTable}
end
end Tab
end L2
namespace L2
open PySem PySem.Spec PyProof.Rows PySem.W Tab
section
variable {X:Cx}
variable {e:Expr}{es:List Expr}{t:TA}{p pos:Pos}
end
end L2
namespace L2
open PySem PySem.Spec PyProof.Rows
section
variable {X:Cx}{a b:Expr}{ta tb:TE}{pos:Pos}
theorem b0x{i j:Nat}{x y:Str}{ta:TA}{d e pt:Pos}{kt k2 pt2}(h:X.calm=true)(f:X.N.Nodup)(hi:X.N[i]?=some x)(k:X.N[j]?=some y)(c:i≠j)
  (l:X.env.scope.names.lookup x=some .local) (m:X.env.scope.names.lookup y=some .local) (g:JA X [a,b] ta)
  (hw:swappedStores [.Tuple [.Name x d,.Name y e] kt pt] (.Tuple [a,b] k2 pt2) X.env=pure (some [x,y]))
  (hs:swapsWithSole [.Tuple [.Name x d,.Name y e] kt pt] (.Tuple [a,b] k2 pt2) pos.line X.env=pure false:=by rfl) :
  JS X (.Assign [.Tuple [.Name x d,.Name y e] kt pt] (.Tuple [a,b] k2 pt2) pos) (b7o i j ta):=⟨b5m h f hi k c l m g.h hw hs⟩
end
section
open PySem.SeqAt
open PySem.AutoSeq1 (wpAny_loadPart')
open PySem.MeetsSeq PySem.MeetsSeq2 PySem.MeetsSeq3
end
section
variable {X:Cx}{pins:List (Addr×Obj)}{σ:St}{H:Hp}{s:Shared}
end
section
variable {prog:Program}{w:World}{A:Around}{I l S:Addr}{vs:List Value}{kw:List (Str×Value)}{R:Result->Shared->Prop}{h₀:Heap}{s:Shared}
end
section
variable {prog:Program}{w:World}{A:Around}{E:Value->Shared->Prop}{s:Shared}
end
section
variable {X:Cx}{e:Expr}{t:TA}{p pos kp np:Pos}{nk:Nat}
end
section
variable {X:Cx}{e:Expr}{te:TE}{pos p2:Pos}
end
section
variable {prog:Program}{w:World}{A:Around}{I l S:Addr}{vs:List Value}{kw:List (Str×Value)}{R:Result->Shared->Prop}{h₀:Heap}{s:Shared}
end
section
variable {prog:Program}{w:World}{A:Around}{E:Value->Shared->Prop}{s:Shared}
end
section
variable {X:Cx}{e:Expr}{t:TA}{p pos kp np:Pos}{nk:Nat}{d:Int}
end
section
variable {prog:Program}{w:World}{A:Around}{E:Value->Shared->Prop}{s:Shared}
end
section
variable {X:Cx}
variable {e:Expr}{es:List Expr}{t:TA}{p pos:Pos}
end
end L2
namespace L2
open PySem PySem.Spec PyProof.Rows PySem.W
section
variable {X:Cx}{tg:Expr}
end
section
variable {X:Cx}
end
section
variable {X:Cx}{o e:Expr}{es:List Expr}{to:TE}{t:TA}{apos cpos:Pos}
end
section
variable {X:Cx}{k:Nat}{ps:List Str}{sp:Sp}{x:Str}{p pos cpos:Pos}{e:Expr}{es:List Expr}{t:TA}
end
end L2
namespace L2
open PySem PySem.Spec PyProof.Rows
section
variable {X:Cx}
variable {e:Expr}{es:List Expr}{t:TA}{p pos:Pos}
end
end L2
namespace L2
open PySem PySem.Spec PyProof.Rows PySem.W
section
variable {prog:Program}{w:World}{κ:Type} [DecidableEq κ] {knd:HeapKind prog w κ}{A:Around}{E:Value->Shared->Prop}{s:Shared}
end
section
variable {prog:Program}{w:World}{κ:Type} [DecidableEq κ] (knd:HeapKind prog w κ)
end
section
variable {X:Cx}{pins:List (Addr×Obj)}{σ:St}{H:Hp}{s:Shared}{a b:Addr}{z:V}{r:Value}{kvs:List (List Key×V)}{k:List Key}{A:Around}{E:Value->Shared->Prop}
end
section
variable {X:Cx}{o e f:Expr}{apos cpos:Pos}{td ty tx:TE}
end
section
variable {X:Cx}
variable {e:Expr}{es:List Expr}{t:TA}{p pos:Pos}
end
end L2
namespace L2
open PySem PySem.Spec PyProof.Rows
open PySem.AutoSeq1 (wpAny_loadPart')
section
variable {prog:Program}{w:World}{A:Around}{E:Value->Shared->Prop}{s:Shared}
end
section
variable {X:Cx}{e:Expr}{es:List Expr}{t:TA}{p pos:Pos}
end
end L2
namespace L2
open PySem PySem.Spec PyProof.Rows PySem.W
open Sem (wp)
section
variable {prog:Program}{w:World}{κ:Type} [DecidableEq κ] (kd:KeyKind prog w κ)
variable {kd}
variable {A:Around}{E:Value->Shared->Prop}{s:Shared}
end
def h2(kss:LLI):Int:=reduceHash (Builtin.Tuple.tupleHashOf (kss.map λks=>reduceHash (Builtin.Tuple.tupleHashOf (ks.map hashInt))))
section
variable {P:Program}{w:World}{H:Hp}{h:Heap}{a:Addr}
end
section
variable {X:Cx}{o i e f value:Expr}{pos pos' apos cpos:Pos}{td ty tv tx:TE}
end
end L2
namespace L2
open PySem PySem.Spec PyProof.Rows PySem.W
section
variable {prog:Program}{w:World}{A:Around}{E:Value->Shared->Prop}{s:Shared}
end
section
variable {X:Cx}
end
end L2
namespace L2
open PySem PySem.Spec PyProof.Rows
section
variable {prog:Program}{w:World}{A:Around}{E:Value->Shared->Prop}{s:Shared}
end
section
variable {prog:Program}{w:World}{A:Around}{E:Value->Shared->Prop}
end
section
variable {X:Cx}{pins:List (Addr×Obj)}{σ:St}{H:Hp}{s:Shared}{h':Heap}
end
section
variable {X:Cx}{a e:Expr}{ta:TA}{te:TE}{p p2 pos pos2:Pos}
end
section
variable {X:Cx}{e tg:Expr}{te:TE}{p pos:Pos}
end
section
variable {X:Cx}{k k':Nat}{ps ps':List Str}{sp sp':Sp}{x x' y:Str}{p p' pos ipos cpos cpos' pos':Pos}{e e' c:Expr}{es es':List Expr}{t t':TA}{tc:TT}{i:Nat}
end
end L2
namespace L2
open PySem PySem.Spec PyProof.Rows PySem.W
def DictAt(h:Heap)(p:Addr)(dd:Option Addr):Prop:=∃o,h.get? p=some o/\o.dict=dd
theorem DictAt.kd{h h':Heap}{p:Addr}{dd:Option Addr}(x:DictAt h p dd)(k:KD h h'):DictAt h' p dd:=by
 obtain⟨o,e,d⟩:=x;obtain⟨o',e',a⟩:=k p o e;exact⟨o',e',a.trans d⟩
def CXN(P:Program)(w:World):CXT:=λouter H s E e s' =>
 ∃(p C:Addr) (H':Hp) (B:Heap) (a0:Value) (dd:Option Addr),e=.ref p/\s'.os=s.os/\AllBare s'.gens/\Un (frs outer) [] H H' s.heap s'.heap/\HOk P w H' s'.heap /\
  H' p=none/\Heap.FlyingW B outer p (.ref C) a0 s'.heap/\Cov outer H' s.heap s'.heap B/\DictAt s'.heap p dd/\E (.ref C) dd H'
def rem(H:Hp)(x:Addr):Hp:=λb=>if b=x then none else H b
theorem a0W{H:Hp}{x:Addr}:rem H x x=none:=if_pos rfl
theorem T6{H:Hp}{x b:Addr}(h:b≠x):rem H x b=H b:=if_neg h
theorem b8e{P:Program}{w:World}{K:PySem.W.Frag}{mg:Str->Option Value}{base:Heap}{N:List Str}{qual:Str}{scope:Scope}{f:Addr}{cd:Value}{A:Around}{outer:List Env}{d:Shared}{u:Hp}{E:XK} :
  Z1 (CXN P w) (N9 (CXN P w) P w K mg base N qual scope f cd A outer d u E) E:=by
 intro pins σ H1 s1 e s' I h;obtain⟨p,C,H',B,a0,dd,rfl,s,v,J,n,L,c,i,D,q⟩:=h;have g:=I.land s v J n c.2.2.1 i c.1 (λb o e _=>⟨o.slots,e⟩);refine b2W (base:=B) I.ok.frames rfl c λh' y M O=>?_;have r:∀b∈frs outer,b∈frs (envOfC qual scope d.heap.objs.size f cd::outer):=λb a=>by
  obtain⟨env,h1,h2⟩:=List.mem_filterMap.mp a;exact List.mem_filterMap.mpr ⟨env,List.mem_cons_of_mem _ h1,h2⟩
 have m:∀b,b∉frs outer->b≠d.heap.objs.size->b∉frs (envOfC qual scope d.heap.objs.size f cd::outer):=λb h1 h2 G=>by
  obtain⟨env,q1,x⟩:=List.mem_filterMap.mp G;rcases List.mem_cons.mp q1 with rfl|q1
  .exact h2 (Option.some.inj x).symm
  .exact h1 (List.mem_filterMap.mpr ⟨env,q1,x⟩)
 have j:Cov outer H' d.heap s'.heap B:=λb o F nb a=>by
  refine i b o F (m b nb λz=>?_) ?_
  .subst z;rcases a with a|⟨o',a⟩
   .exact a g.free
   .exact absurd (Heap.lt_size a) (Nat.lt_irrefl _)
  .rcases a with a|⟨o',a⟩
   .exact .inl a
   .exact .inr (I.base.there b o' a (λz=>nomatch z))
 obtain⟨U2,t,k⟩:=a1f (P:=P) (w:=w) (l:=outer) (H:=u) (H':=H') (h0:=d.heap) (h1:=s'.heap) (h2:=h') g.base n j y.1 M g.funs λb a=>g.stkFree b (r b a);exact⟨p,C,H',B,a0,dd,rfl,g.os,v,U2,t,L,y,k,D.kd O,q⟩
theorem a9p{M:Model}{A:Around}{E:Value->Shared->Prop}{env:Env}{s:Shared}{x:Sem Value}{Q:Flow->Shared->Prop}(k:A.handled=none)
  (h:wpAny M A x (λv s1=>∃e o C nm q N bs bm hdct sn sub ab col dd k0 k1 k2 k3 k5 newId,v=.ref e/\s1.heap.get? C=some (excClassObj nm q C N bs bm hdct sn sub ab col dd k0 k1 k2 k3 k5 newId)/\bm.contains (.type "BaseException")=true/\s1.heap.get? e=some o/\o.cls=.ref C/\(∃t,o.data=.fields #[.ref t,.none,.none,.none,.bool false,.none])/\E (.ref e) s1) E s) :
  wpAny M A (raiseStmt env (some x) none) Q E s:=by
 unfold raiseStmt;refine wpAny_bind (wpAny_mono h (λv s1 h1=>?_) λ_ _ x=>x);obtain⟨e,o,C,nm,q,N,bs,bm,hdct,sn,sub,ab,col,dd,k0,k1,k2,k3,k5,newId,rfl,b,i,j,c,⟨p,hd⟩,f⟩:=h1;have a:(Value.ref C::bm).contains (.type "BaseException")=true:=by rw[List.contains_cons,i,Bool.or_true]
 obtain⟨n,g,d,tk,os⟩:=s1;obtain⟨oc,od,l,m⟩:=o;dsimp only at c hd;subst c hd
 repeat (first|with_reducible refine wpAny_loadPart_at j ?_|with_reducible refine wpAny_loadPart_at b ?_ | (with_reducible refine wpAny_isSubtype_exc b ?_;rw[a])|wp_step)
 exact wpAny_raiseNew_none k f
def a6C(C:Addr)(sp:Sp)(E:XK)(t:TA):TS:=λ_ σ H=>t σ H λvs H1=>vs.length<=sizeLine/\∀x,H1 x=none->sp (.ref x::vs) (upd H1 x (xI x C none)) (λv H2=>v=.non/\∃dd,H2 x=some (xI x C dd)/\E (.ref C) dd (rem H2 x)) E0
theorem a7C{P:Program}{w:World}{K:PySem.W.Frag}{mg:Str->Option Value}{base:Heap}{N:List Str}{qual:Str}{scope:Scope}{f:Addr}{cd:Value}{A:Around}{outer:List Env}{d:Shared}{G:Hp}{E:XK}
  {x:Str}{C L fI:Addr}{k:Nat}{ps:List Str}{sp:Sp}{e:Expr}{es:List Expr}{t:TA}{np cpos pos:Pos}(M:MkX K C L fI) (O:MethOk P w K mg base C "__init__" k ps sp) (hm:mg x=some (.ref C))
  (hr:Room (k+1) (N9 (CXN P w) P w K mg base N qual scope f cd A outer d G E).A)
  (hg:Gl (N9 (CXN P w) P w K mg base N qual scope f cd A outer d G E) x) (ha:PA (N9 (CXN P w) P w K mg base N qual scope f cd A outer d G E) (e::es) t) (hd:(x==("__debug__" : Str))=false:=by decide)
  (he:starEach (e::es) (envOfC qual scope d.heap.objs.size f cd)=(false,eval e (envOfC qual scope d.heap.objs.size f cd))::starEach es (envOfC qual scope d.heap.objs.size f cd):=by rfl)
  (hpl:(backTo cpos (starEach es (envOfC qual scope d.heap.objs.size f cd))).any (·.1)=false:=by rfl) :
  PS (N9 (CXN P w) P w K mg base N qual scope f cd A outer d G E) (.Raise (some (.Call (.Name x np) (e::es) [] cpos)) none pos) (a6C C sp E t):=by
 intro pins s σ H D I h;obtain⟨f',fd,m,b,F⟩:=O.ex;obtain rfl:f'=fI:=by
  have z:=m.at_.symm.trans M.init.at_;cases z;rfl
 obtain⟨nm,q,NC,bs,sn,sub,ab,col,dd,k0,k1,k2,k3,k5,lk⟩:=M.cls;rw[arm_exec_Raise];refine wpAny_bind (wpAny_standAt (a9p (I.ok.hd rfl) ?_));refine wpAny_bind (wpAny_mono (wpAny_Call_Name_kw (Y5 I hg hm ?_ hd)) (λv s₃ h₃=>wpAny_bind (wpAny_standAt (wpAny_pure h₃))) λ_ _ x=>x);refine PySem.W.callWith_K (h₀:=base) I.ok.mod.kin M.kp (wpAny_mono (ha cpos pins s σ H _ I h) (λus s1 ⟨vs,H1,X,r,hl,q⟩=>⟨X.kIn,?_⟩) λ_ _ z=>z) he hpl;refine wpAny_mono (a7w (C:=C) (L:=L) (f:=f') (E:=E0) (Q:=λx H2=>∃dd,H2 x=some (xI x C dd)/\E (.ref C) dd (rem H2 x)) M F hr b a4S X r (by show us.length<=_;rw[<-r.length];exact hl) q) (λv B ⟨p,H2,ev,a3,g,R,ex,W⟩=>?_) λ_ _ z=>z;subst ev;have h0:∀o,d.heap.get? p≠some o:=λo z=>Nat.lt_irrefl _ (Nat.lt_of_lt_of_le (Heap.lt_size z) (Nat.le_trans X.sz a3));obtain⟨⟨o,t0,Z,e1,e2,e3⟩,_⟩:=(show ObjOk P w H2 B.heap p (xI p C R)from g.hok p _ ex);refine⟨p,o,C,nm,_,NC,bs,_,true,sn,sub,ab,col,dd,k0,k1,k2,k3,k5,_,rfl,g.kIn _ _ lk,rfl,Z,e1,⟨t0,e3⟩,?_⟩;have a1:∀env∈(envOfC qual scope d.heap.objs.size f cd::outer),∀b,env.frame=some b->b∈p::frs (envOfC qual scope d.heap.objs.size f cd::outer):=λenv he b c=>List.mem_cons_of_mem _ (List.mem_filterMap.mpr ⟨env,he,c⟩);refine b0s (base:=hideAll B.heap (p::frs (envOfC qual scope d.heap.objs.size f cd::outer))) (a0:=.ref t0) g.ok.frames rfl (funFrames_hide g.stack a1) Z (λb o q=>of_hideAll _ q) (hideAll_none _ (List.mem_cons_self ..)) e3 rfl rfl λh2 x1 x4 x5=>?_;rw[e1]at x1;have i:∀b u,(∀o,u≠.ext o)->H2 b=some u->b≠p:=λb u hu z w=>by
  rw[w,ex]at z;cases z;exact hu _ rfl
 have a6:p∉frs (envOfC qual scope d.heap.objs.size f cd::outer):=λc=>by
  rw[g.stkFree p c]at ex;cases ex
 have U:∀b∈frs outer,b∈frs (envOfC qual scope d.heap.objs.size f cd::outer):=λb c=>by
  obtain⟨env,h1,h2⟩:=List.mem_filterMap.mp c;exact List.mem_filterMap.mpr ⟨env,List.mem_cons_of_mem _ h1,h2⟩
 have S:∀b,b∉frs outer->b≠d.heap.objs.size->b∉frs (envOfC qual scope d.heap.objs.size f cd::outer):=λb h1 h2 h3=>by
  obtain⟨env,q1,W⟩:=List.mem_filterMap.mp h3;rcases List.mem_cons.mp q1 with rfl|q1
  .exact h2 (Option.some.inj W).symm
  .exact h1 (List.mem_filterMap.mpr ⟨env,q1,W⟩)
 have T:∀b,rem H2 p b≠none->b≠p/\H2 b≠none:=λb z=>by
  by_cases c:b=p
  .subst c;exact absurd a0W z
  .rw[T6 c]at z;exact⟨c,z⟩
 have Y:Cov outer (rem H2 p) d.heap B.heap (hideAll B.heap (p::frs (envOfC qual scope d.heap.objs.size f cd::outer))):=λb o eb nb c=>by
  have j:b≠p:=by
   rcases c with c|⟨o',c⟩
   .exact(T b c).1
   .rintro rfl;exact h0 o' c
  refine hideAll_get _ eb λz=>?_;rcases List.mem_cons.mp z with z|z
  .exact j z
  .refine S b nb (λz=>?_) z;subst z;rcases c with c|⟨o',c⟩
   .exact(T _ c).2 g.free
   .exact absurd (Heap.lt_size c) (Nat.lt_irrefl _)
 have a2:HOk P w (rem H2 p) B.heap:=λa u V=>by
  have ha:a≠p:=by rintro rfl;rw[a0W]at V;cases V
  rw[T6 ha]at V;refine(g.hok a u V).stay (λ_ _ _ z=>z) (λb z=>?_) λb xs z=>?_
  .rw[T6 (i b _ (λ_ w=>by cases w) z)];exact z
  .rw[T6 (i b _ (λ_ w=>by cases w) z)];exact z
 have a4:Un (frs outer) [] G (rem H2 p) d.heap B.heap:=by
  have y:=g.base;refine⟨y.keep,y.slot,λb u z n hx=>?_,y.there,λb xs z=>?_,λb u v z=>?_,λb ps z=>?_⟩
  .rw[T6 (by rintro rfl;exact h0 u z)];exact y.free b u z n hx
  .have z:=y.tups b xs z;rw[T6 (i b _ (λ_ w=>by cases w) z)];exact z
  .have z:=y.frzs b u v z;rw[T6 (i b _ (λ_ w=>by cases w) z)];exact z
  .obtain⟨more,z⟩:=y.tbls b ps z;exact⟨more,by rw[T6 (i b _ (λ_ w=>by cases w) z)];exact z⟩
 obtain⟨U2,a5,J⟩:=a1f (P:=P) (w:=w) (l:=outer) (H:=G) (H':=rem H2 p) (h0:=d.heap) (h1:=B.heap) (h2:=h2) a4 a2 Y x1.1 x4 g.funs λb c=>by
  by_cases j:b=p
  .subst j;exact a0W
  .rw[T6 j];exact g.stkFree b (U b c)
 exact⟨p,C,rem H2 p,_,.ref t0,R,rfl,g.os,g.bare,U2,a5,a0W,x1,J,DictAt.kd ⟨o,Z,e2⟩ x5,W⟩
structure OkN(P:Program)(w:World)(K:PySem.W.Frag)(mg:Str->Option Value)(base:Heap)(x:Str)(k:Nat)(ps:List Str)(sp:Sp):Prop where
 ex:∃f fd,mg x=some (.ref f)/\PySem.W.keepIn K (.ref f)=true/\Binds K fd ps []/\FnOk P w K mg base (CXN P w) k f fd ps sp
theorem FunAt.okN{P:Program}{w:World}{K:PySem.W.Frag}{mg:Str->Option Value}{base:Heap}{x:Str}{st:Stmt}{N ps:List Str}{k:Nat}{sp:Sp}(F:FunAt K mg x st ps)(S:FnScope N ps (A8 st))(len:∀vs H Q E,sp vs H Q E->vs.length=ps.length)
  (b:∀(a:Value) (f:Addr) (A:Around) (outer:List Env) (s:Shared) (H:Hp) (vs:List V) (Q:VK) (E:XK),Room k (A.deeper (envOfC x (A8 st) s.heap.objs.size f a))->sp vs H Q E ->
   ∃t,JB (N9 (CXN P w) P w K mg base N x (A8 st) f a A outer s H E) (K5 st) t/\t {nx:=λ_ H'=>Q .non H',rt:=Q} (start N vs) H):OkN P w K mg base x (k+1) ps sp:=by
 obtain⟨f,fd,h1,h2,g⟩:=F.ex;refine⟨f,fd,h1,h2.kp,g,?_⟩;obtain⟨oc,od,kV,e,pm,an,a,ct,j,rfl,lk,c⟩:=h2.ex;refine b4v lk c S len λA outer s H vs Q E i d=>?_;obtain⟨t,h,q⟩:=b a f A outer s H vs Q E i d;exact⟨t,h.h,q⟩
theorem b3k{P:Program}{w:World}{K:PySem.W.Frag}{mg:Str->Option Value}{base:Heap}{N:List Str}{qual:Str}{scope:Scope}{f:Addr}{cd:Value}{A:Around}{outer:List Env}{b:Shared}{a:Hp}{E:XK}
  {k:Nat}{ps:List Str}{sp:Sp}{x:Str}{e:Expr}{es:List Expr}{t:TA}{p pos:Pos}(O:OkN P w K mg base x k ps sp) (l:Room k (N9 (CXN P w) P w K mg base N qual scope f cd A outer b a E).A) (j:Gl (N9 (CXN P w) P w K mg base N qual scope f cd A outer b a E) x)
  (h:JA (N9 (CXN P w) P w K mg base N qual scope f cd A outer b a E) (e::es) t) (c:(x==("__debug__" : Str))=false:=by decide)
  (i:starEach (e::es) (N9 (CXN P w) P w K mg base N qual scope f cd A outer b a E).env=(false,eval e (N9 (CXN P w) P w K mg base N qual scope f cd A outer b a E).env)::starEach es (N9 (CXN P w) P w K mg base N qual scope f cd A outer b a E).env:=by rfl)
  (hpl:(backTo pos (starEach es (N9 (CXN P w) P w K mg base N qual scope f cd A outer b a E).env)).any (·.1)=false:=by rfl) :
  JE (N9 (CXN P w) P w K mg base N qual scope f cd A outer b a E) (.Call (.Name x p) (e::es) [] pos) (a6F sp [] E t):=by
 obtain⟨m,fd,h1,h2,d,g⟩:=O.ex;exact⟨a6O g l j h1 h2 d .nil b8e h.h c i hpl⟩
theorem a7W{P:Program}{w:World}{K:PySem.W.Frag}{mg:Str->Option Value}{base:Heap}{N:List Str}{qual:Str}{scope:Scope}{f:Addr}{cd:Value}{A:Around}{outer:List Env}{a:Shared}{b:Hp}{E:XK}
  {x:Str}{C L fI:Addr}{k:Nat}{ps:List Str}{sp:Sp}{e:Expr}{es:List Expr}{t:TA}{np cpos pos:Pos}(M:MkX K C L fI) (O:MethOk P w K mg base C "__init__" k ps sp) (h:mg x=some (.ref C))
  (i:Room (k+1) (N9 (CXN P w) P w K mg base N qual scope f cd A outer a b E).A)
  (g:Gl (N9 (CXN P w) P w K mg base N qual scope f cd A outer a b E) x) (c:JA (N9 (CXN P w) P w K mg base N qual scope f cd A outer a b E) (e::es) t) (hd:(x==("__debug__" : Str))=false:=by decide)
  (d:starEach (e::es) (envOfC qual scope a.heap.objs.size f cd)=(false,eval e (envOfC qual scope a.heap.objs.size f cd))::starEach es (envOfC qual scope a.heap.objs.size f cd):=by rfl)
  (hpl:(backTo cpos (starEach es (envOfC qual scope a.heap.objs.size f cd))).any (·.1)=false:=by rfl) :
  JS (N9 (CXN P w) P w K mg base N qual scope f cd A outer a b E) (.Raise (some (.Call (.Name x np) (e::es) [] cpos)) none pos) (a6C C sp E t):=⟨a7C M O h i g c.h hd d hpl⟩
def xR(p C:Addr)(dd:Option Addr):HO:=.ext λh=>∃o vs,h.get? p=some o/\o.cls=.ref C/\o.dict=dd/\o.data=.fields vs
def XPN(X:Cx)(pins:List (Addr×Obj))(R:St->Addr->Option Addr->Hp->Prop)(e:Value)(s':Shared):Prop :=
 ∃(σ1:St) (H1:Hp) (s1:Shared) (p C:Addr) (H':Hp) (B:Heap) (a0:Value) (dd:Option Addr),e=.ref p/\Inv X pins σ1 H1 s1/\s'.os=s1.os/\AllBare s'.gens/\Un (frs X.stack) [] H1 H' s1.heap s'.heap/\HOk X.prog X.w H' s'.heap /\
  H' p=none/\Heap.FlyingW B X.stack p (.ref C) a0 s'.heap/\Cov X.stack H' s1.heap s'.heap B/\DictAt s'.heap p dd/\R σ1 C dd H'
abbrev TXN:=Ends->(St->Addr->Option Addr->Hp->Prop)->St->Hp->Prop
structure JXN(X:Cx)(sts:List Stmt)(t:TXN):Prop where
 h:∀(pins:List (Addr×Obj)) (s:Shared) (σ:St) (H:Hp) (D:Ends) (R:St->Addr->Option Addr->Hp->Prop),Inv X pins σ H s->t D R σ H->wpAny (model X.prog X.w) X.A (execs sts X.env) (SP X pins D) (XPN X pins R) s
def b7h(sp:Sp)(t:TA):TXN:=λD R σ H=>t σ H λvs H1=>sp vs H1 (λv H2=>D.nx σ H2) λc dd H'=>∃C,c=.ref C/\R σ C dd H'
theorem b6k{X:Cx}{k:Nat}{ps:List Str}{sp:Sp}{x:Str}{p pos cpos:Pos}{e:Expr}{es:List Expr}{t:TA}(O:OkN X.prog X.w X.K X.mg X.base x k ps sp)(S:Room k X.A)(M:Gl X x)(J:JA X (e::es) t)(l:∀e s,¬X.xe e s:=by exact λ_ _ z=>z)(j:(x==("__debug__" : Str))=false:=by decide)
  (L:starEach (e::es) X.env=(false,eval e X.env)::starEach es X.env:=by rfl) (hpl:(backTo cpos (starEach es X.env)).any (·.1)=false:=by rfl) (hs:swapsWith (.Call (.Name x p) (e::es) [] cpos) none pos.line X.env=pure false:=by rfl) :
  JXN X [.Expr (.Call (.Name x p) (e::es) [] cpos) pos] (b7h sp t):=by
 refine⟨λpins s σ H D R I h=>?_⟩;obtain⟨f,fd,Q,N,K,F⟩:=O.ex;refine wpAny_execs_cons (wpAny_Expr_any ?_ I.quiet hs);refine wpAny_Call_Name_kw (Y5 I M Q ?_ j);refine PySem.W.callWith_K (h₀:=X.base) I.ok.mod.kin N (wpAny_mono (J.h cpos pins s σ H _ I h) (λd s1 ⟨vs,H1,a,r,q⟩=>⟨a.kIn,?_⟩) λe s z=>absurd z (l e s)) L hpl;have P:d.length=ps.length:=by rw[<-r.length];exact F.len _ _ _ _ q
 have b:=K s1 d a.kIn (by rw[List.append_nil];exact P);rw[List.append_nil]at b;refine wpAny_call (codeAny_mono (F.run X.A X.stack s1 H1 ⟨d,[]⟩ d vs _ _ S a.env0 b r q) λr s' c=>?_);cases r with
 |error e =>
  obtain⟨p,C,H',B,a0,dd,h1,h2,n,o,w,y,A,E,i,C',G,g⟩:=c;cases G;exact⟨σ,H1,s1,p,C,H',B,a0,dd,h1,a,h2,n,o,w,y,A,E,i,g⟩
 |ok fl =>
  cases fl with
  |ret u =>
   obtain⟨v,H2,m,U,T⟩:=a.after c;exact wpAny_execs_nil ⟨σ,H2,m,T⟩
  |next=>exact False.elim c
  |brk=>exact False.elim c
  |cont=>exact False.elim c
section
variable {X:Cx}{pins:List (Addr×Obj)}{σ:St}{H1 H':Hp}{s1 s':Shared}{p C:Addr}{B:Heap}{a0:Value}{h2:Heap}{dd:Option Addr}
theorem Inv.landN(i:Inv X pins σ H1 s1)(t:s'.os=s1.os)(J:AllBare s'.gens)(A:Un (frs X.stack) [] H1 H' s1.heap s'.heap)(s:HOk X.prog X.w H' s'.heap)(hp:H' p=none)(H:s'.heap.FunFrames B X.stack)(j:Cov X.stack H' s1.heap s'.heap B)(d:Heap.FlyingW B X.stack p (.ref C) a0 h2)(M:s'.heap.UpToSlots h2)(G:DictAt h2 p dd) :
  Inv X pins σ (upd H' p (xR p C dd)) {s' with heap:=h2}:=by
 have I:∀b∈frs X.stack,H' b=none:=λb h=>by
  obtain⟨_,o,r,_⟩:=i.stack.mem h;exact A.free b o r (i.stkFree b h) (by simp)
 obtain⟨U2,x,f⟩:=a1f A s j d.1 M H I;obtain⟨w,vs,_,_,_,c,l,g,_⟩:=d.2.2.2;have v:p∉frs X.stack:=λh=>by
  obtain⟨_,o,r,nf⟩:=d.2.2.1.mem h;rw[r]at c;cases c;exact nf vs g
 have m:∀o,s1.heap.get? p≠some o:=λo e=>by
  have:=f p w c v (.inr ⟨o,e⟩);rw[d.2.1]at this;cases this
 have F:Un (frs X.stack) [] H1 (upd H' p (xR p C dd)) s1.heap h2:=by
  refine⟨U2.keep,U2.slot,λb o e n K=>?_,U2.there,λb xs e=>?_,λb o u e=>?_,λb ps e=>?_⟩
  .rw[A5 (by rintro rfl;exact m o e)];exact U2.free b o e n K
  .have q:=U2.tups b xs e;rw[A5 (by rintro rfl;rw[hp]at q;cases q)];exact q
  .have q:=U2.frzs b o u e;rw[A5 (by rintro rfl;rw[hp]at q;cases q)];exact q
  .obtain⟨more,q⟩:=U2.tbls b ps e;exact⟨more,by rw[A5 (by rintro rfl;rw[hp]at q;cases q)];exact q⟩
 have y:HOk X.prog X.w (upd H' p (xR p C dd)) h2:=λa o e=>by
  by_cases D:a=p
  .subst D;rw[A0]at e;cases e;obtain⟨Q,E,N⟩:=G;rw[c]at E;cases E;exact⟨⟨w,vs,c,l.1,N,g⟩,⟨w,c⟩,λO P ⟨o,vs,q1,L⟩ k=>⟨o,vs,k o q1,L⟩⟩
  .rw[A5 D]at e;refine(x a o e).stay (λb u _ q=>q) (λb q=>?_) λb xs q=>?_
   .rw[A5 (by rintro rfl;rw[hp]at q;cases q)];exact q
   .rw[A5 (by rintro rfl;rw[hp]at q;cases q)];exact q
 exact i.call' (ch:=[]) t F y J (λb z=>absurd z (by simp))
end
def b7l(K:PySem.W.Frag)(D:Addr)(j:Nat)(tx:TXN)(ts:TS):TS:=λDe σ H=>tx De (λσ1 C dd H'=>ClsX K C [.ref D]/\∀p,H' p=none->ts {nx:=λσ2 H2=>De.nx (σ2.set j none) H2,rt:=λ_ _=>False} (σ1.set j (some (.ref p))) (upd H' p (xR p C dd))) σ H
theorem b3b(K:PySem.W.Frag){X:Cx}{d:List Stmt}{tx:TXN}{ts:TS}{r n:Str}{np o pos:Pos}{U:Stmt}{a:List Stmt}{j:Nat}{D:Addr}(hx:JXN X d tx)(hg:Gl X r)(hm:X.mg r=some (.ref D))(hD:ClsX K D [])(Z:X.N.Nodup)(hj:X.N[j]?=some n)
  (F:X.env.scope.names.lookup n=some .local) (J:∀p,JB (X.held p) (U::a) ts) (hK:X.K=K:=by rfl) (i:X.stack=X.env::X.outer:=by rfl) (E:X.env.frame=some X.env.locals:=by rfl) (hd:(r==("__debug__" : Str))=false:=by decide) :
  JS X (.Try d [.ExceptHandler (some (.Name r np)) (some n) (U::a) o] [] [] pos) (b7l K D j tx ts):=by
 subst hK;refine⟨λpins s σ H De I h=>?_⟩;refine wpAny_Try_except (wpAny_mono (hx.h pins s σ H De _ I h) (λf s1 q=>?_) λe s' q=>?_)
 .cases f with
  |next=>exact wpAny_execs_nil q
  |brk=>exact q
  |cont=>exact q
  |ret v=>exact q
 .obtain⟨σ1,H1,s1,p,C,H',B,a0,dd,rfl,I1,hos,hbare,hU,hok,hp,fl,cov,da,hC,k⟩:=q;have W:=fl.2.2.1;have m:=fl;rw[i]at m;refine b0q (L:=X.env.locals) (by rw[<-i];exact I1.ok.frames) E m λh4 g S N=>?_;refine a5Z (s:={s' with heap:=h4}) g λY b c O=>?_;rw[<-i]at b;have c:=S.trans c;have u:Inv X pins σ1 H' {s' with heap:=Y}:=I1.land hos hbare hU hok W cov b.1 c;refine wpAny_handleBy_cons (codeAny_handlers_test ?_) (by intro q;cases q);refine Y5 (X:=X.held p) (u.held p) hg hm ?_ hd;obtain⟨oe,G,y⟩:=b.there;obtain⟨nm,q,NN,bs,bm,hdct,sn,sub,ab,col,a7,k0,k1,k2,k3,k5,newId,Q,_,M⟩:=hC.ex;obtain⟨a8,q',a2,a5,a4,A,a9,a1,a3,V,a6,j0,j1,j2,j3,j5,t,R,x,_⟩:=hD.ex;refine a2D (u.kIn _ _ Q) (u.kIn _ _ R) G y x (M _ (List.mem_cons_self ..)) ?_;refine codeAny_handlers_suite_as ?_;refine b6U (s:={s' with heap:=Y}) b λh6 w T P=>?_;have I6:Inv X pins σ1 (upd H' p (xR p C dd)) {s' with heap:=h6}:=I1.landN hos hbare hU hok hp W cov w (c.trans T) (da.kd ((N.trans O).trans P));refine Z6 I6 Z hj (.inl F) (v:=.ref p) rfl (λs7 I7=>?_) (.inr F);refine wpAny_mono ((J p).h pins s7 _ _ _ (I7.held p) (k p hp)) (λf s8 l=>?_) λ_ _ z=>False.elim z;cases f with
  |next =>
   obtain⟨σ2,H2,I8,l⟩:=l;exact a7P (I8.unheld I.ok) Z hj F λs9 I9=>⟨_,H2,I9,l⟩
  |brk=>obtain⟨_,_,_,z⟩:=l;exact False.elim z
  |cont=>obtain⟨_,_,_,z⟩:=l;exact False.elim z
  |ret v=>obtain⟨_,_,_,_,_,z⟩:=l;exact False.elim z
section
variable {X:Cx}{es:List Expr}{e:Expr}{t:TA}{te:TE}{pos p:Pos}{f:Str}
def b7S(K:PySem.W.Frag):RL:=λxs H Q=>∃(p C:Addr) (dd:Option Addr) (vc:V) (b:Bool),xs=[.ref p,vc]/\H p=some (xR p C dd)/\IsX K C /\
 ((∃n,vc=.ty n/\kitOne K (.ref C) (.type n)=some b)∨(∃D,vc=.ref D/\kitOne K (.ref C) (.ref D)=some b)∨∃(tp:Addr) (Ds:List Addr),vc=.ref tp/\H tp=some (.tup (Ds.map V.ref))/\kitAny K (.ref C) (Ds.map Value.ref)=some b)/\Q (.bl b) H
theorem b1k(K:PySem.W.Frag)(j:X.K=K:=by rfl):K1 X (.builtin "isinstance") (b7S K):=by
 subst j;intro pins s σ H xs B Q I A h;obtain⟨p,C,dd,E,b,rfl,l,Z,k,q⟩:=h;obtain⟨u,v,rfl,y,a⟩:=A.two;cases y;have f:∃o,s.heap.get? p=some o/\o.cls=.ref C:=let ⟨o,_,h1,h2,_⟩:=(I.hok p _ l).1;⟨o,h1,h2⟩
 rcases k with⟨n,rfl,e⟩|⟨D,rfl,e⟩|⟨g,i,rfl,d,e⟩
 .cases a;exact kia_one (a2u Z) I.kIn f e (λz=>nomatch z) λtk=>⟨.bl b,H,I.tok tk,rfl,q⟩
 .cases a;exact kia_one (a2u Z) I.kIn f e (λz=>nomatch z) λtk=>⟨.bl b,H,I.tok tk,rfl,q⟩
 .cases a;obtain⟨_,m,r,t,e1,e2,c⟩:=(show ObjOk X.prog X.w H s.heap g (.tup (i.map V.ref))from I.hok g _ d);have:=a3d r;subst this;obtain⟨oc,od,w,x⟩:=t;obtain⟨n,c⟩:=c;cases e2;cases c;exact kia_tup (a2u Z) I.kIn f e1 e (λz=>nomatch z) λtk=>⟨.bl b,H,I.tok tk,rfl,q⟩
theorem U0(K:PySem.W.Frag)(d:Gl X "isinstance")(f:X.mg "isinstance"=none)(b:JA X (e::es) t)(a:X.K=K:=by rfl)(c:starEach (e::es) X.env=(false,eval e X.env)::starEach es X.env:=by rfl)(hpl:(backTo pos (starEach es X.env)).any (·.1)=false:=by rfl) :
  JE X (.Call (.Name "isinstance" p) (e::es) [] pos) (tCB (b7S K) t):=⟨N4 (b1k K a) d f a0z b.h (by decide) (by decide) c hpl⟩
def tXg(K:PySem.W.Frag)(ta:TE)(f:Str):TE:=λσ H Q=>ta σ H λx H1=>∃a C L g dx fs v,x=.ref a/\H1 a=some (xR a C (some dx))/\H1 dx=some (.xd fs)/\MkX K C L g/\findIn K (.ref C) f=some none/\fs.lookup f=some v/\Q v H1
theorem b4l(K:PySem.W.Frag)(r:JE X e te)(n:X.K=K:=by rfl)(p:attributeBase e f X.env (eval e X.env)=eval e X.env:=by rfl):JE X (.Attribute e f pos) (tXg K te f):=by
 subst n;refine⟨λpins s σ H Q I h=>?_⟩;refine a7m p (thn (r.h pins s σ H _ I h) λu s1 ⟨x,H1,b,A,a,C,L,g,dx,fs,v,ex,l,m,M,hn,w,q⟩=>?_);subst ex;obtain rfl:u=Value.ref a:=A;obtain⟨⟨o,vs,j,e1,e2,k⟩,_⟩:=(show ObjOk X.prog X.w H1 s1.heap a (xR a C (some dx))from b.hok a _ l);obtain⟨mA,c,y⟩:=(show ObjOk X.prog X.w H1 s1.heap dx (.xd fs)from b.hok dx _ m);obtain⟨nm,E,N,bs,sn,sub,ab,col,dd,k0,k1,k2,k3,k5,lk⟩:=M.cls;obtain⟨u,z,i⟩:=RelO.some_of (v:=v) (o:=mA f) (by rw[<-w];exact y f);obtain⟨D,B,d,t,os⟩:=s1;exact b1u b.kIn (b.kIn _ _ lk) rfl M.ga M.gr hn j e1 e2 k c z (a3t i) ⟨v,H1,b.tok _,i,q⟩
end
section
variable {X:Cx}{es:List Expr}{e o value:Expr}{t:TA}{ta tv:TE}{pos pos' apos p:Pos}{x n:Str}{L:Addr}{pl:Sem Bool}
theorem b6r(K:PySem.W.Frag)(g:Gl X x)(h:X.mg x=some (.ref L))(i:readsIn K L (.type "type")=true)(f:findCls K (.ref L) (.type "type") "__init__"=some (.val (.builtin "ValueError.__init__")))(hs:specialIn K (.ref L) "__getattribute__"=some (some (.builtin "type.__getattribute__")))
  (d:JA X (e::es) t) (c:X.K=K:=by rfl) (hd:(x==("__debug__" : Str))=false:=by decide)
  (a:starEach (e::es) X.env=(false,eval e X.env)::starEach es X.env:=by rfl) (hpl:(backTo pos (starEach es X.env)).any (·.1)=false:=by rfl)
  (j:eval (.Call (.Attribute (.Name x p) "__init__" apos) (e::es) [] pos) X.env=(eval (.Name x p) X.env>>=λb=>standAt apos.atName>>=λ_=>holding [b] (getMethod b "__init__" pl)>>=λp=>match p with | (f',first)=>callWith pos f' first (backTo pos (starEach (e::es) X.env)) (backToKw pos (keywordEach [] X.env))):=by rfl) :
  JE X (.Call (.Attribute (.Name x p) "__init__" apos) (e::es) [] pos) (b7n K t):=by
 subst c;exact⟨b5y (pl:=pl) g h i f hs d.h hd a hpl j⟩
theorem b8p(K:PySem.W.Frag)(b:JE X o ta)(c:JE X value tv)(a:X.K=K:=by rfl)(hs:swapsWith value (some (.Attribute o n pos')) pos.line X.env=pure false:=by rfl):JS X (.Assign [.Attribute o n pos'] value pos) (sXf K ta tv n):=by
 subst a;exact⟨b7Z b.h c.h hs⟩
end
theorem OkN.no{P:Program}{w:World}{K:PySem.W.Frag}{mg:Str->Option Value}{base:Heap}{x:Str}{k:Nat}{ps:List Str}{sp:Sp}(O:OkN P w K mg base x k ps sp):Ok P w K mg base x k ps (λvs H Q _=>sp vs H Q λ_ _ _=>False):=by
 obtain⟨f,fd,h1,h2,c,b⟩:=O.ex;refine⟨f,fd,h1,h2,c,⟨λvs H Q E h=>b.len _ _ _ _ h,λA outer s H a l vs Q E i g d j hs=>codeAny_mono (b.run A outer s H a l vs Q (λ_ _ _=>False) i g d j hs) λr s' h=>?_⟩⟩;cases r with
 |error e =>
  obtain⟨_,_,_,_,_,_,_,_,_,_,_,_,_,_,_,z⟩:=h;exact z.elim
 |ok fl=>cases fl<;>exact h
end L2
namespace L2
open PySem PySem.Spec PyProof.Rows
def b0J(items:Array Value)(x:Value)(i:Nat)(_:Option Fin×Unit):Sem (ForInStep (Option Fin×Unit)) :=
 match items[i]? with
 |some y=>do
  let b <-eqBool y x
  if b=true then do
    let r <-retInt (i:Int)
    pure (ForInStep.done (some r,()))
   else pure (ForInStep.yield (none,()))
 |x=>pure (ForInStep.yield (none,()))
theorem a6Z{prog:Program}{w:World}{B:Around}{E:Value->Shared->Prop}{s:Shared}{items:Array Value}{x:Value}{f:Nat->Bool}{k:Nat}{Q:(Option Fin×Unit)->Shared->Prop}(n:k<items.size)(a:f k=true)(i:∀j,j<k->f j=false)(c:∀j y,items[j]?=some y->SeqAt.EqAt B s y x (f j))
  (q:Q (some (Fin.done (.ret (.int k s.toks))),()) {s with toks:=s.toks+1}):∀m j,j+m=items.size->j<=k->wpAny (model prog w) B (forIn (List.range' j m) ((none:Option Fin),()) (b0J items x)) Q E s
 |0,j,h,l=>by omega
 |m+1,j,h,l=>by
  rw[List.range'_succ,List.forIn_cons];have b:j<items.size:=by omega
  have hi:items[j]?=some items[j]:=by simp[b]
  refine wpAny_bind ?_;unfold b0J;rw[hi];refine wpAny_bind (c j _ hi prog w _ _ ?_);by_cases e:j=k
  .subst e;rw[a];obtain⟨o,g,d,tk,os⟩:=s
   wp_walk
   exact q
  .rw[i j (by omega)];refine wpAny_pure ?_;exact a6Z n a i c q m (j+1) (by omega) (by omega)
theorem b0H(l:Addr)(items:Array Value)(n:Nat)(dd:Option Addr)(sl:Array (Option Value))(x:Value)(f:Nat->Bool)(k:Nat)(i:k<items.size)(a:f k=true)(c:∀j,j<k->f j=false) :
  Meets (Builtin.«tuple.index» ⟨[.ref l,x],[]⟩)
   (λA R s=>s.heap.get? l=some {cls:=.type "tuple",dict:=dd,data:=.seq items n,slots:=sl}/\(∀j y,items[j]?=some y->SeqAt.EqAt A.in1 s y x (f j))/\R (.ok (.ret (.int k s.toks))) {s with toks:=s.toks+1}):=by
 intro prog w A R s h;obtain⟨o,g,d,tk,os⟩:=s;obtain⟨m,b,h⟩:=h;unfold Builtin.«tuple.index»;simp only[Std.Legacy.Range.forIn_eq_forIn_range',Std.Legacy.Range.size]
 wp_walk using PySem.AutoSeq1.wpAny_loadPart' m
 have e:(min items.size items.size-0+1-1) / 1=items.size:=by simp
 rw[e];refine a6Z i a c b ?_ items.size 0 (by omega) (Nat.zero_le _);exact wpAny_pure h
def a9z(K:PySem.W.Frag):V->List V->Hp->VK->Prop:=λx vs H Q=>∃(a:Addr) (xs:List V) (y:V) (n:Nat) (f:Nat->Bool) (k:Nat),x=.ref a/\vs=[y]/\H a=some (.tup xs)/\n<=8/\(∀j z,xs[j]?=some z->EqV K H n z y (f j))/\k<xs.length/\f k=true/\(∀j,j<k->f j=false)/\Q (.int k) H
section
variable {X:Cx}
theorem b0n(J:X.A.units+60<cLine):MtM X "tuple.index" (a9z X.K):=by
 intro pins s σ H x vs v K Q I F E h;obtain⟨a,xs,y,n,f,k,rfl,rfl,t,hn,A,C,g,B,q⟩:=h;cases F;obtain⟨u,rfl,D⟩:=a1t E;obtain⟨z,c,r,o,p,w,m,hd⟩:=(show ObjOk X.prog X.w H s.heap a (.tup xs)from I.hok a _ t);obtain⟨cls,dd,data,sl⟩:=o;have e:cls=.type "tuple":=congrArg Prod.fst w;simp only at hd;subst e hd;have b:=r.length;refine call_meets PySem.F.slot_tuple_index ⟨_,p,rfl⟩ PySem.F.entry_tuple_index (PySem.F.args_tuple_index_2 _ _) (b0H a c.toArray m dd sl u f k (by rw[List.size_toArray,<-b];exact C) g B) ⟨p,λj G d=>?_,.int k,H,I.tok _,⟨_,rfl⟩,q⟩;have d:c[j]?=some G:=by simpa using d
 have l:j<xs.length:=by rw[b];exact(List.getElem?_eq_some_iff.mp d).1
 obtain⟨L,hw,i⟩:=r.get (List.getElem?_eq_getElem l);rw[d]at hw;cases hw;exact EqV.at I (A j _ (List.getElem?_eq_getElem l)) (by show X.A.units+1+n<cLine;omega) i D
def b7t(r:V->List V->Hp->VK->Prop)(to:TE)(t:TA):TE:=λσ H Q=>to σ H λx H1=>(∃a xs,x=.ref a/\H1 a=some (.tup xs))/\t σ H1 λvs H2=>r x vs H2 Q
variable {o e:Expr}{es:List Expr}{to:TE}{t:TA}{name:Str}{apos cpos pos:Pos}{id:String}{r:V->List V->Hp->VK->Prop}
theorem b5G(j:Slot "tuple" name id)(l:typeOf (.builtin id)=pure (.type "method_descriptor"))(B:MtM X id r)(C:PE X o to)(A:PA X (e::es) t)
  (d:attributeBase o name X.env (eval o X.env)=eval o X.env:=by rfl)
  (g:((backTo cpos (starEach (e::es) X.env)).all (λx=>!x.1) && (backToKw cpos (keywordEach [] X.env)).all (λx=>x.1.isSome)
   && decide ((e::es).length+([]:List Keyword).length+(if ([]:List Keyword).isEmpty then 0 else 1)<30))=true:=by rfl)
  (f:(apos.endLine==cpos.line)=true:=by rfl) (hs:starEach (e::es) X.env=(false,eval e X.env)::starEach es X.env:=by rfl) (c:(backTo cpos (starEach es X.env)).any (·.1)=false:=by rfl) :
  PE X (.Call (.Attribute o name apos) (e::es) [] cpos) (b7t r to t):=by
 intro pins s σ H Q I h;refine wpAny_Call_method_late d g f rfl (thn (C pins s σ H _ I h) λv s1 ⟨x,H1,n,G,⟨a,xs,D,k⟩,q1⟩=>?_);subst D;cases G;obtain⟨z,E,rr,u,i,q,m,hd⟩:=(show ObjOk X.prog X.w H1 s1.heap a (.tup xs)from n.hok a _ k);refine⟨"tuple",id,PySem.F.plainAttrs_tuple,j,l,⟨u,i,congrArg Prod.fst q⟩,(λb y=>by cases y;exact⟨u,i,congrArg Prod.snd q⟩),?_⟩;have p:=A cpos pins s1 σ H1 _ n q1;rw[hs]at p⊢;refine Calls.callWith_builtin (by show(false || (backTo cpos (starEach es X.env)).any (·.1))=false;rw[c]<;>rfl) (Calls.evalArgs_plain ?_);exact thn p λL K ⟨vs,H2,w,J,F⟩=>B pins K σ H2 (.ref a) vs (.ref a) L Q w rfl J F
theorem a7X(K:PySem.W.Frag)(i:X.A.units+60<cLine)(h:JE X o to)(g:JA X (e::es) t)(f:X.K=K:=by rfl)(b:attributeBase o "index" X.env (eval o X.env)=eval o X.env:=by rfl)
  (d:((backTo cpos (starEach (e::es) X.env)).all (λx=>!x.1) && (backToKw cpos (keywordEach [] X.env)).all (λx=>x.1.isSome) && decide ((e::es).length+([]:List Keyword).length+(if ([]:List Keyword).isEmpty then 0 else 1)<30))=true:=by rfl)
  (c:(apos.endLine==cpos.line)=true:=by rfl) (hs:starEach (e::es) X.env=(false,eval e X.env)::starEach es X.env:=by rfl) (a:(backTo cpos (starEach es X.env)).any (·.1)=false:=by rfl) :
  JE X (.Call (.Attribute o "index" apos) (e::es) [] cpos) (b7t (a9z K) to t):=by
 subst f;exact⟨b5G PySem.F.slot_tuple_index PySem.F.type_tuple_index (b0n i) h.h g.h b d c hs a⟩
end
section
variable {X:Cx}
end
end L2
namespace L2
open PySem PySem.Spec PyProof.Rows PySem.Builtin PySem.Builtin.Str PySem.StrLaws
theorem a1k:∀{ys:List Str}{us:List Value},Vals (ys.map V.str) us->∃l:List (Str×Tok),us=strValues l/\l.map (·.1)=ys
 |[],us,h=>by cases h;exact⟨[],rfl,rfl⟩
 |y::ys,us,h=>by
  cases h with
  |cons r q =>
   obtain⟨t,rfl⟩:=r;obtain⟨l,rfl,e⟩:=a1k q;exact⟨(y,t)::l,rfl,by rw[List.map_cons,e]⟩
def b4c(K:PySem.W.Frag):V->List V->Hp->VK->Prop:=λx vs H Q=>∃(sep:Str) (p:Addr) (ys:List Str) (B:Nat),x=.str sep/\vs=[.ref p]/\SqL K H p (ys.map V.str)/\(∀y∈ys,y.length<=B)/\ys.length*B+ys.length*sep.length<=16777216/\(Str.join sep ys).length<=sizeLine/\Q (.str (Str.join sep ys)) H
section
variable {X:Cx}
theorem b2R(K:PySem.W.Frag)(f:X.K=K:=by rfl):MtR X "str.join" (b4c K):=by
 subst f;intro pins s σ H x vs v w Q I o n h;obtain⟨a,p,ys,B,rfl,rfl,hs,d,g,c,q⟩:=h;obtain⟨t,rfl⟩:=o;obtain⟨u,rfl,m⟩:=n.one;cases m;obtain⟨j,k,r,_⟩:=I.list hs;obtain⟨l,rfl,b⟩:=a1k k;have i:tooLong ((l.map (·.1)).toArray.foldl (·+·.length+a.length) 0)=false:=by
  rw[b];exact joinFits d g
 refine call_meets PySem.F.slot_str_join (typeIs_str _ _ _) PySem.F.entry_str_join (PySem.F.args_str_join_2 _ _) (meets_str_join_list a t p l i) ⟨r.isList,?_⟩
 match l,b with
 |[z],b =>
  have e:Str.join a ys=z.1:=by rw[<-b];exact(glued_eq_join a [z.1]).symm
  rw[e]at q;exact⟨.str z.1,H,I,⟨_,rfl⟩,q⟩
 |[],b =>
  refine⟨?_,.str (Str.join a ys),H,I.tok _,⟨s.toks,?_⟩,q⟩
  .show(glued a []).length<=_;rw[glued_eq_join,show([]:List Str)=ys from b];exact c
  .show Value.str (glued a []) _=_;rw[glued_eq_join,show([]:List Str)=ys from b]
 |z::z2::l,b =>
  refine⟨?_,.str (Str.join a ys),H,I.tok _,⟨s.toks,?_⟩,q⟩
  .show(glued a ((z::z2::l).map (·.1))).length<=_;rw[glued_eq_join,b];exact c
  .show Value.str (glued a ((z::z2::l).map (·.1))) _=_;rw[glued_eq_join,b]
end
theorem a3g:∀(ys:List Str) (tk:Nat),Vals (ys.map V.str) (strsFrom tk ys)
 |[],_=>.nil
 |y::ys,tk=>.cons ⟨tk,rfl⟩ (a3g ys (tk+1))
def a9s:V->List V->Hp->VK->Prop:=λx vs H Q=>∃(a b:Str),x=.str a/\vs=[.str b]/\1<=b.length/\a.length+2<=sizeLine/\∀p,H p=none->Q (.ref p) (upd H p (.lst ((Txt.split a b).map V.str)))
section
variable {X:Cx}
theorem b0k:MtR X "str.split" a9s:=by
 intro pins s σ H x vs v p Q I l k h;obtain⟨a,b,rfl,rfl,n,m,q⟩:=h;obtain⟨t,rfl⟩:=l;obtain⟨u,rfl,j⟩:=k.one;obtain⟨f,rfl⟩:=j;have c:=split_le a b;have one:Txt.split a b=[a]->EP X pins σ Q (.ref s.heap.objs.size) {s with heap:=s.heap.push {cls:=.type "list",data:=.seq [Value.str a t].toArray}}:=λe=>by
  rw[e]at q;exact⟨.ref s.heap.objs.size,_,I.laid (t':=s.toks) (o:=.lst [.str a]) (λb i q=>Heap.get?_push_of_some _ q) (Nat.le_refl _) ⟨by show 1<=sizeLine;omega,_,0,.cons ⟨t,rfl⟩ .nil,Heap.get?_push_size _ rfl⟩,rfl,q _ (I.hok.fresh (Nat.le_refl _))⟩
 by_cases h1:(decide (a.length<b.length) || decide (strKind a<strKind b))=true
 .refine call_meets PySem.F.slot_str_split (typeIs_str _ _ _) PySem.F.entry_str_split (PySem.F.args_str_split_2 _ _) (meets_str_split_cannot_occur a b t f h1) (one ?_);unfold Txt.split;rw[if_pos h1]
 .have h1':(decide (a.length<b.length) || decide (strKind a<strKind b))=false:=by simpa using h1
  have g:(b.length==0)=false:=by
   rw[beq_eq_false_iff_ne];omega
  by_cases d:(occurrences a b 0 a.length (a.length+1)).isEmpty=true
  .refine call_meets PySem.F.slot_str_split (typeIs_str _ _ _) PySem.F.entry_str_split (PySem.F.args_str_split_2 _ _) (meets_str_split_not_found a b t f h1' g d) (one ?_);unfold Txt.split;rw[if_neg h1,if_pos d]
  .have hf':(occurrences a b 0 a.length (a.length+1)).isEmpty=false:=by simpa using d
   have e:Txt.split a b=partsBetween a (occurrences a b 0 a.length (a.length+1)) b.length:=by
    unfold Txt.split;rw[if_neg h1,if_neg d]
   rw[e]at q c;refine call_meets PySem.F.slot_str_split (typeIs_str _ _ _) PySem.F.entry_str_split (PySem.F.args_str_split_2 _ _) (meets_str_split_sep a b t f h1' g hf' (by omega) (by omega)) ?_;exact⟨.ref s.heap.objs.size,_,I.laid (t':=s.toks+_) (o:=.lst ((partsBetween a (occurrences a b 0 a.length (a.length+1)) b.length).map V.str)) (λb i q=>Heap.get?_push_of_some _ q) (Nat.le_refl _) ⟨by rw[List.length_map];omega,_,0,a3g _ _,Heap.get?_push_size _ rfl⟩,rfl,q _ (I.hok.fresh (Nat.le_refl _))⟩
end
theorem b1f{α:Type}{c:α}:∀{a b u v:List α},c∉a->c∉b->a++c::u=b++c::v->a=b/\u=v
 |[],[],_,_,_,_,h=>by injection h with _ h;exact⟨rfl,h⟩
 |[],y::b,_,_,_,e,h=>by
  injection h with h1 _
  exact absurd (by rw[h1];exact List.mem_cons_self) e
 |x::a,[],_,_,d,_,h=>by
  injection h with h1 _
  exact absurd (by rw[<-h1];exact List.mem_cons_self) d
 |x::a,y::b,u,v,d,e,h=>by
  injection h with h1 h2
  obtain⟨e1,e2⟩:=b1f (λz=>d (List.mem_cons_of_mem _ z)) (λz=>e (List.mem_cons_of_mem _ z)) h2;exact⟨by rw[h1,e1],e2⟩
theorem N6(c:Nat)(x y:Str)(r:List Str):(Str.join ⟨#[c]⟩ (x::y::r)).cps.toList=x.cps.toList++c::(Str.join ⟨#[c]⟩ (y::r)).cps.toList:=by
 show(x++⟨#[c]⟩++Str.join ⟨#[c]⟩ (y::r)).cps.toList=_;rw[Str.cps_append,Str.cps_append,Array.toList_append,Array.toList_append,List.append_assoc];rfl
theorem a5j{c:Nat}:∀{ps e:List Str},ps≠[]->e≠[]->(∀a∈ps,c∉a.cps.toList)->(∀a∈e,c∉a.cps.toList)->Str.join ⟨#[c]⟩ ps=Str.join ⟨#[c]⟩ e->ps=e
 |[],_,h,_,_,_,_=>absurd rfl h
 |_,[],_,h,_,_,_=>absurd rfl h
 |[p],[q],_,_,_,_,h=>by rw[show p=q from h]
 |[p],q::q2::r,_,_,b,_,h=>by
  have:=congrArg (λx:Str=>x.cps.toList) h;rw[N6]at this;exact absurd (by rw[show p.cps.toList=_ from this];exact List.mem_append_right _ List.mem_cons_self) (b p List.mem_cons_self)
 |p::p2::r,[q],_,_,_,d,h=>by
  have:=congrArg (λx:Str=>x.cps.toList) h;rw[N6]at this;exact absurd (by rw[show q.cps.toList=_ from this.symm];exact List.mem_append_right _ List.mem_cons_self) (d q List.mem_cons_self)
 |p::p2::r,q::q2::s,_,_,b,d,h=>by
  have:=congrArg (λx:Str=>x.cps.toList) h;rw[N6,N6]at this;obtain⟨e1,e2⟩:=b1f (b p List.mem_cons_self) (d q List.mem_cons_self) this;have g:Str.join ⟨#[c]⟩ (p2::r)=Str.join ⟨#[c]⟩ (q2::s):=Str.ext' (Array.toList_inj.mp e2);rw[Str.ext' (Array.toList_inj.mp e1),a5j (by simp) (by simp) (λa f=>b a (List.mem_cons_of_mem _ f)) (λa f=>d a (List.mem_cons_of_mem _ f)) g]
theorem a2b{c:Nat}{ps:List Str}(h0:ps≠[])(h:∀a∈ps,c∉a.cps.toList):Txt.split (Str.join ⟨#[c]⟩ ps) ⟨#[c]⟩=ps:=by
 refine a5j (c:=c) (λz=>?_) h0 (λa b=>?_) h (join_split _ _)
 .have:=split_pos (Str.join ⟨#[c]⟩ ps) ⟨#[c]⟩;rw[z]at this;simp at this
 .exact split_free _ c a b
end L2
namespace L2
open PySem PySem.Spec PyProof.Rows PySem.NumText
def G3(n:Nat):Str:=Str.ofString (toString ((n:Nat):Int))
theorem O9(n:Nat):(G3 n).cps.toList=(Nat.toDigits 10 n).map Char.toNat:=PySem.W.KIN.signs_num n
theorem U7(n:Nat):AllDigits (G3 n).cps.toList:=λc b=>by
 rw[O9]at b;obtain⟨ch,a,e⟩:=List.mem_map.mp b;have r:=digit_range (Nat.isDigit_of_mem_toDigits (by decide) (by decide) a);rw[<-e];exact r
theorem a0h{n k:Nat}(a:0<k):(G3 n).length<=k↔n<10 ^ k:=by
 rw[<-Nat.length_toDigits_le_iff (b:=10) (by decide) a,show(G3 n).length=(G3 n).cps.toList.length by rw[Array.length_toList];rfl,O9,List.length_map]
theorem a0s(n:Nat):(G3 n).cps.toList≠[]:=by
 rw[O9];intro e;have h:=Nat.length_toDigits_pos (b:=10) (n:=n);rw[List.map_eq_nil_iff.mp e]at h;exact absurd h (by decide)
theorem a6k{n:Nat}(h:(G3 n).length<=4300):PySem.intText? (G3 n)=some (n:Int):=by
 have e:=intText_digits (U7 n) (a0s n) h;rw[O9,PySem.W.KIN.val_back]at e;exact e
theorem a3x:∀n:Nat,0<n->(G3 n).cps.toList.head?≠some 48:=by
 have key:∀n:Nat,0<n->∃d,0<d/\d<10/\(Nat.toDigits 10 n).head?=some (Nat.digitChar d):=by
  intro n;induction n using Nat.strongRecOn with
  |_ n f =>
   intro hn;by_cases h:n<10
   .exact⟨n,hn,h,by rw[Nat.toDigits_of_lt_base h];rfl⟩
   .obtain⟨d,a,c,e⟩:=f (n / 10) (by omega) (by omega);refine⟨d,a,c,?_⟩;have t:=Nat.toDigits_append_toDigits (b:=10) (n:=n / 10) (d:=n % 10) (by decide) (by omega) (Nat.mod_lt _ (by decide));rw[Nat.div_add_mod]at t;rw[<-t,List.head?_append,e];rfl
 intro n hn;obtain⟨d,a,c,e⟩:=key n hn;rw[O9,List.head?_map,e];have:∀d:Nat,d<10->0<d->some ((Nat.digitChar d).toNat)≠some 48:=by decide
 exact this d c a
theorem a3w:G3 0=Str.ofString "0":=rfl
def b4d:RL:=λxs H Q=>∃(x:Str) (n:Int),xs=[.str x]/\x.length<=640/\PySem.intText? x=some n/\Q (.int n) H
def a9r:RL:=λxs H Q=>∃(n:Nat),xs=[.int n]/\n<10 ^ 570/\Q (.str (G3 n)) H
section
variable {X:Cx}{e:Expr}{t:TA}{p pos:Pos}
theorem a8v:K1 X (.type "int") b4d:=by
 intro pins s σ H xs b Q I r h;obtain⟨x,n,rfl,a,hn,q⟩:=h;obtain⟨u,rfl,t,rfl⟩:=r.one;exact PySem.W.KIN.call_text hn a ⟨.int n,H,I.tok _,⟨_,rfl⟩,q⟩
theorem a8o:K1 X (.type "str") a9r:=by
 intro pins s σ H xs c Q I r h;obtain⟨n,rfl,b,q⟩:=h;refine a4w pins s σ H _ c Q I r ⟨n,rfl,?_,q⟩;have h1:n<2 ^ 1900:=Nat.lt_trans b (by decide +kernel);by_cases a:n=0
 .subst a;decide
 .exact(Nat.log2_lt (show(n:Int).natAbs≠0 by omega)).mpr (by rw[Int.natAbs_natCast];exact Nat.lt_trans h1 (by decide +kernel))
theorem b3f(c:Gl X "int")(d:X.mg "int"=none)(a:JA X [e] t)(b:starEach [e] X.env=(false,eval e X.env)::starEach [] X.env:=by rfl)(hpl:(backTo pos (starEach [] X.env)).any (·.1)=false:=by rfl):JE X (.Call (.Name "int" p) [e] [] pos) (tCB b4d t):=⟨R7 a8v c d b1p a.h (by decide) (by decide) b hpl⟩
theorem a1N(c:Gl X "str")(d:X.mg "str"=none)(a:JA X [e] t)(b:starEach [e] X.env=(false,eval e X.env)::starEach [] X.env:=by rfl)(hpl:(backTo pos (starEach [] X.env)).any (·.1)=false:=by rfl):JE X (.Call (.Name "str" p) [e] [] pos) (tCB a9r t):=⟨R7 a8o c d b6O a.h (by decide) (by decide) b hpl⟩
end
section
variable {X:Cx}{o e:Expr}{es:List Expr}{to:TE}{t:TA}{apos cpos:Pos}
theorem a4i(K:PySem.W.Frag)(h:JE X o to)(g:JA X (e::es) t)(f:X.K=K:=by rfl)(b:attributeBase o "join" X.env (eval o X.env)=eval o X.env:=by rfl)
  (d:((backTo cpos (starEach (e::es) X.env)).all (λx=>!x.1) && (backToKw cpos (keywordEach [] X.env)).all (λx=>x.1.isSome) && decide ((e::es).length+([]:List Keyword).length+(if ([]:List Keyword).isEmpty then 0 else 1)<30))=true:=by rfl)
  (c:(apos.endLine==cpos.line)=true:=by rfl) (hs:starEach (e::es) X.env=(false,eval e X.env)::starEach es X.env:=by rfl) (a:(backTo cpos (starEach es X.env)).any (·.1)=false:=by rfl) :
  JE X (.Call (.Attribute o "join" apos) (e::es) [] cpos) (tBM K "str" (b4c K) to t):=⟨a0G K PySem.F.plainAttrs_str PySem.F.slot_str_join PySem.F.type_str_join (b2R K f) h.h g.h f b d c hs a⟩
theorem a1a(K:PySem.W.Frag)(h:JE X o to)(g:JA X (e::es) t)(f:X.K=K:=by rfl)(b:attributeBase o "split" X.env (eval o X.env)=eval o X.env:=by rfl)
  (d:((backTo cpos (starEach (e::es) X.env)).all (λx=>!x.1) && (backToKw cpos (keywordEach [] X.env)).all (λx=>x.1.isSome) && decide ((e::es).length+([]:List Keyword).length+(if ([]:List Keyword).isEmpty then 0 else 1)<30))=true:=by rfl)
  (c:(apos.endLine==cpos.line)=true:=by rfl) (hs:starEach (e::es) X.env=(false,eval e X.env)::starEach es X.env:=by rfl) (a:(backTo cpos (starEach es X.env)).any (·.1)=false:=by rfl) :
  JE X (.Call (.Attribute o "split" apos) (e::es) [] cpos) (tBM K "str" a9s to t):=⟨a0G K PySem.F.plainAttrs_str PySem.F.slot_str_split PySem.F.type_str_split b0k h.h g.h f b d c hs a⟩
end
end L2
namespace L2
open PySem PySem.Spec PyProof.Rows
def Itc(x:Str):It:=⟨λi _=>i<x.cps.size,λi H v H'=>H'=H/\∃c,x.cps[i]?=some c/\v=.str ⟨#[c]⟩,λi _=>x.cps.size<=i⟩
theorem a7q{P:Program}{w:World}{K:PySem.W.Frag}{tg:Expr}(it:Addr)(x:Str)(t:Tok):Turn P w K tg (Itc x) [it] it (λi h=>h.IsStrIter it "str_ascii_iterator" x t i) where
 mem:=by simp
 obj:=λi h st b f=>by
  have e:b=it:=by simpa using f
  subst e;obtain⟨o,e,c,d⟩:=st;exact⟨o,e,λv z=>by rw[d]at z;cases z⟩
 keep:=λi h h' st k=>let ⟨o,ho,r⟩:=st;⟨o,k it (by simp) o ho,r⟩
 item:=by
  intro X u hw q y i pins s σ H E I g st a;subst u hw q;obtain⟨j,l,C,m,n,p⟩:=g it (by simp);have a:i<x.cps.size:=a;refine wpAny_pyNext_ascii_item st (c:=x.cps[i]) (by simp[a]) λh' st' sb=>?_;have A:Inv X pins σ H {s with heap:=h',toks:=s.toks+1}:=I.turned (t':=s.toks+1) (λb o f e=>sb.extBut b o f e) j l m n p;obtain⟨o,e,c,d⟩:=id st';exact⟨_,rfl,a7d (s:={s with heap:=h',toks:=s.toks+1}) e c d (by decide) ⟨.str ⟨#[x.cps[i]]⟩,H,A,⟨_,rfl⟩,⟨rfl,_,by simp[a],rfl⟩,st',λb f=>(g b f).1⟩⟩
 done:=by
  intro X u hw q y i pins s σ H E I g st a;subst u hw q;obtain⟨j,l,C,m,n,p⟩:=g it (by simp);have a:x.cps.size<=i:=a;exact wpAny_pyNext_ascii_end (I.ok.hd y) st (by simp[a]) λh' B=>⟨rfl,I.turned (t':=s.toks) (λb o f e=>B b o f e) j l m n p⟩
 self:=λ_ _ _ _ _ st h=>wpAny_pyIter_striter_ascii st h
def b4r(tl:TE):TI:=λσ H R=>tl σ H λv H1=>∃x:Str,v=.str x/\x.cps.all (· < 128)=true/\R (Itc x) H1
section
variable {X:Cx}{tg:Expr}
theorem b2k{l:Expr}{tl:TE}(f:PE X l tl):PI X tg l (b4r tl):=by
 intro pins s σ H R I h;refine thn (f pins s σ H _ I h) λv s1 ⟨x,H1,a,g,q1⟩=>?_;obtain⟨x,rfl,c,q⟩:=q1;obtain⟨t,rfl⟩:=g;refine wpAny_pyIter_ascii c ?_;refine⟨s1.heap.objs.size,[s1.heap.objs.size],_,_,H1,rfl,a.kept (t':=s1.toks) λb o e=>Heap.get?_push_of_some _ e,a7q _ x t,⟨_,Heap.get?_push_size _ rfl,rfl,rfl⟩,λb d=>?_,q⟩;have e:b=s1.heap.objs.size:=by simpa using d
 subst e;exact a.fpOk (Nat.le_refl _) (a.hok.fresh (Nat.le_refl _))
theorem a6V{l:Expr}{tl:TE}(a:JE X l tl):JI X tg l (b4r tl):=⟨b2k a.h⟩
end
theorem a8m{src:List (Option Nat)}{g:TG}{f:TT}{te:TE}{σ:St}{Q:VK}{x:Str}{H1:Hp}(hn:x.cps.size<=sizeLine)(a:Nat->List V->Hp->Prop)(h0:a 0 [] H1)
  (e:∀i ys H,a i ys H->ys.length<=i)
  (hs:∀i c ys H,x.cps[i]?=some c->a i ys H->g (.str ⟨#[c]⟩) (D6 src σ) H λσ2 H2=>Sub (D6 src σ) σ2/\f σ2 H2 λb d=>if b=true then te σ2 d λv h=>a (i+1) (ys++[v]) h else a (i+1) ys d)
  (hd:∀ys H,a x.cps.size ys H->∀p,H p=none->Q (.ref p) (upd H p (.lst ys))):U8 src g f te σ Q (Itc x) H1 :=
 a1g x.cps.size a h0 (λi ys H hi p=>⟨hi,by have:=e i ys H p;omega,λv H' y=>by obtain⟨rfl,c,j,rfl⟩:=y;exact hs i c ys _ j p⟩)
  λys H p=>⟨Nat.le_refl _,Nat.le_trans (e _ ys H p) hn,hd ys H p⟩
section
variable {prog:Program}{w:World}{A:Around}{E:Value->Shared->Prop}{s:Shared}
theorem a2q{T newId:String}{b:Value}{rest:List Value}{kw:List (Str×Value)}(e:typeLookup (.type T) "__init__"=pure (some (.builtin "object.__init__")))
  (f:Bind.madeBy (.type T)=pure (some newId)) (c:(some newId != some "object.__new__")=true) :
  Meets (Builtin.«object.__init__» ⟨b::rest,kw⟩) (λ_ R s=>s.TypeIs b T/\R (.ok (.ret .none)) s):=by
 refine Meets.of_wp λprog w A R s ⟨d,a⟩=>?_;cases rest with
 |nil =>
  cases kw with
  |nil=>exact wpAny_pure ⟨_,rfl,a⟩
  |cons y kw =>
   repeat (any_goals (first|assumption|wp_step))
   exact⟨_,rfl,a⟩
 |cons y rest =>
  repeat (any_goals (first|assumption|wp_step))
  exact⟨_,rfl,a⟩
theorem a5x{T newId:String}{Bn:Builtin}{args:List Value}{kw:List (Str×Value)}{S:PySem.Spec}{Q:Value->Shared->Prop}(a:TypeCalled T newId "object.__init__")
  (c:(some newId != some "object.__new__")=true) (l:checkTypeCall T ⟨args,kw⟩=pure ()) (b:checkBuiltinCall newId ⟨.type T::args,kw⟩=pure ())
  (d:∀obj,argsOk "object.__init__" ⟨obj::args,kw⟩) (k:entryFor table newId=some Bn) (g:Meets (Bn ⟨.type T::args,kw⟩) S)
  (h:S A.in1 (wants (λobj s₁=>s₁.TypeIs obj T/\Q obj s₁) E) s):wpAny (model prog w) A (call (.type T) args kw) Q E s:=by
 obtain⟨t,u,i⟩:=a.mro;have a1:=a.made;have m:=a.sub;refine wpAny_call (codeAny_of_tree ?_);show wpAny _ _ (callAny (.type T) _) _ _ _;refine wpAny_pure ⟨Code.quiet_builtin _ (by decide +kernel),codeAny_builtin F.entry_type_call ?_⟩;rw[Around.under_plain (weight_type_call_type T args kw) (units_type_call_type T args kw)];have n:=a.notType;have o:=a.canCreate
 repeat (any_goals (first|assumption|wp_step))
 refine codeAny_mono (codeAny_call_builtin a.plain k (wpAny_of_eq b (g prog w A.in1 _ s h))) λr s₁ e=>?_;rcases r with x|fl
 .exact e
 cases fl with
 |ret obj =>
  obtain⟨f,j⟩:=e;have p:=a.init.lookup;have q:=a.init.bind obj
  repeat (any_goals (first|assumption|wp_step))
  refine codeAny_mono (codeAny_call_builtin a.init.plain F.entry_object_init (a.init.check _ _ _ _ _ _ _ _ f (d obj) ((a2q a.init.lookup a.made c) prog w A.in1 (wants (λr s₂=>r=.none/\Q obj s₂) E) s₁ ⟨f,rfl,j⟩))) λr₂ s₂ hr₂=>?_;rcases r₂ with x|fl₂
  .exact hr₂
  cases fl₂ with
  |ret r =>
   obtain⟨rfl,j⟩:=hr₂
   repeat (any_goals (first|assumption|wp_step))
  |_=>exact hr₂.elim
 |_=>exact e.elim
theorem a8g{k:Bool}(l:Addr)(xs:Array Value)(t:Tok) :
  Meets (Builtin.«enumerate.__new__» ⟨[.type "enumerate",.ref l],[(Str.ofString "start",.int 1 t)]⟩) (λ_ R s=>SqAt k s.heap l xs /\
   R (.ok (.ret (.ref (s.heap.push (U6 k l)).objs.size))) {s with heap:=(s.heap.push (U6 k l)).push {cls:=.type "enumerate",data:=.fields #[.none,.bool false,.ref s.heap.objs.size,rawInt 1,.none,.none]}}) :=
 .of_wp λprog w A R s h=>by
  obtain⟨e,g,d,tk,os⟩:=s;obtain⟨b,h⟩:=h;have c:=sub_enumerate;have a:SqAt k (Shared.heap ⟨e,g,d,tk,os⟩) l xs:=b
  wp_walk using T4 a
  intro Γ p f;change wpAny _ _ (pure (_:Bool)) _ _ _;refine wpAny_pure ?_;refine b4O ?_ ?_
  .wp_walk using T4 a
   exact⟨_,rfl,h⟩
  .wp_walk using T4 a
   exact⟨_,rfl,h⟩
theorem a6o{k:Bool}{e it l:Addr}{i:Nat}{z:Int}{items:Array Value}{x a:Value}{Q:Value->Shared->Prop}(N:IsEnum s.heap e it z a)(J:ItAt k s.heap it l i)(V:SqAt k s.heap l items)(W:items[i]?=some x)(ne:e≠it)
  (U:∀(h':Heap) (t:Tok) (tk:Nat),IsEnumOut h' e it (z+1) x s.heap.objs.size->ItAt k h' it l (i+1)->h'.get? s.heap.objs.size=some {cls:=.type "tuple",data:=.seq #[.int z t,x]}->h'.objs.size=s.heap.objs.size+1 ->
   (∀b o,b≠e->b≠it->s.heap.get? b=some o->h'.get? b=some o)->Q (.ref s.heap.objs.size) {s with heap:=h',toks:=tk}) :
  wpAny (model prog w) A (Builtin.«enumerate.__next__» ⟨[.ref e],[]⟩) (λfin s'=>∃v,fin=.done (.ret v)/\Q v s') E s:=by
 show wpAny _ _ (field (.ref e) 2>>=_) _ _ _;refine wpAny_bind (wpAny_field N rfl (x:=.ref it) rfl ?_);refine wpAny_bind (a0Q J V W λh1 L u=>?_);have h:IsEnum h1 e it z a:=u.extBut _ _ ne N;show wpAny _ _ (field (.ref e) 3>>=_) _ _ _;refine wpAny_bind (wpAny_field h rfl (x:=rawInt z) rfl ?_);show wpAny _ _ (field (.ref e) 4>>=_) _ _ _;refine wpAny_bind (wpAny_field h rfl (x:=.none) rfl ?_);show wpAny _ _ (if (Value.none==Value.none)=true then _ else _) _ _ _;rw[if_pos (by decide)];refine wpAny_bind (wpAny_mkInt ?_);refine wpAny_bind (wpAny_setField_rec (s:={s with heap:=h1,toks:=s.toks+1}) h (by simp) λh2 j y=>?_);replace j:IsEnum h2 e it (z+1) a:=j;refine wpAny_bind (wpAny_setField_rec (s:={s with heap:=h2,toks:=s.toks+1}) j (by simp) λd f B=>?_);replace f:IsEnum d e it (z+1) a:=f;refine wpAny_bind (wpAny_newTuple ?_);have K:d.objs.size=s.heap.objs.size:=by rw[B.1,y.1,u.1]
 have r:e<d.objs.size:=Heap.lt_size f;have m:IsEnum (d.push {cls:=.type "tuple",data:=.seq #[.int z s.toks,x]}) e it (z+1) a:=Heap.get?_push_of_some _ f;refine wpAny_bind ?_;unfold Builtin.SmallTypes.ownedTupleIsFree;refine wpAny_bind (wpAny_field m rfl (x:=.none) rfl (wpAny_pure ?_));show wpAny _ _ (if (Value.none==Value.none)=true then _ else _) _ _ _;rw[if_pos (by decide)];refine wpAny_bind (wpAny_rule ?_);refine wpAny_bind (wpAny_field m rfl (x:=a) rfl ?_);refine wpAny_bind (wpAny_setField_rec m (by simp) λS n C=>?_);replace n:IsEnum S e it (z+1) x:=n;refine wpAny_bind ?_;unfold Builtin.SmallTypes.ownedTupleHandOut;refine wpAny_bind (wpAny_setField_rec n (by simp) λT p D=>?_);replace p:IsEnumOut T e it (z+1) x d.objs.size:=p;refine wpAny_setField_rec p (by simp) λG g F=>?_;replace g:IsEnumOut G e it (z+1) x d.objs.size:=g;refine wpAny_bind (wpAny_letGo ?_);have P:∀c o,c≠e->d.get? c=some o->G.get? c=some o:=λc o I q=>F.extBut _ _ I (D.extBut _ _ I (C.extBut _ _ I (Heap.get?_push_of_some _ q)));have M:G.get? d.objs.size=some {cls:=.type "tuple",data:=.seq #[.int z s.toks,x]}:=F.extBut _ _ (Nat.ne_of_gt r) (D.extBut _ _ (Nat.ne_of_gt r) (C.extBut _ _ (Nat.ne_of_gt r) (Heap.get?_push_size _ rfl)));have O:G.objs.size=d.objs.size+1:=by rw[F.1,D.1,C.1,Heap.size_push]
 refine wpAny_pure ⟨_,rfl,?_⟩;show Q (.ref d.objs.size) _;rw[K]at M O g⊢;refine U G s.toks (s.toks+1) g ((((L.extBut y.extBut ne.symm).extBut B.extBut ne.symm)).at λo q=>P it o ne.symm q) M O λb o H R q=>P b o H (B.extBut _ _ H (y.extBut _ _ H (u.extBut _ _ R q)))
theorem a8h{k:Bool}{e it l:Addr}{i:Nat}{z:Int}{items:Array Value}{f:Value}{Q:Fin->Shared->Prop}(m:A.handled=none)(j:IsEnum s.heap e it z f)(a:ItAt k s.heap it l i)(n:SqAt k s.heap l items)(p:items[i]?=none)
  (h:∀h' x,(∀c o,c≠e->c≠it->s.heap.get? c=some o->h'.get? c=some o)->(∃o,h'.get? x=some o/\o.cls=.type "StopIteration")->E (.ref x) {s with heap:=h'}) :
  wpAny (model prog w) A (Builtin.«enumerate.__next__» ⟨[.ref e],[]⟩) Q E s:=by
 show wpAny _ _ (field (.ref e) 2>>=_) _ _ _;refine wpAny_bind (wpAny_field j rfl (x:=.ref it) rfl ?_);exact wpAny_bind (a3Q m a n p λh1 x b d=>h h1 x (λc o _ g q=>b _ _ g q) d)
theorem a1V(a v:Value):checkTypeCall "enumerate" ⟨[a],[(Str.ofString "start",v)]⟩=pure ():=by kernel_rfl
theorem a2Y(a v:Value):checkBuiltinCall "enumerate.__new__" ⟨[.type "enumerate",a],[(Str.ofString "start",v)]⟩=pure ():=by kernel_rfl
theorem a6u(a b v:Value):argsOk "object.__init__" ⟨[a,b],[(Str.ofString "start",v)]⟩:=by unfold argsOk;kernel_rfl
theorem a6p{k:Bool}{l:Addr}{xs:Array Value}{t:Tok}{Q:Value->Shared->Prop}(b:SqAt k s.heap l xs)
  (h:∀h',IsEnum h' (s.heap.objs.size+1) s.heap.objs.size 1 .none->ItAt k h' s.heap.objs.size l 0->h'.objs.size=s.heap.objs.size+2->(∀c o,s.heap.get? c=some o->h'.get? c=some o)->Q (.ref (s.heap.objs.size+1)) {s with heap:=h'}) :
  wpAny (model prog w) A (call (.type "enumerate") [.ref l] [(Str.ofString "start",.int 1 t)]) Q E s:=by
 refine a5x F.called_enumerate (by decide) (a1V _ _) (a2Y _ _) (λobj=>a6u obj _ _) F.entry_enumerate_new (a8g (k:=k) l xs t) ⟨b,?_⟩;have d:(s.heap.push (U6 k l)).objs.size=s.heap.objs.size+1:=Heap.size_push ..;have a:((s.heap.push (U6 k l)).push {cls:=.type "enumerate",data:=.fields #[.none,.bool false,.ref s.heap.objs.size,rawInt 1,.none,.none]}).get? (s.heap.push (U6 k l)).objs.size=some _:=Heap.get?_push_size _ rfl;have e:((s.heap.push (U6 k l)).push {cls:=.type "enumerate",data:=.fields #[.none,.bool false,.ref s.heap.objs.size,rawInt 1,.none,.none]}).get? s.heap.objs.size=some (U6 k l):=Heap.get?_push_of_some _ (Heap.get?_push_size _ rfl);show _/\_;rw[d]at a;rw[d];refine⟨⟨_,a,rfl⟩,h _ a ?_ (by rw[Heap.size_push,d]) λc o x=>Heap.get?_push_of_some _ (Heap.get?_push_of_some _ x)⟩;cases k<;>exact⟨_,e,rfl,rfl⟩
end
def It1(K:PySem.W.Frag)(k:Bool)(a:Addr):It :=
 ⟨λi H=>∃xs x,SqK k K H a xs/\xs[i]?=some x,
  λi H v H'=>∃p x,v=.ref p/\H p=none/\H'=upd H p (.tup [.int (1+i),x])/\∀xs,SqK k K H a xs->xs[i]?=some x,
  λi H=>∃xs,SqK k K H a xs/\xs.length<=i⟩
structure ETurn1(k:Bool)(e it a:Addr)(i:Nat)(h:Heap):Prop where
 en:∃old,IsEnum h e it (1+(i:Int)) old
 t1:ItAt k h it a i
theorem a5F{P:Program}{w:World}{K:PySem.W.Frag}{es:List Expr}{kt:Nat}{tp:Pos}{k:Bool}{a e it:Addr}(ne:e≠it) :
  Turn P w K (.Tuple es kt tp) (It1 K k a) [e,it] e (λi h=>ETurn1 k e it a i h) where
 mem:=by simp
 obj:=λi h st c f=>by
  simp only[List.mem_cons,List.not_mem_nil,or_false]at f;rcases f with rfl|rfl
  .obtain⟨l,q⟩:=st.en;exact⟨_,q,λv z=>by cases z⟩
  .obtain⟨o,e,d⟩:=st.t1.get;exact⟨o,e,λv z=>by rw[d]at z;cases z⟩
 keep:=λi h h' st k=>⟨let ⟨l,q⟩:=st.en;⟨l,k e (by simp) _ q⟩,st.t1.at λo q=>k it (by simp) o q⟩
 item:=by
  intro X D hw C f i pins s σ H E I y st J;subst D hw C;obtain⟨xs,x,j,B⟩:=J;obtain⟨us,N,M,zu⟩:=I.sqk j;obtain⟨u,hu,O⟩:=N.get B;obtain⟨l,g⟩:=st.en;have p:s.TypeIs (.ref e) "enumerate":=⟨_,g,rfl⟩;unfold pyNext;refine wpAny_bind (wpAny_attempt (wpAny_callSpecial?_slot (name:=Str.ofString "__next__") p F.slot_enumerate_next
   (wpAny_call_entry F.slot_enumerate_next p F.entry_enumerate_next
    (a6o g st.t1 M (x:=u) (by simpa using hu) ne λh' t tk a1 V W a4 Y=>wpAny_pure ?_) (F.args_enumerate_next_1 _))))
  refine⟨_,rfl,?_⟩;refine wpAny_letOwnedTupleGo_enum (s:={s with heap:=h',toks:=tk}) a1 λh2 G n=>?_;have r:∀c∈[e,it],c≠s.heap.objs.size:=λc f q=>by
   have:∃o,s.heap.get? c=some o:=by
    simp only[List.mem_cons,List.not_mem_nil,or_false]at f;rcases f with rfl|rfl
    .exact⟨_,g⟩
    .obtain⟨o,e,d⟩:=st.t1.get;exact⟨o,e⟩
   obtain⟨o,z⟩:=this;exact absurd (Heap.lt_size z) (by rw[q];exact Nat.lt_irrefl _)
  have m:H s.heap.objs.size=none:=I.hok.fresh (Nat.le_refl _);have L:=n.extBut _ _ (r e (by simp)).symm W;have kk:∀c o,c∉[e,it]->s.heap.get? c=some o->h2.get? c=some o:=λc o f q=>by
   simp only[List.mem_cons,List.not_mem_nil,or_false,not_or]at f;exact n.extBut _ _ f.1 (Y c o f.1 f.2 q)
  have S:Inv X pins σ (upd H s.heap.objs.size (.tup [.int (1+i),x])) {s with heap:=h2} :=
   I.turnedT (ch:=[e,it]) y rfl kk ⟨by show 2<=sizeLine;decide,[.int (1+i) t,u],.cons ⟨t,rfl⟩ (.cons O .nil),⟨_,L,rfl,0,rfl⟩⟩
  have U:=S.tok tk;refine⟨.ref s.heap.objs.size,_,U,rfl,⟨_,x,rfl,m,rfl,λzs hz=>?_⟩,⟨⟨_,(show(1:Int)+((i+1:Nat):Int)=1+i+1 by omega) ▸ G⟩,V.extBut n.extBut ne.symm⟩,λc f=>?_⟩
  .rw[I.sqk_inj hz j];exact B
  .rw[A5 (r c f)];exact(y c f).1
 done:=by
  intro X D hw C f i pins s σ H E I y st J;subst D hw C;obtain⟨xs,j,R⟩:=J;obtain⟨us,N,M,zu⟩:=I.sqk j;have l1:=N.length;obtain⟨l,g⟩:=st.en;have p:s.TypeIs (.ref e) "enumerate":=⟨_,g,rfl⟩;unfold pyNext;refine wpAny_bind (wpAny_attempt (wpAny_callSpecial?_slot (name:=Str.ofString "__next__") p F.slot_enumerate_next
   (wpAny_call_entry F.slot_enumerate_next p F.entry_enumerate_next (a8h (I.ok.hd f) g st.t1 M (by simp;omega) λh' x Z B=>?_) (F.args_enumerate_next_1 _))))
  obtain⟨o,ho,f⟩:=B;refine wpAny_bind (wpAny_isInstance (T:="StopIteration") (b:=true) ⟨o,ho,f⟩ isSubtype_stop ?_);refine wpAny_pure ⟨rfl,I.turnedL (ch:=[e,it]) y λc o f q=>?_⟩;simp only[List.mem_cons,List.not_mem_nil,or_false,not_or]at f;exact Z c o f.1 f.2 q
 self:=λA i s Q E st h=>let ⟨_,q⟩:=st.en;wpAny_pyIter_enum q h
def b6D(K:PySem.W.Frag)(ta:TA):TI:=λσ H R=>ta σ H λvs H1=>∃k a,vs=[.ref a]/\(∃xs,SqK k K H1 a xs)/\R (It1 K k a) H1
section
variable {M:Model}{A:Around}{E:Value->Shared->Prop}{s:Shared}{env:Env}
theorem a2N{pos:Pos}{T:String}{e:Expr}{rest:List Expr}{kws:List Keyword}{Q:Value->Shared->Prop}
  (h:wpAny M A (spliced (backTo pos (starEach (e::rest) env))) (λvs s₁=>wpAny M A (evalAll ((backToKw pos (keywordEach kws env)).map (·.2))) (λkvs s₂=>wpAny M A (call (.type T) vs (((backToKw pos (keywordEach kws env)).filterMap (·.1)).zip kvs)) Q E s₂) E s₁) E s)
  (c:backTo pos (starEach (e::rest) env)=(false,eval e env)::backTo pos (starEach rest env):=by rfl)
  (f:(backTo pos (starEach (e::rest) env)).any (·.1)=false:=by rfl) (b:(backToKw pos (keywordEach kws env)).all (·.1.isSome)=true:=by rfl) (d:(backToKw pos (keywordEach kws env)).any (·.1.isNone)=false:=by rfl) :
  wpAny M A (callWith pos (.type T) [] (backTo pos (starEach (e::rest) env)) (backToKw pos (keywordEach kws env))) Q E s:=by
 have h2:wpAny M A (evalArgs (.type T) true (backTo pos (starEach (e::rest) env)) (backToKw pos (keywordEach kws env))) (λa s₁=>wpAny M A (call (.type T) ([]++a.pos) a.kw) Q E s₁) E s:=by
  rw[c]at h⊢;exact evalArgs_kwB b h
 unfold callWith;refine wpAny_bind (wpAny_holding (wpAny_mono h2 (λa s₁ h₁=>wpAny_bind (wpAny_standAt ?_)) λ_ _ x=>x));simp only[f,d,Bool.or_false];refine wpAny_bind (wpAny_pure ?_);exact wpAny_bind (wpAny_mono h₁ (λr s₂ g=>wpAny_bind (wpAny_holding (wpAny_point (wpAny_pure g)))) λ_ _ x=>x)
end
section
variable {X:Cx}
theorem b0B(K:PySem.W.Frag){es:List Expr}{t:Nat}{x:Pos}{a:Expr}{ta:TA}{p pos kp np:Pos}{nk:Nat}(n:Gl X "enumerate")(o:X.mg "enumerate"=none)(l:JA X [a] ta)(j:X.K=K:=by rfl)
  (m:backTo pos (starEach [a] X.env)=(false,eval a X.env)::backTo pos (starEach [] X.env):=by rfl) (hpl:(backTo pos (starEach [a] X.env)).any (·.1)=false:=by rfl) :
  JI X (.Tuple es t x) (.Call (.Name "enumerate" p) [a] [⟨some "start",.Constant (.int 1) nk np,kp⟩] pos) (b6D K ta):=by
 subst j;refine⟨λpins s σ H R I h=>?_⟩;refine wpAny_Call_Name_kw (a0H I n o a4B ?_ (by decide) (by decide));refine a2N (thn (l.h pos pins s σ H _ I h) λy s1 ⟨vs,H1,i,w,q1⟩=>?_) m hpl;refine kws_cons (wpAny_Constant_int (kws_nil ?_));obtain⟨k,B,rfl,⟨xs,r⟩,q⟩:=q1;obtain⟨u,rfl,f⟩:=w.one;cases f;have d:=i.tok (s1.toks+1);obtain⟨y,f,v,D⟩:=d.sqk r;refine a6p v λh' g z C A=>?_;refine wpAny_pyIter_enum (s:={s1 with heap:=h',toks:=s1.toks+1}) g ?_;refine⟨s1.heap.objs.size+1,[s1.heap.objs.size+1,s1.heap.objs.size],_,_,H1,rfl,d.kept (t':=s1.toks+1) A,a5F (nne (by omega)),⟨⟨_,g⟩,z⟩,λc e=>?_,q⟩;have b:s1.heap.objs.size<=c:=by
  simp only[List.mem_cons,List.not_mem_nil,or_false]at e;rcases e with rfl|rfl
  .exact Nat.le_add_right _ _
  .exact Nat.le_refl _
 exact d.fpOk b (d.hok.fresh b)
end
theorem a8e{K:PySem.W.Frag}{k:Bool}{a:Addr}{xs:List V}{g:TG}{tb:TS}{D:Ends}{σ:St}{H:Hp}(b:Nat->St->Hp->Prop)(h0:b 0 σ H)
  (h:∀i σ H,i<=xs.length->b i σ H->SqK k K H a xs)
  (hs:∀i x σ H p,xs[i]?=some x->b i σ H->H p=none->g (.ref p) σ (upd H p (.tup [.int (1+i),x])) λσ2 H2=>tb {D with nx:=b (i+1),ct:=b (i+1),bk:=D.nx} σ2 H2) (hd:∀σ H,b xs.length σ H->D.nx σ H) :
  ∃W:Nat->Nat->St->Hp->Prop,(∃m,W 0 m σ H)/\∀i m σ H,W i m σ H ->
   ((It1 K k a).stop i H/\D.nx σ H)∨((It1 K k a).go i H/\∃N:St->Hp->Prop,(∀σ' H',N σ' H'->∃d,d<m/\W (i+1) d σ' H')/\∀x H',(It1 K k a).yld i H x H'->g x σ H' λσ2 H2=>tb {D with nx:=N,ct:=N,bk:=D.nx} σ2 H2):=by
 refine⟨λi m σ H=>m=xs.length-i/\i<=xs.length/\b i σ H,⟨_,rfl,Nat.zero_le _,h0⟩,?_⟩;rintro i m σ H ⟨rfl,hi,p⟩;have q1:=h i σ H hi p;by_cases c:i<xs.length
 .refine .inr ⟨⟨xs,xs[i],q1,List.getElem?_eq_getElem c⟩,b (i+1),λσ' H' p'=>⟨_,by omega,rfl,c,p'⟩,λx H' y=>?_⟩;obtain⟨j,x',e,e2,f,l⟩:=y;subst e f;exact hs i x' σ _ j (l xs q1) p e2
 .have e:i=xs.length:=by omega
  subst e;exact .inl ⟨⟨xs,q1,Nat.le_refl _⟩,hd σ H p⟩
def b7U:R2:=λx y H Q=>∃(c:Nat) (z:Str),x=.str ⟨#[c]⟩/\y=.str z/\Q (.bl (decide (c∈z.cps.toList))) H
def b7Q:RL:=λxs H Q=>∃z:Str,xs=[.str z]/\z.length<=sizeLine/\Q (.int z.length) H
def b4L(i j:Int):Prop:=0<j/\j<10 ^ 100
section
variable {X:Cx}{a b c e o i:Expr}{ta tb tc td ty te tv:TE}{t:TA}{p pos:Pos}
theorem b5U:OpR X (compareOp .In) b7U:=by
 intro pins s σ H x y v u Q I a b h;obtain⟨c,z,rfl,rfl,q⟩:=h;obtain⟨t,rfl⟩:=a;obtain⟨t',rfl⟩:=b;refine PySem.P.in_str ?_;rw[StrLaws.found_one];exact⟨.bl _,H,I,rfl,q⟩
theorem b0u(c:JE X a ta)(d:JE X b tb)(e:behindInMarks .In b=false):JE X (.Compare a [.In] [b] pos) (tOp b7U ta tb):=⟨a1L b5U c.h d.h e⟩
theorem a4k(c:Gl X "len")(d:X.mg "len"=none)(a:JA X [e] t)(b:starEach [e] X.env=(false,eval e X.env)::starEach [] X.env:=by rfl)(hpl:(backTo pos (starEach [] X.env)).any (·.1)=false:=by rfl):JE X (.Call (.Name "len" p) [e] [] pos) (tCB b7Q t):=⟨N4 a4y c d a6t a.h (by decide) (by decide) b hpl⟩
theorem b4o(c:JE X a ta)(d:JE X b tb)(hs:a1i b:=by intro _ _;rfl):JE X (.Subscript a b pos) (tOp b5f ta tb):=⟨a6N b0G c.h d.h hs⟩
theorem b3a(d:JE X a ta)(e:JE X b tb)(f:JE X c tc)(g:lastMarks [.LtE,.LtE] [b,c]=false:=by with_unfolding_all rfl):JT X (.Compare a [.LtE,.LtE] [b,c] pos) (O7 (a3O (rI0 λi j=>.bl (decide (i<=j))) (rI0 λi j=>.bl (decide (i<=j))) ta tb tc)):=⟨a9D a4T a4T d.h e.h f.h g⟩
theorem a9Z:OpR X (binaryOp .FloorDiv) (rI b4L λi j=>.int (i / j)):=opI λi j _ _ _ _ _ a q=>by
 have h1:(0:Int)<j:=a.1;have h2:j<10 ^ 100:=a.2;refine floordiv_int (by omega) (by rw[Int.fdiv_eq_ediv_of_nonneg i (by omega)];exact q) (.inl (PyProof.noPylong_of_log2 ?_));refine(Nat.log2_lt (by omega)).mpr ?_;have b:j.natAbs<10 ^ 100:=by omega
 exact Nat.lt_trans b (by decide +kernel)
theorem b3i(c:JE X a ta)(d:JE X b tb):JE X (.BinOp a .FloorDiv b pos) (tOp (rI b4L λi j=>.int (i / j)) ta tb):=⟨X2 a9Z c.h d.h⟩
theorem U4(b:X.A.units+60<cLine)(a:JE X o td)(hi:JE X i ty)(hs:b6Z i:=by intro _ _;rfl):JE X (.Subscript o i pos) (b3H td ty):=⟨b2s (by omega) a.h hi.h hs⟩
end
structure JPs(X:Cx)(pos:Pos)(keys:List (Option Expr))(values:List Expr)(trs:List (TE×TE)):Prop where
 h:PPs X pos keys values trs
section
variable {X:Cx}{pos:Pos}{k v:Expr}{ks:List (Option Expr)}{vs:List Expr}{tk tv:TE}{trs:List (TE×TE)}
theorem b6p:JPs X pos [] [] []:=⟨b1Z⟩
theorem a1M(a:JE X k tk)(c:JE X v tv)(b:JPs X pos ks vs trs):JPs X pos (some k::ks) (v::vs) ((tk,tv)::trs):=⟨a9I a.h c.h b.h⟩
theorem b6v(h:JPs X pos (some k::ks) (v::vs) trs)(a:(some k::ks).all (·.isSome)=true:=by rfl)(c:(some k::ks).length=(v::vs).length:=by rfl)(b:(some k::ks).length<=15:=by decide):JE X (.Dict (some k::ks) (v::vs) pos) (b3G trs):=⟨b2r h.h a c (by intro z;cases z) b⟩
end
abbrev TF:=St->Hp->Str->(Str->Hp->Prop)->Prop
def b8r:TF:=λ_ H acc Q=>Q acc H
def b8s(te:TE)(t:TF):TF:=λσ H acc Q=>te σ H λv H1=>∃x,v=.str x/\(acc++x).length<=sizeLine/\t σ H1 (acc++x) Q
def b8t(te:TE)(t:TF):TF:=λσ H acc Q=>te σ H λv H1=>(∃x,v=.str x/\x.length<=sizeLine/\(acc++x).length<=sizeLine/\t σ H1 (acc++x) Q)∨∃n:Nat,v=.int n/\n<10 ^ 570/\(acc++G3 n).length<=sizeLine/\t σ H1 (acc++G3 n) Q
def tFs(t:TF):TE:=λσ H Q=>t σ H Str.empty λx H1=>x.length<=sizeLine/\Q (.str x) H1
structure JFs(X:Cx)(es:List Expr)(t:TF):Prop where
 h:∀(pins:List (Addr×Obj)) (s:Shared) (σ:St) (H:Hp) (acc:Str) (Q:Str->Hp->Prop),Inv X pins σ H s->t σ H acc Q->Joins (model X.prog X.w) X.A X.xe (evalEach es X.env) acc (λx s1=>∃H1,Inv X pins σ H1 s1/\Q x H1) s
section
variable {X:Cx}{e e1 e2:Expr}{es:List Expr}{te:TE}{t:TF}{pos:Pos}
theorem B3:JFs X [] b8r:=⟨λpins s σ H a Q I h=>⟨H,I,h⟩⟩
theorem A3(c:JE X e te)(f:JFs X es t):JFs X (e::es) (b8s te t):=⟨λpins s σ H b Q I h=>by
 show wpAny _ _ (eval e X.env) _ _ s;refine thn (c.h pins s σ H _ I h) λv s1 ⟨x,H1,a,i,y,g,d,q⟩=>?_;subst g;obtain⟨tk,rfl⟩:=i;exact⟨y,tk,rfl,d,f.h pins s1 σ H1 _ Q a q⟩⟩
theorem A6(i:JE X e te)(c:JFs X es t):JFs X (.FormattedValue e (-1) none pos::es) (b8t te t):=⟨λpins s σ H f Q I h=>by
 show wpAny _ _ (eval (.FormattedValue e (-1) none pos) X.env) _ _ s;refine wpAny_FormattedValue_plain (thn (i.h pins s σ H _ I h) λv s1 ⟨x,H1,b,d,q⟩=>?_);rcases q with⟨y,rfl,j,a,q⟩|⟨n,rfl,hn,a,q⟩
 .obtain⟨tk,rfl⟩:=d;exact wpAny_formatField_str ⟨y,tk,rfl,a,c.h pins s1 σ H1 _ Q b q⟩ ⟨y,_,rfl,a,c.h pins _ σ H1 _ Q (b.tok _) q⟩ j
 .obtain⟨tk,rfl⟩:=d;refine wpAny_formatField_int ?_ ⟨_,_,rfl,a,c.h pins _ σ H1 _ Q (b.tok _) q⟩;by_cases g:n=0
  .subst g;decide
  .exact(Nat.log2_lt (show(n:Int).natAbs≠0 by omega)).mpr (by rw[Int.natAbs_natCast];exact Nat.lt_trans hn (by decide +kernel))⟩
theorem a5i{M:Model}{A:Around}{E:Value->Shared->Prop}{Q b:Str->Shared->Prop}:∀(ps:List (Sem Value)) (a:Str) (s:Shared),Joins M A E ps a Q s->(∀x s1,Q x s1->b x s1)->Joins M A E ps a b s
 |[],_,_,h,k=>k _ _ h
 |_::ps,_,_,h,k=>thn h λ_ s1 ⟨y,tk,e,c,q⟩=>⟨y,tk,e,c,a5i ps _ s1 q k⟩
theorem D9(h:JFs X (e1::e2::es) t):JE X (.JoinedStr (e1::e2::es) pos) (tFs t):=⟨λpins s σ H Q I q=>by
 refine wpAny_JoinedStr ?_;exact a5i _ _ _ (h.h pins s σ H Str.empty _ I q) λx s1 ⟨H1,a,b,q1⟩=>⟨b,.str x,H1,a.tok _,⟨_,rfl⟩,q1⟩⟩
end
section
variable {X:Cx}{a b c:Expr}{ta tb tc:TE}{pos:Pos}
theorem b2Z(d:JE X a ta)(e:JE X b tb)(f:JE X c tc)(g:lastMarks [.LtE,.LtE] [b,c]=false:=by with_unfolding_all rfl):JE X (.Compare a [.LtE,.LtE] [b,c] pos) (a3O (rI0 λi j=>.bl (decide (i<=j))) (rI0 λi j=>.bl (decide (i<=j))) ta tb tc):=⟨a9V a4T a4T d.h e.h f.h g⟩
end
def a9A:V->List V->Hp->VK->Prop:=λx vs H Q=>∃(l:Addr) (xs:List V) (y:V),x=.ref l/\vs=[y]/\H l=some (.lst xs)/\M3 y=true/\xs.all M3=true/\Q (.int (xs.countP λz=>eqV z y)) H
def a6K:V->List V->Hp->VK->Prop:=λx vs H Q=>∃(l:Addr) (xs:List V) (y:V) (k:Nat),x=.ref l/\vs=[y]/\H l=some (.lst xs)/\M3 y=true/\xs.all M3=true/\k<xs.length/\(∀z,xs[k]?=some z->eqV z y=true)/\(∀j z,j<k->xs[j]?=some z->eqV z y=false)/\Q (.int k) H
section
variable {X:Cx}
def bkV:Value->V
 |.none=>.non
 |.bool b=>.bl b
 |.int i _=>.int i
 |.str x _=>.str x
 |_=>.non
theorem b4H:∀{x:V}{v:Value},M3 x=true->RelV x v->bkV v=x
 |.non,_,_,h=>by cases h;rfl
 |.bl b,_,_,h=>by cases h;rfl
 |.int i,_,_,h=>by obtain⟨_,rfl⟩:=h;rfl
 |.str i,_,_,h=>by obtain⟨_,rfl⟩:=h;rfl
theorem a7h{xs:List V}{b:List Value}(r:Vals xs b)(i:xs.all M3=true)(y:V){u:Value}(l:M3 y=true)(m:RelV y u):∃e:Value->Bool,(∀(j:Nat) x v,xs[j]?=some x->b[j]?=some v->e v=eqV x y):=by
 classical
 refine⟨λv=>decide (∃x,M3 x=true/\RelV x v/\eqV x y=true),λj x v g k=>?_⟩;obtain⟨n,a,h⟩:=r.get g;rw[k]at a;cases a;have f:M3 x=true:=List.all_eq_true.mp i x (List.mem_of_getElem? g);cases e:eqV x y with
 |true=>exact decide_eq_true ⟨x,f,h,e⟩
 |false =>
  refine decide_eq_false ?_;rintro⟨x',c,d,e'⟩;have:x'=x:=by rw[<-b4H f h,b4H c d]
  rw[this,e]at e';cases e'
theorem b0o(D:X.A.units+60<cLine):MtM X "list.count" a9A:=by
 intro pins s σ H x vs v E Q I C B h;obtain⟨l,xs,y,rfl,rfl,m,k,fs,q⟩:=h;cases C;obtain⟨u,rfl,o⟩:=B.one;obtain⟨z,a,n,r,p,e⟩:=I.lstM m;obtain⟨f,b⟩:=a7h r fs y k o;refine call_meets F.slot_list_count ⟨_,e,rfl⟩ F.entry_list_count (F.args_list_count_2 _ _) (SeqAt.list_countAt l a.toArray n _ _ u f) ⟨e,λw hw=>?_,.int (xs.countP λz=>eqV z y),H,I.tok _,?_,q⟩
 .obtain⟨j,hj⟩:=List.mem_iff_getElem?.mp (show w∈a by simpa using hw);have c:j<xs.length:=by rw[p];exact(List.getElem?_eq_some_iff.mp hj).1
  have g:=List.getElem?_eq_getElem c;obtain⟨G,d,i⟩:=r.get g;rw[hj]at d;cases d;rw[b j _ _ g hj];exact EqV.at (n:=0) I (.flat (List.all_eq_true.mp fs _ (List.getElem_mem c)) k) (by show X.A.units+1+0<cLine;omega) i o
 .have:List.countP f a=List.countP (λz=>eqV z y) xs:=by
   clear q e m;have key:∀(xs:List V) (a:List Value),Vals xs a->(∀(j:Nat) x v,xs[j]?=some x->a[j]?=some v->f v=eqV x y)->List.countP f a=List.countP (λz=>eqV z y) xs:=by
    intro xs a r;induction r with
    |nil=>intro _;rfl
    |cons r1 _ A =>
     intro h;rw[List.countP_cons,List.countP_cons,A λj x v g t=>h (j+1) x v g t,h 0 _ _ rfl rfl]
   exact key xs a r b
  refine⟨s.toks,?_⟩;rw[show(a.toArray.toList)=a by simp,this]
theorem a7Q(L:X.A.units+60<cLine):MtM X "list.index" a6K:=by
 intro pins s σ H x vs v M Q I K J h;obtain⟨l,xs,y,k,rfl,rfl,G,A,fs,B,i,o,q⟩:=h;cases K;obtain⟨u,rfl,D⟩:=J.one;obtain⟨z,c,n,r,C,e⟩:=I.lstM G;obtain⟨E,b⟩:=a7h r fs y A D;have f:k<c.toArray.size:=by rw[List.size_toArray,<-C];exact B
 refine call_meets F.slot_list_index ⟨_,e,rfl⟩ F.entry_list_index (F.args_list_index_2 _ _) (SeqAt.list_indexAt l c.toArray n _ _ u E k f (by have:=z;rw[sizeLine_eq]at this;omega) ?_ ?_) ⟨e,λw hw=>?_,.int k,H,I.tok _,⟨_,rfl⟩,q⟩
 .have a:=List.getElem?_eq_getElem B;rw[b k _ _ a (by simpa using f)];exact i _ a
 .intro m hm hmk;have p:m<xs.length:=by omega
  have a:=List.getElem?_eq_getElem p;rw[b m _ _ a (by simpa using hm)];exact o m _ hmk a
 .obtain⟨j,hj⟩:=List.mem_iff_getElem?.mp (show w∈c by simpa using hw);have d:j<xs.length:=by rw[C];exact(List.getElem?_eq_some_iff.mp hj).1
  have a:=List.getElem?_eq_getElem d;obtain⟨N,g,t⟩:=r.get a;rw[hj]at g;cases g;rw[b j _ _ a hj];exact EqV.at (n:=0) I (.flat (List.all_eq_true.mp fs _ (List.getElem_mem d)) A) (by show X.A.units+1+0<cLine;omega) t D
variable {o e:Expr}{es:List Expr}{to:TE}{t:TA}{apos cpos:Pos}
theorem b0A(K:PySem.W.Frag)(i:X.A.units+60<cLine)(h:JE X o to)(g:JA X (e::es) t)(f:X.K=K:=by rfl)(b:attributeBase o "count" X.env (eval o X.env)=eval o X.env:=by rfl)
  (d:((backTo cpos (starEach (e::es) X.env)).all (λx=>!x.1) && (backToKw cpos (keywordEach [] X.env)).all (λx=>x.1.isSome) && decide ((e::es).length+([]:List Keyword).length+(if ([]:List Keyword).isEmpty then 0 else 1)<30))=true:=by rfl)
  (c:(apos.endLine==cpos.line)=true:=by rfl) (hs:starEach (e::es) X.env=(false,eval e X.env)::starEach es X.env:=by rfl) (a:(backTo cpos (starEach es X.env)).any (·.1)=false:=by rfl) :
  JE X (.Call (.Attribute o "count" apos) (e::es) [] cpos) (tBM K "list" a9A to t):=⟨a0G K PySem.F.plainAttrs_list PySem.F.slot_list_count PySem.F.type_list_count (b0o i) h.h g.h f b d c hs a⟩
theorem a7Y(K:PySem.W.Frag)(i:X.A.units+60<cLine)(h:JE X o to)(g:JA X (e::es) t)(f:X.K=K:=by rfl)(b:attributeBase o "index" X.env (eval o X.env)=eval o X.env:=by rfl)
  (d:((backTo cpos (starEach (e::es) X.env)).all (λx=>!x.1) && (backToKw cpos (keywordEach [] X.env)).all (λx=>x.1.isSome) && decide ((e::es).length+([]:List Keyword).length+(if ([]:List Keyword).isEmpty then 0 else 1)<30))=true:=by rfl)
  (c:(apos.endLine==cpos.line)=true:=by rfl) (hs:starEach (e::es) X.env=(false,eval e X.env)::starEach es X.env:=by rfl) (a:(backTo cpos (starEach es X.env)).any (·.1)=false:=by rfl) :
  JE X (.Call (.Attribute o "index" apos) (e::es) [] cpos) (tBM K "list" a6K to t):=⟨a0G K PySem.F.plainAttrs_list PySem.F.slot_list_index PySem.F.type_list_index (a7Q i) h.h g.h f b d c hs a⟩
theorem a4m{pos:Pos}:JE X (.Dict [] [] pos) a8V:=⟨a9S⟩
theorem b3j{apos cpos:Pos}{td ty:TE}(c:X.A.units+60<cLine)(b:JE X o td)(a:JE X e ty)(m:M1 X o "get" apos e cpos:=by exact⟨rfl,rfl,rfl,rfl⟩):JE X (.Call (.Attribute o "get" apos) [e] [] cpos) (a8X td ty):=⟨a9U (by omega) b.h a.h m⟩
theorem a4n{f:Expr}{apos cpos:Pos}{td ty tx:TE}(d:X.A.units+60<cLine)(c:JE X o td)(a:JE X e ty)(b:JE X f tx)(m:M2 X o "get" apos e f cpos:=by exact⟨rfl,rfl,rfl,rfl⟩):JE X (.Call (.Attribute o "get" apos) [e,f] [] cpos) (a8W td ty tx):=⟨a9T (by omega) c.h a.h b.h m⟩
end
end L2
namespace L2
namespace TabS
open PySem L2.Tab
structure CameS(rows:Nat->Str)(i:Nat)(D:List Str):Prop where
 nd:D.Nodup
 mem:∀x,x∈D↔∃j,j<i/\x=rows j
 le:D.length<=i
abbrev SetS(prog:Program)(w:World)(h:Heap)(a:Addr)(D:List Str):Prop:=h.SetOf (strKind prog w) a (λk=>decide (k∈D)) D.length
section
variable {prog:Program}{w:World}{A:Around}{R:Result->Shared->Prop}{I:Addr}{fp wr:List Addr}{G:Array GenState->Array GenState->Prop}{n:Nat}{P:Nat->Value->Prop}{St:Nat->Shared->Prop}
theorem b8U{S:Addr}{D:List Str}{x:Str}{t:Tok}{s:Shared}{E:Value->Shared->Prop}{Q:Bool->Shared->Prop}(b:SetS prog w s.heap S D)(hn:D.length+1<scanBound)
  (h:∀h' c,Heap.SameBut S s.heap h'->SetS prog w h' S (if x∈D then D else x::D)->Q c {s with heap:=h',toks:=s.toks+1}):wpAny (model prog w) A (setAdd S (.str x t)) Q E s:=by
 unfold setAdd;have hi:(strKind prog w).is x (.str x t)=true:=by show Value.isStrOf x (.str x t)=true;simp[Value.isStrOf]
 refine wpAny_holding (wpAny_bind ((strKind prog w).pyHash hi ?_));refine wpAny_setAddHashed_of (s:={s with toks:=s.toks+1}) hi rfl b hn λh' d a=>h h' _ d ?_;by_cases c:x∈D
 .rw[if_pos c];refine PyProof.Rows.SetOf_congr a (λk=>?_) (by simp[c]);by_cases e:k=x
  .subst e;simp[c]
  .simp[e]
 .rw[if_neg c];refine PyProof.Rows.SetOf_congr a (λk=>?_) (by simp[c]);by_cases e:k=x
  .subst e;simp
  .simp[e]
theorem a8n{rows:Nat->Str}{i:Nat}{D:List Str}(h:CameS rows i D):CameS rows (i+1) (if rows i∈D then D else rows i::D):=by
 by_cases c:rows i∈D
 .rw[if_pos c];refine⟨h.nd,λx=>⟨λb=>?_,λ⟨j,a,e⟩=>?_⟩,by have:=h.le;omega⟩
  .obtain⟨j,a,e⟩:=(h.mem x).mp b;exact⟨j,by omega,e⟩
  .by_cases q:j=i
   .subst q;rw[e];exact c
   .exact(h.mem x).mpr ⟨j,by omega,e⟩
 .rw[if_neg c];refine⟨List.nodup_cons.mpr ⟨c,h.nd⟩,λx=>⟨λb=>?_,λ⟨j,a,e⟩=>?_⟩,by have:=h.le;rw[List.length_cons];omega⟩
  .rcases List.mem_cons.mp b with z|z
   .exact⟨i,by omega,z⟩
   .obtain⟨j,a,e⟩:=(h.mem x).mp z;exact⟨j,by omega,e⟩
  .by_cases q:j=i
   .subst q;rw[e];exact List.mem_cons_self
   .exact List.mem_cons_of_mem _ ((h.mem x).mpr ⟨j,by omega,e⟩)
theorem setS_at{h h':Heap}{a:Addr}{D:List Str}(x:SetS prog w h a D)(k:∀o,h.get? a=some o->h'.get? a=some o):SetS prog w h' a D:=by
 obtain⟨o,es,ep,t,e1,e2⟩:=x;exact⟨o,es,ep,t,k o e1,e2⟩
theorem a7u(W:WalksS prog w A.in1 I fp wr G n P St)(S:Addr)(l:S∉fp)(rows:Nat->Str)
  (y:∀i v,i<n->P i v->∃t,v=.str (rows i) t) (hn:n+1<scanBound) :
  ∀(k i:Nat) (s:Shared) (D:List Str),n-i=k->i<=n->St i s->SetS prog w s.heap S D->CameS rows i D ->
   (∀s' K,Moved (S::wr) G s s'->SetS prog w s'.heap S K->CameS rows n K->R (.ok (.ret .none)) s') ->
   codeAny (model prog w) A (.builtin "set.update.loop" ⟨[.ref S,.ref I],[]⟩) R s:=by
 have m:S∉wr:=λh=>l (W.sub _ h);have a:∀b∈wr,b∈S::wr:=λb p=>List.mem_cons_of_mem _ p;intro k;induction k with
 |zero =>
  intro i s D M hi f C B hR;have H:i=n:=by omega
  subst H;refine codeAny_builtin PyProof.Rows.F.entry_set_update_loop ?_;rw[Around.under_plainId PyProof.Rows.F.plain_set_update_loop _];show wpAny _ A.in1 (pyNext (.ref I)>>=_) _ _ s;refine wpAny_bind (W.done s _ _ f λs' q=>?_);show wpAny _ A.in1 (ret Value.none) _ _ s';exact wpAny_pure (hR s' D (q.mono a) (setS_at C λo e=>q.heap S _ m e) B)
 |succ k N =>
  intro i s D M hi f C B hR;have d:i<n:=by omega
  refine codeAny_builtin PyProof.Rows.F.entry_set_update_loop ?_;rw[Around.under_plainId PyProof.Rows.F.plain_set_update_loop _];show wpAny _ A.in1 (pyNext (.ref I)>>=_) _ _ s;refine wpAny_bind (W.item i s _ _ d f λv s' L x q=>?_);obtain⟨tk,rfl⟩:=y i v d L;have E:SetS prog w s'.heap S D:=setS_at C λo e=>q.heap S _ m e;show wpAny _ A.in1 (holding [Value.str (rows i) tk] (setAdd S (.str (rows i) tk))>>=_) _ _ s';refine wpAny_bind (wpAny_holding (b8U E (by have:=B.le;omega) λh' c u F=>?_));refine wpAny_pure ⟨plainId_quiet PyProof.Rows.F.plain_set_update_loop _,N (i+1) _ _ (by omega) d (W.frame _ s' _ _ x (Nat.le_add_right _ _) λb p o e=>?_) F (a8n B) λJ z r j g=>?_⟩
  .rw[u.2 b (λh:b=S=>l (by rw[<-h];exact p))];exact e
  .refine hR J z (Moved.trans W.gtrans ((q.mono a).then_heap (Nat.le_add_right _ _) λb o p e=>?_) r) j g;rw[u.2 b (λh:b=S=>p (by rw[h];exact List.mem_cons_self))];exact e
end
section
variable {prog:Program}{w:World}{A:Around}{E:Value->Shared->Prop}{s:Shared}
theorem b3q{b:Bool}{h:Heap}{a:Addr}(e:h.get? a=some {cls:=.type "set",dict:=none,data:=.set #[] 0 (.fresh 0 0 b)}):SetS prog w h a [] :=
 ⟨_,#[],0,_,e,⟨rfl,rfl,rfl⟩,rfl,(λe h=>nomatch h),(λk=>by simp),(by decide),(by rfl),rfl⟩
theorem call_set_strs{l:Addr}{items:Array Value}{rows:Nat->Str}{Q:Value->Shared->Prop}
  (hh:A.handled=none) (hl:s.heap.IsList l items) (y:∀i v,i<items.size->items[i]?=some v->∃t,v=.str (rows i) t) (hn:items.size+1<scanBound)
  (h:∀(h':Heap) (tk:Nat) (xs:List Str),SetS prog w h' s.heap.objs.size xs->CameS rows items.size xs ->
   (∀b o,b<s.heap.objs.size->s.heap.get? b=some o->h'.get? b=some o)->Q (.ref s.heap.objs.size) {s with heap:=h',toks:=tk}) :
  wpAny (model prog w) A (call (.type "set") [.ref l]) Q E s:=by
 obtain⟨c,tl,S⟩:=PySem.F.called_set.mro;have I:=PySem.F.called_set.made;have V:=PySem.F.called_set.sub;refine wpAny_call (codeAny_of_tree ?_);show wpAny _ _ (callAny (.type "set") _) _ _ _;refine wpAny_pure ⟨Code.quiet_builtin _ (by decide +kernel),codeAny_builtin PySem.F.entry_type_call ?_⟩;rw[Around.under_plain (weight_type_call_type "set" [.ref l] []) rfl];have h1:=PySem.F.called_set.notType;have h2:=PySem.F.called_set.canCreate;have a1:=PySem.F.typeCall_set_1 (.ref l)
 repeat (any_goals (first|assumption|wp_step))
 refine codeAny_mono (a2Z (.ref l) (E:=E) (Q₁:=λobj s₁=>obj=.ref s.heap.objs.size/\s₁={s with heap:=s.heap.push {cls:=.type "set",dict:=none,data:=.set #[] 0 (.fresh 0 0 (!w.params.followText "set-order"))}}) ⟨rfl,rfl⟩) λr s₁ J=>?_;cases r with
 |error e=>exact J
 |ok fl =>
  cases fl with
  |ret obj =>
   obtain⟨rfl,rfl⟩:=J;generalize a2:(!w.params.followText "set-order")=a;have O:(s.heap.push {cls:=.type "set",dict:=none,data:=.set #[] 0 (.fresh 0 0 a)}).get? s.heap.objs.size=some {cls:=.type "set",dict:=none,data:=.set #[] 0 (.fresh 0 0 a)}:=Heap.get?_push_size _ rfl;have hT:Shared.TypeIs {s with heap:=s.heap.push {cls:=.type "set",dict:=none,data:=.set #[] 0 (.fresh 0 0 a)}} (.ref s.heap.objs.size) "set":=⟨_,O,rfl⟩;have a3:=PySem.F.called_set.init.lookup;have a0:=PySem.F.called_set.init.bind (.ref s.heap.objs.size)
   repeat (any_goals (first|assumption|wp_step))
   refine codeAny_mono (codeAny_call_builtin (R:=wants (λr s₂=>r=.none/\∃h' tk xs,s₂={s with heap:=h',toks:=tk}/\SetS prog w h' s.heap.objs.size xs/\CameS rows items.size xs /\
     (∀b o,b<s.heap.objs.size->s.heap.get? b=some o->h'.get? b=some o)) E) PySem.F.called_set.init.plain PySem.F.entry_set_init (check_set_init_1 hT ?_)) λr₂ s₂ hr₂=>?_
   .obtain⟨ol,hol,hcl,nl,hdl⟩:=hl;obtain⟨W,k,K,d⟩:=ol;simp only at hcl hdl;subst hcl;subst hdl;have u:(s.heap.push {cls:=.type "set",dict:=none,data:=.set #[] 0 (.fresh 0 0 a)}).get? l=some {cls:=.type "list",dict:=k,data:=.seq items nl,slots:=d}:=Heap.get?_push_of_some _ hol;have U:=a3P;have T:=a0B;have a4:(Value.type "list"==Value.type "dict")=false:=by decide
    have n:(s.heap.push {cls:=.type "set",dict:=none,data:=.set #[] 0 (.fresh 0 0 a)}).IsList l items:=⟨_,u,rfl,nl,rfl⟩;unfold Builtin.«set.__init__» noKeywords Builtin.Frozenset.updateFrom;generalize B:pyIter=PI
    wp_walk
    subst B;refine wpAny_pyIter_list n ?_;refine wpAny_bind (wpAny_runValue ?_);have p:l<s.heap.objs.size:=Heap.lt_size hol;have G:A.in1.in1.in1.handled=none:=by simp[hh]
    have q:l≠(s.heap.push {cls:=.type "set",dict:=none,data:=.set #[] 0 (.fresh 0 0 a)}).objs.size:=by
     rw[Heap.size_push];exact Nat.ne_of_lt (Nat.lt_succ_of_lt p)
    have C:s.heap.objs.size∉[(s.heap.push {cls:=.type "set",dict:=none,data:=.set #[] 0 (.fresh 0 0 a)}).objs.size,l]:=by
     rw[Heap.size_push];simp only[List.mem_cons,List.mem_singleton,List.not_mem_nil,or_false,not_or];exact⟨Nat.ne_of_lt (Nat.lt_succ_self _),Nat.ne_of_gt p⟩
    have m:((s.heap.push {cls:=.type "set",dict:=none,data:=.set #[] 0 (.fresh 0 0 a)}).push {cls:=.type "list_iterator",data:=.fields #[.ref l,.int 0 0]}).get? s.heap.objs.size
       = some {cls:=.type "set",dict:=none,data:=.set #[] 0 (.fresh 0 0 a)}:=Heap.get?_push_of_some _ O
    refine a7u ((Walks.list G _ l q items).toS) s.heap.objs.size C rows y hn (items.size-0) 0 _ [] (by omega) (Nat.zero_le _)
     ⟨⟨_,Heap.get?_push_size _ rfl,rfl,rfl⟩,(n.push _)⟩ (b3q m) ⟨List.nodup_nil,(λx=>⟨(λh=>nomatch h),(λ⟨j,hj,_⟩=>absurd hj (Nat.not_lt_zero j))⟩),Nat.le_refl _⟩ ?hR
    case hR =>
     intro s' N z g f;obtain⟨h',g',X,M,L⟩:=s';have Z:g'=s.gens:=z.gens;have Y:X=s.drawn:=z.drawn;have eo:L=s.os:=z.os;subst Z;subst Y;subst eo;show wpAny _ _ _ _ _ _;refine wpAny_pure ?_;show wpAny _ _ (ret Value.none) _ _ _;refine wpAny_pure ⟨rfl,h',M,N,rfl,g,f,λb o P e=>?_⟩;have D:b≠s.heap.objs.size:=Nat.ne_of_lt P;have F:b≠(s.heap.push {cls:=.type "set",dict:=none,data:=.set #[] 0 (.fresh 0 0 a)}).objs.size:=by
      rw[Heap.size_push];exact Nat.ne_of_lt (Nat.lt_succ_of_lt P)
     exact z.heap b o (by simp only[List.mem_cons,List.mem_singleton,List.not_mem_nil,or_false,not_or];exact⟨D,F⟩) (Heap.get?_push_of_some _ (Heap.get?_push_of_some _ e))
   .cases r₂ with
    |error e=>exact hr₂
    |ok fl₂ =>
     cases fl₂ with
     |ret r =>
      obtain⟨rfl,h',tk,xs,rfl,g,f,H⟩:=hr₂
      repeat (any_goals (first|assumption|wp_step))
      exact h _ _ _ g f H
     |_=>exact hr₂.elim
  |_=>exact J.elim
end
end TabS
open PySem PySem.Spec PyProof.Rows
def a4N(P:Program)(w:World)(a:Addr)(n:Nat):HO:=.ext λh=>∃D:List Str,TabS.SetS P w h a D/\D.length=n
def b3W(K:PySem.W.Frag)(P:Program)(w:World):RL:=λys H Q=>∃(p:Addr) (ws:List Str),ys=[.ref p]/\SqL K H p (ws.map V.str)/\ws.length+1<scanBound/\∀(a:Addr) (D:List Str),H a=none->D.Nodup->(∀x,x∈D↔x∈ws)->D.length<=ws.length->Q (.ref a) (upd H a (a4N P w a D.length))
def b4b(P:Program)(w:World):RL:=λys H Q=>∃(a:Addr) (n:Nat),ys=[.ref a]/\H a=some (a4N P w a n)/\n<2 ^ 60/\Q (.int n) H
section
variable {X:Cx}
theorem a6r(K:PySem.W.Frag)(P:Program)(w:World)(F:X.calm=true)(B:X.K=K:=by rfl)(E:X.prog=P:=by rfl)(hw:X.w=w:=by rfl):K1 X (.type "set") (b3W K P w):=by
 subst B E hw;intro pins s σ H ys S Q I O h;obtain⟨p,ws,rfl,L,hn,q⟩:=h;obtain⟨u,rfl,N⟩:=O.one;cases N;have G:X.A.handled=none:=I.ok.hd F;obtain⟨k,r,C,_⟩:=I.list L;have c:k.length=ws.length:=by rw[<-r.length,List.length_map]
 refine TabS.call_set_strs (rows:=λi=>ws.getD i Str.empty) G C.isList (λi v hi l=>?_) (by rw[List.size_toArray,c];exact hn) λh' tk D z m J=>?_
 .have l:k[i]?=some v:=by simpa using l
  have f:i<ws.length:=by rw[<-c];exact(List.getElem?_eq_some_iff.mp l).1
  obtain⟨T,g,y⟩:=r.get (show(ws.map V.str)[i]?=some (V.str ws[i]) by rw[List.getElem?_map,List.getElem?_eq_getElem f];rfl);rw[l]at g;cases g;obtain⟨t,rfl⟩:=y;exact⟨t,by rw[List.getD_eq_getElem?_getD,List.getElem?_eq_getElem f];rfl⟩
 .have hfr:H s.heap.objs.size=none:=I.hok.fresh (Nat.le_refl _);have n:=z;obtain⟨o,es,ep,t,A,R⟩:=n;refine⟨.ref s.heap.objs.size,_,I.laid (h':=h') (a:=s.heap.objs.size) (o:=a4N X.prog X.w s.heap.objs.size D.length) (t':=tk) (λb o e=>J b o (Heap.lt_size e) e) (Nat.le_refl _) ⟨⟨D,z,rfl⟩,⟨o,A⟩,λh1 h2 ⟨D,q1,M⟩ kk=>⟨D,TabS.setS_at q1 kk,M⟩⟩,rfl,q _ D hfr m.nd (λx=>?_) (by have:=m.le;rw[List.size_toArray,c]at this;exact this)⟩;rw[m.mem];constructor
  .rintro⟨j,d,rfl⟩;rw[List.size_toArray,c]at d;show ws.getD j Str.empty∈ws;rw[List.getD_eq_getElem?_getD,List.getElem?_eq_getElem d];exact List.getElem_mem d
  .intro hx;obtain⟨j,d⟩:=List.mem_iff_getElem?.mp hx;refine⟨j,by rw[List.size_toArray,c];exact(List.getElem?_eq_some_iff.mp d).1,?_⟩;show x=ws.getD j Str.empty;rw[List.getD_eq_getElem?_getD,d];rfl
theorem a8s(P:Program)(w:World)(j:X.prog=P:=by rfl)(hw:X.w=w:=by rfl):K1 X (.builtin "len") (b4b P w):=by
 subst j hw;intro pins s σ H ys v Q I p h;obtain⟨a,n,rfl,l,hn,q⟩:=h;obtain⟨u,rfl,m⟩:=p.one;cases m;obtain⟨⟨D,k,i⟩,_⟩:=(show ObjOk X.prog X.w H s.heap a (a4N X.prog X.w a n)from I.hok a _ l);obtain⟨o,es,ep,t,c,d,e,_,_,r,f,g⟩:=k;have b:es.size=n:=by rw[g,i]
 refine call_len_set c d e f (by rw[b];omega) ⟨.int n,H,I.tok _,⟨_,by rw[b]⟩,q⟩
variable {e:Expr}{es:List Expr}{t:TA}{p pos:Pos}
theorem b3c(K:PySem.W.Frag)(P:Program)(w:World)(g:Gl X "set")(h:X.mg "set"=none)(c:JA X (e::es) t)(d:X.calm=true:=by rfl)(a:X.K=K:=by rfl)(b:X.prog=P:=by rfl)(hw:X.w=w:=by rfl)(f:starEach (e::es) X.env=(false,eval e X.env)::starEach es X.env:=by rfl)(hpl:(backTo pos (starEach es X.env)).any (·.1)=false:=by rfl) :
  JE X (.Call (.Name "set" p) (e::es) [] pos) (tCB (b3W K P w) t):=⟨R7 (a6r K P w d a b hw) g h b6P c.h (by decide) (by decide) f hpl⟩
theorem b3e(P:Program)(w:World)(d:Gl X "len")(f:X.mg "len"=none)(b:JA X (e::es) t)(a:X.prog=P:=by rfl)(hw:X.w=w:=by rfl)(c:starEach (e::es) X.env=(false,eval e X.env)::starEach es X.env:=by rfl)(hpl:(backTo pos (starEach es X.env)).any (·.1)=false:=by rfl) :
  JE X (.Call (.Name "len" p) (e::es) [] pos) (tCB (b4b P w) t):=⟨N4 (a8s P w a hw) d f a6t b.h (by decide) (by decide) c hpl⟩
end
open PySem PySem.Spec PyProof.Rows PySem.Builtin PySem.Builtin.Str PySem.StrLaws
def a9x(K:PySem.W.Frag):V->List V->Hp->VK->Prop:=λx vs H Q=>∃(sep:Str) (p:Addr) (ys:List Str) (B:Nat),x=.str sep/\vs=[.ref p]/\SqT K H p (ys.map V.str)/\(∀y∈ys,y.length<=B)/\ys.length*B+ys.length*sep.length<=16777216/\(Str.join sep ys).length<=sizeLine/\Q (.str (Str.join sep ys)) H
section
variable {X:Cx}
theorem b0m(K:PySem.W.Frag)(i:X.K=K:=by rfl):MtR X "str.join" (a9x K):=by
 subst i;intro pins s σ H x vs v D Q I A y h;obtain⟨a,p,ys,B,rfl,rfl,hs,g,j,f,q⟩:=h;obtain⟨t,rfl⟩:=A;obtain⟨u,rfl,w⟩:=y.one;cases w;obtain⟨m,r,C,_⟩:=I.tuple hs;obtain⟨l,rfl,b⟩:=a1k r;have k:tooLong ((l.map (·.1)).toArray.foldl (·+·.length+a.length) 0)=false:=by
  rw[b];exact joinFits g j
 refine call_meets PySem.F.slot_str_join (typeIs_str _ _ _) PySem.F.entry_str_join (PySem.F.args_str_join_2 _ _) (meets_str_join_tuple a t p l k) ⟨by obtain⟨o,e,c,n,d⟩:=C;exact⟨o,n,e,c,d⟩,?_⟩
 match l,b with
 |[z],b =>
  have e:Str.join a ys=z.1:=by rw[<-b];exact(glued_eq_join a [z.1]).symm
  rw[e]at q;exact⟨.str z.1,H,I,⟨_,rfl⟩,q⟩
 |[],b =>
  refine⟨?_,.str (Str.join a ys),H,I.tok _,⟨s.toks,?_⟩,q⟩
  .show(glued a []).length<=_;rw[glued_eq_join,show([]:List Str)=ys from b];exact f
  .show Value.str (glued a []) _=_;rw[glued_eq_join,show([]:List Str)=ys from b]
 |z::z2::l,b =>
  refine⟨?_,.str (Str.join a ys),H,I.tok _,⟨s.toks,?_⟩,q⟩
  .show(glued a ((z::z2::l).map (·.1))).length<=_;rw[glued_eq_join,b];exact f
  .show Value.str (glued a ((z::z2::l).map (·.1))) _=_;rw[glued_eq_join,b]
variable {o e:Expr}{es:List Expr}{to:TE}{t:TA}{apos cpos:Pos}
theorem b0z(K:PySem.W.Frag)(h:JE X o to)(g:JA X (e::es) t)(f:X.K=K:=by rfl)(b:attributeBase o "join" X.env (eval o X.env)=eval o X.env:=by rfl)
  (d:((backTo cpos (starEach (e::es) X.env)).all (λx=>!x.1) && (backToKw cpos (keywordEach [] X.env)).all (λx=>x.1.isSome) && decide ((e::es).length+([]:List Keyword).length+(if ([]:List Keyword).isEmpty then 0 else 1)<30))=true:=by rfl)
  (c:(apos.endLine==cpos.line)=true:=by rfl) (hs:starEach (e::es) X.env=(false,eval e X.env)::starEach es X.env:=by rfl) (a:(backTo cpos (starEach es X.env)).any (·.1)=false:=by rfl) :
  JE X (.Call (.Attribute o "join" apos) (e::es) [] cpos) (tBM K "str" (a9x K) to t):=⟨a0G K PySem.F.plainAttrs_str PySem.F.slot_str_join PySem.F.type_str_join (b0m K f) h.h g.h f b d c hs a⟩
def Z2(z:Str)(n:Nat):Str:=⟨(List.replicate n z.cps.toList).flatten.toArray⟩
def b3X:R2:=λx y H Q=>∃(z:Str) (n:Nat),x=.str z/\y=.int n/\z.length<=10/\n<=1000/\Q (.str (Z2 z n)) H
theorem a5o(c:Array Nat):∀(n:Nat) (a:Array Nat),((List.replicate n c).foldl (λb d=>b++d) a).toList=a.toList++(List.replicate n c.toList).flatten
 |0,a=>by simp
 |n+1,a=>by
  rw[List.replicate_succ,List.foldl_cons,a5o c n,List.replicate_succ,List.flatten_cons,Array.toList_append,List.append_assoc]
theorem b2Q(z:Str)(n:Nat):PySem.Txt.mul z n=Z2 z n:=by
 refine PySem.Str.ext' (Array.toList_inj.mp ?_);unfold PySem.Txt.mul Z2;by_cases a:n=0
 .subst a;rfl
 rw[if_neg (by omega)];by_cases h1:((n:Int)==1 || z.length==0)=true
 .rw[if_pos h1];simp only[Bool.or_eq_true,beq_iff_eq]at h1;rcases h1 with h1|h1
  .have:n=1:=by omega
   subst this;simp
  .have hz:z.cps.toList=[]:=by
    rw[<-List.length_eq_zero_iff,Array.length_toList];exact h1
   rw[hz];have:∀m:Nat,(List.replicate m ([]:List Nat)).flatten=[]:=λm=>by induction m with
    |zero=>rfl
    |succ m b=>rw[List.replicate_succ,List.flatten_cons,b];rfl
   rw[this]
 .rw[if_neg h1];rw[a5o];simp
theorem b2x:OpR X (binaryOp .Mult) b3X:=by
 intro pins s σ H x y v u Q I b c h;obtain⟨z,n,rfl,rfl,a,h1,q⟩:=h;obtain⟨t,rfl⟩:=b;obtain⟨t',rfl⟩:=c;refine PySem.SB.mul ⟨?_,λ_ _=>?_,λ_ _=>?_⟩ λd k=>⟨.str (Z2 z n),H,?_,⟨_,by rw[b2Q]⟩,q⟩
 .rw[decide_eq_false (by omega),decide_eq_false (by omega)];rfl
 .rename_i hn _;have h2:(1000:Int)<=(2 ^ 63-1) / n:=Int.le_ediv_of_mul_le (by omega) (by omega);omega
 .have hm:z.length*(n:Int).toNat<=10*1000:=Nat.mul_le_mul a (by omega);show decide (_ > sizeLine)=false;exact decide_eq_false (by rw[sizeLine_eq];omega)
 .exact I.tok _
theorem b0D{a b:Expr}{ta tb:TE}{pos:Pos}(c:JE X a ta)(d:JE X b tb):JE X (.BinOp a .Mult b pos) (tOp b3X ta tb):=⟨X2 b2x c.h d.h⟩
end
end L2
namespace L2
open PySem PySem.Spec PyProof.Rows Builtin Builtin.Str
section
variable {X:Cx}{o e:Expr}{to te:TE}{apos cpos pos p2:Pos}
def rUp:V->List V->Hp->VK->Prop:=λx vs H Q=>∃y,x=.str y/\vs=[]/\tooLong (Txt.upper y).length=false/\Q (.str (Txt.upper y)) H
theorem b0j:MtR X "str.upper" rUp:=by
 intro pins s σ H x vs v d Q I c b h;obtain⟨y,rfl,rfl,a,q⟩:=h;obtain⟨t,rfl⟩:=c;cases b;exact call_gives PySem.F.slot_str_upper (typeIs_str _ _ _) PySem.F.entry_str_upper (PySem.F.args_str_upper_1 _) (gives_str_upper y t a) ⟨fit_le a,.str (Txt.upper y),H,I.tok _,⟨_,rfl⟩,q⟩
theorem b0y(K:PySem.W.Frag)(d:JE X o to)(c:X.K=K:=by rfl)(a:attributeBase o "upper" X.env (eval o X.env)=eval o X.env:=by rfl)(b:(apos.endLine==cpos.line)=true:=by rfl) :
  JE X (.Call (.Attribute o "upper" apos) [] [] cpos) (b1E K "str" rUp to):=⟨b2u K PySem.F.plainAttrs_str PySem.F.slot_str_upper PySem.F.type_str_upper b0j d.h c a b⟩
def b5e:V->Option Int->Option Int->Hp->VK->Prop:=λx lo hi H Q=>∃y,x=.str y/\y.length<=sizeLine/\Q (.str (Txt.slice y lo hi)) H
theorem b5a:SlR X b5e:=by
 intro pins s σ H x v d e lo hi sl Q I c hs pl b h;obtain⟨y,rfl,a,q⟩:=h;obtain⟨t,rfl⟩:=c;refine⟨"str",_,PySem.F.slot_str_getitem.lookup,typeIs_str _ _ _,?_⟩;have fin:∀t' k,EP X pins σ Q (.str (Txt.slice y lo hi) t') {s with toks:=k}:=λt' k=>⟨.str (Txt.slice y lo hi),H,I.tok k,⟨t',rfl⟩,q⟩;cases pl with
 |none=>cases b with
  |none=>exact wpAny_getItem_str_slice (l:=none) (u:=none) (st:=none) hs rfl (post_val_or_str ⟨Nat.le_trans (Txt.slice_le y _ _) a,fin⟩)
  |int j uj=>exact wpAny_getItem_str_slice (l:=none) (u:=some (j,uj)) (st:=none) hs rfl (post_val_or_str ⟨Nat.le_trans (Txt.slice_le y _ _) a,fin⟩)
 |int i ui=>cases b with
  |none=>exact wpAny_getItem_str_slice (l:=some (i,ui)) (u:=none) (st:=none) hs rfl (post_val_or_str ⟨Nat.le_trans (Txt.slice_le y _ _) a,fin⟩)
  |int j uj=>exact wpAny_getItem_str_slice (l:=some (i,ui)) (u:=some (j,uj)) (st:=none) hs rfl (post_val_or_str ⟨Nat.le_trans (Txt.slice_le y _ _) a,fin⟩)
theorem b4m{lo hi:Option Expr}{tl th:TO}(a:JE X e te)(b:JO X lo tl)(c:JO X hi th):JE X (.Subscript e (.Slice lo hi none p2) pos) (tSl b5e te tl th):=⟨a4R b5a a.h b.h c.h⟩
def tF1(te:TE):TE:=λσ H Q=>te σ H λv H1=>∃y,v=.str y/\y.length<=sizeLine/\Q (.str y) H1
theorem b4q(c:JE X e te):JE X (.JoinedStr [.FormattedValue e (-1) none p2] pos) (tF1 te):=⟨λpins s σ H Q I h=>by
 refine wpAny_JoinedStr_one (wpAny_FormattedValue_plain (thn (c.h pins s σ H _ I h) λv s1 ⟨x,H1,a,f,y,b,d,q⟩=>?_));subst b;obtain⟨tk,rfl⟩:=f;exact wpAny_formatField_str ⟨.str y,H1,a,⟨_,rfl⟩,q⟩ ⟨.str y,H1,a.tok _,⟨_,rfl⟩,q⟩ d⟩
end
end L2
namespace L2
open PySem PySem.Spec PyProof.Rows PySem.W
def b3n:V->Bool
 |.non=>true
 |_=>false
def a3s:Value->Bool
 |.none=>true
 |_=>false
def b7V(K:PySem.W.Frag):R2:=λx y H Q=>∃(p:Addr) (xs:List V),x=.non/\y=.ref p/\SqL K H p xs/\(∀v∈xs,v=.non∨∃a vs,v=.ref a/\H a=some (.tup vs))/\Q (.bl (xs.any b3n)) H
section
variable {X:Cx}
theorem b5V(K:PySem.W.Frag)(f:X.A.units+60<cLine)(k:X.K=K:=by rfl):OpR X (compareOp .In) (b7V K):=by
 subst k;intro pins s σ H x y v u Q I t z h;obtain⟨p,xs,rfl,rfl,l,m,q⟩:=h;cases t;cases z;obtain⟨b,r,pl,C⟩:=I.list l;have B:=r.length;have key:∀(i:Nat) (hi:i<b.length),SeqAt.EqAt X.A.in1 s b[i] .none (a3s b[i])/\∃c:i<xs.length,a3s b[i]=b3n xs[i]:=λi hi=>by
  have o:xs[i]?=some (xs[i]'(by omega)):=List.getElem?_eq_getElem (by omega);obtain⟨D,e1,e2⟩:=r.get o;rw[List.getElem?_eq_getElem hi]at e1;cases e1;rcases m _ (List.getElem_mem (by omega:i<xs.length))with e|⟨a,vs,e,g⟩
  .rw[e]at e2;have d:b[i]=.none:=e2;refine⟨?_,by omega,by rw[e,d];rfl⟩;rw[d];have:=(EqV.flat (K:=X.K) (H:=H) (n:=0) (x:=.non) (y:=.non) rfl rfl).at I (A:=X.A.in1) (u:=.none) (v:=.none) (by have:X.A.in1.units=X.A.units+1:=rfl;omega) rfl rfl;rw[a5p rfl]at this;exact this
  .rw[e]at e2;have d:b[i]=.ref a:=e2;obtain⟨j,_,pt,_⟩:=I.tuple (SqT.of (K:=X.K) g);refine⟨?_,by omega,by rw[e,d];rfl⟩;rw[d];exact SeqAt.EqAt.tuple_none pt (by have:X.A.in1.units=X.A.units+1:=rfl;omega)
 have g:b.any a3s=xs.any b3n:=by
  rw[Bool.eq_iff_iff,List.any_eq_true,List.any_eq_true];constructor
  .rintro⟨u,f,e⟩;obtain⟨i,hi,rfl⟩:=List.mem_iff_getElem.mp f;obtain⟨_,c,e'⟩:=key i hi;exact⟨_,List.getElem_mem c,by rw[<-e'];exact e⟩
  .rintro⟨u,f,e⟩;obtain⟨i,hi,rfl⟩:=List.mem_iff_getElem.mp f;obtain⟨_,c,e'⟩:=key i (by omega);exact⟨b[i]'(by omega),List.getElem_mem _,by rw[e'];exact e⟩
 refine SeqAt.in_listAt a3s pl.isList (λw hw=>?_) ⟨.bl _,H,I,rfl,?_⟩
 .obtain⟨i,hi,rfl⟩:=List.mem_iff_getElem.mp (show w∈b by simpa using hw);exact(key i hi).1
 .rw[show b.toArray.any a3s=b.any a3s by simp,g];exact q
variable {a b:Expr}{ta tb:TE}{pos:Pos}
theorem b6m(K:PySem.W.Frag)(g:X.A.units+60<cLine)(d:JE X a ta)(e:JE X b tb)(f:behindInMarks .In b=false)(c:X.K=K:=by rfl):JT X (.Compare a [.In] [b] pos) (O7 (tOp (b7V K) ta tb)):=⟨M6 (b5V K g c) d.h e.h f⟩
end
end L2
namespace K44
open PySem PySem.Spec PyProof.Rows L2
noncomputable def top(i:Nat):Stmt:=PySem.Challenge.pw_leastlays_k44_system_lines_refused.main.body.getD i (.Pass ⟨0,0,0,0⟩)
noncomputable abbrev a0m:Stmt:=top 4
noncomputable abbrev R1:Stmt:=top 5
noncomputable abbrev N0:Stmt:=top 6
noncomputable abbrev O2:Stmt:=top 7
noncomputable abbrev a0U:Stmt:=top 9
noncomputable abbrev V0:Stmt:=top 10
noncomputable abbrev R0:Stmt:=top 11
noncomputable abbrev Y0:Stmt:=top 12
noncomputable abbrev O0:Stmt:=top 13
noncomputable abbrev X9:Stmt:=top 23
noncomputable abbrev O1:Stmt:=top 24
noncomputable abbrev Y1:Stmt:=top 26
noncomputable abbrev V2:Stmt:=top 27
noncomputable abbrev W8:Stmt:=top 28
noncomputable abbrev R3:Stmt:=top 29
noncomputable abbrev V4:Stmt:=top 30
noncomputable abbrev V5:Stmt:=top 31
noncomputable abbrev V1:Stmt:=top 32
noncomputable abbrev M4:Stmt:=top 33
noncomputable abbrev N1:Stmt:=top 34
noncomputable abbrev O3:Stmt:=top 35
noncomputable abbrev M5:Stmt:=top 36
noncomputable abbrev Y2:Stmt:=top 37
noncomputable abbrev R4:Stmt:=top 38
noncomputable abbrev O4:Stmt:=top 39
noncomputable abbrev V3:Stmt:=top 40
noncomputable abbrev a2f:Stmt:=top 41
noncomputable abbrev L6:Stmt:=a0p (top 14) 0
noncomputable abbrev R5:Stmt:=a0p (top 14) 1
noncomputable abbrev J5:Stmt:=a0p (top 14) 2
noncomputable abbrev L4:Stmt:=a0p (top 14) 3
noncomputable abbrev O5:Stmt:=a0p (top 14) 4
noncomputable abbrev K2:Stmt:=a0p (top 21) 0
structure Tx(mg:Str->Option Value):Prop where
 b_ValueError:mg "ValueError"=none
 b_abs:mg "abs"=none
 b_all:mg "all"=none
 b_bool:mg "bool"=none
 b_enumerate:mg "enumerate"=none
 b_int:mg "int"=none
 b_isinstance:mg "isinstance"=none
 b_len:mg "len"=none
 b_list:mg "list"=none
 b_max:mg "max"=none
 b_min:mg "min"=none
 b_range:mg "range"=none
 b_set:mg "set"=none
 b_str:mg "str"=none
 b_tuple:mg "tuple"=none
 b_zip:mg "zip"=none
def D8(x:Int):Str:=G3 x.toNat
abbrev bk:Str:=⟨#[32]⟩
abbrev lf:Str:=⟨#[10]⟩
theorem A7(x y:Str):(x++y).length=x.length+y.length:=by
 show(x++y).cps.size=_;rw[Str.cps_append,Array.size_append];rfl
theorem O6{c B:Nat}:∀{ys:List Str},(∀y∈ys,y.length<=B)->(Str.join ⟨#[c]⟩ ys).length<=ys.length*(B+1)
 |[],_=>Nat.zero_le _
 |[x],h=>by
  have:=h x List.mem_cons_self;show x.length<=1*(B+1);omega
 |x::y::r,h=>by
  have h1:=h x List.mem_cons_self;have h2:=O6 (c:=c) (ys:=y::r) λz a=>h z (List.mem_cons_of_mem _ a);show(x++⟨#[c]⟩++Str.join ⟨#[c]⟩ (y::r)).length<=_;rw[A7,A7,show(⟨#[c]⟩:Str).length=1 from rfl,List.length_cons,Nat.succ_mul];omega
def ln(w:Str)(xs:List Int):Str:=Str.join bk (w::xs.map D8)
theorem a5e{c d:Nat}:∀{ys:List Str},d≠c->(∀y∈ys,d∉y.cps.toList)->d∉(Str.join ⟨#[c]⟩ ys).cps.toList
 |[],_,_=>λh=>nomatch h
 |[x],_,h=>h x List.mem_cons_self
 |x::y::r,hd,h=>λa=>by
  rw[N6]at a;rcases List.mem_append.mp a with q|q
  .exact h x List.mem_cons_self q
  .rcases List.mem_cons.mp q with q|q
   .exact hd q
   .exact a5e (c:=c) hd (λz b=>h z (List.mem_cons_of_mem _ b)) q
abbrev wL:Str:=⟨#[108,101,97,115,116]⟩
abbrev wS:Str:=⟨#[115,116,101,112]⟩
def lns(A B:LLI):List Str:=A.map (ln wL)++B.map (ln wS)
def pt(A B:LLI):Str:=Str.join lf (lns A B)
section
variable {K:PySem.W.Frag}{α:Type}{src:List (Option Nat)}{σ caps:L2.St}{Q:VK}{a:Addr}{vs:List V}{as:List α}{H:Hp}{te:TE}
theorem X4(f:α->V)(j:vs.length<=sizeLine)(g:vs.length=as.length)(b:∀H',Same H H'->SqL K H' a vs)(c:D6 src σ=none::caps)
  (d:∀(i:Nat) (v:V) (x:α) (H1:Hp) (e:VK),vs[i]?=some v->as[i]?=some x->Same H H1->(∀H2,Same H1 H2->e (f x) H2)->te (some v::caps) H1 e) (hd:∀H1 p,Same H H1->H1 p=none->Q (.ref p) (upd H1 p (.lst (as.map f)))):U8 src (B1 0) a1Z te σ Q (Itl K a) H:=by
 refine a1r (xs:=vs) j (λi ys H'=>Same H H'/\ys=(as.take i).map f) ⟨Same.refl H,by simp⟩ (λi ys H' _ h=>⟨b H' h.1,by rw[h.2,List.length_map];exact List.length_take_le _ _⟩) ?_ ?_
 .rintro i v ys H' hv ⟨s,rfl⟩;have hi:i<as.length:=by rw[<-g];exact(List.getElem?_eq_some_iff.mp hv).1
  show Sub _ ((D6 src σ).set 0 (some v))/\_;rw[c];refine⟨Sub.one,d i v as[i] H' _ hv (List.getElem?_eq_getElem hi) s λH2 k=>⟨s.trans k,?_⟩⟩;rw[List.take_add_one,List.getElem?_eq_getElem hi,List.map_append];rfl
 .rintro ys H' ⟨s,rfl⟩ p hp;rw[List.take_of_length_le (by omega)];exact hd H' p s hp
theorem a0O(f:α->V)(j:vs.length<=sizeLine)(g:vs.length=as.length)(b:∀H',Same H H'->SqT K H' a vs)(c:D6 src σ=none::caps)
  (d:∀(i:Nat) (v:V) (x:α) (H1:Hp) (e:VK),vs[i]?=some v->as[i]?=some x->Same H H1->(∀H2,Same H1 H2->e (f x) H2)->te (some v::caps) H1 e) (hd:∀H1 p,Same H H1->H1 p=none->Q (.ref p) (upd H1 p (.lst (as.map f)))):U8 src (B1 0) a1Z te σ Q (Itt K a) H:=by
 refine b1h (xs:=vs) j (λi ys H'=>Same H H'/\ys=(as.take i).map f) ⟨Same.refl H,by simp⟩ (λi ys H' _ h=>⟨b H' h.1,by rw[h.2,List.length_map];exact List.length_take_le _ _⟩) ?_ ?_
 .rintro i v ys H' hv ⟨s,rfl⟩;have hi:i<as.length:=by rw[<-g];exact(List.getElem?_eq_some_iff.mp hv).1
  show Sub _ ((D6 src σ).set 0 (some v))/\_;rw[c];refine⟨Sub.one,d i v as[i] H' _ hv (List.getElem?_eq_getElem hi) s λH2 k=>⟨s.trans k,?_⟩⟩;rw[List.take_add_one,List.getElem?_eq_getElem hi,List.map_append];rfl
 .rintro ys H' ⟨s,rfl⟩ p hp;rw[List.take_of_length_le (by omega)];exact hd H' p s hp
end
abbrev topN:Int:=1000000000000
abbrev wd(s:String):Str:=Str.ofString s
theorem a2M:∀(k:Nat) (l:List Nat),l.length=k+1->(∀c∈l,48<=c/\c<=57)->(l.head?≠some 48∨l=[48])->∃n:Nat,(Nat.toDigits 10 n).map Char.toNat=l/\(l.head?≠some 48->0<n)
 |0,[c],_,h,_=>by
  obtain⟨h1,h2⟩:=h c List.mem_cons_self;refine⟨c-48,?_,λs=>?_⟩
  .rw[Nat.toDigits_of_lt_base (by omega)];have:∀d:Nat,d<10->(Nat.digitChar d).toNat=d+48:=by decide
   rw[List.map_cons,this _ (by omega),show c-48+48=c by omega];rfl
  .have:c≠48:=λz=>s (by rw[z];rfl);omega
 |k+1,l,m,h,p=>by
  have f:l≠[]:=λz=>by rw[z]at m;cases m
  have o:=List.dropLast_concat_getLast f;have i:l.dropLast.length=k+1:=by rw[List.length_dropLast];omega
  have j:l.head?≠some 48:=by
   rcases p with z|z
   .exact z
   .rw[z]at m;cases m
  have g:l.dropLast.head?=l.head?:=by
   match l,i with
   |a::b::r,_=>rfl
  obtain⟨n,e,hn⟩:=a2M k l.dropLast i (λc q=>h c ((List.dropLast_sublist l).mem q)) (.inl (by rw[g];exact j));have hn:=hn (by rw[g];exact j);obtain⟨t,u⟩:=h _ (List.getLast_mem f);refine⟨10*n+(l.getLast f-48),?_,λ_=>by omega⟩;rw[<-Nat.toDigits_append_toDigits (by decide) hn (by omega),List.map_append,e,Nat.toDigits_of_lt_base (by omega)];have:∀d:Nat,d<10->(Nat.digitChar d).toNat=d+48:=by decide
  rw[List.map_cons,this _ (by omega),show l.getLast f-48+48=l.getLast f by omega];exact o
theorem b8w{w:Str}(h:∀c∈w.cps.toList,48<=c/\c<=57)(b:w.cps.toList≠[])(h0:w.cps.toList.head?≠some 48∨w.cps.toList=[48]):∃n:Nat,w=G3 n:=by
 obtain⟨k,d⟩:∃k,w.cps.toList.length=k+1:=by
  cases e:w.cps.toList with
  |nil=>exact absurd e b
  |cons a r=>exact⟨r.length,rfl⟩
 obtain⟨n,e,_⟩:=a2M k _ d h h0;refine⟨n,Str.ext' ?_⟩;rw[<-O9]at e;exact(Array.toList_inj.mp e).symm
theorem a0i{m n:Nat}(h:G3 m=G3 n):m=n:=by
 have e:(Nat.toDigits 10 m).map Char.toNat=(Nat.toDigits 10 n).map Char.toNat:=by rw[<-O9,<-O9,h]
 have v:=congrArg PySem.NumText.digitsVal e;rw[PySem.W.KIN.val_back,PySem.W.KIN.val_back]at v;exact v
noncomputable def rdN(w:Str):Option Int:=open Classical in if h:∃n:Nat,w=G3 n/\n<=1000000000000 then some (h.choose:Int)else none
theorem a2i{n:Nat}(h:n<=1000000000000):rdN (G3 n)=some (n:Int):=by
 unfold rdN;have a:∃m:Nat,G3 n=G3 m/\m<=1000000000000:=⟨n,rfl,h⟩;rw[dif_pos a];have:=a0i a.choose_spec.1;rw[<-this]
theorem a2j{w:Str}(h:∀n:Nat,w=G3 n->¬n<=1000000000000):rdN w=none:=by
 unfold rdN;exact dif_neg λ⟨n,e,l⟩=>h n e l
theorem b1M{w:Str}{x:Int}(h:rdN w=some x):0<=x/\x<=topN/\w=D8 x:=by
 unfold rdN at h;split at h
 .rename_i hx;obtain⟨e,l⟩:=hx.choose_spec;generalize hx.choose=n at e l h;cases h;exact⟨by omega,by show _<=(1000000000000:Int);omega,by rw[e,D8];congr 1⟩
 .cases h
theorem a2k{x:Int}(h0:0<=x)(h1:x<=topN):rdN (D8 x)=some x:=by
 have h1:x<=1000000000000:=h1;have:=a2i (n:=x.toNat) (by omega);rw[show((x.toNat:Nat):Int)=x by omega]at this;exact this
def ovI:Option Int->V
 |some x=>.int x
 |none=>.non
def isNm(w:Str):Prop:=1<=w.length/\w.length<=8/\∀c∈w.cps.toList,97<=c/\c<=122
noncomputable instance (w:Str):Decidable (isNm w):=Classical.propDecidable _
def J1(s:List (List Str)×List Str)(w:Str):List (List Str)×List Str:=if w=wd "+" then(s.1++[s.2],[])else(s.1,s.2++[w])
def prt(ws:List Str):List (List Str):=let s:=ws.foldl J1 ([],[]);s.1++[s.2]
def pfT(ns ws:List Str):Nat×List Str:=match ws.getLast? with
 |some l=>if l∈ns then(ns.idxOf l,if ws.length > 1 then ws.dropLast else[wd "1"])else(ns.length,ws)
 |none=>(ns.length,ws)
noncomputable def rdF(j:Nat):List Str->Option (Nat×Int)
 |[f]=>(match rdN f with
  |some x=>if x=0 then none else some (j,x)
  |none=>none)
 |_=>none
noncomputable def rdT(ns ws:List Str):Option (Nat×Int):=rdF (pfT ns ws).1 (pfT ns ws).2
def C8(t:List Int)(p:Nat×Int):List Int:=t.set p.1 (t.getD p.1 0+p.2)
noncomputable def X0(ns ws:List Str):Option (List Int) :=
 if ws=[wd "0"] then some (List.replicate (ns.length+1) 0)
 else if ((prt ws).map (rdT ns)).all Option.isSome then some (((prt ws).filterMap (rdT ns)).foldl C8 (List.replicate (ns.length+1) 0))
 else none
def b0Z(l r:List Int):Option (List Int):=if ∀x∈List.zipWith (λa b:Int=>a-b) l r,-topN<=x/\x<=topN then some (List.zipWith (λa b:Int=>a-b) l r)else none
def a8i:Option (List Int)->Option (List Int)->Option (List Int)
 |some l,some r=>b0Z l r
 |_,_=>none
noncomputable def K3(ns ws:List Str):Option (List Int):=if ws.count (wd "=")=1 then a8i (X0 ns (ws.take (ws.idxOf (wd "=")))) (X0 ns (ws.drop (ws.idxOf (wd "=")+1)))else none
structure Dr where
 names:List Str
 rows:LLI
 sides:List Int
 caps:List (Str×Int)
 prices:List (Str×Int)
noncomputable def tkN(ns:List Str)(kept:List (Str×Int)):List Str->Option (List (Str×Int))
 |[n,f]=>if n∈ns/\n∉kept.map (·.1)then(rdN f).map λx=>kept++[(n,x)] else none
 |_=>none
noncomputable def Dr.take(d:Dr):List Str->Option Dr
 |[]=>none
 |w::r =>
  if d.names=[] then(if w=wd "of"/\1<=r.length/\r.length<=7/\r.Nodup/\∀x∈r,isNm x then some {d with names:=r} else none)
  else if w=wd "sum" then(match K3 d.names r with
   |some l=>if d.rows.length=6 then none else some {d with rows:=d.rows++[l.dropLast],sides:=d.sides++[-(l.getLastD 0)]}
   |none=>none)
  else if w=wd "cap" then(tkN d.names d.caps r).map λc=>{d with caps:=c}
  else if w=wd "price" then(tkN d.names d.prices r).map λc=>{d with prices:=c}
  else none
def Wok(w:Str):Prop:=w.cps.all (· < 128)=true/\w.length<=10000
def Wks(ws:List Str):Prop:=ws.length<=10000/\∀w∈ws,Wok w
section
variable {P:Program}{w:World}{K:PySem.W.Frag}{mg:Str->Option Value}{base:Heap}
abbrev fgs:Str:=Str.ofString "0123456789"
abbrev lts:Str:=Str.ofString "abcdefghijklmnopqrstuvwxyz"
theorem a7g(c:Nat):c∈fgs.cps.toList↔48<=c/\c<=57:=by
 have e:fgs.cps.toList=[48,49,50,51,52,53,54,55,56,57]:=by with_unfolding_all rfl
 rw[e];simp only[List.mem_cons,List.not_mem_nil,or_false];omega
theorem a6P(c:Nat):c∈lts.cps.toList↔97<=c/\c<=122:=by
 have e:lts.cps.toList=[97,98,99,100,101,102,103,104,105,106,107,108,109,110,111,112,113,114,115,116,117,118,119,120,121,122]:=by with_unfolding_all rfl
 rw[e];simp only[List.mem_cons,List.not_mem_nil,or_false];omega
theorem a4L{σ:L2.St}{src:List (Option Nat)}{Q:VK}{x z:Str}{H:Hp}{te:TE}(b:x.length<=10000)(a:∀c H' (N:VK),N (.bl (decide (c∈z.cps.toList))) H'->te ((D6 src σ).set 0 (some (.str ⟨#[c]⟩))) H' N)(h0:∀v,Sub (D6 src σ) ((D6 src σ).set 0 (some v)))
  (hd:∀p,H p=none->Q (.ref p) (upd H p (.lst (x.cps.toList.map λc=>V.bl (decide (c∈z.cps.toList)))))):U8 src (B1 0) a1Z te σ Q (Itc x) H:=by
 have d:(100000:Nat)<=sizeLine:=by rw[sizeLine_eq];decide
 refine a8m (x:=x) (by show x.length<=_;omega) (λi ys H'=>H'=H/\ys=(x.cps.toList.take i).map λc=>V.bl (decide (c∈z.cps.toList))) ⟨rfl,by simp⟩ (λi ys H' h=>by rw[h.2,List.length_map];exact List.length_take_le _ _) ?_ ?_
 .rintro i c ys H' hc ⟨rfl,rfl⟩;refine⟨h0 _,a c _ _ ⟨rfl,?_⟩⟩;rw[<-Array.getElem?_toList]at hc;rw[List.take_add_one,hc,List.map_append];rfl
 .rintro ys H' ⟨rfl,rfl⟩ p hp;rw[show x.cps.size=x.cps.toList.length by rw[Array.length_toList],List.take_length];exact hd p hp
theorem a3H(l:List Nat)(p:Nat->Bool):(l.map λc=>V.bl (p c)).all trV=l.all p:=by
 rw[List.all_map];rfl
theorem a2C(l:List Nat)(p:Nat->Bool):(l.map λc=>V.bl (p c)).all b0Q=true:=by
 rw[List.all_map,List.all_eq_true];intro x _;rfl
def b3S:Sp:=λvs H Q _=>∃w:Str,vs=[.str w]/\Wok w/\∀b H',(b=true↔∃n:Nat,w=G3 n)->Same H H'->Q (.bl b) H'
theorem a2R:FnScope ["word"] ["word"] (A8 R1):=⟨rfl,rfl,rfl,by decide +kernel,rfl,by decide +kernel,by decide +kernel⟩
theorem a8f(n:Nat):G3 n=Str.ofString "0"∨(G3 n≠Str.ofString "" /\ ∃c,c≠48/\atI (G3 n).cps.toList 0=some c):=by
 by_cases b:n=0
 .exact .inl (by rw[b];exact a3w)
 .refine .inr ⟨λe=>a0s n (by rw[e];rfl),?_⟩;have a:=a3x n (by omega);have hn:=a0s n;cases e:(G3 n).cps.toList with
  |nil=>exact absurd e hn
  |cons c r =>
   rw[e]at a;exact⟨c,λz=>a (by rw[z];rfl),F0 (j:=0) rfl⟩
theorem dq0(c:Nat):(!decide (V.str ⟨#[c]⟩=V.str (Str.ofString "0")))=decide (c≠48):=by
 by_cases h:c=48
 .subst h;rfl
 .rw[decide_eq_true h,decide_eq_false λz=>?_]
  .rfl
  .injection z with z
   have a:[c]=[48]:=congrArg (λt:Str=>t.cps.toList) z;injection a with a
   exact h a
theorem a2X{q:Tok}(F:FunAt K mg "is_written" R1 ["word"])(T:Tx mg)(a:mg "FIGURES"=some (.str fgs q)):Ok P w K mg base "is_written" 1 ["word"] b3S:=by
 refine F.okJ a2R (λvs H Q E h=>?_) (λd f A outer s H vs Q E t h=>?_)
 .obtain⟨x,rfl,_⟩:=h;rfl
 .obtain⟨x,rfl,⟨ha,hl⟩,k⟩:=h;have u:(100000:Nat)<=sizeLine:=by rw[sizeLine_eq];decide
  refine⟨_,(A1 (G2 (a0c (Y7 K (a6d K rfl T.b_all (jaC (U5 (N:=["sign"]) (src:=[none]) (a6V (jv 0)) (by show K6 _ _=true;rfl) (by rfl) (by rfl)
 (λ_ _ _ _ _=>(C3 (i:=0) (show(["sign"]:List Str).Nodup by decide +kernel) rfl (Or.inl rfl))) (λ_ _ _ _ _=>N7) (λ_ _ _ _ _=>(b0u (jv 0) (W4 (v:=.str (Str.ofString "0123456789")) rfl a ⟨_,rfl⟩) (by with_unfolding_all rfl)))) jaN))))
 (A9 (C2 a2x))
 C9)
 (A9 (C2 (b8J (a3q (jv 0) A2) (a5l (a6Y (b4j (jv 0) A2) (a5l (b4j (b4o (jv 0) A4) A2)))))))),?_⟩
  refine⟨_,rfl,_,rfl,ha,?_⟩;refine a4L (z:=fgs) hl (λc H' N g=>⟨_,rfl,c,fgs,rfl,rfl,g⟩) (λv=>Sub.one) λp l=>?_;have s1:=(Same.refl H).upd (o:=.lst (x.cps.toList.map λc=>V.bl (decide (c∈fgs.cps.toList)))) l;refine⟨false,p,_,rfl,SqL.of A0,a2C _ _,?_⟩;rw[a3H];refine⟨_,rfl,G7 (λe=>?_) (λe=>?_)⟩
  .refine k false _ ⟨λz=>(nomatch z),λ⟨n,hn⟩=>?_⟩ s1;have:x.cps.toList.all (λc=>decide (c∈fgs.cps.toList))=true:=by
    rw[List.all_eq_true];intro c b;rw[hn]at b;have:=U7 n c b;exact decide_eq_true ((a7g c).mpr ⟨by omega,by omega⟩)
   rw[this]at e;cases e
  have hd:∀c∈x.cps.toList,48<=c/\c<=57:=λc b=>by
   have e':x.cps.toList.all (λc=>decide (c∈fgs.cps.toList))=true:=by simpa using e
   exact(a7g c).mp (of_decide_eq_true (List.all_eq_true.mp e' c b))
  refine⟨_,rfl,rfl,_,rfl,G7 (λe=>?_) (λe=>?_)⟩
  .refine k true _ ⟨λ_=>⟨0,?_⟩,λ_=>rfl⟩ s1;injection of_decide_eq_true e
  have m:x≠Str.ofString "0":=λz=>e (decide_eq_true (by rw[z]));refine⟨_,rfl,rfl,_,rfl,G7 (λe=>?_) (λe=>?_)⟩
  .have hne:x.cps.toList≠[]:=λz=>by
    have:x=Str.ofString "":=Str.ext' (by rw[<-Array.toList_inj,z];rfl);rw[this,decide_eq_true rfl]at e;cases e
   obtain⟨c,r,b⟩:∃c r,x.cps.toList=c::r:=by
    cases b:x.cps.toList with
    |nil=>exact absurd b hne
    |cons c r=>exact⟨c,r,rfl⟩
   .refine⟨_,rfl,_,0,c,rfl,rfl,by omega,by rw[b];exact F0 (j:=0) rfl,rfl,?_⟩;rw[dq0];refine k _ _ ⟨λz=>b8w hd hne (.inl ?_),λ⟨n,hn⟩=>?_⟩ s1
    .rw[b];intro y;injection y with y
     exact of_decide_eq_true z y
    .rcases a8f n with z|⟨_,c',h1,h2⟩
     .exact absurd (hn.trans z) m
     .rw[<-hn,b]at h2;injection (show atI (c::r) 0=some c from F0 (j:=0) rfl).symm.trans h2 with h2
      exact decide_eq_true (by rw[h2];exact h1)
  .refine k false _ ⟨λz=>(nomatch z),λ⟨n,hn⟩=>?_⟩ s1;refine absurd ?_ e;rw[decide_eq_false λz=>?_]
   .rfl
   .injection z with z
    exact a0s n (by rw[<-hn,z];rfl)
def b7C:Sp:=λvs H Q _=>∃(w:Str) (m:Nat),vs=[.str w,.int m]/\Wok w/\m<=600/\(∀n H',w=G3 n->w.length<=m->Same H H'->Q (.int n) H')/\((∀n,w=G3 n->m<w.length)->∀H',Same H H'->Q .non H')
theorem a1A:FnScope ["word","most"] ["word","most"] (A8 N0):=⟨rfl,rfl,rfl,by decide +kernel,rfl,by decide +kernel,by decide +kernel⟩
theorem a1B(F:FunAt K mg "read_figures" N0 ["word","most"])(T:Tx mg)(a:Ok P w K mg base "is_written" 1 ["word"] b3S):Ok P w K mg base "read_figures" 2 ["word","most"] b7C:=by
 refine F.okJ a1A (λvs H Q E h=>?_) (λd f A outer s H vs Q E g h=>?_)
 .obtain⟨x,m,rfl,_⟩:=h;rfl
 .obtain⟨x,m,rfl,hx,hm,k1,k2⟩:=h;have i:(100000:Nat)<=sizeLine:=by rw[sizeLine_eq];decide
  refine⟨_,(A1 (G2 (a1E (a0b (a5h (a4k rfl T.b_len (jaC (jv 0) jaN)) (jv 1)) (Y6 (a0c (Y7 K (C0 a (g.mono (by omega)) rfl (jaC (jv 0) jaN)))))))
 (A9 (C2 N8))
 C9)
 (A9 (C2 (b3f rfl T.b_int (jaC (jv 0) jaN))))),?_⟩
  refine⟨_,rfl,_,rfl,by have:=hx.2;omega,_,rfl,_,_,rfl,rfl,_,rfl,G7 (λe=>?_) (λe=>?_)⟩
  .have e:=of_decide_eq_true e;exact k2 (λn _=>by omega) _ (Same.refl _)
  .have e:x.length<=m:=by
    have:¬((m:Int)<(x.length:Int)):=λz=>e (decide_eq_true z);omega
   refine⟨_,rfl,x,rfl,hx,λb H1 c s1=>⟨_,rfl,G7 (λe=>?_) (λe=>?_)⟩⟩
   .refine k2 (λn hn=>?_) _ s1;rw[c.mpr ⟨n,hn⟩]at e;cases e
   .have hb1:b=true:=by simpa using e
    obtain⟨n,hn⟩:=c.mp hb1;refine⟨_,rfl,_,(n:Int),rfl,by omega,?_,k1 n H1 hn ‹_› s1⟩;rw[hn];exact a6k (by rw[<-hn];omega)
def b4Z:Sp:=λvs H Q _=>∃(w:Str),vs=[.str w,.int 1000000000000]/\Wok w/\∀H',Same H H'->Q (ovI (rdN w)) H'
theorem sc_read_number:FnScope ["word","top","number"] ["word","top"] (A8 O2):=⟨rfl,rfl,rfl,by decide +kernel,rfl,by decide +kernel,by decide +kernel⟩
theorem a2p(F:FunAt K mg "read_number" O2 ["word","top"])(T:Tx mg)(a:Ok P w K mg base "read_figures" 2 ["word","most"] b7C):Ok P w K mg base "read_number" 3 ["word","top"] b4Z:=by
 refine F.okJ sc_read_number (λvs H Q E h=>?_) (λg f A outer s H vs Q E j h=>?_)
 .obtain⟨x,rfl,_⟩:=h;rfl
 .obtain⟨x,rfl,hx,k⟩:=h;have o:(100000:Nat)<=sizeLine:=by rw[sizeLine_eq];decide
  have b:(G3 1000000000000).length=13:=by
   have h1:(G3 1000000000000).length<=13:=(a0h (by decide)).mpr (by decide);have h2:¬(G3 1000000000000).length<=12:=λz=>absurd ((a0h (by decide)).mp z) (by decide);omega
  refine⟨_,(A1 (B7 (i:=2) sc_read_number.nd rfl (Or.inl rfl) (C0 a (j.mono (by omega)) rfl (jaC (jv 0) (jaC (a4k rfl T.b_len (jaC (a1N rfl T.b_str (jaC (jv 1) jaN)) jaN)) jaN))))
 (A1 (G2 (a1E (a0b (a1o (jv 2) N8) (Y6 (a5h (jv 2) (jv 1)))))
 (A9 (C2 N8))
 C9)
 (A9 (C2 (jv 2))))),?_⟩
  refine⟨_,rfl,_,rfl,1000000000000,rfl,by decide +kernel,_,rfl,by rw[b];omega,x,13,by rw[b];rfl,hx,by decide,λn H1 hn l s1=>?_,λd H1 s1=>?_⟩
  .dsimp only[B1];refine⟨_,rfl,rfl,_,rfl,?_⟩;rw[decide_eq_false (by intro z;cases z)];refine Y9 ⟨_,rfl,_,rfl,_,_,rfl,rfl,_,rfl,G7 (λe=>?_) (λe=>?_)⟩
   .have e:=of_decide_eq_true e;have:=k H1 s1;rw[a2j λm c=>?_]at this
    .exact this
    .have:=a0i (hn.symm.trans c);omega
   .have e:¬((1000000000000:Int)<(n:Int)):=λz=>e (decide_eq_true z);have:=k H1 s1;rw[hn,a2i (by omega)]at this;exact⟨_,rfl,this⟩
  .dsimp only[B1];refine⟨_,rfl,rfl,_,rfl,?_⟩;rw[decide_eq_true rfl];have:=k H1 s1;rw[a2j λm c h=>?_]at this
   .exact a0I this
   .have h1:=d m c;have h2:(G3 m).length<=13:=(a0h (by decide)).mpr (by omega);rw[c]at h1;omega
def b7F:Sp:=λvs H Q _=>∃(w:Str),vs=[.str w]/\Wok w/\∀H',Same H H'->Q (.bl (decide (isNm w))) H'
theorem a5P:FnScope ["word"] ["word"] (A8 a0m):=⟨rfl,rfl,rfl,by decide +kernel,rfl,by decide +kernel,by decide +kernel⟩
theorem a5V{l:Tok}(F:FunAt K mg "is_name" a0m ["word"])(T:Tx mg)(a:mg "LETTERS"=some (.str lts l)):Ok P w K mg base "is_name" 1 ["word"] b7F:=by
 refine F.okJ a5P (λvs H Q E h=>?_) (λd f A outer s H vs Q E m h=>?_)
 .obtain⟨x,rfl,_⟩:=h;rfl
 .obtain⟨x,rfl,⟨ha,hl⟩,k⟩:=h;have n:(100000:Nat)<=sizeLine:=by rw[sizeLine_eq];decide
  refine⟨_,(A9 (C2 (a6Y (b2Z A4 (a4k rfl T.b_len (jaC (jv 0) jaN)) A4) (a5l (a6d K rfl T.b_all (jaC (U5 (N:=["sign"]) (src:=[none]) (a6V (jv 0)) (by show K6 _ _=true;rfl) (by rfl) (by rfl)
 (λ_ _ _ _ _=>(C3 (i:=0) (show(["sign"]:List Str).Nodup by decide +kernel) rfl (Or.inl rfl))) (λ_ _ _ _ _=>N7) (λ_ _ _ _ _=>(b0u (jv 0) (W4 (v:=.str (Str.ofString "abcdefghijklmnopqrstuvwxyz")) rfl a ⟨_,rfl⟩) (by with_unfolding_all rfl)))) jaN)))))),?_⟩
  refine⟨_,rfl,_,rfl,by omega,_,_,rfl,rfl,_,rfl,G7 (λe=>?_) (λe=>?_)⟩
  .have e1:=of_decide_eq_true e;refine⟨_,_,rfl,rfl,_,rfl,G7 (λe=>?_) (λe=>?_)⟩
   .have e2:=of_decide_eq_true e;refine⟨_,rfl,_,rfl,ha,?_⟩;refine a4L (z:=lts) hl (λc H' N g=>⟨_,rfl,c,lts,rfl,rfl,g⟩) (λv=>Sub.one) λp j=>?_;have s1:=(Same.refl H).upd (o:=.lst (x.cps.toList.map λc=>V.bl (decide (c∈lts.cps.toList)))) j;refine⟨false,p,_,rfl,SqL.of A0,a2C _ _,?_⟩;rw[a3H];have:=k _ s1;rw[show decide (isNm x)=x.cps.toList.all (λc=>decide (c∈lts.cps.toList))from ?_]at this
    .exact this
    .rw[Bool.eq_iff_iff,decide_eq_true_iff,List.all_eq_true];constructor
     .intro h c b;exact decide_eq_true ((a6P c).mpr (h.2.2 c b))
     .intro h;exact⟨by omega,by omega,λc b=>(a6P c).mp (of_decide_eq_true (h c b))⟩
   .have:=k _ (Same.refl H);rw[decide_eq_false λh=>e (decide_eq_true (by have:=h.2.1;omega))]at this;exact this
  .have:=k _ (Same.refl H);rw[decide_eq_false λh=>e (decide_eq_true (by have:=h.1;omega))]at this;exact⟨_,rfl,Y9 this⟩
end
section
variable {P:Program}{w:World}{K:PySem.W.Frag}{mg:Str->Option Value}{base:Heap}{C L fI:Addr}
def b7E(C:Addr):Sp:=λvs H Q _=>∃(x:Addr) (n:Nat),vs=[.ref x,.int n]/\n<10 ^ 9/\H x=some (xI x C none)/\∀dx,H dx=none->dx≠x->Q .non (upd (upd (upd H x (xI x C none)) dx (.xd [("line",.int n)])) x (xI x C (some dx)))
theorem a0E:FnScope ["self","line"] ["self","line"] (A8 K2):=⟨rfl,rfl,rfl,by decide +kernel,rfl,by decide +kernel,by decide +kernel⟩
theorem a7L(l:MethAt K C "__init__" "NoText.__init__" K2 ["self","line"])(M:MkX K C L fI)(hn:PySem.W.findIn K (.ref C) "line"=some none)(d:mg "LayError"=some (.ref L))(b:PySem.W.readsIn K L (.type "type")=true)
  (a:PySem.W.findCls K (.ref L) (.type "type") "__init__"=some (.val (.builtin "ValueError.__init__"))) (c:PySem.W.specialIn K (.ref L) "__getattribute__"=some (some (.builtin "type.__getattribute__"))):MethOk P w K mg base C "__init__" 1 ["self","line"] (b7E C):=by
 refine l.fnJ a0E (λvs H Q E h=>?_) (λm f A outer s H vs Q E o h=>?_)
 .obtain⟨x,n,rfl,_⟩:=h;rfl
 .obtain⟨x,n,rfl,hl,hx,k⟩:=h;have q:=o.u60;refine⟨_,(A1 (G8 (b6r K rfl d b a c (jaC (jv 0) (jaC (D9 (A3 A2 (A6 (jv 1) (A3 A2 B3)))) jaN))))
 (A9 (b8p K (jv 0) (jv 1)))),?_⟩
  have r:(100000:Nat)<=sizeLine:=by rw[sizeLine_eq];decide
  have p:(G3 n).length<=9:=(a0h (by decide)).mpr hl;have g:(Str.empty++Str.ofString "line ").length=5:=by with_unfolding_all rfl
  have i:(Str.empty++Str.ofString "line " ++ G3 n).length=5+(G3 n).length:=by rw[A7,g]
  have j:(Str.empty++Str.ofString "line " ++ G3 n++Str.ofString " isn't one where it stands").length=5+(G3 n).length+26:=by rw[A7,i];rfl
  refine⟨_,rfl,_,rfl,by rw[g];omega,_,rfl,.inr ⟨n,rfl,Nat.lt_of_lt_of_le hl (Nat.pow_le_pow_right (by decide) (by decide)),by rw[i];omega,_,rfl,by rw[j];omega,by rw[j];omega,?_⟩⟩;refine⟨x,C,L,fI,_,rfl,hx,M,?_⟩;refine⟨_,rfl,_,rfl,x,C,L,fI,rfl,A0,M,hn,λdx hd e=>?_⟩;exact k dx (by rw[A5 e]at hd;exact hd) e
end
end K44
namespace K44
open PySem PySem.Spec PyProof.Rows L2
def Lsts(H:Hp)(gs:List Addr)(L:List (List Str)):Prop:=gs.length=L.length/\∀(i:Nat) (a:Addr),gs[i]?=some a->∃l:List Str,L[i]?=some l/\H a=some (.lst (l.map V.str))
theorem Lsts.same{H H':Hp}{gs:List Addr}{L:List (List Str)}(h:Lsts H gs L)(s:Same H H'):Lsts H' gs L:=⟨h.1,λi a e=>let ⟨l,e1,e2⟩:=h.2 i a e;⟨l,e1,s _ _ e2⟩⟩
theorem Lsts.put{H:Hp}{gs:List Addr}{L:List (List Str)}{b:Addr}{o:HO}(h:Lsts H gs L)(c:b∉gs):Lsts (upd H b o) gs L:=⟨h.1,λi a e=>let ⟨l,e1,e2⟩:=h.2 i a e;⟨l,e1,by rw[A5 λz=>c (by rw[<-z];exact List.mem_of_getElem? e)];exact e2⟩⟩
theorem Lsts.snoc{H:Hp}{gs:List Addr}{L:List (List Str)}{b:Addr}{l:List Str}(h:Lsts H gs L)(c:H b=some (.lst (l.map V.str))):Lsts H (gs++[b]) (L++[l]):=by
 refine⟨by simp[h.1],λi a e=>?_⟩;rcases Nat.lt_or_ge i gs.length with hi|hi
 .rw[List.getElem?_append_left hi]at e;obtain⟨d,e1,e2⟩:=h.2 i a e;exact⟨d,by rw[List.getElem?_append_left (by rw[<-h.1];exact hi)];exact e1,e2⟩
 .rw[List.getElem?_append_right hi]at e;have:i-gs.length=0:=by
   have:=(List.getElem?_eq_some_iff.mp e).1;simpa using this
  rw[this]at e;cases e;exact⟨l,by rw[List.getElem?_append_right (by rw[<-h.1];exact hi),<-h.1,this];rfl,c⟩
structure PrtI(H0 H:Hp)(g:Addr)(D:List (List Str))(c:List Str)(ds:List Addr)(cu:Addr):Prop where
 hg:H g=some (.lst (ds.map V.ref++[V.ref cu]))
 hd:Lsts H ds D
 hc:H cu=some (.lst (c.map V.str))
 nd:cu∉ds
 ng:g∉ds
 gc:g≠cu
 fg:H0 g=none
 fc:H0 cu=none
 sm:Same H0 H
theorem a6v{γ:Type}(f:Int->Int->Int)(g:Int->γ):∀xs ys:List Int,List.zipWith (λa b=>g (f a b)) xs ys=(List.zipWith f xs ys).map g
 |[],_=>rfl
 |_::_,[]=>rfl
 |x::xs,y::ys=>by rw[List.zipWith_cons_cons,List.zipWith_cons_cons,List.map_cons,a6v f g xs ys]
section
variable {P:Program}{w:World}{K:PySem.W.Frag}{mg:Str->Option Value}{base:Heap}
def b3P(K:PySem.W.Frag):Sp:=λvs H Q _=>∃(p:Addr) (ws:List Str),vs=[.ref p]/\H p=some (.lst (ws.map V.str))/\ws.length<=10000/\∀g gs H',H' g=some (.lst (gs.map V.ref))->Lsts H' gs (prt ws)->Same H H'->Q (.ref g) H'
theorem sc_parted:FnScope ["words","groups","word"] ["words"] (A8 a0U):=⟨rfl,rfl,rfl,by decide +kernel,rfl,by decide +kernel,by decide +kernel⟩
theorem a6L(ws:List Str):∀s:List (List Str)×List Str,(ws.foldl J1 s).1.length+(ws.foldl J1 s).2.length<=s.1.length+s.2.length+ws.length:=by
 induction ws with
 |nil=>intro s;exact Nat.le_refl _
 |cons w r a =>
  intro s;have:=a (J1 s w);have h1:(J1 s w).1.length+(J1 s w).2.length<=s.1.length+s.2.length+1:=by
   unfold J1;split<;>simp<;>omega
  rw[List.foldl_cons,List.length_cons];omega
theorem a7K(F:FunAt K mg "parted" a0U ["words"])(T:Tx mg):Ok P w K mg base "parted" 1 ["words"] (b3P K):=by
 refine F.okJ sc_parted (λvs H Q E h=>?_) (λL f A outer s H vs Q E O h=>?_)
 .obtain⟨p,ws,rfl,_⟩:=h;rfl
 .obtain⟨p,ws,rfl,hp,hl,k⟩:=h;have R:(100000:Nat)<=sizeLine:=by rw[sizeLine_eq];decide
  refine⟨_,(A1 (B7 (i:=1) sc_parted.nd rfl (Or.inl rfl) (C5 (jaC (C5 jaN) jaN)))
 (A1 (T8 (L7 K (jv 0)) (C3 (i:=2) sc_parted.nd rfl (Or.inl rfl))
 (A9 (G2 (O8 (jv 2) A2)
 (A9 (G8 (G5 K (jv 1) (jaC (C5 jaN) jaN))))
 (A9 (G8 (G5 K (K4 K (jv 1) (Q0 A4)) (jaC (jv 2) jaN)))))))
 (A9 (C2 (jv 1))))),?_⟩
  refine⟨Nat.zero_le _,λq t=>⟨by show 1<=sizeLine;omega,λg u=>?_⟩⟩;dsimp only[B1];have d:g≠q:=λz=>by subst z;rw[A0]at u;cases u
  have B:H g=none:=by rw[A5 d]at u;exact u
  have s1:Same H (upd (upd H q (.lst [])) g (.lst [V.ref q])):=((Same.refl H).upd t).upd u;refine⟨_,rfl,p,rfl,⟨_,SqL.of (s1 _ _ hp)⟩,?_⟩;refine a1e (K:=K) (a:=p) (xs:=ws.map V.str) (λi σ H'=>∃o ds q,σ=[some (.ref p),some (.ref g),o]/\PrtI H H' g ((ws.take i).foldl J1 ([],[])).1 ((ws.take i).foldl J1 ([],[])).2 ds q) ⟨none,[],q,rfl,⟨A0,⟨rfl,λi a e=>(by cases e)⟩,by rw[A5 d.symm,A0];rfl,(λz=>nomatch z),(λz=>nomatch z),d,B,t,s1⟩⟩ (λi σ H' _ ⟨_,_,_,_,I⟩=>SqL.of (I.sm _ _ hp)) ?_ ?_
  .rintro i x σ H1 hx ⟨o,ds,cu1,rfl,I⟩;rw[List.getElem?_map]at hx;obtain⟨c,hw,rfl⟩:=Option.map_eq_some_iff.mp hx;have hi:=(List.getElem?_eq_some_iff.mp hw).1;have C:(ws.take (i+1)).foldl J1 ([],[])=J1 ((ws.take i).foldl J1 ([],[])) c:=by
    rw[List.take_add_one,hw,List.foldl_append];rfl
   have m:=a6L (ws.take i) ([],[]);rw[C];generalize (ws.take i).foldl J1 ([],[])=st at I m⊢;have m:st.1.length+st.2.length<=i:=by
    have:=List.length_take_le i ws;simp only[List.length_nil]at m;omega
   have M:=I.hd.1;dsimp only[B1];refine⟨_,rfl,rfl,_,rfl,G7 (λe=>?_) (λe=>?_)⟩
   .injection of_decide_eq_true e with e
    refine⟨_,rfl,.inl ⟨rfl,_,SqL.of I.hg⟩,Nat.zero_le _,λn hn=>?_⟩;have D:n≠g:=λz=>by rw[z,I.hg]at hn;cases hn
    have J:n≠cu1:=λz=>by rw[z,I.hc]at hn;cases hn
    have nd:n∉ds:=λz=>by
     obtain⟨j,N⟩:=List.getElem?_of_mem z;obtain⟨l,_,e2⟩:=I.hd.2 j n N;rw[e2]at hn;cases hn
    refine⟨g,_,_,rfl,rfl,by rw[A5 D.symm];exact I.hg,by simp;omega,?_⟩;refine⟨_,ds++[cu1],n,rfl,?_⟩;have v:J1 st c=(st.1++[st.2],[]):=by unfold J1;rw[if_pos e]
    rw[v];have G:H n=none:=I.sm.free hn;refine⟨by rw[A0,List.map_append];rfl,?_,by rw[A5 D,A0];rfl,?_,?_,D.symm,I.fg,G,?_⟩
    .refine Lsts.put (Lsts.put (I.hd.snoc I.hc) ?_) ?_
     .simp only[List.mem_append,List.mem_singleton,not_or];exact⟨nd,J⟩
     .simp only[List.mem_append,List.mem_singleton,not_or];exact⟨I.ng,I.gc⟩
    .simp only[List.mem_append,List.mem_singleton,not_or];exact⟨nd,J⟩
    .simp only[List.mem_append,List.mem_singleton,not_or];exact⟨I.ng,I.gc⟩
    .intro b o' r;rw[A5 (show b≠g from B0 r I.fg),A5 (show b≠n from B0 r G)];exact I.sm _ _ r
   .have e:¬c=wd "+":=λz=>e (decide_eq_true (by rw[z]));have y:atI (ds.map V.ref++[V.ref cu1]) (-1)=some (V.ref cu1):=by
     exact a2O _ _
    refine⟨_,rfl,_,rfl,g,_,_,_,rfl,rfl,SqL.of I.hg,y,.inl ⟨rfl,_,SqL.of I.hc⟩,_,rfl,cu1,_,_,rfl,rfl,I.hc,by simp;omega,?_⟩;refine⟨_,ds,cu1,rfl,?_⟩;have v:J1 st c=(st.1,st.2++[c]):=by unfold J1;rw[if_neg e]
    rw[v];refine⟨by rw[A5 I.gc];exact I.hg,I.hd.put I.nd,by rw[A0,List.map_append];rfl,I.nd,I.ng,I.gc,I.fg,I.fc,?_⟩;intro b o' r;rw[A5 (show b≠cu1 from B0 r I.fc)];exact I.sm _ _ r
  .rintro σ H1 ⟨o,ds,cu1,rfl,I⟩;rw[List.length_map,List.take_length]at I;refine⟨_,rfl,?_⟩;refine k g (ds++[cu1]) H1 ?_ (I.hd.snoc I.hc) I.sm;rw[I.hg,List.map_append];rfl
theorem a2H(ys:List V):W7 ys none (some (-1))=ys.dropLast:=by
 unfold W7;have e:HT.sIx ys.length ys.length (some (-1))=ys.length-1:=by
  unfold HT.sIx;dsimp only;rw[if_pos (by decide)];omega
 rw[e,HT.sIx_none,List.drop_zero,Nat.sub_zero,List.dropLast_eq_take]
theorem a7b(x:Str)(xs:List Str):inV (V.str x) (xs.map V.str)=decide (x∈xs):=by
 unfold inV;rw[List.any_map,Bool.eq_iff_iff,List.any_eq_true,decide_eq_true_iff];constructor
 .rintro⟨y,hy,e⟩;have:y=x:=by simpa[eqV]using e
  rw[<-this];exact hy
 .intro h;exact⟨x,h,by simp[eqV]⟩
theorem a0r(xs:List Str):(xs.map V.str).all M3=true:=by
 rw[List.all_map,List.all_eq_true];intro x _;rfl
def TrmAt(H:Hp)(v:V):Option (Nat×Int)->Prop
 |none=>v=.non
 |some (j,x)=>∃a,v=.ref a/\H a=some (.tup [.int j,.int x])
theorem TrmAt.same{H H':Hp}{v:V}:∀{r:Option (Nat×Int)},TrmAt H v r->Same H H'->TrmAt H' v r
 |none,h,_=>h
 |some (j,x),⟨a,e1,e2⟩,s=>⟨a,e1,s _ _ e2⟩
def b7z:Sp:=λvs H Q _=>∃(nt p:Addr) (ns ws:List Str),vs=[.ref nt,.ref p]/\H nt=some (.tup (ns.map V.str))/\H p=some (.lst (ws.map V.str))/\ns.length<=100/\Wks ws/\∀v H',TrmAt H' v (rdT ns ws)->Same H H'->Q v H'
theorem sc_read_term:FnScope ["names","words","place","figures","number"] ["names","words"] (A8 V0):=⟨rfl,rfl,rfl,by decide +kernel,rfl,by decide +kernel,by decide +kernel⟩
theorem b1w:Wok (wd "1"):=⟨by with_unfolding_all rfl,by decide⟩
theorem a3n{ws:List Str}{l:Str}(h:ws.getLast?=some l):atI (ws.map V.str) (-1)=some (V.str l):=by
 obtain⟨r,rfl⟩:=List.getLast?_eq_some_iff.mp h;rw[List.map_append];exact a2O _ _
theorem b6A{K:PySem.W.Frag}{H:Hp}{ns:List Str}{l:Str}:∀(j:Nat) (z:V),(ns.map V.str)[j]?=some z->EqV K H 0 z (V.str l) ((ns[j]?).any (· == l)):=λj z a=>by
 rw[List.getElem?_map]at a;obtain⟨y,b,rfl⟩:=Option.map_eq_some_iff.mp a;rw[b];exact EqV.flat rfl rfl
theorem a1P{ns:List Str}{l:Str}(h:l∈ns):ns.idxOf l<ns.length/\ns[ns.idxOf l]?=some l/\∀j,j<ns.idxOf l->(ns[j]?).any (· == l)=false:=by
 have h1:ns.idxOf l<ns.length:=List.idxOf_lt_length_of_mem h;refine⟨h1,?_,λj a=>?_⟩
 .rw[List.getElem?_eq_getElem h1,List.getElem_idxOf h1]
 .have hjl:j<ns.length:=by omega
  rw[List.getElem?_eq_getElem hjl];have:=List.not_of_lt_findIdx (show j<ns.findIdx (· == l)from a);simpa using this
theorem a4b{O:Tok}(F:FunAt K mg "read_term" V0 ["names","words"])(T:Tx mg)(d:mg "TOP"=some (.int 1000000000000 O))(c:Ok P w K mg base "read_number" 3 ["word","top"] b4Z):Ok P w K mg base "read_term" 4 ["names","words"] b7z:=by
 refine F.okJ sc_read_term (λvs H Q E h=>?_) (λI f A outer s H vs Q E G h=>?_)
 .obtain⟨nt,p,ns,ws,rfl,_⟩:=h;rfl
 .obtain⟨nt,p,ns,ws,rfl,hn,hp,hnl,hw,k⟩:=h;have J:=G.u60;have R:(100000:Nat)<=sizeLine:=by rw[sizeLine_eq];decide
  refine⟨_,(A1 (B7 (i:=2) sc_read_term.nd rfl (Or.inl rfl) (D7 K rfl T.b_len (jaC (jv 0) jaN)))
 (A1 (B7 (i:=3) sc_read_term.nd rfl (Or.inl rfl) (jv 1))
 (A1 (G2 (a1E (a6a (a5h (D7 K rfl T.b_len (jaC (jv 1) jaN)) A4) (a4g (b6n K (K4 K (jv 1) (Q0 A4)) (jv 0) (by with_unfolding_all rfl)))))
 (A1 (B7 (i:=2) sc_read_term.nd rfl (Or.inl rfl) (a7X K J (jv 0) (jaC (K4 K (jv 1) (Q0 A4)) jaN)))
 (A9 (B7 (i:=3) sc_read_term.nd rfl (Or.inl rfl) (b4p (a5h (D7 K rfl T.b_len (jaC (jv 1) jaN)) A4) (V7 K (jv 1) I0 (G9 (Q0 A4))) (C5 (jaC A2 jaN))))))
 C9)
 (A1 (G2 (a6U (D7 K rfl T.b_len (jaC (jv 3) jaN)) A4)
 (A9 (C2 N8))
 C9)
 (A1 (B7 (i:=4) sc_read_term.nd rfl (Or.inl rfl) (C0 c (G.mono (by omega)) rfl (jaC (K4 K (jv 3) A4) (jaC (W4 (v:=.int 1000000000000) rfl d ⟨_,rfl⟩) jaN))))
 (A1 (G2 (a1E (a0b (a1o (jv 4) N8) (Y6 (O8 (jv 4) A4))))
 (A9 (C2 N8))
 C9)
 (A9 (C2 (J2 (jaC (jv 2) (jaC (jv 4) jaN))))))))))),?_⟩
  refine⟨_,rfl,nt,_,rfl,.inr (SqT.of hn),?_⟩;dsimp only[B1];refine⟨_,rfl,?_⟩;dsimp only[B1];refine a0S (λσ H'=>∃fp,σ=[some (.ref nt),some (.ref p),some (.int (pfT ns ws).1),some (.ref fp),none]/\H' fp=some (.lst ((pfT ns ws).2.map V.str))/\Wks (pfT ns ws).2/\Same H H') ?fin λfin=>?_
  case fin =>
   rintro σ H1 ⟨fp,rfl,u,m,s1⟩;rw[show rdT ns ws=rdF (pfT ns ws).1 (pfT ns ws).2 from rfl]at k;generalize (pfT ns ws).1=j at k;generalize (pfT ns ws).2=fs at u m k;refine⟨_,rfl,fp,_,rfl,.inl (SqL.of u),rfl,_,rfl,G7 (λe=>?_) (λe=>?_)⟩
   .refine k _ _ ?_ s1
    match fs,e with
    |[],_=>rfl
    |[_],e=>exact absurd e (by rw[show decide (V.int (([_]:List Str).map V.str).length=V.int 1)=true from rfl];decide)
    |_::_::_,_=>rfl
   .obtain⟨f,rfl⟩:∃f,fs=[f]:=by
     match fs,e with
     |[],e=>exact absurd rfl e
     |[f],_=>exact⟨f,rfl⟩
     |_::_::r,e=>exact absurd (by rw[decide_eq_false];rfl;intro z;injection z with z;simp at z;omega) e
    refine⟨_,rfl,fp,_,0,_,rfl,rfl,SqL.of u,F0 (j:=0) rfl,f,rfl,m.2 f List.mem_cons_self,λH2 n=>?_⟩;dsimp only[B1];have n:=s1.trans n;cases t:rdN f with
    |none =>
     refine⟨_,rfl,rfl,_,rfl,a0I (k _ _ ?_ n)⟩;show TrmAt _ _ (match rdN f with|some x=>if x=0 then none else some (j,x)|none=>none);rw[t];rfl
    |some x =>
     refine⟨_,rfl,rfl,_,rfl,?_⟩;rw[decide_eq_false (by intro z;cases z)];refine Y9 ⟨_,rfl,rfl,_,rfl,G7 (λe=>?_) (λe=>?_)⟩
     .refine k _ _ ?_ n;show TrmAt _ _ (match rdN f with|some x=>if x=0 then none else some (j,x)|none=>none);have e:x=0:=V.int.inj (of_decide_eq_true e);rw[t];dsimp only;rw[if_pos e];rfl
     .refine⟨_,rfl,_,rfl,by show 2<=sizeLine;omega,λq B=>k _ _ ?_ (n.upd B)⟩;show TrmAt _ _ (match rdN f with|some x=>if x=0 then none else some (j,x)|none=>none);rw[t];dsimp only;rw[if_neg λz=>e (decide_eq_true (by rw[z];rfl))];exact⟨q,rfl,A0⟩
  refine⟨_,rfl,p,_,rfl,.inl (SqL.of hp),_,_,rfl,rfl,_,rfl,G7 (λe=>?_) (λe=>?_)⟩
  .have e:=of_decide_eq_true e;obtain⟨l,o⟩:∃l,ws.getLast?=some l:=by
    cases B:ws.getLast? with
    |none=>rw[List.getLast?_eq_none_iff.mp B]at e;simp at e
    |some l=>exact⟨l,rfl⟩
   refine⟨_,rfl,_,rfl,p,_,_,_,rfl,rfl,SqL.of hp,a3n o,_,rfl,nt,_,rfl,.inr (SqT.of hn),rfl,a0r ns,?_⟩;rw[a7b];refine⟨_,rfl,G7 (λe=>?_) (λe=>?_)⟩
   .have hm:l∈ns:=of_decide_eq_true e;obtain⟨L,M,N⟩:=a1P hm;refine⟨_,rfl,⟨nt,_,rfl,hn⟩,_,rfl,_,rfl,p,_,_,_,rfl,rfl,SqL.of hp,a3n o,nt,_,_,0,λj=>(ns[j]?).any (· == l),ns.idxOf l,rfl,rfl,hn,by decide,b6A,by rw[List.length_map];exact L,by simp[M],N,?_⟩;dsimp only[B1];have b:pfT ns ws=(ns.idxOf l,if ws.length > 1 then ws.dropLast else[wd "1"]):=by
     unfold pfT;rw[o];dsimp only;rw[if_pos hm]
    refine⟨_,rfl,p,_,rfl,.inl (SqL.of hp),_,_,rfl,rfl,_,rfl,G7 (λe=>?_) (λe=>?_)⟩
    .have e:=of_decide_eq_true e;have y:ws.length > 1:=by rw[List.length_map]at e;omega
     rw[if_pos y]at b;dsimp only[L3];refine⟨_,rfl,_,rfl,_,rfl,p,_,rfl,SqL.of hp,λD g=>?_⟩;rw[a2H,<-List.map_dropLast];dsimp only[B1];refine fin _ _ ⟨D,by rw[b];rfl,by rw[b];exact A0,by rw[b];exact⟨by have:=hw.1;rw[List.length_dropLast];omega,λx C=>hw.2 x ((List.dropLast_sublist ws).mem C)⟩,(Same.refl H).upd g⟩
    .have e:¬ws.length > 1:=λz=>e (decide_eq_true (by rw[List.length_map];omega));rw[if_neg e]at b;refine⟨by show 1<=sizeLine;omega,λD g=>?_⟩;dsimp only[B1];refine fin _ _ ⟨D,by rw[b];rfl,by rw[b];exact A0,by rw[b];exact⟨by show 1<=10000;decide,λx C=>by rw[List.mem_singleton.mp C];exact b1w⟩,(Same.refl H).upd g⟩
   .have hm:¬l∈ns:=λz=>e (decide_eq_true z);have b:pfT ns ws=(ns.length,ws):=by
     unfold pfT;rw[o];dsimp only;rw[if_neg hm]
    refine fin _ _ ⟨p,by rw[b,List.length_map];rfl,by rw[b];exact hp,by rw[b];exact hw,Same.refl H⟩
  .have b:pfT ns ws=(ns.length,ws):=by
    have:ws=[]:=by
     match ws,e with
     |[],_=>rfl
     |a::r,e=>exact absurd (decide_eq_true (by simp)) e
    subst this;rfl
   refine fin _ _ ⟨p,by rw[b,List.length_map];rfl,by rw[b];exact hp,by rw[b];exact hw,Same.refl H⟩
theorem b3y{ns ms:List Str}:((List.range (min ns.length ms.length)).all (λj=>(ns[j]? == ms[j]?)) && ns.length==ms.length)=decide (ns=ms):=by
 rw[Bool.eq_iff_iff];simp only[Bool.and_eq_true,List.all_eq_true,List.mem_range,decide_eq_true_eq,beq_iff_eq];constructor
 .rintro⟨h1,h2⟩;refine List.ext_getElem? λi=>?_;by_cases hi:i<ns.length
  .exact h1 i (by omega)
  .rw[List.getElem?_eq_none (by omega),List.getElem?_eq_none (by omega)]
 .rintro rfl;exact⟨λ_ _=>rfl,rfl⟩
theorem EqV.strs{H:Hp}{k:Bool}{a b:Addr}{ns ms:List Str}(c:SqK k K H a (ns.map V.str))(d:SqK k K H b (ms.map V.str)):EqV K H 1 (.ref a) (.ref b) (decide (ns=ms)):=by
 have step:∀j x y,(ns.map V.str)[j]?=some x->(ms.map V.str)[j]?=some y->EqV K H 0 x y (ns[j]? == ms[j]?):=λj x y e f=>by
  rw[List.getElem?_map]at e f;obtain⟨u,g,rfl⟩:=Option.map_eq_some_iff.mp e;obtain⟨v,h,rfl⟩:=Option.map_eq_some_iff.mp f;rw[g,h];exact EqV.flat (K:=K) (H:=H) (n:=0) (x:=.str u) (y:=.str v) rfl rfl
 rw[<-b3y];cases k
 .have:=EqV.lst (λj=>(ns[j]? == ms[j]?)) c d step;simpa using this
 .have:=EqV.tup (λj=>(ns[j]? == ms[j]?)) c d step;simpa using this
def TtAt(H:Hp)(v:V):Option (List Int)->Prop
 |none=>v=.non
 |some l=>∃a,v=.ref a/\H a=some (.lst (l.map V.int))
theorem TtAt.same{H H':Hp}{v:V}:∀{r:Option (List Int)},TtAt H v r->Same H H'->TtAt H' v r
 |none,h,_=>h
 |some l,⟨a,e1,e2⟩,s=>⟨a,e1,s _ _ e2⟩
theorem b5v(ns ws:List Str):(pfT ns ws).1<=ns.length:=by
 unfold pfT;split
 .split
  .exact List.idxOf_le_length
  .exact Nat.le_refl _
 .exact Nat.le_refl _
theorem b1N{j k:Nat}{x:Int}{fs:List Str}(h:rdF j fs=some (k,x)):k=j/\0<x/\x<=topN:=by
 match fs with
 |[]=>cases h
 |[f] =>
  change (match rdN f with|some x=>if x=0 then none else some (j,x)|none=>none)=some (k,x)at h;cases e:rdN f with
  |none=>rw[e]at h;cases h
  |some y =>
   rw[e]at h;dsimp only at h;split at h
   .cases h
   .cases h;obtain⟨h1,h2,_⟩:=b1M e;exact⟨rfl,by omega,h2⟩
 |_::_::_=>cases h
theorem b1L{ns ws:List Str}{k:Nat}{x:Int}(h:rdT ns ws=some (k,x)):k<=ns.length/\0<x/\x<=topN:=by
 obtain⟨e,h1⟩:=b1N h;exact⟨by rw[e];exact b5v ns ws,h1⟩
def Trms(ns:List Str)(H:Hp)(ys:List V)(L:List (List Str)):Prop:=ys.length=L.length/\∀(i:Nat) (v:V),ys[i]?=some v->∃l,L[i]?=some l/\TrmAt H v (rdT ns l)
theorem Trms.same{ns:List Str}{H H':Hp}{ys:List V}{L:List (List Str)}(h:Trms ns H ys L)(s:Same H H'):Trms ns H' ys L:=⟨h.1,λi v e=>let ⟨l,e1,e2⟩:=h.2 i v e;⟨l,e1,e2.same s⟩⟩
theorem Trms.any{ns:List Str}{H:Hp}{ys:List V}{L:List (List Str)}(h:Trms ns H ys L):ys.any b3n=!((L.map (rdT ns)).all Option.isSome):=by
 rw[Bool.eq_iff_iff,Bool.not_eq_true',List.any_eq_true,<-Bool.not_eq_true,List.all_eq_true];constructor
 .rintro⟨v,hv,e⟩ hall;obtain⟨i,hi⟩:=List.getElem?_of_mem hv;obtain⟨l,h1,h2⟩:=h.2 i v hi;have:=hall (rdT ns l) (List.mem_map.mpr ⟨l,List.mem_of_getElem? h1,rfl⟩);cases b:rdT ns l with
  |none=>rw[b]at this;cases this
  |some q =>
   rw[b]at h2;obtain⟨a,rfl,_⟩:=h2;cases e
 .intro hno;refine Classical.byContradiction λhn=>hno λr b=>?_;obtain⟨l,d,rfl⟩:=List.mem_map.mp b;obtain⟨i,hi⟩:=List.getElem?_of_mem d;have c:i<ys.length:=by rw[h.1];exact(List.getElem?_eq_some_iff.mp hi).1
  obtain⟨f,h1,h2⟩:=h.2 i _ (List.getElem?_eq_getElem c);rw[hi]at h1;cases h1;cases b:rdT ns l with
  |some q=>rfl
  |none =>
   rw[b]at h2;exact absurd ⟨ys[i],List.getElem_mem c,by rw[show ys[i]=V.non from h2];rfl⟩ hn
theorem fm_all{ns:List Str}:∀{L:List (List Str)},(L.map (rdT ns)).all Option.isSome=true->∃ps:List (Nat×Int),L.filterMap (rdT ns)=ps/\ps.length=L.length/\∀(i:Nat) l,L[i]?=some l->∃q,ps[i]?=some q/\rdT ns l=some q
 |[],_=>⟨[],rfl,rfl,λi l h=>(by cases h)⟩
 |l::L,h=>by
  rw[List.map_cons,List.all_cons,Bool.and_eq_true]at h;obtain⟨h1,h2⟩:=h;obtain⟨ps,e1,e2,c⟩:=fm_all h2;obtain⟨q,b⟩:=Option.isSome_iff_exists.mp h1;refine⟨q::ps,by rw[List.filterMap_cons,b];dsimp only;rw[e1],by simp[e2],λi d a=>?_⟩;cases i with
  |zero=>cases a;exact⟨q,rfl,b⟩
  |succ i=>exact c i d a
theorem a3I(t:List Int)(p:Nat×Int):(C8 t p).length=t.length:=by unfold C8;simp
theorem K0(ps:List (Nat×Int)):∀t:List Int,(ps.foldl C8 t).length=t.length:=by
 induction ps with
 |nil=>intro t;rfl
 |cons p r a=>intro t;rw[List.foldl_cons,a,a3I]
theorem Trms.snoc{ns:List Str}{H:Hp}{ys:List V}{L:List (List Str)}{v:V}{l:List Str}(h:Trms ns H ys L)(a:TrmAt H v (rdT ns l)):Trms ns H (ys++[v]) (L++[l]):=by
 refine⟨by simp[h.1],λi u e=>?_⟩;rcases Nat.lt_or_ge i ys.length with hi|hi
 .rw[List.getElem?_append_left hi]at e;obtain⟨b,e1,e2⟩:=h.2 i u e;exact⟨b,by rw[List.getElem?_append_left (by rw[<-h.1];exact hi)];exact e1,e2⟩
 .rw[List.getElem?_append_right hi]at e;have:i-ys.length=0:=by
   have:=(List.getElem?_eq_some_iff.mp e).1;simpa using this
  rw[this]at e;cases e;exact⟨l,by rw[List.getElem?_append_right (by rw[<-h.1];exact hi),<-h.1,this];rfl,a⟩
def b3O:Sp:=λvs H Q _=>∃(nt p:Addr) (ns ws:List Str),vs=[.ref nt,.ref p]/\H nt=some (.tup (ns.map V.str))/\H p=some (.lst (ws.map V.str))/\ns.length<=100/\Wks ws/\∀v H',TtAt H' v (X0 ns ws)->Same H H'->Q v H'
theorem sc_read_terms:FnScope ["names","words","totals","terms","place","number"] ["names","words"] (A8 R0):=⟨rfl,rfl,rfl,by decide +kernel,rfl,by decide +kernel,by decide +kernel⟩
theorem b1X{ws:List Str}(h:∀x∈ws,Wok x):∀(s:List (List Str)×List Str),(∀l∈s.1,∀x∈l,Wok x)->(∀x∈s.2,Wok x)->(∀l∈(ws.foldl J1 s).1,∀x∈l,Wok x)/\∀x∈(ws.foldl J1 s).2,Wok x:=by
 induction ws with
 |nil=>intro s h1 h2;exact⟨h1,h2⟩
 |cons w r b =>
  intro s h1 h2;refine b (λx a=>h x (List.mem_cons_of_mem _ a)) (J1 s w) ?_ ?_
  .unfold J1;split
   .intro l hl;rcases List.mem_append.mp hl with z|z
    .exact h1 l z
    .rw[List.mem_singleton.mp z];exact h2
   .exact h1
  .unfold J1;split
   .intro x a;cases a
   .intro x a;rcases List.mem_append.mp a with z|z
    .exact h2 x z
    .rw[List.mem_singleton.mp z];exact h w List.mem_cons_self
theorem a9H(ws:List Str):∀(s:List (List Str)×List Str) (B:Nat),(∀l∈s.1,l.length<=B)->s.2.length+ws.length<=B->(∀l∈(ws.foldl J1 s).1,l.length<=B)/\(ws.foldl J1 s).2.length<=B:=by
 induction ws with
 |nil=>intro s B h1 h2;exact⟨h1,h2⟩
 |cons w r a =>
  intro s B h1 h2;rw[List.length_cons]at h2;refine a (J1 s w) B ?_ ?_
  .unfold J1;split
   .intro l hl;rcases List.mem_append.mp hl with z|z
    .exact h1 l z
    .rw[List.mem_singleton.mp z];omega
   .exact h1
  .unfold J1;split
   .simp;omega
   .simp;omega
theorem b1W{ws:List Str}(h:Wks ws):(∀l∈prt ws,Wks l)/\(prt ws).length<=10001:=by
 obtain⟨m1,f⟩:=b1X h.2 ([],[]) (λl a=>nomatch a) (λx c=>nomatch c);obtain⟨d,e⟩:=a9H ws ([],[]) 10000 (λl a=>nomatch a) (by have:=h.1;simp;omega);have b:=a6L ws ([],[]);refine⟨λl a=>?_,?_⟩
 .rcases List.mem_append.mp a with z|z
  .exact⟨d l z,m1 l z⟩
  .rw[List.mem_singleton.mp z];exact⟨e,f⟩
 .unfold prt;have:=h.1;simp only[List.length_nil]at b;simp only[List.length_append,List.length_singleton];omega
theorem a2W(F:FunAt K mg "read_terms" R0 ["names","words"])(T:Tx mg)(c:Ok P w K mg base "read_term" 4 ["names","words"] b7z)(d:Ok P w K mg base "parted" 1 ["words"] (b3P K)):Ok P w K mg base "read_terms" 5 ["names","words"] b3O:=by
 refine F.okJ sc_read_terms (λvs H Q E h=>?_) (λa9 f A outer s H vs Q E B h=>?_)
 .obtain⟨nt,p,ns,ws,rfl,_⟩:=h;rfl
 .obtain⟨nt,p,ns,ws,rfl,hn,hp,hnl,hw,k⟩:=h;have hu:=B.u60;have hz:(100000:Nat)<=sizeLine:=by rw[sizeLine_eq];decide
  refine⟨_,(A1 (B7 (i:=2) sc_read_terms.nd rfl (Or.inl rfl) (b0F (C5 (jaC A4 jaN)) (J3 (D7 K rfl T.b_len (jaC (jv 0) jaN)) A4)))
 (A1 (G2 (b0v K hu (jv 1) (C5 (jaC A2 jaN)))
 (A9 (C2 (jv 2)))
 C9)
 (A1 (a0n (i:=3) sc_read_terms.nd rfl (Or.inl rfl) (N:=["group","names"]) (src:=[none,some 0]) (L7 K (C0 d (B.mono (by omega)) rfl (jaC (jv 1) jaN))) (by show K6 _ _=true;rfl) (by rfl) (by rfl)
 (λ_ _ _ _ _=>(C3 (i:=0) (show(["group","names"]:List Str).Nodup by decide +kernel) rfl (Or.inl rfl))) (λ_ _ _ _ _=>N7) (λ_ _ _ _ _=>(C0 c (B.mono (by omega)) rfl (jaC (jv 1) (jaC (jv 0) jaN)))))
 (A1 (G2 (b6m K hu N8 (jv 3) (by with_unfolding_all rfl))
 (A9 (C2 N8))
 C9)
 (A1 (T8 (L7 K (jv 3)) (Y8 K 2 (D5 (C3 (i:=4) sc_read_terms.nd rfl (Or.inl rfl)) (D5 (C3 (i:=5) sc_read_terms.nd rfl (Or.inl rfl)) R6)))
 (A9 (a6b K (jv 2) (jv 4) (jv 5))))
 (A9 (C2 (jv 2)))))))),?_⟩
  refine⟨by show 1<=sizeLine;omega,λp1 a5=>?_⟩;have s1:=(Same.refl H).upd (o:=.lst [V.int 0]) a5;have e1:upd H p1 (.lst [V.int 0]) p1=some (.lst [V.int 0]):=A0;generalize upd H p1 (.lst [V.int 0])=H1 at s1 e1;refine⟨_,rfl,nt,_,rfl,.inr (SqT.of (s1 _ _ hn)),_,_,rfl,rfl,p1,_,_,rfl,rfl,e1,by rw[List.length_map];omega,by rw[List.length_map];omega,by rw[List.length_map];simp;omega,λt ht=>?_⟩;dsimp only[B1];have R:(List.replicate ((((ns.map V.str).length:Int)+1).toNat) [V.int 0]).flatten=(List.replicate (ns.length+1) (0:Int)).map V.int:=by
   rw[List.length_map,show((ns.length:Int)+1).toNat=ns.length+1 by omega];generalize ns.length+1=m;induction m with
   |zero=>rfl
   |succ m ih=>rw[List.replicate_succ,List.flatten_cons,ih];rfl
  rw[R];have a8:H t=none:=s1.free ht;have s2:=s1.upd (o:=.lst ((List.replicate (ns.length+1) (0:Int)).map V.int)) ht;have e2:upd H1 t (.lst ((List.replicate (ns.length+1) (0:Int)).map V.int)) t=some (.lst ((List.replicate (ns.length+1) (0:Int)).map V.int)):=A0;generalize upd H1 t (.lst ((List.replicate (ns.length+1) (0:Int)).map V.int))=H2 at s2 e2;refine⟨_,rfl,by show 1<=sizeLine;omega,λp3 J=>?_⟩;have S:=s2.upd (o:=.lst [V.str (wd "0")]) J;have e3:=G0 (o:=.lst [V.str (wd "0")]) e2 J;have O:EqV K (upd H2 p3 (.lst [V.str (wd "0")])) 1 (.ref p) (.ref p3) (decide (ws=[wd "0"])):=EqV.strs (k:=false) (SqL.of (S _ _ hp)) (SqL.of A0);generalize upd H2 p3 (.lst [V.str (wd "0")])=H3 at S e3 O;refine⟨1,_,by decide,O,⟨_,_,rfl,rfl⟩,_,rfl,G7 (λe=>?_) (λe=>?_)⟩
  .have e:ws=[wd "0"]:=of_decide_eq_true e;refine⟨_,rfl,k _ _ ?_ S⟩;unfold X0;rw[if_pos e];exact⟨t,rfl,e3⟩
  have I:¬ws=[wd "0"]:=λz=>e (decide_eq_true z);obtain⟨wk,wl⟩:=b1W hw;refine⟨_,rfl,p,ws,rfl,S _ _ hp,hw.1,λg gs H4 hg Y s4=>?_⟩;have U:=S.trans s4;have e4:=s4 _ _ e3;generalize G:prt ws=L at Y wk wl;refine⟨g,rfl,⟨_,SqL.of hg⟩,?_⟩;refine a1r (K:=K) (a:=g) (xs:=gs.map V.ref) (by rw[List.length_map,Y.1];omega) (λi ys H'=>Same H4 H'/\Trms ns H' ys (L.take i)) ⟨Same.refl _,rfl,λi v e=>(by cases e)⟩ (λi ys H' hi h=>⟨SqL.of (h.1 _ _ hg),by rw[h.2.1];exact List.length_take_le _ _⟩) ?_ ?_
  .rintro i x ys H5 hx ⟨s5,hT⟩;rw[List.getElem?_map]at hx;obtain⟨a,Z,rfl⟩:=Option.map_eq_some_iff.mp hx;obtain⟨l,hl,a2⟩:=Y.2 i a Z;refine⟨Sub.one,?_⟩;refine⟨_,rfl,_,rfl,nt,a,ns,l,rfl,s5 _ _ (U _ _ hn),s5 _ _ a2,hnl,wk l (List.mem_of_getElem? hl),λv H6 hv C=>⟨s5.trans C,?_⟩⟩;rw[List.take_add_one,hl];exact(hT.same C).snoc hv
  .rintro ys H5 ⟨s5,hT⟩ p6 hp6;rw[List.length_map,Y.1,List.take_length]at hT;have C:=s5.upd (o:=.lst ys) hp6;have X:upd H5 p6 (.lst ys) p6=some (.lst ys):=A0;have n:=hT.same ((Same.refl H5).upd (o:=.lst ys) hp6);have t6:p6≠t:=λz=>by
    have:=s5 _ _ e4;rw[z,this]at hp6;cases hp6
   generalize upd H5 p6 (.lst ys)=H6 at C X n;have W:=U.trans C;have D:=C _ _ e4;dsimp only[B1];refine⟨_,rfl,p6,ys,rfl,rfl,SqL.of X,λv hv=>?_,_,rfl,?_⟩
   .obtain⟨i,hi⟩:=List.getElem?_of_mem hv;obtain⟨l,_,h2⟩:=n.2 i v hi;cases B:rdT ns l with
    |none=>rw[B]at h2;exact .inl h2
    |some q=>rw[B]at h2;obtain⟨a,e1,e2⟩:=h2;exact .inr ⟨a,_,e1,e2⟩
   rw[n.any];refine G7 (λe=>?_) (λe=>?_)
   .refine k _ _ ?_ W;unfold X0;rw[if_neg I,G,if_neg (by simpa using e)];rfl
   have r:(L.map (rdT ns)).all Option.isSome=true:=by
    cases hq:(L.map (rdT ns)).all Option.isSome with
    |true=>rfl
    |false=>rw[hq]at e;exact absurd rfl e
   obtain⟨ps,f1,f2,f3⟩:=fm_all r;have a7:X0 ns ws=some (ps.foldl C8 (List.replicate (ns.length+1) 0)):=by
    unfold X0;rw[if_neg I,G,if_pos r,f1]
   refine⟨_,rfl,p6,rfl,⟨_,SqL.of X⟩,?_⟩;refine a1e (K:=K) (a:=p6) (xs:=ys) (λi σ H'=>∃o4 o5,σ=[some (.ref nt),some (.ref p),some (.ref t),some (.ref p6),o4,o5]/\H' t=some (.lst (((ps.take i).foldl C8 (List.replicate (ns.length+1) 0)).map V.int))/\Off [t] H6 H') ⟨_,_,rfl,D,Off.refl _ _⟩ (λi σ H' _ ⟨_,_,_,_,o⟩=>SqL.of (o _ _ (by simpa using t6) X)) ?_ ?_
   .rintro i x σ H7 hx ⟨o4,o5,rfl,e7,off7⟩;obtain⟨l,hl,h2⟩:=n.2 i x hx;obtain⟨q,a6,M⟩:=f3 i l hl;obtain⟨j,y⟩:=q;rw[M]at h2;obtain⟨a,rfl,Z⟩:=h2;obtain⟨b1,b2,b3⟩:=b1L M;have a0:a≠t:=T7 Z D (by intro z;cases z);have a1:=off7 _ _ (by simpa using a0) Z;refine⟨a,_,rfl,SqT.of a1,rfl,_,_,rfl,_,_,rfl,rfl,?_⟩;dsimp only[B1];rw[show(ps.take (i+1)).foldl C8 (List.replicate (ns.length+1) 0)=C8 ((ps.take i).foldl C8 (List.replicate (ns.length+1) 0)) (j,y) by rw[List.take_add_one,a6,List.foldl_append];rfl];have u:=K0 (ps.take i) (List.replicate (ns.length+1) 0);generalize (ps.take i).foldl C8 (List.replicate (ns.length+1) 0)=tt at e7 u;rw[List.length_replicate]at u;have hj:j<tt.length:=by omega
    have a3:atI (tt.map V.int) (j:Int)=some (V.int tt[j]):=F0 (by rw[List.getElem?_map,List.getElem?_eq_getElem hj];rfl);refine⟨_,rfl,_,rfl,t,_,_,_,rfl,rfl,SqL.of e7,a3,_,rfl,_,_,rfl,rfl,t,_,_,j,rfl,rfl,e7,?_⟩;have a4:ixN (tt.map V.int).length (j:Int)=some j:=by
     unfold ixN;rw[List.length_map,if_pos (by omega),if_pos (by omega)];simp
    refine⟨a4,_,_,rfl,?_,off7.set (by simp)⟩;rw[A0];unfold C8;rw[List.map_set,List.getD_eq_getElem?_getD,List.getElem?_eq_getElem hj];rfl
   .rintro σ H7 ⟨o4,o5,rfl,e7,off7⟩;rw[show ys.length=ps.length by rw[n.1,f2],List.take_length]at e7;refine⟨_,rfl,k _ _ ?_ λb o hb=>off7 _ _ ?_ (W _ _ hb)⟩
    .rw[a7];exact⟨t,rfl,e7⟩
    .simpa using B0 hb a8
theorem a2I(x:Str):∀ws:List Str,((ws.map V.str).countP λz=>eqV z (V.str x))=ws.count x
 |[]=>rfl
 |w::r=>by
  rw[List.map_cons,List.countP_cons,List.count_cons,a2I x r];rfl
theorem cut_hi(ws:List Str)(m:Nat)(h:m<=ws.length):W7 (ws.map V.str) none (some (m:Int))=(ws.take m).map V.str:=by
 unfold W7;rw[HT.sIx_none,HT.sIx_nat,List.drop_zero,Nat.sub_zero,List.length_map,Nat.min_eq_left h,List.map_take]
theorem cut_lo(ws:List Str)(m:Nat)(h:m<=ws.length):W7 (ws.map V.str) (some (m:Int)) none=(ws.drop m).map V.str:=by
 unfold W7;rw[HT.sIx_none,HT.sIx_nat,List.length_map,Nat.min_eq_left h,List.map_drop,List.take_of_length_le (by rw[List.length_drop,List.length_map];omega)]
theorem a0X{ns ws:List Str}{l:List Int}(h:X0 ns ws=some l):l.length=ns.length+1:=by
 unfold X0 at h;split at h
 .cases h;simp
 .split at h
  .cases h;rw[K0];simp
  .cases h
theorem a7n(l:List Int):(∀x∈l.map (λi:Int=>if i<0 then -i else i),x<=topN)↔∀x∈l,-topN<=x/\x<=topN:=by
 constructor
 .intro h x hx;have:=h _ (List.mem_map.mpr ⟨x,hx,rfl⟩);split at this<;>(constructor<;>(try unfold topN)<;>(unfold topN at this;omega))
 .intro h x hx;obtain⟨y,a,rfl⟩:=List.mem_map.mp hx;obtain⟨h1,h2⟩:=h y a;split<;>(unfold topN at *;omega)
def b7B:Sp:=λvs H Q _=>∃(nt p:Addr) (ns ws:List Str),vs=[.ref nt,.ref p]/\H nt=some (.tup (ns.map V.str))/\H p=some (.lst (ws.map V.str))/\ns.length<=100/\Wks ws/\∀v H',TtAt H' v (K3 ns ws)->(∀a,v=.ref a->H a=none)->Same H H'->Q v H'
theorem sc_read_sum:FnScope ["names","words","middle","left","right","rest"] ["names","words"] (A8 Y0):=⟨rfl,rfl,rfl,by decide +kernel,rfl,by decide +kernel,by decide +kernel⟩
theorem a4X{tT:Tok}(F:FunAt K mg "read_sum" Y0 ["names","words"])(T:Tx mg)(t:mg "TOP"=some (.int 1000000000000 tT))(c:Ok P w K mg base "read_terms" 5 ["names","words"] b3O):Ok P w K mg base "read_sum" 6 ["names","words"] b7B:=by
 refine F.okJ sc_read_sum (λvs H Q E h=>?_) (λa7 f A outer s H vs Q E hr h=>?_)
 .obtain⟨nt,p,ns,ws,rfl,_⟩:=h;rfl
 .obtain⟨nt,p,ns,ws,rfl,hn,hp,hnl,hw,k⟩:=h;have hu:=hr.u60;have D:(100000:Nat)<=sizeLine:=by rw[sizeLine_eq];decide
  refine⟨_,(A1 (G2 (a6U (b0A K hu (jv 1) (jaC A2 jaN)) A4)
 (A9 (C2 N8))
 C9)
 (A1 (B7 (i:=2) sc_read_sum.nd rfl (Or.inl rfl) (a7Y K hu (jv 1) (jaC A2 jaN)))
 (A1 (B7 (i:=3) sc_read_sum.nd rfl (Or.inl rfl) (C0 c (hr.mono (by omega)) rfl (jaC (jv 0) (jaC (V7 K (jv 1) I0 (G9 (jv 2))) jaN))))
 (A1 (B7 (i:=4) sc_read_sum.nd rfl (Or.inl rfl) (C0 c (hr.mono (by omega)) rfl (jaC (jv 0) (jaC (V7 K (jv 1) (G9 (J3 (jv 2) A4)) I0) jaN))))
 (A1 (G2 (a1E (a0b (a1o (jv 3) N8) (Y6 (a1o (jv 4) N8))))
 (A9 (C2 N8))
 C9)
 (A1 (a0n (i:=5) sc_read_sum.nd rfl (Or.inl rfl) (N:=["a","b"]) (src:=[none,none]) (b6q K rfl T.b_zip (jaC (jv 3) (jaC (jv 4) jaN))) (by show K6 _ _=true;rfl) (by rfl) (by rfl)
 (λ_ _ _ _ _=>(Y8 K 2 (D5 (C3 (i:=0) (show(["a","b"]:List Str).Nodup by decide +kernel) rfl (Or.inl rfl)) (D5 (C3 (i:=1) (show(["a","b"]:List Str).Nodup by decide +kernel) rfl (Or.inl rfl)) R6)))) (λ_ _ _ _ _=>N7) (λ_ _ _ _ _=>(a5k (jv 0) (jv 1))))
 (A9 (C2 (b4p (b8n (b3d K rfl T.b_max (jaC (U5 (N:=["number"]) (src:=[none]) (L7 K (jv 5)) (by show K6 _ _=true;rfl) (by rfl) (by rfl)
 (λ_ _ _ _ _=>(C3 (i:=0) (show(["number"]:List Str).Nodup by decide +kernel) rfl (Or.inl rfl))) (λ_ _ _ _ _=>N7) (λ_ _ _ _ _=>(b6t rfl T.b_abs (jaC (jv 0) jaN)))) jaN)) (W4 (v:=.int 1000000000000) rfl t ⟨_,rfl⟩)) (jv 5) N8))))))))),?_⟩
  refine⟨_,rfl,.inl ⟨rfl,_,SqL.of hp⟩,p,_,_,rfl,rfl,hp,rfl,a0r ws,rfl,_,rfl,?_⟩;rw[a2I];refine G7 (λe=>?_) (λe=>?_)
  .refine k _ _ ?_ (λa z=>nomatch z) (Same.refl H);unfold K3;rw[if_neg λz=>?_]
   .rfl
   .rw[show ws.count (Str.ofString "=")=1 from z]at e;exact absurd e (by decide)
  have hc:ws.count (wd "=")=1:=by
   by_cases q:ws.count (wd "=")=1
   .exact q
   .refine absurd ?_ e;rw[decide_eq_false λz=>q ?_]
    .rfl
    .injection z with z
     exact Int.ofNat.inj z
  have hm:wd "="∈ws:=List.count_pos_iff.mp (by rw[hc];decide);obtain⟨i1,i2,i3⟩:=a1P hm;refine⟨_,rfl,.inl ⟨rfl,_,SqL.of hp⟩,p,_,_,ws.idxOf (wd "="),rfl,rfl,hp,rfl,a0r ws,by rw[List.length_map];exact i1,λz D=>?_,λj z hj D=>?_,?_⟩
  .rw[List.getElem?_map,i2]at D;cases D;show(wd "="==wd "=")=true;exact beq_self_eq_true _
  .rw[List.getElem?_map]at D;obtain⟨y,hy,rfl⟩:=Option.map_eq_some_iff.mp D;have:=i3 j hj;rw[hy]at this;exact this
  dsimp only[B1];have a0:K3 ns ws=a8i (X0 ns (ws.take (ws.idxOf (wd "=")))) (X0 ns (ws.drop (ws.idxOf (wd "=")+1))):=by
   unfold K3;rw[if_pos hc]
  rw[a0]at k;generalize ws.idxOf (wd "=")=m at i1 k;refine⟨_,rfl,_,rfl,?_⟩
  delta L3
  refine⟨_,rfl,_,rfl,p,_,rfl,SqL.of hp,λW a4=>?_⟩;rw[cut_hi ws m (by omega)];have s1:=(Same.refl H).upd (o:=.lst ((ws.take m).map V.str)) a4;have e1:upd H W (.lst ((ws.take m).map V.str)) W=some (.lst ((ws.take m).map V.str)):=A0;generalize upd H W (.lst ((ws.take m).map V.str))=H1 at s1 e1;refine⟨nt,W,ns,_,rfl,s1 _ _ hn,e1,hnl,⟨by have:=hw.1;have:=List.length_take_le m ws;omega,λx B=>hw.2 x (List.mem_of_mem_take B)⟩,λv2 H2 g R=>?_⟩;have R:=s1.trans R;dsimp only[B1];refine⟨_,rfl,_,rfl,_,rfl,_,_,rfl,rfl,_,rfl,p,_,rfl,SqL.of (R _ _ hp),λX a5=>?_⟩;rw[show((m:Int)+1)=((m+1:Nat):Int) by omega,cut_lo ws (m+1) (by omega)];have s3:=(Same.refl H2).upd (o:=.lst ((ws.drop (m+1)).map V.str)) a5;have e3:upd H2 X (.lst ((ws.drop (m+1)).map V.str)) X=some (.lst ((ws.drop (m+1)).map V.str)):=A0;generalize upd H2 X (.lst ((ws.drop (m+1)).map V.str))=H3 at s3 e3;refine⟨nt,X,ns,_,rfl,s3 _ _ (R _ _ hn),e3,hnl,⟨by have:=hw.1;rw[List.length_drop];omega,λx B=>hw.2 x (List.mem_of_mem_drop B)⟩,λv4 H4 u s4=>?_⟩;have S:=s3.trans s4;have n:=R.trans S;have g:=g.same S;have I:=@a0X ns (ws.take m);generalize X0 ns (ws.take m)=ol at k g I;have J:=@a0X ns (ws.drop (m+1));generalize X0 ns (ws.drop (m+1))=or at k u J;dsimp only[B1];refine⟨_,rfl,rfl,_,rfl,?_⟩;cases ol with
  |none =>
   rw[decide_eq_true (show v2=V.non from g)];exact a0I (k _ _ rfl (λa z=>nomatch z) n)
  |some l =>
   obtain⟨a,rfl,ha⟩:=g;rw[decide_eq_false (by intro z;cases z)];refine Y9 ⟨_,rfl,rfl,_,rfl,?_⟩;cases or with
   |none =>
    rw[decide_eq_true (show v4=V.non from u)];exact a0I (k _ _ rfl (λa z=>nomatch z) n)
   |some r =>
    obtain⟨b,rfl,hb⟩:=u;rw[decide_eq_false (by intro z;cases z)];refine Y9 ?_;have a3:=I rfl;refine⟨_,rfl,_,rfl,false,false,a,b,rfl,⟨_,SqL.of ha⟩,⟨_,SqL.of hb⟩,?_⟩;refine a8D (caps:=[]) (λx y=>V.int (x-y)) (k1:=false) (k2:=false) (SqL.of ha) (SqL.of hb) (by omega) (λH' s=>⟨SqL.of (s _ _ ha),SqL.of (s _ _ hb)⟩) rfl (λx y H1 Q1 _ q=>⟨_,rfl,_,rfl,_,_,rfl,rfl,q⟩) λH5 G s5 O=>?_;rw[a6v (λx y=>x-y) V.int];have a1:(List.zipWith (λa b:Int=>a-b) l r).length=ns.length+1:=by rw[List.length_zipWith,a3,J rfl,Nat.min_self]
    have a2:a8i (some l) (some r)=if ∀x∈List.zipWith (λa b:Int=>a-b) l r,-topN<=x/\x<=topN then some (List.zipWith (λa b:Int=>a-b) l r)else none:=rfl
    rw[a2]at k;generalize List.zipWith (λa b:Int=>a-b) l r=d at k a1;have f5:H G=none:=(n.trans s5).free O;have C:=n.trans (s5.upd (o:=.lst (d.map V.int)) O);have U:upd H5 G (.lst (d.map V.int)) G=some (.lst (d.map V.int)):=A0;generalize upd H5 G (.lst (d.map V.int))=H6 at C U;dsimp only[B1];refine⟨_,rfl,G,rfl,⟨_,SqL.of U⟩,?_⟩;refine X4 (vs:=d.map V.int) (as:=d) (caps:=[]) (λi=>V.int (if i<0 then -i else i)) (by rw[List.length_map];omega) (List.length_map ..) (λH' s=>SqL.of (s _ _ U)) rfl (λi v x Z Q7 hv B s7 q=>?_) λZ Y s7 a6=>?_
    .rw[List.getElem?_map,B]at hv;cases hv;exact⟨_,rfl,x,rfl,q _ (Same.refl _)⟩
    .have s7':=s7.upd (o:=.lst (d.map λi=>V.int (if i<0 then -i else i))) a6;have e7:upd Z Y (.lst (d.map λi=>V.int (if i<0 then -i else i))) Y=some (.lst (d.map λi=>V.int (if i<0 then -i else i))):=A0;generalize upd Z Y (.lst (d.map λi=>V.int (if i<0 then -i else i)))=H8 at s7' e7;refine⟨false,Y,d.map (λi=>if i<0 then -i else i),rfl,SqL.of (by rw[e7,List.map_map];rfl),by rw[List.length_map];omega,λM hM L=>?_⟩;refine⟨_,_,rfl,rfl,_,rfl,G7 (λe=>?_) (λe=>?_)⟩
     .have e:M<=topN:=of_decide_eq_true e;refine⟨_,rfl,k _ _ ?_ (λa z=>by cases z;exact f5) (C.trans s7')⟩;rw[if_pos ((a7n d).mp λx B=>Int.le_trans (L x B) e)];exact⟨G,rfl,s7' _ _ U⟩
     .refine k _ _ ?_ (λa z=>nomatch z) (C.trans s7');rw[if_neg λz=>e (decide_eq_true ((a7n d).mpr z M hM))];rfl
end
end K44
namespace K44
open PySem PySem.Spec PyProof.Rows L2
def M0(c:List (Str×Int)):List (Key×V):=c.map λq=>(Sum.inr q.1,V.int q.2)
def lk(c:List (Str×Int))(n:Str):Option Int:=(c.find? λq=>decide (q.1=n)).map (·.2)
theorem V6(n:Str):∀c:List (Str×Int),Z4 (M0 c) (Sum.inr n)=(lk c n).map V.int
 |[]=>rfl
 |q::r=>by
  have a:=V6 n r;unfold M0 lk at *;by_cases e:q.1=n
  .rw[List.map_cons,a0M (by rw[e]),List.find?_cons,decide_eq_true e];rfl
  .rw[List.map_cons,a0N (λz=>e (Sum.inr.inj z)),List.find?_cons,decide_eq_false e];exact a
theorem a6Q{c:List (Str×Int)}{n:Str}:(lk c n).isSome=decide (n∈c.map (·.1)):=by
 unfold lk;rw[Option.isSome_map,Bool.eq_iff_iff,List.find?_isSome,decide_eq_true_iff,List.mem_map];constructor
 .rintro⟨q,hq,e⟩;exact⟨q,hq,of_decide_eq_true e⟩
 .rintro⟨q,hq,e⟩;exact⟨q,hq,decide_eq_true e⟩
theorem a6S{c:List (Str×Int)}{n:Str}{x:Int}(h:n∉c.map (·.1)):W2 (M0 c) (Sum.inr n) (V.int x)=M0 (c++[(n,x)]):=by
 rw[a9B]
 .unfold M0;rw[List.map_append];rfl
 .rw[V6];have:=a6Q (c:=c) (n:=n);rw[decide_eq_false h]at this;cases e:lk c n with
  |none=>rfl
  |some y=>rw[e]at this;cases this
section
variable {P:Program}{w:World}{K:PySem.W.Frag}{mg:Str->Option Value}{base:Heap}
def b7y:Sp:=λvs H Q _=>∃(nt p kp:Addr) (ns ws:List Str) (c:List (Str×Int)),vs=[.ref nt,.ref p,.ref kp]/\H nt=some (.tup (ns.map V.str))/\H p=some (.lst (ws.map V.str))/\H kp=some (.dK (M0 c))/\Wks ws/\c.length<=1000 /\
 (∀c' H',tkN ns c ws=some c'->H' kp=some (.dK (M0 c'))->Off [kp] H H'->Q (.bl true) H')/\(tkN ns c ws=none->∀H',Same H H'->Q (.bl false) H')
theorem sc_take_number:FnScope ["names","words","kept","number"] ["names","words","kept"] (A8 O0):=⟨rfl,rfl,rfl,by decide +kernel,rfl,by decide +kernel,by decide +kernel⟩
theorem at0{x:Str}{r:List Str}:atI ((x::r).map V.str) 0=some (V.str x):=F0 (j:=0) rfl
theorem at1{x y:Str}{r:List Str}:atI ((x::y::r).map V.str) 1=some (V.str y):=F0 (j:=1) rfl
theorem a2n{B:Tok}(F:FunAt K mg "take_number" O0 ["names","words","kept"])(T:Tx mg)(j:mg "TOP"=some (.int 1000000000000 B))(d:Ok P w K mg base "read_number" 3 ["word","top"] b4Z):Ok P w K mg base "take_number" 4 ["names","words","kept"] b7y:=by
 refine F.okJ sc_take_number (λvs H Q E h=>?_) (λy f A outer s H vs Q E t h=>?_)
 .obtain⟨nt,p,kp,ns,ws,c,rfl,_⟩:=h;rfl
 .obtain⟨nt,p,kp,ns,ws,c,rfl,hn,g,hk,hw,hcl,k1,k2⟩:=h;have u:=t.u60;have C:(100000:Nat)<=sizeLine:=by rw[sizeLine_eq];decide
  refine⟨_,(A1 (G2 (a1E (a0b (a6U (D7 K rfl T.b_len (jaC (jv 1) jaN)) A4) (a0b (a7V K (K4 K (jv 1) A4) (jv 0) (by with_unfolding_all rfl)) (Y6 (b6o u (K4 K (jv 1) A4) (jv 2) (by with_unfolding_all rfl))))))
 (A9 (C2 a2x))
 C9)
 (A1 (B7 (i:=3) sc_take_number.nd rfl (Or.inl rfl) (C0 d (t.mono (by omega)) rfl (jaC (K4 K (jv 1) A4) (jaC (W4 (v:=.int 1000000000000) rfl j ⟨_,rfl⟩) jaN))))
 (A1 (G2 (a1o (jv 3) N8)
 (A9 (C2 a2x))
 C9)
 (A1 (a0o u (jv 2) (K4 K (jv 1) A4) (jv 3))
 (A9 (C2 a2x)))))),?_⟩
  refine⟨_,rfl,p,_,rfl,.inl (SqL.of g),rfl,_,rfl,?_⟩
  match ws,hw,g,k1,k2 with
  |[],hw,g,k1,k2=>exact a0I (k2 rfl _ (Same.refl H))
  |[_],hw,g,k1,k2=>exact a0I (k2 rfl _ (Same.refl H))
  |a::b::c0::r,hw,g,k1,k2 =>
   rw[decide_eq_false (λz=>by injection z with z;simp at z;omega)];exact a0I (k2 rfl _ (Same.refl H))
  |[n,f],hw,g,k1,k2 =>
   refine Y9 ⟨_,rfl,p,_,_,_,rfl,rfl,SqL.of g,at0,_,rfl,nt,_,rfl,.inr (SqT.of hn),rfl,a0r ns,?_⟩;rw[if_pos rfl,a7b];refine⟨_,rfl,G7 (λe=>?_) (λe=>?_)⟩
   .refine k2 ?_ _ (Same.refl H);have:¬n∈ns:=by simpa using e
    unfold tkN;dsimp only;rw[if_neg λz=>this z.1]
   have m:n∈ns:=by simpa using e
   refine⟨_,rfl,p,_,_,_,rfl,rfl,SqL.of g,at0,_,rfl,kp,_,rfl,DGet.k (k:=Sum.inr n) hk,_,rfl,?_⟩;rw[V6,Option.isSome_map,a6Q];refine G7 (λe=>?_) (λe=>?_)
   .refine k2 ?_ _ (Same.refl H);have:n∈c.map (·.1):=of_decide_eq_true e;unfold tkN;dsimp only;rw[if_neg λz=>z.2 this]
   have l:n∉c.map (·.1):=λz=>e (decide_eq_true z);have o:tkN ns c [n,f]=(rdN f).map λx=>c++[(n,x)]:=by
    unfold tkN;dsimp only;rw[if_pos ⟨m,l⟩]
   rw[o]at k1 k2;refine⟨_,rfl,p,_,_,_,rfl,rfl,SqL.of g,at1,f,rfl,hw.2 f (by simp),λH1 s1=>?_⟩;dsimp only[B1];cases q:rdN f with
   |none =>
    rw[q]at k2;exact⟨_,rfl,rfl,_,rfl,a0I (k2 rfl _ s1)⟩
   |some x =>
    rw[q]at k1;refine⟨_,rfl,rfl,_,rfl,?_⟩;rw[decide_eq_false (by intro z;cases z)];refine Y9 ⟨_,rfl,_,rfl,_,rfl,p,_,_,_,rfl,rfl,SqL.of (s1 _ _ g),at0,kp,_,rfl,DPut.k (k:=Sum.inr n) (s1 _ _ hk) (by unfold M0;rw[List.length_map];omega),?_⟩;refine k1 _ _ rfl ?_ (s1.off.set (by simp));rw[A0];exact congrArg some (congrArg HO.dK (a6S l))
end
def dfl(tn ar as ac ap:Addr):List (Str×V):=[("names",.ref tn),("rows",.ref ar),("sides",.ref as),("caps",.ref ac),("prices",.ref ap)]
section
variable (tn ar as ac ap tn':Addr)
theorem a2G:(dfl tn ar as ac ap).lookup ("names" : Str)=some (.ref tn):=by with_unfolding_all rfl
theorem b1c:(dfl tn ar as ac ap).lookup ("rows" : Str)=some (.ref ar):=by with_unfolding_all rfl
theorem b4C:(dfl tn ar as ac ap).lookup ("sides" : Str)=some (.ref as):=by with_unfolding_all rfl
theorem b4E:(dfl tn ar as ac ap).lookup ("caps" : Str)=some (.ref ac):=by with_unfolding_all rfl
theorem b4D:(dfl tn ar as ac ap).lookup ("prices" : Str)=some (.ref ap):=by with_unfolding_all rfl
theorem b1b:(dfl tn ar as ac ap).lookup ("take" : Str)=none:=by with_unfolding_all rfl
theorem b6J:(dfl tn ar as ac ap).lookup ("take_names" : Str)=none:=by with_unfolding_all rfl
theorem b6I:(dfl tn ar as ac ap).lookup ("take_sum" : Str)=none:=by with_unfolding_all rfl
theorem b6H:(dfl tn ar as ac ap).lookup ("whole" : Str)=none:=by with_unfolding_all rfl
theorem b3r:K7 "prices" (.ref ap) (K7 "caps" (.ref ac) (K7 "sides" (.ref as) (K7 "rows" (.ref ar) (K7 "names" (.ref tn) []))))=dfl tn ar as ac ap:=by with_unfolding_all rfl
theorem b1d:K7 "names" (.ref tn') (dfl tn ar as ac ap)=dfl tn' ar as ac ap:=by with_unfolding_all rfl
end
theorem Its.putI{H:Hp}{vs:List V}{b:LLI}{c C dx:Addr}{fs:List (Str×V)}{o:HO}(h:Its H vs b)(d:H c=some (.ins C dx fs)):Its (upd H c o) vs b:=⟨h.1,λi v e=>let ⟨r,e1,a,e2,q⟩:=h.2 i v e;⟨r,e1,a,e2,by rw[A5 (T7 q d (by intro z;cases z))];exact q⟩⟩
structure DrTx(K:PySem.W.Frag)(C:Addr):Prop where
 cl:Cls K C
 n1:NoAttr K C "names"
 n2:NoAttr K C "rows"
 n3:NoAttr K C "sides"
 n4:NoAttr K C "caps"
 n5:NoAttr K C "prices"
structure DrAt(C:Addr)(H:Hp)(p ar as ac ap:Addr)(d:Dr):Prop where
 ob:∃dx tn,H p=some (.ins C dx (dfl tn ar as ac ap))/\H tn=some (.tup (d.names.map V.str))
 hr:∃us,H ar=some (.lst us)/\Its H us d.rows
 hs:H as=some (.lst (d.sides.map V.int))
 hc:H ac=some (.dK (M0 d.caps))
 hp:H ap=some (.dK (M0 d.prices))
 rs:ar≠as
 cp:ac≠ap
theorem DrAt.same{C:Addr}{H H':Hp}{p ar as ac ap:Addr}{d:Dr}(h:DrAt C H p ar as ac ap d)(s:Same H H'):DrAt C H' p ar as ac ap d:=by
 obtain⟨⟨dx,tn,e,f⟩,⟨k,g,i⟩,hs,b,c,j,a⟩:=h;exact⟨⟨dx,tn,s _ _ e,s _ _ f⟩,⟨k,s _ _ g,i.same s⟩,s _ _ hs,s _ _ b,s _ _ c,j,a⟩
section
variable {P:Program}{w:World}{K:PySem.W.Frag}{mg:Str->Option Value}{base:Heap}{C:Addr}
def dr0:Dr:=⟨[],[],[],[],[]⟩
def a6J(C:Addr):Sp:=λvs H Q _=>∃(p dx:Addr),vs=[.ref p]/\H p=some (.ins C dx [])/\∀(ar as ac ap:Addr) (H':Hp),H ar=none->H as=none->H ac=none->H ap=none->DrAt C H' p ar as ac ap dr0->(∀b o,H b=some o->b≠p->H' b=some o)->Q .non H'
theorem a0T:FnScope ["self"] ["self"] (A8 L6):=⟨rfl,rfl,rfl,by decide +kernel,rfl,by decide +kernel,by decide +kernel⟩
theorem b0f(FM:MethAt K C "__init__" "Draft.__init__" L6 ["self"])(U:DrTx K C):MethOk P w K mg base C "__init__" 1 ["self"] (a6J C):=by
 refine FM.fnJ a0T (λvs H Q E h=>?_) (λa0 f A outer s H vs Q E hr h=>?_)
 .obtain⟨p,dx,rfl,_⟩:=h;rfl
 .obtain⟨p,dx,rfl,hp,k⟩:=h;refine⟨_,(A1 (a1p K (jv 0) (J2 jaN))
 (A1 (a1p K (jv 0) (C5 jaN))
 (A1 (a1p K (jv 0) (C5 jaN))
 (A1 (a1p K (jv 0) a4m)
 (A9 (a1p K (jv 0) a4m)))))),?_⟩
  have step:∀{H1:Hp}{x:Addr}{o:HO}{fs:List (Str×V)}{fl:Str}{v:V},H1 p=some (.ins C dx fs)->H1 x=none->(upd (upd H1 x o) p (.ins C dx (K7 fl v fs))) p=some (.ins C dx (K7 fl v fs))/\p≠x/\upd H1 x o p=some (.ins C dx fs)/\(upd (upd H1 x o) p (.ins C dx (K7 fl v fs))) x=some o/\∀b u,H1 b=some u->b≠p->(upd (upd H1 x o) p (.ins C dx (K7 fl v fs))) b=some u:=by
   intro H1 x o fs fl v h1 h2;have m:p≠x:=B0 h1 h2;refine⟨A0,m,by rw[A5 m];exact h1,by rw[A5 m.symm,A0],λb u hb G=>?_⟩;rw[A5 G,A5 (B0 hb h2)];exact hb
  refine⟨Nat.zero_le _,λtn I=>?_⟩;obtain⟨a1,q,a3,L,M⟩:=step (o:=.tup []) (fl:="names") (v:=.ref tn) hp I;refine⟨_,rfl,p,C,dx,_,rfl,a3,U.cl,U.n1,by decide,?_⟩;generalize upd (upd H tn (.tup [])) p (.ins C dx (K7 "names" (.ref tn) []))=H1 at a1 L M;refine⟨Nat.zero_le _,λar l=>?_⟩;obtain⟨N,r,b3,z,B⟩:=step (o:=.lst []) (fl:="rows") (v:=.ref ar) a1 l;refine⟨_,rfl,p,C,dx,_,rfl,b3,U.cl,U.n2,by show(1:Nat)<1000;decide,?_⟩;generalize upd (upd H1 ar (.lst [])) p (.ins C dx (K7 "rows" (.ref ar) (K7 "names" (.ref tn) [])))=H2 at N z B;refine⟨Nat.zero_le _,λas c=>?_⟩;obtain⟨O,D,c3,R,t⟩:=step (o:=.lst []) (fl:="sides") (v:=.ref as) N c;refine⟨_,rfl,p,C,dx,_,rfl,c3,U.cl,U.n3,by show(2:Nat)<1000;decide,?_⟩;generalize upd (upd H2 as (.lst [])) p (.ins C dx (K7 "sides" (.ref as) (K7 "rows" (.ref ar) (K7 "names" (.ref tn) []))))=J at O R t;refine λac j=>?_;obtain⟨S,T,d3,F,d⟩:=step (o:=.dK []) (fl:="caps") (v:=.ref ac) O j;refine⟨_,rfl,p,C,dx,_,rfl,d3,U.cl,U.n4,by show(3:Nat)<1000;decide,?_⟩;generalize upd (upd J ac (.dK [])) p (.ins C dx (K7 "caps" (.ref ac) (K7 "sides" (.ref as) (K7 "rows" (.ref ar) (K7 "names" (.ref tn) [])))))=H4 at S F d;refine λap a=>?_;obtain⟨f1,f2,f3,f4,i⟩:=step (o:=.dK []) (fl:="prices") (v:=.ref ap) S a;refine⟨_,rfl,p,C,dx,_,rfl,f3,U.cl,U.n5,by show(4:Nat)<1000;decide,?_⟩;have W:∀b o,H b=some o->b≠p->H1 b=some o:=M;have X:∀b o,H b=some o->b≠p->H2 b=some o:=λb o e n=>B b o (W b o e n) n;have Y:∀b o,H b=some o->b≠p->J b=some o:=λb o e n=>t b o (X b o e n) n;have Z:∀b o,H b=some o->b≠p->H4 b=some o:=λb o e n=>d b o (Y b o e n) n;have fr:∀{y:Hp}{x:Addr},(∀b o,H b=some o->b≠p->y b=some o)->y x=none->p≠x->H x=none:=by
   intro y x g hx m;cases e:H x with
   |none=>rfl
   |some o=>rw[g x o e m.symm]at hx;cases hx
  refine k ar as ac ap _ (fr W l r) (fr X c D) (fr Y j T) (fr Z a f2) ⟨⟨dx,tn,by rw[A0,b3r],?_⟩,⟨[],?_,.nil⟩,?_,?_,?_,?_,?_⟩ λb o e n=>i b o (Z b o e n) n
  .exact i _ _ (d _ _ (t _ _ (B _ _ L q.symm) q.symm) q.symm) q.symm
  .exact i _ _ (d _ _ (t _ _ z r.symm) r.symm) r.symm
  .exact i _ _ (d _ _ R D.symm) D.symm
  .exact i _ _ F T.symm
  .exact f4
  .exact B0 z c
  .exact B0 F a
def b3L(C:Addr):Sp:=λvs H Q _=>∃(p ar as ac ap l:Addr) (ws:List Str) (d:Dr),vs=[.ref p,.ref l]/\DrAt C H p ar as ac ap d/\H l=some (.lst (ws.map V.str))/\Wks ws /\
 ((1<=ws.length/\ws.length<=7/\ws.Nodup/\∀x∈ws,isNm x)->∀H',DrAt C H' p ar as ac ap {d with names:=ws}->Off [p] H H'->Q (.bl true) H')/\(¬(1<=ws.length/\ws.length<=7/\ws.Nodup/\∀x∈ws,isNm x)->∀H',Same H H'->Q (.bl false) H')
theorem a0w:FnScope ["self","words"] ["self","words"] (A8 J5):=⟨rfl,rfl,rfl,by decide +kernel,rfl,by decide +kernel,by decide +kernel⟩
theorem a3k{ws D:List Str}(b:D.Nodup)(a:∀x,x∈D↔x∈ws)(f:D.length<=ws.length):D.length<ws.length↔¬ws.Nodup:=by
 constructor
 .intro h hn;have:=Tab.nodup_le ws D hn λx d=>(a x).mpr d;omega
 .intro h;refine Nat.lt_of_le_of_ne f λe=>h ?_;clear f h;induction ws generalizing D with
  |nil=>exact List.nodup_nil
  |cons w r g =>
   by_cases c:w∈r
   .exfalso;have:=Tab.nodup_le D r b λx d=>by
     rcases List.mem_cons.mp ((a x).mp d)with z|z
     .rw[z];exact c
     .exact z
    rw[e,List.length_cons]at this;omega
   .refine List.nodup_cons.mpr ⟨c,g (D:=D.erase w) (b.erase w) (λx=>?_) ?_⟩
    .rw[b.mem_erase_iff,a,List.mem_cons];constructor
     .rintro⟨h1,h2|h2⟩
      .exact absurd h2 h1
      .exact h2
     .intro h;exact⟨λz=>c (by rw[<-z];exact h),.inr h⟩
    .rw[List.length_erase_of_mem ((a w).mpr List.mem_cons_self),e,List.length_cons];rfl
theorem a2V(FM:MethAt K C "take_names" "Draft.take_names" J5 ["self","words"])(U:DrTx K C)(T:Tx mg)(c:Ok P w K mg base "is_name" 1 ["word"] b7F):MethOk P w K mg base C "take_names" 2 ["self","words"] (b3L C):=by
 refine FM.fnJ a0w (λvs H Q E h=>?_) (λa0 f A outer s H vs Q E W h=>?_)
 .obtain⟨p,ar,as,ac,ap,l,ws,d,rfl,_⟩:=h;rfl
 .obtain⟨p,ar,as,ac,ap,l,ws,d,rfl,D,hl,hw,k1,k2⟩:=h;have hu:=W.u60;have hz:(100000:Nat)<=sizeLine:=by rw[sizeLine_eq];decide
  have a1:(9:Nat)<scanBound:=by decide
  refine⟨_,(A1 (G2 (a1E (a0b (a0c (b3a A4 (D7 K rfl T.b_len (jaC (jv 1) jaN)) A4)) (a0b (b4k (b3e P w rfl T.b_len (jaC (b3c K P w rfl T.b_set (jaC (jv 1) jaN)) jaN)) (D7 K rfl T.b_len (jaC (jv 1) jaN))) (Y6 (a0c (Y7 K (a6d K rfl T.b_all (jaC (U5 (N:=["word"]) (src:=[none]) (L7 K (jv 1)) (by show K6 _ _=true;rfl) (by rfl) (by rfl)
 (λ_ _ _ _ _=>(C3 (i:=0) (show(["word"]:List Str).Nodup by decide +kernel) rfl (Or.inl rfl))) (λ_ _ _ _ _=>N7) (λ_ _ _ _ _=>(C0 c (W.mono (by omega)) rfl (jaC (jv 0) jaN)))) jaN))))))))
 (A9 (C2 a2x))
 C9)
 (A1 (a1p K (jv 0) (J8 K rfl T.b_tuple (jaC (jv 1) jaN)))
 (A9 (C2 a2x)))),?_⟩
  have no:¬(1<=ws.length/\ws.length<=7)->Q (.bl false) H:=λn=>k2 (λz=>n ⟨z.1,z.2.1⟩) _ (Same.refl H);refine⟨_,rfl,l,_,rfl,.inl (SqL.of hl),_,_,rfl,rfl,_,rfl,G7 (λe1=>?_) (λe1=>?_)⟩
  .have e1:=of_decide_eq_true e1;rw[List.length_map]at e1;refine⟨_,_,rfl,rfl,_,rfl,?_⟩;rw[List.length_map];by_cases e2:ws.length<=7
   .rw[decide_eq_true (show((ws.length:Nat):Int)<=7 by omega)];refine Y9 ⟨_,rfl,l,ws,rfl,SqL.of hl,by omega,λa r t O S k=>?_⟩;have s1:=(Same.refl H).upd (o:=a4N P w a r.length) t;have M:upd H a (a4N P w a r.length) a=some (a4N P w a r.length):=A0;generalize upd H a (a4N P w a r.length)=H1 at s1 M;refine⟨a,_,rfl,M,by omega,_,rfl,l,_,rfl,.inl (SqL.of (s1 _ _ hl)),_,_,rfl,rfl,_,rfl,G7 (λe=>?_) (λe=>?_)⟩
    .have e:=of_decide_eq_true e;rw[List.length_map]at e;exact k2 (λz=>(a3k O S k).mp (by omega) z.2.2.1) _ s1
    have u:ws.Nodup:=Classical.byContradiction λz=>e (decide_eq_true (by have:=(a3k O S k).mpr z;rw[List.length_map];omega));refine⟨_,rfl,l,rfl,⟨_,SqL.of (s1 _ _ hl)⟩,?_⟩;refine X4 (vs:=ws.map V.str) (as:=ws) (caps:=[]) (λx=>V.bl (decide (isNm x))) (by rw[List.length_map];omega) (List.length_map ..) (λH' s=>SqL.of (s _ _ (s1 _ _ hl))) rfl (λi v x H2 Q2 X g Y q=>?_) λH2 p2 Y B=>?_
    .rw[List.getElem?_map,g]at X;cases X;exact⟨_,rfl,x,rfl,hw.2 x (List.mem_of_getElem? g),q⟩
    .have s3:=s1.trans (Y.upd (o:=.lst (ws.map λx=>V.bl (decide (isNm x)))) B);refine⟨false,p2,_,rfl,SqL.of A0,?_,?_⟩
     .rw[List.all_map,List.all_eq_true];intro x _;rfl
     rw[show(ws.map λx=>V.bl (decide (isNm x))).all trV=ws.all λx=>decide (isNm x) by rw[List.all_map];rfl];generalize upd H2 p2 (.lst (ws.map λx=>V.bl (decide (isNm x))))=I at s3;refine⟨_,rfl,G7 (λe=>?_) (λe=>?_)⟩
     .refine k2 (λz=>?_) _ s3;rw[show ws.all (λx=>decide (isNm x))=true from List.all_eq_true.mpr λx g=>decide_eq_true (z.2.2.2 x g)]at e;cases e
     .have hall:∀x∈ws,isNm x:=λx g=>by
       have:ws.all (λx=>decide (isNm x))=true:=by simpa using e
       exact of_decide_eq_true (List.all_eq_true.mp this x g)
      refine⟨_,rfl,l,_,rfl,.inl ⟨SqL.of (s3 _ _ hl),λtn F=>?_⟩⟩;have G:=s3.upd (o:=.tup (ws.map V.str)) F;have L:upd I tn (.tup (ws.map V.str)) tn=some (.tup (ws.map V.str)):=A0;generalize upd I tn (.tup (ws.map V.str))=J at G L;have Z:=D.same G;obtain⟨⟨dx,a2,j,o2⟩,⟨us,r1,r2⟩,hs,hc,hp,rs,cp⟩:=Z;refine⟨_,rfl,p,C,dx,_,rfl,j,U.cl,U.n1,by show(5:Nat)<1000;decide,?_⟩;rw[b1d];have m:∀{b:Addr}{o:HO},J b=some o->(∀fs,o≠.ins C dx fs)->upd J p (.ins C dx (dfl tn ar as ac ap)) b=some o:=λ{b o} R y=>by
       rw[A5 λz=>by subst z;rw[R]at j;injection j with j;exact y _ j];exact R
      refine k1 ⟨by omega,e2,u,hall⟩ _ ⟨⟨dx,tn,A0,m L (λfs z=>nomatch z)⟩,⟨us,m r1 (λfs z=>nomatch z),Its.putI r2 j⟩,m hs (λfs z=>nomatch z),m hc (λfs z=>nomatch z),m hp (λfs z=>nomatch z),rs,cp⟩ (G.off.set (by simp))
   .rw[decide_eq_false (show ¬((ws.length:Nat):Int)<=7 by omega)];exact a0I (no λz=>e2 z.2)
  .exact⟨_,rfl,a0I (no λz=>e1 (decide_eq_true (by rw[List.length_map];omega)))⟩
def b7x(C:Addr):Sp:=λvs H Q _=>∃(p ar as ac ap l:Addr) (ws:List Str) (d:Dr),vs=[.ref p,.ref l]/\DrAt C H p ar as ac ap d/\H l=some (.lst (ws.map V.str))/\Wks ws/\d.names.length<=100/\d.rows.length<=6/\d.sides.length<=6 /\
 (∀r H',K3 d.names ws=some r->d.rows.length≠6->DrAt C H' p ar as ac ap {d with rows:=d.rows++[r.dropLast],sides:=d.sides++[-(r.getLastD 0)]}->Off [ar,as] H H'->Q (.bl true) H')/\((K3 d.names ws=none∨d.rows.length=6)->∀H',Same H H'->Q (.bl false) H')
theorem sc_Draft_take_sum:FnScope ["self","words","rest"] ["self","words"] (A8 L4):=⟨rfl,rfl,rfl,by decide +kernel,rfl,by decide +kernel,by decide +kernel⟩
theorem b1a{a b:Option (List Int)}{r:List Int}{n:Nat}(c:∀l,a=some l->l.length=n)(d:∀l,b=some l->l.length=n)(h:a8i a b=some r):r.length=n:=by
 match a,b,h with
 |some l,some m,h =>
  unfold a8i b0Z at h;dsimp only at h;split at h
  .cases h;rw[List.length_zipWith,c l rfl,d m rfl,Nat.min_self]
  .cases h
theorem a7x{ns ws:List Str}{r:List Int}(h:K3 ns ws=some r):r.length=ns.length+1:=by
 unfold K3 at h;split at h
 .exact b1a (λl e=>a0X e) (λl e=>a0X e) h
 .cases h
theorem a3o{r:List Int}(h:0<r.length):atI (r.map V.int) (-1)=some (V.int (r.getLastD 0)):=by
 obtain⟨a,x,rfl⟩:∃a x,r=a++[x]:=⟨r.dropLast,r.getLast (List.ne_nil_of_length_pos h),(List.dropLast_concat_getLast _).symm⟩;rw[List.map_append,show(a++[x]).getLastD 0=x by simp];exact a2O _ _
theorem a4V(FM:MethAt K C "take_sum" "Draft.take_sum" L4 ["self","words"])(U:DrTx K C)(T:Tx mg)(c:Ok P w K mg base "read_sum" 6 ["names","words"] b7B):MethOk P w K mg base C "take_sum" 7 ["self","words"] (b7x C):=by
 refine FM.fnJ sc_Draft_take_sum (λvs H Q E h=>?_) (λa0 f A outer s H vs Q E hr h=>?_)
 .obtain⟨p,ar,as,ac,ap,l,ws,d,rfl,_⟩:=h;rfl
 .obtain⟨p,ar,as,ac,ap,l,ws,d,rfl,D,hl,hw,hnl,hrl,hsl,k1,k2⟩:=h;have hz:(100000:Nat)<=sizeLine:=by rw[sizeLine_eq];decide
  refine⟨_,(A1 (B7 (i:=2) sc_Draft_take_sum.nd rfl (Or.inl rfl) (C0 c (hr.mono (by omega)) rfl (jaC (Q5 K (jv 0)) (jaC (jv 1) jaN))))
 (A1 (G2 (a1E (a0b (a1o (jv 2) N8) (Y6 (O8 (D7 K rfl T.b_len (jaC (Q5 K (jv 0)) jaN)) A4))))
 (A9 (C2 a2x))
 C9)
 (A1 (G8 (G5 K (Q5 K (jv 0)) (jaC (J8 K rfl T.b_tuple (jaC (V7 K (jv 2) I0 (G9 (Q0 A4))) jaN)) jaN)))
 (A1 (G8 (G5 K (Q5 K (jv 0)) (jaC (Q0 (K4 K (jv 2) (Q0 A4))) jaN)))
 (A9 (C2 a2x)))))),?_⟩
  obtain⟨⟨dx,tn,n,W⟩,_⟩:=id D;refine⟨_,rfl,p,C,dx,_,_,rfl,n,U.cl,U.n1,a2G _ _ _ _ _,_,rfl,tn,l,d.names,ws,rfl,W,hl,hnl,hw,λv H1 R y s1=>?_⟩;dsimp only[B1];have D1:=D.same s1;have m:=@a7x d.names ws;generalize K3 d.names ws=os at k1 k2 R m;refine⟨_,rfl,rfl,_,rfl,?_⟩;cases os with
  |none =>
   rw[decide_eq_true (show v=V.non from R)];exact a0I (k2 (.inl rfl) _ s1)
  |some r =>
   obtain⟨a,rfl,Y⟩:=R;have m:=m rfl;rw[decide_eq_false (by intro z;cases z)];obtain⟨⟨dx,tn,n,W⟩,⟨L,B,J⟩,hs,hc,hp,G,cp⟩:=id D1;refine Y9 ⟨_,rfl,p,C,dx,_,_,rfl,n,U.cl,U.n2,b1c _ _ _ _ _,ar,_,rfl,.inl (SqL.of B),rfl,_,rfl,G7 (λe=>?_) (λe=>?_)⟩
   .refine k2 (.inr ?_) _ s1;have e:=of_decide_eq_true e;injection e with e
    rw[J.1]at e;exact Int.ofNat.inj e
   have h6:d.rows.length≠6:=λz=>e (decide_eq_true (by rw[J.1,z];rfl));refine⟨_,rfl,p,C,dx,_,_,rfl,n,U.cl,U.n2,b1c _ _ _ _ _,.inl ⟨rfl,_,SqL.of B⟩,?_⟩;dsimp only[L3];refine⟨_,rfl,_,rfl,_,rfl,a,_,rfl,SqL.of Y,λp2 N=>?_⟩;rw[a2H,<-List.map_dropLast];have Z:=(Same.refl H1).upd (o:=.lst (r.dropLast.map V.int)) N;have e2:upd H1 p2 (.lst (r.dropLast.map V.int)) p2=some (.lst (r.dropLast.map V.int)):=A0;generalize upd H1 p2 (.lst (r.dropLast.map V.int))=H2 at Z e2;refine⟨p2,_,rfl,.inl ⟨SqL.of e2,λt O=>?_⟩⟩;have g:=Z.upd (o:=.tup (r.dropLast.map V.int)) O;have X:upd H2 t (.tup (r.dropLast.map V.int)) t=some (.tup (r.dropLast.map V.int)):=A0;generalize upd H2 t (.tup (r.dropLast.map V.int))=x at g X;refine⟨ar,L,_,rfl,rfl,g _ _ B,by rw[J.1];omega,?_⟩;have u:∀{b:Addr}{o:HO},x b=some o->b≠ar->upd x ar (.lst (L++[V.ref t])) b=some o:=λj k=>by rw[A5 k];exact j
   have kd:∀{b:Addr}{o:HO},x b=some o->(∀xs,o≠.lst xs)->b≠ar:=λ{b o} j k z=>by
    subst z;rw[g _ _ B]at j;injection j with j
    exact k _ j.symm
   have S:=u (g _ _ n) (kd (g _ _ n) λ_ z=>nomatch z);have M:a≠ar:=λz=>by
    obtain⟨_,⟨a2,F,_⟩,_⟩:=D;rw[z]at y;rw[y ar rfl]at F;cases F
   refine⟨_,rfl,p,C,dx,_,_,rfl,S,U.cl,U.n3,b4C _ _ _ _ _,.inl ⟨rfl,_,SqL.of (u (g _ _ hs) G.symm)⟩,?_⟩;refine⟨_,rfl,_,rfl,a,_,_,_,rfl,rfl,SqL.of (u (g _ _ Y) M),a3o (by omega),_,rfl,as,_,_,rfl,rfl,u (g _ _ hs) G.symm,by rw[List.length_map];omega,?_⟩;have q:=g _ _ hs;have a1:p≠as:=T7 (g _ _ n) q (by intro z;cases z);have I:∀{b:Addr}{o:HO},x b=some o->(∀xs,o≠.lst xs)->upd (upd x ar (.lst (L++[V.ref t]))) as (.lst (d.sides.map V.int++[V.int (-(r.getLastD 0))])) b=some o:=λ{b o} j k=>by
    rw[A5 λz=>by subst z;rw[q]at j;injection j with j;exact k _ j.symm];exact u j (kd j k)
   refine k1 r _ rfl h6 ⟨⟨dx,tn,I (g _ _ n) (λ_ z=>nomatch z),I (g _ _ W) (λ_ z=>nomatch z)⟩,⟨L++[V.ref t],by rw[A5 G,A0],?_⟩,by rw[A0,List.map_append];rfl,I (g _ _ hc) (λ_ z=>nomatch z),I (g _ _ hp) (λ_ z=>nomatch z),G,cp⟩ (((s1.trans g).off.set (by simp)).set (by simp));exact Its.put (Its.put ((J.same g).snoc ⟨t,rfl,X⟩) (g _ _ B)) (u q G.symm)
theorem a1Q(x:V)(xs:List V):W7 (x::xs) (some (1:Int)) none=xs:=by
 unfold W7;rw[show(1:Int)=((1:Nat):Int)from rfl,HT.sIx_none,HT.sIx_nat];simp
def L5(p ar as ac ap:Addr):List Addr:=[p,ar,as,ac,ap]
def b7w(C:Addr):Sp:=λvs H Q _=>∃(p ar as ac ap l:Addr) (ws:List Str) (d:Dr),vs=[.ref p,.ref l]/\DrAt C H p ar as ac ap d/\H l=some (.lst (ws.map V.str))/\Wks ws/\ws≠[]/\d.names.length<=7/\d.rows.length<=6/\d.sides.length<=6/\d.caps.length<=1000/\d.prices.length<=1000 /\
 (∀d' H',d.take ws=some d'->DrAt C H' p ar as ac ap d'->Off (L5 p ar as ac ap) H H'->Q (.bl true) H')/\(d.take ws=none->∀H',Same H H'->Q (.bl false) H')
theorem a2S:FnScope ["self","words"] ["self","words"] (A8 R5):=⟨rfl,rfl,rfl,by decide +kernel,rfl,by decide +kernel,by decide +kernel⟩
theorem b0c(FM:MethAt K C "take" "Draft.take" R5 ["self","words"])(U:DrTx K C)(T:Tx mg)(n:Cls K C)(k:MethOk P w K mg base C "take_names" 2 ["self","words"] (b3L C))(m:MethOk P w K mg base C "take_sum" 7 ["self","words"] (b7x C))(g:Ok P w K mg base "take_number" 4 ["names","words","kept"] b7y):MethOk P w K mg base C "take" 8 ["self","words"] (b7w C):=by
 refine FM.fnJ a2S (λvs H Q E h=>?_) (λa0 f A outer s H vs Q E hr h=>?_)
 .obtain⟨p,ar,as,ac,ap,l,ws,d,rfl,_⟩:=h;rfl
 .obtain⟨p,ar,as,ac,ap,l,ws,d,rfl,D,hl,hw,I,hnl,hrl,hsl,hcl,hpl,k1,k2⟩:=h;have hz:(100000:Nat)<=sizeLine:=by rw[sizeLine_eq];decide
  refine⟨_,(A1 (G2 (O8 (D7 K rfl T.b_len (jaC (Q5 K (jv 0)) jaN)) A4)
 (A9 (C2 (a6Y (a3q (K4 K (jv 1) A4) A2) (a5l (a6e k n (hr.mono (by omega)) (jv 0) (jaC (V7 K (jv 1) (G9 A4) I0) jaN))))))
 C9)
 (A1 (G2 (O8 (K4 K (jv 1) A4) A2)
 (A9 (C2 (a6e m n (hr.mono (by omega)) (jv 0) (jaC (V7 K (jv 1) (G9 A4) I0) jaN))))
 C9)
 (A1 (G2 (O8 (K4 K (jv 1) A4) A2)
 (A9 (C2 (C0 g (hr.mono (by omega)) rfl (jaC (Q5 K (jv 0)) (jaC (V7 K (jv 1) (G9 A4) I0) (jaC (Q5 K (jv 0)) jaN))))))
 C9)
 (A9 (C2 (a6Y (a3q (K4 K (jv 1) A4) A2) (a5l (C0 g (hr.mono (by omega)) rfl (jaC (Q5 K (jv 0)) (jaC (V7 K (jv 1) (G9 A4) I0) (jaC (Q5 K (jv 0)) jaN))))))))))),?_⟩
  obtain⟨x,r,rfl⟩:∃x r,ws=x::r:=by
   cases ws with
   |nil=>exact absurd rfl I
   |cons x r=>exact⟨x,r,rfl⟩
  obtain⟨⟨dx,tn,N,o2⟩,_⟩:=id D;have J:Wks r:=⟨by have:=hw.1;rw[List.length_cons]at this;omega,λy hy=>hw.2 y (List.mem_cons_of_mem _ hy)⟩;refine⟨_,rfl,p,C,dx,_,_,rfl,N,U.cl,U.n1,a2G _ _ _ _ _,tn,_,rfl,.inr (SqT.of o2),rfl,_,rfl,G7 (λe=>?_) (λe=>?_)⟩
  .have hn0:d.names=[]:=by
    have e:=of_decide_eq_true e;injection e with e
    rw[List.length_map]at e;exact List.length_eq_zero_iff.mp (Int.ofNat.inj e)
   refine⟨_,rfl,l,_,_,_,rfl,rfl,SqL.of hl,at0,rfl,_,rfl,G7 (λe=>?_) (λe=>?_)⟩
   .have e:x=wd "of":=V.str.inj (of_decide_eq_true e);refine⟨_,rfl,p,dx,_,rfl,N,b6J _ _ _ _ _,?_⟩
    delta L3
    refine⟨_,rfl,_,rfl,l,_,rfl,SqL.of hl,λu B=>?_⟩;rw[List.map_cons,a1Q];have s1:=(Same.refl H).upd (o:=.lst (r.map V.str)) B;have e1:upd H u (.lst (r.map V.str)) u=some (.lst (r.map V.str)):=A0;generalize upd H u (.lst (r.map V.str))=H1 at s1 e1;have F:d.take (x::r)=if 1<=r.length/\r.length<=7/\r.Nodup/\∀x∈r,isNm x then some {d with names:=r} else none:=by
     unfold Dr.take;dsimp only;rw[if_pos hn0];by_cases q:1<=r.length/\r.length<=7/\r.Nodup/\∀x∈r,isNm x
     .rw[if_pos ⟨e,q⟩,if_pos q]
     .rw[if_neg λz=>q z.2,if_neg q]
    rw[F]at k1 k2;refine⟨p,ar,as,ac,ap,u,r,d,rfl,D.same s1,e1,J,λq H2 D2 j=>k1 _ H2 (if_pos q) D2 ((s1.off).trans (j.mono λb t=>by rw[List.mem_singleton.mp t];exact List.mem_cons_self)),λq H2 S=>k2 (if_neg q) H2 (s1.trans S)⟩
   .have e:¬x=wd "of":=λz=>e (decide_eq_true (by rw[z]));refine k2 ?_ _ (Same.refl H);unfold Dr.take;dsimp only;rw[if_pos hn0,if_neg λz=>e z.1]
  .have hn0:¬d.names=[]:=λz=>e (decide_eq_true (by rw[z];rfl));refine⟨_,rfl,l,_,_,_,rfl,rfl,SqL.of hl,at0,rfl,_,rfl,G7 (λe=>?_) (λe=>?_)⟩
   .have e:x=wd "sum":=V.str.inj (of_decide_eq_true e);refine⟨_,rfl,p,dx,_,rfl,N,b6I _ _ _ _ _,?_⟩
    delta L3
    refine⟨_,rfl,_,rfl,l,_,rfl,SqL.of hl,λu B=>?_⟩;rw[List.map_cons,a1Q];have s1:=(Same.refl H).upd (o:=.lst (r.map V.str)) B;have e1:upd H u (.lst (r.map V.str)) u=some (.lst (r.map V.str)):=A0;generalize upd H u (.lst (r.map V.str))=H1 at s1 e1;have F:d.take (x::r)=(match K3 d.names r with
      |some l=>if d.rows.length=6 then none else some {d with rows:=d.rows++[l.dropLast],sides:=d.sides++[-(l.getLastD 0)]}
      |none=>none):=by
     unfold Dr.take;dsimp only;rw[if_neg hn0,if_pos e]
     try rfl
    rw[F]at k1 k2;refine⟨p,ar,as,ac,ap,u,r,d,rfl,D.same s1,e1,J,by omega,hrl,hsl,λq H2 hq h6 D2 j=>k1 _ H2 (by rw[hq];dsimp only;rw[if_neg h6]) D2 ((s1.off).trans (j.mono λb t=>by simp only[List.mem_cons,List.not_mem_nil,or_false]at t;unfold L5;simp only[List.mem_cons];rcases t with rfl|rfl<;>simp)),λq H2 S=>k2 ?_ H2 (s1.trans S)⟩;rcases q with q|q
    .rw[q]
    .cases K3 d.names r with
     |none=>rfl
     |some l=>dsimp only;rw[if_pos q]
   have e1:¬x=wd "sum":=λz=>e (decide_eq_true (by rw[z]));refine⟨_,rfl,l,_,_,_,rfl,rfl,SqL.of hl,at0,rfl,_,rfl,G7 (λe=>?_) (λe=>?_)⟩
   .have e:x=wd "cap":=V.str.inj (of_decide_eq_true e);refine⟨_,rfl,p,C,dx,_,_,rfl,N,U.cl,U.n1,a2G _ _ _ _ _,?_⟩
    delta L3
    refine⟨_,rfl,_,rfl,l,_,rfl,SqL.of hl,λu B=>?_⟩;rw[List.map_cons,a1Q];have s1:=(Same.refl H).upd (o:=.lst (r.map V.str)) B;have G:upd H u (.lst (r.map V.str)) u=some (.lst (r.map V.str)):=A0;generalize upd H u (.lst (r.map V.str))=H1 at s1 G;have X:=D.same s1;have F:d.take (x::r)=(tkN d.names d.caps r).map λc=>{d with caps:=c}:=by
     unfold Dr.take;dsimp only;rw[if_neg hn0,if_neg e1,if_pos e]
    rw[F]at k1 k2;refine⟨_,rfl,p,C,dx,_,_,rfl,s1 _ _ N,U.cl,U.n4,b4E _ _ _ _ _,tn,u,ac,d.names,r,d.caps,rfl,s1 _ _ o2,G,X.hc,J,hcl,λc' H2 M hk j=>k1 _ H2 (by rw[M];rfl) ?_ ((s1.off).trans (j.mono λb t=>by rw[List.mem_singleton.mp t];unfold L5;simp)),λq H2 S=>k2 (by rw[q];rfl) H2 (s1.trans S)⟩;obtain⟨⟨L,W,O,R⟩,⟨us,r1,Z⟩,hs,hc,hp,rs,Y⟩:=X;have ne:∀{b:Addr}{o:HO},H1 b=some o->(∀xs,o≠.dK xs)->H2 b=some o:=λ{b o} t I=>j b o (λz=>by rw[List.mem_singleton.mp z,hc]at t;injection t with t;exact I _ t.symm) t;exact⟨⟨L,W,ne O (λ_ z=>nomatch z),ne R (λ_ z=>nomatch z)⟩,⟨us,ne r1 (λ_ z=>nomatch z),Z.1,λi v e=>let ⟨q,e1,a,e2,e3⟩:=Z.2 i v e;⟨q,e1,a,e2,ne e3 (λ_ z=>nomatch z)⟩⟩,ne hs (λ_ z=>nomatch z),hk,j _ _ (by simpa using Y.symm) hp,rs,Y⟩
   have e2:¬x=wd "cap":=λz=>e (decide_eq_true (by rw[z]));refine⟨_,rfl,l,_,_,_,rfl,rfl,SqL.of hl,at0,rfl,_,rfl,G7 (λe=>?_) (λe=>?_)⟩
   .have e:x=wd "price":=V.str.inj (of_decide_eq_true e);refine⟨_,rfl,p,C,dx,_,_,rfl,N,U.cl,U.n1,a2G _ _ _ _ _,?_⟩
    delta L3
    refine⟨_,rfl,_,rfl,l,_,rfl,SqL.of hl,λu B=>?_⟩;rw[List.map_cons,a1Q];have s1:=(Same.refl H).upd (o:=.lst (r.map V.str)) B;have G:upd H u (.lst (r.map V.str)) u=some (.lst (r.map V.str)):=A0;generalize upd H u (.lst (r.map V.str))=H1 at s1 G;have X:=D.same s1;have F:d.take (x::r)=(tkN d.names d.prices r).map λc=>{d with prices:=c}:=by
     unfold Dr.take;dsimp only;rw[if_neg hn0,if_neg e1,if_neg e2,if_pos e]
    rw[F]at k1 k2;refine⟨_,rfl,p,C,dx,_,_,rfl,s1 _ _ N,U.cl,U.n5,b4D _ _ _ _ _,tn,u,ap,d.names,r,d.prices,rfl,s1 _ _ o2,G,X.hp,J,hpl,λc' H2 M hk j=>k1 _ H2 (by rw[M];rfl) ?_ ((s1.off).trans (j.mono λb t=>by rw[List.mem_singleton.mp t];unfold L5;simp)),λq H2 S=>k2 (by rw[q];rfl) H2 (s1.trans S)⟩;obtain⟨⟨L,W,O,R⟩,⟨us,r1,Z⟩,hs,hc,hp,rs,Y⟩:=X;have ne:∀{b:Addr}{o:HO},H1 b=some o->(∀xs,o≠.dK xs)->H2 b=some o:=λ{b o} t I=>j b o (λz=>by rw[List.mem_singleton.mp z,hp]at t;injection t with t;exact I _ t.symm) t;exact⟨⟨L,W,ne O (λ_ z=>nomatch z),ne R (λ_ z=>nomatch z)⟩,⟨us,ne r1 (λ_ z=>nomatch z),Z.1,λi v e=>let ⟨q,e1,a,e2,e3⟩:=Z.2 i v e;⟨q,e1,a,e2,ne e3 (λ_ z=>nomatch z)⟩⟩,ne hs (λ_ z=>nomatch z),j _ _ (by simpa using Y) hc,hk,rs,Y⟩
   .have e:¬x=wd "price":=λz=>e (decide_eq_true (by rw[z]));refine k2 ?_ _ (Same.refl H);unfold Dr.take;dsimp only;rw[if_neg hn0,if_neg e1,if_neg e2,if_neg e]
end
end K44
namespace K44
open PySem PySem.Spec PyProof.Rows L2
structure SysAt(H:Hp)(v:V)(ns:List Str)(rows:LLI)(sides:List Int)(caps:List (Option Int))(prices:List Int):Prop where
 ex:∃a n r s c p us,v=.ref a/\H a=some (.tup [.ref n,.ref r,.ref s,.ref c,.ref p])/\H n=some (.tup (ns.map V.str))/\H r=some (.tup us)/\Its H us rows/\H s=some (.tup (sides.map V.int))/\H c=some (.tup (caps.map ovI))/\H p=some (.tup (prices.map V.int))
def Dr.capsL(d:Dr):List (Option Int):=d.names.map (lk d.caps)
def Dr.pricesL(d:Dr):List Int:=d.names.map λn=>(lk d.prices n).getD 0
section
variable {P:Program}{w:World}{K:PySem.W.Frag}{mg:Str->Option Value}{base:Heap}{C:Addr}
def b7v(C:Addr):Sp:=λvs H Q _=>∃(p ar as ac ap:Addr) (d:Dr),vs=[.ref p]/\DrAt C H p ar as ac ap d/\d.names.length<=7/\∀v H',SysAt H' v d.names d.rows d.sides d.capsL d.pricesL->Same H H'->Q v H'
theorem sc_Draft_whole:FnScope ["self","caps","prices"] ["self"] (A8 O5):=⟨rfl,rfl,rfl,by decide +kernel,rfl,by decide +kernel,by decide +kernel⟩
theorem b0b(FM:MethAt K C "whole" "Draft.whole" O5 ["self"])(U:DrTx K C)(T:Tx mg):MethOk P w K mg base C "whole" 1 ["self"] (b7v C):=by
 refine FM.fnJ sc_Draft_whole (λvs H Q E h=>?_) (λa0 f A outer s H vs Q E hr h=>?_)
 .obtain⟨p,ar,as,ac,ap,d,rfl,_⟩:=h;rfl
 .obtain⟨p,ar,as,ac,ap,d,rfl,D,hnl,k⟩:=h;have hu:=hr.u60;have hz:(100000:Nat)<=sizeLine:=by rw[sizeLine_eq];decide
  refine⟨_,(A1 (B7 (i:=1) sc_Draft_whole.nd rfl (Or.inl rfl) (J8 K rfl T.b_tuple (jaC (U5 (N:=["name","self"]) (src:=[none,some 0]) (a4j K (Q5 K (jv 0))) (by show K6 _ _=true;rfl) (by rfl) (by rfl)
 (λ_ _ _ _ _=>(C3 (i:=0) (show(["name","self"]:List Str).Nodup by decide +kernel) rfl (Or.inl rfl))) (λ_ _ _ _ _=>N7) (λ_ _ _ _ _=>(b3j hu (Q5 K (jv 1)) (jv 0)))) jaN)))
 (A1 (B7 (i:=2) sc_Draft_whole.nd rfl (Or.inl rfl) (J8 K rfl T.b_tuple (jaC (U5 (N:=["name","self"]) (src:=[none,some 0]) (a4j K (Q5 K (jv 0))) (by show K6 _ _=true;rfl) (by rfl) (by rfl)
 (λ_ _ _ _ _=>(C3 (i:=0) (show(["name","self"]:List Str).Nodup by decide +kernel) rfl (Or.inl rfl))) (λ_ _ _ _ _=>N7) (λ_ _ _ _ _=>(a4n hu (Q5 K (jv 1)) (jv 0) A4))) jaN)))
 (A9 (C2 (J2 (jaC (Q5 K (jv 0)) (jaC (J8 K rfl T.b_tuple (jaC (Q5 K (jv 0)) jaN)) (jaC (J8 K rfl T.b_tuple (jaC (Q5 K (jv 0)) jaN)) (jaC (jv 1) (jaC (jv 2) jaN)))))))))),?_⟩
  obtain⟨⟨dx,tn,g,t⟩,⟨j,r1,r2⟩,hs,hc,hp,rs,cp⟩:=id D;refine⟨_,rfl,p,C,dx,_,_,rfl,g,U.cl,U.n1,a2G _ _ _ _ _,tn,rfl,⟨_,SqT.of t⟩,?_⟩;refine a0O (vs:=d.names.map V.str) (as:=d.names) (caps:=[some (.ref p)]) (λn=>ovI (lk d.caps n)) (by rw[List.length_map];omega) (List.length_map ..) (λH' s=>SqT.of (s _ _ t)) rfl (λi v x H1 Q1 r Z s1 q=>?_) λH1 G s1 S=>?_
  .rw[List.getElem?_map,Z]at r;cases r;refine⟨_,rfl,p,C,dx,_,_,rfl,s1 _ _ g,U.cl,U.n4,b4E _ _ _ _ _,ac,rfl,.inl ⟨_,.inl (s1 _ _ hc)⟩,_,rfl,_,DGet.k (k:=Sum.inr x) (s1 _ _ hc),?_⟩;rw[V6];have:=q _ (Same.refl _);cases e:lk d.caps x with
   |none=>rw[e]at this;exact this
   |some y=>rw[e]at this;exact this
  have s2:=s1.upd (o:=.lst (d.names.map λn=>ovI (lk d.caps n))) S;have e2:upd H1 G (.lst (d.names.map λn=>ovI (lk d.caps n))) G=some (.lst (d.names.map λn=>ovI (lk d.caps n))):=A0;generalize upd H1 G (.lst (d.names.map λn=>ovI (lk d.caps n)))=H2 at s2 e2;refine⟨G,_,rfl,.inl ⟨SqL.of e2,λl O=>?_⟩⟩;have c:=s2.upd (o:=.tup (d.names.map λn=>ovI (lk d.caps n))) O;have e3:upd H2 l (.tup (d.names.map λn=>ovI (lk d.caps n))) l=some (.tup (d.names.map λn=>ovI (lk d.caps n))):=A0;generalize upd H2 l (.tup (d.names.map λn=>ovI (lk d.caps n)))=H3 at c e3;dsimp only[B1];refine⟨_,rfl,p,C,dx,_,_,rfl,c _ _ g,U.cl,U.n1,a2G _ _ _ _ _,tn,rfl,⟨_,SqT.of (c _ _ t)⟩,?_⟩;refine a0O (vs:=d.names.map V.str) (as:=d.names) (caps:=[some (.ref p)]) (λn=>V.int ((lk d.prices n).getD 0)) (by rw[List.length_map];omega) (List.length_map ..) (λH' s=>SqT.of (s _ _ (c _ _ t))) rfl (λi v x J Q4 r Z z q=>?_) λJ I z W=>?_
  .rw[List.getElem?_map,Z]at r;cases r;refine⟨_,rfl,p,C,dx,_,_,rfl,z _ _ (c _ _ g),U.cl,U.n5,b4D _ _ _ _ _,ap,rfl,.inl ⟨_,.inl (z _ _ (c _ _ hp))⟩,_,rfl,_,DGet.k (k:=Sum.inr x) (z _ _ (c _ _ hp)),?_⟩;rw[V6];have:=q _ (Same.refl _);cases e:lk d.prices x with
   |none=>rw[e]at this;exact this
   |some y=>rw[e]at this;exact this
  have s5:=z.upd (o:=.lst (d.names.map λn=>V.int ((lk d.prices n).getD 0))) W;have e5:upd J I (.lst (d.names.map λn=>V.int ((lk d.prices n).getD 0))) I=some (.lst (d.names.map λn=>V.int ((lk d.prices n).getD 0))):=A0;generalize upd J I (.lst (d.names.map λn=>V.int ((lk d.prices n).getD 0)))=H5 at s5 e5;refine⟨I,_,rfl,.inl ⟨SqL.of e5,λm R=>?_⟩⟩;have s6:=s5.upd (o:=.tup (d.names.map λn=>V.int ((lk d.prices n).getD 0))) R;have e6:upd H5 m (.tup (d.names.map λn=>V.int ((lk d.prices n).getD 0))) m=some (.tup (d.names.map λn=>V.int ((lk d.prices n).getD 0))):=A0;generalize upd H5 m (.tup (d.names.map λn=>V.int ((lk d.prices n).getD 0)))=L at s6 e6;dsimp only[B1];have a:=c.trans s6;refine⟨_,rfl,p,C,dx,_,_,rfl,a _ _ g,U.cl,U.n1,a2G _ _ _ _ _,_,rfl,p,C,dx,_,_,rfl,a _ _ g,U.cl,U.n2,b1c _ _ _ _ _,ar,j,rfl,.inl ⟨SqL.of (a _ _ r1),λq1 X=>?_⟩⟩;have s7:=(Same.refl L).upd (o:=.tup j) X;have e7:upd L q1 (.tup j) q1=some (.tup j):=A0;generalize upd L q1 (.tup j)=M at s7 e7;have B:=a.trans s7;refine⟨_,rfl,p,C,dx,_,_,rfl,B _ _ g,U.cl,U.n3,b4C _ _ _ _ _,as,_,rfl,.inl ⟨SqL.of (B _ _ hs),λu Y=>?_⟩⟩;have s8:=(Same.refl M).upd (o:=.tup (d.sides.map V.int)) Y;have e8:upd M u (.tup (d.sides.map V.int)) u=some (.tup (d.sides.map V.int)):=A0;generalize upd M u (.tup (d.sides.map V.int))=H8 at s8 e8;refine⟨_,rfl,_,rfl,by show 5<=sizeLine;omega,λq hq=>?_⟩;have s9:=(Same.refl H8).upd (o:=.tup [.ref tn,.ref q1,.ref u,.ref l,.ref m]) hq;have F:=s8.trans s9;have b:=s7.trans F;refine k _ _ ⟨q,tn,q1,u,l,m,j,rfl,A0,b _ _ (a _ _ t),F _ _ e7,(r2.same (a.trans b)),s9 _ _ e8,b _ _ (s6 _ _ (by rw[e3,Dr.capsL,List.map_map];rfl)),b _ _ (by rw[e6,Dr.pricesL,List.map_map];rfl)⟩ (a.trans b)
noncomputable def C1:Dr->List (List Str)->Option Dr
 |d,[]=>some d
 |d,ws::L=>(d.take ws).bind λd'=>C1 d' L
theorem M8:∀(L:List (List Str)) (d:Dr) (ws:List Str),C1 d (L++[ws])=(C1 d L).bind λd'=>d'.take ws
 |[],d,ws=>by
  show(d.take ws).bind (λd'=>some d')=d.take ws;cases d.take ws<;>rfl
 |a::L,d,ws=>by
  show(d.take a).bind (λd'=>C1 d' (L++[ws]))=((d.take a).bind λd'=>C1 d' L).bind _;cases d.take a with
  |none=>rfl
  |some d'=>exact M8 L d' ws
theorem X8{L:List (List Str)}{d d':Dr}(h:C1 d L=some d'):∀i,∃e,C1 d (L.take i)=some e:=by
 induction L generalizing d with
 |nil=>intro i;exact⟨d,by simp[C1]⟩
 |cons a L c =>
  intro i;cases i with
  |zero=>exact⟨d,rfl⟩
  |succ i =>
   have h:(d.take a).bind (λd'=>C1 d' L)=some d':=h;cases e:d.take a with
   |none=>rw[e]at h;cases h
   |some q =>
    rw[e]at h;obtain⟨r,b⟩:=c h i;exact⟨r,by show(d.take a).bind (λd'=>C1 d' (L.take i))=_;rw[e];exact b⟩
structure Dr.Bd(d:Dr)(i:Nat):Prop where
 n:d.names.length<=7
 r:d.rows.length<=6
 s:d.sides.length=d.rows.length
 c:d.caps.length<=i
 p:d.prices.length<=i
theorem a6A{ns:List Str}{c a:List (Str×Int)}{ws:List Str}(h:tkN ns c ws=some a):a.length=c.length+1:=by
 match ws,h with
 |[n,f],h =>
  unfold tkN at h;dsimp only at h;split at h
  .cases e:rdN f with
   |none=>rw[e]at h;cases h
   |some x=>rw[e]at h;cases h;simp
  .cases h
theorem b1B{d d':Dr}{ws:List Str}{i:Nat}(h:d.take ws=some d')(b:d.Bd i):d'.Bd (i+1):=by
 obtain⟨a,c,bs,bc,e⟩:=b
 match ws,h with
 |w::r,h =>
  unfold Dr.take at h;dsimp only at h;split at h
  .split at h
   .rename_i q;cases h;exact⟨q.2.2.1,c,bs,by show d.caps.length<=_;omega,by show d.prices.length<=_;omega⟩
   .cases h
  .split at h
   .split at h
    .split at h
     .cases h
     .cases h;exact⟨a,by show(d.rows++_).length<=6;rw[List.length_append,List.length_singleton];omega,by show(d.sides++_).length=(d.rows++_).length;simp[bs],by show d.caps.length<=_;omega,by show d.prices.length<=_;omega⟩
    .cases h
   .split at h
    .obtain⟨c',e1,rfl⟩:=Option.map_eq_some_iff.mp h;exact⟨a,c,bs,by show c'.length<=_;rw[a6A e1];omega,by show d.prices.length<=_;omega⟩
    .split at h
     .obtain⟨c',e1,rfl⟩:=Option.map_eq_some_iff.mp h;exact⟨a,c,bs,by show d.caps.length<=_;omega,by show c'.length<=_;rw[a6A e1];omega⟩
     .cases h
theorem Z5:∀{L:List (List Str)}{d d':Dr}{i:Nat},C1 d L=some d'->d.Bd i->d'.Bd (i+L.length)
 |[],d,d',i,h,b=>by cases h;exact b
 |a::L,d,d',i,h,b=>by
  have h:(d.take a).bind (λd'=>C1 d' L)=some d':=h;cases e:d.take a with
  |none=>rw[e]at h;cases h
  |some q =>
   rw[e]at h;have:=Z5 h (b1B e b);rw[List.length_cons,show i+(L.length+1)=i+1+L.length by omega];exact this
structure Wl(ws:List Str):Prop where
 ne:ws≠[]
 wk:Wks ws
 no:∀x∈ws,32∉x.cps.toList/\10∉x.cps.toList
 le:(Str.join bk ws).length<=10000
theorem Wl.split{ws:List Str}(h:Wl ws):PySem.Txt.split (Str.join bk ws) bk=ws:=a2b h.ne λa b=>(h.no a b).1
def lnW(L:List (List Str)):List Str:=L.map (Str.join bk)
def ptW(L:List (List Str)):Str:=Str.join lf (lnW L)
theorem a7B{L:List (List Str)}(h0:L≠[])(h:∀ws∈L,Wl ws):PySem.Txt.split (ptW L) lf=lnW L:=by
 refine a2b (λz=>h0 (List.map_eq_nil_iff.mp z)) λa b=>?_;obtain⟨ws,hw,rfl⟩:=List.mem_map.mp b;exact a5e (by decide) λy c=>((h ws hw).no y c).2
theorem a3U{L:List (List Str)}(h:∀ws∈L,Wl ws)(a:L.length<=900):(ptW L).length<=10000000:=by
 have:=O6 (c:=10) (B:=10000) (ys:=lnW L) λy b=>by
  obtain⟨ws,hw,rfl⟩:=List.mem_map.mp b;exact(h ws hw).le
 rw[show(lnW L).length=L.length by simp[lnW]]at this;exact Nat.le_trans this (Nat.le_trans (show _<=900*10001 from Nat.mul_le_mul a (Nat.le_refl _)) (by decide))
end
theorem tw_none{d e:Dr}{ws:List Str}(L:List (List Str)){i:Nat}(h:C1 d (L.take i)=some e)(hw:L[i]?=some ws)(hn:e.take ws=none)(j:Nat)(c:i<j):C1 d (L.take j)=none:=by
 induction j with
 |zero=>omega
 |succ j b =>
  rw[List.take_add_one];by_cases a:i=j
  .subst a;rw[hw];show C1 d (L.take i++[ws])=none;rw[M8,h];exact hn
  .have q:=b (by omega);cases e':L[j]? with
   |none=>rw[show(none:Option (List Str)).toList=[] from rfl,List.append_nil];exact q
   |some w =>
    show C1 d (L.take j++[w])=none;rw[M8,q];rfl
theorem tw_uniq{d e e':Dr}{ws a:List Str}{L:List (List Str)}{i j:Nat}(h:C1 d (L.take i)=some e)(hw:L[i]?=some ws)(hn:e.take ws=none)(h':C1 d (L.take j)=some e')(c:L[j]?=some a)(b:e'.take a=none):i=j:=by
 rcases Nat.lt_trichotomy i j with z|z|z
 .rw[tw_none L h hw hn j z]at h';cases h'
 .exact z
 .rw[tw_none L h' c b i z]at h;cases h
section
variable {P:Program}{w:World}{K:PySem.W.Frag}{mg:Str->Option Value}{base:Heap}{C CN L fI:Addr}
def b3K(C CN:Addr):Sp:=λvs H Q E=>∃(p ar as ac ap l:Addr) (L:List (List Str)) (d:Dr),vs=[.ref p,.ref l]/\DrAt C H p ar as ac ap d/\H l=some (.lst ((lnW L).map V.str))/\l∉L5 p ar as ac ap/\(∀ws∈L,Wl ws)/\L.length<=900/\d.Bd 0 /\
 (∀d' H',C1 d L=some d'->DrAt C H' p ar as ac ap d'->Off (L5 p ar as ac ap) H H'->Q .non H') /\
 (∀(i:Nat) (d':Dr) (ws:List Str) (dx:Addr) (H':Hp),C1 d (L.take i)=some d'->L[i]?=some ws->d'.take ws=none->H' dx=some (.xd [("line",.int ((1+i:Nat):Int))])->Off (L5 p ar as ac ap) H H'->E (.ref CN) (some dx) H')
theorem sc_take_all:FnScope ["draft","lines","number","line"] ["draft","lines"] (A8 X9):=⟨rfl,rfl,rfl,by decide +kernel,rfl,by decide +kernel,by decide +kernel⟩
theorem a4W(F:FunAt K mg "take_all" X9 ["draft","lines"])(T:Tx mg)(m:Cls K C)(c:MethOk P w K mg base C "take" 8 ["self","words"] (b7w C))(g:MkX K CN L fI)(j:MethOk P w K mg base CN "__init__" 1 ["self","line"] (b7E CN))(n:mg "NoText"=some (.ref CN)) :
  OkN P w K mg base "take_all" 9 ["draft","lines"] (b3K C CN):=by
 refine F.okN sc_take_all (λvs H Q E h=>?_) (λa0 f A outer s H vs Q E X h=>?_)
 .obtain⟨p,ar,as,ac,ap,l,L,d,rfl,_⟩:=h;rfl
 .obtain⟨p,ar,as,ac,ap,l,L,d,rfl,D,hL,hl5,hW,hlen,hbd,k1,k2⟩:=h;have hz:(300000:Nat)<=sizeLine:=by rw[sizeLine_eq];decide
  refine⟨_,(A9 (T8 (b0B K rfl T.b_enumerate (jaC (jv 1) jaN)) (Y8 K 2 (D5 (C3 (i:=2) sc_take_all.nd rfl (Or.inl rfl)) (D5 (C3 (i:=3) sc_take_all.nd rfl (Or.inl rfl)) R6)))
 (A9 (G2 (a0c (Y7 K (a6e c m (X.mono (by omega)) (jv 0) (jaC (a1a K (jv 3) (jaC A2 jaN)) jaN))))
 (A9 (a7W g j n (X.mono (by omega)) rfl (jaC (jv 2) jaN)))
 C9)) (hp:=PassesOwn.leaving))),?_⟩
  refine⟨_,rfl,false,l,rfl,⟨_,SqL.of hL⟩,?_⟩;refine a8e (K:=K) (k:=false) (a:=l) (xs:=(lnW L).map V.str) (λi σ H'=>∃S U e,σ=[some (.ref p),some (.ref l),S,U]/\C1 d (L.take i)=some e/\DrAt C H' p ar as ac ap e/\Off (L5 p ar as ac ap) H H') ⟨_,_,d,rfl,rfl,D,Off.refl _ _⟩ (λi σ H' _ ⟨_,_,_,_,_,_,o⟩=>SqL.of (o _ _ hl5 hL)) ?_ ?_
  .rintro i x σ H1 q I ⟨S,U,e,rfl,he,D1,off1⟩ hq;have Y:=(Same.refl H1).upd (o:=.tup [V.int (1+i),x]) hq;have J:=D1.same Y;have u:=off1.trans Y.off;have z:upd H1 q (.tup [V.int (1+i),x]) q=some (.tup [V.int (1+i),x]):=A0;generalize upd H1 q (.tup [V.int (1+i),x])=H2 at J u z;refine⟨q,_,rfl,SqT.of z,rfl,_,[x],rfl,x,[],rfl,rfl,?_⟩;dsimp only[B1];rw[lnW,List.map_map,List.getElem?_map]at I;obtain⟨ws,t,rfl⟩:=Option.map_eq_some_iff.mp I;have hw:=hW ws (List.mem_of_getElem? t);obtain⟨⟨dx,tn,o1,_⟩,_⟩:=id J;have a1:i<L.length:=(List.getElem?_eq_some_iff.mp t).1;have R:C1 d (L.take (i+1))=e.take ws:=by
    rw[List.take_add_one,t];show C1 d (L.take i++[ws])=_;rw[M8,he];rfl
   have r:=Z5 he hbd;have a2:=List.length_take_le i L;refine⟨_,rfl,p,dx,_,rfl,o1,b1b _ _ _ _ _,_,rfl,rfl,_,bk,rfl,rfl,by decide,by show(Str.join bk ws).length+2<=_;have:=hw.le;omega,λp3 O=>?_⟩;rw[show PySem.Txt.split ((V.str ∘ Str.join bk) ws |> λ_=>Str.join bk ws) bk=ws from hw.split];have Z:=(Same.refl H2).upd (o:=.lst (ws.map V.str)) O;have D3:=J.same Z;have v:=u.trans Z.off;refine⟨p,ar,as,ac,ap,p3,ws,e,rfl,D3,A0,hw.wk,hw.ne,r.n,r.r,by have:=r.r;have:=r.s;omega,by have:=r.c;rw[List.length_take]at this;omega,by have:=r.p;rw[List.length_take]at this;omega,λd2 W M D4 B=>⟨_,rfl,Y9 ⟨_,_,d2,rfl,R.trans M,D4,v.trans B⟩⟩,λN W s4=>⟨_,rfl,a0I ?_⟩⟩;refine⟨_,rfl,by show 1<=sizeLine;omega,λx I=>?_⟩;refine⟨x,1+i,by rw[show(1+(i:Int))=((1+i:Nat):Int) by omega],Nat.lt_of_le_of_lt (show 1+i<=1000 by omega) (by decide),A0,λdx hd y=>⟨rfl,some dx,A0,?_⟩⟩;have hd:W dx=none:=by rw[A5 y]at hd;exact hd
   refine k2 i e ws dx _ he t N ?_ λb o hb e0=>?_
   .rw[T6 y,A5 y,A0]
   .have e4:=(v.trans s4.off) b o hb e0;have G:b≠x:=B0 e4 I;have b2:b≠dx:=B0 e4 hd;rw[T6 G,A5 G,A5 b2,A5 G,A5 G];exact e4
  .rintro σ H1 ⟨S,U,e,rfl,he,D1,off1⟩;rw[show((lnW L).map V.str).length=L.length by simp[lnW],List.take_length]at he;exact k1 _ _ he D1 off1
def a9d(CN:Addr):Sp:=λvs H Q E=>∃(L:List (List Str)),vs=[.str (ptW L)]/\L≠[]/\(∀ws∈L,Wl ws)/\L.length<=900/\(∀d v H',C1 dr0 L=some d->SysAt H' v d.names d.rows d.sides d.capsL d.pricesL->Same H H'->Q v H') /\
 (∀(i:Nat) (d:Dr) (ws:List Str) (dx:Addr) (H':Hp),C1 dr0 (L.take i)=some d->L[i]?=some ws->d.take ws=none->H' dx=some (.xd [("line",.int ((1+i:Nat):Int))])->Same H H'->E (.ref CN) (some dx) H')
theorem sc_read_system:FnScope ["text","draft"] ["text"] (A8 O1):=⟨rfl,rfl,rfl,by decide +kernel,rfl,by decide +kernel,by decide +kernel⟩
theorem bd0:dr0.Bd 0:=⟨by decide,by decide,rfl,Nat.le_refl _,Nat.le_refl _⟩
theorem a2o(F:FunAt K mg "read_system" O1 ["text"])(T:Tx mg)(U:DrTx K C)(j:Cls K C)(l:MakeOk P w K mg base "Draft" C 1 ["self"] (a6J C))(c:OkN P w K mg base "take_all" 9 ["draft","lines"] (b3K C CN))(a:MethOk P w K mg base C "whole" 1 ["self"] (b7v C)):OkN P w K mg base "read_system" 10 ["text"] (a9d CN):=by
 refine F.okN sc_read_system (λvs H Q E h=>?_) (λX f A outer s H vs Q E I h=>?_)
 .obtain⟨L,rfl,_⟩:=h;rfl
 .obtain⟨L,rfl,h0,hW,hlen,k1,k2⟩:=h;have hz:(16777216:Nat)<=sizeLine:=by rw[sizeLine_eq];decide
  refine⟨_,(A1 (B7 (i:=1) sc_read_system.nd rfl (Or.inl rfl) (b3h l (I.mono (by omega)) rfl))
 (A1 (G8 (b3k c (I.mono (by omega)) rfl (jaC (jv 1) (jaC (a1a K (jv 0) (jaC A2 jaN)) jaN))))
 (A9 (C2 (b3g a j (I.mono (by omega)) (jv 1)))))),?_⟩
  refine λx dx J B D=>?_;have M:upd H dx (.own x) x=none:=by rw[A5 D.symm];exact J
  have p:Same H (upd (upd H dx (.own x)) x (.ins C dx [])):=((Same.refl H).upd B).upd M;refine⟨x,dx,rfl,A0,λar as ac ap H1 u y r t O kp=>⟨rfl,?_⟩⟩;have s1:Same H H1:=λb o e=>kp b o (p b o e) (B0 e J);dsimp only[B1];have hpl:=a3U hW hlen;refine⟨_,rfl,_,rfl,rfl,_,lf,rfl,rfl,by decide,by omega,λN k=>?_⟩;rw[a7B h0 hW];have S:=(Same.refl H1).upd (o:=.lst ((lnW L).map V.str)) k;have G:N∉L5 x ar as ac ap:=by
   obtain⟨⟨Y,a0,o1,o2⟩,⟨us,r1,r2⟩,hs,Z,hp,rs,cp⟩:=O;unfold L5;simp only[List.mem_cons,List.not_mem_nil,or_false,not_or];exact⟨(B0 o1 k).symm,(B0 r1 k).symm,(B0 hs k).symm,(B0 Z k).symm,(B0 hp k).symm⟩
  have keep:∀m,Off (L5 x ar as ac ap) (upd H1 N (.lst ((lnW L).map V.str))) m->Same H m:=λm g b o e=>g b o (by
   unfold L5;simp only[List.mem_cons,List.not_mem_nil,or_false,not_or];exact⟨B0 e J,B0 e (p.free u),B0 e (p.free y),B0 e (p.free r),B0 e (p.free t)⟩) (S _ _ (s1 _ _ e))
  refine⟨x,ar,as,ac,ap,N,L,dr0,rfl,O.same S,A0,G,hW,hlen,bd0,λd m n R g=>?_,λi d ws dx m t1 t2 t3 hd g=>k2 i d ws dx m t1 t2 t3 hd (keep m g)⟩;have z:=Z5 n bd0;obtain⟨⟨q,a1,o4,_⟩,_⟩:=id R;exact⟨_,rfl,x,q,_,rfl,o4,b6H _ _ _ _ _,x,ar,as,ac,ap,d,rfl,R,z.n,λv W hv s5=>k1 d v W n hv ((keep m g).trans s5)⟩
theorem a3b:bootBuiltins "ValueError"=some (.type "ValueError"):=by kernel_rfl
theorem b2Y:PySem.W.kitOne K (.type "int") (.type "bool")=some false:=by rfl
def a9f:Sp:=λvs H Q _=>∃(L:List (List Str)) (i:Nat) (d:Dr) (ws:List Str),vs=[.str (ptW L)]/\L≠[]/\(∀ws∈L,Wl ws)/\L.length<=900/\C1 dr0 (L.take i)=some d/\L[i]?=some ws/\d.take ws=none/\∀H',Same H H'->Q (.int ((1+i:Nat):Int)) H'
theorem sc__law_line:FnScope ["_law_text","_law_caught","e"] ["_law_text"] (A8 V3):=⟨rfl,rfl,rfl,by decide +kernel,rfl,by decide +kernel,by decide +kernel⟩
theorem b2H{e b l g a c fI:Addr}(F:FunAt K mg "_law_line" V3 ["_law_text"])(T:Tx mg)(n:mg "LayError"=some (.ref e))(q:mg "NoAnswer"=some (.ref b))(y:mg "NoLay"=some (.ref l))(u:mg "NoLine"=some (.ref g))(x:mg "NoText"=some (.ref a))(t:mg "TooMany"=some (.ref c))
  (r:ClsX K e []) (N:ClsX K a [.ref e]) (G:MkX K a e fI) (hn:PySem.W.findIn K (.ref a) "line"=some none) (Z:IsX K a) (h1:PySem.W.kitOne K (.ref a) (.ref a)=some true) (h2:PySem.W.kitOne K (.ref a) (.type "ValueError")=some true)
  (R:PySem.W.kitAny K (.ref a) [.ref b,.ref l,.ref g,.ref c]=some false) (m:OkN P w K mg base "read_system" 10 ["text"] (a9d a)):Ok P w K mg base "_law_line" 11 ["_law_text"] a9f:=by
 refine F.okJ sc__law_line (λvs H Q E h=>?_) (λO f A outer s H vs Q E S h=>?_)
 .obtain⟨L,i,d,ws,rfl,_⟩:=h;rfl
 .obtain⟨L,i,d,ws,rfl,h0,hW,hlen,t1,t2,t3,k⟩:=h;refine⟨_,(A1 (B7 (i:=1) sc__law_line.nd rfl (Or.inl rfl) N8)
 (A1 (b3b K (j:=2) (b6k m (S.mono (by omega)) rfl (jaC (jv 0) jaN)) rfl n r sc__law_line.nd rfl rfl (λ_=>(A9 (B7 (i:=1) sc__law_line.nd rfl (Or.inl rfl) (jv 2)))))
 (A1 (G2 (a1E (a0b (a0c (Y7 K (U0 K rfl T.b_isinstance (jaC (jv 1) (jaC (W4 (v:=.ref a) rfl x rfl) jaN))))) (Y6 (a0c (Y7 K (U0 K rfl T.b_isinstance (jaC (jv 1) (jaC (a6f (v:=.ty "ValueError") rfl T.b_ValueError a3b rfl) jaN))))))))
 (A9 (C2 N8))
 C9)
 (A1 (G2 (a1E (a0b (Y7 K (U0 K rfl T.b_isinstance (jaC (jv 1) (jaC (J2 (jaC (W4 (v:=.ref b) rfl q rfl) (jaC (W4 (v:=.ref l) rfl y rfl) (jaC (W4 (v:=.ref g) rfl u rfl) (jaC (W4 (v:=.ref c) rfl t rfl) jaN))))) jaN)))) (Y6 (Y7 K (a0y K rfl T.b_isinstance (jaC (b4l K (jv 1)) (jaC (a6f (v:=.ty "bool") rfl T.b_bool b3w rfl) jaN)))))))
 (A9 (C2 N8))
 C9)
 (A9 (C2 (b4l K (jv 1)))))))),?_⟩
  have D:i<L.length:=(List.getElem?_eq_some_iff.mp t2).1;refine⟨_,rfl,L,rfl,h0,hW,hlen,λd v H1 U _ _=>?_,λj B a0 dx H1 Y u2 u3 hd s1=>⟨_,rfl,N,λp J=>?_⟩⟩
  .have:=tw_none L t1 t2 t3 L.length D;rw[List.take_length,U]at this;cases this
  obtain rfl:i=j:=tw_uniq t1 t2 t3 Y u2 u3;have M:=s1.upd (o:=xR p a (some dx)) J;have e2:upd H1 p (xR p a (some dx)) p=some (xR p a (some dx)):=A0;have B:=G0 (o:=xR p a (some dx)) hd J;generalize upd H1 p (xR p a (some dx))=H2 at M e2 B;refine⟨_,rfl,?_⟩;dsimp only[B1];refine⟨_,rfl,p,a,some dx,_,true,rfl,e2,Z,.inr (.inl ⟨_,rfl,h1⟩),true,rfl,Y9 ?_⟩;refine⟨_,rfl,p,a,some dx,_,true,rfl,e2,Z,.inl ⟨_,rfl,h2⟩,true,rfl,Y9 ?_⟩;refine⟨_,rfl,by show 4<=sizeLine;rw[sizeLine_eq];decide,λX z=>?_⟩;have W:=M.upd (o:=.tup ([b,l,g,c].map V.ref)) z;have C:=G0 (o:=.tup ([b,l,g,c].map V.ref)) e2 z;have I:=G0 (o:=.tup ([b,l,g,c].map V.ref)) B z;refine⟨p,a,some dx,_,false,rfl,C,Z,.inr (.inr ⟨X,[b,l,g,c],rfl,A0,R⟩),?_⟩;refine⟨false,rfl,Y9 ?_⟩;refine⟨_,rfl,p,a,e,fI,dx,_,_,rfl,C,I,G,hn,rfl,?_⟩;refine⟨_,_,_,false,rfl,.int _,?_,false,rfl,Y9 ⟨_,rfl,p,a,e,fI,dx,_,_,rfl,C,I,G,hn,rfl,k _ W⟩⟩;exact b2Y
end
theorem J0(a b c:Str):a++b++c=a++(b++c):=Str.ext' (by rw[Str.cps_append,Str.cps_append,Str.cps_append,Str.cps_append,Array.append_assoc])
theorem J6(s x y:Str)(r:List Str):Str.join s (x::y::r)=x++s++Str.join s (y::r):=rfl
theorem T9{s:Str}:∀{a b:List Str},a≠[]->b≠[]->Str.join s (a++b)=Str.join s a++s++Str.join s b
 |[],_,h,_=>absurd rfl h
 |[x],b,_,h=>by
  cases b with
  |nil=>exact absurd rfl h
  |cons y r=>rfl
 |x::y::r,b,_,h=>by
  show x++s++Str.join s ((y::r)++b)=(x++s++Str.join s (y::r))++s++Str.join s b;rw[T9 (by intro z;cases z) h];simp only[J0]
def L9:List (List Str)->List Str
 |[]=>[]
 |[t]=>t
 |t::u::r=>t++wd "+" :: L9 (u::r)
abbrev wplus:Str:=Str.ofString " + "
theorem a4Q:∀{ts:List (List Str)},ts≠[]->(∀t∈ts,t≠[])->L9 ts≠[]
 |[],h,_=>absurd rfl h
 |[t],_,h=>h t List.mem_cons_self
 |t::u::r,_,h=>λz=>by
  have:t=[]:=(List.append_eq_nil_iff.mp z).1;exact h t List.mem_cons_self this
theorem a1q:∀{ts:List (List Str)},(∀t∈ts,t≠[])->Str.join wplus (ts.map (Str.join bk))=Str.join bk (L9 ts)
 |[],_=>rfl
 |[t],_=>rfl
 |t::u::r,h=>by
  have b:=a1q (ts:=u::r) λx a=>h x (List.mem_cons_of_mem _ a);have hn:L9 (u::r)≠[]:=a4Q (by intro z;cases z) λx a=>h x (List.mem_cons_of_mem _ a);show Str.join bk t++wplus++Str.join wplus ((u::r).map (Str.join bk))=Str.join bk (t++wd "+" :: L9 (u::r));rw[b,T9 (h t List.mem_cons_self) (by intro z;cases z)];cases e:L9 (u::r)with
  |nil=>exact absurd e hn
  |cons y q =>
   rw[J6];have:wplus=bk++(wd "+" ++ bk):=by with_unfolding_all rfl
   rw[this];simp only[J0]
theorem a3V:∀(t:List Str) (s:List (List Str)×List Str),wd "+"∉t->t.foldl J1 s=(s.1,s.2++t)
 |[],s,_=>by simp
 |x::r,s,h=>by
  rw[List.foldl_cons,a3V r _ λz=>h (List.mem_cons_of_mem _ z)];have:J1 s x=(s.1,s.2++[x]):=by
   unfold J1;rw[if_neg λz=>h (by rw[z];exact List.mem_cons_self)]
  rw[this];simp
theorem a3j:∀(ts:List (List Str)) (D:List (List Str)),ts≠[]->(∀t∈ts,wd "+"∉t)->(let s:=(L9 ts).foldl J1 (D,[]);s.1++[s.2])=D++ts
 |[],_,h,_=>absurd rfl h
 |[t],D,_,h=>by
  show((t.foldl J1 (D,[])).1++[(t.foldl J1 (D,[])).2])=_;rw[a3V t _ (h t List.mem_cons_self)];rfl
 |t::u::r,D,_,h=>by
  have b:=a3j (u::r) (D++[t]) (by intro z;cases z) λx a=>h x (List.mem_cons_of_mem _ a);show(((t++wd "+" :: L9 (u::r)).foldl J1 (D,[])).1++[((t++wd "+" :: L9 (u::r)).foldl J1 (D,[])).2])=_;rw[List.foldl_append,a3V t _ (h t List.mem_cons_self),List.foldl_cons];have:J1 (D,[]++t) (wd "+")=(D++[t],[]):=by
   unfold J1;rw[if_pos rfl];simp
  rw[this];refine Eq.trans b ?_;simp
theorem a9G{ts:List (List Str)}(h0:ts≠[])(h:∀t∈ts,wd "+"∉t):prt (L9 ts)=ts:=by
 have:=a3j ts [] h0 h;rw[List.nil_append]at this;exact this
structure Nms(ns:List Str):Prop where
 nd:ns.Nodup
 nm:∀n∈ns,isNm n
theorem isNm.ne{n:Str}(h:isNm n)(x:Str)(b:∃c∈x.cps.toList,c<97):n≠x:=λz=>by
 obtain⟨c,a,h1⟩:=b;have:=h.2.2 c (by rw[z];exact a);omega
theorem isNm.fig{n:Str}(h:isNm n)(x:Int):n≠D8 x:=by
 refine h.ne _ ?_;obtain⟨c,r,e⟩:∃c r,(D8 x).cps.toList=c::r:=by
  cases e:(D8 x).cps.toList with
  |nil=>exact absurd e (a0s _)
  |cons c r=>exact⟨c,r,rfl⟩
 exact⟨c,by rw[e];exact List.mem_cons_self,by have:=U7 x.toNat c (by show c∈(D8 x).cps.toList;rw[e];exact List.mem_cons_self);omega⟩
theorem b0R{x:Int}(y:Str)(b:∃c∈y.cps.toList,c<48∨57<c):D8 x≠y:=λz=>by
 obtain⟨c,a,h1⟩:=b;have:=U7 x.toNat c (by show c∈(D8 x).cps.toList;rw[z];exact a);omega
def Tm(ns:List Str)(ws:List Str)(p:Nat×Int):Prop:=0<p.2/\p.2<=topN/\((∃n,ns[p.1]?=some n/\(ws=[D8 p.2,n]∨(p.2=1/\ws=[n])))∨(p.1=ns.length/\ws=[D8 p.2]))
theorem b0S:D8 1=wd "1":=by with_unfolding_all rfl
theorem b6z{ns:List Str}(h:ns.Nodup){j:Nat}{n:Str}(d:ns[j]?=some n):ns.idxOf n=j:=by
 obtain⟨h1,h2,_⟩:=a1P (List.mem_of_getElem? d);obtain⟨b,c⟩:=List.getElem?_eq_some_iff.mp d;obtain⟨_,a⟩:=List.getElem?_eq_some_iff.mp h2;have e:=List.pairwise_iff_getElem.mp h;rcases Nat.lt_trichotomy (ns.idxOf n) j with z|z|z
 .exact absurd (a.trans c.symm) (e _ _ h1 b z)
 .exact z
 .exact absurd (c.trans a.symm) (e _ _ b h1 z)
theorem Tm.rd{ns ws:List Str}{p:Nat×Int}(hn:Nms ns)(h:Tm ns ws p):rdT ns ws=some p:=by
 obtain⟨j,x⟩:=p;obtain⟨d,h1,h2⟩:=h;have d:0<x:=d;have fin:∀f:Str,rdN f=some x->rdF j [f]=some (j,x):=λf e=>by
  show(match rdN f with|some x=>if x=0 then none else some (j,x)|none=>none)=_;rw[e];dsimp only;rw[if_neg (by omega)]
 have c:rdN (D8 x)=some x:=a2k (by omega) h1;rcases h2 with⟨n,a,h2⟩|⟨a,rfl⟩
 .have hm:n∈ns:=List.mem_of_getElem? a;have hi:=b6z hn.nd a;rcases h2 with rfl|⟨b,rfl⟩
  .have:pfT ns [D8 x,n]=(j,[D8 x]):=by
    unfold pfT;rw[show[D8 x,n].getLast?=some n from rfl];dsimp only;rw[if_pos hm,hi];rfl
   unfold rdT;rw[this];exact fin _ c
  .have b:x=1:=b;have:pfT ns [n]=(j,[wd "1"]):=by
    unfold pfT;rw[show[n].getLast?=some n from rfl];dsimp only;rw[if_pos hm,hi];rfl
   unfold rdT;rw[this];refine fin _ ?_;rw[b,b0S]at c;rw[c,b]
 .have a:j=ns.length:=a;have hnm:D8 x∉ns:=λz=>(hn.nm _ z).fig x rfl;have:pfT ns [D8 x]=(j,[D8 x]):=by
   unfold pfT;rw[show[D8 x].getLast?=some (D8 x)from rfl];dsimp only;rw[if_neg hnm,a]
  unfold rdT;rw[this];exact fin _ c
theorem Tm.ne{ns ws:List Str}{p:Nat×Int}(h:Tm ns ws p):ws≠[]:=by
 obtain⟨_,_,⟨n,_,rfl|⟨_,rfl⟩⟩|⟨_,rfl⟩⟩:=h<;>intro z<;>cases z
theorem Tm.out{ns ws:List Str}{p:Nat×Int}(hn:Nms ns)(h:Tm ns ws p)(y:Str)(f:∃c∈y.cps.toList,c<48):y∉ws:=by
 have d:∀x:Int,y≠D8 x:=λx z=>by
  obtain⟨c,a,h1⟩:=f;exact b0R (x:=x) y ⟨c,a,.inl h1⟩ z.symm
 have hnm:∀n∈ns,y≠n:=λn b z=>by
  obtain⟨c,a,h1⟩:=f;exact(hn.nm n b).ne y ⟨c,a,by omega⟩ z.symm
 obtain⟨_,_,⟨n,e,rfl|⟨_,rfl⟩⟩|⟨_,rfl⟩⟩:=h<;>simp only[List.mem_cons,List.not_mem_nil,or_false,not_or]
 .exact⟨d _,hnm n (List.mem_of_getElem? e)⟩
 .exact hnm n (List.mem_of_getElem? e)
 .exact d _
theorem Tm.zero{ns ws:List Str}{p:Nat×Int}(hn:Nms ns)(h:Tm ns ws p):ws≠[wd "0"]:=by
 obtain⟨b,_,⟨n,a,rfl|⟨_,rfl⟩⟩|⟨_,rfl⟩⟩:=h
 .exact λz=>absurd (congrArg List.length z) (by simp)
 .intro z;injection z with z
  exact(hn.nm n (List.mem_of_getElem? a)).fig 0 z
 .intro z;injection z with z
  have:p.2.toNat=0:=a0i (show G3 p.2.toNat=G3 0 from z);omega
inductive Tms(ns:List Str):List (List Str)->List (Nat×Int)->Prop
 |nil:Tms ns [] []
 |cons {t:List Str}{p:Nat×Int}{ts:List (List Str)}{ps:List (Nat×Int)}(h:Tm ns t p) (r:Tms ns ts ps):Tms ns (t::ts) (p::ps)
theorem Tms.all{ns:List Str}{ts:List (List Str)}{ps:List (Nat×Int)}(h:Tms ns ts ps):∀t∈ts,∃p∈ps,Tm ns t p:=by
 induction h with
 |nil=>intro t a;cases a
 |cons h _ b =>
  intro t a;rcases List.mem_cons.mp a with rfl|z
  .exact⟨_,List.mem_cons_self,h⟩
  .obtain⟨p,hp,q⟩:=b t z;exact⟨p,List.mem_cons_of_mem _ hp,q⟩
theorem Tms.app{ns:List Str}{ts us:List (List Str)}{ps a:List (Nat×Int)}(h:Tms ns ts ps)(g:Tms ns us a):Tms ns (ts++us) (ps++a):=by
 induction h with
 |nil=>exact g
 |cons h _ b=>exact .cons h b
theorem Tms.rd{ns:List Str}(hn:Nms ns){ts:List (List Str)}{ps:List (Nat×Int)}(h:Tms ns ts ps):ts.filterMap (rdT ns)=ps/\(ts.map (rdT ns)).all Option.isSome=true:=by
 induction h with
 |nil=>exact⟨rfl,rfl⟩
 |cons h _ a =>
  rw[List.filterMap_cons,List.map_cons,List.all_cons,h.rd hn];exact⟨by dsimp only;rw[a.1],by rw[a.2];rfl⟩
def C6(ts:List (List Str)):List Str:=if ts=[] then[wd "0"] else L9 ts
theorem a7c{ns:List Str}(hn:Nms ns){ts:List (List Str)}{ps:List (Nat×Int)}(h:Tms ns ts ps):X0 ns (C6 ts)=some (ps.foldl C8 (List.replicate (ns.length+1) 0)):=by
 unfold C6;by_cases e:ts=[]
 .rw[if_pos e];subst e;cases h;unfold X0;rw[if_pos rfl];rfl
 .rw[if_neg e];have b:prt (L9 ts)=ts:=a9G e λt c=>by
   obtain⟨p,_,q⟩:=h.all t c;exact q.out hn _ ⟨43,by with_unfolding_all exact List.mem_cons_self,by decide⟩
  have d:¬L9 ts=[wd "0"]:=λz=>by
   match ts,h,z,e with
   |[t],.cons h _,z,_=>exact h.zero hn z
   |t::u::r,.cons h _,z,_ =>
    have:=congrArg List.length z;have a:=h.ne;simp only[L9,List.length_append,List.length_cons,List.length_nil]at this;have:0<t.length:=List.length_pos_iff.mpr a;omega
  unfold X0;rw[if_neg d,b,if_pos (h.rd hn).2,(h.rd hn).1]
theorem a5n{ns:List Str}(hn:Nms ns){ts:List (List Str)}{ps:List (Nat×Int)}(h:Tms ns ts ps):wd "="∉C6 ts:=by
 unfold C6;split
 .simp only[List.mem_singleton];decide
 .have key:∀{ts:List (List Str)},(∀t∈ts,wd "="∉t)->wd "="∉L9 ts:=by
   intro ts;induction ts with
   |nil=>intro _ z;cases z
   |cons t r f =>
    intro h;cases r with
    |nil=>exact h t List.mem_cons_self
    |cons u r =>
     show wd "="∉t++wd "+" :: L9 (u::r);rw[List.mem_append,List.mem_cons];rintro(z|z|z)
     .exact h t List.mem_cons_self z
     .exact absurd z (by decide)
     .exact f (λx e=>h x (List.mem_cons_of_mem _ e)) z
  refine key λt d=>?_;obtain⟨p,_,q⟩:=h.all t d;have b:∀x:Int,wd "="≠D8 x:=λx z=>b0R (x:=x) (wd "=") ⟨61,by with_unfolding_all exact List.mem_cons_self,.inr (by decide)⟩ z.symm;have hnm:∀n∈ns,wd "="≠n:=λn a z=>(hn.nm n a).ne (wd "=") ⟨61,by with_unfolding_all exact List.mem_cons_self,by decide⟩ z.symm;obtain⟨_,_,⟨n,c,rfl|⟨_,rfl⟩⟩|⟨_,rfl⟩⟩:=q<;>simp only[List.mem_cons,List.not_mem_nil,or_false,not_or]
  .exact⟨b _,hnm n (List.mem_of_getElem? c)⟩
  .exact hnm n (List.mem_of_getElem? c)
  .exact b _
theorem a5L{ns:List Str}(hn:Nms ns){ts us:List (List Str)}{ps a:List (Nat×Int)}(h:Tms ns ts ps)(g:Tms ns us a):K3 ns (C6 ts++wd "=" :: C6 us)=b0Z (ps.foldl C8 (List.replicate (ns.length+1) 0)) (a.foldl C8 (List.replicate (ns.length+1) 0)):=by
 have h1:=a5n hn h;have h2:=a5n hn g;have b:(C6 ts++wd "=" :: C6 us).count (wd "=")=1:=by
  rw[List.count_append,List.count_cons,List.count_eq_zero.mpr h1,List.count_eq_zero.mpr h2];simp
 have hi:(C6 ts++wd "=" :: C6 us).idxOf (wd "=")=(C6 ts).length:=by
  rw[List.idxOf_append,if_neg h1,List.idxOf_cons_self];omega
 unfold K3;rw[if_pos b,hi,List.take_left',List.drop_append,a7c hn h]
 .rw[List.drop_eq_nil_of_le (by omega),List.nil_append,show(C6 ts).length+1-(C6 ts).length=1 by omega];show a8i _ (X0 ns (C6 us))=_;rw[a7c hn g];rfl
 .rfl
def L8(ps:List (Nat×Int))(j:Nat):Int:=((ps.filter λp=>decide (p.1=j)).map (·.2)).sum
theorem a1S(ps:List (Nat×Int)):∀(t:List Int) (j:Nat),j<t.length->(ps.foldl C8 t).getD j 0=t.getD j 0+L8 ps j:=by
 induction ps with
 |nil=>intro t j _;simp[L8]
 |cons p r b =>
  intro t j a;rw[List.foldl_cons,b (C8 t p) j (by rw[a3I];exact a)];unfold L8 C8;rw[List.filter_cons];by_cases e:p.1=j
  .rw[if_pos (decide_eq_true e),List.map_cons,List.sum_cons];rw[List.getD_eq_getElem?_getD,List.getElem?_set,e,if_pos rfl,if_pos a];simp only[Option.getD_some];omega
  .rw[if_neg (by simpa using e),List.getD_eq_getElem?_getD,List.getElem?_set,if_neg e,<-List.getD_eq_getElem?_getD]
end K44
namespace L2
open PySem PySem.Spec PyProof.Rows
section
variable {prog:Program}{w:World}{A:Around}{I l S:Addr}{vs:List Value}{kw:List (Str×Value)}{R:Result->Shared->Prop}{h₀:Heap}{s:Shared}
end
section
variable {prog:Program}{w:World}{A:Around}{E:Value->Shared->Prop}{s:Shared}
end
section
variable {X:Cx}{e:Expr}{es:List Expr}{t:TA}{p pos:Pos}
end
end L2
namespace K44
open PySem PySem.Spec PyProof.Rows L2
def Bds(xs:List Int):Prop:=∀x∈xs,-topN<=x/\x<=topN
theorem a6R(n m:Str)(x:Int)(c:List (Str×Int)):lk ((n,x)::c) m=if n=m then some x else lk c m:=by
 unfold lk;rw[List.find?_cons];by_cases e:n=m
 .rw[if_pos e,decide_eq_true e];rfl
 .rw[if_neg e,decide_eq_false e]
theorem a0A:∀(L M:List (List Str)) (d:Dr),C1 d (L++M)=(C1 d L).bind λd'=>C1 d' M
 |[],M,d=>rfl
 |a::L,M,d=>by
  show(d.take a).bind (λd'=>C1 d' (L++M))=((d.take a).bind λd'=>C1 d' L).bind _;cases d.take a with
  |none=>rfl
  |some d'=>exact a0A L M d'
theorem a4G{d:Dr}{n:Str}{x:Int}(h0:d.names≠[])(hn:n∈d.names)(a:n∉d.caps.map (·.1))(h1:0<=x)(h2:x<=topN):d.take [wd "cap",n,D8 x]=some {d with caps:=d.caps++[(n,x)]}:=by
 unfold Dr.take;dsimp only;rw[if_neg h0,if_neg (by decide),if_pos rfl];unfold tkN;dsimp only;rw[if_pos ⟨hn,a⟩,a2k h1 h2];rfl
theorem a1Y{d:Dr}{n:Str}{x:Int}(h0:d.names≠[])(hn:n∈d.names)(a:n∉d.prices.map (·.1))(h1:0<=x)(h2:x<=topN):d.take [wd "price",n,D8 x]=some {d with prices:=d.prices++[(n,x)]}:=by
 unfold Dr.take;dsimp only;rw[if_neg h0,if_neg (by decide),if_neg (by decide),if_pos rfl];unfold tkN;dsimp only;rw[if_pos ⟨hn,a⟩,a2k h1 h2];rfl
theorem a0t(x:Str):Str.empty++x=x:=Str.ext' (by rw[Str.cps_append];show #[]++x.cps=x.cps;simp)
def Wg(x:Str):Prop:=x.length<=20/\∀c∈x.cps.toList,33<=c/\c<127
theorem Wg.ok{x:Str}(h:Wg x):Wok x:=⟨by
 rw[Array.all_eq_true'];intro c a;have:=h.2 c (by simpa using a);exact decide_eq_true (by omega),by have:=h.1;omega⟩
theorem a6x{ws:List Str}(h0:ws≠[])(b:ws.length<=400)(h:∀x∈ws,Wg x):Wl ws where
 ne:=h0
 wk:=⟨by omega,λx a=>(h x a).ok⟩
 no:=λx a=>⟨λz=>by have:=(h x a).2 _ z;omega,λz=>by have:=(h x a).2 _ z;omega⟩
 le:=by
  have:=O6 (c:=32) (B:=20) (ys:=ws) λy d=>(h y d).1;exact Nat.le_trans this (Nat.le_trans (Nat.mul_le_mul b (Nat.le_refl 21)) (by decide))
theorem isNm.wg{n:Str}(h:isNm n):Wg n:=⟨by have:=h.2.1;omega,λc a=>by have:=h.2.2 c a;omega⟩
theorem a0j{x:Int}(h1:x<=topN):Wg (D8 x):=⟨by
 have:(G3 x.toNat).length<=13:=(a0h (by decide)).mpr (by unfold topN at h1;omega);show(G3 x.toNat).length<=20;omega,λc a=>by have:=U7 x.toNat c a;omega⟩
theorem wg_lit:Wg (wd "of")/\Wg (wd "sum")/\Wg (wd "cap")/\Wg (wd "price")/\Wg (wd "+")/\Wg (wd "=")/\Wg (wd "0"):=by
 have key:∀x:Str,x.length<=20->(x.cps.toList.all λc=>decide (33<=c/\c<127))=true->Wg x:=λx h1 h2=>⟨h1,λc a=>of_decide_eq_true (List.all_eq_true.mp h2 c a)⟩;refine⟨?_,?_,?_,?_,?_,?_,?_⟩<;>exact key _ (by decide) (by with_unfolding_all rfl)
theorem Tm.wg{ns t:List Str}{p:Nat×Int}(hn:Nms ns)(h:Tm ns t p):(∀x∈t,Wg x)/\t.length<=2:=by
 obtain⟨c,h1,⟨n,b,rfl|⟨_,rfl⟩⟩|⟨_,rfl⟩⟩:=h
 .refine⟨λx a=>?_,by show 2<=2;decide⟩;simp only[List.mem_cons,List.not_mem_nil,or_false]at a;rcases a with rfl|rfl
  .exact a0j h1
  .exact(hn.nm _ (List.mem_of_getElem? b)).wg
 .refine⟨λx a=>?_,by show 1<=2;decide⟩;rw[List.mem_singleton.mp a];exact(hn.nm _ (List.mem_of_getElem? b)).wg
 .refine⟨λx a=>?_,by show 1<=2;decide⟩;rw[List.mem_singleton.mp a];exact a0j h1
theorem a3W:∀{ts:List (List Str)},(∀t∈ts,(∀x∈t,Wg x)/\t.length<=2)->(∀x∈L9 ts,Wg x)/\(L9 ts).length<=3*ts.length
 |[],_=>⟨λx a=>(nomatch a),Nat.le_refl _⟩
 |[t],h=>⟨(h t List.mem_cons_self).1,by have:=(h t List.mem_cons_self).2;show t.length<=3*1;omega⟩
 |t::u::r,h=>by
  obtain⟨b,c⟩:=a3W (ts:=u::r) λx a=>h x (List.mem_cons_of_mem _ a);obtain⟨d,e⟩:=h t List.mem_cons_self;refine⟨λx a=>?_,?_⟩
  .rcases List.mem_append.mp (show x∈t++wd "+" :: L9 (u::r)from a)with z|z
   .exact d x z
   .rcases List.mem_cons.mp z with z|z
    .rw[z];exact wg_lit.2.2.2.2.1
    .exact b x z
  .show(t++wd "+" :: L9 (u::r)).length<=_;rw[List.length_append,List.length_cons,List.length_cons];rw[List.length_cons]at c;rw[List.length_cons];omega
theorem a0q{ts:List (List Str)}(h:∀t∈ts,(∀x∈t,Wg x)/\t.length<=2):(∀x∈C6 ts,Wg x)/\(C6 ts).length<=3*ts.length+1/\((∀t∈ts,t≠[])->C6 ts≠[]):=by
 unfold C6;by_cases e:ts=[]
 .rw[if_pos e];exact⟨λx b=>by rw[List.mem_singleton.mp b];exact wg_lit.2.2.2.2.2.2,by simp,λ_ z=>by cases z⟩
 .rw[if_neg e];obtain⟨h1,h2⟩:=a3W h;exact⟨h1,by omega,λa=>a4Q e a⟩
inductive Mg{α:Type}:List α->List α->List α->List α->Prop
 |nil:Mg [] [] [] []
 |a {x:α}{A B C O:List α}(h:Mg A B C O):Mg (x::A) B C (x::O)
 |b {x:α}{A B C O:List α}(h:Mg A B C O):Mg A (x::B) C (x::O)
 |c {x:α}{A B C O:List α}(h:Mg A B C O):Mg A B (x::C) (x::O)
structure SumL(ns:List Str)(ws:List Str)(q:List Int×Int):Prop where
 ex:∃r,ws=wd "sum" :: r/\K3 ns r=some (q.1++[-q.2])
 wl:Wl ws
inductive SumLs(ns:List Str):List (List Str)->List (List Int×Int)->Prop
 |nil:SumLs ns [] []
 |cons {ws:List Str}{q:List Int×Int}{L:List (List Str)}{Q:List (List Int×Int)}(h:SumL ns ws q) (r:SumLs ns L Q):SumLs ns (ws::L) (q::Q)
theorem SumLs.snoc{ns:List Str}{L:List (List Str)}{Q:List (List Int×Int)}{ws:List Str}{q:List Int×Int}(h:SumLs ns L Q)(g:SumL ns ws q):SumLs ns (L++[ws]) (Q++[q]):=by
 induction h with
 |nil=>exact .cons g .nil
 |cons a _ b=>exact .cons a b
theorem SumLs.all{ns:List Str}{L:List (List Str)}{Q:List (List Int×Int)}(h:SumLs ns L Q):L.length=Q.length/\∀ws∈L,Wl ws:=by
 induction h with
 |nil=>exact⟨rfl,λ_ z=>nomatch z⟩
 |cons a _ c=>exact⟨by simp[c.1],λws b=>by rcases List.mem_cons.mp b with rfl|z;exact a.wl;exact c.2 ws z⟩
theorem a7t{d:Dr}{ws:List Str}{q:List Int×Int}(h0:d.names≠[])(h:SumL d.names ws q)(a:d.rows.length<6):d.take ws=some {d with rows:=d.rows++[q.1],sides:=d.sides++[q.2]}:=by
 obtain⟨r,rfl,e⟩:=h.ex;unfold Dr.take;dsimp only;rw[if_neg h0,if_pos rfl,e];dsimp only;rw[if_neg (by omega)];simp
def b3u(q:Str×Int):List Str:=[wd "cap",q.1,D8 q.2]
def b1Y(q:Str×Int):List Str:=[wd "price",q.1,D8 q.2]
structure NumOk(ns:List Str)(qs:List (Str×Int)):Prop where
 nd:(qs.map (·.1)).Nodup
 mem:∀q∈qs,q.1∈ns/\0<=q.2/\q.2<=topN
theorem a8S{A B C O:List (List Str)}(h:Mg A B C O):∀(d:Dr) (Q:List (List Int×Int)) (cs ps:List (Str×Int)),d.names≠[]->SumLs d.names A Q->B=cs.map b3u->C=ps.map b1Y->d.rows.length+Q.length<=6 ->
  (∀q∈cs,q.1∈d.names/\0<=q.2/\q.2<=topN)->(d.caps.map (·.1)++cs.map (·.1)).Nodup->(∀q∈ps,q.1∈d.names/\0<=q.2/\q.2<=topN)->(d.prices.map (·.1)++ps.map (·.1)).Nodup ->
  C1 d O=some {d with rows:=d.rows++Q.map (·.1),sides:=d.sides++Q.map (·.2),caps:=d.caps++cs,prices:=d.prices++ps}:=by
 induction h with
 |nil =>
  intro d Q cs ps l m j k _ _ _ _ _;cases m;have j:=List.map_eq_nil_iff.mp j.symm;have k:=List.map_eq_nil_iff.mp k.symm;subst j k;simp[C1]
 |a h p =>
  intro d Q cs ps l m j k n e f g i;cases m with
  |cons v o =>
   rename_i q Q;show(d.take _).bind _=_;rw[a7t l v (by rw[List.length_cons]at n;omega)];refine Eq.trans (p {d with rows:=d.rows++[q.1],sides:=d.sides++[q.2]} Q cs ps l o j k (by simp at n⊢;omega) e f g i) ?_;simp
 |b h p =>
  intro d Q cs ps l m j k n e f g i;cases cs with
  |nil=>cases j
  |cons q cs =>
   rw[List.map_cons]at j;injection j with hB1 hB2
   subst hB1;obtain⟨a1,s,t⟩:=e q List.mem_cons_self;have u:q.1∉d.caps.map (·.1):=λz=>(List.nodup_append.mp f).2.2 _ z _ List.mem_cons_self rfl;show(d.take (b3u q)).bind _=_;unfold b3u;rw[a4G l a1 u s t];refine Eq.trans (p {d with caps:=d.caps++[(q.1,q.2)]} Q cs ps l m hB2 k n (λr o=>e r (List.mem_cons_of_mem _ o)) (by simpa using f) g i) ?_;simp
 |c h p =>
  intro d Q cs ps l m j k n e f g i;cases ps with
  |nil=>cases k
  |cons q ps =>
   rw[List.map_cons]at k;injection k with hC1 hC2
   subst hC1;obtain⟨a1,s,t⟩:=g q List.mem_cons_self;have u:q.1∉d.prices.map (·.1):=λz=>(List.nodup_append.mp i).2.2 _ z _ List.mem_cons_self rfl;show(d.take (b1Y q)).bind _=_;unfold b1Y;rw[a1Y l a1 u s t];refine Eq.trans (p {d with prices:=d.prices++[(q.1,q.2)]} Q cs ps l m j hC2 n e f (λr o=>g r (List.mem_cons_of_mem _ o)) (by simpa using i)) ?_;simp
theorem Mg.mem{α:Type}{A B C O:List α}(h:Mg A B C O):∀x∈O,x∈A∨x∈B∨x∈C:=by
 induction h with
 |nil=>intro x d;cases d
 |a _ e =>
  intro x d;rcases List.mem_cons.mp d with rfl|z
  .exact .inl List.mem_cons_self
  .rcases e x z with q|q|q
   .exact .inl (List.mem_cons_of_mem _ q)
   .exact .inr (.inl q)
   .exact .inr (.inr q)
 |b _ e =>
  intro x d;rcases List.mem_cons.mp d with rfl|z
  .exact .inr (.inl List.mem_cons_self)
  .rcases e x z with q|q|q
   .exact .inl q
   .exact .inr (.inl (List.mem_cons_of_mem _ q))
   .exact .inr (.inr q)
 |c _ e =>
  intro x d;rcases List.mem_cons.mp d with rfl|z
  .exact .inr (.inr List.mem_cons_self)
  .rcases e x z with q|q|q
   .exact .inl q
   .exact .inr (.inl q)
   .exact .inr (.inr (List.mem_cons_of_mem _ q))
theorem Mg.len{α:Type}{A B C O:List α}(h:Mg A B C O):O.length=A.length+B.length+C.length:=by
 induction h with
 |nil=>rfl
 |a _ d=>simp[d];omega
 |b _ d=>simp[d];omega
 |c _ d=>simp[d];omega
theorem b8m{ns:List Str}(hn:Nms ns)(h1:1<=ns.length)(n:ns.length<=7){A O:List (List Str)}{Q:List (List Int×Int)}{cs ps:List (Str×Int)}(g:SumLs ns A Q)(t:Q.length<=6)(d:NumOk ns cs)(hp:NumOk ns ps)(i:Mg A (cs.map b3u) (ps.map b1Y) O) :
  C1 dr0 ((wd "of" :: ns)::O)=some ⟨ns,Q.map (·.1),Q.map (·.2),cs,ps⟩/\(∀ws∈(wd "of" :: ns)::O,Wl ws)/\((wd "of" :: ns)::O).length<=30:=by
 have m:ns≠[]:=λz=>by rw[z]at h1;exact absurd h1 (by decide)
 have o:dr0.take (wd "of" :: ns)=some {dr0 with names:=ns}:=by
  unfold Dr.take;dsimp only;rw[if_pos (show dr0.names=[] from rfl),if_pos ⟨rfl,h1,n,hn.nd,hn.nm⟩]
 have c:∀f:List (Str×Int),NumOk ns f->f.length<=7:=λf h=>by
  have:=Tab.nodup_le (f.map (·.1)) ns h.nd λx a=>by obtain⟨q,e,rfl⟩:=List.mem_map.mp a;exact(h.mem q e).1
  rw[List.length_map]at this;omega
 have b:∀(k:Str) (q:Str×Int),Wg k->(q.1∈ns/\0<=q.2/\q.2<=topN)->Wl [k,q.1,D8 q.2]:=λk q hw e=>by
  refine a6x (by simp) (by show 3<=400;decide) λx a=>?_;simp only[List.mem_cons,List.not_mem_nil,or_false]at a;rcases a with rfl|rfl|rfl
  .exact hw
  .exact(hn.nm _ e.1).wg
  .exact a0j e.2.2
 refine⟨?_,λws j=>?_,?_⟩
 .show(dr0.take (wd "of" :: ns)).bind (λl=>C1 l _)=_;rw[o];refine Eq.trans (a8S i {dr0 with names:=ns} Q cs ps m g rfl rfl (by show 0+_<=6;omega) d.mem (by show([]++_).Nodup;exact d.nd) hp.mem (by show([]++_).Nodup;exact hp.nd)) ?_;simp[dr0]
 .rcases List.mem_cons.mp j with rfl|z
  .refine a6x (by simp) (by rw[List.length_cons];omega) λx a=>?_;rcases List.mem_cons.mp a with rfl|z
   .exact wg_lit.1
   .exact(hn.nm x z).wg
  .rcases i.mem ws z with q|q|q
   .exact g.all.2 ws q
   .obtain⟨x,a,rfl⟩:=List.mem_map.mp q;exact b _ x wg_lit.2.2.1 (d.mem x a)
   .obtain⟨x,a,rfl⟩:=List.mem_map.mp q;exact b _ x wg_lit.2.2.2.1 (hp.mem x a)
 .have:=i.len;have p:=g.all.1;have r:=c cs d;have s:=c ps hp;rw[List.length_map,List.length_map]at this;rw[List.length_cons];omega
def pk(b:Addr)(l t k:Int):List (Key×V):=[(.inr "own",.ref b),(.inr "left",.int l),(.inr "seed",.int t),(.inr "many",.int k)]
section
variable (b:Addr) (l t k z:Int)
theorem b5q:Z4 (pk b l t k) (.inr (Str.ofString "own"))=some (.ref b):=by with_unfolding_all rfl
theorem b2f:Z4 (pk b l t k) (.inr (Str.ofString "left"))=some (.int l):=by with_unfolding_all rfl
theorem b2c:Z4 (pk b l t k) (.inr (Str.ofString "seed"))=some (.int t):=by with_unfolding_all rfl
theorem b2d:Z4 (pk b l t k) (.inr (Str.ofString "many"))=some (.int k):=by with_unfolding_all rfl
theorem a9L:W2 (pk b l t k) (.inr (Str.ofString "left")) (.int z)=pk b z t k:=by with_unfolding_all rfl
theorem a9J:W2 (pk b l t k) (.inr (Str.ofString "seed")) (.int z)=pk b l z k:=by with_unfolding_all rfl
theorem a9K:W2 (pk b l t k) (.inr (Str.ofString "many")) (.int z)=pk b l t z:=by with_unfolding_all rfl
theorem b2e:a1l [] [(.inr (Str.ofString "own"),.ref b),(.inr (Str.ofString "left"),.int l),(.inr (Str.ofString "seed"),.int t),(.inr (Str.ofString "many"),.int k)]=pk b l t k:=by with_unfolding_all rfl
end
structure PotAt(H:Hp)(a b:Addr):Prop where
 ne:a≠b
 ex:∃(cs:List Int) (l t k:Int),H a=some (.dK (pk b l t k))/\H b=some (.lst (cs.map V.int))
theorem PotAt.same{H H':Hp}{a b:Addr}(h:PotAt H a b)(s:Same H H'):PotAt H' a b:=by
 obtain⟨ne,c,l,t,k,h1,h2⟩:=h;exact⟨ne,c,l,t,k,s _ _ h1,s _ _ h2⟩
theorem G1{H:Hp}{a b:Addr}(h:PotAt H a b){c:Addr}{xs:List V}(d:H c=some (.tup xs)):c∉[a,b]:=by
 obtain⟨_,e,l,t,k,h1,h2⟩:=h;simp only[List.mem_cons,List.not_mem_nil,or_false,not_or];exact⟨T7 d h1 (by intro z;cases z),T7 d h2 (by intro z;cases z)⟩
theorem C7{H:Hp}{a b:Addr}(h:PotAt H a b){c:Addr}(d:H c=none):c∉[a,b]:=by
 obtain⟨_,e,l,t,k,h1,h2⟩:=h;simp only[List.mem_cons,List.not_mem_nil,or_false,not_or];exact⟨(B0 h1 d).symm,(B0 h2 d).symm⟩
theorem N3{H:Hp}{a b:Addr}(h:PotAt H a b){c:Addr}{o:HO}(d:c∉[a,b]):PotAt (upd H c o) a b:=by
 simp only[List.mem_cons,List.not_mem_nil,or_false,not_or]at d;obtain⟨ne,e,l,t,k,e1,e2⟩:=h;exact⟨ne,e,l,t,k,by rw[A5 (Ne.symm d.1)];exact e1,by rw[A5 (Ne.symm d.2)];exact e2⟩
theorem IT.pot{H H':Hp}{v:V}{ns:List Int}{a b:Addr}(h:IT H v ns)(d:PotAt H a b)(o:Off [a,b] H H'):IT H' v ns:=by
 obtain⟨c,e,q⟩:=h;exact⟨c,e,o c _ (G1 d q) q⟩
theorem Its.pot{H H':Hp}{vs:List V}{c:LLI}{a b:Addr}(h:Its H vs c)(d:PotAt H a b)(o:Off [a,b] H H'):Its H' vs c:=⟨h.1,λi v e=>let ⟨r,e1,e2⟩:=h.2 i v e;⟨r,e1,IT.pot e2 d o⟩⟩
theorem W3{l:List Addr}{H H':Hp}{p:Addr}{o:HO}(s:Off l H H')(hp:H p=none):Off l H (upd H' p o):=λb u a e=>by
 rw[A5 (B0 e hp)];exact s b u a e
theorem K8{H H':Hp}{a b:Addr}{p:Addr}(o:Off [a,b] H H')(c:PotAt H' a b)(hp:H' p=none):H p=none:=by
 rcases e:H p with _|u
 .rfl
 .have:=o _ _ (C7 c hp) e;rw[hp]at this;cases this
section
variable {P:Program}{w:World}{K:PySem.W.Frag}{mg:Str->Option Value}{base:Heap}
def b3Q(K:PySem.W.Frag):Sp:=λvs H Q _=>∃(a:Addr) (ns:List Int),vs=[.ref a]/\SqL K H a (ns.map V.int)/\ns.length<=1000/\∀p b H',H p=none->H b=none->PotAt H' p b->Same H H'->Q (.ref p) H'
theorem sc__law_pot:FnScope ["_law_script","_law_seed","_law_own","_law_cell"] ["_law_script"] (A8 Y1):=⟨rfl,rfl,rfl,by decide +kernel,rfl,by decide +kernel,by decide +kernel⟩
theorem b6a(F:FunAt K mg "_law_pot" Y1 ["_law_script"])(T:Tx mg):Ok P w K mg base "_law_pot" 1 ["_law_script"] (b3Q K):=by
 refine F.okJ sc__law_pot (λvs H Q E h=>?_) (λl f A outer s H vs Q E n h=>?_)
 .obtain⟨a,ns,rfl,_⟩:=h;rfl
 .obtain⟨a,ns,rfl,hS,hl,k⟩:=h;have q:(3000:Nat)<=sizeLine:=by rw[sizeLine_eq];decide
  refine⟨_,(A1 (B7 (i:=1) sc__law_pot.nd rfl (Or.inl rfl) A4)
 (A1 (B7 (i:=2) sc__law_pot.nd rfl (Or.inl rfl) (C5 jaN))
 (A1 (T8 (L7 K (jv 0)) (C3 (i:=3) sc__law_pot.nd rfl (Or.inl rfl))
 (A1 (B7 (i:=1) sc__law_pot.nd rfl (Or.inl rfl) (a1d (J3 (J3 (a2w (jv 1) A4) (a1d (jv 3) A4)) A4) A4))
 (A9 (G2 (b8o (jv 3) (a1c A4 A4))
 (A9 (G8 (G5 K (jv 2) (jaC (jv 3) jaN))))
 C9))))
 (A9 (C2 (b6v (a1M A2 (jv 2) (a1M A2 A4 (a1M A2 (jv 1) (a1M A2 A4 b6p)))))))))),?_⟩
  refine⟨Nat.zero_le _,λb d=>?_⟩;have m:=(Same.refl H).upd (o:=.lst []) d;dsimp only[B1];refine⟨_,rfl,a,rfl,⟨_,m.seq hS⟩,?_⟩;refine a1e (K:=K) (a:=a) (xs:=ns.map V.int) (λi σ H2=>∃(t:Int) (c:List Int) (v:Option V),σ=[some (.ref a),some (.int t),some (.ref b),v]/\c.length<=i/\H2=upd H b (.lst (c.map V.int))) ⟨17,[],none,rfl,Nat.le_refl _,rfl⟩
   (λi σ H2 _ ⟨_,_,_,_,_,e⟩=>by rw[e];exact((Same.refl H).upd d).seq hS) ?_ ?_
  .rintro i x σ H2 hx ⟨t,c,v,rfl,hcs,rfl⟩;have hi:i<ns.length:=by have:=(List.getElem?_eq_some_iff.mp hx).1;simpa using this
   obtain⟨z,_,rfl⟩:=a4p hx;dsimp only[B1];refine⟨_,rfl,_,_,rfl,rfl,.inr ⟨by decide,by decide⟩,_,rfl,_,_,rfl,rfl,(show(0:Int)<2147483587 by decide),_,_,rfl,rfl,_,_,rfl,rfl,_,_,rfl,rfl,(show(0:Int)<2305843009213693951 by decide),?_⟩;dsimp only[B1];refine⟨_,rfl,_,_,rfl,rfl,⟨by decide,by decide,by decide⟩,_,_,rfl,rfl,_,rfl,G7 (λe=>?_) (λe=>?_)⟩
   .refine⟨_,rfl,.inl ⟨rfl,_,SqL.of A0⟩,_,rfl,b,_,_,rfl,rfl,A0,by rw[List.length_map];omega,?_⟩;exact⟨_,c++[z],_,rfl,by rw[List.length_append];simpa using hcs,by rw[a6y,List.map_append];rfl⟩
   .exact⟨_,c,_,rfl,by omega,rfl⟩
  .rintro σ H2 ⟨t,c,v,rfl,hcs,rfl⟩;refine λp g=>⟨_,rfl,_,rfl,A0,[(.inr (Str.ofString "own"),.ref b),(.inr (Str.ofString "left"),.int 0),(.inr (Str.ofString "seed"),.int t),(.inr (Str.ofString "many"),.int 0)],rfl,by show 4<=15;decide,?_⟩;rw[b2e,a6y];have j:b≠p:=B0 (o:=.lst (c.map V.int)) A0 g;have s1:=(Same.refl H).upd (o:=.lst (c.map V.int)) d;exact k p b _ (s1.free g) d ⟨j.symm,c,0,t,0,A0,by rw[A5 j];exact A0⟩ (s1.upd g)
def T5:Sp:=λvs H Q _=>∃(a b:Addr) (m:Int),vs=[.ref a,.int m]/\PotAt H a b/\0<m/\m<10 ^ 100/\∀r H',0<=r->r<m->PotAt H' a b->Off [a,b] H H'->Q (.int r) H'
theorem sc__law_next:FnScope ["_law_pot_here","_law_many","_law_drawn","_law_mixed"] ["_law_pot_here","_law_many"] (A8 V2):=⟨rfl,rfl,rfl,by decide +kernel,rfl,by decide +kernel,by decide +kernel⟩
theorem b2G(F:FunAt K mg "_law_next" V2 ["_law_pot_here","_law_many"])(T:Tx mg):Ok P w K mg base "_law_next" 1 ["_law_pot_here","_law_many"] T5:=by
 refine F.okJ sc__law_next (λvs H Q E h=>?_) (λM f A outer s H vs Q E N h=>?_)
 .obtain⟨a,b,m,rfl,_⟩:=h;rfl
 .obtain⟨a,b,m,rfl,⟨ne,r,l,t,k,u,y⟩,hm0,hm1,kk⟩:=h;have n:=N.u60;have U:(3000:Nat)<=sizeLine:=by rw[sizeLine_eq];decide
  refine⟨_,(A1 (G2 (a1E (a6a (O8 (U4 n (jv 0) A2) A4) (a4g (a4h K n (U4 n (jv 0) A2) (C5 jaN)))))
 (A9 (a0o n (jv 0) A2 (a1b K (U4 n (jv 0) A2) (jaC A4 jaN))))
 C9)
 (A1 (G2 (a5h (U4 n (jv 0) A2) A4)
 (A1 (B7 (i:=2) sc__law_next.nd rfl (Or.inl rfl) (a1d (U4 n (jv 0) A2) (jv 1)))
 (A1 (a0o n (jv 0) A2 (b3i (U4 n (jv 0) A2) (jv 1)))
 (A9 (C2 (jv 2)))))
 C9)
 (A1 (a0o n (jv 0) A2 (J3 (U4 n (jv 0) A2) A4))
 (A1 (B7 (i:=3) sc__law_next.nd rfl (Or.inl rfl) (a1d (a2w (J3 (U4 n (jv 0) A2) (a2w (U4 n (jv 0) A2) A4)) A4) A4))
 (A1 (a0o n (jv 0) A2 (a1d (a2w (jv 3) (J3 (a1d (jv 3) A4) A4)) A4))
 (A9 (C2 (a1d (b6u (U4 n (jv 0) A2) A4) (jv 1))))))))),?_⟩
  have B:∀{H:Hp}{b:Addr}{l t k:Int},H a=some (.dK (pk b l t k))->DGet H a (.str (Str.ofString "left")) (some (.int l)):=λ{_ b l t k} e=>by rw[<-b2f b l t k];exact DGet.k (k:=.inr (Str.ofString "left")) e
  have I:∀{H:Hp}{b:Addr}{l t k:Int},H a=some (.dK (pk b l t k))->DGet H a (.str (Str.ofString "own")) (some (.ref b)):=λ{_ b l t k} e=>by rw[<-b5q b l t k];exact DGet.k (k:=.inr (Str.ofString "own")) e
  have gS:∀{H:Hp}{b:Addr}{l t k:Int},H a=some (.dK (pk b l t k))->DGet H a (.str (Str.ofString "seed")) (some (.int t)):=λ{_ b l t k} e=>by rw[<-b2c b l t k];exact DGet.k (k:=.inr (Str.ofString "seed")) e
  have G:∀{H:Hp}{b:Addr}{l t k:Int},H a=some (.dK (pk b l t k))->DGet H a (.str (Str.ofString "many")) (some (.int k)):=λ{_ b l t k} e=>by rw[<-b2d b l t k];exact DGet.k (k:=.inr (Str.ofString "many")) e
  have L:∀{H:Hp}{b:Addr}{l t k z:Int},H a=some (.dK (pk b l t k))->DPut H a (.str (Str.ofString "left")) (.int z) (upd H a (.dK (pk b z t k))):=λ{_ b l t k z} e=>by rw[<-a9L b l t k z];exact DPut.k (k:=.inr (Str.ofString "left")) e (by show 4<sizeLine;omega)
  have R:∀{H:Hp}{b:Addr}{l t k z:Int},H a=some (.dK (pk b l t k))->DPut H a (.str (Str.ofString "seed")) (.int z) (upd H a (.dK (pk b l z k))):=λ{_ b l t k z} e=>by rw[<-a9J b l t k z];exact DPut.k (k:=.inr (Str.ofString "seed")) e (by show 4<sizeLine;omega)
  have O:∀{H:Hp}{b:Addr}{l t k z:Int},H a=some (.dK (pk b l t k))->DPut H a (.str (Str.ofString "many")) (.int z) (upd H a (.dK (pk b l t z))):=λ{_ b l t k z} e=>by rw[<-a9K b l t k z];exact DPut.k (k:=.inr (Str.ofString "many")) e (by show 4<sizeLine;omega)
  refine a0S (λσ H'=>σ=[some (.ref a),some (.int m),none,none]/\Off [a,b] H H'/\∃(r:List Int) (l:Int),H' a=some (.dK (pk b l t k))/\H' b=some (.lst (r.map V.int))) ?fin λfin=>?_
  case fin =>
   clear u y;rintro σ H1 ⟨rfl,d,r,l,u,y⟩;refine⟨_,rfl,a,_,rfl,B u,_,_,rfl,rfl,_,rfl,G7 (λe=>?_) (λe=>?_)⟩
   .refine⟨_,rfl,a,_,rfl,B u,_,rfl,_,_,rfl,rfl,hm0,?_⟩;dsimp only[B1];refine⟨_,rfl,a,_,rfl,B u,_,rfl,_,_,rfl,rfl,⟨hm0,hm1⟩,_,rfl,a,_,rfl,L u,?_⟩;refine⟨_,rfl,kk _ _ (Int.emod_nonneg _ (by omega)) (Int.emod_lt_of_pos _ hm0) ⟨ne,r,_,_,_,A0,by rw[A5 ne.symm];exact y⟩ (d.set (by simp))⟩
   .refine⟨_,rfl,a,_,rfl,G u,_,_,rfl,rfl,_,rfl,a,_,rfl,O u,?_⟩;have j:upd H1 a (.dK (pk b l t (k+1))) b=some (.lst (r.map V.int)):=by rw[A5 ne.symm];exact y
    have g:upd H1 a (.dK (pk b l t (k+1))) a=some (.dK (pk b l t (k+1))):=A0;have v:Off [a,b] H (upd H1 a (.dK (pk b l t (k+1)))):=d.set (by simp);generalize upd H1 a (.dK (pk b l t (k+1)))=H2 at g j v;refine⟨_,rfl,a,_,rfl,gS g,_,rfl,a,_,rfl,G g,_,_,rfl,rfl,.inr ⟨by decide,by decide⟩,_,_,rfl,rfl,_,_,rfl,rfl,.inr ⟨by decide,by decide⟩,_,_,rfl,rfl,(show(0:Int)<2305843009213693951 by decide),?_⟩;generalize J:(t+(k+1)*104729)*48271 % 2305843009213693951=x;have W:0<=x:=by rw[<-J];exact Int.emod_nonneg _ (by decide)
    have X:x<2305843009213693951:=by rw[<-J];exact Int.emod_lt_of_pos _ (by decide)
    dsimp only[B1];refine⟨_,rfl,_,rfl,_,_,rfl,rfl,(show(0:Int)<1009 by decide),_,_,rfl,rfl,_,_,rfl,rfl,.inl ⟨by omega,by omega⟩,_,_,rfl,rfl,(show(0:Int)<2305843009213693951 by decide),_,rfl,a,_,rfl,R g,?_⟩;refine⟨_,rfl,a,_,rfl,gS A0,_,_,rfl,rfl,⟨by decide,by decide⟩,_,rfl,_,_,rfl,rfl,hm0,?_⟩;exact kk _ _ (Int.emod_nonneg _ (by omega)) (Int.emod_lt_of_pos _ hm0) ⟨ne,r,_,_,_,A0,by rw[A5 ne.symm];exact j⟩ (v.set (by simp))
  refine⟨_,rfl,a,_,rfl,B u,rfl,_,rfl,G7 (λe=>?_) (λe=>Y9 (fin _ _ ⟨rfl,Off.refl _ _,r,l,u,y⟩))⟩;refine b7j (b:=b) (cs:=r) (λS q=>⟨_,rfl,a,_,rfl,I u,q⟩) y λp D=>?_;have g:=G0 (o:=.lst []) u D;have j:=G0 (o:=.lst []) y D;have d:Off [a,b] H (upd H p (.lst [])):=(Off.refl _ _).upd D;generalize upd H p (.lst [])=H1 at g j d;cases r with
  |nil=>exact Y9 (fin _ _ ⟨rfl,d,[],l,g,j⟩)
  |cons c r =>
   refine a0I ⟨_,rfl,a,_,rfl,I g,.inl ⟨rfl,_,SqL.of j⟩,b,_,0,0,_,rfl,rfl,j,by decide,by decide,seqIndex_of (by decide) (by simp),rfl,?_⟩;have C:upd H1 b (.lst (((c::r).map V.int).eraseIdx 0)) a=some (.dK (pk b l t k)):=by rw[A5 ne];exact g
   refine⟨_,rfl,a,_,rfl,L C,fin _ _ ⟨rfl,(d.set (by simp)).set (by simp),r,c,A0,?_⟩⟩;rw[A5 ne.symm,A0];rfl
def a5N:Sp:=λvs H Q _=>∃(a b l:Addr) (xs:List V),vs=[.ref a,.ref l]/\PotAt H a b/\H l=some (.lst xs)/\l∉[a,b]/\0<xs.length/\xs.length<=1000/\∀r H',r∈xs->PotAt H' a b->Off [a,b] H H'->Q r H'
theorem a2d:FnScope ["_law_pot_here","_law_some"] ["_law_pot_here","_law_some"] (A8 W8):=⟨rfl,rfl,rfl,by decide +kernel,rfl,by decide +kernel,by decide +kernel⟩
theorem b8k(F:FunAt K mg "_law_of" W8 ["_law_pot_here","_law_some"])(T:Tx mg)(c:Ok P w K mg base "_law_next" 1 ["_law_pot_here","_law_many"] T5):Ok P w K mg base "_law_of" 2 ["_law_pot_here","_law_some"] a5N:=by
 refine F.okJ a2d (λvs H Q E h=>?_) (λi f A outer s H vs Q E n h=>?_)
 .obtain⟨a,b,l,xs,rfl,_⟩:=h;rfl
 .obtain⟨a,b,l,xs,rfl,hP,hl,hn,h0,h1,k⟩:=h;refine⟨_,(A9 (C2 (K4 K (jv 1) (C0 c (n.mono (by omega)) rfl (jaC (jv 0) (jaC (D7 K rfl T.b_len (jaC (jv 1) jaN)) jaN)))))),?_⟩;have m:((xs.length:Nat):Int)<10 ^ 100:=Int.lt_of_le_of_lt (show(xs.length:Int)<=1000 by omega) (by decide +kernel);refine⟨_,rfl,_,rfl,_,rfl,l,_,rfl,.inl (SqL.of hl),a,b,_,rfl,hP,by omega,m,λr H1 o p e d=>?_⟩;obtain⟨j,rfl⟩:∃j:Nat,r=j:=⟨r.toNat,by omega⟩;have g:j<xs.length:=by omega
  refine⟨l,_,_,_,rfl,rfl,SqL.of (d _ _ hn hl),F0 (j:=j) (List.getElem?_eq_getElem g),k _ H1 (List.getElem_mem g) e d⟩
end
theorem W9(c m:Nat):(Z2 ⟨#[c]⟩ m).cps.toList=List.replicate m c:=by
 unfold Z2;show(List.replicate m [c]).flatten.toArray.toList=_;rw[List.toList_toArray];induction m with
 |zero=>rfl
 |succ m a=>rw[List.replicate_succ,List.flatten_cons,a];rfl
theorem b5d{c m:Nat}(h1:97<=c)(h2:c<=122)(b:1<=m)(d:m<=8):isNm (Z2 ⟨#[c]⟩ m):=by
 have e:(Z2 ⟨#[c]⟩ m).length=m:=by
  show(Z2 ⟨#[c]⟩ m).cps.size=m;rw[<-Array.length_toList,W9,List.length_replicate]
 refine⟨by omega,by omega,λx a=>?_⟩;rw[W9]at a;rw[(List.mem_replicate.mp a).2];exact⟨h1,h2⟩
theorem b1K{c d m k:Nat}(h:Z2 ⟨#[c]⟩ m=Z2 ⟨#[d]⟩ k)(a:1<=m):c=d:=by
 have e:List.replicate m c=List.replicate k d:=by rw[<-W9,<-W9,h]
 have:c∈List.replicate k d:=by rw[<-e];exact List.mem_replicate.mpr ⟨by omega,rfl⟩
 exact(List.mem_replicate.mp this).2
theorem a9n{c m:Nat}{x:Str}{p q:Nat}(hp:p∈x.cps.toList)(a:q∈x.cps.toList)(h:p≠q):Z2 ⟨#[c]⟩ m≠x:=λz=>by
 rw[<-z,W9]at hp a;exact h ((List.mem_replicate.mp hp).2.trans (List.mem_replicate.mp a).2.symm)
def six:List Str:=[wd "sum",wd "cap",wd "price",wd "of",wd "least",wd "step"]
theorem b5b:∀x∈six,isNm x:=by
 have key:∀x:Str,1<=x.length/\x.length<=8->(x.cps.toList.all λc=>decide (97<=c/\c<=122))=true->isNm x:=λx h1 h2=>⟨h1.1,h1.2,λc b=>of_decide_eq_true (List.all_eq_true.mp h2 c b)⟩;intro x a;unfold six at a;simp only[List.mem_cons,List.not_mem_nil,or_false]at a;rcases a with rfl|rfl|rfl|rfl|rfl|rfl<;>exact key _ (by decide) (by with_unfolding_all rfl)
theorem b1H(c m:Nat):Z2 ⟨#[c]⟩ m∉six:=by
 have key:∀x:Str,(∃p q,x.cps.toList[0]?=some p/\x.cps.toList[1]?=some q/\p≠q)->Z2 ⟨#[c]⟩ m≠x:=λx ⟨p,q,h1,h2,a⟩=>a9n (List.mem_of_getElem? h1) (List.mem_of_getElem? h2) a;unfold six;simp only[List.mem_cons,List.not_mem_nil,or_false,not_or];refine⟨key _ ⟨115,117,?_,?_,by decide⟩,key _ ⟨99,97,?_,?_,by decide⟩,key _ ⟨112,114,?_,?_,by decide⟩,key _ ⟨111,102,?_,?_,by decide⟩,key _ ⟨108,101,?_,?_,by decide⟩,key _ ⟨115,116,?_,?_,by decide⟩⟩<;>with_unfolding_all rfl
theorem b5c:six.Nodup:=by decide
structure NmI(L R:List Str):Prop where
 nd:L.Nodup
 nm:∀x∈L,isNm x
 ap:∀x∈L,x∉R
 rd:R.Nodup
 rm:∀x∈R,isNm x
 zz:wd "zyxwvuts"∉L/\wd "zyxwvuts"∉R
theorem Y3{α:Type}{L:List α}{j:Nat}{x y:α}(h:y∈L.set j x):y∈L∨y=x:=by
 rcases List.mem_or_eq_of_mem_set h with z|z
 .exact .inl z
 .exact .inr z
theorem a7O{L:List Str}{j:Nat}{x:Str}(h:L.Nodup)(a:x∉L):(L.set j x).Nodup:=by
 induction L generalizing j with
 |nil=>exact h
 |cons y r b =>
  obtain⟨h1,h2⟩:=List.nodup_cons.mp h;cases j with
  |zero=>exact List.nodup_cons.mpr ⟨λz=>a (List.mem_cons_of_mem _ z),h2⟩
  |succ j =>
   refine List.nodup_cons.mpr ⟨λz=>?_,b h2 λz=>a (List.mem_cons_of_mem _ z)⟩;rcases Y3 z with z|z
   .exact h1 z
   .exact a (by rw[z];exact List.mem_cons_self)
theorem a5b{R:List Str}{k:Nat}{x:Str}(h:R.Nodup)(a:R[k]?=some x):x∉R.eraseIdx k:=by
 induction R generalizing k with
 |nil=>cases a
 |cons y r b =>
  obtain⟨h1,h2⟩:=List.nodup_cons.mp h;cases k with
  |zero=>cases a;exact h1
  |succ k =>
   rw[List.eraseIdx_cons_succ];intro z;rcases List.mem_cons.mp z with z|z
   .rw[z]at a;exact h1 (List.mem_of_getElem? a)
   .exact b h2 a z
theorem NmI.step{L R:List Str}{k j:Nat}{x:Str}(h:NmI L R)(c:R[k]?=some x):NmI (L.set j x) (R.eraseIdx k):=by
 have b:x∈R:=List.mem_of_getElem? c;refine⟨a7O h.nd λz=>h.ap x z b,λy a=>?_,λy a=>?_,h.rd.sublist (List.eraseIdx_sublist ..),λy a=>h.rm y ((List.eraseIdx_sublist ..).mem a),λz=>(Y3 z).elim h.zz.1 λe=>h.zz.2 (by rw[e];exact b),λz=>h.zz.2 ((List.eraseIdx_sublist ..).mem z)⟩
 .rcases Y3 a with z|z
  .exact h.nm y z
  .rw[z];exact h.rm x b
 .rcases Y3 a with z|z
  .exact λq=>h.ap y z ((List.eraseIdx_sublist ..).mem q)
  .rw[z];exact a5b h.rd c
theorem a6n{α β:Type}(f:α->β):∀(R:List α) (j:Nat),(R.map f).eraseIdx j=(R.eraseIdx j).map f
 |[],_=>rfl
 |_::_,0=>rfl
 |x::r,j+1=>by rw[List.map_cons,List.eraseIdx_cons_succ,List.eraseIdx_cons_succ,List.map_cons,a6n f r j]
def nmF(f s g:Int)(k:Nat):Str:=Z2 ⟨#[97+((f+s*k) % 26).toNat]⟩ (1+((k*3+g) % 8).toNat)
theorem b0h{f s g:Int}{m:Nat}(l:0<=f/\f<26)(hs:s∈([1,3,5,7,9,11]:List Int))(o:0<=g/\g<8)(r:m<=7):NmI ((List.range m).map (nmF f s g)) six:=by
 have b:∀k:Nat,97<=97+((f+s*k) % 26).toNat/\97+((f+s*k) % 26).toNat<=122:=λk=>by
  have:=Int.emod_lt_of_pos (f+s*k) (show(0:Int)<26 by decide);have:=Int.emod_nonneg (f+s*k) (show(26:Int)≠0 by decide);omega
 have h:∀k:Nat,1+((k*3+g) % 8).toNat<=8:=λk=>by
  have:=Int.emod_lt_of_pos (k*3+g) (show(0:Int)<8 by decide);omega
 refine⟨?_,λx a=>?_,λx a=>?_,b5c,b5b,λz=>?_,by decide⟩
 .rw[List.nodup_iff_pairwise_ne,List.pairwise_map];refine List.Pairwise.imp_of_mem (λ{i j} hi c (d:i<j) e=>?_) (List.pairwise_lt_range (n:=m));rw[List.mem_range]at hi c;have:=b1K e (by omega);have h1:=Int.emod_nonneg (f+s*i) (show(26:Int)≠0 by decide);have h2:=Int.emod_nonneg (f+s*j) (show(26:Int)≠0 by decide);simp only[List.mem_cons,List.not_mem_nil,or_false]at hs;rcases hs with rfl|rfl|rfl|rfl|rfl|rfl<;>omega
 .obtain⟨k,_,rfl⟩:=List.mem_map.mp a;exact b5d (b k).1 (b k).2 (by omega) (h k)
 .obtain⟨k,_,rfl⟩:=List.mem_map.mp a;exact b1H _ _
 .obtain⟨k,_,e⟩:=List.mem_map.mp z;exact a9n (x:=wd "zyxwvuts") (p:=122) (q:=121) (by decide +kernel) (by decide +kernel) (by decide) e
theorem b6f:∀i:Nat,i<26->lts.cps.toList[i]?=some (97+i):=by
 have e:lts.cps.toList=[97,98,99,100,101,102,103,104,105,106,107,108,109,110,111,112,113,114,115,116,117,118,119,120,121,122]:=by with_unfolding_all rfl
 rw[e];decide
theorem two_at(x y:Int)(c:Bool):∃m:Int,atI [V.int x,.int y] (if c=true then 1 else 0)=some (.int m)/\(m=x∨m=y):=by
 cases c
 .exact⟨x,rfl,.inl rfl⟩
 .exact⟨y,rfl,.inr rfl⟩
section
variable {P:Program}{w:World}{K:PySem.W.Frag}{mg:Str->Option Value}{base:Heap}
def b3R:Sp:=λvs H Q _=>∃(a b:Addr),vs=[.ref a]/\PotAt H a b/\∀t ns H',H' t=some (.tup (ns.map V.str))->Nms ns->1<=ns.length->ns.length<=7->wd "zyxwvuts"∉ns->PotAt H' a b->Off [a,b] H H'->Q (.ref t) H'
theorem sc__law_names:FnScope ["_law_pot_here","_law_letters","_law_many","_law_first_here","_law_step","_law_longer","_law_names_here","_law_words","_law_k"] ["_law_pot_here"] (A8 R3):=⟨rfl,rfl,rfl,by decide +kernel,rfl,by decide +kernel,by decide +kernel⟩
theorem b0d(F:FunAt K mg "_law_names" R3 ["_law_pot_here"])(T:Tx mg)(c:Ok P w K mg base "_law_next" 1 ["_law_pot_here","_law_many"] T5)(u:Ok P w K mg base "_law_of" 2 ["_law_pot_here","_law_some"] a5N):Ok P w K mg base "_law_names" 3 ["_law_pot_here"] b3R:=by
 refine F.okJ sc__law_names (λvs H Q E h=>?_) (λe2 f A outer s H vs Q E J h=>?_)
 .obtain⟨a,b,rfl,_⟩:=h;rfl
 .obtain⟨a,b,rfl,hP,k⟩:=h;have hz:(100000:Nat)<=sizeLine:=by rw[sizeLine_eq];decide
  refine⟨_,(A1 (B7 (i:=1) sc__law_names.nd rfl (Or.inr rfl) A2)
 (A1 (B7 (i:=2) sc__law_names.nd rfl (Or.inl rfl) (J3 A4 (C0 c (J.mono (by omega)) rfl (jaC (jv 0) (jaC (K4 K (C5 (jaC A4 (jaC A4 jaN))) (a4l rfl T.b_int (jaC (a3q (C0 c (J.mono (by omega)) rfl (jaC (jv 0) (jaC A4 jaN))) A4) jaN))) jaN)))))
 (A1 (a0d (J2 (jaC (C0 c (J.mono (by omega)) rfl (jaC (jv 0) (jaC A4 jaN))) (jaC (C0 u (J.mono (by omega)) rfl (jaC (jv 0) (jaC (C5 (jaC A4 (jaC A4 (jaC A4 (jaC A4 (jaC A4 (jaC A4 jaN))))))) jaN))) (jaC (C0 c (J.mono (by omega)) rfl (jaC (jv 0) (jaC A4 jaN))) jaN)))) (Y8 K 3 (D5 (C3 (i:=3) sc__law_names.nd rfl (Or.inr rfl)) (D5 (C3 (i:=4) sc__law_names.nd rfl (Or.inr rfl)) (D5 (C3 (i:=5) sc__law_names.nd rfl (Or.inr rfl)) R6)))))
 (A1 (a0n (i:=6) sc__law_names.nd rfl (Or.inl rfl) (N:=["_law_k","_law_letters","_law_first_here","_law_step","_law_longer"]) (src:=[none,some 1,some 3,some 4,some 5]) (R8 rfl T.b_range (jaC (jv 2) jaN)) (by show K6 _ _=true;rfl) (by rfl) (by rfl)
 (λ_ _ _ _ _=>(C3 (i:=0) (show(["_law_k","_law_letters","_law_first_here","_law_step","_law_longer"]:List Str).Nodup by decide +kernel) rfl (Or.inl rfl))) (λ_ _ _ _ _=>N7) (λ_ _ _ _ _=>(b0D (b4o (jv 1) (a1d (J3 (jv 2) (a2w (jv 3) (jv 0))) A4)) (J3 A4 (a1d (J3 (a2w (jv 0) A4) (jv 4)) A4)))))
 (A1 (B7 (i:=7) sc__law_names.nd rfl (Or.inl rfl) (C5 (jaC A2 (jaC A2 (jaC A2 (jaC A2 (jaC A2 (jaC A2 jaN))))))))
 (A1 (G2 (O8 (C0 c (J.mono (by omega)) rfl (jaC (jv 0) (jaC A4 jaN))) A4)
 (A9 (T8 (R8 rfl T.b_range (jaC (b6s rfl T.b_min (jaC (jv 2) (jaC (J3 A4 (C0 c (J.mono (by omega)) rfl (jaC (jv 0) (jaC A4 jaN)))) jaN))) jaN)) (C3 (i:=8) sc__law_names.nd rfl (Or.inl rfl))
 (A9 (a0d (a1b K (jv 7) (jaC (C0 c (J.mono (by omega)) rfl (jaC (jv 0) (jaC (D7 K rfl T.b_len (jaC (jv 7) jaN)) jaN))) jaN)) (b0C (jv 6) (C0 c (J.mono (by omega)) rfl (jaC (jv 0) (jaC (jv 2) jaN))))))))
 C9)
 (A9 (C2 (J8 K rfl T.b_tuple (jaC (jv 6) jaN)))))))))),?_⟩
  refine⟨_,rfl,by show 2<=sizeLine;omega,λp1 b0=>?_⟩;have q1:p1∉[a,b]:=C7 hP b0;have s1:=(Same.refl H).upd (o:=.lst [V.int 4,V.int 7]) b0;have e1:upd H p1 (.lst [V.int 4,V.int 7]) p1=some (.lst [V.int 4,V.int 7]):=A0;have P1:=hP.same s1;have o1:Off [a,b] H (upd H p1 (.lst [V.int 4,V.int 7])):=s1.off;generalize upd H p1 (.lst [V.int 4,V.int 7])=H1 at s1 e1 P1 o1;refine⟨_,rfl,a,b,4,rfl,P1,by decide,by decide +kernel,λr2 H2 _ _ P2 f2=>⟨rfl,?_⟩⟩;obtain⟨mi,a9,c9⟩:=two_at 4 7 (decide (V.int r2=V.int 0));refine .inr ⟨_,rfl,p1,_,_,_,rfl,rfl,SqL.of (f2 _ _ q1 e1),a9,a,b,mi,rfl,P2,by omega,Int.lt_of_le_of_lt (show mi<=7 by omega) (by decide +kernel),λr3 H3 c4 c5 P3 f3=>?_⟩;refine⟨_,_,rfl,rfl,?_⟩;dsimp only[B1];have o3:=(o1.trans f2).trans f3;obtain⟨m,hm⟩:∃m:Nat,1+r3=(m:Int):=⟨(1+r3).toNat,by omega⟩;have d0:1<=m/\m<=7:=by omega
  rw[hm];clear f2 f3 P1 P2 s1 e1 c4 c5 hm a9 c9;refine⟨_,rfl,a,b,26,rfl,P3,by decide,by decide +kernel,λg H4 b8 b9 P4 f4=>?_⟩;refine⟨_,rfl,by show 6<=sizeLine;omega,λp5 a0=>?_⟩;have q5:p5∉[a,b]:=C7 P4 a0;have s5:=(Same.refl H4).upd (o:=.lst [V.int 1,V.int 3,V.int 5,V.int 7,V.int 9,V.int 11]) a0;have e5:upd H4 p5 (.lst [V.int 1,V.int 3,V.int 5,V.int 7,V.int 9,V.int 11]) p5=some (.lst [V.int 1,V.int 3,V.int 5,V.int 7,V.int 9,V.int 11]):=A0;have P5:=P4.same s5;have o5:=(o3.trans f4).trans s5.off;generalize upd H4 p5 (.lst [V.int 1,V.int 3,V.int 5,V.int 7,V.int 9,V.int 11])=H5 at e5 P5 o5;refine⟨a,b,p5,_,rfl,P5,e5,q5,by decide,by decide,λsv H6 b3 P6 f6=>?_⟩;obtain⟨st,b2,rfl⟩:∃st:Int,st∈([1,3,5,7,9,11]:List Int)/\sv=V.int st:=by
   obtain⟨x,hx,e⟩:=List.mem_map.mp (show sv∈([1,3,5,7,9,11]:List Int).map V.int from b3);exact⟨x,hx,e.symm⟩
  refine⟨_,rfl,a,b,8,rfl,P6,by decide,by decide +kernel,λl H7 c0 c3 P7 f7=>?_⟩;have o7:=(o5.trans f6).trans f7;refine⟨by show 3<=sizeLine;omega,λp8 b1=>?_⟩;have s8:=(Same.refl H7).upd (o:=.tup [V.int g,V.int st,V.int l]) b1;have e8:upd H7 p8 (.tup [V.int g,V.int st,V.int l]) p8=some (.tup [V.int g,V.int st,V.int l]):=A0;have P8:=P7.same s8;have C:=o7.trans s8.off;generalize upd H7 p8 (.tup [V.int g,V.int st,V.int l])=H8 at e8 P8 C;clear s8 b1 o7 f7 P7 o5 f6 P6 s5 a0 e5 P5 o3 f4 P4 P3 b3;refine⟨p8,_,rfl,SqT.of e8,rfl,_,_,rfl,_,_,rfl,_,[],rfl,rfl,?_⟩;dsimp only[B1];refine⟨_,rfl,m,rfl,by omega,by omega,?_⟩;have d3:0<=st/\st<=11:=by
   simp only[List.mem_cons,List.not_mem_nil,or_false]at b2;omega
  rw[Int.toNat_natCast];refine a5R (caps:=[some (.str lts),some (.int g),some (.int st),some (.int l)]) (λk=>V.str (nmF g st l k)) (by omega) rfl (λi H9 Q9 hi s9 q=>?_) λH9 v s9 I=>?_
  .have m1:=Int.emod_lt_of_pos (g+st*i) (show(0:Int)<26 by decide);have m0:=Int.emod_nonneg (g+st*i) (show(26:Int)≠0 by decide);have n1:=Int.emod_lt_of_pos ((i:Int)*3+l) (show(0:Int)<8 by decide);have n0:=Int.emod_nonneg ((i:Int)*3+l) (show(8:Int)≠0 by decide);have c7:atI lts.cps.toList ((g+st*i) % 26)=some (97+((g+st*i) % 26).toNat):=by
    have:=F0 (b6f ((g+st*i) % 26).toNat (by omega));rw[show((((g+st*i) % 26).toNat:Nat):Int)=(g+st*i) % 26 by omega]at this;exact this
   refine⟨_,rfl,_,rfl,_,rfl,_,rfl,_,_,rfl,rfl,.inl ⟨by omega,by omega⟩,_,_,rfl,rfl,_,_,rfl,rfl,by show(0:Int)<26;decide,lts,_,_,rfl,rfl,by show 26<=sizeLine;omega,c7,?_⟩;refine⟨_,rfl,_,_,rfl,rfl,.inl ⟨by omega,by omega⟩,_,rfl,_,_,rfl,rfl,_,_,rfl,rfl,by show(0:Int)<8;decide,_,_,rfl,rfl,⟨#[97+((g+st*i) % 26).toNat]⟩,1+(((i:Int)*3+l) % 8).toNat,rfl,?_,by show 1<=10;decide,by omega,q⟩;show V.int (1+((i:Int)*3+l) % 8)=V.int ((1+(((i:Int)*3+l) % 8).toNat:Nat):Int);congr 1;omega
  have hI:=b0h ⟨b8,b9⟩ b2 ⟨c0,c3⟩ d0.2;have c6:((List.range m).map λk=>V.str (nmF g st l k))=((List.range m).map (nmF g st l)).map V.str:=by rw[List.map_map];rfl
  rw[c6];have Y:((List.range m).map (nmF g st l)).length=m:=by simp
  generalize (List.range m).map (nmF g st l)=L0 at hI Y;dsimp only[B1];have P9:=P8.same s9;have q9:v∉[a,b]:=C7 P9 I;have f9:H v=none:=K8 (C.trans s9.off) P9 I;have a2:=s9.upd (o:=.lst (L0.map V.str)) I;have G:upd H9 v (.lst (L0.map V.str)) v=some (.lst (L0.map V.str)):=A0;have y:=P8.same a2;have M:=C.trans a2.off;generalize upd H9 v (.lst (L0.map V.str))=W at G y M;refine⟨by show 6<=sizeLine;omega,λd r=>?_⟩;have D:d∉[a,b]:=C7 y r;have b7:H d=none:=K8 M y r;have S:=(Same.refl W).upd (o:=.lst (six.map V.str)) r;have U:v≠d:=B0 G r;have a7:upd W d (.lst (six.map V.str)) d=some (.lst (six.map V.str)):=A0;have z:=S _ _ G;have a3:=y.same S;have a1:=M.trans S.off;rw[show[V.str (Str.ofString "sum"),V.str (Str.ofString "cap"),V.str (Str.ofString "price"),V.str (Str.ofString "of"),V.str (Str.ofString "least"),V.str (Str.ofString "step")]=six.map V.str from rfl];dsimp only[B1];generalize upd W d (.lst (six.map V.str))=d8 at a7 z a3 a1;clear S a2 y M s9 P9 I P8 C e8 G r;refine a0S (λσ H'=>∃C L R,σ=[some (.ref a),some (.str lts),some (.int m),some (.int g),some (.int st),some (.int l),some (.ref v),some (.ref d),C]/\H' v=some (.lst (L.map V.str))/\NmI L R/\L.length=m/\PotAt H' a b/\Off [a,b] H H') ?fin λfin=>?_
  case fin =>
   rintro σ H' ⟨C,L,R,rfl,e,Z,hl,P',o'⟩;refine⟨_,rfl,v,_,rfl,.inl ⟨SqL.of e,λt ht=>?_⟩⟩;exact k t L _ A0 ⟨Z.nd,Z.nm⟩ (by omega) (by omega) Z.zz.1 (P'.same ((Same.refl H').upd ht)) (o'.trans ((Same.refl H').upd ht).off)
  refine⟨_,rfl,a,b,2,rfl,a3,by decide,by decide +kernel,λe7 d9 _ _ a4 B=>⟨rfl,_,rfl,G7 (λe=>?_) (λe=>?_)⟩⟩
  .refine⟨_,rfl,_,rfl,a,b,3,rfl,a4,by decide,by decide +kernel,λO e0 d6 d7 b4 X=>?_⟩;have d4:=(a1.trans B).trans X;have b5:=X _ _ q9 (B _ _ q9 z);have b6:=X _ _ D (B _ _ D a7);obtain⟨n,hn,e4⟩:∃n:Nat,(if 1+O<(m:Int)then 1+O else(m:Int))=(n:Int)/\n<=3:=⟨(if 1+O<(m:Int)then 1+O else(m:Int)).toNat,by split<;>omega,by split<;>omega⟩;refine⟨_,_,rfl,rfl,_,_,rfl,n,by rw[hn],by omega,by omega,?_⟩;rw[Int.toNat_natCast];refine X5 (lo:=0) (n:=n) (λi σ H'=>∃C L R,σ=[some (.ref a),some (.str lts),some (.int m),some (.int g),some (.int st),some (.int l),some (.ref v),some (.ref d),C]/\H' v=some (.lst (L.map V.str))/\H' d=some (.lst (R.map V.str))/\NmI L R/\L.length=m/\R.length+i=6/\PotAt H' a b/\Off [a,b] H H') ⟨_,L0,six,rfl,b5,b6,hI,Y,rfl,b4,d4⟩ ?_ ?_
   .rintro i σ H' hi ⟨C,L,R,rfl,c1,c2,Z,hl,hR,P',o'⟩;dsimp only[B1];have hm:((R.length:Nat):Int)<10 ^ 100:=Int.lt_of_le_of_lt (show(R.length:Int)<=1000 by omega) (by decide +kernel);refine⟨_,rfl,.inl ⟨rfl,_,SqL.of c2⟩,_,rfl,_,rfl,d,_,rfl,.inl (SqL.of c2),a,b,_,rfl,P',by rw[List.length_map];omega,by rw[List.length_map];exact hm,λr1 H1 e6 d5 P1 f1=>?_⟩;rw[List.length_map]at d5;obtain⟨j,rfl⟩:∃j:Nat,r1=j:=⟨r1.toNat,by omega⟩;have hj:j<R.length:=by omega
    have d2:=f1 _ _ D c2;have c8:seqIndex? (j:Int) (R.map V.str).length=some j:=by
     rw[List.length_map];exact seqIndex_of (by omega) (by omega)
    refine⟨d,_,_,j,V.str R[j],rfl,rfl,d2,by omega,by omega,c8,by rw[List.getElem?_map,List.getElem?_eq_getElem hj];rfl,?_⟩;have d1:=f1 _ _ q9 c1;have P2:=N3 (o:=.lst ((R.map V.str).eraseIdx j)) P1 D;have o2:=W3 (p:=d) (o:=.lst ((R.map V.str).eraseIdx j)) (o'.trans f1) b7;have a5:upd H1 d (.lst ((R.map V.str).eraseIdx j)) v=some (.lst (L.map V.str)):=by rw[A5 U];exact d1
    have a6:upd H1 d (.lst ((R.map V.str).eraseIdx j)) d=some (.lst ((R.eraseIdx j).map V.str)):=by rw[A0,a6n]
    generalize upd H1 d (.lst ((R.map V.str).eraseIdx j))=H2 at P2 o2 a5 a6;refine⟨_,rfl,_,rfl,_,rfl,a,b,m,rfl,P2,by omega,Int.lt_of_le_of_lt (show(m:Int)<=7 by omega) (by decide +kernel),λr3 H3 e9 f0 P3 f3=>?_⟩;obtain⟨i2,rfl⟩:∃j:Nat,r3=j:=⟨r3.toNat,by omega⟩;have e3:i2<L.length:=by omega
    have a8:ixN (L.map V.str).length (i2:Int)=some i2:=by
     unfold ixN;rw[List.length_map,if_pos (by omega),if_pos (by omega)];simp
    refine⟨v,_,_,i2,rfl,rfl,f3 _ _ q9 a5,a8,?_⟩;refine⟨_,L.set i2 R[j],R.eraseIdx j,rfl,by rw[A0,List.map_set],by rw[A5 U.symm];exact f3 _ _ D a6,Z.step (List.getElem?_eq_getElem hj),by rw[List.length_set];exact hl,by rw[List.length_eraseIdx,if_pos hj];omega,N3 P3 q9,W3 (o2.trans f3) f9⟩
   .rintro σ H' ⟨C,L,R,rfl,c1,c2,Z,hl,hR,P',o'⟩;exact fin _ _ ⟨_,L,R,rfl,c1,Z,hl,P',o'⟩
  .exact fin _ _ ⟨_,L0,six,rfl,B _ _ q9 z,hI,Y,a4,a1.trans B⟩
end
end K44
namespace K44
open PySem PySem.Spec PyProof.Rows L2
section
variable {P:Program}{w:World}{K:PySem.W.Frag}{mg:Str->Option Value}{base:Heap}
def a9g:Sp:=λvs H Q _=>∃(a b t f:Addr) (ns:List Str) (xs:List Int) (g:Int),vs=[.ref a,.ref t,.ref f,.int g]/\PotAt H a b/\H t=some (.tup (ns.map V.str))/\H f=some (.lst (xs.map V.int))/\f∉[a,b]/\Nms ns/\1<=ns.length/\ns.length<=7/\xs.length=ns.length+1/\(g=1∨g = -1) /\
 ∀ts ps H',Tms ns ts ps->ts.length<=8->(∀p∈ps,p.2<=100000000000)->H' f=some (.lst (((ps.map λp=>(p.1,g*p.2)).foldl C8 xs).map V.int))->PotAt H' a b->Off [a,b,f] H H'->Q (.str (Str.join bk (C6 ts))) H'
theorem sc__law_half:FnScope ["_law_pot_here","_law_names_here","_law_found","_law_sign","_law_terms","_law_k","_law_place","_law_number"] ["_law_pot_here","_law_names_here","_law_found","_law_sign"] (A8 V4):=⟨rfl,rfl,rfl,by decide +kernel,rfl,by decide +kernel,by decide +kernel⟩
theorem Tms.snoc{ns:List Str}{ts:List (List Str)}{ps:List (Nat×Int)}{t:List Str}{p:Nat×Int}(h:Tms ns ts ps)(g:Tm ns t p):Tms ns (ts++[t]) (ps++[p]):=h.app (.cons g .nil)
theorem Tms.len{ns:List Str}{ts:List (List Str)}{ps:List (Nat×Int)}(h:Tms ns ts ps):ts.length=ps.length:=by
 induction h with
 |nil=>rfl
 |cons _ _ a=>simp[a]
def HfI(a b t fo pt:Addr)(ns:List Str)(xs:List Int)(g:Int)(H:Hp)(i:Nat)(σ:L2.St)(H':Hp):Prop:=∃o5 o6 o7 ts ps,σ=[some (.ref a),some (.ref t),some (.ref fo),some (.int g),some (.ref pt),o5,o6,o7]/\H' pt=some (.lst ((ts.map (Str.join bk)).map V.str))/\Tms ns ts ps/\ts.length=i/\(∀p∈ps,p.2<=100000000000)/\H' fo=some (.lst (((ps.map λp=>(p.1,g*p.2)).foldl C8 xs).map V.int))/\H' t=some (.tup (ns.map V.str))/\PotAt H' a b/\Off [a,b,fo] H H'
theorem HfI.mk'{a b t c pt:Addr}{ns:List Str}{xs X:List Int}{g:Int}{H H':Hp}{i pl:Nat}{y:Int}{k l m:Option V}{ts:List (List Str)}{ps:List (Nat×Int)}{u:List Str}{x:Str}(q:Tms ns ts ps)(s:ts.length=i)(e:∀p∈ps,p.2<=100000000000)(r:(ps.map λp=>(p.1,g*p.2)).foldl C8 xs=X)(w:Tm ns u (pl,y))(B:y<=100000000000)(d:H pt=none)(j:pt∉[a,b])(f:pt≠c)
  (o:H' c=some (.lst ((C8 X (pl,g*y)).map V.int))) (ct:H' t=some (.tup (ns.map V.str))) (h:pt≠t) (n:PotAt H' a b) (o':Off [a,b,c] H H') (A:x=Str.join bk u) :
  HfI a b t c pt ns xs g H (i+1) [some (.ref a),some (.ref t),some (.ref c),some (.int g),some (.ref pt),k,l,m] (upd H' pt (.lst ((ts.map (Str.join bk)).map V.str++[V.str x]))):=by
 refine⟨k,l,m,ts++[u],ps++[(pl,y)],rfl,by rw[A0,A];simp,q.snoc w,by simp[s],λp v=>?_,?_,by rw[A5 h.symm];exact ct,N3 n j,W3 o' d⟩
 .rcases List.mem_append.mp v with z|z
  .exact e p z
  .rw[List.mem_singleton.mp z];exact B
 .rw[A5 f.symm,o,List.map_append,List.foldl_append,r];rfl
theorem b2I(F:FunAt K mg "_law_half" V4 ["_law_pot_here","_law_names_here","_law_found","_law_sign"])(T:Tx mg)(d:Ok P w K mg base "_law_next" 1 ["_law_pot_here","_law_many"] T5)(I:Ok P w K mg base "_law_of" 2 ["_law_pot_here","_law_some"] a5N):Ok P w K mg base "_law_half" 3 ["_law_pot_here","_law_names_here","_law_found","_law_sign"] a9g:=by
 refine F.okJ sc__law_half (λvs H Q E h=>?_) (λf0 f A outer s H vs Q E hr h=>?_)
 .obtain⟨a,b,t,f,ns,xs,g,rfl,_⟩:=h;rfl
 .obtain⟨a,b,t,fo,ns,xs,g,rfl,hP,ht,hf,qf,hnm,h1,h7,hxl,hg,k⟩:=h;have hz:(100000:Nat)<=sizeLine:=by rw[sizeLine_eq];decide
  have hu:=hr.u60;refine⟨_,(A1 (B7 (i:=4) sc__law_half.nd rfl (Or.inl rfl) (C5 jaN))
 (A1 (T8 (R8 rfl T.b_range (jaC (C0 d (hr.mono (by omega)) rfl (jaC (jv 0) (jaC (K4 K (C5 (jaC A4 (jaC A4 jaN))) (a4l rfl T.b_int (jaC (a3q (C0 d (hr.mono (by omega)) rfl (jaC (jv 0) (jaC A4 jaN))) A4) jaN))) jaN))) jaN)) (C3 (i:=5) sc__law_half.nd rfl (Or.inl rfl))
 (A1 (B7 (i:=6) sc__law_half.nd rfl (Or.inl rfl) (C0 d (hr.mono (by omega)) rfl (jaC (jv 0) (jaC (J3 (D7 K rfl T.b_len (jaC (jv 1) jaN)) A4) jaN))))
 (A1 (B7 (i:=7) sc__law_half.nd rfl (Or.inl rfl) (C0 I (hr.mono (by omega)) rfl (jaC (jv 0) (jaC (C5 (jaC A4 (jaC (J3 A4 (C0 d (hr.mono (by omega)) rfl (jaC (jv 0) (jaC A4 jaN)))) (jaC (J3 A4 (C0 d (hr.mono (by omega)) rfl (jaC (jv 0) (jaC (a1c A4 A4) jaN)))) jaN)))) jaN))))
 (A1 (a0d (J3 (K4 K (jv 2) (jv 6)) (a2w (jv 3) (jv 7))) (b0C (jv 2) (jv 6)))
 (A9 (G2 (O8 (jv 6) (D7 K rfl T.b_len (jaC (jv 1) jaN)))
 (A9 (G8 (G5 K (jv 4) (jaC (a1N rfl T.b_str (jaC (jv 7) jaN)) jaN))))
 (A9 (G2 (a1E (a6a (O8 (jv 7) A4) (a4g (O8 (C0 d (hr.mono (by omega)) rfl (jaC (jv 0) (jaC A4 jaN))) A4))))
 (A9 (G8 (G5 K (jv 4) (jaC (V8 K (jv 1) (jv 6)) jaN))))
 (A9 (G8 (G5 K (jv 4) (jaC (C4 (C4 (a1N rfl T.b_str (jaC (jv 7) jaN)) A2) (V8 K (jv 1) (jv 6))) jaN))))))))))))
 (A9 (C2 (C4 (a4i K A2 (jaC (jv 4) jaN)) (b0D A2 (a4l rfl T.b_int (jaC (b6l K hu (jv 4) (C5 jaN)) jaN)))))))),?_⟩
  have sub:∀{H1 H2:Hp},Off [a,b] H1 H2->Off [a,b,fo] H1 H2:=λo=>o.mono λx hx=>by simp only[List.mem_cons,List.not_mem_nil,or_false]at hx⊢;rcases hx with h|h<;>simp[h]
  refine⟨Nat.zero_le _,λpt R=>?_⟩;have a3:H pt=none:=R;have G:pt∉[a,b]:=C7 hP R;have Y:pt≠fo:=(B0 hf R).symm;have s1:=(Same.refl H).upd (o:=.lst []) R;have e1:upd H pt (.lst []) pt=some (.lst []):=A0;have P1:=hP.same s1;have a9:=s1 _ _ ht;have a5:=s1 _ _ hf;have o1:Off [a,b,fo] H (upd H pt (.lst [])):=s1.off;generalize upd H pt (.lst [])=H1 at e1 P1 a9 a5 o1;clear s1 R;dsimp only[B1];refine⟨_,rfl,by show 2<=sizeLine;omega,λp3 a7=>?_⟩;have q3:p3∉[a,b]:=C7 P1 a7;have s3:=(Same.refl H1).upd (o:=.lst [V.int 4,V.int 9]) a7;have e3:upd H1 p3 (.lst [V.int 4,V.int 9]) p3=some (.lst [V.int 4,V.int 9]):=A0;have P3:=P1.same s3;have o3:=o1.trans s3.off;have a2:=s3 _ _ e1;have W:=s3 _ _ a9;have a6:=s3 _ _ a5;generalize upd H1 p3 (.lst [V.int 4,V.int 9])=H3 at e3 P3 o3 a2 W a6;clear s3 a7 o1 P1 a9 a5 e1;refine⟨_,rfl,a,b,8,rfl,P3,by decide,by decide +kernel,λr4 H4 _ _ P4 f4=>⟨rfl,?_⟩⟩;obtain⟨mi,b9,e4⟩:=two_at 4 9 (decide (V.int r4=V.int 0));refine .inr ⟨_,rfl,p3,_,_,_,rfl,rfl,SqL.of (f4 _ _ q3 e3),b9,a,b,mi,rfl,P4,by omega,Int.lt_of_le_of_lt (show mi<=9 by omega) (by decide +kernel),λr5 H5 c8 c9 P5 f5=>?_⟩;obtain⟨m,rfl⟩:∃g:Nat,r5=g:=⟨r5.toNat,by omega⟩;have f6:m<=8:=by omega
  have M:=f4.trans f5;have o5:=o3.trans (sub M);have c7:=M _ _ G a2;have e7:=M _ _ (G1 P3 W) W;have e0:=M _ _ qf a6;clear o3 f4 f5 M P3 P4 a2 W a6 e3 c8 c9 b9 e4;refine⟨m,rfl,by omega,by omega,?_⟩;rw[Int.toNat_natCast];refine X5 (lo:=0) (n:=m) (HfI a b t fo pt ns xs g H) ⟨_,_,_,[],[],rfl,c7,.nil,rfl,λp hp=>(nomatch hp),e0,e7,P5,o5⟩ ?_ ?_
  .rintro i σ H6 hi ⟨o5',o6',o7',ts,ps,rfl,c1,hT,hl,hpb,cf,ct,P6,o6⟩;dsimp only[B1];refine⟨_,rfl,_,rfl,t,_,rfl,.inr (SqT.of ct),_,_,rfl,rfl,a,b,_,rfl,P6,by omega,Int.lt_of_le_of_lt (show((ns.map V.str).length:Int)+1<=8 by rw[List.length_map];omega) (by decide +kernel),λr7 H7 f1 d0 P7 f7=>?_⟩;rw[List.length_map]at d0;obtain⟨pl,rfl⟩:∃g:Nat,r7=g:=⟨r7.toNat,by omega⟩;have hpl:pl<=ns.length:=by omega
   dsimp only[B1];refine⟨_,rfl,_,rfl,a,b,9,rfl,P7,by decide,by decide +kernel,λr8 H8 d2 d3 P8 f8=>⟨_,_,rfl,rfl,?_⟩⟩;refine⟨_,rfl,_,_,rfl,rfl,⟨by decide,by decide,by decide⟩,a,b,_,rfl,P8,by decide,by decide +kernel,λr9 H9 d4 a4 P9 f9=>⟨_,_,rfl,rfl,by show 3<=sizeLine;omega,λe8 N=>?_⟩⟩;have a4:r9<100000000000:=a4;have b1:=(Same.refl H9).upd (o:=.lst [V.int 1,V.int (1+r8),V.int (1+r9)]) N;have b6:=(f7.trans f8).trans f9;refine⟨a,b,e8,_,rfl,P9.same b1,A0,C7 P9 N,by show 0<3;decide,by show 3<=1000;decide,λrv U a8 b2 b5=>?_⟩;have C:=(b6.trans b1.off).trans b5;obtain⟨y,rfl,y1,y2⟩:∃y:Int,rv=V.int y/\1<=y/\y<=100000000000:=by
    simp only[List.mem_cons,List.not_mem_nil,or_false]at a8;rcases a8 with e|e|e
    .exact⟨_,e,by decide,by decide⟩
    .exact⟨_,e,by omega,by omega⟩
    .exact⟨_,e,by omega,by omega⟩
   have d1:=C _ _ G c1;have df:=C _ _ qf cf;have dt:=C _ _ (G1 P6 ct) ct;have c6:=o6.trans (sub C);clear f7 f8 f9 b6 b1 b5 C P7 P8 P9 N d2 d3 d4 a4 c1 cf ct P6 o6 a8;dsimp only[B1];have c4:((ps.map λp=>(p.1,g*p.2)).foldl C8 xs).length=ns.length+1:=by rw[K0];exact hxl
   have e5:((ps++[(pl,y)]).map λp=>(p.1,g*p.2)).foldl C8 xs=C8 ((ps.map λp=>(p.1,g*p.2)).foldl C8 xs) (pl,g*y):=by
    rw[List.map_append,List.foldl_append];rfl
   generalize hX:(ps.map λp=>(p.1,g*p.2)).foldl C8 xs=X at df c4 e5;have a0:pl<X.length:=by omega
   have d5:atI (X.map V.int) (pl:Int)=some (V.int X[pl]):=F0 (by rw[List.getElem?_map,List.getElem?_eq_getElem a0];rfl);have b7:ixN (X.map V.int).length (pl:Int)=some pl:=by
    unfold ixN;rw[List.length_map,if_pos (by omega),if_pos (by omega)];simp
   refine⟨_,rfl,_,rfl,fo,_,_,_,rfl,rfl,SqL.of df,d5,_,rfl,_,rfl,_,_,rfl,rfl,.inl ⟨by rcases hg with rfl|rfl<;>decide,by rcases hg with rfl|rfl<;>decide⟩,_,_,rfl,rfl,_,rfl,_,rfl,fo,_,_,pl,rfl,rfl,df,b7,?_⟩;have c3:(X.map V.int).set pl (V.int (X[pl]+g*y))=(C8 X (pl,g*y)).map V.int:=by
    unfold C8;rw[List.map_set,List.getD_eq_getElem?_getD,List.getElem?_eq_getElem a0];rfl
   rw[c3];have ef:upd U fo (.lst ((C8 X (pl,g*y)).map V.int)) fo=some (.lst ((C8 X (pl,g*y)).map V.int)):=A0;have L:=N3 (o:=.lst ((C8 X (pl,g*y)).map V.int)) b2 qf;have S:=c6.set (p:=fo) (o:=.lst ((C8 X (pl,g*y)).map V.int)) (by simp);have v:upd U fo (.lst ((C8 X (pl,g*y)).map V.int)) pt=some (.lst ((ts.map (Str.join bk)).map V.str)):=by rw[A5 Y];exact d1
   have j:upd U fo (.lst ((C8 X (pl,g*y)).map V.int)) t=some (.tup (ns.map V.str)):=by rw[A5 (T7 dt df (by intro z;cases z))];exact dt
   generalize upd U fo (.lst ((C8 X (pl,g*y)).map V.int))=e9 at ef L S v j;clear df d1 dt b2 c6;have c5:y=((y.toNat:Nat):Int):=by omega
   have b8:y.toNat<10 ^ 570:=Nat.lt_of_le_of_lt (show y.toNat<=100000000000 by omega) (by decide +kernel);have J:y<=topN:=by unfold topN;omega
   have b0:pt≠t:=T7 v j (by intro z;cases z);have g6:ts.length<=7:=by omega
   refine⟨_,rfl,_,rfl,t,_,rfl,.inr (SqT.of j),rfl,_,rfl,G7 (λe=>?_) (λe=>?_)⟩
   .have e:pl=ns.length:=by
     have e:=V.int.inj (of_decide_eq_true e);rw[List.length_map]at e;exact Int.ofNat.inj e
    refine⟨_,rfl,.inl ⟨rfl,_,SqL.of v⟩,_,rfl,y.toNat,by rw[<-c5],b8,pt,_,_,rfl,rfl,v,by rw[List.length_map,List.length_map];omega,?_⟩;exact HfI.mk' (u:=[D8 y]) hT hl hpb hX ⟨by omega,J,.inr ⟨e,rfl⟩⟩ y2 a3 G Y ef j b0 L S rfl
   have O:pl<ns.length:=by
    have:¬pl=ns.length:=λz=>e (decide_eq_true (by rw[List.length_map,z]));omega
   have Z:atI (ns.map V.str) (pl:Int)=some (V.str ns[pl]):=F0 (by rw[List.getElem?_map,List.getElem?_eq_getElem O];rfl);have c2:=List.getElem?_eq_getElem O;have g0:=((hnm.nm _ (List.getElem_mem O)).wg).1;have f2:=(a0j J).1;have a1:∀{r:Hp}{D:Ends},r pt=some (.lst ((ts.map (Str.join bk)).map V.str))->r fo=some (.lst ((C8 X (pl,g*y)).map V.int))->r t=some (.tup (ns.map V.str))->PotAt r a b->Off [a,b,fo] H r->D.nx=HfI a b t fo pt ns xs g H (i+1)->a6E (tBM K "list" a1K (U9 4) (a2a (tOp N2 (tOp N2 (tCB a9r (a2a (U9 7) a0P)) (tC (V.str (Str.ofString " ")))) (tOp (a9y K) (U9 1) (U9 6))) a0P)) D [some (V.ref a),some (V.ref t),some (V.ref fo),some (V.int g),some (V.ref pt),some (V.int (0+(i:Int))),some (V.int pl),some (V.int y)] r:=by
    intro r D g1 g2 g3 g4 g5 hD;refine⟨_,rfl,.inl ⟨rfl,_,SqL.of g1⟩,_,rfl,y.toNat,by rw[<-c5],b8,_,_,rfl,rfl,by show(D8 y).length+1<=_;omega,_,rfl,_,rfl,t,_,_,_,rfl,rfl,SqT.of g3,Z,_,_,rfl,rfl,by rw[A7];show(D8 y).length+1+_<=_;omega,pt,_,_,rfl,rfl,g1,by rw[List.length_map,List.length_map];omega,?_⟩;dsimp only;rw[hD];exact HfI.mk' (u:=[D8 y,ns[pl]]) hT hl hpb hX ⟨by omega,J,.inl ⟨_,c2,.inl rfl⟩⟩ y2 a3 G Y g2 g3 b0 g4 g5 rfl
   refine⟨_,rfl,rfl,_,rfl,G7 (λe=>?_) (λe=>?_)⟩
   .have e:y=1:=V.int.inj (of_decide_eq_true e);refine⟨_,rfl,a,b,2,rfl,L,by decide,by decide +kernel,λg7 r _ _ b3 l=>⟨rfl,_,rfl,G7 (λe2=>?_) (λe2=>?_)⟩⟩
    .have g3:=l _ _ (G1 L j) j;refine⟨_,rfl,.inl ⟨rfl,_,SqL.of (l _ _ G v)⟩,_,rfl,_,rfl,t,_,_,_,rfl,rfl,SqT.of g3,Z,pt,_,_,rfl,rfl,l _ _ G v,by rw[List.length_map,List.length_map];omega,?_⟩;exact HfI.mk' (u:=[ns[pl]]) hT hl hpb hX ⟨by omega,J,.inl ⟨_,c2,.inr ⟨e,rfl⟩⟩⟩ y2 a3 G Y (l _ _ qf ef) g3 b0 b3 (S.trans (sub l)) rfl
    .exact a1 (l _ _ G v) (l _ _ qf ef) (l _ _ (G1 L j) j) b3 (S.trans (sub l)) rfl
   .exact a1 v ef j L S rfl
  .rintro σ H6 ⟨o5',o6',o7',ts,ps,rfl,c1,hT,hl,hpb,cf,ct,P6,o6⟩;have tw:∀t∈ts,(∀x∈t,Wg x)/\t.length<=2:=λt ht=>by obtain⟨p,_,q⟩:=hT.all t ht;exact q.wg hnm
   have c0:∀t∈ts,t≠[]:=λt ht=>by obtain⟨p,_,q⟩:=hT.all t ht;exact q.ne
   have d6:∀y∈ts.map (Str.join bk),y.length<=42:=λy hy=>by obtain⟨t,ht,rfl⟩:=List.mem_map.mp hy;have:=O6 (c:=32) (B:=20) (ys:=t) λy hy=>((tw t ht).1 y hy).1;exact Nat.le_trans this (Nat.mul_le_mul (tw t ht).2 (Nat.le_refl 21))
   have f3:(Str.join wplus (ts.map (Str.join bk))).length<=1000:=by
    rw[a1q c0];obtain⟨w1,w2⟩:=a3W tw;have:=O6 (c:=32) (B:=20) (ys:=L9 ts) λy hy=>(w1 y hy).1;exact Nat.le_trans this (Nat.le_trans (Nat.mul_le_mul (show _<=24 by omega) (Nat.le_refl 21)) (by decide))
   refine⟨rfl,_,rfl,wplus,pt,_,42,rfl,rfl,SqL.of c1,d6,by rw[List.length_map,show wplus.length=3 from rfl];omega,by omega,_,rfl,Nat.zero_le _,λq2 e6=>?_⟩;have t2:=(Same.refl H6).upd (o:=.lst []) e6;have hE:EqV K (upd H6 q2 (.lst [])) 1 (.ref pt) (.ref q2) (decide (ts.map (Str.join bk)=[])):=EqV.strs (k:=false) (SqL.of (t2 _ _ c1)) (SqL.of (show upd H6 q2 (.lst []) q2=some (.lst (([]:List Str).map V.str))from A0));have P7:=P6.same t2;have o7:=o6.trans t2.off;have b4:=t2 _ _ cf;generalize upd H6 q2 (.lst [])=H7 at hE P7 o7 b4;refine⟨1,_,by decide,hE,⟨_,_,rfl,rfl⟩,.inr ⟨_,rfl,?_⟩⟩;have hq:(if false=true then !decide (ts.map (Str.join bk)=[])else decide (ts.map (Str.join bk)=[]))=decide (ts=[]):=by
    rw[if_neg (by decide)];congr 1;rw[List.map_eq_nil_iff]
   rw[hq];obtain⟨c,d7,d8,d9⟩:∃c:Nat,(if (decide (ts=[]))=true then(1:Int)else 0)=c/\c<=1/\Str.join wplus (ts.map (Str.join bk))++Z2 (wd "0") c=Str.join bk (C6 ts):=by
    by_cases h1:ts=[]
    .refine⟨1,by rw[if_pos (decide_eq_true h1)];rfl,Nat.le_refl _,?_⟩;rw[h1,C6,if_pos rfl]
     with_unfolding_all rfl
    .refine⟨0,by rw[if_neg (by simpa using h1)];rfl,by decide,?_⟩;rw[C6,if_neg h1,a1q c0];refine Str.ext' ?_;rw[Str.cps_append];show _++#[]=_;simp
   rw[d7];refine⟨wd "0",c,rfl,rfl,by show 1<=10;decide,by omega,_,_,rfl,rfl,?_,?_⟩
   .have:(Z2 (wd "0") c).length<=1:=by
     show(Z2 ⟨#[48]⟩ c).cps.size<=1;rw[<-Array.length_toList,W9,List.length_replicate];exact d8
    omega
   rw[d9];exact k ts ps _ hT (by omega) hpb b4 P7 o7
end
theorem a4J{ns:List Str}(hn:Nms ns){ts us:List (List Str)}{ps d:List (Nat×Int)}(h:Tms ns ts ps)(g:Tms ns us d)(C:ts.length<=60)(A:us.length<=60){c:List Int}{s:Int}(o:c.length=ns.length)(l:Bds c)(s1 : -topN<=s)(D:s<=topN)
  (n:∀j,j<ns.length->L8 ps j-L8 d j=c.getD j 0) (m:L8 ps ns.length-L8 d ns.length = -s):SumL ns (wd "sum" :: (C6 ts++wd "=" :: C6 us)) (c,s):=by
 have u:∀t∈ts,(∀x∈t,Wg x)/\t.length<=2:=λt f=>by obtain⟨p,_,q⟩:=h.all t f;exact q.wg hn
 have v:∀t∈us,(∀x∈t,Wg x)/\t.length<=2:=λt f=>by obtain⟨p,_,q⟩:=g.all t f;exact q.wg hn
 obtain⟨y,F,_⟩:=a0q u;obtain⟨w,E,_⟩:=a0q v;refine⟨⟨_,rfl,?_⟩,a6x (by simp) (by rw[List.length_cons,List.length_append,List.length_cons];omega) λx i=>?_⟩
 .rw[a5L hn h g];have r:List.zipWith (λa b:Int=>a-b) (ps.foldl C8 (List.replicate (ns.length+1) 0)) (d.foldl C8 (List.replicate (ns.length+1) 0))=c++[-s]:=by
   refine List.ext_getElem (by rw[List.length_zipWith,K0,K0];simp[o]) λj e B=>?_;rw[List.length_zipWith,K0,K0,List.length_replicate,Nat.min_self]at e;have k:∀ps:List (Nat×Int),∀h:j<(ps.foldl C8 (List.replicate (ns.length+1) 0)).length,(ps.foldl C8 (List.replicate (ns.length+1) (0:Int)))[j]=L8 ps j:=λps h=>by
    have:=a1S ps (List.replicate (ns.length+1) 0) j (by rw[List.length_replicate];exact e);rw[List.getD_eq_getElem?_getD,List.getElem?_eq_getElem h]at this;rw[show((List.replicate (ns.length+1) (0:Int)).getD j 0)=0 by rw[List.getD_eq_getElem?_getD];simp[e]]at this;simpa using this
   rw[List.getElem_zipWith,k,k];by_cases q:j<c.length
   .rw[List.getElem_append_left q,n j (by omega),List.getD_eq_getElem?_getD,List.getElem?_eq_getElem q];rfl
   .have hjn:j=ns.length:=by omega
    rw[List.getElem_append_right (by omega)];simp only[List.getElem_singleton];rw[hjn];exact m
  unfold b0Z;rw[r,if_pos];intro x i;rcases List.mem_append.mp i with z|z
  .exact l x z
  .rw[List.mem_singleton.mp z];unfold topN at *;omega
 .rcases List.mem_cons.mp i with rfl|z
  .exact wg_lit.2.1
  .rcases List.mem_append.mp z with z|z
   .exact y x z
   .rcases List.mem_cons.mp z with rfl|z
    .exact wg_lit.2.2.2.2.2.1
    .exact w x z
def a2U(n pl:Nat)(x:Int):List Int:=List.replicate pl 0++[x]++List.replicate (n-1-pl) 0
theorem a4U{n pl:Nat}{x:Int}(h:pl<n):(a2U n pl x).length=n:=by unfold a2U;simp;omega
theorem b2E{n pl j:Nat}{x:Int}(h:pl<n)(a:j<n):(a2U n pl x).getD j 0=if pl=j then x else 0:=by
 unfold a2U;rw[List.getD_eq_getElem?_getD];by_cases e:j<pl
 .rw[if_neg (by omega),List.append_assoc,List.getElem?_append_left (by simpa using e)];simp[e]
 .by_cases e2:pl=j
  .subst e2;rw[if_pos rfl,List.append_assoc,List.getElem?_append_right (by simp)];simp
  .rw[if_neg e2,List.getElem?_append_right (by simp;omega)];rw[List.getElem?_replicate];split<;>rfl
theorem b2D{n pl:Nat}{x:Int}(h1 : -topN<=x)(h2:x<=topN):Bds (a2U n pl x):=λy a=>by
 unfold a2U at a;simp only[List.mem_append,List.mem_replicate,List.mem_singleton]at a;rcases a with(⟨_,rfl⟩|rfl)|⟨_,rfl⟩
 .exact⟨by decide,by decide⟩
 .exact⟨h1,h2⟩
 .exact⟨by decide,by decide⟩
theorem K9(p:Nat×Int)(ps:List (Nat×Int))(j:Nat):L8 (p::ps) j=(if p.1=j then p.2 else 0)+L8 ps j:=by
 unfold L8;rw[List.filter_cons];by_cases e:p.1=j
 .rw[if_pos (decide_eq_true e),if_pos e,List.map_cons,List.sum_cons]
 .rw[if_neg (by simpa using e),if_neg e];omega
theorem T0(j:Nat):L8 [] j=0:=rfl
abbrev wG:Str:=Str.ofString "1000000000000"
theorem b0T:D8 1000000000000=wG:=by with_unfolding_all rfl
theorem a2t:Str.ofString " + "=bk++(wd "+" ++ bk):=by with_unfolding_all rfl
theorem a4e:Str.ofString " = "=bk++(wd "=" ++ bk):=by with_unfolding_all rfl
theorem b2S:Str.ofString "0 = "=wd "0" ++ (bk++(wd "=" ++ bk)):=by with_unfolding_all rfl
theorem b2U:Str.ofString " = 0"=bk++(wd "=" ++ (bk++wd "0")):=by with_unfolding_all rfl
theorem b2T:Str.ofString "sum "=wd "sum" ++ bk:=by with_unfolding_all rfl
structure Edg(ns:List Str)(pl:Nat)(x:Str)(y s:Int):Prop where
 ex:∃ws,Str.ofString "sum " ++ x=Str.join bk ws/\SumL ns ws (a2U ns.length pl y,s)
 le:x.length<=500
 sb : -topN<=s/\s<=topN
theorem a0J{ns:List Str}(hn:Nms ns){pl:Nat}(hpl:pl<ns.length){ts us:List (List Str)}{ps i:List (Nat×Int)}(h:Tms ns ts ps)(g:Tms ns us i)(A:ts.length<=3)(w:us.length<=3){x:Str}{y s:Int}(u : -topN<=y)(v:y<=topN)(s1 : -topN<=s)(k:s<=topN)
  (e:∀j,L8 ps j-L8 i j=(if pl=j then y else 0)+if ns.length=j then -s else 0) (f:x=Str.join bk (C6 ts++wd "=" :: C6 us)):Edg ns pl x y s:=by
 have b:C6 ts++wd "=" :: C6 us≠[]:=by simp
 refine⟨⟨wd "sum" :: (C6 ts++wd "=" :: C6 us),?_,a4J hn h g (by omega) (by omega) (a4U hpl) (b2D u v) s1 k (λj a=>?_) ?_⟩,?_,s1,k⟩
 .rw[show wd "sum" :: (C6 ts++wd "=" :: C6 us)=[wd "sum"]++(C6 ts++wd "=" :: C6 us)from rfl,T9 (by simp) b,b2T,f];rfl
 .rw[e j,b2E hpl a,if_neg (show ¬ns.length=j by omega)];omega
 .rw[e,if_pos rfl,if_neg (by omega)];omega
 .rw[f];have m:∀t∈ts,(∀x∈t,Wg x)/\t.length<=2:=λt d=>by obtain⟨p,_,q⟩:=h.all t d;exact q.wg hn
  have n:∀t∈us,(∀x∈t,Wg x)/\t.length<=2:=λt d=>by obtain⟨p,_,q⟩:=g.all t d;exact q.wg hn
  obtain⟨r,D,_⟩:=a0q m;obtain⟨o,C,_⟩:=a0q n;have:=O6 (c:=32) (B:=20) (ys:=C6 ts++wd "=" :: C6 us) λy l=>by
   rcases List.mem_append.mp l with z|z
   .exact(r y z).1
   .rcases List.mem_cons.mp z with rfl|z
    .exact wg_lit.2.2.2.2.2.1.1
    .exact(o y z).1
  exact Nat.le_trans this (Nat.le_trans (Nat.mul_le_mul (show _<=21 by rw[List.length_append,List.length_cons];omega) (Nat.le_refl 21)) (by decide))
section
variable {ns:List Str}(hn:Nms ns) {pl:Nat}{n:Str}(hpl:ns[pl]?=some n)
include hn hpl
theorem a2l:pl<ns.length:=(List.getElem?_eq_some_iff.mp hpl).1
theorem tmG:Tm ns [wG,n] (pl,1000000000000):=⟨by show(0:Int)<1000000000000;decide,by show(1000000000000:Int)<=topN;decide,.inl ⟨n,hpl,.inl (by rw[b0T])⟩⟩
theorem tm1:Tm ns [n] (pl,1):=⟨by show(0:Int)<1;decide,by show(1:Int)<=topN;decide,.inl ⟨n,hpl,.inr ⟨rfl,rfl⟩⟩⟩
omit hn hpl in
theorem tmA:Tm ns [wG] (ns.length,1000000000000):=⟨by show(0:Int)<1000000000000;decide,by show(1000000000000:Int)<=topN;decide,.inr ⟨rfl,by rw[b0T]⟩⟩
theorem b8Q:Edg ns pl (wG++bk++n++Str.ofString " + " ++ wG++bk++n++Str.ofString " = " ++ wG++bk++n) 1000000000000 0:=by
 refine a0J hn (a2l hn hpl) (.cons (tmG hn hpl) (.cons (tmG hn hpl) .nil)) (.cons (tmG hn hpl) .nil) (by simp) (by simp) (by decide) (by decide) (by decide) (by decide) (λj=>?_) ?_
 .simp only[K9,T0];split<;>split<;>omega
 .rw[a2t,a4e];show _=Str.join bk [wG,n,wd "+",wG,n,wd "=",wG,n];simp only[J6,J0];rfl
theorem b8P:Edg ns pl (Str.ofString "0 = " ++ wG++bk++n) (-1000000000000) 0:=by
 refine a0J hn (a2l hn hpl) .nil (.cons (tmG hn hpl) .nil) (by simp) (by simp) (by decide) (by decide) (by decide) (by decide) (λj=>?_) ?_
 .simp only[K9,T0];split<;>split<;>omega
 .rw[b2S];show _=Str.join bk [wd "0",wd "=",wG,n];simp only[J6,J0];rfl
theorem b8O:Edg ns pl (n++Str.ofString " = " ++ wG) 1 1000000000000:=by
 refine a0J hn (a2l hn hpl) (.cons (tm1 hn hpl) .nil) (.cons tmA .nil) (by simp) (by simp) (by decide) (by decide) (by decide) (by decide) (λj=>?_) ?_
 .simp only[K9,T0];split<;>split<;>omega
 .rw[a4e];show _=Str.join bk [n,wd "=",wG];simp only[J6,J0];rfl
theorem b8N:Edg ns pl (wG++Str.ofString " + " ++ n++Str.ofString " = 0") 1 (-1000000000000):=by
 refine a0J hn (a2l hn hpl) (.cons tmA (.cons (tm1 hn hpl) .nil)) .nil (by simp) (by simp) (by decide) (by decide) (by decide) (by decide) (λj=>?_) ?_
 .simp only[K9,T0];split<;>split<;>omega
 .rw[a2t,b2U];show _=Str.join bk [wG,wd "+",n,wd "=",wd "0"];simp only[J6,J0];rfl
theorem b8M:Edg ns pl (wG++Str.ofString " = " ++ n++Str.ofString " + " ++ wG++Str.ofString " + " ++ wG) (-1) 1000000000000:=by
 refine a0J hn (a2l hn hpl) (.cons tmA .nil) (.cons (tm1 hn hpl) (.cons tmA (.cons tmA .nil))) (by simp) (by simp) (by decide) (by decide) (by decide) (by decide) (λj=>?_) ?_
 .simp only[K9,T0];split<;>split<;>omega
 .rw[a2t,a4e];show _=Str.join bk [wG,wd "=",n,wd "+",wG,wd "+",wG];simp only[J6,J0];rfl
theorem b8L:Edg ns pl (Str.ofString "0 = 0") 0 0:=by
 refine a0J hn (a2l hn hpl) .nil .nil (by simp) (by simp) (by decide) (by decide) (by decide) (by decide) (λj=>?_) ?_
 .simp only[T0];split<;>split<;>omega
 .with_unfolding_all rfl
theorem b8K:Edg ns pl (n++Str.ofString " = " ++ n) 0 0:=by
 refine a0J hn (a2l hn hpl) (.cons (tm1 hn hpl) .nil) (.cons (tm1 hn hpl) .nil) (by simp) (by simp) (by decide) (by decide) (by decide) (by decide) (λj=>?_) ?_
 .simp only[K9,T0];split<;>split<;>omega
 .rw[a4e];show _=Str.join bk [n,wd "=",n];simp only[J6,J0];rfl
end
end K44
namespace K44
open PySem PySem.Spec PyProof.Rows L2
def EL(ns:List Str)(pl:Nat)(H:Hp)(L:List V):Prop:=∀v∈L,∃q x y s,v=V.ref q/\H q=some (.tup [V.str x,V.int y,V.int s])/\Edg ns pl x y s
theorem EL.same{ns:List Str}{pl:Nat}{H H':Hp}{L:List V}(h:EL ns pl H L)(s:Same H H'):EL ns pl H' L:=λv a=>let ⟨q,x,y,t,e1,e2,e3⟩:=h v a;⟨q,x,y,t,e1,s _ _ e2,e3⟩
theorem EL.snoc{ns:List Str}{pl:Nat}{H:Hp}{L:List V}{v:V}(h:EL ns pl H L)(g:∃q x y s,v=V.ref q/\H q=some (.tup [V.str x,V.int y,V.int s])/\Edg ns pl x y s):EL ns pl H (L++[v]):=λu a=>by
 rcases List.mem_append.mp a with z|z
 .exact h u z
 .rw[List.mem_singleton.mp z];exact g
section
variable {P:Program}{w:World}{K:PySem.W.Frag}{mg:Str->Option Value}{base:Heap}
def a9h:Sp:=λvs H Q _=>∃(a b t:Addr) (ns:List Str),vs=[.ref a,.ref t]/\PotAt H a b/\H t=some (.tup (ns.map V.str))/\Nms ns/\1<=ns.length/\ns.length<=7 /\
 ∀q rw ws row s H',H' q=some (.tup [.str (Str.join bk ws),.ref rw,.int s])->H' rw=some (.tup (row.map V.int))->SumL ns ws (row,s)->row.length=ns.length->(-topN<=s/\s<=topN)->PotAt H' a b->Off [a,b] H H'->Q (.ref q) H'
theorem sc__law_edge:FnScope ["_law_pot_here","_law_names_here","_law_place","_law_name","_law_great","_law_some","_law_line_here","_law_number","_law_side"] ["_law_pot_here","_law_names_here"] (A8 V5):=⟨rfl,rfl,rfl,by decide +kernel,rfl,by decide +kernel,by decide +kernel⟩
theorem b2J(F:FunAt K mg "_law_edge" V5 ["_law_pot_here","_law_names_here"])(T:Tx mg)(c:Ok P w K mg base "_law_next" 1 ["_law_pot_here","_law_many"] T5):Ok P w K mg base "_law_edge" 2 ["_law_pot_here","_law_names_here"] a9h:=by
 refine F.okJ sc__law_edge (λvs H Q E h=>?_) (λj4 f A outer s H vs Q E hr h=>?_)
 .obtain⟨a,b,t,ns,rfl,_⟩:=h;rfl
 .obtain⟨a,b,t,ns,rfl,hP,ht,hnm,h1,h7,k⟩:=h;have hz:(100000:Nat)<=sizeLine:=by rw[sizeLine_eq];decide
  refine⟨_,(A1 (B7 (i:=2) sc__law_edge.nd rfl (Or.inl rfl) (C0 c (hr.mono (by omega)) rfl (jaC (jv 0) (jaC (D7 K rfl T.b_len (jaC (jv 1) jaN)) jaN))))
 (A1 (b0x (i:=3) (j:=4) rfl sc__law_edge.nd rfl rfl (by decide) rfl rfl (jaC (V8 K (jv 1) (jv 2)) (jaC A2 jaN)) rfl)
 (A1 (B7 (i:=5) sc__law_edge.nd rfl (Or.inl rfl) (C5 (jaC (J2 (jaC (D9 (A6 (jv 4) (A3 A2 (A6 (jv 3) (A3 A2 (A6 (jv 4) (A3 A2 (A6 (jv 3) (A3 A2 (A6 (jv 4) (A3 A2 (A6 (jv 3) B3)))))))))))) (jaC (a1c A4 A4) (jaC A4 jaN)))) (jaC (J2 (jaC (D9 (A3 A2 (A6 (jv 4) (A3 A2 (A6 (jv 3) B3))))) (jaC (Q0 (a1c A4 A4)) (jaC A4 jaN)))) jaN))))
 (A1 (B7 (i:=5) sc__law_edge.nd rfl (Or.inl rfl) (J9 (jv 5) (C5 (jaC (J2 (jaC (D9 (A6 (jv 3) (A3 A2 (A6 (jv 4) B3)))) (jaC A4 (jaC (a1c A4 A4) jaN)))) (jaC (J2 (jaC (D9 (A6 (jv 4) (A3 A2 (A6 (jv 3) (A3 A2 B3))))) (jaC A4 (jaC (Q0 (a1c A4 A4)) jaN)))) jaN)))))
 (A1 (B7 (i:=5) sc__law_edge.nd rfl (Or.inl rfl) (J9 (jv 5) (C5 (jaC (J2 (jaC (D9 (A6 (jv 4) (A3 A2 (A6 (jv 3) (A3 A2 (A6 (jv 4) (A3 A2 (A6 (jv 4) B3)))))))) (jaC (Q0 A4) (jaC (a1c A4 A4) jaN)))) (jaC (J2 (jaC A2 (jaC A4 (jaC A4 jaN)))) (jaC (J2 (jaC (D9 (A6 (jv 3) (A3 A2 (A6 (jv 3) B3)))) (jaC A4 (jaC A4 jaN)))) jaN))))))
 (A1 (a0d (K4 K (jv 5) (C0 c (hr.mono (by omega)) rfl (jaC (jv 0) (jaC A4 jaN)))) (Y8 K 3 (D5 (C3 (i:=6) sc__law_edge.nd rfl (Or.inl rfl)) (D5 (C3 (i:=7) sc__law_edge.nd rfl (Or.inl rfl)) (D5 (C3 (i:=8) sc__law_edge.nd rfl (Or.inl rfl)) R6)))))
 (A9 (C2 (J2 (jaC (C4 A2 (jv 6)) (jaC (a6X (a6X (b0E (J2 (jaC A4 jaN)) (jv 2)) (J2 (jaC (jv 7) jaN))) (b0E (J2 (jaC A4 jaN)) (a5k (a5k (D7 K rfl T.b_len (jaC (jv 1) jaN)) A4) (jv 2)))) (jaC (jv 8) jaN)))))))))))),?_⟩
  refine⟨_,rfl,_,rfl,t,_,rfl,.inr (SqT.of ht),a,b,_,rfl,hP,by rw[List.length_map];omega,Int.lt_of_le_of_lt (show((ns.map V.str).length:Int)<=8 by rw[List.length_map];omega) (by decide +kernel),λr1 H1 j5 h4 P1 f1=>?_⟩;rw[List.length_map]at h4;obtain⟨pl,rfl⟩:∃g:Nat,r1=g:=⟨r1.toNat,by omega⟩;have hpl:pl<ns.length:=by omega
  have u:=List.getElem?_eq_getElem hpl;have b1:atI (ns.map V.str) (pl:Int)=some (V.str ns[pl]):=F0 (by rw[List.getElem?_map,u];rfl);have hnl:=((hnm.nm _ (List.getElem_mem hpl)).wg).1;have g0:=f1 _ _ (G1 hP ht) ht;generalize ns[pl]=n at u b1 hnl;dsimp only[B1];refine⟨_,rfl,_,rfl,t,_,_,_,rfl,rfl,SqT.of g0,b1,?_⟩;have l0:Str.empty.length=0:=rfl;have lG:(Str.ofString "1000000000000").length=13:=rfl;have lb:(Str.ofString " ").length=1:=rfl;have lp:(Str.ofString " + ").length=3:=rfl;have le:(Str.ofString " = ").length=3:=rfl;have lz:(Str.ofString "0 = ").length=4:=rfl;have lw:(Str.ofString " = 0").length=4:=rfl;refine⟨_,_,rfl,?_⟩;have S1:Same H1 H1:=Same.refl H1;have E1:EL ns pl H1 []:=λv hv=>(nomatch hv);refine⟨_,rfl,.inl ⟨_,rfl,by(try simp only[A7]);omega,by(try simp only[A7]);omega,_,rfl,by(try simp only[A7]);omega,_,rfl,.inl ⟨_,rfl,by(try simp only[A7]);omega,by(try simp only[A7]);omega,_,rfl,by(try simp only[A7]);omega,_,rfl,.inl ⟨_,rfl,by(try simp only[A7]);omega,by(try simp only[A7]);omega,_,rfl,by(try simp only[A7]);omega,_,rfl,.inl ⟨_,rfl,by(try simp only[A7]);omega,by(try simp only[A7]);omega,_,rfl,by(try simp only[A7]);omega,_,rfl,.inl ⟨_,rfl,by(try simp only[A7]);omega,by(try simp only[A7]);omega,_,rfl,by(try simp only[A7]);omega,_,rfl,.inl ⟨_,rfl,by(try simp only[A7]);omega,by(try simp only[A7]);omega,by(try simp only[A7]);omega,_,_,rfl,rfl,⟨by decide,by decide,by decide⟩,by show 3<=sizeLine;omega,λd f7=>?_⟩⟩⟩⟩⟩⟩⟩;generalize c5:upd H1 d _=H2;have S2:Same H1 H2:=by rw[<-c5];exact S1.upd f7
  have E2:EL ns pl H2 [V.ref d]:=by rw[<-c5];exact(E1.same ((Same.refl H1).upd f7)).snoc ⟨d,_,_,_,rfl,A0,by rw[a0t];exact b8Q hnm u⟩
  clear c5;refine⟨_,rfl,by(try simp only[A7]);omega,_,rfl,.inl ⟨_,rfl,by(try simp only[A7]);omega,by(try simp only[A7]);omega,_,rfl,by(try simp only[A7]);omega,_,rfl,.inl ⟨_,rfl,by(try simp only[A7]);omega,by(try simp only[A7]);omega,by(try simp only[A7]);omega,_,_,rfl,rfl,⟨by decide,by decide,by decide⟩,_,rfl,by show 3<=sizeLine;omega,λe f9=>?_⟩⟩⟩;generalize c6:upd H2 e _=H3;have S3:Same H1 H3:=by rw[<-c6];exact S2.upd f9
  have E3:EL ns pl H3 [V.ref d,V.ref e]:=by rw[<-c6];exact(E2.same ((Same.refl H2).upd f9)).snoc ⟨e,_,_,_,rfl,A0,by rw[a0t];exact b8P hnm u⟩
  clear c6;refine⟨by show 2<=sizeLine;omega,λl1 f2=>?_⟩;have S4:=S3.upd (o:=(.lst [V.ref d,V.ref e])) f2;have E4:=E3.same ((Same.refl H3).upd (o:=(.lst [V.ref d,V.ref e])) f2);have b9:upd H3 l1 (.lst [V.ref d,V.ref e]) l1=some (.lst [V.ref d,V.ref e]):=A0;generalize upd H3 l1 (.lst [V.ref d,V.ref e])=H4 at S4 E4 b9⊢;dsimp only[B1];have B4:Same H4 H4:=Same.refl _;refine⟨_,rfl,?_⟩;refine⟨_,rfl,.inl ⟨_,rfl,by(try simp only[A7]);omega,by(try simp only[A7]);omega,_,rfl,by(try simp only[A7]);omega,_,rfl,.inl ⟨_,rfl,by(try simp only[A7]);omega,by(try simp only[A7]);omega,by(try simp only[A7]);omega,_,_,rfl,rfl,⟨by decide,by decide,by decide⟩,by show 3<=sizeLine;omega,λp c7=>?_⟩⟩⟩;generalize Z:upd H4 p _=H5;have S5:Same H1 H5:=by rw[<-Z];exact S4.upd c7
  have E5:EL ns pl H5 [V.ref d,V.ref e,V.ref p]:=by rw[<-Z];exact(E4.same ((Same.refl H4).upd c7)).snoc ⟨p,_,_,_,rfl,A0,by rw[a0t];exact b8O hnm u⟩
  have B5:Same H4 H5:=by rw[<-Z];exact B4.upd c7
  clear Z;refine⟨_,rfl,.inl ⟨_,rfl,by(try simp only[A7]);omega,by(try simp only[A7]);omega,_,rfl,by(try simp only[A7]);omega,_,rfl,.inl ⟨_,rfl,by(try simp only[A7]);omega,by(try simp only[A7]);omega,_,rfl,by(try simp only[A7]);omega,by(try simp only[A7]);omega,_,_,rfl,rfl,⟨by decide,by decide,by decide⟩,_,rfl,by show 3<=sizeLine;omega,λr c8=>?_⟩⟩⟩;generalize a0:upd H5 r _=H6;have S6:Same H1 H6:=by rw[<-a0];exact S5.upd c8
  have E6:EL ns pl H6 [V.ref d,V.ref e,V.ref p,V.ref r]:=by rw[<-a0];exact(E5.same ((Same.refl H5).upd c8)).snoc ⟨r,_,_,_,rfl,A0,by rw[a0t];exact b8N hnm u⟩
  have B6:Same H4 H6:=by rw[<-a0];exact B5.upd c8
  clear a0;have a6:=B6 _ _ b9;refine⟨by show 2<=sizeLine;omega,λl2 c3=>?_⟩;have S7:=S6.upd (o:=(.lst [V.ref p,V.ref r])) c3;have E7:=E6.same ((Same.refl H6).upd (o:=(.lst [V.ref p,V.ref r])) c3);have c0:upd H6 l2 (.lst [V.ref p,V.ref r]) l2=some (.lst [V.ref p,V.ref r]):=A0;have M:=G0 (o:=(.lst [V.ref p,V.ref r])) a6 c3;generalize upd H6 l2 (.lst [V.ref p,V.ref r])=H7 at S7 E7 c0 M⊢;refine⟨l1,l2,_,_,rfl,rfl,M,c0,by show 4<=sizeLine;omega,λl3 f3=>?_⟩;have S8:=S7.upd (o:=(.lst [V.ref d,V.ref e,V.ref p,V.ref r])) f3;have E8:=E7.same ((Same.refl H7).upd (o:=(.lst [V.ref d,V.ref e,V.ref p,V.ref r])) f3);have c1:upd H7 l3 (.lst [V.ref d,V.ref e,V.ref p,V.ref r]) l3=some (.lst [V.ref d,V.ref e,V.ref p,V.ref r]):=A0;generalize a1:upd H7 l3 _=H8;have a1:upd H7 l3 (.lst [V.ref d,V.ref e,V.ref p,V.ref r])=H8:=a1;rw[a1]at S8 E8 c1;clear a1;dsimp only[B1];have B8:Same H8 H8:=Same.refl _;refine⟨_,rfl,?_⟩;refine⟨_,rfl,.inl ⟨_,rfl,by(try simp only[A7]);omega,by(try simp only[A7]);omega,_,rfl,by(try simp only[A7]);omega,_,rfl,.inl ⟨_,rfl,by(try simp only[A7]);omega,by(try simp only[A7]);omega,_,rfl,by(try simp only[A7]);omega,_,rfl,.inl ⟨_,rfl,by(try simp only[A7]);omega,by(try simp only[A7]);omega,_,rfl,by(try simp only[A7]);omega,_,rfl,.inl ⟨_,rfl,by(try simp only[A7]);omega,by(try simp only[A7]);omega,by(try simp only[A7]);omega,_,rfl,_,_,rfl,rfl,⟨by decide,by decide,by decide⟩,by show 3<=sizeLine;omega,λB c9=>?_⟩⟩⟩⟩⟩;generalize a2:upd H8 B _=H9;have S9:Same H1 H9:=by rw[<-a2];exact S8.upd c9
  have E9:EL ns pl H9 [V.ref d,V.ref e,V.ref p,V.ref r,V.ref B]:=by rw[<-a2];exact(E8.same ((Same.refl H8).upd c9)).snoc ⟨B,_,_,_,rfl,A0,by rw[a0t];exact b8M hnm u⟩
  have B9:Same H8 H9:=by rw[<-a2];exact B8.upd c9
  clear a2;refine⟨by show 3<=sizeLine;omega,λC d0=>?_⟩;generalize a3:upd H9 C _=L;have e0:Same H1 L:=by rw[<-a3];exact S9.upd d0
  have d4:EL ns pl L [V.ref d,V.ref e,V.ref p,V.ref r,V.ref B,V.ref C]:=by rw[<-a3];exact(E9.same ((Same.refl H9).upd d0)).snoc ⟨C,_,_,_,rfl,A0,b8L hnm u⟩
  have g6:Same H8 L:=by rw[<-a3];exact B9.upd d0
  clear a3;refine⟨_,rfl,.inl ⟨_,rfl,by(try simp only[A7]);omega,by(try simp only[A7]);omega,_,rfl,by(try simp only[A7]);omega,_,rfl,.inl ⟨_,rfl,by(try simp only[A7]);omega,by(try simp only[A7]);omega,by(try simp only[A7]);omega,by show 3<=sizeLine;omega,λD d1=>?_⟩⟩⟩;generalize G:upd L D _=J;have e3:Same H1 J:=by rw[<-G];exact e0.upd d1
  have d5:EL ns pl J [V.ref d,V.ref e,V.ref p,V.ref r,V.ref B,V.ref C,V.ref D]:=by rw[<-G];exact(d4.same ((Same.refl L).upd d1)).snoc ⟨D,_,_,_,rfl,A0,by rw[a0t];exact b8K hnm u⟩
  have g7:Same H8 J:=by rw[<-G];exact g6.upd d1
  clear G;have a7:=g7 _ _ c1;refine⟨by show 3<=sizeLine;omega,λl4 c4=>?_⟩;have U:=e3.upd (o:=(.lst [V.ref B,V.ref C,V.ref D])) c4;have b7:=d5.same ((Same.refl J).upd (o:=(.lst [V.ref B,V.ref C,V.ref D])) c4);have c2:upd J l4 (.lst [V.ref B,V.ref C,V.ref D]) l4=some (.lst [V.ref B,V.ref C,V.ref D]):=A0;have N:=G0 (o:=(.lst [V.ref B,V.ref C,V.ref D])) a7 c4;generalize upd J l4 (.lst [V.ref B,V.ref C,V.ref D])=O at U b7 c2 N⊢;refine⟨l3,l4,_,_,rfl,rfl,N,c2,by show 7<=sizeLine;omega,λl5 Y=>?_⟩;have W:=U.upd (o:=(.lst [V.ref d,V.ref e,V.ref p,V.ref r,V.ref B,V.ref C,V.ref D])) Y;have d6:=b7.same ((Same.refl O).upd (o:=(.lst [V.ref d,V.ref e,V.ref p,V.ref r,V.ref B,V.ref C,V.ref D])) Y);have R:upd O l5 (.lst [V.ref d,V.ref e,V.ref p,V.ref r,V.ref B,V.ref C,V.ref D]) l5=some (.lst [V.ref d,V.ref e,V.ref p,V.ref r,V.ref B,V.ref C,V.ref D]):=A0;generalize I:upd O l5 _=g8;have I:upd O l5 (.lst [V.ref d,V.ref e,V.ref p,V.ref r,V.ref B,V.ref C,V.ref D])=g8:=I;rw[I]at W d6 R;clear I;dsimp only[B1];have S:=P1.same W;have h8:=f1.trans W.off;have i4:l5∉[a,b]:=by
   intro z;obtain⟨_,cs,l,tt,kk,e1,e2⟩:=S;simp only[List.mem_cons,List.not_mem_nil,or_false]at z;rcases z with z|z
   .rw[z,e1]at R;cases R
   .obtain⟨_,cs',l',tt',kk',e1',e2'⟩:=P1;have b0:=U _ _ e2';rw[<-z]at b0;rw[b0]at Y;cases Y
  clear b9 a6 M c0 c1 a7 N c2 E1 E2 E3 E4 E5 E6 E7 E8 E9 d4 d5 b7 S1 S2 S3 S4 S5 S6 S7 S8 S9 e0 e3 U;have b3:=W _ _ g0;refine⟨_,rfl,_,rfl,a,b,7,rfl,S,by decide,by decide +kernel,λg1 b8 i8 i9 g9 X=>?_⟩;obtain⟨j,rfl⟩:∃g:Nat,g1=g:=⟨g1.toNat,by omega⟩;have f0:j < [V.ref d,V.ref e,V.ref p,V.ref r,V.ref B,V.ref C,V.ref D].length:=by show j<7;omega
  obtain⟨q,x,y,sd,hv,hq,hE⟩:=d6 _ (List.getElem_mem f0);refine⟨l5,_,_,_,rfl,rfl,SqL.of (X _ _ i4 R),F0 (List.getElem?_eq_getElem f0),?_⟩;rw[hv];have f4:=X _ _ (G1 S hq) hq;have f8:=X _ _ (G1 S b3) b3;have h9:=h8.trans X;refine⟨q,_,rfl,SqT.of f4,rfl,_,_,rfl,_,_,rfl,_,[],rfl,rfl,?_⟩;dsimp only[B1];obtain⟨ws,h6,f6⟩:=hE.ex;have j6:=hE.le;refine⟨_,rfl,_,_,rfl,rfl,by show 4+_<=_;omega,by show 1<=sizeLine;omega,λu1 h5=>⟨_,rfl,?_⟩⟩;have g2:=(Same.refl b8).upd (o:=.tup [V.int 0]) h5;have e4:upd b8 u1 (.tup [V.int 0]) u1=some (.tup [V.int 0]):=A0;generalize upd b8 u1 (.tup [V.int 0])=j0 at g2 e4;refine⟨u1,_,_,rfl,rfl,e4,by simp,by omega,by show(1:Int)*_<=_;omega,λi0 d7 i5 e5=>⟨_,rfl,by show 1<=sizeLine;omega,λa4 b4=>?_⟩⟩;rw[Int.toNat_natCast]at e5;have g3:=(g2.trans i5).upd (o:=.tup [V.int y]) b4;have e6:=G0 (o:=.tup [V.int y]) e5 b4;have a8:upd d7 a4 (.tup [V.int y]) a4=some (.tup [V.int y]):=A0;generalize upd d7 a4 (.tup [V.int y])=j1 at g3 e6 a8;refine⟨i0,a4,_,_,rfl,rfl,e6,a8,by rw[a0Z];simp;omega,λi1 d8 i6 h0=>⟨by show 1<=sizeLine;omega,λa5 b5=>?_⟩⟩;have d3:=(g3.trans i6).upd (o:=.tup [V.int 0]) b5;have e7:=G0 (o:=.tup [V.int 0]) h0 b5;have a9:upd d8 a5 (.tup [V.int 0]) a5=some (.tup [V.int 0]):=A0;generalize upd d8 a5 (.tup [V.int 0])=j2 at d3 e7 a9;refine⟨_,rfl,t,_,rfl,.inr (SqT.of (d3 _ _ f8)),_,_,rfl,rfl,_,rfl,_,_,rfl,rfl,a5,_,_,rfl,rfl,a9,by simp,by rw[List.length_map];omega,by rw[List.length_map];show(1:Int)*_<=_;omega,λi2 j3 g4 e8=>?_⟩;rw[List.length_map,show((ns.length:Int)-1-(pl:Int)).toNat=ns.length-1-pl by omega]at e8;refine⟨i1,i2,_,_,rfl,rfl,g4 _ _ e7,e8,by simp only[List.length_append,a0Z];simp;omega,λd2 d9 i7 h3=>⟨_,rfl,by show 3<=sizeLine;omega,λi3 f5=>?_⟩⟩;have b2:∀m:Nat,(List.replicate m [V.int 0]).flatten=(List.replicate m (0:Int)).map V.int:=λm=>by
   induction m with
   |zero=>rfl
   |succ m ih=>rw[List.replicate_succ,List.flatten_cons,ih];rfl
  have e9:d9 d2=some (.tup ((a2U ns.length pl y).map V.int)):=by
   rw[h3,b2,b2];unfold a2U;simp
  have g5:=(Same.refl d9).upd (o:=.tup [V.str (Str.ofString "sum " ++ x),V.ref d2,V.int sd]) f5;have b6:=((d3.trans g4).trans i7).trans g5;have hb : -topN<=sd/\sd<=topN:=hE.sb;refine k i3 d2 ws (a2U ns.length pl y) sd _ ?_ (g5 _ _ e9) f6 (a4U hpl) hb (g9.same b6) (h9.trans b6.off);rw[<-h6];exact A0
end
end K44
namespace K44
open PySem PySem.Spec PyProof.Rows L2
theorem a9m{l r:List Str}(a:l≠[])(b:r≠[]):Str.ofString "sum " ++ Str.join bk l++Str.ofString " = " ++ Str.join bk r=Str.join bk (wd "sum" :: (l++wd "=" :: r)):=by
 rw[show wd "sum" :: (l++wd "=" :: r)=[wd "sum"]++(l++([wd "="]++r))from rfl,T9 (by simp) (by simp),T9 a (by simp),T9 (by simp) b];have e1:Str.ofString "sum "=wd "sum" ++ bk:=by with_unfolding_all rfl
 have e2:Str.ofString " = "=bk++(wd "=" ++ bk):=by with_unfolding_all rfl
 rw[e1,e2];show _=wd "sum" ++ bk++(Str.join bk l++bk++(wd "=" ++ bk++Str.join bk r));simp only[J0]
theorem a1W(g:Int)(j:Nat):∀ps:List (Nat×Int),L8 (ps.map λp=>(p.1,g*p.2)) j=g*L8 ps j
 |[]=>by simp[L8]
 |p::ps=>by
  rw[List.map_cons,K9,K9,a1W g j ps];dsimp only;split
  .rw[Int.mul_add]
  .rw[Int.zero_add,Int.zero_add]
theorem a8O{ps:List (Nat×Int)}(h:∀p∈ps,0<=p.2/\p.2<=100000000000)(j:Nat):0<=L8 ps j/\L8 ps j<=100000000000*(ps.length:Int):=by
 induction ps with
 |nil=>exact⟨Int.le_refl _,by simp[L8]⟩
 |cons p r b =>
  obtain⟨c,d⟩:=b λq a=>h q (List.mem_cons_of_mem _ a);obtain⟨e,p2⟩:=h p List.mem_cons_self;rw[K9,List.length_cons];split<;>omega
theorem Tms.pos{ns:List Str}{ts:List (List Str)}{ps:List (Nat×Int)}(h:Tms ns ts ps):∀p∈ps,0<=p.2:=by
 induction h with
 |nil=>intro p a;cases a
 |cons h _ b =>
  intro p a;rcases List.mem_cons.mp a with rfl|z
  .exact Int.le_of_lt h.1
  .exact b p z
theorem a6h{ns:List Str}(hn:Nms ns){ts us:List (List Str)}{ps i:List (Nat×Int)}(h:Tms ns ts ps)(g:Tms ns us i)(z:ts.length<=8)(y:us.length<=8)(hp:∀p∈ps,p.2<=100000000000)(u:∀p∈i,p.2<=100000000000){F:List Int}
  (n:F=(i.map λp=>(p.1,(-1)*p.2)).foldl C8 ((ps.map λp=>(p.1,1*p.2)).foldl C8 (List.replicate (ns.length+1) 0))):SumL ns (wd "sum" :: (C6 ts++wd "=" :: C6 us)) (F.dropLast,-(F.getLastD 0))/\F.length=ns.length+1/\Bds F:=by
 have e:F.length=ns.length+1:=by rw[n,K0,K0,List.length_replicate]
 have r:=h.len;have s:=g.len;have d:∀j,j<ns.length+1->F.getD j 0=L8 ps j-L8 i j:=λj c=>by
  rw[n,a1S _ _ _ (by rw[K0,List.length_replicate];exact c),a1S _ _ _ (by rw[List.length_replicate];exact c),a1W,a1W];rw[show((List.replicate (ns.length+1) (0:Int)).getD j 0)=0 by rw[List.getD_eq_getElem?_getD];simp[c]];omega
 have o:∀j,j<ns.length+1 -> -topN<=F.getD j 0/\F.getD j 0<=topN:=λj c=>by
  rw[d j c];have v:=a8O (λp b=>⟨h.pos p b,hp p b⟩) j;have w:=a8O (λp b=>⟨g.pos p b,u p b⟩) j;unfold topN;omega
 have a:F.getLastD 0=F.getD ns.length 0:=by
  obtain⟨f,x,rfl⟩:∃f x,F=f++[x]:=⟨F.dropLast,F.getLast (List.ne_nil_of_length_pos (by omega)),(List.dropLast_concat_getLast _).symm⟩;have k:f.length=ns.length:=by simpa using e
  rw[show(f++[x]).getLastD 0=x by simp,List.getD_eq_getElem?_getD,List.getElem?_append_right (by omega),k];simp
 have m:Bds F:=λx l=>by
  obtain⟨j,c⟩:=List.getElem?_of_mem l;have q:=(List.getElem?_eq_some_iff.mp c).1;have:=o j (by omega);rw[List.getD_eq_getElem?_getD,c]at this;exact this
 have t:=o ns.length (by omega);refine⟨a4J hn h g (by omega) (by omega) (by rw[List.length_dropLast];omega) (λx l=>m x ((List.dropLast_sublist F).mem l)) (by rw[a];unfold topN at *;omega) (by rw[a];unfold topN at *;omega) (λj c=>?_) ?_,e,m⟩
 .rw[<-d j (by omega),List.getD_eq_getElem?_getD,List.getD_eq_getElem?_getD,List.getElem?_dropLast,if_pos (by omega)]
 .rw[a,d ns.length (by omega)];omega
def MadeAt(H:Hp)(v:V)(ws:List Str)(q:List Int×Int):Prop:=∃c rw,v=.ref c/\H c=some (.tup [.str (Str.join bk ws),.ref rw,.int q.2])/\H rw=some (.tup (q.1.map V.int))
theorem MadeAt.same{H H':Hp}{v:V}{ws:List Str}{q:List Int×Int}(h:MadeAt H v ws q)(s:Same H H'):MadeAt H' v ws q:=let ⟨c,r,e,e1,e2⟩:=h;⟨c,r,e,s _ _ e1,s _ _ e2⟩
theorem MadeAt.off{H H':Hp}{v:V}{ws:List Str}{q:List Int×Int}{l:List Addr}(h:MadeAt H v ws q)(a:∀c xs,H c=some (.tup xs)->c∉l)(o:Off l H H'):MadeAt H' v ws q:=let ⟨c,r,e,e1,e2⟩:=h;⟨c,r,e,o _ _ (a _ _ e1) e1,o _ _ (a _ _ e2) e2⟩
structure Mades(H:Hp)(us:List V)(L:List (List Str))(Q:List (List Int×Int)):Prop where
 l1:us.length=L.length
 l2:Q.length=L.length
 at_:∀(i:Nat) v,us[i]?=some v->∃ws q,L[i]?=some ws/\Q[i]?=some q/\MadeAt H v ws q
theorem Mades.same{H H':Hp}{us:List V}{L:List (List Str)}{Q:List (List Int×Int)}(h:Mades H us L Q)(s:Same H H'):Mades H' us L Q:=⟨h.l1,h.l2,λi v e=>let ⟨ws,q,a,b,c⟩:=h.at_ i v e;⟨ws,q,a,b,c.same s⟩⟩
theorem Mades.off{H H':Hp}{us:List V}{L:List (List Str)}{Q:List (List Int×Int)}{l:List Addr}(h:Mades H us L Q)(d:∀c xs,H c=some (.tup xs)->c∉l)(o:Off l H H'):Mades H' us L Q:=⟨h.l1,h.l2,λi v e=>let ⟨ws,q,a,b,c⟩:=h.at_ i v e;⟨ws,q,a,b,c.off d o⟩⟩
theorem Mades.snoc{H:Hp}{us:List V}{L:List (List Str)}{Q:List (List Int×Int)}{v:V}{ws:List Str}{q:List Int×Int}(h:Mades H us L Q)(g:MadeAt H v ws q):Mades H (us++[v]) (L++[ws]) (Q++[q]):=by
 refine⟨by simp[h.l1],by simp[h.l2],λi u e=>?_⟩;rcases Nat.lt_or_ge i us.length with hi|hi
 .rw[List.getElem?_append_left hi]at e;obtain⟨d,f,a,b,c⟩:=h.at_ i u e;exact⟨d,f,by rw[List.getElem?_append_left (by rw[<-h.l1];exact hi)];exact a,by rw[List.getElem?_append_left (by rw[h.l2,<-h.l1];exact hi)];exact b,c⟩
 .rw[List.getElem?_append_right hi]at e;have:i-us.length=0:=by
   have:=(List.getElem?_eq_some_iff.mp e).1;simpa using this
  rw[this]at e;cases e;exact⟨ws,q,by rw[List.getElem?_append_right (by rw[<-h.l1];exact hi),<-h.l1,this];rfl,by rw[List.getElem?_append_right (by rw[h.l2,<-h.l1];exact hi),h.l2,<-h.l1,this];rfl,g⟩
theorem Mades.put{H:Hp}{us:List V}{L:List (List Str)}{Q:List (List Int×Int)}{c:Addr}{xs:List V}{o:HO}(h:Mades H us L Q)(f:H c=some (.lst xs)):Mades (upd H c o) us L Q:=⟨h.l1,h.l2,λi v e=>let ⟨ws,q,a,b,d,r,e0,e1,e2⟩:=h.at_ i v e;⟨ws,q,a,b,d,r,e0,by rw[A5 (T7 e1 f (by intro z;cases z))];exact e1,by rw[A5 (T7 e2 f (by intro z;cases z))];exact e2⟩⟩
section
variable {P:Program}{w:World}{K:PySem.W.Frag}{mg:Str->Option Value}{base:Heap}
def a9c:Sp:=λvs H Q _=>∃(a b t:Addr) (ns:List Str),vs=[.ref a,.ref t]/\PotAt H a b/\H t=some (.tup (ns.map V.str))/\Nms ns/\1<=ns.length/\ns.length<=7 /\
 ∀p us L q H',H' p=some (.lst us)->Mades H' us L q->SumLs ns L q->L.length<=6->(∀x∈q,x.1.length=ns.length)->H p=none->PotAt H' a b->Off [a,b] H H'->Q (.ref p) H'
theorem sc__law_sums:FnScope ["_law_pot_here","_law_names_here","_law_made","_law_k","_law_found","_law_line_here"] ["_law_pot_here","_law_names_here"] (A8 V1):=⟨rfl,rfl,rfl,by decide +kernel,rfl,by decide +kernel,by decide +kernel⟩
def SmI(a b t pt:Addr)(ns:List Str)(H:Hp)(i:Nat)(σ:L2.St)(H':Hp):Prop:=∃o3 o4 o5 us L q,σ=[some (.ref a),some (.ref t),some (.ref pt),o3,o4,o5]/\H' pt=some (.lst us)/\Mades H' us L q/\SumLs ns L q/\L.length=i/\(∀x∈q,x.1.length=ns.length)/\H' t=some (.tup (ns.map V.str))/\PotAt H' a b/\Off [a,b] H H'
theorem SmI.mk'{a b t pt:Addr}{ns:List Str}{H c:Hp}{i:Nat}{us:List V}{L:List (List Str)}{q:List (List Int×Int)}{v:V}{ws:List Str}{x:List Int×Int}{h j k:Option V}(m:c pt=some (.lst us))(n:Mades c us L q)(g:MadeAt c v ws x)(o:SumLs ns L q)(r:SumL ns ws x)(cl:L.length=i)(p:∀x∈q,x.1.length=ns.length)(s:x.1.length=ns.length)(ct:c t=some (.tup (ns.map V.str)))(l:PotAt c a b)(w:Off [a,b] H c)(d:H pt=none)(f:pt∉[a,b])(e:pt≠t):SmI a b t pt ns H (i+1) [some (.ref a),some (.ref t),some (.ref pt),h,j,k] (upd c pt (.lst (us++[v]))) :=
 ⟨h,j,k,us++[v],L++[ws],q++[x],rfl,A0,(n.snoc g).put m,o.snoc r,by simp[cl],λy u=>by
  rcases List.mem_append.mp u with z|z
  .exact p y z
  .rw[List.mem_singleton.mp z];exact s,by rw[A5 e.symm];exact ct,N3 l f,W3 w d⟩
theorem b2F(F:FunAt K mg "_law_sums" V1 ["_law_pot_here","_law_names_here"])(T:Tx mg)(d:Ok P w K mg base "_law_next" 1 ["_law_pot_here","_law_many"] T5)(j:Ok P w K mg base "_law_half" 3 ["_law_pot_here","_law_names_here","_law_found","_law_sign"] a9g)(l:Ok P w K mg base "_law_edge" 2 ["_law_pot_here","_law_names_here"] a9h):Ok P w K mg base "_law_sums" 4 ["_law_pot_here","_law_names_here"] a9c:=by
 refine F.okJ sc__law_sums (λvs H Q E h=>?_) (λg3 f A outer s H vs Q E hr h=>?_)
 .obtain⟨a,b,t,ns,rfl,_⟩:=h;rfl
 .obtain⟨a,b,t,ns,rfl,hP,Y,hnm,h1,h7,k⟩:=h;have hz:(100000:Nat)<=sizeLine:=by rw[sizeLine_eq];decide
  refine⟨_,(A1 (B7 (i:=2) sc__law_sums.nd rfl (Or.inl rfl) (C5 jaN))
 (A1 (T8 (R8 rfl T.b_range (jaC (C0 d (hr.mono (by omega)) rfl (jaC (jv 0) (jaC (K4 K (C5 (jaC A4 (jaC A4 jaN))) (a4l rfl T.b_int (jaC (a3q (C0 d (hr.mono (by omega)) rfl (jaC (jv 0) (jaC A4 jaN))) A4) jaN))) jaN))) jaN)) (C3 (i:=3) sc__law_sums.nd rfl (Or.inl rfl))
 (A9 (G2 (O8 (C0 d (hr.mono (by omega)) rfl (jaC (jv 0) (jaC A4 jaN))) A4)
 (A9 (G8 (G5 K (jv 2) (jaC (C0 l (hr.mono (by omega)) rfl (jaC (jv 0) (jaC (jv 1) jaN))) jaN))))
 (A1 (B7 (i:=4) sc__law_sums.nd rfl (Or.inl rfl) (b0F (C5 (jaC A4 jaN)) (J3 (D7 K rfl T.b_len (jaC (jv 1) jaN)) A4)))
 (A1 (B7 (i:=5) sc__law_sums.nd rfl (Or.inl rfl) (C4 (C4 (C4 A2 (C0 j (hr.mono (by omega)) rfl (jaC (jv 0) (jaC (jv 1) (jaC (jv 4) (jaC A4 jaN)))))) A2) (C0 j (hr.mono (by omega)) rfl (jaC (jv 0) (jaC (jv 1) (jaC (jv 4) (jaC (Q0 A4) jaN)))))))
 (A9 (G8 (G5 K (jv 2) (jaC (J2 (jaC (jv 5) (jaC (J8 K rfl T.b_tuple (jaC (V7 K (jv 4) I0 (G9 (Q0 A4))) jaN)) (jaC (Q0 (K4 K (jv 4) (Q0 A4))) jaN)))) jaN)))))))))
 (A9 (C2 (jv 2))))),?_⟩
  refine⟨Nat.zero_le _,λpt X=>?_⟩;have a7:H pt=none:=X;have u:pt∉[a,b]:=C7 hP X;have s1:=(Same.refl H).upd (o:=.lst []) X;have e1:upd H pt (.lst []) pt=some (.lst []):=A0;have P1:=hP.same s1;have b0:=s1 _ _ Y;have o1:Off [a,b] H (upd H pt (.lst [])):=s1.off;generalize upd H pt (.lst [])=H1 at e1 P1 b0 o1;clear s1 X;dsimp only[B1];refine⟨_,rfl,by show 2<=sizeLine;omega,λp3 a9=>?_⟩;have q3:p3∉[a,b]:=C7 P1 a9;have s3:=(Same.refl H1).upd (o:=.lst [V.int 3,V.int 7]) a9;have e3:upd H1 p3 (.lst [V.int 3,V.int 7]) p3=some (.lst [V.int 3,V.int 7]):=A0;have P3:=P1.same s3;have o3:=o1.trans s3.off;have M:=s3 _ _ e1;have Z:=s3 _ _ b0;generalize upd H1 p3 (.lst [V.int 3,V.int 7])=H3 at e3 P3 o3 M Z;clear s3 a9 o1 P1 b0 e1;refine⟨_,rfl,a,b,8,rfl,P3,by decide,by decide +kernel,λr4 H4 _ _ P4 f4=>⟨rfl,?_⟩⟩;obtain⟨mi,c0,f0⟩:=two_at 3 7 (decide (V.int r4=V.int 0));refine .inr ⟨_,rfl,p3,_,_,_,rfl,rfl,SqL.of (f4 _ _ q3 e3),c0,a,b,mi,rfl,P4,by omega,Int.lt_of_le_of_lt (show mi<=7 by omega) (by decide +kernel),λr5 H5 d7 d8 P5 f5=>?_⟩;obtain⟨m,rfl⟩:∃g:Nat,r5=g:=⟨r5.toNat,by omega⟩;have g5:m<=6:=by omega
  have W:=f4.trans f5;have o5:=o3.trans W;have b6:=W _ _ u M;have c6:=W _ _ (G1 P3 Z) Z;clear o3 f4 f5 W P3 P4 M Z e3 d7 d8 c0 f0;refine⟨m,rfl,by omega,by omega,?_⟩;rw[Int.toNat_natCast];have c7:pt≠t:=T7 b6 c6 (by intro z;cases z);refine X5 (lo:=0) (n:=m) (SmI a b t pt ns H) ⟨_,_,_,[],[],[],rfl,b6,⟨rfl,rfl,λi v e=>(by cases e)⟩,.nil,rfl,λx hx=>(nomatch hx),c6,P5,o5⟩ ?_ ?_
  .rintro i σ H6 hi ⟨o3',o4',o5',us,L,q,rfl,c1,cM,cS,cl,cq,ct,P6,o6⟩;dsimp only[B1];have g4:us.length<=6:=by rw[cM.l1];omega
   refine⟨_,rfl,a,b,6,rfl,P6,by decide,by decide +kernel,λr7 H7 _ _ P7 f7=>⟨rfl,_,rfl,?_⟩⟩;have d1:=f7 _ _ u c1;have dM:=cM.off (λc xs U=>G1 P6 U) f7;have dt:=f7 _ _ (G1 P6 ct) ct;have o7:=o6.trans f7;clear c1 cM ct P6 o6 f7;refine G7 (λe=>?_) (λe=>?_)
   .refine⟨_,rfl,.inl ⟨rfl,_,SqL.of d1⟩,_,rfl,_,rfl,a,b,t,ns,rfl,P7,dt,hnm,h1,h7,λqv rw ws g0 sd H8 hq f1 hS e7 hb P8 f8=>?_⟩;refine⟨pt,us,_,rfl,rfl,f8 _ _ u d1,by omega,?_⟩;exact SmI.mk' (x:=(g0,sd)) (f8 _ _ u d1) (dM.off (λc xs U=>G1 P7 U) f8) ⟨qv,rw,rfl,hq,f1⟩ cS hS cl cq e7 (f8 _ _ (G1 P7 dt) dt) P8 (o7.trans f8) a7 u c7
   .refine⟨by show 1<=sizeLine;omega,λp8 c4=>?_⟩;have s8:=(Same.refl H7).upd (o:=.lst [V.int 0]) c4;have e8:upd H7 p8 (.lst [V.int 0]) p8=some (.lst [V.int 0]):=A0;generalize upd H7 p8 (.lst [V.int 0])=H8 at s8 e8;refine⟨_,rfl,t,_,rfl,.inr (SqT.of (s8 _ _ dt)),_,_,rfl,rfl,p8,_,_,rfl,rfl,e8,by rw[List.length_map];omega,by rw[List.length_map];omega,by rw[List.length_map];simp;omega,λJ O=>?_⟩;have c5:(List.replicate ((((ns.map V.str).length:Int)+1).toNat) [V.int 0]).flatten=(List.replicate (ns.length+1) (0:Int)).map V.int:=by
     rw[List.length_map,show((ns.length:Int)+1).toNat=ns.length+1 by omega];generalize ns.length+1=m;induction m with
     |zero=>rfl
     |succ m ih=>rw[List.replicate_succ,List.flatten_cons,ih];rfl
    rw[c5];have s9:=s8.upd (o:=.lst ((List.replicate (ns.length+1) (0:Int)).map V.int)) O;have e9:upd H8 J (.lst ((List.replicate (ns.length+1) (0:Int)).map V.int)) J=some (.lst ((List.replicate (ns.length+1) (0:Int)).map V.int)):=A0;have f3:J≠pt:=(B0 (s8 _ _ d1) O).symm;have P8:=P7.same s8;have c8:J∉[a,b]:=C7 P8 O;have d6:H J=none:=K8 (o7.trans s8.off) P8 O;generalize upd H8 J (.lst ((List.replicate (ns.length+1) (0:Int)).map V.int))=H9 at s9 e9;have P9:=P7.same s9;have g1:=s9 _ _ d1;have gM:=dM.same s9;have gt:=s9 _ _ dt;have o9:=o7.trans s9.off;clear s8 e8 s9 P8 d1 dM dt o7 P7 c4 O;dsimp only[B1];have b2:∀{Hx:Hp}{c:Addr}{xs ys:List V},PotAt Hx a b->Hx J=some (.lst ys)->Hx c=some (.tup xs)->c∉[a,b,J]:=λ{Hx c xs ys} b9 hf U z=>by
     simp only[List.mem_cons,List.not_mem_nil,or_false]at z;rcases z with z|z|z
     .exact G1 b9 U (by simp[z])
     .exact G1 b9 U (by simp[z])
     .rw[z,hf]at U;cases U
    have f9:pt∉[a,b,J]:=λz=>by
     simp only[List.mem_cons,List.not_mem_nil,or_false]at z;rcases z with z|z|z
     .exact u (by simp[z])
     .exact u (by simp[z])
     .exact f3 z.symm
    have sb:∀{Hx:Hp},Off [a,b,J] H9 Hx->Off [a,b] H Hx:=λo b' o' a8 he=>o _ _ (λz=>by
     simp only[List.mem_cons,List.not_mem_nil,or_false]at z;rcases z with z|z|z
     .exact a8 (by simp[z])
     .exact a8 (by simp[z])
     .rw[z,d6]at he;cases he) (o9 _ _ a8 he)
    refine⟨_,rfl,_,rfl,_,rfl,a,b,t,J,ns,_,1,rfl,P9,gt,e9,c8,hnm,h1,h7,by rw[List.length_replicate],.inl rfl,λN ps g2 hT e4 e2 d4 d2 b7=>?_⟩;have tw:∀t∈N,(∀x∈t,Wg x)/\t.length<=2:=λt Y=>by obtain⟨p,_,q⟩:=hT.all t Y;exact q.wg hnm
    obtain⟨w1,w2,w3⟩:=a0q tw;have l1:(Str.join bk (C6 N)).length<=600:=by
     have:=O6 (c:=32) (B:=20) (ys:=C6 N) λy hy=>(w1 y hy).1;exact Nat.le_trans this (Nat.le_trans (Nat.mul_le_mul (show _<=25 by omega) (Nat.le_refl 21)) (by decide))
    have l2:(Str.ofString "sum " ++ Str.join bk (C6 N)).length<=604:=by rw[A7,show(Str.ofString "sum ").length=4 from rfl];omega
    have l3:(Str.ofString "sum " ++ Str.join bk (C6 N)++Str.ofString " = ").length<=607:=by rw[A7,show(Str.ofString " = ").length=3 from rfl];omega
    refine⟨_,_,rfl,rfl,by show 4+_<=_;omega,_,_,rfl,rfl,by show(Str.ofString "sum " ++ Str.join bk (C6 N)).length+3<=_;omega,?_⟩;have b8:=b7 _ _ (b2 P9 e9 gt) gt;refine⟨_,rfl,_,rfl,_,rfl,_,rfl,a,b,t,J,ns,_,-1,rfl,d2,b8,d4,c8,hnm,h1,h7,by rw[K0,List.length_replicate],.inr rfl,λC qs a4 hU e6 e5 a6 d3 d5=>?_⟩;have uw:∀t∈C,(∀x∈t,Wg x)/\t.length<=2:=λt Y=>by obtain⟨p,_,q⟩:=hU.all t Y;exact q.wg hnm
    obtain⟨v1,v2,v3⟩:=a0q uw;have l4:(Str.join bk (C6 C)).length<=600:=by
     have:=O6 (c:=32) (B:=20) (ys:=C6 C) λy hy=>(v1 y hy).1;exact Nat.le_trans this (Nat.le_trans (Nat.mul_le_mul (show _<=25 by omega) (Nat.le_refl 21)) (by decide))
    refine⟨_,_,rfl,rfl,by show(Str.ofString "sum " ++ Str.join bk (C6 N)++Str.ofString " = ").length+_<=_;omega,?_⟩;dsimp only[B1];obtain⟨a3,e0,d9⟩:=a6h hnm hT hU e4 e6 e2 e5 rfl;generalize (qs.map λp=>(p.1,(-1)*p.2)).foldl C8 ((ps.map λp=>(p.1,1*p.2)).foldl C8 (List.replicate (ns.length+1) 0))=D at a6 a3 e0 d9;have I:=b7.trans d5;have k1:=I _ _ f9 g1;have kM:=gM.off (λc xs U=>b2 P9 e9 U) I;have kt:=I _ _ (b2 P9 e9 gt) gt;have f6:=sb I;refine⟨_,rfl,.inl ⟨rfl,_,SqL.of k1⟩,_,rfl,?_⟩
    delta L3
    refine⟨_,rfl,_,rfl,_,rfl,J,_,rfl,SqL.of a6,λa0 c2=>?_⟩;rw[a2H,<-List.map_dropLast];have c9:=(Same.refl a4).upd (o:=.lst (D.dropLast.map V.int)) c2;have b4:upd a4 a0 (.lst (D.dropLast.map V.int)) a0=some (.lst (D.dropLast.map V.int)):=A0;generalize upd a4 a0 (.lst (D.dropLast.map V.int))=b3 at c9 b4;refine⟨a0,_,rfl,.inl ⟨SqL.of b4,λr c3=>?_⟩⟩;have b1:=c9.upd (o:=.tup (D.dropLast.map V.int)) c3;have M:upd b3 r (.tup (D.dropLast.map V.int)) r=some (.tup (D.dropLast.map V.int)):=A0;generalize upd b3 r (.tup (D.dropLast.map V.int))=a5 at b1 M;refine⟨_,rfl,_,rfl,J,_,_,_,rfl,rfl,SqL.of (b1 _ _ a6),a3o (by omega),_,rfl,by show 3<=sizeLine;omega,λS a2=>?_⟩;have f2:=a9m (w3 λt Y=>by obtain⟨p,_,q⟩:=hT.all t Y;exact q.ne) (v3 λt Y=>by obtain⟨p,_,q⟩:=hU.all t Y;exact q.ne);have G:=b1.upd (o:=.tup [V.str (Str.ofString "sum " ++ Str.join bk (C6 N)++Str.ofString " = " ++ Str.join bk (C6 C)),V.ref r,V.int (-(D.getLastD 0))]) a2;have b5:upd a5 S (.tup [V.str (Str.ofString "sum " ++ Str.join bk (C6 N)++Str.ofString " = " ++ Str.join bk (C6 C)),V.ref r,V.int (-(D.getLastD 0))]) S=some (.tup [V.str (Str.join bk (wd "sum" :: (C6 N++wd "=" :: C6 C))),V.ref r,V.int (-(D.getLastD 0))]):=by rw[A0,f2]
    have a1:=G0 (o:=.tup [V.str (Str.ofString "sum " ++ Str.join bk (C6 N)++Str.ofString " = " ++ Str.join bk (C6 C)),V.ref r,V.int (-(D.getLastD 0))]) M a2;generalize R:upd a5 S _=d0;have R:upd a5 S (.tup [V.str (Str.ofString "sum " ++ Str.join bk (C6 N)++Str.ofString " = " ++ Str.join bk (C6 C)),V.ref r,V.int (-(D.getLastD 0))])=d0:=R;rw[R]at G b5 a1;refine⟨pt,us,_,rfl,rfl,G _ _ k1,by omega,?_⟩;exact SmI.mk' (x:=(D.dropLast,-(D.getLastD 0))) (G _ _ k1) (kM.same G) ⟨S,r,rfl,b5,a1⟩ cS a3 cl cq (by show D.dropLast.length=_;rw[List.length_dropLast];omega) (G _ _ kt) (d3.same G) (f6.trans G.off) a7 u c7
  .rintro σ H6 ⟨o3',o4',o5',us,L,q,rfl,c1,cM,cS,cl,cq,ct,P6,o6⟩;exact⟨_,rfl,k pt us L q H6 c1 cM cS (by omega) cq a7 P6 o6⟩
end
end K44
namespace K44
open PySem PySem.Spec PyProof.Rows L2
def TxL(H:Hp)(a:Addr)(L:List (List Str)):Prop:=H a=some (.lst ((L.map (Str.join bk)).map V.str))
structure MgI{α:Type}(A B C:List α)(O:List α)(Ls:List (List α)):Prop where
 ex:∃i j k,Ls=[A.drop i,B.drop j,C.drop k].filter (λl=>!l.isEmpty)/\∀R,Mg (A.drop i) (B.drop j) (C.drop k) R->Mg A B C (O++R)
theorem MgI.start{α:Type}(A B C:List α):MgI A B C [] ([A,B,C].filter λl=>!l.isEmpty):=⟨0,0,0,rfl,λR h=>h⟩
theorem MgI.done{α:Type}{A B C O:List α}(h:MgI A B C O []):Mg A B C O:=by
 obtain⟨i,j,k,e,h⟩:=h.ex;have h1:A.drop i=[]:=by
  cases q:A.drop i with
  |nil=>rfl
  |cons x r=>rw[q]at e;simp at e
 have h2:B.drop j=[]:=by
  cases q:B.drop j with
  |nil=>rfl
  |cons x r=>rw[q]at e;simp[h1]at e
 have a:C.drop k=[]:=by
  cases q:C.drop k with
  |nil=>rfl
  |cons x r=>rw[q]at e;simp[h1,h2]at e
 have:=h [] (by rw[h1,h2,a];exact .nil);simpa using this
theorem R9{α:Type}{A:List α}{i:Nat}{x:α}{r:List α}(h:A.drop i=x::r):A.drop (i+1)=r:=by
 rw[<-List.drop_drop,h];rfl
theorem a4q{β:Type}(p:β->Bool):∀{L:List β}{m:Nat}{y:β},(L.filter p)[m]?=some y->∃n,L[n]?=some y/\∀z,((L.filter p).set m z).filter p=(L.set n z).filter p
 |[],m,y,h=>by simp at h
 |l::L,m,y,h=>by
  by_cases e:p l=true
  .rw[List.filter_cons,if_pos e]at h;cases m with
   |zero =>
    refine⟨0,h,λz=>?_⟩;rw[List.filter_cons,if_pos e,List.set_cons_zero,List.set_cons_zero,List.filter_cons,List.filter_cons,List.filter_filter];simp
   |succ m =>
    obtain⟨n,h1,h2⟩:=a4q p (L:=L) h;refine⟨n+1,h1,λz=>?_⟩;rw[List.filter_cons,if_pos e,List.set_cons_succ,List.set_cons_succ,List.filter_cons,List.filter_cons,if_pos e,if_pos e,h2]
  .rw[List.filter_cons,if_neg e]at h;obtain⟨n,h1,h2⟩:=a4q p (L:=L) h;refine⟨n+1,h1,λz=>?_⟩;rw[List.filter_cons,if_neg e,List.set_cons_succ,List.filter_cons,if_neg e,h2]
theorem MgI.step{α:Type}{A B C O:List α}{Ls:List (List α)}{m:Nat}{x:α}{r:List α}(h:MgI A B C O Ls)(d:Ls[m]?=some (x::r)):MgI A B C (O++[x]) ((Ls.set m r).filter λl=>!l.isEmpty):=by
 obtain⟨i,j,k,e,h⟩:=h.ex;have key:∀a b c:List α,Ls=[a,b,c].filter (λl=>!l.isEmpty)->(a=x::r/\(Ls.set m r).filter (λl=>!l.isEmpty)=[r,b,c].filter λl=>!l.isEmpty)∨(b=x::r/\(Ls.set m r).filter (λl=>!l.isEmpty)=[a,r,c].filter λl=>!l.isEmpty)∨(c=x::r/\(Ls.set m r).filter (λl=>!l.isEmpty)=[a,b,r].filter λl=>!l.isEmpty):=by
  intro a b c e;subst e;obtain⟨n,hn,hs⟩:=a4q _ d;have hs:=hs r
  match n,hn with
  |0,hn=>exact .inl ⟨by simpa using hn,hs⟩
  |1,hn=>exact .inr (.inl ⟨by simpa using hn,hs⟩)
  |2,hn=>exact .inr (.inr ⟨by simpa using hn,hs⟩)
  |n+3,hn=>exact absurd hn (by simp)
 rcases key _ _ _ e with⟨q,e'⟩|⟨q,e'⟩|⟨q,e'⟩
 .refine⟨i+1,j,k,by rw[R9 q];exact e',λR hR=>?_⟩;rw[List.append_assoc];refine h ([x]++R) ?_;rw[q];rw[R9 q]at hR;exact .a hR
 .refine⟨i,j+1,k,by rw[R9 q];exact e',λR hR=>?_⟩;rw[List.append_assoc];refine h ([x]++R) ?_;rw[q];rw[R9 q]at hR;exact .b hR
 .refine⟨i,j,k+1,by rw[R9 q];exact e',λR hR=>?_⟩;rw[List.append_assoc];refine h ([x]++R) ?_;rw[q];rw[R9 q]at hR;exact .c hR
structure LsAt(H:Hp)(gs:List Addr)(Ls:List (List (List Str))):Prop where
 l:gs.length=Ls.length
 at_:∀(i:Nat) g,gs[i]?=some g->∃L,Ls[i]?=some L/\TxL H g L
theorem LsAt.keep{H H':Hp}{gs:List Addr}{Ls:List (List (List Str))}(h:LsAt H gs Ls)(k:∀g∈gs,∀o,H g=some o->H' g=some o):LsAt H' gs Ls:=⟨h.l,λi g e=>let ⟨L,a,b⟩:=h.at_ i g e;⟨L,a,k g (List.mem_of_getElem? e) _ b⟩⟩
theorem LsAt.snoc{H:Hp}{gs:List Addr}{Ls:List (List (List Str))}{g:Addr}{L:List (List Str)}(h:LsAt H gs Ls)(d:TxL H g L):LsAt H (gs++[g]) (Ls++[L]):=by
 refine⟨by simp[h.l],λi u e=>?_⟩;rcases Nat.lt_or_ge i gs.length with hi|hi
 .rw[List.getElem?_append_left hi]at e;obtain⟨c,a,b⟩:=h.at_ i u e;exact⟨c,by rw[List.getElem?_append_left (by rw[<-h.l];exact hi)];exact a,b⟩
 .rw[List.getElem?_append_right hi]at e;have:i-gs.length=0:=by
   have:=(List.getElem?_eq_some_iff.mp e).1;simpa using this
  rw[this]at e;cases e;exact⟨L,by rw[List.getElem?_append_right (by rw[<-h.l];exact hi),<-h.l,this];rfl,d⟩
def a0v(Ls:List (List (List Str))):Nat:=(Ls.map List.length).sum
theorem a9j{Ls:List (List (List Str))}{m:Nat}{x:List Str}{r:List (List Str)}(h:Ls[m]?=some (x::r)):a0v (Ls.set m r)+1=a0v Ls:=by
 induction Ls generalizing m with
 |nil=>cases h
 |cons l Ls a =>
  cases m with
  |zero=>cases h;simp[a0v];omega
  |succ m =>
   have:=a h;simp only[a0v,List.set_cons_succ,List.map_cons,List.sum_cons]at this⊢;omega
theorem a2c(Ls:List (List (List Str))):a0v (Ls.filter λl=>!l.isEmpty)=a0v Ls:=by
 induction Ls with
 |nil=>rfl
 |cons l Ls a =>
  rw[List.filter_cons];cases l with
  |nil=>simp[a0v]at a⊢;exact a
  |cons x r=>simp[a0v]at a⊢;exact a
theorem EqV.empty{K:PySem.W.Frag}{H:Hp}{a b:Addr}{xs:List V}(c:SqL K H a xs)(d:SqL K H b []):EqV K H 1 (.ref a) (.ref b) (xs.length==0):=by
 have:=EqV.lst (n:=0) (λ_=>true) c d λj x y _ e=>by cases e
 simpa using this
section
variable {P:Program}{w:World}{K:PySem.W.Frag}{mg:Str->Option Value}{base:Heap}
theorem a6T{src:List (Option Nat)}{σ caps:L2.St}{Q:VK}{H:Hp}{l:Addr}{gs:List Addr}{Ls:List (List (List Str))}(E:H l=some (.lst (gs.map V.ref)))(u:LsAt H gs Ls)(hn:gs.length<=1000)(m:D6 src σ=none::caps)(te:TE)
  (R:Hp->Nat->List Addr->Prop) (h0:R H 0 [])
  (q:∀(i:Nat) g L zs H1 (N:VK),gs[i]?=some g->Ls[i]?=some L->TxL H1 g L->L≠[]->Same H H1->R H1 i zs->(∀y H2,Same H1 H2->TxL H2 y L->R H2 (i+1) (zs++[y])->N (.ref y) H2)->te (some (.ref g)::caps) H1 N)
  (A:∀H1 i zs,R H1 i zs->R H1 (i+1) zs) (hR:∀H1 H2 i zs,Same H1 H2->R H1 i zs->R H2 i zs)
  (hd:∀H1 p zs,Same H H1->R H1 gs.length zs->LsAt H1 zs (Ls.filter λl=>!l.isEmpty)->H1 p=none->Q (.ref p) (upd H1 p (.lst (zs.map V.ref)))) :
  U8 src (B1 0) (O7 (tOp (a2T K true) (U9 0) (a2P a0P))) te σ Q (Itl K l) H:=by
 have J:(1000:Nat)<=sizeLine:=by rw[sizeLine_eq];decide
 refine a1r (K:=K) (a:=l) (xs:=gs.map V.ref) (by rw[List.length_map];omega) (λi vs H'=>∃zs,vs=zs.map V.ref/\Same H H'/\R H' i zs/\LsAt H' zs ((Ls.take i).filter λl=>!l.isEmpty)/\zs.length<=i) ⟨[],rfl,Same.refl H,h0,⟨rfl,λi g e=>(by cases e)⟩,Nat.le_refl _⟩ (λi vs H' _ ⟨zs,e,s,_,_,d⟩=>⟨SqL.of (s _ _ E),by rw[e,List.length_map];exact d⟩) ?_ ?_
 .rintro i v vs H1 hv ⟨zs,rfl,s1,r1,L1,d⟩;rw[List.getElem?_map]at hv;obtain⟨g,w,rfl⟩:=Option.map_eq_some_iff.mp hv;obtain⟨L,j,B⟩:=u.at_ i g w;show Sub _ ((D6 src σ).set 0 (some (.ref g)))/\_;rw[m];have k:TxL H1 g L:=s1 _ _ B;refine⟨Sub.one,_,rfl,Nat.zero_le _,λe D=>?_⟩;have c:=(Same.refl H1).upd (o:=.lst []) D;have t:EqV K (upd H1 e (.lst [])) 1 (.ref g) (.ref e) (((L.map (Str.join bk)).map V.str).length==0):=EqV.empty (SqL.of (c _ _ k)) (SqL.of A0);generalize upd H1 e (.lst [])=H2 at c t;refine⟨1,_,by decide,t,⟨_,_,rfl,rfl⟩,_,rfl,?_⟩;rw[if_pos rfl];have n:∀b,L.isEmpty=b->(Ls.take (i+1)).filter (λl=>!l.isEmpty)=(Ls.take i).filter (λl=>!l.isEmpty)++if b=true then[] else[L]:=λb C=>by
   rw[List.take_add_one,j,List.filter_append];congr 1;show[L].filter _=_;rw[List.filter_cons,C];cases b<;>rfl
  have f:LsAt H2 zs ((Ls.take i).filter λl=>!l.isEmpty):=L1.keep λg _ o h=>c _ _ h;cases L with
  |nil =>
   show if (!(0==0))=true then _ else _
   refine Y9 ⟨zs,rfl,s1.trans c,A _ _ _ (hR _ _ _ _ c r1),?_,by omega⟩;rw[n true rfl];simpa using f
  |cons x r =>
   rw[show(!((((x::r).map (Str.join bk)).map V.str).length==0))=true by simp];refine a0I (q i g (x::r) zs H2 _ w j (c _ _ k) (by simp) (s1.trans c) (hR _ _ _ _ c r1) λy I z G F=>⟨zs++[y],by simp,(s1.trans c).trans z,F,?_,by simp;omega⟩);rw[n false rfl];exact(f.keep λg _ o h=>z _ _ h).snoc G
 .rintro vs H1 ⟨zs,rfl,s1,r1,L1,d⟩ p hp;rw[List.length_map]at r1;rw[List.length_map,u.l,List.take_length]at L1;exact hd H1 p zs s1 r1 L1 hp
end
structure MgW(H0 H:Hp)(a b gl lp:Addr)(gs:List Addr)(A B C O:List (List Str))(Ls:List (List (List Str))):Prop where
 hg:H gl=some (.lst (gs.map V.ref))
 hL:LsAt H gs Ls
 nd:gs.Nodup
 fr:∀g∈gs,H0 g=none/\g∉[a,b]/\g≠lp
 hl:TxL H lp O
 fl:H0 lp=none
 ql:lp∉[a,b]
 qg:gl∉[a,b]
 I:MgI A B C O Ls
 ne:∀L∈Ls,L≠[]
 P:PotAt H a b
 off:Off [a,b] H0 H
 N:a0v Ls+O.length<=1000
section
variable {P:Program}{w:World}{K:PySem.W.Frag}{mg:Str->Option Value}{base:Heap}
def b7H:Sp:=λvs H Q _=>∃(a b r x y z:Addr) (A B C:List (List Str)),vs=[.ref a,.ref r]/\PotAt H a b/\H r=some (.lst [.ref x,.ref y,.ref z])/\TxL H x A/\TxL H y B/\TxL H z C/\A.length+B.length+C.length<=1000 /\
 ∀p O H',Mg A B C O->TxL H' p O->H p=none->PotAt H' a b->Off [a,b] H H'->Q (.ref p) H'
theorem sc__law_mingled:FnScope ["_law_pot_here","_law_rows","_law_left","_law_lines"] ["_law_pot_here","_law_rows"] (A8 N1):=⟨rfl,rfl,rfl,by decide +kernel,rfl,by decide +kernel,by decide +kernel⟩
theorem a5U(F:FunAt K mg "_law_mingled" N1 ["_law_pot_here","_law_rows"])(T:Tx mg)(D:Ok P w K mg base "_law_next" 1 ["_law_pot_here","_law_many"] T5):Ok P w K mg base "_law_mingled" 2 ["_law_pot_here","_law_rows"] b7H:=by
 refine F.okJ sc__law_mingled (λvs H Q E h=>?_) (λc1 f A outer s H vs Q E hr h=>?_)
 .obtain⟨a,b,r,x,y,z,A,B,C,rfl,_⟩:=h;rfl
 .obtain⟨a,b,r,x,y,z,A',B,C,rfl,hP,hr',hx,hy,hzz,hlen,k⟩:=h;have hz:(100000:Nat)<=sizeLine:=by rw[sizeLine_eq];decide
  have X:=hr.u60;refine⟨_,(A1 (a0n (i:=2) sc__law_mingled.nd rfl (Or.inl rfl) (N:=["_law_row"]) (src:=[none]) (L7 K (jv 1)) (by show K6 _ _=true;rfl) (by rfl) (by rfl)
 (λ_ _ _ _ _=>(C3 (i:=0) (show(["_law_row"]:List Str).Nodup by decide +kernel) rfl (Or.inl rfl))) (λ_ _ _ _ _=>(a6c (a4h K X (jv 0) (C5 jaN)))) (λ_ _ _ _ _=>(a6W K rfl T.b_list (jaC (jv 0) jaN))))
 (A1 (B7 (i:=3) sc__law_mingled.nd rfl (Or.inl rfl) (C5 jaN))
 (A1 (b0w (a4h K X (jv 2) (C5 jaN))
 (A1 (G8 (G5 K (jv 3) (jaC (a1b K (K4 K (jv 2) (C0 D (hr.mono (by omega)) rfl (jaC (jv 0) (jaC (D7 K rfl T.b_len (jaC (jv 2) jaN)) jaN)))) (jaC A4 jaN)) jaN)))
 (A9 (a0n (i:=2) sc__law_mingled.nd rfl (Or.inl rfl) (N:=["_law_row"]) (src:=[none]) (L7 K (jv 2)) (by show K6 _ _=true;rfl) (by rfl) (by rfl)
 (λ_ _ _ _ _=>(C3 (i:=0) (show(["_law_row"]:List Str).Nodup by decide +kernel) rfl (Or.inl rfl))) (λ_ _ _ _ _=>(a6c (a4h K X (jv 0) (C5 jaN)))) (λ_ _ _ _ _=>(jv 0))))))
 (A9 (C2 (jv 3)))))),?_⟩
  refine⟨_,rfl,r,rfl,⟨_,SqL.of hr'⟩,?_⟩;have b3:LsAt H [x,y,z] [A',B,C]:=⟨rfl,λi g e=>by
   match i,e with
   |0,e=>cases e;exact⟨A',rfl,hx⟩
   |1,e=>cases e;exact⟨B,rfl,hy⟩
   |2,e=>cases e;exact⟨C,rfl,hzz⟩⟩
  refine a6T (l:=r) (gs:=[x,y,z]) (caps:=[]) hr' b3 (by show 3<=1000;decide) rfl _ (λH' _ zs=>zs.Nodup/\∀z∈zs,H z=none/\∃o,H' z=some o) ⟨List.nodup_nil,λz hz=>(nomatch hz)⟩ ?_ (λ_ _ _ h=>h) (λH1 H2 i zs c0 ⟨r2,r3⟩=>⟨r2,λz hz=>⟨(r3 z hz).1,let ⟨o,ho⟩:=(r3 z hz).2;⟨o,c0 _ _ ho⟩⟩⟩) ?_
  .rintro i g L zs H1 N hg hL hT Y s1 ⟨r2,r3⟩ q;refine⟨_,rfl,g,_,rfl,.inl (SqL.of hT),λl hl=>?_⟩;have s2:=(Same.refl H1).upd (o:=.lst ((L.map (Str.join bk)).map V.str)) hl;refine q l _ s2 A0 ⟨?_,λz hz=>?_⟩
   .rw[List.nodup_append];refine⟨r2,by simp,λu X v hv=>?_⟩;rw[List.mem_singleton.mp hv];obtain⟨_,o,ho⟩:=r3 u X;exact B0 ho hl
   .rcases List.mem_append.mp hz with q|q
    .obtain⟨h1,o,h2⟩:=r3 z q;exact⟨h1,o,s2 _ _ h2⟩
    .rw[List.mem_singleton.mp q];exact⟨s1.free hl,_,A0⟩
  .rintro H1 j d s1 ⟨r2,r3⟩ L1 U;have s2:=s1.upd (o:=.lst (d.map V.ref)) U;have k2:=(Same.refl H1).upd (o:=.lst (d.map V.ref)) U;have e2:upd H1 j (.lst (d.map V.ref)) j=some (.lst (d.map V.ref)):=A0;have a1:LsAt (upd H1 j (.lst (d.map V.ref))) d _:=L1.keep λg _ o h=>k2 _ _ h;have P2:=hP.same s2;have qg:j∉[a,b]:=C7 (hP.same s1) U;generalize upd H1 j (.lst (d.map V.ref))=H2 at s2 e2 a1 P2 k2;dsimp only[B1];refine⟨Nat.zero_le _,λn J=>?_⟩;have s3:=s2.upd (o:=.lst []) J;have k3:=(Same.refl H2).upd (o:=.lst []) J;have W0:MgW H (upd H2 n (.lst [])) a b j n d A' B C [] ([A',B,C].filter λl=>!l.isEmpty):=by
    refine⟨k3 _ _ e2,a1.keep λg _ o h=>k3 _ _ h,r2,λg hg=>?_,A0,s2.free J,C7 P2 J,qg,MgI.start A' B C,λL hL=>?_,hP.same s3,s3.off,?_⟩
    .obtain⟨h1,o,h2⟩:=r3 g hg;refine⟨h1,λz=>?_,B0 (k2 _ _ h2) J⟩;obtain⟨_,cs,l,t,kk,p1,p2⟩:=hP;simp only[List.mem_cons,List.not_mem_nil,or_false]at z;rcases z with z|z
     .rw[z,p1]at h1;cases h1
     .rw[z,p2]at h1;cases h1
    .have:=(List.mem_filter.mp hL).2;intro z;rw[z]at this;cases this
    .rw[a2c];simp[a0v];omega
   generalize upd H2 n (.lst [])=H3 at W0;clear s1 s2 s3 k2 k3 e2 a1 P2 L1 r2 r3 U J;dsimp only[B1];refine a0S (λσ H'=>∃j O,σ=[some (.ref a),some (.ref r),some (.ref j),some (.ref n)]/\MgW H H' a b j n [] A' B C O []) ?fin λfin=>?_
   case fin =>
    rintro σ H' ⟨j,O,rfl,W⟩;exact⟨_,rfl,k n O H' W.I.done W.hl W.fl W.P W.off⟩
   refine⟨λm σ H'=>∃j d O R,m=a0v R/\σ=[some (.ref a),some (.ref r),some (.ref j),some (.ref n)]/\MgW H H' a b j n d A' B C O R,⟨_,j,d,[],_,rfl,rfl,W0⟩,?_⟩;rintro m σ H4 ⟨j,d,O,R,rfl,rfl,W⟩;refine⟨_,rfl,Nat.zero_le _,λe he=>?_⟩;have s5:=(Same.refl H4).upd (o:=.lst []) he;have hE:EqV K (upd H4 e (.lst [])) 1 (.ref j) (.ref e) ((d.map V.ref).length==0):=EqV.empty (SqL.of (s5 _ _ W.hg)) (SqL.of A0);have c:MgW H (upd H4 e (.lst [])) a b j n d A' B C O R:=⟨s5 _ _ W.hg,W.hL.keep λg _ o h=>s5 _ _ h,W.nd,W.fr,s5 _ _ W.hl,W.fl,W.ql,W.qg,W.I,W.ne,W.P.same s5,W.off.trans s5.off,W.N⟩;generalize upd H4 e (.lst [])=H5 at hE c;clear W s5 he;refine⟨1,_,by decide,hE,⟨_,_,rfl,rfl⟩,_,rfl,?_⟩;rw[if_pos rfl,List.length_map];cases d with
   |nil =>
    have a8:R=[]:=List.length_eq_zero_iff.mp c.hL.l.symm;subst a8;exact Y9 (fin _ _ ⟨j,O,rfl,c⟩)
   |cons g0 gs' =>
    rw[show(!((g0::gs').length==0))=true by simp];refine a0I ⟨λσ' H'=>∃j d O S,a0v S<a0v R/\σ'=[some (.ref a),some (.ref r),some (.ref j),some (.ref n)]/\MgW H H' a b j n d A' B C O S,λσ' H' ⟨j,d,O,S,h1,h2,h3⟩=>⟨a0v S,h1,j,d,O,S,rfl,h2,h3⟩,?_⟩;generalize a3:g0::gs'=d at c;have U:0<d.length:=by rw[<-a3];simp
    have b6:=c.hL.l;have a8:∀(i:Nat) L,R[i]?=some L->1<=L.length:=λi L h=>List.length_pos_iff.mpr (c.ne L (List.mem_of_getElem? h));have b8:d.length<=1000:=by
     have h1:∀M:List (List (List Str)),(∀L∈M,L≠[])->M.length<=a0v M:=λM=>by
      induction M with
      |nil=>intro _;exact Nat.le_refl _
      |cons l M ih =>
       intro h;have:=ih λL hL=>h L (List.mem_cons_of_mem _ hL);have h2:=List.length_pos_iff.mpr (h l List.mem_cons_self);simp only[a0v,List.map_cons,List.sum_cons,List.length_cons]at this⊢;omega
     have:=h1 R c.ne;have:=c.N;omega
    refine⟨_,rfl,.inl ⟨rfl,_,SqL.of c.hl⟩,_,rfl,_,rfl,_,rfl,j,_,rfl,.inl (SqL.of c.hg),a,b,_,rfl,c.P,by rw[List.length_map];omega,Int.lt_of_le_of_lt (show((d.map V.ref).length:Int)<=1000 by rw[List.length_map];omega) (by decide +kernel),λr6 Z c2 b2 P6 f6=>?_⟩;rw[List.length_map]at b2;obtain⟨mm,rfl⟩:∃g:Nat,r6=g:=⟨r6.toNat,by omega⟩;have b7:mm<d.length:=by omega
    have I:=List.getElem?_eq_getElem b7;generalize d[mm]=g at I;obtain⟨L,a2,a9⟩:=c.hL.at_ mm g I;obtain⟨G,rr,rfl⟩:∃x r,L=x::r:=by
     cases L with
     |nil=>exact absurd rfl (c.ne _ (List.mem_of_getElem? a2))
     |cons x r=>exact⟨x,r,rfl⟩
    obtain⟨fg,b1,a0⟩:=c.fr g (List.mem_of_getElem? I);have b0:g≠j:=λz=>by
     have h1:=c.hg;rw[<-z,show H5 g=some (.lst (((G::rr).map (Str.join bk)).map V.str))from a9,<-a3]at h1;injection h1 with h1
     injection h1 with h1
     injection h1 with h1
     cases h1
    have g6:=f6 _ _ c.qg c.hg;have t6:TxL Z g (G::rr):=f6 _ _ b1 a9;have l6:TxL Z n O:=f6 _ _ c.ql c.hl;have b4:LsAt Z d R:=c.hL.keep λg hg o h=>f6 _ _ (c.fr g hg).2.1 h;have o6:=c.off.trans f6;refine⟨j,_,_,_,rfl,rfl,SqL.of g6,(show atI (d.map V.ref) (mm:Int)=some (V.ref g)from F0 (by rw[List.getElem?_map,I];rfl)),.inl ⟨rfl,_,SqL.of t6⟩,g,_,0,0,_,rfl,rfl,t6,by decide,by decide,by simp[seqIndex?],rfl,?_⟩;have a6:upd Z g (.lst ((((G::rr).map (Str.join bk)).map V.str).eraseIdx 0)) g=some (.lst ((rr.map (Str.join bk)).map V.str)):=by rw[A0];rfl
    have k7:∀{b':Addr}{o':HO},Z b'=some o'->b'≠g->upd Z g (.lst ((((G::rr).map (Str.join bk)).map V.str).eraseIdx 0)) b'=some o':=λh Y=>by rw[A5 Y];exact h
    have P7:=N3 (o:=.lst ((((G::rr).map (Str.join bk)).map V.str).eraseIdx 0)) P6 b1;have o7:=W3 (p:=g) (o:=.lst ((((G::rr).map (Str.join bk)).map V.str).eraseIdx 0)) o6 fg;generalize upd Z g (.lst ((((G::rr).map (Str.join bk)).map V.str).eraseIdx 0))=H7 at a6 k7 P7 o7;have l7:TxL H7 n O:=k7 l6 a0.symm;refine⟨n,_,_,rfl,rfl,l7,by rw[List.length_map,List.length_map];have:=c.N;omega,?_⟩;have a7:upd H7 n (.lst ((O.map (Str.join bk)).map V.str++[V.str (Str.join bk G)])) n=some (.lst (((O++[G]).map (Str.join bk)).map V.str)):=by rw[A0];simp
    have k8:∀{b':Addr}{o':HO},H7 b'=some o'->b'≠n->upd H7 n (.lst ((O.map (Str.join bk)).map V.str++[V.str (Str.join bk G)])) b'=some o':=λh Y=>by rw[A5 Y];exact h
    have P8:=N3 (o:=.lst ((O.map (Str.join bk)).map V.str++[V.str (Str.join bk G)])) P7 c.ql;have o8:=W3 (p:=n) (o:=.lst ((O.map (Str.join bk)).map V.str++[V.str (Str.join bk G)])) o7 c.fl;generalize upd H7 n (.lst ((O.map (Str.join bk)).map V.str++[V.str (Str.join bk G)]))=H8 at a7 k8 P8 o8;have a4:j≠n:=λz=>by
     have h1:=g6;rw[z,show Z n=some (.lst ((O.map (Str.join bk)).map V.str))from l6,<-a3]at h1;injection h1 with h1
     injection h1 with h1
     cases O with
     |nil=>cases h1
     |cons o O=>injection h1 with h1;cases h1
    have g8:=k8 (k7 g6 b0.symm) a4;have hp:=List.pairwise_iff_getElem.mp c.nd;have b5:LsAt H8 d (R.set mm rr):=by
     refine⟨by rw[List.length_set];exact b6,λi u X=>?_⟩;by_cases e:i=mm
     .subst e;rw[I]at X;cases X;exact⟨rr,by rw[List.getElem?_set,if_pos rfl,if_pos (by omega)],k8 a6 a0⟩
     .obtain⟨L',h1,h2⟩:=b4.at_ i u X;refine⟨L',by rw[List.getElem?_set,if_neg λz=>e z.symm];exact h1,k8 (k7 h2 λz=>?_) (c.fr u (List.mem_of_getElem? X)).2.2⟩;obtain⟨h3,h4⟩:=List.getElem?_eq_some_iff.mp X;obtain⟨h5,h6⟩:=List.getElem?_eq_some_iff.mp I;rcases Nat.lt_or_gt_of_ne e with q|q
      .exact hp _ _ h3 h5 q (by rw[h4,h6,z])
      .exact hp _ _ h5 h3 q (by rw[h4,h6,z])
    dsimp only;refine⟨_,rfl,j,rfl,⟨_,SqL.of g8⟩,?_⟩;refine a6T (l:=j) (gs:=d) (Ls:=R.set mm rr) (caps:=[]) g8 b5 b8 rfl _ (λH' i zs=>zs.Sublist (d.take i)) (by simp) ?_ (λH1 i zs h=>h.trans (List.take_sublist_take_left (by omega))) (λ_ _ _ _ _ h=>h) ?_
    .rintro i g' L' zs H9 N hg' hL' hT' hne' s9 hsub q;refine⟨_,rfl,q g' H9 (Same.refl _) hT' ?_⟩;rw[List.take_add_one,hg'];exact hsub.append (List.Sublist.refl _)
    .rintro H9 p9 zs s9 hsub hLz hp9;rw[List.take_length]at hsub;have a5:=s9.upd (o:=.lst (zs.map V.ref)) hp9;have b9:=(Same.refl H9).upd (o:=.lst (zs.map V.ref)) hp9;dsimp only[B1];have c3:=a9j a2;refine⟨p9,zs,O++[G],_,?_,rfl,⟨A0,hLz.keep λg _ o h=>b9 _ _ h,c.nd.sublist hsub,λg hg=>c.fr g (hsub.mem hg),a5 _ _ a7,c.fl,c.ql,C7 (P8.same s9) hp9,c.I.step a2,λL hL=>?_,P8.same a5,o8.trans a5.off,?_⟩⟩
     .rw[a2c];omega
     .have:=(List.mem_filter.mp hL).2;intro z;rw[z]at this;cases this
     .rw[a2c,List.length_append];have:=c.N;simp only[List.length_singleton];omega
end
end K44
namespace K44
open PySem PySem.Spec PyProof.Rows L2
structure NbI(ns R:List Str)(qs:List (Str×Int)):Prop where
 rn:R.Nodup
 qn:(qs.map (·.1)).Nodup
 dj:∀x∈R,x∉qs.map (·.1)
 ri:∀x∈R,x∈ns
 qi:∀q∈qs,q.1∈ns/\0<=q.2/\q.2<=topN
theorem NbI.step{ns R:List Str}{d:List (Str×Int)}{k:Nat}{n:Str}{x:Int}(h:NbI ns R d)(c:R[k]?=some n)(h1:0<=x)(h2:x<=topN):NbI ns (R.eraseIdx k) (d++[(n,x)]):=by
 have hn:n∈R:=List.mem_of_getElem? c;have a:(R.eraseIdx k).Sublist R:=List.eraseIdx_sublist ..;refine⟨h.rn.sublist a,?_,λy b=>?_,λy b=>h.ri y (a.mem b),λq e=>?_⟩
 .rw[List.map_append,List.nodup_append];refine⟨h.qn,by simp,λu f v g=>?_⟩;rw[show v=n by simpa using g];exact λz=>h.dj n hn (by rw[<-z];exact f)
 .rw[List.map_append,List.mem_append];rintro(z|z)
  .exact h.dj y (a.mem b) z
  .have:y=n:=by simpa using z
   rw[this]at b;exact a5b h.rn c b
 .rcases List.mem_append.mp e with z|z
  .exact h.qi q z
  .rw[List.mem_singleton.mp z];exact⟨h.ri n hn,h1,h2⟩
def a4d(w1:Str)(q:Str×Int):List Str:=[w1,q.1,D8 q.2]
section
variable {P:Program}{w:World}{K:PySem.W.Frag}{mg:Str->Option Value}{base:Heap}
def b7G:Sp:=λvs H Q _=>∃(a b t:Addr) (ns:List Str) (w1:Str),vs=[.ref a,.str w1,.ref t]/\PotAt H a b/\H t=some (.tup (ns.map V.str))/\Nms ns/\ns.length<=7/\w1.length<=20 /\
 ∀q lp dp qs H',H' q=some (.tup [.ref lp,.ref dp])->TxL H' lp (qs.map (a4d w1))->H' dp=some (.dK (M0 qs))->NumOk ns qs->H lp=none->H dp=none->PotAt H' a b->Off [a,b] H H'->Q (.ref q) H'
theorem sc__law_numbered:FnScope ["_law_pot_here","_law_word","_law_names_here","_law_left","_law_lines","_law_numbers","_law_k","_law_name"] ["_law_pot_here","_law_word","_law_names_here"] (A8 M4):=⟨rfl,rfl,rfl,by decide +kernel,rfl,by decide +kernel,by decide +kernel⟩
theorem a4Y(F:FunAt K mg "_law_numbered" M4 ["_law_pot_here","_law_word","_law_names_here"])(T:Tx mg)(c:Ok P w K mg base "_law_next" 1 ["_law_pot_here","_law_many"] T5)(v:Ok P w K mg base "_law_of" 2 ["_law_pot_here","_law_some"] a5N):Ok P w K mg base "_law_numbered" 3 ["_law_pot_here","_law_word","_law_names_here"] b7G:=by
 refine F.okJ sc__law_numbered (λvs H Q E h=>?_) (λc7 f A outer s H vs Q E X h=>?_)
 .obtain⟨a,b,t,ns,w1,rfl,_⟩:=h;rfl
 .obtain⟨a,b,t,ns,w1,rfl,hP,ht,hnm,h7,hw1,k⟩:=h;have hz:(100000:Nat)<=sizeLine:=by rw[sizeLine_eq];decide
  have hu:=X.u60;refine⟨_,(A1 (B7 (i:=3) sc__law_numbered.nd rfl (Or.inl rfl) (a6W K rfl T.b_list (jaC (jv 2) jaN)))
 (A1 (B7 (i:=4) sc__law_numbered.nd rfl (Or.inl rfl) (C5 jaN))
 (A1 (B7 (i:=5) sc__law_numbered.nd rfl (Or.inl rfl) a4m)
 (A1 (T8 (R8 rfl T.b_range (jaC (C0 c (X.mono (by omega)) rfl (jaC (jv 0) (jaC (J3 (D7 K rfl T.b_len (jaC (jv 2) jaN)) A4) jaN))) jaN)) (C3 (i:=6) sc__law_numbered.nd rfl (Or.inl rfl))
 (A1 (B7 (i:=7) sc__law_numbered.nd rfl (Or.inl rfl) (a1b K (jv 3) (jaC (C0 c (X.mono (by omega)) rfl (jaC (jv 0) (jaC (D7 K rfl T.b_len (jaC (jv 3) jaN)) jaN))) jaN)))
 (A1 (a0o hu (jv 5) (jv 7) (C0 v (X.mono (by omega)) rfl (jaC (jv 0) (jaC (C5 (jaC A4 (jaC A4 (jaC (a1c A4 A4) (jaC (C0 c (X.mono (by omega)) rfl (jaC (jv 0) (jaC (a1c A4 A4) jaN))) (jaC (C0 c (X.mono (by omega)) rfl (jaC (jv 0) (jaC A4 jaN))) jaN)))))) jaN))))
 (A9 (G8 (G5 K (jv 4) (jaC (C4 (C4 (C4 (C4 (jv 1) A2) (jv 7)) A2) (a1N rfl T.b_str (jaC (U4 hu (jv 5) (jv 7)) jaN))) jaN)))))))
 (A9 (C2 (J2 (jaC (jv 4) (jaC (jv 5) jaN))))))))),?_⟩
  refine⟨_,rfl,t,_,rfl,.inr (SqT.of ht),λpl hpl=>?_⟩;have s1:=(Same.refl H).upd (o:=.lst (ns.map V.str)) hpl;have e1:upd H pl (.lst (ns.map V.str)) pl=some (.lst (ns.map V.str)):=A0;generalize upd H pl (.lst (ns.map V.str))=H1 at s1 e1;dsimp only[B1];refine⟨Nat.zero_le _,λB C=>?_⟩;have f2:H B=none:=s1.free C;have s2:=s1.upd (o:=.lst []) C;have k2:=(Same.refl H1).upd (o:=.lst []) C;have e2:upd H1 B (.lst []) B=some (.lst []):=A0;have M:=k2 _ _ e1;have a6:pl≠B:=B0 e1 C;generalize upd H1 B (.lst [])=H2 at s2 e2 M;dsimp only[B1];refine λr I=>?_;have f3:H r=none:=s2.free I;have s3:=s2.upd (o:=.dK []) I;have k3:=(Same.refl H2).upd (o:=.dK []) I;have e3:upd H2 r (.dK []) r=some (.dK []):=A0;have a0:=k3 _ _ M;have a1:=k3 _ _ e2;generalize upd H2 r (.dK [])=H3 at s3 e3 a0 a1;dsimp only[B1];have P3:=hP.same s3;have b9:=s3 _ _ ht;have o3:Off [a,b] H H3:=s3.off;have ql:=C7 hP f2;have qd:=C7 hP f3;have qp:pl∉[a,b]:=C7 hP hpl;clear s1 s2 s3 k2 k3 e1 e2 M C I;refine⟨_,rfl,_,rfl,t,_,rfl,.inr (SqT.of b9),_,_,rfl,rfl,a,b,_,rfl,P3,by omega,Int.lt_of_le_of_lt (show((ns.map V.str).length:Int)+1<=8 by rw[List.length_map];omega) (by decide +kernel),λr4 H4 c8 b0 P4 f4=>?_⟩;rw[List.length_map]at b0;obtain⟨m,rfl⟩:∃g:Nat,r4=g:=⟨r4.toNat,by omega⟩;refine⟨m,rfl,by omega,by omega,?_⟩;rw[Int.toNat_natCast];refine X5 (lo:=0) (n:=m) (λi σ H'=>∃o6 U R,∃d:List (Str×Int),σ=[some (.ref a),some (.str w1),some (.ref t),some (.ref pl),some (.ref B),some (.ref r),o6,U]/\H' pl=some (.lst (R.map V.str))/\TxL H' B (d.map (a4d w1))/\H' r=some (.dK (M0 d))/\NbI ns R d/\R.length+i=ns.length/\d.length=i/\PotAt H' a b/\Off [a,b] H H') ⟨_,_,ns,[],rfl,f4 _ _ qp a0,f4 _ _ ql a1,f4 _ _ qd e3,⟨hnm.nd,by simp,λx _ z=>(nomatch z),λx hx=>hx,λq hq=>(nomatch hq)⟩,rfl,rfl,P4,o3.trans f4⟩ ?_ ?_
  .rintro i σ H5 hi ⟨o6,U,R,d,rfl,c1,c2,c3,hN,hRl,hql,P5,o5⟩;have hR:0<R.length:=by omega
   dsimp only[B1];refine⟨_,rfl,.inl ⟨rfl,_,SqL.of c1⟩,_,rfl,_,rfl,pl,_,rfl,.inl (SqL.of c1),a,b,_,rfl,P5,by rw[List.length_map];omega,Int.lt_of_le_of_lt (show((R.map V.str).length:Int)<=1000 by rw[List.length_map];omega) (by decide +kernel),λr6 H6 b1 a4 P6 N=>?_⟩;rw[List.length_map]at a4;obtain⟨j,rfl⟩:∃g:Nat,r6=g:=⟨r6.toNat,by omega⟩;have hj:j<R.length:=by omega
   have J:=List.getElem?_eq_getElem hj;have L:=hnm.nm _ (hN.ri _ (List.getElem_mem hj));generalize c9:R[j]=n at J L;refine⟨pl,_,_,j,V.str n,rfl,rfl,N _ _ qp c1,by omega,by omega,by rw[List.length_map];exact seqIndex_of (by omega) (by omega),by rw[List.getElem?_map,J];rfl,?_⟩;have d1:upd H6 pl (.lst ((R.map V.str).eraseIdx j)) pl=some (.lst ((R.eraseIdx j).map V.str)):=by rw[A0,a6n]
   have d2:upd H6 pl (.lst ((R.map V.str).eraseIdx j)) B=some (.lst (((d.map (a4d w1)).map (Str.join bk)).map V.str)):=by rw[A5 a6.symm];exact N _ _ ql c2
   have d3:upd H6 pl (.lst ((R.map V.str).eraseIdx j)) r=some (.dK (M0 d)):=by rw[A5 (T7 (N _ _ qd c3) (N _ _ qp c1) (by intro z;cases z))];exact N _ _ qd c3
   have P7:=N3 (o:=.lst ((R.map V.str).eraseIdx j)) P6 qp;have U:=W3 (p:=pl) (o:=.lst ((R.map V.str).eraseIdx j)) (o5.trans N) hpl;generalize upd H6 pl (.lst ((R.map V.str).eraseIdx j))=H7 at d1 d2 d3 P7 U;clear c1 c2 c3 N P6 P5 o5 b1 a4;dsimp only[B1];refine⟨_,rfl,_,_,rfl,rfl,⟨by decide,by decide,by decide⟩,?_⟩;refine⟨_,rfl,_,_,rfl,rfl,⟨by decide,by decide,by decide⟩,a,b,_,rfl,P7,by decide,by decide +kernel,λr8 H8 b2 O P8 f8=>⟨_,rfl,a,b,9,rfl,P8,by decide,by decide +kernel,λr9 H9 b3 b4 P9 f9=>⟨by show 5<=sizeLine;omega,λc6 D=>?_⟩⟩⟩;have O:r8<1000000000000:=O;have W:=(Same.refl H9).upd (o:=.lst [V.int 0,V.int 1,V.int (10 ^ Int.toNat 12),V.int r8,V.int r9]) D;have a3:=f8.trans f9;refine⟨a,b,c6,_,rfl,P9.same W,A0,C7 P9 D,by show 0<5;decide,by show 5<=1000;decide,λrv G S a9 a2=>?_⟩;have u:=(a3.trans W.off).trans a2;obtain⟨y,rfl,y1,y2⟩:∃y:Int,rv=V.int y/\0<=y/\y<=topN:=by
    simp only[List.mem_cons,List.not_mem_nil,or_false]at S;rcases S with e|e|e|e|e
    .exact⟨_,e,by decide,by decide⟩
    .exact⟨_,e,by decide,by decide⟩
    .exact⟨_,e,by decide,by decide⟩
    .exact⟨_,e,by omega,by unfold topN;omega⟩
    .exact⟨_,e,by omega,by unfold topN;omega⟩
   have g1:=u _ _ qp d1;have g2:=u _ _ ql d2;have g3:=u _ _ qd d3;have c5:=U.trans u;clear f8 f9 a3 W a2 u P7 P8 P9 D b2 O b3 b4 d1 d2 d3 U S;have a5:n∉d.map (·.1):=hN.dj n (List.mem_of_getElem? J);have b5:=hN.step J y1 y2;refine⟨_,rfl,_,rfl,r,_,rfl,DPut.k (k:=Sum.inr n) g3 (by unfold M0;rw[List.length_map];omega),?_⟩;rw[a6S a5];have a7:r≠B:=T7 g3 g2 (by intro z;cases z);have c4:r≠pl:=T7 g3 g1 (by intro z;cases z);have i1:upd G r (.dK (M0 (d++[(n,y)]))) pl=some (.lst ((R.eraseIdx j).map V.str)):=by rw[A5 c4.symm];exact g1
   have i2:upd G r (.dK (M0 (d++[(n,y)]))) B=some (.lst (((d.map (a4d w1)).map (Str.join bk)).map V.str)):=by rw[A5 a7.symm];exact g2
   have i3:upd G r (.dK (M0 (d++[(n,y)]))) r=some (.dK (M0 (d++[(n,y)]))):=A0;have Z:=N3 (o:=.dK (M0 (d++[(n,y)]))) a9 qd;have a8:=W3 (p:=r) (o:=.dK (M0 (d++[(n,y)]))) c5 f3;generalize upd G r (.dK (M0 (d++[(n,y)])))=Y at i1 i2 i3 Z a8;have c0:y=((y.toNat:Nat):Int):=by omega
   have b8:y.toNat<10 ^ 570:=Nat.lt_of_le_of_lt (show y.toNat<=1000000000000 by unfold topN at y2;omega) (by decide +kernel);have hnl:=(L.wg).1;have hf:=(a0j y2).1;have l1:(w1++bk).length<=21:=by rw[A7,show bk.length=1 from rfl];omega
   have l2:(w1++bk++n).length<=41:=by rw[A7];omega
   have l3:(w1++bk++n++bk).length<=42:=by rw[A7,show bk.length=1 from rfl];omega
   have l4:(G3 y.toNat).length<=20:=hf;have b6:DGet Y r (kV (Sum.inr n)) (some (V.int y)):=by
    have:=DGet.k (k:=Sum.inr n) i3;rw[V6]at this;have b7:lk (d++[(n,y)]) n=some y:=by
     have key:∀l:List (Str×Int),n∉l.map (·.1)->lk (l++[(n,y)]) n=some y:=λl=>by
      induction l with
      |nil=>intro _;show lk [(n,y)] n=_;rw[a6R,if_pos rfl]
      |cons q l ih =>
       intro h;show lk ((q.1,q.2)::(l++[(n,y)])) n=_;rw[a6R,if_neg λz=>h (by rw[<-z];exact List.mem_cons_self),ih λz=>h (List.mem_cons_of_mem _ z)]
     exact key d a5
    rw[b7]at this;exact this
   refine⟨_,rfl,.inl ⟨rfl,_,SqL.of i2⟩,_,rfl,_,_,rfl,rfl,by show _+1<=_;omega,_,rfl,_,_,rfl,rfl,by show(w1++bk).length+_<=_;omega,_,_,rfl,rfl,by show(w1++bk++n).length+1<=_;omega,_,rfl,_,rfl,r,_,rfl,b6,y.toNat,by rw[<-c0],b8,_,_,rfl,rfl,by show(w1++bk++n++bk).length+_<=_;omega,B,_,_,rfl,rfl,i2,by simp only[List.length_map];omega,?_⟩;refine⟨_,_,R.eraseIdx j,d++[(n,y)],rfl,by rw[A5 a6];exact i1,?_,by rw[A5 a7];exact i3,b5,by rw[List.length_eraseIdx,if_pos hj];omega,by simp[hql],N3 Z ql,W3 a8 f2⟩;have e:Str.join bk (a4d w1 (n,y))=w1++bk++n++bk++G3 y.toNat:=by
    show w1++bk++(n++bk++D8 y)=_;simp only[J0];rfl
   show upd Y B _ B=_;rw[A0,List.map_append,List.map_append,List.map_append];show some (HO.lst (_++[V.str (w1++bk++n++bk++G3 y.toNat)]))=some (HO.lst (_++[V.str (Str.join bk (a4d w1 (n,y)))]));rw[e]
  .rintro σ H5 ⟨o6,U,R,d,rfl,c1,c2,c3,hN,hRl,hql,P5,o5⟩;refine⟨_,rfl,_,rfl,by show 2<=sizeLine;omega,λq hq=>?_⟩;have s6:=(Same.refl H5).upd (o:=.tup [.ref B,.ref r]) hq;exact k q B r d _ A0 (s6 _ _ c2) (s6 _ _ c3) ⟨hN.qn,hN.qi⟩ f2 f3 (P5.same s6) (o5.trans s6.off)
end
end K44
namespace K44
open PySem PySem.Spec PyProof.Rows L2
noncomputable def a3X(H:Hp)(v:V):Addr:=open Classical in if h:∃rw c x s,v=V.ref c/\H c=some (.tup [V.str x,V.ref rw,V.int s])then h.choose else 0
theorem a6M{H:Hp}{c rw:Addr}{x:Str}{s:Int}(h:H c=some (.tup [V.str x,V.ref rw,V.int s])):a3X H (.ref c)=rw:=by
 have b:∃d a x' s',V.ref c=V.ref a/\H a=some (.tup [V.str x',V.ref d,V.int s']):=⟨rw,c,x,s,rfl,h⟩;unfold a3X;rw[dif_pos b];obtain⟨a,x',s',e1,e2⟩:=b.choose_spec;generalize b.choose=y at e2;cases e1;rw[h]at e2;injection e2 with e2
 injection e2 with e2
 injection e2 with _ e2
 injection e2 with e2 _
 injection e2 with e2
 exact e2.symm
theorem b2K{ns:List Str}(h:ns≠[]):Str.ofString "of " ++ Str.join bk ns=Str.join bk (wd "of" :: ns):=by
 rw[show wd "of" :: ns=[wd "of"]++ns from rfl,T9 (by simp) h];have e1:Str.ofString "of "=wd "of" ++ bk:=by with_unfolding_all rfl
 rw[e1];rfl
section
variable {P:Program}{w:World}{K:PySem.W.Frag}{mg:Str->Option Value}{base:Heap}
def b3M:Sp:=λvs H Q _=>∃(a b:Addr),vs=[.ref a]/\PotAt H a b/\∀c lp v L d H',H' c=some (.tup [.ref lp,v])->TxL H' lp L->L≠[]->C1 dr0 L=some d->(∀ws∈L,Wl ws)->L.length<=30->SysAt H' v d.names d.rows d.sides d.capsL d.pricesL->(∀r∈d.rows,r.length<=1000)->Nms d.names/\wd "zyxwvuts"∉d.names->H lp=none->PotAt H' a b->Off [a,b] H H'->Q (.ref c) H'
theorem sc__law_system:FnScope ["_law_pot_here","_law_names_here","_law_made","_law_cap_lines","_law_caps","_law_price_lines","_law_prices","_law_lines","_law_rows","_law_sides","_law_caps_told"] ["_law_pot_here"] (A8 O3):=⟨rfl,rfl,rfl,by decide +kernel,rfl,by decide +kernel,by decide +kernel⟩
theorem a7I(F:FunAt K mg "_law_system" O3 ["_law_pot_here"])(T:Tx mg)(m:Ok P w K mg base "_law_names" 3 ["_law_pot_here"] b3R)(p:Ok P w K mg base "_law_sums" 4 ["_law_pot_here","_law_names_here"] a9c)(d:Ok P w K mg base "_law_numbered" 3 ["_law_pot_here","_law_word","_law_names_here"] b7G)(l:Ok P w K mg base "_law_mingled" 2 ["_law_pot_here","_law_rows"] b7H):Ok P w K mg base "_law_system" 5 ["_law_pot_here"] b3M:=by
 refine F.okJ sc__law_system (λvs H Q E h=>?_) (λn0 f A outer s H vs Q E hr h=>?_)
 .obtain⟨a,b,rfl,_⟩:=h;rfl
 .obtain⟨a,b,rfl,hP,k⟩:=h;have hz:(100000:Nat)<=sizeLine:=by rw[sizeLine_eq];decide
  have hu:=hr.u60;refine⟨_,(A1 (B7 (i:=1) sc__law_system.nd rfl (Or.inl rfl) (C0 m (hr.mono (by omega)) rfl (jaC (jv 0) jaN)))
 (A1 (B7 (i:=2) sc__law_system.nd rfl (Or.inl rfl) (C0 p (hr.mono (by omega)) rfl (jaC (jv 0) (jaC (jv 1) jaN))))
 (A1 (a0d (C0 d (hr.mono (by omega)) rfl (jaC (jv 0) (jaC A2 (jaC (jv 1) jaN)))) (Y8 K 2 (D5 (C3 (i:=3) sc__law_system.nd rfl (Or.inl rfl)) (D5 (C3 (i:=4) sc__law_system.nd rfl (Or.inr rfl)) R6))))
 (A1 (a0d (C0 d (hr.mono (by omega)) rfl (jaC (jv 0) (jaC A2 (jaC (jv 1) jaN)))) (Y8 K 2 (D5 (C3 (i:=5) sc__law_system.nd rfl (Or.inl rfl)) (D5 (C3 (i:=6) sc__law_system.nd rfl (Or.inr rfl)) R6))))
 (A1 (B7 (i:=7) sc__law_system.nd rfl (Or.inl rfl) (J9 (C5 (jaC (C4 A2 (b0z K A2 (jaC (jv 1) jaN))) jaN)) (C0 l (hr.mono (by omega)) rfl (jaC (jv 0) (jaC (C5 (jaC (U5 (N:=["_law_one"]) (src:=[none]) (L7 K (jv 2)) (by show K6 _ _=true;rfl) (by rfl) (by rfl)
 (λ_ _ _ _ _=>(C3 (i:=0) (show(["_law_one"]:List Str).Nodup by decide +kernel) rfl (Or.inl rfl))) (λ_ _ _ _ _=>N7) (λ_ _ _ _ _=>(V8 K (jv 0) A4))) (jaC (jv 3) (jaC (jv 5) jaN)))) jaN)))))
 (A1 (b0x (i:=8) (j:=9) rfl sc__law_system.nd rfl rfl (by decide) rfl rfl (jaC (J8 K rfl T.b_tuple (jaC (U5 (N:=["_law_one"]) (src:=[none]) (L7 K (jv 2)) (by show K6 _ _=true;rfl) (by rfl) (by rfl)
 (λ_ _ _ _ _=>(C3 (i:=0) (show(["_law_one"]:List Str).Nodup by decide +kernel) rfl (Or.inl rfl))) (λ_ _ _ _ _=>N7) (λ_ _ _ _ _=>(V8 K (jv 0) A4))) jaN)) (jaC (J8 K rfl T.b_tuple (jaC (U5 (N:=["_law_one"]) (src:=[none]) (L7 K (jv 2)) (by show K6 _ _=true;rfl) (by rfl) (by rfl)
 (λ_ _ _ _ _=>(C3 (i:=0) (show(["_law_one"]:List Str).Nodup by decide +kernel) rfl (Or.inl rfl))) (λ_ _ _ _ _=>N7) (λ_ _ _ _ _=>(V8 K (jv 0) A4))) jaN)) jaN)) rfl)
 (A1 (B7 (i:=10) sc__law_system.nd rfl (Or.inl rfl) (J8 K rfl T.b_tuple (jaC (U5 (N:=["_law_name","_law_caps"]) (src:=[none,some 4]) (a4j K (jv 1)) (by show K6 _ _=true;rfl) (by rfl) (by rfl)
 (λ_ _ _ _ _=>(C3 (i:=0) (show(["_law_name","_law_caps"]:List Str).Nodup by decide +kernel) rfl (Or.inl rfl))) (λ_ _ _ _ _=>N7) (λ_ _ _ _ _=>(a4n hu (jv 1) (jv 0) N8))) jaN)))
 (A9 (C2 (J2 (jaC (jv 7) (jaC (J2 (jaC (jv 1) (jaC (jv 8) (jaC (jv 9) (jaC (jv 10) (jaC (J8 K rfl T.b_tuple (jaC (U5 (N:=["_law_name","_law_prices"]) (src:=[none,some 6]) (a4j K (jv 1)) (by show K6 _ _=true;rfl) (by rfl) (by rfl)
 (λ_ _ _ _ _=>(C3 (i:=0) (show(["_law_name","_law_prices"]:List Str).Nodup by decide +kernel) rfl (Or.inl rfl))) (λ_ _ _ _ _=>N7) (λ_ _ _ _ _=>(a4n hu (jv 1) (jv 0) A4))) jaN)) jaN)))))) jaN)))))))))))),?_⟩
  refine⟨_,rfl,a,b,rfl,hP,λt ns H1 ht hnm h1 h7 hzy P1 o1=>?_⟩;dsimp only[B1];refine⟨_,rfl,_,rfl,a,b,t,ns,rfl,P1,ht,hnm,h1,h7,λpm us L q H2 em hM hS i9 hq fm P2 f2=>?_⟩;have qm:pm∉[a,b]:=C7 P1 fm;have b1:=f2 _ _ (G1 P1 ht) ht;have o2:=o1.trans f2;dsimp only[B1];refine⟨_,rfl,_,rfl,a,b,t,ns,wd "cap",rfl,P2,b1,hnm,h7,by decide,λqc G d9 R H3 i0 a8 a9 e9 k7 k9 P3 f3=>?_⟩;have i2:=f3 _ _ qm em;have j0:=hM.off (λc xs S=>G1 P2 S) f3;have b2:=f3 _ _ (G1 P2 b1) b1;have o3:=o2.trans f3;refine⟨qc,_,rfl,SqT.of i0,rfl,_,_,rfl,_,[],rfl,rfl,?_⟩;dsimp only[B1];refine⟨_,rfl,_,rfl,a,b,t,ns,wd "price",rfl,P3,b2,hnm,h7,by decide,λqp Y e0 ps H4 i4 i6 i7 f1 n1 l0 P4 f4=>?_⟩;have b0:=f4 _ _ qm i2;have W:=j0.off (λc xs S=>G1 P3 S) f4;have b3:=f4 _ _ (G1 P3 b2) b2;have o4:=o3.trans f4;have m2:G∉[a,b]:=C7 P2 k7;have k1:d9∉[a,b]:=C7 P2 k9;have m1:e0∉[a,b]:=C7 P3 l0;have a8:TxL H4 G (R.map (a4d (wd "cap"))):=f4 _ _ m2 a8;have a9:=f4 _ _ k1 a9;refine⟨qp,_,rfl,SqT.of i4,rfl,_,_,rfl,_,[],rfl,rfl,?_⟩;dsimp only[B1];clear f2 f3 f4 o1 o2 o3 P1 P2 P3 ht b1 b2 em i2 hM j0 i0 i4;have h0:ns≠[]:=λz=>by rw[z]at h1;exact absurd h1 (by decide)
  have n5:(Str.join bk ns).length<=147:=by
   have:=O6 (c:=32) (B:=20) (ys:=ns) λy hy=>((hnm.nm y hy).wg).1;exact Nat.le_trans this (Nat.mul_le_mul h7 (Nat.le_refl 21))
  refine⟨rfl,_,rfl,bk,t,ns,20,rfl,rfl,SqT.of b3,λy hy=>((hnm.nm y hy).wg).1,by rw[show bk.length=1 from rfl];omega,by omega,_,_,rfl,rfl,by show 3+_<=_;omega,by show 1<=sizeLine;omega,λq1 f5=>?_⟩;rw[b2K h0];have s5:=(Same.refl H4).upd (o:=.lst [V.str (Str.join bk (wd "of" :: ns))]) f5;have e5:upd H4 q1 (.lst [V.str (Str.join bk (wd "of" :: ns))]) q1=some (.lst [V.str (Str.join bk (wd "of" :: ns))]):=A0;generalize upd H4 q1 (.lst [V.str (Str.join bk (wd "of" :: ns))])=H5 at s5 e5;have j1:=W.same s5;refine⟨_,rfl,_,rfl,pm,rfl,⟨_,SqL.of (s5 _ _ b0)⟩,?_⟩;have n6:us.length<=6:=by rw[W.l1];exact i9
  refine X4 (vs:=us) (as:=L) (caps:=[]) (λws=>V.str (Str.join bk ws)) (by omega) W.l1 (λH' s=>SqL.of (s _ _ (s5 _ _ b0))) rfl (λi v ws H6 Q6 M l8 s6 qq=>?_) λH6 xl s6 f7=>?_
  .obtain⟨g2,q',h1',U,c,b8,rfl,S,X⟩:=j1.at_ i v M;rw[l8]at h1';cases h1';exact⟨_,rfl,c,_,0,_,rfl,rfl,SqT.of (s6 _ _ S),rfl,qq _ (Same.refl _)⟩
  have s7:=s5.trans (s6.upd (o:=.lst (L.map λws=>V.str (Str.join bk ws))) f7);have e7:upd H6 xl (.lst (L.map λws=>V.str (Str.join bk ws))) xl=some (.lst ((L.map (Str.join bk)).map V.str)):=by rw[A0,List.map_map];rfl
  have e3:=(s6.upd (o:=.lst (L.map λws=>V.str (Str.join bk ws))) f7) _ _ e5;generalize upd H6 xl (.lst (L.map λws=>V.str (Str.join bk ws)))=H7 at s7 e7 e3;refine⟨_,rfl,_,rfl,by show 3<=sizeLine;omega,λq8 f6=>?_⟩;have s8:=s7.upd (o:=.lst [V.ref xl,V.ref G,V.ref Y]) f6;have k8:=(Same.refl H7).upd (o:=.lst [V.ref xl,V.ref G,V.ref Y]) f6;have e8:upd H7 q8 (.lst [V.ref xl,V.ref G,V.ref Y]) q8=some (.lst [V.ref xl,V.ref G,V.ref Y]):=A0;have e6:=k8 _ _ e7;have e4:=k8 _ _ e3;generalize upd H7 q8 (.lst [V.ref xl,V.ref G,V.ref Y])=H8 at s8 e8 e6 e4;have n4:R.length<=7:=by
   have:=Tab.nodup_le (R.map (·.1)) ns e9.nd λx hx=>by obtain⟨q,hq,rfl⟩:=List.mem_map.mp hx;exact(e9.mem q hq).1
   rw[List.length_map]at this;omega
  have hpl:ps.length<=7:=by
   have:=Tab.nodup_le (ps.map (·.1)) ns f1.nd λx hx=>by obtain⟨q,hq,rfl⟩:=List.mem_map.mp hx;exact(f1.mem q hq).1
   rw[List.length_map]at this;omega
  refine⟨a,b,q8,xl,G,Y,L,R.map (a4d (wd "cap")),ps.map (a4d (wd "price")),rfl,P4.same s8,e8,e6,s8 _ _ a8,s8 _ _ i6,by simp only[List.length_map];omega,λp9 O H9 l1 j3 n2 P9 f9=>?_⟩;have P8:=P4.same s8;have m0:q1∉[a,b]:=C7 P4 f5;have h9:=f9 _ _ m0 e4;have o9:=(o4.trans s8.off).trans f9;have i3:=f9 _ _ qm (s8 _ _ b0);have j2:=(W.same s8).off (λc xs S=>G1 P8 S) f9;have j8:=f9 _ _ (G1 P8 (s8 _ _ b3)) (s8 _ _ b3);have i1:=f9 _ _ k1 (s8 _ _ a9);have i8:=f9 _ _ m1 (s8 _ _ i7);obtain⟨l5,l7,j4⟩:=b8m hnm h1 h7 hS (by rw[W.l2];exact i9) e9 f1 l1;have n3:O.length<=30:=by rw[List.length_cons]at j4;omega
  refine⟨q1,p9,_,_,rfl,rfl,h9,j3,by show 1+_<=_;rw[List.length_map,List.length_map];omega,λI a1=>?_⟩;have J:=(Same.refl H9).upd (o:=.lst ([V.str (Str.join bk (wd "of" :: ns))]++(O.map (Str.join bk)).map V.str)) a1;have g8:TxL (upd H9 I (.lst ([V.str (Str.join bk (wd "of" :: ns))]++(O.map (Str.join bk)).map V.str))) I ((wd "of" :: ns)::O):=by
   show upd H9 I _ I=_;rw[A0];rfl
  have k6:H I=none:=K8 o9 P9 a1;have g7:=P9.same J;have k0:=o9.trans J.off;have D:=J _ _ i3;have g:=j2.same J;have a3:=J _ _ j8;have c6:=J _ _ i1;have c8:=J _ _ i8;generalize upd H9 I (.lst ([V.str (Str.join bk (wd "of" :: ns))]++(O.map (Str.join bk)).map V.str))=C at g8 g7 k0 D g a3 c6 c8;clear s5 e5 j1 s7 e7 e3 s8 k8 e8 e6 e4 P4 o4 b0 W b3 a9 i7 h9 i3 j2 j8 i1 i8 P8 P9 f9 o9 J f5 f7 f6 a1 s6 a8 i6 j3;dsimp only[B1];refine⟨_,rfl,pm,rfl,⟨_,SqL.of D⟩,?_⟩;refine X4 (vs:=us) (as:=us) (caps:=[]) (λv=>V.ref (a3X C v)) (by omega) rfl (λH' s=>SqL.of (s _ _ D)) rfl (λi v v' d4 m6 M j9 b9 qq=>?_) λd4 b4 b9 d1=>?_
  .rw[M]at j9;cases j9;obtain⟨g2,q',h1',U,c,b8,rfl,S,X⟩:=g.at_ i v M;have:=qq _ (Same.refl _);rw[a6M S]at this;exact⟨_,rfl,c,_,1,_,rfl,rfl,SqT.of (b9 _ _ S),rfl,this⟩
  have d0:Its C (us.map λv=>V.ref (a3X C v)) (q.map (·.1)):=by
   refine⟨by rw[List.length_map,List.length_map,g.l1,g.l2],λi v M=>?_⟩;rw[List.getElem?_map]at M;obtain⟨u,l6,rfl⟩:=Option.map_eq_some_iff.mp M;obtain⟨g2,q',h1',U,c,b8,rfl,S,X⟩:=g.at_ i u l6;exact⟨q'.1,by rw[List.getElem?_map,U];rfl,b8,by rw[a6M S],X⟩
  have f8:=b9.upd (o:=.lst (us.map λv=>V.ref (a3X C v))) d1;have a7:upd d4 b4 (.lst (us.map λv=>V.ref (a3X C v))) b4=some (.lst (us.map λv=>V.ref (a3X C v))):=A0;generalize upd d4 b4 (.lst (us.map λv=>V.ref (a3X C v)))=g3 at f8 a7;generalize us.map (λv=>V.ref (a3X C v))=rs at d0 a7;refine⟨b4,_,rfl,.inl ⟨SqL.of a7,λpr j7=>?_⟩⟩;have Z:=f8.upd (o:=.tup rs) j7;have e1:upd g3 pr (.tup rs) pr=some (.tup rs):=A0;generalize upd g3 pr (.tup rs)=m3 at Z e1;refine⟨_,rfl,pm,rfl,⟨_,SqL.of (Z _ _ D)⟩,?_⟩;refine X4 (vs:=us) (as:=q) (caps:=[]) (λx=>V.int x.2) (by omega) (by rw[g.l1,g.l2]) (λH' s=>SqL.of (s _ _ (Z _ _ D))) rfl (λi v x d5 m7 M hx a5 qq=>?_) λd5 b5 a5 a2=>?_
  .obtain⟨g2,q',h1',U,c,b8,rfl,S,X⟩:=g.at_ i v M;rw[hx]at U;cases U;exact⟨_,rfl,c,_,2,_,rfl,rfl,SqT.of (a5 _ _ (Z _ _ S)),rfl,qq _ (Same.refl _)⟩
  have g0:=Z.trans (a5.upd (o:=.lst (q.map λx=>V.int x.2)) a2);have e2:upd d5 b5 (.lst (q.map λx=>V.int x.2)) b5=some (.lst (q.map λx=>V.int x.2)):=A0;have a0:=(a5.upd (o:=.lst (q.map λx=>V.int x.2)) a2) _ _ e1;generalize upd d5 b5 (.lst (q.map λx=>V.int x.2))=g4 at g0 e2 a0;refine⟨b5,_,rfl,.inl ⟨SqL.of e2,λpd f0=>?_⟩⟩;have a6:=g0.upd (o:=.tup (q.map λx=>V.int x.2)) f0;have g9:upd g4 pd (.tup (q.map λx=>V.int x.2)) pd=some (.tup ((q.map (·.2)).map V.int)):=by rw[A0,List.map_map];rfl
  have c4:=G0 (o:=.tup (q.map λx=>V.int x.2)) a0 f0;generalize upd g4 pd (.tup (q.map λx=>V.int x.2))=m4 at a6 g9 c4;refine⟨_,_,rfl,?_⟩;clear f8 a7 Z e1 g0 e2 a0 b9 a5 d1 j7 a2 f0;dsimp only[B1];have a4:=a6 _ _ a3;have c7:=a6 _ _ c6;have i5:=a6 _ _ c8;refine⟨_,rfl,t,rfl,⟨_,SqT.of a4⟩,?_⟩;refine a0O (vs:=ns.map V.str) (as:=ns) (caps:=[some (.ref d9)]) (λn=>ovI (lk R n)) (by rw[List.length_map];omega) (List.length_map ..) (λH' s=>SqT.of (s _ _ a4)) rfl (λi v x d6 m8 M hx c0 qq=>?_) λd6 b6 c0 j5=>?_
  .rw[List.getElem?_map,hx]at M;cases M;refine⟨_,rfl,d9,rfl,.inl ⟨_,.inl (c0 _ _ c7)⟩,_,rfl,_,DGet.k (k:=Sum.inr x) (c0 _ _ c7),?_⟩;rw[V6];have:=qq _ (Same.refl _);cases e:lk R x with
   |none=>rw[e]at this;exact this
   |some y=>rw[e]at this;exact this
  have k2:=c0.upd (o:=.lst (ns.map λn=>ovI (lk R n))) j5;have h3:upd d6 b6 (.lst (ns.map λn=>ovI (lk R n))) b6=some (.lst (ns.map λn=>ovI (lk R n))):=A0;generalize upd d6 b6 (.lst (ns.map λn=>ovI (lk R n)))=g5 at k2 h3;refine⟨b6,_,rfl,.inl ⟨SqL.of h3,λpc l2=>?_⟩⟩;have c1:=k2.upd (o:=.tup (ns.map λn=>ovI (lk R n))) l2;have h4:upd g5 pc (.tup (ns.map λn=>ovI (lk R n))) pc=some (.tup ((ns.map (lk R)).map ovI)):=by rw[A0,List.map_map];rfl
  generalize upd g5 pc (.tup (ns.map λn=>ovI (lk R n)))=m5 at c1 h4;dsimp only[B1];have d3:=c1 _ _ a4;have c9:=c1 _ _ i5;refine⟨_,rfl,_,rfl,_,rfl,_,rfl,_,rfl,_,rfl,t,rfl,⟨_,SqT.of d3⟩,?_⟩;refine a0O (vs:=ns.map V.str) (as:=ns) (caps:=[some (.ref e0)]) (λn=>V.int ((lk ps n).getD 0)) (by rw[List.length_map];omega) (List.length_map ..) (λH' s=>SqT.of (s _ _ d3)) rfl (λi v x d7 m9 M hx c2 qq=>?_) λd7 b7 c2 j6=>?_
  .rw[List.getElem?_map,hx]at M;cases M;refine⟨_,rfl,e0,rfl,.inl ⟨_,.inl (c2 _ _ c9)⟩,_,rfl,_,DGet.k (k:=Sum.inr x) (c2 _ _ c9),?_⟩;rw[V6];have:=qq _ (Same.refl _);cases e:lk ps x with
   |none=>rw[e]at this;exact this
   |some y=>rw[e]at this;exact this
  have k3:=c2.upd (o:=.lst (ns.map λn=>V.int ((lk ps n).getD 0))) j6;have h5:upd d7 b7 (.lst (ns.map λn=>V.int ((lk ps n).getD 0))) b7=some (.lst (ns.map λn=>V.int ((lk ps n).getD 0))):=A0;generalize upd d7 b7 (.lst (ns.map λn=>V.int ((lk ps n).getD 0)))=g6 at k3 h5;refine⟨b7,_,rfl,.inl ⟨SqL.of h5,λpp l3=>?_⟩⟩;have k4:=k3.upd (o:=.tup (ns.map λn=>V.int ((lk ps n).getD 0))) l3;have h6:upd g6 pp (.tup (ns.map λn=>V.int ((lk ps n).getD 0))) pp=some (.tup ((ns.map λn=>(lk ps n).getD 0).map V.int)):=by rw[A0,List.map_map];rfl
  generalize upd g6 pp (.tup (ns.map λn=>V.int ((lk ps n).getD 0)))=d8 at k4 h6;refine⟨by show 5<=sizeLine;omega,λps' d2=>?_⟩;have g1:=k4.upd (o:=.tup [V.ref t,V.ref pr,V.ref pd,V.ref pc,V.ref pp]) d2;have l9:=(Same.refl d8).upd (o:=.tup [V.ref t,V.ref pr,V.ref pd,V.ref pc,V.ref pp]) d2;have h8:upd d8 ps' (.tup [V.ref t,V.ref pr,V.ref pd,V.ref pc,V.ref pp]) ps'=some (.tup [V.ref t,V.ref pr,V.ref pd,V.ref pc,V.ref pp]):=A0;have c5:=l9 _ _ h6;generalize upd d8 ps' (.tup [V.ref t,V.ref pr,V.ref pd,V.ref pc,V.ref pp])=k5 at g1 h8 c5;refine⟨by show 2<=sizeLine;omega,λpz l4=>?_⟩;have c3:=(Same.refl k5).upd (o:=.tup [V.ref I,V.ref ps']) l4;have sA:=(c1.trans g1).trans c3;have sB:=a6.trans sA;refine k pz I (.ref ps') ((wd "of" :: ns)::O) _ _ A0 (sB _ _ g8) (by simp) l5 l7 j4 ⟨ps',t,pr,pd,pc,pp,rs,rfl,c3 _ _ h8,sB _ _ a3,sA _ _ c4,d0.same sB,sA _ _ g9,c3 _ _ (g1 _ _ h4),c3 _ _ c5⟩ (λr X=>?_) ⟨hnm,hzy⟩ k6 (g7.same sB) (k0.trans sB.off);obtain⟨x,hx,rfl⟩:=List.mem_map.mp (show r∈q.map (·.1)from X);rw[hq x hx];omega
end
end K44
namespace K44
open PySem PySem.Spec PyProof.Rows L2
def toS(l:List Nat):Str:=⟨l.toArray⟩
def spl:List Nat->List (List Nat)
 |[]=>[[]]
 |c::l=>if c=32 then[]::spl l else match spl l with
  |[]=>[[c]]
  |w::ws=>(c::w)::ws
theorem a0D:∀l,spl l≠[]
 |[]=>by decide
 |c::l=>by
  unfold spl;split
  .exact List.cons_ne_nil _ _
  .split<;>exact List.cons_ne_nil _ _
theorem a0R:∀l,(Str.join bk ((spl l).map toS)).cps.toList=l
 |[]=>rfl
 |c::l=>by
  have a:=a0R l;unfold spl;split
  .rename_i hc;subst hc;cases e:spl l with
   |nil=>exact absurd e (a0D l)
   |cons w ws =>
    rw[e]at a;rw[List.map_cons,List.map_cons,N6];rw[List.map_cons]at a;rw[a];rfl
  .split
   .rename_i e;exact absurd e (a0D l)
   .rename_i w ws e;rw[e]at a;cases ws with
    |nil =>
     have a:w=l:=a;subst a;rfl
    |cons w2 ws =>
     rw[List.map_cons,List.map_cons,N6]at a⊢;rw[<-a];rfl
theorem a1I:∀l,∀w∈spl l,∀c∈w,c∈l/\c≠32
 |[],w,hw,c,a=>by
  rw[List.mem_singleton.mp hw]at a;cases a
 |d::l,w,hw,c,a=>by
  have b:=a1I l;unfold spl at hw;split at hw
  .rcases List.mem_cons.mp hw with rfl|hw
   .cases a
   .exact⟨List.mem_cons_of_mem _ (b w hw c a).1,(b w hw c a).2⟩
  .rename_i hd;split at hw
   .rename_i e;exact absurd e (a0D l)
   .rename_i v vs e;rcases List.mem_cons.mp hw with rfl|hw
    .rcases List.mem_cons.mp a with rfl|a
     .exact⟨List.mem_cons_self ..,hd⟩
     .have:=b v (by rw[e];exact List.mem_cons_self ..) c a;exact⟨List.mem_cons_of_mem _ this.1,this.2⟩
    .have:=b w (by rw[e];exact List.mem_cons_of_mem _ hw) c a;exact⟨List.mem_cons_of_mem _ this.1,this.2⟩
theorem a6H:∀l,(spl l).length<=l.length+1
 |[]=>Nat.le_refl _
 |c::l=>by
  have a:=a6H l;unfold spl;split
  .rw[List.length_cons,List.length_cons];omega
  .split
   .rw[List.length_cons];show 1<=_;omega
   .rename_i e;rw[e]at a;rw[List.length_cons]at a⊢;rw[List.length_cons];omega
theorem a4K:∀l,∀w∈spl l,w.length<=l.length
 |[],w,hw=>by rw[List.mem_singleton.mp hw];exact Nat.le_refl _
 |c::l,w,hw=>by
  have a:=a4K l;rw[List.length_cons];unfold spl at hw;split at hw
  .rcases List.mem_cons.mp hw with rfl|hw
   .exact Nat.zero_le _
   .have:=a w hw;omega
  .split at hw
   .rename_i e;exact absurd e (a0D l)
   .rename_i v vs e;rcases List.mem_cons.mp hw with rfl|hw
    .have:=a v (by rw[e];exact List.mem_cons_self ..);rw[List.length_cons];omega
    .have:=a w (by rw[e];exact List.mem_cons_of_mem _ hw);omega
def okL(l:List Nat):Bool:=l.all (λc=>decide (c<128) && decide (c≠10)) && decide (l.length<=9000)
theorem a4c{l:List Nat}(h:okL l=true):Wl ((spl l).map toS):=by
 unfold okL at h;rw[Bool.and_eq_true,decide_eq_true_eq,List.all_eq_true]at h;obtain⟨h1,h2⟩:=h;have h1:∀c∈l,c<128/\c≠10:=λc a=>by
  have:=h1 c a;rw[Bool.and_eq_true,decide_eq_true_eq,decide_eq_true_eq]at this;exact this
 refine⟨λz=>a0D l (List.map_eq_nil_iff.mp z),⟨by rw[List.length_map];have:=a6H l;omega,λw hw=>?_⟩,λw hw=>?_,?_⟩
 .obtain⟨v,hv,rfl⟩:=List.mem_map.mp hw;refine⟨?_,by show v.toArray.size<=10000;rw[List.size_toArray];have:=a4K l v hv;omega⟩;rw[Array.all_eq_true'];intro c a;exact decide_eq_true (h1 c (a1I l v hv c (by simpa[toS]using a)).1).1
 .obtain⟨v,hv,rfl⟩:=List.mem_map.mp hw;exact⟨λa=>(a1I l v hv 32 a).2 rfl,λa=>(h1 10 (a1I l v hv 10 a).1).2 rfl⟩
 .have:=a0R l;show(Str.join bk ((spl l).map toS)).cps.size<=10000;rw[<-Array.length_toList,this];omega
def nmL(w:List Nat):Bool:=decide (1<=w.length) && decide (w.length<=8) && w.all λc=>decide (97<=c) && decide (c<=122)
def b3x(ws:List (List Nat)):Bool:=ws.head? != some (wd "of").cps.toList || decide ((ws.drop 1).length<1) || decide (7<(ws.drop 1).length) || !decide ((ws.drop 1).Nodup) || (ws.drop 1).any λw=>!nmL w
theorem a3K{a b:List Nat}(h:toS a=toS b):a=b:=congrArg (λt:Str=>t.cps.toList) h
theorem a0Y:∀{l:List (List Nat)},(l.map toS).Nodup->l.Nodup
 |[],_=>List.nodup_nil
 |a::l,h=>by
  rw[List.map_cons,List.nodup_cons]at h;exact List.nodup_cons.mpr ⟨λz=>h.1 (List.mem_map.mpr ⟨a,z,rfl⟩),a0Y h.2⟩
theorem a8B{ws:List (List Nat)}(h:b3x ws=true)(b:ws≠[]):dr0.take (ws.map toS)=none:=by
 cases ws with
 |nil=>exact absurd rfl b
 |cons v vs =>
  unfold Dr.take;show(if dr0.names=[] then(if toS v=wd "of"/\1<=(vs.map toS).length/\(vs.map toS).length<=7/\(vs.map toS).Nodup/\∀x∈vs.map toS,isNm x then _ else none)else _)=none;rw[if_pos (show dr0.names=[] from rfl)];refine if_neg λ⟨h1,h2,f,g,i⟩=>?_;unfold b3x at h;rw[List.length_map]at h2 f;have hd:(v::vs).drop 1=vs:=rfl;rw[hd]at h;rcases Bool.or_eq_true_iff.mp h with h|h
  .rcases Bool.or_eq_true_iff.mp h with h|h
   .rcases Bool.or_eq_true_iff.mp h with h|h
    .rcases Bool.or_eq_true_iff.mp h with h|h
     .rw[bne_iff_ne]at h;refine h ?_;rw[<-h1];rfl
     .have:=of_decide_eq_true h;omega
    .have:=of_decide_eq_true h;omega
   .have hn:¬vs.Nodup:=by simpa using h
    refine hn ?_;exact a0Y g
  .rw[List.any_eq_true]at h;obtain⟨x,k,h⟩:=h;obtain⟨a1,a,d⟩:=i (toS x) (List.mem_map.mpr ⟨x,k,rfl⟩);have a1:1<=x.toArray.size:=a1;have a:x.toArray.size<=8:=a;rw[List.size_toArray]at a1 a;have e:nmL x=true:=by
    unfold nmL;rw[decide_eq_true a1,decide_eq_true a];show x.all _=true;rw[List.all_eq_true];intro c j;have:=d c j;rw[decide_eq_true this.1,decide_eq_true this.2];rfl
   rw[e]at h;cases h
end K44
namespace K44
open PySem PySem.Spec PyProof.Rows L2
section
variable {P:Program}{w:World}{K:PySem.W.Frag}{mg:Str->Option Value}{base:Heap}
def b8z(d:Dr)(y:Str):Prop:=∃ws,y=Str.join bk ws/\Wl ws/\d.take ws=none
theorem b6e{y:Str}(h:(okL y.cps.toList && b3x (spl y.cps.toList))=true):b8z dr0 y:=by
 rw[Bool.and_eq_true]at h;refine⟨(spl y.cps.toList).map toS,Str.ext' ?_,a4c h.1,a8B h.2 (a0D _)⟩;exact Array.toList_inj.mp (a0R y.cps.toList).symm
def fsV(l:List String):List V:=l.map λs=>V.str (Str.ofString s)
abbrev fs1:List String:=["","of","of ","of a a","of A","of a1","of abcdefghi","of a b c d e f g h","of  a"," of a","of a "]
abbrev fs2:List String:=["Of a","ofa","sum 0 = 0","cap a 1","of a, b","of a-b","of 1","a b"]
theorem b6F:((fs1++fs2).all λs=>okL (Str.ofString s).cps.toList && b3x (spl (Str.ofString s).cps.toList))=true:=by decide +kernel
def b3T:Sp:=λvs H Q _=>∃(a b t:Addr) (ns:List Str),vs=[.ref a,.ref t]/\PotAt H a b/\H t=some (.tup (ns.map V.str))/\ns≠[]/\(∀x∈ns,isNm x)/\∀y H',b8z dr0 y->PotAt H' a b->Off [a,b] H H'->Q (.str y) H'
theorem sc__law_first:FnScope ["_law_pot_here","_law_names_here","_law_some"] ["_law_pot_here","_law_names_here"] (A8 R4):=⟨rfl,rfl,rfl,by decide +kernel,rfl,by decide +kernel,by decide +kernel⟩
theorem b0e(F:FunAt K mg "_law_first" R4 ["_law_pot_here","_law_names_here"])(T:Tx mg)(e:Ok P w K mg base "_law_of" 2 ["_law_pot_here","_law_some"] a5N):Ok P w K mg base "_law_first" 3 ["_law_pot_here","_law_names_here"] b3T:=by
 refine F.okJ sc__law_first (λvs H Q E h=>?_) (λY f A outer s H vs Q E g h=>?_)
 .obtain⟨a,b,t,ns,rfl,_⟩:=h;rfl
 .obtain⟨a,b,t,ns,rfl,hP,ht,hne,hnm,k⟩:=h;have hz:(100000:Nat)<=sizeLine:=by rw[sizeLine_eq];decide
  obtain⟨d,L,rfl⟩:∃d L,ns=d::L:=by
   cases ns with
   |nil=>exact absurd rfl hne
   |cons x y=>exact⟨x,y,rfl⟩
  refine⟨_,(A1 (B7 (i:=2) sc__law_first.nd rfl (Or.inl rfl) (C5 (jaC A2 (jaC A2 (jaC A2 (jaC A2 (jaC A2 (jaC A2 (jaC A2 (jaC A2 (jaC A2 (jaC A2 (jaC A2 jaN)))))))))))))
 (A1 (B7 (i:=2) sc__law_first.nd rfl (Or.inl rfl) (J9 (jv 2) (C5 (jaC A2 (jaC A2 (jaC A2 (jaC A2 (jaC A2 (jaC A2 (jaC A2 (jaC A2 jaN)))))))))))
 (A9 (C2 (C0 e (g.mono (by omega)) rfl (jaC (jv 0) (jaC (J9 (jv 2) (C5 (jaC (C4 (C4 (C4 A2 (V8 K (jv 1) A4)) A2) (V8 K (jv 1) A4)) jaN))) jaN))))))),?_⟩
  refine⟨by show 11<=sizeLine;omega,λv I=>?_⟩;dsimp only[B1];have s1:=(Same.refl H).upd (o:=.lst (fsV fs1)) I;have e1:upd H v (.lst (fsV fs1)) v=some (.lst (fsV fs1)):=A0;change a8U _ _ _ _ (upd H v (.lst (fsV fs1)));generalize upd H v (.lst (fsV fs1))=H1 at s1 e1⊢;refine⟨_,rfl,by show 8<=sizeLine;omega,λp2 m=>?_⟩;have D:=G0 (o:=.lst (fsV fs2)) e1 m;have s2:=s1.upd (o:=.lst (fsV fs2)) m;refine⟨v,p2,_,_,rfl,rfl,D,A0,by show 19<=sizeLine;omega,λC J=>?_⟩;dsimp only[B1];have N:=s2.upd (o:=.lst (fsV fs1++fsV fs2)) J;have S:upd (upd H1 p2 (.lst (fsV fs2))) C (.lst (fsV fs1++fsV fs2)) C=some (.lst (fsV fs1++fsV fs2)):=A0;change b1C _ _ _ (upd (upd H1 p2 (.lst (fsV fs2))) C (.lst (fsV fs1++fsV fs2)));generalize upd (upd H1 p2 (.lst (fsV fs2))) C (.lst (fsV fs1++fsV fs2))=H3 at N S⊢;have q:=N _ _ ht;have l:atI (V.str d::L.map V.str) 0=some (V.str d):=F0 (j:=0) rfl;obtain⟨q1,q2,M⟩:=hnm d (List.mem_cons_self ..);have l1:(Str.ofString "of " ++ d).length<=11:=by rw[A7,show(Str.ofString "of ").length=3 from rfl];omega
  have l2:(Str.ofString "of " ++ d++Str.ofString " ").length<=12:=by rw[A7,show(Str.ofString " ").length=1 from rfl];omega
  have l3:(Str.ofString "of " ++ d++Str.ofString " " ++ d).length<=20:=by rw[A7];omega
  refine⟨_,rfl,_,rfl,_,rfl,t,_,0,_,rfl,rfl,SqT.of q,l,_,_,rfl,rfl,by first|omega | (rw[<-A7];omega),_,_,rfl,rfl,by first|omega | (rw[<-A7];omega),_,rfl,t,_,0,_,rfl,rfl,SqT.of q,l,_,_,rfl,rfl,by first|omega | (rw[<-A7];omega),?_⟩;refine⟨by show 1<=sizeLine;omega,λp4 n=>?_⟩;have G:=G0 (o:=.lst [V.str (Str.ofString "of " ++ d++Str.ofString " " ++ d)]) S n;have X:=N.upd (o:=.lst [V.str (Str.ofString "of " ++ d++Str.ofString " " ++ d)]) n;refine⟨C,p4,_,_,rfl,rfl,G,A0,by show 20<=sizeLine;omega,λp5 p=>?_⟩;have O:=X.upd (o:=.lst (fsV fs1++fsV fs2++[V.str (Str.ofString "of " ++ d++Str.ofString " " ++ d)])) p;refine⟨a,b,p5,_,rfl,hP.same O,A0,C7 (hP.same X) p,by show 0<20;decide,by show 20<=1000;decide,λr H6 g R W=>?_⟩;rcases List.mem_append.mp g with g|g
  .have:∃s∈fs1++fs2,r=V.str (Str.ofString s):=by
    rcases List.mem_append.mp g with z|z
    .obtain⟨s,hs,rfl⟩:=List.mem_map.mp z;exact⟨s,List.mem_append_left _ hs,rfl⟩
    .obtain⟨s,hs,rfl⟩:=List.mem_map.mp z;exact⟨s,List.mem_append_right _ hs,rfl⟩
   obtain⟨s,hs,rfl⟩:=this;exact k _ _ (b6e (List.all_eq_true.mp b6F s hs)) R (O.off.trans W)
  .rw[List.mem_singleton.mp g];refine k _ _ ⟨[wd "of",d,d],?_,?_,?_⟩ R (O.off.trans W)
   .refine Str.ext' (Array.toList_inj.mp ?_);rw[N6,N6];show(((Str.ofString "of ").cps++d.cps)++(Str.ofString " ").cps++d.cps).toList=_;simp only[Array.toList_append,List.append_assoc];rfl
   .have hn:32∉d.cps.toList/\10∉d.cps.toList:=⟨λz=>by have:=M _ z;omega,λz=>by have:=M _ z;omega⟩;have a0:Wok d:=⟨by rw[Array.all_eq_true'];intro c Z;exact decide_eq_true (by have:=M c (by simpa using Z);omega),by omega⟩;have a1:Wok (wd "of"):=⟨by decide +kernel,by decide +kernel⟩;refine⟨List.cons_ne_nil _ _,⟨by show 3<=10000;decide,λx u=>?_⟩,λx u=>?_,?_⟩
    .simp only[List.mem_cons,List.not_mem_nil,or_false]at u;rcases u with rfl|rfl|rfl<;>assumption
    .simp only[List.mem_cons,List.not_mem_nil,or_false]at u;rcases u with rfl|rfl|rfl
     .decide
     .exact hn
     .exact hn
    .have:=O6 (c:=32) (B:=10) (ys:=[wd "of",d,d]) λy U=>by
      simp only[List.mem_cons,List.not_mem_nil,or_false]at U;rcases U with rfl|rfl|rfl
      .decide
      .omega
      .omega
     exact Nat.le_trans this (by show 3*11<=10000;decide)
   .unfold Dr.take;show(if dr0.names=[] then(if wd "of"=wd "of"/\1<=[d,d].length/\[d,d].length<=7/\[d,d].Nodup/\∀x∈[d,d],isNm x then _ else none)else _)=none;rw[if_pos (show dr0.names=[] from rfl)];exact if_neg λ⟨_,_,_,z,_⟩=>(List.nodup_cons.mp z).1 (List.mem_cons_self ..)
end
end K44
namespace K44
open PySem PySem.Spec PyProof.Rows L2
section
variable {d:Dr}{w:Str}{r:List Str}
theorem a4A(h0:d.names≠[])(h1:w≠wd "sum")(h2:w≠wd "cap")(a:w≠wd "price"):d.take (w::r)=none:=by
 unfold Dr.take;show(if d.names=[] then _ else if w=wd "sum" then _ else if w=wd "cap" then _ else if w=wd "price" then _ else none)=none;rw[if_neg h0,if_neg h1,if_neg h2,if_neg a]
theorem b1m(h0:d.names≠[])(h:K3 d.names r=none):d.take (wd "sum" :: r)=none:=by
 unfold Dr.take;show(if d.names=[] then _ else if wd "sum"=wd "sum" then(match K3 d.names r with|some l=>_|none=>none)else _)=none;rw[if_neg h0,if_pos rfl,h]
theorem b1n(h0:d.names≠[])(a:d.rows.length=6):d.take (wd "sum" :: r)=none:=by
 unfold Dr.take;show(if d.names=[] then _ else if wd "sum"=wd "sum" then(match K3 d.names r with|some l=>if d.rows.length=6 then none else _|none=>none)else _)=none;rw[if_neg h0,if_pos rfl];cases K3 d.names r with
 |none=>rfl
 |some l=>exact if_pos a
theorem b1o(h0:d.names≠[])(h:tkN d.names d.caps r=none):d.take (wd "cap" :: r)=none:=by
 unfold Dr.take;show(if d.names=[] then _ else if wd "cap"=wd "sum" then _ else if wd "cap"=wd "cap" then(tkN d.names d.caps r).map _ else _)=none;rw[if_neg h0,if_neg (by intro z;exact absurd (congrArg (λt:Str=>t.cps.toList) z) (by decide)),if_pos rfl,h];rfl
theorem a5y(h0:d.names≠[])(h:tkN d.names d.prices r=none):d.take (wd "price" :: r)=none:=by
 unfold Dr.take;show(if d.names=[] then _ else if wd "price"=wd "sum" then _ else if wd "price"=wd "cap" then _ else if wd "price"=wd "price" then(tkN d.names d.prices r).map _ else _)=none;rw[if_neg h0,if_neg (by intro z;exact absurd (congrArg (λt:Str=>t.cps.toList) z) (by decide)),if_neg (by intro z;exact absurd (congrArg (λt:Str=>t.cps.toList) z) (by decide)),if_pos rfl,h];rfl
theorem a8Q{ns:List Str}{kept:List (Str×Int)}(h:r.length≠2):tkN ns kept r=none:=by
 unfold tkN;split
 .exact absurd rfl h
 .rfl
theorem a8P{ns:List Str}{kept:List (Str×Int)}{n f:Str}(h:n∉ns):tkN ns kept [n,f]=none:=by
 show(if n∈ns/\n∉kept.map (·.1)then _ else none)=none;exact if_neg λz=>h z.1
theorem a4F{ns:List Str}{kept:List (Str×Int)}{n f:Str}(h:n∈kept.map (·.1)):tkN ns kept [n,f]=none:=by
 show(if n∈ns/\n∉kept.map (·.1)then _ else none)=none;exact if_neg λz=>z.2 h
theorem b1y{ns:List Str}{kept:List (Str×Int)}{n f:Str}(h:rdN f=none):tkN ns kept [n,f]=none:=by
 show(if n∈ns/\n∉kept.map (·.1)then(rdN f).map _ else none)=none;split
 .rw[h];rfl
 .rfl
end
end K44
namespace K44
open PySem PySem.Spec PyProof.Rows L2
def ex(n:List Nat):List Nat->List Nat
 |[]=>[]
 |c::l=>(if c=35 then n else[c])++ex n l
def xw(n:List Nat)(w:List Nat):Str:=toS (ex n w)
theorem b0U(n:List Nat):∀a b,ex n (a++b)=ex n a++ex n b
 |[],b=>rfl
 |c::a,b=>by
  show(if c=35 then n else[c])++ex n (a++b)=((if c=35 then n else[c])++ex n a)++ex n b;rw[b0U n a b,List.append_assoc]
theorem a0k{n:List Nat}:∀{l:List Nat},(∀c∈l,c≠35)->ex n l=l
 |[],_=>rfl
 |c::l,h=>by
  show(if c=35 then n else[c])++ex n l=_;rw[if_neg (h c List.mem_cons_self),a0k λd hd=>h d (List.mem_cons_of_mem _ hd)];rfl
theorem a6l{n:List Nat}{c:Nat}(a:c≠35):∀{l:List Nat},c∈l->c∈ex n l
 |d::l,h=>by
  show c∈(if d=35 then n else[d])++ex n l;rcases List.mem_cons.mp h with rfl|h
  .rw[if_neg a];exact List.mem_cons_self
  .exact List.mem_append_right _ (a6l a h)
theorem b4y{n:List Nat}{c:Nat}(a:c∈n):∀{l:List Nat},35∈l->c∈ex n l
 |d::l,h=>by
  show c∈(if d=35 then n else[d])++ex n l;rcases List.mem_cons.mp h with rfl|h
  .rw[if_pos rfl];exact List.mem_append_left _ a
  .exact List.mem_append_right _ (b4y a h)
theorem b4x{n:List Nat}{c:Nat}:∀{l:List Nat},c∈ex n l->c∈n∨c∈l
 |d::l,h=>by
  have h:c∈(if d=35 then n else[d])++ex n l:=h;rcases List.mem_append.mp h with h|h
  .split at h
   .exact .inl h
   .exact .inr (by rw[List.mem_singleton.mp h];exact List.mem_cons_self)
  .rcases b4x h with h|h
   .exact .inl h
   .exact .inr (List.mem_cons_of_mem _ h)
theorem a6m{n:List Nat}(hn:n.length<=8):∀l:List Nat,(ex n l).length<=8*l.length
 |[]=>Nat.le_refl _
 |c::l=>by
  have:=a6m hn l;show((if c=35 then n else[c])++ex n l).length<=_;rw[List.length_append,List.length_cons];split
  .omega
  .show 1+_<=_;omega
theorem b4z{n:List Nat}(hn:n≠[]):∀{l:List Nat},ex n l=[]->l=[]
 |[],_=>rfl
 |c::l,h=>by
  have h:(if c=35 then n else[c])++ex n l=[]:=h;have h:=(List.append_eq_nil_iff.mp h).1;split at h
  .exact absurd h hn
  .cases h
theorem b6G{n:List Nat}(hn:n≠[])(a:∀c∈n,97<=c){d:Nat}(hd:d<97):∀{l:List Nat},ex n l=[d]->l=[d]
 |[],h=>by cases h
 |c::l,h=>by
  have h:(if c=35 then n else[c])++ex n l=[d]:=h;split at h
  .cases n with
   |nil=>exact absurd rfl hn
   |cons x r =>
    injection h with h _
    have:=a x List.mem_cons_self;omega
  .injection h with h1 h2
   rw[b4z hn h2,h1]
theorem a6G{m w:List Nat}{ws:List (List Nat)}(e:spl m=w::ws):∀{n:List Nat},(∀c∈n,c≠32)->spl (n++m)=(n++w)::ws
 |[],_=>e
 |c::n,h=>by
  have a:=a6G e (n:=n) λd hd=>h d (List.mem_cons_of_mem _ hd);show(if c=32 then[]::spl (n++m)else match spl (n++m)with | []=>[[c]]|w::ws=>(c::w)::ws)=_;rw[if_neg (h c List.mem_cons_self),a];rfl
theorem a8Y{n:List Nat}(h:∀c∈n,c≠32):∀l,spl (ex n l)=(spl l).map (ex n)
 |[]=>rfl
 |c::l=>by
  have b:=a8Y h l;cases e:spl l with
  |nil=>exact absurd e (a0D l)
  |cons w ws =>
   rw[e]at b;show spl ((if c=35 then n else[c])++ex n l)=List.map (ex n) (if c=32 then[]::spl l else match spl l with | []=>[[c]]|w::ws=>(c::w)::ws);rw[e];by_cases a:c=35
   .rw[if_pos a,a6G b h,if_neg (by omega)];show _=ex n (c::w)::_;rw[show ex n (c::w)=(if c=35 then n else[c])++ex n w from rfl,if_pos a]
   .rw[if_neg a];show(if c=32 then[]::spl (ex n l)else match spl (ex n l)with | []=>[[c]]|w::ws=>(c::w)::ws)=_;rw[b];by_cases h2:c=32
    .rw[if_pos h2,if_pos h2];rfl
    .rw[if_neg h2,if_neg h2];show(c::ex n w)::_=ex n (c::w)::_;rw[show ex n (c::w)=(if c=35 then n else[c])++ex n w from rfl,if_neg a];rfl
abbrev zyl:List Nat:=[122,121,120,119,118,117,116,115]
abbrev b8T:List Nat:=[49,48,48,48,48,48,48,48,48,48,48,48,49]
abbrev b8S:List Nat:=[49,48,48,48,48,48,48,48,48,48,48,48,48,48]
structure NmC(ns:List Str)(n:Str):Prop where
 nms:Nms ns
 mem:n∈ns
 zy:wd "zyxwvuts"∉ns
section
variable {ns:List Str}{nm:Str}{n:List Nat}
theorem NmC.is(h:NmC ns nm):isNm nm:=h.nms.nm _ h.mem
theorem NmC.ne(h:NmC ns nm):nm.cps.toList≠[]:=λz=>by
 have:=h.is.1;rw[show nm.length=nm.cps.toList.length by rw[Array.length_toList];rfl,z]at this;exact absurd this (by decide)
theorem NmC.lo(h:NmC ns nm):∀c∈nm.cps.toList,97<=c:=λc a=>(h.is.2.2 c a).1
def ntN(w:List Nat):Bool:=w.any (λc=>c != 35 && (decide (c<97) || decide (122<c))) || w==[] || w==zyl
theorem b4h(h:NmC ns nm){w:List Nat}(hw:ntN w=true):xw nm.cps.toList w∉ns:=λz=>by
 unfold ntN at hw;obtain⟨q1,b,a⟩:=h.nms.nm _ z;rcases Bool.or_eq_true_iff.mp hw with hw|hw
 .rcases Bool.or_eq_true_iff.mp hw with hw|hw
  .obtain⟨c,hc,e⟩:=List.any_eq_true.mp hw;rw[Bool.and_eq_true,bne_iff_ne,Bool.or_eq_true,decide_eq_true_eq,decide_eq_true_eq]at e;have:=a c (a6l e.1 hc);omega
  .rw[beq_iff_eq]at hw;rw[hw]at q1;exact absurd (show 1<=0 from q1) (by decide)
 .rw[beq_iff_eq]at hw;rw[hw]at z;refine h.zy ?_;rw[show wd "zyxwvuts"=xw nm.cps.toList zyl from ?_]
  .exact z
  .unfold xw;rw[a0k (by decide)]
   with_unfolding_all rfl
def b2P(w:List Nat):Bool:=w.any (λc=>decide (c<48) || decide (57<c)) || w==[] || (w.head? == some 48 && w.drop 1 != []) || w==b8T || w==b8S
theorem b0i(h:NmC ns nm){w:List Nat}(hw:b2P w=true):rdN (xw nm.cps.toList w)=none:=by
 refine a2j λm e=>?_;have a:ex nm.cps.toList w=(G3 m).cps.toList:=congrArg (λt:Str=>t.cps.toList) e;unfold b2P at hw;rcases Bool.or_eq_true_iff.mp hw with hw|hw
 .rcases Bool.or_eq_true_iff.mp hw with hw|hw
  .rcases Bool.or_eq_true_iff.mp hw with hw|hw
   .rcases Bool.or_eq_true_iff.mp hw with hw|hw
    .obtain⟨c,hc,e1⟩:=List.any_eq_true.mp hw;rw[Bool.or_eq_true,decide_eq_true_eq,decide_eq_true_eq]at e1;by_cases b:c=35
     .subst b;cases e2:nm.cps.toList with
      |nil=>exact absurd e2 h.ne
      |cons x r =>
       have d:x∈nm.cps.toList:=by rw[e2];exact List.mem_cons_self
       have:=h.lo x d;have:=U7 m x (by rw[<-a];exact b4y d hc);omega
     .have:=U7 m c (by rw[<-a];exact a6l b hc);omega
    .rw[beq_iff_eq]at hw;rw[hw]at a;exact absurd a.symm (a0s m)
   .rw[Bool.and_eq_true,beq_iff_eq,bne_iff_ne]at hw;cases w with
    |nil=>cases hw.1
    |cons c r =>
     obtain⟨h1,h2⟩:=hw;injection h1 with h1
     subst h1;have h2:r≠[]:=h2;have a:48::ex nm.cps.toList r=(G3 m).cps.toList:=a;by_cases f:m=0
     .rw[f,a3w]at a;injection a with _ a
      exact absurd (b4z h.ne a) h2
     .have:=a3x m (by omega);rw[<-a]at this;exact absurd rfl this
  .rw[beq_iff_eq]at hw;have:G3 m=G3 1000000000001:=by
    rw[<-e,hw];unfold xw;rw[a0k (by decide)]
    with_unfolding_all rfl
   rw[a0i this];decide
 .rw[beq_iff_eq]at hw;have:G3 m=G3 10000000000000:=by
   rw[<-e,hw];unfold xw;rw[a0k (by decide)]
   with_unfolding_all rfl
  rw[a0i this];decide
theorem b3C(h:NmC ns nm):xw nm.cps.toList [35]=nm:=by
 unfold xw;show toS (nm.cps.toList++[])=nm;rw[List.append_nil];exact Str.ext' (by show nm.cps.toList.toArray=nm.cps;simp)
theorem a5A(h:NmC ns nm){d:Nat}(hd:d<97){w:List Nat}(e:xw nm.cps.toList w=toS [d]):w=[d]:=b6G h.ne h.lo hd (congrArg (λt:Str=>t.cps.toList) e)
def bnN(w:List Nat):Bool:=b2P w || w==[48]
theorem b4F(h:NmC ns nm){w:List Nat}(hw:bnN w=true)(j:Nat):rdF j [xw nm.cps.toList w]=none:=by
 show(match rdN (xw nm.cps.toList w)with|some x=>if x=0 then none else some (j,x)|none=>none)=none;unfold bnN at hw;rcases Bool.or_eq_true_iff.mp hw with hw|hw
 .rw[b0i h hw]
 .rw[beq_iff_eq]at hw;have:xw nm.cps.toList w=G3 0:=by
   rw[hw];unfold xw;rw[a0k (by decide)]
   with_unfolding_all rfl
  rw[this,a2i (by decide)];rfl
def tmB(t:List (List Nat)):Bool:=match t.getLast? with
 |none=>true
 |some w=>if w=[35] then decide (2<t.length) || (decide (t.length=2) && bnN (t.headD []))else ntN w && (decide (t.length≠1) || bnN w)
theorem a1J{j:Nat}{ws:List Str}(h:ws.length≠1):rdF j ws=none:=by
 unfold rdF;split
 .exact absurd rfl h
 .rfl
theorem b7i(h:NmC ns nm){t:List (List Nat)}(c:tmB t=true):rdT ns (t.map (xw nm.cps.toList))=none:=by
 unfold rdT pfT;rw[List.getLast?_map];unfold tmB at c;cases e:t.getLast? with
 |none=>exact a1J (by rw[List.getLast?_eq_none_iff.mp e];intro z;exact absurd (show 0=1 from z) (by decide))
 |some w =>
  rw[e]at c;dsimp only at c;simp only[Option.map_some];by_cases hw:w=[35]
  .rw[if_pos hw]at c;rw[if_pos (by rw[hw,b3C h];exact h.mem)];dsimp only;rw[List.length_map];rcases Bool.or_eq_true_iff.mp c with c|c
   .have c:=of_decide_eq_true c;rw[if_pos (by omega)];exact a1J (by rw[List.length_dropLast,List.length_map];omega)
   .rw[Bool.and_eq_true,decide_eq_true_eq]at c;rw[if_pos (by omega)]
    match t,c with
    |[a,b],⟨_,d⟩=>exact b4F h d _
  .rw[if_neg hw,Bool.and_eq_true]at c;rw[if_neg (b4h h c.1)];dsimp only;rcases Bool.or_eq_true_iff.mp c.2 with h1|h1
   .exact a1J (by rw[List.length_map];exact of_decide_eq_true h1)
   .match t,e with
    |[a],e =>
     cases e;exact b4F h h1 _
    |a::b::r,_=>exact a1J (by rw[List.length_map];simp)
def prA(s:List (List (List Nat))×List (List Nat))(w:List Nat):List (List (List Nat))×List (List Nat):=if w=[43] then(s.1++[s.2],[])else(s.1,s.2++[w])
def pA(ws:List (List Nat)):List (List (List Nat)):=let s:=ws.foldl prA ([],[]);s.1++[s.2]
theorem a8L(s:String)(d:Nat)(h:(wd s).cps.toList=[d]):wd s=toS [d]:=Str.ext' (Array.toList_inj.mp h)
theorem b4e(h:NmC ns nm):∀(ws:List (List Nat)) (s:List (List (List Nat))×List (List Nat)),(ws.map (xw nm.cps.toList)).foldl J1 (s.1.map (List.map (xw nm.cps.toList)),s.2.map (xw nm.cps.toList))=((ws.foldl prA s).1.map (List.map (xw nm.cps.toList)),(ws.foldl prA s).2.map (xw nm.cps.toList))
 |[],s=>rfl
 |w::ws,s=>by
  rw[List.map_cons,List.foldl_cons,List.foldl_cons,<-b4e h ws (prA s w)];congr 1;have ep:wd "+"=toS [43]:=a8L _ _ (by with_unfolding_all rfl);unfold J1 prA;by_cases e:w=[43]
  .rw[if_pos e,if_pos (by rw[e,ep];rfl)];simp
  .rw[if_neg e,if_neg (by rw[ep];exact λz=>e (a5A h (by decide) z))];simp
def hfB(ws:List (List Nat)):Bool:=ws != [[48]] && (pA ws).any tmB
theorem b4u(h:NmC ns nm){ws:List (List Nat)}(hw:hfB ws=true):X0 ns (ws.map (xw nm.cps.toList))=none:=by
 unfold hfB at hw;rw[Bool.and_eq_true,bne_iff_ne]at hw;obtain⟨h1,h2⟩:=hw;have c:wd "0"=toS [48]:=a8L _ _ (by with_unfolding_all rfl);unfold X0;rw[if_neg]
 .rw[if_neg];intro z;obtain⟨t,f,d⟩:=List.any_eq_true.mp h2;have e:prt (ws.map (xw nm.cps.toList))=(pA ws).map (List.map (xw nm.cps.toList)):=by
   have:=b4e h ws ([],[]);unfold prt pA;show(let s:=(ws.map (xw nm.cps.toList)).foldl J1 ([],[]);s.1++[s.2])=_;rw[show(ws.map (xw nm.cps.toList)).foldl J1 ([],[])=_ from this];simp
  rw[e,List.map_map,List.all_map]at z;have:=List.all_eq_true.mp z t f;dsimp only[Function.comp]at this;rw[b7i h d]at this;cases this
 .intro z
  match ws,h1,z with
  |[w],h1,z =>
   injection z with z _
   rw[c]at z;exact h1 (by rw[a5A h (by decide) z])
  |a::b::r,_,z=>exact absurd (congrArg List.length z) (by simp)
def smB(ws:List (List Nat)):Bool:=ws.count [61] != 1 || hfB (ws.take (ws.idxOf [61])) || hfB (ws.drop (ws.idxOf [61]+1))
theorem b3D(h:NmC ns nm)(w:List Nat):(xw nm.cps.toList w==wd "=")=(w==[61]):=by
 have ep:wd "="=toS [61]:=a8L _ _ (by with_unfolding_all rfl);rw[Bool.eq_iff_iff,beq_iff_eq,beq_iff_eq,ep];exact⟨λz=>a5A h (by decide) z,λz=>by rw[z];rfl⟩
theorem b7J(h:NmC ns nm){ws:List (List Nat)}(hw:smB ws=true):K3 ns (ws.map (xw nm.cps.toList))=none:=by
 have a:(ws.map (xw nm.cps.toList)).count (wd "=")=ws.count [61]:=by
  rw[List.count,List.countP_map,List.count];exact List.countP_congr λw _=>by
   show(xw nm.cps.toList w==wd "=")=true↔_;rw[b3D h]
 have hi:(ws.map (xw nm.cps.toList)).idxOf (wd "=")=ws.idxOf [61]:=by
  rw[List.idxOf,List.findIdx_map,List.idxOf];congr 1;funext w;exact b3D h w
 unfold smB at hw;unfold K3;rw[a,hi,<-List.map_take,<-List.map_drop];split
 .rename_i h1;rcases Bool.or_eq_true_iff.mp hw with hw|hw
  .rcases Bool.or_eq_true_iff.mp hw with hw|hw
   .rw[bne_iff_ne]at hw;exact absurd h1 hw
   .rw[b4u h hw];rfl
  .rw[b4u h hw];cases X0 ns _<;>rfl
 .rfl
def nbB:List (List Nat)->Bool
 |[a,b]=>ntN a || b2P b
 |_=>true
theorem b4i(h:NmC ns nm){ws:List (List Nat)}(hw:nbB ws=true)(kept:List (Str×Int)):tkN ns kept (ws.map (xw nm.cps.toList))=none:=by
 unfold nbB at hw;split at hw
 .rcases Bool.or_eq_true_iff.mp hw with hw|hw
  .exact a8P (b4h h hw)
  .exact b1y (b0i h hw)
 .rename_i c;refine a8Q λz=>?_;rw[List.length_map]at z
  match ws,c,z with
  |[a,b],c,_=>exact c a b rfl
abbrev aSm:List Nat:=[115,117,109]
abbrev aCp:List Nat:=[99,97,112]
abbrev aPr:List Nat:=[112,114,105,99,101]
theorem b4I:wd "sum"=toS aSm:=Str.ext' (Array.toList_inj.mp (by with_unfolding_all rfl))
theorem b4K:wd "cap"=toS aCp:=Str.ext' (Array.toList_inj.mp (by with_unfolding_all rfl))
theorem b4J:wd "price"=toS aPr:=Str.ext' (Array.toList_inj.mp (by with_unfolding_all rfl))
def bdT:List (List Nat)->Bool
 |[]=>false
 |w::r=>if w=[35] then smB r && nbB r else if w=aSm then smB r else if w=aCp∨w=aPr then nbB r else w.all λc=>c != 35
theorem b8x(h:NmC ns nm){d:Dr}(hd:d.names=ns){ws:List (List Nat)}(hw:bdT ws=true):d.take (ws.map (xw nm.cps.toList))=none:=by
 have a:d.names≠[]:=by rw[hd];exact List.ne_nil_of_mem h.mem
 match ws,hw with
 |w::r,hw =>
  have hw:(if w=[35] then smB r && nbB r else if w=aSm then smB r else if w=aCp∨w=aPr then nbB r else w.all λc=>c != 35)=true:=hw;show d.take (xw nm.cps.toList w::r.map (xw nm.cps.toList))=none;have ks:smB r=true->d.take (wd "sum" :: r.map (xw nm.cps.toList))=none:=λz=>b1m a (by rw[hd];exact b7J h z);have b:nbB r=true->d.take (wd "cap" :: r.map (xw nm.cps.toList))=none:=λz=>b1o a (by rw[hd];exact b4i h z _);have kp:nbB r=true->d.take (wd "price" :: r.map (xw nm.cps.toList))=none:=λz=>a5y a (by rw[hd];exact b4i h z _);by_cases e:w=[35]
  .rw[if_pos e,Bool.and_eq_true]at hw;generalize xw nm.cps.toList w=x;by_cases f:x=wd "sum"
   .rw[f];exact ks hw.1
   by_cases g:x=wd "cap"
   .rw[g];exact b hw.2
   by_cases i:x=wd "price"
   .rw[i];exact kp hw.2
   exact a4A a f g i
  rw[if_neg e]at hw;by_cases e1:w=aSm
  .rw[if_pos e1]at hw;rw[show xw nm.cps.toList w=wd "sum" by rw[e1,b4I];exact congrArg toS (a0k (by decide))];exact ks hw
  rw[if_neg e1]at hw;by_cases e2:w=aCp∨w=aPr
  .rw[if_pos e2]at hw;rcases e2 with e2|e2
   .rw[show xw nm.cps.toList w=wd "cap" by rw[e2,b4K];exact congrArg toS (a0k (by decide))];exact b hw
   .rw[show xw nm.cps.toList w=wd "price" by rw[e2,b4J];exact congrArg toS (a0k (by decide))];exact kp hw
  rw[if_neg e2]at hw;have hn:xw nm.cps.toList w=toS w:=congrArg toS (a0k λc j=>by
   have:=List.all_eq_true.mp hw c j;rwa[bne_iff_ne]at this)
  rw[hn];exact a4A a (by rw[b4I];exact λz=>e1 (a3K z)) (by rw[b4K];exact λz=>e2 (.inl (a3K z))) (by rw[b4J];exact λz=>e2 (.inr (a3K z)))
def a7o(ns:List Str)(y:Str):Prop:=∃ws,y=Str.join bk ws/\Wl ws/\∀d:Dr,d.names=ns->d.take ws=none
def okT(l:List Nat):Bool:=l.all (λc=>decide (c<128) && decide (c≠10)) && decide (l.length<=100)
theorem b8l(h:NmC ns nm){l:List Nat}(b:okT l=true):okL (ex nm.cps.toList l)=true:=by
 unfold okT at b;rw[Bool.and_eq_true,decide_eq_true_eq,List.all_eq_true]at b;unfold okL;rw[Bool.and_eq_true,decide_eq_true_eq,List.all_eq_true];refine⟨λc a=>?_,?_⟩
 .rcases b4x a with a|a
  .have:=h.is.2.2 c a;rw[decide_eq_true (show c<128 by omega),decide_eq_true (show c≠10 by omega)];rfl
  .exact b.1 c a
 .have:=a6m (n:=nm.cps.toList) (by rw[Array.length_toList];exact h.is.2.1) l;omega
theorem b8E(h:NmC ns nm):∀c∈nm.cps.toList,c≠32:=λc a=>by have:=h.lo c a;omega
theorem b0r(h:NmC ns nm){l:List Nat}(a:okT l=true):toS (ex nm.cps.toList l)=Str.join bk ((spl l).map (xw nm.cps.toList))/\Wl ((spl l).map (xw nm.cps.toList)):=by
 have e:(spl (ex nm.cps.toList l)).map toS=(spl l).map (xw nm.cps.toList):=by
  rw[a8Y (b8E h),List.map_map];rfl
 have w:=a4c (b8l h a);have j:=a0R (ex nm.cps.toList l);rw[e]at w j;exact⟨Str.ext' (Array.toList_inj.mp j.symm),w⟩
theorem b8y(h:NmC ns nm){l:List Nat}(a:(okT l && bdT (spl l))=true):a7o ns (toS (ex nm.cps.toList l)):=by
 rw[Bool.and_eq_true]at a;obtain⟨e,w⟩:=b0r h a.1;exact⟨_,e,w,λd hd=>b8x h hd a.2⟩
end
end K44
namespace K44
open PySem PySem.Spec PyProof.Rows L2
def sb(n:Str)(l:List Nat):Str:=toS (ex n.cps.toList l)
theorem a2e(n:Str)(a b:List Nat):sb n a++sb n b=sb n (a++b):=by
 refine Str.ext' (Array.toList_inj.mp ?_);rw[Str.cps_append,Array.toList_append];exact(b0U n.cps.toList a b).symm
theorem a3T{n x:Str}{l:List Nat}(e:x.cps.toList=l)(h:(l.all λc=>c != 35)=true):x=sb n l:=by
 refine Str.ext' (Array.toList_inj.mp ?_);show _=ex n.cps.toList l;rw[a0k λc a=>by have:=List.all_eq_true.mp h c a;rwa[bne_iff_ne]at this];exact e
theorem b7L(n:Str):n=sb n [35]:=by
 refine Str.ext' (Array.toList_inj.mp ?_);show _=n.cps.toList++[];rw[List.append_nil]
theorem a0F{n:Str}(hn:n.length<=8)(l:List Nat):(sb n l).length<=8*l.length:=by
 show(sb n l).cps.size<=_;rw[<-Array.length_toList];exact a6m (by rw[Array.length_toList];exact hn) l
def ETx(n:Str)(σ:L2.St)(te:TE)(l:List Nat):Prop:=∀(H:Hp) (Q:VK),Q (.str (sb n l)) H->te σ H Q
def FTx(n:Str)(σ:L2.St)(t:TF)(m:List Nat):Prop:=∀(acc:List Nat) (H:Hp) (Q:Str->Hp->Prop),acc.length+m.length<=1000->Q (sb n (acc++m)) H->t σ H (sb n acc) Q
def EAx(n:Str)(σ:L2.St)(ta:TA)(ls:List (List Nat)):Prop:=∀(H:Hp) (Q:List V->Hp->Prop),Q (ls.map λl=>V.str (sb n l)) H->ta σ H Q
section
variable {n:Str}{σ:L2.St}
theorem Z0{s:Str}(l:List Nat)(e:s.cps.toList=l)(h:(l.all λc=>c != 35)=true):ETx n σ (tC (.str s)) l:=λH Q q=>by
 show Q (.str s) H;rw[a3T (n:=n) e h];exact q
theorem a0l:EAx n σ a0P []:=λH Q q=>q
theorem V9{te:TE}{ta:TA}{l:List Nat}{a:List (List Nat)}(h:ETx n σ te l)(g:EAx n σ ta a):EAx n σ (a2a te ta) (l::a):=λH Q q=>h H _ (g H _ q)
theorem a0e:FTx n σ b8r []:=λa H Q _ q=>by
 rw[List.append_nil]at q;exact q
theorem sz1:(8000:Nat)<=sizeLine:=by rw[sizeLine_eq];decide
theorem a0f{te:TE}{t:TF}{l m:List Nat}(hn:n.length<=8)(h:ETx n σ te l)(g:FTx n σ t m):FTx n σ (b8s te t) (l++m):=λa H Q b q=>by
 rw[List.length_append]at b;refine h H _ ⟨_,rfl,?_,?_⟩
 .rw[a2e];have:=a0F hn (a++l);rw[List.length_append]at this;have:=sz1;omega
 .rw[a2e];exact g (a++l) H Q (by rw[List.length_append];omega) (by rw[List.append_assoc];exact q)
theorem a0g{te:TE}{t:TF}{l m:List Nat}(hn:n.length<=8)(h:ETx n σ te l)(g:FTx n σ t m):FTx n σ (b8t te t) (l++m):=λa H Q b q=>by
 rw[List.length_append]at b;have:=sz1;refine h H _ (.inl ⟨_,rfl,?_,?_,?_⟩)
 .have:=a0F hn l;omega
 .rw[a2e];have:=a0F hn (a++l);rw[List.length_append]at this;omega
 .rw[a2e];exact g (a++l) H Q (by rw[List.length_append];omega) (by rw[List.append_assoc];exact q)
theorem a1y{t:TF}{m:List Nat}(hn:n.length<=8)(h:FTx n σ t m)(a:decide (m.length<=1000)=true):ETx n σ (tFs t) m:=λH Q q=>by
 have a:=of_decide_eq_true a;refine h [] H _ (by simpa using a) ⟨?_,q⟩;have:=a0F hn m;have:=sz1;show(sb n m).length<=_;omega
theorem a1z{te:TE}{l:List Nat}(hn:n.length<=8)(h:ETx n σ te l)(a:decide (l.length<=1000)=true):ETx n σ (tF1 te) l:=λH Q q=>by
 have a:=of_decide_eq_true a;refine h H _ ⟨_,rfl,?_,q⟩;have:=a0F hn l;have:=sz1;omega
theorem a1x{i:Nat}(h:σ[i]?=some (some (.str n))):ETx n σ (U9 i) [35]:=λH Q q=>by
 refine⟨_,h,?_⟩;rw[<-b7L]at q;exact q
theorem a3y{i:Nat}{x:Str}(h:σ[i]?=some (some (.str x)))(e:(x.cps.toList.all λc=>c != 35)=true):ETx n σ (U9 i) x.cps.toList:=λH Q q=>by
 refine⟨_,h,?_⟩;rw[<-a3T (n:=n) rfl e]at q;exact q
theorem b0V{i:Nat}{x:Str}{te:TE}(h:σ[i]?=some (some (.str x)))(b:decide (x.length<=8000)=true)(a:∀(H:Hp) (Q:VK),Q (.int (-1)) H->te σ H Q)(e:((PySem.Txt.slice x none (some (-1))).cps.toList.all λc=>c != 35)=true):ETx n σ (tSl b5e (U9 i) L3 (a4H te)) (PySem.Txt.slice x none (some (-1))).cps.toList:=λH Q q=>by
 refine⟨_,h,a H _ ⟨_,rfl,x,rfl,Nat.le_trans (of_decide_eq_true b) sz1,?_⟩⟩;rw[<-a3T (n:=n) rfl e]at q;exact q
theorem W6{ta tb:TE}{a b:List Nat}(hn:n.length<=8)(h:ETx n σ ta a)(g:ETx n σ tb b)(c:decide (a.length+b.length<=1000)=true):ETx n σ (tOp N2 ta tb) (a++b):=λH Q q=>by
 have c:=of_decide_eq_true c;have:=a0F hn a;have:=a0F hn b;have:=sz1;refine h H _ (g H _ ⟨_,_,rfl,rfl,by omega,?_⟩);rw[a2e];exact q
def txs(n:Str)(ls:List (List Nat)):List V:=ls.map λl=>V.str (sb n l)
theorem a3J(n:Str)(a b:List (List Nat)):txs n a++txs n b=txs n (a++b):=by unfold txs;rw[List.map_append]
theorem sz2:(1000:Nat)<=sizeLine:=by rw[sizeLine_eq];decide
theorem a3L{ta:TA}{ms:List (List Nat)}{H:Hp}{Q:VK}(h:EAx n σ ta ms)(a:decide (ms.length<=1000)=true)(k:∀p H',Same H H'->H p=none->H' p=some (.lst (txs n ms))->Q (.ref p) H'):a2P ta σ H Q:=by
 have a:=of_decide_eq_true a;have:=sz2;exact h H _ ⟨by rw[List.length_map];omega,λp b=>k p _ ((Same.refl H).upd b) b A0⟩
theorem a3M{i:Nat}{b:Addr}{ta:TA}{a ms:List (List Nat)}{H:Hp}{Q:VK}(h0:σ[i]?=some (some (.ref b)))(e:H b=some (.lst (txs n a)))(h:EAx n σ ta ms)(c:decide (a.length+ms.length<=1000)=true)(k:∀p H',Same H H'->H p=none->H' p=some (.lst (txs n (a++ms)))->Q (.ref p) H'):tOp a7z (U9 i) (a2P ta) σ H Q:=by
 have c:=of_decide_eq_true c;have:=sz2;refine⟨_,h0,a3L h (decide_eq_true (by omega)) λp H1 s1 f e1=>?_⟩;refine⟨b,p,_,_,rfl,rfl,s1 _ _ e,e1,by unfold txs;rw[List.length_map,List.length_map];omega,λq d=>?_⟩;refine k q _ (s1.upd d) (s1.free d) ?_;rw[A0,a3J]
theorem a0C{te:TE}{g:TG}{u:TS}{D:Ends}{H:Hp}(h:te σ H λx H1=>g x σ H1 (u D)):a8U (a5K te g) u D σ H:=h
theorem b4X{te:TE}{D:Ends}{H:Hp}(h:te σ H λx H1=>D.rt x H1):b1C te D σ H:=h
end
end K44
namespace K44
open PySem PySem.Spec PyProof.Rows L2
abbrev bsS:List String:=["sum","sum ","sum #","sum # =","sum = #","sum =","sum # = 0 = 0","sum # + = 0","sum + # = 0","sum # + + # = 0","sum # # = 0","sum # 2 = 0","sum 2 # # = 0","sum 2 3 = 0","sum 2 3 # = 0","sum 0 # = 0","sum 0 + # = 0","sum # = # + 0","sum 00 = #","sum 01 # = 0","sum -1 # = 0","sum # - # = 0","sum #=0","sum #  = 0"," sum # = 0","sum # = 0 ","sum zyxwvuts = 0","sum # = 2 zyxwvuts","sum 1000000000001 # = 0","sum 10000000000000 # = 0","sum 0 = 1000000000001","sum 1000000000000 # + # = 0","sum 0 = 1000000000000 # + #","sum 1000000000000 + 1 = 0","sum 0 = 1000000000000 + 1","Sum # = 0","sums # = 0","sum 2# = 0","sum # = 1.0","sum # == 0","# = 0"]
def bsL:List (List Nat):=bsS.map λs=>(Str.ofString s).cps.toList
section
variable {P:Program}{w:World}{K:PySem.W.Frag}{mg:Str->Option Value}{base:Heap}
def b7I:Sp:=λvs H Q _=>∃(n:Str),vs=[.str n]/\n.length<=8/\∀p H',Same H H'->H p=none->H' p=some (.lst (txs n bsL))->Q (.ref p) H'
theorem sc__law_bad_sums:FnScope ["_law_name","_law_great","_law_some"] ["_law_name"] (A8 M5):=⟨rfl,rfl,rfl,by decide +kernel,rfl,by decide +kernel,by decide +kernel⟩
theorem a4Z(F:FunAt K mg "_law_bad_sums" M5 ["_law_name"])(T:Tx mg):Ok P w K mg base "_law_bad_sums" 1 ["_law_name"] b7I:=by
 refine F.okJ sc__law_bad_sums (λvs H Q E h=>?_) (λg f A outer s H vs Q E l h=>?_)
 .obtain⟨n,rfl,_⟩:=h;rfl
 .obtain⟨n,rfl,hn,k⟩:=h;have fin:∀a p H',Same H H'->H p=none->H' p=some (.lst (txs n a))->decide (a=bsL)=true->Q (.ref p) H':=λa p H' s f e h=>by
   rw[of_decide_eq_true h]at e;exact k p H' s f e
  refine⟨_,(A1 (B7 (i:=1) sc__law_bad_sums.nd rfl (Or.inl rfl) A2)
 (A1 (B7 (i:=2) sc__law_bad_sums.nd rfl (Or.inl rfl) (C5 (jaC A2 (jaC A2 (jaC (D9 (A3 A2 (A6 (jv 0) B3))) (jaC (D9 (A3 A2 (A6 (jv 0) (A3 A2 B3)))) (jaC (D9 (A3 A2 (A6 (jv 0) B3))) (jaC A2 (jaC (D9 (A3 A2 (A6 (jv 0) (A3 A2 B3)))) jaN)))))))))
 (A1 (B7 (i:=2) sc__law_bad_sums.nd rfl (Or.inl rfl) (J9 (jv 2) (C5 (jaC (D9 (A3 A2 (A6 (jv 0) (A3 A2 B3)))) (jaC (D9 (A3 A2 (A6 (jv 0) (A3 A2 B3)))) (jaC (D9 (A3 A2 (A6 (jv 0) (A3 A2 (A6 (jv 0) (A3 A2 B3)))))) (jaC (D9 (A3 A2 (A6 (jv 0) (A3 A2 (A6 (jv 0) (A3 A2 B3)))))) jaN)))))))
 (A1 (B7 (i:=2) sc__law_bad_sums.nd rfl (Or.inl rfl) (J9 (jv 2) (C5 (jaC (D9 (A3 A2 (A6 (jv 0) (A3 A2 B3)))) (jaC (D9 (A3 A2 (A6 (jv 0) (A3 A2 (A6 (jv 0) (A3 A2 B3)))))) (jaC A2 (jaC (D9 (A3 A2 (A6 (jv 0) (A3 A2 B3)))) jaN)))))))
 (A1 (B7 (i:=2) sc__law_bad_sums.nd rfl (Or.inl rfl) (J9 (jv 2) (C5 (jaC (D9 (A3 A2 (A6 (jv 0) (A3 A2 B3)))) (jaC (D9 (A3 A2 (A6 (jv 0) (A3 A2 B3)))) (jaC (D9 (A3 A2 (A6 (jv 0) (A3 A2 (A6 (jv 0) (A3 A2 B3)))))) (jaC (D9 (A3 A2 (A6 (jv 0) B3))) jaN)))))))
 (A1 (B7 (i:=2) sc__law_bad_sums.nd rfl (Or.inl rfl) (J9 (jv 2) (C5 (jaC (D9 (A3 A2 (A6 (jv 0) (A3 A2 B3)))) (jaC (D9 (A3 A2 (A6 (jv 0) (A3 A2 B3)))) (jaC (D9 (A3 A2 (A6 (jv 0) (A3 A2 (A6 (jv 0) (A3 A2 B3)))))) (jaC (D9 (A3 A2 (A6 (jv 0) (A3 A2 B3)))) jaN)))))))
 (A1 (B7 (i:=2) sc__law_bad_sums.nd rfl (Or.inl rfl) (J9 (jv 2) (C5 (jaC (D9 (A3 A2 (A6 (jv 0) (A3 A2 B3)))) (jaC (D9 (A3 A2 (A6 (jv 0) (A3 A2 B3)))) (jaC (D9 (A3 A2 (A6 (jv 0) (A3 A2 B3)))) (jaC A2 jaN)))))))
 (A1 (B7 (i:=2) sc__law_bad_sums.nd rfl (Or.inl rfl) (J9 (jv 2) (C5 (jaC (D9 (A3 A2 (A6 (jv 0) (A3 A2 B3)))) (jaC (D9 (A3 A2 (A6 (b4m (jv 1) I0 (G9 (Q0 A4))) (A3 A2 (A6 (jv 0) (A3 A2 B3)))))) (jaC (D9 (A3 A2 (A6 (jv 1) (A3 A2 (A6 (jv 0) (A3 A2 B3)))))) jaN))))))
 (A1 (B7 (i:=2) sc__law_bad_sums.nd rfl (Or.inl rfl) (J9 (jv 2) (C5 (jaC (D9 (A3 A2 (A6 (b4m (jv 1) I0 (G9 (Q0 A4))) (A3 A2 B3)))) (jaC (D9 (A3 A2 (A6 (jv 1) (A3 A2 (A6 (jv 0) (A3 A2 (A6 (jv 0) (A3 A2 B3)))))))) (jaC (D9 (A3 A2 (A6 (jv 1) (A3 A2 (A6 (jv 0) (A3 A2 (A6 (jv 0) B3))))))) jaN))))))
 (A1 (B7 (i:=2) sc__law_bad_sums.nd rfl (Or.inl rfl) (J9 (jv 2) (C5 (jaC (D9 (A3 A2 (A6 (jv 1) (A3 A2 B3)))) (jaC (D9 (A3 A2 (A6 (jv 1) (A3 A2 B3)))) (jaC (D9 (A3 A2 (A6 (jv 0) (A3 A2 B3)))) (jaC (D9 (A3 A2 (A6 (jv 0) (A3 A2 B3)))) jaN)))))))
 (A9 (C2 (J9 (jv 2) (C5 (jaC (D9 (A3 A2 (A6 (jv 0) (A3 A2 B3)))) (jaC (D9 (A3 A2 (A6 (jv 0) (A3 A2 B3)))) (jaC (D9 (A3 A2 (A6 (jv 0) (A3 A2 B3)))) (jaC (D9 (A6 (jv 0) (A3 A2 B3))) jaN)))))))))))))))))),?_⟩
  refine a0C ?_;dsimp only[B1];refine a0C (a3L (n:=n) (by
   repeat' (first|exact a0l|apply V9|exact a0e|exact Z0 _ rfl (by decide +kernel)|exact a1x (i:=0) rfl|exact a3y (i:=1) rfl (by decide +kernel)|exact b0V (i:=1) rfl (by decide +kernel) (λ_ _ q=>⟨_,rfl,q⟩) (by decide +kernel)|apply a1y hn|apply a1z hn|apply W6 hn|apply a0f hn|apply a0g hn|decide +kernel)) (by decide +kernel) λd H1 s1 j e1=>?_)
  dsimp only[B1]
  iterate 8
   refine a0C (a3M (n:=n) rfl (by assumption) (by
    repeat' (first|exact a0l|apply V9|exact a0e|exact Z0 _ rfl (by decide +kernel)|exact a1x (i:=0) rfl|exact a3y (i:=1) rfl (by decide +kernel)|exact b0V (i:=1) rfl (by decide +kernel) (λ_ _ q=>⟨_,rfl,q⟩) (by decide +kernel)|apply a1y hn|apply a1z hn|apply W6 hn|apply a0f hn|apply a0g hn|decide +kernel)) (by decide +kernel) λd H2 b c e2=>?_)
   dsimp only[B1];have s1:=s1.trans b
  refine b4X (a3M (n:=n) rfl (by assumption) (by
   repeat' (first|exact a0l|apply V9|exact a0e|exact Z0 _ rfl (by decide +kernel)|exact a1x (i:=0) rfl|exact a3y (i:=1) rfl (by decide +kernel)|exact b0V (i:=1) rfl (by decide +kernel) (λ_ _ q=>⟨_,rfl,q⟩) (by decide +kernel)|apply a1y hn|apply a1z hn|apply W6 hn|apply a0f hn|apply a0g hn|decide +kernel)) (by decide +kernel) λd H2 b c e2=>?_)
  exact fin _ _ _ (s1.trans b) (s1.free c) e2 (by decide +kernel)
end
end K44
namespace K44
open PySem PySem.Spec PyProof.Rows L2
section
variable {ns:List Str}{nm:Str}
theorem a3Z(hn:Nms ns){ts us:List (List Str)}{ps c:List (Nat×Int)}(h:Tms ns ts ps)(g:Tms ns us c){j:Nat}(d:j<ns.length+1)(l:L8 ps j-L8 c j < -topN∨topN<L8 ps j-L8 c j):K3 ns (C6 ts++wd "=" :: C6 us)=none:=by
 rw[a5L hn h g];unfold b0Z;refine if_neg λz=>?_;have e:∀ps:List (Nat×Int),(ps.foldl C8 (List.replicate (ns.length+1) (0:Int)))[j]?=some (L8 ps j):=λps=>by
  have f:j<(ps.foldl C8 (List.replicate (ns.length+1) (0:Int))).length:=by rw[K0,List.length_replicate];exact d
  have:=a1S ps (List.replicate (ns.length+1) 0) j (by rw[List.length_replicate];exact d);rw[List.getD_eq_getElem?_getD,List.getElem?_eq_getElem f]at this;rw[show((List.replicate (ns.length+1) (0:Int)).getD j 0)=0 by rw[List.getD_eq_getElem?_getD];simp[d]]at this;rw[List.getElem?_eq_getElem f];simpa using this
 have k:L8 ps j-L8 c j∈List.zipWith (λa b:Int=>a-b) (ps.foldl C8 (List.replicate (ns.length+1) 0)) (c.foldl C8 (List.replicate (ns.length+1) 0)):=by
  refine List.mem_of_getElem? (i:=j) ?_;rw[List.getElem?_zipWith,e,e]
 have:=z _ k;omega
theorem a1j{n l:List Nat}{x:Str}(e:x.cps.toList=l)(h:(l.all λc=>c != 35)=true):xw n l=x:=by
 refine Str.ext' (Array.toList_inj.mp ?_);show ex n l=_;rw[a0k λc a=>by have:=List.all_eq_true.mp h c a;rwa[bne_iff_ne]at this];exact e.symm
abbrev grt:List Nat:=[49,48,48,48,48,48,48,48,48,48,48,48,48]
abbrev ovS:List String:=["sum 1000000000000 # + # = 0","sum 0 = 1000000000000 # + #","sum 1000000000000 + 1 = 0","sum 0 = 1000000000000 + 1"]
def ovL:List (List Nat):=ovS.map λs=>(Str.ofString s).cps.toList
theorem b5K:(ovL.map spl)=[[aSm,grt,[35],[43],[35],[61],[48]],[aSm,[48],[61],grt,[35],[43],[35]],[aSm,grt,[43],[49],[61],[48]],[aSm,[48],[61],grt,[43],[49]]]:=by decide +kernel
theorem b8f:(ovL.all okT)=true:=by decide +kernel
theorem two_tot(j:Nat):L8 [(j,topN),(j,1)] j=topN+1:=by simp[L8]
theorem b5L(h:NmC ns nm){l:List Nat}(k:l∈ovL):a7o ns (sb nm l):=by
 obtain⟨e,w⟩:=b0r h (List.all_eq_true.mp b8f l k);refine⟨_,e,w,λd hd=>?_⟩;have hs:spl l∈ovL.map spl:=List.mem_map.mpr ⟨l,k,rfl⟩;rw[b5K]at hs;have v:d.names≠[]:=by rw[hd];exact List.ne_nil_of_mem h.mem
 have e1:xw nm.cps.toList aSm=wd "sum":=a1j (by decide +kernel) (by decide);have e2:xw nm.cps.toList grt=D8 topN:=a1j (by decide +kernel) (by decide);have q:xw nm.cps.toList [43]=wd "+":=a1j (by decide +kernel) (by decide);have r:xw nm.cps.toList [61]=wd "=":=a1j (by decide +kernel) (by decide);have s:xw nm.cps.toList [48]=wd "0":=a1j (by decide +kernel) (by decide);have t:xw nm.cps.toList [49]=D8 1:=a1j (by decide +kernel) (by decide);have u:xw nm.cps.toList [35]=nm:=b3C h;obtain⟨x,a,_⟩:=a1P h.mem;have c:(0:Int)<topN:=by decide
 have f:topN<=topN:=Int.le_refl _;have g:(0:Int)<1:=by decide
 have i:(1:Int)<=topN:=by decide
 have o:Tms ns [[D8 topN,nm],[nm]] [(ns.idxOf nm,topN),(ns.idxOf nm,1)]:=.cons ⟨c,f,.inl ⟨nm,a,.inl rfl⟩⟩ (.cons ⟨g,i,.inl ⟨nm,a,.inr ⟨rfl,rfl⟩⟩⟩ .nil);have p:Tms ns [[D8 topN],[D8 1]] [(ns.length,topN),(ns.length,1)]:=.cons ⟨c,f,.inr ⟨rfl,rfl⟩⟩ (.cons ⟨g,i,.inr ⟨rfl,rfl⟩⟩ .nil);have key:∀ws:List Str,K3 ns ws=none->d.take (wd "sum" :: ws)=none:=λws z=>b1m v (by rw[hd];exact z);have m:=two_tot (ns.idxOf nm);have n:=two_tot ns.length;have b:∀j,L8 [] j=0:=λj=>rfl;simp only[List.mem_cons,List.not_mem_nil,or_false]at hs;rcases hs with hs|hs|hs|hs<;>rw[hs]<;>simp only[List.map_cons,List.map_nil,e1,e2,q,r,s,t,u]<;>refine key _ ?_
 .exact a3Z h.nms o .nil (j:=ns.idxOf nm) (by omega) (.inr (by rw[m,b];unfold topN;omega))
 .exact a3Z h.nms .nil o (j:=ns.idxOf nm) (by omega) (.inl (by rw[m,b];unfold topN;omega))
 .exact a3Z h.nms p .nil (j:=ns.length) (by omega) (.inr (by rw[n,b];unfold topN;omega))
 .exact a3Z h.nms .nil p (j:=ns.length) (by omega) (.inl (by rw[n,b];unfold topN;omega))
def chk(l:List Nat):Bool:=(okT l && bdT (spl l)) || ovL.contains l
theorem b3t(h:NmC ns nm){l:List Nat}(a:chk l=true):a7o ns (sb nm l):=by
 unfold chk at a;rcases Bool.or_eq_true_iff.mp a with a|a
 .exact b8y h a
 .exact b5L h (List.contains_iff_mem.mp a)
end
section
variable {n:Str}{σ:L2.St}{K:PySem.W.Frag}
theorem b8u{i:Nat}{m:List Nat}(h:σ[i]?=some (some (.str (sb n m)))):ETx n σ (U9 i) m:=λH Q q=>⟨_,h,q⟩
theorem b4A{i:Nat}{x y:Str}(h:σ[i]?=some (some (.str x)))(e:PySem.Txt.upper x=y)(b:PySem.Builtin.Str.tooLong (PySem.Txt.upper x).length=false)(a:(y.cps.toList.all λc=>c != 35)=true):ETx n σ (b1E K "str" rUp (U9 i)) y.cps.toList:=λH Q q=>by
 refine⟨_,h,rfl,x,rfl,rfl,b,?_⟩;rw[e,a3T (n:=n) rfl a];exact q
end
end K44
namespace K44
open PySem PySem.Spec PyProof.Rows L2
section
variable {P:Program}{w:World}{K:PySem.W.Frag}{mg:Str->Option Value}{base:Heap}
def b7D:Sp:=λvs H Q _=>∃(a b l:Addr) (xs:List V),vs=[.ref a,.ref l]/\PotAt H a b/\H l=some (.tup xs)/\0<xs.length/\xs.length<=1000/\∀r H',r∈xs->PotAt H' a b->Off [a,b] H H'->Q r H'
def a9e:Sp:=λvs H Q E=>a5N vs H Q E∨b7D vs H Q E
theorem b6b(F:FunAt K mg "_law_of" W8 ["_law_pot_here","_law_some"])(T:Tx mg)(c:Ok P w K mg base "_law_next" 1 ["_law_pot_here","_law_many"] T5):Ok P w K mg base "_law_of" 2 ["_law_pot_here","_law_some"] a9e:=by
 refine F.okJ a2d (λvs H Q E h=>?_) (λn f A outer s H vs Q E m h=>?_)
 .rcases h with⟨a,b,l,xs,rfl,_⟩|⟨a,b,l,xs,rfl,_⟩<;>rfl
 .rcases h with⟨a,b,l,xs,rfl,hP,hl,hn,h0,h1,k⟩|⟨a,b,l,xs,rfl,hP,hl,h0,h1,k⟩
  .refine⟨_,(A9 (C2 (K4 K (jv 1) (C0 c (m.mono (by omega)) rfl (jaC (jv 0) (jaC (D7 K rfl T.b_len (jaC (jv 1) jaN)) jaN)))))),?_⟩;have i:((xs.length:Nat):Int)<10 ^ 100:=Int.lt_of_le_of_lt (show(xs.length:Int)<=1000 by omega) (by decide +kernel);refine⟨_,rfl,_,rfl,_,rfl,l,_,rfl,.inl (SqL.of hl),a,b,_,rfl,hP,by omega,i,λr H1 o p e d=>?_⟩;obtain⟨j,rfl⟩:∃j:Nat,r=j:=⟨r.toNat,by omega⟩;have g:j<xs.length:=by omega
   refine⟨l,_,_,_,rfl,rfl,SqL.of (d _ _ hn hl),F0 (j:=j) (List.getElem?_eq_getElem g),k _ H1 (List.getElem_mem g) e d⟩
  .refine⟨_,(A9 (C2 (V8 K (jv 1) (C0 c (m.mono (by omega)) rfl (jaC (jv 0) (jaC (D7 K rfl T.b_len (jaC (jv 1) jaN)) jaN)))))),?_⟩;have i:((xs.length:Nat):Int)<10 ^ 100:=Int.lt_of_le_of_lt (show(xs.length:Int)<=1000 by omega) (by decide +kernel);refine⟨_,rfl,_,rfl,_,rfl,l,_,rfl,.inr (.inl (.inl hl)),a,b,_,rfl,hP,by omega,i,λr H1 o p e d=>?_⟩;obtain⟨j,rfl⟩:∃j:Nat,r=j:=⟨r.toNat,by omega⟩;have g:j<xs.length:=by omega
   refine⟨l,_,_,_,rfl,rfl,SqT.of (d _ _ (G1 hP hl) hl),F0 (j:=j) (List.getElem?_eq_getElem g),k _ H1 (List.getElem_mem g) e d⟩
theorem a1H(n:Str)(a:List (List Nat)):(txs n a).length=a.length:=by unfold txs;rw[List.length_map]
theorem b4S{n:Str}{a:List (List Nat)}{i:Nat}{v:V}(h:(txs n a)[i]?=some v):∃m,a[i]?=some m/\v=.str (sb n m):=by
 unfold txs at h;rw[List.getElem?_map]at h;obtain⟨m,e,rfl⟩:=Option.map_eq_some_iff.mp h;exact⟨m,e,rfl⟩
theorem b1x{n:Str}{a:List (List Nat)}{v:V}(h:v∈txs n a):∃m∈a,v=.str (sb n m):=by
 obtain⟨m,e,rfl⟩:=List.mem_map.mp h;exact⟨m,e,rfl⟩
def pfx(x:Str)(m:List Nat):List Nat:=(x.cps.toList++(Str.ofString " ").cps.toList)++m
theorem a9O{x:Str}{B ms:List (List Nat)}{i:Nat}{m:List Nat}(h:ms[i]?=some m):(B++(ms.take i).map (pfx x))++[pfx x m]=B++(ms.take (i+1)).map (pfx x):=by
 rw[List.take_add_one,h,List.map_append,List.append_assoc];rfl
theorem b1z{n:Str}{σ:L2.St}{a:TE}{ta:TA}{b ms:List (List Nat)}{H:Hp}{Q:VK}(h0:∀c:VK,(∀p H',Same H H'->H p=none->H' p=some (.lst (txs n b))->c (.ref p) H')->a σ H c)(h:EAx n σ ta ms)(d:decide (b.length+ms.length<=1000)=true)(k:∀p H',Same H H'->H p=none->H' p=some (.lst (txs n (b++ms)))->Q (.ref p) H'):tOp a7z a (a2P ta) σ H Q:=by
 have d:=of_decide_eq_true d;have:=sz2;refine h0 _ λi j f l g=>a3L h (decide_eq_true (by omega)) λp H1 s1 m e1=>?_;refine⟨i,p,_,_,rfl,rfl,s1 _ _ g,e1,by unfold txs;rw[List.length_map,List.length_map];omega,λq e=>?_⟩;refine k q _ ((f.trans s1).upd e) ((f.trans s1).free e) ?_;rw[A0,a3J]
theorem a7f{a b d t:Addr}{n x:Str}{B ms:List (List Nat)}{H H1:Hp}{D:Ends}{f:Option V}{ta:TA}(hn:n.length<=8)(E:x.length<=5)(j:(x.cps.toList.all λc=>c != 35)=true)(h:EAx n [some (.ref a),some (.ref t),some (.str n),some (.ref d),some (.str x),f] ta ms)(A:(ms.all λm=>decide (m.length<=500))=true)(u:decide (B.length+ms.length<=900)=true)
  (q:H1 d=some (.lst (txs n B))) (I:d∉[a,b]) (y:H d=none) (P1:PotAt H1 a b) (G:Off [a,b] H H1)
  (k:∀f H',H' d=some (.lst (txs n (B++ms.map (pfx x))))->PotAt H' a b->Off [a,b] H H'->D.nx [some (.ref a),some (.ref t),some (.str n),some (.ref d),some (.str x),f] H') :
  b1D (a5m K (a2P ta)) (B1 5) (a6E (tBM K "list" a1K (U9 3) (a2a (tOp N2 (tOp N2 (U9 4) (tC (V.str (Str.ofString " ")))) (U9 5)) a0P))) D [some (.ref a),some (.ref t),some (.str n),some (.ref d),some (.str x),f] H1:=by
 have u:=of_decide_eq_true u;have L:=sz2;dsimp only[b1D,a5m];refine a3L h (decide_eq_true (by omega)) λl J p s r=>⟨l,rfl,⟨_,SqL.of r⟩,?_⟩;have o:d≠l:=B0 q s;have M:l∉[a,b]:=C7 P1 s;refine a1e (K:=K) (a:=l) (xs:=txs n ms) (λi σ H'=>∃f,σ=[some (.ref a),some (.ref t),some (.str n),some (.ref d),some (.str x),f]/\H' d=some (.lst (txs n (B++(ms.take i).map (pfx x))))/\H' l=some (.lst (txs n ms))/\PotAt H' a b/\Off [a,b] H H') ⟨_,rfl,by simpa using p _ _ q,r,P1.same p,G.trans p.off⟩ (λi σ H' _ ⟨_,_,_,e,_⟩=>SqL.of e) ?_ ?_
 .rintro i v σ H8 hv ⟨f,rfl,c4,c7,P8,o8⟩;obtain⟨m,g,rfl⟩:=b4S hv;have C:m.length<=500:=of_decide_eq_true (List.all_eq_true.mp A m (List.mem_of_getElem? g));have F:x.cps.toList.length<=5:=by rw[Array.length_toList];exact E
  dsimp only[B1];refine⟨_,rfl,.inl ⟨rfl,_,SqL.of c4⟩,?_⟩;have w:ETx n [some (.ref a),some (.ref t),some (.str n),some (.ref d),some (.str x),some (.str (sb n m))] (tOp N2 (tOp N2 (U9 4) (tC (V.str (Str.ofString " ")))) (U9 5)) (pfx x m):=by
   refine W6 hn (W6 hn (a3y (i:=4) rfl j) (Z0 _ rfl (by decide +kernel)) (decide_eq_true ?_)) (b8u rfl) (decide_eq_true ?_)
   .rw[show(Str.ofString " ").cps.toList.length=1 by decide +kernel];omega
   .rw[List.length_append,show(Str.ofString " ").cps.toList.length=1 by decide +kernel];omega
  refine w H8 _ ⟨d,_,_,rfl,rfl,c4,?_,?_⟩
  .rw[a1H,List.length_append,List.length_map];have:=List.length_take_le i ms;rw[List.length_take];omega
  .refine⟨_,rfl,?_,by rw[A5 o.symm];exact c7,N3 P8 I,W3 o8 y⟩;rw[A0,<-a9O g];exact congrArg (λz=>some (HO.lst z)) (a3J n (B++_) [pfx x m])
 .rintro σ H8 ⟨f,rfl,c4,c7,P8,o8⟩;rw[a1H,List.take_length]at c4;exact k _ _ c4 P8 o8
def a9i:Sp:=λvs H Q _=>∃(a b t:Addr) (ns:List Str),vs=[.ref a,.ref t]/\PotAt H a b/\H t=some (.tup (ns.map V.str))/\ns≠[]/\ns.length<=7/\Nms ns/\wd "zyxwvuts"∉ns/\∀y H',a7o ns y->PotAt H' a b->Off [a,b] H H'->Q (.str y) H'
theorem sc__law_bad:FnScope ["_law_pot_here","_law_names_here","_law_name","_law_some","_law_word","_law_told"] ["_law_pot_here","_law_names_here"] (A8 Y2):=⟨rfl,rfl,rfl,by decide +kernel,rfl,by decide +kernel,by decide +kernel⟩
theorem b6d(F:FunAt K mg "_law_bad" Y2 ["_law_pot_here","_law_names_here"])(T:Tx mg)(d:Ok P w K mg base "_law_of" 2 ["_law_pot_here","_law_some"] a9e)(g:Ok P w K mg base "_law_bad_sums" 1 ["_law_name"] b7I):Ok P w K mg base "_law_bad" 3 ["_law_pot_here","_law_names_here"] a9i:=by
 refine F.okJ sc__law_bad (λvs H Q E h=>?_) (λa1 f A outer s H vs Q E v h=>?_)
 .obtain⟨a,b,t,ns,rfl,_⟩:=h;rfl
 .obtain⟨a,b,t,ns,rfl,hP,ht,hne,h7,hnm,hzy,k⟩:=h;have hz:(100000:Nat)<=sizeLine:=by rw[sizeLine_eq];decide
  refine⟨_,(A1 (B7 (i:=2) sc__law_bad.nd rfl (Or.inl rfl) (C0 d (v.mono (by omega)) rfl (jaC (jv 0) (jaC (jv 1) jaN))))
 (A1 (B7 (i:=3) sc__law_bad.nd rfl (Or.inl rfl) (J9 (C0 g (v.mono (by omega)) rfl (jaC (jv 2) jaN)) (C5 (jaC A2 (jaC A2 (jaC A2 (jaC (D9 (A3 A2 (A6 (jv 2) B3))) (jaC A2 (jaC A2 (jaC A2 (jaC A2 (jaC (b4q (jv 2)) jaN))))))))))))
 (A1 (B7 (i:=4) sc__law_bad.nd rfl (Or.inl rfl) (C0 d (v.mono (by omega)) rfl (jaC (jv 0) (jaC (C5 (jaC A2 (jaC A2 jaN))) jaN))))
 (A1 (T8 (L7 K (C5 (jaC (b4q (jv 2)) (jaC (D9 (A6 (jv 2) (A3 A2 B3))) (jaC A2 (jaC (D9 (A3 A2 (A6 (jv 2) B3))) (jaC (D9 (A6 (jv 2) (A3 A2 B3))) (jaC (D9 (A6 (jv 2) (A3 A2 B3))) (jaC (D9 (A6 (jv 2) (A3 A2 B3))) jaN))))))))) (C3 (i:=5) sc__law_bad.nd rfl (Or.inl rfl))
 (A9 (G8 (G5 K (jv 3) (jaC (C4 (C4 (jv 4) A2) (jv 5)) jaN)))))
 (A1 (T8 (L7 K (C5 (jaC (D9 (A6 (jv 2) (A3 A2 B3))) (jaC (D9 (A6 (jv 2) (A3 A2 B3))) (jaC (D9 (A6 (jv 2) (A3 A2 B3))) (jaC (D9 (A6 (jv 2) (A3 A2 B3))) (jaC (D9 (A3 A2 (A6 (jv 2) (A3 A2 B3)))) (jaC A2 jaN)))))))) (C3 (i:=5) sc__law_bad.nd rfl (Or.inl rfl))
 (A9 (G8 (G5 K (jv 3) (jaC (C4 (C4 (jv 4) A2) (jv 5)) jaN)))))
 (A1 (B7 (i:=3) sc__law_bad.nd rfl (Or.inl rfl) (J9 (jv 3) (C5 (jaC (jv 4) (jaC (C4 (jv 4) (D9 (A3 A2 (A6 (jv 2) (A3 A2 B3))))) (jaC (C4 (b0y K (jv 4)) (D9 (A3 A2 (A6 (jv 2) (A3 A2 B3))))) (jaC (C4 (C4 A2 (jv 4)) (D9 (A3 A2 (A6 (jv 2) (A3 A2 B3))))) jaN)))))))
 (A9 (C2 (C0 d (v.mono (by omega)) rfl (jaC (jv 0) (jaC (jv 3) jaN))))))))))),?_⟩
  refine⟨_,rfl,_,rfl,.inr ⟨a,b,t,_,rfl,hP,ht,by rw[List.length_map];exact List.length_pos_iff.mpr hne,by rw[List.length_map];omega,λr H1 S P1 W=>?_⟩⟩;obtain⟨n,G,rfl⟩:=List.mem_map.mp S;have hC:NmC ns n:=⟨hnm,G,hzy⟩;have hn:n.length<=8:=hC.is.2.1;dsimp only[B1];refine a0C (b1z (n:=n) (λQ' q=>⟨_,rfl,n,rfl,hn,q⟩) (by
   repeat' (first|exact a0l|apply V9|exact a0e|exact Z0 _ rfl (by decide +kernel)|exact a1x (i:=2) rfl|apply a1y hn|apply a1z hn|apply W6 hn|apply a0f hn|apply a0g hn|decide +kernel)) (by decide +kernel) λp4 N s4 R e4=>?_)
  have q4:p4∉[a,b]:=C7 P1 R;have f4:H p4=none:=K8 W P1 R;have P4:=P1.same s4;have o4:=W.trans s4.off;dsimp only[B1];refine a0C ?_;refine⟨_,rfl,by show 2<=sizeLine;omega,λp5 j=>.inl ⟨a,b,p5,[V.str (wd "cap"),V.str (wd "price")],rfl,P4.same ((Same.refl N).upd j),A0,C7 P4 j,by decide,by decide,λr H6 I P6 Y=>?_⟩⟩;have e6:=Y _ _ q4 (((Same.refl N).upd (o:=.lst [V.str (wd "cap"),V.str (wd "price")]) j) _ _ e4);have Z:=(o4.trans ((Same.refl N).upd (o:=.lst [V.str (wd "cap"),V.str (wd "price")]) j).off).trans Y;obtain⟨x,rfl,U⟩:∃x,r=V.str x/\(x=wd "cap"∨x=wd "price"):=by
   simp only[List.mem_cons,List.not_mem_nil,or_false]at I;rcases I with e|e
   .exact⟨_,e,.inl rfl⟩
   .exact⟨_,e,.inr rfl⟩
  have J:x.length<=5:=by rcases U with rfl|rfl<;>decide +kernel
  have u:(x.cps.toList.all λc=>c != 35)=true:=by rcases U with rfl|rfl<;>decide +kernel
  dsimp only[B1];clear W s4 R e4 P4 o4 Y P1;refine a7f (n:=n) (B:=_) hn J u (by
   repeat' (first|exact a0l|apply V9|exact a0e|exact Z0 _ rfl (by decide +kernel)|exact a1x (i:=2) rfl|apply a1y hn|apply a1z hn|apply W6 hn|apply a0f hn|apply a0g hn|decide +kernel)) (by decide +kernel) (by decide +kernel) e6 q4 f4 P6 Z λo5 H7 e7 P7 o7=>?_
  dsimp only;refine a7f (n:=n) (B:=_) hn J u (by
   repeat' (first|exact a0l|apply V9|exact a0e|exact Z0 _ rfl (by decide +kernel)|exact a1x (i:=2) rfl|apply a1y hn|apply a1z hn|apply W6 hn|apply a0f hn|apply a0g hn|decide +kernel)) (by decide +kernel) (by rw[List.length_append,List.length_map];decide +kernel) e7 q4 f4 P7 o7 λo5 H8 e8 P8 o8=>?_
  dsimp only;have fin:∀L m p,Same H8 p->H8 m=none->p m=some (.lst (txs n L))->(L.all chk && (decide (0<L.length) && decide (L.length<=1000)))=true->a9e [.ref a,.ref m] p Q E0:=λL m p z D C M=>by
   rw[Bool.and_eq_true,Bool.and_eq_true,decide_eq_true_eq,decide_eq_true_eq]at M;refine .inl ⟨a,b,m,_,rfl,P8.same z,C,C7 P8 D,by rw[a1H];exact M.2.1,by rw[a1H];exact M.2.2,λr a0 v O X=>?_⟩;obtain⟨l,hl,rfl⟩:=b1x v;exact k _ _ (b3t hC (List.all_eq_true.mp M.1 l hl)) O ((o8.trans z.off).trans X)
  clear e6 e7;rcases U with rfl|rfl
  .refine a0C (a3M (n:=n) rfl e8 (by
    repeat' (first|exact a0l|apply V9|exact a0e|exact Z0 _ rfl (by decide +kernel)|exact a1x (i:=2) rfl|exact a3y (i:=4) rfl (by decide +kernel)|exact b4A (i:=4) (y:=wd "CAP") rfl (by decide +kernel) (by decide +kernel) (by decide +kernel)|apply a1y hn|apply a1z hn|apply W6 hn|apply a0f hn|apply a0g hn|decide +kernel)) (by decide +kernel) λm p z D C=>?_)
   exact⟨_,rfl,_,rfl,fin _ m p z D C (by decide +kernel)⟩
  .refine a0C (a3M (n:=n) rfl e8 (by
    repeat' (first|exact a0l|apply V9|exact a0e|exact Z0 _ rfl (by decide +kernel)|exact a1x (i:=2) rfl|exact a3y (i:=4) rfl (by decide +kernel)|exact b4A (i:=4) (y:=wd "PRICE") rfl (by decide +kernel) (by decide +kernel) (by decide +kernel)|apply a1y hn|apply a1z hn|apply W6 hn|apply a0f hn|apply a0g hn|decide +kernel)) (by decide +kernel) λm p z D C=>?_)
   exact⟨_,rfl,_,rfl,fin _ m p z D C (by decide +kernel)⟩
end
end K44
namespace K44
open PySem PySem.Spec PyProof.Rows L2
def wk:Bool->Str
 |true=>wd "cap"
 |false=>wd "price"
def Dr.kept(d:Dr):Bool->List (Str×Int)
 |true=>d.caps
 |false=>d.prices
theorem b7d(c:Bool):wk c≠wd "sum":=by cases c<;>exact λz=>absurd (congrArg (λt:Str=>t.cps.toList) z) (by decide)
theorem a8K{c e:Bool}(h:wk c=wk e):c=e:=by
 cases c<;>cases e<;>first|rfl|exact absurd (congrArg (λt:Str=>t.cps.toList) h) (by decide)
theorem a6B{ns:List Str}{k k':List (Str×Int)}{r:List Str}(h:tkN ns k r=some k'):∃n f x,r=[n,f]/\k'=k++[(n,x)]/\n∈ns:=by
 match r,h with
 |[n,f],h =>
  unfold tkN at h;dsimp only at h;split at h
  .rename_i hc;obtain⟨x,_,rfl⟩:=Option.map_eq_some_iff.mp h;exact⟨n,f,x,rfl,rfl,hc.1⟩
  .cases h
theorem a3f{d d':Dr}{ws:List Str}(h0:d.names≠[])(h:d.take ws=some d'):d'.names=d.names/\∀c,(ws.head?≠some (wk c)->d'.kept c=d.kept c)/\(ws.head?=some (wk c)->∃n f x,ws=[wk c,n,f]/\d'.kept c=d.kept c++[(n,x)]/\n∈d.names):=by
 match ws,h with
 |w::r,h =>
  unfold Dr.take at h;dsimp only at h;rw[if_neg h0]at h;split at h
  .rename_i hw;split at h
   .split at h
    .cases h
    .cases h;refine⟨rfl,λc=>⟨λ_=>by cases c<;>rfl,λz=>?_⟩⟩;injection z with z
     exact absurd (z.symm.trans hw) (b7d c)
   .cases h
  .split at h
   .rename_i hw;obtain⟨k',e1,rfl⟩:=Option.map_eq_some_iff.mp h;obtain⟨n,f,x,rfl,rfl,a⟩:=a6B e1;refine⟨rfl,λc=>?_⟩;cases c
    .exact⟨λ_=>rfl,λz=>by injection z with z;exact absurd (a8K (c:=true) (e:=false) (hw.symm.trans z)) (by decide)⟩
    .exact⟨λz=>absurd (congrArg some hw) z,λ_=>⟨n,f,x,by rw[hw];rfl,rfl,a⟩⟩
   .split at h
    .rename_i hw;obtain⟨k',e1,rfl⟩:=Option.map_eq_some_iff.mp h;obtain⟨n,f,x,rfl,rfl,a⟩:=a6B e1;refine⟨rfl,λc=>?_⟩;cases c
     .exact⟨λz=>absurd (congrArg some hw) z,λ_=>⟨n,f,x,by rw[hw];rfl,rfl,a⟩⟩
     .exact⟨λ_=>rfl,λz=>by injection z with z;exact absurd (a8K (c:=false) (e:=true) (hw.symm.trans z)) (by decide)⟩
    .cases h
theorem a6j{d:Dr}{ws:List Str}(h:dr0.take ws=some d):d.names≠[]/\∀c,d.kept c=[]:=by
 match ws,h with
 |w::r,h =>
  unfold Dr.take at h;dsimp only at h;rw[if_pos (show dr0.names=[] from rfl)]at h;split at h
  .rename_i q;cases h;exact⟨λz=>by have:=q.2.1;rw[show r=[] from z]at this;exact absurd this (by decide),λc=>by cases c<;>rfl⟩
  .cases h
theorem T3:∀{L:List (List Str)}{d d':Dr},C1 d L=some d'->d.names≠[]->d'.names=d.names/\∀c,((∀ws∈L,ws.head?≠some (wk c))->d'.kept c=d.kept c)/\∀n∈(d.kept c).map (·.1),n∈(d'.kept c).map (·.1)
 |[],d,d',h,_=>by
  cases h;exact⟨rfl,λc=>⟨λ_=>rfl,λn hn=>hn⟩⟩
 |a::L,d,d',h,b=>by
  have h:(d.take a).bind (λd'=>C1 d' L)=some d':=h;cases e:d.take a with
  |none=>rw[e]at h;cases h
  |some q =>
   rw[e]at h;obtain⟨k1,k2⟩:=a3f b e;obtain⟨j,i⟩:=T3 h (by rw[k1];exact b);refine⟨j.trans k1,λc=>⟨λz=>((i c).1 λws hw=>z ws (List.mem_cons_of_mem _ hw)).trans ((k2 c).1 (z a List.mem_cons_self)),λn hn=>(i c).2 n ?_⟩⟩;by_cases g:a.head?=some (wk c)
   .obtain⟨m,f,x,_,ek,_⟩:=(k2 c).2 g;rw[ek,List.map_append];exact List.mem_append_left _ hn
   .rw[(k2 c).1 g];exact hn
section
variable {L:List (List Str)}{d e:Dr}{ws:List Str}{i j k:Nat}{c:Bool}
theorem a1w(h:C1 dr0 L=some d)(k:L≠[]):∃g i f,L=g::i/\dr0.take g=some f/\C1 f i=some d/\f.names≠[]/\∀c,f.kept c=[]:=by
 cases L with
 |nil=>exact absurd rfl k
 |cons g i =>
  have h:(dr0.take g).bind (λj=>C1 j i)=some d:=h;cases e:dr0.take g with
  |none=>rw[e]at h;cases h
  |some f =>
   rw[e]at h;obtain⟨a,b⟩:=a6j e;exact⟨g,i,f,rfl,e,h,a,b⟩
theorem M9(h:C1 dr0 L=some d)(k:L≠[])(h1:1<=i)(a:C1 dr0 (L.take i)=some e):e.names=d.names/\d.names≠[]:=by
 obtain⟨l,c,n,rfl,a1,f,b,m⟩:=a1w h k;obtain⟨j,rfl⟩:∃j,i=j+1:=⟨i-1,by omega⟩;have a:(dr0.take l).bind (λg=>C1 g (c.take j))=some e:=a;rw[a1]at a;have h1:=(T3 f b).1;exact⟨(T3 a b).1.trans h1.symm,by rw[h1];exact b⟩
theorem a6z(h:C1 dr0 L=some d)(r:L≠[])(h1:1<=k)(s:L[k]?=some ws)(hw:ws.head?=some (wk c))(u:k<j)(o:C1 dr0 (L.take j)=some e):∃n f,ws=[wk c,n,f]/\n∈(e.kept c).map (·.1)/\n∈d.names:=by
 obtain⟨m,b⟩:=X8 h k;obtain⟨e1,a⟩:=X8 h (k+1);obtain⟨p,p2⟩:=M9 h r h1 b;have t:m.take ws=some e1:=by
  have:=a;rw[List.take_add_one,s]at this;rw[show L.take k++(some ws).toList=L.take k++[ws] from rfl,M8,b]at this;exact this
 have g:m.names≠[]:=by rw[p];exact p2
 obtain⟨k1,k2⟩:=a3f g t;obtain⟨n,f,x,q,i,l⟩:=(k2 c).2 hw;refine⟨n,f,q,?_,by rw[<-p];exact l⟩;rw[<-List.take_append_drop (k+1) (L.take j),List.take_take,Nat.min_eq_left (by omega),a0A,a]at o;refine((T3 (show C1 e1 _=some e from o) (by rw[k1];exact g)).2 c).2 n ?_;rw[i,List.map_append];exact List.mem_append_right _ List.mem_cons_self
theorem a7N(h:C1 dr0 L=some d)(g:L≠[])(hw:∀k ws,1<=k->L[k]?=some ws->ws.head?≠some (wk c)):d.kept c=[]:=by
 obtain⟨n,j,l,rfl,a1,b,e,f⟩:=a1w h g;rw[((T3 b e).2 c).1 λws a=>?_,f];obtain⟨m,i⟩:=List.getElem?_of_mem a;exact hw (m+1) ws (by omega) (by rw[List.getElem?_cons_succ];exact i)
theorem b4G{r:List Str}(h0:d.names≠[])(h:tkN d.names (d.kept c) r=none):d.take (wk c::r)=none:=by
 cases c
 .exact a5y h0 h
 .exact b1o h0 h
theorem b1A{n:Str}{x:Int}(h0:d.names≠[])(hn:n∈d.names)(a:n∉(d.kept c).map (·.1))(h1:0<=x)(h2:x<=topN):∃d',d.take [wk c,n,D8 x]=some d'/\d'.names=d.names/\d'.kept c=d.kept c++[(n,x)]:=by
 cases c
 .exact⟨_,a1Y h0 hn a h1 h2,rfl,rfl⟩
 .exact⟨_,a4G h0 hn a h1 h2,rfl,rfl⟩
structure SpB(n:Nat)(M:List (List Str))(i:Nat):Prop where
 wl:∀ws∈M,Wl ws
 len:M.length<=n
 ex:∃e ws,C1 dr0 (M.take i)=some e/\M[i]?=some ws/\e.take ws=none
theorem SpB.snoc{n:Nat}{M:List (List Str)}(h:SpB n M i)(hw:Wl ws):SpB (n+1) (M++[ws]) i:=by
 obtain⟨e,v,h1,h2,a⟩:=h.ex;have hi:i<M.length:=(List.getElem?_eq_some_iff.mp h2).1;refine⟨λx b=>?_,by have:=h.len;rw[List.length_append,List.length_singleton];omega,e,v,?_,?_,a⟩
 .rcases List.mem_append.mp b with z|z
  .exact h.wl x z
  .rw[List.mem_singleton.mp z];exact hw
 .rw[List.take_append_of_le_length (by omega)];exact h1
 .rw[List.getElem?_append_left hi];exact h2
theorem a5M(h:C1 dr0 L=some d)(b:∀ws∈L,Wl ws)(j:L.length<=30)(hw:Wl ws)(hi:i<=L.length)(f:∀e,C1 dr0 (L.take i)=some e->e.take ws=none):SpB 40 (L.take i++[ws]++L.drop i) i:=by
 obtain⟨e,c⟩:=X8 h i;have a:(L.take i).length=i:=by rw[List.length_take];omega
 refine⟨λx g=>?_,by simp;omega,e,ws,?_,?_,f e c⟩
 .rcases List.mem_append.mp g with z|z
  .rcases List.mem_append.mp z with z|z
   .exact b x (List.mem_of_mem_take z)
   .rw[List.mem_singleton.mp z];exact hw
  .exact b x (List.mem_of_mem_drop z)
 .rw[List.append_assoc,List.take_left' a];exact c
 .rw[List.append_assoc,List.getElem?_append_right (by omega),a,Nat.sub_self];rfl
def z0:List Str:=[wd "sum",wd "0",wd "=",wd "0"]
theorem a7s(hn:Nms d.names)(h0:d.names≠[])(e:d.rows.length<6):∃d',d.take z0=some d'/\d'.names=d.names/\d'.rows.length=d.rows.length+1:=by
 have hs:∃l,K3 d.names [wd "0",wd "=",wd "0"]=some l:=by
  have:=a5L hn (Tms.nil (ns:=d.names)) (Tms.nil (ns:=d.names));refine⟨_,this.trans (if_pos λx c=>?_)⟩;obtain⟨q,a⟩:=List.getElem?_of_mem c;rw[List.getElem?_zipWith]at a;cases e1:(([]:List (Nat×Int)).foldl C8 (List.replicate (d.names.length+1) (0:Int)))[q]? with
  |none=>rw[e1]at a;cases a
  |some y =>
   rw[e1]at a;have a:some (y-y)=some x:=a;injection a with a
   unfold topN;omega
 obtain⟨l,b⟩:=hs;refine⟨{d with rows:=d.rows++[l.dropLast],sides:=d.sides++[-(l.getLastD 0)]},?_,rfl,by simp⟩;unfold Dr.take z0;dsimp only;rw[if_neg h0,if_pos rfl,b];dsimp only;rw[if_neg (by omega)]
theorem a1X:∀(m:Nat) (d:Dr),Nms d.names->d.names≠[]->d.rows.length+m<=6->∃d',C1 d (List.replicate m z0)=some d'/\d'.names=d.names/\d'.rows.length=d.rows.length+m
 |0,d,_,_,_=>⟨d,rfl,rfl,rfl⟩
 |m+1,d,hn,b,j=>by
  obtain⟨f,a1,a,h⟩:=a7s hn b (by omega);obtain⟨g,c,e,i⟩:=a1X m f (by rw[a];exact hn) (by rw[a];exact b) (by omega);refine⟨g,?_,e.trans a,by omega⟩;rw[List.replicate_succ];show(d.take z0).bind (λd'=>C1 d' _)=_;rw[a1];exact c
theorem b7c:Wl z0:=by
 have:=a4c (l:=[115,117,109,32,48,32,61,32,48]) (by decide);exact this
theorem a8Z(h:C1 dr0 L=some d)(b:L≠[])(e:∀ws∈L,Wl ws)(k:L.length<=30)(hn:Nms d.names)(l:d.rows.length<=6):SpB 40 (L++List.replicate (7-d.rows.length) z0) (L.length+(6-d.rows.length)):=by
 have a:d.names≠[]:=(M9 h b (i:=L.length) (by have:=List.length_pos_iff.mpr b;omega) (by rw[List.take_length];exact h)).2;obtain⟨c,g,j,m⟩:=a1X (6-d.rows.length) d hn a (by omega);refine⟨λx f=>?_,by rw[List.length_append,List.length_replicate];omega,c,z0,?_,?_,b1n (by rw[j];exact a) (by omega)⟩
 .rcases List.mem_append.mp f with z|z
  .exact e x z
  .rw[(List.mem_replicate.mp z).2];exact b7c
 .rw[List.take_append,List.take_of_length_le (by omega),Nat.add_sub_cancel_left,List.take_replicate,Nat.min_eq_left (by omega),a0A,h];exact g
 .rw[List.getElem?_append_right (by omega),Nat.add_sub_cancel_left,List.getElem?_replicate,if_pos (by omega)]
theorem a9b(h:C1 dr0 L=some d)(c:L≠[])(f:∀ws∈L,Wl ws)(j:L.length<=30):SpB 40 (L++[[Str.ofString ""]]) L.length:=by
 have:=a5M (ws:=[Str.ofString ""]) (i:=L.length) h f j (a4c (l:=[]) (by decide)) (Nat.le_refl _) λe g=>by
  obtain⟨a,b⟩:=M9 h c (by have:=List.length_pos_iff.mpr c;omega) g;exact a4A (by rw[a];exact b) (by decide) (by decide) (by decide)
 rw[List.take_length,List.drop_length,List.append_nil]at this;exact this
theorem a9a(a:∀ws∈L,Wl ws)(d:L.length<=30)(hw:Wl ws)(b:dr0.take ws=none):SpB 40 ([ws]++L.drop 1) 0:=by
 refine⟨λx c=>?_,by simp;omega,dr0,ws,rfl,rfl,b⟩;rcases List.mem_append.mp c with z|z
 .rw[List.mem_singleton.mp z];exact hw
 .exact a x (List.mem_of_mem_drop z)
theorem b4Y{n:Str}(h:C1 dr0 L=some d)(o:L≠[])(e:∀ws∈L,Wl ws)(p:L.length<=30)(hn:n∈d.names)(f:d.kept c=[])(l:Wl [wk c,n,D8 0])(m:Wl [wk c,n,D8 1]):SpB 40 (L++[[wk c,n,D8 0],[wk c,n,D8 1]]) (L.length+1):=by
 have a:d.names≠[]:=List.ne_nil_of_mem hn;obtain⟨b,i,j,k⟩:=b1A (d:=d) (c:=c) (n:=n) (x:=0) a hn (by rw[f];exact λz=>nomatch z) (by decide) (by decide);refine⟨λx g=>?_,by rw[List.length_append];show _+2<=_;omega,b,_,?_,?_,b4G (c:=c) (r:=[n,D8 1]) (by rw[j];exact a) (a4F (by rw[k,List.map_append];exact List.mem_append_right _ List.mem_cons_self))⟩
 .rcases List.mem_append.mp g with z|z
  .exact e x z
  .simp only[List.mem_cons,List.not_mem_nil,or_false]at z;rcases z with rfl|rfl
   .exact l
   .exact m
 .rw[List.take_append,List.take_of_length_le (by omega),Nat.add_sub_cancel_left];show C1 dr0 (L++[[wk c,n,D8 0]])=_;rw[M8,h];exact i
 .rw[List.getElem?_append_right (by omega),Nat.add_sub_cancel_left];rfl
end
theorem a4O{src:List (Option Nat)}{σ caps:L2.St}{Q:VK}{m:Nat}{H:Hp}{f:TT}(t:Nat->Bool)(hn:m<=1000)(a:D6 src σ=none::caps)(b:∀(i:Nat) H1 (c:Bool->Hp->Prop),i<m->Same H H1->(∀H2,Same H1 H2->c (t i) H2)->f (some (.int (1+(i:Int)))::caps) H1 c)
  (hd:∀H1 p,Same H H1->H1 p=none->Q (.ref p) (upd H1 p (.lst ((((List.range m).filter t).map λ(i:Nat)=>1+(i:Int)).map V.int)))):U8 src (B1 0) f (U9 0) σ Q (Itr 1 m) H:=by
 have g:(1000:Nat)<=sizeLine:=by rw[sizeLine_eq];decide
 refine a2J (by omega) (λi ys H'=>Same H H'/\ys=(((List.range i).filter t).map λ(i:Nat)=>1+(i:Int)).map V.int) ⟨Same.refl H,rfl⟩ (λi ys H' h=>by rw[h.2,List.length_map,List.length_map];exact Nat.le_trans (List.length_filter_le _ _) (by simp)) (λi ys H' hi h=>?_) ?_
 .obtain⟨s,rfl⟩:=h;show Sub _ ((D6 src σ).set 0 (some (.int (1+(i:Int)))))/\_;rw[a];refine⟨Sub.one,b i H' _ hi s λH2 d=>?_⟩;rw[List.range_succ,List.filter_append];cases e:t i with
  |true=>exact⟨_,rfl,s.trans d,by simp[e]⟩
  |false=>exact⟨s.trans d,by simp[e]⟩
 .rintro ys H' ⟨s,rfl⟩ p hp;exact hd H' p s hp
theorem a3c(c:Bool):Wg (wk c):=by
 have key:∀x:Str,x.length<=20->(x.cps.toList.all λc=>decide (33<=c/\c<127))=true->Wg x:=λx h1 h2=>⟨h1,λc a=>of_decide_eq_true (List.all_eq_true.mp h2 c a)⟩;cases c<;>exact key _ (by decide +kernel) (by decide +kernel)
theorem wl3{x n y:Str}(b:Wg x)(hn:Wg n)(c:Wg y):Wl [x,n,y]:=a6x (List.cons_ne_nil _ _) (by show 3<=400;decide) λz a=>by
 simp only[List.mem_cons,List.not_mem_nil,or_false]at a;rcases a with rfl|rfl|rfl<;>assumption
theorem b4R{x n y t:Str}(h:t=bk++y):x++Str.ofString " " ++ n++t=Str.join bk [x,n,y]:=by
 rw[h,J6,J6];show x++bk++n++(bk++y)=x++bk++(n++bk++y);simp only[J0]
theorem a4r{x:Int}{t:Str}(h:t.cps.toList=32::(D8 x).cps.toList):t=bk++D8 x:=by
 refine Str.ext' (Array.toList_inj.mp ?_);rw[h,Str.cps_append,Array.toList_append];rfl
end K44
namespace K44
open PySem PySem.Spec PyProof.Rows L2
section
variable {P:Program}{w:World}{K:PySem.W.Frag}{mg:Str->Option Value}{base:Heap}
theorem b3s{xs:List V}{k:Nat}(a:k<=xs.length):W7 xs none (some (k:Int))=xs.take k:=by
 unfold W7;rw[HT.sIx_none,HT.sIx_nat,Nat.min_eq_left a,List.drop_zero,Nat.sub_zero]
theorem a7l{xs:List V}{k:Nat}(a:k<=xs.length):W7 xs (some (k:Int)) none=xs.drop k:=by
 unfold W7;rw[HT.sIx_none,HT.sIx_nat,Nat.min_eq_left a,List.take_of_length_le (by simp)]
def tx(L:List (List Str)):List V:=(L.map (Str.join bk)).map V.str
theorem a8R{σ:L2.St}{x ty:TE}{a b d:Addr}{L:List (List Str)}{i:Nat}{R:List Str->Prop}{H:Hp}{Q:VK}(hσ:σ[1]?=some (some (.ref d)))(g:∀(H:Hp) (Q:VK),Q (.int i) H->x σ H Q)(J:L.length<=30)(hi:i<=L.length)(A:TxL H d L)(F:d∉[a,b])(E:PotAt H a b)
  (G:∀(H1:Hp) (y:VK),Same H H1->(∀ws H2,R ws->PotAt H2 a b->Off [a,b] H1 H2->y (.str (Str.join bk ws)) H2)->ty σ H1 y)
  (k:∀p ws H',R ws->TxL H' p (L.take i++[ws]++L.drop i)->H p=none->PotAt H' a b->Off [a,b] H H'->Q (.ref p) H') :
  tOp a7z (tOp a7z (tSl (a9t K) (U9 1) L3 (a4H x)) (a2P (a2a ty a0P))) (tSl (a9t K) (U9 1) (a4H x) L3) σ H Q:=by
 have M:=sz2;have h:i<=((L.map (Str.join bk)).map V.str).length:=by simpa using hi
 refine⟨_,hσ,g H _ ⟨_,rfl,d,_,rfl,SqL.of A,λj f=>?_⟩⟩;rw[b3s h];have s1:=(Same.refl H).upd (o:=.lst (((L.map (Str.join bk)).map V.str).take i)) f;have e1:upd H j (.lst (((L.map (Str.join bk)).map V.str).take i)) j=some (.lst (((L.map (Str.join bk)).map V.str).take i)):=A0;have q1:j∉[a,b]:=C7 E f;generalize upd H j (.lst (((L.map (Str.join bk)).map V.str).take i))=H1 at s1 e1⊢;refine G H1 _ s1 λws H2 hR P2 t=>⟨by show 1<=sizeLine;omega,λp2 q=>?_⟩;have B:=(Same.refl H2).upd (o:=.lst [V.str (Str.join bk ws)]) q;refine⟨j,p2,_,_,rfl,rfl,B _ _ (t _ _ q1 e1),A0,?_,λl r=>?_⟩
 .rw[List.length_take,List.length_map,List.length_map];show _+1<=_;omega
 have m:=B.upd (o:=.lst (((L.map (Str.join bk)).map V.str).take i++[V.str (Str.join bk ws)])) r;have z:upd (upd H2 p2 (.lst [V.str (Str.join bk ws)])) l (.lst (((L.map (Str.join bk)).map V.str).take i++[V.str (Str.join bk ws)])) l=some (.lst (((L.map (Str.join bk)).map V.str).take i++[V.str (Str.join bk ws)])):=A0;generalize upd (upd H2 p2 (.lst [V.str (Str.join bk ws)])) l (.lst (((L.map (Str.join bk)).map V.str).take i++[V.str (Str.join bk ws)]))=e at m z⊢;have n:TxL e d L:=m _ _ (t _ _ F (s1 _ _ A));refine⟨_,hσ,g e _ ⟨_,rfl,d,_,rfl,SqL.of n,λv s=>?_⟩⟩;rw[a7l h];have w:=(Same.refl e).upd (o:=.lst (((L.map (Str.join bk)).map V.str).drop i)) s;refine⟨l,v,_,_,rfl,rfl,w _ _ z,A0,?_,λI c=>?_⟩
 .rw[List.length_append,List.length_take,List.length_drop,List.length_map,List.length_map];show _+1+_<=_;omega
 have u:Off [a,b] H (upd e v (.lst (((L.map (Str.join bk)).map V.str).drop i))):=(s1.off.trans t).trans (m.trans w).off;have P4:=P2.same (m.trans w);generalize upd e v (.lst (((L.map (Str.join bk)).map V.str).drop i))=D at c u P4⊢;have C:=(Same.refl D).upd (o:=.lst (((L.map (Str.join bk)).map V.str).take i++[V.str (Str.join bk ws)]++((L.map (Str.join bk)).map V.str).drop i)) c;refine k I ws _ hR ?_ (K8 u P4 c) (P4.same C) (u.trans C.off);show upd _ _ _ _=_;rw[A0];simp
theorem b4U{σ:L2.St}{x n t:Str}{te:TE}{H:Hp}{Q:VK}(c:σ[7]?=some (some (.str x)))(a:∀b:VK,(∀H2,Same H H2->b (.str n) H2)->te σ H b)(f:x.length<=20)(hn:n.length<=20)(e:t.length<=20)(k:∀H2,Same H H2->Q (.str (x++Str.ofString " " ++ n++t)) H2):tOp N2 (tOp N2 (tOp N2 (U9 7) (tC (.str (Str.ofString " ")))) te) (tC (.str t)) σ H Q:=by
 have g:=sz2;have h:(Str.ofString " ").length=1:=rfl;have i:(x++Str.ofString " ").length<=21:=by rw[A7];omega
 have j:(x++Str.ofString " " ++ n).length<=41:=by rw[A7];omega
 exact⟨_,c,_,_,rfl,rfl,by omega,a _ λH2 d=>⟨_,_,rfl,rfl,by omega,_,_,rfl,rfl,by omega,k H2 d⟩⟩
theorem b4w(x:V):∀n:Nat,(List.replicate n [x]).flatten=List.replicate n x
 |0=>rfl
 |n+1=>by rw[List.replicate_succ,List.flatten_cons,b4w x n,List.replicate_succ];rfl
theorem b4M:Str.ofString "sum 0 = 0"=Str.join bk z0:=Str.ext' (Array.toList_inj.mp (by decide +kernel))
def b3N:Sp:=λvs H Q _=>∃(a b lp:Addr) (v:V) (L:List (List Str)) (d:Dr),vs=[.ref a,.ref lp,v]/\PotAt H a b/\TxL H lp L/\lp∉[a,b]/\L≠[]/\C1 dr0 L=some d/\(∀ws∈L,Wl ws)/\L.length<=30/\SysAt H v d.names d.rows d.sides d.capsL d.pricesL/\Nms d.names/\wd "zyxwvuts"∉d.names /\
 ∀c q M i H',H' c=some (.tup [.ref q,.int ((1+i:Nat):Int)])->TxL H' q M->H q=none->SpB 40 M i->PotAt H' a b->Off [a,b] H H'->Q (.ref c) H'
theorem sc__law_spoilt:FnScope ["_law_pot_here","_law_lines","_law_system_here","_law_names_here","_law_kind","_law_at","_law_more","_law_word","_law_there","_law_place","_law_again"] ["_law_pot_here","_law_lines","_law_system_here"] (A8 O4):=⟨rfl,rfl,rfl,by decide +kernel,rfl,by decide +kernel,by decide +kernel⟩
theorem a7J(F:FunAt K mg "_law_spoilt" O4 ["_law_pot_here","_law_lines","_law_system_here"])(T:Tx mg)(g:Ok P w K mg base "_law_next" 1 ["_law_pot_here","_law_many"] T5)(t:Ok P w K mg base "_law_of" 2 ["_law_pot_here","_law_some"] a5N)(B:Ok P w K mg base "_law_first" 3 ["_law_pot_here","_law_names_here"] b3T)(I:Ok P w K mg base "_law_bad" 3 ["_law_pot_here","_law_names_here"] a9i):Ok P w K mg base "_law_spoilt" 4 ["_law_pot_here","_law_lines","_law_system_here"] b3N:=by
 refine F.okJ sc__law_spoilt (λvs H Q E h=>?_) (λh8 f A outer s H vs Q E hr h=>?_)
 .obtain⟨a,b,lp,v,L,d,rfl,_⟩:=h;rfl
 .obtain⟨a,b,lp,v,L,d,rfl,hP,hT,hq,hL,htk,hW,hlen,hS,hnm,hzy,k⟩:=h;have hz:(100000:Nat)<=sizeLine:=by rw[sizeLine_eq];decide
  have hu:=hr.u60;obtain⟨c0,tn,tr,ts,tc,tp,us,rfl,e0,e1,e2,e3,_⟩:=hS.ex;have c9:1<=L.length:=List.length_pos_iff.mpr hL;have d3:=Z5 htk bd0;refine⟨_,(A1 (B7 (i:=3) sc__law_spoilt.nd rfl (Or.inl rfl) (V8 K (jv 2) A4))
 (A1 (B7 (i:=4) sc__law_spoilt.nd rfl (Or.inl rfl) (C0 g (hr.mono (by omega)) rfl (jaC (jv 0) (jaC A4 jaN))))
 (A1 (G2 (b4k (jv 4) A4)
 (A1 (B7 (i:=5) sc__law_spoilt.nd rfl (Or.inl rfl) (J3 A4 (C0 g (hr.mono (by omega)) rfl (jaC (jv 0) (jaC (D7 K rfl T.b_len (jaC (jv 1) jaN)) jaN)))))
 (A9 (C2 (J2 (jaC (J9 (J9 (V7 K (jv 1) I0 (G9 (jv 5))) (C5 (jaC (C0 I (hr.mono (by omega)) rfl (jaC (jv 0) (jaC (jv 3) jaN))) jaN))) (V7 K (jv 1) (G9 (jv 5)) I0)) (jaC (J3 (jv 5) A4) jaN))))))
 C9)
 (A1 (G2 (O8 (jv 4) A4)
 (A9 (C2 (J2 (jaC (J9 (C5 (jaC (C0 B (hr.mono (by omega)) rfl (jaC (jv 0) (jaC (jv 3) jaN))) jaN)) (V7 K (jv 1) (G9 A4) I0)) (jaC A4 jaN)))))
 C9)
 (A1 (G2 (O8 (jv 4) A4)
 (A1 (B7 (i:=6) sc__law_spoilt.nd rfl (Or.inl rfl) (b0F (C5 (jaC A2 jaN)) (a5k A4 (D7 K rfl T.b_len (jaC (V8 K (jv 2) A4) jaN)))))
 (A9 (C2 (J2 (jaC (J9 (jv 1) (jv 6)) (jaC (J3 (D7 K rfl T.b_len (jaC (jv 1) jaN)) (D7 K rfl T.b_len (jaC (jv 6) jaN))) jaN))))))
 C9)
 (A1 (G2 (O8 (jv 4) A4)
 (A9 (C2 (J2 (jaC (J9 (jv 1) (C5 (jaC A2 jaN))) (jaC (J3 (D7 K rfl T.b_len (jaC (jv 1) jaN)) A4) jaN)))))
 C9)
 (A1 (B7 (i:=7) sc__law_spoilt.nd rfl (Or.inr rfl) (C0 t (hr.mono (by omega)) rfl (jaC (jv 0) (jaC (C5 (jaC A2 (jaC A2 jaN))) jaN))))
 (A1 (a0n (i:=8) sc__law_spoilt.nd rfl (Or.inl rfl) (N:=["_law_k","_law_lines","_law_word"]) (src:=[none,some 1,some 7]) (a7Z rfl T.b_range (jaC A4 (jaC (D7 K rfl T.b_len (jaC (jv 1) jaN)) jaN))) (by show K6 _ _=true;rfl) (by rfl) (by rfl)
 (λ_ _ _ _ _=>(C3 (i:=0) (show(["_law_k","_law_lines","_law_word"]:List Str).Nodup by decide +kernel) rfl (Or.inl rfl))) (λ_ _ _ _ _=>(a6c (O8 (b4n K (a1a K (K4 K (jv 1) (jv 0)) (jaC A2 jaN)) A4) (jv 2)))) (λ_ _ _ _ _=>(jv 0)))
 (A1 (G2 (b0v K hu (jv 8) (C5 jaN))
 (A9 (C2 (J2 (jaC (J9 (jv 1) (C5 (jaC (C4 (C4 (C4 (jv 7) A2) (V8 K (jv 3) A4)) A2) (jaC (C4 (C4 (C4 (jv 7) A2) (V8 K (jv 3) A4)) A2) jaN)))) (jaC (J3 (D7 K rfl T.b_len (jaC (jv 1) jaN)) A4) jaN)))))
 C9)
 (A1 (B7 (i:=5) sc__law_spoilt.nd rfl (Or.inl rfl) (C0 t (hr.mono (by omega)) rfl (jaC (jv 0) (jaC (jv 8) jaN))))
 (A1 (B7 (i:=9) sc__law_spoilt.nd rfl (Or.inl rfl) (J3 (J3 (jv 5) A4) (C0 g (hr.mono (by omega)) rfl (jaC (jv 0) (jaC (a5k (D7 K rfl T.b_len (jaC (jv 1) jaN)) (jv 5)) jaN)))))
 (A1 (B7 (i:=10) sc__law_spoilt.nd rfl (Or.inl rfl) (C4 (C4 (C4 (jv 7) A2) (b4n K (a1a K (K4 K (jv 1) (jv 5)) (jaC A2 jaN)) A4)) A2))
 (A9 (C2 (J2 (jaC (J9 (J9 (V7 K (jv 1) I0 (G9 (jv 9))) (C5 (jaC (jv 10) jaN))) (V7 K (jv 1) (G9 (jv 9)) I0)) (jaC (J3 (jv 9) A4) jaN))))))))))))))))),?_⟩
  refine⟨_,rfl,c0,_,0,_,rfl,rfl,SqT.of e0,rfl,?_⟩;dsimp only[B1];refine⟨_,rfl,a,b,6,rfl,hP,by decide,by decide +kernel,λkd H1 k0 k1 P1 o1=>?_⟩;dsimp only[B1];have W:TxL H1 lp L:=o1 _ _ hq hT;have c1:=o1 _ _ (G1 hP e0) e0;have t1:=o1 _ _ (G1 hP e1) e1;have r1:=o1 _ _ (G1 hP e2) e2;clear hS hP hT e0 e1 e2;have fin:∀p M i H',TxL H' p M->H1 p=none->SpB 40 M i->PotAt H' a b->Off [a,b] H1 H'->∀c,H' c=none->Q (.ref c) (upd H' c (.tup [.ref p,.int ((1+i:Nat):Int)])):=λp M i H' hM hp hB P' o' c X=>by
   have s':=(Same.refl H').upd (o:=.tup [.ref p,.int ((1+i:Nat):Int)]) X;exact k c p M i _ A0 (s' _ _ hM) (K8 o1 P1 hp) hB (P'.same s') ((o1.trans o').trans s'.off)
  refine⟨_,rfl,_,_,rfl,rfl,_,rfl,G7 (λO=>?_) (λO=>?_)⟩
  .clear O;refine⟨_,rfl,_,rfl,lp,_,rfl,.inl (SqL.of W),a,b,_,rfl,P1,?_,?_,λr2 H2 h9 c8 P2 o2=>?_⟩
   .simp;omega
   .exact Int.lt_of_le_of_lt (show _<=(30:Int) by simp;omega) (by decide +kernel)
   have c8:r2<(L.length:Int):=by simpa using c8
   obtain⟨at1,J⟩:∃at1:Nat,1+r2=(at1:Int):=⟨(1+r2).toNat,by omega⟩;refine⟨_,_,rfl,rfl,?_⟩;dsimp only[B1];rw[J];have t2:=o2 _ _ (G1 P1 t1) t1;refine a8R (a:=a) (b:=b) (R:=λws=>Wl ws/\∀e:Dr,e.names=d.names->e.take ws=none) rfl (λ_ _ q=>⟨_,rfl,q⟩) hlen (i:=at1) (by omega) (o2 _ _ hq W) hq P2 (λH3 Q3 Z q3=>?_) λp ws H4 hR f9 f4 P4 o4=>?_
   .refine⟨_,rfl,_,rfl,a,b,tn,d.names,rfl,P2.same Z,Z _ _ t2,?_,by have:=d3.n;omega,hnm,hzy,λy H5 ⟨ws,ey,hw,hb⟩ P5 o5=>?_⟩
    .exact(M9 htk hL (i:=L.length) c9 (by rw[List.take_length];exact htk)).2
    .rw[ey];exact q3 ws H5 ⟨hw,hb⟩ P5 o5
   .refine⟨_,rfl,_,_,rfl,rfl,by show 2<=sizeLine;omega,λc X=>?_⟩;have:=fin p _ at1 H4 f9 (K8 o2 P2 f4) (a5M htk hW hlen hR.1 (by omega) λe he=>hR.2 e (M9 htk hL (by omega) he).1) P4 (o2.trans o4) c X;rw[show((1+at1:Nat):Int)=(at1:Int)+1 by omega]at this;exact this
  have h0:d.names≠[]:=(M9 htk hL (i:=L.length) c9 (by rw[List.take_length];exact htk)).2;have u:((L.map (Str.join bk)).map V.str).length=L.length:=by simp
  refine⟨_,rfl,rfl,_,rfl,G7 (λa1=>?_) (λa1=>?_)⟩
  .clear O a1;refine⟨_,rfl,_,rfl,a,b,tn,d.names,rfl,P1,t1,h0,hnm.nm,λy H2 hy P2 o2=>⟨by show 1<=sizeLine;omega,λp2 a2=>?_⟩⟩;obtain⟨ws,rfl,hw,hb⟩:=hy;have s2:=(Same.refl H2).upd (o:=.lst [V.str (Str.join bk ws)]) a2;have e2:upd H2 p2 (.lst [V.str (Str.join bk ws)]) p2=some (.lst [V.str (Str.join bk ws)]):=A0;refine⟨_,rfl,1,rfl,lp,_,rfl,SqL.of (s2 _ _ (o2 _ _ hq W)),λp3 a9=>?_⟩;rw[show W7 ((L.map (Str.join bk)).map V.str) (some 1) none=((L.map (Str.join bk)).map V.str).drop 1 from a7l (k:=1) (by omega)];have Z:=s2.upd (o:=.lst (((L.map (Str.join bk)).map V.str).drop 1)) a9;have f7:=G0 (o:=.lst (((L.map (Str.join bk)).map V.str).drop 1)) e2 a9;refine⟨p2,p3,_,_,rfl,rfl,f7,A0,by rw[List.length_drop,u];show 1+_<=_;omega,λp4 U=>⟨by show 2<=sizeLine;omega,λc X=>?_⟩⟩;have s4:=Z.upd (o:=.lst ([V.str (Str.join bk ws)]++((L.map (Str.join bk)).map V.str).drop 1)) U;have f4:H1 p4=none:=K8 (o2.trans Z.off) (P2.same Z) U;refine fin p4 ([ws]++L.drop 1) 0 _ ?_ f4 (a9a hW hlen hw hb) (P2.same s4) (o2.trans s4.off) c X;show upd _ _ _ _=_;rw[A0];simp
  refine⟨_,rfl,rfl,_,rfl,G7 (λa8=>?_) (λa8=>?_)⟩
  .clear O a1 a8;refine⟨by show 1<=sizeLine;omega,λp2 a2=>?_⟩;have s2:=(Same.refl H1).upd (o:=.lst [V.str (Str.ofString "sum 0 = 0")]) a2;have i0:us.length=d.rows.length:=e3.1;have a3:=d3.r;refine⟨_,rfl,_,_,1,_,rfl,rfl,SqT.of (s2 _ _ c1),rfl,tr,_,rfl,.inr (.inl (.inl (s2 _ _ r1))),_,_,rfl,rfl,p2,_,_,rfl,rfl,A0,by omega,by omega,by show 1*_<=_;omega,λp3 a9=>?_⟩;rw[b4w,show((7:Int)-(us.length:Int)).toNat=7-d.rows.length by omega];have Z:=s2.upd (o:=.lst (List.replicate (7-d.rows.length) (V.str (Str.ofString "sum 0 = 0")))) a9;have b9:upd (upd H1 p2 (.lst [V.str (Str.ofString "sum 0 = 0")])) p3 (.lst (List.replicate (7-d.rows.length) (V.str (Str.ofString "sum 0 = 0")))) p3=some (.lst (List.replicate (7-d.rows.length) (V.str (Str.ofString "sum 0 = 0")))):=A0;generalize upd (upd H1 p2 (.lst [V.str (Str.ofString "sum 0 = 0")])) p3 (.lst (List.replicate (7-d.rows.length) (V.str (Str.ofString "sum 0 = 0"))))=H3 at Z b9⊢;dsimp only[B1];have d2:=Z _ _ W;refine⟨_,rfl,_,rfl,lp,p3,_,_,rfl,rfl,d2,b9,by rw[List.length_replicate,u];omega,λp4 U=>?_⟩;have s4:=(Same.refl H3).upd (o:=.lst ((L.map (Str.join bk)).map V.str++List.replicate (7-d.rows.length) (V.str (Str.ofString "sum 0 = 0")))) U;refine⟨_,rfl,lp,_,rfl,.inl (SqL.of (s4 _ _ d2)),_,rfl,p3,_,rfl,.inl (SqL.of (s4 _ _ b9)),_,_,rfl,rfl,by show 2<=sizeLine;omega,λc X=>?_⟩;have:=fin p4 (L++List.replicate (7-d.rows.length) z0) (L.length+(6-d.rows.length)) _ ?_ (Z.free U) (a8Z htk hL hW hlen hnm a3) (P1.same (Z.trans s4)) (Z.trans s4).off c X
   .rw[show((1+(L.length+(6-d.rows.length)):Nat):Int)=(((L.map (Str.join bk)).map V.str).length:Int)+((List.replicate (7-d.rows.length) (V.str (Str.ofString "sum 0 = 0"))).length:Int) by rw[List.length_replicate,u];omega]at this;exact this
   .show upd _ _ _ _=_;rw[A0,b4M];simp
  refine⟨_,rfl,rfl,_,rfl,G7 (λc2=>?_) (λc2=>?_)⟩
  .clear O a1 a8 c2;refine⟨_,rfl,by show 1<=sizeLine;omega,λp2 a2=>?_⟩;have s2:=(Same.refl H1).upd (o:=.lst [V.str (Str.ofString "")]) a2;refine⟨lp,p2,_,_,rfl,rfl,s2 _ _ W,A0,by rw[u];show _+1<=_;omega,λp4 U=>?_⟩;have s4:=s2.upd (o:=.lst ((L.map (Str.join bk)).map V.str++[V.str (Str.ofString "")])) U;refine⟨_,rfl,lp,_,rfl,.inl (SqL.of (s4 _ _ W)),_,_,rfl,rfl,by show 2<=sizeLine;omega,λc X=>?_⟩;have:=fin p4 (L++[[Str.ofString ""]]) L.length _ ?_ (s2.free U) (a9b htk hL hW hlen) (P1.same s4) s4.off c X
   .rw[show((1+L.length:Nat):Int)=(((L.map (Str.join bk)).map V.str).length:Int)+1 by rw[u];omega]at this;exact this
   .show upd _ _ _ _=_;rw[A0];simp;rfl
  clear O a1 a8 c2 k0 k1;refine⟨_,rfl,by show 2<=sizeLine;omega,λp5 b0=>⟨a,b,p5,[V.str (wk true),V.str (wk false)],rfl,P1.same ((Same.refl H1).upd b0),A0,C7 P1 b0,by decide,by decide,λr H6 a3 P6 o6=>?_⟩⟩;have b3:=((Same.refl H1).upd (o:=.lst [V.str (wk true),V.str (wk false)]) b0).off.trans o6;obtain⟨l,rfl⟩:∃l,r=V.str (wk l):=by
   simp only[List.mem_cons,List.not_mem_nil,or_false]at a3;rcases a3 with e|e
   .exact⟨_,e⟩
   .exact⟨_,e⟩
  dsimp only[B1];have a5:TxL H6 lp L:=b3 _ _ hq W;have t6:=b3 _ _ (G1 P1 t1) t1;clear o6 a3 b0;refine⟨_,rfl,lp,_,rfl,.inl (SqL.of a5),1,_,rfl,⟨by decide,by decide,by omega,by omega⟩,?_⟩;rw[show((((L.map (Str.join bk)).map V.str).length:Int)-1).toNat=L.length-1 by rw[u];omega];refine a4O (m:=L.length-1) (caps:=[some (.ref lp),some (.str (wk l))]) (λi=>decide ((L.getD (1+i) []).head?=some (wk l))) (by omega) rfl (λi H7 Q7 hi s7 q7=>?_) λH8 p8 s8 c3=>?_
  .have a0:1+i<L.length:=by omega
   have G:=List.getElem?_eq_getElem a0;generalize L[1+i]=ws at G;have hw:=hW ws (List.mem_of_getElem? G);have g1:L.getD (1+i) []=ws:=by rw[List.getD_eq_getElem?_getD,G];rfl
   rw[g1]at q7;have J:atI ((L.map (Str.join bk)).map V.str) (1+(i:Int))=some (V.str (Str.join bk ws)):=by
    have:atI ((L.map (Str.join bk)).map V.str) ((1+i:Nat):Int)=some (V.str (Str.join bk ws)):=F0 (by rw[List.getElem?_map,List.getElem?_map,G];rfl);rw[show((1+i:Nat):Int)=1+(i:Int) by omega]at this;exact this
   refine⟨_,rfl,_,rfl,lp,_,_,_,rfl,rfl,SqL.of (s7 _ _ a5),J,rfl,_,bk,rfl,rfl,by decide,by have:=hw.le;omega,λp9 c4=>?_⟩;rw[hw.split];obtain⟨w0,r0,rfl⟩:∃w0 r0,ws=w0::r0:=by
    cases ws with
    |nil=>exact absurd rfl hw.ne
    |cons x y=>exact⟨x,y,rfl⟩
   refine .inl ⟨p9,_,0,_,rfl,rfl,SqL.of A0,F0 (j:=0) rfl,_,rfl,rfl,_,rfl,?_⟩;have:=q7 _ ((Same.refl H7).upd (o:=.lst ((w0::r0).map V.str)) c4);rw[show decide ((w0::r0).head?=some (wk l))=decide (V.str w0=V.str (wk l))from decide_eq_decide.mpr ⟨λz=>by injection z with z;rw[z],λz=>by injection z with z;rw[z];rfl⟩]at this;exact this
  dsimp only[B1];have d6:∀x∈((List.range (L.length-1)).filter λi=>decide ((L.getD (1+i) []).head?=some (wk l))).map (λ(i:Nat)=>1+(i:Int)),∃k:Nat,x=(k:Int)/\1<=k/\k<L.length/\∃ws,L[k]?=some ws/\ws.head?=some (wk l):=λx hx=>by
   obtain⟨i,hi,rfl⟩:=List.mem_map.mp hx;obtain⟨g2,a7⟩:=List.mem_filter.mp hi;rw[List.mem_range]at g2;have a0:1+i<L.length:=by omega
   have a7:=of_decide_eq_true a7;rw[List.getD_eq_getElem?_getD,List.getElem?_eq_getElem a0]at a7;exact⟨1+i,by omega,by omega,a0,_,List.getElem?_eq_getElem a0,a7⟩
  have b6:((List.range (L.length-1)).filter λi=>decide ((L.getD (1+i) []).head?=some (wk l))).map (λ(i:Nat)=>1+(i:Int))=[]->∀k ws,1<=k->L[k]?=some ws->ws.head?≠some (wk l):=λz k ws h1 O hh=>by
   have d5:=(List.getElem?_eq_some_iff.mp O).1;have:k-1∈(List.range (L.length-1)).filter λi=>decide ((L.getD (1+i) []).head?=some (wk l)):=List.mem_filter.mpr ⟨List.mem_range.mpr (by omega),decide_eq_true (by rw[show 1+(k-1)=k by omega,List.getD_eq_getElem?_getD,O];exact hh)⟩;rw[List.map_eq_nil_iff.mp z]at this;cases this
  have d5:(((List.range (L.length-1)).filter λi=>decide ((L.getD (1+i) []).head?=some (wk l))).map (λ(i:Nat)=>1+(i:Int))).length<=30:=by
   rw[List.length_map];exact Nat.le_trans (List.length_filter_le _ _) (by rw[List.length_range];omega)
  generalize ((List.range (L.length-1)).filter λi=>decide ((L.getD (1+i) []).head?=some (wk l))).map (λ(i:Nat)=>1+(i:Int))=ks at d6 b6 d5⊢;have P8:=P6.same s8;have q8:p8∉[a,b]:=C7 P8 c3;have s9:=s8.upd (o:=.lst (ks.map V.int)) c3;have e9:upd H8 p8 (.lst (ks.map V.int)) p8=some (.lst (ks.map V.int)):=A0;generalize upd H8 p8 (.lst (ks.map V.int))=H9 at s9 e9⊢;have P9:=P6.same s9;have o9:=b3.trans s9.off;have a6:=s9 _ _ a5;have t9:=s9 _ _ t6;clear s8 c3 s9 P6 P8 b3 a5 t6;refine⟨_,rfl,Nat.zero_le _,λe4 S=>⟨1,_,by decide,EqV.ints (k:=false) (ns:=ks) (ms:=[]) (SqL.of (G0 e9 S)) (SqL.of A0),⟨_,_,rfl,rfl⟩,_,rfl,G7 (λO=>?_) (λO=>?_)⟩⟩
  .have O:ks=[]:=by simpa using O
   have g4:=a7N htk hL (b6 O);obtain⟨Y,nr,en⟩:∃Y nr,d.names=Y::nr:=by
    cases e:d.names with
    |nil=>exact absurd e h0
    |cons x y=>exact⟨x,y,rfl⟩
   have d7:Y∈d.names:=by rw[en];exact List.mem_cons_self
   have hg:=(hnm.nm _ d7).wg;have J:atI (d.names.map V.str) 0=some (V.str Y):=by rw[en];exact F0 (j:=0) rfl
   have C:=(Same.refl H9).upd (o:=.lst []) S;generalize upd H9 e4 (.lst [])=e8 at C⊢;refine⟨_,rfl,?_⟩;refine b4U (n:=Y) rfl (λQ' q=>⟨_,rfl,tn,_,0,_,rfl,rfl,SqT.of (C _ _ t9),J,q _ (Same.refl _)⟩) (a3c l).1 hg.1 (by decide +kernel) λf0 e6=>?_;refine b4U (n:=Y) rfl (λQ' q=>⟨_,rfl,tn,_,0,_,rfl,rfl,SqT.of (e6 _ _ (C _ _ t9)),J,q _ (Same.refl _)⟩) (a3c l).1 hg.1 (by decide +kernel) λc5 h4=>?_;rw[b4R (a4r (x:=0) (by decide +kernel)),b4R (a4r (x:=1) (by decide +kernel))];refine⟨by show 2<=sizeLine;omega,λg8 d8=>?_⟩;have e7:=(C.trans e6).trans h4;have D:=e7.upd (o:=.lst [V.str (Str.join bk [wk l,Y,D8 0]),V.str (Str.join bk [wk l,Y,D8 1])]) d8;refine⟨lp,g8,_,_,rfl,rfl,D _ _ a6,A0,by rw[u];show _+2<=_;omega,λg9 b7=>?_⟩;have a4:=D.upd (o:=.lst ((L.map (Str.join bk)).map V.str++[V.str (Str.join bk [wk l,Y,D8 0]),V.str (Str.join bk [wk l,Y,D8 1])])) b7;refine⟨_,rfl,lp,_,rfl,.inl (SqL.of (a4 _ _ a6)),_,_,rfl,rfl,by show 2<=sizeLine;omega,λc X=>?_⟩;have:=fin g9 (L++[[wk l,Y,D8 0],[wk l,Y,D8 1]]) (L.length+1) _ ?_ (K8 (o9.trans D.off) (P9.same D) b7) (b4Y htk hL hW hlen d7 g4 (wl3 (a3c l) hg (a0j (by decide))) (wl3 (a3c l) hg (a0j (by decide)))) (P9.same a4) (o9.trans a4.off) c X
   .rw[show((1+(L.length+1):Nat):Int)=(((L.map (Str.join bk)).map V.str).length:Int)+2 by rw[u];omega]at this;exact this
   .show upd _ _ _ _=_;rw[A0];simp
  .have O:ks≠[]:=by simpa using O
   have C:=(Same.refl H9).upd (o:=.lst []) S;have c6:=G0 (o:=.lst []) e9 S;generalize upd H9 e4 (.lst [])=e8 at C c6⊢;have f3:=P9.same C;have g6:=o9.trans C.off;have d0:=C _ _ a6;clear C P9 o9 a6 t9 e9 S;refine⟨_,rfl,_,rfl,a,b,p8,_,rfl,f3,c6,q8,by rw[List.length_map];exact List.length_pos_iff.mpr O,by rw[List.length_map];omega,λr f0 hr f5 b1=>?_⟩;obtain⟨x,hx,rfl⟩:=List.mem_map.mp hr;obtain⟨kk,rfl,h1,h2,ws,G,d4⟩:=d6 x hx;have b4:=b1 _ _ hq d0;have b1:=g6.trans b1;dsimp only[B1];refine⟨_,rfl,_,_,rfl,rfl,_,rfl,_,rfl,lp,_,rfl,.inl (SqL.of b4),_,rfl,_,_,rfl,rfl,a,b,_,rfl,f5,by rw[u];omega,Int.lt_of_le_of_lt (show _<=(30:Int) by rw[u];omega) (by decide +kernel),λe5 c5 h5 c7 b8 b2=>⟨_,_,rfl,rfl,?_⟩⟩;rw[u]at c7;obtain⟨pl,hpl⟩:∃pl:Nat,(kk:Int)+1+e5=(pl:Int):=⟨((kk:Int)+1+e5).toNat,by omega⟩;dsimp only[B1];rw[hpl];have b5:=b2 _ _ hq b4;have b2:=b1.trans b2;have hw:=hW ws (List.mem_of_getElem? G);obtain⟨ee,g0⟩:=X8 htk pl;obtain⟨n,f,rfl,_,g5⟩:=a6z htk hL h1 G d4 (by omega) g0;have hg:=(hnm.nm _ g5).wg;have J:atI ((L.map (Str.join bk)).map V.str) (kk:Int)=some (V.str (Str.join bk [wk l,n,f])):=F0 (by rw[List.getElem?_map,List.getElem?_map,G];rfl);refine b4U (n:=n) rfl (λQ' q=>⟨_,rfl,_,rfl,lp,_,_,_,rfl,rfl,SqL.of b5,J,rfl,_,bk,rfl,rfl,by decide,by have:=hw.le;omega,λp9 c4=>?_⟩) (a3c l).1 hg.1 (by decide +kernel) λh6 D=>?_
   .rw[hw.split];exact .inl ⟨p9,_,1,_,rfl,rfl,SqL.of A0,F0 (j:=1) rfl,q _ ((Same.refl c5).upd c4)⟩
   rw[b4R (a4r (x:=7) (by decide +kernel))];dsimp only[B1];refine a8R (a:=a) (b:=b) (R:=λws=>ws=[wk l,n,D8 7]) rfl (λ_ _ q=>⟨_,rfl,q⟩) hlen (i:=pl) (by omega) (D _ _ b5) hq (b8.same D) (λf1 h7 a4 h3=>⟨_,rfl,h3 _ f1 rfl ((b8.same D).same a4) (Off.refl _ _)⟩) λp ws f2 hR d1 f8 f6 g7=>?_;subst hR;refine⟨_,rfl,_,_,rfl,rfl,by show 2<=sizeLine;omega,λc X=>?_⟩;have d9:=b2.trans D.off;have:=fin p _ pl f2 d1 (K8 d9 (b8.same D) f8) (a5M htk hW hlen (wl3 (a3c l) hg (a0j (by decide))) (by omega) λe he=>by
    obtain⟨n',f',ew,g3,_⟩:=a6z htk hL h1 G d4 (show kk<pl by omega) he;injection ew with _ ew
    injection ew with ew _
    subst ew;exact b4G (c:=l) (r:=[n,D8 7]) (by rw[(M9 htk hL (show 1<=pl by omega) he).1];exact h0) (a4F g3)) f6 (d9.trans g7) c X
   rw[show((1+pl:Nat):Int)=(pl:Int)+1 by omega]at this;exact this
end
end K44
namespace K44
open PySem PySem.Spec PyProof.Rows L2
section
variable {P:Program}{w:World}{K:PySem.W.Frag}{mg:Str->Option Value}{base:Heap}
theorem SysAt.pot{H H':Hp}{a b:Addr}{v:V}{ns:List Str}{rows:LLI}{sides:List Int}{caps:List (Option Int)}{prices:List Int}(h:SysAt H v ns rows sides caps prices)(d:PotAt H a b)(o:Off [a,b] H H'):SysAt H' v ns rows sides caps prices :=
 let ⟨c,n,r,t,cc,p,us,e,e1,e2,e3,e4,e5,e6,e7⟩:=h.ex
 ⟨c,n,r,t,cc,p,us,e,o _ _ (G1 d e1) e1,o _ _ (G1 d e2) e2,o _ _ (G1 d e3) e3,Its.pot e4 d o,o _ _ (G1 d e5) e5,o _ _ (G1 d e6) e6,o _ _ (G1 d e7) e7⟩
theorem b2X:PySem.W.kitOne K (.type "tuple") (.type "tuple")=some true:=by rfl
def b7A(CN:Addr):Sp:=λvs H Q _=>a9d CN vs H Q λ_ _ _=>False
theorem sc_law:FnScope ["_law_script","_law_pot_here","_law_turn","_law_lines","_law_system_here","_law_spoilt_here","_law_due"] ["_law_script"] (A8 a2f):=⟨rfl,rfl,rfl,by decide +kernel,rfl,by decide +kernel,by decide +kernel⟩
theorem b6c{CN f:Addr}{fd:FuncData}(F':Fun K "law" "law" a2f f fd)(T:Tx mg)(t:Ok P w K mg base "_law_pot" 1 ["_law_script"] (b3Q K))(p:Ok P w K mg base "_law_next" 1 ["_law_pot_here","_law_many"] T5)(k:Ok P w K mg base "_law_system" 5 ["_law_pot_here"] b3M)(g:Ok P w K mg base "_law_spoilt" 4 ["_law_pot_here","_law_lines","_law_system_here"] b3N)(r:Ok P w K mg base "_law_bad" 3 ["_law_pot_here","_law_names_here"] a9i)(m:Ok P w K mg base "_law_line" 11 ["_law_text"] a9f)(l:Ok P w K mg base "read_system" 10 ["text"] (b7A CN)) :
  FnOk P w K mg base CX0 12 f fd ["_law_script"] (a6I K):=by
 refine F'.okJ sc_law (λvs H Q E h=>?_) (λb0 A outer s H vs Q E C h=>?_)
 .obtain⟨a,ns,rfl,_⟩:=h;rfl
 .obtain⟨a0,ns,rfl,hS,hl,kk⟩:=h;refine⟨_,(A1 (B7 (i:=1) sc_law.nd rfl (Or.inl rfl) (C0 t (C.mono (by omega)) rfl (jaC (jv 0) jaN)))
 (A1 (T8 (R8 rfl T.b_range (jaC A4 jaN)) (C3 (i:=2) sc_law.nd rfl (Or.inl rfl))
 (A1 (a0d (C0 k (C.mono (by omega)) rfl (jaC (jv 1) jaN)) (Y8 K 2 (D5 (C3 (i:=3) sc_law.nd rfl (Or.inl rfl)) (D5 (C3 (i:=4) sc_law.nd rfl (Or.inl rfl)) R6))))
 (A1 (a0d (C0 g (C.mono (by omega)) rfl (jaC (jv 1) (jaC (jv 3) (jaC (jv 4) jaN)))) (Y8 K 2 (D5 (C3 (i:=5) sc_law.nd rfl (Or.inl rfl)) (D5 (C3 (i:=6) sc_law.nd rfl (Or.inl rfl)) R6))))
 (A1 (G2 (O8 (C0 p (C.mono (by omega)) rfl (jaC (jv 1) (jaC A4 jaN))) A4)
 (A9 (B7 (i:=5) sc_law.nd rfl (Or.inl rfl) (J9 (jv 5) (C5 (jaC (C0 r (C.mono (by omega)) rfl (jaC (jv 1) (jaC (V8 K (jv 4) A4) jaN))) jaN)))))
 C9)
 (A1 (G2 (a6U (C0 m (C.mono (by omega)) rfl (jaC (a4i K A2 (jaC (jv 5) jaN)) jaN)) (jv 6))
 (A9 (C2 a2x))
 C9)
 (A9 (G2 (a0c (Y7 K (a0y K rfl T.b_isinstance (jaC (C0 l (C.mono (by omega)) rfl (jaC (a4i K A2 (jaC (jv 3) jaN)) jaN)) (jaC (a6f (v:=.ty "tuple") rfl T.b_tuple a5z rfl) jaN)))))
 (A9 (C2 a2x))
 C9)))))))
 (A9 (C2 a2x)))),?_⟩
  have hz:(16777216:Nat)<=sizeLine:=by rw[sizeLine_eq];decide
  refine⟨_,rfl,a0,ns,rfl,hS,by omega,λa b H1 _ _ a1 _=>?_⟩;dsimp only[B1];refine⟨12,rfl,by decide,by decide,?_⟩;refine X5 (lo:=0) (n:=12) (λi σ H'=>∃I o3 o4 o5 o6,σ=[some (.ref a0),some (.ref a),I,o3,o4,o5,o6]/\PotAt H' a b) ⟨_,_,_,_,_,rfl,a1⟩ ?_ ?_
  .rintro i σ H' hi ⟨I,o3,o4,o5,o6,rfl,P'⟩;dsimp only[B1];refine⟨_,rfl,a,b,rfl,P',λc D v L d H2 g1 g2 S J U g6 g7 g8 B g9 P2 f2=>?_⟩;refine⟨c,_,rfl,SqT.of g1,rfl,_,_,rfl,_,[],rfl,rfl,?_⟩;dsimp only[B1];have x:D∉[a,b]:=C7 P' g9;refine⟨_,rfl,_,rfl,_,rfl,a,b,D,v,L,d,rfl,P2,g2,x,S,J,U,g6,g7,B.1,B.2,λc3 W M i3 H3 h1 h2 h3 u P3 f3=>?_⟩;refine⟨c3,_,rfl,SqT.of h1,rfl,_,_,rfl,_,[],rfl,rfl,?_⟩;dsimp only[B1];have N:TxL H3 D L:=f3 _ _ x g2;have S3:=g7.pot P2 f3;have F:W∉[a,b]:=C7 P2 h3;refine a0S (λσ H'=>∃I q M,σ=[some (.ref a0),some (.ref a),I,some (.ref D),some v,some (.ref q),some (.int ((1+i3:Nat):Int))]/\TxL H' q M/\SpB 41 M i3/\TxL H' D L/\PotAt H' a b) ?fin λfin=>?_
   case fin =>
    rintro σ H4 ⟨I,q,M,rfl,a3,u,a2,P4⟩;obtain⟨e,ws,t1,t2,t3⟩:=u.ex;have b2:=u.len;have R:=a3U u.wl (by omega);have Z:M≠[]:=λz=>by rw[z]at t2;cases t2
    refine⟨rfl,_,rfl,lf,q,lnW M,10000,rfl,rfl,SqL.of a3,λy hy=>?_,?_,by show(ptW _).length<=_;omega,M,i3,e,ws,rfl,Z,u.wl,by omega,t1,t2,t3,λY s5=>?_⟩
    .obtain⟨ws,hws,rfl⟩:=List.mem_map.mp hy;exact(u.wl ws hws).le
    .rw[show(lnW M).length=M.length by simp[lnW],show lf.length=1 from rfl];omega
    refine⟨_,rfl,rfl,_,rfl,G7 (λe=>by rw[decide_eq_true rfl]at e;cases e) (λ_=>?_)⟩;have O:TxL Y D L:=s5 _ _ a2;have R:=a3U U (by omega);refine⟨rfl,_,rfl,lf,D,lnW L,10000,rfl,rfl,SqL.of O,λy hy=>?_,?_,by show(ptW _).length<=_;omega,L,rfl,S,U,by omega,λd' v' H6 _ hv X=>?_,λj d' b3 dx H6 u1 u2 u3 _ _=>?_⟩
    .obtain⟨ws,hws,rfl⟩:=List.mem_map.mp hy;exact(U ws hws).le
    .rw[show(lnW L).length=L.length by simp[lnW],show lf.length=1 from rfl];omega
    .obtain⟨cc,n1,r1,t1,k1,p1,a9,rfl,e1,_⟩:=hv.ex;exact⟨_,_,_,true,rfl,.tup e1,b2X,true,rfl,Y9 ⟨_,_,_,_,_,rfl,P4.same (s5.trans X)⟩⟩
    .have:=tw_none L u1 u2 u3 L.length (List.getElem?_eq_some_iff.mp u2).1;rw[List.take_length,J]at this;cases this
   obtain⟨cs,n1,r1,t1,k1,p1,a9,rfl,e1,e2,_⟩:=S3.ex;refine⟨_,rfl,a,b,2,rfl,P3,by decide,by decide +kernel,λr4 H4 _ _ P4 G=>⟨rfl,_,rfl,G7 (λe=>?_) (λe=>?_)⟩⟩
   .have c4:=G _ _ (G1 P3 e1) e1;have n4:=G _ _ (G1 P3 e2) e2;have a4:=Z5 J bd0;have a7:TxL H4 W M:=G _ _ F h2;refine⟨_,rfl,_,rfl,_,rfl,cs,_,0,_,rfl,rfl,SqT.of c4,rfl,a,b,n1,d.names,rfl,P4,n4,(M9 J S (i:=L.length) (List.length_pos_iff.mpr S) (by rw[List.take_length];exact J)).2,a4.n,B.1,B.2,λy Y ⟨ws,ey,hw,_⟩ P5 f5=>⟨by show 1<=sizeLine;omega,λp6 a5=>?_⟩⟩;subst ey;have X:=(Same.refl Y).upd (o:=.lst [V.str (Str.join bk ws)]) a5;have a8:=X _ _ (f5 _ _ F a7);have b1:=u.len;refine⟨W,p6,_,_,rfl,rfl,a8,A0,by simp;omega,λp7 a6=>?_⟩;have s7:=X.upd (o:=.lst ((M.map (Str.join bk)).map V.str++[V.str (Str.join bk ws)])) a6;refine fin _ _ ⟨_,p7,M++[ws],rfl,?_,u.snoc hw,s7 _ _ (f5 _ _ x (G _ _ x N)),P5.same s7⟩;show upd _ _ _ _=_;rw[A0];simp
   .exact fin _ _ ⟨_,W,M,rfl,G _ _ F h2,⟨u.wl,Nat.le_succ_of_le u.len,u.ex⟩,G _ _ x N,P4⟩
  .rintro σ H8 ⟨I,o3,o4,o5,o6,rfl,P'⟩;exact kk H8
end
end K44
namespace K44
open PySem PySem.Spec PyProof.Rows L2
open PySem.W
theorem all_mk{l:PySem.W.OpenLaw}{w:World}{K:PySem.W.Frag}{h:Heap}{mg:Str->Option Value}{fa:Addr}(X:K.In h)(G:h.Ns mainGlobals mg)(B9:mg "law"=some (.ref fa))
 (a1:nsIn K mainGlobals "is_name"=some (some (.ref f1))) (l1:FnL K f1 "is_name" "is_name" a0m o1 d1 s1 v1 x1 p1 n1 c1 t1) (y6:codeIn K c1 "is_name"=true) (k1:keepIn K (.ref f1)=true)
 (a2:nsIn K mainGlobals "is_written"=some (some (.ref f2))) (l2:FnL K f2 "is_written" "is_written" R1 o2 d2 s2 v2 x2 p2 n2 c2 t2) (y7:codeIn K c2 "is_written"=true) (k2:keepIn K (.ref f2)=true)
 (a3:nsIn K mainGlobals "read_figures"=some (some (.ref f3))) (l3:FnL K f3 "read_figures" "read_figures" N0 o3 d3 s3 v3 x3 p3 n3 c3 t3) (y8:codeIn K c3 "read_figures"=true) (k3:keepIn K (.ref f3)=true)
 (a4:nsIn K mainGlobals "read_number"=some (some (.ref f4))) (l4:FnL K f4 "read_number" "read_number" O2 o4 d4 s4 v4 x4 p4 n4 c4 t4) (y9:codeIn K c4 "read_number"=true) (k4:keepIn K (.ref f4)=true)
 (a5:nsIn K mainGlobals "parted"=some (some (.ref f5))) (l5:FnL K f5 "parted" "parted" a0U o5 d5 s5 v5 x5 p5 n5 c5 t5) (B2:codeIn K c5 "parted"=true) (k5:keepIn K (.ref f5)=true)
 (a6:nsIn K mainGlobals "read_term"=some (some (.ref f6))) (l6:FnL K f6 "read_term" "read_term" V0 o6 d6 s6 v6 x6 p6 n6 c6 t6) (B4:codeIn K c6 "read_term"=true) (k6:keepIn K (.ref f6)=true)
 (a7:nsIn K mainGlobals "read_terms"=some (some (.ref f7))) (l7:FnL K f7 "read_terms" "read_terms" R0 o7 d7 s7 v7 x7 p7 n7 c7 t7) (B5:codeIn K c7 "read_terms"=true) (k7:keepIn K (.ref f7)=true)
 (a8:nsIn K mainGlobals "read_sum"=some (some (.ref f8))) (l8:FnL K f8 "read_sum" "read_sum" Y0 o8 d8 s8 v8 x8 p8 n8 c8 t8) (B6:codeIn K c8 "read_sum"=true) (k8:keepIn K (.ref f8)=true)
 (a9:nsIn K mainGlobals "take_number"=some (some (.ref f9))) (l9:FnL K f9 "take_number" "take_number" O0 o9 d9 s9 v9 x9 p9 n9 c9 t9) (B8:codeIn K c9 "take_number"=true) (k9:keepIn K (.ref f9)=true)
 (v0:nsIn K mainGlobals "take_all"=some (some (.ref f10))) (H5:FnL K f10 "take_all" "take_all" X9 o10 d10 s10 v10 x10 p10 n10 c10 t10) (m0:codeIn K c10 "take_all"=true) (D1:keepIn K (.ref f10)=true)
 (w0:nsIn K mainGlobals "read_system"=some (some (.ref f11))) (H6:FnL K f11 "read_system" "read_system" O1 o11 d11 s11 v11 x11 p11 n11 c11 t11) (m1:codeIn K c11 "read_system"=true) (D2:keepIn K (.ref f11)=true)
 (w1:nsIn K mainGlobals "_law_pot"=some (some (.ref f12))) (H7:FnL K f12 "_law_pot" "_law_pot" Y1 o12 d12 s12 v12 x12 p12 n12 c12 t12) (m2:codeIn K c12 "_law_pot"=true) (D3:keepIn K (.ref f12)=true)
 (w2:nsIn K mainGlobals "_law_next"=some (some (.ref f13))) (H8:FnL K f13 "_law_next" "_law_next" V2 o13 d13 s13 v13 x13 p13 n13 c13 t13) (m3:codeIn K c13 "_law_next"=true) (D4:keepIn K (.ref f13)=true)
 (w3:nsIn K mainGlobals "_law_of"=some (some (.ref f14))) (H9:FnL K f14 "_law_of" "_law_of" W8 o14 d14 s14 v14 x14 p14 n14 c14 t14) (m4:codeIn K c14 "_law_of"=true) (E1:keepIn K (.ref f14)=true)
 (w4:nsIn K mainGlobals "_law_names"=some (some (.ref f15))) (I1:FnL K f15 "_law_names" "_law_names" R3 o15 d15 s15 v15 x15 p15 n15 c15 t15) (m5:codeIn K c15 "_law_names"=true) (E2:keepIn K (.ref f15)=true)
 (w5:nsIn K mainGlobals "_law_half"=some (some (.ref f16))) (I2:FnL K f16 "_law_half" "_law_half" V4 o16 d16 s16 v16 x16 p16 n16 c16 t16) (m6:codeIn K c16 "_law_half"=true) (E3:keepIn K (.ref f16)=true)
 (w6:nsIn K mainGlobals "_law_edge"=some (some (.ref f17))) (I3:FnL K f17 "_law_edge" "_law_edge" V5 o17 d17 s17 v17 x17 p17 n17 c17 t17) (m7:codeIn K c17 "_law_edge"=true) (E4:keepIn K (.ref f17)=true)
 (w7:nsIn K mainGlobals "_law_sums"=some (some (.ref f18))) (I4:FnL K f18 "_law_sums" "_law_sums" V1 o18 d18 s18 v18 x18 p18 n18 c18 t18) (m8:codeIn K c18 "_law_sums"=true) (E5:keepIn K (.ref f18)=true)
 (w8:nsIn K mainGlobals "_law_numbered"=some (some (.ref f19))) (I5:FnL K f19 "_law_numbered" "_law_numbered" M4 o19 d19 s19 v19 x19 p19 n19 c19 t19) (m9:codeIn K c19 "_law_numbered"=true) (E6:keepIn K (.ref f19)=true)
 (w9:nsIn K mainGlobals "_law_mingled"=some (some (.ref f20))) (I6:FnL K f20 "_law_mingled" "_law_mingled" N1 o20 d20 s20 v20 x20 p20 n20 c20 t20) (n0:codeIn K c20 "_law_mingled"=true) (E7:keepIn K (.ref f20)=true)
 (x0:nsIn K mainGlobals "_law_system"=some (some (.ref f21))) (I7:FnL K f21 "_law_system" "_law_system" O3 o21 d21 s21 v21 x21 p21 n21 c21 t21) (o0:codeIn K c21 "_law_system"=true) (E8:keepIn K (.ref f21)=true)
 (y0:nsIn K mainGlobals "_law_bad_sums"=some (some (.ref f22))) (I8:FnL K f22 "_law_bad_sums" "_law_bad_sums" M5 o22 d22 s22 v22 x22 p22 n22 c22 t22) (p0:codeIn K c22 "_law_bad_sums"=true) (E9:keepIn K (.ref f22)=true)
 (y1:nsIn K mainGlobals "_law_bad"=some (some (.ref f23))) (I9:FnL K f23 "_law_bad" "_law_bad" Y2 o23 d23 s23 v23 x23 p23 n23 c23 t23) (q0:codeIn K c23 "_law_bad"=true) (H0:keepIn K (.ref f23)=true)
 (y2:nsIn K mainGlobals "_law_first"=some (some (.ref f24))) (L0:FnL K f24 "_law_first" "_law_first" R4 o24 d24 s24 v24 x24 p24 n24 c24 t24) (r0:codeIn K c24 "_law_first"=true) (H1:keepIn K (.ref f24)=true)
 (y3:nsIn K mainGlobals "_law_spoilt"=some (some (.ref f25))) (L1:FnL K f25 "_law_spoilt" "_law_spoilt" O4 o25 d25 s25 v25 x25 p25 n25 c25 t25) (r1:codeIn K c25 "_law_spoilt"=true) (H2:keepIn K (.ref f25)=true)
 (y4:nsIn K mainGlobals "_law_line"=some (some (.ref f26))) (L2:FnL K f26 "_law_line" "_law_line" V3 o26 d26 s26 v26 x26 p26 n26 c26 t26) (r2:codeIn K c26 "_law_line"=true) (H3:keepIn K (.ref f26)=true)
 (y5:nsIn K mainGlobals "law"=some (some (.ref f27))) (P5:FnL K f27 "law" "law" a2f o27 d27 s27 v27 x27 p27 n27 c27 t27) (r3:codeIn K c27 "law"=true) (H4:keepIn K (.ref f27)=true)
  (z1:PySem.W.nsIn K mainGlobals "ValueError"=some none) (z2:PySem.W.nsIn K mainGlobals "abs"=some none) (z3:PySem.W.nsIn K mainGlobals "all"=some none) (z4:PySem.W.nsIn K mainGlobals "bool"=some none) (z5:PySem.W.nsIn K mainGlobals "enumerate"=some none) (z6:PySem.W.nsIn K mainGlobals "int"=some none) (z7:PySem.W.nsIn K mainGlobals "isinstance"=some none) (z8:PySem.W.nsIn K mainGlobals "len"=some none) (z9:PySem.W.nsIn K mainGlobals "list"=some none) (P7:PySem.W.nsIn K mainGlobals "max"=some none) (P8:PySem.W.nsIn K mainGlobals "min"=some none) (P9:PySem.W.nsIn K mainGlobals "range"=some none) (Q1:PySem.W.nsIn K mainGlobals "set"=some none) (Q2:PySem.W.nsIn K mainGlobals "str"=some none) (Q3:PySem.W.nsIn K mainGlobals "tuple"=some none) (Q4:PySem.W.nsIn K mainGlobals "zip"=some none)
  {N:Addr}(e3:PySem.W.nsIn K mainGlobals "NoAnswer"=some (some (.ref N))) {c:Addr}(e2:PySem.W.nsIn K mainGlobals "LayError"=some (some (.ref c))) {e4:Addr}(j0:PySem.W.nsIn K mainGlobals "NoLay"=some (some (.ref e4))) {b9:Addr}(g4:PySem.W.nsIn K mainGlobals "NoLine"=some (some (.ref b9))) {a:Addr}(g5:PySem.W.nsIn K mainGlobals "NoText"=some (some (.ref a))) {S:Addr}(e6:PySem.W.nsIn K mainGlobals "TooMany"=some (some (.ref S))) {b:Addr}(i9:PySem.W.nsIn K mainGlobals "Draft"=some (some (.ref b))) {i3:Tok}(e7:PySem.W.nsIn K mainGlobals "FIGURES"=some (some (.str (Str.ofString "0123456789") i3))) {i4:Tok}(e8:PySem.W.nsIn K mainGlobals "LETTERS"=some (some (.str (Str.ofString "abcdefghijklmnopqrstuvwxyz") i4))) {k0:Tok}(j9:PySem.W.nsIn K mainGlobals "TOP"=some (some (.int 1000000000000 k0))) (q1:a0K K c []=true) (q2:a0K K a [.ref c]=true) (q3:a0K K a []=true) (q4:PySem.W.mroIn K a (.type "object")=some true) (q5:PySem.W.findIn K (.ref a) "__class__"=some (some (.builtin "object.__class__"))) (q6:PySem.W.findIn K (.ref a) "__getattribute__"=some (some (.builtin "BaseException.__getattribute__"))) (q7:PySem.W.findIn K (.ref a) "__getattr__"=some none) (q8:PySem.W.kitOne K (.ref a) (.ref a)=some true) (q9:PySem.W.kitOne K (.ref a) (.type "ValueError")=some true) (P6:PySem.W.kitAny K (.ref a) [.ref N,.ref e4,.ref b9,.ref S]=some false) (r4:PySem.W.findIn K (.ref a) "line"=some none) (pg_Draft:PySem.W.plainGet K b Str.empty=true) (j1:PySem.W.hasDictIn K b=true) (j4:PySem.W.plainOver K b=true) (j5:PySem.W.findIn K (.ref b) "__setattr__"=some (some (.builtin "object.__setattr__"))) (j3:PySem.W.makesIn K b=true) (j2:PySem.W.keepIn K (.ref b)=true) (b0:PySem.W.findIn K (.ref b) "names"=some none) (b8:PySem.W.findIn K (.ref b) "rows"=some none) (b1:PySem.W.findIn K (.ref b) "sides"=some none) (b7:PySem.W.findIn K (.ref b) "caps"=some none) (R:PySem.W.findIn K (.ref b) "prices"=some none) {h9 i0:Str}{i8:Addr}{g7 f0:List Value}{g6:Bool}{i1:List Str}{e9:Option Bool}{g8:Option Addr}{h1 h3 h4 h5 h6:Option Value}(h8:K.lookup a=some (excClassObj h9 i0 a i8 g7 (.ref c::bmV) true i1 f0 g6 e9 g8 h1 h3 h4 h5 h6 "ValueError.__new__")) (i5:PySem.W.tailIn K bmV (.ref c::bmV)=true) (h7:PySem.W.keepIn K (.ref a)=true) (i2:PySem.W.findIn K (.ref a) "__setattr__"=some (some (.builtin "object.__setattr__"))) (i6:a0K K a [.ref c]=true) (g9:PySem.W.findIn K (.ref a) "__getattribute__"=some (some (.builtin "BaseException.__getattribute__"))) (h0:PySem.W.findIn K (.ref a) "__getattr__"=some none) (e0:PySem.W.readsIn K c (.type "type")=true) (d0:PySem.W.findCls K (.ref c) (.type "type") "__init__"=some (.val (.builtin "ValueError.__init__"))) (e1:PySem.W.specialIn K (.ref c) "__getattribute__"=some (some (.builtin "type.__getattribute__"))) (j8:PySem.W.findIn K (.ref a) "line"=some none) (B:findIn K (.ref b) "__init__"=some (some (.ref f_Draft___init__))) (F:isFn K (.ref f_Draft___init__)=true) (L:FnL K f_Draft___init__ "__init__" "Draft.__init__" L6 o_Draft___init__ d_Draft___init__ s0_Draft___init__ v_Draft___init__ x_Draft___init__ p_Draft___init__ n0_Draft___init__ c0_Draft___init__ t_Draft___init__) (D:codeIn K c0_Draft___init__ "Draft.__init__"=true) (I:keepIn K (.ref f_Draft___init__)=true) (b2:findIn K (.ref b) "take"=some (some (.ref f_Draft_take))) (b4:isFn K (.ref f_Draft_take)=true) (b6:FnL K f_Draft_take "take" "Draft.take" R5 o_Draft_take d_Draft_take s0_Draft_take v_Draft_take x_Draft_take p_Draft_take n0_Draft_take c0_Draft_take t_Draft_take) (b3:codeIn K c0_Draft_take "Draft.take"=true) (b5:keepIn K (.ref f_Draft_take)=true) (n:findIn K (.ref b) "take_names"=some (some (.ref f_Draft_take_names))) (p:isFn K (.ref f_Draft_take_names)=true) (r:FnL K f_Draft_take_names "take_names" "Draft.take_names" J5 o_Draft_take_names d_Draft_take_names s0_Draft_take_names v_Draft_take_names x_Draft_take_names p_Draft_take_names n0_Draft_take_names c0_Draft_take_names t_Draft_take_names) (o:codeIn K c0_Draft_take_names "Draft.take_names"=true) (q:keepIn K (.ref f_Draft_take_names)=true) (C:findIn K (.ref b) "take_sum"=some (some (.ref f_Draft_take_sum))) (H:isFn K (.ref f_Draft_take_sum)=true) (M:FnL K f_Draft_take_sum "take_sum" "Draft.take_sum" L4 o_Draft_take_sum d_Draft_take_sum s0_Draft_take_sum v_Draft_take_sum x_Draft_take_sum p_Draft_take_sum n0_Draft_take_sum c0_Draft_take_sum t_Draft_take_sum) (E:codeIn K c0_Draft_take_sum "Draft.take_sum"=true) (J:keepIn K (.ref f_Draft_take_sum)=true) (V:findIn K (.ref b) "whole"=some (some (.ref f_Draft_whole))) (Y:isFn K (.ref f_Draft_whole)=true) (a0:FnL K f_Draft_whole "whole" "Draft.whole" O5 o_Draft_whole d_Draft_whole s0_Draft_whole v_Draft_whole x_Draft_whole p_Draft_whole n0_Draft_whole c0_Draft_whole t_Draft_whole) (W:codeIn K c0_Draft_whole "Draft.whole"=true) (Z:keepIn K (.ref f_Draft_whole)=true) (f:findIn K (.ref a) "__init__"=some (some (.ref f_NoText___init__))) (g:isFn K (.ref f_NoText___init__)=true) (z:FnL K f_NoText___init__ "__init__" "NoText.__init__" K2 o_NoText___init__ d_NoText___init__ s0_NoText___init__ v_NoText___init__ x_NoText___init__ p_NoText___init__ n0_NoText___init__ c0_NoText___init__ t_NoText___init__) (y:codeIn K c0_NoText___init__ "NoText.__init__"=true) (i:keepIn K (.ref f_NoText___init__)=true) :
  ∃fd:FuncData,(∀(s:Shared) (v:Value),BindsTo s fd ⟨[v],[]⟩ [("_law_script",v)])/\∀base:Heap,K.In base->base.Ns mainGlobals mg->FnOk l.prog w K mg base CX0 12 fa fd ["_law_script"] (a6I K):=by
 have e:=B9.symm.trans (PySem.W.mg_of X G y5);cases e;have T:Tx mg:=⟨PySem.W.mg_none_of X G z1,PySem.W.mg_none_of X G z2,PySem.W.mg_none_of X G z3,PySem.W.mg_none_of X G z4,PySem.W.mg_none_of X G z5,PySem.W.mg_none_of X G z6,PySem.W.mg_none_of X G z7,PySem.W.mg_none_of X G z8,PySem.W.mg_none_of X G z9,PySem.W.mg_none_of X G P7,PySem.W.mg_none_of X G P8,PySem.W.mg_none_of X G P9,PySem.W.mg_none_of X G Q1,PySem.W.mg_none_of X G Q2,PySem.W.mg_none_of X G Q3,PySem.W.mg_none_of X G Q4⟩;have F1:FunAt K mg "is_name" a0m ["word"]:=J4 X G a1 l1 y6 k1 λ_ _ _ _ _ _ A d=>by obtain⟨_,rfl⟩:=a1D d;rfl
 have F2:FunAt K mg "is_written" R1 ["word"]:=J4 X G a2 l2 y7 k2 λ_ _ _ _ _ _ A d=>by obtain⟨_,rfl⟩:=a1D d;rfl
 have F3:FunAt K mg "read_figures" N0 ["word","most"]:=J4 X G a3 l3 y8 k3 λ_ _ _ _ _ _ A d=>by obtain⟨_,_,rfl⟩:=Z3 d;rfl
 have F4:FunAt K mg "read_number" O2 ["word","top"]:=J4 X G a4 l4 y9 k4 λ_ _ _ _ _ _ A d=>by obtain⟨_,_,rfl⟩:=Z3 d;rfl
 have F5:FunAt K mg "parted" a0U ["words"]:=J4 X G a5 l5 B2 k5 λ_ _ _ _ _ _ A d=>by obtain⟨_,rfl⟩:=a1D d;rfl
 have F6:FunAt K mg "read_term" V0 ["names","words"]:=J4 X G a6 l6 B4 k6 λ_ _ _ _ _ _ A d=>by obtain⟨_,_,rfl⟩:=Z3 d;rfl
 have F7:FunAt K mg "read_terms" R0 ["names","words"]:=J4 X G a7 l7 B5 k7 λ_ _ _ _ _ _ A d=>by obtain⟨_,_,rfl⟩:=Z3 d;rfl
 have F8:FunAt K mg "read_sum" Y0 ["names","words"]:=J4 X G a8 l8 B6 k8 λ_ _ _ _ _ _ A d=>by obtain⟨_,_,rfl⟩:=Z3 d;rfl
 have F9:FunAt K mg "take_number" O0 ["names","words","kept"]:=J4 X G a9 l9 B8 k9 λ_ _ _ _ _ _ A d=>by obtain⟨_,_,_,rfl⟩:=b2V d;rfl
 have r5:FunAt K mg "take_all" X9 ["draft","lines"]:=J4 X G v0 H5 m0 D1 λ_ _ _ _ _ _ A d=>by obtain⟨_,_,rfl⟩:=Z3 d;rfl
 have r6:FunAt K mg "read_system" O1 ["text"]:=J4 X G w0 H6 m1 D2 λ_ _ _ _ _ _ A d=>by obtain⟨_,rfl⟩:=a1D d;rfl
 have r7:FunAt K mg "_law_pot" Y1 ["_law_script"]:=J4 X G w1 H7 m2 D3 λ_ _ _ _ _ _ A d=>by obtain⟨_,rfl⟩:=a1D d;rfl
 have r8:FunAt K mg "_law_next" V2 ["_law_pot_here","_law_many"]:=J4 X G w2 H8 m3 D4 λ_ _ _ _ _ _ A d=>by obtain⟨_,_,rfl⟩:=Z3 d;rfl
 have l0:FunAt K mg "_law_of" W8 ["_law_pot_here","_law_some"]:=J4 X G w3 H9 m4 E1 λ_ _ _ _ _ _ A d=>by obtain⟨_,_,rfl⟩:=Z3 d;rfl
 have r9:FunAt K mg "_law_names" R3 ["_law_pot_here"]:=J4 X G w4 I1 m5 E2 λ_ _ _ _ _ _ A d=>by obtain⟨_,rfl⟩:=a1D d;rfl
 have s0:FunAt K mg "_law_half" V4 ["_law_pot_here","_law_names_here","_law_found","_law_sign"]:=J4 X G w5 I2 m6 E3 λ_ _ _ _ _ _ A d=>by obtain⟨_,_,_,_,rfl⟩:=b8F d;rfl
 have t0:FunAt K mg "_law_edge" V5 ["_law_pot_here","_law_names_here"]:=J4 X G w6 I3 m7 E4 λ_ _ _ _ _ _ A d=>by obtain⟨_,_,rfl⟩:=Z3 d;rfl
 have u0:FunAt K mg "_law_sums" V1 ["_law_pot_here","_law_names_here"]:=J4 X G w7 I4 m8 E5 λ_ _ _ _ _ _ A d=>by obtain⟨_,_,rfl⟩:=Z3 d;rfl
 have u1:FunAt K mg "_law_numbered" M4 ["_law_pot_here","_law_word","_law_names_here"]:=J4 X G w8 I5 m9 E6 λ_ _ _ _ _ _ A d=>by obtain⟨_,_,_,rfl⟩:=b2V d;rfl
 have u2:FunAt K mg "_law_mingled" N1 ["_law_pot_here","_law_rows"]:=J4 X G w9 I6 n0 E7 λ_ _ _ _ _ _ A d=>by obtain⟨_,_,rfl⟩:=Z3 d;rfl
 have u3:FunAt K mg "_law_system" O3 ["_law_pot_here"]:=J4 X G x0 I7 o0 E8 λ_ _ _ _ _ _ A d=>by obtain⟨_,rfl⟩:=a1D d;rfl
 have u4:FunAt K mg "_law_bad_sums" M5 ["_law_name"]:=J4 X G y0 I8 p0 E9 λ_ _ _ _ _ _ A d=>by obtain⟨_,rfl⟩:=a1D d;rfl
 have u5:FunAt K mg "_law_bad" Y2 ["_law_pot_here","_law_names_here"]:=J4 X G y1 I9 q0 H0 λ_ _ _ _ _ _ A d=>by obtain⟨_,_,rfl⟩:=Z3 d;rfl
 have u6:FunAt K mg "_law_first" R4 ["_law_pot_here","_law_names_here"]:=J4 X G y2 L0 r0 H1 λ_ _ _ _ _ _ A d=>by obtain⟨_,_,rfl⟩:=Z3 d;rfl
 have u7:FunAt K mg "_law_spoilt" O4 ["_law_pot_here","_law_lines","_law_system_here"]:=J4 X G y3 L1 r1 H2 λ_ _ _ _ _ _ A d=>by obtain⟨_,_,_,rfl⟩:=b2V d;rfl
 have u8:FunAt K mg "_law_line" V3 ["_law_text"]:=J4 X G y4 L2 r2 H3 λ_ _ _ _ _ _ A d=>by obtain⟨_,rfl⟩:=a1D d;rfl
 refine⟨fnOf "law" "law" (W1 a2f) (K5 a2f) (A8 a2f) .none v27 x27 p27 n27 c27 t27,λs v=>.of_eq rfl,λbase XB GB=>?_⟩;have e5:=PySem.W.mg_of X G e3;have O:=PySem.W.mg_of X G e2;have j7:=PySem.W.mg_of X G j0;have i7:=PySem.W.mg_of X G g4;have c0:=PySem.W.mg_of X G g5;have g3:=PySem.W.mg_of X G e6;have j6:=PySem.W.mg_of X G i9;have g0:=PySem.W.mg_of X G e7;have g1:=PySem.W.mg_of X G e8;have g2:=PySem.W.mg_of X G j9;have k:Cls K b:=⟨pg_Draft,j1,j4,j5⟩;have t:MethAt K b "__init__" "Draft.__init__" L6 ["self"]:=a3l B F L D I λ_ _ _ _ _ _ A d=>by obtain⟨_,rfl⟩:=a1D d;rfl
 have U:MethAt K b "take" "Draft.take" R5 ["self","words"]:=a3l b2 b4 b6 b3 b5 λ_ _ _ _ _ _ A d=>by obtain⟨_,_,rfl⟩:=Z3 d;rfl
 have j:MethAt K b "take_names" "Draft.take_names" J5 ["self","words"]:=a3l n p r o q λ_ _ _ _ _ _ A d=>by obtain⟨_,_,rfl⟩:=Z3 d;rfl
 have u:MethAt K b "take_sum" "Draft.take_sum" L4 ["self","words"]:=a3l C H M E J λ_ _ _ _ _ _ A d=>by obtain⟨_,_,rfl⟩:=Z3 d;rfl
 have Q:MethAt K b "whole" "Draft.whole" O5 ["self"]:=a3l V Y a0 W Z λ_ _ _ _ _ _ A d=>by obtain⟨_,rfl⟩:=a1D d;rfl
 have m:MethAt K a "__init__" "NoText.__init__" K2 ["self","line"]:=a3l f g z y i λ_ _ _ _ _ _ A d=>by obtain⟨_,_,rfl⟩:=Z3 d;rfl
 have x:MkX K a c f_NoText___init__:=⟨⟨_,_,_,_,_,_,_,_,_,_,_,_,_,_,h8⟩,i5,⟨f,g,i⟩,h7,i2,i6,g9,h0⟩;have FL:=a2A (st:=a2f) P5 r3 H4;have US:DrTx K b:=⟨k,b0,b8,b1,b7,R⟩;have RN:=a2p F4 T (a1B F3 T (a2X (base:=base) (P:=l.prog) (w:=w) F2 T g0));have RS:=a4X F8 T g2 (a2W F7 T (a4b F6 T g2 RN) (a7K F5 T));have MI:=(b0f (base:=base) (P:=l.prog) (w:=w) (mg:=mg) t US).make j6 j3 j2;have MT:=b0c U US T k (a2V j US T (a5V F1 T g1)) (a4V u US T RS) (a2n F9 T g2 RN);have u9:=a7L (base:=base) (P:=l.prog) (w:=w) m x r4 O e0 d0 e1;have RP:=a2o r6 T US k MI (a4W r5 T k MT x u9 c0) (b0b Q US T);have LN:=b2H u8 T O e5 j7 i7 c0 g3 (a4u q1) (a4u q2) x r4 ⟨a4u q3,q4,q5,q6,q7⟩ q8 q9 P6 RP;have NX:=b2G (base:=base) (P:=l.prog) (w:=w) r8 T;have OF:=b8k l0 T NX;have NM:=b0d r9 T NX OF;have SM:=b2F u0 T NX (b2I s0 T NX OF) (b2J t0 T NX);have SY:=a7I u3 T NM SM (a4Y u1 T NX OF) (a5U u2 T NX);have BD:=b6d u5 T (b6b l0 T NX) (a4Z u4 T);exact b6c FL T (b6a r7 T) NX SY (a7J u7 T NX OF (b0e u6 T OF) BD) BD LN RP.no
end K44
namespace PySem.W.Fast
theorem tw16484048221075669172:True:=⟨⟩
theorem tw4480014566111273034:True:=⟨⟩
theorem tw8359912261197595641:True:=⟨⟩
theorem tw2759503100076609917:True:=⟨⟩
theorem tw14644547125882270385:True:=⟨⟩
theorem tw11729715000432078781:True:=⟨⟩
theorem tw4923077985901056137:True:=⟨⟩
theorem tw13510704625180172055:True:=⟨⟩
theorem tw13062036628251727191:True:=⟨⟩
theorem tw6018557669620106887:True:=⟨⟩
theorem tw6464383781890609030:True:=⟨⟩
theorem tw6210213464704502865:True:=⟨⟩
theorem tw8726275810404123893:True:=⟨⟩
theorem tw12783258492330707712:True:=⟨⟩
theorem tw3566630780917129653:True:=⟨⟩
theorem tw6388872943860892113:True:=⟨⟩
theorem tw17992401695017835760:True:=⟨⟩
theorem tw9841200095589641490:True:=⟨⟩
theorem tw15120126788404049712:True:=⟨⟩
theorem tw17042959194010034289:True:=⟨⟩
theorem tw9687731140755853731:True:=⟨⟩
theorem tw17956806484547793640:True:=⟨⟩
theorem tw11328467780726752921:True:=⟨⟩
theorem tw11419796529306285776:True:=⟨⟩
theorem tw403118336887812724:True:=⟨⟩
theorem tw12607588531022387801:True:=⟨⟩
theorem tw5656532863676379119:True:=⟨⟩
theorem tw14697209670836919904:True:=⟨⟩
theorem tw12045626565834939163:True:=⟨⟩
theorem tw15657881406106898596:True:=⟨⟩
theorem tw13674452489882760142:True:=⟨⟩
theorem tw9933797968591974387:True:=⟨⟩
theorem tw5226065216744293054:True:=⟨⟩
theorem tw3540012419160513800:True:=⟨⟩
theorem tw5675638086079174698:True:=⟨⟩
theorem tw2844174302926519024:True:=⟨⟩
theorem tw1800995340837537152:True:=⟨⟩
theorem tw6203177526268964071:True:=⟨⟩
theorem tw9724388021656272201:True:=⟨⟩
theorem tw10522072879096146705:True:=⟨⟩
theorem tw8457901154950585119:True:=⟨⟩
theorem tw11962401189150090037:True:=⟨⟩
theorem tw6027379754938815005:True:=⟨⟩
theorem tw11291038345512259235:True:=⟨⟩
theorem tw1071052862315811945:True:=⟨⟩
theorem tw14804558923045541176:True:=⟨⟩
theorem tw5699429816158592374:True:=⟨⟩
theorem tw2061701966593246728:True:=⟨⟩
theorem tw6547772192369238577:True:=⟨⟩
theorem tw12509960231535892612:True:=⟨⟩
theorem tw17869034890025258693:True:=⟨⟩
theorem tw16595411148250710576:True:=⟨⟩
theorem tw2505590718585688486:True:=⟨⟩
theorem tw8233598531002621250:True:=⟨⟩
theorem tw18417480356663613408:True:=⟨⟩
theorem tw18230307698706900783:True:=⟨⟩
theorem tw922136591409742976:True:=⟨⟩
theorem tw17230899695758765739:True:=⟨⟩
theorem tw18251883509663662308:True:=⟨⟩
theorem tw1016790012713710601:True:=⟨⟩
theorem tw9097274057779738952:True:=⟨⟩
theorem tw10172744133880364728:True:=⟨⟩
theorem tw4176123132991952178:True:=⟨⟩
theorem tw13933910758276443038:True:=⟨⟩
theorem tw16458133811494612067:True:=⟨⟩
theorem tw9209722790229164192:True:=⟨⟩
theorem tw6615952622273550651:True:=⟨⟩
theorem tw12236133589524305553:True:=⟨⟩
theorem tw3338176351477558155:True:=⟨⟩
theorem tw5733947219781591990:True:=⟨⟩
theorem tw8541365909968522186:True:=⟨⟩
theorem tw4083630396055797999:True:=⟨⟩
theorem tw8700725569786087369:True:=⟨⟩
theorem tw14567925833754100959:True:=⟨⟩
theorem tw15312141967812730680:True:=⟨⟩
theorem tw17134436128026793751:True:=⟨⟩
theorem tw9658546626287447860:True:=⟨⟩
theorem tw3988673073267766556:True:=⟨⟩
theorem tw15147246469060773217:True:=⟨⟩
theorem tw5740915300985389642:True:=⟨⟩
theorem tw9885322465440041696:True:=⟨⟩
theorem tw11736220447438125880:True:=⟨⟩
theorem tw4031826764432425901:True:=⟨⟩
theorem tw3160934120698979212:True:=⟨⟩
theorem tw16783237680333431209:True:=⟨⟩
theorem tw17451554548761369856:True:=⟨⟩
theorem tw15854596761458046395:True:=⟨⟩
theorem tw3360861500365679689:True:=⟨⟩
theorem tw812702223958358633:True:=⟨⟩
theorem tw15891156361012805144:True:=⟨⟩
theorem tw1877023300204265327:True:=⟨⟩
theorem tw11455019548981169455:True:=⟨⟩
theorem tw17996844390290220369:True:=⟨⟩
theorem tw907707832784901677:True:=⟨⟩
end PySem.W.Fast
open PySem PySem.W PyProof.Rows
set_option maxRecDepth 100000 in
set_option maxHeartbeats 0 in
theorem PySem.Challenge.cw_leastlays_k44_system_lines_refused_holds : PySem.Challenge.rw_leastlays_k44_system_lines_refused.Holds := by
 w_on;o_law;k_head;(case hw=>w_witness2)
 k_fill
 refine L2.law_walk (l:=PySem.Challenge.rw_leastlays_k44_system_lines_refused) 12 rfl rfl ⟨rfl,by decide,by decide⟩ (λw h Y=>PySem.W.kIn_of Y) ?F
 case F =>
  intro w mg fa h KX G hmg
  refine' K44.all_mk KX G hmg ?a1 ?l1 ?c_1 ?k1 ?a2 ?l2 ?c_2 ?k2 ?a3 ?l3 ?c_3 ?k3 ?a4 ?l4 ?c_4 ?k4 ?a5 ?l5 ?c_5 ?k5 ?a6 ?l6 ?c_6 ?k6 ?a7 ?l7 ?c_7 ?k7 ?a8 ?l8 ?c_8 ?k8 ?a9 ?l9 ?c_9 ?k9 ?a10 ?l10 ?c_10 ?k10 ?a11 ?l11 ?c_11 ?k11 ?a12 ?l12 ?c_12 ?k12 ?a13 ?l13 ?c_13 ?k13 ?a14 ?l14 ?c_14 ?k14 ?a15 ?l15 ?c_15 ?k15 ?a16 ?l16 ?c_16 ?k16 ?a17 ?l17 ?c_17 ?k17 ?a18 ?l18 ?c_18 ?k18 ?a19 ?l19 ?c_19 ?k19 ?a20 ?l20 ?c_20 ?k20 ?a21 ?l21 ?c_21 ?k21 ?a22 ?l22 ?c_22 ?k22 ?a23 ?l23 ?c_23 ?k23 ?a24 ?l24 ?c_24 ?k24 ?a25 ?l25 ?c_25 ?k25 ?a26 ?l26 ?c_26 ?k26 ?a27 ?l27 ?c_27 ?k27 ?z1 ?z2 ?z3 ?z4 ?z5 ?z6 ?z7 ?z8 ?z9 ?z10 ?z11 ?z12 ?z13 ?z14 ?z15 ?z16 ?aD_NoAnswer ?aD_LayError ?aD_NoLay ?aD_NoLine ?aD_NoText ?aD_TooMany ?aD_Draft ?aS_FIGURES ?aS_LETTERS ?aS_TOP ?q1 ?q2 ?q3 ?q4 ?q5 ?q6 ?q7 ?q8 ?q9 ?q10 ?q11 ?pg_Draft ?hd_Draft ?po_Draft ?sa_Draft ?mk_Draft ?kc_Draft ?n_Draft_names ?n_Draft_rows ?n_Draft_sides ?n_Draft_caps ?n_Draft_prices ?ly_NoText ?ty_NoText ?ky_NoText ?sy_NoText ?xy_NoText ?gy_NoText ?hy_NoText ?RD_LayError ?FC_LayError ?SP_LayError ?n_NoText_line ?a_Draft___init__ ?i_Draft___init__ ?l_Draft___init__ ?c_Draft___init__ ?k_Draft___init__ ?a_Draft_take ?i_Draft_take ?l_Draft_take ?c_Draft_take ?k_Draft_take ?a_Draft_take_names ?i_Draft_take_names ?l_Draft_take_names ?c_Draft_take_names ?k_Draft_take_names ?a_Draft_take_sum ?i_Draft_take_sum ?l_Draft_take_sum ?c_Draft_take_sum ?k_Draft_take_sum ?a_Draft_whole ?i_Draft_whole ?l_Draft_whole ?c_Draft_whole ?k_Draft_whole ?a_NoText___init__ ?i_NoText___init__ ?l_NoText___init__ ?c_NoText___init__ ?k_NoText___init__
  (case a1|l1|c_1|k1|a2|l2|c_2|k2|a3|l3|c_3|k3|a4|l4|c_4|k4|a5|l5|c_5|k5|a6|l6|c_6|k6|a7|l7|c_7|k7|a8|l8|c_8|k8|a9|l9|c_9|k9|a10|l10|c_10|k10|a11|l11|c_11|k11|a12|l12|c_12|k12|a13|l13|c_13|k13|a14|l14|c_14|k14|a15|l15|c_15|k15|a16|l16|c_16|k16|a17|l17|c_17|k17|a18|l18|c_18|k18|a19|l19|c_19|k19|a20|l20|c_20|k20|a21|l21|c_21|k21|a22|l22|c_22|k22|a23|l23|c_23|k23|a24|l24|c_24|k24|a25|l25|c_25|k25|a26|l26|c_26|k26|a27|l27|c_27|k27|z1|z2|z3|z4|z5|z6|z7|z8|z9|z10|z11|z12|z13|z14|z15|z16|aD_NoAnswer|aD_LayError|aD_NoLay|aD_NoLine|aD_NoText|aD_TooMany|aD_Draft|aS_FIGURES|aS_LETTERS|aS_TOP=>(try unfold L2.FnL);k_is)
  (case pg_Draft|hd_Draft|po_Draft|sa_Draft|mk_Draft|kc_Draft|n_Draft_names|n_Draft_rows|n_Draft_sides|n_Draft_caps|n_Draft_prices|ly_NoText|ky_NoText|sy_NoText|gy_NoText|hy_NoText|RD_LayError|FC_LayError|SP_LayError|n_NoText_line|a_Draft___init__|i_Draft___init__|l_Draft___init__|c_Draft___init__|k_Draft___init__|a_Draft_take|i_Draft_take|l_Draft_take|c_Draft_take|k_Draft_take|a_Draft_take_names|i_Draft_take_names|l_Draft_take_names|c_Draft_take_names|k_Draft_take_names|a_Draft_take_sum|i_Draft_take_sum|l_Draft_take_sum|c_Draft_take_sum|k_Draft_take_sum|a_Draft_whole|i_Draft_whole|l_Draft_whole|c_Draft_whole|k_Draft_whole|a_NoText___init__|i_NoText___init__|l_NoText___init__|c_NoText___init__|k_NoText___init__=>(try unfold L2.FnL);k_is)
  (case q1|q2|q3|q4|q5|q6|q7|q8|q9|q10|q11|ty_NoText|xy_NoText=>first|k_is|kernel_rfl|rfl)
#print axioms PySem.Challenge.cw_leastlays_k44_system_lines_refused_holds
