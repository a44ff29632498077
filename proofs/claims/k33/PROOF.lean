import PyProof.Rows.All
import Wide.All
import OpenK.AllK
import Wide.FinOn
import Lean
import PyProof.EqAt
import PyProof.EqKinds
import PyProof.TupleCall
import PyProof.ZipIter
import PyProof.ExcArgsOwn
import PyProof.ExcAttrAll.ValueError
import KE.KSortTup
import PyProof.AutoSeq1
import PySem.SetTable
import PyProof.SetNew
import PyProof.TupleKey
import PyProof.DictRoadsH
import PyProof.DictKinds
import PyProof.IsRules
import PyProof.Rows.SetFrom
import PyProof.WalksMore
import KE.KDictSum
import KE.KDictOf
import PyProof.AttrMissHeap
import PyProof.TupleOfSeq
import PyProof.MeetsStr
import PyProof.MeetsStr2
import PyProof.StrLawsJoin
import PyProof.StrLawsChain
import PyProof.Rows.StrItems
import KE.KIntText
import PyProof.Rows.ReprOcc
import PyProof.StrWalks
import PyProof.CallType
import PyProof.StrOps
import PyProof.StrLawsIn
import PySem.Challenge.RW_leastlays_k33_narrowed_by_a_row
set_option compiler.extract_closed false
set_option bootstrap.genMatcherCode false
set_option genSizeOf false
set_option Elab.async false
set_option linter.all false
set_option maxRecDepth 100000
set_option maxHeartbeats 4000000
abbrev LLI:=List (List Int)
namespace L2
open PySem PySem.Spec PyProof.Rows
abbrev Key:=Sum Int Str
noncomputable def a3x:Key->Value->Bool
 |.inl k,v=>Value.isInt k v
 |.inr x,v=>Value.isStrOf x v
noncomputable def b7S(w:World):Key->Int
 |.inl k=>hashInt k
 |.inr x=>hashStr w x
theorem C5:∀{k:Key}{v:Value},a3x k v=true->(∃i t,k=Sum.inl i/\v=Value.int i t)∨(∃x t,k=Sum.inr x/\v=Value.str x t)
 |.inl i,v,h=>by
  obtain⟨t,e⟩:=Value.isInt_shape (k:=i) (v:=v) h;exact .inl ⟨i,t,rfl,e⟩
 |.inr x,v,h=>by
  obtain⟨t,e⟩:=Value.isStrOf_shape (x:=x) (v:=v) h;exact .inr ⟨x,t,rfl,e⟩
theorem a9g(i:Int)(t:Tok):a3x (.inl i) (.int i t)=true:=by simp[a3x,Value.isInt]
theorem a9f(x:Str)(t:Tok):a3x (.inr x) (.str x t)=true:=by simp[a3x,Value.isStrOf]
theorem b6j(a b:Int):decide ((Sum.inl a:Key)=Sum.inl b)=(a==b):=by
 by_cases e:a=b
 .subst e;simp
 .have h:¬(Sum.inl a:Key)=Sum.inl b:=λq=>e (Sum.inl.inj q);rw[decide_eq_false h];exact(beq_eq_false_iff_ne.mpr e).symm
theorem b6g(a b:Str):decide ((Sum.inr a:Key)=Sum.inr b)=decide (a=b):=by
 by_cases e:a=b
 .subst e;simp
 .have h:¬(Sum.inr a:Key)=Sum.inr b:=λq=>e (Sum.inr.inj q);rw[decide_eq_false h,decide_eq_false e]
theorem b6i(a:Int)(b:Str):decide ((Sum.inl a:Key)=Sum.inr b)=false:=decide_eq_false (λq=>nomatch q)
theorem b6h(a:Str)(b:Int):decide ((Sum.inr a:Key)=Sum.inl b)=false:=decide_eq_false (λq=>nomatch q)
noncomputable def D5(prog:Program)(w:World):PySem.KeyKind prog w Key where
 is:=a3x
 hash:=b7S w
 inj:=λv a b ha hb=>by
  rcases C5 ha with⟨i,t,rfl,rfl⟩|⟨x,t,rfl,rfl⟩
  .rcases C5 hb with⟨j,u,rfl,e⟩|⟨y,u,rfl,e⟩
   .injection e with e1 _;rw[e1]
   .exact nomatch e
  .rcases C5 hb with⟨j,u,rfl,e⟩|⟨y,u,rfl,e⟩
   .exact nomatch e
   .injection e with e1 _;rw[e1]
 byValue:=λk v h=>by
  rcases C5 h with⟨i,t,rfl,rfl⟩|⟨x,t,rfl,rfl⟩<;>rfl
 pyHash:=λhv h=>by
  rcases C5 hv with⟨i,t,rfl,rfl⟩|⟨x,t,rfl,rfl⟩
  .exact wpAny_pyHash_int h
  .exact wpAny_pyHash_str h
 eqBool:=λhu hv h=>by
  rcases C5 hu with⟨i,t,rfl,rfl⟩|⟨x,t,rfl,rfl⟩
  .rcases C5 hv with⟨j,u,rfl,rfl⟩|⟨y,u,rfl,rfl⟩
   .rw[b6j]at h;exact wpAny_eqBool_int h
   .rw[b6i]at h;exact SeqAt.EqAt.int_str i t y u _ _ _ _ h
  .rcases C5 hv with⟨j,u,rfl,rfl⟩|⟨y,u,rfl,rfl⟩
   .rw[b6h]at h;exact SeqAt.EqAt.str_int x t j u _ _ _ _ h
   .rw[b6g]at h;exact wpAny_eqBool_str h
 «strs»:=λk x t v h=>by
  rcases C5 h with⟨i,u,rfl,e⟩|⟨y,u,rfl,e⟩
  .exact nomatch e
  .injection e with e1 _
   subst e1;cases v<;>rfl
theorem a5D(prog:Program)(w:World)(i:Int)(t:Tok):(D5 prog w).is (.inl i) (.int i t)=true:=a9g i t
theorem a5C(prog:Program)(w:World)(x:Str)(t:Tok):(D5 prog w).is (.inr x) (.str x t)=true:=a9f x t
inductive V where
 |non|bl (b:Bool)|int (i:Int)|str (x:Str)|byt (b:Array UInt8)|flt (b:UInt64)|ref (a:Addr)|ty (n:String)
 deriving DecidableEq
def RelV:V->Value->Prop
 |.non,u=>u=Value.none
 |.bl b,u=>u=Value.bool b
 |.int i,u=>∃t,u=Value.int i t
 |.str x,u=>∃t,u=Value.str x t
 |.byt b,u=>∃t,u=Value.bytes b t
 |.flt b,u=>∃t,u=Value.float b t
 |.ref a,u=>u=Value.ref a
 |.ty n,u=>u=Value.type n
abbrev Vals:List V->List Value->Prop:=Paired RelV
theorem Vals.length{xs:List V}{us:List Value}(r:Vals xs us):xs.length=us.length:=Paired.length r
theorem Vals.get:∀{xs:List V}{us:List Value}{i:Nat}{x:V},Vals xs us->xs[i]?=some x->∃u,us[i]?=some u/\RelV x u
 |_,_,_,_,.nil,e=>by simp at e
 |_,_,0,_,.cons r _,e=>by simp at e;subst e;exact⟨_,rfl,r⟩
 |_,_,i+1,x,.cons _ t,e=>by
  obtain⟨u,h1,h2⟩:=Vals.get (i:=i) (x:=x) t (by simpa using e);exact⟨u,by simpa using h1,h2⟩
theorem Vals.set{x:V}{u:Value}(r:RelV x u):∀{xs:List V}{us:List Value}(i:Nat),Vals xs us->Vals (xs.set i x) (us.set i u)
 |_,_,_,.nil=>.nil
 |_,_,0,.cons _ t=>.cons r t
 |_,_,i+1,.cons q t=>.cons q (Vals.set r i t)
theorem Vals.append:∀{xs ys:List V}{us a:List Value},Vals xs us->Vals ys a->Vals (xs++ys) (us++a)
 |_,_,_,_,.nil,s=>s
 |_,_,_,_,.cons r t,s=>.cons r (Vals.append t s)
theorem Vals.take:∀{xs:List V}{us:List Value}(n:Nat),Vals xs us->Vals (xs.take n) (us.take n)
 |_,_,0,_=>.nil
 |_,_,_+1,.nil=>.nil
 |_,_,n+1,.cons r t=>.cons r (Vals.take n t)
theorem Vals.drop:∀{xs:List V}{us:List Value}(n:Nat),Vals xs us->Vals (xs.drop n) (us.drop n)
 |_,_,0,r=>r
 |_,_,_+1,.nil=>.nil
 |_,_,n+1,.cons _ t=>Vals.drop n t
def RelO:Option V->Option Value->Prop
 |some v,some u=>RelV v u
 |none,none=>True
 |_,_=>False
def KV{κ:Type}:List (κ×V)->List (κ×Value)->Prop:=Paired λ(p:κ×V) (q:κ×Value)=>p.1=q.1/\RelV p.2 q.2
noncomputable def kV:Key->V
 |.inl i=>.int i
 |.inr x=>.str x
inductive HO where
 |lst (xs:List V)
 |tup (xs:List V)
 |dK (kvs:List (Key×V))|dT (kvs:List (List Key×V))
 |set (S:Int->Bool) (n:Nat)
 |ins (C dx:Addr) (fs:List (Str×V))
 |own (x:Addr)
 |xd (fs:List (Str×V))
 |met (f x:Addr)
 |rng (lo hi:Int)
 |frz (o:Obj) (u:HO)
 |tbl (ps:Array Value)
 |ext (φ:Heap->Prop)
abbrev Hp:=Addr->Option HO
noncomputable def upd(H:Hp)(a:Addr)(o:HO):Hp:=λb=>if b=a then some o else H b
theorem A0{H:Hp}{a:Addr}{o:HO}:upd H a o a=some o:=by unfold upd;rw[if_pos rfl]
theorem A2{H:Hp}{a b:Addr}{o:HO}(h:b≠a):upd H a o b=H b:=by unfold upd;rw[if_neg h]
theorem a3W{H:Hp}{a:Addr}{o u:HO}:upd (upd H a o) a u=upd H a u:=by
 funext b;unfold upd;split<;>rfl
theorem G5{H:Hp}{a b:Addr}{o u:HO}(h:H a=some o)(h':H b=some u)(d:o≠u):a≠b:=by
 intro e;subst e;rw[h]at h';exact d (Option.some.inj h')
theorem A5{H:Hp}{a b:Addr}{o:HO}(h:H a=some o)(h':H b=none):a≠b:=by
 intro e;subst e;rw[h]at h';cases h'
section
variable (P:Program) (w:World)
def ObjOk(H:Hp)(h:Heap)(a:Addr):HO->Prop
 |.lst xs=>xs.length<=sizeLine/\∃(its:List Value) (n:Nat),Vals xs its/\h.get? a=some {cls:=.type "list",data:=.seq its.toArray n}
 |.tup xs=>xs.length<=sizeLine/\∃its:List Value,Vals xs its/\IsTup h a its.toArray
 |.dK kvs=>kvs.length<=sizeLine/\(a==sysModules)=false/\∃vs,KV kvs vs/\h.DictOf (D5 P w) a vs
 |.dT kvs=>kvs.length<=sizeLine/\(a==sysModules)=false/\∃xs:List (List Key×Addr×Value),
   Paired (λ(p:List Key×V) (q:List Key×Addr×Value)=>p.1=q.1/\H q.2.1=some (.tup (p.1.map kV))/\RelV p.2 q.2.2) kvs xs /\
   ∃o es ep,h.get? a=some o/\o.ExactDict/\o.data=.dict es ep/\es.toList=xs.map (entryOfKey (tupleKind (D5 P w)))/\(xs.map (·.1)).Nodup
 |.set S n=>h.SetOf (intKind P w) a S n
 |.ins C dx fs=>H dx=some (.own a)/\fs.length<=1000/\dx≠a/\h.get? a=some (PySem.W.instObj C dx) /\
   ∃mA,h.Ns1 dx mA/\(∀f,RelO (fs.lookup f) (mA f))/\PySem.Within mA (fs.map (·.1))
 |.own _=>∃o,h.get? a=some o
 |.xd fs=>∃mA,h.Ns1 a mA/\∀f,RelO (fs.lookup f) (mA f)
 |.rng lo hi=>∃t u v,h.get? a=some {cls:=.type "range",data:=.fields #[.int lo t,.int hi u,.int 1 v]}
 |.frz o u=>h.get? a=some o/\ObjOk H h a u
 |.tbl ps=>h.get? a=some {cls:=.none,data:=.fields ps}
 |.met f x=>h.get? a=some (PySem.W.methodObj (.ref f) (.ref x))
 |.ext φ=>φ h/\(∃o,h.get? a=some o)/\∀h1 h2:Heap,φ h1->(∀o,h1.get? a=some o->h2.get? a=some o)->φ h2
def HOk(H:Hp)(h:Heap):Prop:=∀a o,H a=some o->ObjOk P w H h a o
end
section
variable {P:Program}{w:World}{H H':Hp}{h h':Heap}{a:Addr}{o:HO}
theorem ObjOk.lt(x:ObjOk P w H h a o):a<h.objs.size:=by
 cases o with
 |lst xs=>obtain⟨_,_,_,_,e⟩:=x;exact Heap.lt_size e
 |tup xs=>obtain⟨_,_,_,p⟩:=x;exact p.lt
 |dK kvs=>obtain⟨_,_,_,_,o,_,_,e,_⟩:=x;exact Heap.lt_size e
 |dT kvs=>obtain⟨_,_,_,_,o,_,_,e,_⟩:=x;exact Heap.lt_size e
 |set S n=>obtain⟨o,_,_,_,e,_⟩:=x;exact Heap.lt_size e
 |ins C dx fs=>obtain⟨_,_,_,e,_⟩:=x;exact Heap.lt_size e
 |own y=>obtain⟨_,e⟩:=x;exact Heap.lt_size e
 |xd fs=>obtain⟨_,⟨_,_,_,e,_⟩,_⟩:=x;exact Heap.lt_size e
 |rng lo hi=>obtain⟨_,_,_,e⟩:=x;exact Heap.lt_size e
 |frz ob u=>obtain⟨e,_⟩:=x;exact Heap.lt_size e
 |tbl ps=>exact Heap.lt_size (show h.get? a=some _ from x)
 |met f y=>exact Heap.lt_size (show h.get? a=some _ from x)
 |ext φ=>obtain⟨_,⟨_,e⟩,_⟩:=x;exact Heap.lt_size e
theorem Paired.mapP{α β:Type}{F G:α->β->Prop}:∀{l₁:List α}{l₂:List β},Paired F l₁ l₂->(∀a b,F a b->G a b)->Paired G l₁ l₂
 |_,_,.nil,_=>.nil
 |_,_,.cons r t,f=>.cons (f _ _ r) (Paired.mapP t f)
theorem ObjOk.stay(x:ObjOk P w H h a o)(k:∀b u,(b=a∨H b=some (.own a))->h.get? b=some u->h'.get? b=some u)
  (j:∀b,H b=some (.own a)->H' b=some (.own a)) (ht:∀b xs,H b=some (.tup xs)->H' b=some (.tup xs)):ObjOk P w H' h' a o:=by
 induction o with
 |lst xs=>obtain⟨z,its,n,r,e⟩:=x;exact⟨z,its,n,r,k _ _ (.inl rfl) e⟩
 |tup xs=>obtain⟨z,its,r,g,e,c⟩:=x;exact⟨z,its,r,g,k _ _ (.inl rfl) e,c⟩
 |dK kvs=>obtain⟨z,y,vs,r,g,es,ep,e,c⟩:=x;exact⟨z,y,vs,r,g,es,ep,k _ _ (.inl rfl) e,c⟩
 |dT kvs =>
  obtain⟨z,y,xs,r,g,es,ep,e,c⟩:=x;exact⟨z,y,xs,Paired.mapP r λp q z=>⟨z.1,ht _ _ z.2.1,z.2.2⟩,g,es,ep,k _ _ (.inl rfl) e,c⟩
 |set S n=>obtain⟨g,es,ep,t,e,c⟩:=x;exact⟨g,es,ep,t,k _ _ (.inl rfl) e,c⟩
 |ins C dx fs =>
  obtain⟨d,z,ne,e,mA,⟨od,es,ep,i,c⟩,r⟩:=x;exact⟨j _ d,z,ne,k _ _ (.inl rfl) e,mA,⟨od,es,ep,k _ _ (.inr d) i,c⟩,r⟩
 |own y=>obtain⟨g,e⟩:=x;exact⟨g,k _ _ (.inl rfl) e⟩
 |xd fs=>obtain⟨mA,⟨od,es,ep,e,c⟩,r⟩:=x;exact⟨mA,⟨od,es,ep,k _ _ (.inl rfl) e,c⟩,r⟩
 |rng lo hi=>obtain⟨t,u,v,e⟩:=x;exact⟨t,u,v,k _ _ (.inl rfl) e⟩
 |frz g u ih=>obtain⟨e,q⟩:=x;exact⟨k _ _ (.inl rfl) e,ih q⟩
 |tbl ps =>
  have e:h.get? a=some {cls:=.none,data:=.fields ps}:=x;show h'.get? a=some {cls:=.none,data:=.fields ps};exact k a _ (.inl rfl) e
 |met f y =>
  have e:h.get? a=some (PySem.W.methodObj (.ref f) (.ref y)):=x;show h'.get? a=some (PySem.W.methodObj (.ref f) (.ref y));exact k a _ (.inl rfl) e
 |ext φ=>obtain⟨p,⟨o,e⟩,st⟩:=x;exact⟨st _ _ p λo q=>k _ _ (.inl rfl) q,⟨o,k _ _ (.inl rfl) e⟩,st⟩
theorem HOk.lt(x:HOk P w H h)(e:H a=some o):a<h.objs.size:=(x a o e).lt
theorem HOk.fresh(x:HOk P w H h)(e:h.objs.size<=a):H a=none:=by
 cases q:H a with
 |none=>rfl
 |some u=>exact absurd (Nat.lt_of_lt_of_le (x.lt q) e) (Nat.lt_irrefl _)
theorem HOk.kept(x:HOk P w H h)(k:∀b u,h.get? b=some u->h'.get? b=some u):HOk P w H h':=λa o e =>
 (x a o e).stay (λb u _ q=>k b u q) (λ_ q=>q) λ_ _ q=>q
theorem HOk.laid(x:HOk P w H h)(k:∀b u,h.get? b=some u->h'.get? b=some u)(hp:h.objs.size<=a)(new:ObjOk P w (upd H a o) h' a o):HOk P w (upd H a o) h':=λb u e=>by
 have f:=x.fresh hp;by_cases d:b=a
 .subst d;rw[A0]at e;cases e;exact new
 .rw[A2 d]at e;exact(x b u e).stay (λc v _ q=>k c v q) (λc q=>by rw[A2 (A5 q f)];exact q) λc xs q=>by rw[A2 (A5 q f)];exact q
end
def Rd(H:Hp)(a:Addr)(u:HO):Prop:=H a=some u∨∃o,H a=some (.frz o u)
theorem Rd.ok{P:Program}{w:World}{H:Hp}{h:Heap}{a:Addr}{u:HO}(r:Rd H a u)(x:HOk P w H h):ObjOk P w H h a u:=by
 rcases r with r|⟨o,r⟩
 .exact x a u r
 .obtain⟨_,q⟩:=x a _ r;exact q
def Mut:Option HO->Prop
 |some (.lst _)=>True
 |some (.dK _)=>True
 |some (.dT _)=>True
 |some (.set _ _)=>True
 |some (.ins _ _ _)=>True
 |some (.ext _)=>True
 |_=>False
section
variable {P:Program}{w:World}{H:Hp}{h h':Heap}{x e:Addr}{o':HO}
theorem HOk.write(ok:HOk P w H h)(g:Mut (H x))(l:e=x∨H e=some (.own x))(k:∀b u,b≠e->h.get? b=some u->h'.get? b=some u)(j:∃u,h'.get? e=some u)
  (new:ObjOk P w (upd H x o') h' x o'):HOk P w (upd H x o') h':=λb u q=>by
 have d:∀c y,H c=some (.own y)->c≠x:=λc y r z=>by subst z;rw[r]at g;exact g
 have f:∀c xs,H c=some (.tup xs)->c≠x:=λc xs r z=>by subst z;rw[r]at g;exact g
 by_cases i:b=x
 .subst i;rw[A0]at q;cases q;exact new
 .rw[A2 i]at q;by_cases a:b=e
  .have q':H b=some (.own x):=by
    rcases l with z|z
    .exact absurd (a.trans z) i
    .rw[a];exact z
   rw[q]at q';cases q';obtain⟨v,m⟩:=j;exact⟨v,by rw[a];exact m⟩
  .refine(ok b u q).stay (λc v hc r=>k c v ?_ r) (λc r=>by rw[A2 (d c b r)];exact r) λc xs r=>by rw[A2 (f c xs r)];exact r
   rcases hc with rfl|hc
   .exact a
   .rintro rfl;rcases l with z|z
    .exact d c b hc z
    .rw[hc]at z;cases z;exact i rfl
end
structure Un(fs ex:List Addr)(H H':Hp)(h h':Heap):Prop where
 keep:∀b o,h.get? b=some o->H b=none->b∉fs->b∉ex->h'.get? b=some o
 slot:∀b o,h.get? b=some o->H b=none->b∈fs->b∉ex->∃sl,h'.get? b=some {o with slots:=sl}
 free:∀b o,h.get? b=some o->H b=none->b∉ex->H' b=none
 there:∀b o,h.get? b=some o->b∉ex->∃o',h'.get? b=some o'
 tups:∀b xs,H b=some (.tup xs)->H' b=some (.tup xs)
 frzs:∀b o u,H b=some (.frz o u)->H' b=some (.frz o u)
 tbls:∀b ps,H b=some (.tbl ps)->∃more,H' b=some (.tbl (ps++more))
section
variable {fs fs' ex ex':List Addr}{H H1 H2:Hp}{h h1 h2 h':Heap}{a x e:Addr}{o:HO}
theorem Un.any(u:Un fs ex H H1 h h1){b:Addr}{a:Obj}(q:h.get? b=some a)(n:H b=none)(c:b∉ex):∃sl,h1.get? b=some {a with slots:=sl}:=by
 by_cases d:b∈fs
 .exact u.slot b a q n d c
 .exact⟨a.slots,u.keep b a q n d c⟩
theorem Un.kept(k:∀b u,h.get? b=some u->h'.get? b=some u):Un fs ex H H h h' :=
 ⟨λb a q _ _ _=>k b a q,λb a q _ _ _=>⟨a.slots,k b a q⟩,λ_ _ _ n _=>n,λb a q _=>⟨a,k b a q⟩,λ_ _ q=>q,λ_ _ _ q=>q,λ_ ps q=>⟨#[],by rw[q];simp⟩⟩
theorem Un.refl:Un fs ex H H h h:=Un.kept λ_ _ q=>q
theorem Un.laid(k:∀b u,h.get? b=some u->h'.get? b=some u)(hp:h.objs.size<=a)(c:H a=none):Un fs ex H (upd H a o) h h' where
 keep:=λb u q _ _ _=>k b u q
 slot:=λb u q _ _ _=>⟨u.slots,k b u q⟩
 free:=λb u q n _=>by rw[A2 (Nat.ne_of_lt (Nat.lt_of_lt_of_le (Heap.lt_size q) hp))];exact n
 there:=λb u q _=>⟨u,k b u q⟩
 tups:=λb xs q=>by rw[A2 (A5 q c)];exact q
 frzs:=λb u xs q=>by rw[A2 (A5 q c)];exact q
 tbls:=λb ps q=>⟨#[],by rw[A2 (A5 q c),q];simp⟩
theorem Un.write(c:Mut (H x))(j:e=x∨H e=some (.own x))(k:∀b u,b≠e->h.get? b=some u->h'.get? b=some u)(f:∃u,h'.get? e=some u):Un fs ex H (upd H x o) h h':=by
 have i:∀b,H b=none->b≠x:=λb n z=>by subst z;rw[n]at c;exact c
 have g:∀b,H b=none->b≠e:=λb n z=>by
  subst z;rcases j with r|r
  .exact i b n r
  .rw[n]at r;cases r
 have d:∀b u,H b=some u->¬Mut (some u)->b≠x:=λb u q nm z=>by subst z;rw[q]at c;exact nm c
 refine⟨λb u q n _ _=>k b u (g b n) q,λb u q n _ _=>⟨u.slots,k b u (g b n) q⟩,λb u q n _=>by rw[A2 (i b n)];exact n,λb u q _=>?_,
  λb xs q=>by rw[A2 (d b _ q λz=>z)];exact q,λb u xs q=>by rw[A2 (d b _ q λz=>z)];exact q,λb ps q=>⟨#[],by rw[A2 (d b _ q λz=>z),q];simp⟩⟩
 by_cases a:b=e
 .subst a;exact f
 .exact⟨u,k b u a q⟩
end
noncomputable def trk(h:Heap)(H:Hp):List Addr:=(List.range h.objs.size).filter λa=>(H a).isSome
noncomputable def a4F(h:Heap)(H:Hp):Heap:=PySem.W.hideAll h (trk h H)
theorem a9l(h:Heap)(H:Hp):(a4F h H).objs.size=h.objs.size:=PySem.W.hideAll_size _ _
theorem b2c{h:Heap}{H:Hp}{b:Addr}{o:Obj}(e:h.get? b=some o)(n:H b=none):(a4F h H).get? b=some o :=
 PySem.W.hideAll_get _ e λa=>by
  have q:(H b).isSome=true:=(List.mem_filter.mp a).2;rw[n]at q;simp at q
theorem b3T{h:Heap}{H:Hp}{b:Addr}{o:Obj}(e:(a4F h H).get? b=some o):h.get? b=some o/\H b=none:=by
 have a:h.get? b=some o:=PySem.W.of_hideAll (trk h H) e;refine⟨a,?_⟩;cases q:H b with
 |none=>rfl
 |some x =>
  have c:b∈trk h H:=List.mem_filter.mpr ⟨List.mem_range.mpr (Heap.lt_size a),by simp[q]⟩;have z:(a4F h H).get? b=none:=PySem.W.hideAll_none (trk h H) c;rw[z]at e;cases e
noncomputable def b4x(g h:Heap)(L:Addr):List (Addr×Obj):=(List.range h.objs.size).filterMap λa=>if a=L∨(g.get? a).isSome=true then none else(h.get? a).map λo=>(a,o)
noncomputable def rest(g h:Heap)(L d:Addr):List (Addr×Obj):=(b4x g h L).filter λp=>decide (p.1≠d)
structure Mod(K:PySem.W.Frag)(mg:Str->Option Value)(base:Heap):Prop where
 kin:K.In base
 glob:base.Ns mainGlobals mg
 blt:∃mb,base.Ns builtinsNs mb/\∀x:Str,x≠"__name__"->mb x=bootBuiltins x
 nolimit:base.NoLimit
structure Cx where
 prog:Program
 w:World
 K:PySem.W.Frag
 mg:Str->Option Value
 base:Heap
 A:Around
 N:List Str
 s₀:Shared
 H₀:Hp
 env:Env
 outer:List Env
 stack:List Env
 ex:List Addr
 fn:Str->Bool
 calm:Bool
 pn:List (Addr×Obj)
 xe:Value->Shared->Prop
noncomputable def frs(l:List Env):List Addr:=l.filterMap (·.frame)
noncomputable abbrev Cx.fs(X:Cx):List Addr:=frs X.outer
def Vis(sc:Scope)(x:Str):Prop:=sc.names.lookup x=some .local∨sc.names.lookup x=some .cell∨sc.names.lookup x=some .free
def Loc(sc:Scope)(x:Str):Prop:=sc.names.lookup x=some .local∨sc.names.lookup x=some .cell
def b8a(env:Env)(h:Heap)(m:Str->Option Value)(x:Str)(u:Value):Prop :=
 (env.kindOf x=some .local/\m x=some u)∨((env.kindOf x=some .cell∨env.kindOf x=some .free)/\∃c,env.cells.lookup x=some c/\h.IsCell c (some u))
structure Cx.Ok(X:Cx):Prop where
 mod:Mod X.K X.mg X.base
 kind:X.env.scope.kind=.function
 glob:X.env.globals=mainGlobals
 blt:X.env.builtins=builtinsNs
 above:X.s₀.heap.objs.size<=X.env.locals
 inj:∀x y c,X.env.cells.lookup x=some c->X.env.cells.lookup y=some c->x=y
 has:∀x,(X.env.kindOf x=some .cell∨X.env.kindOf x=some .free)->∃c,X.env.cells.lookup x=some c
 cab:∀x c,X.fn x=true->X.env.cells.lookup x=some c->X.s₀.heap.objs.size<=c
 hd:X.calm=true->X.A.handled=none
 frames:X.A.frames=some X.stack
 stk:X.stack=X.outer∨(X.stack=X.env::X.outer/\X.env.frame=some X.env.locals)
 exf:∀b∈X.ex,b≠X.env.locals/\∀x c,X.env.cells.lookup x=some c->c≠b
 bs:∀b o,X.base.get? b=some o->X.s₀.heap.get? b=some o/\X.H₀ b=none
 bsz:X.base.objs.size<=X.s₀.heap.objs.size
 noex:∀b o,X.base.get? b=some o->b∉X.ex
 exfs:∀b∈X.ex,b∉X.fs
 funs:X.s₀.heap.FunFrames X.base X.outer
 frf:∀b∈X.fs,X.H₀ b=none
structure Inv(X:Cx)(pins:List (Addr×Obj))(σ:List (Option V))(H:Hp)(s:Shared):Prop where
 ok:X.Ok
 os:s.os=X.s₀.os
 bare:AllBare s.gens
 base:Un X.fs X.ex X.H₀ H X.s₀.heap s.heap
 loc:∃m,s.heap.Ns X.env.locals m/\∀(i:Nat) (x:Str) (v:V),X.N[i]?=some x->σ[i]?=some (some v)->Vis X.env.scope x->∃u,RelV v u/\b8a X.env s.heap m x u
 cell:∀x c,X.env.cells.lookup x=some c->∃v,s.heap.IsCell c v
 free:H X.env.locals=none
 freeC:∀x c,X.env.cells.lookup x=some c->H c=none
 pin:∀p∈X.pn++pins,s.heap.get? p.1=some p.2/\H p.1=none/\p.1≠X.env.locals/\p.1∉X.fs/\∀v,p.2.data≠.cell v
 hok:HOk X.prog X.w H s.heap
 len:σ.length=X.N.length
section
variable {X:Cx}{pins:List (Addr×Obj)}{σ:List (Option V)}{H H':Hp}{s:Shared}{h':Heap}
theorem Cx.Ok.nofr(ok:X.Ok){b:Addr}{o:Obj}(e:X.base.get? b=some o):b∉X.fs:=λa=>by
 have:=(ok.funs.mem a).1;rw[e]at this;cases this
theorem Inv.bs(I:Inv X pins σ H s):∀b o,X.base.get? b=some o->s.heap.get? b=some o/\H b=none:=λb o e =>
 ⟨I.base.keep b o (I.ok.bs b o e).1 (I.ok.bs b o e).2 (I.ok.nofr e) (I.ok.noex b o e),I.base.free b o (I.ok.bs b o e).1 (I.ok.bs b o e).2 (I.ok.noex b o e)⟩
theorem Inv.bk(I:Inv X pins σ H s):∀b o,X.base.get? b=some o->s.heap.get? b=some o:=λb o e=>(I.bs b o e).1
theorem Inv.mod(I:Inv X pins σ H s):Mod X.K X.mg X.base:=I.ok.mod
theorem Inv.kIn(I:Inv X pins σ H s):X.K.In s.heap:=I.ok.mod.kin.keeps I.bk
theorem Inv.lt(I:Inv X pins σ H s):X.env.locals<s.heap.objs.size:=let ⟨_,hn,_⟩:=I.loc;hn.lt
theorem Inv.sz(I:Inv X pins σ H s):X.s₀.heap.objs.size<=s.heap.objs.size:=Nat.le_trans I.ok.above (Nat.le_of_lt I.lt)
theorem Inv.nofs(I:Inv X pins σ H s){a:Addr}(h:s.heap.objs.size<=a):a∉X.fs:=λc=>by
 obtain⟨_,o,b,_⟩:=I.ok.funs.mem c;exact absurd (Nat.lt_of_lt_of_le (Heap.lt_size b) (Nat.le_trans I.sz h)) (Nat.lt_irrefl _)
theorem Inv.cne(I:Inv X pins σ H s):∀x c,X.env.cells.lookup x=some c->c≠X.env.locals:=λx c e z=>by
 obtain⟨v,o,d,hd⟩:=I.cell x c e;obtain⟨m,⟨o',es,ep,b,a,_⟩,_⟩:=I.loc;rw[z,b]at d;cases d;rw[a]at hd;cases hd
theorem Inv.funs(I:Inv X pins σ H s):s.heap.FunFrames X.base X.outer:=by
 have all:∀(l:List Env),(∀b∈frs l,b∈X.fs)->X.s₀.heap.FunFrames X.base l->s.heap.FunFrames X.base l:=by
  intro l;induction l with
  |nil=>intro _ _;trivial
  |cons env r ih =>
   intro hs hl;obtain⟨c,⟨L,o,hf,f,d,hd⟩,hr⟩:=hl;have hL:L∈X.fs:=hs L (by unfold frs;rw[List.filterMap_cons,hf];exact List.mem_cons_self);obtain⟨sl,e⟩:=I.base.slot L o d (I.ok.frf L hL) hL λz=>I.ok.exfs L z hL;exact⟨c,⟨L,_,hf,f,e,hd⟩,ih (λb a=>hs b (by unfold frs;rw[List.filterMap_cons,hf];exact List.mem_cons_of_mem _ a)) hr⟩
 exact all X.outer (λ_ a=>a) I.ok.funs
theorem Inv.stack(I:Inv X pins σ H s):s.heap.FunFrames X.base X.stack:=by
 rcases I.ok.stk with e|⟨e,hf⟩
 .rw[e];exact I.funs
 .rw[e];obtain⟨m,a,_⟩:=I.loc;refine .cons (by rw[I.ok.kind];decide) hf a ?_ I.funs;exact Heap.get?_none_of_le (Nat.le_trans I.ok.bsz I.ok.above)
theorem Inv.stkSub(I:Inv X pins σ H s):∀b∈frs X.stack,b∈X.env.locals::X.fs:=λb a=>by
 rcases I.ok.stk with e|⟨e,hf⟩
 .rw[e]at a;exact List.mem_cons_of_mem _ a
 .rw[e]at a;unfold frs at a;rw[List.filterMap_cons,hf]at a;exact a
theorem Inv.stkFree(I:Inv X pins σ H s):∀b∈frs X.stack,H b=none:=λb a=>by
 rcases List.mem_cons.mp (I.stkSub b a)with e|a
 .rw[e];exact I.free
 .obtain⟨_,o,ho,_⟩:=I.ok.funs.mem a;exact I.base.free b o ho (I.ok.frf b a) λz=>I.ok.exfs b z a
theorem Inv.step{g':Array GenState}{t':Nat}{d':Drawn}{ch:List Addr}(I:Inv X pins σ H s)
  (f:∀b∈ch,(b∈X.ex∨X.s₀.heap.objs.size<=b)/\b≠X.env.locals/\(∀x c,X.env.cells.lookup x=some c->c≠b)/\∀p∈X.pn++pins,p.1≠b)
  (keep:∀b o,b≠X.env.locals->b∉X.fs->b∉ch->s.heap.get? b=some o->H b=none->h'.get? b=some o)
  (slot:∀b o,b≠X.env.locals->b∈X.fs->b∉ch->s.heap.get? b=some o->H b=none->∃sl,h'.get? b=some {o with slots:=sl}) (free:∀b o,b∉ch->s.heap.get? b=some o->H b=none->H' b=none)
  (there:∀b o,b∉ch->s.heap.get? b=some o->∃o',h'.get? b=some o')
  (tups:∀b xs,H b=some (.tup xs)->H' b=some (.tup xs)) (frzs:∀b o u,H b=some (.frz o u)->H' b=some (.frz o u)) (tbls:∀b ps,H b=some (.tbl ps)->∃more,H' b=some (.tbl (ps++more)))
  (ns:∀m,s.heap.Ns X.env.locals m->h'.Ns X.env.locals m) (hok:HOk X.prog X.w H' h') (E:AllBare g') :
  Inv X pins σ H' {s with heap:=h',gens:=g',drawn:=d',toks:=t'}:=by
 have C:∀b o,X.s₀.heap.get? b=some o->b≠X.env.locals:=λb o e=>Nat.ne_of_lt (Nat.lt_of_lt_of_le (Heap.lt_size e) I.ok.above);have t:∀b o,X.s₀.heap.get? b=some o->b∉X.ex->b∉ch:=λb o e a y=>by
  rcases(f b y).1 with z|z
  .exact a z
  .exact absurd (Nat.lt_of_lt_of_le (Heap.lt_size e) z) (Nat.lt_irrefl _)
 have h:∀x c,X.env.cells.lookup x=some c->∀v,s.heap.IsCell c v->h'.IsCell c v:=λx c e v ⟨o,A,hd⟩=>by
  have g:c∉ch:=λz=>(f c z).2.2.1 x c e rfl;by_cases hc:c∈X.fs
  .obtain⟨sl,q⟩:=slot c o (I.cne x c e) hc g A (I.freeC x c e);exact⟨_,q,hd⟩
  .exact⟨o,keep c o (I.cne x c e) hc g A (I.freeC x c e),hd⟩
 refine⟨I.ok,I.os,E,⟨λb o e n y a=>?_,λb o e n y a=>?_,λb o e n a=>?_,λb o e a=>?_,λb xs e=>tups b xs (I.base.tups b xs e),λb o xs e=>frzs b o xs (I.base.frzs b o xs e),λb ps e=>?_⟩,?_,λx c e=>?_,?_,λx c e=>?_,λp hp=>?_,hok,I.len⟩
 .exact keep b o (C b o e) y (t b o e a) (I.base.keep b o e n y a) (I.base.free b o e n a)
 .obtain⟨sl,j⟩:=I.base.slot b o e n y a;obtain⟨D,B⟩:=slot b _ (C b o e) y (t b o e a) j (I.base.free b o e n a);exact⟨D,B⟩
 .obtain⟨o',j⟩:=I.base.there b o e a;exact free b o' (t b o e a) j (I.base.free b o e n a)
 .obtain⟨o',j⟩:=I.base.there b o e a;exact there b o' (t b o e a) j
 .obtain⟨m1,j⟩:=I.base.tbls b ps e;obtain⟨G,B⟩:=tbls b _ j;exact⟨m1++G,by rw[B,Array.append_assoc]⟩
 .obtain⟨m,hn,hl⟩:=I.loc;refine⟨m,ns m hn,λi x v j B F=>?_⟩;obtain⟨u,r,l⟩:=hl i x v j B F;refine⟨u,r,?_⟩;rcases l with l|⟨k,c,e,z⟩
  .exact .inl l
  .exact .inr ⟨k,c,e,h x c e _ z⟩
 .obtain⟨v,z⟩:=I.cell x c e;exact⟨v,h x c e v z⟩
 .obtain⟨m,⟨o,_,_,A,_⟩,_⟩:=I.loc;exact free _ o (λz=>(f _ z).2.1 rfl) A I.free
 .obtain⟨v,o,A,hd⟩:=I.cell x c e;exact free c o (λz=>(f c z).2.2.1 x c e rfl) A (I.freeC x c e)
 .obtain⟨e,n,ne,nf,d⟩:=I.pin p hp;have g:p.1∉ch:=λz=>(f p.1 z).2.2.2 p hp rfl;exact⟨keep p.1 p.2 ne nf g e n,free p.1 p.2 g e n,ne,nf,d⟩
theorem Inv.un{t':Nat}(I:Inv X pins σ H s)(u:Un X.fs [] H H' s.heap h')(hok:HOk X.prog X.w H' h'):Inv X pins σ H' {s with heap:=h',toks:=t'}:=by
 obtain⟨m,⟨o,es,ep,g,r⟩,_⟩:=id I.loc;obtain⟨sl,hL⟩:=u.any g I.free (by simp);exact I.step (g':=s.gens) (d':=s.drawn) (ch:=[]) (λ_ z=>nomatch z) (λb o _ d _ e n=>u.keep b o e n d (by simp)) (λb o _ d _ e n=>u.slot b o e n d (by simp)) (λb o _ e n=>u.free b o e n (by simp)) (λb o _ e=>u.there b o e (by simp)) u.tups u.frzs u.tbls (λm' i=>by
  obtain⟨o',f,c,a,h⟩:=i;rw[g]at a;cases a;exact⟨_,f,c,hL,h⟩) hok I.bare
theorem Inv.call{g':Array GenState}{t':Nat}{d':Drawn}{ch:List Addr}(I:Inv X pins σ H s)(u:Un (frs X.stack) ch H H' s.heap h')(hok:HOk X.prog X.w H' h')(j:AllBare g')
  (a:∀b∈ch,(b∈X.ex∨X.s₀.heap.objs.size<=b)/\b≠X.env.locals/\(∀x c,X.env.cells.lookup x=some c->c≠b)/\∀p∈X.pn++pins,p.1≠b) :
  Inv X pins σ H' {s with heap:=h',gens:=g',drawn:=d',toks:=t'}:=by
 obtain⟨m,⟨o,es,ep,h,r⟩,_⟩:=id I.loc;obtain⟨sl,hL⟩:=u.any h I.free λz=>(a _ z).2.1 rfl;exact I.step (ch:=ch) a (λb o hL k hc e n=>u.keep b o e n (λz=>(List.mem_cons.mp (I.stkSub b z)).elim hL k) hc) (λb o _ _ hc e n=>u.any e n hc) (λb o hc e n=>u.free b o e n hc) (λb o hc e=>u.there b o e hc) u.tups u.frzs u.tbls (λm' l=>by
  obtain⟨o',g,f,d,i⟩:=l;rw[h]at d;cases d;exact⟨_,g,f,hL,i⟩) hok j
theorem Inv.turned{t':Nat}{it:Addr}(I:Inv X pins σ H s)(k:∀b o,b≠it->s.heap.get? b=some o->h'.get? b=some o)(h:H it=none)(hL:it≠X.env.locals)
  (h1:it∈X.ex∨X.s₀.heap.objs.size<=it) (h2:∀x c,X.env.cells.lookup x=some c->c≠it) (d:∀p∈X.pn++pins,p.1≠it):Inv X pins σ H {s with heap:=h',toks:=t'}:=by
 have a:∀b u,H b=some u->b≠it:=λb u e z=>by rw[z,h]at e;cases e
 refine I.step (g':=s.gens) (d':=s.drawn) (ch:=[it]) (λb f=>?_) (λb o _ _ hc e _=>k b o (λz=>hc (by simp[z])) e) (λb o _ _ hc e _=>⟨o.slots,k b o (λz=>hc (by simp[z])) e⟩) (λ_ _ _ _ n=>n)
  (λb o hc e=>⟨o,k b o (λz=>hc (by simp[z])) e⟩) (λ_ _ e=>e) (λ_ _ _ e=>e) (λb ps e=>⟨#[],by rw[e];simp⟩) (λm g=>?_) (λb u e=>?_) I.bare
 .have e:b=it:=by simpa using f
  subst e;exact⟨h1,hL,h2,d⟩
 .obtain⟨o,es,ep,ho,r⟩:=g;exact⟨o,es,ep,k _ o (Ne.symm hL) ho,r⟩
 .refine(I.hok b u e).stay (λc v hc q=>k c v ?_ q) (λ_ q=>q) λ_ _ q=>q;rcases hc with z|z
  .rw[z];exact a b u e
  .exact a c _ z
theorem Inv.tok(I:Inv X pins σ H s)(t:Nat):Inv X pins σ H {s with toks:=t}:=I.un (h':=s.heap) (t':=t) Un.refl I.hok
theorem Inv.kept{t':Nat}(I:Inv X pins σ H s)(k:∀b u,s.heap.get? b=some u->h'.get? b=some u):Inv X pins σ H {s with heap:=h',toks:=t'}:=I.un (Un.kept k) (I.hok.kept k)
theorem Inv.laid{a:Addr}{o:HO}{t':Nat}(I:Inv X pins σ H s)(k:∀b u,s.heap.get? b=some u->h'.get? b=some u)(hp:s.heap.objs.size<=a)(new:ObjOk X.prog X.w (upd H a o) h' a o) :
  Inv X pins σ (upd H a o) {s with heap:=h',toks:=t'}:=I.un (Un.laid k hp (I.hok.fresh hp)) (I.hok.laid k hp new)
theorem Inv.write{x e:Addr}{o:HO}{t':Nat}(I:Inv X pins σ H s)(d:Mut (H x))(c:e=x∨H e=some (.own x))(k:∀b u,b≠e->s.heap.get? b=some u->h'.get? b=some u)(a:∃u,h'.get? e=some u)
  (new:ObjOk X.prog X.w (upd H x o) h' x o):Inv X pins σ (upd H x o) {s with heap:=h',toks:=t'}:=I.un (Un.write d c k a) (I.hok.write d c k a new)
theorem Inv.weak{σ':List (Option V)}(I:Inv X pins σ H s)(hl:σ'.length=σ.length)(w:∀(i:Nat) v,σ'[i]?=some (some v)->σ[i]?=some (some v)):Inv X pins σ' H s :=
 ⟨I.ok,I.os,I.bare,I.base,let ⟨m,hn,hl'⟩:=I.loc;⟨m,hn,λi x v b c a=>hl' i x v b (w i v c) a⟩,I.cell,I.free,I.freeC,I.pin,I.hok,hl.trans I.len⟩
theorem Inv.pins_of{pins':List (Addr×Obj)}(I:Inv X pins σ H s)(h:∀p∈pins',s.heap.get? p.1=some p.2/\H p.1=none/\p.1≠X.env.locals/\p.1∉X.fs/\∀v,p.2.data≠.cell v):Inv X pins' σ H s :=
 ⟨I.ok,I.os,I.bare,I.base,I.loc,I.cell,I.free,I.freeC,λp hp=>(List.mem_append.mp hp).elim (λz=>I.pin p (List.mem_append_left _ z)) (h p),I.hok,I.len⟩
theorem a2q{N:List Str}(e:N.Nodup){i j:Nat}{x:Str}(a:N[i]?=some x)(b:N[j]?=some x):i=j:=by
 obtain⟨h1,d⟩:=List.getElem?_eq_some_iff.mp a;obtain⟨h2,c⟩:=List.getElem?_eq_some_iff.mp b;exact(List.getElem_inj e).mp (d.trans c.symm)
theorem a3l{M:Model}{A:Around}{E:Value->Shared->Prop}{i:Nat}{x:Str}{v:V}{u:Value}{Q:Unit->Shared->Prop}(I:Inv X pins σ H s)(Y:X.N.Nodup)(hi:X.N[i]?=some x)(l:Loc X.env.scope x)(r:RelV v u)
  (h:∀s',Inv X pins (σ.set i (some v)) H s'->(∃a,Heap.SameBut a s.heap s'.heap/\(a=X.env.locals∨X.env.cells.lookup x=some a))->Q () s') (hf:X.fn x=true∨X.env.scope.names.lookup x=some .local:=by first|exact .inl rfl|exact .inr rfl|assumption):wpAny M A (storeName X.env x u) Q E s:=by
 obtain⟨m,T,hl⟩:=id I.loc;have K:(X.env.scope.kind==.class || (X.env.scope.kind==.module && X.env.locals != X.env.globals))=false:=by rw[I.ok.kind];rfl
 have hiσ:i<σ.length:=by rw[I.len];exact(List.getElem?_eq_some_iff.mp hi).1
 have cne:=I.cne;have f:∀{a:Addr}{h':Heap},(∃o,s.heap.get? a=some o/\H a=none)->Heap.SameBut a s.heap h'->HOk X.prog X.w H h':=λ{a h'} ha hs b ob e=>by
  obtain⟨_,_,t⟩:=ha;refine(I.hok b ob e).stay (λc L hc q=>(hs.2 c ?_).trans q) (λ_ q=>q) λ_ _ q=>q;rintro rfl;rcases hc with rfl|hc
  .rw[t]at e;cases e
  .rw[t]at hc;cases hc
 rcases l with C|C
 .refine wpAny_storeName_local C T (λh' O hs=>?_) K;obtain⟨Z,_,_,W,_⟩:=id T;refine h _ ⟨I.ok,I.os,I.bare,⟨λb o e n D l=>?_,λb o e n D l=>?_,I.base.free,λb o e l=>?_,I.base.tups,I.base.frzs,I.base.tbls⟩,⟨_,O,λj y U g B R=>?_⟩,λy c e=>?_,I.free,I.freeC,λp hp=>?_,f ⟨Z,W,I.free⟩ hs,by simpa using I.len⟩ ⟨_,hs,.inl rfl⟩
  .exact(hs.2 b (Nat.ne_of_lt (Nat.lt_of_lt_of_le (Heap.lt_size e) I.ok.above))).trans (I.base.keep b o e n D l)
  .obtain⟨sl,g⟩:=I.base.slot b o e n D l;exact⟨sl,(hs.2 b (Nat.ne_of_lt (Nat.lt_of_lt_of_le (Heap.lt_size e) I.ok.above))).trans g⟩
  .obtain⟨o',g⟩:=I.base.there b o e l;exact⟨o',(hs.2 b (Nat.ne_of_lt (Nat.lt_of_lt_of_le (Heap.lt_size e) I.ok.above))).trans g⟩
  .by_cases hj:j=i
   .subst hj;rw[hi]at g;cases g;rw[List.getElem?_set_self hiσ]at B;cases B;exact⟨u,r,.inl ⟨C,by simp⟩⟩
   .rw[List.getElem?_set_ne (Ne.symm hj)]at B;obtain⟨S,P,q⟩:=hl j y U g B R;refine⟨S,P,?_⟩;rcases q with⟨k,e⟩|⟨k,c,e,z⟩
    .refine .inl ⟨k,?_⟩;have:y≠x:=λe=>hj (a2q Y g (e ▸ hi));simp[this,e]
    .exact .inr ⟨k,c,e,z.sameBut hs (cne y c e)⟩
  .obtain⟨L,z⟩:=I.cell y c e;exact⟨L,z.sameBut hs (cne y c e)⟩
  .obtain⟨e,n,ne,nf,d⟩:=I.pin p hp;exact⟨(hs.2 p.1 ne).trans e,n,ne,nf,d⟩
 .have hfn:X.fn x=true:=by
   rcases hf with z|z
   .exact z
   .rw[z]at C;cases C
  obtain⟨c,hc⟩:=I.ok.has x (.inl C);obtain⟨L,z⟩:=I.cell x c hc;refine wpAny_storeName_cell I.ok.kind C hc z (λh' G hs=>?_);obtain⟨oc,F,J⟩:=id z;refine h {s with heap:=h'} ⟨I.ok,I.os,I.bare,⟨λb o e n D l=>?_,λb o e n D l=>?_,I.base.free,λb o e l=>?_,I.base.tups,I.base.frzs,I.base.tbls⟩,⟨m,T.sameBut hs (Ne.symm (cne x c hc)),λj y U g B R=>?_⟩,λy c' e=>?_,I.free,I.freeC,λp hp=>?_,f ⟨oc,F,I.freeC x c hc⟩ hs,by simpa using I.len⟩ ⟨c,hs,.inr hc⟩
  .exact(hs.2 b (Nat.ne_of_lt (Nat.lt_of_lt_of_le (Heap.lt_size e) (I.ok.cab x c hfn hc)))).trans (I.base.keep b o e n D l)
  .obtain⟨sl,g⟩:=I.base.slot b o e n D l;exact⟨sl,(hs.2 b (Nat.ne_of_lt (Nat.lt_of_lt_of_le (Heap.lt_size e) (I.ok.cab x c hfn hc)))).trans g⟩
  .obtain⟨o',g⟩:=I.base.there b o e l;exact⟨o',(hs.2 b (Nat.ne_of_lt (Nat.lt_of_lt_of_le (Heap.lt_size e) (I.ok.cab x c hfn hc)))).trans g⟩
  .by_cases hj:j=i
   .subst hj;rw[hi]at g;cases g;rw[List.getElem?_set_self hiσ]at B;cases B;exact⟨u,r,.inr ⟨.inl C,c,hc,G⟩⟩
   .rw[List.getElem?_set_ne (Ne.symm hj)]at B;obtain⟨S,P,q⟩:=hl j y U g B R;refine⟨S,P,?_⟩;rcases q with q|⟨k,c',e,z'⟩
    .exact .inl q
    .refine .inr ⟨k,c',e,z'.sameBut hs ?_⟩;rintro rfl;exact hj (a2q Y g (I.ok.inj _ _ _ e hc ▸ hi))
  .by_cases hcc:c'=c
   .subst hcc;exact⟨_,G⟩
   .obtain⟨w2,z2⟩:=I.cell y c' e;exact⟨w2,z2.sameBut hs hcc⟩
  .obtain⟨e,n,ne,nf,d⟩:=I.pin p hp;refine⟨(hs.2 p.1 ?_).trans e,n,ne,nf,d⟩;intro q;rw[q,F]at e;have q':oc=p.2:=Option.some.inj e;exact d L (by rw[<-q'];exact J)
theorem a0j{M:Model}{A:Around}{E:Value->Shared->Prop}{i:Nat}{x:Str}{v:V}{u:Value}{Q:Unit->Shared->Prop}(I:Inv X pins σ H s)(b:X.N.Nodup)(hi:X.N[i]?=some x)(a:Loc X.env.scope x)(r:RelV v u)
  (h:∀s',Inv X pins (σ.set i (some v)) H s'->Q () s') (hf:X.fn x=true∨X.env.scope.names.lookup x=some .local:=by first|exact .inl rfl|exact .inr rfl|assumption):wpAny M A (storeName X.env x u) Q E s :=
 a3l I b hi a r (λs' c _=>h s' c) hf
theorem Inv.call'{s':Shared}{ch:List Addr}(I:Inv X pins σ H s)(d:s'.os=s.os)(u:Un (frs X.stack) ch H H' s.heap s'.heap)(hok:HOk X.prog X.w H' s'.heap)(f:AllBare s'.gens)
  (a:∀b∈ch,(b∈X.ex∨X.s₀.heap.objs.size<=b)/\b≠X.env.locals/\(∀x c,X.env.cells.lookup x=some c->c≠b)/\∀p∈X.pn++pins,p.1≠b):Inv X pins σ H' s':=by
 obtain⟨h',g',d',t',o'⟩:=s';have e:o'=s.os:=d;subst e;exact I.call (g':=g') (t':=t') (d':=d') u hok f a
end
abbrev XK:=Value->Option Addr->Hp->Prop
abbrev St:=List (Option V)
abbrev VK:=V->Hp->Prop
abbrev TE:=St->Hp->VK->Prop
abbrev TT:=St->Hp->(Bool->Hp->Prop)->Prop
abbrev TA:=St->Hp->(List V->Hp->Prop)->Prop
structure Ends where
 nx:St->Hp->Prop
 rt:VK
 bk:St->Hp->Prop:=λ_ _=>False
 ct:St->Hp->Prop:=λ_ _=>False
abbrev TS:=Ends->St->Hp->Prop
def EP(X:Cx)(pins:List (Addr×Obj))(σ:St)(Q:VK)(u:Value)(s':Shared):Prop:=∃v H',Inv X pins σ H' s'/\RelV v u/\Q v H'
def TP(X:Cx)(pins:List (Addr×Obj))(σ:St)(Q:Bool->Hp->Prop)(b:Bool)(s':Shared):Prop:=∃H',Inv X pins σ H' s'/\Q b H'
def AP(X:Cx)(pins:List (Addr×Obj))(σ:St)(Q:List V->Hp->Prop)(us:List Value)(s':Shared):Prop:=∃vs H',Inv X pins σ H' s'/\Vals vs us/\Q vs H'
def SP(X:Cx)(pins:List (Addr×Obj))(D:Ends)(f:Flow)(s':Shared):Prop :=
 match f with
 |.next=>∃σ' H',Inv X pins σ' H' s'/\D.nx σ' H'
 |.brk=>∃σ' H',Inv X pins σ' H' s'/\D.bk σ' H'
 |.cont=>∃σ' H',Inv X pins σ' H' s'/\D.ct σ' H'
 |.ret u=>∃v σ' H',Inv X pins σ' H' s'/\RelV v u/\D.rt v H'
def PE(X:Cx)(e:Expr)(t:TE):Prop :=
 ∀(pins:List (Addr×Obj)) (s:Shared) (σ:St) (H:Hp) (Q:VK),Inv X pins σ H s->t σ H Q->wpAny (model X.prog X.w) X.A (eval e X.env) (EP X pins σ Q) X.xe s
def PT(X:Cx)(e:Expr)(t:TT):Prop :=
 ∀(pins:List (Addr×Obj)) (s:Shared) (σ:St) (H:Hp) (Q:Bool->Hp->Prop),Inv X pins σ H s->t σ H Q->wpAny (model X.prog X.w) X.A (isTrue e X.env (eval e X.env)) (TP X pins σ Q) X.xe s
def PW(X:Cx)(e:Expr)(t:TT):Prop :=
 ∀(whole:Sem Value) (pins:List (Addr×Obj)) (s:Shared) (σ:St) (H:Hp) (Q:Bool->Hp->Prop),Inv X pins σ H s->t σ H Q->wpAny (model X.prog X.w) X.A (isTrue e X.env whole) (TP X pins σ Q) X.xe s
theorem PW.pt{X:Cx}{e:Expr}{t:TT}(h:PW X e t):PT X e t:=h _
def PA(X:Cx)(es:List Expr)(t:TA):Prop :=
 ∀(pos:Pos) (pins:List (Addr×Obj)) (s:Shared) (σ:St) (H:Hp) (Q:List V->Hp->Prop),Inv X pins σ H s->t σ H Q->wpAny (model X.prog X.w) X.A (spliced (backTo pos (starEach es X.env))) (AP X pins σ Q) X.xe s
def PS(X:Cx)(st:Stmt)(t:TS):Prop :=
 ∀(pins:List (Addr×Obj)) (s:Shared) (σ:St) (H:Hp) (D:Ends),Inv X pins σ H s->t D σ H->wpAny (model X.prog X.w) X.A (exec st X.env) (SP X pins D) X.xe s
def PSs(X:Cx)(st:List Stmt)(t:TS):Prop :=
 ∀(pins:List (Addr×Obj)) (s:Shared) (σ:St) (H:Hp) (D:Ends),Inv X pins σ H s->t D σ H->wpAny (model X.prog X.w) X.A (execs st X.env) (SP X pins D) X.xe s
theorem thn{α:Type}{t:Sem α}{Q b:α->Shared->Prop}{M:Model}{A:Around}{E:Value->Shared->Prop}{s:Shared}(h:wpAny M A t Q E s)(c:∀a s,Q a s->b a s):wpAny M A t b E s:=wpAny_mono h c λ_ _ x=>x
section
variable {X:Cx}
def Y9(i:Nat):TE:=λσ H Q=>∃v,σ[i]?=some (some v)/\Q v H
def tC(v:V):TE:=λ_ H Q=>Q v H
theorem b5G{i:Nat}{x:Str}{pos:Pos}(g:X.N[i]?=some x)(f:Vis X.env.scope x)(hd:(x==("__debug__" : Str))=false:=by decide)(d:(x==("__classdict__" : Str))=false:=by decide):PE X (.Name x pos) (Y9 i):=by
 intro pins s σ H Q I h;obtain⟨v,e,h⟩:=h;obtain⟨m,k,hl⟩:=I.loc;obtain⟨u,r,l⟩:=hl i x v g e f;have fin:EP X pins σ Q u s:=⟨v,H,I,r,h⟩;rcases l with⟨b,j⟩|⟨b,c,hc,a⟩
 .exact wpAny_Name (wpAny_loadName_local I.ok.kind b k j fin) hd
 .rcases b with b|b
  .exact wpAny_Name (wpAny_loadName_cell I.ok.kind b hc a fin) hd
  .exact wpAny_Name (wpAny_loadName_free I.ok.kind b hc a fin d) hd
theorem b5N{i j pos}:PE X (.Constant (.int i) j pos) (tC (.int i)):=λ_ _ _ H _ I h=>wpAny_Constant_int ⟨.int i,H,I.tok _,⟨_,rfl⟩,h⟩
theorem b7s{b j pos}:PE X (.Constant (.bool b) j pos) (tC (.bl b)):=λ_ _ _ H _ I h=>Constant_bool ⟨.bl b,H,I,rfl,h⟩
theorem b5L{j pos}:PE X (.Constant .none j pos) (tC .non):=λ_ _ _ H _ I h=>Constant_none ⟨.non,H,I,rfl,h⟩
theorem b5I{x j pos}:PE X (.Constant (.str x) j pos) (tC (.str x)):=λ_ _ _ H _ I h=>Calls.Constant_str ⟨.str x,H,I.tok _,⟨_,rfl⟩,h⟩
def Gl(X:Cx)(x:Str):Prop:=X.env.kindOf x=some .globalImplicit
theorem O5{E:Value->Shared->Prop}{pins:List (Addr×Obj)}{s:Shared}{σ:St}{H:Hp}{x:Str}{u:Value}{pos:Pos}{Q:Value->Shared->Prop}(I:Inv X pins σ H s)(b:Gl X x)(a:X.mg x=some u)(h:Q u s)
  (hd:(x==("__debug__" : Str))=false:=by decide):wpAny (model X.prog X.w) X.A (eval (.Name x pos) X.env) Q E s :=
 Calls.Name_function_global I.ok.kind b (Calls.loadGlobal_global (by rw[I.ok.glob];exact I.mod.glob.keeps I.bk) a h) hd
theorem a2x{E:Value->Shared->Prop}{pins:List (Addr×Obj)}{s:Shared}{σ:St}{H:Hp}{x:Str}{u:Value}{pos:Pos}{Q:Value->Shared->Prop}(I:Inv X pins σ H s)(b:Gl X x)(c:X.mg x=none)(a:bootBuiltins x=some u)(h:Q u s)
  (d:x≠"__name__":=by decide) (hd:(x==("__debug__" : Str))=false:=by decide):wpAny (model X.prog X.w) X.A (eval (.Name x pos) X.env) Q E s:=by
 obtain⟨e,h1,h2⟩:=I.mod.blt;exact Calls.Name_function_global I.ok.kind b (Calls.loadGlobal_builtin (by rw[I.ok.glob];exact I.mod.glob.keeps I.bk) c (by rw[I.ok.blt];exact h1.keeps I.bk) ((h2 x d).trans a) h) hd
theorem b3B{x:Str}{v:V}{u:Value}{pos:Pos}(b:Gl X x)(a:X.mg x=some u)(r:RelV v u)(hd:(x==("__debug__" : Str))=false:=by decide):PE X (.Name x pos) (tC v) :=
 λ_ _ _ H _ I h=>O5 I b a ⟨v,H,I,r,h⟩ hd
theorem b3E{x:Str}{v:V}{u:Value}{pos:Pos}(c:Gl X x)(a:X.mg x=none)(b:bootBuiltins x=some u)(r:RelV v u)(d:x≠"__name__":=by decide)(hd:(x==("__debug__" : Str))=false:=by decide):PE X (.Name x pos) (tC v) :=
 λ_ _ _ H _ I h=>a2x I c a b ⟨v,H,I,r,h⟩ d hd
variable {a b:Expr}{ta tb:TE}{pos:Pos}
def PC(X:Cx)(op:CmpOp)(a b:Expr)(t:TE):Prop :=
 ∀(pins:List (Addr×Obj)) (s:Shared) (σ:St) (H:Hp) (Q:VK),Inv X pins σ H s->t σ H Q ->
  wpAny (model X.prog X.w) X.A (eval a X.env) (λv s₁=>wpAny (model X.prog X.w) X.A (eval b X.env) (λu s₂=>wpAny (model X.prog X.w) X.A (compareOp op v u) (EP X pins σ Q) X.xe s₂) X.xe s₁) X.xe s
def tB(t:TE):TT:=λσ H Q=>t σ H λx H1=>∃c,x=.bl c/\Q c H1
theorem b5P{c:CmpOp}{t:TE}(h:PC X c a b t)(h1:behindInMarks c b=false:=by first|exact nobehind _ (by decide) (by decide)|rfl):PE X (.Compare a [c] [b] pos) t:=λpins s σ H Q I hw=>wpAny_Compare1 (h pins s σ H Q I hw) h1
theorem b5w{e:CmpOp}{t:TE}(h:PC X e a b t)(h1:behindInMarks e b=false:=by first|exact nobehind _ (by decide) (by decide)|rfl):PT X (.Compare a [e] [b] pos) (tB t):=by
 intro pins s σ H Q I hw;refine wpAny_isTrue_Compare1 (thn (h pins s σ H _ I hw) λv s1 h1=>thn h1 λu s2 h2=>thn h2 λc g ⟨x,H1,f,r1,q1⟩=>?_) h1;obtain⟨d,rfl,q⟩:=q1;cases r1;exact wpAny_truthy_bool ⟨H1,f,q⟩
variable {tA tB':TT}{rest:List Expr}
def b7f(t u:TT):TT:=λσ H Q=>t σ H λc H1=>if c=true then u σ H1 Q else Q false H1
def tOr(t u:TT):TT:=λσ H Q=>t σ H λc H1=>if c=true then Q true H1 else u σ H1 Q
def b7a(t:TT):TT:=λσ H Q=>t σ H λc H1=>Q (!c) H1
theorem pw_and1(ha:PT X a tA):PW X (.BoolOp .And [a] pos) tA:=by
 intro b pins s σ H Q I h;refine isTrue_and (thn (ha pins s σ H Q I h) λc s1 e=>?_);cases c with
 |true=>exact isTrue_and_nil e
 |false=>exact e
theorem pw_or1(ha:PT X a tA):PW X (.BoolOp .Or [a] pos) tA:=by
 intro b pins s σ H Q I h;refine isTrue_or (thn (ha pins s σ H Q I h) λc s1 e=>?_);cases c with
 |false=>exact isTrue_or_nil e
 |true=>exact e
theorem pw_and(ha:PT X a tA)(f:PW X (.BoolOp .And (b::rest) pos) tB'):PW X (.BoolOp .And (a::b::rest) pos) (b7f tA tB'):=by
 intro e pins s σ H Q I h;refine isTrue_and (thn (ha pins s σ H _ I h) λc s1 ⟨H1,d,q1⟩=>?_);cases c with
 |true=>exact f e pins s1 σ H1 Q d q1
 |false=>exact⟨H1,d,q1⟩
theorem pw_or(ha:PT X a tA)(f:PW X (.BoolOp .Or (b::rest) pos) tB'):PW X (.BoolOp .Or (a::b::rest) pos) (tOr tA tB'):=by
 intro e pins s σ H Q I h;refine isTrue_or (thn (ha pins s σ H _ I h) λc s1 ⟨H1,d,q1⟩=>?_);cases c with
 |true=>exact⟨H1,d,q1⟩
 |false=>exact f e pins s1 σ H1 Q d q1
theorem b5v(ha:PT X a tA):PT X (.UnaryOp .Not a pos) (b7a tA):=by
 intro pins s σ H Q I h;exact isTrue_not (ha pins s σ H (λc H1=>Q (!c) H1) I h)
def b4F(ta tb:TE):TE:=λσ H Q=>ta σ H λx H1=>∃c,x=.bl c/\if c=true then tb σ H1 Q else Q (.bl false) H1
def b6Z(ta tb:TE):TE:=λσ H Q=>ta σ H λx H1=>∃c,x=.bl c/\if c=true then Q (.bl true) H1 else tb σ H1 Q
def b4A(ta:TE):TE:=λσ H Q=>ta σ H λx H1=>∃c,x=.bl c/\Q (.bl (!c)) H1
theorem b5J{op}{t:TE}(h:PE X a t):PE X (.BoolOp op [a] pos) t:=λpins s σ H Q I hw=>BoolOp_one (h pins s σ H Q I hw)
theorem b5Q(ha:PE X a ta)(e:PE X (.BoolOp .And (b::rest) pos) tb):PE X (.BoolOp .And (a::b::rest) pos) (b4F ta tb):=by
 intro pins s σ H Q I h;refine BoolOp_and (thn (ha pins s σ H _ I h) λv s1 ⟨x,H1,d,r1,q1⟩=>?_);obtain⟨c,rfl,q1⟩:=q1;cases r1;refine wpAny_truthy_bool ?_;cases c with
 |true=>exact e pins s1 σ H1 Q d q1
 |false=>exact⟨.bl false,H1,d,rfl,q1⟩
theorem b7q(ha:PE X a ta)(e:PE X (.BoolOp .Or (b::rest) pos) tb):PE X (.BoolOp .Or (a::b::rest) pos) (b6Z ta tb):=by
 intro pins s σ H Q I h;refine BoolOp_or (thn (ha pins s σ H _ I h) λv s1 ⟨x,H1,d,r1,q1⟩=>?_);obtain⟨c,rfl,q1⟩:=q1;cases r1;refine wpAny_truthy_bool ?_;cases c with
 |false=>exact e pins s1 σ H1 Q d q1
 |true=>exact⟨.bl true,H1,d,rfl,q1⟩
theorem b5K(ha:PE X a ta):PE X (.UnaryOp .Not a pos) (b4A ta):=by
 intro pins s σ H Q I h;refine UnaryOp_ (thn (ha pins s σ H _ I h) λv s1 ⟨x,H1,b,r1,q1⟩=>?_);obtain⟨c,rfl,q1⟩:=q1;cases r1;exact not_of (wpAny_truthy_bool ⟨.bl (!c),H1,b,rfl,q1⟩)
def tIf(t:TT)(ta tb:TE):TE:=λσ H Q=>t σ H λc H1=>if c=true then ta σ H1 Q else tb σ H1 Q
theorem b0Z{c:Expr}(hc:PT X c tA)(ha:PE X a ta)(f:PE X b tb):PE X (.IfExp c a b pos) (tIf tA ta tb):=by
 intro pins s σ H Q I h;refine wpAny_IfExp (thn (hc pins s σ H _ I h) λd s1 ⟨H1,e,q1⟩=>?_);cases d with
 |true=>exact ha pins s1 σ H1 Q e q1
 |false=>exact f pins s1 σ H1 Q e q1
end
def SqL(K:PySem.W.Frag)(H:Hp)(a:Addr)(xs:List V):Prop :=
 Rd H a (.lst xs) ∨
  ∃(o:Obj) (its:Array Value) (n:Nat),K.lookup a=some o/\o.cls=.type "list"/\o.dict=none/\o.data=.seq its n/\its.size<=sizeLine/\Vals xs its.toList
def SqT(K:PySem.W.Frag)(H:Hp)(a:Addr)(xs:List V):Prop :=
 Rd H a (.tup xs) ∨
  ∃(o:Obj) (its:Array Value) (n:Nat),K.lookup a=some o/\o.cls=.type "tuple"/\o.data=.seq its n/\its.size<=sizeLine/\Vals xs its.toList
noncomputable def b7Y:Value->Option V
 |.none=>some .non
 |.bool b=>some (.bl b)
 |.int i _=>some (.int i)
 |.str x _=>some (.str x)
 |.bytes b _=>some (.byt b)
 |.float b _=>some (.flt b)
 |.ref a=>some (.ref a)
 |.type n=>some (.ty n)
 |_=>none
theorem RelV.abs{x:V}{u:Value}(r:RelV x u):b7Y u=some x:=by
 cases x with
 |non=>cases r;rfl
 |bl _=>cases r;rfl
 |int _=>obtain⟨t,rfl⟩:=r;rfl
 |str _=>obtain⟨t,rfl⟩:=r;rfl
 |byt _=>obtain⟨t,rfl⟩:=r;rfl
 |flt _=>obtain⟨t,rfl⟩:=r;rfl
 |ref _=>cases r;rfl
 |ty _=>cases r;rfl
theorem RelV.inj{x y:V}{u:Value}(r:RelV x u)(q:RelV y u):x=y:=Option.some.inj (r.abs.symm.trans q.abs)
theorem Vals.inj:∀{xs ys:List V}{us:List Value},Vals xs us->Vals ys us->xs=ys
 |_,_,_,.nil,.nil=>rfl
 |_,_,_,.cons r t,.cons r' t'=>by rw[r.inj r',Vals.inj t t']
section
variable {X:Cx}{pins:List (Addr×Obj)}{σ:St}{H:Hp}{s:Shared}{a:Addr}{xs ys:List V}
theorem SqL.of{K:PySem.W.Frag}(h:H a=some (.lst xs)):SqL K H a xs:=.inl (.inl h)
theorem SqT.of{K:PySem.W.Frag}(h:H a=some (.tup xs)):SqT K H a xs:=.inl (.inl h)
theorem Inv.list(I:Inv X pins σ H s)(h:SqL X.K H a xs):∃its:List Value,Vals xs its/\PlainL s.heap a its.toArray/\xs.length<=sizeLine:=by
 rcases h with h|⟨o,its,n,b,hc,hd,hs,hz,r⟩
 .obtain⟨z,its,n,r,e⟩:=h.ok I.hok;exact⟨its,r,⟨_,n,e,rfl,rfl,rfl⟩,z⟩
 .refine⟨its.toList,r,⟨o,n,I.kIn a o b,hc,hd,by simpa using hs⟩,?_⟩;have e:=r.length;simp only[Array.length_toList]at e;omega
theorem Inv.tuple(I:Inv X pins σ H s)(h:SqT X.K H a xs):∃its:List Value,Vals xs its/\IsTup s.heap a its.toArray/\xs.length<=sizeLine:=by
 rcases h with h|⟨o,its,n,b,hc,hs,hz,r⟩
 .obtain⟨z,its,r,p⟩:=h.ok I.hok;exact⟨its,r,p,z⟩
 .refine⟨its.toList,r,⟨o,I.kIn a o b,hc,n,by simpa using hs⟩,?_⟩;have e:=r.length;simp only[Array.length_toList]at e;omega
theorem Inv.list_inj(I:Inv X pins σ H s)(h:SqL X.K H a xs)(h':SqL X.K H a ys):xs=ys:=by
 obtain⟨its,r,⟨o,n,e,_,_,d⟩,_⟩:=I.list h;obtain⟨its',c,⟨o',f,b,_,_,d'⟩,_⟩:=I.list h';rw[e]at b;cases b;rw[d]at d';injection d' with d1 _
 have:its=its':=by simpa using congrArg Array.toList d1
 subst this;exact r.inj c
theorem Inv.tuple_inj(I:Inv X pins σ H s)(h:SqT X.K H a xs)(h':SqT X.K H a ys):xs=ys:=by
 obtain⟨its,r,⟨o,e,_,n,d⟩,_⟩:=I.tuple h;obtain⟨its',c,⟨o',b,_,f,d'⟩,_⟩:=I.tuple h';rw[e]at b;cases b;rw[d]at d';injection d' with d1 _
 have:its=its':=by simpa using congrArg Array.toList d1
 subst this;exact r.inj c
end
noncomputable abbrev Cx.wish(X:Cx)(E:Value->Shared->Prop):Cx:={X with xe:=E}
noncomputable abbrev Cx.nox(X:Cx):Cx:=X.wish λ_ _=>False
theorem Cx.Ok.wish{X:Cx}(ok:X.Ok)(E:Value->Shared->Prop):(X.wish E).Ok :=
 ⟨ok.mod,ok.kind,ok.glob,ok.blt,ok.above,ok.inj,ok.has,ok.cab,ok.hd,ok.frames,ok.stk,ok.exf,ok.bs,ok.bsz,ok.noex,ok.exfs,ok.funs,ok.frf⟩
theorem Cx.Ok.unwish{X:Cx}{E:Value->Shared->Prop}(ok:(X.wish E).Ok):X.Ok :=
 ⟨ok.mod,ok.kind,ok.glob,ok.blt,ok.above,ok.inj,ok.has,ok.cab,ok.hd,ok.frames,ok.stk,ok.exf,ok.bs,ok.bsz,ok.noex,ok.exfs,ok.funs,ok.frf⟩
section
variable {X:Cx}{pins:List (Addr×Obj)}{σ:St}{H:Hp}{s:Shared}{E:Value->Shared->Prop}
theorem Inv.wish(I:Inv X pins σ H s)(E:Value->Shared->Prop):Inv (X.wish E) pins σ H s:=⟨I.ok.wish E,I.os,I.bare,I.base,I.loc,I.cell,I.free,I.freeC,I.pin,I.hok,I.len⟩
theorem Inv.unwish(I:Inv (X.wish E) pins σ H s):Inv X pins σ H s:=⟨I.ok.unwish,I.os,I.bare,I.base,I.loc,I.cell,I.free,I.freeC,I.pin,I.hok,I.len⟩
theorem SP.unwish{D:Ends}{f:Flow}{s':Shared}(h:SP (X.wish E) pins D f s'):SP X pins D f s':=by
 cases f with
 |next=>obtain⟨σ',H',I,q⟩:=h;exact⟨σ',H',I.unwish,q⟩
 |brk=>obtain⟨σ',H',I,q⟩:=h;exact⟨σ',H',I.unwish,q⟩
 |cont=>obtain⟨σ',H',I,q⟩:=h;exact⟨σ',H',I.unwish,q⟩
 |ret u=>obtain⟨v,σ',H',I,r,q⟩:=h;exact⟨v,σ',H',I.unwish,r,q⟩
theorem PSs.nox{st:List Stmt}{t:TS}(h:PSs X.nox st t):PSs X st t:=λpins s σ H D I hw =>
 wpAny_mono (h pins s σ H D (I.wish _) hw) (λ_ _ q=>q.unwish) λ_ _ z=>False.elim z
end
section
variable {X:Cx}{st:Stmt}{rest:List Stmt}{t u:TS}{e:Expr}{te:TE}{pos:Pos}
def b4B:TS:=λD σ H=>D.nx σ H
def b5i(t u:TS):TS:=λD σ H=>t {D with nx:=u D} σ H
theorem b3k:PSs X [] b4B:=λ_ _ σ H _ I h=>wpAny_execs_nil ⟨σ,H,I,h⟩
theorem b0L(h1:PS X st t)(h2:PSs X rest u):PSs X (st::rest) (b5i t u):=by
 intro pins s σ H D I h;refine wpAny_execs_cons (thn (h1 pins s σ H {D with nx:=u D} I h) λf s1 q=>?_);cases f with
 |next =>
  obtain⟨σ',H',a,q⟩:=q;exact h2 pins s1 σ' H' D a q
 |ret v=>exact q
 |brk=>exact q
 |cont=>exact q
theorem b3j(h1:PS X st t):PSs X [st] t:=by
 intro pins s σ H D I h;refine wpAny_execs_cons (thn (h1 pins s σ H D I h) λf s1 q=>?_);cases f with
 |next=>exact wpAny_execs_nil q
 |ret v=>exact q
 |brk=>exact q
 |cont=>exact q
def b0e:TS:=λD σ H=>D.bk σ H
theorem b0Q:PS X (.Break pos) b0e:=λ_ _ σ H _ I h=>wpAny_Break ⟨σ,H,I,h⟩
theorem Inv.quiet{pins:List (Addr×Obj)}{σ:St}{H:Hp}{s:Shared}(I:Inv X pins σ H s):interactive X.env=false:=by simp[interactive,I.ok.kind]
def b4D(te:TE):TS:=λD σ H=>te σ H λ_ H1=>D.nx σ H1
theorem b3m(a:PE X e te)(hs:swapsWith e none pos.line X.env=pure false:=by rfl):PS X (.Expr e pos) (b4D te):=by
 intro pins s σ H D I h;exact wpAny_Expr_any (thn (a pins s σ H _ I h) λv s1 ⟨x,H1,b,r1,q1⟩=>⟨σ,H1,b,q1⟩) I.quiet hs
def b5j(te:TE):TS:=λD σ H=>te σ H D.rt
theorem b5y(a:PE X e te):PS X (.Return (some e) pos) (b5j te):=by
 intro pins s σ H D I h;exact wpAny_Return_some (thn (a pins s σ H _ I h) λv s1 ⟨x,H1,b,r1,q1⟩=>⟨x,σ,H1,b,r1,q1⟩)
def b8b:TS:=λD _ H=>D.rt .non H
def b7b(c:TT)(t u:TS):TS:=λD σ H=>c σ H λb H1=>if b=true then t D σ H1 else u D σ H1
theorem b7o{c:Expr}{a b:List Stmt}{tc:TT}(hc:PT X c tc)(ha:PSs X a t)(f:PSs X b u):PS X (.If c a b pos) (b7b tc t u):=by
 intro pins s σ H D I h;refine wpAny_If (thn (hc pins s σ H _ I h) λd s1 ⟨H1,e,q1⟩=>?_);cases d with
 |true=>exact ha pins s1 σ H1 D e q1
 |false=>exact f pins s1 σ H1 D e q1
end
abbrev TG:=V->St->Hp->(St->Hp->Prop)->Prop
abbrev TGs:=List V->St->Hp->(St->Hp->Prop)->Prop
def PG(X:Cx)(target:Expr)(t:TG):Prop :=
 ∀(pins:List (Addr×Obj)) (s:Shared) (σ:St) (H:Hp) (v:V) (u:Value) (Q:St->Hp->Prop),Inv X pins σ H s->RelV v u->t v σ H Q ->
  wpAny (model X.prog X.w) X.A (assign target X.env u) (λ_ s'=>∃σ' H',Inv X pins σ' H' s'/\Q σ' H') X.xe s
def PGs(X:Cx)(ts:List Expr)(t:TGs):Prop :=
 ∀(pins:List (Addr×Obj)) (s:Shared) (σ:St) (H:Hp) (vs:List V) (us:List Value) (Q:St->Hp->Prop),Inv X pins σ H s->Vals vs us->t vs σ H Q ->
  wpAny (model X.prog X.w) X.A (assignInOrder ((assignEach ts X.env).map (·.2)) us) (λ_ s'=>∃σ' H',Inv X pins σ' H' s'/\Q σ' H') X.xe s
abbrev b6P:=V->V->V->Hp->(Hp->Prop)->Prop
def b7I(X:Cx)(t:b6P):Prop :=
 ∀(pins:List (Addr×Obj)) (s:Shared) (σ:St) (H:Hp) (o i v:V) (ov iv u:Value) (Q:Hp->Prop),Inv X pins σ H s->RelV o ov->RelV i iv->RelV v u->t o i v H Q ->
  wpAny (model X.prog X.w) X.A (setItem ov iv u) (λ_ s'=>∃H',Inv X pins σ H' s'/\Q H') X.xe s
abbrev TIp:=V->V->Hp->VK->Prop
section
variable {X:Cx}{pos:Pos}
def A8(i:Nat):TG:=λv σ H Q=>Q (σ.set i (some v)) H
theorem b3y{i:Nat}{x:Str}(b:X.N.Nodup)(hi:X.N[i]?=some x)(a:Loc X.env.scope x)(hf:X.fn x=true∨X.env.scope.names.lookup x=some .local:=by first|exact .inl rfl|exact .inr rfl|assumption):PG X (.Name x pos) (A8 i):=by
 intro pins s σ H v u Q I r h;exact wpAny_assign_Name (a0j I b hi a r (λs' c=>⟨_,H,c,h⟩) hf)
def a9n:TGs:=λvs σ H Q=>vs=[]/\Q σ H
def Z6(t:TG)(u:TGs):TGs:=λvs σ H Q=>∃v r,vs=v::r/\t v σ H λσ' H'=>u r σ' H' Q
theorem b3w:PGs X [] a9n:=by
 intro pins s σ H vs us Q I r h;obtain⟨e,h⟩:=h;subst e;cases r;exact assignInOrder_nil ⟨σ,H,I,h⟩
theorem b0X{e:Expr}{es:List Expr}{t:TG}{u:TGs}(h1:PG X e t)(h2:PGs X es u)
  (hs:(assignEach (e::es) X.env).map (·.2)=assign e X.env::(assignEach es X.env).map (·.2):=by rfl):PGs X (e::es) (Z6 t u):=by
 intro pins s σ H vs us Q I r h;obtain⟨v,c,a,h⟩:=h;subst a;cases r with
 |cons r rr =>
  rw[hs];refine assignInOrder_cons (thn (h1 pins s σ H _ _ _ I r h) λ_ s1 ⟨σ1,H1,b,q1⟩=>?_);exact h2 pins s1 σ1 H1 _ _ Q b rr q1
def a6M(K:PySem.W.Frag)(n:Nat)(t:TGs):TG:=λv σ H Q=>∃a xs,v=.ref a/\SqT K H a xs/\xs.length=n/\t xs σ H Q
theorem b5E{es:List Expr}{k:Nat}{t:TGs}{n:Nat}(hc:X.calm=true)(h:PGs X es t)
  (l:(assignEach es X.env).length=n:=by rfl) (c:(assignEach es X.env).findIdx? (·.1)=none:=by rfl):PG X (.Tuple es k pos) (a6M X.K n t):=by
 intro pins s σ H v u Q I r hw;obtain⟨a,xs,g,f,hl,hw⟩:=hw;subst g;cases r;obtain⟨its,d,ht,hz⟩:=I.tuple f;refine assign_Tuple_tuple (I.ok.hd hc) ht (by simp[l,<-hl,d.length]) c λh' j=>?_;have i:Inv X pins σ H {s with heap:=h'}:=I.kept (t':=s.toks) λb o e=>j b o (Nat.ne_of_lt (Heap.lt_size e)) e;exact h pins _ σ H xs _ Q i (by simpa using d) hw
def b7F(to ti:TE)(t:b6P):TG:=λv σ H Q=>to σ H λo H1=>ti σ H1 λi H2=>t o i v H2 λH3=>Q σ H3
theorem b5F{o i:Expr}{to ti:TE}{t:b6P}(e:PE X o to)(hi:PE X i ti)(hs:b7I X t)
  (ha:∀v,assign (.Subscript o i pos) X.env v=(do
   let a <-holding [v] (eval o X.env)
   let b <-holding [v,a] (eval i X.env)
   standAt pos
   holding [v,a,b] (setItem a b v)
   release [v,a,b] []):=by intro _;rfl):PG X (.Subscript o i pos) (b7F to ti t):=by
 intro pins s σ H v u Q I r h;rw[ha];refine wpAny_bind (wpAny_holding (thn (e pins s σ H _ I h) λa s1 ⟨x,H1,g,r1,q1⟩=>?_));refine wpAny_bind (wpAny_holding (thn (hi pins s1 σ H1 _ g q1) λb s2 ⟨y,H2,c,r2,q2⟩=>?_));refine wpAny_bind (wpAny_standAt (wpAny_bind (wpAny_holding (thn (hs pins s2 σ H2 x y v a b u _ c r1 r2 r q2) λ_ j ⟨f,d,q3⟩=>?_))));exact wpAny_release ⟨σ,f,d,q3⟩
def a8z(te:TE)(g:TG):TS:=λD σ H=>te σ H λx H1=>g x σ H1 D.nx
theorem b5B{tg e:Expr}{te:TE}{g:TG}(a:PE X e te)(b:PG X tg g)(hs:swapsWithSole [tg] e pos.line X.env=pure false:=by rfl)(hw:swappedStores [tg] e X.env=pure none:=by rfl)
  (h1:(assignEach [tg] X.env).map (·.2)=[assign tg X.env]:=by rfl):PS X (.Assign [tg] e pos) (a8z te g):=by
 intro pins s σ H D I h;refine wpAny_Assign_stores (thn (a pins s σ H _ I h) λv s1 ⟨x,H1,c,r1,q1⟩=>?_) hs hw;rw[h1];exact thn (b pins s1 σ H1 x v _ c r1 q1) λ_ s2 q=>q
theorem b5x{i:Nat}{x:Str}{e:Expr}{te:TE}{pos':Pos}(b:X.N.Nodup)(hi:X.N[i]?=some x)(f:Loc X.env.scope x)(c:PE X e te)(hs:swapsWith e (some (.Name x pos')) pos.line X.env=pure false:=by rfl)(hf:X.fn x=true∨X.env.scope.names.lookup x=some .local:=by first|exact .inl rfl|exact .inr rfl|assumption) :
  PS X (.Assign [.Name x pos'] e pos) (a8z te (A8 i)):=by
 intro pins s σ H D I h;refine wpAny_Assign_Name (thn (c pins s σ H _ I h) λv s1 ⟨y,H1,d,r1,q1⟩=>?_) hs;exact a0j d b hi f r1 (λs2 a=>⟨_,H1,a,q1⟩) hf
def ipI(f:Int->Int->Int):TIp:=λx y H Q=>∃i j,x=.int i/\y=.int j/\Q (.int (f i j)) H
def a9Y(c:TT)(tb:TS):TS:=λD σ H=>∃W:Nat->St->Hp->Prop,(∃m,W m σ H)/\∀m σ H,W m σ H ->
 c σ H λb H1=>if b=true then ∃N:St->Hp->Prop,(∀σ' H',N σ' H'->∃m',m'<m/\W m' σ' H')/\tb {D with nx:=N,ct:=N,bk:=D.nx} σ H1 else D.nx σ H1
theorem b0M{c:Expr}{body:List Stmt}{tc:TT}{tb:TS}(hp:PassesOwn (model X.prog X.w) X.A X.env X.xe)(hc:PT X c tc)(m:PSs X body tb):PS X (.While c body [] pos) (a9Y tc tb):=by
 intro pins s σ H D I h;obtain⟨W,⟨q,o⟩,a⟩:=h;refine wpAny_While (codeAny_whileLoop (λn s'=>∃σ' H',Inv X pins σ' H' s'/\W n σ' H') ?_ q ⟨σ,H,I,o⟩);rintro n s1 ⟨σ1,H1,p,l⟩;refine wpAny_passesOwn hp (thn (hc pins s1 σ1 H1 _ p (a n σ1 H1 l)) λb s2 ⟨H2,j,q2⟩=>?_);cases b with
 |true =>
  obtain⟨N,k,q2⟩:=q2;rw[if_pos rfl];refine wpAny_passesOwn hp (thn (m pins s2 σ1 H2 _ j q2) λf r q3=>?_);cases f with
  |next =>
   obtain⟨σ3,d,i,n3⟩:=q3;obtain⟨m',g,e⟩:=k σ3 d n3;exact⟨m',g,σ3,d,i,e⟩
  |cont =>
   obtain⟨σ3,d,i,n3⟩:=q3;obtain⟨m',g,e⟩:=k σ3 d n3;exact⟨m',g,σ3,d,i,e⟩
  |brk=>exact q3
  |ret v=>exact q3
 |false =>
  rw[if_neg Bool.false_ne_true];exact wpAny_execs_nil ⟨σ1,H2,j,q2⟩
end
structure It where
 go:Nat->Hp->Prop
 yld:Nat->Hp->V->Hp->Prop
 stop:Nat->Hp->Prop
def a1d(X:Cx)(pins:List (Addr×Obj))(H:Hp)(b:Addr):Prop :=
 H b=none/\b≠X.env.locals/\b∉X.fs/\(b∈X.ex∨X.s₀.heap.objs.size<=b)/\(∀x c,X.env.cells.lookup x=some c->c≠b)/\∀p∈X.pn++pins,p.1≠b
theorem Inv.fpOk{X:Cx}{pins:List (Addr×Obj)}{σ:St}{H H':Hp}{s:Shared}{b:Addr}(I:Inv X pins σ H s)(a:s.heap.objs.size<=b)(d:H' b=none):a1d X pins H' b:=by
 refine⟨d,Nat.ne_of_gt (Nat.lt_of_lt_of_le I.lt a),I.nofs a,.inr (Nat.le_trans I.sz a),λx c e z=>?_,λp hp z=>?_⟩
 .obtain⟨v,q⟩:=I.cell x c e;exact absurd (Nat.lt_of_lt_of_le q.lt (by rw[z];exact a)) (Nat.lt_irrefl _)
 .exact absurd (Nat.lt_of_lt_of_le (Heap.lt_size (I.pin p hp).1) (by rw[z];exact a)) (Nat.lt_irrefl _)
structure Turn(P:Program)(w:World)(K:PySem.W.Frag)(tg:Expr)(J:It)(fp:List Addr)(it:Addr)(tn:Nat->Heap->Prop):Prop where
 mem:it∈fp
 obj:∀i h,tn i h->∀b∈fp,∃o,h.get? b=some o/\∀v,o.data≠.cell v
 keep:∀i h h',tn i h->(∀b∈fp,∀o,h.get? b=some o->h'.get? b=some o)->tn i h'
 item:∀(X:Cx),X.prog=P->X.w=w->X.K=K->X.calm=true->∀(i:Nat) (pins:List (Addr×Obj)) (s:Shared) (σ:St) (H:Hp) (E:Value->Shared->Prop),Inv X pins σ H s->(∀b∈fp,a1d X pins H b)->tn i s.heap->J.go i H ->
  wpAny (model P w) X.A (pyNext (.ref it)) (λr s1=>∃u,r=some u /\
   wpAny (model P w) X.A (letOwnedTupleGo tg (.ref it) u) (λ_ s2=>∃x H',Inv X pins σ H' s2/\RelV x u/\J.yld i H x H'/\tn (i+1) s2.heap/\∀b∈fp,H' b=none) E s1) E s
 done:∀(X:Cx),X.prog=P->X.w=w->X.K=K->X.calm=true->∀(i:Nat) (pins:List (Addr×Obj)) (s:Shared) (σ:St) (H:Hp) (E:Value->Shared->Prop),Inv X pins σ H s->(∀b∈fp,a1d X pins H b)->tn i s.heap->J.stop i H ->
  wpAny (model P w) X.A (pyNext (.ref it)) (λr s1=>r=none/\Inv X pins σ H s1) E s
 self:∀(A:Around) (i:Nat) (s:Shared) (Q:Value->Shared->Prop) (E:Value->Shared->Prop),tn i s.heap->Q (.ref it) s->wpAny (model P w) A (pyIter (.ref it)) Q E s
abbrev TI:=St->Hp->(It->Hp->Prop)->Prop
def PIE(X:Cx)(pins:List (Addr×Obj))(σ:St)(tg:Expr)(R:It->Hp->Prop)(itv:Value)(s2:Shared):Prop :=
 ∃(it:Addr) (fp:List Addr) (tn:Nat->Heap->Prop) (J:It) (H':Hp),itv=.ref it/\Inv X pins σ H' s2/\Turn X.prog X.w X.K tg J fp it tn/\tn 0 s2.heap/\(∀b∈fp,a1d X pins H' b)/\R J H'
def PI(X:Cx)(tg iter:Expr)(wi:TI):Prop :=
 ∀(pins:List (Addr×Obj)) (s:Shared) (σ:St) (H:Hp) (R:It->Hp->Prop),Inv X pins σ H s->wi σ H R ->
  wpAny (model X.prog X.w) X.A (eval iter X.env) (λv s1=>wpAny (model X.prog X.w) X.A (pyIter v) (PIE X pins σ tg R) X.xe s1) X.xe s
theorem b2d{M:Model}{A:Around}{E:Value->Shared->Prop}{s:Shared}{tg:Expr}{it:Addr}{u:Value}{o:Obj}{n:String}{vs:Array Value}{Q:Unit->Shared->Prop}(b:s.heap.get? it=some o)(hc:o.cls=.type n)(hd:o.data=.fields vs)
  (c:["enumerate","zip","dict_itemiterator","dict_reverseitemiterator","odict_iterator","itertools.zip_longest","itertools.pairwise"].contains n=false) (a:Q () s):wpAny M A (letOwnedTupleGo tg (.ref it) u) Q E s:=by
 unfold letOwnedTupleGo;cases tg<;>first
  |exact wpAny_pure a
  | (cases u <;> first
    |exact wpAny_pure a
    | (refine wpAny_bind (wpAny_load b ?_)
       rw[hc,hd];show wpAny M A (if (["enumerate","zip","dict_itemiterator","dict_reverseitemiterator","odict_iterator","itertools.zip_longest","itertools.pairwise"].contains n && vs[0]? == some (rawInt _))=true then _ else _) Q E s;rw[if_neg (by intro h;rw[c,Bool.false_and]at h;cases h)];exact wpAny_pure a))
noncomputable def Itl(K:PySem.W.Frag)(a:Addr):It :=
 ⟨λi H=>∃xs x,SqL K H a xs/\xs[i]?=some x,λi H x H'=>H'=H/\∀xs,SqL K H a xs->xs[i]?=some x,λi H=>∃xs,SqL K H a xs/\xs.length<=i⟩
noncomputable def Itt(K:PySem.W.Frag)(a:Addr):It :=
 ⟨λi H=>∃xs x,SqT K H a xs/\xs[i]?=some x,λi H x H'=>H'=H/\∀xs,SqT K H a xs->xs[i]?=some x,λi H=>∃xs,SqT K H a xs/\xs.length<=i⟩
noncomputable def Itr(lo:Int)(n:Nat):It:=⟨λi _=>i<n,λi H x H'=>H'=H/\x=.int (lo+i),λi _=>n<=i⟩
theorem a8w{P:Program}{w:World}{K:PySem.W.Frag}{tg:Expr}(a it:Addr):Turn P w K tg (Itl K a) [it] it (λi h=>h.IsListIter it a i) where
 mem:=by simp
 obj:=λi h st b f=>by
  have e:b=it:=by simpa using f
  subst e;obtain⟨o,e,c,d⟩:=st;exact⟨o,e,λv z=>by rw[d]at z;cases z⟩
 keep:=λi h h' st k=>st.at λo e=>k it (by simp) o e
 item:=by
  intro X m hw t hc i pins s σ H E I hf st l;subst m hw t;obtain⟨xs,x,g,n⟩:=l;obtain⟨its,A,p,hz⟩:=I.list g;obtain⟨u,D,G⟩:=A.get n;obtain⟨q,f1,f2,y,r,j⟩:=hf it (by simp);refine wpAny_pyNext_list_item st p.isList (x:=u) (by simpa using D) λh' st' sb=>?_;have F:Inv X pins σ H {s with heap:=h'}:=I.turned (t':=s.toks) (λb o f e=>(sb.2 b f).trans e) q f1 y r j;obtain⟨o,e,c,d⟩:=id st';exact⟨u,rfl,b2d (s:={s with heap:=h'}) e c d (by decide) ⟨x,H,F,G,⟨rfl,λys B=>by rw[I.list_inj B g];exact n⟩,st',λb f=>(hf b f).1⟩⟩
 done:=by
  intro X m hw t hc i pins s σ H E I hf st l;subst m hw t;obtain⟨xs,g,n⟩:=l;obtain⟨its,A,p,hz⟩:=I.list g;obtain⟨q,f1,f2,y,r,j⟩:=hf it (by simp);have hl:=A.length;exact wpAny_pyNext_list_end (I.ok.hd hc) st p.isList (by simp;omega) λh' C=>⟨rfl,I.turned (t':=s.toks) (λb o f e=>C b o f e) q f1 y r j⟩
 self:=λ_ _ _ _ _ st h=>wpAny_pyIter_listiter st h
theorem a6g{P:Program}{w:World}{K:PySem.W.Frag}{tg:Expr}(a it:Addr):Turn P w K tg (Itt K a) [it] it (λi h=>h.IsTupleIter it a i) where
 mem:=by simp
 obj:=λi h st b f=>by
  have e:b=it:=by simpa using f
  subst e;obtain⟨o,e,c,d⟩:=st;exact⟨o,e,λv z=>by rw[d]at z;cases z⟩
 keep:=λi h h' st k=>st.at λo e=>k it (by simp) o e
 item:=by
  intro X m hw t hc i pins s σ H E I hf st l;subst m hw t;obtain⟨xs,x,g,n⟩:=l;obtain⟨its,A,p,hz⟩:=I.tuple g;obtain⟨u,D,G⟩:=A.get n;obtain⟨q,f1,f2,y,r,j⟩:=hf it (by simp);refine wpAny_pyNext_tuple_item st (show s.heap.IsTuple a its.toArray from p) (x:=u) (by simpa using D) λh' st' sb=>?_;have F:Inv X pins σ H {s with heap:=h'}:=I.turned (t':=s.toks) (λb o f e=>(sb.2 b f).trans e) q f1 y r j;obtain⟨o,e,c,d⟩:=id st';exact⟨u,rfl,b2d (s:={s with heap:=h'}) e c d (by decide) ⟨x,H,F,G,⟨rfl,λys B=>by rw[I.tuple_inj B g];exact n⟩,st',λb f=>(hf b f).1⟩⟩
 done:=by
  intro X m hw t hc i pins s σ H E I hf st l;subst m hw t;obtain⟨xs,g,n⟩:=l;obtain⟨its,A,p,hz⟩:=I.tuple g;obtain⟨q,f1,f2,y,r,j⟩:=hf it (by simp);have hl:=A.length;exact wpAny_pyNext_tuple_end (I.ok.hd hc) st (show s.heap.IsTuple a its.toArray from p) (by simp;omega) λh' C=>⟨rfl,I.turned (t':=s.toks) (λb o f e=>C b o f e) q f1 y r j⟩
 self:=λ_ _ _ _ _ st h=>wpAny_pyIter_tupleiter st h
theorem a6h{P:Program}{w:World}{K:PySem.W.Frag}{tg:Expr}(it:Addr)(lo:Int)(n:Nat):Turn P w K tg (Itr lo n) [it] it (λi h=>IsRangeIter h it (lo+(i:Nat)*1) ((n:Int)-(i:Nat)) 1) where
 mem:=by simp
 obj:=λi h st b a=>by
  have e:b=it:=by simpa using a
  subst e;exact⟨_,st,λv z=>by
   have u:Data.fields _=Data.cell v:=z;cases u⟩
 keep:=λi h h' st k=>k it (by simp) _ st
 item:=by
  intro X f hw l hc i pins s σ H E I hf st d;subst f hw l;obtain⟨g,f1,f2,m,j,c⟩:=hf it (by simp);have W:=Walks.range (prog:=X.prog) (w:=X.w) (I.ok.hd hc) it lo 1 n;refine W.item i s _ _ d st λv h' tk q st' kk=>?_;obtain⟨t,rfl⟩:=q;have r:Inv X pins σ H {s with heap:=h',toks:=tk}:=I.turned (λb o a e=>kk b o (by simpa using a) e) g f1 m j c;refine⟨_,rfl,b2d (s:={s with heap:=h',toks:=tk}) (n:="range_iterator") st' rfl rfl (by decide) ⟨.int (lo+i),H,r,⟨t,?_⟩,⟨rfl,rfl⟩,st',λb a=>(hf b a).1⟩⟩;rw[Int.mul_one]
 done:=by
  intro X f hw l hc i pins s σ H E I hf st d;subst f hw l;obtain⟨g,f1,f2,m,j,c⟩:=hf it (by simp);exact wpAny_pyNext_range_end (I.ok.hd hc) st (by have:n<=i:=d;omega) λh' p=>⟨rfl,I.turned (t':=s.toks) (λb o a e=>p b o a e) g f1 m j c⟩
 self:=λ_ _ _ _ _ st h=>wpAny_pyIter_rangeiter st h
section
variable {X:Cx}{tg:Expr}
def b2a(K:PySem.W.Frag)(tl:TE):TI:=λσ H R=>tl σ H λx H1=>∃a,x=.ref a/\(∃xs,SqL K H1 a xs)/\R (Itl K a) H1
def b6v(K:PySem.W.Frag)(tl:TE):TI:=λσ H R=>tl σ H λx H1=>∃a,x=.ref a/\(∃xs,SqT K H1 a xs)/\R (Itt K a) H1
theorem b3v{l:Expr}{tl:TE}(hl:PE X l tl):PI X tg l (b2a X.K tl):=by
 intro pins s σ H R I h;refine thn (hl pins s σ H _ I h) λv s1 ⟨x,H1,c,r1,q1⟩=>?_;obtain⟨a,e,⟨xs,d⟩,q⟩:=q1;subst e;cases r1;obtain⟨its,g,p,hz⟩:=c.list d;refine wpAny_pyIter_list p.isList ?_;refine⟨s1.heap.objs.size,[s1.heap.objs.size],_,_,H1,rfl,c.kept (t':=s1.toks) λb o e=>Heap.get?_push_of_some _ e,a8w a _,⟨_,Heap.get?_push_size _ rfl,rfl,rfl⟩,λb f=>?_,q⟩;have e:b=s1.heap.objs.size:=by simpa using f
 subst e;exact c.fpOk (Nat.le_refl _) (c.hok.fresh (Nat.le_refl _))
theorem b5D{l:Expr}{tl:TE}(hl:PE X l tl):PI X tg l (b6v X.K tl):=by
 intro pins s σ H R I h;refine thn (hl pins s σ H _ I h) λv s1 ⟨x,H1,c,r1,q1⟩=>?_;obtain⟨a,e,⟨xs,d⟩,q⟩:=q1;subst e;cases r1;obtain⟨its,g,p,hz⟩:=c.tuple d;refine wpAny_pyIter_tuple (show s1.heap.IsTuple a its.toArray from p) ?_;refine⟨s1.heap.objs.size,[s1.heap.objs.size],_,_,H1,rfl,c.kept (t':=s1.toks) λb o e=>Heap.get?_push_of_some _ e,a6g a _,⟨_,Heap.get?_push_size _ rfl,rfl,rfl⟩,λb f=>?_,q⟩;have e:b=s1.heap.objs.size:=by simpa using f
 subst e;exact c.fpOk (Nat.le_refl _) (c.hok.fresh (Nat.le_refl _))
theorem b0B{pins:List (Addr×Obj)}{σ:St}{H:Hp}{s:Shared}{R:It->Hp->Prop}{E:Value->Shared->Prop}{lo hi:Int}{t u v:Tok}{tk:Nat}(I:Inv X pins σ H s)(h1 : -(2 ^ 62)<=lo)(h2:lo<2 ^ 62)(d : -(2 ^ 62)<=hi)(g:hi<2 ^ 62)
  (q:R (Itr lo (hi-lo).toNat) H):wpAny (model X.prog X.w) X.A (pyIter (.ref s.heap.objs.size)) (PIE X pins σ tg R) E {s with heap:=s.heap.push {cls:=.type "range",data:=.fields #[.int lo t,.int hi u,.int 1 v]},toks:=tk}:=by
 refine wpAny_pyIter_range (IsRange.new ..) (small_one h1 h2 d g) ?_;have a:Inv X pins σ H {s with heap:=s.heap.push {cls:=.type "range",data:=.fields #[.int lo t,.int hi u,.int 1 v]},toks:=tk}:=I.kept λb o e=>Heap.get?_push_of_some _ e;refine⟨(s.heap.push {cls:=.type "range",data:=.fields #[.int lo t,.int hi u,.int 1 v]}).objs.size,[(s.heap.push {cls:=.type "range",data:=.fields #[.int lo t,.int hi u,.int 1 v]}).objs.size],_,_,H,rfl,
  a.kept (t':=tk) λb o e=>Heap.get?_push_of_some _ e,a6h _ lo (hi-lo).toNat,?_,λb f=>?_,q⟩
 .have e1:lo+((0:Nat):Int)*1=lo:=by simp
  have c:(((hi-lo).toNat:Nat):Int)-((0:Nat):Int)=Builtin.Range.rangeSize lo hi 1:=by rw[rangeSize_one];split<;>omega
  show IsRangeIter _ _ (lo+((0:Nat):Int)*1) ((((hi-lo).toNat:Nat):Int)-((0:Nat):Int)) 1;rw[e1,c];exact Heap.get?_push_size _ rfl
 .have e:b=(s.heap.push {cls:=.type "range",data:=.fields #[.int lo t,.int hi u,.int 1 v]}).objs.size:=by simpa using f
  subst e;exact a.fpOk (Nat.le_refl _) (a.hok.fresh (Nat.le_refl _))
def b4Z(ta:TA):TI:=λσ H R=>ta σ H λvs H1=>∃j:Int,vs=[.int j] /\ -(2 ^ 62)<=j/\j<2 ^ 62/\R (Itr 0 j.toNat) H1
theorem a8Q{a:Expr}{ta:TA}{p pos:Pos}(c:Gl X "range")(b:X.mg "range"=none)(ha:PA X [a] ta)(hs:starEach [a] X.env=[(false,eval a X.env)]:=by rfl):PI X tg (.Call (.Name "range" p) [a] [] pos) (b4Z ta):=by
 intro pins s σ H R I h;refine Call_ (a2x I c b boot_range (PyProof.Rows.callWith_type1 (thn (ha pos pins s σ H _ I h) λus s1 ⟨vs,H1,d,r1,q1⟩=>?_) hs rfl));obtain⟨j,e,q1,q2,q⟩:=q1;subst e;cases r1 with
 |cons r rr =>
  cases rr;obtain⟨t,rfl⟩:=r;exact call_range_1 (b0B d (by omega) (by omega) q1 q2 (by simpa using q))
def b7c(wi:TI)(g:TG)(tb:TS):TS:=λD σ H=>wi σ H λJ H1=>∃W:Nat->Nat->St->Hp->Prop,(∃m,W 0 m σ H1)/\∀i m σ H,W i m σ H ->
 (J.stop i H/\D.nx σ H)∨(J.go i H/\∃N:St->Hp->Prop,(∀σ' H',N σ' H'->∃m',m'<m/\W (i+1) m' σ' H')/\∀x H',J.yld i H x H'->g x σ H' λσ2 H2=>tb {D with nx:=N,ct:=N,bk:=D.nx} σ2 H2)
noncomputable def a2n(fp:List Addr)(h:Heap):List (Addr×Obj):=fp.filterMap λb=>(h.get? b).map λo=>(b,o)
theorem S2{fp:List Addr}{h:Heap}{b:Addr}{o:Obj}(a:b∈fp)(e:h.get? b=some o):(b,o)∈a2n fp h:=List.mem_filterMap.mpr ⟨b,a,by rw[e];rfl⟩
theorem a8Z{fp:List Addr}{h:Heap}{p:Addr×Obj}(hp:p∈a2n fp h):p.1∈fp/\h.get? p.1=some p.2:=by
 obtain⟨b,a,e⟩:=List.mem_filterMap.mp hp;cases q:h.get? b with
 |none=>rw[q]at e;cases e
 |some o =>
  rw[q]at e;have c:(b,o)=p:=Option.some.inj e;subst c;exact⟨a,q⟩
theorem Inv.pinned{pins:List (Addr×Obj)}{σ:St}{H:Hp}{s:Shared}{fp:List Addr}(I:Inv X pins σ H s)(hf:∀b∈fp,a1d X pins H b)(f:∀b∈fp,∃o,s.heap.get? b=some o/\∀v,o.data≠.cell v):Inv X (pins++a2n fp s.heap) σ H s :=
 I.pins_of λp hp=>(List.mem_append.mp hp).elim (λz=>I.pin p (List.mem_append_right _ z)) λz=>by
  obtain⟨a,e⟩:=a8Z z;obtain⟨g,f1,f2,_⟩:=hf p.1 a;obtain⟨o,c,d⟩:=f p.1 a;rw[e]at c;cases c;exact⟨e,g,f1,f2,d⟩
theorem Inv.unpinned{pins pl:List (Addr×Obj)}{σ:St}{H:Hp}{s:Shared}(I:Inv X (pins++pl) σ H s):Inv X pins σ H s:=I.pins_of λp hp=>I.pin p (List.mem_append_right _ (List.mem_append_left _ hp))
theorem b5z{j:Expr}{body:List Stmt}{wi:TI}{g:TG}{tb:TS}{pos:Pos}(hp:PassesOwn (model X.prog X.w) X.A X.env X.xe)(hc:X.calm=true)(hi:PI X tg j wi)(S:PG X tg g)(a:PSs X body tb)
  (hs:∀x,foldedSetIterable j X.env x=pure x:=by intro _;rfl):PS X (.For tg j body [] pos) (b7c wi g tb):=by
 intro pins s σ H D I h;refine wpAny_For (thn (hi pins s σ H _ I h) λv s1 h1=>thn h1 λa0 s2 h2=>?_) hs;obtain⟨it,fp,O,J,H2,e,I2,T,E,f2,W,⟨m0,w0⟩,y⟩:=h2;subst e;have l:∀{H':Hp},(∀b∈fp,H' b=none)->∀b∈fp,a1d X pins H' b:=λhn b a=>⟨hn b a,(f2 b a).2⟩;refine codeAny_forLoop_any (λn s'=>∃i σ' H',Inv X pins σ' H' s'/\O i s'.heap/\(∀b∈fp,H' b=none)/\W i n σ' H') ?_ m0 ⟨0,σ,H2,I2,E,λb a=>(f2 b a).1,w0⟩;rintro n P ⟨i,σ3,C,Q,B,t,w3⟩;rcases y i n σ3 C w3 with⟨stop,qn⟩|⟨go,N,V,step⟩
 .refine wpAny_passesOwn hp (thn (T.done X rfl rfl rfl hc i pins P σ3 C X.xe Q (l t) B stop) λr s4 ⟨hr,R⟩=>?_);subst hr;exact wpAny_execs_nil ⟨σ3,C,R,qn⟩
 .refine wpAny_passesOwn hp (thn (T.item X rfl rfl rfl hc i pins P σ3 C X.xe Q (l t) B go) λr s4 ⟨u,hr,h4⟩=>?_);subst hr;refine wpAny_passesOwn hp (thn h4 λ_ M ⟨x,L,Z,U,y5,q,F⟩=>?_);have K:=Z.pinned (l F) (T.obj _ _ q);refine wpAny_passesOwn hp (thn (S _ M σ3 L x u _ K U (step x L y5)) λ_ s6 ⟨σ6,H6,I6,q6⟩=>?_);refine wpAny_passesOwn hp (thn (a _ s6 σ6 H6 _ I6 q6) λf G q7=>?_);have p:∀{σ7:St}{k:Hp},Inv X (pins++a2n fp M.heap) σ7 k G->N σ7 k->∃m,m<n/\∃i σ' H',Inv X pins σ' H' G/\O i G.heap/\(∀b∈fp,H' b=none)/\W i m σ' H':=λ{σ7 k} c z=>by
   obtain⟨m',hm,Y⟩:=V σ7 k z;refine⟨m',hm,i+1,σ7,k,c.unpinned,T.keep _ _ _ q λb a o e=>(c.pin (b,o) (List.mem_append_right _ (List.mem_append_right _ (S2 a e)))).1,λb a=>?_,Y⟩;obtain⟨o,e,d⟩:=T.obj _ _ q b a;exact(c.pin (b,o) (List.mem_append_right _ (List.mem_append_right _ (S2 a e)))).2.1
  cases f with
  |next=>obtain⟨σ7,k,c,z⟩:=q7;exact p c z
  |cont=>obtain⟨σ7,k,c,z⟩:=q7;exact p c z
  |brk=>obtain⟨σ7,k,c,q7⟩:=q7;exact⟨σ7,k,c.unpinned,q7⟩
  |ret v=>obtain⟨x7,σ7,k,c,r7,q7⟩:=q7;exact⟨x7,σ7,k,c.unpinned,r7,q7⟩
end
theorem M9{K:PySem.W.Frag}{a:Addr}{xs:List V}{g:TG}{tb:TS}{D:Ends}{σ:St}{H:Hp}(b:Nat->St->Hp->Prop)(h0:b 0 σ H)(hl:∀i σ H,i<=xs.length->b i σ H->SqL K H a xs)
  (hs:∀i x σ H,xs[i]?=some x->b i σ H->g x σ H λσ2 H2=>tb {D with nx:=b (i+1),ct:=b (i+1),bk:=D.nx} σ2 H2) (hd:∀σ H,b xs.length σ H->D.nx σ H) :
  ∃W:Nat->Nat->St->Hp->Prop,(∃m,W 0 m σ H)/\∀i m σ H,W i m σ H ->
   ((Itl K a).stop i H/\D.nx σ H)∨((Itl K a).go i H/\∃N:St->Hp->Prop,(∀σ' H',N σ' H'->∃m',m'<m/\W (i+1) m' σ' H')/\∀x H',(Itl K a).yld i H x H'->g x σ H' λσ2 H2=>tb {D with nx:=N,ct:=N,bk:=D.nx} σ2 H2):=by
 refine⟨λi m σ H=>m=xs.length-i/\i<=xs.length/\b i σ H,⟨xs.length,by simp,Nat.zero_le _,h0⟩,?_⟩;rintro i m σ H ⟨rfl,hi,p⟩;have q:=hl i σ H hi p;by_cases c:i<xs.length
 .refine .inr ⟨⟨xs,xs[i],q,by simp[c]⟩,b (i+1),λσ' H' d=>⟨xs.length-(i+1),by omega,rfl,c,d⟩,λx H' y=>?_⟩;obtain⟨e,y⟩:=y;subst e;exact hs i x σ _ (y xs q) p
 .have e:i=xs.length:=by omega
  subst e;exact .inl ⟨⟨xs,q,Nat.le_refl _⟩,hd σ H p⟩
theorem a4G{K:PySem.W.Frag}{a:Addr}{xs:List V}{g:TG}{tb:TS}{D:Ends}{σ:St}{H:Hp}(b:Nat->St->Hp->Prop)(h0:b 0 σ H)(hl:∀i σ H,i<=xs.length->b i σ H->SqT K H a xs)
  (hs:∀i x σ H,xs[i]?=some x->b i σ H->g x σ H λσ2 H2=>tb {D with nx:=b (i+1),ct:=b (i+1),bk:=D.nx} σ2 H2) (hd:∀σ H,b xs.length σ H->D.nx σ H) :
  ∃W:Nat->Nat->St->Hp->Prop,(∃m,W 0 m σ H)/\∀i m σ H,W i m σ H ->
   ((Itt K a).stop i H/\D.nx σ H)∨((Itt K a).go i H/\∃N:St->Hp->Prop,(∀σ' H',N σ' H'->∃m',m'<m/\W (i+1) m' σ' H')/\∀x H',(Itt K a).yld i H x H'->g x σ H' λσ2 H2=>tb {D with nx:=N,ct:=N,bk:=D.nx} σ2 H2):=by
 refine⟨λi m σ H=>m=xs.length-i/\i<=xs.length/\b i σ H,⟨xs.length,by simp,Nat.zero_le _,h0⟩,?_⟩;rintro i m σ H ⟨rfl,hi,p⟩;have q:=hl i σ H hi p;by_cases c:i<xs.length
 .refine .inr ⟨⟨xs,xs[i],q,by simp[c]⟩,b (i+1),λσ' H' d=>⟨xs.length-(i+1),by omega,rfl,c,d⟩,λx H' y=>?_⟩;obtain⟨e,y⟩:=y;subst e;exact hs i x σ _ (y xs q) p
 .have e:i=xs.length:=by omega
  subst e;exact .inl ⟨⟨xs,q,Nat.le_refl _⟩,hd σ H p⟩
theorem a3C{lo:Int}{n:Nat}{g:TG}{tb:TS}{D:Ends}{σ:St}{H:Hp}(b:Nat->St->Hp->Prop)(h0:b 0 σ H)
  (hs:∀i σ H,i<n->b i σ H->g (.int (lo+i)) σ H λσ2 H2=>tb {D with nx:=b (i+1),ct:=b (i+1),bk:=D.nx} σ2 H2) (hd:∀σ H,b n σ H->D.nx σ H) :
  ∃W:Nat->Nat->St->Hp->Prop,(∃m,W 0 m σ H)/\∀i m σ H,W i m σ H ->
   ((Itr lo n).stop i H/\D.nx σ H)∨((Itr lo n).go i H/\∃N:St->Hp->Prop,(∀σ' H',N σ' H'->∃m',m'<m/\W (i+1) m' σ' H')/\∀x H',(Itr lo n).yld i H x H'->g x σ H' λσ2 H2=>tb {D with nx:=N,ct:=N,bk:=D.nx} σ2 H2):=by
 refine⟨λi m σ H=>m=n-i/\i<=n/\b i σ H,⟨n,by simp,Nat.zero_le _,h0⟩,?_⟩;rintro i m σ H ⟨rfl,hi,p⟩;by_cases a:i<n
 .refine .inr ⟨a,b (i+1),λσ' H' c=>⟨n-(i+1),by omega,rfl,a,c⟩,λx H' y=>?_⟩;obtain⟨e,y⟩:=y;subst e y;exact hs i σ _ a p
 .have e:i=n:=by omega
  subst e;exact .inl ⟨Nat.le_refl _,hd σ H p⟩
abbrev R2:=V->V->Hp->VK->Prop
def OpR(X:Cx)(f:Value->Value->Sem Value)(r:R2):Prop :=
 ∀(pins:List (Addr×Obj)) (s:Shared) (σ:St) (H:Hp) (x y:V) (v u:Value) (Q:VK),Inv X pins σ H s->RelV x v->RelV y u->r x y H Q ->
  wpAny (model X.prog X.w) X.A (f v u) (EP X pins σ Q) X.xe s
def C7(X:Cx)(f:Value)(r:List V->Hp->VK->Prop):Prop :=
 ∀(pins:List (Addr×Obj)) (s:Shared) (σ:St) (H:Hp) (xs:List V) (us:List Value) (Q:VK),Inv X pins σ H s->Vals xs us->r xs H Q ->
  wpAny (model X.prog X.w) X.A (call f us) (EP X pins σ Q) X.xe s
def b7Z(X:Cx)(r:V->Hp->(Bool->Hp->Prop)->Prop):Prop :=
 ∀(pins:List (Addr×Obj)) (s:Shared) (σ:St) (H:Hp) (x:V) (v:Value) (Q:Bool->Hp->Prop),Inv X pins σ H s->RelV x v->r x H Q ->
  wpAny (model X.prog X.w) X.A (truthy v) (TP X pins σ Q) X.xe s
def tOp(r:R2)(ta tb:TE):TE:=λσ H Q=>ta σ H λx H1=>tb σ H1 λy H2=>r x y H2 Q
def tUn(r:V->Hp->VK->Prop)(ta:TE):TE:=λσ H Q=>ta σ H λx H1=>r x H1 Q
def rI(C:Int->Int->Prop)(g:Int->Int->V):R2:=λx y H Q=>∃i j,x=.int i/\y=.int j/\C i j/\Q (g i j) H
def rI0(g:Int->Int->V):R2:=λx y H Q=>∃i j,x=.int i/\y=.int j/\Q (g i j) H
def rU(g:Int->V):V->Hp->VK->Prop:=λx H Q=>∃i,x=.int i/\Q (g i) H
section
variable {X:Cx}{a b c:Expr}{ta tb tc:TE}{pos:Pos}
theorem b6E(ha:PE X a ta)(d:PE X b tb){pins:List (Addr×Obj)}{s:Shared}{σ:St}{H:Hp}{R:V->V->Hp->Prop}(I:Inv X pins σ H s)
  (h:ta σ H λx H1=>tb σ H1 λy H2=>R x y H2) {Q:Value->Shared->Prop}{f:Value->Value->Sem Value}
  (hf:∀v u s2 x y H2,Inv X pins σ H2 s2->RelV x v->RelV y u->R x y H2->wpAny (model X.prog X.w) X.A (f v u) Q X.xe s2) :
  wpAny (model X.prog X.w) X.A (eval a X.env) (λv s₁=>wpAny (model X.prog X.w) X.A (eval b X.env) (λu s₂=>wpAny (model X.prog X.w) X.A (f v u) Q X.xe s₂) X.xe s₁) X.xe s:=by
 refine thn (ha pins s σ H _ I h) λv s1 ⟨x,H1,e,r1,q1⟩=>?_;refine thn (d pins s1 σ H1 _ e q1) λu s2 ⟨y,H2,c,r2,q2⟩=>?_;exact hf v u s2 x y H2 c r1 r2 q2
theorem Z3{c:Operator}{r:R2}(f:OpR X (binaryOp c) r)(ha:PE X a ta)(g:PE X b tb):PE X (.BinOp a c b pos) (tOp r ta tb):=by
 intro pins s σ H Q I h;exact wpAny_BinOp (b6E ha g I h λv u s2 x y H2 d i e q=>f pins s2 σ H2 x y v u Q d i e q)
theorem opI{f:Value->Value->Sem Value}{C:Int->Int->Prop}{g:Int->Int->Int}
  (rule:∀(i j:Int) (t u:Tok) (s:Shared) (Q:Value->Shared->Prop) (E:Value->Shared->Prop),C i j->Q (.int (g i j) s.toks) {s with toks:=s.toks+1}->wpAny (model X.prog X.w) X.A (f (.int i t) (.int j u)) Q E s) :
  OpR X f (rI C λi j=>.int (g i j)):=by
 intro pins s σ H x y v u Q I b a h;obtain⟨i,j,rfl,rfl,hc,q⟩:=h;obtain⟨t,rfl⟩:=b;obtain⟨t',rfl⟩:=a;exact rule i j t t' s _ _ hc ⟨.int (g i j),H,I.tok _,⟨_,rfl⟩,q⟩
theorem b7z{f:Value->Value->Sem Value}{g:Int->Int->Int}
  (rule:∀(i j:Int) (t u:Tok) (s:Shared) (Q:Value->Shared->Prop) (E:Value->Shared->Prop),Q (.int (g i j) s.toks) {s with toks:=s.toks+1}->wpAny (model X.prog X.w) X.A (f (.int i t) (.int j u)) Q E s) :
  OpR X f (rI0 λi j=>.int (g i j)):=by
 intro pins s σ H x y v u Q I b a h;obtain⟨i,j,rfl,rfl,q⟩:=h;obtain⟨t,rfl⟩:=b;obtain⟨t',rfl⟩:=a;exact rule i j t t' s _ _ ⟨.int (g i j),H,I.tok _,⟨_,rfl⟩,q⟩
theorem b3K{f:Value->Value->Sem Value}{g:Int->Int->Bool}
  (rule:∀(i j:Int) (t u:Tok) (s:Shared) (Q:Value->Shared->Prop) (E:Value->Shared->Prop),Q (.bool (g i j)) s->wpAny (model X.prog X.w) X.A (f (.int i t) (.int j u)) Q E s) :
  OpR X f (rI0 λi j=>.bl (g i j)):=by
 intro pins s σ H x y v u Q I b a h;obtain⟨i,j,rfl,rfl,q⟩:=h;obtain⟨t,rfl⟩:=b;obtain⟨t',rfl⟩:=a;exact rule i j t t' s _ _ ⟨.bl (g i j),H,I,rfl,q⟩
def b7K(i j:Int):Prop:=0<j/\j<1073741824
def b7J(i j:Int):Prop:=0<=j/\j<=1000000/\i.natAbs<2 ^ 64
def CMul(i j:Int):Prop:=(-(2 ^ 64)<i/\i<2 ^ 64)∨(-(2 ^ 64)<j/\j<2 ^ 64)
theorem CMul.ok{i j:Int}(h:CMul i j):IntMulOk i j:=by
 rcases h with⟨h1,h2⟩|⟨h1,h2⟩
 .exact .of_left (intBits_le_64 h1 h2)
 .exact .of_right (intBits_le_64 h1 h2)
theorem b6a:OpR X (binaryOp .Add) (rI0 λi j=>.int (i+j)):=b7z λ_ _ _ _ _ _ _ q=>add_int q
theorem b5U:OpR X (binaryOp .Sub) (rI0 λi j=>.int (i-j)):=b7z λ_ _ _ _ _ _ _ q=>sub_int q
theorem b5Y:OpR X (binaryOp .Mult) (rI CMul λi j=>.int (i*j)):=opI λ_ _ _ _ _ _ _ hc q=>mul_int q hc.ok
theorem b3I:OpR X (binaryOp .FloorDiv) (rI b7K λi j=>.int (i / j)):=opI λi j _ _ _ _ _ hc q=>by
 have h1:(0:Int)<j:=hc.1;have h2:j<1073741824:=hc.2;exact floordiv_int (by omega) (by rw[Int.fdiv_eq_ediv_of_nonneg i (by omega)];exact q) (.inl (PyProof.noPylong_small (by omega)))
theorem b5Z:OpR X (binaryOp .Mod) (rI (λ_ j=>0<j) λi j=>.int (i % j)):=opI λi j _ _ _ _ _ hc q=>by
 have h1:(0:Int)<j:=hc;exact mod_int' (by omega) (by rw[Int.fmod_eq_emod_of_nonneg i (by omega)];exact q)
theorem b5V:OpR X (binaryOp .Pow) (rI b7J λi j=>.int (i ^ j.toNat)):=opI λ_ _ _ _ _ _ _ hc q=>pow_int_small hc.1 hc.2.1 hc.2.2 q
end
noncomputable def b7g:V->V->Bool
 |.non,.non=>true | .non,.int _=>true | .int _,.non=>true | .non,.bl _=>true | .bl _,.non=>true | .non,.str _=>true | .str _,.non=>true
 |.int _,.int _=>true | .bl _,.bl _=>true | .str _,.str _=>true | .byt _,.byt _=>true
 |.int _,.str _=>true | .str _,.int _=>true | .bl _,.str _=>true | .str _,.bl _=>true
 |_,_=>false
def rEq:R2:=λx y H Q=>b7g x y=true/\Q (.bl (decide (x=y))) H
def rNe:R2:=λx y H Q=>b7g x y=true/\Q (.bl (!decide (x=y))) H
theorem a8i{i j:Int}:decide (V.int i=V.int j)=(i==j):=by
 rw[Bool.eq_iff_iff];simp
theorem b2m{i j:Bool}:decide (V.bl i=V.bl j)=(i==j):=by
 rw[Bool.eq_iff_iff];simp
theorem a8h{i j:Str}:decide (V.str i=V.str j)=(i==j):=by
 rw[Bool.eq_iff_iff];simp
theorem a8j{i j:Array UInt8}:decide (V.byt i=V.byt j)=(i.toList==j.toList):=by
 rw[Bool.eq_iff_iff];cases i;cases j;simp
section
variable {X:Cx}{a b c:Expr}{ta tb tc:TE}{pos:Pos}
theorem B3{pins:List (Addr×Obj)}{σ:St}{H:Hp}{s:Shared}{Q:VK}{k a:Bool}(I:Inv X pins σ H s)(q:Q (.bl k) H)(e:k=a):EP X pins σ Q (.bool a) s:=by
 subst e;exact⟨.bl k,H,I,rfl,q⟩
theorem b4U:OpR X (compareOp .Eq) rEq:=by
 intro pins s σ H x y v u Q I b a h;obtain⟨hs,q⟩:=h;cases x with
 |non =>
  cases b;cases y with
  |non=>cases a;exact PySem.EqNone.eq_none_none (B3 I q (by simp))
  |bl j=>cases a;exact PySem.EqNone.eq_none_bool (B3 I q (by simp))
  |int j=>obtain⟨t',rfl⟩:=a;exact PySem.EqNone.eq_none_int (B3 I q (by simp))
  |str j=>obtain⟨t',rfl⟩:=a;exact PySem.EqNone.eq_none_str (B3 I q (by simp))
  |_=>exact absurd (show false=true from hs) Bool.false_ne_true
 |bl i =>
  cases b;cases y with
  |non=>cases a;exact PySem.EqNone.eq_bool_none (B3 I q (by simp))
  |bl j=>cases a;exact eq_bool (B3 I q b2m)
  |str j=>obtain⟨t',rfl⟩:=a;exact PySem.EqMixed.eq_bool_str (B3 I q (by simp))
  |_=>exact absurd (show false=true from hs) Bool.false_ne_true
 |int i =>
  obtain⟨t,rfl⟩:=b;cases y with
  |non=>cases a;exact PySem.EqNone.eq_int_none (B3 I q (by simp))
  |int j=>obtain⟨t',rfl⟩:=a;exact eq_int (B3 I q a8i)
  |str j=>obtain⟨t',rfl⟩:=a;exact PySem.EqMixed.eq_int_str (B3 I q (by simp))
  |_=>exact absurd (show false=true from hs) Bool.false_ne_true
 |str i =>
  obtain⟨t,rfl⟩:=b;cases y with
  |non=>cases a;exact PySem.EqNone.eq_str_none (B3 I q (by simp))
  |bl j=>cases a;exact PySem.EqMixed.eq_str_bool (B3 I q (by simp))
  |int j=>obtain⟨t',rfl⟩:=a;exact PySem.EqMixed.eq_str_int (B3 I q (by simp))
  |str j=>obtain⟨t',rfl⟩:=a;exact eq_str (B3 I q a8h)
  |_=>exact absurd (show false=true from hs) Bool.false_ne_true
 |byt i =>
  obtain⟨t,rfl⟩:=b;cases y with
  |byt j=>obtain⟨t',rfl⟩:=a;exact PySem.W.eq_bytes (B3 I q a8j)
  |_=>exact absurd (show false=true from hs) Bool.false_ne_true
 |_=>cases y<;>exact absurd (show false=true from hs) Bool.false_ne_true
theorem b7u:OpR X (compareOp .NotEq) rNe:=by
 intro pins s σ H x y v u Q I b a h;obtain⟨hs,q⟩:=h;cases x with
 |non =>
  cases b;cases y with
  |non=>cases a;exact PySem.EqNone.ne_none_none (B3 I q (by simp))
  |bl j=>cases a;exact PySem.EqNone.ne_none_bool (B3 I q (by simp))
  |int j=>obtain⟨t',rfl⟩:=a;exact PySem.EqNone.ne_none_int (B3 I q (by simp))
  |str j=>obtain⟨t',rfl⟩:=a;exact PySem.EqNone.ne_none_str (B3 I q (by simp))
  |_=>exact absurd (show false=true from hs) Bool.false_ne_true
 |bl i =>
  cases b;cases y with
  |non=>cases a;exact PySem.EqNone.ne_bool_none (B3 I q (by simp))
  |bl j=>cases a;exact ne_bool (B3 I q (congrArg not b2m))
  |str j=>obtain⟨t',rfl⟩:=a;exact PySem.EqMixed.ne_bool_str (B3 I q (by simp))
  |_=>exact absurd (show false=true from hs) Bool.false_ne_true
 |int i =>
  obtain⟨t,rfl⟩:=b;cases y with
  |non=>cases a;exact PySem.EqNone.ne_int_none (B3 I q (by simp))
  |int j=>obtain⟨t',rfl⟩:=a;exact ne_int (B3 I q (congrArg not a8i))
  |str j=>obtain⟨t',rfl⟩:=a;exact PySem.EqMixed.ne_int_str (B3 I q (by simp))
  |_=>exact absurd (show false=true from hs) Bool.false_ne_true
 |str i =>
  obtain⟨t,rfl⟩:=b;cases y with
  |non=>cases a;exact PySem.EqNone.ne_str_none (B3 I q (by simp))
  |bl j=>cases a;exact PySem.EqMixed.ne_str_bool (B3 I q (by simp))
  |int j=>obtain⟨t',rfl⟩:=a;exact PySem.EqMixed.ne_str_int (B3 I q (by simp))
  |str j=>obtain⟨t',rfl⟩:=a;exact ne_str (B3 I q (congrArg not a8h))
  |_=>exact absurd (show false=true from hs) Bool.false_ne_true
 |byt i =>
  obtain⟨t,rfl⟩:=b;cases y with
  |byt j=>obtain⟨t',rfl⟩:=a;exact PySem.W.ne_bytes (B3 I q (congrArg not a8j))
  |_=>exact absurd (show false=true from hs) Bool.false_ne_true
 |_=>cases y<;>exact absurd (show false=true from hs) Bool.false_ne_true
theorem b7v:OpR X (compareOp .Lt) (rI0 λi j=>.bl (decide (i<j))):=b3K λ_ _ _ _ _ _ _ q=>lt_int q
theorem b7w:OpR X (compareOp .LtE) (rI0 λi j=>.bl (decide (i<=j))):=b3K λ_ _ _ _ _ _ _ q=>le_int q
theorem b7x:OpR X (compareOp .Gt) (rI0 λi j=>.bl (decide (j<i))):=b3K λ_ _ _ _ _ _ _ q=>gt_int q
theorem b7y:OpR X (compareOp .GtE) (rI0 λi j=>.bl (decide (j<=i))):=b3K λ_ _ _ _ _ _ _ q=>ge_int q
theorem b1f:OpR X (compareOp .Is) (λx y H Q=>y=.non/\Q (.bl (decide (x=.non))) H):=by
 intro pins s σ H x y v u Q I a b h;obtain⟨rfl,q⟩:=h;cases b;refine is_none_gen (B3 I q ?_);cases x<;>first
  |(cases a;rfl)
  |(obtain⟨t,rfl⟩:=a;rfl)
theorem b3H:OpR X (compareOp .IsNot) (λx y H Q=>y=.non/\Q (.bl (!decide (x=.non))) H):=by
 intro pins s σ H x y v u Q I a b h;obtain⟨rfl,q⟩:=h;cases b;refine isnot_none_gen (B3 I q ?_);cases x<;>first
  |(cases a;rfl)
  |(obtain⟨t,rfl⟩:=a;rfl)
theorem M6(b:Expr){a:CmpOp}(h:a≠.In:=by decide)(h2:a≠.NotIn:=by decide):behindInMarks a b=false:=by
 have c:(a==CmpOp.In)=false:=by cases a<;>first|rfl|exact absurd rfl h
 have d:(a==CmpOp.NotIn)=false:=by cases a<;>first|rfl|exact absurd rfl h2
 cases b with
 |Set elts k p=>show(k==0 && (a==CmpOp.In || a==CmpOp.NotIn) && elts.all (constantsAlone 8))=false;rw[c,d,Bool.or_false,Bool.and_false,Bool.false_and]
 |_=>rfl
theorem a4s{c:CmpOp}{r:R2}(f:OpR X (compareOp c) r)(ha:PE X a ta)(g:PE X b tb)(j:behindInMarks c b=false):PE X (.Compare a [c] [b] pos) (tOp r ta tb):=by
 intro pins s σ H Q I h;exact wpAny_Compare1 (b6E ha g I h λv u s2 x y H2 d i e q=>f pins s2 σ H2 x y v u Q d i e q) j
def U6(t:TE):TT:=λσ H Q=>t σ H λx H'=>∃k,x=.bl k/\Q k H'
theorem L7{d:CmpOp}{r:R2}(i:OpR X (compareOp d) r)(ha:PE X a ta)(j:PE X b tb)(m:behindInMarks d b=false):PT X (.Compare a [d] [b] pos) (U6 (tOp r ta tb)):=by
 intro pins s σ H Q I h;refine wpAny_isTrue_Compare1 (thn (ha pins s σ H _ I h) λv s1 ⟨x,H1,n,r1,q1⟩=>thn (j pins s1 σ H1 _ n q1) λu s2 ⟨y,H2,f,r2,q2⟩ =>
  thn (i pins s2 σ H2 x y v u _ f r1 r2 q2) λc p ⟨z,l,o,g,k,e,q3⟩=>?_) m
 subst e;cases g;exact wpAny_truthy_bool ⟨l,o,q3⟩
def b6O(K:PySem.W.Frag)(x:V)(H:Hp)(k:Bool):Prop :=
 match x with
 |.non=>k=false
 |.bl b=>k=b
 |.int i=>k=(i != 0)
 |.str y=>y.length<=sizeLine/\k=((y.length:Int) != 0)
 |.byt y=>y.size<=sizeLine/\k=((y.size:Int) != 0)
 |.ref p=>(∃xs,SqL K H p xs/\k=!xs.isEmpty)∨(∃xs,SqT K H p xs/\k=!xs.isEmpty)∨∃kvs,H p=some (.dK kvs)/\k=!kvs.isEmpty
 |_=>False
theorem a6I{κ:Type}{kvs:List (κ×V)}{vs:List (κ×Value)}(r:KV kvs vs):(!vs.isEmpty)=!kvs.isEmpty:=by
 cases r<;>rfl
theorem a2J{xs:List V}{its:List Value}(r:Vals xs its):(!its.toArray.isEmpty)=!xs.isEmpty:=by
 cases r<;>simp
theorem a2w:(sizeLine:Nat)<2 ^ 63:=by rw[sizeLine_eq];decide
theorem b5g:b7Z X (λx H Q=>∃k,b6O X.K x H k/\Q k H):=by
 intro pins s σ H x v Q I d h;obtain⟨k,e,q⟩:=h;have hl:=a2w;have hs:sizeLine=16777216:=sizeLine_eq;cases x with
 |non =>
  cases d;have a:k=false:=e;subst a;exact truthy_none ⟨H,I,q⟩
 |bl b =>
  cases d;have a:k=b:=e;subst a;exact wpAny_truthy_bool ⟨H,I,q⟩
 |int i =>
  obtain⟨t,rfl⟩:=d;have a:k=(i != 0):=e;subst a;exact PySem.P.truthy_int ⟨H,I,q⟩
 |str y =>
  obtain⟨t,rfl⟩:=d;obtain⟨g,a⟩:y.length<=sizeLine/\k=((y.length:Int) != 0):=e;subst a;exact PySem.P.truthy_str (by omega) ⟨H,I.tok _,q⟩
 |byt y =>
  obtain⟨t,rfl⟩:=d;obtain⟨g,a⟩:y.size<=sizeLine/\k=((y.size:Int) != 0):=e;subst a;exact PySem.W.truthy_bytes (by omega) ⟨H,I.tok _,q⟩
 |ref p =>
  cases d;have a:(∃xs,SqL X.K H p xs/\k=!xs.isEmpty)∨(∃xs,SqT X.K H p xs/\k=!xs.isEmpty)∨∃kvs,H p=some (.dK kvs)/\k=!kvs.isEmpty:=e;rcases a with⟨xs,f,a⟩|⟨xs,f,a⟩|⟨kvs,f,a⟩
  .subst a;obtain⟨its,r,pl,hz⟩:=I.list f;have c:=r.length;exact wpAny_truthy_list pl.isList (by simp only[List.size_toArray];omega) ⟨H,I.tok _,by rw[a2J r];exact q⟩
  .subst a;obtain⟨its,r,pl,hz⟩:=I.tuple f;have c:=r.length;exact truthy_tuple pl (by simp only[List.size_toArray];omega) ⟨H,I.tok _,by rw[a2J r];exact q⟩
  .subst a;obtain⟨hz,hS,vs,r,m⟩:kvs.length<=sizeLine/\(p==sysModules)=false/\∃vs,KV kvs vs/\s.heap.DictOf (D5 X.prog X.w) p vs:=I.hok p _ f;have c:kvs.length=vs.length:=Paired.length r;exact wpAny_truthy_dict hS m (by omega) ⟨H,I.tok _,by rw[a6I r];exact q⟩
 |_=>exact(show False from e).elim
theorem b0J(ha:PE X a ta)(c:∀b,isTrue a X.env b=(do let v <-b;standAt a.pos;holding [v] (truthy v))) :
  PT X a (λσ H Q=>ta σ H λx H'=>∃k,b6O X.K x H' k/\Q k H'):=by
 intro pins s σ H Q I h;exact isTrue_plain (thn (ha pins s σ H _ I h) λv s1 ⟨x,H1,d,r1,q1⟩=>b5g pins s1 σ H1 x v Q d r1 q1) (c _)
theorem a4Z{x:V}{us:List Value}(r:Vals [x] us):∃u,us=[u]/\RelV x u:=by
 cases r with
 |cons r1 r2=>cases r2;exact⟨_,rfl,r1⟩
theorem a9D:C7 X (.type "int") (λxs H Q=>(∃i,xs=[.int i]/\Q (.int i) H)∨∃k,xs=[.bl k]/\Q (.int (if k then 1 else 0)) H):=by
 intro pins s σ H xs us Q I r h;rcases h with⟨i,rfl,q⟩|⟨k,rfl,q⟩
 .obtain⟨u,rfl,t,rfl⟩:=a4Z r;exact call_int_int ⟨.int i,H,I,⟨_,rfl⟩,q⟩
 .obtain⟨u,rfl,r1⟩:=a4Z r;cases r1;exact call_int_bool ⟨.int (if k then 1 else 0),H,I.tok _,⟨_,rfl⟩,q⟩
end
structure ObjM(h:Heap)(x dx C:Addr)(mA:Str->Option Value):Prop where
 obj:h.get? x=some (PySem.W.instObj C dx)
 ns:h.Ns1 dx mA
 ne:dx≠x
theorem a9d{h:Heap}{dx:Addr}{mA:Str->Option Value}(n:h.Ns1 dx mA):∃od,h.get? dx=some od/\∀name,PySem.W.lookIn name od=some (mA name):=by
 obtain⟨o,es,ep,d,hd,g,_,f⟩:=n;refine⟨o,d,λname=>?_⟩;have e:=f name;unfold nsFind findBy at e;rw[<-Array.find?_toList]at e;unfold PySem.W.lookIn;rw[hd];dsimp only;split
 .rename_i y q;rw[q]at e;exact congrArg some e
 .rename_i q;rw[q]at e;have a:es.toList.any (·.refKey)=false:=by
   rw[List.any_eq_false];intro y c;obtain⟨z,t,b⟩:=g y (Array.mem_toList_iff.mp c);simp[DictEntry.refKey,b]
  have i:¬es.toList.any (·.refKey)=true:=by rw[a];exact Bool.false_ne_true
  rw[if_neg i];exact congrArg some e
theorem ObjM.look{h:Heap}{x dx C:Addr}{mA:Str->Option Value}(I:ObjM h x dx C mA):∃od,PySem.W.InstAt h x (PySem.W.instObj C dx) C (some od)/\∀name,PySem.W.lookIn name od=some (mA name) :=
 let ⟨od,ho,hl⟩:=a9d I.ns
 ⟨od,⟨I.obj,rfl,rfl,ho⟩,hl⟩
section
variable {prog:Program}{w:World}{A:Around}{E:Value->Shared->Prop}{s:Shared}{K:PySem.W.Frag}{x dx C f:Addr}{mA:Str->Option Value}{name:Str}{v:Value}
theorem b4k{a:Bool}{Q:Value->Shared->Prop}(X:K.In s.heap)(I:ObjM s.heap x dx C mA)(d:PySem.W.plainGet K C name=true)(e:PySem.W.hasDictIn K C=true)
  (ha:PySem.W.findIn K (.ref C) name=some none) (c:mA name=some v) (b:PySem.W.handedIn v=true) (h:Q v {s with toks:=s.toks+1}) :
  wpAny (model prog w) A (getAttr (.ref x) name a) Q E s:=by
 obtain⟨od,J,hl⟩:=I.look;exact PySem.W.get_value X J (PySem.W.plainGet_of d).1 (PySem.W.findObj_own e ha rfl (by rw[hl,c])) b h
theorem b2e{pl:Sem Bool}{Q:Value×List Value->Shared->Prop}(X:K.In s.heap)(I:ObjM s.heap x dx C mA)(a:PySem.W.plainGet K C name=true)
  (hf:PySem.W.findIn K (.ref C) name=some (some (.ref f))) (ht:PySem.W.isFn K (.ref f)=true) (b:mA name=none) (h:Q (.ref f,[.ref x]) s) :
  wpAny (model prog w) A (getMethod (.ref x) name pl) Q E s:=by
 obtain⟨od,J,hl⟩:=I.look;exact PySem.W.method_fn X J (PySem.W.plainGet_of a).1 (PySem.W.plainGet_of a).2 hf (beq_iff_eq.mp ht) (by show(PySem.W.lookIn name od).map (·.isSome)=some false;rw[hl,b];rfl) h
theorem b2V{ns:List Str}{Q:Unit->Shared->Prop}(X:K.In s.heap)(I:ObjM s.heap x dx C mA)
  (hs:PySem.W.findIn K (.ref C) "__setattr__"=some (some (.builtin "object.__setattr__"))) (hp:PySem.W.plainOver K C=true) (ht:PySem.W.takerIn K C name=some none) (j:PySem.W.hasDictIn K C=true)
  (hw:PySem.Within mA ns) (hsz:ns.length<=sizeLine)
  (h:∀h',ObjM h' x dx C (λy=>if y=name then some v else mA y)->Heap.SameBut dx s.heap h'->Q () {s with heap:=h',toks:=s.toks+2}) :
  wpAny (model prog w) A (setAttr (.ref x) name v) Q E s:=by
 obtain⟨od,J,hl⟩:=I.look;refine PySem.W.set_plain X J hs (PySem.W.osa_open (s:={s with toks:=s.toks+1}) (r:=none) X J hp ht λb=>?_);obtain⟨cd,hc,g⟩:=PySem.W.any_some j;have m:s.heap.get? x=some ⟨.ref C,some dx,.plain,#[]⟩:=I.obj;refine wpAny_bind (wpAny_pure (wpAny_bind (wpAny_bind (wpAny_loadPart m (wpAny_bind (PySem.W.Looks.here (s:={s with toks:=s.toks+1}) (PySem.W.looks_clsIn X hc) ?_))))));rw[g];refine wpAny_pure (a:=some dx) (wpAny_bind (wpAny_pure (wpAny_bind ?_)));refine wpAny_nsSet1 (s:={s with toks:=s.toks+1}) I.ns λh' c d=>?_;obtain⟨n,k,l,f,e,i⟩:=c.count (PySem.Within.cons name v hw);refine wpAny_bind (wpAny_lookBehind f (by rw[e];exact pastItsLine_dict (Nat.le_trans i (by rw[List.length_cons];omega))) ?_);exact wpAny_pure (h _ ⟨(d.2 _ (Ne.symm I.ne)).trans I.obj,c,I.ne⟩ d)
theorem b1w{R:Result->Shared->Prop}{vs:List Value}{a:List (Str×Value)}(X:K.In s.heap)(b:PySem.W.makesIn K C=true)
  (hi:PySem.W.findIn K (.ref C) "__init__"=some (some (.ref f))) (hf:PySem.W.typeIn K (.ref f)=some (.type "function"))
  (h:codeAny (model prog w) (A.under (.builtin "type.__call__" ⟨.ref C::vs,a⟩)) (.call (.ref f) ⟨.ref (s.heap.objs.size+1)::vs,a⟩) (PySem.W.InitBack (s.heap.objs.size+1) R)
   {s with heap:=(s.heap.push PySem.W.emptyDict).push (PySem.W.instObj C s.heap.objs.size)}) :
  codeAny (model prog w) A (.call (.ref C) ⟨vs,a⟩) R s:=by
 obtain⟨c,g,d,t,os⟩:=s;exact PySem.W.make_core (PySem.W.makes_of X b) (PySem.W.looks_findIn X hi) (λself=>PySem.W.bind_fn X self hf) (.inl rfl) h
end
noncomputable def J0(f:Str)(v:V):List (Str×V)->List (Str×V)
 |[]=>[(f,v)]
 |(g,x)::r=>if g=f then(g,v)::r else(g,x)::J0 f v r
theorem a1k(f g:Str)(v:V):∀fs:List (Str×V),(J0 f v fs).lookup g=if g=f then some v else fs.lookup g
 |[]=>by
  show List.lookup g [(f,v)]=_;by_cases h:g=f
  .have hb:(g==f)=true:=beq_iff_eq.mpr h;simp only[List.lookup,hb,if_pos h]
  .have hb:(g==f)=false:=beq_eq_false_iff_ne.mpr h;simp only[List.lookup,hb,if_neg h]
 |(k,x)::r=>by
  have ih:=a1k f g v r;rw[show J0 f v ((k,x)::r)=(if k=f then(k,v)::r else(k,x)::J0 f v r)from rfl];by_cases a:k=f
  .rw[if_pos a];by_cases h:g=k
   .have hb:(g==k)=true:=beq_iff_eq.mpr h;simp only[List.lookup,hb,if_pos (h.trans a)]
   .have hb:(g==k)=false:=beq_eq_false_iff_ne.mpr h;simp only[List.lookup,hb,if_neg (λe:g=f=>h (e.trans a.symm))]
  .rw[if_neg a];by_cases h:g=k
   .have hb:(g==k)=true:=beq_iff_eq.mpr h;simp only[List.lookup,hb,if_neg (λe:g=f=>a (h.symm.trans e))]
   .have hb:(g==k)=false:=beq_eq_false_iff_ne.mpr h;simp only[List.lookup,hb];exact ih
theorem a0P(f:Str)(v:V):∀fs:List (Str×V),f∈(J0 f v fs).map (·.1)/\∀g,g∈fs.map (·.1)->g∈(J0 f v fs).map (·.1)
 |[]=>⟨by simp[J0],λg h=>by simp at h⟩
 |(k,x)::r=>by
  obtain⟨c,b⟩:=a0P f v r;rw[show J0 f v ((k,x)::r)=(if k=f then(k,v)::r else(k,x)::J0 f v r)from rfl];by_cases a:k=f
  .rw[if_pos a];subst a;exact⟨by simp,λg h=>by simpa using h⟩
  .rw[if_neg a];refine⟨?_,λg h=>?_⟩
   .rw[List.map_cons];exact List.mem_cons_of_mem _ c
   .rw[List.map_cons]at h⊢;rcases List.mem_cons.mp h with e|e
    .exact List.mem_cons.mpr (.inl e)
    .exact List.mem_cons_of_mem _ (b g e)
theorem a1l(f:Str)(v:V):∀fs:List (Str×V),(J0 f v fs).length<=fs.length+1
 |[]=>by simp[J0]
 |(k,x)::r=>by
  have ih:=a1l f v r;rw[show J0 f v ((k,x)::r)=(if k=f then(k,v)::r else(k,x)::J0 f v r)from rfl];by_cases a:k=f
  .rw[if_pos a,List.length_cons,List.length_cons];omega
  .rw[if_neg a,List.length_cons,List.length_cons];omega
theorem RelO.some_of{v:V}{o:Option Value}(r:RelO (some v) o):∃u,o=some u/\RelV v u:=by
 cases o with
 |none=>exact(show False from r).elim
 |some u=>exact⟨u,rfl,r⟩
theorem RelO.none_of{o:Option Value}(r:RelO none o):o=none:=by
 cases o with
 |none=>rfl
 |some u=>exact(show False from r).elim
theorem a9m{v:V}{u:Value}(r:RelV v u):PySem.W.handedIn u=true:=by
 cases v with
 |non=>cases(show u=Value.none from r);rfl
 |bl b=>cases(show u=Value.bool b from r);rfl
 |int i=>obtain⟨t,e⟩:=(show ∃t,u=Value.int i t from r);cases e;rfl
 |str x=>obtain⟨t,e⟩:=(show ∃t,u=Value.str x t from r);cases e;rfl
 |byt b=>obtain⟨t,e⟩:=(show ∃t,u=Value.bytes b t from r);cases e;rfl
 |flt b=>obtain⟨t,e⟩:=(show ∃t,u=Value.float b t from r);cases e;rfl
 |ref a=>cases(show u=Value.ref a from r);rfl
 |ty n=>cases(show u=Value.type n from r);rfl
section
variable {P:Program}{w:World}{H H':Hp}{h h':Heap}{a C dx:Addr}{fs fs':List (Str×V)}
theorem a1O(hok:HOk P w H h)(e:H a=some (.ins C dx fs)):∃mA,ObjM h a dx C mA/\(∀f,RelO (fs.lookup f) (mA f))/\PySem.Within mA (fs.map (·.1))/\fs.length<=1000/\H dx=some (.own a):=by
 obtain⟨d,z,ne,b,mA,n,r,q⟩:=(show ObjOk P w H h a (.ins C dx fs)from hok a _ e);exact⟨mA,⟨b,n,ne⟩,r,q,z,d⟩
end
structure Cls(K:PySem.W.Frag)(C:Addr):Prop where
 pg:PySem.W.plainGet K C Str.empty=true
 hd:PySem.W.hasDictIn K C=true
 po:PySem.W.plainOver K C=true
 sa:PySem.W.findIn K (.ref C) "__setattr__"=some (some (.builtin "object.__setattr__"))
theorem Cls.get{K:PySem.W.Frag}{C:Addr}(c:Cls K C)(f:Str):PySem.W.plainGet K C f=true:=c.pg
def NoAttr(K:PySem.W.Frag)(C:Addr)(f:Str):Prop:=PySem.W.findIn K (.ref C) f=some none
theorem NoAttr.taker{K:PySem.W.Frag}{C:Addr}{f:Str}(n:NoAttr K C f):PySem.W.takerIn K C f=some none:=by
 unfold PySem.W.takerIn;rw[show PySem.W.findIn K (.ref C) f=some none from n];rfl
structure Meth(K:PySem.W.Frag)(C:Addr)(m:Str)(f:Addr):Prop where
 at_:PySem.W.findIn K (.ref C) m=some (some (.ref f))
 fn:PySem.W.isFn K (.ref f)=true
 kp:PySem.W.keepIn K (.ref f)=true
section
variable {X:Cx}{pins:List (Addr×Obj)}{σ:St}{H:Hp}{s:Shared}{a C dx:Addr}{fs:List (Str×V)}{f:Str}{v:V}{A:Around}{E:Value->Shared->Prop}
theorem a6K{b:Bool}{Q:Value->Shared->Prop}(I:Inv X pins σ H s)(e:H a=some (.ins C dx fs))(c:Cls X.K C)(n:NoAttr X.K C f)(l:fs.lookup f=some v)
  (h:∀u s',Inv X pins σ H s'->RelV v u->Q u s'):wpAny (model X.prog X.w) A (getAttr (.ref a) f b) Q E s:=by
 obtain⟨mA,O,r,_,_,_⟩:=a1O I.hok e;obtain⟨u,g,d⟩:=RelO.some_of (v:=v) (o:=mA f) (by rw[<-l];exact r f);exact b4k I.kIn O (c.get f) c.hd n g (a9m d) (h u _ (I.tok _) d)
theorem a2K{m:Str}{g:Addr}{pl:Sem Bool}{Q:Value×List Value->Shared->Prop}(I:Inv X pins σ H s)(e:H a=some (.ins C dx fs))(c:Cls X.K C)(k:Meth X.K C m g)(l:fs.lookup m=none)
  (h:Q (.ref g,[.ref a]) s):wpAny (model X.prog X.w) A (getMethod (.ref a) m pl) Q E s:=by
 obtain⟨mA,O,r,_,_,_⟩:=a1O I.hok e;have b:mA m=none:=RelO.none_of (by rw[<-l];exact r m);exact b2e I.kIn O (c.get m) k.at_ k.fn b h
theorem a6p{y:V}{u:Value}{Q:Unit->Shared->Prop}(I:Inv X pins σ H s)(e:H a=some (.ins C dx fs))(c:Cls X.K C)(n:NoAttr X.K C f)(hl:fs.length<1000)(j:RelV y u)
  (h:∀s',Inv X pins σ (upd H a (.ins C dx (J0 f y fs))) s'->Q () s'):wpAny (model X.prog X.w) A (setAttr (.ref a) f u) Q E s:=by
 obtain⟨mA,O,r,wi,_,i⟩:=a1O I.hok e;have hz:(fs.map (·.1)).length<=sizeLine:=by rw[List.length_map,sizeLine_eq];omega
 refine b2V I.kIn O c.sa c.po n.taker c.hd wi hz λh' d sb=>h _ ?_;have hd:∃o,h'.get? dx=some o:=let ⟨o,_,_,e',_⟩:=d.ns;⟨o,e'⟩
 refine I.write (x:=a) (e:=dx) (by rw[e];exact True.intro) (.inr i) (λb q l z=>(sb.2 b l).trans z) hd ?_;refine⟨by rw[A2 O.ne];exact i,?_,O.ne,d.obj,_,d.ns,λg=>?_,λg k=>?_⟩
 .have:=a1l f y fs;omega
 .show RelO ((J0 f y fs).lookup g) (if g=f then some u else mA g);rw[a1k];by_cases q:g=f
  .rw[if_pos q,if_pos q];exact j
  .rw[if_neg q,if_neg q];exact r g
 .by_cases q:g=f
  .rw[q];exact(a0P f y fs).1
  .refine(a0P f y fs).2 g (wi g λz=>k ?_);show(if g=f then some u else mA g)=none;rw[if_neg q];exact z
theorem Inv.made(I:Inv X pins σ H s):Inv X pins σ (upd (upd H s.heap.objs.size (.own (s.heap.objs.size+1))) (s.heap.objs.size+1) (.ins C s.heap.objs.size []))
  {s with heap:=(s.heap.push PySem.W.emptyDict).push (PySem.W.instObj C s.heap.objs.size)}:=by
 have c:(s.heap.push PySem.W.emptyDict).get? s.heap.objs.size=some PySem.W.emptyDict:=Heap.get?_push_size s.heap rfl;have f:((s.heap.push PySem.W.emptyDict).push (PySem.W.instObj C s.heap.objs.size)).get? (s.heap.objs.size+1)=some (PySem.W.instObj C s.heap.objs.size):=by
  have:=Heap.get?_push_size (s.heap.push PySem.W.emptyDict) (o:=PySem.W.instObj C s.heap.objs.size) rfl;rwa[Heap.size_push]at this
 have g:(s.heap.push PySem.W.emptyDict).Ns s.heap.objs.size (λ_=>none):=⟨PySem.W.emptyDict,#[],_,c,rfl,(λe h=>absurd h (by simp)),λ_=>rfl⟩;have i:=I.laid (a:=s.heap.objs.size) (o:=.own (s.heap.objs.size+1)) (h':=s.heap.push PySem.W.emptyDict) (t':=s.toks) (λb u q=>Heap.get?_push_of_some _ q) (Nat.le_refl _) ⟨_,c⟩;refine i.laid (a:=s.heap.objs.size+1) (o:=.ins C s.heap.objs.size []) (t':=s.toks) (λb u q=>Heap.get?_push_of_some _ q) (Nat.le_of_eq (Heap.size_push _ _)) ?_;have ne:s.heap.objs.size≠s.heap.objs.size+1:=Nat.ne_of_lt (Nat.lt_succ_self _);refine⟨by rw[A2 ne,A0],Nat.zero_le _,ne,f,λ_=>none,(Heap.Ns1.of_empty g).at λo q=>Heap.get?_push_of_some _ q,λ_=>True.intro,λy d=>absurd rfl d⟩
theorem b4t{prog:Program}{w:World}{env:Env}{e:Expr}{f:Str}{pos:Pos}{s:Shared}{Q:Value->Shared->Prop}(a:attributeBase e f env (eval e env)=eval e env)
  (h:wpAny (model prog w) A (eval e env) (λo s₁=>wpAny (model prog w) A (getAttr o f true) Q E s₁) E s):wpAny (model prog w) A (eval (.Attribute e f pos) env) Q E s :=
 Attribute_any_ h (by rw[arm_eval_Attribute,a])
end
def b7d(K:PySem.W.Frag)(ta:TE)(f:Str):TE:=λσ H Q=>ta σ H λx H1=>∃a C dx fs v,x=.ref a/\H1 a=some (.ins C dx fs)/\Cls K C/\NoAttr K C f/\fs.lookup f=some v/\Q v H1
def b7h(K:PySem.W.Frag)(ta tv:TE)(f:Str):TS:=λD σ H=>tv σ H λy H1=>ta σ H1 λx H2=>∃a C dx fs,x=.ref a/\H2 a=some (.ins C dx fs)/\Cls K C/\NoAttr K C f/\fs.length<1000 /\
 D.nx σ (upd H2 a (.ins C dx (J0 f y fs)))
section
variable {X:Cx}{o e value:Expr}{f:Str}{pos pos' tpos:Pos}{ta tv:TE}
theorem b5O(i:PE X e ta)(d:attributeBase e f X.env (eval e X.env)=eval e X.env):PE X (.Attribute e f pos) (b7d X.K ta f):=by
 intro pins s σ H Q I h;refine b4t d (thn (i pins s σ H _ I h) λu s1 ⟨x,H1,j,g,a,C,dx,fs,v,ex,m,c,n,l,q⟩=>?_);subst ex;obtain rfl:u=Value.ref a:=g;exact a6K j m c n l λo s2 b k=>⟨v,H1,b,k,q⟩
theorem b5A(ha:PE X o ta)(e:PE X value tv)(hs:swapsWith value (some (.Attribute o f pos')) pos.line X.env=pure false):PS X (.Assign [.Attribute o f pos'] value pos) (b7h X.K ta tv f):=by
 intro pins s σ H D I h;refine plainObj_wpAny_Assign_Attribute (thn (e pins s σ H _ I h) λu s1 ⟨y,H1,j,d,q⟩=>thn (ha pins s1 σ H1 _ j q) λm s2 ⟨x,H2,b,i,a,C,dx,fs,ex,k,c,n,l,q2⟩=>?_) hs;subst ex;obtain rfl:m=Value.ref a:=i;exact a6p b k c n l d λp g=>⟨σ,_,g,q2⟩
end
section
variable {X:Cx}{pins:List (Addr×Obj)}{σ:St}{H:Hp}{s:Shared}{A:Around}{E:Value->Shared->Prop}{Q:Value->Shared->Prop}{c:Value}{b:Bool}
inductive TyOf(K:PySem.W.Frag)(H:Hp):V->Value->Prop where
 |non:TyOf K H .non (.type "NoneType")
 |bl (x:Bool):TyOf K H (.bl x) (.type "bool")
 |int (i:Int):TyOf K H (.int i) (.type "int")
 |str (x:Str):TyOf K H (.str x) (.type "str")
 |flt (x:UInt64):TyOf K H (.flt x) (.type "float")
 |lst {a:Addr}{xs:List V}(e:H a=some (.lst xs)):TyOf K H (.ref a) (.type "list")
 |frz {a:Addr}{o:Obj}{xs:List V}(e:H a=some (.frz o (.lst xs))):TyOf K H (.ref a) (.type "list")
 |tup {a:Addr}{xs:List V}(e:H a=some (.tup xs)):TyOf K H (.ref a) (.type "tuple")
 |dK {a:Addr}{kvs:List (Key×V)}(e:H a=some (.dK kvs)):TyOf K H (.ref a) (.type "dict")
 |dT {a:Addr}{kvs:List (List Key×V)}(e:H a=some (.dT kvs)):TyOf K H (.ref a) (.type "dict")
 |ins {a C dx:Addr}{fs:List (Str×V)}(e:H a=some (.ins C dx fs)) (cl:Cls K C) (ha:PySem.W.findIn K (.ref C) "__class__"=some (some (.builtin "object.__class__")))
   (hn:PySem.W.specialIn K (.builtin "object.__class__") "__get__"=some (some (.builtin "getset_descriptor.__get__"))) (htk:PySem.W.takesIn K (.builtin "object.__class__")=some true)
   (hm:PySem.W.mroIn K C (.type "object")=some true):TyOf K H (.ref a) (.ref C)
theorem a9j{x:V}{u t:Value}(I:Inv X pins σ H s)(d:RelV x u)(ty:TyOf X.K H x t)(e:PySem.W.kitOne X.K t c=some b)(h:∀tk,Q (.bool b) {s with toks:=tk}) :
  wpAny (model X.prog X.w) A (call (.builtin "isinstance") [u,c]) Q E s:=by
 cases ty with
 |non=>cases(show u=Value.none from d);exact PySem.W.kia_one PySem.W.kitx_none I.kIn True.intro e (λz=>nomatch z) h
 |bl y=>cases(show u=Value.bool y from d);exact PySem.W.kia_one PySem.W.kitx_bool I.kIn True.intro e (λz=>nomatch z) h
 |int i=>obtain⟨t,q⟩:=(show ∃t,u=Value.int i t from d);cases q;exact PySem.W.kia_one PySem.W.kitx_int I.kIn True.intro e (λz=>nomatch z) h
 |str y=>obtain⟨t,q⟩:=(show ∃t,u=Value.str y t from d);cases q;exact PySem.W.kia_one PySem.W.kitx_str I.kIn True.intro e (λz=>nomatch z) h
 |flt y=>obtain⟨t,q⟩:=(show ∃t,u=Value.float y t from d);cases q;exact PySem.W.kia_one PySem.W.kitx_float I.kIn True.intro e (λz=>nomatch z) h
 |@lst a xs ea =>
  cases(show u=Value.ref a from d);obtain⟨_,_,n,_,h1⟩:=(show ObjOk X.prog X.w H s.heap a (.lst xs)from I.hok a _ ea);exact PySem.W.kia_one PySem.W.kitx_list I.kIn ⟨_,h1,rfl⟩ e (λz=>nomatch z) h
 |@frz a ob xs ea =>
  cases(show u=Value.ref a from d);obtain⟨_,_,_,n,_,h1⟩:=(show ObjOk X.prog X.w H s.heap a (.frz ob (.lst xs))from I.hok a _ ea);exact PySem.W.kia_one PySem.W.kitx_list I.kIn ⟨_,h1,rfl⟩ e (λz=>nomatch z) h
 |@tup a xs ea =>
  cases(show u=Value.ref a from d);obtain⟨_,_,_,p⟩:=(show ObjOk X.prog X.w H s.heap a (.tup xs)from I.hok a _ ea);obtain⟨o,h1,h2,_⟩:=p;exact PySem.W.kia_one PySem.W.kitx_tuple I.kIn ⟨o,h1,h2⟩ e (λz=>nomatch z) h
 |@dK a kvs ea =>
  cases(show u=Value.ref a from d);obtain⟨_,_,vs,_,p⟩:=(show ObjOk X.prog X.w H s.heap a (.dK kvs)from I.hok a _ ea);obtain⟨o,es,ep,h1,h2,_⟩:=p;exact PySem.W.kia_one PySem.W.kitx_dict I.kIn ⟨o,h1,h2.1⟩ e (λz=>nomatch z) h
 |@dT a kvs ea =>
  cases(show u=Value.ref a from d);obtain⟨_,_,xs,_,o,es,ep,h1,h2,_⟩:=(show ObjOk X.prog X.w H s.heap a (.dT kvs)from I.hok a _ ea);exact PySem.W.kia_one PySem.W.kitx_dict I.kIn ⟨o,h1,h2.1⟩ e (λz=>nomatch z) h
 |@ins a C dx fs ea cl ha hn htk hm =>
  cases(show u=Value.ref a from d);obtain⟨mA,O,_⟩:=a1O I.hok ea;obtain⟨od,J,_⟩:=O.look;exact PySem.W.kia_one (PySem.W.kitx_own (cl.get _) cl.hd ha hn htk hm) I.kIn J e (λz=>nomatch z) h
end
structure Room(k:Nat)(A:Around):Prop where
 hd:A.handled=none
 dp:A.depth+3*k+5<recursionLimit
 un:A.units+16*k+200<cLine
theorem Room.mono{j k:Nat}{A:Around}(r:Room k A)(h:j<=k):Room j A:=⟨r.hd,by have:=r.dp;omega,by have:=r.un;omega⟩
theorem Room.deeper{k:Nat}{A:Around}(r:Room (k+1) A)(env:Env):Room k (A.deeper env) :=
 ⟨r.hd,by have:=r.dp;show A.depth+1+3*k+5<_;omega,by have:=r.un;show A.units+3+16*k+200<_;omega⟩
theorem a6E{A:Around}{C:Addr}{us:List Value}{a:List (Str×Value)}:(A.under (.builtin "type.__call__" ⟨.ref C::us,a⟩)).depth=A.depth+1:=by
 first|rfl|simp[Around.under,Code.weight,Code.isCreation,Code.isGuard,Code.isCaller,Code.frames,Code.isFrame,guardIds]
theorem a6D{A:Around}{C:Addr}{us:List Value}{a:List (Str×Value)}:(A.under (.builtin "type.__call__" ⟨.ref C::us,a⟩)).units=A.units+1:=by
 first|rfl|simp[Around.under,Code.cUnits,Code.frames,Code.isFrame]
theorem Room.make{k:Nat}{A:Around}(r:Room (k+1) A)(C:Addr)(us:List Value)(a:List (Str×Value)):Room k (A.under (.builtin "type.__call__" ⟨.ref C::us,a⟩)) :=
 ⟨r.hd,by have:=r.dp;rw[a6E];omega,by have:=r.un;rw[a6D];omega⟩
theorem Room.depth{k:Nat}{A:Around}(r:Room k A):A.depth<recursionLimit:=by have:=r.dp;omega
def a1q:TA:=λ_ H Q=>Q [] H
def a5e(ta:TE)(tr:TA):TA:=λσ H Q=>ta σ H λx H1=>tr σ H1 λxs H2=>Q (x::xs) H2
section
variable {X:Cx}{e:Expr}{es:List Expr}{te:TE}{t:TA}{pos:Pos}
theorem b5S:PA X [] a1q:=λ_ _ _ _ H Q I h=>Calls.spliced_nil ⟨[],H,I,.nil,h⟩
theorem b3F(ha:PE X e te)(hr:PA X es t)(hs:starEach (e::es) X.env=(false,eval e X.env)::starEach es X.env:=by rfl):PA X (e::es) (a5e te t):=by
 intro pos pins s σ H Q I h;rw[hs];show wpAny _ _ (spliced ((false,eval e X.env)::backTo pos (starEach es X.env))) _ _ s;refine Calls.spliced_cons (thn (ha pins s σ H _ I h) λu s1 ⟨x,H1,b,r1,q1⟩=>?_);exact thn (hr pos pins s1 σ H1 _ b q1) λus s2 ⟨xs,H2,a,r2,q2⟩=>⟨x::xs,H2,a,.cons r1 r2,q2⟩
def b5h(t:TA):TE:=λσ H Q=>t σ H λxs H1=>xs.length<=sizeLine/\∀p,H1 p=none->Q (.ref p) (upd H1 p (.tup xs))
def b2M(t:TA):TE:=λσ H Q=>t σ H λxs H1=>xs.length<=sizeLine/\∀p,H1 p=none->Q (.ref p) (upd H1 p (.lst xs))
theorem b5H{x1}(h:PA X es t):PE X (.Tuple es x1 pos) (b5h t):=by
 intro pins s σ H Q I c;refine wpAny_Tuple_spliced (thn (h pos pins s σ H _ I c) λus s1 ⟨xs,H1,a,r,z,q⟩=>⟨by rw[<-r.length];exact z,?_⟩);have hf:H1 s1.heap.objs.size=none:=a.hok.fresh (Nat.le_refl _);refine⟨.ref s1.heap.objs.size,upd H1 s1.heap.objs.size (.tup xs),a.laid (t':=s1.toks) (λb u e=>Heap.get?_push_of_some _ e) (Nat.le_refl _) ?_,rfl,q _ hf⟩;exact⟨z,us,r,⟨_,Heap.get?_push_size _ rfl,rfl,_,rfl⟩⟩
theorem b5M(h:PA X es t):PE X (.List es pos) (b2M t):=by
 intro pins s σ H Q I c;refine wpAny_List_spliced (thn (h pos pins s σ H _ I c) λus s1 ⟨xs,H1,a,r,z,q⟩=>⟨by rw[<-r.length];exact z,?_⟩);have hf:H1 s1.heap.objs.size=none:=a.hok.fresh (Nat.le_refl _);refine⟨.ref s1.heap.objs.size,upd H1 s1.heap.objs.size (.lst xs),a.laid (t':=s1.toks) (λb u e=>Heap.get?_push_of_some _ e) (Nat.le_refl _) ?_,rfl,q _ hf⟩;exact⟨z,us,0,r,Heap.get?_push_size _ rfl⟩
end
abbrev Sp:=List V->Hp->VK->XK->Prop
abbrev CXT:=List Env->Hp->Shared->XK->Value->Shared->Prop
structure Env0(P:Program)(w:World)(K:PySem.W.Frag)(mg:Str->Option Value)(base:Heap)(A:Around)(outer:List Env)(s:Shared)(H:Hp):Prop where
 frames:A.frames=some outer
 mod:Mod K mg base
 bs:∀b o,base.get? b=some o->s.heap.get? b=some o/\H b=none
 bsz:base.objs.size<=s.heap.objs.size
 funs:s.heap.FunFrames base outer
 frf:∀b∈frs outer,H b=none
 hok:HOk P w H s.heap
 bare:AllBare s.gens
def CE(outer:List Env)(P:Program)(w:World)(H:Hp)(s:Shared)(Q:VK)(u:Value)(s':Shared):Prop :=
 ∃v H',s'.os=s.os/\AllBare s'.gens/\Un (frs outer) [] H H' s.heap s'.heap/\HOk P w H' s'.heap/\RelV v u/\Q v H'
def CR(CX:CXT)(outer:List Env)(P:Program)(w:World)(H:Hp)(s:Shared)(Q:VK)(E:XK)(r:Result)(s':Shared):Prop :=
 match r with
 |.ok (.ret u)=>CE outer P w H s Q u s'
 |.ok _=>False
 |.error e=>CX outer H s E e s'
structure FnOk(P:Program)(w:World)(K:PySem.W.Frag)(mg:Str->Option Value)(base:Heap)(CX:CXT)(k:Nat)(f:Addr)(fd:FuncData)(ps:List Str)(sp:Sp):Prop where
 len:∀vs H Q E,sp vs H Q E->vs.length=ps.length
 run:∀(A:Around) (outer:List Env) (s:Shared) (H:Hp) (args:Args) (us:List Value) (vs:List V) (Q:VK) (E:XK),Room k A->Env0 P w K mg base A outer s H->BindsTo s fd args (ps.zip us)->Vals vs us->sp vs H Q E ->
  codeAny (model P w) A (.call (.ref f) args) (CR CX outer P w H s Q E) s
theorem FnOk.imp{P:Program}{w:World}{K:PySem.W.Frag}{mg:Str->Option Value}{base:Heap}{CX:CXT}{k:Nat}{f:Addr}{fd:FuncData}{ps:List Str}{sp sp':Sp}(F:FnOk P w K mg base CX k f fd ps sp)
  (h:∀vs H Q E,sp' vs H Q E->sp vs H Q E):FnOk P w K mg base CX k f fd ps sp' :=
 ⟨λvs H Q E q=>F.len vs H Q E (h _ _ _ _ q),λA outer s H args us vs Q E hr a c b hs=>F.run A outer s H args us vs Q E hr a c b (h _ _ _ _ hs)⟩
theorem Env0.make{P:Program}{w:World}{K:PySem.W.Frag}{mg:Str->Option Value}{base:Heap}{A:Around}{outer:List Env}{s:Shared}{H:Hp}(e:Env0 P w K mg base A outer s H)(C:Addr)(us:List Value)(a:List (Str×Value)) :
  Env0 P w K mg base (A.under (.builtin "type.__call__" ⟨.ref C::us,a⟩)) outer s H:=⟨by first|exact e.frames | (simpa[Around.under,Code.envs,Code.isFrame,pushEnvs]using e.frames),e.mod,e.bs,e.bsz,e.funs,e.frf,e.hok,e.bare⟩
section
variable {X:Cx}{pins:List (Addr×Obj)}{σ:St}{H:Hp}{s s':Shared}
theorem Inv.env0(I:Inv X pins σ H s):Env0 X.prog X.w X.K X.mg X.base X.A X.stack s H :=
 ⟨I.ok.frames,I.ok.mod,I.bs,Nat.le_trans I.ok.bsz I.sz,I.stack,I.stkFree,I.hok,I.bare⟩
theorem Inv.after{Q:VK}{u:Value}(I:Inv X pins σ H s)(h:CE X.stack X.prog X.w H s Q u s'):EP X pins σ Q u s':=by
 obtain⟨v,H',os,bare,un,hok,r,q⟩:=h;obtain⟨c,g,d,t,a⟩:=s';obtain rfl:a=s.os:=os;exact⟨v,H',I.call (h':=c) (g':=g) (d':=d) (t':=t) (ch:=[]) un hok bare (λb z=>absurd z (by simp)),r,q⟩
end
def a7l(sp:Sp)(dvs:List V)(E:XK)(t:TA):TE:=λσ H Q=>t σ H λvs H1=>sp (vs++dvs) H1 Q E
def a1h(C:Addr)(m:Str)(sp:Sp)(dvs:List V)(E:XK)(ta:TE)(t:TA):TE:=λσ H Q=>ta σ H λx H1=>∃a dx fs,x=.ref a/\H1 a=some (.ins C dx fs)/\fs.lookup m=none /\
 t σ H1 λvs H2=>sp (x::(vs++dvs)) H2 Q E
def b4C(C:Addr)(sp:Sp)(dvs:List V)(E:XK)(t:TA):TE:=λσ H Q=>t σ H λvs H1=>∀x dx,H1 x=none->H1 dx=none->dx≠x ->
 sp (.ref x::(vs++dvs)) (upd (upd H1 dx (.own x)) x (.ins C dx [])) (λv H2=>v=.non/\Q (.ref x) H2) E
def Binds(K:PySem.W.Frag)(fd:FuncData)(ps:List Str)(ds:List Value):Prop :=
 ∀(s:Shared) (us:List Value),K.In s.heap->(us++ds).length=ps.length->BindsTo s fd ⟨us,[]⟩ (ps.zip (us++ds))
theorem Binds.all{K:PySem.W.Frag}{fd:FuncData}{ps:List Str}(h:∀us:List Value,us.length=ps.length->bindArgs fd ⟨us,[]⟩=pure (ps.zip us)):Binds K fd ps []:=λs us _ hl=>by
 rw[List.append_nil]at hl⊢;exact .of_eq (h us hl)
def X0(CX:CXT)(X:Cx)(E:XK):Prop:=∀(pins:List (Addr×Obj)) (σ:St) (H:Hp) (s:Shared) (e:Value) (s':Shared),Inv X pins σ H s->CX X.stack H s E e s'->X.xe e s'
section
variable {X:Cx}{CX:CXT}{k:Nat}{f C:Addr}{fd:FuncData}{ps:List Str}{sp:Sp}{dvs:List V}{ds:List Value}{E:XK}{x m:Str}{p pos apos:Pos}{e o:Expr}{es:List Expr}{ta:TE}{t:TA}
theorem a6t{pins:List (Addr×Obj)}{σ:St}{H:Hp}{s:Shared}{Q:VK}{us:List Value}{vs:List V}(F:FnOk X.prog X.w X.K X.mg X.base CX k f fd ps sp)(hr:Room k X.A)(c:Binds X.K fd ps ds)(hd:Vals dvs ds)(b:X0 CX X E)
  (I:Inv X pins σ H s) (r:Vals vs us) (h:sp (vs++dvs) H Q E):wpAny (model X.prog X.w) X.A (call (.ref f) us) (EP X pins σ Q) X.xe s:=by
 have r2:Vals (vs++dvs) (us++ds):=r.append hd;have hl:(us++ds).length=ps.length:=by rw[<-r2.length];exact F.len _ _ _ _ h
 refine wpAny_call (codeAny_mono (F.run X.A X.stack s H ⟨us,[]⟩ (us++ds) (vs++dvs) Q E hr I.env0 (c s us I.kIn hl) r2 h) λr s' a=>?_);cases r with
 |error e=>exact b pins σ H s e s' I a
 |ok fl =>
  cases fl with
  |ret u=>exact I.after a
  |next=>exact False.elim a
  |brk=>exact False.elim a
  |cont=>exact False.elim a
theorem a7H(F:FnOk X.prog X.w X.K X.mg X.base CX k f fd ps sp)(hr:Room k X.A)(d:Gl X x)(i:X.mg x=some (.ref f))(l:PySem.W.keepIn X.K (.ref f)=true)(g:Binds X.K fd ps ds)(hd:Vals dvs ds)(m:X0 CX X E)
  (ha:PA X (e::es) t) (a:(x==("__debug__" : Str))=false:=by decide) (j:starEach (e::es) X.env=(false,eval e X.env)::starEach es X.env:=by rfl) (b:(backTo pos (starEach es X.env)).any (·.1)=false:=by rfl) :
  PE X (.Call (.Name x p) (e::es) [] pos) (a7l sp dvs E t):=by
 intro pins s σ H Q I h;refine wpAny_Call_Name_kw (O5 I d i ?_ a);refine PySem.W.callWith_K (h₀:=X.base) I.ok.mod.kin l (thn (ha pos pins s σ H _ I h) λus s1 ⟨vs,H1,c,r,q⟩=>⟨c.kIn,?_⟩) j b;exact a6t F hr g hd m c r q
theorem b3z{pl:Sem Bool}(v:PE X o ta)(c:Cls X.K C)(i:Meth X.K C m f)(F:FnOk X.prog X.w X.K X.mg X.base CX k f fd ps sp)(hr:Room k X.A)(n:Binds X.K fd ps ds)(hd:Vals dvs ds)(y:X0 CX X E)(ha:PA X (e::es) t)
  (d:starEach (e::es) X.env=(false,eval e X.env)::starEach es X.env:=by rfl) (b:(backTo pos (starEach es X.env)).any (·.1)=false:=by rfl)
  (ht:eval (.Call (.Attribute o m apos) (e::es) [] pos) X.env=(do
   let ov <-eval o X.env
   standAt apos.atName
   let (f,first) <-holding [ov] (getMethod ov m pl)
   callWith pos f first (backTo pos (starEach (e::es) X.env)) (backToKw pos (keywordEach [] X.env))):=by rfl) :
  PE X (.Call (.Attribute o m apos) (e::es) [] pos) (a1h C m sp dvs E ta t):=by
 intro pins s σ H Q I h;refine PySem.W.methodCall_KW (pl:=pl) (thn (v pins s σ H _ I h) λu s1 ⟨x,H1,j,p,a,dx,fs,ex,z,l,q⟩=>?_) ht;subst ex;obtain rfl:u=Value.ref a:=p;refine a2K j z c i l ?_;refine PySem.W.callWith_K (first:=[.ref a]) (h₀:=X.base) I.ok.mod.kin i.kp (thn (ha pos pins s1 σ H1 _ j q) λus s2 ⟨vs,H2,g,r,q2⟩=>⟨g.kIn,?_⟩) d b;exact a6t (us:=.ref a::us) (vs:=.ref a::vs) F hr n hd y g (.cons rfl r) q2
theorem b0Y{pl:Sem Bool}(i:PE X o ta)(c:Cls X.K C)(d:Meth X.K C m f)(F:FnOk X.prog X.w X.K X.mg X.base CX k f fd ps sp)(hr:Room k X.A)(e:Binds X.K fd ps ds)(hd:Vals dvs ds)(j:X0 CX X E)
  (ht:eval (.Call (.Attribute o m apos) [] [] pos) X.env=(do
   let ov <-eval o X.env
   standAt apos.atName
   let (f,first) <-holding [ov] (getMethod ov m pl)
   callWith pos f first (backTo pos (starEach [] X.env)) (backToKw pos (keywordEach [] X.env))):=by rfl) :
  PE X (.Call (.Attribute o m apos) [] [] pos) (a1h C m sp dvs E ta a1q):=by
 intro pins s σ H Q I h;refine PySem.W.methodCall_KW (pl:=pl) (thn (i pins s σ H _ I h) λu s1 ⟨x,H1,b,g,a,dx,fs,ex,n,l,q⟩=>?_) ht;subst ex;obtain rfl:u=Value.ref a:=g;refine a2K b n c d l ?_;exact PySem.W.callWith_K0 (first:=[.ref a]) b.kIn d.kp (a6t (us:=[.ref a]) (vs:=[.ref a]) F hr e hd j b (.cons rfl .nil) q)
structure Mk(K:PySem.W.Frag)(C f:Addr):Prop where
 makes:PySem.W.makesIn K C=true
 init:PySem.W.findIn K (.ref C) "__init__"=some (some (.ref f))
 fn:PySem.W.isFn K (.ref f)=true
 kp:PySem.W.keepIn K (.ref C)=true
theorem b0t{pins:List (Addr×Obj)}{σ:St}{H:Hp}{s:Shared}{Q:VK}{us:List Value}{vs:List V}(M:Mk X.K C f)(F:FnOk X.prog X.w X.K X.mg X.base CX k f fd ps sp)(hr:Room (k+1) X.A)(d:Binds X.K fd ps ds)(hd:Vals dvs ds)
  (g:X0 CX X E) (I:Inv X pins σ H s) (r:Vals vs us)
  (h:∀x dx,H x=none->H dx=none->dx≠x->sp (.ref x::(vs++dvs)) (upd (upd H dx (.own x)) x (.ins C dx [])) (λv H2=>v=.non/\Q (.ref x) H2) E) :
  wpAny (model X.prog X.w) X.A (call (.ref C) us) (EP X pins σ Q) X.xe s:=by
 have c:=h (s.heap.objs.size+1) s.heap.objs.size (I.hok.fresh (Nat.le_succ _)) (I.hok.fresh (Nat.le_refl _)) (Nat.ne_of_lt (Nat.lt_succ_self _));have b:=Inv.made (C:=C) I;have r2:Vals (V.ref (s.heap.objs.size+1)::(vs++dvs)) (Value.ref (s.heap.objs.size+1)::(us++ds)):=.cons rfl (r.append hd);have hl:(Value.ref (s.heap.objs.size+1)::us++ds).length=ps.length:=by
  have e:=r2.length;rw[F.len _ _ _ _ c]at e;exact e.symm
 refine wpAny_call (b1w (f:=f) I.kIn M.makes M.init (beq_iff_eq.mp M.fn) (codeAny_mono (F.run _ X.stack _ _ ⟨Value.ref (s.heap.objs.size+1)::us,[]⟩ (Value.ref (s.heap.objs.size+1)::(us++ds)) _ _ E (hr.make C us [])
  (b.env0.make C us []) (d _ (Value.ref (s.heap.objs.size+1)::us) b.kIn hl) r2 c) λr s' a=>?_))
 cases r with
 |error e=>exact g pins σ _ _ e s' b a
 |ok fl =>
  cases fl with
  |ret u =>
   obtain⟨v,H',i,j,l,q3⟩:=b.after a;subst l;exact⟨j,⟨V.ref (s.heap.objs.size+1),H',i,rfl,q3⟩⟩
  |next=>exact False.elim a
  |brk=>exact False.elim a
  |cont=>exact False.elim a
theorem b3A(M:Mk X.K C f)(F:FnOk X.prog X.w X.K X.mg X.base CX k f fd ps sp)(hr:Room (k+1) X.A)(d:Gl X x)(i:X.mg x=some (.ref C))(g:Binds X.K fd ps ds)(hd:Vals dvs ds)(l:X0 CX X E)
  (ha:PA X (e::es) t) (a:(x==("__debug__" : Str))=false:=by decide) (j:starEach (e::es) X.env=(false,eval e X.env)::starEach es X.env:=by rfl) (b:(backTo pos (starEach es X.env)).any (·.1)=false:=by rfl) :
  PE X (.Call (.Name x p) (e::es) [] pos) (b4C C sp dvs E t):=by
 intro pins s σ H Q I h;refine wpAny_Call_Name_kw (O5 I d i ?_ a);refine PySem.W.callWith_K (h₀:=X.base) I.ok.mod.kin M.kp (thn (ha pos pins s σ H _ I h) λus s1 ⟨vs,H1,c,r,q⟩=>⟨c.kIn,?_⟩) j b;exact b0t M F hr g hd l c r q
end
section
variable {X:Cx}{CX:CXT}{k:Nat}{f C:Addr}{fd:FuncData}{ps ks:List Str}{sp:Sp}{E:XK}{x m:Str}{p pos apos kpos:Pos}{e o:Expr}{es:List Expr}{kws:List Keyword}{te ta:TE}{t tk:TA}{nm:Option Str}
variable {g:List Value->List Value->List Value}{gV:List V->List V->List V}
end
structure FnScope(N P:List Str)(sc:Scope):Prop where
 kind:sc.kind=.function
 co:sc.isCoroutine=false
 gen:sc.isGenerator=false
 nd:N.Nodup
 pre:N.take P.length=P
 par:∀x∈P,sc.names.lookup x=some .local∨sc.names.lookup x=some .cell
 nofree:∀y∈sc.names,y.2≠.free
theorem a3M{kindOf:Str->Option NameKind}{x:Str}:∀{binds:List (Str×Value)}{m:Str->Option Value},(∀v,(x,v)∉binds)->bindL kindOf binds m x=m x
 |[],_,_=>rfl
 |(n,v)::r,m,h=>by
  unfold bindL;rw[a3M λw hw=>h w (List.mem_cons_of_mem _ hw)];split
  .have:x≠n:=by rintro rfl;exact h v List.mem_cons_self
   simp[this]
  .rfl
theorem a3O{kindOf:Str->Option NameKind}{x:Str}:∀{binds:List (Str×Value)}{m:Str->Option Value},(∀v,(x,v)∉binds)->bindC kindOf binds m x=m x
 |[],_,_=>rfl
 |(n,v)::r,m,h=>by
  unfold bindC;rw[a3O λw hw=>h w (List.mem_cons_of_mem _ hw)];split
  .rfl
  .have:x≠n:=by rintro rfl;exact h v List.mem_cons_self
   simp[this]
theorem a3N{kindOf:Str->Option NameKind}{x:Str}{v:Value}:∀{P:List Str}{vs:List Value}{i:Nat}{m:Str->Option Value},P.Nodup->P[i]?=some x->vs[i]?=some v->kindOf x=some .local ->
  bindL kindOf (P.zip vs) m x=some v
 |[],_,_,_,_,h,_,_=>by simp at h
 |_::_,[],_,_,_,_,h,_=>by simp at h
 |p::P,w::vs,0,m,nd,h1,h2,hk=>by
  simp at h1 h2;subst h1;subst h2;show bindL kindOf ((p,w)::P.zip vs) m p=_;unfold bindL;rw[a3M λv a=>(List.nodup_cons.mp nd).1 (List.of_mem_zip a).1,if_pos hk];simp
 |p::P,w::vs,i+1,m,nd,h1,h2,hk=>by
  show bindL kindOf ((p,w)::P.zip vs) m x=_;unfold bindL;exact a3N (i:=i) (List.nodup_cons.mp nd).2 (by simpa using h1) (by simpa using h2) hk
theorem a3P{kindOf:Str->Option NameKind}{x:Str}{v:Value}:∀{P:List Str}{vs:List Value}{i:Nat}{m:Str->Option Value},P.Nodup->P[i]?=some x->vs[i]?=some v->kindOf x≠some .local ->
  bindC kindOf (P.zip vs) m x=some v
 |[],_,_,_,_,h,_,_=>by simp at h
 |_::_,[],_,_,_,_,h,_=>by simp at h
 |p::P,w::vs,0,m,nd,h1,h2,hk=>by
  simp at h1 h2;subst h1;subst h2;show bindC kindOf ((p,w)::P.zip vs) m p=_;unfold bindC;rw[a3O λv a=>(List.nodup_cons.mp nd).1 (List.of_mem_zip a).1,if_neg hk];simp
 |p::P,w::vs,i+1,m,nd,h1,h2,hk=>by
  show bindC kindOf ((p,w)::P.zip vs) m x=_;unfold bindC;exact a3P (i:=i) (List.nodup_cons.mp nd).2 (by simpa using h1) (by simpa using h2) hk
noncomputable def start(N:List Str)(vs:List V):St:=vs.map some++List.replicate (N.length-vs.length) none
noncomputable def J6(CX:CXT)(P:Program)(w:World)(K:PySem.W.Frag)(mg:Str->Option Value)(base:Heap)(N:List Str)(qual:Str)(scope:Scope)(f:Addr)(cd:Value)(A:Around)(outer:List Env)(s:Shared)(H:Hp)(E:XK):Cx where
 prog:=P
 w:=w
 K:=K
 mg:=mg
 base:=base
 A:=A.deeper (envOfC qual scope s.heap.objs.size f cd)
 N:=N
 s₀:=s
 H₀:=H
 env:=envOfC qual scope s.heap.objs.size f cd
 outer:=outer
 stack:=envOfC qual scope s.heap.objs.size f cd::outer
 ex:=[]
 calm:=true
 fn:=λ_=>true
 pn:=[]
 xe:=λe s'=>wpAny (model P w) (A.deeper (envOfC qual scope s.heap.objs.size f cd)) (leaving (envOfC qual scope s.heap.objs.size f cd) e) (λ_ s''=>CX outer H s E e s'') (λe' s''=>CX outer H s E e' s'') s'
theorem a5X{a:Scope}{n:Nat}{x:Str}(h:a.names.lookup x=some .cell):∃c,(cellsFrom n a.names []).lookup x=some c:=by
 have q:=PySem.W.cellsFrom_some a.names n [] (.inl h);exact Option.isSome_iff_exists.mp q
theorem a9k{CX:CXT}{P:Program}{w:World}{K:PySem.W.Frag}{mg:Str->Option Value}{base:Heap}{N ps:List Str}{qual:Str}{scope:Scope}{f:Addr}{cd:Value}{A:Around}{outer:List Env}{s s1:Shared}{H:Hp}{E:XK}{us:List Value}{vs:List V}
  (S:FnScope N ps scope) (hd:A.handled=none) (d:Env0 P w K mg base A outer s H) (hl:vs.length=ps.length) (r:Vals vs us)
  (x:InCallC s s.heap.objs.size (bindL (envOfC qual scope s.heap.objs.size f cd).kindOf (ps.zip us) λ_=>none) (cellsFrom (s.heap.objs.size+1) scope.names []) (bindC (envOfC qual scope s.heap.objs.size f cd).kindOf (ps.zip us) λ_=>none) s1) :
  Inv (J6 CX P w K mg base N qual scope f cd A outer s H E) [] (start N vs) H s1:=by
 have t:ps.length<=N.length:=by have:=congrArg List.length S.pre;rw[List.length_take]at this;omega
 obtain⟨h1,tk,rfl,o⟩:=x.done;have j:∀b:Addr,b∉(J6 CX P w K mg base N qual scope f cd A outer s H E).ex:=λb z=>absurd (show b∈([]:List Addr)from z) (by simp);refine⟨⟨d.mod,S.kind,rfl,rfl,Nat.le_refl _,λy z c h1 h2=>?_,λy g=>?_,λy c _ h=>?_,λ_=>hd,Around.frames_deeper d.frames,.inr ⟨rfl,rfl⟩,λb z=>absurd z (j b),d.bs,d.bsz,λb _ _=>j b,λb z=>absurd z (j b),d.funs,d.frf⟩,
  rfl,d.bare,Un.kept o,⟨_,x.toInCall.ns,λi y v h1 h2 C=>?_⟩,λy c h=>⟨_,x.cell y c h⟩,d.hok.fresh (Nat.le_refl _),λy c h=>?_,λp hp=>absurd (show p∈([]:List (Addr×Obj))from hp) (by simp),d.hok.kept o,?_⟩
 .exact name_of_addr x.apart (PySem.mem_of_lookup h1) (PySem.mem_of_lookup h2)
 .have g:scope.names.lookup y=some .cell∨scope.names.lookup y=some .free:=g;rcases g with g|g
  .exact a5X g
  .exact absurd rfl (S.nofree _ (PySem.mem_of_lookup g))
 .exact Nat.le_of_lt (x.above y c (PySem.mem_of_lookup h))
 .have hi:i<vs.length:=by
   unfold start at h2;by_cases hi:i<vs.length
   .exact hi
   .rw[List.getElem?_append_right (by simpa using hi)]at h2;rw[List.getElem?_replicate]at h2;split at h2<;>cases h2
  have ha:vs[i]?=some v:=by
   unfold start at h2;rw[List.getElem?_append_left (by simpa using hi),List.getElem?_map]at h2;cases e:vs[i]? with
   |none=>rw[e]at h2;cases h2
   |some a=>rw[e]at h2;cases h2;rfl
  obtain⟨u,m,B⟩:=r.get ha;have hp:ps[i]?=some y:=by
   rw[<-S.pre,List.getElem?_take_of_lt (by omega)];exact h1
  have l:ps.Nodup:=by rw[<-S.pre];exact S.nd.sublist (List.take_sublist _ _)
  refine⟨u,B,?_⟩;rcases S.par y (List.mem_of_getElem? hp)with k|k
  .exact .inl ⟨k,a3N l hp m k⟩
  .obtain⟨c,e⟩:=a5X (n:=s.heap.objs.size+1) k;refine .inr ⟨.inl k,c,e,?_⟩;have q:=x.cell y c e;rw[a3P l hp m (by show scope.names.lookup y≠_;rw[k];decide)]at q;exact q
 .exact d.hok.fresh (Nat.le_of_lt (x.above y c (PySem.mem_of_lookup h)))
 .unfold start;show _=N.length;rw[List.length_append,List.length_map,List.length_replicate];omega
theorem b5b{CX:CXT}{P:Program}{w:World}{K:PySem.W.Frag}{mg:Str->Option Value}{base:Heap}{k:Nat}{f:Addr}{name qual:Str}{params:Arguments}{body:List Stmt}{scope:Scope}{z kV g pm a ct oc:Value}{an od:Option Addr}
  {l:Array (Option Value)}{N ps:List Str}{sp:Sp}(D:K.lookup f=some ⟨oc,od,.func (PySem.W.fnOf name qual params body scope z kV g pm an a ct),l⟩) (m:PySem.W.codeIn K a qual=true) (S:FnScope N ps scope)
  (len:∀vs H Q E,sp vs H Q E->vs.length=ps.length)
  (c:∀(A:Around) (outer:List Env) (s:Shared) (H:Hp) (vs:List V) (Q:VK) (E:XK),Room k (A.deeper (envOfC qual scope s.heap.objs.size f a))->sp vs H Q E ->
   ∃t,PSs (J6 CX P w K mg base N qual scope f a A outer s H E) body t/\t {nx:=λ_ H'=>Q .non H',rt:=Q} (start N vs) H) :
  FnOk P w K mg base CX (k+1) f (PySem.W.fnOf name qual params body scope z kV g pm an a ct) ps sp:=by
 refine⟨len,λA outer s H args us vs Q E hr h F r i=>?_⟩;have hl:=len _ _ _ _ i;have B:K.In s.heap:=h.mod.kin.keeps λb o e=>(h.bs b o e).1;have j:s.heap.NoLimit:=h.mod.nolimit.keeps λb o e=>(h.bs b o e).1;have d:∀y∈ps.zip us,scope.names.lookup y.1=some .local∨(scope.names.lookup y.1=some .cell/\((cellsFrom (s.heap.objs.size+1) scope.names []).lookup y.1).isSome=true):=λ⟨n,v⟩ C=>by
  rcases S.par n (List.of_mem_zip C).1 with q|q
  .exact .inl q
  .exact .inr ⟨q,PySem.W.cellsFrom_some _ _ _ (.inl q)⟩
 refine codeAny_call_function hr.depth (B _ _ D) rfl S.co S.gen rfl (PySem.W.codeRec_of B m) (F _ _ _ _ ?_);refine wpAny_newFunctionEnv_cells S.kind d λenv G s1 x=>?_;subst G;refine⟨j.keeps x.toInCall.keep,codeAny_func ?_⟩;obtain⟨t,ht,L⟩:=c A outer s H vs Q E (hr.deeper _) i;have I:Inv (J6 CX P w K mg base N qual scope f a A outer s H E) [] (start N vs) H s1:=a9k S hr.hd h hl r x;refine wpAny_mono (ht [] s1 (start N vs) H _ I L) (λfl s' hs=>?_) λe s' hs=>hs;have fin:∀{σ':St}{H':Hp}{v:V}{u:Value},Inv (J6 CX P w K mg base N qual scope f a A outer s H E) [] σ' H' s'->RelV v u->Q v H'->CE outer P w H s Q u s' :=
  λ{σ' H' v u} J p q=>⟨v,H',J.os,J.bare,J.base,J.hok,p,q⟩
 cases fl with
 |ret u =>
  obtain⟨v,σ',H',J,p,q⟩:=hs;exact fin J p q
 |next =>
  obtain⟨σ',H',J,q⟩:=hs;exact fin (v:=V.non) (u:=Value.none) J rfl q
 |brk =>
  obtain⟨_,_,_,q⟩:=hs;exact False.elim q
 |cont =>
  obtain⟨_,_,_,q⟩:=hs;exact False.elim q
section
variable {X:Cx}{x:Str}{p pos:Pos}{e:Expr}{es:List Expr}{t:TA}{id T:String}{r:List V->Hp->VK->Prop}
def tCB(r:List V->Hp->VK->Prop)(t:TA):TE:=λσ H Q=>t σ H λvs H1=>r vs H1 Q
theorem D8(hc:C7 X (.builtin id) r)(d:Gl X x)(f:X.mg x=none)(c:bootBuiltins x=some (.builtin id))(ha:PA X (e::es) t)(j:x≠"__name__":=by decide)(a:(x==("__debug__" : Str))=false:=by decide)
  (g:starEach (e::es) X.env=(false,eval e X.env)::starEach es X.env:=by rfl) (b:(backTo pos (starEach es X.env)).any (·.1)=false:=by rfl):PE X (.Call (.Name x p) (e::es) [] pos) (tCB r t):=by
 intro pins s σ H Q I h;refine wpAny_Call_Name_kw (a2x I d f c ?_ j a);exact PyProof.Rows.callWith_builtin1 (thn (ha pos pins s σ H _ I h) λus s1 ⟨vs,H1,i,r1,q1⟩=>hc pins s1 σ H1 vs us Q i r1 q1) g b
theorem M4(hc:C7 X (.type T) r)(d:Gl X x)(f:X.mg x=none)(c:bootBuiltins x=some (.type T))(ha:PA X (e::es) t)(j:x≠"__name__":=by decide)(a:(x==("__debug__" : Str))=false:=by decide)
  (g:starEach (e::es) X.env=(false,eval e X.env)::starEach es X.env:=by rfl) (b:(backTo pos (starEach es X.env)).any (·.1)=false:=by rfl):PE X (.Call (.Name x p) (e::es) [] pos) (tCB r t):=by
 intro pins s σ H Q I h;refine wpAny_Call_Name_kw (a2x I d f c ?_ j a);exact PyProof.Rows.callWith_type1 (thn (ha pos pins s σ H _ I h) λus s1 ⟨vs,H1,i,r1,q1⟩=>hc pins s1 σ H1 vs us Q i r1 q1) g b
end
end L2
namespace HT
open PySem PyProof.Rows
noncomputable def lexLt:List Int->List Int->Bool
 |[],[]=>false
 |[],_::_=>true
 |_::_,[]=>false
 |x::xs,y::ys=>if x=y then lexLt xs ys else decide (x<y)
theorem lexLt_cons(x y:Int)(xs ys:List Int):lexLt (x::xs) (y::ys)=if x=y then lexLt xs ys else decide (x<y):=rfl
section
open PySem.SeqAt
open PySem.AutoSeq1 (wpAny_loadPart')
open PySem.MeetsSeq PySem.MeetsSeq2 PySem.MeetsSeq3
end
section
variable {prog:Program}{w:World}{A:Around}{E:Value->Shared->Prop}{s:Shared}
theorem cat_tup{t b:Addr}{vs a:List Value}{Q:Value->Shared->Prop}(ht:IsTup s.heap t vs.toArray)(m:IsTup s.heap b a.toArray)(k:vs≠[])
  (h1:a=[]->Q (.ref t) s) (h2:a≠[]->Q (.ref s.heap.objs.size) {s with heap:=s.heap.push {cls:=.type "tuple",data:=.seq (vs++a).toArray}})
  (hsz:vs.length+a.length<=sizeLine):wpAny (model prog w) A (binaryOp .Add (.ref t) (.ref b)) Q E s:=by
 obtain⟨⟨cls,dd,data,sl⟩,i,hc,n,hd⟩:=id ht;obtain⟨⟨l,h,j,d⟩,c,g,n2,f⟩:=id m;simp only at hc hd g f;subst hc hd g f;have e:vs.toArray++a.toArray=(vs++a).toArray:=by simp
 by_cases hw:a=[]
 .exact concat_meets ⟨_,i,rfl⟩ ⟨_,c,rfl⟩ noFill_tuple_add seq_tuple_add PySem.F.slot_tuple_add PySem.F.entry_tuple_add (PySem.F.args_tuple_add_2 _ _)
   (tuple_addW1 t b vs.toArray a.toArray n n2 dd h sl d (by simpa using k) (by simp[hw])) ⟨i,c,h1 hw⟩
 .refine concat_meets ⟨_,i,rfl⟩ ⟨_,c,rfl⟩ noFill_tuple_add seq_tuple_add PySem.F.slot_tuple_add PySem.F.entry_tuple_add (PySem.F.args_tuple_add_2 _ _)
   (tuple_addW2 t b vs.toArray a.toArray n n2 dd h sl d (by simpa using k) (by simpa using hw) (by rw[List.size_toArray,List.size_toArray];exact hsz)) ⟨i,c,?_⟩
  rw[e];exact h2 hw
noncomputable def sIx(n d:Nat):Option Int->Nat
 |none=>d
 |some v=>if v<0 then(v+(n:Int)).toNat else min v.toNat n
theorem sIx_none(n d:Nat):sIx n d none=d:=rfl
theorem sIx_nat(n d k:Nat):sIx n d (some (k:Int))=min k n:=by
 show(if (k:Int)<0 then((k:Int)+(n:Int)).toNat else min (k:Int).toNat n)=min k n;rw[if_neg (by omega),Int.toNat_natCast]
theorem b5m(n d:Nat)(hd:d<=n)(o:Option Int):sIx n d o<=n:=by
 cases o with
 |none=>exact hd
 |some v =>
  show(if v<0 then(v+(n:Int)).toNat else min v.toNat n)<=n;by_cases a:v<0
  .rw[if_pos a];omega
  .rw[if_neg a];exact Nat.min_le_right _ _
theorem a8l(v:Int)(n d:Nat):(if v<0 then max (v+(n:Int)) 0 else min v (n:Int))=((sIx n d (some v):Nat):Int):=by
 show(if v<0 then max (v+(n:Int)) 0 else min v (n:Int))=(((if v<0 then(v+(n:Int)).toNat else min v.toNat n):Nat):Int);by_cases a:v<0
 .simp only[if_pos a];omega
 .simp only[if_neg a];omega
theorem a6W(lo hi:Option Int)(n:Nat):Builtin.Slice.sliceAdjust lo hi 1 (n:Int)=(((sIx n 0 lo:Nat):Int),((sIx n n hi:Nat):Int)):=by
 have h1:¬((1:Int)<0):=by omega
 unfold Builtin.Slice.sliceAdjust;simp only[h1,if_false];refine Prod.ext ?_ ?_
 .cases lo with
  |none=>rfl
  |some v=>exact a8l v n 0
 .cases hi with
  |none=>rfl
  |some v=>exact a8l v n n
theorem a6w(i j:Nat):Builtin.Slice.slicePlaces (i:Int) (j:Int) 1=j-i:=by
 unfold Builtin.Slice.slicePlaces;have h1:(1:Int) > 0:=by omega
 simp only[h1,if_true,Int.ediv_one];split<;>omega
theorem a2d{v:Value}{o:Option Int}{Q:Option Int->Shared->Prop}(p:IsPart v o)(h:Q o s):wpAny (model prog w) A (Builtin.Slice.slicePartIndex v) Q E s:=by
 cases p with
 |none=>exact slicePart_none h
 |int i t=>exact slicePart_int h
theorem a0H{sl:Addr}{d c:Value}{lo hi:Option Int}{n:Nat}{Q:Int×Int×Nat->Shared->Prop}(hs:s.heap.IsSliceOf sl d c .none)(pl:IsPart d lo)(e:IsPart c hi)
  (h:Q (((sIx n 0 lo:Nat):Int),1,sIx n n hi-sIx n 0 lo) s):wpAny (model prog w) A (Builtin.Slice.sliceApplied (.ref sl) (pure (n:Int))) Q E s:=by
 obtain⟨os,a,f,b⟩:=id hs;unfold Builtin.Slice.sliceApplied Builtin.Slice.sliceFields;refine wpAny_bind (wpAny_bind (wpAny_field a b (x:=d) rfl (wpAny_bind (wpAny_field a b (x:=c) rfl (wpAny_bind (wpAny_field a b (x:=.none) rfl (wpAny_pure ?_)))))));refine wpAny_bind (slicePart_none ?_);show wpAny _ _ (if ((1:Int)==0)=true then _ else _) _ _ s;rw[if_neg (by decide)];refine wpAny_bind (a2d pl (wpAny_bind (a2d e (wpAny_bind (wpAny_pure ?_)))));show wpAny _ _ (match Builtin.Slice.sliceAdjust lo hi 1 (n:Int)with | (lo,hi)=>pure (lo,(1:Int),Builtin.Slice.slicePlaces lo hi 1)) _ _ s;rw[a6W lo hi n];show wpAny _ _ (pure (((sIx n 0 lo:Nat):Int),(1:Int),Builtin.Slice.slicePlaces ((sIx n 0 lo:Nat):Int) ((sIx n n hi:Nat):Int) 1)) _ _ s;rw[a6w];exact wpAny_pure h
theorem b0V(xs:Array Value)(i k:Nat):((List.range k).filterMap λ(m:Nat)=>xs[((i:Int)+(m:Int)*1).toNat]?).toArray=((xs.toList.drop i).take k).toArray:=by
 have e:(λ(m:Nat)=>xs[((i:Int)+(m:Int)*1).toNat]?)=λm=>xs[i+m]?:=by
  funext m;have:((i:Int)+(m:Int)*1).toNat=i+m:=by omega
  rw[this]
 rw[e];have:=pick_run xs i k;rw[List.filterMap_map]at this;have a:((λx=>xs[x]?) ∘ λx=>i+x)=λm=>xs[i+m]?:=rfl;rw[a]at this;rw[this]
theorem getItem_tuple_cut{t sl:Addr}{items:Array Value}{g f:Value}{lo hi:Option Int}{Q:Value->Shared->Prop}(ht:IsTup s.heap t items)(hs:s.heap.IsSliceOf sl g f .none)(pl:IsPart g lo)(i:IsPart f hi)
  (hw:¬(sIx items.size 0 lo=0/\sIx items.size items.size hi=items.size))
  (h:Q (.ref s.heap.objs.size) {s with heap:=s.heap.push {cls:=.type "tuple",data:=.seq ((items.toList.drop (sIx items.size 0 lo)).take (sIx items.size items.size hi-sIx items.size 0 lo)).toArray}})
  (hsz:items.size<=sizeLine):wpAny (model prog w) A (getItem (.ref t) (.ref sl)) Q E s:=by
 have a:sizeOk (.seq ((items.toList.drop (sIx items.size 0 lo)).take (sIx items.size items.size hi-sIx items.size 0 lo)).toArray):=by
  show((items.toList.drop (sIx items.size 0 lo)).take (sIx items.size items.size hi-sIx items.size 0 lo)).toArray.size<=sizeLine;rw[List.size_toArray,List.length_take,List.length_drop,Array.length_toList];omega
 have k:sIx items.size items.size hi<=items.size:=b5m _ _ (Nat.le_refl _) hi;obtain⟨os,b,c,j⟩:=id hs;have e:s.TypeIs (.ref sl) "slice":=⟨os,b,c⟩;unfold getItem
 try with_reducible refine wpAny_holding ?_
 first|refine wpAny_bind (wpAny_pure ?_)|skip
 refine wpAny_bind (wpAny_sequenceKey ht.typeIs (by decide) ?_);refine wpAny_bind (wpAny_callSpecial?_slot (name:=Str.ofString "__getitem__") ht.typeIs PyProof.Rows.slot_tuple_getitem
  (wpAny_call_entry PyProof.Rows.slot_tuple_getitem ht.typeIs entry_tuple_getitem ?_ (args_tuple_getitem _ _)))
 show wpAny _ _ (Builtin.Tuple.tupleItemsOf (.ref t)>>=_) _ _ s;refine wpAny_bind (tupleItemsOf_ ht ?_);refine wpAny_bind (wpAny_typeOf e ?_);rw[if_pos (by decide)];refine wpAny_bind (a0H hs pl i ?_);have d:¬((((sIx items.size 0 lo:Nat):Int)==0 && (1:Int)==1 && (sIx items.size items.size hi-sIx items.size 0 lo)==items.size)=true):=by
  intro q;rw[Bool.and_eq_true,Bool.and_eq_true]at q;have q1:((sIx items.size 0 lo:Nat):Int)=0:=eq_of_beq q.1.1;have q2:sIx items.size items.size hi-sIx items.size 0 lo=items.size:=eq_of_beq q.2;exact hw ⟨by omega,by omega⟩
 show wpAny _ _ (if (((sIx items.size 0 lo:Nat):Int)==0 && (1:Int)==1 && (sIx items.size items.size hi-sIx items.size 0 lo)==items.size)=true then _ else _) _ _ s;rw[if_neg d,b0V]
 first
  |exact wpAny_bind (m:=Builtin.Tuple.tupleExact _) (wpAny_newObj_type (wpAny_pure ⟨_,rfl,wpAny_pure h⟩) a)
  |exact wpAny_bind (m:=Builtin.Tuple.tupleExact _) (wpAny_newObj_type (wpAny_bind (wpAny_pure (wpAny_pure ⟨_,rfl,wpAny_pure h⟩))) a)
  |exact wpAny_bind (wpAny_bind (m:=Builtin.Tuple.tupleExact _) (wpAny_newObj_type (wpAny_pure (wpAny_pure ⟨_,rfl,wpAny_pure h⟩)) a))
  |exact wpAny_bind (wpAny_bind (m:=Builtin.Tuple.tupleExact _) (wpAny_newObj_type (wpAny_pure ⟨_,rfl,wpAny_pure h⟩) a))
end
end HT
namespace L2
open PySem PySem.Spec PyProof.Rows
abbrev TO:=St->Hp->(Option Int->Hp->Prop)->Prop
def PO(X:Cx)(e:Option Expr)(t:TO):Prop :=
 ∀(pins:List (Addr×Obj)) (s:Shared) (σ:St) (H:Hp) (Q:Option Int->Hp->Prop),Inv X pins σ H s->t σ H Q ->
  wpAny (model X.prog X.w) X.A (evalPart e X.env) (λu s'=>∃o H',Inv X pins σ H' s'/\IsPart u o/\Q o H') X.xe s
def a1E:TO:=λ_ H Q=>Q none H
def a7j(t:TE):TO:=λσ H Q=>t σ H λx H1=>∃i,x=.int i/\Q (some i) H1
theorem a6J{ns:List Int}:∀{us:List Value},Vals (ns.map V.int) us->IntsAre us ns:=by
 induction ns with
 |nil=>intro us r;rw[List.map_nil]at r;cases r;exact .nil
 |cons n ns ih =>
  intro us r;rw[List.map_cons]at r;cases r with
  |cons r1 r2 =>
   obtain⟨t,e⟩:=r1;subst e;exact .cons n t (ih r2)
section
variable {X:Cx}{e:Expr}{te:TE}{lo hi:Option Expr}{tl th:TO}{pos p2:Pos}
theorem b3q:PO X none a1E:=by
 intro pins s σ H Q I h;rw[evalPart_none];exact wpAny_pure ⟨none,H,I,.none,h⟩
theorem b3p(h:PE X e te):PO X (some e) (a7j te):=by
 intro pins s σ H Q I hw;rw[evalPart_some];refine thn (h pins s σ H _ I hw) λu s1 ⟨x,H1,a,r1,q1⟩=>?_;obtain⟨i,rfl,q⟩:=q1;obtain⟨t,rfl⟩:=r1;exact⟨some i,H1,a,.int i t,q⟩
def SlR(X:Cx)(r:V->Option Int->Option Int->Hp->VK->Prop):Prop :=
 ∀(pins:List (Addr×Obj)) (s:Shared) (σ:St) (H:Hp) (x:V) (v vl vu:Value) (lo hi:Option Int) (sl:Addr) (Q:VK),Inv X pins σ H s->RelV x v->s.heap.IsSliceOf sl vl vu .none->IsPart vl lo->IsPart vu hi->r x lo hi H Q ->
  ∃T id,typeLookup (.type T) "__getitem__"=pure (some (.builtin id))/\s.TypeIs v T/\wpAny (model X.prog X.w) X.A (getItem v (.ref sl)) (EP X pins σ Q) X.xe s
def tSl(r:V->Option Int->Option Int->Hp->VK->Prop)(te:TE)(tl th:TO):TE:=λσ H Q=>te σ H λx H1=>tl σ H1 λl H2=>th σ H2 λu H3=>r x l u H3 Q
theorem a5w{r:V->Option Int->Option Int->Hp->VK->Prop}(hr:SlR X r)(m:PE X e te)(hl:PO X lo tl)(n:PO X hi th):PE X (.Subscript e (.Slice lo hi none p2) pos) (tSl r te tl th):=by
 intro pins s σ H Q I h;refine Subscript_ (thn (m pins s σ H _ I h) λv s1 ⟨x,H1,o,r1,q1⟩=>?_);refine wpAny_Slice (thn (hl pins s1 σ H1 _ o q1) λd s2 ⟨l,H2,g,pl,q2⟩=>thn (n pins s2 σ H2 _ g q2) λc a ⟨u,f,p,j,q3⟩=>?_);rw[evalPart_none];refine wpAny_pure ?_;have i:Inv X pins σ f {a with heap:=a.heap.push {cls:=.type "slice",data:=.fields #[d,c,.none]}}:=p.kept (t':=a.toks) λb t q=>Heap.get?_push_of_some _ q;obtain⟨T,id,hT,ht,k⟩:=hr pins {a with heap:=a.heap.push {cls:=.type "slice",data:=.fields #[d,c,.none]}} σ f x v d c l u a.heap.objs.size Q i r1 (Heap.IsSliceOf.new ..) pl j q3;show wpAny (model X.prog X.w) X.A (subscriptTail e (.Slice lo hi none p2) v (.ref a.heap.objs.size)) (EP X pins σ Q) X.xe {a with heap:=a.heap.push {cls:=.type "slice",data:=.fields #[d,c,.none]}};exact tail_any (ops:=[.ref a.heap.objs.size,v]) ht hT k (by with_unfolding_all rfl)
noncomputable def Q8(xs:List V)(lo hi:Option Int):List V:=(xs.drop (HT.sIx xs.length 0 lo)).take (HT.sIx xs.length xs.length hi-HT.sIx xs.length 0 lo)
theorem W5(xs:List V)(lo hi:Option Int):(Q8 xs lo hi).length<=xs.length:=by
 unfold Q8;rw[List.length_take,List.length_drop];omega
def b0G(K:PySem.W.Frag):V->Option Int->Option Int->Hp->VK->Prop:=λx lo hi H Q=>∃a xs,x=.ref a/\SqT K H a xs /\
 ¬(HT.sIx xs.length 0 lo=0/\HT.sIx xs.length xs.length hi=xs.length)/\∀p,H p=none->Q (.ref p) (upd H p (.tup (Q8 xs lo hi)))
theorem b5l:SlR X (b0G X.K):=by
 intro pins s σ H x v j i lo hi sl Q I e hs pl d h;obtain⟨a,xs,rfl,f,hw,q⟩:=h;cases e;obtain⟨its,r,ht,hz⟩:=I.tuple f;have c:its.toArray.size=xs.length:=by rw[List.size_toArray];exact r.length.symm
 refine⟨"tuple",_,PyProof.Rows.slot_tuple_getitem.lookup,ht.typeIs,?_⟩;refine HT.getItem_tuple_cut ht hs pl d (by rw[c];exact hw) ?_ (by rw[c];exact hz);rw[c];refine⟨.ref s.heap.objs.size,_,I.laid (t':=s.toks) (o:=.tup (Q8 xs lo hi)) (λb g q=>Heap.get?_push_of_some _ q) (Nat.le_refl _) ?_,rfl,q _ (I.hok.fresh (Nat.le_refl _))⟩;exact⟨Nat.le_trans (W5 xs lo hi) hz,_,(r.drop (HT.sIx xs.length 0 lo)).take (HT.sIx xs.length xs.length hi-HT.sIx xs.length 0 lo),IsTup.new _ _⟩
def b7m(K:PySem.W.Frag):R2:=λx y H Q=>∃a b xs ys,x=.ref a/\y=.ref b/\SqT K H a xs/\SqT K H b ys/\xs≠[]/\xs.length+ys.length<=sizeLine /\
 (ys=[]->Q (.ref a) H)/\(ys≠[]->∀p,H p=none->Q (.ref p) (upd H p (.tup (xs++ys))))
theorem Vals.nil_iff{xs:List V}{us:List Value}(r:Vals xs us):us=[]↔xs=[]:=by
 cases r with
 |nil=>simp
 |cons _ _=>simp
theorem b3J:OpR X (binaryOp .Add) (b7m X.K):=by
 intro pins s σ H x y v u Q I f d h;obtain⟨a,b,xs,ys,rfl,rfl,ha,e,g,hz,q1,q2⟩:=h;cases f;cases d;obtain⟨its,r1,p1,_⟩:=I.tuple ha;obtain⟨c,r2,p2,_⟩:=I.tuple e;refine HT.cat_tup p1 p2 (λz=>g (r1.nil_iff.mp z)) (λz=>⟨.ref a,H,I,rfl,q1 (r2.nil_iff.mp z)⟩) (λz=>?_) (by rw[<-r1.length,<-r2.length];exact hz);refine⟨.ref s.heap.objs.size,_,I.laid (t':=s.toks) (o:=.tup (xs++ys)) (λb i q=>Heap.get?_push_of_some _ q) (Nat.le_refl _) ?_,rfl,q2 (λw=>z (r2.nil_iff.mpr w)) _ (I.hok.fresh (Nat.le_refl _))⟩;exact⟨by rw[List.length_append];exact hz,_,r1.append r2,IsTup.new _ _⟩
end
noncomputable def ixN(n:Nat)(i:Int):Option Nat:=if 0<=i then(if i<n then some i.toNat else none)else if -(n:Int)<=i then some (i+n).toNat else none
noncomputable def atI{α:Type}(xs:List α)(i:Int):Option α:=(ixN xs.length i).bind λj=>xs[j]?
theorem a7X{n:Nat}{i:Int}{j:Nat}(h:ixN n i=some j):seqIndex? i n=some j/\j<n /\ -(n:Int)<=i/\i<n:=by
 unfold ixN at h;by_cases h0:0<=i
 .rw[if_pos h0]at h;by_cases h1:i<n
  .rw[if_pos h1]at h;have e:i.toNat=j:=Option.some.inj h;exact⟨by rw[seqIndex_of h0 h1,e],by omega,by omega,h1⟩
  .rw[if_neg h1]at h;cases h
 .rw[if_neg h0]at h;by_cases h1 : -(n:Int)<=i
  .rw[if_pos h1]at h;have e:(i+n).toNat=j:=Option.some.inj h;exact⟨by rw[seqIndex_neg (by omega) h1,e],by omega,h1,by omega⟩
  .rw[if_neg h1]at h;cases h
theorem a8p{α:Type}{xs:List α}{i:Int}{v:α}(h:atI xs i=some v):∃j,seqIndex? i xs.length=some j/\xs[j]?=some v/\j<xs.length /\ -(xs.length:Int)<=i/\i<xs.length:=by
 unfold atI at h;cases e:ixN xs.length i with
 |none=>rw[e]at h;cases h
 |some j =>
  rw[e]at h;obtain⟨h1,h2,a,b⟩:=a7X e;exact⟨j,h1,h,h2,a,b⟩
theorem a1U{α:Type}{xs:List α}{j:Nat}{v:α}(h:xs[j]?=some v):atI xs (j:Int)=some v:=by
 have a:j<xs.length:=(List.getElem?_eq_some_iff.mp h).1;have e:ixN xs.length (j:Int)=some j:=by
  unfold ixN;rw[if_pos (by omega),if_pos (by omega)];simp
 unfold atI;rw[e];exact h
def a4P(b:Expr):Prop:=∀o i,subscripted b false o i=operate [o,i] (getItem o i)
def IxR(X:Cx)(r:R2):Prop :=
 ∀(value slice:Expr) (pins:List (Addr×Obj)) (s:Shared) (σ:St) (H:Hp) (x y:V) (v u:Value) (Q:VK),Inv X pins σ H s->RelV x v->RelV y u->r x y H Q ->
  subscripted slice false v u=operate [v,u] (getItem v u)->wpAny (model X.prog X.w) X.A (subscriptTail value slice v u) (EP X pins σ Q) X.xe s
def MtR(X:Cx)(id:String)(r:V->List V->Hp->VK->Prop):Prop :=
 ∀(pins:List (Addr×Obj)) (s:Shared) (σ:St) (H:Hp) (x:V) (xs:List V) (v:Value) (us:List Value) (Q:VK),Inv X pins σ H s->RelV x v->Vals xs us->r x xs H Q ->
  wpAny (model X.prog X.w) X.A (call (.builtin id) (v::us)) (EP X pins σ Q) X.xe s
section
variable {X:Cx}{a b:Expr}{ta tb:TE}{pos:Pos}
theorem b4T{r:R2}(hr:IxR X r)(ha:PE X a ta)(e:PE X b tb)(hs:a4P b):PE X (.Subscript a b pos) (tOp r ta tb):=by
 intro pins s σ H Q I h;exact Subscript_ (b6E ha e I h λv u s2 x y H2 c f d q=>hr a b pins s2 σ H2 x y v u Q c f d q (hs _ _))
def b3h(K:PySem.W.Frag):R2:=λx y H Q=>∃p xs i v,x=.ref p/\y=.int i/\SqL K H p xs/\atI xs i=some v/\Q v H
def b5p(K:PySem.W.Frag):R2:=λx y H Q=>∃p xs i v,x=.ref p/\y=.int i/\SqT K H p xs/\atI xs i=some v/\Q v H
theorem b4i:IxR X (b3h X.K):=by
 intro value a pins s σ H x y v u Q I e d h hs;obtain⟨p,xs,i,z,rfl,rfl,k,f,q⟩:=h;cases e;obtain⟨t,rfl⟩:=d;obtain⟨its,r,pl,hz⟩:=I.list k;obtain⟨j,h1,h2,n,l,g⟩:=a8p f;obtain⟨w,c,b⟩:=r.get h2;have hl:=r.length;have m:=a2w;have fin:EP X pins σ Q w s:=⟨z,H,I,b,q⟩;by_cases h0:0<=i
 .have hj:i.toNat=j:=by
   rw[seqIndex_of h0 g]at h1;exact Option.some.inj h1
  exact item_listR pl.isList h0 (by omega) (by rw[hj];simpa using c) fin hs
 .have hj:(i+(its.toArray.size:Int)).toNat=j:=by
   rw[seqIndex_neg (by omega) l]at h1;rw[List.size_toArray,<-hl];exact Option.some.inj h1
  exact subscriptTail_builtinR (x:=w) pl.isList.typeIs slot_list_getitem.lookup
   (wpAny_getItem_list_neg (Q:=λr s'=>r=w/\EP X pins σ Q r s') pl.isList (by omega) (by rw[List.size_toArray]<;>omega) (by omega) (by rw[hj];simpa using c) ⟨rfl,fin⟩) hs
theorem b6q:IxR X (b5p X.K):=by
 intro value a pins s σ H x y v u Q I e d h hs;obtain⟨p,xs,i,z,rfl,rfl,g,f,q⟩:=h;cases e;obtain⟨t,rfl⟩:=d;obtain⟨its,r,pl,hz⟩:=I.tuple g;obtain⟨j,h1,h2,l,n,m⟩:=a8p f;obtain⟨w,c,b⟩:=r.get h2;have hl:=r.length;have k:=a2w;have fin:EP X pins σ Q w s:=⟨z,H,I,b,q⟩;exact subscriptTail_builtinR (x:=w) pl.typeIs slot_tuple_getitem.lookup
  (getItem_tuple (j:=j) (Q:=λr s'=>r=w/\EP X pins σ Q r s') pl (by omega) (by omega) (by rw[List.size_toArray,<-hl];exact h1) (by simpa using c) ⟨rfl,fin⟩) hs
theorem a6C(its:List Value)(n j:Nat)(u:Value):Obj.mapSeq (·.setIfInBounds j u) {cls:=.type "list",data:=.seq its.toArray n}={cls:=.type "list",data:=.seq (its.set j u).toArray n}:=by
 simp[Obj.mapSeq]
theorem Inv.lst{pins:List (Addr×Obj)}{σ:St}{H:Hp}{s:Shared}{p:Addr}{xs:List V}(I:Inv X pins σ H s)(h:H p=some (.lst xs)) :
  ∃(its:List Value) (n:Nat),Vals xs its/\s.heap.get? p=some {cls:=.type "list",data:=.seq its.toArray n}/\xs.length<=sizeLine:=by
 obtain⟨z,its,n,r,e⟩:=I.hok p _ h;exact⟨its,n,r,e,z⟩
theorem Inv.lstUpd{pins:List (Addr×Obj)}{σ:St}{H:Hp}{s:Shared}{p:Addr}{xs ys:List V}{its its':List Value}{n a:Nat}{f:Obj->Obj}(I:Inv X pins σ H s)(h:H p=some (.lst xs))
  (c:s.heap.get? p=some {cls:=.type "list",data:=.seq its.toArray n}) (hf:f {cls:=.type "list",data:=.seq its.toArray n}={cls:=.type "list",data:=.seq its'.toArray a}) (r:Vals ys its') (hz:ys.length<=sizeLine) (t:Nat) :
  Inv X pins σ (upd H p (.lst ys)) {s with heap:=s.heap.update p f,toks:=t}:=by
 have e:(s.heap.update p f).get? p=some {cls:=.type "list",data:=.seq its'.toArray a}:=by
  rw[Heap.get?_update_self f c (by rw[hf]<;>rfl),hf]
 refine I.write (x:=p) (e:=p) (by rw[h];trivial) (.inl rfl) (λb u d q=>(Heap.get?_update_other _ _ (Ne.symm d)).trans q) ⟨_,e⟩ ?_;exact⟨hz,its',a,r,e⟩
def b4N:V->V->V->Hp->(Hp->Prop)->Prop:=λo i v H Q=>∃p xs k j,o=.ref p/\i=.int k/\H p=some (.lst xs)/\ixN xs.length k=some j/\Q (upd H p (.lst (xs.set j v)))
theorem b0n:b7I X b4N:=by
 intro pins s σ H o i v w m u Q I f ri g h;obtain⟨p,xs,k,j,rfl,rfl,hp,e,q⟩:=h;cases f;obtain⟨t,rfl⟩:=ri;obtain⟨its,n,r,a,hz⟩:=I.lst hp;obtain⟨h1,h2,c,d⟩:=a7X e;have hl:=r.length;have l:=a2w;have b:Inv X pins σ (upd H p (.lst (xs.set j v))) {s with heap:=s.heap.update p (Obj.mapSeq (·.setIfInBounds j u))} :=
  I.lstUpd hp a (a6C its n j u) (r.set g j) (by rw[List.length_set];exact hz) s.toks
 by_cases h0:0<=k
 .have hk:k.toNat=j:=by
   rw[seqIndex_of h0 d]at h1;exact Option.some.inj h1
  exact PySem.W.ki_setAt a h0 (by omega) (by rw[List.size_toArray,<-hl];exact d) (by rw[hk];exact⟨_,b,q⟩)
 .have hk:(k+(its.toArray.size:Int)).toNat=j:=by
   rw[seqIndex_neg (by omega) c]at h1;rw[List.size_toArray,<-hl];exact Option.some.inj h1
  exact PySem.W.ki_setBack a (by omega) (by rw[List.size_toArray,<-hl];exact c) (by omega) (by rw[hk];exact⟨_,b,q⟩)
theorem a4h(lo hi:Option Int)(n:Nat):(sliceBounds lo hi none n).1=((HT.sIx n 0 lo:Nat):Int)/\(sliceBounds lo hi none n).2.1=((HT.sIx n n hi:Nat):Int)/\(sliceBounds lo hi none n).2.2=1:=by
 refine⟨?_,?_,rfl⟩
 .cases lo with
  |none=>simp[sliceBounds,HT.sIx]
  |some i =>
   simp only[sliceBounds,HT.sIx,Option.getD_none,show(1:Int) > 0 by decide,if_true];by_cases h:i<0
   .simp only[h,if_true]<;>omega
   .simp only[h,if_false]<;>omega
 .cases hi with
  |none=>simp[sliceBounds,HT.sIx]
  |some i =>
   simp only[sliceBounds,HT.sIx,Option.getD_none,show(1:Int) > 0 by decide,if_true];by_cases h:i<0
   .simp only[h,if_true]<;>omega
   .simp only[h,if_false]<;>omega
theorem a3a(its:List Value)(lo hi:Option Int):slicePick its.toArray lo hi none=((its.drop (HT.sIx its.length 0 lo)).take (HT.sIx its.length its.length hi-HT.sIx its.length 0 lo)).toArray:=by
 obtain⟨h1,h2,a⟩:=a4h lo hi its.toArray.size;unfold slicePick;rw[h1,h2,a];simp only[sliceRange_one,pick_run,List.size_toArray]<;>rfl
def b5o(K:PySem.W.Frag):V->Option Int->Option Int->Hp->VK->Prop:=λx lo hi H Q=>∃a xs,x=.ref a/\SqL K H a xs/\∀p,H p=none->Q (.ref p) (upd H p (.lst (Q8 xs lo hi)))
theorem b2T:SlR X (b5o X.K):=by
 intro pins s σ H x v j i lo hi sl Q I e hs pl d h;obtain⟨a,xs,rfl,f,q⟩:=h;cases e;obtain⟨its,r,ht,hz⟩:=I.list f;have c:=r.length;refine⟨"list",_,slot_list_getitem.lookup,ht.isList.typeIs,?_⟩;refine wpAny_getItem_list_slice ht.isList hs pl d .none (by simp) ?_ (by rw[List.size_toArray]<;>omega);rw[a3a,<-c];refine⟨.ref s.heap.objs.size,_,I.laid (t':=s.toks) (o:=.lst (Q8 xs lo hi)) (λb g q=>Heap.get?_push_of_some _ q) (Nat.le_refl _) ?_,rfl,q _ (I.hok.fresh (Nat.le_refl _))⟩;exact⟨Nat.le_trans (W5 xs lo hi) hz,_,0,(r.drop (HT.sIx xs.length 0 lo)).take (HT.sIx xs.length xs.length hi-HT.sIx xs.length 0 lo),Heap.get?_push_size _ rfl⟩
noncomputable def a5P:V->Bool
 |.non=>true
 |.bl _=>true
 |.int _=>true
 |.str _=>true
 |_=>false
noncomputable def eqV:V->V->Bool
 |.non,.non=>true
 |.bl a,.bl b=>a==b
 |.bl a,.int b=>(if a then 1 else 0)==b
 |.int a,.bl b=>a==(if b then 1 else 0)
 |.int a,.int b=>a==b
 |.str a,.str b=>a==b
 |_,_=>false
theorem b6y{A:Around}{s:Shared}{y x:V}{u v:Value}(d:RelV y u)(c:RelV x v)(fy:a5P y=true)(fx:a5P x=true):SeqAt.EqAt A s u v (eqV y x):=by
 cases y with
 |non =>
  cases d;cases x with
  |non=>cases c;exact SeqAt.EqAt.same _
  |bl b=>cases c;exact SeqAt.EqAt.none_bool b
  |int b=>obtain⟨t,rfl⟩:=c;exact SeqAt.EqAt.none_int b t
  |str b=>obtain⟨t,rfl⟩:=c;exact SeqAt.EqAt.none_str b t
  |_=>exact absurd (show false=true from fx) Bool.false_ne_true
 |bl a =>
  cases d;cases x with
  |non=>cases c;exact SeqAt.EqAt.bool_none a
  |bl b=>cases c;exact SeqAt.EqAt.bool_bool a b
  |int b=>obtain⟨t,rfl⟩:=c;exact SeqAt.EqAt.bool_int a b t
  |str b=>obtain⟨t,rfl⟩:=c;exact SeqAt.EqAt.bool_str a b t
  |_=>exact absurd (show false=true from fx) Bool.false_ne_true
 |int a =>
  obtain⟨t',rfl⟩:=d;cases x with
  |non=>cases c;exact SeqAt.EqAt.int_none a t'
  |bl b=>cases c;exact SeqAt.EqAt.int_bool a t' b
  |int b=>obtain⟨t,rfl⟩:=c;exact SeqAt.EqAt.int_int a t' b t
  |str b=>obtain⟨t,rfl⟩:=c;exact SeqAt.EqAt.int_str a t' b t
  |_=>exact absurd (show false=true from fx) Bool.false_ne_true
 |str a =>
  obtain⟨t',rfl⟩:=d;cases x with
  |non=>cases c;exact SeqAt.EqAt.str_none a t'
  |bl b=>cases c;exact SeqAt.EqAt.str_bool a t' b
  |int b=>obtain⟨t,rfl⟩:=c;exact SeqAt.EqAt.str_int a t' b t
  |str b=>obtain⟨t,rfl⟩:=c;exact SeqAt.EqAt.str_str a t' b t
  |_=>exact absurd (show false=true from fx) Bool.false_ne_true
 |_=>exact absurd (show false=true from fy) Bool.false_ne_true
theorem a4N:C7 X (.builtin "len") (λxs H Q=>∃p ys,xs=[.ref p]/\(SqL X.K H p ys∨SqT X.K H p ys)/\Q (.int ys.length) H):=by
 intro pins s σ H xs us Q I r h;obtain⟨p,ys,rfl,b,q⟩:=h;obtain⟨u,rfl,c⟩:=a4Z r;cases c;have d:=a2w;rcases b with b|b
 .obtain⟨its,r',pl,hz⟩:=I.list b;have a:=r'.length;exact Calls.call_len_list pl.isList (by simp only[List.size_toArray]<;>omega) ⟨.int ys.length,H,I.tok _,⟨s.toks+1,by rw[List.size_toArray,a]⟩,q⟩
 .obtain⟨its,r',pl,hz⟩:=I.tuple b;have a:=r'.length;exact len_tuple pl (by simp only[List.size_toArray]<;>omega) ⟨.int ys.length,H,I.tok _,⟨s.toks+1,by rw[List.size_toArray,a]⟩,q⟩
theorem a4M:C7 X (.type "list") (λxs H Q=>∃p ys,xs=[.ref p]/\(SqL X.K H p ys∨SqT X.K H p ys)/\∀l,H l=none->Q (.ref l) (upd H l (.lst ys))):=by
 intro pins s σ H xs us Q I r h;obtain⟨p,ys,rfl,d,q⟩:=h;obtain⟨u,rfl,g⟩:=a4Z r;cases g;have fin:∀(its:List Value),Vals ys its->ys.length<=sizeLine->∀(h':Heap) (c':Nat),(∀b o',s.heap.get? b=some o'->h'.get? b=some o') ->
   h'.get? s.heap.objs.size=some {cls:=.type "list",dict:=none,data:=.seq its.toArray c',slots:=#[]}->EP X pins σ Q (.ref s.heap.objs.size) {s with heap:=h'}:=λits a hz h' c' kp e =>
  ⟨.ref s.heap.objs.size,_,I.laid (t':=s.toks) kp (Nat.le_refl _) (show ObjOk X.prog X.w _ h' _ (.lst ys)from⟨hz,its,c',a,e⟩),rfl,q _ (I.hok.fresh (Nat.le_refl _))⟩
 rcases d with d|d
 .obtain⟨its,a,pl,hz⟩:=I.list d;have c:=a.length;obtain⟨o,f,hc,n,hd⟩:=pl.isList;exact call_list_seq p (.inl rfl) f hc hd (λh' c' kp e=>fin its a hz h' c' kp e) (by simp only[List.size_toArray]<;>omega)
 .obtain⟨its,a,pl,hz⟩:=I.tuple d;have c:=a.length;obtain⟨o,f,hc,n,hd⟩:=pl;exact call_list_seq p (.inr rfl) f hc hd (λh' c' kp e=>fin its a hz h' c' kp e) (by simp only[List.size_toArray]<;>omega)
theorem a3e:C7 X (.type "tuple") (λxs H Q=>∃p ys,xs=[.ref p]/\((SqL X.K H p ys/\∀l,H l=none->Q (.ref l) (upd H l (.tup ys)))∨(SqT X.K H p ys/\Q (.ref p) H))):=by
 intro pins s σ H xs us Q I r h;obtain⟨p,ys,rfl,h⟩:=h;obtain⟨u,rfl,g⟩:=a4Z r;cases g;rcases h with⟨a,q⟩|⟨a,q⟩
 .obtain⟨its,r',pl,hz⟩:=I.list a;have c:=r'.length;refine call_tuple_list pl.isList (λh' kp=>?_) (by simp only[List.size_toArray]<;>omega);have d:Inv X pins σ H {s with heap:=h'}:=I.kept (t':=s.toks) kp;have f:Inv X pins σ (upd H h'.objs.size (.tup ys)) {s with heap:=h'.push {cls:=.type "tuple",data:=.seq its.toArray}} :=
   d.laid (t':=s.toks) (λb o e=>Heap.get?_push_of_some _ e) (Nat.le_refl _) (show ObjOk X.prog X.w _ _ _ (.tup ys)from⟨hz,its,r',IsTup.new _ _⟩)
  exact⟨.ref h'.objs.size,_,f,rfl,q _ (d.hok.fresh (Nat.le_refl _))⟩
 .obtain⟨its,r',pl,hz⟩:=I.tuple a;exact call_tuple_same pl ⟨.ref p,H,I,rfl,q⟩
def tyV(K:PySem.W.Frag)(T:String)(x:V)(H:Hp):Prop:=match x with
 |.str _=>T="str"
 |.int _=>T="int"
 |.ref p=>(T="list" /\ ∃xs,SqL K H p xs)∨(T="tuple" /\ ∃o,K.lookup p=some o/\o.cls=.type "tuple"/\o.dict=none) ∨
   (T="dict"/\((∃kvs,H p=some (.dK kvs))∨∃kvs,H p=some (.dT kvs)))∨(T="set" /\ ∃S n,H p=some (.set S n))
 |_=>False
theorem b5f{pins:List (Addr×Obj)}{σ:St}{H:Hp}{s:Shared}{T:String}{x:V}{v:Value}(I:Inv X pins σ H s)(r:RelV x v)(ty:tyV X.K T x H) :
  s.TypeIs v T/\∀a,v=.ref a->∃f,s.heap.get? a=some f/\f.dict=none:=by
 cases x with
 |str z =>
  obtain⟨t,rfl⟩:=r;cases(show T="str" from ty);exact⟨typeIs_str s z t,λ_ e=>nomatch e⟩
 |int i =>
  obtain⟨t,rfl⟩:=r;cases(show T="int" from ty);exact⟨typeIs_int s i t,λ_ e=>nomatch e⟩
 |ref p =>
  cases r;rcases ty with⟨rfl,xs,g⟩|⟨rfl,o,b,hc,hd⟩|⟨rfl,b⟩|⟨rfl,S,n,b⟩
  .obtain⟨its,_,pl,_⟩:=I.list g;refine⟨pl.isList.typeIs,λa e=>?_⟩;cases e;obtain⟨o,n,e,c,hd,_⟩:=pl;exact⟨o,e,hd⟩
  .refine⟨⟨o,I.kIn p o b,hc⟩,λa e=>?_⟩;cases e;exact⟨o,I.kIn _ o b,hd⟩
  .have z:∃o,s.heap.get? p=some o/\o.ExactDict:=by
    rcases b with⟨kvs,b⟩|⟨kvs,b⟩
    .obtain⟨_,_,_,_,o,_,_,e,ex,_⟩:=I.hok p _ b;exact⟨o,e,ex⟩
    .obtain⟨_,_,_,_,o,_,_,e,ex,_⟩:=I.hok p _ b;exact⟨o,e,ex⟩
   obtain⟨o,e,ex⟩:=z;refine⟨⟨o,e,ex.1⟩,λa d=>?_⟩;cases d;exact⟨o,e,ex.2.1⟩
  .obtain⟨o,_,_,_,e,ex,_⟩:=I.hok p _ b;refine⟨⟨o,e,ex.1⟩,λa d=>?_⟩;cases d;exact⟨o,e,ex.2.1⟩
 |_=>exact False.elim ty
def tBM(K:PySem.W.Frag)(T:String)(r:V->List V->Hp->VK->Prop)(to:TE)(t:TA):TE:=λσ H Q=>to σ H λx H1=>tyV K T x H1/\t σ H1 λxs H2=>r x xs H2 Q
variable {o e:Expr}{es:List Expr}{to:TE}{t:TA}{name:Str}{apos cpos:Pos}{T id:String}{r:V->List V->Hp->VK->Prop}
theorem b7r(m:PlainAttrs T)(slot:Slot T name id)(f:typeOf (.builtin id)=pure (.type "method_descriptor"))(l:MtR X id r)(k:PE X o to)(ha:PA X (e::es) t)
  (c:attributeBase o name X.env (eval o X.env)=eval o X.env:=by rfl)
  (d:((backTo cpos (starEach (e::es) X.env)).all (λx=>!x.1) && (backToKw cpos (keywordEach [] X.env)).all (λx=>x.1.isSome)
   && decide ((e::es).length+([]:List Keyword).length+(if ([]:List Keyword).isEmpty then 0 else 1)<30))=true:=by rfl)
  (b:(apos.endLine==cpos.line)=true:=by rfl) (hs:starEach (e::es) X.env=(false,eval e X.env)::starEach es X.env:=by rfl) (a:(backTo cpos (starEach es X.env)).any (·.1)=false:=by rfl) :
  PE X (.Call (.Attribute o name apos) (e::es) [] cpos) (tBM X.K T r to t):=by
 intro pins s σ H Q I h;refine wpAny_Call_method_late c d b rfl (thn (k pins s σ H _ I h) λv s1 ⟨x,H1,i,r1,ty,q1⟩=>?_);obtain⟨h1,h2⟩:=b5f i r1 ty;refine⟨T,id,m,slot,f,h1,h2,?_⟩;have g:=ha cpos pins s1 σ H1 _ i q1;rw[hs]at g⊢;refine Calls.callWith_builtin (by show(false || (backTo cpos (starEach es X.env)).any (·.1))=false;rw[a]<;>rfl) (Calls.evalArgs_plain ?_);exact thn g λus s2 ⟨vs,H2,j,r2,q2⟩=>l pins s2 σ H2 x vs v us Q j r1 r2 q2
end
def MtM(X:Cx)(id:String)(r:V->List V->Hp->VK->Prop):Prop :=
 ∀(pins:List (Addr×Obj)) (s:Shared) (σ:St) (H:Hp) (x:V) (xs:List V) (v:Value) (us:List Value) (Q:VK),Inv X pins σ H s->RelV x v->Vals xs us->r x xs H Q ->
  wpAny (model X.prog X.w) X.A (call (.builtin id) (v::us)) (EP X pins σ Q) X.xe s
theorem Vals.one{x:V}{us:List Value}(h:Vals [x] us):∃u,us=[u]/\RelV x u:=by
 cases h with
 |cons r q=>cases q;exact⟨_,rfl,r⟩
theorem Vals.two{x y:V}{us:List Value}(h:Vals [x,y] us):∃u v,us=[u,v]/\RelV x u/\RelV y v:=by
 cases h with
 |cons r h=>obtain⟨v,rfl,q⟩:=Vals.one (x:=y) h;exact⟨_,_,rfl,r,q⟩
theorem Vals.eraseIdx:∀{xs:List V}{us:List Value}(i:Nat),Vals xs us->Vals (xs.eraseIdx i) (us.eraseIdx i)
 |_,_,_,.nil=>.nil
 |_,_,0,.cons _ t=>t
 |_,_,i+1,.cons r t=>.cons r (Vals.eraseIdx i t)
theorem Vals.rep{xs:List V}{us:List Value}(h:Vals xs us):∀k:Nat,Vals (List.replicate k xs).flatten (List.replicate k us).flatten
 |0=>.nil
 |k+1=>by
  rw[List.replicate_succ,List.replicate_succ,List.flatten_cons,List.flatten_cons];exact Vals.append h (Vals.rep h k)
theorem a3w{α:Type}:∀(l:List α) (i:Nat),(l.eraseIdx i).length<=l.length
 |[],_=>Nat.le_refl _
 |_::_,0=>Nat.le_succ _
 |_::r,i+1=>Nat.succ_le_succ (a3w r i)
section
variable {X:Cx}{pins:List (Addr×Obj)}{σ:St}{H:Hp}{s:Shared}{l b:Addr}{xs ys zs:List V}
theorem Inv.lset{its its':List Value}{n:Nat}{f:Array Value->Array Value}{t':Nat}(I:Inv X pins σ H s)(d:H l=some (.lst xs))
  (e:s.heap.get? l=some {cls:=.type "list",data:=.seq its.toArray n}) (hf:f its.toArray=its'.toArray) (a:Vals ys its') (hz:ys.length<=sizeLine) :
  Inv X pins σ (upd H l (.lst ys)) {s with heap:=s.heap.update l (Obj.mapSeq f),toks:=t'}:=by
 have q:=PySem.IsL.update e f;rw[hf]at q;refine I.write (x:=l) (e:=l) (by rw[d];exact trivial) (.inl rfl) (λb' u c b=>(Heap.get?_update_other s.heap (Obj.mapSeq f) (Ne.symm c)).trans b) ⟨_,q⟩ ?_;exact⟨hz,its',_,a,q⟩
theorem Inv.lstM(I:Inv X pins σ H s)(a:H l=some (.lst xs)):xs.length<=sizeLine/\∃(its:List Value) (n:Nat),Vals xs its/\xs.length=its.length/\s.heap.get? l=some {cls:=.type "list",data:=.seq its.toArray n}:=by
 obtain⟨z,its,n,r,e⟩:=I.hok l _ a;exact⟨z,its,n,r,r.length,e⟩
theorem b1u{n:Nat}(h:n<=sizeLine):Builtin.List.listTooLong n=false:=by
 unfold Builtin.List.listTooLong;exact decide_eq_false (by omega)
end
section
variable {X:Cx}
def a7E:V->List V->Hp->VK->Prop:=λx vs H Q=>∃l xs y,x=.ref l/\vs=[y]/\H l=some (.lst xs)/\xs.length<sizeLine/\Q .non (upd H l (.lst (xs++[y])))
theorem a9c:MtM X "list.append" a7E:=by
 intro pins s σ H x vs v us Q I c d h;obtain⟨l,xs,y,rfl,rfl,a,hz,q⟩:=h;cases c;obtain⟨u,rfl,b⟩:=d.one;obtain⟨z,its,n,r,hl,e⟩:=I.lstM a;refine call_meets F.slot_list_append ⟨_,e,rfl⟩ F.entry_list_append (F.args_list_append_2 _ _) (PySem.list_append l its.toArray n u (by rw[List.size_toArray];omega)) ⟨e,?_⟩;refine⟨.non,_,I.lset (its':=its++[u]) a e (by simp) (r.append (.cons b .nil)) ?_,rfl,q⟩;rw[List.length_append,List.length_singleton];omega
def a7D:V->List V->Hp->VK->Prop:=λx vs H Q=>∃l b xs zs,x=.ref l/\vs=[.ref b]/\H l=some (.lst xs)/\H b=some (.lst zs)/\xs.length+zs.length<=sizeLine/\Q .non (upd H l (.lst (xs++zs)))
theorem a9b:MtM X "list.extend" a7D:=by
 intro pins s σ H x vs v us Q I i m h;obtain⟨l,b,xs,zs,rfl,rfl,d,g,hz,q⟩:=h;cases i;obtain⟨u,rfl,j⟩:=m.one;cases j;obtain⟨z,its,n,r,hl,e⟩:=I.lstM d;obtain⟨z2,a,n2,r2,k,f⟩:=I.lstM g;have hsz:its.toArray.size+a.toArray.size<=sizeLine:=by rw[List.size_toArray,List.size_toArray];omega
 have c:¬(!its.toArray.isEmpty && Builtin.List.listTooLong (its.toArray.size+a.toArray.size))=true:=by
  rw[b1u hsz,Bool.and_false];exact Bool.false_ne_true
 refine call_meets F.slot_list_extend ⟨_,e,rfl⟩ F.entry_list_extend (F.args_list_extend_2 _ _)
  (AutoSeq1.list_extend_list_list_0 l its.toArray n b a.toArray n2 c (by rw[List.size_toArray];omega) (by omega)) ⟨e,f,?_⟩
 refine⟨.non,_,I.lset (its':=its++a) d e (by simp) (r.append r2) ?_,rfl,q⟩;rw[List.length_append];omega
def b0H:V->List V->Hp->VK->Prop:=λx vs H Q=>∃l xs i k y,x=.ref l/\vs=[.int i]/\H l=some (.lst xs) /\ -(2 ^ 63)<=i/\i<2 ^ 63/\seqIndex? i xs.length=some k/\xs[k]?=some y/\Q y (upd H l (.lst (xs.eraseIdx k)))
theorem b1v:MtM X "list.pop" b0H:=by
 intro pins s σ H x vs v us Q I d j h;obtain⟨l,xs,i,k,y,rfl,rfl,b,h1,h2,g,c,q⟩:=h;cases d;obtain⟨u,rfl,f⟩:=j.one;obtain⟨t,rfl⟩:=f;obtain⟨z,its,n,r,hl,e⟩:=I.lstM b;obtain⟨w,hw,a⟩:=r.get c;refine call_meets F.slot_list_pop ⟨_,e,rfl⟩ F.entry_list_pop (F.args_list_pop_2 _ _)
  (MeetsSeq.list_pop_at l its.toArray n i t k w (fitsIndex_both h1 h2) (by rw[List.size_toArray,<-hl];exact g) (by rw[<-Array.getElem?_toList];exact hw) (by rw[List.size_toArray];omega)) ⟨e,?_⟩
 refine⟨y,_,I.lset (its':=its.eraseIdx k) b e ?_ (r.eraseIdx k) ?_,a,q⟩
 .show its.toArray.eraseIdxIfInBounds k=(its.eraseIdx k).toArray;rw[List.eraseIdxIfInBounds_toArray]
 .have:=a3w xs k;omega
theorem a7N{α:Type}(xs:List α)(k:Nat):(List.replicate k xs).flatten.length=k*xs.length:=by
 induction k with
 |zero=>simp
 |succ k ih=>rw[List.replicate_succ,List.flatten_cons,List.length_append,ih,Nat.succ_mul,Nat.add_comm]
end
section
variable {prog:Program}{w:World}{A:Around}{E:Value->Shared->Prop}{s:Shared}
end
section
variable {X:Cx}
end
end L2
namespace Att
open PySem PySem.W PySem.Calls PyProof.Rows
theorem a1x{P:Params}{h:Heap}:∀(ns:List Int) (vs:List Value),WellAll P h vs (ns.map WData.int)->IntsAre vs ns:=by
 intro ns;induction ns with
 |nil =>
  intro vs w;rw[List.map_nil]at w;cases w;exact .nil
 |cons n ns ih =>
  intro vs w;rw[List.map_cons]at w;cases w with
  |cons a b =>
   cases a;exact .cons _ _ (ih _ b)
theorem a8E{l:OpenLaw}{n:Nat}(m:l.most=some n){P:Params}{h:Heap}{args:List WData}{b:List Value}
  (c:l.row.toRowW.claim.pre args=true) (i:WellAll P h b args) :
  ∃a vs ns,b=[Value.ref a]/\args=[WData.list (ns.map WData.int)]/\h.get? a=some {cls:=.type "list",data:=.seq vs.toArray}/\IntsAre vs ns/\ns.length<=n:=by
 have hsh:WShape.hasAll [] args [.list .int]=true:=(pre_splitW c).1;have hc:l.pre.holds [] {args:=args}=true:=(pre_splitW c).2;obtain⟨d,r,rfl,h1,h2⟩:=hasAllW_cons hsh;obtain rfl:=hasAllW_nil h2;obtain⟨xs,rfl,k⟩:=hasW_list h1;obtain⟨ns,rfl⟩:=items_int k;have e:ns.length<=n:=by
  unfold OpenLaw.pre at hc;have g:(WTm.not (.lt (.lit (.int (n:Int))) (.len (.arg 0)))).holds [] {args:=[.list (ns.map .int)]}=true:=by
   have g:=(holds_andW hc).1;rw[m]at g;exact g
  have f:=condW_of g (w_not (w_lt w_lit (w_len_list (w_arg rfl))));rw[List.length_map]at f;refine Nat.le_of_not_lt λq=>?_;have j:(n:Int)<((ns.length:Nat):Int):=by omega
  first
   |(rw[decide_eq_true j]at f;exact absurd f (by decide))
   |(simp at f;omega)
 cases i with
 |cons w1 w2 =>
  cases w2;cases w1 with
  |list ho hall=>exact⟨_,_,ns,rfl,rfl,ho,a1x ns _ hall,e⟩
theorem a8O(l:OpenLaw)(args:List WData):l.row.toRowW.claim.post args (.bool true) args=true :=
 postW_of (r:=l.row.toRowW) (X:=(true==true))
  (show WShape.has [] (.bool true) .bool=true by first|rfl|decide|simp[WShape.has,WShape.arms,WShape.armsAll])
  (show(WTm.eq .res (.lit (.bool true))).value [] {args:=args,res:=some (.bool true),after:=args}=some (.bool (true==true))from w_eq_bool (w_res rfl) w_lit) rfl
theorem attach_call{l:OpenLaw}{n:Nat}{q:Program}{b:List Str}{XP:(Str->Option Value)->Heap->Prop}{z:World->Heap->Prop}{d:DefRec}
  (D:l.most=some n) (u:d.params.defaults=[])
  (call:∀(w:World) (s₀ s₁:Shared) (mg p:Str->Option Value) (i:Addr) (o:Obj) (pm cd c:Value) (a:Addr) (vs:List Value) (ns:List Int),
   Ground q b [] XP w s₀ mg p s₁.heap->z w s₁.heap ->
   s₁.heap.get? i=some o->o.data=.func (docDef d.name d.params d.body d.scope pm cd c)->s₁.heap.CodeRec cd d.name->mg d.name=some (.ref i) ->
   s₁.heap.get? a=some {cls:=.type "list",data:=.seq vs.toArray}->IntsAre vs ns->ns.length<=n->s₁.gens=#[] ->
   codeAny (model l.prog w) callerA (.call (.ref i) ⟨[.ref a],[]⟩) (λr s'=>r=.ok (.ret (.bool true))/\OldK s₁.heap s'.heap/\s'.os=s₁.os/\AllBare s'.gens) s₁) :
  WalkO q b XP z l.row.toRowW d [] (λf vs=>PySem.call f vs):=by
 intro w s₀ s₁ mg p G Y i o pm cd c H kV C hd t v m A args y L h x J k E;obtain rfl:H=.none:=Dflts.none v u;obtain rfl:kV=.none:=Dflts.noKw v;obtain⟨a,vs,ns,rfl,rfl,g,e,j⟩:=a8E D h k;refine enter_call (codeAny_mono (call w s₀ s₁ mg p i o pm cd c a vs ns G Y C (fd_plain hd) t m g e j A) λr s' B=>?_);obtain⟨rfl,h2,I,K⟩:=B;exact⟨.inl ⟨.bool true,.bool true,[],rfl,λ_=>rfl,.bool true,a8O l _,λ_=>⟨List.Pairwise.nil,λ_ F=>(nomatch F)⟩⟩,h2,I,K⟩
section
variable {prog:Program}{w:World}{A:Around}{E:Value->Shared->Prop}{s:Shared}{K:Frag}
end
end Att
namespace L2
open PySem PySem.Spec PyProof.Rows
theorem a3j:∀{vs:List Value}{ns:List Int},IntsAre vs ns->Vals (ns.map V.int) vs
 |_,_,.nil=>.nil
 |_,_,.cons n t h=>.cons ⟨t,rfl⟩ (a3j h)
def b6Q(H:Hp):Prop:=∀b,H b=none∨∃o xs,H b=some (.frz o (.lst xs))
theorem b1A{P:Program}{w:World}{K:PySem.W.Frag}{mg G:Str->Option Value}{CX:CXT}{k:Nat}{J a:Addr}{fd:FuncData}{x:Str}{sp:Sp}{s₁:Shared}{vs:List Value}{ns:List Int}
  (Q:K.In s₁.heap) (t:s₁.heap.Ns mainGlobals mg) (f:s₁.heap.Ns builtinsNs G) (E:∀x:Str,x≠"__name__"->G x=bootBuiltins x) (p:s₁.heap.NoLimit) (T:s₁.gens=#[])
  (ha:s₁.heap.get? a=some {cls:=.type "list",data:=.seq vs.toArray}) (hi:IntsAre vs ns) (hl:ns.length<=sizeLine) (hr:Room k callerA)
  (F:∀base:Heap,K.In base->base.Ns mainGlobals mg->FnOk P w K mg base CX k J fd [x] sp) (j:∀(s:Shared) (u:Value),BindsTo s fd ⟨[u],[]⟩ [(x,u)])
  (D:∀H:Hp,b6Q H->SqL K H a (ns.map V.int)->sp [.ref a] H (λv _=>v=.bl true) λ_ _ _=>False)
  (L:∀H e s',CX [] H s₁ (λ_ _ _=>False) e s'->False) :
  codeAny (model P w) callerA (.call (.ref J) ⟨[.ref a],[]⟩) (λr s'=>r=.ok (.ret (.bool true))/\OldK s₁.heap s'.heap/\s'.os=s₁.os/\AllBare s'.gens) s₁:=by
 have S:=a3j hi;have A:=hi.length;have i:∀H:Hp,b6Q H->SqL K H a (ns.map V.int)->HOk P w H s₁.heap->(∀b,H b≠none->b=a)->(H a≠none->K.lookup a=none) ->
   codeAny (model P w) callerA (.call (.ref J) ⟨[.ref a],[]⟩) (λr s'=>r=.ok (.ret (.bool true))/\OldK s₁.heap s'.heap/\s'.os=s₁.os/\AllBare s'.gens) s₁:=by
  intro H R hS hok O hK;have c:∀{b:Addr}{o:Obj},s₁.heap.get? b=some o->H b=none->(a4F s₁.heap H).get? b=some o:=λe n=>b2c e n;have M:∀{b:Addr}{o:Obj}{es:Array DictEntry}{ep:Nat},s₁.heap.get? b=some o->o.data=.dict es ep->H b=none:=λ{b o es ep} e d=>by
   cases q:H b with
   |none=>rfl
   |some u =>
    have I:b=a:=O b (by rw[q];simp);subst I;rw[ha]at e;cases e;have d':Data.seq vs.toArray _=Data.dict es ep:=d;cases d'
  have g:∀{b:Addr}{m:Str->Option Value},s₁.heap.Ns b m->(a4F s₁.heap H).Ns b m:=λ{b m} ⟨o,es,ep,e,d,r⟩=>⟨o,es,ep,c e (M e d),d,r⟩;have B:K.In (a4F s₁.heap H):=λb o e=>c (Q b o e) (by
   cases q:H b with
   |none=>rfl
   |some u =>
    have I:b=a:=O b (by rw[q];simp);subst I;rw[hK (by rw[q];simp)]at e;cases e)
  have hM:Mod K mg (a4F s₁.heap H):=⟨B,g t,⟨G,g f,E⟩,let ⟨mc,h1,h2⟩:=p;⟨mc,g h1,h2⟩⟩;have X:Env0 P w K mg (a4F s₁.heap H) callerA [] s₁ H:=⟨rfl,hM,λb o e=>b3T e,Nat.le_of_eq (a9l _ _),trivial,λb f=>absurd (show b∈([]:List Addr)from f) (by simp),hok,.of_eq T⟩;refine codeAny_mono ((F _ B (g t)).run callerA [] s₁ H ⟨[.ref a],[]⟩ [.ref a] [.ref a] _ _ hr X (j s₁ (.ref a)) (.cons rfl .nil) (D H R hS)) λr s' h=>?_;cases r with
  |error e=>exact(L H e s' h).elim
  |ok fl =>
   cases fl with
   |next=>exact False.elim h
   |brk=>exact False.elim h
   |cont=>exact False.elim h
   |ret u =>
    obtain⟨v,H',os,bare,un,l,Y,q⟩:=h;have U:v=.bl true:=q;subst U;obtain rfl:u=Value.bool true:=Y;refine⟨rfl,OldK.of_keep λb o e=>?_,os,bare⟩;cases q:H b with
    |none=>exact un.keep b o e q (by intro z;exact absurd (show b∈([]:List Addr)from z) (by simp)) (by simp)
    |some u =>
     rcases R b with z|⟨Z,xs,z⟩
     .rw[q]at z;cases z
     .have z2:=un.frzs b Z _ z;obtain⟨N,_⟩:=hok b _ z;obtain⟨e2,_⟩:=l b _ z2;rw[e]at N;cases N;exact e2
 cases C:K.lookup a with
 |some o =>
  have e:=Q a o C;rw[ha]at e;cases e;refine i (λ_=>none) (λ_=>.inl rfl) (.inr ⟨_,vs.toArray,_,C,rfl,rfl,rfl,by rw[List.size_toArray,A];exact hl,by simpa using S⟩) (λb u z=>by have y:(none:Option HO)=some u:=z;cases y) (λb z=>absurd rfl z) λz=>absurd rfl z
 |none =>
  refine i (λb=>if b=a then some (.frz {cls:=.type "list",data:=.seq vs.toArray} (.lst (ns.map V.int)))else none) (λb=>?_) (.inl (.inr ⟨{cls:=.type "list",data:=.seq vs.toArray},if_pos rfl⟩)) (λb u z=>?_) (λb z=>?_) λ_=>C
  .by_cases f:b=a
   .exact .inr ⟨_,_,if_pos f⟩
   .exact .inl (if_neg f)
  .by_cases f:b=a
   .have y:=(if_pos f).symm.trans z;cases y;subst f;exact⟨ha,by rw[List.length_map];exact hl,vs,_,S,ha⟩
   .have y:=(if_neg f).symm.trans z;cases y
  .by_cases f:b=a
   .exact f
   .exact absurd (if_neg f) z
theorem walk_of{l:PySem.W.OpenLaw}{n k:Nat}{q:Program}{i:List Str}{XP:(Str->Option Value)->Heap->Prop}{B:World->Heap->Prop}{d:DefRec}{K:Params->PySem.W.Frag}{CX:World->CXT}{sp:World->Sp}{x:Str}
  (I:l.most=some n) (r:n<=sizeLine) (A:d.params.defaults=[]) (hr:Room k callerA)
  (N:∀(w:World) (h:Heap),B w h->(K w.params).In h)
  (F:∀(w:World) (mg:Str->Option Value) (p:Addr) (h:Heap),(K w.params).In h->h.Ns mainGlobals mg->mg d.name=some (.ref p) ->
   ∃fd:FuncData,(∀(s:Shared) (u:Value),BindsTo s fd ⟨[u],[]⟩ [(x,u)]) /\
    ∀base:Heap,(K w.params).In base->base.Ns mainGlobals mg->FnOk l.prog w (K w.params) mg base (CX w) k p fd [x] (sp w))
  (t:∀(w:World) (H:Hp) (a:Addr) (ns:List Int),ns.length<=n->b6Q H->SqL (K w.params) H a (ns.map V.int)->sp w [.ref a] H (λv _=>v=.bl true) λ_ _ _=>False)
  (z:∀(w:World) (H:Hp) (s:Shared) (e:Value) (s':Shared),CX w [] H s (λ_ _ _=>False) e s'->False) :
  PySem.W.WalkO q i XP B l.row.toRowW d [] (λf vs=>PySem.call f vs):=by
 refine Att.attach_call I A λw s₀ s₁ mg P p o pm cd J a vs ns G Y O hd L y m j c D=>?_;have C:=N w _ Y;obtain⟨fd,E,hF⟩:=F w mg p _ C G.T.g y;exact b1A C G.T.g G.T.b G.T.builtins G.T.nolimit D m j (Nat.le_trans c r) hr hF E (λH M hS=>t w H a ns c M hS) λH e s'=>z w H s₁ e s'
end L2
namespace L2
open PySem PySem.Spec PyProof.Rows
noncomputable def S9(s:Stmt)(j:Nat):Stmt:=match s with
 |.ClassDef _ _ _ body _ _ _ _ _ _ _=>body.getD j (.Pass ⟨0,0,0,0⟩)
 |_=>.Pass ⟨0,0,0,0⟩
noncomputable def O7(s:Stmt):Arguments:=match s with
 |.FunctionDef _ a _ _ _ _ _ _ _ _=>a
 |_=>{posonlyargs:=[],args:=[],vararg:=none,kwonlyargs:=[],kw_defaults:=[],kwarg:=none,defaults:=[]}
noncomputable def E2(s:Stmt):List Stmt:=match s with
 |.FunctionDef _ _ b _ _ _ _ _ _ _=>b
 |_=>[]
noncomputable def A1(s:Stmt):Scope:=match s with
 |.FunctionDef _ _ _ _ _ _ sc _ _ _=>sc
 |_=>{kind:=.function,names:=[],isGenerator:=false,isCoroutine:=false}
abbrev CX0:CXT:=λ_ _ _ _ _ _=>False
abbrev E0:XK:=λ_ _ _=>False
theorem a7I{X:Cx}:X0 CX0 X E0:=λ_ _ _ _ _ _ _ h=>h.elim
structure Fun(K:PySem.W.Frag)(x qual:Str)(st:Stmt)(f:Addr)(fd:FuncData):Prop where
 ex:∃(oc:Value) (od:Option Addr) (kV doc pm:Value) (an:Option Addr) (cdv ct:Value) (osl:Array (Option Value)),
  fd=PySem.W.fnOf x qual (O7 st) (E2 st) (A1 st) .none kV doc pm an cdv ct/\K.lookup f=some ⟨oc,od,.func fd,osl⟩/\PySem.W.codeIn K cdv qual=true
 kp:PySem.W.keepIn K (.ref f)=true
section
variable {P:Program}{w:World}{K:PySem.W.Frag}{mg:Str->Option Value}{base:Heap}
theorem Fun.ok{x qual:Str}{st:Stmt}{f:Addr}{fd:FuncData}{N ps:List Str}{k:Nat}{sp:Sp}(F:Fun K x qual st f fd)(S:FnScope N ps (A1 st))(len:∀vs H Q E,sp vs H Q E->vs.length=ps.length)
  (b:∀(a:Value) (A:Around) (outer:List Env) (s:Shared) (H:Hp) (vs:List V) (Q:VK) (E:XK),Room k (A.deeper (envOfC qual (A1 st) s.heap.objs.size f a))->sp vs H Q E ->
   ∃t,PSs (J6 CX0 P w K mg base N qual (A1 st) f a A outer s H E).nox (E2 st) t/\t {nx:=λ_ H'=>Q .non H',rt:=Q} (start N vs) H):FnOk P w K mg base CX0 (k+1) f fd ps sp:=by
 obtain⟨oc,od,kV,e,pm,an,a,ct,g,rfl,i,c⟩:=F.ex;refine b5b i c S len λA outer s H vs Q E hr d=>?_;obtain⟨t,h,q⟩:=b a A outer s H vs Q E hr d;exact⟨t,h.nox,q⟩
theorem Fun.binds{x qual:Str}{st:Stmt}{f:Addr}{fd:FuncData}{ps:List Str}(F:Fun K x qual st f fd)
  (h:∀(kV a pm:Value) (an:Option Addr) (b ct:Value) (us:List Value),us.length=ps.length->bindArgs (PySem.W.fnOf x qual (O7 st) (E2 st) (A1 st) .none kV a pm an b ct) ⟨us,[]⟩=pure (ps.zip us)):Binds K fd ps []:=by
 obtain⟨oc,od,kV,a,pm,an,b,ct,c,rfl,e,d⟩:=F.ex;exact .all (h kV a pm an b ct)
theorem a2M{x qual:Str}{st:Stmt}{f:Addr}{oc:Value}{od an:Option Addr}{d:Array (Option Value)}{kV b pm a ct:Value}(l:K.lookup f=some ⟨oc,od,.func (PySem.W.fnOf x qual (O7 st) (E2 st) (A1 st) .none kV b pm an a ct),d⟩)
  (c:PySem.W.codeIn K a qual=true) (k:PySem.W.keepIn K (.ref f)=true):Fun K x qual st f (PySem.W.fnOf x qual (O7 st) (E2 st) (A1 st) .none kV b pm an a ct):=⟨⟨oc,od,kV,b,pm,an,a,ct,d,rfl,l,c⟩,k⟩
end
section
variable {X:Cx}
end
theorem J4{A B:Prop}(h:B):if false=true then A else B:=by
 rw[if_neg Bool.false_ne_true];exact h
theorem Q7{A B:Prop}(h:A):if true=true then A else B:=by
 rw[if_pos rfl];exact h
theorem a0T{c A B:Prop}[Decidable c](h1:c->A)(h2:¬c->B):if c then A else B:=by
 by_cases h:c
 .rw[if_pos h];exact h1 h
 .rw[if_neg h];exact h2 h
def Same(H H':Hp):Prop:=∀b o,H b=some o->H' b=some o
theorem Same.refl(H:Hp):Same H H:=λ_ _ h=>h
theorem Same.trans{H H1 H2:Hp}(a:Same H H1)(b:Same H1 H2):Same H H2:=λc o h=>b c o (a c o h)
theorem Same.free{H H':Hp}(e:Same H H'){l:Addr}(h:H' l=Option.none):H l=Option.none:=by
 cases q:H l with
 |none=>rfl
 |some o =>
  rw[e l o q]at h;cases h
theorem Same.seq{K:PySem.W.Frag}{H H':Hp}{a:Addr}{xs:List V}(e:Same H H')(h:SqL K H a xs):SqL K H' a xs:=by
 rcases h with(h|⟨o,h⟩)|h
 .exact .inl (.inl (e _ _ h))
 .exact .inl (.inr ⟨o,e _ _ h⟩)
 .exact .inr h
noncomputable def G3(env:Env)(cs:List (Str×Addr))(x:Str×NameKind):List (Str×Addr) :=
 if x.2==.free then(match env.cells.lookup x.1 with|some a=>(x.1,a)::cs|none=>cs)else cs
noncomputable def a1C(scope:Scope)(env:Env):List (Str×Addr):=scope.names.foldl (G3 env) []
theorem a2V{env:Env}(f:Str×NameKind->List (Str×Addr)->Sem (ForInStep (List (Str×Addr))))
  (hf:∀n k r,f (n,k) r=if (k==NameKind.free)=true then(do let a <-cellOf env n;pure (ForInStep.yield ((n,a)::r)))else pure (ForInStep.yield r)) :
  ∀(names:List (Str×NameKind)) (cs:List (Str×Addr)),(∀x∈names,x.2=.free->∃a,env.cells.lookup x.1=some a)->forIn names cs f=pure (names.foldl (G3 env) cs)
 |[],cs,_=>rfl
 |(n,k)::r,cs,h=>by
  rw[List.forIn_cons,List.foldl_cons,hf];have hr:=λy d=>h y (List.mem_cons_of_mem _ d);by_cases c:k=.free
  .subst c;obtain⟨a,ha⟩:=h (n,NameKind.free) List.mem_cons_self rfl;have e:cellOf env n=pure a:=by unfold cellOf;rw[ha]
   have b:G3 env cs (n,NameKind.free)=(n,a)::cs:=by unfold G3;rw[ha];rfl
   rw[b,<-a2V f hf r _ hr,e];rfl
  .have hb:(k==NameKind.free)=false:=by simpa using c
   have b:G3 env cs (n,k)=cs:=by unfold G3;rw[hb];rfl
   rw[b,<-a2V f hf r _ hr,hb];rfl
theorem b2n{scope:Scope}{env:Env}(h:∀x∈scope.names,x.2=.free->∃a,env.cells.lookup x.1=some a):closureFor scope env=pure (a1C scope env):=by
 simp only[closureFor];rw[a2V (env:=env) _ (λn k r=>by cases b:k==NameKind.free<;>simp[b]) scope.names [] h];rfl
theorem a3J{env:Env}{x:Str}{c:Addr}:∀(names:List (Str×NameKind)) (cs:List (Str×Addr)),(names.foldl (G3 env) cs).lookup x=some c->env.cells.lookup x=some c∨cs.lookup x=some c
 |[],cs,h=>.inr h
 |y::r,cs,h=>by
  rw[List.foldl_cons]at h;rcases a3J r _ h with z|z
  .exact .inl z
  .unfold G3 at z;split at z
   .split at z
    .rename_i a ha;rw[List.lookup_cons]at z;cases b:x==y.1 with
     |true =>
      rw[b]at z;rw[beq_iff_eq.mp b];exact .inl (ha.trans z)
     |false =>
      rw[b]at z;exact .inr z
    .exact .inr z
   .exact .inr z
theorem Y8{scope:Scope}{env:Env}{x:Str}{c:Addr}(h:(a1C scope env).lookup x=some c):env.cells.lookup x=some c :=
 (a3J scope.names [] h).elim id λz=>by cases z
theorem a0d{env:Env}{x:Str}{a:Addr}(ha:env.cells.lookup x=some a):∀(names:List (Str×NameKind)) (cs:List (Str×Addr)),((x,NameKind.free)∈names∨cs.lookup x=some a)->(∀c,cs.lookup x=some c->c=a)->(names.foldl (G3 env) cs).lookup x=some a
 |[],cs,h,_=>h.elim (λz=>by cases z) id
 |y::r,cs,h,hc=>by
  rw[List.foldl_cons];by_cases b:y.2=.free/\y.1=x
  .have e2:G3 env cs y=(x,a)::cs:=by unfold G3;rw[b.2,ha,b.1];rfl
   rw[e2];have d:((x,a)::cs).lookup x=some a:=by rw[List.lookup_cons];simp
   exact a0d ha r _ (.inr d) λc z=>by rw[d]at z;exact(Option.some.inj z).symm
  .have same:(G3 env cs y).lookup x=cs.lookup x:=by
    unfold G3;split
    .rename_i hk;split
     .have hne:(x==y.1)=false:=by
       cases f:x==y.1 with
       |false=>rfl
       |true=>exact absurd ⟨by simpa using hk,(beq_iff_eq.mp f).symm⟩ b
      rw[List.lookup_cons,hne]
     .rfl
    .rfl
   refine a0d ha r _ ?_ (by rw[same];exact hc);rw[same];rcases h with z|z
   .rcases List.mem_cons.mp z with e|z
    .exact absurd ⟨by rw[<-e],by rw[<-e]⟩ b
    .exact .inl z
   .exact .inr z
theorem a5W{scope:Scope}{env:Env}{x:Str}{a:Addr}(ha:env.cells.lookup x=some a)(b:(x,NameKind.free)∈scope.names):(a1C scope env).lookup x=some a :=
 a0d ha _ _ (.inl b) λc z=>by cases z
theorem R0{x:Str}{c:Addr}:∀(names:List (Str×NameKind)) (n:Nat) (acc:List (Str×Addr)),(cellsFrom n names acc).lookup x=some c->(n<=c/\(x,NameKind.cell)∈names)∨acc.lookup x=some c
 |[],_,_,h=>.inr h
 |(y,k)::r,n,acc,h=>by
  unfold cellsFrom at h;split at h
  .rename_i hk;have a:k=.cell:=by simpa using hk
   rcases R0 r _ _ h with⟨z1,z2⟩|z
   .exact .inl ⟨by omega,List.mem_cons_of_mem _ z2⟩
   .rw[List.lookup_cons]at z;cases b:x==y with
    |true =>
     rw[b]at z;cases z;exact .inl ⟨Nat.le_refl _,by rw[a,beq_iff_eq.mp b];exact List.mem_cons_self⟩
    |false =>
     rw[b]at z;exact .inr z
  .rcases R0 r _ _ h with⟨z1,z2⟩|z
   .exact .inl ⟨z1,List.mem_cons_of_mem _ z2⟩
   .exact .inr z
theorem a6P:∀(names:List (Str×NameKind)) (n:Nat) (acc:List (Str×Addr)),(∀x c,acc.lookup x=some c->c<n)->(∀x y c,acc.lookup x=some c->acc.lookup y=some c->x=y) ->
  ∀x y c,(cellsFrom n names acc).lookup x=some c->(cellsFrom n names acc).lookup y=some c->x=y
 |[],_,_,_,h2=>h2
 |(z,k)::r,n,acc,h1,h2=>by
  unfold cellsFrom;split
  .have lk:∀x c,List.lookup x ((z,n)::acc)=some c->(x=z/\c=n)∨acc.lookup x=some c:=λx c e=>by
    rw[List.lookup_cons]at e;cases a:x==z with
    |true=>rw[a]at e;cases e;exact .inl ⟨beq_iff_eq.mp a,rfl⟩
    |false=>rw[a]at e;exact .inr e
   refine a6P r (n+1) _ (λx c e=>?_) λx y c e b=>?_
   .rcases lk x c e with⟨_,q⟩|q
    .rw[q];exact Nat.lt_succ_self _
    .exact Nat.lt_succ_of_lt (h1 x c q)
   .rcases lk x c e with⟨q1,q2⟩|q<;>rcases lk y c b with⟨p1,p2⟩|p
    .rw[q1,p1]
    .exact absurd (h1 y c p) (by rw[q2];exact Nat.lt_irrefl _)
    .exact absurd (h1 x c q) (by rw[p2];exact Nat.lt_irrefl _)
    .exact h2 x y c q p
  .exact a6P r n acc h1 h2
theorem a4L{x:Str}:∀(names:List (Str×NameKind)) (n:Nat) (acc:List (Str×Addr)),((x,NameKind.cell)∈names∨∃c,acc.lookup x=some c)->∃c,(cellsFrom n names acc).lookup x=some c
 |[],_,_,h=>h.elim (λz=>by cases z) id
 |(y,k)::r,n,acc,h=>by
  unfold cellsFrom;split
  .rename_i hk;refine a4L r _ _ ?_;by_cases a:x=y
   .exact .inr ⟨n,by rw[List.lookup_cons,a];simp⟩
   .have hb:(x==y)=false:=beq_eq_false_iff_ne.mpr a;rcases h with z|⟨c,z⟩
    .rcases List.mem_cons.mp z with e|z
     .exact absurd (Prod.mk.inj e).1 a
     .exact .inl z
    .exact .inr ⟨c,by rw[List.lookup_cons,hb];exact z⟩
  .rename_i hk;refine a4L r _ _ ?_;rcases h with z|z
   .rcases List.mem_cons.mp z with e|z
    .exact absurd (by rw[<-(Prod.mk.inj e).2];rfl) hk
    .exact .inl z
   .exact .inr z
theorem a4t{x:Str}{c:Addr}:∀(names:List (Str×NameKind)) (h:Heap) (acc:List (Str×Addr)),(∀x c,acc.lookup x=some c->∃v,h.IsCell c v)->(cellsFrom h.objs.size names acc).lookup x=some c->∃v,(pushCells h names).IsCell c v
 |[],h,acc,ha,e=>ha x c e
 |(y,k)::r,h,acc,ha,e=>by
  unfold cellsFrom at e;unfold pushCells;split at e
  .rename_i hk;rw[if_pos hk];rw[show h.objs.size+1=(h.push {cls:=.type "cell",data:=.cell none}).objs.size from(Heap.size_push ..).symm]at e;refine a4t r _ _ (λf c' a=>?_) e;rw[List.lookup_cons]at a;cases d:f==y with
   |true=>rw[d]at a;cases a;exact⟨_,_,Heap.get?_push_size _ rfl,rfl⟩
   |false =>
    rw[d]at a;obtain⟨v,z⟩:=ha f c' a;exact⟨v,z.keeps λb o q=>Heap.get?_push_of_some _ q⟩
  .rename_i hk;rw[if_neg hk];exact a4t r _ _ ha e
section
variable {M:Model}{A:Around}{E:Value->Shared->Prop}{s:Shared}
theorem a6b{scope:Scope}{globals:Addr}{a:List (Str×Addr)}{qual:Str}{outer:Env}{Q:Env->Shared->Prop}
  (c:Q (newEnv scope s.heap.objs.size globals (cellsFrom (s.heap.objs.size+1) scope.names a) qual none .none (some outer) builtinsNs) {s with heap:=pushCells (s.heap.push {cls:=.type "dict",data:=.dict #[]}) scope.names}) :
  wpAny M A (newFunctionEnv scope globals a [] qual none .none (some outer)) Q E s:=by
 simp only[newFunctionEnv,Option.isSome_some,if_true];refine wpAny_bind (wpAny_alloc ?_);refine wpAny_bind (wpAny_layCells _ (λname kind cells=>by cases b:kind==NameKind.cell<;>simp[b]) _ _ _ _ ?_);rw[show({s with heap:=s.heap.push {cls:=.type "dict",data:=.dict #[]}}:Shared).heap.objs.size=s.heap.objs.size+1 from Heap.size_push ..];exact wpAny_bind (wpAny_pure (wpAny_pure c))
end
section
variable {prog:Program}{w:World}{A:Around}{s:Shared}
abbrev NoX:Value->Shared->Prop:=λ_ _=>False
theorem toE{α:Type}{M:Model}{A:Around}{t:Sem α}{Q b:α->Shared->Prop}{E:Value->Shared->Prop}{s:Shared}(h:wpAny M A t Q NoX s)(c:∀a s,Q a s->b a s):wpAny M A t b E s :=
 wpAny_mono h c λ_ _ z=>z.elim
theorem a4K{d a b:Expr}{e:List Expr}{scope:Scope}{pos:Pos}{it acc:Value}{env:Env}{R:Result->Shared->Prop}(I:Nat->Shared->Prop)
  (f:∀n s,I n s->wpAny (model prog w) A (pyNext it) (λr s₁=>match r with
   |none=>R (.ok .next) s₁
   |some v=>wpAny (model prog w) A (letOwnedTupleGo a it v) (λ_ s₂=>wpAny (model prog w) A (assign a env v) (λ_ s₃ =>
     wpAny (model prog w) A (forIn e true λc r=>if r=true then do let ok <-isTrue c env (eval c env);pure (ForInStep.yield ok)else pure (ForInStep.yield r)) (λok s₄ =>
      if ok=true then wpAny (model prog w) A (eval d env) (λx s₅=>wpAny (model prog w) A (call (.builtin "list.append") [acc,x]) (λ_ s₆=>∃m,m<n/\I m s₆) NoX s₅) NoX s₄
      else ∃m,m<n/\I m s₄) NoX s₃) NoX s₂) NoX s₁) NoX s)
  (n:Nat) (h:I n s):codeAny (model prog w) A (.compLoop (.ListComp d [⟨a,b,e,0⟩] scope pos) 0 it acc env) R s:=by
 refine codeAny_loop rfl I (λn s hI=>?_) n h;show wpAny _ A ((compTurn (.ListComp d [⟨a,b,e,0⟩] scope pos) 0 it acc env).onRaise (λx=>do noteFrame x env;theTreesLotGoes x)) _ _ s;refine wpAny_noted ?_;rw[compTurn_list];refine wpAny_bind (wpAny_standAt (wpAny_bind (toE (f n s hI) λr s₁ h₁=>?_)));cases r with
 |none=>exact wpAny_pure h₁
 |some v =>
  refine wpAny_bind (toE h₁ λ_ s₂ h₂=>wpAny_bind (toE h₂ λ_ s₃ h₃=>wpAny_bind (toE h₃ λok s₄ h₄=>?_)));cases ok with
  |false=>exact wpAny_pure ⟨rfl,h₄⟩
  |true=>exact wpAny_bind (wpAny_bind (toE h₄ λx s₅ h₅=>wpAny_bind (toE h₅ λ_ s₆ h₆=>wpAny_pure (wpAny_pure ⟨rfl,h₆⟩))))
end
noncomputable def Cx.blk(X:Cx)(N:List Str)(scope:Scope)(cells:List (Str×Addr))(C:Addr)(s:Shared)(H:Hp)(ex:List Addr):Cx :=
 {X with N:=N,s₀:=s,H₀:=H,env:=compEnvC scope cells C X.env,outer:=X.stack,stack:=X.stack,ex:=ex,fn:=λx=>scope.names.any λy=>y.1==x && y.2==.cell,pn:=[],xe:=NoX}
noncomputable def B4(src:List (Option Nat))(σ:St):St:=src.map λo=>o.bind λj=>(σ[j]?).join
noncomputable def B8(sc out:Scope):Bool:=sc.names.all λx=>x.2 != .free || (out.names.lookup x.1==some .cell || out.names.lookup x.1==some .free)
noncomputable def K7:List Str->List (Option Nat)->List Str->Scope->Bool
 |[],[],_,_=>true
 |x::N,o::src,M,sc=>(match o with|none=>true|some j=>M[j]? == some x && sc.names.lookup x==some .free) && K7 N src M sc
 |_,_,_,_=>false
noncomputable def a4l(sc:Scope):Bool:=sc.kind==.function && sc.names.all λx=>sc.names.lookup x.1==some x.2
theorem a3K:∀{N:List Str}{src:List (Option Nat)}{M:List Str}{a:Scope},K7 N src M a=true->src.length=N.length
 |[],[],_,_,_=>rfl
 |_::N,_::src,M,a,h=>by
  unfold K7 at h;rw[Bool.and_eq_true]at h;rw[List.length_cons,List.length_cons,a3K h.2]
 |[],_::_,_,_,h=>by simp[K7]at h
 |_::_,[],_,_,h=>by simp[K7]at h
theorem a3L:∀{N:List Str}{src:List (Option Nat)}{M:List Str}{a:Scope}{i:Nat}{x:Str}{j:Nat},K7 N src M a=true->N[i]?=some x->src[i]?=some (some j)->M[j]?=some x/\a.names.lookup x=some .free
 |[],[],_,_,_,_,_,_,h,_=>by simp at h
 |y::N,o::src,M,a,0,x,j,h,h1,h2=>by
  unfold K7 at h;rw[Bool.and_eq_true]at h;simp at h1 h2;subst h1 h2;have q:=h.1;rw[Bool.and_eq_true]at q;exact⟨beq_iff_eq.mp q.1,beq_iff_eq.mp q.2⟩
 |y::N,o::src,M,a,i+1,x,j,h,h1,h2=>by
  unfold K7 at h;rw[Bool.and_eq_true]at h;exact a3L h.2 (by simpa using h1) (by simpa using h2)
 |[],_::_,_,_,_,_,_,h,_,_=>by simp[K7]at h
 |_::_,[],_,_,_,_,_,h,_,_=>by simp[K7]at h
theorem a9H{src:List (Option Nat)}{σ:St}{i:Nat}{v:V}(h:(B4 src σ)[i]?=some (some v)):∃j,src[i]?=some (some j)/\σ[j]?=some (some v):=by
 unfold B4 at h;rw[List.getElem?_map]at h;cases e:src[i]? with
 |none=>rw[e]at h;cases h
 |some o =>
  rw[e]at h;cases o with
  |none=>cases h
  |some j =>
   refine⟨j,rfl,?_⟩;have h':(σ[j]?).join=some v:=Option.some.inj h;cases q:σ[j]? with
   |none=>rw[q]at h';cases h'
   |some z=>rw[q]at h';rw[show z=some v from h']
theorem V3{env:Env}:∀{names:List (Str×NameKind)}{x:Str}{k:NameKind},
  (names.map λ(n,k)=>if (k==NameKind.free && env.scope.kind==.function && env.kindOf n==some .cell)then(n,NameKind.cell)else(n,k)).lookup x=some k ->
  ∃b,names.lookup x=some b/\(k=b∨(b=.free/\k=.cell))
 |[],_,_,h=>by cases h
 |(n,k0)::r,x,k,h=>by
  rw[List.map_cons,List.lookup_cons]at h;rw[List.lookup_cons];dsimp only at h;split at h
  .rename_i h0;have a:x==n:=by
    split at h0<;>exact h0
   rw[a];refine⟨k0,rfl,?_⟩;split at h
   .rename_i hc;cases h;simp only[Bool.and_eq_true]at hc;exact .inr ⟨by simpa using hc.1.1,rfl⟩
   .cases h;exact .inl rfl
  .rename_i h0;have a:(x==n)=false:=by
    split at h0<;>exact h0
   rw[a];exact V3 h
theorem J1{env:Env}:∀{names:List (Str×NameKind)}{x:Str}{b:NameKind},names.lookup x=some b ->
  ∃k,(names.map λ(n,k)=>if (k==NameKind.free && env.scope.kind==.function && env.kindOf n==some .cell)then(n,NameKind.cell)else(n,k)).lookup x=some k/\(k=b∨(b=.free/\k=.cell))
 |[],_,_,h=>by cases h
 |(n,k0)::r,x,b,h=>by
  rw[List.lookup_cons]at h;rw[List.map_cons];by_cases hc:(k0==NameKind.free && env.scope.kind==.function && env.kindOf n==some .cell)=true
  .simp only[hc,if_true];rw[List.lookup_cons];cases a:x==n with
   |true =>
    rw[a]at h;cases h;simp only[Bool.and_eq_true]at hc;exact⟨_,rfl,.inr ⟨by simpa using hc.1.1,rfl⟩⟩
   |false=>rw[a]at h;exact J1 h
  .simp only[if_neg hc];rw[List.lookup_cons];cases a:x==n with
   |true=>rw[a]at h;cases h;exact⟨_,rfl,.inl rfl⟩
   |false=>rw[a]at h;exact J1 h
def PIf(X:Cx)(ifs:List Expr)(t:TT):Prop :=
 ∀(pins:List (Addr×Obj)) (s:Shared) (σ:St) (H:Hp) (Q:Bool->Hp->Prop),Inv X pins σ H s->t σ H Q ->
  wpAny (model X.prog X.w) X.A (forIn ifs true λc r=>if r=true then do let ok <-isTrue c X.env (eval c X.env);pure (ForInStep.yield ok)else pure (ForInStep.yield r)) (TP X pins σ Q) X.xe s
def U5:TT:=λ_ H Q=>Q true H
theorem b3s{X:Cx}:PIf X [] U5:=λpins s σ H Q I h=>wpAny_tests_nil ⟨H,I,h⟩
theorem b3r{X:Cx}{c:Expr}{t:TT}(h:PT X c t):PIf X [c] t:=λpins s σ H Q I q=>wpAny_tests_one (h pins s σ H Q I q)
def Sub(σ σ':St):Prop:=σ.length=σ'.length/\∀(i:Nat) (v:V),σ[i]?=some (some v)->σ'[i]?=some (some v)
def J3(src:List (Option Nat))(g:TG)(tt:TT)(te:TE)(σ:St)(Q:VK)(J:It)(H1:Hp):Prop :=
 ∃W:Nat->Nat->List V->Hp->Prop,(∃m,W 0 m [] H1)/\∀i m ys H,W i m ys H ->
  (J.stop i H/\ys.length<=sizeLine/\∀p,H p=none->Q (.ref p) (upd H p (.lst ys))) ∨
  (J.go i H/\ys.length<sizeLine/\∃N:List V->Hp->Prop,(∀zs H',N zs H'->∃m',m'<m/\W (i+1) m' zs H')/\∀x H',J.yld i H x H'->g x (B4 src σ) H' λσ2 H2=>Sub (B4 src σ) σ2/\tt σ2 H2 λb H3 =>
   if b=true then te σ2 H3 λv H4=>N (ys++[v]) H4 else N ys H3)
def a5f(src:List (Option Nat))(wi:TI)(g:TG)(tt:TT)(te:TE):TE:=λσ H Q=>wi σ H (J3 src g tt te σ Q)
section
variable {X:Cx}{pins:List (Addr×Obj)}{σ:St}{H:Hp}{s:Shared}
theorem Inv.block{N:List Str}{src:List (Option Nat)}{scope:Scope}{fp:List Addr}(I:Inv X pins σ H s)(hf:∀b∈fp,a1d X pins H b)(U:∀b∈fp,∃o,s.heap.get? b=some o)
  (J:B8 scope X.env.scope=true) (D:K7 N src X.N scope=true) (C:a4l scope=true) {lo:Obj} :
  Inv (X.blk N scope (cellsFrom (s.heap.objs.size+2) scope.names (a1C scope X.env)) (s.heap.objs.size+1) s H fp) [] (B4 src σ) H
   {s with heap:=pushCells ((s.heap.push lo).push {cls:=.type "dict",data:=.dict #[]}) scope.names}:=by
 unfold a4l at C;rw[Bool.and_eq_true]at C;have F:scope.kind=.function:=by simpa using C.1
 have E:∀x∈scope.names,scope.names.lookup x.1=some x.2:=λx A=>by simpa using List.all_eq_true.mp C.2 x A
 have t:∀x∈scope.names,x.2=.free->X.env.kindOf x.1=some .cell∨X.env.kindOf x.1=some .free:=λx A g=>by
  have q:=List.all_eq_true.mp J x A;rw[g]at q;have R:(X.env.scope.names.lookup x.1==some .cell || X.env.scope.names.lookup x.1==some .free)=true:=by simpa using q
  rw[Bool.or_eq_true]at R;exact R.imp (λz=>beq_iff_eq.mp z) λz=>beq_iff_eq.mp z
 have keep:∀b o,s.heap.get? b=some o->(pushCells ((s.heap.push lo).push {cls:=.type "dict",data:=.dict #[]}) scope.names).get? b=some o:=λb o e =>
  pushCells_keeps _ _ _ _ (Heap.get?_push_of_some _ (Heap.get?_push_of_some _ e))
 have Q:∀x c,(a1C scope X.env).lookup x=some c->c<s.heap.objs.size:=λx c e=>by
  obtain⟨v,z⟩:=I.cell x c (Y8 e);exact z.lt
 have d:∀x c,(cellsFrom (s.heap.objs.size+2) scope.names (a1C scope X.env)).lookup x=some c->(s.heap.objs.size+2<=c/\(x,NameKind.cell)∈scope.names)∨X.env.cells.lookup x=some c:=λx c e =>
  (R0 _ _ _ e).imp id Y8
 have K:∀x k,(compEnvC scope (cellsFrom (s.heap.objs.size+2) scope.names (a1C scope X.env)) (s.heap.objs.size+1) X.env).kindOf x=some k->∃f,scope.names.lookup x=some f/\(k=f∨(f=.free/\k=.cell)):=λx k e =>
  V3 (env:=X.env) e
 have mem:∀{x k},scope.names.lookup x=some k->(x,k)∈scope.names:=λe=>mem_of_lookup e;refine⟨⟨I.ok.mod,?_,I.ok.glob,I.ok.blt,?_,?_,?_,?_,I.ok.hd,I.ok.frames,.inl rfl,?_,I.bs,Nat.le_trans I.ok.bsz I.sz,?_,?_,I.stack,I.stkFree⟩,rfl,I.bare,Un.kept keep,?_,?_,?_,?_,?_,I.hok.kept keep,?_⟩
 .exact F
 .exact Nat.le_succ _
 .-- inj
  refine a6P _ _ _ (λx c e=>?_) λx y c e P=>I.ok.inj x y c (Y8 e) (Y8 P);exact Nat.lt_of_lt_of_le (Q x c e) (Nat.le_add_right _ 2)
 .-- has
  intro x A;refine a4L _ _ _ ?_;have g:∃f,scope.names.lookup x=some f/\(f=.cell∨f=.free):=by
   rcases A with A|A
   .obtain⟨f,e,z⟩:=K x _ A;exact⟨f,e,z.elim (λz=>.inl z.symm) λz=>.inr z.1⟩
   .obtain⟨f,e,z⟩:=K x _ A;exact⟨f,e,z.elim (λz=>.inr z.symm) λz=>by cases z.2⟩
  obtain⟨f,e,rfl|rfl⟩:=g
  .exact .inl (mem e)
  .obtain⟨a,ha⟩:=I.ok.has x (t _ (mem e) rfl);exact .inr ⟨a,a5W ha (mem e)⟩
 .-- cab
  intro x c A e;rcases d x c e with z|z
  .exact Nat.le_trans (Nat.le_add_right _ 2) z.1
  .-- x is the block's own cell, so it is not in the closure's part
   exfalso;obtain⟨y,S,G⟩:=List.any_eq_true.mp A;rw[Bool.and_eq_true]at G;have M:y.1=x:=beq_iff_eq.mp G.1;have O:y.2=.cell:=by simpa using G.2
   have l1:scope.names.lookup x=some .cell:=by rw[<-M,<-O];exact E y S
   rcases R0 _ _ _ e with q|q
   .obtain⟨v,z'⟩:=I.cell x c z;exact absurd (Nat.lt_of_lt_of_le z'.lt (Nat.le_trans (Nat.le_add_right _ 2) q.1)) (Nat.lt_irrefl _)
   .-- the closure holds free names alone
    have fr:∀(names:List (Str×NameKind)) (cs:List (Str×Addr)),(names.foldl (G3 X.env) cs).lookup x=some c->(x,NameKind.free)∈names∨cs.lookup x=some c:=by
     intro names;induction names with
     |nil=>intro cs h;exact .inr h
     |cons n r ih =>
      intro cs h;rw[List.foldl_cons]at h;rcases ih _ h with w|w
      .exact .inl (List.mem_cons_of_mem _ w)
      .unfold G3 at w;split at w
       .rename_i g;split at w
        .rw[List.lookup_cons]at w;cases B:x==n.1 with
         |true =>
          have:n=(x,NameKind.free):=Prod.ext (beq_iff_eq.mp B).symm (by simpa using g);exact .inl (by rw[this];exact List.mem_cons_self)
         |false=>rw[B]at w;exact .inr w
        .exact .inr w
       .exact .inr w
    rcases fr _ _ q with w|w
    .have:=E _ w;rw[l1]at this;cases this
    .cases w
 .-- exf
  intro b B;obtain⟨o,e⟩:=U b B;have lt:=Heap.lt_size e;refine⟨Nat.ne_of_lt (Nat.lt_succ_of_lt lt),λx c hc=>?_⟩;rcases d x c hc with z|z
  .exact Nat.ne_of_gt (Nat.lt_of_lt_of_le lt (Nat.le_trans (Nat.le_add_right _ 2) z.1))
  .exact(hf b B).2.2.2.2.1 x c z
 .-- noex
  intro b o e B;rcases(hf b B).2.2.2.1 with z|z
  .exact I.ok.noex b o e z
  .exact absurd (Nat.lt_of_lt_of_le (Heap.lt_size (I.ok.bs b o e).1) z) (Nat.lt_irrefl _)
 .-- exfs
  intro b B z;rcases List.mem_cons.mp (I.stkSub b z)with q|q
  .exact(hf b B).2.1 q
  .exact(hf b B).2.2.1 q
 .-- loc
  refine⟨λ_=>none,?_,λi x v M O W=>?_⟩
  .have:=(Heap.Ns.new (s.heap.push lo) (.type "dict")).keeps (pushCells_keeps scope.names _);rw[Heap.size_push]at this;exact this
  .obtain⟨j,e4,e5⟩:=a9H O;obtain⟨V,L⟩:=a3L D M e4;obtain⟨m,_,hl⟩:=I.loc;have g:=t _ (mem L) rfl;have T:Vis X.env.scope x:=.inr (g.imp id id);obtain⟨u,r,l⟩:=hl j x v V e5 T;refine⟨u,r,.inr ⟨?_,?_⟩⟩
   .obtain⟨k,q,z⟩:=J1 (env:=X.env) L;rcases z with z|z
    .exact .inr (by rw[<-z];exact q)
    .exact .inl (by rw[<-z.2];exact q)
   .rcases l with l|⟨_,c,hc,z⟩
    .exfalso;rcases g with g|g<;>rw[l.1]at g<;>cases g
    .refine⟨c,?_,z.keeps keep⟩;have own:¬(x,NameKind.cell)∈scope.names:=λw=>by
      have:=E _ w;rw[L]at this;cases this
     obtain⟨c',q⟩:=a4L (x:=x) scope.names (s.heap.objs.size+2) (a1C scope X.env) (.inr ⟨c,a5W hc (mem L)⟩);rcases d x c' q with w|w
     .exact absurd w.2 own
     .rw[hc]at w;cases w;exact q
 .-- cell
  intro x c e;have P:(cellsFrom ((s.heap.push lo).push {cls:=.type "dict",data:=.dict #[]}).objs.size scope.names (a1C scope X.env)).lookup x=some c:=by
   rw[Heap.size_push,Heap.size_push];exact e
  refine a4t _ _ _ (λY c' q=>?_) P;obtain⟨v,z⟩:=I.cell Y c' (Y8 q);exact⟨v,z.keeps λb o q=>Heap.get?_push_of_some _ (Heap.get?_push_of_some _ q)⟩
 .exact I.hok.fresh (Nat.le_succ _)
 .intro x c e;rcases d x c e with z|z
  .exact I.hok.fresh (Nat.le_trans (Nat.le_add_right _ 2) z.1)
  .exact I.freeC x c z
 .intro p hp;cases hp
 .show(B4 src σ).length=N.length;unfold B4;rw[List.length_map];exact a3K D
theorem Inv.unblock{N:List Str}{scope:Scope}{cells:List (Str×Addr)}{C acc:Addr}{fp:List Addr}{pins':List (Addr×Obj)}{σ':St}{H':Hp}{s':Shared}{h':Heap}{ys:List V}{us:List Value}{n:Nat}
  (I:Inv X pins σ H s) (hf:∀b∈fp,a1d X pins H b) (v:s.heap.objs.size<=C) (ha:s.heap.objs.size<=acc) (l:acc≠C) (J:Inv (X.blk N scope cells C s H fp) pins' σ' H' s')
  (m:H' acc=none) (hl:s'.heap.get? acc=some {cls:=.type "list",data:=.seq us.toArray n}) (p:Vals ys us) (hz:ys.length<=sizeLine) (k:Heap.SameBut C s'.heap h') :
  Inv X pins σ (upd H' acc (.lst ys)) {s' with heap:=h'}:=by
 have base:Un (frs X.stack) fp H H' s.heap s'.heap:=J.base;have kp:∀b o,b≠C->s'.heap.get? b=some o->h'.get? b=some o:=λb o q e=>k.extBut b o q e;have a:∀b o,s.heap.get? b=some o->b≠C/\b≠acc:=λb o e=>by
  have:=Heap.lt_size e;exact⟨Nat.ne_of_lt (Nat.lt_of_lt_of_le this v),Nat.ne_of_lt (Nat.lt_of_lt_of_le this ha)⟩
 have i:H' C=none:=J.free;have h:H acc=none:=I.hok.fresh ha;have g:HOk X.prog X.w H' s'.heap:=J.hok;have j:HOk X.prog X.w (upd H' acc (.lst ys)) h':=by
  intro b o e;by_cases f:b=acc
  .subst f;rw[A0]at e;cases e;exact⟨hz,us,n,p,kp _ _ l hl⟩
  .rw[A2 f]at e;refine(g b o e).stay (λc u hc q=>kp c u ?_ q) (λc q=>?_) λc xs q=>?_
   .rintro rfl;rcases hc with rfl|hc
    .rw[i]at e;cases e
    .rw[i]at hc;cases hc
   .rw[A2 (by rintro rfl;rw[m]at q;cases q)];exact q
   .rw[A2 (by rintro rfl;rw[m]at q;cases q)];exact q
 have d:∀b u,H b=some u->b≠acc:=λb u e=>by rintro rfl;rw[h]at e;cases e
 refine I.call' (s':={s' with heap:=h'}) (ch:=fp) (J.os) ⟨λb o e q r t=>?_,λb o e q r t=>?_,λb o e q t=>?_,λb o e t=>?_,λb xs e=>?_,λb o u e=>?_,λb ps e=>?_⟩ j J.bare λb k=>?_
 .exact kp b o (a b o e).1 (base.keep b o e q r t)
 .obtain⟨sl,z⟩:=base.slot b o e q r t;exact⟨sl,kp b _ (a b o e).1 z⟩
 .rw[A2 (a b o e).2];exact base.free b o e q t
 .obtain⟨o',z⟩:=base.there b o e t;exact⟨o',kp b _ (a b o e).1 z⟩
 .rw[A2 (d b _ e)];exact base.tups b xs e
 .rw[A2 (d b _ e)];exact base.frzs b o u e
 .rw[A2 (d b _ e)];exact base.tbls b ps e
 .obtain⟨_,h1,_,h3,h4,h5⟩:=hf b k;exact⟨h3,h1,h4,h5⟩
set_option maxHeartbeats 4000000 in
theorem a3I{tg m G:Expr}{L:List Expr}{scope:Scope}{pos:Pos}{N:List Str}{src:List (Option Nat)}{wi:TI}{g:TG}{tt:TT}{te:TE}{Q:VK}{RR:Value->Addr->Result->Shared->Prop}(hc:X.calm=true)(hi:PI X tg m wi)
  (b0:B8 scope X.env.scope=true) (a9:K7 N src X.N scope=true) (c7:a4l scope=true)
  (hg:∀cells C s H ex,PG (X.blk N scope cells C s H ex) tg g) (ht:∀cells C s H ex,PIf (X.blk N scope cells C s H ex) L tt) (he:∀cells C s H ex,PE (X.blk N scope cells C s H ex) G te)
  (I:Inv X pins σ H s) (h:a5f src wi g tt te σ H Q)
  (b8:∀(s2 s4:Shared) (H2 H4:Hp) (fp:List Addr) (cells:List (Str×Addr)) (pl:List (Addr×Obj)) (σ4:St) (ys:List V) (us:List Value) (k:Nat),Inv X pins σ H2 s2->(∀b∈fp,a1d X pins H2 b) ->
   Inv (X.blk N scope cells (s2.heap.objs.size+1) s2 H2 fp) pl σ4 H4 s4->H4 s2.heap.objs.size=none->s4.heap.get? s2.heap.objs.size=some {cls:=.type "list",data:=.seq us.toArray k}->Vals ys us->ys.length<=sizeLine ->
   Q (.ref s2.heap.objs.size) (upd H4 s2.heap.objs.size (.lst ys))->RR (.ref s2.heap.objs.size) (s2.heap.objs.size+1) (.ok .next) s4) :
  wpAny (model X.prog X.w) X.A (eval m X.env) (λx s₁=>wpAny (model X.prog X.w) X.A (pyIter x) (λit s₂=>wpAny (model X.prog X.w) X.A (newList []) (λacc s₃ =>
   wpAny (model X.prog X.w) X.A (newFunctionEnv scope X.env.globals (a1C scope X.env) [] X.env.qual none .none (some X.env)) (λa7 s₄ =>
    codeAny (model X.prog X.w) X.A (.compStart (.ListComp G [⟨tg,m,L,0⟩] scope pos) 0 it acc {a7 with scope:=relabel scope X.env}) (RR acc a7.locals) s₄) X.xe s₃) X.xe s₂) X.xe s₁) X.xe s:=by
 refine thn (hi pins s σ H _ I h) λv s1 h1=>thn h1 λd3 s2 h2=>?_;obtain⟨it,fp,tn,J,H2,e,I2,T,b7,f2,W,⟨m0,w0⟩,b9⟩:=h2;subst e;have a6:∀b∈fp,∃o,s2.heap.get? b=some o:=λb j=>(T.obj _ _ b7 b j).imp λ_ q=>q.1;refine wpAny_newObj_type (a6b ?_);have hB:=I2.block (lo:={cls:=.type "list",dict:=none,data:=.seq ([]:List Value).toArray}) f2 a6 b0 a9 c7;rw[show({s2 with heap:=s2.heap.push {cls:=.type "list",dict:=none,data:=.seq ([]:List Value).toArray}}:Shared).heap.objs.size=s2.heap.objs.size+1 from Heap.size_push ..];generalize E:cellsFrom (s2.heap.objs.size+1+1) scope.names (a1C scope X.env)=cells at hB⊢;generalize D:pushCells ((s2.heap.push {cls:=.type "list",dict:=none,data:=.seq ([]:List Value).toArray}).push {cls:=.type "dict",data:=.dict #[]}) scope.names=h4 at hB⊢;have R:∀b o,s2.heap.get? b=some o->h4.get? b=some o:=λb o q=>by
  rw[<-D];exact pushCells_keeps _ _ _ _ (Heap.get?_push_of_some _ (Heap.get?_push_of_some _ q))
 have a5:h4.get? s2.heap.objs.size=some {cls:=.type "list",data:=.seq ([]:List Value).toArray 0}:=by
  rw[<-D];exact pushCells_keeps _ _ _ _ (Heap.get?_push_of_some _ (Heap.get?_push_size _ rfl))
 have c0:tn 0 h4:=T.keep _ _ _ b7 λb _ o q=>R b o q;generalize a:X.blk N scope cells (s2.heap.objs.size+1) s2 H2 fp=f at hB;have eA:f.A=X.A:=by rw[<-a];rfl
 have eP:f.prog=X.prog:=by rw[<-a];rfl
 have ew:f.w=X.w:=by rw[<-a];rfl
 have eK:f.K=X.K:=by rw[<-a];rfl
 have ec:f.calm=true:=by rw[<-a];exact hc
 have ee:f.env=compEnvC scope cells (s2.heap.objs.size+1) X.env:=by rw[<-a];rfl
 have ex:f.ex=fp:=by rw[<-a];rfl
 have c1:f.pn=[]:=by rw[<-a];rfl
 have c8:f.s₀=s2:=by rw[<-a];rfl
 have Y:f.xe=NoX:=by rw[<-a];rfl
 have eL:f.env.locals=s2.heap.objs.size+1:=by rw[ee];rfl
 have d2:f.fs=frs X.stack:=by rw[<-a];rfl
 have c2:=hB.ok;have cne:∀x c,f.env.cells.lookup x=some c->c≠s2.heap.objs.size:=λx c q=>by
  rw[ee]at q;have q':cells.lookup x=some c:=q;rw[<-E]at q';rcases R0 _ _ _ q' with z|z
  .exact Nat.ne_of_gt (Nat.lt_of_lt_of_le (Nat.lt_succ_self _) (Nat.le_trans (Nat.le_succ _) z.1))
  .obtain⟨v,z'⟩:=I2.cell x c (Y8 z);exact Nat.ne_of_lt z'.lt
 have P:∀b∈fp,b≠s2.heap.objs.size:=λb j=>by
  obtain⟨o,q⟩:=a6 b j;exact Nat.ne_of_lt (Heap.lt_size q)
 have B:s2.heap.objs.size∉f.fs:=by
  rw[d2];intro z;rcases List.mem_cons.mp (I2.stkSub _ z)with q|q
  .exact absurd I2.lt (by rw[<-q];exact Nat.lt_irrefl _)
  .exact I2.nofs (Nat.le_refl _) q
 have t:∀{H':Hp}{pl:List (Addr×Obj)},(∀b∈fp,H' b=none)->(∀p∈pl,p.1=s2.heap.objs.size)->∀b∈fp,a1d f pl H' b:=λ{H' pl} hn hp b j=>by
  obtain⟨x1,x2⟩:=c2.exf b (by rw[ex];exact j);refine⟨hn b j,x1,c2.exfs b (by rw[ex];exact j),.inl (by rw[ex];exact j),x2,λp a8=>?_⟩;rw[c1,List.nil_append]at a8;rw[hp p a8];exact(P b j).symm
 have main:∀s5:Shared,s5={s2 with heap:=h4}->codeAny (model X.prog X.w) X.A (.compLoop (.ListComp G [⟨tg,m,L,0⟩] scope pos) 0 (.ref it) (.ref s2.heap.objs.size) f.env)
   (RR (.ref s2.heap.objs.size) (s2.heap.objs.size+1)) s5:=by
  rintro s5 rfl;refine a4K (λn s'=>∃i H' ys us k,Inv f [] (B4 src σ) H' s'/\tn i s'.heap/\(∀b∈fp,H' b=none)/\H' s2.heap.objs.size=none /\
   s'.heap.get? s2.heap.objs.size=some {cls:=.type "list",data:=.seq (us:List Value).toArray k}/\Vals ys us/\W i n ys H') ?_ m0
   ⟨0,H2,[],[],0,hB,c0,λb j=>(f2 b j).1,I2.hok.fresh (Nat.le_refl _),a5,.nil,w0⟩
  rintro n s3 ⟨i,S,ys,us,k,I3,Z,U,M,b6,r3,w3⟩;rcases b9 i n ys S w3 with⟨stop,hz,qn⟩|⟨go,hz,Nn,hN,step⟩
  .have d:=T.done f eP ew eK ec i [] s3 (B4 src σ) S NoX I3 (t U (λ_ z=>by cases z)) Z stop;rw[eA]at d;have a4:Inv f [(s2.heap.objs.size,{cls:=.type "list",data:=.seq us.toArray k})] (B4 src σ) S s3:=I3.pins_of λp hp=>by
    rw[List.mem_singleton.mp hp];exact⟨b6,M,by rw[eL];exact Nat.ne_of_lt (Nat.lt_succ_self _),B,λv z=>by cases z⟩
   have d:=T.done f eP ew eK ec i _ s3 (B4 src σ) S NoX a4 (t U (λp z=>by rw[List.mem_singleton.mp z])) Z stop;rw[eA]at d;refine thn d λr s4 ⟨hr,I4⟩=>?_;subst hr;have c4:=(I4.pin (s2.heap.objs.size,{cls:=.type "list",data:=.seq us.toArray k}) (List.mem_append_right _ List.mem_cons_self)).1;rw[<-a]at I4;exact b8 s2 s4 H2 S fp cells _ _ ys us k I2 f2 I4 M c4 r3 hz (qn _ M)
  .have a4:Inv f [(s2.heap.objs.size,{cls:=.type "list",data:=.seq us.toArray k})] (B4 src σ) S s3:=I3.pins_of λp hp=>by
    rw[List.mem_singleton.mp hp];exact⟨b6,M,by rw[eL];exact Nat.ne_of_lt (Nat.lt_succ_self _),B,λv z=>by cases z⟩
   have d:=T.item f eP ew eK ec i _ s3 (B4 src σ) S NoX a4 (t U (λp z=>by rw[List.mem_singleton.mp z])) Z go;rw[eA]at d;refine thn d λr s4 ⟨u,hr,d0⟩=>?_;subst hr;refine thn d0 λ_ s5 ⟨x,H5,I5,r5,y5,a0,d1⟩=>?_;have c6:=I5.pinned (t d1 (λp z=>by rw[List.mem_singleton.mp z])) (T.obj _ _ a0);have c9:PG f tg g:=by rw[<-a];exact hg _ _ _ _ _
   have c5:PIf f L tt:=by rw[<-a];exact ht _ _ _ _ _
   have c3:PE f G te:=by rw[<-a];exact he _ _ _ _ _
   have a1:=c9 _ s5 _ H5 x u _ c6 r5 (step x H5 y5);rw[eP,ew,eA,Y]at a1;refine thn a1 λ_ s6 ⟨σ6,H6,I6,sb,q6⟩=>?_;have a2:=c5 _ s6 σ6 H6 _ I6 q6;rw[eP,ew,eA,Y]at a2;refine thn a2 λok s7 ⟨H7,I7,q7⟩=>?_;have back:∀{H8:Hp}{O:Shared}{pl:List (Addr×Obj)},Inv f ([(s2.heap.objs.size,{cls:=.type "list",data:=.seq us.toArray k})]++a2n fp s5.heap) σ6 H8 O ->
     Inv f [] (B4 src σ) H8 O/\tn (i+1) O.heap/\(∀b∈fp,H8 b=none)/\H8 s2.heap.objs.size=none/\O.heap.get? s2.heap.objs.size=some {cls:=.type "list",data:=.seq us.toArray k}:=λ{H8 O pl} I8=>by
    have p0:=I8.pin (s2.heap.objs.size,{cls:=.type "list",data:=.seq us.toArray k}) (List.mem_append_right _ (List.mem_append_left _ List.mem_cons_self));refine⟨(I8.pins_of (pins':=[]) λp hp=>by cases hp).weak sb.1 sb.2,T.keep _ _ _ a0 λb j o e=>(I8.pin (b,o) (List.mem_append_right _ (List.mem_append_right _ (S2 j e)))).1,λb j=>?_,p0.2.1,p0.1⟩;obtain⟨o,e,_⟩:=T.obj _ _ a0 b j;exact(I8.pin (b,o) (List.mem_append_right _ (List.mem_append_right _ (S2 j e)))).2.1
   cases ok with
   |false =>
    obtain⟨m',hm,w7⟩:=hN _ _ q7;obtain⟨b1,b2,b3,b4,b5⟩:=back (pl:=[]) I7;exact⟨m',hm,i+1,H7,ys,us,k,b1,b2,b3,b4,b5,r3,w7⟩
   |true =>
    have a3:=c3 _ s7 σ6 H7 _ I7 q7;rw[eP,ew,eA,Y]at a3;refine thn a3 λy O ⟨vy,H8,I8,ry,n8⟩=>?_;obtain⟨m',hm,w8⟩:=hN _ _ n8;obtain⟨b1,b2,b3,b4,b5⟩:=back (pl:=[]) I8;refine call_meets F.slot_list_append ⟨_,b5,rfl⟩ F.entry_list_append (F.args_list_append_2 _ _) (PySem.list_append s2.heap.objs.size us.toArray k y (by rw[List.size_toArray,<-r3.length];omega)) ⟨b5,?_⟩;have q:=PySem.IsL.update b5 (λxs=>xs.push y);rw[show us.toArray.push y=(us++[y]).toArray by simp]at q;have nb:∀b o,b≠s2.heap.objs.size->O.heap.get? b=some o->(O.heap.update s2.heap.objs.size (Obj.mapSeq λxs=>xs.push y)).get? b=some o:=λb o j e =>
     (Heap.get?_update_other O.heap _ (Ne.symm j)).trans e
    refine⟨m',hm,i+1,H8,ys++[vy],us++[y],_,?_,?_,b3,b4,q,r3.append (.cons ry .nil),w8⟩
    .exact b1.turned nb b4 (by rw[eL];exact Nat.ne_of_lt (Nat.lt_succ_self _)) (.inr (by rw[c8];exact Nat.le_refl _)) cne λp hp=>by rw[c1]at hp;cases hp
    .exact T.keep _ _ _ b2 λb j o e=>nb b o (P b j) e
 have l:=main _ rfl;rw[ee]at l;exact codeAny_compStart_list l (T.self _ 0 _ _ _ c0 l)
theorem a3r{scope:Scope}(a:a4l scope=true):scope.kind=.function/\∀x∈scope.names,scope.names.lookup x.1=some x.2:=by
 unfold a4l at a;rw[Bool.and_eq_true]at a;exact⟨by simpa using a.1,λx b=>by simpa using List.all_eq_true.mp a.2 x b⟩
theorem Inv.clos{scope:Scope}(I:Inv X pins σ H s)(a:B8 scope X.env.scope=true):closureFor scope X.env=pure (a1C scope X.env):=b2n λx c d=>by
 have q:=List.all_eq_true.mp a x c;rw[d]at q;have b:(X.env.scope.names.lookup x.1==some .cell || X.env.scope.names.lookup x.1==some .free)=true:=by simpa using q
 rw[Bool.or_eq_true]at b;exact I.ok.has x.1 (b.imp (λz=>beq_iff_eq.mp z) λz=>beq_iff_eq.mp z)
theorem b3D{tg a i:Expr}{e:List Expr}{scope:Scope}{pos:Pos}{N:List Str}{src:List (Option Nat)}{wi:TI}{g:TG}{r:TT}{te:TE}(hc:X.calm=true)(hi:PI X tg a wi)
  (b:B8 scope X.env.scope=true) (f:K7 N src X.N scope=true) (d:a4l scope=true)
  (t:∀cells C s H ex,PG (X.blk N scope cells C s H ex) tg g) (ht:∀cells C s H ex,PIf (X.blk N scope cells C s H ex) e r) (D:∀cells C s H ex,PE (X.blk N scope cells C s H ex) i te)
  (hs:∀x,foldedSetIterable a X.env x=pure x:=by intro _;rfl):PE X (.ListComp i [⟨tg,a,e,0⟩] scope pos) (a5f src wi g r te):=by
 intro pins s σ H Q I h;obtain⟨c,n⟩:=a3r d;rw[eval_ListComp];refine wpAny_comprehension_free (use:=none) rfl hs (I.clos b) c (λx y v=>by rw[<-v];exact n x y) (a3I (RR:=compPost (model X.prog X.w) X.A X.xe none (EP X pins σ Q)) hc hi b f d t ht D I h ?_);intro s2 F H2 E fp cells pl σ4 ys us k z f2 p o l B hz q;obtain⟨m,j,_⟩:=p.loc;exact⟨m,j,λh' u=>⟨.ref s2.heap.objs.size,_,Inv.unblock z f2 (Nat.le_succ _) (Nat.le_refl _) (Nat.ne_of_lt (Nat.lt_succ_self _)) p o l B hz u,rfl,q⟩⟩
theorem b3l{i:Nat}{y:Str}{t l:Pos}{tg d j:Expr}{f:List Expr}{scope:Scope}{pos:Pos}{N:List Str}{src:List (Option Nat)}{wi:TI}{g:TG}{tt:TT}{te:TE}
  (hN:X.N.Nodup) (hy:X.N[i]?=some y) (V:Loc X.env.scope y)
  (hc:X.calm=true) (hi:PI X tg d wi) (n:B8 scope X.env.scope=true) (F:K7 N src X.N scope=true) (B:a4l scope=true)
  (hg:∀cells C s H ex,PG (X.blk N scope cells C s H ex) tg g) (ht:∀cells C s H ex,PIf (X.blk N scope cells C s H ex) f tt) (O:∀cells C s H ex,PE (X.blk N scope cells C s H ex) j te)
  (Y:swapsWith (.ListComp j [⟨tg,d,f,0⟩] scope pos) (some (.Name y t)) l.line X.env=pure true:=by rfl) (hs:∀x,foldedSetIterable d X.env x=pure x:=by intro _;rfl)
  (hf:X.fn y=true∨X.env.scope.names.lookup y=some .local:=by first|exact .inl rfl|exact .inr rfl|assumption) :
  PS X (.Assign [.Name y t] (.ListComp j [⟨tg,d,f,0⟩] scope pos) l) (a8z (a5f src wi g tt te) (A8 i)):=by
 intro pins s σ H D I h;obtain⟨r,S⟩:=a3r B;rw[exec_Assign_Name_used _ _ _ _ Y];refine wpAny_bind (wpAny_standAt (wpAny_bind ?_));show wpAny _ X.A (do let _ <-comprehension (.ListComp j [⟨tg,d,f,0⟩] scope pos) scope X.env _ (newList []) false (eval d X.env) (some (assign (.Name y t) X.env))) _ _ s;refine wpAny_bind (wpAny_mono (wpAny_comprehension_free (use:=some (assign (.Name y t) X.env)) (Q:=λ_ s'=>SP X pins D .next s') rfl hs (I.clos n) r (λx V hk=>by rw[<-hk];exact S x V)
  (a3I (RR:=compPost (model X.prog X.w) X.A X.xe (some (assign (.Name y t) X.env)) (λ_ s'=>SP X pins D .next s')) hc hi n F B hg ht O I h ?_)) (λ_ s' hq=>wpAny_pure (wpAny_pure hq)) λ_ _ e=>e)
 intro s2 s4 H2 H4 fp cells pl σ4 ys us k G f2 M W R r4 hz q;obtain⟨m,P,_⟩:=M.loc;have u:s4.heap.Ns (s2.heap.objs.size+1) m:=P;have Z:H4 (s2.heap.objs.size+1)=none:=M.free;have J:=Inv.unblock G f2 (Nat.le_succ _) (Nat.le_refl _) (Nat.ne_of_lt (Nat.lt_succ_self _)) M W R r4 hz (Heap.SameBut.refl _ _);have L:s2.heap.objs.size+1≠X.env.locals:=Nat.ne_of_gt (Nat.lt_succ_of_lt G.lt);have E:∀x c,X.env.cells.lookup x=some c->c≠s2.heap.objs.size+1:=λx c e=>by
  obtain⟨v,z⟩:=G.cell x c e;exact Nat.ne_of_lt (Nat.lt_succ_of_lt z.lt)
 show wpAny _ X.A (assign (.Name y t) X.env (.ref s2.heap.objs.size)) _ _ s4;refine wpAny_assign_Name (a3l (v:=.ref s2.heap.objs.size) J hN hy V rfl (λs' I' hb=>?_) hf);obtain⟨a,sb,ha⟩:=hb;have K:s2.heap.objs.size+1≠a:=by
  rcases ha with rfl|ha
  .exact L
  .exact(E _ _ ha).symm
 refine⟨m,u.sameBut sb K,λh' T=>⟨_,_,I'.turned (t':=s'.toks) (it:=s2.heap.objs.size+1) (λb o U e=>T.extBut b o U e) ?_ L (.inr (Nat.le_trans G.sz (Nat.le_succ _))) E λp hp=>?_,q⟩⟩
 .rw[A2 (Nat.ne_of_gt (Nat.lt_succ_self _))];exact Z
 .exact Nat.ne_of_lt (Nat.lt_succ_of_lt (Heap.lt_size (G.pin p hp).1))
end
def SqAt(k:Bool)(h:Heap)(l:Addr)(xs:Array Value):Prop:=match k with|true=>h.IsTuple l xs|false=>h.IsList l xs
def ItAt(k:Bool)(h:Heap)(i l:Addr)(n:Nat):Prop:=match k with|true=>h.IsTupleIter i l n|false=>h.IsListIter i l n
noncomputable def b6r:Bool->String|true => "tuple_iterator" | false => "list_iterator"
noncomputable def a1n(k:Bool)(l:Addr):Obj:={cls:=.type (b6r k),data:=.fields #[.ref l,.int 0 0]}
theorem ItAt.extBut{k:Bool}{h h':Heap}{i l b:Addr}{n:Nat}(x:ItAt k h i l n)(hs:Heap.ExtBut b h h')(a:i≠b):ItAt k h' i l n:=by
 cases k
 .exact Heap.IsListIter.extBut x hs a
 .exact Heap.IsTupleIter.extBut x hs a
theorem ItAt.at{k:Bool}{h h':Heap}{i l:Addr}{n:Nat}(x:ItAt k h i l n)(e:∀o,h.get? i=some o->h'.get? i=some o):ItAt k h' i l n:=by
 cases k
 .exact Heap.IsListIter.at x e
 .exact Heap.IsTupleIter.at x e
theorem ItAt.get{k:Bool}{h:Heap}{i l:Addr}{n:Nat}(x:ItAt k h i l n):∃o,h.get? i=some o/\o.data=.fields #[.ref l,.int n 0]:=by
 cases k<;>obtain⟨o,e,c,d⟩:=x<;>exact⟨o,e,d⟩
theorem SqAt.extBut{k:Bool}{h h':Heap}{l b:Addr}{xs:Array Value}(x:SqAt k h l xs)(hs:Heap.ExtBut b h h')(a:l≠b):SqAt k h' l xs:=by
 cases k
 .exact Heap.IsList.extBut x hs a
 .exact Heap.IsTuple.extBut x hs a
theorem SqAt.at{k:Bool}{h h':Heap}{l:Addr}{xs:Array Value}(x:SqAt k h l xs)(e:∀o,h.get? l=some o->h'.get? l=some o):SqAt k h' l xs:=by
 cases k<;>obtain⟨o,q,r⟩:=x<;>exact⟨o,e o q,r⟩
theorem SqAt.get{k:Bool}{h:Heap}{l:Addr}{xs:Array Value}(x:SqAt k h l xs):∃o,h.get? l=some o:=by
 cases k<;>obtain⟨o,q,r⟩:=x<;>exact⟨o,q⟩
section
variable {prog:Program}{w:World}{A:Around}{E:Value->Shared->Prop}{s:Shared}
theorem a1v{it t:Addr}{i:Nat}{items:Array Value}{x:Value}{Q:Value->Shared->Prop}(a:s.heap.IsTupleIter it t i)(ht:s.heap.IsTuple t items)(e:items[i]?=some x)
  (f:∀h',h'.IsTupleIter it t (i+1)->Heap.SameBut it s.heap h'->Q x {s with heap:=h'}):wpAny (model prog w) A (Builtin.SmallTypes.nextOf (.ref it)) Q E s:=by
 obtain⟨o,b,hc,hd⟩:=id a;obtain⟨h,d,_,g,c⟩:=ht;unfold Builtin.SmallTypes.nextOf;refine wpAny_bind (wpAny_callSpecial?_slot (name:=Str.ofString "__next__") a.typeIs F.slot_tuple_iterator_next
  (wpAny_call_entry F.slot_tuple_iterator_next a.typeIs F.entry_tuple_iterator_next ?_ (F.args_tuple_iterator_next_1 _)))
 show wpAny _ _ (field (.ref it) 0>>=_) _ _ s;refine wpAny_bind (wpAny_field b hd (x:=.ref t) rfl ?_);show wpAny _ _ (if (Value.ref t==Value.none)=true then _ else _) _ _ s;rw[if_neg (show ¬((Value.ref t==Value.none)=true)from Bool.false_ne_true)];show wpAny _ _ (field (.ref it) 1>>=_) _ _ s;refine wpAny_bind (wpAny_field b hd (x:=.int i 0) rfl ?_);show wpAny _ _ (seqItems? (.ref t)>>=_) _ _ s;refine wpAny_bind (wpAny_seqItems d c ?_);simp only[Int.toNat_natCast,e];refine wpAny_bind (wpAny_setField b hd (by simp) (wpAny_pure ⟨x,rfl,wpAny_pure (f _ ?_ (Heap.SameBut.update ..))⟩));exact⟨_,Heap.get?_update_self _ b (Obj.isFreed_of_fields (Obj.data_mapFields hd _)),(Obj.cls_mapFields ..).trans hc,by
  rw[Obj.data_mapFields hd];simp[rawInt]⟩
theorem a2r{it t:Addr}{i:Nat}{items:Array Value}{Q:Value->Shared->Prop}(g:A.handled=none)(b:s.heap.IsTupleIter it t i)(ht:s.heap.IsTuple t items)(h:items[i]?=none)
  (j:∀h' e,Heap.ExtBut it s.heap h'->(∃o,h'.get? e=some o/\o.cls=.type "StopIteration")->E (.ref e) {s with heap:=h'}) :
  wpAny (model prog w) A (Builtin.SmallTypes.nextOf (.ref it)) Q E s:=by
 obtain⟨o,d,hc,hd⟩:=id b;obtain⟨l,f,_,k,c⟩:=ht;unfold Builtin.SmallTypes.nextOf;refine wpAny_bind (wpAny_callSpecial?_slot (name:=Str.ofString "__next__") b.typeIs F.slot_tuple_iterator_next
  (wpAny_call_entry F.slot_tuple_iterator_next b.typeIs F.entry_tuple_iterator_next ?_ (F.args_tuple_iterator_next_1 _)))
 show wpAny _ _ (field (.ref it) 0>>=_) _ _ s;refine wpAny_bind (wpAny_field d hd (x:=.ref t) rfl ?_);show wpAny _ _ (if (Value.ref t==Value.none)=true then _ else _) _ _ s;rw[if_neg (show ¬((Value.ref t==Value.none)=true)from Bool.false_ne_true)];show wpAny _ _ (field (.ref it) 1>>=_) _ _ s;refine wpAny_bind (wpAny_field d hd (x:=.int i 0) rfl ?_);show wpAny _ _ (seqItems? (.ref t)>>=_) _ _ s;refine wpAny_bind (wpAny_seqItems f c ?_);simp only[Int.toNat_natCast,h];refine wpAny_bind (wpAny_rule (wpAny_bind (wpAny_setField d hd (by simp) ?_)));show wpAny _ _ (newExc (.type "StopIteration") []>>=_) _ _ _;refine wpAny_bind ?_;simp only[newExc,newTuple];refine wpAny_bind (wpAny_newObj_type ?_ (by size_fits));refine wpAny_bind (m:=firstArgMember _ _) (wpAny_of_eq (a:=Value.none) (by first|rfl | (simp only[firstArgMember];rfl)) ?_);refine wpAny_newObj_type ?_ (by size_fits);simp only[raiseNew];refine wpAny_bind (wpAny_handled ?_)
 first|rw[show A.in1.handled=none from g]|rw[g]
 refine wpAny_bind (wpAny_pure (wpAny_throw ?_));exact j _ _ (((Heap.SameBut.update ..).extBut.push _).push _) ⟨_,Heap.get?_push_size _ rfl,rfl⟩
theorem a2b{k:Bool}{it l:Addr}{i:Nat}{items:Array Value}{x:Value}{Q:Value->Shared->Prop}(a:ItAt k s.heap it l i)(ht:SqAt k s.heap l items)(b:items[i]?=some x)
  (c:∀h',ItAt k h' it l (i+1)->Heap.SameBut it s.heap h'->Q x {s with heap:=h'}):wpAny (model prog w) A (Builtin.SmallTypes.nextOf (.ref it)) Q E s:=by
 cases k
 .exact wpAny_nextOf_list_item a ht b c
 .exact a1v a ht b c
theorem a7o{k:Bool}{it l:Addr}{i:Nat}{items:Array Value}{Q:Value->Shared->Prop}(c:A.handled=none)(a:ItAt k s.heap it l i)(ht:SqAt k s.heap l items)(b:items[i]?=none)
  (d:∀h' e,Heap.ExtBut it s.heap h'->(∃o,h'.get? e=some o/\o.cls=.type "StopIteration")->E (.ref e) {s with heap:=h'}) :
  wpAny (model prog w) A (Builtin.SmallTypes.nextOf (.ref it)) Q E s:=by
 cases k
 .exact wpAny_nextOf_list_end c a ht b d
 .exact a2r c a ht b d
theorem P8{k:Bool}{l:Addr}{items:Array Value}{Q:Value->Shared->Prop}(ht:SqAt k s.heap l items)(a:Q (.ref s.heap.objs.size) {s with heap:=s.heap.push (a1n k l)}):wpAny (model prog w) A (pyIter (.ref l)) Q E s:=by
 cases k
 .exact wpAny_pyIter_list ht a
 .exact wpAny_pyIter_tuple ht a
end
section
variable {prog:Program}{w:World}{A:Around}{E:Value->Shared->Prop}{s:Shared}{k1 k2:Bool}
theorem a9L{z TI TO i f l1 l2:Addr}{n1 n2:Nat}{xs ys:Array Value}{x y a b:Value}{Q:Value->Shared->Prop}(D:ZipApart z TI TO i f l1 l2)
  (hz:IsZip s.heap z TI TO .none) (m:IsPair s.heap TI (.ref i) (.ref f)) (d:IsPair s.heap TO a b)
  (h1:ItAt k1 s.heap i l1 n1) (h2:ItAt k2 s.heap f l2 n2) (q:SqAt k1 s.heap l1 xs) (r:SqAt k2 s.heap l2 ys) (u:xs[n1]?=some x) (t:ys[n2]?=some y)
  (B:∀h',IsZip h' z TI TO (rawInt s.heap.objs.size)->IsPair h' TO x y->ItAt k1 h' i l1 (n1+1)->ItAt k2 h' f l2 (n2+1)->IsPair h' s.heap.objs.size x y->h'.objs.size=s.heap.objs.size+1 ->
   (∀c o,c≠z->c≠TO->c≠i->c≠f->s.heap.get? c=some o->h'.get? c=some o)->Q (.ref s.heap.objs.size) {s with heap:=h'}) :
  wpAny (model prog w) A (Builtin.«zip.__next__» ⟨[.ref z],[]⟩) (λfin s'=>∃v,fin=.done (.ret v)/\Q v s') E s:=by
 show wpAny _ _ (field (.ref z) 2>>=_) _ _ _;refine wpAny_bind (wpAny_field hz rfl (x:=.bool false) rfl ?_);show wpAny _ _ (field (.ref z) 3>>=_) _ _ _;refine wpAny_bind (wpAny_field hz rfl (x:=.ref TI) rfl ?_);refine wpAny_bind (wpAny_seqItems m rfl ?_);show wpAny _ _ (Builtin.SmallTypes.ownedTupleIsFree (.ref z)>>=_) _ _ _;refine wpAny_bind ?_;unfold Builtin.SmallTypes.ownedTupleIsFree;refine wpAny_bind (wpAny_field hz rfl (x:=.none) rfl (wpAny_pure ?_));simp only[if_true];refine wpAny_bind (wpAny_rule ?_);refine wpAny_bind (wpAny_field hz rfl (x:=.ref TO) rfl ?_);refine wpAny_bind (wpAny_setField_rec hz (by simp) λh₁ hz₁ hs₁=>?_);replace hz₁:IsZip h₁ z TI TO .ellipsis:=hz₁;refine wpAny_bind ?_;simp only[List.zipIdx_cons,List.zipIdx_nil,List.forIn_cons,List.forIn_nil];refine wpAny_bind (wpAny_bind (wpAny_onRaise ?_));show wpAny _ _ (Builtin.SmallTypes.nextOf (.ref i)>>=_) _ _ _;refine wpAny_bind (a2b (h1.extBut hs₁.extBut D.i1z) (q.extBut hs₁.extBut D.l1z) u λh₂ h1₂ hs₂=>wpAny_pure ?_);have hTO₂:IsPair h₂ TO a b:=hs₂.extBut _ _ D.TOi1 (hs₁.extBut _ _ D.TOz d);refine wpAny_bind (wpAny_seqItems hTO₂ rfl ?_);refine wpAny_bind (wpAny_updateSeq_pair hTO₂ λh₃ hTO₃ hs₃=>?_);replace hTO₃:IsPair h₃ TO x b:=hTO₃;refine wpAny_bind (wpAny_letGo (wpAny_pure ?_));refine wpAny_bind (wpAny_bind (wpAny_onRaise ?_));show wpAny _ _ (Builtin.SmallTypes.nextOf (.ref f)>>=_) _ _ _;refine wpAny_bind (a2b (((h2.extBut hs₁.extBut D.i2z).extBut hs₂.extBut D.i12.symm).extBut hs₃.extBut D.TOi2.symm)
  (((r.extBut hs₁.extBut D.l2z).extBut hs₂.extBut D.l2i1).extBut hs₃.extBut D.l2TO) t λh₄ h2₄ hs₄=>wpAny_pure ?_)
 have hTO₄:IsPair h₄ TO x b:=hs₄.extBut _ _ D.TOi2 hTO₃;refine wpAny_bind (wpAny_seqItems hTO₄ rfl ?_);refine wpAny_bind (wpAny_updateSeq_pair hTO₄ λh₅ hTO₅ hs₅=>?_);replace hTO₅:IsPair h₅ TO x y:=hTO₅;refine wpAny_bind (wpAny_letGo (wpAny_pure (wpAny_pure ?_)));refine wpAny_bind (wpAny_seqItems hTO₅ rfl ?_);refine wpAny_bind (wpAny_newTuple ?_);have hsz:h₅.objs.size=s.heap.objs.size:=by rw[hs₅.1,hs₄.1,hs₃.1,hs₂.1,hs₁.1]
 have hz₅:IsZip h₅ z TI TO .ellipsis:=hs₅.extBut _ _ D.TOz.symm (hs₄.extBut _ _ D.i2z.symm (hs₃.extBut _ _ D.TOz.symm (hs₂.extBut _ _ D.i1z.symm hz₁)));have hk₅:∀c o,c≠z->c≠TO->c≠i->c≠f->s.heap.get? c=some o->h₅.get? c=some o:=λc o j l p n e =>
  hs₅.extBut _ _ l (hs₄.extBut _ _ n (hs₃.extBut _ _ l (hs₂.extBut _ _ p (hs₁.extBut _ _ j e))))
 have h1₅:ItAt k1 h₅ i l1 (n1+1):=((h1₂.extBut hs₃.extBut D.TOi1.symm).extBut hs₄.extBut D.i12).extBut hs₅.extBut D.TOi1.symm;have h2₅:ItAt k2 h₅ f l2 (n2+1):=h2₄.extBut hs₅.extBut D.TOi2.symm;have g:z<h₅.objs.size:=Heap.lt_size hz₅;show wpAny _ _ (Builtin.SmallTypes.ownedTupleHandOut (.ref z) (.ref h₅.objs.size)>>=_) _ _ _;refine wpAny_bind ?_;unfold Builtin.SmallTypes.ownedTupleHandOut;have hz₆:IsZip (h₅.push {cls:=.type "tuple",data:=.seq #[x,y]}) z TI TO .ellipsis:=Heap.get?_push_of_some _ hz₅;refine wpAny_bind (wpAny_setField_rec hz₆ (by simp) λh₇ hz₇ hs₇=>?_);replace hz₇:IsZip h₇ z TI TO (rawInt h₅.objs.size):=hz₇;refine wpAny_setField_rec hz₇ (by simp) λh₈ hz₈ hs₈=>?_;replace hz₈:IsZip h₈ z TI TO (rawInt h₅.objs.size):=hz₈;have up:∀c o,c≠z->h₅.get? c=some o->h₈.get? c=some o:=λc o j e=>hs₈.extBut _ _ j (hs₇.extBut _ _ j (Heap.get?_push_of_some _ e));have hT₈:IsPair h₈ h₅.objs.size x y:=hs₈.extBut _ _ (Nat.ne_of_gt g) (hs₇.extBut _ _ (Nat.ne_of_gt g) (Heap.get?_push_size _ rfl));have k:h₈.objs.size=h₅.objs.size+1:=by rw[hs₈.1,hs₇.1,Heap.size_push]
 rw[hsz]at hz₈ hT₈ k;refine wpAny_pure ⟨_,rfl,?_⟩;show Q (.ref h₅.objs.size) _;rw[hsz];exact B h₈ hz₈ (up _ _ D.TOz hTO₅) (h1₅.at λo e=>up _ o D.i1z e) (h2₅.at λo e=>up _ o D.i2z e) hT₈ k λc o j l p n e=>up c o j (hk₅ c o j l p n e)
theorem b2F{z TI TO l n l1 l2:Addr}{n1 n2:Nat}{xs ys:Array Value}{a b:Value}{Q:Fin->Shared->Prop}(y:A.handled=none)(D:ZipApart z TI TO l n l1 l2)
  (hz:IsZip s.heap z TI TO .none) (p:IsPair s.heap TI (.ref l) (.ref n)) (f:IsPair s.heap TO a b)
  (h1:ItAt k1 s.heap l l1 n1) (h2:ItAt k2 s.heap n l2 n2) (m:SqAt k1 s.heap l1 xs) (v:SqAt k2 s.heap l2 ys) (j:xs[n1]?=none∨ys[n2]?=none)
  (B:∀h' e,(∀c o,c≠z->c≠TO->c≠l->c≠n->s.heap.get? c=some o->h'.get? c=some o)->(∃o,h'.get? e=some o/\o.cls=.type "StopIteration")->E (.ref e) {s with heap:=h'}) :
  wpAny (model prog w) A (Builtin.«zip.__next__» ⟨[.ref z],[]⟩) Q E s:=by
 show wpAny _ _ (field (.ref z) 2>>=_) _ _ _;refine wpAny_bind (wpAny_field hz rfl (x:=.bool false) rfl ?_);show wpAny _ _ (field (.ref z) 3>>=_) _ _ _;refine wpAny_bind (wpAny_field hz rfl (x:=.ref TI) rfl ?_);refine wpAny_bind (wpAny_seqItems p rfl ?_);show wpAny _ _ (Builtin.SmallTypes.ownedTupleIsFree (.ref z)>>=_) _ _ _;refine wpAny_bind ?_;unfold Builtin.SmallTypes.ownedTupleIsFree;refine wpAny_bind (wpAny_field hz rfl (x:=.none) rfl (wpAny_pure ?_));simp only[if_true];refine wpAny_bind (wpAny_rule ?_);refine wpAny_bind (wpAny_field hz rfl (x:=.ref TO) rfl ?_);refine wpAny_bind (wpAny_setField_rec hz (by simp) λh₁ hz₁ hs₁=>?_);replace hz₁:IsZip h₁ z TI TO .ellipsis:=hz₁;refine wpAny_bind ?_;simp only[List.zipIdx_cons,List.zipIdx_nil,List.forIn_cons,List.forIn_nil];refine wpAny_bind (wpAny_bind (wpAny_onRaise ?_));show wpAny _ _ (Builtin.SmallTypes.nextOf (.ref l)>>=_) _ _ _;cases t:xs[n1]? with
 |none =>
  refine wpAny_bind (a7o y (h1.extBut hs₁.extBut D.i1z) (m.extBut hs₁.extBut D.l1z) t λh₂ e hs₂ u=>?_);obtain⟨q,d,g⟩:=u;have hz₂:IsZip h₂ z TI TO .ellipsis:=hs₂ _ _ D.i1z.symm hz₁;have i:e≠z:=λx=>by subst x;rw[hz₂]at d;cases d;simp at g
  refine wpAny_setField_rec hz₂ (by simp) λh₃ _ hs₃=>B h₃ e (λc o k _ r _ x=>hs₃.extBut _ _ k (hs₂ _ _ r (hs₁.extBut _ _ k x))) ⟨q,hs₃.extBut _ _ i d,g⟩
 |some x =>
  have C:ys[n2]?=none:=by rcases j with h|h;rw[t]at h;cases h;exact h
  refine wpAny_bind (a2b (h1.extBut hs₁.extBut D.i1z) (m.extBut hs₁.extBut D.l1z) t λh₂ h1₂ hs₂=>wpAny_pure ?_);have hTO₂:IsPair h₂ TO a b:=hs₂.extBut _ _ D.TOi1 (hs₁.extBut _ _ D.TOz f);refine wpAny_bind (wpAny_seqItems hTO₂ rfl ?_);refine wpAny_bind (wpAny_updateSeq_pair hTO₂ λh₃ hTO₃ hs₃=>?_);refine wpAny_bind (wpAny_letGo (wpAny_pure ?_));refine wpAny_bind (wpAny_bind (wpAny_onRaise ?_));show wpAny _ _ (Builtin.SmallTypes.nextOf (.ref n)>>=_) _ _ _;refine wpAny_bind (a7o y (((h2.extBut hs₁.extBut D.i2z).extBut hs₂.extBut D.i12.symm).extBut hs₃.extBut D.TOi2.symm)
   (((v.extBut hs₁.extBut D.l2z).extBut hs₂.extBut D.l2i1).extBut hs₃.extBut D.l2TO) C λh₄ e hs₄ u=>?_)
  obtain⟨q,d,g⟩:=u;have hz₄:IsZip h₄ z TI TO .ellipsis:=hs₄ _ _ D.i2z.symm (hs₃.extBut _ _ D.TOz.symm (hs₂.extBut _ _ D.i1z.symm hz₁));have i:e≠z:=λx=>by subst x;rw[hz₄]at d;cases d;simp at g
  refine wpAny_setField_rec hz₄ (by simp) λh₅ _ hs₅=>B h₅ e (λc o k F r G x=>hs₅.extBut _ _ k (hs₄ _ _ G (hs₃.extBut _ _ F (hs₂.extBut _ _ r (hs₁.extBut _ _ k x))))) ⟨q,hs₅.extBut _ _ i d,g⟩
noncomputable abbrev zH1(k1:Bool)(h:Heap)(l1:Addr):Heap:=h.push (a1n k1 l1)
noncomputable abbrev zH2(k1 k2:Bool)(h:Heap)(l1 l2:Addr):Heap:=(zH1 k1 h l1).push (a1n k2 l2)
noncomputable abbrev zH3(k1 k2:Bool)(h:Heap)(l1 l2:Addr):Heap:=(zH2 k1 k2 h l1 l2).push {cls:=.type "tuple",data:=.seq #[.ref h.objs.size,.ref (zH1 k1 h l1).objs.size]}
noncomputable abbrev zH4(k1 k2:Bool)(h:Heap)(l1 l2:Addr):Heap:=(zH3 k1 k2 h l1 l2).push {cls:=.type "tuple",data:=.seq #[.none,.none]}
noncomputable abbrev zH5(k1 k2:Bool)(h:Heap)(l1 l2:Addr):Heap:=(zH4 k1 k2 h l1 l2).push {cls:=.type "zip",data:=.fields #[.none,.bool false,.bool false,.ref (zH2 k1 k2 h l1 l2).objs.size,.ref (zH3 k1 k2 h l1 l2).objs.size]}
theorem b2D(l1 l2:Addr)(xs ys:Array Value) :
  Meets (Builtin.«zip.__new__» ⟨[.type "zip",.ref l1,.ref l2],[]⟩) (λ_ R s=>SqAt k1 s.heap l1 xs/\SqAt k2 s.heap l2 ys /\
   R (.ok (.ret (.ref (zH4 k1 k2 s.heap l1 l2).objs.size))) {s with heap:=zH5 k1 k2 s.heap l1 l2}) :=
 .of_wp λprog w A R s h=>by
  obtain⟨hp,g,d,tk,os⟩:=s;obtain⟨c,f,h⟩:=h;have i:=sub_zip;have b:SqAt k1 (Shared.heap ⟨hp,g,d,tk,os⟩) l1 xs:=c;have a:SqAt k2 (Shared.heap ⟨hp.push (a1n k1 l1),g,d,tk,os⟩) l2 ys:=f.at λo e=>Heap.get?_push_of_some _ e
  wp_walk using P8 b,P8 a
  exact⟨_,rfl,h⟩
theorem a9M{l1 l2:Addr}{xs ys:Array Value}{Q:Value->Shared->Prop}(b:SqAt k1 s.heap l1 xs)(d:SqAt k2 s.heap l2 ys)
  (h:∀h',IsZip h' (s.heap.objs.size+4) (s.heap.objs.size+2) (s.heap.objs.size+3) .none->IsPair h' (s.heap.objs.size+2) (.ref s.heap.objs.size) (.ref (s.heap.objs.size+1)) ->
   IsPair h' (s.heap.objs.size+3) .none .none->ItAt k1 h' s.heap.objs.size l1 0->ItAt k2 h' (s.heap.objs.size+1) l2 0->h'.objs.size=s.heap.objs.size+5 ->
   (∀c o,s.heap.get? c=some o->h'.get? c=some o)->Q (.ref (s.heap.objs.size+4)) {s with heap:=h'}) :
  wpAny (model prog w) A (call (.type "zip") [.ref l1,.ref l2]) Q E s:=by
 refine callType_new F.called_zip (by decide) (F.typeCall_zip_2 _ _) (F.newCall_zip_2 _ _) (λobj=>F.args_object_init_3 obj _ _) F.entry_zip_new
  (b2D (k1:=k1) (k2:=k2) l1 l2 xs ys) ⟨b,d,?_⟩
 have z1:(zH1 k1 s.heap l1).objs.size=s.heap.objs.size+1:=Heap.size_push ..;have z2:(zH2 k1 k2 s.heap l1 l2).objs.size=s.heap.objs.size+2:=by rw[Heap.size_push,z1]
 have z3:(zH3 k1 k2 s.heap l1 l2).objs.size=s.heap.objs.size+3:=by rw[Heap.size_push,z2]
 have z4:(zH4 k1 k2 s.heap l1 l2).objs.size=s.heap.objs.size+4:=by rw[Heap.size_push,z3]
 have z5:(zH5 k1 k2 s.heap l1 l2).objs.size=s.heap.objs.size+5:=by rw[Heap.size_push,z4]
 have a:(zH5 k1 k2 s.heap l1 l2).get? (zH4 k1 k2 s.heap l1 l2).objs.size=some _:=Heap.get?_push_size _ rfl;have g:(zH5 k1 k2 s.heap l1 l2).get? (zH3 k1 k2 s.heap l1 l2).objs.size=some _:=Heap.get?_push_of_some _ (Heap.get?_push_size _ rfl);have e:(zH5 k1 k2 s.heap l1 l2).get? (zH2 k1 k2 s.heap l1 l2).objs.size=some _:=Heap.get?_push_of_some _ (Heap.get?_push_of_some _ (Heap.get?_push_size _ rfl));have f:(zH5 k1 k2 s.heap l1 l2).get? (zH1 k1 s.heap l1).objs.size=some (a1n k2 l2):=Heap.get?_push_of_some _ (Heap.get?_push_of_some _ (Heap.get?_push_of_some _ (Heap.get?_push_size _ rfl)));have i:(zH5 k1 k2 s.heap l1 l2).get? s.heap.objs.size=some (a1n k1 l1):=Heap.get?_push_of_some _ (Heap.get?_push_of_some _ (Heap.get?_push_of_some _ (Heap.get?_push_of_some _ (Heap.get?_push_size _ rfl))));show _/\_;rw[z2,z3,z4]at a;rw[z1,z2]at e;rw[z3]at g;rw[z1]at f;rw[z4];refine⟨⟨_,a,rfl⟩,h _ a e g ?_ ?_ z5 λc o x =>
  Heap.get?_push_of_some _ (Heap.get?_push_of_some _ (Heap.get?_push_of_some _ (Heap.get?_push_of_some _ (Heap.get?_push_of_some _ x))))⟩
 .cases k1<;>exact⟨_,i,rfl,rfl⟩
 .cases k2<;>exact⟨_,f,rfl,rfl⟩
end
def SqK(k:Bool)(K:PySem.W.Frag)(H:Hp)(a:Addr)(xs:List V):Prop:=match k with|true=>SqT K H a xs|false=>SqL K H a xs
theorem Inv.sqk{X:Cx}{pins:List (Addr×Obj)}{σ:St}{H:Hp}{s:Shared}{k:Bool}{a:Addr}{xs:List V}(I:Inv X pins σ H s)(h:SqK k X.K H a xs):∃its:List Value,Vals xs its/\SqAt k s.heap a its.toArray/\xs.length<=sizeLine:=by
 cases k
 .obtain⟨its,r,p,z⟩:=I.list h;exact⟨its,r,p.isList,z⟩
 .obtain⟨its,r,p,z⟩:=I.tuple h;exact⟨its,r,p,z⟩
theorem Inv.sqk_inj{X:Cx}{pins:List (Addr×Obj)}{σ:St}{H:Hp}{s:Shared}{k:Bool}{a:Addr}{xs ys:List V}(I:Inv X pins σ H s)(h:SqK k X.K H a xs)(h':SqK k X.K H a ys):xs=ys:=by
 cases k
 .exact I.list_inj h h'
 .exact I.tuple_inj h h'
noncomputable def Itz(K:PySem.W.Frag)(k1 k2:Bool)(a b:Addr):It :=
 ⟨λi H=>∃xs ys x y,SqK k1 K H a xs/\SqK k2 K H b ys/\xs[i]?=some x/\ys[i]?=some y,
  λi H v H'=>∃p x y,v=.ref p/\H p=none/\H'=upd H p (.tup [x,y])/\(∀xs,SqK k1 K H a xs->xs[i]?=some x)/\∀ys,SqK k2 K H b ys->ys[i]?=some y,
  λi H=>∃xs ys,SqK k1 K H a xs/\SqK k2 K H b ys/\(xs.length<=i∨ys.length<=i)⟩
structure ZTurn(k1 k2:Bool)(z TI TO i1 i2 a b:Addr)(i:Nat)(f0:Value)(h:Heap):Prop where
 zz:IsZip h z TI TO f0
 ti:IsPair h TI (.ref i1) (.ref i2)
 to:∃u v,IsPair h TO u v
 t1:ItAt k1 h i1 a i
 t2:ItAt k2 h i2 b i
structure ZNe(z TI TO i1 i2:Addr):Prop where
 TIz:TI≠z
 TOz:TO≠z
 i1z:i1≠z
 i2z:i2≠z
 TITO:TI≠TO
 TIi1:TI≠i1
 TIi2:TI≠i2
 TOi1:TO≠i1
 TOi2:TO≠i2
 i12:i1≠i2
section
variable {X:Cx}{pins:List (Addr×Obj)}{σ:St}{H:Hp}{s:Shared}
theorem Inv.turnedT{h':Heap}{ch:List Addr}{p:Addr}{o:HO}(I:Inv X pins σ H s)(hf:∀b∈ch,a1d X pins H b)(hp:s.heap.objs.size=p)(k:∀b o,b∉ch->s.heap.get? b=some o->h'.get? b=some o)
  (new:ObjOk X.prog X.w (upd H p o) h' p o):Inv X pins σ (upd H p o) {s with heap:=h'}:=by
 have i:H p=none:=I.hok.fresh (Nat.le_of_eq hp);have d:∀b u,H b=some u->b∉ch:=λb u e z=>by rw[(hf b z).1]at e;cases e
 have a:∀b u,H b=some u->b≠p:=λb u e z=>by rw[z,i]at e;cases e
 have g:∀b u,s.heap.get? b=some u->b≠p:=λb u e=>by
  rw[<-hp];exact Nat.ne_of_lt (Heap.lt_size e)
 refine I.step (g':=s.gens) (d':=s.drawn) (t':=s.toks) (ch:=ch) (λb f=>?_) (λb o _ _ hc e _=>k b o hc e) (λb o _ _ hc e _=>⟨o.slots,k b o hc e⟩) (λb u _ e n=>by rw[A2 (g b u e)];exact n)
  (λb o hc e=>⟨o,k b o hc e⟩) (λb xs e=>by rw[A2 (a b _ e)];exact e) (λb u v e=>by rw[A2 (a b _ e)];exact e) (λb ps e=>⟨#[],by rw[A2 (a b _ e),e];simp⟩) (λm h=>?_) (λb u e=>?_) I.bare
 .obtain⟨_,h1,_,h3,h4,h5⟩:=hf b f;exact⟨h3,h1,h4,h5⟩
 .obtain⟨o,es,ep,ho,r⟩:=h;exact⟨o,es,ep,k _ o (λz=>(hf _ z).2.1 rfl) ho,r⟩
 .by_cases f:b=p
  .subst f;rw[A0]at e;cases e;exact new
  .rw[A2 f]at e;refine(I.hok b u e).stay (λc v hc q=>k c v ?_ q) (λc q=>by rw[A2 (a c _ q)];exact q) λc xs q=>by rw[A2 (a c _ q)];exact q
   rcases hc with z|z
   .rw[z];exact d b u e
   .exact d c _ z
theorem Inv.turnedL{h':Heap}{ch:List Addr}(I:Inv X pins σ H s)(hf:∀b∈ch,a1d X pins H b)(k:∀b o,b∉ch->s.heap.get? b=some o->h'.get? b=some o):Inv X pins σ H {s with heap:=h'}:=by
 have a:∀b u,H b=some u->b∉ch:=λb u e z=>by rw[(hf b z).1]at e;cases e
 refine I.step (g':=s.gens) (d':=s.drawn) (t':=s.toks) (ch:=ch) (λb f=>?_) (λb o _ _ hc e _=>k b o hc e) (λb o _ _ hc e _=>⟨o.slots,k b o hc e⟩) (λb u _ e n=>n)
  (λb o hc e=>⟨o,k b o hc e⟩) (λb xs e=>e) (λb u v e=>e) (λb ps e=>⟨#[],by rw[e];simp⟩) (λm d=>?_) (λb u e=>?_) I.bare
 .obtain⟨_,h1,_,h3,h4,h5⟩:=hf b f;exact⟨h3,h1,h4,h5⟩
 .obtain⟨o,es,ep,ho,r⟩:=d;exact⟨o,es,ep,k _ o (λz=>(hf _ z).2.1 rfl) ho,r⟩
 .refine(I.hok b u e).stay (λc v hc q=>k c v ?_ q) (λc q=>q) λc xs q=>q;rcases hc with z|z
  .rw[z];exact a b u e
  .exact a c _ z
theorem Inv.apart{k:Bool}{a:Addr}{xs:List V}{b:Addr}{o:Obj}(I:Inv X pins σ H s)(hs:SqK k X.K H a xs)(hf:a1d X pins H b):a≠b:=by
 rintro rfl;have d:∀{u:HO},Rd H a u->False:=λr=>by
  rcases r with r|⟨o,r⟩<;>rw[hf.1]at r<;>cases r
 have c:∀{f:Obj},X.K.lookup a=some f->False:=λe=>by
  have g:=I.mod.kin a _ e;rcases hf.2.2.2.1 with z|z
  .exact I.ok.noex _ _ g z
  .exact absurd (Nat.lt_of_lt_of_le (Heap.lt_size (I.ok.bs _ _ g).1) z) (Nat.lt_irrefl _)
 cases k
 .rcases hs with r|⟨f,_,_,e,_⟩
  .exact d r
  .exact c e
 .rcases hs with r|⟨f,_,_,e,_⟩
  .exact d r
  .exact c e
end
theorem a9W{P:Program}{w:World}{K:PySem.W.Frag}{es:List Expr}{kt:Nat}{tp:Pos}{k1 k2:Bool}{a b z TI TO g j:Addr}(D:ZNe z TI TO g j) :
  Turn P w K (.Tuple es kt tp) (Itz K k1 k2 a b) [z,TI,TO,g,j] z (λi h=>ZTurn k1 k2 z TI TO g j a b i .none h) where
 mem:=by simp
 obj:=λi h st c hc=>by
  simp only[List.mem_cons,List.not_mem_nil,or_false]at hc;rcases hc with rfl|rfl|rfl|rfl|rfl
  .exact⟨_,st.zz,λv z=>by cases z⟩
  .exact⟨_,st.ti,λv z=>by cases z⟩
  .obtain⟨u,v,q⟩:=st.to;exact⟨_,q,λv z=>by cases z⟩
  .obtain⟨o,e,d⟩:=st.t1.get;exact⟨o,e,λv z=>by rw[d]at z;cases z⟩
  .obtain⟨o,e,d⟩:=st.t2.get;exact⟨o,e,λv z=>by rw[d]at z;cases z⟩
 keep:=λi h h' st k=>⟨k z (by simp) _ st.zz,k TI (by simp) _ st.ti,let ⟨u,v,q⟩:=st.to;⟨u,v,k TO (by simp) _ q⟩,st.t1.at λo e=>k g (by simp) o e,st.t2.at λo e=>k j (by simp) o e⟩
 item:=by
  intro X S hw V hc i pins s σ H E I hf st C;subst S hw V;obtain⟨xs,ys,x,y,n,l,Z,Y⟩:=C;obtain⟨us,U,M,zu⟩:=I.sqk n;obtain⟨ws,t,N,zw⟩:=I.sqk l;obtain⟨u,hu,R⟩:=U.get Z;obtain⟨v,hv,O⟩:=t.get Y;have f:∀c∈[z,TI,TO,g,j],a≠c/\b≠c:=λc hc=>⟨I.apart (o:=default) n (hf c hc),I.apart (o:=default) l (hf c hc)⟩;have G:ZipApart z TI TO g j a b:=⟨D.TIz,D.TOz,D.i1z,D.i2z,D.TITO,D.TIi1,D.TIi2,D.TOi1,D.TOi2,D.i12,(f z (by simp)).1,(f TO (by simp)).1,(f g (by simp)).1,(f j (by simp)).1,(f z (by simp)).2,(f TO (by simp)).2,(f g (by simp)).2,(f j (by simp)).2⟩;obtain⟨ua,ub,p⟩:=st.to;have hT:s.TypeIs (.ref z) "zip":=⟨_,st.zz,rfl⟩;unfold pyNext;refine wpAny_bind (wpAny_attempt (wpAny_callSpecial?_slot (name:=Str.ofString "__next__") hT F.slot_zip_next
   (wpAny_call_entry F.slot_zip_next hT F.entry_zip_next
    (a9L G st.zz st.ti p st.t1 st.t2 M N (x:=u) (y:=v) (by simpa using hu) (by simpa using hv) λh' a1 a2 a3 a4 a5 a6 a7=>wpAny_pure ?_) (F.args_zip_next_1 _))))
  refine⟨_,rfl,?_⟩;refine wpAny_letOwnedTupleGo_zip (s:={s with heap:=h'}) a1 λh2 L m=>?_;have ne:∀c∈[z,TI,TO,g,j],c≠s.heap.objs.size:=λc hc e=>by
   have:∃o,s.heap.get? c=some o:=by
    simp only[List.mem_cons,List.not_mem_nil,or_false]at hc;rcases hc with rfl|rfl|rfl|rfl|rfl
    .exact⟨_,st.zz⟩
    .exact⟨_,st.ti⟩
    .exact⟨_,p⟩
    .obtain⟨o,e,d⟩:=st.t1.get;exact⟨o,e⟩
    .obtain⟨o,e,d⟩:=st.t2.get;exact⟨o,e⟩
   obtain⟨o,q⟩:=this;exact absurd (Heap.lt_size q) (by rw[e];exact Nat.lt_irrefl _)
  have r:H s.heap.objs.size=none:=I.hok.fresh (Nat.le_refl _);have J:IsPair h2 s.heap.objs.size u v:=m.extBut _ _ (ne z (by simp)).symm a5;have kk:∀c o,c∉[z,TI,TO,g,j]->s.heap.get? c=some o->h2.get? c=some o:=λc o hc e=>by
   simp only[List.mem_cons,List.not_mem_nil,or_false,not_or]at hc;exact m.extBut _ _ hc.1 (a7 c o hc.1 hc.2.2.1 hc.2.2.2.1 hc.2.2.2.2 e)
  have I2:Inv X pins σ (upd H s.heap.objs.size (.tup [x,y])) {s with heap:=h2} :=
   I.turnedT (ch:=[z,TI,TO,g,j]) hf rfl kk ⟨by show 2<=sizeLine;decide,[u,v],.cons R (.cons O .nil),⟨_,J,rfl,0,rfl⟩⟩
  refine⟨.ref s.heap.objs.size,_,I2,rfl,⟨_,x,y,rfl,r,rfl,λzs hz=>?_,λzs hz=>?_⟩,⟨L,m.extBut _ _ D.TIz (a7 _ _ D.TIz D.TITO D.TIi1 D.TIi2 st.ti),⟨u,v,m.extBut _ _ D.TOz a2⟩,a3.extBut m.extBut D.i1z,a4.extBut m.extBut D.i2z⟩,λc hc=>?_⟩
  .rw[I.sqk_inj hz n];exact Z
  .rw[I.sqk_inj hz l];exact Y
  .rw[A2 (ne c hc)];exact(hf c hc).1
 done:=by
  intro X S hw V hc i pins s σ H E I hf st C;subst S hw V;obtain⟨xs,ys,n,l,B⟩:=C;obtain⟨us,U,M,zu⟩:=I.sqk n;obtain⟨ws,t,N,zw⟩:=I.sqk l;have l1:=U.length;have l2:=t.length;have f:∀c∈[z,TI,TO,g,j],a≠c/\b≠c:=λc hc=>⟨I.apart (o:=default) n (hf c hc),I.apart (o:=default) l (hf c hc)⟩;have G:ZipApart z TI TO g j a b:=⟨D.TIz,D.TOz,D.i1z,D.i2z,D.TITO,D.TIi1,D.TIi2,D.TOi1,D.TOi2,D.i12,(f z (by simp)).1,(f TO (by simp)).1,(f g (by simp)).1,(f j (by simp)).1,(f z (by simp)).2,(f TO (by simp)).2,(f g (by simp)).2,(f j (by simp)).2⟩;obtain⟨ua,ub,p⟩:=st.to;have hT:s.TypeIs (.ref z) "zip":=⟨_,st.zz,rfl⟩;unfold pyNext;refine wpAny_bind (wpAny_attempt (wpAny_callSpecial?_slot (name:=Str.ofString "__next__") hT F.slot_zip_next
   (wpAny_call_entry F.slot_zip_next hT F.entry_zip_next (b2F (I.ok.hd hc) G st.zz st.ti p st.t1 st.t2 M N ?_ λh' e hk he=>?_) (F.args_zip_next_1 _))))
  .rcases B with q|q
   .exact .inl (by simp;omega)
   .exact .inr (by simp;omega)
  .obtain⟨o,ho,hc⟩:=he;refine wpAny_bind (wpAny_isInstance (T:="StopIteration") (b:=true) ⟨o,ho,hc⟩ isSubtype_stop ?_);refine wpAny_pure ⟨rfl,I.turnedL (ch:=[z,TI,TO,g,j]) hf λc o hc e=>?_⟩;simp only[List.mem_cons,List.not_mem_nil,or_false,not_or]at hc;exact hk c o hc.1 hc.2.2.1 hc.2.2.2.1 hc.2.2.2.2 e
 self:=λA i s Q E st h=>wpAny_pyIter_zip st.zz h
theorem nne{a b:Nat}(h:a≠b):@Ne Addr a b:=h
theorem zne(n:Nat):ZNe (n+4) (n+2) (n+3) n (n+1) :=
 ⟨nne (by omega),nne (by omega),nne (by omega),nne (by omega),nne (by omega),nne (by omega),nne (by omega),nne (by omega),nne (by omega),nne (by omega)⟩
def b6u(K:PySem.W.Frag)(ta:TA):TI:=λσ H R=>ta σ H λvs H1=>∃k1 k2 a b,vs=[.ref a,.ref b]/\(∃xs,SqK k1 K H1 a xs)/\(∃ys,SqK k2 K H1 b ys)/\R (Itz K k1 k2 a b) H1
section
variable {X:Cx}
theorem b5C{es:List Expr}{k:Nat}{o:Pos}{a b:Expr}{ta:TA}{p pos:Pos}(m:Gl X "zip")(t:X.mg "zip"=none)(ha:PA X [a,b] ta)(i:bootBuiltins "zip"=some (.type "zip"))
  (hs:starEach [a,b] X.env=[(false,eval a X.env),(false,eval b X.env)]:=by rfl) (d:starEach [b] X.env=[(false,eval b X.env)]:=by rfl) :
  PI X (.Tuple es k o) (.Call (.Name "zip" p) [a,b] [] pos) (b6u X.K ta):=by
 intro pins s σ H R I h;refine Call_ (a2x I m t i (PyProof.Rows.callWith_type1 (thn (ha pos pins s σ H _ I h) λus s1 ⟨vs,H1,g,r1,q1⟩=>?_) (by rw[hs,d]) (by rw[d];rfl)));obtain⟨k1,k2,l1,l2,e,⟨xs,u⟩,⟨ys,j⟩,q⟩:=q1;subst e;cases r1 with
 |cons r rr =>
  cases rr with
  |cons r' rr =>
   cases rr;cases r;cases r';obtain⟨us,y,l,w⟩:=g.sqk u;obtain⟨z,v,n,x⟩:=g.sqk j;refine a9M l n λh' z1 z2 z3 z4 z5 z6 z7=>?_;refine wpAny_pyIter_zip (s:={s1 with heap:=h'}) z1 ?_;refine⟨s1.heap.objs.size+4,[s1.heap.objs.size+4,s1.heap.objs.size+2,s1.heap.objs.size+3,s1.heap.objs.size,s1.heap.objs.size+1],_,_,H1,rfl,g.kept (t':=s1.toks) z7,a9W (zne _),
    ⟨z1,z2,⟨_,_,z3⟩,z4,z5⟩,λc hc=>?_,q⟩
   have f:s1.heap.objs.size<=c:=by
    simp only[List.mem_cons,List.not_mem_nil,or_false]at hc;rcases hc with rfl|rfl|rfl|rfl|rfl
    .exact Nat.le_add_right _ _
    .exact Nat.le_add_right _ _
    .exact Nat.le_add_right _ _
    .exact Nat.le_refl _
    .exact Nat.le_add_right _ _
   exact g.fpOk f (g.hok.fresh f)
end
theorem a0i{prog:Program}{w:World}{A:Around}{k:Bool}{I l:Addr}{items:Array Value}(b:A.handled=none)(a:l≠I) :
  Walks prog w A I [I,l] [I] items.size (λi v=>items[i]?=some v) (λi h=>ItAt k h I l i/\SqAt k h l items):=by
 cases k
 .exact Walks.list b I l a items
 .exact Walks.tuple b I l a items
noncomputable def trV:V->Bool
 |.bl b=>b
 |.int i=>i != 0
 |.non=>false
 |_=>true
noncomputable def a8d:V->Bool
 |.bl _=>true
 |.int _=>true
 |.non=>true
 |_=>false
theorem a1g{prog:Program}{w:World}{A:Around}{E:Value->Shared->Prop}{s:Shared}{x:V}{v:Value}{Q:Bool->Shared->Prop}(r:RelV x v)(f:a8d x=true)(h:Q (trV x) s):wpAny (model prog w) A (truthy v) Q E s:=by
 cases x with
 |non=>cases r;exact truthy_none h
 |bl b=>cases r;exact wpAny_truthy_bool h
 |int i=>obtain⟨t,rfl⟩:=r;exact PySem.P.truthy_int h
 |_=>cases f
theorem a3u{α:Type}(xs:List α)(p:α->Bool)(d:α):(List.range xs.length).all (λi=>p (xs.getD i d))=xs.all p:=by
 rw[Bool.eq_iff_iff,List.all_eq_true,List.all_eq_true];constructor
 .intro h x hx;obtain⟨i,hi,rfl⟩:=List.mem_iff_getElem.mp hx;have:=h i (List.mem_range.mpr hi);simpa[List.getD_eq_getElem?_getD,hi]using this
 .intro h i hi;have a:=List.mem_range.mp hi;simpa[List.getD_eq_getElem?_getD,a]using h xs[i] (List.getElem_mem a)
theorem a8K{α:Type}(xs:List α)(p:α->Bool)(d:α):(List.range xs.length).any (λi=>p (xs.getD i d))=xs.any p:=by
 have:=a3u xs (λx=>!p x) d;rw[<-List.not_any_eq_all_not,<-List.not_any_eq_all_not]at this;simpa using this
theorem a7F(xs:List Int):∀n,n<=xs.length->preSum (λi=>xs.getD i 0) n=(xs.take n).sum
 |0,_=>by simp[preSum]
 |n+1,h=>by
  have this:xs[n]?=some xs[n]:=List.getElem?_eq_getElem (by omega);have e:xs.take (n+1)=xs.take n++[xs[n]]:=by rw[List.take_add_one,this];rfl
  rw[preSum,a7F xs n (by omega),e,List.sum_append];simp[List.getD_eq_getElem?_getD,this]
section
variable {X:Cx}
abbrev RL:=List V->Hp->VK->Prop
def b5t(K:PySem.W.Frag):RL:=λxs H Q=>∃(k:Bool) (p:Addr) (ys:List V),xs=[.ref p]/\SqK k K H p ys/\ys.all a8d=true/\Q (.bl (ys.all trV)) H
def b5s(K:PySem.W.Frag):RL:=λxs H Q=>∃(k:Bool) (p:Addr) (ys:List V),xs=[.ref p]/\SqK k K H p ys/\ys.all a8d=true/\Q (.bl (ys.any trV)) H
def b5n(K:PySem.W.Frag):RL:=λxs H Q=>∃(k:Bool) (p:Addr) (ns:List Int),xs=[.ref p]/\SqK k K H p (ns.map V.int)/\Q (.int ns.sum) H
theorem a4E{k:Bool}{l:Addr}{items:Array Value}{s:Shared}(h:SqAt k s.heap l items):ItAt k (s.heap.push (a1n k l)) s.heap.objs.size l 0/\SqAt k (s.heap.push (a1n k l)) l items:=by
 refine⟨?_,h.at λo e=>Heap.get?_push_of_some _ e⟩;cases k<;>exact⟨_,Heap.get?_push_size _ rfl,rfl,rfl⟩
theorem a0u{k:Bool}{l:Addr}{items:Array Value}{s:Shared}(h:SqAt k s.heap l items):l≠s.heap.objs.size:=by
 obtain⟨o,e⟩:=h.get;exact Nat.ne_of_lt (Heap.lt_size e)
theorem a0v{s:Shared}{h':Heap}{a:Obj}(c:∀b o,b∉[s.heap.objs.size]->(s.heap.push a).get? b=some o->h'.get? b=some o):∀b o,s.heap.get? b=some o->h'.get? b=some o:=λb o e =>
 c b o (λz=>by have:=Heap.lt_size e;rw[List.mem_singleton.mp z]at this;exact Nat.lt_irrefl _ this) (Heap.get?_push_of_some _ e)
theorem b2t(hc:X.calm=true):C7 X (.builtin "all") (b5t X.K):=by
 intro pins s σ H xs us Q I o h;obtain⟨k,p,ys,rfl,hs,hf,q⟩:=h;obtain⟨u,rfl,m⟩:=o.one;cases m;obtain⟨its,ri,c,hz⟩:=I.sqk hs;have j:X.A.in1.handled=none:=I.ok.hd hc;refine call_all_walk (P8 c ?_);refine⟨s.heap.objs.size,_,_,_,_,_,λi=>trV (ys.getD i .non),rfl,a0i (k:=k) (l:=p) (items:=its.toArray) j (a0u c),a4E c,?_,λh' tk n=>?_⟩
 .intro i v s' Q' E' hv hq;have b:its[i]?=some v:=by simpa using hv
  obtain⟨hi,_⟩:=List.getElem?_eq_some_iff.mp b;have a:i<ys.length:=by rw[ri.length];exact hi
  have d:ys[i]?=some ys[i]:=List.getElem?_eq_getElem a;obtain⟨r,f,g⟩:=ri.get d;rw[b]at f;cases f;refine a1g g (List.all_eq_true.mp hf _ (List.getElem_mem a)) ?_;simpa[List.getD_eq_getElem?_getD,d]using hq
 .have e:(List.range its.toArray.size).all (λi=>trV (ys.getD i .non))=ys.all trV:=by
   rw[List.size_toArray,<-ri.length];exact a3u ys trV .non
  rw[e];exact⟨.bl _,H,I.kept (a0v n),rfl,q⟩
theorem b2s(hc:X.calm=true):C7 X (.builtin "any") (b5s X.K):=by
 intro pins s σ H xs us Q I o h;obtain⟨k,p,ys,rfl,hs,hf,q⟩:=h;obtain⟨u,rfl,m⟩:=o.one;cases m;obtain⟨its,ri,c,hz⟩:=I.sqk hs;have j:X.A.in1.handled=none:=I.ok.hd hc;refine call_any_walk (P8 c ?_);refine⟨s.heap.objs.size,_,_,_,_,_,λi=>trV (ys.getD i .non),rfl,a0i (k:=k) (l:=p) (items:=its.toArray) j (a0u c),a4E c,?_,λh' tk n=>?_⟩
 .intro i v s' Q' E' hv hq;have b:its[i]?=some v:=by simpa using hv
  obtain⟨hi,_⟩:=List.getElem?_eq_some_iff.mp b;have a:i<ys.length:=by rw[ri.length];exact hi
  have d:ys[i]?=some ys[i]:=List.getElem?_eq_getElem a;obtain⟨r,f,g⟩:=ri.get d;rw[b]at f;cases f;refine a1g g (List.all_eq_true.mp hf _ (List.getElem_mem a)) ?_;simpa[List.getD_eq_getElem?_getD,d]using hq
 .have e:(List.range its.toArray.size).any (λi=>trV (ys.getD i .non))=ys.any trV:=by
   rw[List.size_toArray,<-ri.length];exact a8K ys trV .non
  rw[e];exact⟨.bl _,H,I.kept (a0v n),rfl,q⟩
theorem b2p(hc:X.calm=true):C7 X (.builtin "sum") (b5n X.K):=by
 intro pins s σ H xs us Q I x h;obtain⟨k,p,ns,rfl,hs,q⟩:=h;obtain⟨u,rfl,r⟩:=x.one;cases r;obtain⟨its,ri,c,hz⟩:=I.sqk hs;have hl:=ri.length;rw[List.length_map]at hl;have n:X.A.in1.handled=none:=I.ok.hd hc;refine call_sum_walkG (P8 c ?_);refine⟨s.heap.objs.size,_,_,_,_,_,λi=>ns.getD i 0,rfl,a0i (k:=k) (l:=p) (items:=its.toArray) n (a0u c),a4E c,λb f=>?_,?_,λh' tk t' w=>?_⟩
 .rw[Heap.size_push];obtain⟨o,e⟩:=c.get;have d:=Heap.lt_size e;simp only[List.mem_cons,List.not_mem_nil,or_false]at f;rcases f with rfl|rfl
  .exact Nat.lt_succ_self _
  .exact Nat.lt_succ_of_lt d
 .intro i v hv;have a:its[i]?=some v:=by simpa using hv
  obtain⟨hi,_⟩:=List.getElem?_eq_some_iff.mp a;have j:(ns.map V.int)[i]?=some (.int ns[i]):=by rw[List.getElem?_map,List.getElem?_eq_getElem (by omega)];rfl
  obtain⟨y,g,t,m⟩:=ri.get j;rw[a]at g;cases g;exact⟨t,by rw[m];show _=Value.int (ns.getD i 0) t;rw[List.getD_eq_getElem?_getD,List.getElem?_eq_getElem (by omega)];rfl⟩
 .have e:preSum (λi=>ns.getD i 0) its.toArray.size=ns.sum:=by
   rw[List.size_toArray,<-hl,a7F ns _ (Nat.le_refl _),List.take_length]
  rw[e];exact⟨.int ns.sum,H,I.kept (a0v w),⟨t',rfl⟩,q⟩
def b5q(K:PySem.W.Frag):RL:=λxs H Q=>∃x n t b,xs=[x,.ty n]/\TyOf K H x t/\PySem.W.kitOne K t (.type n)=some b/\Q (.bl b) H
theorem b2q:C7 X (.builtin "isinstance") (b5q X.K):=by
 intro pins s σ H xs us Q I d h;obtain⟨x,n,t,b,rfl,ty,e,q⟩:=h;obtain⟨u,v,rfl,c,a⟩:=d.two;cases a;exact a9j I c ty e λtk=>⟨.bl b,H,I.tok tk,rfl,q⟩
end
theorem b2x:bootBuiltins "len"=some (.builtin "len"):=boot_len
theorem b6F:bootBuiltins "zip"=some (.type "zip"):=by kernel_rfl
theorem b6K:bootBuiltins "all"=some (.builtin "all"):=by kernel_rfl
theorem b6J:bootBuiltins "any"=some (.builtin "any"):=by kernel_rfl
theorem b6G:bootBuiltins "sum"=some (.builtin "sum"):=by kernel_rfl
theorem b6I:bootBuiltins "max"=some (.builtin "max"):=by kernel_rfl
theorem b6L:bootBuiltins "abs"=some (.builtin "abs"):=by kernel_rfl
theorem Z8:bootBuiltins "isinstance"=some (.builtin "isinstance"):=by kernel_rfl
theorem a1a:bootBuiltins "sorted"=some (.builtin "sorted"):=by kernel_rfl
theorem a0F:bootBuiltins "tuple"=some (.type "tuple"):=by kernel_rfl
theorem a8o:bootBuiltins "list"=some (.type "list"):=by kernel_rfl
theorem b2y:bootBuiltins "int"=some (.type "int"):=by kernel_rfl
theorem b4s:bootBuiltins "bool"=some (.type "bool"):=by kernel_rfl
theorem b6H:bootBuiltins "set"=some (.type "set"):=by kernel_rfl
theorem a1S{src:List (Option Nat)}{g:TG}{f:TT}{te:TE}{σ:St}{Q:VK}{J:It}{H1:Hp}(n:Nat)(a:Nat->List V->Hp->Prop)(h0:a 0 [] H1)
  (hs:∀i ys H,i<n->a i ys H->J.go i H/\ys.length<sizeLine/\∀x H',J.yld i H x H'->g x (B4 src σ) H' λσ2 H2=>Sub (B4 src σ) σ2/\f σ2 H2 λb d=>if b=true then te σ2 d λv j=>a (i+1) (ys++[v]) j else a (i+1) ys d)
  (hd:∀ys H,a n ys H->J.stop n H/\ys.length<=sizeLine/\∀p,H p=none->Q (.ref p) (upd H p (.lst ys))):J3 src g f te σ Q J H1:=by
 refine⟨λi m ys H=>m=n-i/\i<=n/\a i ys H,⟨n,by omega,Nat.zero_le _,h0⟩,?_⟩;rintro i m ys H ⟨rfl,hi,p⟩;by_cases c:i<n
 .obtain⟨q1,q2,q3⟩:=hs i ys H c p;exact .inr ⟨q1,q2,a (i+1),λzs H' h=>⟨n-(i+1),by omega,rfl,c,h⟩,q3⟩
 .have e:i=n:=by omega
  subst e;exact .inl (hd ys H p)
theorem a6O{src:List (Option Nat)}{g:TG}{d:TT}{te:TE}{σ:St}{Q:VK}{lo:Int}{n:Nat}{H1:Hp}(h:n<=sizeLine)(a:Nat->List V->Hp->Prop)(h0:a 0 [] H1)
  (hl:∀i ys H,a i ys H->ys.length<=i)
  (hs:∀i ys H,i<n->a i ys H->g (.int (lo+i)) (B4 src σ) H λσ2 H2=>Sub (B4 src σ) σ2/\d σ2 H2 λb c=>if b=true then te σ2 c λv f=>a (i+1) (ys++[v]) f else a (i+1) ys c)
  (hd:∀ys H,a n ys H->∀p,H p=none->Q (.ref p) (upd H p (.lst ys))):J3 src g d te σ Q (Itr lo n) H1 :=
 a1S n a h0 (λi ys H hi p=>⟨hi,by have:=hl i ys H p;omega,λx H' y=>by obtain⟨e,y⟩:=y;subst e y;exact hs i ys _ hi p⟩)
  λys H p=>⟨Nat.le_refl _,Nat.le_trans (hl n ys H p) h,hd ys H p⟩
theorem Q9{K:PySem.W.Frag}{src:List (Option Nat)}{g:TG}{h:TT}{te:TE}{σ:St}{Q:VK}{a:Addr}{xs:List V}{H1:Hp}(k:xs.length<=sizeLine)(c:Nat->List V->Hp->Prop)(h0:c 0 [] H1)
  (d:∀i ys H,i<=xs.length->c i ys H->SqL K H a xs/\ys.length<=i)
  (hs:∀i x ys H,xs[i]?=some x->c i ys H->g x (B4 src σ) H λσ2 H2=>Sub (B4 src σ) σ2/\h σ2 H2 λb f=>if b=true then te σ2 f λv j=>c (i+1) (ys++[v]) j else c (i+1) ys f)
  (hd:∀ys H,c xs.length ys H->∀p,H p=none->Q (.ref p) (upd H p (.lst ys))):J3 src g h te σ Q (Itl K a) H1 :=
 a1S xs.length c h0 (λi ys H hi p=>by
   obtain⟨q1,q2⟩:=d i ys H (Nat.le_of_lt hi) p;refine⟨⟨xs,xs[i],q1,List.getElem?_eq_getElem hi⟩,by omega,λx H' y=>?_⟩;obtain⟨e,y⟩:=y;subst e;exact hs i x ys _ (y xs q1) p)
  λys H p=>by
   obtain⟨q1,q2⟩:=d _ ys H (Nat.le_refl _) p;exact⟨⟨xs,q1,Nat.le_refl _⟩,by omega,hd ys H p⟩
theorem a0C{K:PySem.W.Frag}{src:List (Option Nat)}{g:TG}{h:TT}{te:TE}{σ:St}{Q:VK}{a:Addr}{xs:List V}{H1:Hp}(k:xs.length<=sizeLine)(c:Nat->List V->Hp->Prop)(h0:c 0 [] H1)
  (d:∀i ys H,i<=xs.length->c i ys H->SqT K H a xs/\ys.length<=i)
  (hs:∀i x ys H,xs[i]?=some x->c i ys H->g x (B4 src σ) H λσ2 H2=>Sub (B4 src σ) σ2/\h σ2 H2 λb f=>if b=true then te σ2 f λv j=>c (i+1) (ys++[v]) j else c (i+1) ys f)
  (hd:∀ys H,c xs.length ys H->∀p,H p=none->Q (.ref p) (upd H p (.lst ys))):J3 src g h te σ Q (Itt K a) H1 :=
 a1S xs.length c h0 (λi ys H hi p=>by
   obtain⟨q1,q2⟩:=d i ys H (Nat.le_of_lt hi) p;refine⟨⟨xs,xs[i],q1,List.getElem?_eq_getElem hi⟩,by omega,λx H' y=>?_⟩;obtain⟨e,y⟩:=y;subst e;exact hs i x ys _ (y xs q1) p)
  λys H p=>by
   obtain⟨q1,q2⟩:=d _ ys H (Nat.le_refl _) p;exact⟨⟨xs,q1,Nat.le_refl _⟩,by omega,hd ys H p⟩
theorem W6{K:PySem.W.Frag}{src:List (Option Nat)}{g:TG}{k:TT}{te:TE}{σ:St}{Q:VK}{k1 k2:Bool}{a b:Addr}{xs zs:List V}{H1:Hp}(u:xs.length<=sizeLine)(c:Nat->List V->Hp->Prop)(h0:c 0 [] H1)
  (h:∀i ys H,i<=xs.length->i<=zs.length->c i ys H->SqK k1 K H a xs/\SqK k2 K H b zs/\ys.length<=i)
  (hs:∀i x z ys H p,xs[i]?=some x->zs[i]?=some z->c i ys H->H p=none->g (.ref p) (B4 src σ) (upd H p (.tup [x,z])) λσ2 H2=>Sub (B4 src σ) σ2/\k σ2 H2 λb j=>if b=true then te σ2 j λv s=>c (i+1) (ys++[v]) s else c (i+1) ys j)
  (hd:∀ys H,c (min xs.length zs.length) ys H->∀p,H p=none->Q (.ref p) (upd H p (.lst ys))):J3 src g k te σ Q (Itz K k1 k2 a b) H1 :=
 a1S (min xs.length zs.length) c h0 (λi ys H hi p=>by
   have d:i<xs.length:=by omega
   have f:i<zs.length:=by omega
   obtain⟨q1,q2,q3⟩:=h i ys H (by omega) (by omega) p;refine⟨⟨xs,zs,xs[i],zs[i],q1,q2,List.getElem?_eq_getElem d,List.getElem?_eq_getElem f⟩,by omega,λx H' y=>?_⟩;obtain⟨r,l,t,e,n,m,q,o⟩:=y;subst e m;exact hs i l t ys _ r (q xs q1) (o zs q2) p n)
  λys H p=>by
   obtain⟨q1,q2,q3⟩:=h _ ys H (by omega) (by omega) p;exact⟨⟨xs,zs,q1,q2,by omega⟩,by omega,hd ys H p⟩
theorem a8c{K:PySem.W.Frag}{k1 k2:Bool}{a b:Addr}{xs zs:List V}{g:TG}{tb:TS}{D:Ends}{σ:St}{H:Hp}(c:Nat->St->Hp->Prop)(h0:c 0 σ H)
  (hl:∀i σ H,i<=xs.length->i<=zs.length->c i σ H->SqK k1 K H a xs/\SqK k2 K H b zs)
  (hs:∀i x z σ H p,xs[i]?=some x->zs[i]?=some z->c i σ H->H p=none->g (.ref p) σ (upd H p (.tup [x,z])) λσ2 H2=>tb {D with nx:=c (i+1),ct:=c (i+1),bk:=D.nx} σ2 H2) (hd:∀σ H,c (min xs.length zs.length) σ H->D.nx σ H) :
  ∃W:Nat->Nat->St->Hp->Prop,(∃m,W 0 m σ H)/\∀i m σ H,W i m σ H ->
   ((Itz K k1 k2 a b).stop i H/\D.nx σ H)∨((Itz K k1 k2 a b).go i H/\∃N:St->Hp->Prop,(∀σ' H',N σ' H'->∃m',m'<m/\W (i+1) m' σ' H')/\∀x H',(Itz K k1 k2 a b).yld i H x H'->g x σ H' λσ2 H2=>tb {D with nx:=N,ct:=N,bk:=D.nx} σ2 H2):=by
 refine⟨λi m σ H=>m=min xs.length zs.length-i/\i<=min xs.length zs.length/\c i σ H,⟨_,rfl,Nat.zero_le _,h0⟩,?_⟩;rintro i m σ H ⟨rfl,hi,p⟩;obtain⟨q1,q2⟩:=hl i σ H (by omega) (by omega) p;by_cases d:i<min xs.length zs.length
 .have hi1:i<xs.length:=by omega
  have f:i<zs.length:=by omega
  refine .inr ⟨⟨xs,zs,xs[i],zs[i],q1,q2,List.getElem?_eq_getElem hi1,List.getElem?_eq_getElem f⟩,c (i+1),λσ' H' l=>⟨_,by omega,rfl,d,l⟩,λx H' y=>?_⟩;obtain⟨q,h,r,e,j,k,o,n⟩:=y;subst e k;exact hs i h r σ _ q (o xs q1) (n zs q2) p j
 .have e:i=min xs.length zs.length:=by omega
  subst e;exact .inl ⟨⟨xs,zs,q1,q2,by omega⟩,hd σ H p⟩
structure Ok(P:Program)(w:World)(K:PySem.W.Frag)(mg:Str->Option Value)(base:Heap)(x:Str)(k:Nat)(ps:List Str)(sp:Sp):Prop where
 ex:∃f fd,mg x=some (.ref f)/\PySem.W.keepIn K (.ref f)=true/\Binds K fd ps []/\FnOk P w K mg base CX0 k f fd ps sp
structure FunAt(K:PySem.W.Frag)(mg:Str->Option Value)(x:Str)(st:Stmt)(ps:List Str):Prop where
 ex:∃f fd,mg x=some (.ref f)/\Fun K x x st f fd/\Binds K fd ps []
section
variable {P:Program}{w:World}{K:PySem.W.Frag}{mg:Str->Option Value}{base:Heap}
theorem Ok.imp{x:Str}{k:Nat}{ps:List Str}{sp sp':Sp}(O:Ok P w K mg base x k ps sp)(h:∀vs H Q E,sp' vs H Q E->sp vs H Q E):Ok P w K mg base x k ps sp':=by
 obtain⟨f,fd,h1,h2,a,b⟩:=O.ex;exact⟨f,fd,h1,h2,a,b.imp h⟩
theorem FunAt.ok{x:Str}{st:Stmt}{N ps:List Str}{k:Nat}{sp:Sp}(F:FunAt K mg x st ps)(S:FnScope N ps (A1 st))(len:∀vs H Q E,sp vs H Q E->vs.length=ps.length)
  (a:∀(b:Value) (f:Addr) (A:Around) (outer:List Env) (s:Shared) (H:Hp) (vs:List V) (Q:VK) (E:XK),Room k (A.deeper (envOfC x (A1 st) s.heap.objs.size f b))->sp vs H Q E ->
   ∃t,PSs (J6 CX0 P w K mg base N x (A1 st) f b A outer s H E).nox (E2 st) t/\t {nx:=λ_ H'=>Q .non H',rt:=Q} (start N vs) H):Ok P w K mg base x (k+1) ps sp:=by
 obtain⟨f,fd,h1,h2,c⟩:=F.ex;exact⟨f,fd,h1,h2.kp,c,h2.ok S len λb=>a b f⟩
end
section
variable {X:Cx}{k:Nat}{ps:List Str}{sp:Sp}{x:Str}{p pos:Pos}{e:Expr}{es:List Expr}{t:TA}
theorem b1c(O:Ok X.prog X.w X.K X.mg X.base x k ps sp)(hr:Room k X.A)(c:Gl X x)(ha:PA X (e::es) t)(a:(x==("__debug__" : Str))=false:=by decide)
  (g:starEach (e::es) X.env=(false,eval e X.env)::starEach es X.env:=by rfl) (b:(backTo pos (starEach es X.env)).any (·.1)=false:=by rfl):PE X (.Call (.Name x p) (e::es) [] pos) (a7l sp [] E0 t):=by
 obtain⟨f,fd,h1,h2,d,h⟩:=O.ex;exact a7H h hr c h1 h2 d .nil a7I ha a g b
end
inductive EqV(K:PySem.W.Frag)(H:Hp):Nat->V->V->Bool->Prop
 |flat {n:Nat}{x y:V}(fx:a5P x=true) (fy:a5P y=true):EqV K H n x y (eqV x y)
 |tup {n:Nat}{a b:Addr}{xs ys:List V}(e:Nat->Bool) (ha:SqT K H a xs) (hb:SqT K H b ys) (he:∀j x y,xs[j]?=some x->ys[j]?=some y->EqV K H n x y (e j)) :
   EqV K H (n+1) (.ref a) (.ref b) ((List.range (min xs.length ys.length)).all e && xs.length==ys.length)
 |lst {n:Nat}{a b:Addr}{xs ys:List V}(e:Nat->Bool) (ha:SqL K H a xs) (hb:SqL K H b ys) (he:∀j x y,xs[j]?=some x->ys[j]?=some y->EqV K H n x y (e j)) :
   EqV K H (n+1) (.ref a) (.ref b) ((List.range (min xs.length ys.length)).all e && xs.length==ys.length)
theorem b2j:∀{x:V},a5P x=true->eqV x x=true
 |.non,_=>rfl
 |.bl b,_=>beq_self_eq_true b
 |.int i,_=>beq_self_eq_true i
 |.str y,_=>beq_self_eq_true y
 |.byt _,h=>by cases h
 |.flt _,h=>by cases h
 |.ref _,h=>by cases h
 |.ty _,h=>by cases h
section
variable {X:Cx}{pins:List (Addr×Obj)}{σ:St}{H:Hp}{s:Shared}
theorem EqV.same{n:Nat}{x y:V}{b:Bool}(I:Inv X pins σ H s)(h:EqV X.K H n x y b):x=y->b=true:=by
 induction h with
 |flat fx fy=>rintro rfl;exact b2j fx
 |tup e ha hb he ih =>
  intro z;cases z;have q:=I.tuple_inj ha hb;subst q;simp only[Nat.min_self,Bool.and_eq_true,beq_self_eq_true,and_true,List.all_eq_true,List.mem_range];intro j a;exact ih j _ _ (List.getElem?_eq_getElem a) (List.getElem?_eq_getElem a) rfl
 |lst e ha hb he ih =>
  intro z;cases z;have q:=I.list_inj ha hb;subst q;simp only[Nat.min_self,Bool.and_eq_true,beq_self_eq_true,and_true,List.all_eq_true,List.mem_range];intro j a;exact ih j _ _ (List.getElem?_eq_getElem a) (List.getElem?_eq_getElem a) rfl
theorem D6{xs:List V}{us:List Value}{j:Nat}{u:Value}(r:Vals xs us)(h:us[j]?=some u):∃x,xs[j]?=some x/\RelV x u:=by
 obtain⟨c,_⟩:=List.getElem?_eq_some_iff.mp h;have a:j<xs.length:=by rw[r.length];exact c
 have b:xs[j]?=some xs[j]:=List.getElem?_eq_getElem a;obtain⟨d,e,q⟩:=r.get b;rw[h]at e;cases e;exact⟨_,b,q⟩
theorem EqV.at{n:Nat}{x y:V}{b:Bool}(I:Inv X pins σ H s)(h:EqV X.K H n x y b):∀{A:Around}{u v:Value},A.units+n<cLine->RelV x u->RelV y v->SeqAt.EqAt A s u v b:=by
 induction h with
 |flat fx fy=>intro A u v _ g i;exact b6y g i fx fy
 |@tup n a b xs ys e ha hb he ih =>
  intro A u v p g i;cases g;cases i;by_cases c:a=b
  .have:=(EqV.tup e ha hb he).same I (by rw[c]);rw[this,c];exact SeqAt.EqAt.same _
  .obtain⟨us,r1,p1,_⟩:=I.tuple ha;obtain⟨d,r2,p2,_⟩:=I.tuple hb;rw[r1.length,r2.length];refine SeqAt.EqAt.of_refs c ?_;have:=SeqAt.RcAt.tuples (A:=A) (s:=s) (e:=e) (show s.heap.IsTuple a us.toArray from p1) (show s.heap.IsTuple b d.toArray from p2) (by omega) (λj h1 h2=>?_)
   .simpa using this
   .have h1':us[j]?=some us.toArray[j]:=by simp at h1⊢
    have f:d[j]?=some d.toArray[j]:=by simp at h2⊢
    obtain⟨x,ex,m⟩:=D6 r1 h1';obtain⟨y,k,l⟩:=D6 r2 f;exact ih j x y ex k (by show A.units+1+n<cLine;omega) m l
 |@lst n a b xs ys e ha hb he ih =>
  intro A u v p g i;cases g;cases i;by_cases c:a=b
  .have:=(EqV.lst e ha hb he).same I (by rw[c]);rw[this,c];exact SeqAt.EqAt.same _
  .obtain⟨us,r1,p1,_⟩:=I.list ha;obtain⟨d,r2,p2,_⟩:=I.list hb;rw[r1.length,r2.length];refine SeqAt.EqAt.of_refs c ?_;by_cases hl:us.length=d.length
   .have:=SeqAt.RcAt.lists (A:=A) (s:=s) (e:=e) p1.isList p2.isList (by simpa using hl) (by omega) (λj h1 h2=>?_)
    .simpa[hl]using this
    .have h1':us[j]?=some us.toArray[j]:=by simp at h1⊢
     have f:d[j]?=some d.toArray[j]:=by simp at h2⊢
     obtain⟨x,ex,m⟩:=D6 r1 h1';obtain⟨y,k,l⟩:=D6 r2 f;exact ih j x y ex k (by show A.units+1+n<cLine;omega) m l
   .have:=SeqAt.RcAt.lists_lengths (A:=A) (s:=s) p1.isList p2.isList (by simpa using hl) (by omega);have o:(us.length==d.length)=false:=by simpa using hl
    rw[o,Bool.and_false];exact this
end
def a8L(K:PySem.W.Frag)(neg:Bool):R2:=λx y H Q=>∃n b,n<=50/\EqV K H n x y b/\(∃a c,x=.ref a/\y=.ref c)/\Q (.bl (if neg then !b else b)) H
section
variable {X:Cx}
theorem b7O(o:X.A.units+60<cLine):OpR X (compareOp .Eq) (a8L X.K false):=by
 intro pins s σ H x y v u Q I i g h;obtain⟨n,b,p,k,⟨a,c,rfl,rfl⟩,q⟩:=h;cases i;cases g;show wpAny _ _ (richCompare .Eq (.ref a) (.ref c)) _ _ s;have key:SeqAt.RcAt X.A s (.ref a) (.ref c) b:=by
  cases k with
  |flat fx fy=>cases fx
  |@tup n _ _ xs ys e ha hb k =>
   obtain⟨us,r1,p1,_⟩:=I.tuple ha;obtain⟨d,r2,p2,_⟩:=I.tuple hb;rw[r1.length,r2.length];have:=SeqAt.RcAt.tuples (A:=X.A) (s:=s) (e:=e) (show s.heap.IsTuple a us.toArray from p1) (show s.heap.IsTuple c d.toArray from p2) (by omega) (λj h1 h2=>?_)
   .simpa using this
   .have h1':us[j]?=some us.toArray[j]:=by simp at h1⊢
    have f:d[j]?=some d.toArray[j]:=by simp at h2⊢
    obtain⟨x,ex,i⟩:=D6 r1 h1';obtain⟨y,l,g⟩:=D6 r2 f;exact(k j x y ex l).at I (by show X.A.units+1+n<cLine;omega) i g
  |@lst n _ _ xs ys e ha hb k =>
   obtain⟨us,r1,p1,_⟩:=I.list ha;obtain⟨d,r2,p2,_⟩:=I.list hb;rw[r1.length,r2.length];by_cases hl:us.length=d.length
   .have:=SeqAt.RcAt.lists (A:=X.A) (s:=s) (e:=e) p1.isList p2.isList (by simpa using hl) (by omega) (λj h1 h2=>?_)
    .simpa[hl]using this
    .have h1':us[j]?=some us.toArray[j]:=by simp at h1⊢
     have f:d[j]?=some d.toArray[j]:=by simp at h2⊢
     obtain⟨x,ex,i⟩:=D6 r1 h1';obtain⟨y,l,g⟩:=D6 r2 f;exact(k j x y ex l).at I (by show X.A.units+1+n<cLine;omega) i g
   .have:=SeqAt.RcAt.lists_lengths (A:=X.A) (s:=s) p1.isList p2.isList (by simpa using hl) (by omega);have m:(us.length==d.length)=false:=by simpa using hl
    rw[m,Bool.and_false];exact this
 exact key _ _ _ _ ⟨.bl _,H,I,rfl,q⟩
theorem b5X(o:X.A.units+60<cLine):OpR X (compareOp .NotEq) (a8L X.K true):=by
 intro pins s σ H x y v u Q I i g h;obtain⟨n,b,p,k,⟨a,c,rfl,rfl⟩,q⟩:=h;cases i;cases g;show wpAny _ _ (richCompare .NotEq (.ref a) (.ref c)) _ _ s;have key:SeqAt.RcNeAt X.A s (.ref a) (.ref c) (!b):=by
  cases k with
  |flat fx fy=>cases fx
  |@tup n _ _ xs ys e ha hb k =>
   obtain⟨us,r1,p1,_⟩:=I.tuple ha;obtain⟨d,r2,p2,_⟩:=I.tuple hb;rw[r1.length,r2.length];have:=SeqAt.RcNeAt.tuples (A:=X.A) (s:=s) (e:=e) (show s.heap.IsTuple a us.toArray from p1) (show s.heap.IsTuple c d.toArray from p2) (by omega) (λj h1 h2=>?_)
   .simpa using this
   .have h1':us[j]?=some us.toArray[j]:=by simp at h1⊢
    have f:d[j]?=some d.toArray[j]:=by simp at h2⊢
    obtain⟨x,ex,i⟩:=D6 r1 h1';obtain⟨y,l,g⟩:=D6 r2 f;exact(k j x y ex l).at I (by show X.A.units+1+n<cLine;omega) i g
  |@lst n _ _ xs ys e ha hb k =>
   obtain⟨us,r1,p1,_⟩:=I.list ha;obtain⟨d,r2,p2,_⟩:=I.list hb;rw[r1.length,r2.length];by_cases hl:us.length=d.length
   .have:=SeqAt.RcNeAt.lists (A:=X.A) (s:=s) (e:=e) p1.isList p2.isList (by simpa using hl) (by omega) (λj h1 h2=>?_)
    .simpa[hl]using this
    .have h1':us[j]?=some us.toArray[j]:=by simp at h1⊢
     have f:d[j]?=some d.toArray[j]:=by simp at h2⊢
     obtain⟨x,ex,i⟩:=D6 r1 h1';obtain⟨y,l,g⟩:=D6 r2 f;exact(k j x y ex l).at I (by show X.A.units+1+n<cLine;omega) i g
   .have:=SeqAt.RcNeAt.lists_lengths (A:=X.A) (s:=s) p1.isList p2.isList (by simpa using hl) (by omega);have m:(us.length==d.length)=false:=by simpa using hl
    rw[m,Bool.and_false];exact this
 exact key _ _ _ _ ⟨.bl _,H,I,rfl,q⟩
theorem b4w{ns ms:List Int}:((List.range (min ns.length ms.length)).all (λj=>decide (ns.getD j 0=ms.getD j 0)) && ns.length==ms.length)=decide (ns=ms):=by
 rw[Bool.eq_iff_iff];simp only[Bool.and_eq_true,List.all_eq_true,List.mem_range,decide_eq_true_eq,beq_iff_eq];constructor
 .rintro⟨h1,h2⟩;refine List.ext_getElem h2 λi a b=>?_;have:=h1 i (by omega);simpa[List.getD_eq_getElem?_getD,a,b]using this
 .rintro rfl;exact⟨λ_ _=>rfl,rfl⟩
theorem b1Y{ns:List Int}{j:Nat}{x:V}(h:(ns.map V.int)[j]?=some x):x=.int (ns.getD j 0)/\j<ns.length:=by
 rw[List.getElem?_map]at h;cases e:ns[j]? with
 |none=>rw[e]at h;cases h
 |some z =>
  rw[e]at h;obtain⟨a,_⟩:=List.getElem?_eq_some_iff.mp e;exact⟨by rw[List.getD_eq_getElem?_getD,e];exact(Option.some.inj h).symm,a⟩
theorem EqV.ints{K:PySem.W.Frag}{H:Hp}{k:Bool}{a b:Addr}{ns ms:List Int}(ha:SqK k K H a (ns.map V.int))(c:SqK k K H b (ms.map V.int)):EqV K H 1 (.ref a) (.ref b) (decide (ns=ms)):=by
 have step:∀j x y,(ns.map V.int)[j]?=some x->(ms.map V.int)[j]?=some y->EqV K H 0 x y (decide (ns.getD j 0=ms.getD j 0)):=λj x y e d=>by
  obtain⟨rfl,_⟩:=b1Y e;obtain⟨rfl,_⟩:=b1Y d;have:=EqV.flat (K:=K) (H:=H) (n:=0) (x:=.int (ns.getD j 0)) (y:=.int (ms.getD j 0)) rfl rfl;rw[show eqV (.int (ns.getD j 0)) (.int (ms.getD j 0))=decide (ns.getD j 0=ms.getD j 0)from rfl]at this;exact this
 rw[<-b4w];cases k
 .have:=EqV.lst (λj=>decide (ns.getD j 0=ms.getD j 0)) ha c step;simpa using this
 .have:=EqV.tup (λj=>decide (ns.getD j 0=ms.getD j 0)) ha c step;simpa using this
def a4r:R2:=λx y H Q=>∃a b xs ys,x=.ref a/\y=.ref b/\H a=some (.tup xs)/\H b=some (.tup ys)/\xs.length+ys.length<=sizeLine/\∀p H',Same H H'->H' p=some (.tup (xs++ys))->Q (.ref p) H'
theorem b1e:OpR X (binaryOp .Add) a4r:=by
 intro pins s σ H x y v u Q I t m h;obtain⟨a,b,xs,ys,rfl,rfl,ha,i,hz,q⟩:=h;by_cases z:xs=[]
 .subst z;cases t;cases m;obtain⟨its,r1,p1,_⟩:=I.tuple (.inl (.inl ha));obtain⟨A,r2,p2,_⟩:=I.tuple (.inl (.inl i));cases r1;obtain⟨⟨cls,dd,data,sl⟩,r,hc,n,hd⟩:=id p1;obtain⟨⟨w,k,l,j⟩,d,g,n2,f⟩:=id p2;simp only at hc hd g f;subst hc hd g f;exact concat_meets ⟨_,r,rfl⟩ ⟨_,d,rfl⟩ noFill_tuple_add seq_tuple_add PySem.F.slot_tuple_add PySem.F.entry_tuple_add (PySem.F.args_tuple_add_2 _ _)
   (tuple_addW0 a b _ _ n n2 dd k sl j (by simp)) ⟨r,d,⟨.ref b,H,I,rfl,q b H (Same.refl H) i⟩⟩
 .refine b3J pins s σ H _ _ v u Q I t m ⟨a,b,xs,ys,rfl,rfl,.inl (.inl ha),.inl (.inl i),z,hz,λe=>?_,λ_ p hp=>?_⟩
  .subst e;exact q a H (Same.refl H) (by rw[List.append_nil];exact ha)
  .exact q p _ (λc o e=>by rw[A2 (A5 e hp)];exact e) A0
end
open PySem.AutoSeq1 (wpAny_loadPart')
theorem P9:fillsNumberSlot (.type "tuple") "mul"=pure false :=
 PySem.fillsNumberSlot_seq (id:="tuple.__mul__") (r:=some (.builtin "tuple.__rmul__")) F.slot_tuple_mul.lookup (by decide +kernel) F.slot_tuple_rmul.lookup (by decide +kernel)
theorem a0p:seqRepeat? (.type "tuple")=pure (some (.builtin "tuple.__mul__")):=by
 unfold seqRepeat?;rw[PySem.seqSlot_of (T:="tuple") (name:="__mul__") (id:="tuple.__mul__") F.slot_tuple_mul.lookup (by decide +kernel),PySem.seqSlot_of (T:="tuple") (name:="__rmul__") (id:="tuple.__rmul__") F.slot_tuple_rmul.lookup (by decide +kernel)];rfl
theorem a2k(a:Int)(t:Tok)(l:Addr)(items:Array Value)(n:Nat)(dd:Option Addr)(sl:Array (Option Value)) :
  Meets (Builtin.«int.__rmul__» ⟨[.int a t,.ref l],[]⟩) (λ_ R s=>s.heap.get? l=some {cls:=.type "tuple",dict:=dd,data:=.seq items n,slots:=sl}/\R (.ok (.ret Value.notImplemented)) s) :=
 .of_wp λprog w A R s h=>by obtain⟨hp,g,d,tk,os⟩:=s;obtain⟨hl,h⟩:=h;wp_walk;exact⟨_,rfl,h⟩
theorem a6j(l:Addr)(items:Array Value)(n:Nat)(dd:Option Addr)(sl:Array (Option Value))(u:Tok) :
  Meets (Builtin.«tuple.__mul__» ⟨[.ref l,.int 1 u],[]⟩) (λ_ R s=>s.heap.get? l=some {cls:=.type "tuple",dict:=dd,data:=.seq items n,slots:=sl}/\R (.ok (.ret (.ref l))) s) :=
 .of_wp λprog w A R s h=>by
  obtain⟨hp,g,d,tk,os⟩:=s;obtain⟨hl,h⟩:=h;have f1:=AutoSeq1.idx_int
  wp_walk using wpAny_loadPart' hl
  exact⟨_,rfl,h⟩
theorem a6i(l:Addr)(items:Array Value)(n:Nat)(dd:Option Addr)(sl:Array (Option Value))(x:Int)(u:Tok)(b:items.isEmpty=false)(h1:1<x)(h2:¬(decide (x < -(2 ^ 63)) || decide (x ≥ 2 ^ 63))=true)
  (f:¬((items.size:Int)*x > (2 ^ 63-1) / 8)) (j:¬Builtin.Tuple.tupleTooMany ((items.size:Int)*x)=true) (hsz:(List.foldl (λc a=>c++a) #[] (List.replicate x.toNat items)).size<=sizeLine) :
  Meets (Builtin.«tuple.__mul__» ⟨[.ref l,.int x u],[]⟩) (λ_ R s=>s.heap.get? l=some {cls:=.type "tuple",dict:=dd,data:=.seq items n,slots:=sl} /\
   R (.ok (.ret (.ref s.heap.objs.size))) {s with heap:=s.heap.push {cls:=.type "tuple",data:=.seq (List.foldl (λc a=>c++a) #[] (List.replicate x.toNat items))}}) :=
 .of_wp λprog w A R s h=>by
  obtain⟨hp,g,d,tk,os⟩:=s;obtain⟨hl,h⟩:=h;have f1:=AutoSeq1.idx_int;have i:(x==1)=false:=by simp;omega
  have e:decide (x<=0)=false:=by simp;omega
  have k:¬((items.isEmpty || x==1)=true):=by rw[b,i];decide
  have m:¬((decide (x<=0) || items.isEmpty)=true):=by rw[b,e];decide
  wp_walk using wpAny_loadPart' hl
  rw[if_neg h2]
  wp_walk using wpAny_loadPart' hl
  rw[if_neg f]
  wp_walk using wpAny_loadPart' hl
  first
   |exact⟨_,rfl,h⟩
   |(rw[if_neg j];wp_walk using wpAny_loadPart' hl;exact⟨_,rfl,h⟩)
theorem a2N{α:Type}(its:List α):∀(k:Nat) (acc:List α),List.foldl (λb a=>b++a) acc.toArray (List.replicate k its.toArray)=(acc++(List.replicate k its).flatten).toArray
 |0,acc=>by simp
 |k+1,acc=>by
  have e:acc.toArray++its.toArray=(acc++its).toArray:=by simp
  rw[List.replicate_succ,List.foldl_cons,e,a2N its k,List.replicate_succ,List.flatten_cons,List.append_assoc]
section
variable {X:Cx}
def b4O:R2:=λx y H Q=>∃a xs n,x=.ref a/\y=.int n/\H a=some (.tup xs)/\xs≠[]/\1<=n/\(xs.length:Int)*n<=(sizeLine:Int)/\∀p H',Same H H'->H' p=some (.tup (List.replicate n.toNat xs).flatten)->Q (.ref p) H'
theorem a7J:OpR X (binaryOp .Mult) b4O:=by
 intro pins s σ H x y v u Q I B l h;obtain⟨a,xs,n,rfl,rfl,ha,j,E,hz,q⟩:=h;cases B;obtain⟨t,rfl⟩:=l;obtain⟨its,r,p1,p⟩:=I.tuple (.inl (.inl ha));obtain⟨⟨cls,dd,data,sl⟩,g,hc,m,hd⟩:=id p1;simp only at hc hd;subst hc hd;have d:=r.length;have f:0<its.length:=by rw[<-d];exact List.length_pos_iff.mpr j
 refine wpAny_binaryOp_repeat_ref (T:="tuple") (U:="int") (by decide) ⟨_,g,rfl⟩ (λs'=>typeIs_int s' n t) P9 F.fills_int_mul F.slot_int_rmul a0p F.slot_int_index.lookup
  (call_meets F.slot_int_rmul (typeIs_int s n t) F.entry_int_rmul (F.args_int_rmul_2 _ _) (a2k n t a its.toArray m dd sl) ⟨g,rfl,⟨_,g,rfl⟩,?_⟩)
 by_cases h1:n=1
 .subst h1;refine call_meets F.slot_tuple_mul ⟨_,g,rfl⟩ F.entry_tuple_mul (F.args_tuple_mul_2 _ _) (a6j a its.toArray m dd sl t) ⟨g,.ref a,H,I,rfl,q a H (Same.refl H) ?_⟩;rw[ha];simp
 .have e0:=a2N its n.toNat [];rw[List.nil_append]at e0;have hl:((List.replicate n.toNat its).flatten).length=n.toNat*its.length:=a7N its n.toNat;have k:n.toNat*its.length<=sizeLine:=by
   have D:((n.toNat*its.length:Nat):Int)=(xs.length:Int)*n:=by
    rw[d];push_cast;rw[Int.toNat_of_nonneg (by omega),Int.mul_comm]
   omega
  have hs:sizeLine=16777216:=sizeLine_eq;have hsz:(its.toArray.size:Int)*n<=16777216:=by rw[List.size_toArray,<-d];omega
  have A:n<=(its.toArray.size:Int)*n:=by
   have h0:(1:Int)<=(its.toArray.size:Int):=by rw[List.size_toArray];omega
   have:=Int.mul_le_mul_of_nonneg_right h0 (show(0:Int)<=n by omega);omega
  refine call_meets F.slot_tuple_mul ⟨_,g,rfl⟩ F.entry_tuple_mul (F.args_tuple_mul_2 _ _) (a6i a its.toArray m dd sl n t (by simp;intro z;rw[z]at f;exact Nat.lt_irrefl _ f) (by omega) ?_ ?_ ?_ ?_) ⟨g,?_⟩
  .simp only[Bool.or_eq_true,decide_eq_true_eq,not_or];omega
  .omega
  .simp only[Builtin.Tuple.tupleTooMany,decide_eq_true_eq];omega
  .have e0':List.foldl (λw i=>w++i) #[] (List.replicate n.toNat its.toArray)=(List.replicate n.toNat its).flatten.toArray:=e0;rw[e0',List.size_toArray,hl];exact k
  .have e0':List.foldl (λw i=>w++i) #[] (List.replicate n.toNat its.toArray)=(List.replicate n.toNat its).flatten.toArray:=e0;rw[e0'];have hf:H s.heap.objs.size=none:=I.hok.fresh (Nat.le_refl _);refine⟨.ref s.heap.objs.size,_,I.laid (t':=s.toks) (o:=.tup (List.replicate n.toNat xs).flatten) (λb C q=>Heap.get?_push_of_some _ q) (Nat.le_refl _) ?_,rfl,q _ _ (λc o e=>by rw[A2 (A5 e hf)];exact e) A0⟩;exact⟨by rw[a7N,d];exact k,_,r.rep n.toNat,IsTup.new _ _⟩
end
end L2
namespace L2
open PySem PySem.Spec PyProof.Rows
section
variable {X:Cx}{pos:Pos}
theorem b3x(K:PySem.W.Frag){es:List Expr}{k:Nat}{t:TGs}{n:Nat}(hc:X.calm=true)(h:PGs X es t)(b:X.K=K:=by rfl)
  (c:(assignEach es X.env).length=n:=by rfl) (a:(assignEach es X.env).findIdx? (·.1)=none:=by rfl):PG X (.Tuple es k pos) (a6M K n t):=by
 subst b;exact b5E hc h c a
theorem b0W(K:PySem.W.Frag){tg l:Expr}{tl:TE}(hl:PE X l tl)(a:X.K=K:=by rfl):PI X tg l (b2a K tl):=by subst a;exact b3v hl
theorem b3u(K:PySem.W.Frag){tg l:Expr}{tl:TE}(hl:PE X l tl)(a:X.K=K:=by rfl):PI X tg l (b6v K tl):=by subst a;exact b5D hl
theorem b3t(K:PySem.W.Frag){es:List Expr}{d:Nat}{h:Pos}{a b:Expr}{ta:TA}{p pos:Pos}(e:Gl X "zip")(f:X.mg "zip"=none)(ha:PA X [a,b] ta)(g:X.K=K:=by rfl)
  (hs:starEach [a,b] X.env=[(false,eval a X.env),(false,eval b X.env)]:=by rfl) (c:starEach [b] X.env=[(false,eval b X.env)]:=by rfl) :
  PI X (.Tuple es d h) (.Call (.Name "zip" p) [a,b] [] pos) (b6u K ta):=by subst g;exact b5C e f ha b6F hs c
def b6Y(K:PySem.W.Frag)(ta:TE):TT:=λσ H Q=>ta σ H λx H'=>∃k,b6O K x H' k/\Q k H'
theorem a8N(K:PySem.W.Frag){a:Expr}{ta:TE}(ha:PE X a ta)(c:∀b,isTrue a X.env b=(do let v <-b;standAt a.pos;holding [v] (truthy v)))(d:X.K=K:=by rfl):PT X a (b6Y K ta):=by
 subst d;exact b0J ha c
theorem b1W(K:PySem.W.Frag)(a:X.K=K:=by rfl):IxR X (b3h K):=by subst a;exact b4i
theorem b4h(K:PySem.W.Frag)(a:X.K=K:=by rfl):IxR X (b5p K):=by subst a;exact b6q
theorem b0k(K:PySem.W.Frag)(a:X.K=K:=by rfl):SlR X (b5o K):=by subst a;exact b2T
theorem b2S(K:PySem.W.Frag)(a:X.K=K:=by rfl):SlR X (b0G K):=by subst a;exact b5l
theorem b5W(K:PySem.W.Frag)(a:X.A.units+60<cLine)(b:X.K=K:=by rfl):OpR X (compareOp .NotEq) (a8L K true):=by subst b;exact b5X a
theorem a9F(K:PySem.W.Frag)(hc:X.calm=true)(a:X.K=K:=by rfl):C7 X (.builtin "all") (b5t K):=by subst a;exact b2t hc
theorem a9E(K:PySem.W.Frag)(hc:X.calm=true)(a:X.K=K:=by rfl):C7 X (.builtin "any") (b5s K):=by subst a;exact b2s hc
theorem a9w(K:PySem.W.Frag)(hc:X.calm=true)(a:X.K=K:=by rfl):C7 X (.builtin "sum") (b5n K):=by subst a;exact b2p hc
theorem a9B(K:PySem.W.Frag)(a:X.K=K:=by rfl):C7 X (.builtin "isinstance") (b5q K):=by subst a;exact b2q
def b7j(K:PySem.W.Frag):RL:=λxs H Q=>∃p ys,xs=[.ref p]/\(SqL K H p ys∨SqT K H p ys)/\Q (.int ys.length) H
def b4R(K:PySem.W.Frag):RL:=λxs H Q=>∃p ys,xs=[.ref p]/\(SqL K H p ys∨SqT K H p ys)/\∀l,H l=none->Q (.ref l) (upd H l (.lst ys))
def b0D(K:PySem.W.Frag):RL:=λxs H Q=>∃p ys,xs=[.ref p]/\((SqL K H p ys/\∀l,H l=none->Q (.ref l) (upd H l (.tup ys)))∨(SqT K H p ys/\Q (.ref p) H))
theorem a9A(K:PySem.W.Frag)(a:X.K=K:=by rfl):C7 X (.builtin "len") (b7j K):=by subst a;exact a4N
theorem a6T(K:PySem.W.Frag)(a:X.K=K:=by rfl):C7 X (.type "list") (b4R K):=by subst a;exact a4M
theorem a5Y(K:PySem.W.Frag)(a:X.K=K:=by rfl):C7 X (.type "tuple") (b0D K):=by subst a;exact a3e
def b8c:RL:=λxs H Q=>∃i j,xs=[.int i,.int j]/\Q (.int (if j<i then j else i)) H
def b8d:RL:=λxs H Q=>∃i j,xs=[.int i,.int j]/\Q (.int (if j > i then j else i)) H
def b7l:RL:=λxs H Q=>(∃i,xs=[.int i]/\Q (.int i) H)∨∃k,xs=[.bl k]/\Q (.int (if k then 1 else 0)) H
theorem a9C:C7 X (.type "int") b7l:=a9D
variable {o e:Expr}{es:List Expr}{to:TE}{t:TA}{name:Str}{apos cpos:Pos}{T id:String}{r:V->List V->Hp->VK->Prop}
theorem a6x(K:PySem.W.Frag)(h:PlainAttrs T)(slot:Slot T name id)(f:typeOf (.builtin id)=pure (.type "method_descriptor"))(i:MtR X id r)(g:PE X o to)(ha:PA X (e::es) t)(j:X.K=K:=by rfl)
  (b:attributeBase o name X.env (eval o X.env)=eval o X.env:=by rfl)
  (d:((backTo cpos (starEach (e::es) X.env)).all (λx=>!x.1) && (backToKw cpos (keywordEach [] X.env)).all (λx=>x.1.isSome)
   && decide ((e::es).length+([]:List Keyword).length+(if ([]:List Keyword).isEmpty then 0 else 1)<30))=true:=by rfl)
  (c:(apos.endLine==cpos.line)=true:=by rfl) (hs:starEach (e::es) X.env=(false,eval e X.env)::starEach es X.env:=by rfl) (a:(backTo cpos (starEach es X.env)).any (·.1)=false:=by rfl) :
  PE X (.Call (.Attribute o name apos) (e::es) [] cpos) (tBM K T r to t):=by subst j;exact b7r h slot f i g ha b d c hs a
end
def IT(H:Hp)(v:V)(ns:List Int):Prop:=∃a,v=.ref a/\H a=some (.tup (ns.map V.int))
theorem IT.same{H H':Hp}{v:V}{ns:List Int}(h:IT H v ns)(s:Same H H')   : IT H' v ns:=let ⟨a,e,q⟩:=h;⟨a,e,s a _ q⟩
theorem Same.upd{H H':Hp}{p:Addr}{o:HO}(s:Same H H')(hp:H' p=none):Same H (upd H' p o):=λb u e=>by
 rw[A2 (A5 (s b u e) hp)];exact s b u e
theorem C0{H:Hp}{p b:Addr}{o u:HO}(a:H b=some u)(hp:H p=none):upd H p o b=some u:=by rw[A2 (A5 a hp)];exact a
def Off(l:List Addr)(H H':Hp):Prop:=∀b o,b∉l->H b=some o->H' b=some o
theorem Off.refl(l:List Addr)(H:Hp):Off l H H:=λ_ _ _ e=>e
theorem Off.trans{l:List Addr}{H H1 H2:Hp}(a:Off l H H1)(b:Off l H1 H2):Off l H H2:=λc o hc e=>b c o hc (a c o hc e)
theorem Same.off{l:List Addr}{H H':Hp}(s:Same H H'):Off l H H':=λb o _ e=>s b o e
theorem Off.upd{l:List Addr}{H H':Hp}{p:Addr}{o:HO}(s:Off l H H')(hp:H' p=none):Off l H (upd H' p o):=λb u a e=>by
 rw[A2 (A5 (s b u a e) hp)];exact s b u a e
theorem Off.set{l:List Addr}{H H':Hp}{p:Addr}{o:HO}(s:Off l H H')(hp:p∈l):Off l H (L2.upd H' p o):=λb u a e=>by
 rw[A2 (by rintro rfl;exact a hp)];exact s b u a e
theorem K0(ns:List Int):(ns.map V.int).length=ns.length:=List.length_map _
theorem M1{ns:List Int}{i:Nat}{x:V}(h:(ns.map V.int)[i]?=some x):∃z,ns[i]?=some z/\x=.int z:=by
 rw[List.getElem?_map]at h;cases e:ns[i]? with
 |none=>rw[e]at h;cases h
 |some z=>rw[e]at h;exact⟨z,rfl,(Option.some.inj h).symm⟩
theorem K8{α β γ:Type}(f:α->β->γ){xs:List α}{ys:List β}{i:Nat}{x:α}{y:β}(b:xs[i]?=some x)(a:ys[i]?=some y):(List.zipWith f xs ys).take (i+1)=(List.zipWith f xs ys).take i++[f x y]:=by
 have:(List.zipWith f xs ys)[i]?=some (f x y):=by rw[List.getElem?_zipWith,b,a]
 rw[List.take_add_one,this];rfl
theorem a4S{K:PySem.W.Frag}{src:List (Option Nat)}{σ caps:St}{Q:VK}{k1 k2:Bool}{a b:Addr}{xs ys:List Int}{H:Hp}{te:TE}(f:Int->Int->V)(ha:SqK k1 K H a (xs.map V.int))(t:SqK k2 K H b (ys.map V.int))(hl:xs.length<=1000)
  (c:∀H',Same H H'->SqK k1 K H' a (xs.map V.int)/\SqK k2 K H' b (ys.map V.int))
  (k:B4 src σ=none::none::caps) (l:∀x y H1 o,Same H H1->o (f x y) H1->te (some (.int x)::some (.int y)::caps) H1 o)
  (hd:∀H1 p,Same H H1->H1 p=none->Q (.ref p) (upd H1 p (.lst (List.zipWith f xs ys)))) :
  J3 src (a6M K 2 (Z6 (A8 0) (Z6 (A8 1) a9n))) U5 te σ Q (Itz K k1 k2 a b) H:=by
 have hz:(1000:Nat)<=sizeLine:=by rw[sizeLine_eq];decide
 refine W6 (xs:=xs.map V.int) (zs:=ys.map V.int) (by rw[K0];omega) (λi zs H'=>Same H H'/\zs=(List.zipWith f xs ys).take i) ⟨Same.refl H,by simp⟩ (λi zs H' _ _ h=>⟨(c H' h.1).1,(c H' h.1).2,by rw[h.2];exact List.length_take_le _ _⟩) ?_ ?_
 .rintro i x z zs H' p hx hy ⟨s,rfl⟩ hp;obtain⟨g,n,r⟩:=M1 hx;obtain⟨d,m,q⟩:=M1 hy;subst r q;clear hx hy;have s':Same H (upd H' p (.tup [.int g,.int d])):=s.upd hp;refine⟨p,[.int g,.int d],rfl,SqT.of A0,rfl,.int g,[.int d],rfl,.int d,[],rfl,rfl,?_⟩;rw[k];show Sub _ (some (.int g)::some (.int d)::caps)/\_;refine⟨⟨rfl,λj v e=>?_⟩,?_⟩
  .match j,e with
   |0,e=>cases e
   |1,e=>cases e
   |j+2,e=>exact e
  .exact l g d _ _ s' ⟨s',(K8 f n m).symm⟩
 .rintro zs H' ⟨s,rfl⟩ p hp;have e:(List.zipWith f xs ys).take (min (xs.map V.int).length (ys.map V.int).length)=List.zipWith f xs ys:=by
   rw[K0,K0,List.take_of_length_le];rw[List.length_zipWith];exact Nat.le_refl _
  rw[e];exact hd H' p s hp
theorem Sub.one{caps:St}{v:V}:Sub (none::caps) (some v::caps):=⟨rfl,λj u e=>by
 match j,e with
 |0,e=>cases e
 |j+1,e=>exact e⟩
theorem a0q{src:List (Option Nat)}{σ caps:St}{Q:VK}{n:Nat}{H:Hp}{e:TT}{te:TE}(g:n<=1000)(c:B4 src σ=none::caps)(a:Nat->List V->Hp->Prop)(h0:a 0 [] H)(hl:∀i ys H,a i ys H->ys.length<=i)
  (hs:∀i ys H,i<n->a i ys H->e (some (.int i)::caps) H λb d=>if b=true then te (some (.int i)::caps) d λv f=>a (i+1) (ys++[v]) f else a (i+1) ys d)
  (hd:∀ys H,a n ys H->∀p,H p=none->Q (.ref p) (upd H p (.lst ys))):J3 src (A8 0) e te σ Q (Itr 0 n) H:=by
 have hz:(1000:Nat)<=sizeLine:=by rw[sizeLine_eq];decide
 refine a6O (by omega) a h0 hl (λi ys H hi p=>?_) hd;show Sub _ ((B4 src σ).set 0 (some (.int (0+(i:Int)))))/\_;rw[c,Int.zero_add];exact⟨Sub.one,hs i ys H hi p⟩
theorem a5d{K:PySem.W.Frag}{src:List (Option Nat)}{σ caps:St}{Q:VK}{a:Addr}{xs:List Int}{H:Hp}{te:TE}(f:Int->V)(hl:xs.length<=1000)(b:∀H',Same H H'->SqT K H' a (xs.map V.int))(c:B4 src σ=none::caps)
  (e:∀x H1 g,x∈xs->Same H H1->g (f x) H1->te (some (.int x)::caps) H1 g) (hd:∀H1 p,Same H H1->H1 p=none->Q (.ref p) (upd H1 p (.lst (xs.map f)))):J3 src (A8 0) U5 te σ Q (Itt K a) H:=by
 have hz:(1000:Nat)<=sizeLine:=by rw[sizeLine_eq];decide
 refine a0C (xs:=xs.map V.int) (by rw[K0];omega) (λi ys H'=>Same H H'/\ys=(xs.take i).map f) ⟨Same.refl H,by simp⟩ (λi ys H' _ h=>⟨b H' h.1,by rw[h.2,List.length_map];exact List.length_take_le _ _⟩) ?_ ?_
 .rintro i x ys H' hx ⟨s,rfl⟩;obtain⟨z,d,rfl⟩:=M1 hx;show Sub _ ((B4 src σ).set 0 (some (.int z)))/\_;rw[c];refine⟨Sub.one,e z H' _ (List.mem_of_getElem? d) s ⟨s,?_⟩⟩;rw[List.take_add_one,d];simp
 .rintro ys H' ⟨s,rfl⟩ p hp;rw[K0,List.take_length];exact hd H' p s hp
theorem S1{src:List (Option Nat)}{σ caps:St}{Q:VK}{n:Nat}{H:Hp}{te:TE}(f:Nat->V)(c:n<=1000)(a:B4 src σ=none::caps)(b:∀(i:Nat) H1 Q1,i<n->Same H H1->Q1 (f i) H1->te (some (.int i)::caps) H1 Q1)
  (hd:∀H1 p,Same H H1->H1 p=none->Q (.ref p) (upd H1 p (.lst ((List.range n).map f)))):J3 src (A8 0) U5 te σ Q (Itr 0 n) H:=by
 refine a0q c a (λi ys H'=>Same H H'/\ys=(List.range i).map f) ⟨Same.refl H,rfl⟩ (λi ys H' h=>by rw[h.2];simp) ?_ ?_
 .rintro i ys H' hi ⟨s,rfl⟩;refine b i H' _ hi s ⟨s,?_⟩;rw[List.range_succ,List.map_append];rfl
 .rintro ys H' ⟨s,rfl⟩ p hp;exact hd H' p s hp
theorem Room.u60{k:Nat}{A:Around}(r:Room k A):A.units+60<cLine:=by have:=r.un;omega
theorem a0l{t u:TS}{D:Ends}{σ:St}{H:Hp}(a:St->Hp->Prop)(fin:∀σ H,a σ H->u D σ H)(h:(∀σ H,a σ H->u D σ H)->t {D with nx:=u D} σ H):b5i t u D σ H:=h fin
theorem b6W{K:PySem.W.Frag}{a:Bool}{te:TE}{σ:St}{H:Hp}{Q:VK}{b:Addr}{cs:List Int}(c:∀d:VK,d (.ref b) H->te σ H d)(e:H b=some (.lst (cs.map V.int)))
  (q:∀p,H p=none->Q (.bl (if a then !decide (cs=[])else decide (cs=[]))) (upd H p (.lst []))):tOp (a8L K a) te (b2M a1q) σ H Q :=
 c _ ⟨Nat.zero_le _,λp hp=>⟨1,_,by decide,EqV.ints (k:=false) (ms:=[]) (SqL.of (C0 e hp)) (SqL.of A0),⟨_,_,rfl,rfl⟩,q p hp⟩⟩
theorem b6X{K:PySem.W.Frag}{a:Bool}{te:TE}{σ:St}{H:Hp}{Q:Bool->Hp->Prop}{b:Addr}{cs:List Int}(c:∀d:VK,d (.ref b) H->te σ H d)(e:H b=some (.lst (cs.map V.int)))
  (q:∀p,H p=none->Q (if a then !decide (cs=[])else decide (cs=[])) (upd H p (.lst []))):U6 (tOp (a8L K a) te (b2M a1q)) σ H Q :=
 b6W c e λp hp=>⟨_,rfl,q p hp⟩
theorem ixL{K:PySem.W.Frag}{ta tb:TE}{σ:St}{H:Hp}{Q:VK}{p:Addr}{xs:List V}{i:Int}{v:V}(ha:∀a:VK,a (.ref p) H->ta σ H a)(b:∀a:VK,a (.int i) H->tb σ H a)(hp:H p=some (.lst xs))(e:atI xs i=some v)(q:Q v H):tOp (b3h K) ta tb σ H Q :=
 ha _ (b _ ⟨p,xs,i,v,rfl,rfl,SqL.of hp,e,q⟩)
theorem b6C(xs:List Int)(k:Nat)(a:k<=xs.length):Q8 (xs.map V.int) none (some (k:Int))=(xs.take k).map V.int:=by
 unfold Q8;rw[HT.sIx_none,HT.sIx_nat,List.length_map,Nat.min_eq_left a,List.drop_zero,Nat.sub_zero,List.map_take]
theorem b6D(xs:List Int)(k:Nat)(a:k<=xs.length):Q8 (xs.map V.int) (some (k:Int)) none=(xs.drop k).map V.int:=by
 unfold Q8;rw[HT.sIx_none,HT.sIx_nat,List.length_map,Nat.min_eq_left a,List.take_of_length_le (by simp),List.map_drop]
theorem a8D(xs:List Int)(k:Nat)(z:Int)(a:k<xs.length):xs.take k++[z]++xs.drop (k+1)=xs.set k z:=by
 rw[List.set_eq_take_append_cons_drop,if_pos a,List.append_assoc];rfl
theorem b5u{K:PySem.W.Frag}{σ:St}{H:Hp}{Q:VK}{i j:Nat}{tx:TE}{a:Addr}{xs:List Int}{k:Nat}{z:Int}(hi:σ[i]?=some (some (.ref a)))(l:σ[j]?=some (some (.int k)))(ha:H a=some (.tup (xs.map V.int)))(r:k<xs.length)(hl:xs.length<=1000)
  (c:∀H' (N:VK),Same H H'->N (.int z) H'->tx σ H' N) (q:∀v H',Same H H'->IT H' v (xs.set k z)->Q v H') :
  tOp a4r (tOp a4r (tSl (b0G K) (Y9 i) a1E (a7j (Y9 j))) (b5h (a5e tx a1q))) (tSl (b0G K) (Y9 i) (a7j (tOp (rI0 λi j=>.int (i+j)) (Y9 j) (tC (.int 1)))) a1E) σ H Q:=by
 have hz:(3000:Nat)<=sizeLine:=by rw[sizeLine_eq];decide
 refine⟨_,hi,_,l,k,rfl,a,_,rfl,SqT.of ha,?_,λp hp=>?_⟩
 .rw[HT.sIx_none,HT.sIx_nat,List.length_map];omega
 .rw[b6C xs k (by omega)];have s1:Same H (upd H p (.tup ((xs.take k).map V.int))):=(Same.refl H).upd hp;have h:upd H p (.tup ((xs.take k).map V.int)) p=some (.tup ((xs.take k).map V.int)):=A0;generalize upd H p (.tup ((xs.take k).map V.int))=H1 at s1 h;refine c H1 _ s1 ⟨by show 1<=sizeLine;omega,λp2 d=>?_⟩;have s2:Same H1 (upd H1 p2 (.tup [.int z])):=(Same.refl H1).upd d;have f:upd H1 p2 (.tup [.int z]) p2=some (.tup [.int z]):=A0;generalize upd H1 p2 (.tup [.int z])=H2 at s2 f;refine⟨p,p2,_,_,rfl,rfl,s2 _ _ h,f,?_,λx b t n=>?_⟩
  .rw[List.length_map,List.length_take];show min k xs.length+1<=_;omega
  .have s13:Same H b:=(s1.trans s2).trans t;refine⟨_,hi,_,l,_,_,rfl,rfl,_,rfl,a,_,rfl,SqT.of (s13 _ _ ha),?_,λm e=>?_⟩
   .rw[show((k:Int)+1)=((k+1:Nat):Int) by push_cast;rfl,HT.sIx_nat,List.length_map];omega
   .rw[show((k:Int)+1)=((k+1:Nat):Int) by push_cast;rfl,b6D xs (k+1) (by omega)];have g:Same b (upd b m (.tup ((xs.drop (k+1)).map V.int))):=(Same.refl b).upd e;refine⟨x,m,_,_,rfl,rfl,g _ _ n,A0,?_,λw u s o=>?_⟩
    .rw[List.length_append,List.length_map,List.length_take,List.length_map,List.length_drop];show min k xs.length+1+_<=_;omega
    .refine q _ _ ((s13.trans g).trans s) ⟨w,rfl,?_⟩;rw[o,<-a8D xs k z r];simp
theorem var{i:Nat}{σ:St}{H:Hp}{v:V}(e:σ[i]?=some (some v)):∀Q:VK,Q v H->Y9 i σ H Q:=λQ q=>⟨v,e,q⟩
theorem con{v:V}{σ:St}{H:Hp}:∀Q:VK,Q v H->tC v σ H Q:=λQ q=>q
structure JE(X:Cx)(e:Expr)(t:TE):Prop where
 h:PE X e t
structure JT(X:Cx)(e:Expr)(t:TT):Prop where
 h:PT X e t
structure JW(X:Cx)(e:Expr)(t:TT):Prop where
 h:PW X e t
structure JA(X:Cx)(es:List Expr)(t:TA):Prop where
 h:PA X es t
structure JS(X:Cx)(st:Stmt)(t:TS):Prop where
 h:PS X st t
structure JB(X:Cx)(st:List Stmt)(t:TS):Prop where
 h:PSs X st t
structure JG(X:Cx)(tg:Expr)(t:TG):Prop where
 h:PG X tg t
structure JGs(X:Cx)(ts:List Expr)(t:TGs):Prop where
 h:PGs X ts t
structure JI(X:Cx)(tg iter:Expr)(t:TI):Prop where
 h:PI X tg iter t
structure JF(X:Cx)(ifs:List Expr)(t:TT):Prop where
 h:PIf X ifs t
structure JO(X:Cx)(e:Option Expr)(t:TO):Prop where
 h:PO X e t
section
variable {X:Cx}{a b c e o:Expr}{es rest:List Expr}{ta tb tc te to:TE}{tA tB:TT}{t:TA}{pos p apos cpos p2:Pos}
theorem jv(i:Nat){x:Str}(c:X.N[i]?=some x:=by rfl)(b:Vis X.env.scope x:=by first|exact Or.inl rfl|exact Or.inr (Or.inl rfl)|exact Or.inr (Or.inr rfl))(hd:(x==("__debug__" : Str))=false:=by decide)
  (a:(x==("__classdict__" : Str))=false:=by decide):JE X (.Name x pos) (Y9 i):=⟨b5G c b hd a⟩
theorem A6{i j}:JE X (.Constant (.int i) j pos) (tC (.int i)):=⟨b5N⟩
theorem a1w{i j}:JE X (.Constant (.bool i) j pos) (tC (.bl i)):=⟨b7s⟩
theorem a0x{j}:JE X (.Constant .none j pos) (tC .non):=⟨b5L⟩
theorem b7D{x j}:JE X (.Constant (.str x) j pos) (tC (.str x)):=⟨b5I⟩
theorem a2G{x:Str}{v:V}{u:Value}(c:Gl X x)(a:X.mg x=none)(b:bootBuiltins x=some u)(r:RelV v u)(d:x≠"__name__":=by decide)(hd:(x==("__debug__" : Str))=false:=by decide):JE X (.Name x pos) (tC v):=⟨b3E c a b r d hd⟩
theorem T7(ha:JE X a ta)(c:JE X b tb):JE X (.BinOp a .Add b pos) (tOp (rI0 λi j=>.int (i+j)) ta tb):=⟨Z3 b6a ha.h c.h⟩
theorem a7T(ha:JE X a ta)(c:JE X b tb):JE X (.BinOp a .Sub b pos) (tOp (rI0 λi j=>.int (i-j)) ta tb):=⟨Z3 b5U ha.h c.h⟩
theorem Z5(ha:JE X a ta)(c:JE X b tb):JE X (.BinOp a .Mult b pos) (tOp (rI CMul λi j=>.int (i*j)) ta tb):=⟨Z3 b5Y ha.h c.h⟩
theorem a2E(ha:JE X a ta)(c:JE X b tb):JE X (.BinOp a .Mod b pos) (tOp (rI (λ_ j=>0<j) λi j=>.int (i % j)) ta tb):=⟨Z3 b5Z ha.h c.h⟩
theorem b1U(ha:JE X a ta)(c:JE X b tb):JE X (.BinOp a .FloorDiv b pos) (tOp (rI b7K λi j=>.int (i / j)) ta tb):=⟨Z3 b3I ha.h c.h⟩
theorem a7U(ha:JE X a ta)(c:JE X b tb):JE X (.BinOp a .Pow b pos) (tOp (rI b7J λi j=>.int (i ^ j.toNat)) ta tb):=⟨Z3 b5V ha.h c.h⟩
theorem a7V(ha:JE X a ta)(c:JE X b tb):JE X (.BinOp a .Add b pos) (tOp (a4r) ta tb):=⟨Z3 b1e ha.h c.h⟩
theorem a6H(ha:JE X a ta)(c:JE X b tb):JE X (.BinOp a .Mult b pos) (tOp (b4O) ta tb):=⟨Z3 a7J ha.h c.h⟩
theorem b4Y(ha:JE X a ta):JE X (.UnaryOp .Not a pos) (b4A ta):=⟨b5K ha.h⟩
theorem a7W{op}(h:JE X a ta):JE X (.BoolOp op [a] pos) ta:=⟨b5J h.h⟩
theorem a5N(ha:JE X a ta)(c:JE X (.BoolOp .And (b::rest) pos) tb):JE X (.BoolOp .And (a::b::rest) pos) (b4F ta tb):=⟨b5Q ha.h c.h⟩
theorem b7U(ha:JE X a ta)(c:JE X (.BoolOp .Or (b::rest) pos) tb):JE X (.BoolOp .Or (a::b::rest) pos) (b6Z ta tb):=⟨b7q ha.h c.h⟩
theorem b7E(hc:JT X c tA)(ha:JE X a ta)(d:JE X b tb):JE X (.IfExp c a b pos) (tIf tA ta tb):=⟨b0Z hc.h ha.h d.h⟩
theorem a2A(ha:JE X a ta)(c:JE X b tb):JE X (.Compare a [.Eq] [b] pos) (tOp (rEq) ta tb):=⟨a4s b4U ha.h c.h (M6 _)⟩
theorem a5M(ha:JE X a ta)(c:JE X b tb):JT X (.Compare a [.Eq] [b] pos) (U6 (tOp (rEq) ta tb)):=⟨L7 b4U ha.h c.h (M6 _)⟩
theorem b7B(ha:JE X a ta)(c:JE X b tb):JT X (.Compare a [.NotEq] [b] pos) (U6 (tOp (rNe) ta tb)):=⟨L7 b7u ha.h c.h (M6 _)⟩
theorem b1G(ha:JE X a ta)(c:JE X b tb):JT X (.Compare a [.Lt] [b] pos) (U6 (tOp (rI0 λi j=>.bl (decide (i<j))) ta tb)):=⟨L7 b7v ha.h c.h (M6 _)⟩
theorem b1E(ha:JE X a ta)(c:JE X b tb):JE X (.Compare a [.LtE] [b] pos) (tOp (rI0 λi j=>.bl (decide (i<=j))) ta tb):=⟨a4s b7w ha.h c.h (M6 _)⟩
theorem a7P(ha:JE X a ta)(c:JE X b tb):JT X (.Compare a [.Gt] [b] pos) (U6 (tOp (rI0 λi j=>.bl (decide (j<i))) ta tb)):=⟨L7 b7x ha.h c.h (M6 _)⟩
theorem b7C(ha:JE X a ta)(c:JE X b tb):JT X (.Compare a [.GtE] [b] pos) (U6 (tOp (rI0 λi j=>.bl (decide (j<=i))) ta tb)):=⟨L7 b7y ha.h c.h (M6 _)⟩
theorem b1F(K:PySem.W.Frag)(c:X.A.units+60<cLine)(ha:JE X a ta)(d:JE X b tb)(e:X.K=K:=by rfl):JT X (.Compare a [.NotEq] [b] pos) (U6 (tOp (a8L K true) ta tb)):=⟨L7 (b5W K c e) ha.h d.h (M6 _)⟩
theorem b6l(ha:JE X a ta)(c:JE X b tb):JE X (.Compare a [.Is] [b] pos) (tOp (λx y H Q=>y=.non/\Q (.bl (decide (x=.non))) H) ta tb):=⟨a4s b1f ha.h c.h (M6 _)⟩
theorem b1H(ha:JE X a ta)(c:JE X b tb):JT X (.Compare a [.Is] [b] pos) (U6 (tOp (λx y H Q=>y=.non/\Q (.bl (decide (x=.non))) H) ta tb)):=⟨L7 b1f ha.h c.h (M6 _)⟩
theorem b3Z(ha:JE X a ta)(c:JE X b tb):JT X (.Compare a [.IsNot] [b] pos) (U6 (tOp (λx y H Q=>y=.non/\Q (.bl (!decide (x=.non))) H) ta tb)):=⟨L7 b3H ha.h c.h (M6 _)⟩
theorem a4z(h:JW X e tA):JT X e tA:=⟨h.h.pt⟩
theorem X9(ha:JT X a tA):JW X (.BoolOp .And [a] pos) tA:=⟨pw_and1 ha.h⟩
theorem a6F(ha:JT X a tA):JW X (.BoolOp .Or [a] pos) tA:=⟨pw_or1 ha.h⟩
theorem a0R(ha:JT X a tA)(c:JW X (.BoolOp .And (b::rest) pos) tB):JW X (.BoolOp .And (a::b::rest) pos) (b7f tA tB):=⟨pw_and ha.h c.h⟩
theorem b1D(ha:JT X a tA)(c:JW X (.BoolOp .Or (b::rest) pos) tB):JW X (.BoolOp .Or (a::b::rest) pos) (tOr tA tB):=⟨pw_or ha.h c.h⟩
theorem S5(ha:JT X a tA):JT X (.UnaryOp .Not a pos) (b7a tA):=⟨b5v ha.h⟩
theorem G1(K:PySem.W.Frag)(ha:JE X a ta)(c:∀b,isTrue a X.env b=(do let v <-b;standAt a.pos;holding [v] (truthy v)):=by intro _;rfl)(d:X.K=K:=by rfl):JT X a (b6Y K ta):=⟨a8N K ha.h c d⟩
theorem jaN:JA X [] a1q:=⟨b5S⟩
theorem jaC(ha:JE X e te)(hr:JA X es t)(hs:starEach (e::es) X.env=(false,eval e X.env)::starEach es X.env:=by rfl):JA X (e::es) (a5e te t):=⟨b3F ha.h hr.h hs⟩
theorem E8{x1}(h:JA X es t):JE X (.Tuple es x1 pos) (b5h t):=⟨b5H h.h⟩
theorem V8(h:JA X es t):JE X (.List es pos) (b2M t):=⟨b5M h.h⟩
theorem Q5(K:PySem.W.Frag)(ha:JE X a ta)(c:JE X b tb)(hs:a4P b:=by intro _ _;rfl)(d:X.K=K:=by rfl):JE X (.Subscript a b pos) (tOp (b3h K) ta tb):=⟨b4T (b1W K d) ha.h c.h hs⟩
theorem K4(K:PySem.W.Frag)(ha:JE X a ta)(c:JE X b tb)(hs:a4P b:=by intro _ _;rfl)(d:X.K=K:=by rfl):JE X (.Subscript a b pos) (tOp (b5p K) ta tb):=⟨b4T (b4h K d) ha.h c.h hs⟩
theorem a1N:JO X none a1E:=⟨b3q⟩
theorem a1M(h:JE X e te):JO X (some e) (a7j te):=⟨b3p h.h⟩
theorem b4X(K:PySem.W.Frag){lo hi:Option Expr}{tl th:TO}(a:JE X e te)(hl:JO X lo tl)(b:JO X hi th)(c:X.K=K:=by rfl):JE X (.Subscript e (.Slice lo hi none p2) pos) (tSl (b5o K) te tl th):=⟨a5w (b0k K c) a.h hl.h b.h⟩
theorem b4W(K:PySem.W.Frag){lo hi:Option Expr}{tl th:TO}(a:JE X e te)(hl:JO X lo tl)(b:JO X hi th)(c:X.K=K:=by rfl):JE X (.Subscript e (.Slice lo hi none p2) pos) (tSl (b0G K) te tl th):=⟨a5w (b2S K c) a.h hl.h b.h⟩
theorem A9{k:Nat}{ps:List Str}{sp:Sp}{x:Str}(O:Ok X.prog X.w X.K X.mg X.base x k ps sp)(hr:Room k X.A)(d:Gl X x)(ha:JA X (e::es) t)(a:(x==("__debug__" : Str))=false:=by decide)
  (c:starEach (e::es) X.env=(false,eval e X.env)::starEach es X.env:=by rfl) (b:(backTo pos (starEach es X.env)).any (·.1)=false:=by rfl):JE X (.Call (.Name x p) (e::es) [] pos) (a7l sp [] E0 t):=⟨b1c O hr d ha.h a c b⟩
theorem G2(K:PySem.W.Frag)(b:Gl X "len")(c:X.mg "len"=none)(ha:JA X (e::es) t)(f:X.K=K:=by rfl)(d:starEach (e::es) X.env=(false,eval e X.env)::starEach es X.env:=by rfl)(a:(backTo pos (starEach es X.env)).any (·.1)=false:=by rfl):JE X (.Call (.Name "len" p) (e::es) [] pos) (tCB (b7j K) t):=⟨D8 (a9A K f) b c b2x ha.h (by decide) (by decide) d a⟩
theorem a6G(K:PySem.W.Frag)(b:Gl X "sum")(c:X.mg "sum"=none)(ha:JA X (e::es) t)(hc:X.calm=true:=by rfl)(f:X.K=K:=by rfl)(d:starEach (e::es) X.env=(false,eval e X.env)::starEach es X.env:=by rfl)(a:(backTo pos (starEach es X.env)).any (·.1)=false:=by rfl):JE X (.Call (.Name "sum" p) (e::es) [] pos) (tCB (b5n K) t):=⟨D8 (a9w K hc f) b c b6G ha.h (by decide) (by decide) d a⟩
theorem a2D(K:PySem.W.Frag)(b:Gl X "all")(c:X.mg "all"=none)(ha:JA X (e::es) t)(hc:X.calm=true:=by rfl)(f:X.K=K:=by rfl)(d:starEach (e::es) X.env=(false,eval e X.env)::starEach es X.env:=by rfl)(a:(backTo pos (starEach es X.env)).any (·.1)=false:=by rfl):JE X (.Call (.Name "all" p) (e::es) [] pos) (tCB (b5t K) t):=⟨D8 (a9F K hc f) b c b6K ha.h (by decide) (by decide) d a⟩
theorem b6m(K:PySem.W.Frag)(b:Gl X "any")(c:X.mg "any"=none)(ha:JA X (e::es) t)(hc:X.calm=true:=by rfl)(f:X.K=K:=by rfl)(d:starEach (e::es) X.env=(false,eval e X.env)::starEach es X.env:=by rfl)(a:(backTo pos (starEach es X.env)).any (·.1)=false:=by rfl):JE X (.Call (.Name "any" p) (e::es) [] pos) (tCB (b5s K) t):=⟨D8 (a9E K hc f) b c b6J ha.h (by decide) (by decide) d a⟩
theorem K1(K:PySem.W.Frag)(b:Gl X "isinstance")(c:X.mg "isinstance"=none)(ha:JA X (e::es) t)(f:X.K=K:=by rfl)(d:starEach (e::es) X.env=(false,eval e X.env)::starEach es X.env:=by rfl)(a:(backTo pos (starEach es X.env)).any (·.1)=false:=by rfl):JE X (.Call (.Name "isinstance" p) (e::es) [] pos) (tCB (b5q K) t):=⟨D8 (a9B K f) b c Z8 ha.h (by decide) (by decide) d a⟩
theorem B6(K:PySem.W.Frag)(b:Gl X "tuple")(c:X.mg "tuple"=none)(ha:JA X (e::es) t)(f:X.K=K:=by rfl)(d:starEach (e::es) X.env=(false,eval e X.env)::starEach es X.env:=by rfl)(a:(backTo pos (starEach es X.env)).any (·.1)=false:=by rfl):JE X (.Call (.Name "tuple" p) (e::es) [] pos) (tCB (b0D K) t):=⟨M4 (a5Y K f) b c a0F ha.h (by decide) (by decide) d a⟩
theorem b4c(K:PySem.W.Frag)(b:Gl X "list")(c:X.mg "list"=none)(ha:JA X (e::es) t)(f:X.K=K:=by rfl)(d:starEach (e::es) X.env=(false,eval e X.env)::starEach es X.env:=by rfl)(a:(backTo pos (starEach es X.env)).any (·.1)=false:=by rfl):JE X (.Call (.Name "list" p) (e::es) [] pos) (tCB (b4R K) t):=⟨M4 (a6T K f) b c a8o ha.h (by decide) (by decide) d a⟩
theorem a4A(d:Gl X "int")(b:X.mg "int"=none)(ha:JA X (e::es) t)(c:starEach (e::es) X.env=(false,eval e X.env)::starEach es X.env:=by rfl)(a:(backTo pos (starEach es X.env)).any (·.1)=false:=by rfl):JE X (.Call (.Name "int" p) (e::es) [] pos) (tCB (b7l) t):=⟨M4 a9C d b b2y ha.h (by decide) (by decide) c a⟩
theorem a0S(K:PySem.W.Frag)(f:JE X o to)(ha:JA X (e::es) t)(g:X.K=K:=by rfl)(b:attributeBase o "append" X.env (eval o X.env)=eval o X.env:=by rfl)
  (d:((backTo cpos (starEach (e::es) X.env)).all (λx=>!x.1) && (backToKw cpos (keywordEach [] X.env)).all (λx=>x.1.isSome) && decide ((e::es).length+([]:List Keyword).length+(if ([]:List Keyword).isEmpty then 0 else 1)<30))=true:=by rfl)
  (c:(apos.endLine==cpos.line)=true:=by rfl) (hs:starEach (e::es) X.env=(false,eval e X.env)::starEach es X.env:=by rfl) (a:(backTo cpos (starEach es X.env)).any (·.1)=false:=by rfl) :
  JE X (.Call (.Attribute o "append" apos) (e::es) [] cpos) (tBM K "list" a7E to t):=⟨a6x K PySem.F.plainAttrs_list PySem.F.slot_list_append PySem.F.type_list_append a9c f.h ha.h g b d c hs a⟩
theorem b1O(K:PySem.W.Frag)(f:JE X o to)(ha:JA X (e::es) t)(g:X.K=K:=by rfl)(b:attributeBase o "pop" X.env (eval o X.env)=eval o X.env:=by rfl)
  (d:((backTo cpos (starEach (e::es) X.env)).all (λx=>!x.1) && (backToKw cpos (keywordEach [] X.env)).all (λx=>x.1.isSome) && decide ((e::es).length+([]:List Keyword).length+(if ([]:List Keyword).isEmpty then 0 else 1)<30))=true:=by rfl)
  (c:(apos.endLine==cpos.line)=true:=by rfl) (hs:starEach (e::es) X.env=(false,eval e X.env)::starEach es X.env:=by rfl) (a:(backTo cpos (starEach es X.env)).any (·.1)=false:=by rfl) :
  JE X (.Call (.Attribute o "pop" apos) (e::es) [] cpos) (tBM K "list" b0H to t):=⟨a6x K PySem.F.plainAttrs_list PySem.F.slot_list_pop PySem.F.type_list_pop b1v f.h ha.h g b d c hs a⟩
theorem a3z(K:PySem.W.Frag)(f:JE X o to)(ha:JA X (e::es) t)(g:X.K=K:=by rfl)(b:attributeBase o "extend" X.env (eval o X.env)=eval o X.env:=by rfl)
  (d:((backTo cpos (starEach (e::es) X.env)).all (λx=>!x.1) && (backToKw cpos (keywordEach [] X.env)).all (λx=>x.1.isSome) && decide ((e::es).length+([]:List Keyword).length+(if ([]:List Keyword).isEmpty then 0 else 1)<30))=true:=by rfl)
  (c:(apos.endLine==cpos.line)=true:=by rfl) (hs:starEach (e::es) X.env=(false,eval e X.env)::starEach es X.env:=by rfl) (a:(backTo cpos (starEach es X.env)).any (·.1)=false:=by rfl) :
  JE X (.Call (.Attribute o "extend" apos) (e::es) [] cpos) (tBM K "list" a7D to t):=⟨a6x K PySem.F.plainAttrs_list PySem.F.slot_list_extend PySem.F.type_list_extend a9b f.h ha.h g b d c hs a⟩
theorem A7{i:Nat}{x:Str}(b:X.N.Nodup)(hi:X.N[i]?=some x)(a:Loc X.env.scope x)(hf:X.fn x=true∨X.env.scope.names.lookup x=some .local:=by first|exact .inl rfl|exact .inr rfl|assumption):JG X (.Name x pos) (A8 i):=⟨b3y b hi a hf⟩
theorem M0:JGs X [] a9n:=⟨b3w⟩
theorem B5{g:TG}{u:TGs}(h1:JG X e g)(h2:JGs X es u)(hs:(assignEach (e::es) X.env).map (·.2)=assign e X.env::(assignEach es X.env).map (·.2):=by rfl):JGs X (e::es) (Z6 g u):=⟨b0X h1.h h2.h hs⟩
theorem S8(K:PySem.W.Frag)(n:Nat){k:Nat}{u:TGs}(h:JGs X es u)(hc:X.calm=true:=by rfl)(b:X.K=K:=by rfl)(c:(assignEach es X.env).length=n:=by rfl)(a:(assignEach es X.env).findIdx? (·.1)=none:=by rfl):JG X (.Tuple es k pos) (a6M K n u):=⟨b3x K hc h.h b c a⟩
theorem b1P{i:Expr}{ti:TE}(a:JE X o to)(hi:JE X i ti)
  (ha:∀v,assign (.Subscript o i pos) X.env v=(do
   let ov <-holding [v] (eval o X.env)
   let iv <-holding [v,ov] (eval i X.env)
   standAt pos
   holding [v,ov,iv] (setItem ov iv v)
   release [v,ov,iv] []):=by intro _;rfl):JG X (.Subscript o i pos) (b7F to ti b4N):=⟨b5F a.h hi.h b0n ha⟩
theorem E6(K:PySem.W.Frag){tg l:Expr}{tl:TE}(hl:JE X l tl)(a:X.K=K:=by rfl):JI X tg l (b2a K tl):=⟨b0W K hl.h a⟩
theorem O9(K:PySem.W.Frag){tg l:Expr}{tl:TE}(hl:JE X l tl)(a:X.K=K:=by rfl):JI X tg l (b6v K tl):=⟨b3u K hl.h a⟩
theorem V7(K:PySem.W.Frag){d:Nat}{i:Pos}(e:Gl X "zip")(f:X.mg "zip"=none)(ha:JA X [a,b] t)(g:X.K=K:=by rfl)(hs:starEach [a,b] X.env=[(false,eval a X.env),(false,eval b X.env)]:=by rfl)(c:starEach [b] X.env=[(false,eval b X.env)]:=by rfl) :
  JI X (.Tuple es d i) (.Call (.Name "zip" p) [a,b] [] pos) (b6u K t):=⟨b3t K e f ha.h g hs c⟩
theorem D9{tg:Expr}(c:Gl X "range")(b:X.mg "range"=none)(ha:JA X [a] t)(hs:starEach [a] X.env=[(false,eval a X.env)]:=by rfl):JI X tg (.Call (.Name "range" p) [a] [] pos) (b4Z t):=⟨a8Q c b ha.h hs⟩
theorem C2:JF X [] U5:=⟨b3s⟩
theorem a2B(h:JT X c tA):JF X [c] tA:=⟨b3r h.h⟩
theorem B9{tg a b:Expr}{d:List Expr}{scope:Scope}{N:List Str}{src:List (Option Nat)}{wi:TI}{g:TG}{i:TT}(hi:JI X tg a wi)(c:B8 scope X.env.scope=true)(e:K7 N src X.N scope=true)(f:a4l scope=true)
  (j:∀cells C s H ex,JG (X.blk N scope cells C s H ex) tg g) (ht:∀cells C s H ex,JF (X.blk N scope cells C s H ex) d i) (k:∀cells C s H ex,JE (X.blk N scope cells C s H ex) b te)
  (hc:X.calm=true:=by rfl) (hs:∀x,foldedSetIterable a X.env x=pure x:=by intro _;rfl):JE X (.ListComp b [⟨tg,a,d,0⟩] scope pos) (a5f src wi g i te) :=
 ⟨b3D hc hi.h c e f (λ_ _ _ _ _=>(j _ _ _ _ _).h) (λ_ _ _ _ _=>(ht _ _ _ _ _).h) (λ_ _ _ _ _=>(k _ _ _ _ _).h) hs⟩
variable {st:Stmt}{sts:List Stmt}{u v:TS}
theorem D0:JB X [] b4B:=⟨b3k⟩
theorem A3(h1:JS X st u)(h2:JB X sts v):JB X (st::sts) (b5i u v):=⟨b0L h1.h h2.h⟩
theorem A4(h1:JS X st u):JB X [st] u:=⟨b3j h1.h⟩
theorem b1M:JS X (.Break pos) b0e:=⟨b0Q⟩
theorem B0(a:JE X e te):JS X (.Return (some e) pos) (b5j te):=⟨b5y a.h⟩
theorem S7(a:JE X e te)(hs:swapsWith e none pos.line X.env=pure false:=by rfl):JS X (.Expr e pos) (b4D te):=⟨b3m a.h hs⟩
theorem E9{A B:List Stmt}(hc:JT X c tA)(ha:JB X A u)(a:JB X B v):JS X (.If c A B pos) (b7b tA u v):=⟨b7o hc.h ha.h a.h⟩
theorem b1I{B:List Stmt}(hc:JT X c tA)(a:JB X B v)(hp:PassesOwn (model X.prog X.w) X.A X.env X.xe:=by exact PassesOwn.never):JS X (.While c B [] pos) (a9Y tA v):=⟨b0M hp hc.h a.h⟩
theorem J2{tg a:Expr}{B:List Stmt}{wi:TI}{g:TG}(hi:JI X tg a wi)(b:JG X tg g)(c:JB X B v)(hp:PassesOwn (model X.prog X.w) X.A X.env X.xe:=by exact PassesOwn.never)(hc:X.calm=true:=by rfl)
  (hs:∀x,foldedSetIterable a X.env x=pure x:=by intro _;rfl):JS X (.For tg a B [] pos) (b7c wi g v):=⟨b5z hp hc hi.h b.h c.h hs⟩
theorem B1{i:Nat}{x:Str}{pos':Pos}(c:X.N.Nodup)(hi:X.N[i]?=some x)(b:Loc X.env.scope x)(a:JE X e te)(hs:swapsWith e (some (.Name x pos')) pos.line X.env=pure false:=by rfl)
  (hf:X.fn x=true∨X.env.scope.names.lookup x=some .local:=by first|exact .inl rfl|exact .inr rfl|assumption):JS X (.Assign [.Name x pos'] e pos) (a8z te (A8 i)):=⟨b5x c hi b a.h hs hf⟩
theorem a7Q{i:Nat}{y:Str}{m b:Pos}{tg a c:Expr}{d:List Expr}{scope:Scope}{N:List Str}{src:List (Option Nat)}{wi:TI}{g:TG}{n:TT}
  (q:X.N.Nodup) (o:X.N[i]?=some y) (r:Loc X.env.scope y) (hi:JI X tg a wi) (e:B8 scope X.env.scope=true) (f:K7 N src X.N scope=true) (l:a4l scope=true)
  (p:∀cells C s H ex,JG (X.blk N scope cells C s H ex) tg g) (ht:∀cells C s H ex,JF (X.blk N scope cells C s H ex) d n) (j:∀cells C s H ex,JE (X.blk N scope cells C s H ex) c te)
  (hc:X.calm=true:=by rfl) (k:swapsWith (.ListComp c [⟨tg,a,d,0⟩] scope pos) (some (.Name y m)) b.line X.env=pure true:=by rfl) (hs:∀x,foldedSetIterable a X.env x=pure x:=by intro _;rfl)
  (hf:X.fn y=true∨X.env.scope.names.lookup y=some .local:=by first|exact .inl rfl|exact .inr rfl|assumption) :
  JS X (.Assign [.Name y m] (.ListComp c [⟨tg,a,d,0⟩] scope pos) b) (a8z (a5f src wi g n te) (A8 i)) :=
 ⟨b3l q o r hc hi.h e f l (λ_ _ _ _ _=>(p _ _ _ _ _).h) (λ_ _ _ _ _=>(ht _ _ _ _ _).h) (λ_ _ _ _ _=>(j _ _ _ _ _).h) k hs hf⟩
theorem b1N{tg:Expr}{g:TG}(a:JE X e te)(b:JG X tg g)(hs:swapsWithSole [tg] e pos.line X.env=pure false:=by rfl)(hw:swappedStores [tg] e X.env=pure none:=by rfl)
  (h1:(assignEach [tg] X.env).map (·.2)=[assign tg X.env]:=by rfl):JS X (.Assign [tg] e pos) (a8z te g):=⟨b5B a.h b.h hs hw h1⟩
end
section
variable {P:Program}{w:World}{K:PySem.W.Frag}{mg:Str->Option Value}{base:Heap}
theorem FunAt.okJ{x:Str}{st:Stmt}{N ps:List Str}{k:Nat}{sp:Sp}(F:FunAt K mg x st ps)(S:FnScope N ps (A1 st))(len:∀vs H Q E,sp vs H Q E->vs.length=ps.length)
  (a:∀(b:Value) (f:Addr) (A:Around) (outer:List Env) (s:Shared) (H:Hp) (vs:List V) (Q:VK) (E:XK),Room k (A.deeper (envOfC x (A1 st) s.heap.objs.size f b))->sp vs H Q E ->
   ∃t,JB (J6 CX0 P w K mg base N x (A1 st) f b A outer s H E).nox (E2 st) t/\t {nx:=λ_ H'=>Q .non H',rt:=Q} (start N vs) H):Ok P w K mg base x (k+1) ps sp :=
 F.ok S len λb f A outer s H vs Q E hr h=>let ⟨t,d,r⟩:=a b f A outer s H vs Q E hr h;⟨t,d.h,r⟩
theorem Fun.okJ{x qual:Str}{st:Stmt}{f:Addr}{fd:FuncData}{N ps:List Str}{k:Nat}{sp:Sp}(F:Fun K x qual st f fd)(S:FnScope N ps (A1 st))(len:∀vs H Q E,sp vs H Q E->vs.length=ps.length)
  (a:∀(b:Value) (A:Around) (outer:List Env) (s:Shared) (H:Hp) (vs:List V) (Q:VK) (E:XK),Room k (A.deeper (envOfC qual (A1 st) s.heap.objs.size f b))->sp vs H Q E ->
   ∃t,JB (J6 CX0 P w K mg base N qual (A1 st) f b A outer s H E).nox (E2 st) t/\t {nx:=λ_ H'=>Q .non H',rt:=Q} (start N vs) H):FnOk P w K mg base CX0 (k+1) f fd ps sp :=
 F.ok S len λb A outer s H vs Q E hr h=>let ⟨t,d,r⟩:=a b A outer s H vs Q E hr h;⟨t,d.h,r⟩
end
def a7t(K:PySem.W.Frag):Sp:=λvs H Q _=>∃(a:Addr) (ns:List Int),vs=[.ref a]/\SqL K H a (ns.map V.int)/\ns.length<=63/\∀H',Q (.bl true) H'
theorem law_walk{l:PySem.W.OpenLaw}{q:Program}{b:List Str}{XP:(Str->Option Value)->Heap->Prop}{g:World->Heap->Prop}{d:DefRec}{K:Params->PySem.W.Frag}(k:Nat)(j:l.most=some 63)(c:d.params.defaults=[])(hr:Room k callerA)
  (i:∀(w:World) (h:Heap),g w h->(K w.params).In h)
  (F:∀(w:World) (mg:Str->Option Value) (e:Addr) (h:Heap),(K w.params).In h->h.Ns mainGlobals mg->mg d.name=some (.ref e) ->
   ∃fd:FuncData,(∀(s:Shared) (u:Value),BindsTo s fd ⟨[u],[]⟩ [("_law_script",u)])/\∀base:Heap,(K w.params).In base->base.Ns mainGlobals mg->FnOk l.prog w (K w.params) mg base CX0 k e fd ["_law_script"] (a7t (K w.params))) :
  PySem.W.WalkO q b XP g l.row.toRowW d [] (λf vs=>PySem.call f vs) :=
 L2.walk_of (n:=63) (k:=k) (x:="_law_script") (CX:=λ_=>CX0) (sp:=λw=>a7t (K w.params)) j (by decide) c hr i F (λ_ _ a ns hl _ hS=>⟨a,ns,rfl,hS,hl,λ_=>rfl⟩) λ_ _ _ _ _ z=>z
def Its(H:Hp)(vs:List V)(rss:LLI):Prop:=vs.length=rss.length/\∀(i:Nat) (v:V),vs[i]?=some v->∃r,rss[i]?=some r/\IT H v r
theorem Its.same{H H':Hp}{vs:List V}{rss:LLI}(h:Its H vs rss)(s:Same H H'):Its H' vs rss:=⟨h.1,λi v e=>let ⟨r,e1,e2⟩:=h.2 i v e;⟨r,e1,e2.same s⟩⟩
theorem Its.nil{H:Hp}:Its H [] []:=⟨rfl,λi v e=>by simp at e⟩
theorem Its.snoc{H:Hp}{vs:List V}{rss:LLI}{v:V}{r:List Int}(h:Its H vs rss)(c:IT H v r):Its H (vs++[v]) (rss++[r]):=by
 refine⟨by simp[h.1],λi u e=>?_⟩;by_cases hi:i<vs.length
 .rw[List.getElem?_append_left hi]at e;obtain⟨q,d,b⟩:=h.2 i u e;exact⟨q,by rw[List.getElem?_append_left (by rw[<-h.1];exact hi)];exact d,b⟩
 .rw[List.getElem?_append_right (by omega)]at e;have a:i-vs.length=0:=by
   have:=(List.getElem?_eq_some_iff.mp e).1;simp at this;omega
  rw[a]at e;simp at e;subst e;refine⟨r,?_,c⟩;rw[List.getElem?_append_right (by rw[<-h.1];omega),<-h.1,a];rfl
theorem Its.mem{H:Hp}{vs:List V}{rss:LLI}{v:V}{i:Nat}(h:Its H vs rss)(e:vs[i]?=some v):∃r,r∈rss/\rss[i]?=some r/\IT H v r :=
 let ⟨r,e1,e2⟩:=h.2 i v e
 ⟨r,List.mem_of_getElem? e1,e1,e2⟩
theorem a8s{K:PySem.W.Frag}{src:List (Option Nat)}{σ caps:St}{Q:VK}{k1 k2:Bool}{a b:Addr}{xs ys:List Int}{H:Hp}{te:TE}(f:Int->Int->V)(hl:xs.length<=1000)
  (c:∀H',Same H H'->SqK k1 K H' a (xs.map V.int)/\SqK k2 K H' b (ys.map V.int))
  (k:B4 src σ=none::none::caps) (n:∀x y H1 o,x∈xs->y∈ys->Same H H1->o (f x y) H1->te (some (.int x)::some (.int y)::caps) H1 o)
  (hd:∀H1 p,Same H H1->H1 p=none->Q (.ref p) (upd H1 p (.lst (List.zipWith f xs ys)))) :
  J3 src (a6M K 2 (Z6 (A8 0) (Z6 (A8 1) a9n))) U5 te σ Q (Itz K k1 k2 a b) H:=by
 have hz:(1000:Nat)<=sizeLine:=by rw[sizeLine_eq];decide
 refine W6 (xs:=xs.map V.int) (zs:=ys.map V.int) (by rw[K0];omega) (λi zs H'=>Same H H'/\zs=(List.zipWith f xs ys).take i) ⟨Same.refl H,by simp⟩ (λi zs H' _ _ h=>⟨(c H' h.1).1,(c H' h.1).2,by rw[h.2];exact List.length_take_le _ _⟩) ?_ ?_
 .rintro i x z zs H' p hx hy ⟨s,rfl⟩ hp;obtain⟨g,m,r⟩:=M1 hx;obtain⟨d,l,q⟩:=M1 hy;subst r q;clear hx hy;have s':Same H (upd H' p (.tup [.int g,.int d])):=s.upd hp;refine⟨p,[.int g,.int d],rfl,SqT.of A0,rfl,.int g,[.int d],rfl,.int d,[],rfl,rfl,?_⟩;rw[k];show Sub _ (some (.int g)::some (.int d)::caps)/\_;refine⟨⟨rfl,λj v e=>?_⟩,?_⟩
  .match j,e with
   |0,e=>cases e
   |1,e=>cases e
   |j+2,e=>exact e
  .exact n g d _ _ (List.mem_of_getElem? m) (List.mem_of_getElem? l) s' ⟨s',(K8 f m l).symm⟩
 .rintro zs H' ⟨s,rfl⟩ p hp;have e:(List.zipWith f xs ys).take (min (xs.map V.int).length (ys.map V.int).length)=List.zipWith f xs ys:=by
   rw[K0,K0,List.take_of_length_le];rw[List.length_zipWith];exact Nat.le_refl _
  rw[e];exact hd H' p s hp
theorem a3X{K:PySem.W.Frag}{src:List (Option Nat)}{σ caps:St}{Q:VK}{a:Addr}{vs:List V}{rss:LLI}{H:Hp}{te:TE}(f:List Int->V)(hl:vs.length<=1000)(b:∀H',Same H H'->SqT K H' a vs)(hI:Its H vs rss)(c:B4 src σ=none::caps)
  (d:∀v r H1 j,r∈rss->IT H1 v r->Same H H1->(∀H2,Same H1 H2->j (f r) H2)->te (some v::caps) H1 j) (hd:∀H1 p,Same H H1->H1 p=none->Q (.ref p) (upd H1 p (.lst (rss.map f)))):J3 src (A8 0) U5 te σ Q (Itt K a) H:=by
 have hz:(1000:Nat)<=sizeLine:=by rw[sizeLine_eq];decide
 refine a0C (xs:=vs) (by omega) (λi ys H'=>Same H H'/\ys=(rss.take i).map f) ⟨Same.refl H,by simp⟩ (λi ys H' _ h=>⟨b H' h.1,by rw[h.2,List.length_map];exact List.length_take_le _ _⟩) ?_ ?_
 .rintro i x ys H' hx ⟨s,rfl⟩;obtain⟨r,hr,e,g⟩:=hI.mem hx;show Sub _ ((B4 src σ).set 0 (some x))/\_;rw[c];refine⟨Sub.one,d x r H' _ hr (g.same s) s λH2 s2=>⟨s.trans s2,?_⟩⟩;rw[List.take_add_one,e];simp
 .rintro ys H' ⟨s,rfl⟩ p hp;rw[hI.1,List.take_length];exact hd H' p s hp
theorem a9K{K:PySem.W.Frag}{src:List (Option Nat)}{σ caps:St}{Q:VK}{k1 k2:Bool}{a b:Addr}{xs:List Int}{us:List V}{rss:LLI}{H:Hp}{te:TE}(f:Int->List Int->V)(hl:xs.length<=1000)
  (c:∀H',Same H H'->SqK k1 K H' a (xs.map V.int)/\SqK k2 K H' b us) (hI:Its H us rss)
  (g:B4 src σ=none::none::caps) (l:∀x v r H1 o,x∈xs->r∈rss->IT H1 v r->Same H H1->o (f x r) H1->te (some (.int x)::some v::caps) H1 o)
  (hd:∀H1 p,Same H H1->H1 p=none->Q (.ref p) (upd H1 p (.lst (List.zipWith f xs rss)))) :
  J3 src (a6M K 2 (Z6 (A8 0) (Z6 (A8 1) a9n))) U5 te σ Q (Itz K k1 k2 a b) H:=by
 have hz:(1000:Nat)<=sizeLine:=by rw[sizeLine_eq];decide
 refine W6 (xs:=xs.map V.int) (zs:=us) (by rw[K0];omega) (λi zs H'=>Same H H'/\zs=(List.zipWith f xs rss).take i) ⟨Same.refl H,by simp⟩ (λi zs H' _ _ h=>⟨(c H' h.1).1,(c H' h.1).2,by rw[h.2];exact List.length_take_le _ _⟩) ?_ ?_
 .rintro i x z zs H' p hx hy ⟨s,rfl⟩ hp;obtain⟨d,k,q⟩:=M1 hx;subst q;obtain⟨r,hr,m,n⟩:=hI.mem hy;have s':Same H (upd H' p (.tup [.int d,z])):=s.upd hp;refine⟨p,[.int d,z],rfl,SqT.of A0,rfl,.int d,[z],rfl,z,[],rfl,rfl,?_⟩;rw[g];show Sub _ (some (.int d)::some z::caps)/\_;refine⟨⟨rfl,λj v e=>?_⟩,?_⟩
  .match j,e with
   |0,e=>cases e
   |1,e=>cases e
   |j+2,e=>exact e
  .exact l d z r _ _ (List.mem_of_getElem? k) hr (n.same s') s' ⟨s',(K8 f k m).symm⟩
 .rintro zs H' ⟨s,rfl⟩ p hp;have e:(List.zipWith f xs rss).take (min (xs.map V.int).length us.length)=List.zipWith f xs rss:=by
   rw[K0,hI.1,List.take_of_length_le];rw[List.length_zipWith];exact Nat.le_refl _
  rw[e];exact hd H' p s hp
theorem a6u{src:List (Option Nat)}{σ caps:St}{Q:VK}{n:Nat}{H:Hp}{d:TT}(t:Nat->Bool)(f:n<=1000)(a:B4 src σ=none::caps)(b:∀(i:Nat) H1 (c:Bool->Hp->Prop),i<n->Same H H1->(∀H2,Same H1 H2->c (t i) H2)->d (some (.int i)::caps) H1 c)
  (hd:∀H1 p,Same H H1->H1 p=none->Q (.ref p) (upd H1 p (.lst ((((List.range n).filter t).map λ(i:Nat)=>(i:Int)).map V.int)))):J3 src (A8 0) d (Y9 0) σ Q (Itr 0 n) H:=by
 refine a0q f a (λi ys H'=>Same H H'/\ys=(((List.range i).filter t).map λ(i:Nat)=>(i:Int)).map V.int) ⟨Same.refl H,rfl⟩ (λi ys H' h=>by rw[h.2,List.length_map,List.length_map];exact Nat.le_trans (List.length_filter_le _ _) (by simp)) ?_ ?_
 .rintro i ys H' hi ⟨s,rfl⟩;refine b i H' _ hi s λH2 s2=>?_;rw[List.range_succ,List.filter_append];cases e:t i with
  |true=>exact⟨_,rfl,s.trans s2,by simp[e]⟩
  |false=>exact⟨s.trans s2,by simp[e]⟩
 .rintro ys H' ⟨s,rfl⟩ p hp;exact hd H' p s hp
end L2
namespace L2
open PySem PySem.Spec PyProof.Rows PySem.W
noncomputable def a1z(p C:Addr):HO:=.ext λh=>∃o,h.get? p=some o/\o.cls=.ref C
theorem ObjOk.there{P:Program}{w:World}{H:Hp}{h:Heap}{a:Addr}{o:HO}(x:ObjOk P w H h a o):∃u,h.get? a=some u:=by
 induction o with
 |lst xs=>obtain⟨_,_,_,_,e⟩:=x;exact⟨_,e⟩
 |tup xs=>obtain⟨_,_,_,b,e,_⟩:=x;exact⟨_,e⟩
 |dK kvs=>obtain⟨_,_,_,_,o,_,_,e,_⟩:=x;exact⟨_,e⟩
 |dT kvs=>obtain⟨_,_,_,_,o,_,_,e,_⟩:=x;exact⟨_,e⟩
 |set S n=>obtain⟨o,_,_,_,e,_⟩:=x;exact⟨_,e⟩
 |ins C dx fs=>obtain⟨_,_,_,e,_⟩:=x;exact⟨_,e⟩
 |own y=>obtain⟨_,e⟩:=x;exact⟨_,e⟩
 |xd fs=>obtain⟨_,⟨_,_,_,e,_⟩,_⟩:=x;exact⟨_,e⟩
 |rng lo hi=>obtain⟨_,_,_,e⟩:=x;exact⟨_,e⟩
 |frz b u ih=>obtain⟨e,_⟩:=x;exact⟨_,e⟩
 |tbl ps=>exact⟨_,x⟩
 |met f y=>exact⟨_,x⟩
 |ext φ=>exact x.2.1
def Cov(l:List Env)(H:Hp)(h0 h B:Heap):Prop:=∀b o,h.get? b=some o->b∉frs l->(H b≠none∨∃o',h0.get? b=some o')->B.get? b=some o
theorem a0A{P:Program}{w:World}{l:List Env}{H H':Hp}{h0 h1 h2 B base:Heap}(f:Un (frs l) [] H H' h0 h1)(hok:HOk P w H' h1)(d:Cov l H' h0 h1 B)(st:B.StaysIn h2)(up:h1.UpToSlots h2)(j:h1.FunFrames base l)(hf:∀b∈frs l,H' b=none) :
  Un (frs l) [] H H' h0 h2/\HOk P w H' h2/\Cov l H' h0 h2 B:=by
 have m:∀b,H' b≠none->b∉frs l:=λb n c=>n (hf b c);refine⟨⟨?_,?_,f.free,?_,f.tups,f.frzs,f.tbls⟩,?_,?_⟩
 .intro b o e n c hx;exact st b o (d b o (f.keep b o e n c hx) c (.inr ⟨o,e⟩))
 .intro b o e n c hx;obtain⟨sl,q⟩:=f.slot b o e n c hx;obtain⟨_,k,h,nf⟩:=j.mem c;rw[q]at h;cases h;obtain⟨i,q2⟩:=up b _ q nf;exact⟨i,q2⟩
 .intro b o e hx;obtain⟨g,q⟩:=f.there b o e hx;by_cases c:b∈frs l
  .obtain⟨_,k,h,nf⟩:=j.mem c;rw[q]at h;cases h;obtain⟨i,q2⟩:=up b _ q nf;exact⟨_,q2⟩
  .exact⟨g,st b g (d b g q c (.inr ⟨o,e⟩))⟩
 .intro a o e;refine(hok a o e).stay (λb u c q=>?_) (λ_ q=>q) λ_ _ q=>q;have ht:H' b≠none:=by
   rcases c with rfl|c
   .rw[e];intro z;cases z
   .rw[c];intro z;cases z
  exact st b u (d b u q (m b ht) (.inl ht))
 .intro b o e c ho;have ex:∃g,h1.get? b=some g:=by
   rcases ho with ht|⟨o',q⟩
   .cases eq:H' b with
    |none=>exact absurd eq ht
    |some u=>exact(hok b u eq).there
   .exact f.there b o' q (by simp)
  obtain⟨g,q1⟩:=ex;have q2:=d b g q1 c ho;have q3:=st b g q2;rw[e]at q3;cases q3;exact q2
def CXE(P:Program)(w:World):CXT:=λouter H s E e s' =>
 ∃(p C:Addr) (H':Hp) (B:Heap) (a0:Value),e=.ref p/\s'.os=s.os/\AllBare s'.gens/\Un (frs outer) [] H H' s.heap s'.heap/\HOk P w H' s'.heap /\
  H' p=none/\Heap.FlyingW B outer p (.ref C) a0 s'.heap/\Cov outer H' s.heap s'.heap B/\E (.ref C) none H'
theorem b7M{K:PySem.W.Frag}{h:Heap}{mg:Str->Option Value}{x:Str}{C:Addr}{bmB:List Value}{newId:String}(X:K.In h)(e:mg x=some (.ref C))(q:excIn K C bmB newId=true):OwnCls x C bmB newId mg h:=by
 refine⟨e,?_⟩;unfold excIn at q;split at q
 .rename_i dd cd sl ho;split at q
  .rename_i C' bm k0 k1 k2 k3 n k5 hmro hs;simp only[Bool.and_eq_true,beq_iff_eq,Bool.not_eq_true']at q;obtain⟨⟨⟨⟨⟨rfl,rfl⟩,a⟩,ht⟩,hok⟩,b⟩:=q;obtain⟨nm,bs,mro,ns,qn,hd,sn,sub,ab,col,d⟩:=cd;dsimp only at hmro a hok b;subst hmro a;have c:sl=#[k0,k1,k2,k3,some (.builtin n),k5]:=by
    obtain⟨l⟩:=sl;simp only at hs;rw[hs]
   subst c;exact⟨bm,ns,nm,qn,bs,hd,sn,sub,ab,col,dd,k0,k1,k2,k3,k5,_,X _ _ ho,.of_isNs (isNs_of_in X hok),nsMap_none_of_in X hok b,tail_of_in X ht⟩
  .cases q
 .cases q
def b0b(C:Addr)(E:XK)(t:TA):TS:=λ_ σ H=>t σ H λvs H1=>vs.length<=sizeLine/\E (.ref C) none H1
theorem b0P{P:Program}{w:World}{K:PySem.W.Frag}{mg:Str->Option Value}{base:Heap}{N:List Str}{qual:Str}{scope:Scope}{f:Addr}{cd:Value}{A:Around}{outer:List Env}{a:Shared}{m:Hp}{E:XK}
  {x:Str}{C:Addr}{bmB V:List Value}{B X newId R g L:String}{e:Expr}{es:List Expr}{t:TA}{np cpos pos:Pos}
  (O:OwnCls x C bmB newId mg base) (Fn:ExcBaseFacts X newId L V) (y:bmB.contains (.type X)=true) (FB:ExcBaseFacts B R g bmB)
  (hg:Gl (J6 (CXE P w) P w K mg base N qual scope f cd A outer a m E) x)
  (ha:PA (J6 (CXE P w) P w K mg base N qual scope f cd A outer a m E) (e::es) t) (hd:(x==("__debug__" : Str))=false:=by decide)
  (v:starEach (e::es) (envOfC qual scope a.heap.objs.size f cd)=(false,eval e (envOfC qual scope a.heap.objs.size f cd))::starEach es (envOfC qual scope a.heap.objs.size f cd):=by rfl)
  (M:(backTo cpos (starEach es (envOfC qual scope a.heap.objs.size f cd))).any (·.1)=false:=by rfl) :
  PS (J6 (CXE P w) P w K mg base N qual scope f cd A outer a m E) (.Raise (some (.Call (.Name x np) (e::es) [] cpos)) none pos) (b0b C E t):=by
 intro pins s σ H D I h;obtain⟨tl,NC,nm,q,bs,hdct,sn,sub,ab,col,dd,k0,k1,k2,k3,k5,mN,hC,hN,S,T⟩:=O.obj;refine wpAny_Raise_call_subU (C:=C) (nm:=nm) (q:=q) (N:=NC) (bs:=bs) (bm:=tl) (hdct:=hdct) (sn:=sn) (sub:=sub) (ab:=ab) (col:=col) (dd:=dd) (k0:=k0) (k1:=k1) (k2:=k2) (k3:=k3) (k5:=k5)
  Fn y FB (mN:=mN) (T.hasType FB.hasBase) (I.ok.hd rfl) (by show(backTo cpos (starEach (e::es) (envOfC qual scope a.heap.objs.size f cd))).any _=false;rw[v];show(false || (backTo cpos (starEach es (envOfC qual scope a.heap.objs.size f cd))).any (·.1))=false;rw[M];rfl) S (O5 I hg O.bound ⟨rfl,?_⟩ hd)
 have i:=ha cpos pins s σ H _ I h;have Q:starEach (e::es) (J6 (CXE P w) P w K mg base N qual scope f cd A outer a m E).env=_:=v;rw[Q]at i⊢;refine Calls.evalArgs_plain (wpAny_mono i (λus s2 ⟨vs,H1,c,r,hl,q⟩=>⟨rfl,by rw[<-r.length];exact hl,c.bk _ _ hC,hN.keeps c.bk,T.keeps c.bk,λh' p U=>?_⟩) λ_ _ z=>z);have F:∀env∈(envOfC qual scope a.heap.objs.size f cd::outer),∀b,env.frame=some b->b∈frs (envOfC qual scope a.heap.objs.size f cd::outer):=λenv v b d=>List.mem_filterMap.mpr ⟨env,v,d⟩;refine wpAny_leaves_madeW (base:=hideAll s2.heap (frs (envOfC qual scope a.heap.objs.size f cd::outer))) (h:=s2.heap) c.ok.frames rfl (λb o q=>of_hideAll _ q) (funFrames_hide c.stack F) U λh2 t Y x2 x3 x4=>?_;have j:∀b∈frs outer,b∈frs (envOfC qual scope a.heap.objs.size f cd::outer):=λb d=>by
  obtain⟨env,h1,h2⟩:=List.mem_filterMap.mp d;exact List.mem_filterMap.mpr ⟨env,List.mem_cons_of_mem _ h1,h2⟩
 have k:∀b,b∉frs outer->b≠a.heap.objs.size->b∉frs (envOfC qual scope a.heap.objs.size f cd::outer):=λb h1 h2 h3=>by
  obtain⟨env,q1,q2⟩:=List.mem_filterMap.mp h3;rcases List.mem_cons.mp q1 with rfl|q1
  .exact h2 (Option.some.inj q2).symm
  .exact h1 (List.mem_filterMap.mpr ⟨env,q1,q2⟩)
 have J:Cov outer H1 a.heap s2.heap (hideAll s2.heap (frs (envOfC qual scope a.heap.objs.size f cd::outer))):=λb o eb nb d=>by
  refine hideAll_get _ eb (k b nb λz=>?_);subst z;rcases d with d|⟨o',d⟩
  .exact d c.free
  .exact absurd (Heap.lt_size d) (Nat.lt_irrefl _)
 have hp:H1 p=none:=by
  cases eq:H1 p with
  |none=>rfl
  |some u =>
   obtain⟨o,Z⟩:=(c.hok p u eq).there;rw[U.new]at Z;cases Z
 obtain⟨U2,G,n⟩:=a0A (P:=P) (w:=w) (l:=outer) (H:=m) (H':=H1) (h0:=a.heap) (h1:=s2.heap) (h2:=h2) c.base c.hok J Y.1 ((Heap.UpToSlots.of_keeps U.keeps).trans x4) c.funs λb d=>c.stkFree b (j b d);exact⟨p,C,H1,_,.ref t,rfl,c.os,c.bare,U2,G,hp,Y,n,q⟩
def XP(X:Cx)(pins:List (Addr×Obj))(R:St->Addr->Hp->Prop)(e:Value)(s':Shared):Prop :=
 ∃(σ1:St) (H1:Hp) (s1:Shared) (p C:Addr) (H':Hp) (B:Heap) (a0:Value),e=.ref p/\Inv X pins σ1 H1 s1/\s'.os=s1.os/\AllBare s'.gens/\Un (frs X.stack) [] H1 H' s1.heap s'.heap/\HOk X.prog X.w H' s'.heap /\
  H' p=none/\Heap.FlyingW B X.stack p (.ref C) a0 s'.heap/\Cov X.stack H' s1.heap s'.heap B/\R σ1 C H'
abbrev TX:=Ends->(St->Addr->Hp->Prop)->St->Hp->Prop
def PSx(X:Cx)(sts:List Stmt)(t:TX):Prop :=
 ∀(pins:List (Addr×Obj)) (s:Shared) (σ:St) (H:Hp) (D:Ends) (R:St->Addr->Hp->Prop),Inv X pins σ H s->t D R σ H->wpAny (model X.prog X.w) X.A (execs sts X.env) (SP X pins D) (XP X pins R) s
structure OkE(P:Program)(w:World)(K:PySem.W.Frag)(mg:Str->Option Value)(base:Heap)(x:Str)(k:Nat)(ps:List Str)(sp:Sp):Prop where
 ex:∃f fd,mg x=some (.ref f)/\PySem.W.keepIn K (.ref f)=true/\Binds K fd ps []/\FnOk P w K mg base (CXE P w) k f fd ps sp
theorem FunAt.okE{P:Program}{w:World}{K:PySem.W.Frag}{mg:Str->Option Value}{base:Heap}{x:Str}{st:Stmt}{N ps:List Str}{k:Nat}{sp:Sp}(F:FunAt K mg x st ps)(S:FnScope N ps (A1 st))(len:∀vs H Q E,sp vs H Q E->vs.length=ps.length)
  (b:∀(a:Value) (f:Addr) (A:Around) (outer:List Env) (s:Shared) (H:Hp) (vs:List V) (Q:VK) (E:XK),Room k (A.deeper (envOfC x (A1 st) s.heap.objs.size f a))->sp vs H Q E ->
   ∃t,JB (J6 (CXE P w) P w K mg base N x (A1 st) f a A outer s H E) (E2 st) t/\t {nx:=λ_ H'=>Q .non H',rt:=Q} (start N vs) H):OkE P w K mg base x (k+1) ps sp:=by
 obtain⟨f,fd,h1,h2,i⟩:=F.ex;refine⟨f,fd,h1,h2.kp,i,?_⟩;obtain⟨oc,od,kV,e,pm,an,a,ct,g,rfl,j,c⟩:=h2.ex;refine b5b j c S len λA outer s H vs Q E hr d=>?_;obtain⟨t,h,q⟩:=b a f A outer s H vs Q E hr d;exact⟨t,h.h,q⟩
def b4y(i:Nat)(sp:Sp)(t:TA):TX:=λD R σ H=>t σ H λvs H1=>sp vs H1 (λv H2=>D.nx (σ.set i (some v)) H2) λc _ H'=>∃C,c=.ref C/\R σ C H'
theorem b3i{X:Cx}{k:Nat}{ps:List Str}{sp:Sp}{x y:Str}{p pos cpos pos':Pos}{e:Expr}{es:List Expr}{t:TA}{i:Nat}(l:∀e s,¬X.xe e s)(O:OkE X.prog X.w X.K X.mg X.base x k ps sp)(hr:Room k X.A)(n:Gl X x)
  (o:X.N.Nodup) (hi:X.N[i]?=some y) (m:Loc X.env.scope y) (ha:PA X (e::es) t) (d:(x==("__debug__" : Str))=false:=by decide)
  (S:starEach (e::es) X.env=(false,eval e X.env)::starEach es X.env:=by rfl) (j:(backTo cpos (starEach es X.env)).any (·.1)=false:=by rfl)
  (hs:swapsWith (.Call (.Name x p) (e::es) [] cpos) (some (.Name y pos')) pos.line X.env=pure false:=by rfl) (hf:X.fn y=true∨X.env.scope.names.lookup y=some .local:=by first|exact .inl rfl|exact .inr rfl|assumption) :
  PSx X [.Assign [.Name y pos'] (.Call (.Name x p) (e::es) [] cpos) pos] (b4y i sp t):=by
 intro pins s σ H D R I h;obtain⟨f,fd,Q,L,E,F⟩:=O.ex;refine wpAny_execs_cons (wpAny_Assign_Name ?_ hs);refine wpAny_Call_Name_kw (O5 I n Q ?_ d);refine PySem.W.callWith_K (h₀:=X.base) I.ok.mod.kin L (wpAny_mono (ha cpos pins s σ H _ I h) (λus s1 ⟨vs,H1,c,r,q⟩=>⟨c.kIn,?_⟩) λe s z=>absurd z (l e s)) S j;have hl:us.length=ps.length:=by rw[<-r.length];exact F.len _ _ _ _ q
 have b:=E s1 us c.kIn (by rw[List.append_nil];exact hl);rw[List.append_nil]at b;refine wpAny_call (codeAny_mono (F.run X.A X.stack s1 H1 ⟨us,[]⟩ us vs _ _ hr c.env0 b r q) λr s' a=>?_);cases r with
 |error e =>
  obtain⟨p,C,H',B,a0,h1,h2,V,h4,T,M,J,U,C',G,g⟩:=a;cases G;exact⟨σ,H1,s1,p,C,H',B,a0,h1,c,h2,V,h4,T,M,J,U,g⟩
 |ok fl =>
  cases fl with
  |ret u =>
   obtain⟨v,H2,P,Z,q2⟩:=c.after a;exact a0j P o hi m Z (λs2 Y=>wpAny_execs_nil ⟨_,H2,Y,q2⟩) hf
  |next=>exact False.elim a
  |brk=>exact False.elim a
  |cont=>exact False.elim a
section
variable {M:Model}{A:Around}{E:Value->Shared->Prop}
structure ClsX(K:PySem.W.Frag)(C:Addr)(above:List Value):Prop where
 ex:∃nm q N bs bm hdct sn sub ab col dd k0 k1 k2 k3 k5 newId,K.lookup C=some (excClassObj nm q C N bs bm hdct sn sub ab col dd k0 k1 k2 k3 k5 newId)/\bm.contains (.type "BaseException")=true/\∀v∈above,bm.contains v=true
theorem a2R{nm q m y:Str}{C N D L:Addr}{bs bm u c:List Value}{hdct i:Bool}{sn n:List Str}{sub k:List Value}{ab o:Bool}{col j:Option Bool}{dd v:Option Addr}{k0 k1 k2 k3 k5 G F I J z:Option Value}{newId a:String}
  {h:Heap}{g:Array GenState}{d:Drawn}{t:Nat}{os:OsState}{e:Addr}{x:Obj}{Q:Bool->Shared->Prop}
  (K:h.get? C=some (excClassObj nm q C N bs bm hdct sn sub ab col dd k0 k1 k2 k3 k5 newId)) (w:h.get? D=some (excClassObj m y D L u c i n k o j v G F I J z a)) (H:h.get? e=some x) (l:x.cls=.ref C)
  (b:c.contains (.type "BaseException")=true) (p:bm.contains (.ref D)=true) (B:Q true ⟨h,g,d,t,os⟩):wpAny M A (excMatches (.ref e) (.ref D)) Q E ⟨h,g,d,t,os⟩:=by
 have r:(Value.ref D::c).contains (.type "BaseException")=true:=by rw[List.contains_cons,b,Bool.or_true]
 have s:(Value.ref C::bm).contains (.ref D)=true:=by rw[List.contains_cons,p,Bool.or_true]
 have f:=tc_notTuple;unfold excMatches
 repeat (first | (with_reducible refine wpAny_loadPart_at H ?_;rw[l])|with_reducible refine wpAny_loadPart_at w ?_ | (with_reducible refine wpAny_isSubtype_exc w ?_;rw[r]) | (with_reducible refine wpAny_isSubtype_exc K ?_;rw[s])|wp_step)
 exact B
end
section
variable {X:Cx}{pins:List (Addr×Obj)}{σ:St}{H1 H':Hp}{s1 s':Shared}{p C:Addr}{B:Heap}{a0:Value}{h2:Heap}
theorem Inv.land(e:Inv X pins σ H1 s1)(d:s'.os=s1.os)(h:AllBare s'.gens)(f:Un (frs X.stack) [] H1 H' s1.heap s'.heap)(hok:HOk X.prog X.w H' s'.heap)(j:s'.heap.FunFrames B X.stack)(c:Cov X.stack H' s1.heap s'.heap B)(st:B.StaysIn h2)(up:s'.heap.UpToSlots h2) :
  Inv X pins σ H' {s' with heap:=h2}:=by
 have hf:∀b∈frs X.stack,H' b=none:=λb g=>by
  obtain⟨_,o,i,_⟩:=e.stack.mem g;exact f.free b o i (e.stkFree b g) (by simp)
 obtain⟨U2,a,_⟩:=a0A f hok c st up j hf;exact e.call' (ch:=[]) d U2 a h (λb z=>absurd z (by simp))
theorem Inv.landX(A:Inv X pins σ H1 s1)(y:s'.os=s1.os)(F:AllBare s'.gens)(D:Un (frs X.stack) [] H1 H' s1.heap s'.heap)(hok:HOk X.prog X.w H' s'.heap)(hp:H' p=none)(I:s'.heap.FunFrames B X.stack)(m:Cov X.stack H' s1.heap s'.heap B)(c:Heap.FlyingW B X.stack p (.ref C) a0 h2)(up:s'.heap.UpToSlots h2) :
  Inv X pins σ (upd H' p (a1z p C)) {s' with heap:=h2}:=by
 have hf:∀b∈frs X.stack,H' b=none:=λb h=>by
  obtain⟨_,o,r,_⟩:=A.stack.mem h;exact D.free b o r (A.stkFree b h) (by simp)
 obtain⟨U2,l,g⟩:=a0A D hok m c.1 up I hf;obtain⟨j,d,s⟩:=c.there;have v:p∉frs X.stack:=λh=>by
  obtain⟨_,o,r,nf⟩:=c.2.2.1.mem h;obtain⟨G,vs,_,_,_,f,_,i,_⟩:=c.2.2.2;rw[r]at f;cases f;exact nf vs i
 have t:∀o,s1.heap.get? p≠some o:=λo e=>by
  have:=g p j d v (.inr ⟨o,e⟩);rw[c.2.1]at this;cases this
 have E:Un (frs X.stack) [] H1 (upd H' p (a1z p C)) s1.heap h2:=by
  refine⟨U2.keep,U2.slot,λb o e n H=>?_,U2.there,λb xs e=>?_,λb o u e=>?_,λb ps e=>?_⟩
  .rw[A2 (by rintro rfl;exact t o e)];exact U2.free b o e n H
  .have q:=U2.tups b xs e;rw[A2 (by rintro rfl;rw[hp]at q;cases q)];exact q
  .have q:=U2.frzs b o u e;rw[A2 (by rintro rfl;rw[hp]at q;cases q)];exact q
  .obtain⟨more,q⟩:=U2.tbls b ps e;exact⟨more,by rw[A2 (by rintro rfl;rw[hp]at q;cases q)];exact q⟩
 have x:HOk X.prog X.w (upd H' p (a1z p C)) h2:=λa o e=>by
  by_cases ha:a=p
  .subst ha;rw[A0]at e;cases e;exact⟨⟨j,d,s⟩,⟨j,d⟩,λK J ⟨o,q1,q2⟩ k=>⟨o,k o q1,q2⟩⟩
  .rw[A2 ha]at e;refine(l a o e).stay (λb u _ q=>q) (λb q=>?_) λb xs q=>?_
   .rw[A2 (by rintro rfl;rw[hp]at q;cases q)];exact q
   .rw[A2 (by rintro rfl;rw[hp]at q;cases q)];exact q
 exact A.call' (ch:=[]) y E x F (λb z=>absurd z (by simp))
end
section
variable {X:Cx}{pins:List (Addr×Obj)}{σ:St}{H:Hp}{s:Shared}
theorem a9a{M:Model}{A:Around}{E:Value->Shared->Prop}{i:Nat}{n:Str}{pos:Pos}{Q:Unit->Shared->Prop}(I:Inv X pins σ H s)(D:X.N.Nodup)(hi:X.N[i]?=some n)(K:X.env.scope.names.lookup n=some .local)
  (h:∀s',Inv X pins (σ.set i none) H s'->Q () s'):wpAny M A (do bindName X.env n .none;unbindBehindTheSuite X.env n pos) Q E s:=by
 obtain⟨m,B,hl⟩:=I.loc;have r:(X.env.scope.kind==.class || (X.env.scope.kind==.module && X.env.locals != X.env.globals))=false:=by rw[I.ok.kind];rfl
 have hiσ:i<σ.length:=by rw[I.len];exact(List.getElem?_eq_some_iff.mp hi).1
 have cne:=I.cne;refine wpAny_nameGoes_keeps K B r λh' v u hs=>?_;obtain⟨R,_,_,P,_⟩:=id B;have a:HOk X.prog X.w H h':=λb G e=>by
  refine(I.hok b G e).stay (λc C hc q=>(hs.2 c ?_).trans q) (λ_ q=>q) λ_ _ q=>q;have f:=I.free;rintro rfl;rcases hc with z|hc
  .rw[<-z,f]at e;cases e
  .rw[f]at hc;cases hc
 refine h _ ⟨I.ok,I.os,I.bare,⟨λb o e n x l=>?_,λb o e n x l=>?_,I.base.free,λb o e l=>?_,I.base.tups,I.base.frzs,I.base.tbls⟩,⟨_,u,λj y O g t J=>?_⟩,λy c e=>?_,I.free,I.freeC,λp hp=>?_,a,by simpa using I.len⟩
 .exact(hs.2 b (Nat.ne_of_lt (Nat.lt_of_lt_of_le (Heap.lt_size e) I.ok.above))).trans (I.base.keep b o e n x l)
 .obtain⟨sl,g⟩:=I.base.slot b o e n x l;exact⟨sl,(hs.2 b (Nat.ne_of_lt (Nat.lt_of_lt_of_le (Heap.lt_size e) I.ok.above))).trans g⟩
 .obtain⟨o',g⟩:=I.base.there b o e l;exact⟨o',(hs.2 b (Nat.ne_of_lt (Nat.lt_of_lt_of_le (Heap.lt_size e) I.ok.above))).trans g⟩
 .by_cases hj:j=i
  .subst hj;rw[List.getElem?_set_self hiσ]at t;cases t
  .rw[List.getElem?_set_ne (Ne.symm hj)]at t;obtain⟨L,F,q⟩:=hl j y O g t J;refine⟨L,F,?_⟩;rcases q with⟨k,e⟩|⟨k,c,e,z⟩
   .refine .inl ⟨k,?_⟩;have:y≠n:=λe=>hj (a2q D g (e ▸ hi));simp[this,e]
   .exact .inr ⟨k,c,e,z.sameBut hs (cne y c e)⟩
 .obtain⟨C,z⟩:=I.cell y c e;exact⟨C,z.sameBut hs (cne y c e)⟩
 .obtain⟨e,n,ne,nf,d⟩:=I.pin p hp;exact⟨(hs.2 p.1 ne).trans e,n,ne,nf,d⟩
noncomputable abbrev Cx.held(X:Cx)(p:Addr):Cx:={X with A:=X.A.mark (some (.ref p)),calm:=false,xe:=λ_ _=>False}
theorem Inv.held(I:Inv X pins σ H s)(p:Addr):Inv (X.held p) pins σ H s :=
 ⟨⟨I.ok.mod,I.ok.kind,I.ok.glob,I.ok.blt,I.ok.above,I.ok.inj,I.ok.has,I.ok.cab,(λz=>by cases z),I.ok.frames,I.ok.stk,I.ok.exf,I.ok.bs,I.ok.bsz,I.ok.noex,I.ok.exfs,I.ok.funs,I.ok.frf⟩,I.os,I.bare,I.base,I.loc,I.cell,I.free,I.freeC,I.pin,I.hok,I.len⟩
theorem Inv.unheld{p:Addr}(J:X.Ok)(I:Inv (X.held p) pins σ H s):Inv X pins σ H s :=
 ⟨J,I.os,I.bare,I.base,I.loc,I.cell,I.free,I.freeC,I.pin,I.hok,I.len⟩
end
def b0a(K:PySem.W.Frag)(D:Addr)(j:Nat)(tx:TX)(ts:TS):TS:=λDe σ H=>tx De (λσ1 C H'=>ClsX K C [.ref D]/\∀p,H' p=none->ts {nx:=λσ2 H2=>De.nx (σ2.set j none) H2,rt:=λ_ _=>False} (σ1.set j (some (.ref p))) (upd H' p (a1z p C))) σ H
theorem b0O{X:Cx}{body:List Stmt}{tx:TX}{R:TS}{m n:Str}{np l pos:Pos}{V:Stmt}{a:List Stmt}{j:Nat}{D:Addr}(d:X.stack=X.env::X.outer)(r:X.env.frame=some X.env.locals)(hx:PSx X body tx)
  (Z:Gl X m) (hm:X.mg m=some (.ref D)) (hD:ClsX X.K D []) (Q:X.N.Nodup) (W:X.N[j]?=some n) (A:X.env.scope.names.lookup n=some .local)
  (P:∀p,PSs (X.held p) (V::a) R) (hd:(m==("__debug__" : Str))=false:=by decide) :
  PS X (.Try body [.ExceptHandler (some (.Name m np)) (some n) (V::a) l] [] [] pos) (b0a X.K D j tx R):=by
 intro pins s σ H Y I h;refine wpAny_Try_except (wpAny_mono (hx pins s σ H Y _ I h) (λf s1 q=>?_) λe s' q=>?_)
 .cases f with
  |next=>exact wpAny_execs_nil q
  |brk=>exact q
  |cont=>exact q
  |ret v=>exact q
 .obtain⟨σ1,H1,s1,p,C,H',B,a0,rfl,I1,hos,hbare,hU,hok,hp,fl,cov,hC,k⟩:=q;have T:=fl.2.2.1;have i:=fl;rw[d]at i;refine wpAny_looks_onW (L:=X.env.locals) (by rw[<-d];exact I1.ok.frames) r i λh4 g t=>?_;refine wpAny_landsW g λh5 b c=>?_;rw[<-d]at b;have c:=t.trans c;have w:Inv X pins σ1 H' {s' with heap:=h5}:=I1.land hos hbare hU hok T cov b.1 c;refine wpAny_handleBy_cons (codeAny_handlers_test ?_) (by intro q;cases q);refine O5 (X:=X.held p) (w.held p) Z hm ?_ hd;obtain⟨oe,x,y⟩:=b.there;obtain⟨nm,q,NN,bs,bm,hdct,sn,sub,ab,col,dd,k0,k1,k2,k3,k5,newId,J,_,M⟩:=hC.ex;obtain⟨a1,q',a4,a6,a5,O,a2,U,a3,S,a7,j0,j1,j2,j3,j5,o,E,F,_⟩:=hD.ex;refine a2R (w.kIn _ _ J) (w.kIn _ _ E) x y F (M _ (List.mem_cons_self ..)) ?_;refine codeAny_handlers_suite_as ?_;refine lands_againW b λh6 u G=>?_;have I6:Inv X pins σ1 (upd H' p (a1z p C)) {s' with heap:=h6}:=I1.landX hos hbare hU hok hp T cov u (c.trans G);refine a0j I6 Q W (.inl A) (v:=.ref p) rfl (λs7 I7=>?_) (.inr A);refine wpAny_mono (P p pins s7 _ _ _ (I7.held p) (k p hp)) (λf s8 q8=>?_) λ_ _ z=>False.elim z;cases f with
  |next =>
   obtain⟨σ2,H2,I8,q8⟩:=q8;exact a9a (I8.unheld I.ok) Q W A λs9 I9=>⟨_,H2,I9,q8⟩
  |brk=>obtain⟨_,_,_,z⟩:=q8;exact False.elim z
  |cont=>obtain⟨_,_,_,z⟩:=q8;exact False.elim z
  |ret v=>obtain⟨_,_,_,_,_,z⟩:=q8;exact False.elim z
def a2U(K:PySem.W.Frag)(C:Addr)(above:List Value):Bool:=match K.lookup C with
 |some ⟨.type "type",_,.cls cd,sl⟩=>(match cd.mro,sl.toList with
  |.ref C'::bm,[_,_,_,_,some (.builtin _),_]=>C'==C && !cd.hasDel && bm.contains (.type "BaseException") && above.all λv=>bm.contains v
  |_,_=>false)
 |_=>false
theorem a1T{K:PySem.W.Frag}{C:Addr}{above:List Value}(q:a2U K C above=true):ClsX K C above:=by
 unfold a2U at q;split at q
 .rename_i dd cd sl ho;split at q
  .rename_i C' bm k0 k1 k2 k3 n k5 hmro hs;simp only[Bool.and_eq_true,beq_iff_eq,Bool.not_eq_true',List.all_eq_true]at q;obtain⟨⟨⟨rfl,a⟩,e⟩,ha⟩:=q;obtain⟨nm,bs,mro,ns,qn,hd,sn,sub,ab,col,d⟩:=cd;dsimp only at hmro a;subst hmro a;have b:sl=#[k0,k1,k2,k3,some (.builtin n),k5]:=by
    obtain⟨l⟩:=sl;simp only at hs;rw[hs]
   subst b;exact⟨nm,qn,ns,bs,bm,hd,sn,sub,ab,col,dd,k0,k1,k2,k3,k5,n,ho,e,λv c=>ha v c⟩
  .cases q
 .cases q
structure JX(X:Cx)(sts:List Stmt)(t:TX):Prop where
 h:PSx X sts t
section
variable {X:Cx}{k:Nat}{ps:List Str}{sp:Sp}{x y:Str}{p pos cpos pos':Pos}{e:Expr}{es:List Expr}{t:TA}{i:Nat}
theorem b6k(O:OkE X.prog X.w X.K X.mg X.base x k ps sp)(hr:Room k X.A)(f:Gl X x)(g:X.N.Nodup)(hi:X.N[i]?=some y)(d:Loc X.env.scope y)(ha:JA X (e::es) t)(c:∀e s,¬X.xe e s:=by exact λ_ _ z=>z)(a:(x==("__debug__" : Str))=false:=by decide)
  (j:starEach (e::es) X.env=(false,eval e X.env)::starEach es X.env:=by rfl) (b:(backTo cpos (starEach es X.env)).any (·.1)=false:=by rfl)
  (hs:swapsWith (.Call (.Name x p) (e::es) [] cpos) (some (.Name y pos')) pos.line X.env=pure false:=by rfl) (hf:X.fn y=true∨X.env.scope.names.lookup y=some .local:=by first|exact .inl rfl|exact .inr rfl|assumption) :
  JX X [.Assign [.Name y pos'] (.Call (.Name x p) (e::es) [] cpos) pos] (b4y i sp t):=⟨b3i c O hr f g hi d ha.h a j b hs hf⟩
theorem b1K(K:PySem.W.Frag){body:List Stmt}{tx:TX}{i:TS}{c n:Str}{k b pos:Pos}{g:Stmt}{a:List Stmt}{j:Nat}{D:Addr}(u:JX X body tx)(l:Gl X c)(q:X.mg c=some (.ref D))(o:ClsX K D [])(m:X.N.Nodup)(t:X.N[j]?=some n)
  (s:X.env.scope.names.lookup n=some .local) (f:∀p,JB (X.held p) (g::a) i) (r:X.K=K:=by rfl) (e:X.stack=X.env::X.outer:=by rfl) (d:X.env.frame=some X.env.locals:=by rfl) (hd:(c==("__debug__" : Str))=false:=by decide) :
  JS X (.Try body [.ExceptHandler (some (.Name c k)) (some n) (g::a) b] [] [] pos) (b0a K D j tx i):=by
 subst r;exact⟨b0O e d u.h l q o m t s (λp=>(f p).h) hd⟩
end
theorem b1L{P:Program}{w:World}{K:PySem.W.Frag}{mg:Str->Option Value}{base:Heap}{N:List Str}{qual:Str}{scope:Scope}{f:Addr}{cd:Value}{A:Around}{outer:List Env}{b:Shared}{i:Hp}{E:XK}
  {x:Str}{C:Addr}{bmB j:List Value}{B l newId c a d:String}{e:Expr}{es:List Expr}{t:TA}{m cpos pos:Pos}
  (O:OwnCls x C bmB newId mg base) (o:ExcBaseFacts l newId d j) (k:bmB.contains (.type l)=true) (p:ExcBaseFacts B c a bmB)
  (n:Gl (J6 (CXE P w) P w K mg base N qual scope f cd A outer b i E) x)
  (ha:JA (J6 (CXE P w) P w K mg base N qual scope f cd A outer b i E) (e::es) t) (hd:(x==("__debug__" : Str))=false:=by decide)
  (q:starEach (e::es) (envOfC qual scope b.heap.objs.size f cd)=(false,eval e (envOfC qual scope b.heap.objs.size f cd))::starEach es (envOfC qual scope b.heap.objs.size f cd):=by rfl)
  (g:(backTo cpos (starEach es (envOfC qual scope b.heap.objs.size f cd))).any (·.1)=false:=by rfl) :
  JS (J6 (CXE P w) P w K mg base N qual scope f cd A outer b i E) (.Raise (some (.Call (.Name x m) (e::es) [] cpos)) none pos) (b0b C E t):=⟨b0P O o k p n ha.h hd q g⟩
end L2
namespace L2
open PySem PySem.Spec PyProof.Rows PySem.W Builtin Builtin.ObjectAttr Builtin.Getset_descriptor
section
variable {K:PySem.W.Frag}{prog:Program}{w:World}{A:Around}{E:Value->Shared->Prop}{h:Heap}{g:Array GenState}{d:Drawn}{t:Nat}{os:OsState}{a:Addr}{o:Obj}
 {nm q:Str}{C N:Addr}{bs bm:List Value}{hdct:Bool}{sn:List Str}{sub:List Value}{ab:Bool}{col:Option Bool}{dd:Option Addr}{k0 k1 k2 k3 k5:Option Value}{newId:String}
theorem a9O{M:Model}{b:Value}{Q:Unit->Shared->Prop}(j:h.get? C=some (excClassObj nm q C N bs bm hdct sn sub ab col dd k0 k1 k2 k3 k5 newId))(i:bm.contains (.type "BaseException")=true)
  (f:h.get? a=some o) (hc:o.cls=.ref C) (l:Q () ⟨h,g,d,t,os⟩):wpAny M A (checkBuiltinCall "BaseException.__getattribute__" ⟨[.ref a,b],[]⟩) Q E ⟨h,g,d,t,os⟩:=by
 have k:builtinKind "BaseException.__getattribute__"=some .slot:=by decide +kernel
 have c:splitId "BaseException.__getattribute__"=some ("BaseException","__getattribute__"):=by decide +kernel
 have e:(Value.ref C::bm).contains (.type "BaseException")=true:=by rw[List.contains_cons,i];rfl
 have ha:=F.args_bexc_ga (.ref a) b;simp only[checkBuiltinCall,k,c];refine wpAny_bind ?_
 .unfold isInstance
  repeat (first | (with_reducible refine wpAny_loadPart_at f ?_;rw[hc]) | (with_reducible refine wpAny_isSubtype_exc j ?_;rw[e])|wp_step)
  exact l
theorem a6X{M:Model}(b:h.get? a=some o)(hc:o.cls=.ref C):Looks M h (typeOf (.ref a)) (.ref C):=hc ▸ (Looks.ld b).andThen .now
theorem b5e{R:Result->Shared->Prop}{f:Value}(X:K.In h)(b:h.get? a=some o)(hc:o.cls=.ref C)(c:mroIn K C (.type "object")=some true)(e:R (.ok (.ret (.ref C))) ⟨h,g,d,t,os⟩) :
  codeAny (model prog w) A (.call (.builtin "getset_descriptor.__get__") ⟨[.builtin "object.__class__",.ref a,f],[]⟩) R ⟨h,g,d,t,os⟩:=by
 have j:=a6X (M:=model prog w) b hc;have i:=looks_mroIn (M:=model prog w) X c;refine codeAny_call_builtin KF.slot_gs.plain KF.entry_gs (KF.slot_gs.check _ _ _ _ _ _ _ _ KF.type_class (KF.args_gs _ _ _) ?_);unfold Builtin.«getset_descriptor.__get__» descrGet;rw[dga_obj];refine wpAny_bind (wpAny_pure ?_);unfold descrGetter descrCheckInstance descrNameAndClass isInstance;simp only[KF.owner_class]
 repeat lk
 refine⟨Code.quiet_builtin _ (by decide +kernel),codeAny_builtin KF.entry_class ?_⟩;unfold Builtin.«object.__class__» shownTypeOf
 repeat lk
 exact e
theorem a9N{tk:Tok}{Q:Fin->Shared->Prop}(X:K.In h)(e:mroIn K C (.type "object")=some true)(b:findIn K (.ref C) "__class__"=some (some (.builtin "object.__class__")))(c:h.get? a=some o)(hc:o.cls=.ref C)(i:Q (.done (.ret (.ref C))) ⟨h,g,d,t,os⟩) :
  wpAny (model prog w) A (Builtin.«object.__getattribute__» ⟨[.ref a,.str "__class__" tk],[]⟩) Q E ⟨h,g,d,t,os⟩:=by
 have L:=looks_findIn (M:=model prog w) X b;have k:=F.slot_gs_get.lookup;have j:=F.slot_gs_set.lookup;have f:=KF.type_class
 repeat (any_goals (first|assumption | (with_reducible refine wpAny_loadPart_at c ?_;rw[hc])|with_reducible refine L.at ?_|wp_step))
 refine b5e X c hc e ?_
 repeat (any_goals (first|assumption|wp_step))
theorem b2G{Q:Option Value->Shared->Prop}(X:K.In h)(m:h.get? C=some (excClassObj nm q C N bs bm hdct sn sub ab col dd k0 k1 k2 k3 k5 newId))(l:bm.contains (.type "BaseException")=true)(n:mroIn K C (.type "object")=some true)
  (e:findIn K (.ref C) "__class__"=some (some (.builtin "object.__class__"))) (f:findIn K (.ref C) "__getattribute__"=some (some (.builtin "BaseException.__getattribute__"))) (b:findIn K (.ref C) "__getattr__"=some none)
  (c:h.get? a=some o) (hc:o.cls=.ref C) (k:Q (some (.ref C)) ⟨h,g,d,t+1,os⟩):wpAny (model prog w) A (getAttr? (.ref a) "__class__") Q E ⟨h,g,d,t,os⟩:=by
 have r:=looks_findIn (M:=model prog w) X f;have L2:=looks_findIn (M:=model prog w) X b;have j:=PySem.F.attrBase_ValueError;have s:=j.ga.bind (.ref a);have i:(Value.builtin "BaseException.__getattribute__"==Value.builtin "object.__getattribute__")=false:=by decide +kernel
 have p:(onTheHeap (Value.ref C) && Value.builtin "BaseException.__getattribute__"==Value.builtin "object.__getattribute__")=false:=by rw[i];rfl
 unfold getAttr? getAttrBy? getAttrBy
 repeat (any_goals (first|assumption | (with_reducible refine wpAny_loadPart_at c ?_;rw[hc])|with_reducible refine r.at ?_|with_reducible refine L2.at ?_|wp_step))
 refine codeAny_call_builtin j.ga.plain F.entry_bexc_ga (a9O m l c hc (a9N X n e c hc ?_));exact handed_on rfl (wpAny_pure k)
structure IsX(K:PySem.W.Frag)(C:Addr):Prop where
 cls:ClsX K C []
 mro:mroIn K C (.type "object")=some true
 cl:findIn K (.ref C) "__class__"=some (some (.builtin "object.__class__"))
 ga:findIn K (.ref C) "__getattribute__"=some (some (.builtin "BaseException.__getattribute__"))
 gr:findIn K (.ref C) "__getattr__"=some none
theorem a2y(Z:IsX K C):KitX K (.ref a) (.ref C) (λh=>∃o,h.get? a=some o/\o.cls=.ref C) where
 ty:=λ_ _ _ ⟨o,f,hc⟩=>a6X f hc
 it:=λ_ _ X _=>by
  obtain⟨nm,q,N,bs,bm,hdct,sn,sub,ab,col,dd,k0,k1,k2,k3,k5,newId,b,_⟩:=Z.cls.ex;intro r p m s' k q;unfold isType loadHead;exact wpAny_bind (wpAny_loadPart (k _ _ (X _ _ b)) (wpAny_pure q))
 ne:=λh l dd its n sl X c=>by
  obtain⟨nm,q,N,bs,bm,hdct,sn,sub,ab,col,dd,k0,k1,k2,k3,k5,newId,b,_⟩:=Z.cls.ex;refine Bool.eq_false_iff.mpr λq=>?_;have e:C=l:=Value.ref.inj (beq_iff_eq.mp q);subst e;have z:=congrArg Obj.data (Option.some.inj ((X _ _ b).symm.trans c));unfold excClassObj at z;cases z
 ca:=λ{prog w A E Q s} X ⟨o,f,hc⟩ i=>by
  obtain⟨nm,q,N,bs,bm,hdct,sn,sub,ab,col,dd,k0,k1,k2,k3,k5,newId,b,j,_⟩:=Z.cls.ex;obtain⟨h,g,d,t,os⟩:=s;exact b2G X (X _ _ b) j Z.mro Z.cl Z.ga Z.gr f hc i
end
section
variable {X:Cx}{es:List Expr}{e:Expr}{t:TA}{pos p:Pos}
def b7k(K:PySem.W.Frag):RL:=λxs H Q=>∃(p C:Addr) (vc:V) (b:Bool),xs=[.ref p,vc]/\H p=some (a1z p C)/\IsX K C /\
 ((∃n,vc=.ty n/\kitOne K (.ref C) (.type n)=some b)∨(∃D,vc=.ref D/\kitOne K (.ref C) (.ref D)=some b)∨∃(tp:Addr) (Ds:List Addr),vc=.ref tp/\H tp=some (.tup (Ds.map V.ref))/\kitAny K (.ref C) (Ds.map Value.ref)=some b)/\Q (.bl b) H
theorem a3i:∀{a:List Addr}{us:List Value},Vals (a.map V.ref) us->us=a.map Value.ref
 |[],_,.nil=>rfl
 |D::a,_,.cons r t=>by
  have:=a3i t;subst this;cases r;rfl
theorem b2r(K:PySem.W.Frag)(y:X.K=K:=by rfl):C7 X (.builtin "isinstance") (b7k K):=by
 subst y;intro pins s σ H xs us Q I A h;obtain⟨p,C,B,b,rfl,hp,Z,hc,q⟩:=h;obtain⟨u,v,rfl,x,a⟩:=A.two;cases x;have f:∃o,s.heap.get? p=some o/\o.cls=.ref C:=(I.hok p _ hp).1;rcases hc with⟨n,rfl,e⟩|⟨D,rfl,e⟩|⟨g,t,rfl,c,e⟩
 .cases a;exact kia_one (a2y Z) I.kIn f e (λz=>nomatch z) λtk=>⟨.bl b,H,I.tok tk,rfl,q⟩
 .cases a;exact kia_one (a2y Z) I.kIn f e (λz=>nomatch z) λtk=>⟨.bl b,H,I.tok tk,rfl,q⟩
 .cases a;obtain⟨_,its,r,j,m,k,d⟩:=(show ObjOk X.prog X.w H s.heap g (.tup (t.map V.ref))from I.hok g _ c);have:=a3i r;subst this;obtain⟨oc,od,i,l⟩:=j;obtain⟨n,d⟩:=d;cases k;cases d;exact kia_tup (a2y Z) I.kIn f m e (λz=>nomatch z) λtk=>⟨.bl b,H,I.tok tk,rfl,q⟩
theorem M8(K:PySem.W.Frag)(b:Gl X "isinstance")(c:X.mg "isinstance"=none)(ha:JA X (e::es) t)(f:X.K=K:=by rfl)(d:starEach (e::es) X.env=(false,eval e X.env)::starEach es X.env:=by rfl)(a:(backTo pos (starEach es X.env)).any (·.1)=false:=by rfl) :
  JE X (.Call (.Name "isinstance" p) (e::es) [] pos) (tCB (b7k K) t):=⟨D8 (b2r K f) b c Z8 ha.h (by decide) (by decide) d a⟩
theorem a2F{x:Str}{v:V}{u:Value}(b:Gl X x)(a:X.mg x=some u)(r:RelV v u)(hd:(x==("__debug__" : Str))=false:=by decide):JE X (.Name x pos) (tC v):=⟨b3B b a r hd⟩
end
end L2
namespace L2
open PySem PySem.Spec PyProof.Rows
theorem a2L{α:Type}{ca:α->V}{xs:List α}{i:Nat}{x:V}(h:(xs.map ca)[i]?=some x):∃z,xs[i]?=some z/\x=ca z:=by
 rw[List.getElem?_map]at h;cases e:xs[i]? with
 |none=>rw[e]at h;cases h
 |some z=>rw[e]at h;exact⟨z,rfl,(Option.some.inj h).symm⟩
theorem b2E{α β:Type}{K:PySem.W.Frag}{src:List (Option Nat)}{σ caps:St}{Q:VK}{k1 k2:Bool}{a b:Addr}(ca:α->V)(d:β->V){xs:List α}{ys:List β}{H:Hp}{te:TE}(f:α->β->V)(hl:xs.length<=1000)
  (c:∀H',Same H H'->SqK k1 K H' a (xs.map ca)/\SqK k2 K H' b (ys.map d))
  (l:B4 src σ=none::none::caps) (o:∀x y H1 q,x∈xs->y∈ys->Same H H1->(∀H2,Same H1 H2->q (f x y) H2)->te (some (ca x)::some (d y)::caps) H1 q)
  (hd:∀H1 p,Same H H1->H1 p=none->Q (.ref p) (upd H1 p (.lst (List.zipWith f xs ys)))) :
  J3 src (a6M K 2 (Z6 (A8 0) (Z6 (A8 1) a9n))) U5 te σ Q (Itz K k1 k2 a b) H:=by
 have hz:(1000:Nat)<=sizeLine:=by rw[sizeLine_eq];decide
 refine W6 (xs:=xs.map ca) (zs:=ys.map d) (by rw[List.length_map];omega) (λi zs H'=>Same H H'/\zs=(List.zipWith f xs ys).take i) ⟨Same.refl H,by simp⟩ (λi zs H' _ _ h=>⟨(c H' h.1).1,(c H' h.1).2,by rw[h.2];exact List.length_take_le _ _⟩) ?_ ?_
 .rintro i x z zs H' p hx hy ⟨s,rfl⟩ hp;obtain⟨k,n,t⟩:=a2L hx;obtain⟨g,m,r⟩:=a2L hy;subst t r;clear hx hy;have s':Same H (upd H' p (.tup [ca k,d g])):=s.upd hp;refine⟨p,[ca k,d g],rfl,SqT.of A0,rfl,ca k,[d g],rfl,d g,[],rfl,rfl,?_⟩;rw[l];show Sub _ (some (ca k)::some (d g)::caps)/\_;refine⟨⟨rfl,λj v e=>?_⟩,?_⟩
  .match j,e with
   |0,e=>cases e
   |1,e=>cases e
   |j+2,e=>exact e
  .exact o k g _ _ (List.mem_of_getElem? n) (List.mem_of_getElem? m) s' λH2 s2=>⟨s'.trans s2,(K8 f n m).symm⟩
 .rintro zs H' ⟨s,rfl⟩ p hp;have e:(List.zipWith f xs ys).take (min (xs.map ca).length (ys.map d).length)=List.zipWith f xs ys:=by
   rw[List.length_map,List.length_map,List.take_of_length_le];rw[List.length_zipWith];exact Nat.le_refl _
  rw[e];exact hd H' p s hp
theorem a8y{α:Type}{K:PySem.W.Frag}{src:List (Option Nat)}{σ caps:St}{Q:VK}{a:Addr}(ca:α->V){xs:List α}{H:Hp}{j:TT}(t:α->Bool)(hl:xs.length<=1000)(b:∀H',Same H H'->SqT K H' a (xs.map ca))(c:B4 src σ=none::caps)
  (f:∀x H1 (g:Bool->Hp->Prop),x∈xs->Same H H1->(∀H2,Same H1 H2->g (t x) H2)->j (some (ca x)::caps) H1 g) (hd:∀H1 p,Same H H1->H1 p=none->Q (.ref p) (upd H1 p (.lst ((xs.filter t).map ca)))):J3 src (A8 0) j (Y9 0) σ Q (Itt K a) H:=by
 have hz:(1000:Nat)<=sizeLine:=by rw[sizeLine_eq];decide
 refine a0C (xs:=xs.map ca) (by rw[List.length_map];omega) (λi ys H'=>Same H H'/\ys=((xs.take i).filter t).map ca) ⟨Same.refl H,by simp⟩ (λi ys H' _ h=>⟨b H' h.1,by rw[h.2,List.length_map];exact Nat.le_trans (List.length_filter_le _ _) (List.length_take_le _ _)⟩) ?_ ?_
 .rintro i x ys H' hx ⟨s,rfl⟩;obtain⟨z,d,rfl⟩:=a2L hx;show Sub _ ((B4 src σ).set 0 (some (ca z)))/\_;rw[c];refine⟨Sub.one,f z H' _ (List.mem_of_getElem? d) s λH2 s2=>?_⟩;rw[List.take_add_one,d];cases e:t z with
  |true=>exact⟨_,rfl,s.trans s2,by simp[e]⟩
  |false=>exact⟨s.trans s2,by simp[e]⟩
 .rintro ys H' ⟨s,rfl⟩ p hp;rw[List.length_map,List.take_length];exact hd H' p s hp
theorem b7t{P:Program}{w:World}{K:PySem.W.Frag}{mg:Str->Option Value}{base:Heap}{N:List Str}{qual:Str}{scope:Scope}{f:Addr}{cd:Value}{A:Around}{outer:List Env}{d:Shared}{v:Hp}{E:XK} :
  X0 (CXE P w) (J6 (CXE P w) P w K mg base N qual scope f cd A outer d v E) E:=by
 intro pins σ H1 s1 e s' I h;obtain⟨p,C,H',B,a0,rfl,s,t,y,hok,hp,c,i,q⟩:=h;have g:=I.land s t y hok c.2.2.1 i c.1 (λb o e _=>⟨o.slots,e⟩);refine wpAny_leaves_onW (base:=B) I.ok.frames rfl c λh' u D=>?_;have n:∀b∈frs outer,b∈frs (envOfC qual scope d.heap.objs.size f cd::outer):=λb a=>by
  obtain⟨env,h1,h2⟩:=List.mem_filterMap.mp a;exact List.mem_filterMap.mpr ⟨env,List.mem_cons_of_mem _ h1,h2⟩
 have j:∀b,b∉frs outer->b≠d.heap.objs.size->b∉frs (envOfC qual scope d.heap.objs.size f cd::outer):=λb h1 h2 F=>by
  obtain⟨env,q1,q2⟩:=List.mem_filterMap.mp F;rcases List.mem_cons.mp q1 with rfl|q1
  .exact h2 (Option.some.inj q2).symm
  .exact h1 (List.mem_filterMap.mpr ⟨env,q1,q2⟩)
 have k:Cov outer H' d.heap s'.heap B:=λb o x nb a=>by
  refine i b o x (j b nb λz=>?_) ?_
  .subst z;rcases a with a|⟨o',a⟩
   .exact a g.free
   .exact absurd (Heap.lt_size a) (Nat.lt_irrefl _)
  .rcases a with a|⟨o',a⟩
   .exact .inl a
   .exact .inr (I.base.there b o' a (λz=>nomatch z))
 obtain⟨U2,r,m⟩:=a0A (P:=P) (w:=w) (l:=outer) (H:=v) (H':=H') (h0:=d.heap) (h1:=s'.heap) (h2:=h') g.base hok k u.1 D g.funs λb a=>g.stkFree b (n b a);exact⟨p,C,H',B,a0,rfl,g.os,t,U2,r,hp,u,m,q⟩
theorem b4g{P:Program}{w:World}{K:PySem.W.Frag}{mg:Str->Option Value}{base:Heap}{N:List Str}{qual:Str}{scope:Scope}{f:Addr}{cd:Value}{A:Around}{outer:List Env}{b:Shared}{a:Hp}{E:XK}
  {k:Nat}{ps:List Str}{sp:Sp}{x:Str}{e:Expr}{es:List Expr}{t:TA}{p pos:Pos}(O:OkE P w K mg base x k ps sp) (hr:Room k (J6 (CXE P w) P w K mg base N qual scope f cd A outer b a E).A) (g:Gl (J6 (CXE P w) P w K mg base N qual scope f cd A outer b a E) x)
  (ha:JA (J6 (CXE P w) P w K mg base N qual scope f cd A outer b a E) (e::es) t) (c:(x==("__debug__" : Str))=false:=by decide)
  (j:starEach (e::es) (J6 (CXE P w) P w K mg base N qual scope f cd A outer b a E).env=(false,eval e (J6 (CXE P w) P w K mg base N qual scope f cd A outer b a E).env)::starEach es (J6 (CXE P w) P w K mg base N qual scope f cd A outer b a E).env:=by rfl)
  (d:(backTo pos (starEach es (J6 (CXE P w) P w K mg base N qual scope f cd A outer b a E).env)).any (·.1)=false:=by rfl) :
  JE (J6 (CXE P w) P w K mg base N qual scope f cd A outer b a E) (.Call (.Name x p) (e::es) [] pos) (a7l sp [] E t):=by
 obtain⟨m,fd,h1,h2,i,l⟩:=O.ex;exact⟨a7H l hr g h1 h2 i .nil b7t ha.h c j d⟩
theorem b4v{rss c:LLI}:((List.range (min rss.length c.length)).all (λj=>decide (rss.getD j []=c.getD j [])) && rss.length==c.length)=decide (rss=c):=by
 rw[Bool.eq_iff_iff];simp only[Bool.and_eq_true,List.all_eq_true,List.mem_range,decide_eq_true_eq,beq_iff_eq];constructor
 .rintro⟨h1,h2⟩;refine List.ext_getElem h2 λi a b=>?_;have:=h1 i (by omega);simpa[List.getD_eq_getElem?_getD,a,b]using this
 .rintro rfl;exact⟨λ_ _=>rfl,rfl⟩
theorem EqV.its{K:PySem.W.Frag}{H:Hp}{k:Bool}{a b:Addr}{vs d:List V}{rss c:LLI}(ha:SqK k K H a vs)(e:SqK k K H b d)(h1:Its H vs rss)(h2:Its H d c):EqV K H 2 (.ref a) (.ref b) (decide (rss=c)):=by
 have step:∀j x y,vs[j]?=some x->d[j]?=some y->EqV K H 1 x y (decide (rss.getD j []=c.getD j [])):=λj x y i f=>by
  obtain⟨r,g,ra,rfl,hr⟩:=h1.2 j x i;obtain⟨q,eq,l,rfl,h⟩:=h2.2 j y f;rw[List.getD_eq_getElem?_getD,List.getD_eq_getElem?_getD,g,eq];exact EqV.ints (k:=true) (SqT.of hr) (SqT.of h)
 rw[<-b4v,<-h1.1,<-h2.1];cases k
 .exact EqV.lst (λj=>decide (rss.getD j []=c.getD j [])) ha e step
 .exact EqV.tup (λj=>decide (rss.getD j []=c.getD j [])) ha e step
theorem Its.put{H:Hp}{vs:List V}{rss:LLI}{c:Addr}{xs:List V}{o:HO}(h:Its H vs rss)(hc:H c=some (.lst xs)):Its (upd H c o) vs rss:=⟨h.1,λi v e=>let ⟨r,e1,a,e2,q⟩:=h.2 i v e;⟨r,e1,a,e2,by rw[A2 (G5 q hc (by intro z;cases z))];exact q⟩⟩
open _root_.HT
section
variable {prog:Program}{w:World}{A:Around}{E:Value->Shared->Prop}{s:Shared}
end
section
variable {X:Cx}{e:Expr}{te:TE}{lo hi:Option Expr}{tl th:TO}{pos p2:Pos}
theorem a6k(l:Addr)(items:Array Value)(n:Nat)(dd:Option Addr)(sl:Array (Option Value))(u:Tok)(a:items.isEmpty=false) :
  Meets (Builtin.«tuple.__mul__» ⟨[.ref l,.int 0 u],[]⟩) (λ_ R s=>s.heap.get? l=some {cls:=.type "tuple",dict:=dd,data:=.seq items n,slots:=sl}/\R (.ok (.ret (.ref s.heap.objs.size))) {s with heap:=s.heap.push {cls:=.type "tuple",data:=.seq #[]}}) :=
 .of_wp λprog w A R s h=>by
  obtain⟨hp,g,d,tk,os⟩:=s;obtain⟨hl,h⟩:=h;have f1:=AutoSeq1.idx_int;have b:¬((items.isEmpty || (0:Int)==1)=true):=by rw[a];decide
  wp_walk using PySem.AutoSeq1.wpAny_loadPart' hl
  exact⟨_,rfl,h⟩
def b4P:R2:=λx y H Q=>∃a xs n,x=.ref a/\y=.int n/\H a=some (.tup xs)/\xs≠[]/\0<=n/\(xs.length:Int)*n<=(sizeLine:Int)/\∀p H',Same H H'->H' p=some (.tup (List.replicate n.toNat xs).flatten)->Q (.ref p) H'
theorem b3G:OpR X (binaryOp .Mult) b4P:=by
 intro pins s σ H x y v u Q I k j h;obtain⟨a,xs,n,rfl,rfl,ha,i,w,hz,q⟩:=h;by_cases h0:n=0
 .subst h0;cases k;obtain⟨t,rfl⟩:=j;obtain⟨its,r,p1,l⟩:=I.tuple (.inl (.inl ha));obtain⟨⟨cls,dd,data,sl⟩,g,hc,m,hd⟩:=id p1;simp only at hc hd;subst hc hd;have f:=r.length;have d:0<its.length:=by rw[<-f];exact List.length_pos_iff.mpr i
  refine wpAny_binaryOp_repeat_ref (T:="tuple") (U:="int") (by decide) ⟨_,g,rfl⟩ (λs'=>typeIs_int s' 0 t) P9 F.fills_int_mul F.slot_int_rmul a0p F.slot_int_index.lookup
   (call_meets F.slot_int_rmul (typeIs_int s 0 t) F.entry_int_rmul (F.args_int_rmul_2 _ _) (a2k 0 t a its.toArray m dd sl) ⟨g,rfl,⟨_,g,rfl⟩,?_⟩)
  refine call_meets F.slot_tuple_mul ⟨_,g,rfl⟩ F.entry_tuple_mul (F.args_tuple_mul_2 _ _) (a6k a its.toArray m dd sl t (by simp;intro z;rw[z]at d;exact Nat.lt_irrefl _ d)) ⟨g,?_⟩;have hf:H s.heap.objs.size=none:=I.hok.fresh (Nat.le_refl _);refine⟨.ref s.heap.objs.size,_,I.laid (t':=s.toks) (o:=.tup []) (λb p q=>Heap.get?_push_of_some _ q) (Nat.le_refl _) ?_,rfl,q _ _ (λc o e=>by rw[A2 (A5 e hf)];exact e) A0⟩;exact⟨Nat.zero_le _,[],.nil,IsTup.new _ _⟩
 .exact a7J pins s σ H (.ref a) (.int n) v u Q I k j ⟨a,xs,n,rfl,rfl,ha,i,by omega,hz,q⟩
theorem b6n{a b:Expr}{ta tb:TE}(ha:JE X a ta)(c:JE X b tb):JE X (.BinOp a .Mult b pos) (tOp b4P ta tb):=⟨Z3 b3G ha.h c.h⟩
def b5r(K:PySem.W.Frag)(neg:Bool):R2:=λx y H Q=>∃(a p:Addr) (ns:List Int) (k:Bool) (vs:List V) (rss:LLI),x=.ref a/\H a=some (.tup (ns.map V.int))/\y=.ref p/\SqK k K H p vs/\Its H vs rss/\Q (.bl (if neg then !decide (ns∈rss)else decide (ns∈rss))) H
noncomputable def eqI(H:Hp)(ns:List Int):Value->Bool
 |.ref b=>match H b with|some (.tup xs)=>decide (xs=ns.map V.int)|_=>false
 |_=>false
theorem map_int_inj{a b:List Int}:a.map V.int=b.map V.int↔a=b:=by
 constructor
 .intro h;induction a generalizing b with
  |nil=>cases b with
   |nil=>rfl
   |cons _ _=>cases h
  |cons x a ih=>cases b with
   |nil=>cases h
   |cons y b =>
    rw[List.map_cons,List.map_cons]at h;injection h with h1 h2
    injection h1 with h1
    rw[h1,ih h2]
 .rintro rfl;rfl
theorem a4I{H:Hp}{ns q:List Int}{b:Addr}(a:H b=some (.tup (q.map V.int))):eqI H ns (.ref b)=decide (q=ns):=by
 show(match H b with|some (.tup xs)=>decide (xs=ns.map V.int)|_=>false)=_;rw[a];exact decide_eq_decide.mpr map_int_inj
theorem a1V{H:Hp}{ns:List Int}{vs:List V}{rss:LLI}{us:List Value}(h:Its H vs rss)(r:Vals vs us):us.any (eqI H ns)=decide (ns∈rss):=by
 rw[Bool.eq_iff_iff,List.any_eq_true,decide_eq_true_eq];constructor
 .rintro⟨u,hu,e⟩;obtain⟨i,hi,rfl⟩:=List.mem_iff_getElem.mp hu;have hl:=r.length;obtain⟨y,c⟩:∃y,vs[i]?=some y:=⟨vs[i],List.getElem?_eq_getElem (by omega)⟩;obtain⟨q,eq,b,rfl,g⟩:=h.2 i y c;obtain⟨j,d,f⟩:=r.get c;rw[List.getElem?_eq_getElem hi]at d;cases d;have a:us[i]=.ref b:=f;rw[a]at e;rw[a4I g]at e;have:=of_decide_eq_true e;subst this;exact List.mem_of_getElem? eq
 .intro hm;obtain⟨i,hi,rfl⟩:=List.mem_iff_getElem.mp hm;obtain⟨y,c⟩:∃y,vs[i]?=some y:=⟨vs[i]'(by rw[h.1];exact hi),List.getElem?_eq_getElem (by rw[h.1];exact hi)⟩;obtain⟨q,eq,b,rfl,g⟩:=h.2 i y c;rw[List.getElem?_eq_getElem hi]at eq;cases eq;obtain⟨j,d,f⟩:=r.get c;have a:j=.ref b:=f;subst a;refine⟨_,List.mem_of_getElem? d,?_⟩;rw[a4I g];exact decide_eq_true rfl
theorem a1L{A:Around}{H:Hp}{s:Shared}{pins:List (Addr×Obj)}{σ:St}{a:Addr}{ns:List Int}{vs:List V}{rss:LLI}{us:List Value}(l:A.units+1<cLine)(I:Inv X pins σ H s)(ha:H a=some (.tup (ns.map V.int)))(h:Its H vs rss)(r:Vals vs us):∀u∈us,SeqAt.EqAt A s u (.ref a) (eqI H ns u):=by
 intro u c;obtain⟨i,hi,rfl⟩:=List.mem_iff_getElem.mp c;have hl:=r.length;obtain⟨y,e⟩:∃y,vs[i]?=some y:=⟨vs[i],List.getElem?_eq_getElem (by omega)⟩;obtain⟨q,eq,b,rfl,f⟩:=h.2 i y e;obtain⟨m,g,j⟩:=r.get e;rw[List.getElem?_eq_getElem hi]at g;cases g;have d:us[i]=.ref b:=j;rw[d];rw[a4I f];exact(EqV.ints (K:=X.K) (k:=true) (SqT.of f) (SqT.of ha)).at I l rfl rfl
theorem b7N(K:PySem.W.Frag)(f:X.A.units+60<cLine)(e:X.K=K:=by rfl):OpR X (compareOp .In) (b5r K false):=by
 subst e;intro pins s σ H x y v u Q I d c h;obtain⟨a,p,ns,k,vs,rss,rfl,ha,rfl,b,hI,q⟩:=h;cases d;cases c;cases k
 .obtain⟨its,r,pl,hz⟩:=I.list b;refine SeqAt.in_listAt (eqI H ns) pl.isList (λw hw=>a1L (by have:X.A.in1.units=X.A.units+1:=rfl;omega) I ha hI r w (by simpa using hw)) ⟨.bl _,H,I,rfl,?_⟩;rw[show its.toArray.any (eqI H ns)=its.any (eqI H ns) by simp,a1V hI r];exact q
 .obtain⟨its,r,pl,hz⟩:=I.tuple b;refine SeqAt.in_tupleAt (eqI H ns) pl (λw hw=>a1L (by have:X.A.in1.units=X.A.units+1:=rfl;omega) I ha hI r w (by simpa using hw)) ⟨.bl _,H,I,rfl,?_⟩;rw[show its.toArray.any (eqI H ns)=its.any (eqI H ns) by simp,a1V hI r];exact q
theorem a8S(K:PySem.W.Frag)(f:X.A.units+60<cLine)(e:X.K=K:=by rfl):OpR X (compareOp .NotIn) (b5r K true):=by
 subst e;intro pins s σ H x y v u Q I d c h;obtain⟨a,p,ns,k,vs,rss,rfl,ha,rfl,b,hI,q⟩:=h;cases d;cases c;cases k
 .obtain⟨its,r,pl,hz⟩:=I.list b;refine SeqAt.notIn_listAt (eqI H ns) pl.isList (λw hw=>a1L (by have:X.A.in1.units=X.A.units+1:=rfl;omega) I ha hI r w (by simpa using hw)) ⟨.bl _,H,I,rfl,?_⟩;rw[show its.toArray.any (eqI H ns)=its.any (eqI H ns) by simp,a1V hI r];exact q
 .obtain⟨its,r,pl,hz⟩:=I.tuple b;refine SeqAt.notIn_tupleAt (eqI H ns) pl (λw hw=>a1L (by have:X.A.in1.units=X.A.units+1:=rfl;omega) I ha hI r w (by simpa using hw)) ⟨.bl _,H,I,rfl,?_⟩;rw[show its.toArray.any (eqI H ns)=its.any (eqI H ns) by simp,a1V hI r];exact q
theorem a9h(K:PySem.W.Frag){a b:Expr}{ta tb:TE}(d:X.A.units+60<cLine)(ha:JE X a ta)(e:JE X b tb)(c:behindInMarks .NotIn b=false)(f:X.K=K:=by rfl):JT X (.Compare a [.NotIn] [b] pos) (U6 (tOp (b5r K true) ta tb)):=⟨L7 (a8S K d f) ha.h e.h c⟩
end
end L2
namespace L2
open PySem PySem.Spec PyProof.Rows
section
variable {X:Cx}
end
section
variable {X:Cx}
def b7n:RL:=λxs H Q=>∃i:Int,xs=[.int i]/\Q (.int (if i<0 then -i else i)) H
theorem a9G:C7 X (.builtin "abs") b7n:=by
 intro pins s σ H xs us Q I b h;obtain⟨i,rfl,q⟩:=h;obtain⟨u,rfl,a⟩:=b.one;obtain⟨t,rfl⟩:=a;exact call_abs_int λu tk=>⟨.int _,H,I.tok tk,⟨u,rfl⟩,q⟩
theorem b1T{e:Expr}{es:List Expr}{t:TA}{p pos:Pos}(c:Gl X "abs")(b:X.mg "abs"=none)(ha:JA X (e::es) t)(d:starEach (e::es) X.env=(false,eval e X.env)::starEach es X.env:=by rfl)(a:(backTo pos (starEach es X.env)).any (·.1)=false:=by rfl):JE X (.Call (.Name "abs" p) (e::es) [] pos) (tCB b7n t):=⟨D8 a9G c b b6L ha.h (by decide) (by decide) d a⟩
def b4Q(K:PySem.W.Frag):RL:=λxs H Q=>∃(k:Bool) (p:Addr) (ns:List Int),xs=[.ref p]/\SqK k K H p (ns.map V.int)/\0<ns.length/\∀M,M∈ns->(∀a∈ns,a<=M)->Q (.int M) H
theorem a9y(K:PySem.W.Frag)(hc:X.calm=true)(E:X.K=K:=by rfl):C7 X (.builtin "max") (b4Q K):=by
 subst E;intro pins s σ H xs us Q I z h;obtain⟨k,p,ns,rfl,hs,J,q⟩:=h;obtain⟨u,rfl,B⟩:=z.one;cases B;obtain⟨its,ri,g,hz⟩:=I.sqk hs;have hl:=ri.length;rw[List.length_map]at hl;have y:X.A.in1.handled=none:=I.ok.hd hc;have f:∀i v,its.toArray[i]?=some v->∃t,v=Value.int (ns.getD i 0) t:=λi v m=>by
  have d:its[i]?=some v:=by simpa using m
  obtain⟨hi,_⟩:=List.getElem?_eq_some_iff.mp d;have w:(ns.map V.int)[i]?=some (.int ns[i]):=by rw[List.getElem?_map,List.getElem?_eq_getElem (by omega)];rfl
  obtain⟨G,r,t,x⟩:=ri.get w;rw[d]at r;cases r;exact⟨t,by rw[x,List.getD_eq_getElem?_getD,List.getElem?_eq_getElem (by omega)];rfl⟩
 refine call_max_walk (P8 g ?_);refine⟨s.heap.objs.size,_,_,_,_,_,_,rfl,a0i (k:=k) (l:=p) (items:=its.toArray) y (a0u g),a4E g,λb c=>?_,?_,CmpOf.ints_gt (λi=>ns.getD i 0) f,λv h' tk m C=>?_⟩
 .rw[Heap.size_push];obtain⟨o,e⟩:=g.get;have n:=Heap.lt_size e;simp only[List.mem_cons,List.not_mem_nil,or_false]at c;rcases c with rfl|rfl
  .exact Nat.lt_succ_self _
  .exact Nat.lt_succ_of_lt n
 .rw[List.size_toArray];omega
 .obtain⟨t,rfl⟩:=f _ _ m;obtain⟨F,D⟩:=argBest_gt (λi=>ns.getD i 0) (its.toArray.size-1);have hsz:its.toArray.size=ns.length:=by rw[List.size_toArray];exact hl.symm
  have c:argBest (λi j=>decide (ns.getD i 0 > ns.getD j 0)) (its.toArray.size-1)<ns.length:=by omega
  refine⟨.int _,H,I.kept (t':=tk) (a0v C),⟨t,rfl⟩,q _ ?_ λa ha=>?_⟩
  .rw[List.getD_eq_getElem?_getD,List.getElem?_eq_getElem c];exact List.getElem_mem c
  .obtain⟨i,hi,rfl⟩:=List.mem_iff_getElem.mp ha;have:=D i (by omega);have e:ns.getD i 0=ns[i]:=by rw[List.getD_eq_getElem?_getD,List.getElem?_eq_getElem hi];rfl
   rw[<-e];exact this
theorem b4b(K:PySem.W.Frag){e:Expr}{t:TA}{p pos:Pos}(b:Gl X "max")(c:X.mg "max"=none)(ha:JA X [e] t)(hc:X.calm=true:=by rfl)(f:X.K=K:=by rfl)(d:starEach [e] X.env=(false,eval e X.env)::starEach [] X.env:=by rfl)(a:(backTo pos (starEach [] X.env)).any (·.1)=false:=by rfl):JE X (.Call (.Name "max" p) [e] [] pos) (tCB (b4Q K) t):=⟨D8 (a9y K hc f) b c b6I ha.h (by decide) (by decide) d a⟩
end
section
variable {prog:Program}{w:World}{A:Around}{E:Value->Shared->Prop}{s:Shared}{k:Bool}
end
section
variable {X:Cx}
end
section
variable {M:Model}{A:Around}{E:Value->Shared->Prop}
theorem a1A{nm q:Str}{C N:Addr}{bs bm:List Value}{hdct:Bool}{sn:List Str}{sub:List Value}{ab:Bool}{col:Option Bool}{dd:Option Addr}{k0 k1 k2 k3 k5:Option Value}{newId:String}
  {h:Heap}{g:Array GenState}{d:Drawn}{t:Nat}{os:OsState}{e:Addr}{k:Obj}{Q:Bool->Shared->Prop}
  (j:h.get? C=some (excClassObj nm q C N bs bm hdct sn sub ab col dd k0 k1 k2 k3 k5 newId)) (l:h.get? e=some k) (b:k.cls=.ref C)
  (a:bm.contains (.type "BaseException")=true) (m:Q true ⟨h,g,d,t,os⟩):wpAny M A (excMatches (.ref e) (.ref C)) Q E ⟨h,g,d,t,os⟩:=by
 have c:(Value.ref C::bm).contains (.type "BaseException")=true:=by rw[List.contains_cons,a,Bool.or_true]
 have i:(Value.ref C::bm).contains (.ref C)=true:=by rw[List.contains_cons];simp
 have f:=tc_notTuple;unfold excMatches
 repeat (first | (with_reducible refine wpAny_loadPart_at l ?_;rw[b])|with_reducible refine wpAny_loadPart_at j ?_ | (with_reducible refine wpAny_isSubtype_exc j ?_;first|rw[c]|rw[i])|wp_step)
 exact m
end
def a9Z(K:PySem.W.Frag)(D:Addr)(tx:TX)(ts:TS):TS:=λDe σ H=>tx De (λσ1 C H'=>C=D/\∀p,H' p=none->ts De σ1 (upd H' p (a1z p C))) σ H
theorem b0N{X:Cx}{body:List Stmt}{tx:TX}{M:TS}{m:Str}{U l pos:Pos}{Q:Stmt}{a:List Stmt}{D:Addr}(d:X.stack=X.env::X.outer)(o:X.env.frame=some X.env.locals)(W:PSx X body tx)
  (R:Gl X m) (hm:X.mg m=some (.ref D)) (S:ClsX X.K D [])
  (F:∀p,PSs (X.held p) (Q::a) M) (hd:(m==("__debug__" : Str))=false:=by decide) :
  PS X (.Try body [.ExceptHandler (some (.Name m U)) none (Q::a) l] [] [] pos) (a9Z X.K D tx M):=by
 intro pins s σ H G I h;refine wpAny_Try_except (wpAny_mono (W pins s σ H G _ I h) (λf s1 q=>?_) λe s' q=>?_)
 .cases f with
  |next=>exact wpAny_execs_nil q
  |brk=>exact q
  |cont=>exact q
  |ret v=>exact q
 .obtain⟨σ1,H1,s1,p,C,H',B,a0,rfl,I1,hos,hbare,hU,hok,hp,fl,cov,hC,k⟩:=q;subst hC;have O:=fl.2.2.1;have j:=fl;rw[d]at j;refine wpAny_looks_onW (L:=X.env.locals) (by rw[<-d];exact I1.ok.frames) o j λh4 i r=>?_;refine wpAny_landsW i λh5 b c=>?_;rw[<-d]at b;have c:=r.trans c;have J:Inv X pins σ1 H' {s' with heap:=h5}:=I1.land hos hbare hU hok O cov b.1 c;refine wpAny_handleBy_cons (codeAny_handlers_test ?_) (by intro q;cases q);refine O5 (X:=X.held p) (J.held p) R hm ?_ hd;obtain⟨oe,u,w⟩:=b.there;obtain⟨T,q',a1,a3,a2,E,V,P,Z,N,a4,j0,j1,j2,j3,j5,n,x,y,_⟩:=S.ex;refine a1A (J.kIn _ _ x) u w y ?_;refine codeAny_handlers_suite ?_;refine lands_againW b λh6 t A=>?_;have I6:Inv X pins σ1 (upd H' p (a1z p C)) {s' with heap:=h6}:=I1.landX hos hbare hU hok hp O cov t (c.trans A);refine wpAny_mono (F p pins _ _ _ G (I6.held p) (k p hp)) (λf s8 q8=>?_) λ_ _ z=>False.elim z;cases f with
  |next=>obtain⟨σ2,H2,g,q8⟩:=q8;exact⟨σ2,H2,g.unheld I.ok,q8⟩
  |brk=>obtain⟨σ2,H2,g,q8⟩:=q8;exact⟨σ2,H2,g.unheld I.ok,q8⟩
  |cont=>obtain⟨σ2,H2,g,q8⟩:=q8;exact⟨σ2,H2,g.unheld I.ok,q8⟩
  |ret v=>obtain⟨Y,σ2,H2,g,rv,q8⟩:=q8;exact⟨Y,σ2,H2,g.unheld I.ok,rv,q8⟩
section
variable {X:Cx}{k:Nat}{ps:List Str}{sp:Sp}{x:Str}{p pos cpos:Pos}{e:Expr}{es:List Expr}{t:TA}
theorem b1J(K:PySem.W.Frag){body:List Stmt}{tx:TX}{i:TS}{c:Str}{j b pos:Pos}{g:Stmt}{a:List Stmt}{D:Addr}(o:JX X body tx)(k:Gl X c)(m:X.mg c=some (.ref D))(l:ClsX K D [])
  (e:∀p,JB (X.held p) (g::a) i) (n:X.K=K:=by rfl) (f:X.stack=X.env::X.outer:=by rfl) (d:X.env.frame=some X.env.locals:=by rfl) (hd:(c==("__debug__" : Str))=false:=by decide) :
  JS X (.Try body [.ExceptHandler (some (.Name c j)) none (g::a) b] [] [] pos) (a9Z K D tx i):=by
 subst n;exact⟨b0N f d o.h k m l (λp=>(e p).h) hd⟩
end
section
variable (P:Program) (w:World)
end
section
variable {P:Program}{w:World}{H H':Hp}{h h':Heap}{a:Addr}{o:HO}
end
section
variable {P:Program}{w:World}{H:Hp}{h h':Heap}{x e:Addr}{o':HO}
end
section
variable {fs fs' ex ex':List Addr}{H H1 H2:Hp}{h h1 h2 h':Heap}{a x e:Addr}{o:HO}
end
section
variable {X:Cx}{pins:List (Addr×Obj)}{σ:List (Option V)}{H H':Hp}{s:Shared}{h':Heap}
end
section
variable {X:Cx}
variable {a b:Expr}{ta tb:TE}{pos:Pos}
variable {tA tB':TT}{rest:List Expr}
end
section
variable {X:Cx}{pins:List (Addr×Obj)}{σ:St}{H:Hp}{s:Shared}{a:Addr}{xs ys:List V}
end
section
variable {X:Cx}{pins:List (Addr×Obj)}{σ:St}{H:Hp}{s:Shared}{E:Value->Shared->Prop}
end
section
variable {X:Cx}{st:Stmt}{rest:List Stmt}{t u:TS}{e:Expr}{te:TE}{pos:Pos}
end
section
variable {X:Cx}{pos:Pos}
end
section
variable {X:Cx}{tg:Expr}
end
section
variable {X:Cx}{a b c:Expr}{ta tb tc:TE}{pos:Pos}
end
section
variable {prog:Program}{w:World}{A:Around}{E:Value->Shared->Prop}{s:Shared}{K:PySem.W.Frag}{x dx C f:Addr}{mA:Str->Option Value}{name:Str}{v:Value}
end
section
variable {P:Program}{w:World}{H H':Hp}{h h':Heap}{a C dx:Addr}{fs fs':List (Str×V)}
end
section
variable {X:Cx}{pins:List (Addr×Obj)}{σ:St}{H:Hp}{s:Shared}{a C dx:Addr}{fs:List (Str×V)}{f:Str}{v:V}{A:Around}{E:Value->Shared->Prop}
end
section
variable {X:Cx}{o e value:Expr}{f:Str}{pos pos' tpos:Pos}{ta tv:TE}
end
section
variable {X:Cx}{pins:List (Addr×Obj)}{σ:St}{H:Hp}{s:Shared}{A:Around}{E:Value->Shared->Prop}{Q:Value->Shared->Prop}{c:Value}{b:Bool}
end
section
variable {X:Cx}{e:Expr}{es:List Expr}{te:TE}{t:TA}{pos:Pos}
end
section
variable {X:Cx}{pins:List (Addr×Obj)}{σ:St}{H:Hp}{s s':Shared}
end
section
variable {X:Cx}{CX:CXT}{k:Nat}{f C:Addr}{fd:FuncData}{ps:List Str}{sp:Sp}{dvs:List V}{ds:List Value}{E:XK}{x m:Str}{p pos apos:Pos}{e o:Expr}{es:List Expr}{ta:TE}{t:TA}
end
section
variable {X:Cx}{CX:CXT}{k:Nat}{f C:Addr}{fd:FuncData}{ps ks:List Str}{sp:Sp}{E:XK}{x m:Str}{p pos apos kpos:Pos}{e o:Expr}{es:List Expr}{kws:List Keyword}{te ta:TE}{t tk:TA}{nm:Option Str}
variable {g:List Value->List Value->List Value}{gV:List V->List V->List V}
end
section
variable {X:Cx}{x:Str}{p pos:Pos}{e:Expr}{es:List Expr}{t:TA}{id T:String}{r:List V->Hp->VK->Prop}
end
section
variable {κ:Type} [DecidableEq κ]
noncomputable def D7(kvs:List (κ×V))(k:κ):Option V:=(kvs.find? λkv=>decide (kv.1=k)).map (·.2)
noncomputable def U4(kvs:List (κ×V))(k:κ)(v:V):List (κ×V) :=
 if (kvs.any λkv=>decide (kv.1=k))=true then kvs.map (λkv=>if kv.1=k then(kv.1,v)else kv)else kvs++[(k,v)]
theorem E3{p:κ×V}{r:List (κ×V)}{k:κ}(e:p.1=k):D7 (p::r) k=some p.2:=by simp[D7,List.find?_cons,e]
theorem E4{p:κ×V}{r:List (κ×V)}{k:κ}(e:¬p.1=k):D7 (p::r) k=D7 r k:=by simp[D7,List.find?_cons,e]
theorem K3(k:κ):∀kvs:List (κ×V),(kvs.any λa=>decide (a.1=k))=(D7 kvs k).isSome
 |[]=>rfl
 |p::r=>by
  rw[List.any_cons];by_cases e:p.1=k
  .simp only[E3 e,decide_eq_true e,Bool.true_or,Option.isSome_some]
  .rw[E4 e,decide_eq_false e,Bool.false_or];exact K3 k r
theorem a5b(k j:κ)(y:V):∀kvs:List (κ×V),D7 (kvs.map λa=>if a.1=k then(a.1,y)else a) j=(D7 kvs j).map λx=>if j=k then y else x
 |[]=>rfl
 |p::r=>by
  have ih:=a5b k j y r;rw[List.map_cons];by_cases h:p.1=k
  .rw[if_pos h];by_cases e:p.1=j
   .rw[E3 (p:=(p.1,y)) e,E3 e,Option.map_some,if_pos (e.symm.trans h)]
   .rw[E4 (p:=(p.1,y)) e,E4 e,ih]
  .rw[if_neg h];by_cases e:p.1=j
   .rw[E3 (p:=p) e,E3 e,Option.map_some,if_neg (λz=>h (e.trans z))]
   .rw[E4 (p:=p) e,E4 e,ih]
theorem a3k(k j:κ)(y:V):∀kvs:List (κ×V),D7 kvs k=none->D7 (kvs++[(k,y)]) j=if j=k then some y else D7 kvs j
 |[],_=>by
  by_cases e:k=j
  .rw[if_pos e.symm];exact E3 (p:=(k,y)) e
  .rw[if_neg (λz=>e z.symm)];exact E4 (p:=(k,y)) e
 |p::r,hn=>by
  rw[List.cons_append];have a:¬p.1=k:=λz=>by rw[E3 z]at hn;cases hn
  rw[E4 a]at hn;have ih:=a3k k j y r hn;by_cases e:p.1=j
  .rw[E3 e,E3 e,if_neg (λz=>a (e.trans z))]
  .rw[E4 e,E4 e,ih]
theorem a5a(kvs:List (κ×V))(k j:κ)(y:V):D7 (U4 kvs k y) j=if j=k then some y else D7 kvs j:=by
 unfold U4;by_cases a:(kvs.any λb=>decide (b.1=k))=true
 .rw[if_pos a,a5b];rw[K3]at a;by_cases e:j=k
  .obtain⟨x,hx⟩:=Option.isSome_iff_exists.mp a;rw[if_pos e,e,hx,Option.map_some,if_pos rfl]
  .rw[if_neg e];cases D7 kvs j with
   |none=>rfl
   |some x=>rw[Option.map_some,if_neg e]
 .rw[if_neg a];refine a3k k j y kvs ?_;rw[K3]at a;cases q:D7 kvs k with
  |none=>rfl
  |some x=>rw[q]at a;exact(a rfl).elim
theorem V4(kvs:List (κ×V))(k:κ)(v:V):(U4 kvs k v).length<=kvs.length+1:=by
 unfold U4;split
 .rw[List.length_map];omega
 .rw[List.length_append,List.length_cons,List.length_nil];omega
theorem a2l{kvs:List (κ×V)}{k:κ}(v:V)(h:D7 kvs k=none):U4 kvs k v=kvs++[(k,v)]:=by
 unfold U4;rw[K3,h];exact if_neg (by decide)
theorem RelO.isSome_eq{o:Option V}{u:Option Value}(r:RelO o u):o.isSome=u.isSome:=by
 cases o with
 |none=>cases u with
  |none=>rfl
  |some _=>exact(show False from r).elim
 |some _=>cases u with
  |none=>exact(show False from r).elim
  |some _=>rfl
theorem KV.val{kvs:List (κ×V)}{vs:List (κ×Value)}(r:KV kvs vs)(k:κ):RelO (D7 kvs k) (valueAt vs k):=by
 unfold KV at r;induction r with
 |nil=>exact True.intro
 |@cons p q ps qs h t ih =>
  obtain⟨h1,h2⟩:=h;by_cases e:p.1=k
  .have e':q.1=k:=h1.symm.trans e;have b:valueAt (q::qs) k=some q.2:=by simp[valueAt,List.find?_cons,e']
   rw[E3 e,b];exact h2
  .have e':¬q.1=k:=λz=>e (h1.trans z);have b:valueAt (q::qs) k=valueAt qs k:=by simp[valueAt,List.find?_cons,e']
   rw[E4 e,b];exact ih
theorem KV.any{kvs:List (κ×V)}{vs:List (κ×Value)}(r:KV kvs vs)(k:κ):(kvs.any λa=>decide (a.1=k))=vs.any λa=>decide (a.1=k):=by
 unfold KV at r;induction r with
 |nil=>rfl
 |cons h t ih=>rw[List.any_cons,List.any_cons,ih,h.1]
theorem KV.repl{kvs:List (κ×V)}{vs:List (κ×Value)}(r:KV kvs vs)(k:κ){y:V}{u:Value}(b:RelV y u) :
  KV (kvs.map λa=>if a.1=k then(a.1,y)else a) (vs.map λa=>if a.1=k then(a.1,u)else a):=by
 unfold KV at r⊢;induction r with
 |nil=>exact .nil
 |@cons p q ps qs h t ih =>
  rw[List.map_cons,List.map_cons];refine .cons ?_ ih;obtain⟨h1,h2⟩:=h;by_cases e:p.1=k
  .rw[if_pos e,if_pos (h1.symm.trans e)];exact⟨h1,b⟩
  .rw[if_neg e,if_neg (λz=>e (h1.trans z))];exact⟨h1,h2⟩
theorem KV.put{kvs:List (κ×V)}{vs:List (κ×Value)}(r:KV kvs vs)(k:κ){y:V}{u:Value}(a:RelV y u):KV (U4 kvs k y) (stored vs k u):=by
 unfold U4 stored;rw[r.any k];by_cases e:(vs.any λb=>decide (b.1=k))=true
 .rw[if_pos e,if_pos e];exact r.repl k a
 .rw[if_neg e,if_neg e];exact Paired.snoc r ⟨rfl,a⟩
theorem KV.length{kvs:List (κ×V)}{vs:List (κ×Value)}(r:KV kvs vs):kvs.length=vs.length:=Paired.length r
end
theorem a5L{P:Program}{w:World}{k:Key}{u:Value}(r:RelV (kV k) u):(D5 P w).is k u=true:=by
 cases k with
 |inl i=>obtain⟨t,e⟩:=(show ∃t,u=Value.int i t from r);subst e;exact a5D P w i t
 |inr x=>obtain⟨t,e⟩:=(show ∃t,u=Value.str x t from r);subst e;exact a5C P w x t
theorem a3A{P:Program}{w:World}:∀{ks:List Key}{us:List Value},Vals (ks.map kV) us->ItemsAre (D5 P w) ks us
 |[],_,r=>by rw[List.map_nil]at r;cases r;exact .nil
 |k::ks,_,r=>by
  rw[List.map_cons]at r;cases r with
  |cons h t=>exact .cons (a5L h) (a3A t)
abbrev KT(H:Hp):List (List Key×V)->List (List Key×Addr×Value)->Prop:=Paired λp q=>p.1=q.1/\H q.2.1=some (.tup (p.1.map kV))/\RelV p.2 q.2.2
theorem KT.val{H:Hp}{kvs:List (List Key×V)}{xs:List (List Key×Addr×Value)}(r:KT H kvs xs)(k:List Key):RelO (D7 kvs k) ((atKey xs k).map (·.2)):=by
 induction r with
 |nil=>exact True.intro
 |@cons p q ps qs h t ih =>
  obtain⟨h1,_,h2⟩:=h;by_cases e:p.1=k
  .have e':q.1=k:=h1.symm.trans e;have b:atKey (q::qs) k=some q.2:=by simp[atKey,List.find?_cons,e']
   rw[E3 e,b];exact h2
  .have e':¬q.1=k:=λz=>e (h1.trans z);have b:atKey (q::qs) k=atKey qs k:=by simp[atKey,List.find?_cons,e']
   rw[E4 e,b];exact ih
theorem KT.repl{H:Hp}{kvs:List (List Key×V)}{xs:List (List Key×Addr×Value)}(r:KT H kvs xs)(k:List Key){y:V}{u:Value}(b:RelV y u) :
  KT H (kvs.map λa=>if a.1=k then(a.1,y)else a) (xs.map (putAt k u)):=by
 induction r with
 |nil=>exact .nil
 |@cons p q ps qs h t ih =>
  rw[List.map_cons,List.map_cons];refine .cons ?_ ih;obtain⟨h1,h2,c⟩:=h;unfold putAt;by_cases e:p.1=k
  .rw[if_pos e,if_pos (h1.symm.trans e)];exact⟨h1,h2,b⟩
  .rw[if_neg e,if_neg (λz=>e (h1.trans z))];exact⟨h1,h2,c⟩
theorem KT.put{H:Hp}{kvs:List (List Key×V)}{xs:List (List Key×Addr×Value)}(r:KT H kvs xs)(k:List Key){b:Addr}{y:V}{u:Value}(c:H b=some (.tup (k.map kV)))(a:RelV y u) :
  KT H (U4 kvs k y) (storedH xs k b u):=by
 have e:(kvs.any λd=>decide (d.1=k))=(atKey xs k).isSome:=by
  rw[K3,(r.val k).isSome_eq,Option.isSome_map]
 unfold U4 storedH;rw[e];by_cases q:(atKey xs k).isSome=true
 .rw[if_pos q,if_pos q];exact r.repl k a
 .rw[if_neg q,if_neg q];exact Paired.snoc r ⟨rfl,c,a⟩
theorem KT.keeps{H H':Hp}{kvs:List (List Key×V)}{xs:List (List Key×Addr×Value)}(r:KT H kvs xs)(ht:∀b ys,H b=some (.tup ys)->H' b=some (.tup ys)):KT H' kvs xs :=
 Paired.mapP r λ_ _ z=>⟨z.1,ht _ _ z.2.1,z.2.2⟩
section
variable {P:Program}{w:World}{H:Hp}{h:Heap}{a:Addr}
theorem b4L{u:HO}(ok:HOk P w H h)(e:Rd H a u):ObjOk P w H h a u:=e.ok ok
theorem a3H{kvs:List (Key×V)}(ok:HOk P w H h)(e:Rd H a (.dK kvs)):kvs.length<=sizeLine/\(a==sysModules)=false/\∃vs,KV kvs vs/\h.DictOf (D5 P w) a vs :=
 show ObjOk P w H h a (.dK kvs)from b4L ok e
theorem b7G{kvs:List (Key×V)}(ok:HOk P w H h)(e:H a=some (.dK kvs)):kvs.length<=sizeLine/\(a==sysModules)=false/\∃vs,KV kvs vs/\h.DictOf (D5 P w) a vs:=a3H ok (.inl e)
theorem a0Q{ks:List Key}(ok:HOk P w H h)(e:H a=some (.tup (ks.map kV))):(tupleKind (D5 P w)).is h ks a:=by
 obtain⟨_,its,r,o,h1,h2,n,b⟩:=(show ObjOk P w H h a (.tup (ks.map kV))from ok a _ e);exact⟨o,its.toArray,n,h1,h2,b,by simpa using a3A r⟩
theorem a3G{kvs:List (List Key×V)}(ok:HOk P w H h)(e:Rd H a (.dT kvs)):kvs.length<=sizeLine/\(a==sysModules)=false /\
  ∃xs,KT H kvs xs/\h.DictOfH (tupleKind (D5 P w)) a xs:=by
 obtain⟨z,y,xs,r,o,es,ep,h1,h2,c,f,d⟩:=(show ObjOk P w H h a (.dT kvs)from b4L ok e);refine⟨z,y,xs,r,o,es,ep,h1,h2,c,f,λx b=>?_,d⟩;have all:∀{l:List (List Key×V)}{m:List (List Key×Addr×Value)},KT H l m->∀x∈m,(tupleKind (D5 P w)).is h x.1 x.2.1:=by
  intro l m q;induction q with
  |nil=>intro x b;exact nomatch b
  |@cons p q ps qs hq t ih =>
   intro x b;rcases List.mem_cons.mp b with e|b
   .subst e;exact a0Q ok (by rw[<-hq.1];exact hq.2.1)
   .exact ih x b
 exact all r x b
theorem b5c{kvs:List (List Key×V)}(ok:HOk P w H h)(e:H a=some (.dT kvs)):kvs.length<=sizeLine/\(a==sysModules)=false /\
  ∃xs,KT H kvs xs/\h.DictOfH (tupleKind (D5 P w)) a xs:=a3G ok (.inl e)
end
def DGet(H:Hp)(a:Addr)(y:V)(r:Option V):Prop :=
 (∃kvs k,Rd H a (.dK kvs)/\y=kV k/\r=D7 kvs k)∨∃kvs k b,Rd H a (.dT kvs)/\y=.ref b/\H b=some (.tup (k.map kV))/\r=D7 kvs k
def DPut(H:Hp)(a:Addr)(y v:V)(H':Hp):Prop :=
 (∃kvs k,H a=some (.dK kvs)/\y=kV k/\kvs.length<sizeLine/\H'=upd H a (.dK (U4 kvs k v))) ∨
 ∃kvs k b,H a=some (.dT kvs)/\y=.ref b/\H b=some (.tup (k.map kV))/\kvs.length<sizeLine/\H'=upd H a (.dT (U4 kvs k v))
theorem DGet.t{H:Hp}{a b:Addr}{kvs:List (List Key×V)}{k:List Key}(e:H a=some (.dT kvs))(c:H b=some (.tup (k.map kV))):DGet H a (.ref b) (D7 kvs k):=.inr ⟨kvs,k,b,.inl e,rfl,c,rfl⟩
theorem DPut.t{H:Hp}{a b:Addr}{kvs:List (List Key×V)}{k:List Key}{v:V}(e:H a=some (.dT kvs))(c:H b=some (.tup (k.map kV)))(hl:kvs.length<sizeLine) :
  DPut H a (.ref b) v (upd H a (.dT (U4 kvs k v))):=.inr ⟨kvs,k,b,e,rfl,c,hl,rfl⟩
section
variable {X:Cx}{pins:List (Addr×Obj)}{σ:St}{H:Hp}{s:Shared}{a:Addr}{y v:V}{u r:Value}{o:Option V}{A:Around}{E:Value->Shared->Prop}
theorem Inv.big(I:Inv X pins σ H s):sysModules<s.heap.objs.size:=by
 have h:mainGlobals<s.heap.objs.size:=(I.mod.glob.keeps I.bk).lt;exact Nat.lt_trans (by decide) h
theorem a9s{Q:Value->Shared->Prop}(q:A.units+1<cLine)(I:Inv X pins σ H s)(g:DGet H a y (some v))(m:RelV y u)(h:∀f s',Inv X pins σ H s'->RelV v f->Q f s') :
  wpAny (model X.prog X.w) A (getItem (.ref a) u) Q E s:=by
 rcases g with⟨kvs,k,e,i,l⟩|⟨kvs,k,b,e,i,n,l⟩
 .subst i;obtain⟨z,hd,vs,c,dd⟩:=a3H I.hok e;obtain⟨f,hw,d⟩:=RelO.some_of (v:=v) (o:=valueAt vs k) (by rw[l];exact c.val k);exact wpAny_getItem_of (a5L m) dd.mapOf hw (h f _ (I.tok _) d)
 .subst i;cases(show u=Value.ref b from m);obtain⟨z,hd,xs,c,dd⟩:=a3G I.hok e;obtain⟨f,hw,d⟩:=RelO.some_of (v:=v) (o:=(atKey xs k).map (·.2)) (by rw[l];exact c.val k);obtain⟨p,hp,j⟩:=Option.map_eq_some_iff.mp hw;refine wpAny_getItem_heap (tupleKind_room_in1 q) (a0Q I.hok n) dd hp ?_;rw[j];exact h f _ (I.tok _) d
theorem b7W{Q:Value->Shared->Prop}(j:A.units+1<cLine)(I:Inv X pins σ H s)(g:DGet H a y o)(f:RelV y u)(h:∀s',Inv X pins σ H s'->Q (.bool o.isSome) s') :
  wpAny (model X.prog X.w) A (compareOp .In u (.ref a)) Q E s:=by
 rcases g with⟨kvs,k,e,d,l⟩|⟨kvs,k,b,e,d,i,l⟩
 .subst d;obtain⟨z,hd,vs,c,dd⟩:=a3H I.hok e;refine wpAny_in_of (a5L f) hd dd.mapOf ?_;rw[<-(c.val k).isSome_eq,<-l];exact h _ (I.tok _)
 .subst d;cases(show u=Value.ref b from f);obtain⟨z,hd,xs,c,dd⟩:=a3G I.hok e;refine wpAny_in_heap (tupleKind_room_in1 j) (a0Q I.hok i) hd dd ?_;have q:=(c.val k).isSome_eq;rw[Option.isSome_map]at q;rw[<-q,<-l];exact h _ (I.tok _)
theorem b4n{Q:Value->Shared->Prop}(j:A.units+1<cLine)(I:Inv X pins σ H s)(g:DGet H a y o)(f:RelV y u)(h:∀s',Inv X pins σ H s'->Q (.bool (!o.isSome)) s') :
  wpAny (model X.prog X.w) A (compareOp .NotIn u (.ref a)) Q E s:=by
 rcases g with⟨kvs,k,e,d,l⟩|⟨kvs,k,b,e,d,i,l⟩
 .subst d;obtain⟨z,hd,vs,c,dd⟩:=a3H I.hok e;refine wpAny_notIn_of (a5L f) hd dd.mapOf ?_;rw[<-(c.val k).isSome_eq,<-l];exact h _ (I.tok _)
 .subst d;cases(show u=Value.ref b from f);obtain⟨z,hd,xs,c,dd⟩:=a3G I.hok e;refine wpAny_notIn_heap (tupleKind_room_in1 j) (a0Q I.hok i) hd dd ?_;have q:=(c.val k).isSome_eq;rw[Option.isSome_map]at q;rw[<-q,<-l];exact h _ (I.tok _)
theorem a4J{h':Heap}{t':Nat}{c:HO}(I:Inv X pins σ H s)(f:Mut (H a))(hs:Heap.SameBut a s.heap h')(d:∃q,h'.get? a=some q)(new:ObjOk X.prog X.w (upd H a c) h' a c) :
  Inv X pins σ (upd H a c) {s with heap:=h',toks:=t'} :=
 I.write (x:=a) (e:=a) f (.inl rfl) (λb q g z=>(hs.2 b g).trans z) d new
theorem b6A{P:Program}{w:World}{H':Hp}{h':Heap}{kvs:List (Key×V)}{vs:List (Key×Value)}(z:kvs.length<=sizeLine)(hd:(a==sysModules)=false)(b:KV kvs vs)(dd:h'.DictOf (D5 P w) a vs) :
  ObjOk P w H' h' a (.dK kvs):=⟨z,hd,vs,b,dd⟩
theorem a9r{H':Hp}{Q:Unit->Shared->Prop}(C:A.units+1<cLine)(I:Inv X pins σ H s)(g:DPut H a y v H')(o:RelV y u)(t:RelV v r)(h:∀s',Inv X pins σ H' s'->Q () s') :
  wpAny (model X.prog X.w) A (setItem (.ref a) u r) Q E s:=by
 rcases g with⟨kvs,k,e,j,l,m⟩|⟨kvs,k,b,e,j,n,l,m⟩
 .subst j m;obtain⟨z,hd,vs,d,dd⟩:=b7G I.hok e;have hz:vs.length<=sizeLine:=by rw[<-d.length];exact z
  have hl:(U4 kvs k v).length<=sizeLine:=by have:=V4 kvs k v;omega
  refine wpAny_setItem_pairs (hsz:=hz) (a5L o) dd λh' f hs=>h _ ?_;have B:∃q,h'.get? a=some q:=let ⟨q,_,_,i,_⟩:=f;⟨q,i⟩
  exact a4J I (by rw[e];exact True.intro) hs B (b6A hl hd (d.put k t) f)
 .subst j m;cases(show u=Value.ref b from o);obtain⟨z,hd,xs,d,dd⟩:=b5c I.hok e;have hz:xs.length<=sizeLine:=by rw[<-Paired.length d];exact z
  have hl:(U4 kvs k v).length<=sizeLine:=by have:=V4 kvs k v;omega
  refine wpAny_setItem_heap (hsz:=hz) (tupleKind_room_in1 C) (a0Q I.hok n) dd λh' f hs=>h _ ?_;obtain⟨q,es,ep,i,h2,x,F,_,D⟩:=f;refine a4J I (by rw[e];exact True.intro) hs ⟨q,i⟩ ⟨hl,hd,_,(d.put k n t).keeps λc ys p=>?_,q,es,ep,i,h2,x,F,D⟩;rw[A2 (G5 p e (λz=>nomatch z))];exact p
end
section
variable {X:Cx}{pins:List (Addr×Obj)}{σ:St}{H:Hp}{s:Shared}{a:Addr}{kvs:List (Key×V)}{k:Key}{u:Value}{A:Around}{E:Value->Shared->Prop}
end
def b6R(i:Expr):Prop:=∀ov iv,subscripted i false ov iv=operate [ov,iv] (getItem ov iv)
theorem b2P{prog:Program}{w:World}{A:Around}{E:Value->Shared->Prop}{s:Shared}{env:Env}{value a:Expr}{pos:Pos}{T id:String}{Q:Value->Shared->Prop}
  (hl:typeLookup (.type T) "__getitem__"=pure (some (.builtin id))) (hs:b6R a)
  (h:wpAny (model prog w) A (eval value env) (λo s₁=>wpAny (model prog w) A (eval a env) (λi s₂=>s₂.TypeIs o T/\wpAny (model prog w) A (getItem o i) Q E s₂) E s₁) E s) :
  wpAny (model prog w) A (eval (.Subscript value a pos) env) Q E s:=by
 refine Subscript_ (wpAny_mono h (λo s₁ h₁=>wpAny_mono h₁ (λi s₂ h₂=>?_) λ_ _ x=>x) λ_ _ x=>x);obtain⟨hT,h₂⟩:=h₂;unfold subscriptTail;refine wpAny_bind ?_;rw[getitemInPython_of_ne hT.not_modules];refine wpAny_bind (wpAny_specialOf hT hl ?_);have fin:wpAny (model prog w) A (subscripted a false o i) (λr s₃=>wpAny (model prog w) A (letTemporaryGo value o r>>=λ_=>pure r) Q E s₃) E s₂:=by
  rw[hs o i];exact wpAny_operating (wpAny_mono h₂ (λr s₃ h₃=>wpAny_bind (wpAny_letTemporaryGo (wpAny_pure h₃))) λ_ _ x=>x)
 first
  |exact wpAny_pure (wpAny_bind fin)
  |exact wpAny_bind (wpAny_pure (wpAny_bind fin))
  |exact wpAny_bind fin
theorem a5V{X:Cx}{pins:List (Addr×Obj)}{σ:St}{H:Hp}{s:Shared}{a:Addr}{y:V}{o:Option V}(I:Inv X pins σ H s)(g:DGet H a y o):s.TypeIs (.ref a) "dict":=by
 rcases g with⟨kvs,k,e,_,_⟩|⟨kvs,k,b,e,_,_,_⟩
 .obtain⟨_,_,vs,_,dd⟩:=a3H I.hok e;exact dd.typeIs
 .obtain⟨_,_,xs,_,dd⟩:=a3G I.hok e;exact dd.typeIs
def b4E(td ty:TE):TE:=λσ H Q=>td σ H λx H1=>ty σ H1 λy H2=>∃a v,x=.ref a/\DGet H2 a y (some v)/\Q v H2
def b7e(ty td:TE):TE:=λσ H Q=>ty σ H λy H1=>td σ H1 λx H2=>∃a o,x=.ref a/\DGet H2 a y o/\Q (.bl o.isSome) H2
def a7k(ty td:TE):TE:=λσ H Q=>ty σ H λy H1=>td σ H1 λx H2=>∃a o,x=.ref a/\DGet H2 a y o/\Q (.bl (!o.isSome)) H2
def b4K(td ty tv:TE):TS:=λD σ H=>tv σ H λv H1=>td σ H1 λx H2=>ty σ H2 λy H3=>∃a H4,x=.ref a/\DPut H3 a y v H4/\D.nx σ H4
section
variable {X:Cx}{o i e value:Expr}{pos pos' tpos:Pos}{td ty tv:TE}
theorem b3C(j:X.A.units+1<cLine)(e:PE X o td)(hi:PE X i ty)(hs:b6R i):PE X (.Subscript o i pos) (b4E td ty):=by
 intro pins s σ H Q I h;refine b2P PySem.F.slot_dict_getitem.lookup hs (thn (e pins s σ H _ I h) λu s1 ⟨x,H1,k,f,q1⟩=>thn (hi pins s1 σ H1 _ k q1) λp s2 ⟨y,H2,c,d,a,v,ex,g,q2⟩=>?_);subst ex;obtain rfl:u=Value.ref a:=f;exact⟨a5V c g,a9s j c g d λn m l b=>⟨v,H2,l,b,q2⟩⟩
theorem b5R(j:X.A.units+1<cLine)(hi:PE X i ty)(e:PE X o td):PC X .In i o (b7e ty td):=by
 intro pins s σ H Q I h;refine thn (hi pins s σ H _ I h) λm s1 ⟨y,H1,k,c,q1⟩=>thn (e pins s1 σ H1 _ k q1) λu s2 ⟨x,H2,b,f,a,l,ex,g,q2⟩=>?_;subst ex;obtain rfl:u=Value.ref a:=f;exact b7W j b g c λn d=>⟨.bl l.isSome,H2,d,rfl,q2⟩
theorem a8R(j:X.A.units+1<cLine)(hi:PE X i ty)(e:PE X o td):PC X .NotIn i o (a7k ty td):=by
 intro pins s σ H Q I h;refine thn (hi pins s σ H _ I h) λm s1 ⟨y,H1,k,c,q1⟩=>thn (e pins s1 σ H1 _ k q1) λu s2 ⟨x,H2,b,f,a,l,ex,g,q2⟩=>?_;subst ex;obtain rfl:u=Value.ref a:=f;exact b4n j b g c λn d=>⟨.bl (!l.isSome),H2,d,rfl,q2⟩
theorem b3n(l:X.A.units+1<cLine)(f:PE X o td)(hi:PE X i ty)(d:PE X value tv)(hs:swapsWith value (some (.Subscript o i pos')) pos.line X.env=pure false) :
  PS X (.Assign [.Subscript o i pos'] value pos) (b4K td ty tv):=by
 intro pins s σ H D I h;refine wpAny_Assign_Subscript (thn (d pins s σ H _ I h) λr s1 ⟨v,H1,m,k,q1⟩=>thn (f pins s1 σ H1 _ m q1) λu s2 ⟨x,H2,b,j,q2⟩=>thn (hi pins s2 σ H2 _ b q2) λz t ⟨y,q,p,e,a,n,ex,g,q3⟩=>?_) hs;subst ex;obtain rfl:u=Value.ref a:=j;exact a9r l p g e k λw c=>⟨σ,n,c,q3⟩
end
theorem b2k{P:Program}{w:World}{H:Hp}(h:Heap)(a:sysModules<h.objs.size):ObjOk P w H (h.push {cls:=.type "dict",data:=.dict #[]}) h.objs.size (.dT []) :=
 ⟨Nat.zero_le _,beq_eq_false_iff_ne.mpr (Ne.symm (Nat.ne_of_lt a)),[],.nil,_,#[],0,Heap.get?_push_size _ rfl,⟨rfl,rfl,rfl⟩,rfl,rfl,List.nodup_nil⟩
def b0d:TE:=λ_ H Q=>∀p,H p=none->Q (.ref p) (upd H p (.dT []))
section
variable {X:Cx}{pos:Pos}
theorem b1b:PE X (.Dict [] [] pos) b0d:=λpins s σ H Q I h =>
 wpAny_Dict_empty ⟨.ref s.heap.objs.size,_,I.laid (a:=s.heap.objs.size) (o:=.dT []) (t':=s.toks) (λ_ _ q=>Heap.get?_push_of_some _ q) (Nat.le_refl _) (b2k s.heap I.big),rfl,h _ (I.hok.fresh (Nat.le_refl _))⟩
end
structure M2(X:Cx)(o:Expr)(m:Str)(apos:Pos)(e f:Expr)(cpos:Pos):Prop where
 base:attributeBase o m X.env (eval o X.env)=eval o X.env
 few:((backTo cpos (starEach [e,f] X.env)).all (λx=>!x.1) && (backToKw cpos (keywordEach [] X.env)).all (λx=>x.1.isSome)
  && decide (([e,f]:List Expr).length+([]:List Keyword).length+(if ([]:List Keyword).isEmpty then 0 else 1)<30))=true
 line:(apos.endLine==cpos.line)=true
 trees:backTo cpos (starEach [e,f] X.env)=[(false,eval e X.env),(false,eval f X.env)]
def IsD(H:Hp)(a:Addr):Prop:=(∃kvs,Rd H a (.dK kvs))∨∃kvs,Rd H a (.dT kvs)
theorem b6s{X:Cx}{pins:List (Addr×Obj)}{σ:St}{H:Hp}{s:Shared}{a:Addr}(I:Inv X pins σ H s)(d:IsD H a) :
  s.TypeIs (.ref a) "dict"/\(∀b,Value.ref a=.ref b->∃c,s.heap.get? b=some c/\c.dict=none)/\(a==sysModules)=false:=by
 rcases d with⟨kvs,e⟩|⟨kvs,e⟩
 .obtain⟨_,hd,vs,_,dd⟩:=a3H I.hok e;refine⟨dd.typeIs,λb q=>?_,hd⟩;cases q;obtain⟨c,_,_,h1,h2,_⟩:=dd;exact⟨c,h1,h2.2.1⟩
 .obtain⟨_,hd,xs,_,dd⟩:=a3G I.hok e;refine⟨dd.typeIs,λb q=>?_,hd⟩;cases q;obtain⟨c,_,_,h1,h2,_⟩:=dd;exact⟨c,h1,h2.2.1⟩
section
variable {X:Cx}{pins:List (Addr×Obj)}{σ:St}{H:Hp}{s:Shared}{a:Addr}{y d:V}{u r:Value}{o:Option V}{A:Around}{E:Value->Shared->Prop}
end
section
variable {X:Cx}{o e f:Expr}{apos cpos:Pos}{td ty tx:TE}
end
section
variable {X:Cx}{pins:List (Addr×Obj)}{σ:St}{H:Hp}{s:Shared}{a:Addr}{kvs:List (Key×V)}{A:Around}{E:Value->Shared->Prop}
end
section
variable {X:Cx}{pins:List (Addr×Obj)}{σ:St}{H:Hp}{s:Shared}{a:Addr}{y:V}{u:Value}{A:Around}{E:Value->Shared->Prop}
end
end L2
namespace Att
open PySem PySem.W PySem.Calls PyProof.Rows
section
variable {prog:Program}{w:World}{A:Around}{E:Value->Shared->Prop}{s:Shared}{K:Frag}
end
end Att
namespace L2
open PySem PySem.Spec PyProof.Rows
end L2
namespace L2
open PySem PySem.Spec PyProof.Rows
section
variable {P:Program}{w:World}{K:PySem.W.Frag}{mg:Str->Option Value}{base:Heap}
end
section
variable {X:Cx}
end
section
variable {κ:Type} [DecidableEq κ]
theorem a1Z{kvs:List (κ×V)}{k:κ}(h:D7 kvs k=none):¬k∈kvs.map (·.1):=by
 intro m;obtain⟨p,hp,e⟩:=List.mem_map.mp m;have q:(kvs.any λa=>decide (a.1=k))=true:=List.any_eq_true.mpr ⟨p,hp,decide_eq_true e⟩;rw[K3,h]at q;exact absurd q (by simp)
theorem a7h{kvs:List (κ×V)}{k:κ}{v:V}(h:D7 kvs k=some v):k∈kvs.map (·.1):=by
 have q:(kvs.any λa=>decide (a.1=k))=true:=by
  rw[K3,h]
  all_goals rfl
 obtain⟨p,hp,e⟩:=List.any_eq_true.mp q;exact List.mem_map.mpr ⟨p,hp,of_decide_eq_true e⟩
theorem a0t:∀{l:List κ}{k:κ},l.Nodup->¬k∈l->(l++[k]).Nodup
 |[],k,_,_=>by simp
 |a::r,k,h,hk=>by
  obtain⟨h1,h2⟩:=List.nodup_cons.mp h;show(a::(r++[k])).Nodup;refine List.nodup_cons.mpr ⟨λm=>?_,a0t h2 λm=>hk (List.mem_cons.mpr (Or.inr m))⟩;rcases List.mem_append.mp m with q|q
  .exact h1 q
  .exact hk (List.mem_cons.mpr (Or.inl (List.mem_singleton.mp q).symm))
end
end L2
namespace L2
open PySem PySem.Spec PyProof.Rows PySem.W
section
variable {O:KeyOrd}{key:Nat->O.α}{N:Nat}{p:Array Nat}
noncomputable def kk(key:Nat->O.α)(p:Array Nat)(i:Nat):O.α:=key (p[i]?.getD 0)
end
theorem S3:∀a:List Int,HT.lexLt a a=false
 |[]=>rfl
 |x::xs=>by rw[HT.lexLt_cons,if_pos rfl];exact S3 xs
theorem a0L:∀a b c:List Int,HT.lexLt a b=true->HT.lexLt b c=true->HT.lexLt a c=true
 |[],[],_,h,_=>by cases h
 |_::_,[],_,h,_=>by cases h
 |_,_::_,[],_,h=>by cases h
 |[],_::_,_::_,_,_=>rfl
 |x::xs,y::ys,z::zs,h1,h2=>by
  rw[HT.lexLt_cons]at h1 h2⊢;by_cases e:x=y
  .rw[if_pos e]at h1;by_cases d:y=z
   .rw[if_pos d]at h2;rw[if_pos (e.trans d)];exact a0L xs ys zs h1 h2
   .rw[if_neg d]at h2;rw[if_neg (by rw[e];exact d),e];exact h2
  .rw[if_neg e]at h1;have h1:=of_decide_eq_true h1;by_cases d:y=z
   .rw[if_neg (by rw[<-d];exact e),<-d];exact decide_eq_true h1
   .rw[if_neg d]at h2;have h2:=of_decide_eq_true h2;rw[if_neg (by omega)];exact decide_eq_true (by omega)
theorem Q0:∀a b:List Int,HT.lexLt a b=false->HT.lexLt b a=false->a=b
 |[],[],_,_=>rfl
 |[],_::_,h,_=>by cases h
 |_::_,[],_,h=>by cases h
 |x::xs,y::ys,h1,h2=>by
  rw[HT.lexLt_cons]at h1 h2;by_cases e:x=y
  .subst e;rw[if_pos rfl]at h1 h2;rw[Q0 xs ys h1 h2]
  .rw[if_neg e]at h1;rw[if_neg (Ne.symm e)]at h2;have h1:=of_decide_eq_false h1;have h2:=of_decide_eq_false h2;omega
theorem b3V(a b c:List Int)(h:HT.lexLt a c=true):HT.lexLt a b=true∨HT.lexLt b c=true:=by
 cases h1:HT.lexLt a b with
 |true=>exact .inl rfl
 |false =>
  refine .inr ?_;cases h2:HT.lexLt b a with
  |true=>exact a0L b a c h2 h
  |false=>rw[<-Q0 a b h1 h2];exact h
noncomputable def OL:KeyOrd:=⟨List Int,HT.lexLt,S3,a0L,b3V,Q0⟩
def D4(tss:LLI):Prop:=tss.Pairwise λa b=>HT.lexLt b a=false
section
variable {prog:Program}{w:World}{A:Around}{E:Value->Shared->Prop}{s:Shared}
noncomputable def b3W(fin:Bool):List Int->List Int->Bool
 |[],_=>fin
 |_::_,[]=>fin
 |x::xs,y::ys=>if x=y then b3W fin xs ys else decide (x<y)
theorem a5H:∀(xs ys:List Int),b3W (decide (xs.length<ys.length)) xs ys=HT.lexLt xs ys
 |[],[]=>rfl
 |[],y::ys=>by
  show decide (0<ys.length+1)=true;exact decide_eq_true (by omega)
 |x::xs,[]=>by
  show decide (xs.length+1<0)=false;exact decide_eq_false (by omega)
 |x::xs,y::ys=>by
  rw[HT.lexLt_cons];show(if x=y then _ else _)=_;split
  .rw[<-a5H xs ys];congr 1;simp only[List.length_cons];exact decide_eq_decide.mpr (by omega)
  .rfl
theorem a8T{c:Bool}{a b:Int}{t u:Tok}{Q:Bool->Shared->Prop}(h:Q (decide (a<b)) s):wpAny (model prog w) A (oneLt' c (.int a t) (.int b u)) Q E s:=by
 cases c with
 |true=>exact oneLt_int h
 |false=>exact kat_one _ _ (lt_int h)
theorem a1m{b fin:Bool}{Q:Bool->Shared->Prop}:∀{vs a:List Value}{ns ms:List Int}(i:Nat),IntsAre vs ns->IntsAre a ms->Q (b3W fin ns ms) s->KatLex prog w A b fin Q (vs.zip a) i s
 |_,_,_,_,i,.nil,_,h=>h
 |_,_,_,_,i,.cons _ _ _,.nil,h=>h
 |_,_,_,_,i,.cons x t hx,.cons y u hy,h=>by
  rw[List.zip_cons_cons];refine kat_cons (wpAny_eqBool_int ?_);have h:Q (if x=y then b3W fin _ _ else decide (x<y)) s:=h;by_cases e:x=y
  .rw[if_pos e]at h;rw[show(x==y)=true from beq_iff_eq.mpr e];exact kat_yes (a1m (i+1) hx hy h)
  .rw[if_neg e]at h;rw[show(x==y)=false from beq_eq_false_iff_ne.mpr e];exact kat_no (a8T h)
def TupsAre(h:Heap)(vs:List Value)(rss:LLI):Prop:=vs.length=rss.length/\∀(i:Nat) (v:Value),vs[i]?=some v->∃(r:List Int) (b:Addr) (its:Array Value),rss[i]?=some r/\v=Value.ref b/\IsTup h b its/\IntsAre its.toList r
theorem TupsAre.keeps{h h':Heap}{vs:List Value}{rss:LLI}(t:TupsAre h vs rss)(k:∀b its,IsTup h b its->IsTup h' b its):TupsAre h' vs rss :=
 ⟨t.1,λi v e=>let ⟨r,b,its,e1,e2,e3,e4⟩:=t.2 i v e;⟨r,b,its,e1,e2,k _ _ e3,e4⟩⟩
theorem a5c{h:Heap}:∀{vs:List Value}{rss:LLI},TupsAre h vs rss->(∀r∈rss,0<r.length)->∃fs,KatTups h vs fs/\fs.length=vs.length/\∀f∈fs,∃n t,f=Value.int n t
 |[],_,_,_=>⟨[],trivial,rfl,λ_ z=>nomatch z⟩
 |v::vs,[],T,_=>by cases T.1
 |v::vs,r::rss,T,hw=>by
  obtain⟨fs,h1,h2,d⟩:=a5c (vs:=vs) (rss:=rss) ⟨by have:=T.1;simpa using this,λi u e=>T.2 (i+1) u e⟩ λr hr=>hw r (List.mem_cons_of_mem _ hr);obtain⟨k,b,its,j,c,⟨o,q1,q2,n,q3⟩,a⟩:=T.2 0 v rfl;cases j;have hr:=hw r List.mem_cons_self;obtain⟨x,t,us,g⟩:∃x t us,its.toList=Value.int x t::us:=by
   generalize its.toList=l at a;cases a with
   |nil=>simp at hr
   |cons x t h=>exact⟨x,t,_,rfl⟩
  refine⟨.int x t::fs,⟨⟨b,o,its,n,c,q1,q2,q3,?_⟩,h1⟩,by simp[h2],λf hf=>?_⟩
  .rw[<-Array.getElem?_toList,g];rfl
  .rcases List.mem_cons.mp hf with rfl|hf
   .exact⟨x,t,rfl⟩
   .exact d f hf
theorem a8x{vs:List Value}{rss:LLI}{Q:SortKind->Shared->Prop}(T:TupsAre s.heap vs rss)(hw:∀r∈rss,0<r.length)(a:0<vs.length)(h:Q (tuples' true) s):wpAny (model prog w) A (keyKind' vs.toArray) Q E s:=by
 obtain⟨fs,h1,h2,b⟩:=a5c T hw;refine kat_kind (T:=.type "int") h1 (by omega) (λv a=>?_) rfl ?_
 .obtain⟨n,t,rfl⟩:=b v a;exact .now
 .rw[show(Value.type "int" != Value.type "tuple")=true from rfl];exact h
end
section
variable {prog:Program}{w:World}{A:Around}{E:Value->Shared->Prop}{s:Shared}
theorem T5{h:Heap}{a:Addr}{vs:List Value}{out:Array Value}:∀b o,b≠a->h.get? b=some o->(sortedHeap h a vs out).get? b=some o:=λb o c e=>by
 unfold sortedHeap;rw[Heap.get?_update_ne _ _ _ _ c];exact Heap.get?_push_of_some _ (Heap.get?_push_of_some _ (by rw[Heap.get?_update_ne _ _ _ _ c];exact e))
theorem Z1{h:Heap}{a:Addr}{vs:List Value}{out:Array Value}{n:Nat}(f:h.get? a=some (seqObj "list" vs.toArray n)):∃c,(sortedHeap h a vs out).get? a=some (seqObj "list" out c):=by
 unfold sortedHeap;have ha:a<h.objs.size:=Heap.lt_size f;obtain⟨e,b⟩:∃e,(h.update a (Obj.mapSeq λ_=>#[])).get? a=some (seqObj "list" #[] e):=⟨_,get?_update_seq f (λ_=>#[])⟩;have d:(((h.update a (Obj.mapSeq λ_=>#[])).push (seqObj "tuple" vs.toArray 0)).push (seqObj "list" #[] 0)).get? a=some (seqObj "list" #[] e):=Heap.get?_push_of_some _ (Heap.get?_push_of_some _ b);exact⟨_,get?_update_seq d (λ_=>out)⟩
end
section
variable {X:Cx}
theorem a2H{pins:List (Addr×Obj)}{σ:St}{H:Hp}{s:Shared}(I:Inv X pins σ H s){ys:List V}{rss:LLI}{us:List Value}(h:Its H ys rss)(r:Vals ys us):TupsAre s.heap us rss:=by
 refine⟨by rw[<-r.length];exact h.1,λi v e=>?_⟩;have hi:i<ys.length:=by rw[r.length];exact(List.getElem?_eq_some_iff.mp e).1
 obtain⟨u,c,b⟩:=r.get (List.getElem?_eq_getElem hi);rw[e]at c;cases c;obtain⟨row,q1,a,q2,q3⟩:=h.2 i _ (List.getElem?_eq_getElem hi);rw[q2]at b;cases b;obtain⟨its,d,f,_⟩:=I.tuple (SqT.of (K:=X.K) q3);exact⟨row,a,its.toArray,q1,rfl,f,by simpa using a6J d⟩
end
noncomputable def O6:Bool->Keyed->Array Keyed->Nat->Nat->Nat->StateT SortSt Sem (Option Nat):=sortPriv% PySem.Builtin.gallop
noncomputable def O8(left:Bool)(key:Keyed)(arr:Array Keyed)(base:Nat)(i:Nat):StateT SortSt Sem (Option Bool):=do
 let x <-elem' arr (base+i)
 if left then lt' x key else return (<-lt' key x).map (!·)
noncomputable def b4r(left:Bool)(key:Keyed)(arr:Array Keyed)(base n lo₀ hi₀:Nat):StateT SortSt Sem (Option Nat):=do
 let mut lo:=lo₀
 let mut hi:=hi₀
 for _ in [0:n] do
  if lo ≥ hi then break
  let m:=lo+(hi-lo) / 2
  let some more <-O8 left key arr base m|return none
  if more then lo:=m+1 else hi:=m
 return some hi
theorem a6L(left:Bool)(key:Keyed)(arr:Array Keyed)(base n a:Nat):O6 left key arr base n a=(O8 left key arr base a>>=λr=>match r with
 |some right=>(if right=true then
   (forIn [:n] ((none,0,1):Option (Option Nat)×Nat×Nat) (λ_ c=>if c.2.2 ≥ n-a then pure (.done (none,c.2.1,c.2.2))else O8 left key arr base (a+c.2.2)>>=λr=>match r with
     |some more=>(if (!more)=true then pure (.done (none,c.2.1,c.2.2))else pure (.yield (none,c.2.2,2*c.2.2+1)))
     |_=>pure (.done (some none,c.2.1,c.2.2)))>>=λc=>match c.1 with
    |some r=>pure r
    |none=>b4r left key arr base n (a+c.2.1+1) (a+min c.2.2 (n-a)))
  else
   (forIn [:n] ((none,0,1):Option (Option Nat)×Nat×Nat) (λ_ c=>if c.2.2 ≥ a+1 then pure (.done (none,c.2.1,c.2.2))else O8 left key arr base (a-c.2.2)>>=λr=>match r with
     |some found=>(if found=true then pure (.done (none,c.2.1,c.2.2))else pure (.yield (none,c.2.2,2*c.2.2+1)))
     |_=>pure (.done (some none,c.2.1,c.2.2)))>>=λc=>match c.1 with
    |some r=>pure r
    |none=>b4r left key arr base n (a+1-min c.2.2 (a+1)) (a-c.2.1)))
 |_=>pure none):=by
 show(_>>=_)=(_>>=_);refine congrArg _ (funext λr=>?_);cases r with
 |none=>rfl
 |some right =>
  dsimp only;refine ite_congr rfl (λ_=>?_) (λ_=>?_)
  .refine congr (congrArg _ (congrArg _ (funext λ_=>funext λc=>?_))) (funext λc=>?_)
   .rfl
   .rcases c with⟨_|q,c⟩<;>rfl
  .refine congr (congrArg _ (congrArg _ (funext λ_=>funext λc=>?_))) (funext λc=>?_)
   .rfl
   .rcases c with⟨_|q,c⟩<;>rfl
section
variable {prog:Program}{w:World}{A:Around}{E:Value->Shared->Prop}{s:Shared}
def Cmp(prog:Program)(w:World)(A:Around)(s:Shared)(κ:SortKind)(D:Keyed->Prop)(lt:Keyed->Keyed->Bool):Prop :=
 ∀x y (C:Bool->Shared->Prop),D x->D y->C (lt x y) s->wpAny (model prog w) A (keyLt' κ x.1 y.1) C (λ_ _=>False) s
variable {κ:SortKind}{D:Keyed->Prop}{lt:Keyed->Keyed->Bool}
theorem a0g{st:SortSt}{x y:Keyed}{Q:Option Bool->SortSt->Prop}(hc:Cmp prog w A s κ D lt)(e:kindOf st=κ)(f:D x)(a:D y)(h:Q (some (lt x y)) st):wpS (model prog w) A E s (lt' x y) Q st:=by
 rw[lt'_eq];refine wpS_bind (wpS_get ?_);rw[e];refine wpS_bind (wpS_lift (wpAny_attempt (wpAny_mono (hc x y (λb s'=>s'=s/\b=lt x y) f a ⟨rfl,rfl⟩) (λb s' ⟨d,c⟩=>?_) λ_ _ z=>z.elim)));rw[d,c];exact⟨rfl,wpS_pure h⟩
noncomputable def b2C(lt:Keyed->Keyed->Bool)(left:Bool)(key x:Keyed):Bool:=if left then lt x key else !(lt key x)
theorem a6d{st:SortSt}{left:Bool}{key x:Keyed}{arr:Array Keyed}{base i:Nat}{Q:Option Bool->SortSt->Prop}(hc:Cmp prog w A s κ D lt)(c:kindOf st=κ)(a:D key)(b:D x)(d:arr[base+i]?=some x)(h:Q (some (b2C lt left key x)) st) :
  wpS (model prog w) A E s (O8 left key arr base i) Q st:=by
 unfold O8;rw[elem'_eq,d];refine wpS_bind (wpS_pure ?_);unfold b2C at h;cases left with
 |true=>exact a0g hc c b a h
 |false=>exact wpS_bind (a0g hc c a b (wpS_pure h))
theorem a7f{st:SortSt}{left:Bool}{key:Keyed}{arr:Array Keyed}{base n lo hi:Nat}{Q:Option Nat->SortSt->Prop}(a:Nat->Bool)
  (d:∀i,i<n->∀{R:Option Bool->SortSt->Prop},R (some (a i)) st->wpS (model prog w) A E s (O8 left key arr base i) R st) (mono:∀i j,i<=j->j<n->a j=true->a i=true) (f:∀i j,i<=j->j<n->a i=false->a j=false)
  (h1:lo<=hi) (h2:hi<=n) (o:∀i,i<lo->a i=true) (p:∀i,hi<=i->i<n->a i=false)
  (h:∀k,k<=n->(∀i,i<k->a i=true)->(∀i,k<=i->i<n->a i=false)->Q (some k) st):wpS (model prog w) A E s (b4r left key arr base n lo hi) Q st:=by
 unfold b4r;dsimp only;refine wpS_bind (wpS_mono (wpS_forRange (I:=λx c st'=>st'=st/\∃l r,c=(none,l,r)/\l<=r/\r<=n/\r-l<=n-x/\(∀i,i<l->a i=true)/\(∀i,r<=i->i<n->a i=false))
  (Q:=λc st'=>st'=st/\∃l,c=(none,l,l)/\l<=n/\(∀i,i<l->a i=true)/\(∀i,l<=i->i<n->a i=false)) ?step ?fin ⟨rfl,lo,hi,rfl,h1,h2,by omega,o,p⟩) ?post)
 case fin =>
  rintro c st' ⟨rfl,l,r,rfl,a1,a2,a3,a4,a5⟩;have e:l=r:=by omega
  subst e;exact⟨rfl,l,rfl,a2,a4,a5⟩
 case step =>
  rintro x c st' _ q ⟨rfl,l,r,rfl,a1,a2,a3,a4,a5⟩;dsimp only;by_cases b:l ≥ r
  .rw[if_pos b];have e:l=r:=by omega
   subst e;exact wpS_pure ⟨rfl,l,rfl,a2,a4,a5⟩
  .rw[if_neg b];have m:l+(r-l) / 2<n:=by omega
   refine wpS_bind (d _ m ?_);dsimp only;cases g:a (l+(r-l) / 2)with
   |true =>
    rw[if_pos rfl];exact wpS_pure ⟨rfl,_,r,rfl,by omega,a2,by omega,λi hi=>mono i _ (by omega) m g,a5⟩
   |false =>
    rw[if_neg (by simp)];exact wpS_pure ⟨rfl,l,_,rfl,by omega,by omega,by omega,a4,λi h1 h2=>f _ i h1 h2 g⟩
 case post =>
  rintro c st' ⟨rfl,l,rfl,a2,a4,a5⟩;exact wpS_pure (h l a2 a4 a5)
theorem J5{st:SortSt}{left:Bool}{key:Keyed}{arr:Array Keyed}{base n a:Nat}{Q:Option Nat->SortSt->Prop}(hc:Cmp prog w A s κ D lt)(B:kindOf st=κ)(p:D key)(b:Nat->Bool)
  (m:∀i,i<n->∃x,arr[base+i]?=some x/\D x/\b2C lt left key x=b i) (mono:∀i j,i<=j->j<n->b j=true->b i=true) (v:a<n)
  (h:∀k,k<=n->(∀i,i<k->b i=true)->(∀i,k<=i->i<n->b i=false)->Q (some k) st):wpS (model prog w) A E s (O6 left key arr base n a) Q st:=by
 have f:∀i,i<n->∀{R:Option Bool->SortSt->Prop},R (some (b i)) st->wpS (model prog w) A E s (O8 left key arr base i) R st:=λi hi R hR=>by
  obtain⟨x,z,r,u⟩:=m i hi;exact a6d hc B p r z (by rw[u];exact hR)
 have g:∀i j,i<=j->j<n->b i=false->b j=false:=λi j t C e=>by
  cases r:b j with
  |false=>rfl
  |true=>rw[mono i j t C r]at e;cases e
 rw[a6L];refine wpS_bind (f a v ?_);dsimp only;cases q:b a with
 |true =>
  rw[if_pos rfl];refine wpS_bind (wpS_mono (wpS_forRange (I:=λx c st'=>st'=st/\∃l o,c=(none,l,o)/\l<o/\x+1<=o/\a+l<n/\b (a+l)=true)
   (Q:=λc st'=>st'=st/\∃l o,c=(none,l,o)/\l<o/\a+l<n/\b (a+l)=true/\(o ≥ n-a∨b (a+o)=false)) ?step ?fin ⟨rfl,0,1,rfl,by omega,by omega,by omega,q⟩) ?post)
  case fin =>
   rintro c st' ⟨rfl,l,o,rfl,a1,a2,a3,a4⟩;exact⟨rfl,l,o,rfl,a1,a3,a4,.inl (by omega)⟩
  case step =>
   rintro x c st' _ y ⟨rfl,l,o,rfl,a1,a2,a3,a4⟩;dsimp only;by_cases d:o ≥ n-a
   .rw[if_pos d];exact wpS_pure ⟨rfl,l,o,rfl,a1,a3,a4,.inl d⟩
   .rw[if_neg d];refine wpS_bind (f _ (by omega) ?_);dsimp only;cases m:b (a+o)with
    |true =>
     rw[if_neg (by simp)];exact wpS_pure ⟨rfl,o,2*o+1,rfl,by omega,by omega,by omega,m⟩
    |false =>
     rw[if_pos (by rfl)];exact wpS_pure ⟨rfl,l,o,rfl,a1,a3,a4,.inr m⟩
  case post =>
   rintro c st' ⟨rfl,l,o,rfl,a1,a3,a4,a5⟩;dsimp only;refine a7f (lo:=a+l+1) (hi:=a+min o (n-a)) b f mono g (by omega) (by omega) (λi hi=>mono i (a+l) (by omega) a3 a4) (λi h1 h2=>?_) h;rcases a5 with a5|a5
   .omega
   .exact g (a+o) i (by omega) h2 a5
 |false =>
  rw[if_neg (by simp)];refine wpS_bind (wpS_mono (wpS_forRange (I:=λx c st'=>st'=st/\∃l o,c=(none,l,o)/\l<o/\x+1<=o/\l<=a/\b (a-l)=false)
   (Q:=λc st'=>st'=st/\∃l o,c=(none,l,o)/\l<o/\l<=a/\b (a-l)=false/\(o ≥ a+1∨b (a-o)=true)) ?step ?fin ⟨rfl,0,1,rfl,by omega,by omega,by omega,q⟩) ?post)
  case fin =>
   rintro c st' ⟨rfl,l,o,rfl,a1,a2,a3,a4⟩;exact⟨rfl,l,o,rfl,a1,a3,a4,.inl (by omega)⟩
  case step =>
   rintro x c st' _ y ⟨rfl,l,o,rfl,a1,a2,a3,a4⟩;dsimp only;by_cases d:o ≥ a+1
   .rw[if_pos d];exact wpS_pure ⟨rfl,l,o,rfl,a1,a3,a4,.inl d⟩
   .rw[if_neg d];refine wpS_bind (f _ (by omega) ?_);dsimp only;cases m:b (a-o)with
    |true =>
     rw[if_pos rfl];exact wpS_pure ⟨rfl,l,o,rfl,a1,a3,a4,.inr m⟩
    |false =>
     rw[if_neg (by simp)];exact wpS_pure ⟨rfl,o,2*o+1,rfl,by omega,by omega,by omega,m⟩
  case post =>
   rintro c st' ⟨rfl,l,o,rfl,a1,a3,a4,a5⟩;dsimp only;refine a7f (lo:=a+1-min o (a+1)) (hi:=a-l) b f mono g (by omega) (by omega) (λi hi=>?_) (λi h1 h2=>g (a-l) i h1 h2 a4) h;rcases a5 with a5|a5
   .omega
   .exact mono i (a-o) (by omega) (by omega) a5
end
section
variable {O:KeyOrd}{kf:Keyed->O.α}{la lb o:List Keyed}{ia ib:Nat}
def leK(kf:Keyed->O.α)(x y:Keyed):Prop:=O.kle (kf x) (kf y)
noncomputable def ltK(kf:Keyed->O.α)(x y:Keyed):Bool:=O.blt (kf x) (kf y)
structure MS(kf:Keyed->O.α)(la lb o:List Keyed)(ia ib:Nat):Prop where
 perm:o.Perm (la.take ia++lb.take ib)
 sorted:o.Pairwise (leK kf)
 ra:∀x∈o,∀y∈la.drop ia,leK kf x y
 rb:∀x∈o,∀y∈lb.drop ib,leK kf x y
theorem Y5{α:Type}{l:List α}{i:Nat}{x:α}(h:l[i]?=some x):l.drop i=x::l.drop (i+1):=by
 obtain⟨hi,e⟩:=List.getElem?_eq_some_iff.mp h;rw[List.drop_eq_getElem_cons hi,e]
theorem U8{l:List Keyed}{i:Nat}{x:Keyed}(hs:l.Pairwise (leK kf))(h:l[i]?=some x):∀y∈l.drop (i+1),leK kf x y:=by
 have:=hs.drop (i:=i);rw[Y5 h]at this;exact(List.pairwise_cons.mp this).1
theorem R5{α:Type}{l:List α}{i:Nat}{x:α}(h:l[i]?=some x):l.take (i+1)=l.take i++[x]:=by
 rw[List.take_add_one,h];rfl
theorem MS.stepA{x:Keyed}(h:MS kf la lb o ia ib)(hs:la.Pairwise (leK kf))(e:la[ia]?=some x)(c:∀y∈lb.drop ib,leK kf x y):MS kf la lb (o++[x]) (ia+1) ib:=by
 have b:x∈la.drop ia:=by rw[Y5 e];exact List.mem_cons_self
 refine⟨?_,?_,λz hz y a=>?_,λz hz y a=>?_⟩
 .rw[R5 e];have:=h.perm.append_right [x];refine this.trans ?_;rw[List.append_assoc,List.append_assoc];exact List.Perm.append_left _ List.perm_append_comm
 .rw[List.pairwise_append];exact⟨h.sorted,List.pairwise_singleton _ _,λz hz y a=>by rw[List.mem_singleton.mp a];exact h.ra z hz x b⟩
 .have hy':y∈la.drop ia:=by rw[Y5 e];exact List.mem_cons_of_mem _ a
  rcases List.mem_append.mp hz with q|q
  .exact h.ra z q y hy'
  .rw[List.mem_singleton.mp q];exact U8 hs e y a
 .rcases List.mem_append.mp hz with q|q
  .exact h.rb z q y a
  .rw[List.mem_singleton.mp q];exact c y a
theorem MS.swap(h:MS kf la lb o ia ib):MS kf lb la o ib ia:=⟨h.perm.trans List.perm_append_comm,h.sorted,h.rb,h.ra⟩
theorem MS.stepB{x:Keyed}(h:MS kf la lb o ia ib)(hs:lb.Pairwise (leK kf))(e:lb[ib]?=some x)(ha:∀y∈la.drop ia,leK kf x y):MS kf la lb (o++[x]) ia (ib+1) :=
 (h.swap.stepA hs e ha).swap
theorem MS.bulkA(hs:la.Pairwise (leK kf)):∀(k:Nat) {o:List Keyed}{ia:Nat},MS kf la lb o ia ib->ia+k<=la.length->(∀i x,i<k->la[ia+i]?=some x->∀y∈lb.drop ib,leK kf x y)->MS kf la lb (o++(la.drop ia).take k) (ia+k) ib
 |0,o,ia,h,_,_=>by rw[List.take_zero,List.append_nil];exact h
 |k+1,o,ia,h,hl,hk=>by
  obtain⟨x,a⟩:∃x,la[ia]?=some x:=⟨_,List.getElem?_eq_getElem (by omega)⟩;have h1:=h.stepA hs a (hk 0 x (by omega) a);have h2:=MS.bulkA hs k h1 (by omega) λi y hi e=>hk (i+1) y (by omega) (by rw[<-e];congr 1;omega);rw[Y5 a,List.take_succ_cons];rw[List.append_assoc]at h2;rw[show ia+(k+1)=ia+1+k by omega];exact h2
theorem MS.bulkB(hs:lb.Pairwise (leK kf)){k:Nat}(h:MS kf la lb o ia ib)(hl:ib+k<=lb.length)(a:∀i x,i<k->lb[ib+i]?=some x->∀y∈la.drop ia,leK kf x y):MS kf la lb (o++(lb.drop ib).take k) ia (ib+k) :=
 (MS.bulkA hs k h.swap hl a).swap
def a1c(kf:Keyed->O.α)(la lb o:List Keyed):Prop:=o.Perm (la++lb)/\o.Pairwise (leK kf)
theorem MS.done(h:MS kf la lb o ia ib)(hs:la.Pairwise (leK kf))(a:ib=lb.length):a1c kf la lb (o++la.drop ia++lb.drop ib):=by
 subst a;rw[List.drop_length,List.append_nil];have hp:=h.perm;rw[List.take_length]at hp;refine⟨?_,?_⟩
 .refine(hp.append_right _).trans ?_;rw[List.append_assoc];refine(List.Perm.append_left _ List.perm_append_comm).trans ?_;rw[<-List.append_assoc,List.take_append_drop]
 .rw[List.pairwise_append];exact⟨h.sorted,hs.drop,h.ra⟩
theorem MS.lastA(h:MS kf la lb o ia ib)(a:la.Pairwise (leK kf))(hs:lb.Pairwise (leK kf))(hl:∀y∈lb.drop ib,∀x∈la.drop ia,leK kf y x):a1c kf la lb (o++lb.drop ib++la.drop ia):=by
 refine⟨?_,?_⟩
 .have hp:=(h.perm.append_right (lb.drop ib)).append_right (la.drop ia);refine hp.trans ?_;rw[List.append_assoc (la.take ia),List.take_append_drop,List.append_assoc];refine(List.Perm.append_left _ List.perm_append_comm).trans ?_;rw[<-List.append_assoc,List.take_append_drop]
 .rw[List.pairwise_append];refine⟨?_,a.drop,λx c y b=>?_⟩
  .rw[List.pairwise_append];exact⟨h.sorted,hs.drop,h.rb⟩
  .rcases List.mem_append.mp c with q|q
   .exact h.ra x q y b
   .exact hl x q y b
end
noncomputable def a2s:Array Keyed->Array Keyed->StateT SortSt Sem (Array Keyed):=sortPriv% PySem.Builtin.mergeLo
noncomputable def X4(g:Nat):StateT SortSt Sem Unit:=modify λs=>SortSt.mk' (kindOf s) (arrOf s) (pendingOf s) g (failedOf s)
noncomputable def N0(a b out:Array Keyed)(ia ib:Nat):Array Keyed:=out++a.extract ia a.size++b.extract ib b.size
noncomputable def a0c(a b out:Array Keyed)(ia ib:Nat):Array Keyed:=out++b.extract ib b.size++a.extract ia a.size
abbrev T1:Type:=Option (Array Keyed)×Array Keyed×Nat×Nat×Nat×Nat
abbrev T2:Type:=Option (Array Keyed)×Array Keyed×Nat×Nat×Nat×Nat×Nat
noncomputable def loD(a b out:Array Keyed)(ia ib mg k k1:Nat):StateT SortSt Sem (ForInStep T2) :=
 elem' a ia>>=λx =>
 if (ia+1+1==a.size)=true then pure (.done (some (a0c a b (out.push x) (ia+1) ib),out.push x,ia+1,ib,mg,k,k1))
 else if (decide (k<7) && decide (k1<7))=true then pure (.done (none,out.push x,ia+1,ib,mg,k,k1))
 else pure (.yield (none,out.push x,ia+1,ib,mg,k,k1))
noncomputable def loC(a b out:Array Keyed)(ia ib mg k bc:Nat):StateT SortSt Sem (ForInStep T2) :=
 elem' b ib>>=λy =>
 if (ib+1==b.size)=true then pure (.done (some (N0 a b (out.push y) ia (ib+1)),out.push y,ia,ib+1,mg,k,bc))
 else elem' a ia>>=λx=>O6 true x b (ib+1) (b.size-(ib+1)) 0>>=λr =>
  match r with
  |some k1=>(if k1 > 0 then
    (if (ib+1+k1==b.size)=true then pure (.done (some (N0 a b (out.push y++b.extract (ib+1) (ib+1+k1)) ia (ib+1+k1)),out.push y++b.extract (ib+1) (ib+1+k1),ia,ib+1+k1,mg,k,k1))
    else loD a b (out.push y++b.extract (ib+1) (ib+1+k1)) ia (ib+1+k1) mg k k1)
   else loD a b (out.push y) ia (ib+1) mg k k1)
  |_=>pure (.done (some (N0 a b (out.push y) ia (ib+1)),out.push y,ia,ib+1,mg,k,bc))
noncomputable def loB(a b out:Array Keyed)(ia ib mg ac bc:Nat):StateT SortSt Sem (ForInStep T2) :=
 X4 mg>>=λ_=>elem' b ib>>=λy=>O6 false y a ia (a.size-ia) 0>>=λr =>
 match r with
 |some k=>(if k > 0 then
   (if (ia+k+1==a.size)=true then pure (.done (some (a0c a b (out++a.extract ia (ia+k)) (ia+k) ib),out++a.extract ia (ia+k),ia+k,ib,mg,k,bc))
   else if (ia+k==a.size)=true then pure (.done (some (N0 a b (out++a.extract ia (ia+k)) (ia+k) ib),out++a.extract ia (ia+k),ia+k,ib,mg,k,bc))
   else loC a b (out++a.extract ia (ia+k)) (ia+k) ib mg k bc)
  else loC a b out ia ib mg k bc)
 |_=>pure (.done (some (N0 a b out ia ib),out,ia,ib,mg,ac,bc))
noncomputable def loA(a b out:Array Keyed)(ia ib ac bc mg:Nat):StateT SortSt Sem (ForInStep T1) :=
 elem' b ib>>=λy=>elem' a ia>>=λx=>lt' y x>>=λr =>
 match r with
 |some bWins=>(if bWins=true then elem' b ib>>=λy =>
   (if (ib+1==b.size)=true then pure (.done (some (N0 a b (out.push y) ia (ib+1)),out.push y,ia,ib+1,0,bc+1))
   else if bc+1 ≥ mg then pure (.done (none,out.push y,ia,ib+1,0,bc+1))
   else pure (.yield (none,out.push y,ia,ib+1,0,bc+1)))
  else elem' a ia>>=λx =>
   (if (ia+1+1==a.size)=true then pure (.done (some (a0c a b (out.push x) (ia+1) ib),out.push x,ia+1,ib,ac+1,0))
   else if ac+1 ≥ mg then pure (.done (none,out.push x,ia+1,ib,ac+1,0))
   else pure (.yield (none,out.push x,ia+1,ib,ac+1,0))))
 |_=>pure (.done (some (N0 a b out ia ib),out,ia,ib,ac,bc))
theorem a5E(a b:Array Keyed):a2s a b=(do
 rule "list.sort.merge-lo"
 let y <-elem' b 0
 if (1==b.size)=true then pure (N0 a b #[y] 0 1)
 else if (0+1==a.size)=true then pure (a0c a b #[y] 0 1)
 else do
  let g <-get
  let r <-forIn [:a.size+b.size] ((none,#[y],0,1,gallopOf g):Option (Array Keyed)×Array Keyed×Nat×Nat×Nat) λ_ c=>do
   let r <-forIn [:a.size+b.size] ((none,c.2.1,c.2.2.1,c.2.2.2.1,0,0):T1) λ_ d=>loA a b d.2.1 d.2.2.1 d.2.2.2.1 d.2.2.2.2.1 d.2.2.2.2.2 c.2.2.2.2
   match r.1 with
   |some q=>pure (ForInStep.done (some q,r.2.1,r.2.2.1,r.2.2.2.1,c.2.2.2.2))
   |none=>do
    rule "list.sort.gallop"
    let t <-forIn [:a.size+b.size] ((none,r.2.1,r.2.2.1,r.2.2.2.1,c.2.2.2.2+1,r.2.2.2.2.1,r.2.2.2.2.2):T2) λ_ d =>
     if d.2.2.2.2.1 > 1 then loB a b d.2.1 d.2.2.1 d.2.2.2.1 (d.2.2.2.2.1-1) d.2.2.2.2.2.1 d.2.2.2.2.2.2 else loB a b d.2.1 d.2.2.1 d.2.2.2.1 d.2.2.2.2.1 d.2.2.2.2.2.1 d.2.2.2.2.2.2
    match t.1 with
    |some q=>pure (ForInStep.done (some q,t.2.1,t.2.2.1,t.2.2.2.1,t.2.2.2.2.1))
    |none=>do
     X4 (t.2.2.2.2.1+1)
     pure (ForInStep.yield (none,t.2.1,t.2.2.1,t.2.2.2.1,t.2.2.2.2.1+1))
  match r.1 with
  |some q=>pure q
  |none=>unsupported "internal:list.sort.merge-bound"):=by
 show(_>>=_)=(_>>=_);refine congrArg _ (funext λ_=>?_);dsimp only;refine congrArg _ (funext λy=>?_);refine ite_congr rfl (λ_=>rfl) (λ_=>ite_congr rfl (λ_=>rfl) λ_=>?_);refine congrArg _ (funext λg=>?_);refine congr (congrArg _ (congrArg _ (funext λ_=>funext λc=>?_))) (funext λr=>?_)
 .refine congr (congrArg _ (congrArg _ (funext λ_=>funext λd=>?_))) (funext λr=>?_)
  .rfl
  .rcases r with⟨_|q,r⟩
   .dsimp only;refine congrArg _ (funext λ_=>?_);refine congr (congrArg _ (congrArg _ (funext λ_=>funext λd=>?_))) (funext λr=>?_)
    .rfl
    .rcases r with⟨_|q,r⟩<;>rfl
   .rfl
 .rcases r with⟨_|q,r⟩
  .dsimp only
  .rfl
theorem a1R{α:Type}(a:Array α)(i:Nat):(a.extract i a.size).toList=a.toList.drop i:=by
 rw[Array.toList_extract];simp[List.extract_eq_drop_take'];rw[<-Array.length_toList,List.take_length]
theorem a2Q{α:Type}(a:Array α)(i k:Nat):(a.extract i (i+k)).toList=(a.toList.drop i).take k:=by
 rw[Array.toList_extract];simp[List.extract_eq_drop_take]
theorem a5T(a b out:Array Keyed)(ia ib:Nat):(N0 a b out ia ib).toList=out.toList++a.toList.drop ia++b.toList.drop ib:=by
 unfold N0;rw[Array.toList_append,Array.toList_append,a1R,a1R]
theorem a5K(a b out:Array Keyed)(ia ib:Nat):(a0c a b out ia ib).toList=out.toList++b.toList.drop ib++a.toList.drop ia:=by
 unfold a0c;rw[Array.toList_append,Array.toList_append,a1R,a1R]
section
variable {prog:Program}{w:World}{A:Around}{E:Value->Shared->Prop}{s:Shared}{κ:SortKind}{D:Keyed->Prop}{O:KeyOrd}{kf:Keyed->O.α}{a b out:Array Keyed}{ia ib:Nat}{st:SortSt}
def Good(st st':SortSt):Prop:=kindOf st'=kindOf st/\arrOf st'=arrOf st/\pendingOf st'=pendingOf st/\failedOf st'=failedOf st
structure Two(D:Keyed->Prop)(kf:Keyed->O.α)(a b:Array Keyed):Prop where
 da:∀(i:Nat) x,a[i]?=some x->D x
 db:∀(i:Nat) x,b[i]?=some x->D x
 sa:a.toList.Pairwise (leK kf)
 sb:b.toList.Pairwise (leK kf)
 last:∀y∈b.toList,∀x,a[a.size-1]?=some x->ltK kf y x=true
theorem T0{l:List Keyed}{i:Nat}{x z:Keyed}(hs:l.Pairwise (leK kf))(e:l[i]?=some x)(h:leK kf z x):∀y∈l.drop i,leK kf z y:=λy a=>by
 rw[Y5 e]at a;rcases List.mem_cons.mp a with rfl|a
 .exact h
 .exact KeyOrd.kle_trans h (U8 hs e y a)
def MI(kf:Keyed->O.α)(a b out:Array Keyed)(ia ib:Nat):Prop:=MS kf a.toList b.toList out.toList ia ib/\ia+1<a.size/\ib<b.size
def C6(kf:Keyed->O.α)(a b r:Array Keyed):Prop:=a1c kf a.toList b.toList r.toList
theorem X8(T:Two D kf a b)(h:MS kf a.toList b.toList out.toList ia ib)(hi:ia+1=a.size):C6 kf a b (a0c a b out ia ib):=by
 unfold C6;rw[a5K];refine h.lastA T.sa T.sb λy e x d=>?_;have c:ia<a.toList.length:=by rw[Array.length_toList];omega
 rw[List.drop_eq_getElem_cons c,List.drop_eq_nil_of_le (by rw[Array.length_toList];omega),List.mem_singleton]at d;refine KeyOrd.kle_of_klt (T.last y (List.mem_of_mem_drop e) x ?_);rw[d,show a.size-1=ia by omega,<-Array.getElem?_toList,List.getElem?_eq_getElem c]
theorem Y6(T:Two D kf a b)(h:MS kf a.toList b.toList out.toList ia ib)(hi:ib=b.size):C6 kf a b (N0 a b out ia ib):=by
 unfold C6;rw[a5T];exact h.done T.sa (by rw[Array.length_toList];exact hi)
theorem B2{arr:Array Keyed}{i:Nat}(hi:i<arr.size){Q:Keyed->SortSt->Prop}(h:∀x,arr[i]?=some x->arr.toList[i]?=some x->Q x st):wpS (model prog w) A E s (elem' arr i) Q st:=by
 rw[elem'_eq];have e:arr[i]?=some arr[i]:=getElem?_pos arr i hi;rw[e];exact wpS_pure (h _ e (by rw[Array.getElem?_toList];exact e))
def P2(kf:Keyed->O.α)(st:SortSt)(a b:Array Keyed)(c0:Nat)(c:T2)(st':SortSt):Prop:=Good st st'/\((∃r,c.1=some r/\C6 kf a b r)∨(c.1=none/\MI kf a b c.2.1 c.2.2.1 c.2.2.2.1/\c0<=c.2.2.1+c.2.2.2.1))
def Y2(kf:Keyed->O.α)(st:SortSt)(a b:Array Keyed)(c0:Nat)(c:T2)(st':SortSt):Prop:=Good st st'/\c.1=none/\MI kf a b c.2.1 c.2.2.1 c.2.2.2.1/\c0<=c.2.2.1+c.2.2.2.1
def R2'(kf:Keyed->O.α)(st:SortSt)(a b:Array Keyed)(c0:Nat)(r:ForInStep T2)(st':SortSt):Prop:=match r with | .done c'=>P2 kf st a b c0 c' st' | .yield c'=>Y2 kf st a b c0 c' st'
variable {c0 mg k k1 bc ac:Nat}{st':SortSt}
theorem a6Y(T:Two D kf a b)(g:Good st st')(h:MI kf a b out ia ib)(i:∀x,a.toList[ia]?=some x->∀y∈b.toList.drop ib,leK kf x y)(j:c0<=ia+ib):wpS (model prog w) A E s (loD a b out ia ib mg k k1) (R2' kf st a b c0) st':=by
 unfold loD;refine wpS_bind (B2 (by have:=h.2.1;omega) λx l d=>?_);have c:=h.1.stepA T.sa d (i x d);rw[<-Array.toList_push]at c;split
 .rename_i e;exact wpS_pure ⟨g,.inl ⟨_,rfl,X8 T c (eq_of_beq e)⟩⟩
 .rename_i e;have e:¬ia+1+1=a.size:=λz=>e (beq_iff_eq.mpr z);have f:MI kf a b (out.push x) (ia+1) ib:=⟨c,by have:=h.2.1;omega,h.2.2⟩;split
  .exact wpS_pure ⟨g,.inr ⟨rfl,f,by show c0<=ia+1+ib;omega⟩⟩
  .exact wpS_pure ⟨g,rfl,f,by show c0<=ia+1+ib;omega⟩
theorem gdK(a:Array Keyed){i:Nat}(hi:i<a.size):a[i]?=some (a.getD i (Value.none,Value.none)):=by
 rw[Array.getD_eq_getD_getElem?,getElem?_pos a i hi];rfl
theorem X7{l:List Keyed}(hs:l.Pairwise (leK kf)){i j:Nat}{x y:Keyed}(b:i<=j)(ex:l[i]?=some x)(a:l[j]?=some y):leK kf x y:=by
 by_cases e:i=j
 .subst e;rw[ex]at a;cases a;exact KeyOrd.kle_refl _
 .refine U8 hs ex y ?_;have:(l.drop (i+1))[j-(i+1)]?=some y:=by rw[List.getElem?_drop,<-a];congr 1;omega
  exact List.mem_of_getElem? this
theorem a6Z(T:Two D kf a b)(o:Cmp prog w A s κ D (ltK kf))(B:kindOf st=κ)(g:Good st st')(h:MI kf a b out ia ib)(v:∀y,b.toList[ib]?=some y->∀x∈a.toList.drop ia,leK kf y x)(G:c0<=ia+ib):wpS (model prog w) A E s (loC a b out ia ib mg k bc) (R2' kf st a b c0) st':=by
 unfold loC;obtain⟨q,hia,r⟩:=h;refine wpS_bind (B2 r λy u f=>?_);have m:=q.stepB T.sb f (v y f);rw[<-Array.toList_push]at m;split
 .rename_i e;exact wpS_pure ⟨g,.inl ⟨_,rfl,Y6 T m (eq_of_beq e)⟩⟩
 .rename_i e;have e:¬ib+1=b.size:=λz=>e (beq_iff_eq.mpr z);refine wpS_bind (B2 (by omega) λx f1 f2=>?_);refine wpS_bind (J5 o (g.1.trans B) (T.da _ _ f1) (λi=>ltK kf (b.getD (ib+1+i) (Value.none,Value.none)) x) (λi hi=>⟨_,gdK b (by omega),T.db _ _ (gdK b (by omega)),rfl⟩) (λi j C H F=>?_) (by omega) λk1 q1 q2 q3=>?_)
  .refine KeyOrd.klt_of_kle_of_klt (X7 T.sb (i:=ib+1+i) (j:=ib+1+j) (by omega) ?_ ?_) F
   .rw[Array.getElem?_toList];exact gdK b (by omega)
   .rw[Array.getElem?_toList];exact gdK b (by omega)
  .dsimp only;have d:∀(c:Nat),c=ib+1+k1->c<b.size->∀n,a.toList[ia]?=some n->∀y∈b.toList.drop c,leK kf n y:=λc u f n ex'=>by
    rw[f2]at ex';cases ex';have p:b.toList[c]?=some (b.getD c (Value.none,Value.none)):=by rw[Array.getElem?_toList];exact gdK b f
    refine T0 T.sb p ?_;have:=q3 k1 (Nat.le_refl _) (by omega);rw[<-u]at this;exact this
   split
   .have hbk:=MS.bulkB T.sb (k:=k1) m (by rw[Array.length_toList];omega) λi z hi t=>by
     refine T0 T.sa f2 ?_;have:=q2 i hi;rw[Array.getElem?_toList,gdK b (by omega)]at t;cases t;exact KeyOrd.kle_of_klt this
    rw[<-a2Q,<-Array.toList_append]at hbk;split
    .rename_i l;exact wpS_pure ⟨g,.inl ⟨_,rfl,Y6 T hbk (eq_of_beq l)⟩⟩
    .rename_i l;have l:¬ib+1+k1=b.size:=λz=>l (beq_iff_eq.mpr z);exact a6Y T g ⟨hbk,hia,by omega⟩ (d _ rfl (by omega)) (by omega)
   .exact a6Y T g ⟨m,hia,by omega⟩ (d _ (by omega) (by omega)) (by omega)
theorem R1{Q:Unit->SortSt->Prop}(h:∀a,Good st' a->Q () a):wpS (model prog w) A E s (X4 mg) Q st':=by
 unfold X4;exact wpS_modify (h _ ⟨rfl,rfl,rfl,rfl⟩)
theorem Good.trans{st st' a:SortSt}(h:Good st st')(h2:Good st' a):Good st a:=⟨h2.1.trans h.1,h2.2.1.trans h.2.1,h2.2.2.1.trans h.2.2.1,h2.2.2.2.trans h.2.2.2⟩
theorem a7a(T:Two D kf a b)(f:Cmp prog w A s κ D (ltK kf))(t:kindOf st=κ)(g:Good st st')(h:MI kf a b out ia ib)(p:c0<=ia+ib):wpS (model prog w) A E s (loB a b out ia ib mg ac bc) (R2' kf st a b c0) st':=by
 unfold loB;obtain⟨n,hia,l⟩:=h;refine wpS_bind (R1 λL J=>?_);have g:=g.trans J;refine wpS_bind (B2 l λy G r=>?_);refine wpS_bind (J5 f (g.1.trans t) (T.db _ _ G) (λi=>!(ltK kf y (a.getD (ia+i) (Value.none,Value.none)))) (λi hi=>⟨_,gdK a (by omega),T.da _ _ (gdK a (by omega)),rfl⟩) (λi j H K v=>?_) (by omega) λk q1 q2 q3=>?_)
 .have hle:leK kf (a.getD (ia+j) (Value.none,Value.none)) y:=by
   unfold leK KeyOrd.kle;unfold ltK at v;simpa using v
  have:=KeyOrd.kle_trans (X7 T.sa (i:=ia+i) (j:=ia+j) (by omega) (by rw[Array.getElem?_toList];exact gdK a (by omega)) (by rw[Array.getElem?_toList];exact gdK a (by omega))) hle;unfold KeyOrd.kle at this;unfold ltK;rw[this];rfl
 .dsimp only;have m:ltK kf y (a.getD (a.size-1) (Value.none,Value.none))=true:=T.last y (List.mem_of_getElem? r) _ (gdK a (by omega));have I:ia+k<a.size:=by
   refine Nat.lt_of_not_le λM=>?_;have:=q2 (a.size-1-ia) (by omega);rw[show ia+(a.size-1-ia)=a.size-1 by omega,m]at this;cases this
  have c:∀d,d=ia+k->∀u,b.toList[ib]?=some u->∀x∈a.toList.drop d,leK kf u x:=λd e u C=>by
   rw[r]at C;cases C;have q:a.toList[d]?=some (a.getD d (Value.none,Value.none)):=by rw[Array.getElem?_toList];exact gdK a (by omega)
   refine T0 T.sa q ?_;have:=q3 k (Nat.le_refl _) (by omega);rw[<-e]at this;refine KeyOrd.kle_of_klt ?_;unfold KeyOrd.klt;unfold ltK at this;simpa using this
  split
  .have hbk:=MS.bulkA T.sa k n (by rw[Array.length_toList];omega) λi z hi B=>by
    refine T0 T.sb r ?_;have:=q2 i hi;rw[Array.getElem?_toList,gdK a (by omega)]at B;cases B;unfold leK KeyOrd.kle;unfold ltK at this;simpa using this
   rw[<-a2Q,<-Array.toList_append]at hbk;split
   .rename_i o;exact wpS_pure ⟨g,.inl ⟨_,rfl,X8 T hbk (eq_of_beq o)⟩⟩
   .rename_i o;have o:¬ia+k+1=a.size:=λz=>o (beq_iff_eq.mpr z);split
    .rename_i F;have F:=eq_of_beq F;omega
    .exact a6Z T f t g ⟨hbk,by omega,l⟩ (c _ rfl) (by omega)
  .exact a6Z T f t g ⟨n,hia,l⟩ (c _ (by omega)) p
def P1(kf:Keyed->O.α)(st:SortSt)(a b:Array Keyed)(c0:Nat)(c:T1)(st':SortSt):Prop:=Good st st'/\((∃r,c.1=some r/\C6 kf a b r)∨(c.1=none/\MI kf a b c.2.1 c.2.2.1 c.2.2.2.1/\c0<=c.2.2.1+c.2.2.2.1))
def Y1(kf:Keyed->O.α)(st:SortSt)(a b:Array Keyed)(c0:Nat)(c:T1)(st':SortSt):Prop:=Good st st'/\c.1=none/\MI kf a b c.2.1 c.2.2.1 c.2.2.2.1/\c0<=c.2.2.1+c.2.2.2.1
def R1'(kf:Keyed->O.α)(st:SortSt)(a b:Array Keyed)(c0:Nat)(r:ForInStep T1)(st':SortSt):Prop:=match r with | .done c'=>P1 kf st a b c0 c' st' | .yield c'=>Y1 kf st a b c0 c' st'
theorem b2I(T:Two D kf a b)(l:Cmp prog w A s κ D (ltK kf))(q:kindOf st=κ)(g:Good st st')(h:MI kf a b out ia ib)(o:c0<=ia+ib):wpS (model prog w) A E s (loA a b out ia ib ac bc mg) (R1' kf st a b (c0+1)) st':=by
 unfold loA;obtain⟨j,hia,f⟩:=h;refine wpS_bind (B2 f λy p m=>?_);refine wpS_bind (B2 (by omega) λx f1 f2=>?_);refine wpS_bind (a0g l (g.1.trans q) (T.db _ _ p) (T.da _ _ f1) ?_);dsimp only;cases n:ltK kf y x with
 |true =>
  rw[if_pos rfl];refine wpS_bind (B2 f λt k c=>?_);rw[m]at c;cases c;have d:=j.stepB T.sb m (T0 T.sa f2 (KeyOrd.kle_of_klt n));rw[<-Array.toList_push]at d;split
  .rename_i e;exact wpS_pure ⟨g,.inl ⟨_,rfl,Y6 T d (eq_of_beq e)⟩⟩
  .rename_i e;have e:¬ib+1=b.size:=λz=>e (beq_iff_eq.mpr z);have i:MI kf a b (out.push y) ia (ib+1):=⟨d,hia,by omega⟩;split
   .exact wpS_pure ⟨g,.inr ⟨rfl,i,by show c0+1<=ia+(ib+1);omega⟩⟩
   .exact wpS_pure ⟨g,rfl,i,by show c0+1<=ia+(ib+1);omega⟩
 |false =>
  rw[if_neg (by simp)];refine wpS_bind (B2 (by omega) λr k c=>?_);rw[f2]at c;cases c;have d:=j.stepA T.sa f2 (T0 T.sb m n);rw[<-Array.toList_push]at d;split
  .rename_i e;exact wpS_pure ⟨g,.inl ⟨_,rfl,X8 T d (eq_of_beq e)⟩⟩
  .rename_i e;have e:¬ia+1+1=a.size:=λz=>e (beq_iff_eq.mpr z);have i:MI kf a b (out.push x) (ia+1) ib:=⟨d,by omega,f⟩;split
   .exact wpS_pure ⟨g,.inr ⟨rfl,i,by show c0+1<=ia+1+ib;omega⟩⟩
   .exact wpS_pure ⟨g,rfl,i,by show c0+1<=ia+1+ib;omega⟩
theorem P0{n:String}{Q:Unit->SortSt->Prop}(h:Q () st):wpS (model prog w) A E s (liftM (rule n):StateT SortSt Sem Unit) Q st:=wpS_lift (wpAny_rule ⟨rfl,h⟩)
theorem a4U(T:Two D kf a b)(j:Cmp prog w A s κ D (ltK kf))(o:kindOf st=κ)(ha:0<a.size)(v:0<b.size)(h0:∀y,b.toList[0]?=some y->∀x∈a.toList,leK kf y x){Q:Array Keyed->SortSt->Prop}
  (q:∀r st',C6 kf a b r->Good st st'->Q r st'):wpS (model prog w) A E s (a2s a b) Q st:=by
 rw[a5E];refine wpS_bind (P0 ?_);refine wpS_bind (B2 v λy f i=>?_);have k:MS kf a.toList b.toList (#[y]:Array Keyed).toList 0 1:=by
  have z:MS kf a.toList b.toList [] 0 0:=⟨.nil,.nil,(λ_ h=>nomatch h),λ_ h=>nomatch h⟩;exact z.stepB T.sb i (λx p=>h0 y i x p)
 have gr:Good st st:=⟨rfl,rfl,rfl,rfl⟩;split
 .rename_i e;exact wpS_pure (q _ _ (Y6 T k (eq_of_beq e)) gr)
 .rename_i e;have e:¬1=b.size:=λz=>e (beq_iff_eq.mpr z);split
  .rename_i m;exact wpS_pure (q _ _ (X8 T k (eq_of_beq m)) gr)
  .rename_i m;have m:¬0+1=a.size:=λz=>m (beq_iff_eq.mpr z);refine wpS_bind (wpS_get ?_);refine wpS_bind (wpS_mono (wpS_forRange (I:=λx c st'=>Good st st'/\c.1=none/\MI kf a b c.2.1 c.2.2.1 c.2.2.2.1/\x+1<=c.2.2.1+c.2.2.2.1)
    (Q:=λc st'=>Good st st'/\∃r,c.1=some r/\C6 kf a b r) ?step ?fin ⟨gr,rfl,⟨k,by show 0+1<a.size;omega,by show 1<b.size;omega⟩,Nat.le_refl _⟩) ?post)
   case post =>
    rintro c st' ⟨g,r,f,i⟩;obtain⟨G,H⟩:=c;dsimp only at f;subst f;exact wpS_pure (q _ _ i g)
   case fin =>
    rintro c st' ⟨g,f,⟨_,h1,h2⟩,J⟩;exfalso;omega
   case step =>
    rintro x c B _ p ⟨g,f,n,F⟩;refine wpS_bind (wpS_mono (wpS_forRange (I:=λz d st'=>Y1 kf st a b (x+1+min z 1) d st') (Q:=λd st'=>P1 kf st a b (x+2) d st') ?s1 ?f1 ⟨g,rfl,n,by show x+1+min 0 1<=c.2.2.1+c.2.2.2.1;omega⟩) ?p1)
    case f1 =>
     rintro d st' ⟨g,f,h1,h2⟩;exact⟨g,.inr ⟨f,h1,by omega⟩⟩
    case s1 =>
     rintro z d st' _ hz ⟨g,f,h1,h2⟩;refine wpS_mono (b2I T j o g h1 (c0:=x+1) (by omega)) λr l hr=>?_;cases r with
     |done c'=>exact hr
     | «yield» c'=>exact⟨hr.1,hr.2.1,hr.2.2.1,by have:=hr.2.2.2;omega⟩
    case p1 =>
     rintro d st' ⟨g,hd⟩;obtain⟨C,t⟩:=d;rcases hd with⟨r,f,i⟩|⟨f,h1,h2⟩
     .dsimp only at f;subst f;exact wpS_pure ⟨g,r,rfl,i⟩
     .dsimp only at f;subst f;refine wpS_bind (P0 ?_);refine wpS_bind (wpS_mono (wpS_forRange (I:=λz d st'=>Y2 kf st a b (x+2) d st') (Q:=λd st'=>P2 kf st a b (x+2) d st') ?s2 ?f2 ⟨g,rfl,h1,h2⟩) ?p2)
      case f2 =>
       rintro d st' ⟨g,f,h1,h2⟩;exact⟨g,.inr ⟨f,h1,h2⟩⟩
      case s2 =>
       rintro z d st' _ hz ⟨g,f,h1,h2⟩;split
       .refine wpS_mono (a7a T j o g h1 h2) λr l hr=>?_;cases r<;>exact hr
       .refine wpS_mono (a7a T j o g h1 h2) λr l hr=>?_;cases r<;>exact hr
      case p2 =>
       rintro d st' ⟨g,hd⟩;obtain⟨C,t⟩:=d;rcases hd with⟨r,f,i⟩|⟨f,h1,h2⟩
       .dsimp only at f;subst f;exact wpS_pure ⟨g,r,rfl,i⟩
       .dsimp only at f;subst f;refine wpS_bind (R1 λK u=>?_);exact wpS_pure ⟨g.trans u,rfl,h1,h2⟩
end
section
variable {O:KeyOrd}{kf:Keyed->O.α}{la lb o:List Keyed}{na nb:Nat}
structure MH(kf:Keyed->O.α)(la lb o:List Keyed)(na nb:Nat):Prop where
 perm:o.Perm (la.drop na++lb.drop nb)
 sorted:o.Pairwise (leK kf)
 ra:∀x∈la.take na,∀y∈o,leK kf x y
 rb:∀x∈lb.take nb,∀y∈o,leK kf x y
theorem a1i{l:List Keyed}{i:Nat}{x:Keyed}(hs:l.Pairwise (leK kf))(h:l[i]?=some x):∀y∈l.take i,leK kf y x:=λy a=>by
 have:=hs.take (i:=i+1);rw[R5 h,List.pairwise_append]at this;exact this.2.2 y a x (List.mem_singleton.mpr rfl)
theorem MH.stepA{x:Keyed}(h:MH kf la lb o (na+1) nb)(hs:la.Pairwise (leK kf))(e:la[na]?=some x)(c:∀y∈lb.take nb,leK kf y x):MH kf la lb (x::o) na nb:=by
 have b:x∈la.take (na+1):=by rw[R5 e];exact List.mem_append_right _ (List.mem_singleton.mpr rfl)
 refine⟨?_,?_,λz hz y a=>?_,λz hz y a=>?_⟩
 .rw[Y5 e,List.cons_append];exact h.perm.cons x
 .rw[List.pairwise_cons];exact⟨λy a=>h.ra x b y a,h.sorted⟩
 .rcases List.mem_cons.mp a with rfl|a
  .exact a1i hs e z hz
  .exact h.ra z (by rw[R5 e];exact List.mem_append_left _ hz) y a
 .rcases List.mem_cons.mp a with rfl|a
  .exact c z hz
  .exact h.rb z hz y a
theorem MH.swap(h:MH kf la lb o na nb):MH kf lb la o nb na:=⟨h.perm.trans List.perm_append_comm,h.sorted,h.rb,h.ra⟩
theorem MH.stepB{x:Keyed}(h:MH kf la lb o na (nb+1))(hs:lb.Pairwise (leK kf))(e:lb[nb]?=some x)(ha:∀y∈la.take na,leK kf y x):MH kf la lb (x::o) na nb:=(h.swap.stepA hs e ha).swap
theorem MH.bulkA(hs:la.Pairwise (leK kf)){at_:Nat}:∀(k:Nat) {o:List Keyed},MH kf la lb o (at_+k) nb->at_+k<=la.length->(∀i x,at_<=i->i<at_+k->la[i]?=some x->∀y∈lb.take nb,leK kf y x)->MH kf la lb ((la.take (at_+k)).drop at_++o) at_ nb
 |0,o,h,hl,_=>by
  rw[Nat.add_zero,List.drop_eq_nil_of_le (by rw[List.length_take];omega),List.nil_append];exact h
 |k+1,o,h,hl,hk=>by
  obtain⟨x,a⟩:∃x,la[at_+k]?=some x:=⟨_,List.getElem?_eq_getElem (by omega)⟩;have h1:=MH.stepA (na:=at_+k) h hs a (hk _ x (by omega) (by omega) a);have h2:=MH.bulkA hs k h1 (by omega) λi y h1 h2 e=>hk i y h1 (by omega) e;rw[show at_+(k+1)=at_+k+1 by omega,R5 a,List.drop_append_of_le_length (by rw[List.length_take];omega),List.append_assoc];exact h2
theorem MH.bulkB(hs:lb.Pairwise (leK kf)){at_ k:Nat}(h:MH kf la lb o na (at_+k))(hl:at_+k<=lb.length)(a:∀i x,at_<=i->i<at_+k->lb[i]?=some x->∀y∈la.take na,leK kf y x):MH kf la lb ((lb.take (at_+k)).drop at_++o) na at_ :=
 (MH.bulkA hs k h.swap hl a).swap
theorem MH.done(h:MH kf la lb o 0 nb)(hs:lb.Pairwise (leK kf)):a1c kf la lb (la.take 0++lb.take nb++o):=by
 rw[List.take_zero,List.nil_append];have hp:=h.perm;rw[List.drop_zero]at hp;refine⟨?_,?_⟩
 .refine(List.Perm.append_left _ hp).trans ?_;rw[<-List.append_assoc];refine(List.Perm.append_right _ List.perm_append_comm).trans ?_;rw[List.append_assoc,List.take_append_drop]
 .rw[List.pairwise_append];exact⟨hs.take,h.sorted,h.rb⟩
theorem MH.firstB(h:MH kf la lb o na nb)(a:la.Pairwise (leK kf))(hs:lb.Pairwise (leK kf))(hl:∀y∈lb.take nb,∀x∈la.take na,leK kf y x):a1c kf la lb (lb.take nb++la.take na++o):=by
 refine⟨?_,?_⟩
 .refine(List.Perm.append_left _ h.perm).trans ?_;rw[List.append_assoc,<-List.append_assoc (la.take na),List.take_append_drop];refine List.perm_append_comm.trans ?_;rw[List.append_assoc];refine List.Perm.append_left _ (List.perm_append_comm.trans ?_);rw[List.take_append_drop]
 .rw[List.pairwise_append];refine⟨?_,h.sorted,λx c y b=>?_⟩
  .rw[List.pairwise_append];exact⟨hs.take,a.take,hl⟩
  .rcases List.mem_append.mp c with q|q
   .exact h.rb x q y b
   .exact h.ra x q y b
end
noncomputable def a2t:Array Keyed->Array Keyed->StateT SortSt Sem (Array Keyed):=sortPriv% PySem.Builtin.mergeHi
noncomputable def N1(a b out:Array Keyed)(na nb:Nat):Array Keyed:=a.extract 0 na++b.extract 0 nb++out.reverse
noncomputable def T4(a b out:Array Keyed)(na nb:Nat):Array Keyed:=b.extract 0 nb++a.extract 0 na++out.reverse
abbrev U1:Type:=Option (Array Keyed)×Nat×Nat×Array Keyed×Nat×Nat
abbrev U2:Type:=Option (Array Keyed)×Nat×Nat×Array Keyed×Nat×Nat×Nat
noncomputable def hiD(a b:Array Keyed)(na nb:Nat)(out:Array Keyed)(mg k k1:Nat):StateT SortSt Sem (ForInStep U2) :=
 elem' a (na-1)>>=λx =>
 if (na-1==0)=true then pure (.done (some (N1 a b (out.push x) (na-1) nb),na-1,nb,out.push x,mg,k,k1))
 else if (decide (k<7) && decide (k1<7))=true then pure (.done (none,na-1,nb,out.push x,mg,k,k1))
 else pure (.yield (none,na-1,nb,out.push x,mg,k,k1))
noncomputable def hiC(a b:Array Keyed)(na nb:Nat)(out:Array Keyed)(mg k bc:Nat):StateT SortSt Sem (ForInStep U2) :=
 elem' b (nb-1)>>=λy =>
 if (nb-1==1)=true then pure (.done (some (T4 a b (out.push y) na (nb-1)),na,nb-1,out.push y,mg,k,bc))
 else elem' a (na-1)>>=λx=>O6 true x b 0 (nb-1) (nb-1-1)>>=λr =>
  match r with
  |some at_=>(if nb-1-at_ > 0 then
    (if (at_==1)=true then pure (.done (some (T4 a b (out.push y++(b.extract at_ (nb-1)).reverse) na at_),na,at_,out.push y++(b.extract at_ (nb-1)).reverse,mg,k,nb-1-at_))
    else if (at_==0)=true then pure (.done (some (N1 a b (out.push y++(b.extract at_ (nb-1)).reverse) na at_),na,at_,out.push y++(b.extract at_ (nb-1)).reverse,mg,k,nb-1-at_))
    else hiD a b na at_ (out.push y++(b.extract at_ (nb-1)).reverse) mg k (nb-1-at_))
   else hiD a b na (nb-1) (out.push y) mg k (nb-1-at_))
  |_=>pure (.done (some (N1 a b (out.push y) na (nb-1)),na,nb-1,out.push y,mg,k,bc))
noncomputable def hiB(a b:Array Keyed)(na nb:Nat)(out:Array Keyed)(mg ac bc:Nat):StateT SortSt Sem (ForInStep U2) :=
 X4 mg>>=λ_=>elem' b (nb-1)>>=λy=>O6 false y a 0 na (na-1)>>=λr =>
 match r with
 |some at_=>(if na-at_ > 0 then
   (if (at_==0)=true then pure (.done (some (N1 a b (out++(a.extract at_ na).reverse) at_ nb),at_,nb,out++(a.extract at_ na).reverse,mg,na-at_,bc))
   else hiC a b at_ nb (out++(a.extract at_ na).reverse) mg (na-at_) bc)
  else hiC a b na nb out mg (na-at_) bc)
 |_=>pure (.done (some (N1 a b out na nb),na,nb,out,mg,ac,bc))
noncomputable def hiA(a b:Array Keyed)(na nb:Nat)(out:Array Keyed)(ac bc mg:Nat):StateT SortSt Sem (ForInStep U1) :=
 elem' b (nb-1)>>=λy=>elem' a (na-1)>>=λx=>lt' y x>>=λr =>
 match r with
 |some aWins=>(if aWins=true then elem' a (na-1)>>=λx =>
   (if (na-1==0)=true then pure (.done (some (N1 a b (out.push x) (na-1) nb),na-1,nb,out.push x,ac+1,0))
   else if ac+1 ≥ mg then pure (.done (none,na-1,nb,out.push x,ac+1,0))
   else pure (.yield (none,na-1,nb,out.push x,ac+1,0)))
  else elem' b (nb-1)>>=λy =>
   (if (nb-1==1)=true then pure (.done (some (T4 a b (out.push y) na (nb-1)),na,nb-1,out.push y,0,bc+1))
   else if bc+1 ≥ mg then pure (.done (none,na,nb-1,out.push y,0,bc+1))
   else pure (.yield (none,na,nb-1,out.push y,0,bc+1))))
 |_=>pure (.done (some (N1 a b out na nb),na,nb,out,ac,bc))
theorem a5F(a b:Array Keyed):a2t a b=(do
 rule "list.sort.merge-hi"
 let y <-elem' a (a.size-1)
 if (a.size-1==0)=true then pure (N1 a b #[y] (a.size-1) b.size)
 else if (b.size==1)=true then pure (T4 a b #[y] (a.size-1) b.size)
 else do
  let g <-get
  let r <-forIn [:a.size+b.size] ((none,a.size-1,b.size,#[y],gallopOf g):Option (Array Keyed)×Nat×Nat×Array Keyed×Nat) λ_ c=>do
   let r <-forIn [:a.size+b.size] ((none,c.2.1,c.2.2.1,c.2.2.2.1,0,0):U1) λ_ d=>hiA a b d.2.1 d.2.2.1 d.2.2.2.1 d.2.2.2.2.1 d.2.2.2.2.2 c.2.2.2.2
   match r.1 with
   |some q=>pure (ForInStep.done (some q,r.2.1,r.2.2.1,r.2.2.2.1,c.2.2.2.2))
   |none=>do
    rule "list.sort.gallop"
    let t <-forIn [:a.size+b.size] ((none,r.2.1,r.2.2.1,r.2.2.2.1,c.2.2.2.2+1,r.2.2.2.2.1,r.2.2.2.2.2):U2) λ_ d =>
     if d.2.2.2.2.1 > 1 then hiB a b d.2.1 d.2.2.1 d.2.2.2.1 (d.2.2.2.2.1-1) d.2.2.2.2.2.1 d.2.2.2.2.2.2 else hiB a b d.2.1 d.2.2.1 d.2.2.2.1 d.2.2.2.2.1 d.2.2.2.2.2.1 d.2.2.2.2.2.2
    match t.1 with
    |some q=>pure (ForInStep.done (some q,t.2.1,t.2.2.1,t.2.2.2.1,t.2.2.2.2.1))
    |none=>do
     X4 (t.2.2.2.2.1+1)
     pure (ForInStep.yield (none,t.2.1,t.2.2.1,t.2.2.2.1,t.2.2.2.2.1+1))
  match r.1 with
  |some q=>pure q
  |none=>unsupported "internal:list.sort.merge-bound"):=by
 show(_>>=_)=(_>>=_);refine congrArg _ (funext λ_=>?_);dsimp only;refine congrArg _ (funext λy=>?_);refine ite_congr rfl (λ_=>rfl) (λ_=>ite_congr rfl (λ_=>rfl) λ_=>?_);refine congrArg _ (funext λg=>?_);refine congr (congrArg _ (congrArg _ (funext λ_=>funext λc=>?_))) (funext λr=>?_)
 .refine congr (congrArg _ (congrArg _ (funext λ_=>funext λd=>?_))) (funext λr=>?_)
  .rfl
  .rcases r with⟨_|q,r⟩
   .dsimp only;refine congrArg _ (funext λ_=>?_);refine congr (congrArg _ (congrArg _ (funext λ_=>funext λd=>?_))) (funext λr=>?_)
    .rfl
    .rcases r with⟨_|q,r⟩<;>rfl
   .rfl
 .rcases r with⟨_|q,r⟩
  .dsimp only
  .rfl
theorem a0X{α:Type}(a:Array α)(i n:Nat):(a.extract i n).toList=(a.toList.take n).drop i:=by
 rw[Array.toList_extract];simp[List.extract_eq_drop_take']
theorem a5U(a b out:Array Keyed)(na nb:Nat):(N1 a b out na nb).toList=a.toList.take na++b.toList.take nb++out.toList.reverse:=by
 unfold N1;rw[Array.toList_append,Array.toList_append,a0X,a0X,Array.toList_reverse,List.drop_zero,List.drop_zero]
theorem a4H(a b out:Array Keyed)(na nb:Nat):(T4 a b out na nb).toList=b.toList.take nb++a.toList.take na++out.toList.reverse:=by
 unfold T4;rw[Array.toList_append,Array.toList_append,a0X,a0X,Array.toList_reverse,List.drop_zero,List.drop_zero]
theorem a0r(out:Array Keyed)(x:Keyed):(out.push x).toList.reverse=x::out.toList.reverse:=by
 rw[Array.toList_push,List.reverse_append];rfl
theorem a8q(out a:Array Keyed)(i n:Nat):(out++(a.extract i n).reverse).toList.reverse=(a.toList.take n).drop i++out.toList.reverse:=by
 rw[Array.toList_append,List.reverse_append,Array.toList_reverse,List.reverse_reverse,a0X]
section
variable {prog:Program}{w:World}{A:Around}{E:Value->Shared->Prop}{s:Shared}{κ:SortKind}{D:Keyed->Prop}{O:KeyOrd}{kf:Keyed->O.α}{a b out:Array Keyed}{na nb:Nat}{st:SortSt}
def a3S(kf:Keyed->O.α)(a b:Array Keyed):Prop:=∀y,b.toList[0]?=some y->∀x∈a.toList,ltK kf y x=true
theorem S4{l:List Keyed}{i:Nat}{x z:Keyed}(hs:l.Pairwise (leK kf))(e:l[i]?=some x)(h:leK kf x z):∀y∈l.take (i+1),leK kf y z:=λy a=>by
 rw[R5 e]at a;rcases List.mem_append.mp a with a|a
 .exact KeyOrd.kle_trans (a1i hs e y a) h
 .rw[List.mem_singleton.mp a];exact h
def MJ(kf:Keyed->O.α)(a b out:Array Keyed)(na nb:Nat):Prop:=MH kf a.toList b.toList out.toList.reverse na nb/\1<=na/\2<=nb/\na<=a.size/\nb<=b.size
theorem Y7(T:Two D kf a b)(h:MH kf a.toList b.toList out.toList.reverse na nb)(hi:na=0):C6 kf a b (N1 a b out na nb):=by
 subst hi;unfold C6;rw[a5U];exact h.done T.sb
theorem T3(T:Two D kf a b)(F:a3S kf a b)(h:MH kf a.toList b.toList out.toList.reverse na nb)(hi:nb=1)(f:0<b.size):C6 kf a b (T4 a b out na nb):=by
 subst hi;unfold C6;rw[a4H];refine h.firstB T.sa T.sb λy c x d=>?_;have e:b.toList[0]?=some (b.getD 0 (Value.none,Value.none)):=by rw[Array.getElem?_toList];exact gdK b f
 rw[R5 e,List.take_zero,List.nil_append,List.mem_singleton]at c;rw[c];exact KeyOrd.kle_of_klt (F _ e x (List.mem_of_mem_take d))
def P4(kf:Keyed->O.α)(st:SortSt)(a b:Array Keyed)(c0:Nat)(c:U2)(st':SortSt):Prop:=Good st st'/\((∃r,c.1=some r/\C6 kf a b r)∨(c.1=none/\MJ kf a b c.2.2.2.1 c.2.1 c.2.2.1/\c.2.1+c.2.2.1+c0<=a.size+b.size))
def Y4(kf:Keyed->O.α)(st:SortSt)(a b:Array Keyed)(c0:Nat)(c:U2)(st':SortSt):Prop:=Good st st'/\c.1=none/\MJ kf a b c.2.2.2.1 c.2.1 c.2.2.1/\c.2.1+c.2.2.1+c0<=a.size+b.size
def R4(kf:Keyed->O.α)(st:SortSt)(a b:Array Keyed)(c0:Nat)(r:ForInStep U2)(st':SortSt):Prop:=match r with | .done c'=>P4 kf st a b c0 c' st' | .yield c'=>Y4 kf st a b c0 c' st'
variable {c0 mg k k1 bc ac:Nat}{st':SortSt}
theorem a7b(T:Two D kf a b)(g:Good st st')(h:MJ kf a b out na nb)(j:∀x,a.toList[na-1]?=some x->∀y∈b.toList.take nb,leK kf y x)(l:na+nb+c0<=a.size+b.size):wpS (model prog w) A E s (hiD a b na nb out mg k k1) (R4 kf st a b c0) st':=by
 unfold hiD;obtain⟨f,h1,h2,p,o⟩:=h;refine wpS_bind (B2 (by omega) λx m c=>?_);obtain⟨n,rfl⟩:∃n,na=n+1:=⟨na-1,by omega⟩;rw[Nat.add_sub_cancel]at m c j⊢;have d:=f.stepA T.sa c (j x c);rw[<-a0r]at d;split
 .rename_i e;exact wpS_pure ⟨g,.inl ⟨_,rfl,Y7 T d (eq_of_beq e)⟩⟩
 .rename_i e;have e:¬n=0:=λz=>e (beq_iff_eq.mpr z);have i:MJ kf a b (out.push x) n nb:=⟨d,by omega,h2,by omega,o⟩;split
  .exact wpS_pure ⟨g,.inr ⟨rfl,i,by show n+nb+c0<=_;omega⟩⟩
  .exact wpS_pure ⟨g,rfl,i,by show n+nb+c0<=_;omega⟩
theorem a7c(T:Two D kf a b)(F:a3S kf a b)(q:Cmp prog w A s κ D (ltK kf))(M:kindOf st=κ)(g:Good st st')(h:MJ kf a b out na nb)(C:∀y,b.toList[nb-1]?=some y->∀x∈a.toList.take na,leK kf x y)(K:na+nb+c0<=a.size+b.size):wpS (model prog w) A E s (hiC a b na nb out mg k bc) (R4 kf st a b c0) st':=by
 unfold hiC;obtain⟨r,h1,h2,I,U⟩:=h;refine wpS_bind (B2 (by omega) λy L t=>?_);obtain⟨m,rfl⟩:∃m,nb=m+1:=⟨nb-1,by omega⟩;rw[Nat.add_sub_cancel]at L t C⊢;have l:=r.stepB T.sb t (C y t);rw[<-a0r]at l;split
 .rename_i e;exact wpS_pure ⟨g,.inl ⟨_,rfl,T3 T F l (eq_of_beq e) (by omega)⟩⟩
 .rename_i e;have e:¬m=1:=λz=>e (beq_iff_eq.mpr z);refine wpS_bind (B2 (by omega) λx f1 f2=>?_);refine wpS_bind (J5 q (g.1.trans M) (T.da _ _ f1) (λi=>ltK kf (b.getD (0+i) (Value.none,Value.none)) x) (λi hi=>⟨_,gdK b (by omega),T.db _ _ (gdK b (by omega)),rfl⟩) (λi j O B J=>?_) (by omega) λat_ q1 q2 q3=>?_)
  .refine KeyOrd.klt_of_kle_of_klt (X7 T.sb (i:=0+i) (j:=0+j) (by omega) ?_ ?_) J
   .rw[Array.getElem?_toList];exact gdK b (by omega)
   .rw[Array.getElem?_toList];exact gdK b (by omega)
  .dsimp only;have Q:1<=at_:=by
    refine Nat.pos_of_ne_zero λz=>?_;have:=q3 0 (by omega) (by omega);have hF:=F (b.getD 0 (Value.none,Value.none)) (by rw[Array.getElem?_toList];exact gdK b (by omega)) x (List.mem_of_getElem? f2);rw[Nat.zero_add]at this;rw[hF]at this;cases this
   have c:∀p,a.toList[na-1]?=some p->∀d,d=at_->∀y∈b.toList.take d,leK kf y p:=λp ex' d R=>by
    rw[f2]at ex';cases ex';obtain⟨n,N⟩:∃n,d=n+1:=⟨d-1,by omega⟩;rw[N];have u:b.toList[n]?=some (b.getD n (Value.none,Value.none)):=by rw[Array.getElem?_toList];exact gdK b (by omega)
    refine S4 T.sb u (KeyOrd.kle_of_klt ?_);have:=q2 n (by omega);rw[Nat.zero_add]at this;exact this
   split
   .obtain⟨j,B⟩:∃j,m=at_+j:=⟨m-at_,by omega⟩;have f:MH kf a.toList b.toList ((b.toList.take (at_+j)).drop at_++(out.push y).toList.reverse) na at_:=by
     rw[B]at l;refine MH.bulkB T.sb l (by rw[Array.length_toList];omega) λi z P S G=>?_;have:=q3 i P (by omega);rw[Nat.zero_add]at this;rw[Array.getElem?_toList,gdK b (by omega)]at G;cases G;have v:leK kf x (b.getD i (Value.none,Value.none)):=this;have:=S4 T.sa f2 v;rwa[show na-1+1=na by omega]at this
    rw[<-B,<-a8q]at f;split
    .rename_i o;exact wpS_pure ⟨g,.inl ⟨_,rfl,T3 T F f (eq_of_beq o) (by omega)⟩⟩
    .rename_i o;have o:¬at_=1:=λz=>o (beq_iff_eq.mpr z);split
     .rename_i H;have H:=eq_of_beq H;omega
     .exact a7b T g ⟨f,h1,by omega,I,by omega⟩ (λp ex'=>c p ex' _ rfl) (by omega)
   .exact a7b T g ⟨l,h1,by omega,I,by omega⟩ (λp ex'=>c p ex' _ (by omega)) (by omega)
theorem a7d(T:Two D kf a b)(F:a3S kf a b)(f:Cmp prog w A s κ D (ltK kf))(q:kindOf st=κ)(g:Good st st')(h:MJ kf a b out na nb)(o:na+nb+c0<=a.size+b.size):wpS (model prog w) A E s (hiB a b na nb out mg ac bc) (R4 kf st a b c0) st':=by
 unfold hiB;obtain⟨k,h1,h2,M,H⟩:=h;refine wpS_bind (R1 λP L=>?_);have g:=g.trans L;refine wpS_bind (B2 (by omega) λy I C=>?_);refine wpS_bind (J5 f (g.1.trans q) (T.db _ _ I) (λi=>!(ltK kf y (a.getD (0+i) (Value.none,Value.none)))) (λi hi=>⟨_,gdK a (by omega),T.da _ _ (gdK a (by omega)),rfl⟩) (λi j J u v=>?_) (by omega) λat_ q1 q2 q3=>?_)
 .have hle:leK kf (a.getD (0+j) (Value.none,Value.none)) y:=by
   unfold leK KeyOrd.kle;unfold ltK at v;simpa using v
  have:=KeyOrd.kle_trans (X7 T.sa (i:=0+i) (j:=0+j) (by omega) (by rw[Array.getElem?_toList];exact gdK a (by omega)) (by rw[Array.getElem?_toList];exact gdK a (by omega))) hle;unfold KeyOrd.kle at this;unfold ltK;rw[this];rfl
 .dsimp only;have c:∀d,d=at_->∀r,b.toList[nb-1]?=some r->∀x∈a.toList.take d,leK kf x r:=λd e r G=>by
   rw[C]at G;cases G;subst e;by_cases hz:d=0
   .rw[hz,List.take_zero];exact λ_ z=>nomatch z
   obtain⟨n,rfl⟩:∃n,d=n+1:=⟨d-1,by omega⟩;have p:a.toList[n]?=some (a.getD n (Value.none,Value.none)):=by rw[Array.getElem?_toList];exact gdK a (by omega)
   refine S4 T.sa p ?_;have:=q2 n (by omega);rw[Nat.zero_add]at this;unfold leK KeyOrd.kle;unfold ltK at this;simpa using this
  split
  .obtain⟨j,u⟩:∃j,na=at_+j:=⟨na-at_,by omega⟩;have l:MH kf a.toList b.toList ((a.toList.take (at_+j)).drop at_++out.toList.reverse) at_ nb:=by
    rw[u]at k;refine MH.bulkA T.sa j k (by rw[Array.length_toList];omega) λi z K N B=>?_;have:=q3 i K (by omega);rw[Nat.zero_add]at this;rw[Array.getElem?_toList,gdK a (by omega)]at B;cases B;have t:O.klt (kf y) (kf (a.getD i (Value.none,Value.none))):=by
     unfold KeyOrd.klt;unfold ltK at this;simpa using this
    have:=S4 T.sb C (KeyOrd.kle_of_klt t);rwa[show nb-1+1=nb by omega]at this
   rw[<-u,<-a8q]at l;split
   .rename_i m;exact wpS_pure ⟨g,.inl ⟨_,rfl,Y7 T l (eq_of_beq m)⟩⟩
   .rename_i m;have m:¬at_=0:=λz=>m (beq_iff_eq.mpr z);exact a7c T F f q g ⟨l,by omega,h2,by omega,H⟩ (c _ rfl) (by omega)
  .exact a7c T F f q g ⟨k,h1,h2,M,H⟩ (c _ (by omega)) o
def P3(kf:Keyed->O.α)(st:SortSt)(a b:Array Keyed)(c0:Nat)(c:U1)(st':SortSt):Prop:=Good st st'/\((∃r,c.1=some r/\C6 kf a b r)∨(c.1=none/\MJ kf a b c.2.2.2.1 c.2.1 c.2.2.1/\c.2.1+c.2.2.1+c0<=a.size+b.size))
def Y3(kf:Keyed->O.α)(st:SortSt)(a b:Array Keyed)(c0:Nat)(c:U1)(st':SortSt):Prop:=Good st st'/\c.1=none/\MJ kf a b c.2.2.2.1 c.2.1 c.2.2.1/\c.2.1+c.2.2.1+c0<=a.size+b.size
def R3(kf:Keyed->O.α)(st:SortSt)(a b:Array Keyed)(c0:Nat)(r:ForInStep U1)(st':SortSt):Prop:=match r with | .done c'=>P3 kf st a b c0 c' st' | .yield c'=>Y3 kf st a b c0 c' st'
theorem b2J(T:Two D kf a b)(F:a3S kf a b)(l:Cmp prog w A s κ D (ltK kf))(t:kindOf st=κ)(g:Good st st')(h:MJ kf a b out na nb)(r:na+nb+c0<=a.size+b.size):wpS (model prog w) A E s (hiA a b na nb out ac bc mg) (R3 kf st a b (c0+1)) st':=by
 unfold hiA;obtain⟨i,h1,h2,q,u⟩:=h;refine wpS_bind (B2 (by omega) λy p j=>?_);refine wpS_bind (B2 (by omega) λx f1 f2=>?_);refine wpS_bind (a0g l (g.1.trans t) (T.db _ _ p) (T.da _ _ f1) ?_);dsimp only;obtain⟨n,rfl⟩:∃n,na=n+1:=⟨na-1,by omega⟩;obtain⟨m,rfl⟩:∃m,nb=m+1:=⟨nb-1,by omega⟩;rw[Nat.add_sub_cancel]at p j f1 f2⊢;rw[Nat.add_sub_cancel];cases o:ltK kf y x with
 |true =>
  rw[if_pos rfl];refine wpS_bind (B2 (by omega) λv k c=>?_);rw[f2]at c;cases c;have d:=i.stepA T.sa f2 (S4 T.sb j (KeyOrd.kle_of_klt o));rw[<-a0r]at d;split
  .rename_i e;exact wpS_pure ⟨g,.inl ⟨_,rfl,Y7 T d (eq_of_beq e)⟩⟩
  .rename_i e;have e:¬n=0:=λz=>e (beq_iff_eq.mpr z);have f:MJ kf a b (out.push x) n (m+1):=⟨d,by omega,h2,by omega,u⟩;split
   .exact wpS_pure ⟨g,.inr ⟨rfl,f,by show n+(m+1)+(c0+1)<=_;omega⟩⟩
   .exact wpS_pure ⟨g,rfl,f,by show n+(m+1)+(c0+1)<=_;omega⟩
 |false =>
  rw[if_neg (by simp)];refine wpS_bind (B2 (by omega) λB k c=>?_);rw[j]at c;cases c;have d:=i.stepB T.sb j (S4 T.sa f2 o);rw[<-a0r]at d;split
  .rename_i e;exact wpS_pure ⟨g,.inl ⟨_,rfl,T3 T F d (eq_of_beq e) (by omega)⟩⟩
  .rename_i e;have e:¬m=1:=λz=>e (beq_iff_eq.mpr z);have f:MJ kf a b (out.push y) (n+1) m:=⟨d,h1,by omega,q,by omega⟩;split
   .exact wpS_pure ⟨g,.inr ⟨rfl,f,by show n+1+m+(c0+1)<=_;omega⟩⟩
   .exact wpS_pure ⟨g,rfl,f,by show n+1+m+(c0+1)<=_;omega⟩
theorem a4V(T:Two D kf a b)(F:a3S kf a b)(i:Cmp prog w A s κ D (ltK kf))(o:kindOf st=κ)(ha:0<a.size)(v:0<b.size){Q:Array Keyed->SortSt->Prop}
  (q:∀r st',C6 kf a b r->Good st st'->Q r st'):wpS (model prog w) A E s (a2t a b) Q st:=by
 rw[a5F];refine wpS_bind (P0 ?_);refine wpS_bind (B2 (by omega) λy f j=>?_);have k:MH kf a.toList b.toList (#[y]:Array Keyed).toList.reverse (a.size-1) b.size:=by
  have z:MH kf a.toList b.toList [] (a.size-1+1) b.size:=by
   refine⟨?_,.nil,(λ_ _ _ h=>nomatch h),λ_ _ _ h=>nomatch h⟩;rw[List.drop_eq_nil_of_le (by rw[Array.length_toList];omega),List.drop_eq_nil_of_le (by rw[Array.length_toList];omega)];exact .nil
  exact z.stepA T.sa j (λx p=>KeyOrd.kle_of_klt (T.last x (List.mem_of_mem_take p) y f))
 have gr:Good st st:=⟨rfl,rfl,rfl,rfl⟩;split
 .rename_i e;exact wpS_pure (q _ _ (Y7 T k (eq_of_beq e)) gr)
 .rename_i e;have e:¬a.size-1=0:=λz=>e (beq_iff_eq.mpr z);split
  .rename_i m;exact wpS_pure (q _ _ (T3 T F k (eq_of_beq m) v) gr)
  .rename_i m;have m:¬b.size=1:=λz=>m (beq_iff_eq.mpr z);refine wpS_bind (wpS_get ?_);refine wpS_bind (wpS_mono (wpS_forRange (I:=λx c st'=>Good st st'/\c.1=none/\MJ kf a b c.2.2.2.1 c.2.1 c.2.2.1/\c.2.1+c.2.2.1+(x+1)<=a.size+b.size)
    (Q:=λc st'=>Good st st'/\∃r,c.1=some r/\C6 kf a b r) ?step ?fin ⟨gr,rfl,⟨k,by show 1<=a.size-1;omega,by show 2<=b.size;omega,by show a.size-1<=a.size;omega,Nat.le_refl _⟩,by show a.size-1+b.size+(0+1)<=_;omega⟩) ?post)
   case post =>
    rintro c st' ⟨g,r,f,j⟩;obtain⟨H,J⟩:=c;dsimp only at f;subst f;exact wpS_pure (q _ _ j g)
   case fin =>
    rintro c st' ⟨g,f,⟨_,h1,h2,_⟩,K⟩;exfalso;omega
   case step =>
    rintro x c B _ p ⟨g,f,n,G⟩;refine wpS_bind (wpS_mono (wpS_forRange (I:=λz d st'=>Y3 kf st a b (x+1+min z 1) d st') (Q:=λd st'=>P3 kf st a b (x+2) d st') ?s1 ?f1 ⟨g,rfl,n,by show c.2.1+c.2.2.1+(x+1+min 0 1)<=_;omega⟩) ?p1)
    case f1 =>
     rintro d st' ⟨g,f,h1,h2⟩;exact⟨g,.inr ⟨f,h1,by omega⟩⟩
    case s1 =>
     rintro z d st' _ hz ⟨g,f,h1,h2⟩;refine wpS_mono (b2J T F i o g h1 (c0:=x+1) (by omega)) λr l hr=>?_;cases r with
     |done c'=>exact hr
     | «yield» c'=>exact⟨hr.1,hr.2.1,hr.2.2.1,by have:=hr.2.2.2;omega⟩
    case p1 =>
     rintro d st' ⟨g,hd⟩;obtain⟨C,t⟩:=d;rcases hd with⟨r,f,j⟩|⟨f,h1,h2⟩
     .dsimp only at f;subst f;exact wpS_pure ⟨g,r,rfl,j⟩
     .dsimp only at f;subst f;refine wpS_bind (P0 ?_);refine wpS_bind (wpS_mono (wpS_forRange (I:=λz d st'=>Y4 kf st a b (x+2) d st') (Q:=λd st'=>P4 kf st a b (x+2) d st') ?s2 ?f2 ⟨g,rfl,h1,h2⟩) ?p2)
      case f2 =>
       rintro d st' ⟨g,f,h1,h2⟩;exact⟨g,.inr ⟨f,h1,h2⟩⟩
      case s2 =>
       rintro z d st' _ hz ⟨g,f,h1,h2⟩;split
       .refine wpS_mono (a7d T F i o g h1 h2) λr l hr=>?_;cases r<;>exact hr
       .refine wpS_mono (a7d T F i o g h1 h2) λr l hr=>?_;cases r<;>exact hr
      case p2 =>
       rintro d st' ⟨g,hd⟩;obtain⟨C,t⟩:=d;rcases hd with⟨r,f,j⟩|⟨f,h1,h2⟩
       .dsimp only at f;subst f;exact wpS_pure ⟨g,r,rfl,j⟩
       .dsimp only at f;subst f;refine wpS_bind (R1 λL u=>?_);exact wpS_pure ⟨g.trans u,rfl,h1,h2⟩
end
noncomputable def a6q(arr merged:Array Keyed)(sa:Nat):Array Keyed:=merged.toList.zipIdx.foldl (λa (p,j)=>a.setIfInBounds (sa+j) p) arr
noncomputable def mgC(sa:Nat)(merged:Array Keyed):StateT SortSt Sem Bool :=
 (modify λs=>SortSt.mk' (kindOf s) (a6q (arrOf s) merged sa) (pendingOf s) (gallopOf s) (failedOf s))>>=λ_=>get>>=λs=>pure (failedOf s).isNone
noncomputable def mgB(s:SortSt)(sa na sb nb:Nat):StateT SortSt Sem Bool :=
 elem' (arrOf s) (sa+na-1)>>=λx=>O6 true x (arrOf s) sb nb (nb-1)>>=λr=>match r with
 |some n=>(if (n==0)=true then pure true
  else if na<=n then a2s ((arrOf s).extract sa sb) ((arrOf s).extract sb (sb+n))>>=mgC sa
  else a2t ((arrOf s).extract sa sb) ((arrOf s).extract sb (sb+n))>>=mgC sa)
 |_=>pure false
noncomputable def mgA(s:SortSt)(sa na sb nb:Nat):StateT SortSt Sem Bool :=
 elem' (arrOf s) sb>>=λy=>O6 false y (arrOf s) sa na 0>>=λr=>match r with
 |some k=>(if (na-k==0)=true then pure true else mgB s (sa+k) (na-k) sb nb)
 |_=>pure false
theorem a5G(i:Nat):mergeAt' i=(get>>=λs=>match ((pendingOf s)[i]?,(pendingOf s)[i+1]?)with
 |(some (sa,na,pw),some (sb,nb,_))=>set (SortSt.mk' (kindOf s) (arrOf s) (((pendingOf s).setIfInBounds i (sa,na+nb,pw)).eraseIdxIfInBounds (i+1)) (gallopOf s) (failedOf s))>>=λ_=>mgA s sa na sb nb
 |_=>liftM (unsupported "internal:list.sort.pending" : Sem Bool)):=by
 show(_>>=_)=(_>>=_);refine congrArg _ (funext λs=>?_);dsimp only;rcases(pendingOf s)[i]? with _|⟨sa,na,pw⟩
 .rfl
 rcases(pendingOf s)[i+1]? with _|⟨sb,nb,pw2⟩
 .rfl
 dsimp only;refine congrArg _ (funext λ_=>?_);unfold mgA;refine congrArg _ (funext λy=>?_);refine congrArg _ (funext λr=>?_);rcases r with _|k
 .rfl
 dsimp only;refine ite_congr rfl (λ_=>rfl) λ_=>?_;unfold mgB;refine congrArg _ (funext λx=>?_);refine congrArg _ (funext λr=>?_);rcases r with _|n
 .rfl
 rfl
theorem a3D:∀(l:List Keyed) (arr:Array Keyed) (sa j:Nat),sa+j+l.length<=arr.size ->
  ((l.zipIdx j).foldl (λa (p:Keyed×Nat)=>a.setIfInBounds (sa+p.2) p.1) arr).toList=arr.toList.take (sa+j)++l++arr.toList.drop (sa+j+l.length)
 |[],arr,sa,j,h=>by simp
 |x::l,arr,sa,j,h=>by
  rw[List.length_cons]at h;rw[List.zipIdx_cons,List.foldl_cons,a3D l _ sa (j+1) (by rw[Array.size_setIfInBounds];omega)];rw[Array.toList_setIfInBounds];have b:sa+j<arr.toList.length:=by rw[Array.length_toList];omega
  rw[List.length_cons,show sa+(j+1)=sa+j+1 by omega];rw[List.take_set,List.drop_set_of_lt (by omega)];rw[List.take_succ_eq_append_getElem b,List.set_append_right _ _ (by rw[List.length_take];omega)];rw[List.length_take,show sa+j-min (sa+j) arr.toList.length=0 by omega];simp[List.append_assoc];congr 1;omega
theorem a5q(arr a:Array Keyed)(sa:Nat)(h:sa+a.size<=arr.size):(a6q arr a sa).toList=arr.toList.take sa++a.toList++arr.toList.drop (sa+a.size):=by
 have:=a3D a.toList arr sa 0 (by rw[Array.length_toList];omega);rw[Nat.add_zero,Array.length_toList]at this;exact this
theorem b2H{M:Model}{A:Around}{E:Value->Shared->Prop}{s:Shared}{σ:Type}{st a:σ}{Q:PUnit->σ->Prop}(h:Q ⟨⟩ a):wpS M A E s (set a:StateT σ Sem PUnit) Q st:=by
 unfold wpS;rw[StateT.run_set];exact wpAny_pure ⟨rfl,h⟩
section
variable {prog:Program}{w:World}{A:Around}{E:Value->Shared->Prop}{s:Shared}{κ:SortKind}{D:Keyed->Prop}{O:KeyOrd}{kf:Keyed->O.α}{st:SortSt}
structure Runs2(kf:Keyed->O.α)(D:Keyed->Prop)(arr:Array Keyed)(P LA LB R:List Keyed):Prop where
 eq:arr.toList=P++LA++LB++R
 d:∀x∈arr.toList,D x
 sa:LA.Pairwise (leK kf)
 sb:LB.Pairwise (leK kf)
 na:0<LA.length
 nb:0<LB.length
variable {arr:Array Keyed}{P LA LB R:List Keyed}
theorem Runs2.atA(h:Runs2 kf D arr P LA LB R){i:Nat}(hi:i<LA.length):arr[P.length+i]?=LA[i]?:=by
 rw[<-Array.getElem?_toList,h.eq,List.append_assoc,List.append_assoc,List.getElem?_append_right (by omega),List.getElem?_append_left (by omega)];congr 1;omega
theorem Runs2.atB(h:Runs2 kf D arr P LA LB R){i:Nat}(hi:i<LB.length):arr[P.length+LA.length+i]?=LB[i]?:=by
 rw[<-Array.getElem?_toList,h.eq,List.append_assoc,List.getElem?_append_right (by rw[List.length_append];omega),List.getElem?_append_left (by rw[List.length_append];omega)];congr 1;rw[List.length_append];omega
theorem Runs2.dA(h:Runs2 kf D arr P LA LB R):∀x∈LA,D x:=λx a=>h.d x (by rw[h.eq];simp[a])
theorem Runs2.dB(h:Runs2 kf D arr P LA LB R):∀x∈LB,D x:=λx a=>h.d x (by rw[h.eq];simp[a])
theorem Runs2.size(h:Runs2 kf D arr P LA LB R):arr.size=P.length+LA.length+LB.length+R.length:=by
 rw[<-Array.length_toList,h.eq];simp[Nat.add_assoc]
theorem Runs2.extA(h:Runs2 kf D arr P LA LB R)(k:Nat):(arr.extract (P.length+k) (P.length+LA.length)).toList=LA.drop k:=by
 rw[a0X,h.eq,List.append_assoc (P++LA),List.take_append_of_le_length (by simp)];rw[List.take_of_length_le (by simp),List.drop_append,List.drop_eq_nil_of_le (by omega),List.nil_append];congr 1;omega
theorem Runs2.extB(h:Runs2 kf D arr P LA LB R){k:Nat}(a:k<=LB.length):(arr.extract (P.length+LA.length) (P.length+LA.length+k)).toList=LB.take k:=by
 rw[a2Q,h.eq,List.append_assoc,List.drop_append_of_le_length (by simp),List.drop_eq_nil_of_le (by simp),List.nil_append,List.take_append_of_le_length a]
theorem a4W{i pw a4:Nat}{Q:Bool->SortSt->Prop}(B:Cmp prog w A s κ D (ltK kf))(hk:kindOf st=κ)(h:Runs2 kf D (arrOf st) P LA LB R)(hp:(pendingOf st)[i]?=some (P.length,LA.length,pw))(b0:(pendingOf st)[i+1]?=some (P.length+LA.length,LB.length,a4))(hf:failedOf st=none)
  (q:∀(st':SortSt) (M:List Keyed),kindOf st'=κ->failedOf st'=none->pendingOf st'=((pendingOf st).setIfInBounds i (P.length,LA.length+LB.length,pw)).eraseIdxIfInBounds (i+1)->a1c kf LA LB M->(arrOf st').toList=P++M++R->Q true st'):wpS (model prog w) A E s (mergeAt' i) Q st:=by
 rw[a5G];refine wpS_bind (wpS_get ?_);rw[hp,b0];dsimp only;refine wpS_bind (b2H ?_);unfold mgA;have hsz:=heq_of_eq h.size;have a3:=h.na;have K:=h.nb;generalize f:SortSt.mk' (kindOf st) (arrOf st) (((pendingOf st).setIfInBounds i (P.length,LA.length+LB.length,pw)).eraseIdxIfInBounds (i+1)) (gallopOf st) (failedOf st)=c;have k2:kindOf c=κ:=by rw[<-f];exact hk
 have a2:arrOf c=arrOf st:=by rw[<-f]
 have p2:pendingOf c=((pendingOf st).setIfInBounds i (P.length,LA.length+LB.length,pw)).eraseIdxIfInBounds (i+1):=by rw[<-f]
 have f2:failedOf c=none:=by rw[<-f];exact hf
 have p:LA++LB=LA++LB->(∀x∈LA,∀y∈LB,leK kf x y)->Q true c:=λ_ a9=>by
  refine q c (LA++LB) k2 f2 p2 ⟨.refl _,List.pairwise_append.mpr ⟨h.sa,h.sb,a9⟩⟩ ?_;rw[a2,h.eq];simp[List.append_assoc]
 refine wpS_bind (B2 (by have:=eq_of_heq hsz;omega) λy e1 _=>?_);have ey:LB[0]?=some y:=by rw[<-h.atB K];exact e1
 have a1:∀z∈LB,leK kf y z:=T0 h.sb ey (KeyOrd.kle_refl _);have U:∀i,i<LA.length->(arrOf st)[P.length+i]?=some (LA.getD i (Value.none,Value.none))/\LA[i]?=some (LA.getD i (Value.none,Value.none)):=λi hi=>by
  have:LA[i]?=some (LA.getD i (Value.none,Value.none)):=by rw[List.getD_eq_getElem?_getD,List.getElem?_eq_getElem hi];rfl
  exact⟨by rw[h.atA hi];exact this,this⟩
 have V:∀i,i<LB.length->(arrOf st)[P.length+LA.length+i]?=some (LB.getD i (Value.none,Value.none))/\LB[i]?=some (LB.getD i (Value.none,Value.none)):=λi hi=>by
  have:LB[i]?=some (LB.getD i (Value.none,Value.none)):=by rw[List.getD_eq_getElem?_getD,List.getElem?_eq_getElem hi];rfl
  exact⟨by rw[h.atB hi];exact this,this⟩
 have m:∀{u v:Keyed},(!(ltK kf u v))=true->leK kf v u:=λ{u v} z=>by
  unfold leK KeyOrd.kle;unfold ltK at z;simpa using z
 refine wpS_bind (J5 B k2 (h.dB _ (List.mem_of_getElem? ey)) (λi=>!(ltK kf y (LA.getD i (Value.none,Value.none)))) (λi hi=>⟨_,(U i hi).1,h.dA _ (List.mem_of_getElem? (U i hi).2),rfl⟩) (λi j N d hb=>?_) a3 λk q1 q2 q3=>?_)
 .have:=KeyOrd.kle_trans (X7 h.sa N (U i (by omega)).2 (U j d).2) (m hb);unfold KeyOrd.kle at this;unfold ltK;rw[this];rfl
 .dsimp only;have Y:∀x∈LA.take k,leK kf x y:=λx Z=>by
   obtain⟨j,d,e⟩:=List.mem_iff_getElem.mp Z;rw[List.length_take]at d;have o:=Nat.lt_of_lt_of_le d (Nat.min_le_right _ _);have:=m (q2 j (Nat.lt_of_lt_of_le d (Nat.min_le_left _ _)));have a:=(U j o).2;rw[List.getElem_take]at e;rw[List.getElem?_eq_getElem o,e]at a;injection a with a
   rw[a];exact this
  split
  .rename_i e;have e:=eq_of_beq e;refine wpS_pure (p rfl λx Z z hz=>KeyOrd.kle_trans (Y x ?_) (a1 z hz));rw[List.take_of_length_le (by omega)];exact Z
  .rename_i e;replace e:k<LA.length:=Nat.lt_of_sub_ne_zero λz=>e (beq_iff_eq.mpr z);clear q1;have a8:∀x∈LA.drop k,ltK kf y x=true:=λx Z=>by
    obtain⟨j,d,e⟩:=List.mem_iff_getElem.mp Z;rw[List.length_drop]at d;rw[List.getElem_drop]at e;clear hsz K;have H:k+j<LA.length:=by omega
    have:=q3 (k+j) (Nat.le_add_right _ _) H;have a:=(U (k+j) H).2;rw[List.getElem?_eq_getElem H,e]at a;injection a with a
    rw[a];simpa using this
   unfold mgB;refine wpS_bind (B2 (by have:=eq_of_heq hsz;omega) λx f1 _=>?_);rw[show P.length+k+(LA.length-k)-1=P.length+(LA.length-1) by omega]at f1;have ex:LA[LA.length-1]?=some x:=by rw[<-h.atA (by omega)];exact f1
   have O:∀z∈LA,leK kf z x:=λz hz=>by
    have:=S4 h.sa ex (KeyOrd.kle_refl _) z;rw[show LA.length-1+1=LA.length by omega,List.take_length]at this;exact this hz
   refine wpS_bind (J5 B k2 (h.dA _ (List.mem_of_getElem? ex)) (λi=>ltK kf (LB.getD i (Value.none,Value.none)) x) (λi hi=>⟨_,(V i hi).1,h.dB _ (List.mem_of_getElem? (V i hi).2),rfl⟩) (λi j N d hb=>?_) (by omega) λn r1 r2 r3=>?_)
   .exact KeyOrd.klt_of_kle_of_klt (X7 h.sb N (V i (by omega)).2 (V j d).2) hb
   .dsimp only;have L:∀z∈LB.drop n,leK kf x z:=λz hz=>by
     obtain⟨j,d,e⟩:=List.mem_iff_getElem.mp hz;rw[List.length_drop]at d;rw[List.getElem_drop]at e;have I:n+j<LB.length:=by clear hsz a3 K;omega
     have:=r3 (n+j) (Nat.le_add_right _ _) I;have a:=(V (n+j) I).2;rw[List.getElem?_eq_getElem I,e]at a;injection a with a
     rw[a];exact this
    have a5:∀z∈LB.take n,ltK kf z x=true:=λz hz=>by
     obtain⟨j,d,e⟩:=List.mem_iff_getElem.mp hz;rw[List.length_take]at d;rw[List.getElem_take]at e;have o:=Nat.lt_of_lt_of_le d (Nat.min_le_right _ _);have:=r2 j (Nat.lt_of_lt_of_le d (Nat.min_le_left _ _));have a:=(V j o).2;rw[List.getElem?_eq_getElem o,e]at a;injection a with a
     rw[a];exact this
    split
    .rename_i e;have e:=eq_of_beq e;refine wpS_pure (p rfl λu l z hz=>KeyOrd.kle_trans (O u l) (L z ?_));rw[e,List.drop_zero];exact hz
    .rename_i W;replace W:0<n:=Nat.pos_of_ne_zero λz=>W (beq_iff_eq.mpr z);have S:=h.extA k;have J:=h.extB r1;generalize b2:(arrOf st).extract (P.length+k) (P.length+LA.length)=Xa at S;generalize b1:(arrOf st).extract (P.length+LA.length) (P.length+LA.length+n)=Ya at J;have sX:=heq_of_eq (show Xa.size=LA.length-k by rw[<-Array.length_toList,S,List.length_drop]);have sY:=heq_of_eq (show Ya.size=n by rw[<-Array.length_toList,J,List.length_take,Nat.min_eq_left r1]);have T:Two D kf Xa Ya:=by
      refine⟨λi z t=>?_,λi z t=>?_,by rw[S];exact h.sa.drop,by rw[J];exact h.sb.take,λz hz u eu=>?_⟩
      .refine h.dA z (List.mem_of_mem_drop (i:=k) ?_);rw[<-S];rw[<-Array.getElem?_toList]at t;exact List.mem_of_getElem? t
      .refine h.dB z (List.mem_of_mem_take (i:=n) ?_);rw[<-J];rw[<-Array.getElem?_toList]at t;exact List.mem_of_getElem? t
      .rw[J]at hz;rw[<-Array.getElem?_toList,S,List.getElem?_drop,eq_of_heq sX,show k+(LA.length-k-1)=LA.length-1 by omega,ex]at eu;cases eu;exact a5 z hz
     have F:a3S kf Xa Ya:=λz t u l=>by
      rw[J,List.getElem?_take_of_lt W,ey]at t;cases t;rw[S]at l;exact a8 u l
     have fin:∀(r:Array Keyed) (b:SortSt),C6 kf Xa Ya r->Good c b->wpS (model prog w) A E s (mgC (P.length+k) r) Q b:=λr b hr g=>by
      unfold mgC;obtain⟨C,a6⟩:=hr;rw[S,J]at C;have a0:=heq_of_eq (show r.size=LA.length-k+n by
       have:=C.length_eq;rw[List.length_append,List.length_drop,List.length_take,Array.length_toList,Nat.min_eq_left r1]at this;exact this)
      refine wpS_bind (wpS_modify (wpS_bind (wpS_get (wpS_pure ?_))));show Q (failedOf b).isNone _;rw[g.2.2.2,f2];have G:∀z∈r.toList,z∈LA.drop k∨z∈LB.take n:=λz hz=>List.mem_append.mp (C.mem_iff.mp hz);refine q _ (LA.take k++r.toList++LB.drop n) (g.1.trans k2) rfl (g.2.2.1.trans p2) ⟨?_,?_⟩ ?_
      .refine((List.Perm.append_left _ C).append_right _).trans ?_;rw[<-List.append_assoc (LA.take k),List.take_append_drop,List.append_assoc,List.take_append_drop]
      .have sAk:∀u∈LA.take k,∀v∈LA.drop k,leK kf u v:=by
        have:=h.sa;rw[<-List.take_append_drop k LA,List.pairwise_append]at this;exact this.2.2
       have a7:∀u∈LB.take n,∀v∈LB.drop n,leK kf u v:=by
        have:=h.sb;rw[<-List.take_append_drop n LB,List.pairwise_append]at this;exact this.2.2
       rw[List.pairwise_append,List.pairwise_append];refine⟨⟨h.sa.take,a6,λu l v X=>?_⟩,h.sb.drop,λu l v X=>?_⟩
       .rcases G v X with z|z
        .exact sAk u l v z
        .exact KeyOrd.kle_trans (Y u l) (a1 v (List.mem_of_mem_take z))
       .rcases List.mem_append.mp l with z|z
        .exact KeyOrd.kle_trans (O u (List.mem_of_mem_take z)) (L v X)
        .rcases G u z with z|z
         .exact KeyOrd.kle_trans (O u (List.mem_of_mem_drop z)) (L v X)
         .exact a7 u z v X
      .show(a6q (arrOf b) r (P.length+k)).toList=_;rw[g.2.1,a2,a5q _ _ _ (by rw[eq_of_heq a0,eq_of_heq hsz];clear hsz;omega),h.eq,eq_of_heq a0];have e1:(P++LA++LB++R).take (P.length+k)=P++LA.take k:=by
        rw[List.append_assoc,List.append_assoc,List.take_append,List.take_of_length_le (by omega),show P.length+k-P.length=k by omega,List.take_append_of_le_length (by omega)]
       have a:(P++LA++LB++R).drop (P.length+k+(LA.length-k+n))=LB.drop n++R:=by
        rw[List.append_assoc (P++LA),List.drop_append,List.drop_eq_nil_of_le (by rw[List.length_append];omega),List.nil_append,List.length_append,show P.length+k+(LA.length-k+n)-(P.length+LA.length)=n by omega,List.drop_append_of_le_length r1]
       rw[e1,a];simp[List.append_assoc]
     split
     .exact wpS_bind (a4U T B k2 (by rw[eq_of_heq sX];omega) (by rw[eq_of_heq sY];exact W) (λz t u l=>KeyOrd.kle_of_klt (F z t u l)) λr b hr g=>fin r b hr g)
     .exact wpS_bind (a4V T F B k2 (by rw[eq_of_heq sX];omega) (by rw[eq_of_heq sY];exact W) λr b hr g=>fin r b hr g)
end
section
variable {prog:Program}{w:World}{A:Around}{E:Value->Shared->Prop}{s:Shared}{κ:SortKind}{D:Keyed->Prop}{O:KeyOrd}{kf:Keyed->O.α}{st:SortSt}
noncomputable def kx(kf:Keyed->O.α)(arr:Array Keyed)(i:Nat):O.α:=kf (arr.getD i (Value.none,Value.none))
def SoO(kf:Keyed->O.α)(arr:Array Keyed)(lo m:Nat):Prop:=∀i j,i<=j->j<m->O.kle (kx kf arr (lo+i)) (kx kf arr (lo+j))
def NiO(kf:Keyed->O.α)(arr:Array Keyed)(lo m:Nat):Prop:=∀i j,i<=j->j<m->O.kle (kx kf arr (lo+j)) (kx kf arr (lo+i))
def Kept(lo:Nat)(st st':SortSt):Prop:=kindOf st'=kindOf st/\pendingOf st'=pendingOf st/\failedOf st'=failedOf st/\(arrOf st').Perm (arrOf st)/\∀i,i<lo->(arrOf st')[i]?=(arrOf st)[i]?
theorem Kept.refl{lo:Nat}:Kept lo st st:=⟨rfl,rfl,rfl,.refl _,λ_ _=>rfl⟩
theorem Kept.trans{lo:Nat}{st' a:SortSt}(h:Kept lo st st')(h2:Kept lo st' a):Kept lo st a:=⟨h2.1.trans h.1,h2.2.1.trans h.2.1,h2.2.2.1.trans h.2.2.1,h2.2.2.2.1.trans h.2.2.2.1,λi hi=>(h2.2.2.2.2 i hi).trans (h.2.2.2.2 i hi)⟩
def AllD(D:Keyed->Prop)(arr:Array Keyed):Prop:=∀x∈arr.toList,D x
theorem AllD.perm{a b:Array Keyed}(h:AllD D a)(p:b.Perm a):AllD D b:=λx c=>h x ((Array.perm_iff_toList_perm.mp p).mem_iff.mp c)
theorem V5{a b:Array Keyed}{i j:Nat}(h:a[i]?=b[j]?):kx kf a i=kx kf b j:=by
 unfold kx;rw[Array.getD_eq_getD_getElem?,Array.getD_eq_getD_getElem?,h]
theorem P5{i j:Nat}{Q:Option Bool->SortSt->Prop}(a:Cmp prog w A s κ D (ltK kf))(f:kindOf st=κ)(c:AllD D (arrOf st))(hi:i<(arrOf st).size)(e:j<(arrOf st).size)(h:Q (some (O.blt (kx kf (arrOf st) i) (kx kf (arrOf st) j))) st):wpS (model prog w) A E s (ltAt' i j) Q st:=by
 rw[ltAt'_eq];refine wpS_bind (wpS_get ?_);refine wpS_bind (B2 hi λx d f1=>wpS_bind (B2 e λy b f2=>?_));rw[gdK _ hi]at d;rw[gdK _ e]at b;cases d;cases b;exact a0g a f (c _ (List.mem_of_getElem? f1)) (c _ (List.mem_of_getElem? f2)) h
theorem a9P{src a:Nat}{Q:Unit->SortSt->Prop}(h:Q () (setArr st (bubble (arrOf st) src (src-a)))):wpS (model prog w) A E s (moveDown' src a) Q st:=by
 rw[moveDown'_eq];exact wpS_modify h
theorem a0O{arr:Array Keyed}{src a:Nat}(hs:src<arr.size)(hd:a<=src)(i:Nat):kx kf (bubble arr src (src-a)) i=if i=a then kx kf arr src else if a<i/\i<=src then kx kf arr (i-1)else kx kf arr i:=by
 have e:=getElem?_bubble hs (src-a) (by omega) i;rw[show src-(src-a)=a by omega]at e;split
 .rename_i c;rw[if_pos c]at e;exact V5 e
 .rename_i c;rw[if_neg c]at e;split
  .rename_i c2;rw[if_pos c2]at e;exact V5 e
  .rename_i c2;rw[if_neg c2]at e;exact V5 e
theorem a2m{l j k:Nat}(h:l<j)(h2:j<=k):j-1<k:=by omega
section
variable {arr:Array Keyed}{lo k l i:Nat}(hs:lo+k<arr.size) (hd:l<=k)
include hs hd
theorem b2v(h:i<l):kx kf (bubble arr (lo+k) (lo+k-(lo+l))) (lo+i)=kx kf arr (lo+i):=by
 rw[a0O hs (by omega),if_neg (by omega),if_neg (by omega)]
theorem a6V:kx kf (bubble arr (lo+k) (lo+k-(lo+l))) (lo+l)=kx kf arr (lo+k):=by
 rw[a0O hs (by omega),if_pos rfl]
theorem a4O(h:l<i)(h2:i<=k):kx kf (bubble arr (lo+k) (lo+k-(lo+l))) (lo+i)=kx kf arr (lo+(i-1)):=by
 rw[a0O hs (by omega),if_neg (by omega),if_pos (by omega),Nat.add_sub_assoc (by omega)]
end
theorem a9Q{lo n ok:Nat}{Q:Bool->SortSt->Prop}(y:Cmp prog w A s κ D (ltK kf))(H:kindOf st=κ)(G:AllD D (arrOf st))(J:lo+n<=(arrOf st).size)(hok:ok<=n)(hs:SoO kf (arrOf st) lo ok)
  (h:∀st',Kept lo st st'->SoO kf (arrOf st') lo n->Q true st'):wpS (model prog w) A E s (binarySort' lo n ok) Q st:=by
 rw[binarySort'_eq];refine wpS_bind (wpS_mono (wpS_forRange (I:=λk c st'=>c=(none,())/\Kept lo st st'/\SoO kf (arrOf st') lo (min k n))
  (Q:=λc st'=>c=(none,())/\Kept lo st st'/\SoO kf (arrOf st') lo n) ?step ?fin ?init) ?post)
 case post =>
  rintro c st' ⟨rfl,f,b⟩;exact wpS_pure (h st' f b)
 case init =>
  refine⟨rfl,Kept.refl,λi j g q=>?_⟩;by_cases h1:ok=0
  .have:i=j:=by omega
   subst this;exact KeyOrd.kle_refl _
  .exact hs i j g (by omega)
 case fin =>
  rintro c st' ⟨hc,f,b⟩;refine⟨hc,f,?_⟩;rwa[show min (max (max ok 1) n) n=n by omega]at b
 case step =>
  rintro k c st' F B ⟨rfl,f,b⟩;rw[show min k n=k by omega]at b;have hz:lo+k<(arrOf st').size:=by have:=f.2.2.2.1.size_eq;omega
  have C:=G.perm f.2.2.2.1;have t:min (k+1) n=k+1:=by omega
  clear J hok F B;refine wpS_bind (wpS_mono (wpS_forRange (I:=λx c a=>a=st'/\∃l r,c=(none,l,r)/\l<=r/\r<=k/\r-l<=k-x /\
    (∀i,i<l->O.kle (kx kf (arrOf st') (lo+i)) (kx kf (arrOf st') (lo+k)))/\(∀i,r<=i->i<k->O.kle (kx kf (arrOf st') (lo+k)) (kx kf (arrOf st') (lo+i))))
   (Q:=λc a=>a=st'/\∃l r,c=(none,l,r)/\l<=k /\
    (∀i,i<l->O.kle (kx kf (arrOf st') (lo+i)) (kx kf (arrOf st') (lo+k)))/\(∀i,l<=i->i<k->O.kle (kx kf (arrOf st') (lo+k)) (kx kf (arrOf st') (lo+i)))) ?istep ?ifin ?iinit) ?ipost)
  case iinit=>exact⟨rfl,0,k,rfl,by omega,by omega,by omega,λi hi=>by omega,λi h1 h2=>by omega⟩
  case ifin =>
   rintro c a ⟨rfl,l,r,rfl,z,u,K,o,m⟩;have:l=r:=by omega
   subst this;exact⟨rfl,l,l,rfl,u,o,m⟩
  case istep =>
   rintro x c a _ L ⟨rfl,l,r,rfl,z,u,K,o,m⟩;dsimp only;by_cases v:l ≥ r
   .rw[if_pos v];have:l=r:=by omega
    subst this;exact wpS_pure ⟨rfl,l,l,rfl,u,o,m⟩
   .rw[if_neg v];refine wpS_bind (P5 y (f.1.trans H) C (by omega) (by omega) ?_);dsimp only;cases p:O.blt (kx kf (arrOf a) (lo+k)) (kx kf (arrOf a) (lo+(l+r) / 2))with
    |true =>
     rw[if_pos rfl];refine wpS_pure ⟨rfl,l,(l+r) / 2,rfl,by omega,by omega,by omega,o,λi h1 h2=>?_⟩;exact KeyOrd.kle_trans (KeyOrd.kle_of_klt p) (b _ _ h1 h2)
    |false =>
     rw[if_neg (by simp)];refine wpS_pure ⟨rfl,(l+r) / 2+1,r,rfl,by omega,by omega,by omega,λi h1=>?_,m⟩;exact KeyOrd.kle_trans (b i ((l+r) / 2) (by omega) (by omega)) p
  case ipost =>
   rintro c a ⟨rfl,l,r,rfl,e,o,m⟩;refine wpS_bind (a9P (wpS_pure ⟨rfl,f.trans ⟨rfl,rfl,rfl,bubble_perm _ _ _,λi hi=>?_⟩,?_⟩))
   .show(bubble (arrOf a) (lo+k) (lo+k-(lo+l)))[i]?=_;rw[getElem?_bubble hz _ (by omega),if_neg (by omega),if_neg (by omega)]
   rw[t];clear t;intro i j g q;replace q:j<=k:=Nat.le_of_lt_succ q;show O.kle (kx kf (bubble (arrOf a) (lo+k) (lo+k-(lo+l))) (lo+i)) (kx kf (bubble (arrOf a) (lo+k) (lo+k-(lo+l))) (lo+j));rcases Nat.lt_trichotomy i l with c|rfl|c
   .rw[b2v hz e c];rcases Nat.lt_trichotomy j l with d|rfl|d
    .rw[b2v hz e d];exact b i j g (Nat.lt_of_lt_of_le d e)
    .rw[a6V hz e];exact o i c
    .rw[a4O hz e d q];exact b i (j-1) (Nat.le_sub_one_of_lt (Nat.lt_trans c d)) (a2m d q)
   .rw[a6V hz e];rcases Nat.lt_or_eq_of_le g with d|rfl
    .rw[a4O hz e d q];exact m (j-1) (Nat.le_sub_one_of_lt d) (a2m d q)
    .rw[a6V hz e];exact KeyOrd.kle_refl _
   .have d:=Nat.lt_of_lt_of_le c g;rw[a4O hz e c (Nat.le_trans g q),a4O hz e d q];exact b (i-1) (j-1) (Nat.sub_le_sub_right g 1) (a2m d q)
end
noncomputable def b2A(lo a nrem:Nat):StateT SortSt Sem AscSt:=forIn [a:nrem] ((none,a):AscSt) λ_ c=>ltAt' (lo+c.2) (lo+c.2-1)>>=λr=>match r with
 |some sm=>(if sm=true then pure (.done (none,c.2))else pure (.yield (none,c.2+1)))
 |_=>pure (.done (some none,c.2))
noncomputable def Z9(lo n nrem:Nat):StateT SortSt Sem (Option Nat):=reverseSlice' lo (lo+n)>>=λ_=>b2A lo n nrem>>=λc=>match c.1 with
 |some r=>pure r
 |none=>pure (some c.2)
noncomputable def a8g(lo n nrem:Nat):StateT SortSt Sem DescSt:=forIn [n:nrem] ((none,n,0):DescSt) λ_ c=>ltAt' (lo+c.2.1) (lo+c.2.1-1)>>=λr=>match r with
 |some sm=>(if sm=true then(if c.2.2 > 0 then reverseSlice' (lo+c.2.1-(c.2.2+1)) (lo+c.2.1)>>=λ_=>pure (.yield (none,c.2.1+1,0))else pure (.yield (none,c.2.1+1,0)))
  else ltAt' (lo+c.2.1-1) (lo+c.2.1)>>=λr=>match r with
   |some lg=>(if lg=true then pure (.done (none,c.2.1,c.2.2))else pure (.yield (none,c.2.1+1,c.2.2+1)))
   |_=>pure (.done (some none,c.2.1,c.2.2)))
 |_=>pure (.done (some none,c.2.1,c.2.2))
noncomputable def dpO(lo n nrem:Nat):StateT SortSt Sem (Option Nat):=liftM (rule "list.sort.descending-run")>>=λ_=>a8g lo (n+1) nrem>>=λc=>match c.1 with
 |some r=>pure r
 |none=>(if c.2.2 > 0 then reverseSlice' (lo+c.2.1-(c.2.2+1)) (lo+c.2.1)>>=λ_=>Z9 lo c.2.1 nrem else Z9 lo c.2.1 nrem)
theorem a9t(lo a:Nat):countRun' lo a=(b2A lo 1 a>>=λc=>match c.1 with
 |some r=>pure r
 |none=>(if (c.2==a)=true then pure (some c.2)else if c.2 > 1 then ltAt' lo (lo+c.2-1)>>=λr=>match r with
   |some rose=>(if rose=true then pure (some c.2)else reverseSlice' lo (lo+c.2)>>=λ_=>dpO lo c.2 a)
   |_=>pure none
  else dpO lo c.2 a)):=by
 have d:∀(n:Nat),(reverseSlice' lo (lo+n)>>=λ_=>b2A lo n a>>=λc=>match c.1 with|some r=>pure r|none=>pure (some c.2))=Z9 lo n a:=λn=>rfl;rw[countRun'_eq];dsimp only;refine congr (congrArg _ ?_) (funext λc=>?_)
 .rfl
 rcases c with⟨_|q,n⟩
 .dsimp only;have dp:∀n:Nat,(liftM (rule "list.sort.descending-run")>>=λ_=>a8g lo (n+1) a>>=λc=>match c.1 with
    |some r=>pure r
    |none=>(if c.2.2 > 0 then reverseSlice' (lo+c.2.1-(c.2.2+1)) (lo+c.2.1)>>=λ_=>Z9 lo c.2.1 a else Z9 lo c.2.1 a))=dpO lo n a:=λn=>rfl
  have b:∀{β:Type}{m:StateT SortSt Sem β}{f g:β->StateT SortSt Sem (Option Nat)},(∀c,f c=g c)->(m>>=f)=(m>>=g):=λh=>congrArg _ (funext h);refine ite_congr rfl (λ_=>rfl) λ_=>ite_congr rfl (λ_=>?_) λ_=>?_
  .refine b λr=>?_;rcases r with _|r
   .rfl
   .dsimp only;refine ite_congr rfl (λ_=>rfl) λ_=>?_;refine b λ_=>?_;rw[<-dp];refine b λ_=>?_;refine congr (congrArg _ ?_) (funext λc=>?_)
    .rfl
    .rcases c with⟨_|q,n,z⟩
     .dsimp only;refine ite_congr rfl (λ_=>?_) λ_=>?_
      .refine b λ_=>?_;refine b λ_=>?_;refine congr (congrArg _ ?_) (funext λc=>?_)
       .rfl
       .rcases c with⟨_|q,n⟩<;>rfl
      .refine b λ_=>?_;refine congr (congrArg _ ?_) (funext λc=>?_)
       .rfl
       .rcases c with⟨_|q,n⟩<;>rfl
     .rfl
  .rw[<-dp];refine b λ_=>?_;refine congr (congrArg _ ?_) (funext λc=>?_)
   .rfl
   .rcases c with⟨_|q,n,z⟩
    .dsimp only;refine ite_congr rfl (λ_=>?_) λ_=>?_
     .refine b λ_=>?_;refine b λ_=>?_;refine congr (congrArg _ ?_) (funext λc=>?_)
      .rfl
      .rcases c with⟨_|q,n⟩<;>rfl
     .refine b λ_=>?_;refine congr (congrArg _ ?_) (funext λc=>?_)
      .rfl
      .rcases c with⟨_|q,n⟩<;>rfl
    .rfl
 .rfl
section
variable {prog:Program}{w:World}{A:Around}{E:Value->Shared->Prop}{s:Shared}{κ:SortKind}{D:Keyed->Prop}{O:KeyOrd}{kf:Keyed->O.α}{st:SortSt}
theorem a0N{arr:Array Keyed}{i j:Nat}(a:j<=arr.size)(k:Nat):kx kf (mirror arr i j ((j-i) / 2)) k=if i<=k/\k<j then kx kf arr (i+j-1-k)else kx kf arr k:=by
 have e:=getElem?_mirror_all (i:=i) a k;split
 .rename_i c;rw[if_pos c]at e;exact V5 e
 .rename_i c;rw[if_neg c]at e;exact V5 e
theorem L9{arr:Array Keyed}{i j:Nat}(b:j<=arr.size)(a:∀k,i<=k->k<j->kx kf arr k=kx kf arr (j-1))(k:Nat):kx kf (mirror arr i j ((j-i) / 2)) k=kx kf arr k:=by
 rw[a0N b];split
 .rw[a _ (by omega) (by omega),a k (by omega) (by omega)]
 .rfl
theorem Kept.rev{lo i j:Nat}(hi:lo<=i)(a:j<=(arrOf st).size):Kept lo st (setArr st (mirror (arrOf st) i j ((j-i) / 2))):=⟨rfl,rfl,rfl,mirror_perm _ _ _ _,λk b=>by
 show(mirror (arrOf st) i j ((j-i) / 2))[k]?=_;rw[getElem?_mirror_all a,if_neg (by omega)]⟩
theorem a4Y{lo a b:Nat}{Q:AscSt->SortSt->Prop}(l:Cmp prog w A s κ D (ltK kf))(t:kindOf st=κ)(r:AllD D (arrOf st))(q:lo+b<=(arrOf st).size)(ha:1<=a)(f:a<=b)(hs:SoO kf (arrOf st) lo a)
  (h:∀n,a<=n->n<=b->SoO kf (arrOf st) lo n->(n=b∨O.klt (kx kf (arrOf st) (lo+n)) (kx kf (arrOf st) (lo+(n-1))))->Q (none,n) st):wpS (model prog w) A E s (b2A lo a b) Q st:=by
 unfold b2A;refine wpS_forRange (I:=λx c st'=>st'=st/\c=(none,x)/\SoO kf (arrOf st) lo x) ?step ?fin ⟨rfl,rfl,hs⟩
 case fin =>
  rintro c st' ⟨rfl,rfl,d⟩;rw[Nat.max_eq_right f]at d⊢;exact h b f (Nat.le_refl _) d (.inl rfl)
 case step =>
  rintro x c st' g p ⟨rfl,rfl,d⟩;dsimp only;replace ha:1<=x:=Nat.le_trans ha g;rw[show lo+x-1=lo+(x-1) by clear q f g p;omega];refine wpS_bind (P5 l t r (by omega) (by omega) ?_);clear q f;dsimp only;cases e:O.blt (kx kf (arrOf st') (lo+x)) (kx kf (arrOf st') (lo+(x-1)))with
  |true =>
   rw[if_pos rfl];exact wpS_pure (h x g (by omega) d (.inr e))
  |false =>
   rw[if_neg (by simp)];refine wpS_pure ⟨rfl,rfl,λi j o u=>?_⟩;by_cases k:j<x
   .exact d i j o k
   .have hj':j=x:=by omega
    subst hj';by_cases m:i=j
    .subst m;exact KeyOrd.kle_refl _
    .exact KeyOrd.kle_trans (d i (j-1) (by omega) (by omega)) e
theorem a1X{lo n a:Nat}{Q:Option Nat->SortSt->Prop}(d:Cmp prog w A s κ D (ltK kf))(k:kindOf st=κ)(g:AllD D (arrOf st))(e:lo+a<=(arrOf st).size)(h1:1<=n)(b:n<=a)(hs:NiO kf (arrOf st) lo n)
  (h:∀m st',Kept lo st st'->1<=m->m<=a->SoO kf (arrOf st') lo m->Q (some m) st'):wpS (model prog w) A E s (Z9 lo n a) Q st:=by
 unfold Z9;refine wpS_bind (wpS_reverse ?_);have c:Kept lo st (setArr st (mirror (arrOf st) lo (lo+n) ((lo+n-lo) / 2))):=Kept.rev (Nat.le_refl _) (by omega);refine wpS_bind (a4Y d (c.1.trans k) (g.perm c.2.2.2.1) (by rw[c.2.2.2.1.size_eq];exact e) h1 b (λi j f l=>?_) λm q1 q2 q3 _=>wpS_pure (h m _ c (by omega) q2 q3));show O.kle (kx kf (mirror (arrOf st) lo (lo+n) ((lo+n-lo) / 2)) (lo+i)) (kx kf (mirror (arrOf st) lo (lo+n) ((lo+n-lo) / 2)) (lo+j));have hz:lo+n<=(arrOf st).size:=by omega
 rw[a0N hz,a0N hz];clear e h1 b hz;rw[if_pos (by omega),if_pos (by omega),show lo+(lo+n)-1-(lo+i)=lo+(n-1-i) by omega,show lo+(lo+n)-1-(lo+j)=lo+(n-1-j) by omega];exact hs _ _ (by omega) (by omega)
theorem a8t{lo n d:Nat}{Q:DescSt->SortSt->Prop}(F:Cmp prog w A s κ D (ltK kf))(G:kindOf st=κ)(L:AllD D (arrOf st))(J:lo+d<=(arrOf st).size)(h1:1<=n)(t:n<=d)(hs:NiO kf (arrOf st) lo n)
  (h:∀m a st',Kept lo st st'->n<=m->m<=d->NiO kf (arrOf st') lo m->a+1<=m->(∀i,lo+m-(a+1)<=i->i<lo+m->kx kf (arrOf st') i=kx kf (arrOf st') (lo+m-1))->Q (none,m,a) st'):wpS (model prog w) A E s (a8g lo n d) Q st:=by
 unfold a8g;refine wpS_forRange (I:=λx c st'=>∃a,c=(none,x,a)/\Kept lo st st'/\NiO kf (arrOf st') lo x/\a+1<=x /\
   (∀i,lo+x-(a+1)<=i->i<lo+x->kx kf (arrOf st') i=kx kf (arrOf st') (lo+x-1))) ?step ?fin ⟨0,rfl,Kept.refl,hs,by omega,λi h1 h2=>by congr 1;omega⟩
 case fin =>
  rintro c st' ⟨a,rfl,b,f,C,z⟩;rw[Nat.max_eq_right t]at f C z⊢;exact h d a st' b t (Nat.le_refl _) f C z
 case step =>
  rintro x c st' o e ⟨a,rfl,b,f,C,z⟩;dsimp only;have hz:lo+x<(arrOf st').size:=by rw[b.2.2.2.1.size_eq];exact Nat.lt_of_lt_of_le (Nat.add_lt_add_left e lo) J
  have H:=L.perm b.2.2.2.1;replace e:x<=d:=Nat.le_of_lt e;have ex:HEq (lo+x-1) (lo+(x-1)):=heq_of_eq (by clear J h1 t o e hz;omega);have l:lo+x-1<(arrOf st').size:=Nat.lt_of_le_of_lt (Nat.sub_le _ _) hz;clear J h1 t;refine wpS_bind (P5 F (b.1.trans G) H hz l ?_);dsimp only;rw[eq_of_heq ex]at z l⊢;cases p:O.blt (kx kf (arrOf st') (lo+x)) (kx kf (arrOf st') (lo+(x-1)))with
  |true =>
   rw[if_pos rfl];have q:∀xs:Array Keyed,(∀k,kx kf xs k=kx kf (arrOf st') k)->NiO kf xs lo (x+1):=by
    intro xs G i j y M;rw[G,G];by_cases B:j<x
    .exact f i j y B
    .have hj':j=x:=by omega
     subst hj';by_cases v:i=j
     .subst v;exact KeyOrd.kle_refl _
     .exact KeyOrd.kle_trans (KeyOrd.kle_of_klt p) (f i (j-1) (by omega) (by omega))
   by_cases g:a > 0
   .rw[if_pos g];refine wpS_bind (wpS_reverse (wpS_pure ⟨0,rfl,b.trans (Kept.rev (by clear hz l ex o e g;omega) (Nat.le_of_lt hz)),q _ (L9 (Nat.le_of_lt hz) (λk q1 q2=>by rw[eq_of_heq ex];exact z k q1 q2)),Nat.succ_pos _,λi h1 h2=>by clear hz l ex o e g C;congr 1;omega⟩))
   .rw[if_neg g];exact wpS_pure ⟨0,rfl,b,q _ (λ_=>rfl),Nat.succ_pos _,λi h1 h2=>by clear hz l ex o e g C;congr 1;omega⟩
  |false =>
   rw[if_neg (by simp)];refine wpS_bind (P5 F (b.1.trans G) H l hz ?_);dsimp only;clear hz l;cases r:O.blt (kx kf (arrOf st') (lo+(x-1))) (kx kf (arrOf st') (lo+x))with
   |true =>
    rw[if_pos rfl];exact wpS_pure (h x a st' b o e f C (by rw[eq_of_heq ex];exact z))
   |false =>
    rw[if_neg (by simp)];have u:kx kf (arrOf st') (lo+x)=kx kf (arrOf st') (lo+(x-1)):=KeyOrd.kle_antisymm r p;clear o e;refine wpS_pure ⟨a+1,rfl,b,λi j y M=>?_,by omega,λi h1 h2=>?_⟩
    .by_cases B:j<x
     .exact f i j y B
     .have hj':j=x:=by omega
      subst hj';by_cases v:i=j
      .subst v;exact KeyOrd.kle_refl _
      .rw[u];exact f i (j-1) (by omega) (by omega)
    .rw[show lo+(x+1)-1=lo+x by omega];by_cases K:i=lo+x
     .subst K;rfl
     .rw[u];exact z i (by omega) (by omega)
theorem a7e{lo n a:Nat}{Q:Option Nat->SortSt->Prop}(e:Cmp prog w A s κ D (ltK kf))(t:kindOf st=κ)(v:AllD D (arrOf st))(q:lo+a<=(arrOf st).size)(r:n+1<=a)(hs:NiO kf (arrOf st) lo (n+1))
  (h:∀m st',Kept lo st st'->1<=m->m<=a->SoO kf (arrOf st') lo m->Q (some m) st'):wpS (model prog w) A E s (dpO lo n a) Q st:=by
 unfold dpO;refine wpS_bind (P0 ?_);refine wpS_bind (a8t e t v q (by omega) r hs λm l st' b z g o C x=>?_);dsimp only;have hz:=heq_of_eq (b.2.2.2.1.size_eq:(arrOf st').size=(arrOf st).size);have k:lo+m<=(arrOf st').size:=by rw[eq_of_heq hz];exact Nat.le_trans (Nat.add_le_add_left g lo) q
 have p:=v.perm b.2.2.2.1;by_cases d:l > 0
 .rw[if_pos d];have c:Kept lo st' (setArr st' (mirror (arrOf st') (lo+m-(l+1)) (lo+m) ((lo+m-(lo+m-(l+1))) / 2))):=Kept.rev (by omega) k;refine wpS_bind (wpS_reverse (a1X e (c.1.trans (b.1.trans t)) (p.perm c.2.2.2.1) (by rw[c.2.2.2.1.size_eq,eq_of_heq hz];exact q) (by omega) g (λi j u B=>?_) λy f k2=>h y f (b.trans (c.trans k2))));show O.kle (kx kf (mirror (arrOf st') _ _ _) _) (kx kf (mirror (arrOf st') _ _ _) _);rw[L9 k x,L9 k x];exact o i j u B
 .rw[if_neg d];exact a1X e (b.1.trans t) p (by rw[eq_of_heq hz];exact q) (by omega) g o λy f k2=>h y f (b.trans k2)
theorem a6c{lo b:Nat}{Q:Option Nat->SortSt->Prop}(e:Cmp prog w A s κ D (ltK kf))(u:kindOf st=κ)(C:AllD D (arrOf st))(r:lo+b<=(arrOf st).size)(h1:1<=b)
  (h:∀m st',Kept lo st st'->1<=m->m<=b->SoO kf (arrOf st') lo m->Q (some m) st'):wpS (model prog w) A E s (countRun' lo b) Q st:=by
 rw[a9t];refine wpS_bind (a4Y e u C r (Nat.le_refl 1) h1 (λi j z I=>by have:i=j:=(by omega);subst this;exact KeyOrd.kle_refl _) λn l c f x=>?_);dsimp only;by_cases a:n=b
 .rw[if_pos (by simpa using a)];exact wpS_pure (h n st Kept.refl l c f)
 .rw[if_neg (by simpa using a)];have B:O.klt (kx kf (arrOf st) (lo+n)) (kx kf (arrOf st) (lo+(n-1))):=x.resolve_left a;replace a:n+1<=b:=by omega
  clear x c h1;replace c:=Nat.le_of_succ_le a;have hz:lo+n<(arrOf st).size:=Nat.lt_of_lt_of_le (Nat.add_lt_add_left a lo) r;by_cases q:n > 1
  .rw[if_pos q];refine wpS_bind (P5 e u C (by omega) (by omega) ?_);dsimp only;have ex:lo+n-1=lo+(n-1):=by clear r a c hz;omega
   rw[ex];cases t:O.blt (kx kf (arrOf st) lo) (kx kf (arrOf st) (lo+(n-1)))with
   |true =>
    rw[if_pos rfl];exact wpS_pure (h n st Kept.refl l c f)
   |false =>
    rw[if_neg (by simp)];have o:=r;clear r;have d:∀k,k<n->kx kf (arrOf st) (lo+k)=kx kf (arrOf st) (lo+(n-1)):=by
     intro k u;clear hz a c ex;have a1:=f 0 k (Nat.zero_le _) u;have a2:=f k (n-1) (by omega) (by omega);exact KeyOrd.kle_antisymm a2 (KeyOrd.kle_trans t a1)
    have v:∀k,kx kf (mirror (arrOf st) lo (lo+n) ((lo+n-lo) / 2)) k=kx kf (arrOf st) k:=L9 (Nat.le_of_lt hz) λk q1 q2=>by
     rw[ex];clear hz a c ex o;have:=d (k-lo) (by omega);rwa[show lo+(k-lo)=k by omega]at this
    have g:Kept lo st (setArr st (mirror (arrOf st) lo (lo+n) ((lo+n-lo) / 2))):=Kept.rev (Nat.le_refl _) (Nat.le_of_lt hz);refine wpS_bind (wpS_reverse (a7e e (g.1.trans u) (C.perm g.2.2.2.1) (by rw[g.2.2.2.1.size_eq];exact o) a (λi j z I=>?_) λJ F k2=>h J F (g.trans k2)));show O.kle (kx kf (mirror (arrOf st) _ _ _) _) (kx kf (mirror (arrOf st) _ _ _) _);rw[v,v];clear hz a c ex o l;by_cases G:j<n
    .rw[d i (by omega),d j G];exact KeyOrd.kle_refl _
    .have hj':j=n:=by omega
     subst hj';by_cases p:i=j
     .subst p;exact KeyOrd.kle_refl _
     .rw[d i (by omega)];exact KeyOrd.kle_of_klt B
  .rw[if_neg q];have y:n=1:=by omega
   subst y;refine a7e e u C r a (λi j z I=>?_) h;clear hz a c r l q;by_cases p:i=j
   .subst p;exact KeyOrd.kle_refl _
   .have hi0:i=0:=by omega
    have H:j=1:=by omega
    subst hi0;subst H;exact KeyOrd.kle_of_klt B
end
noncomputable def a1u:Nat->List (List Keyed)->List (Nat×Nat)
 |_,[]=>[]
 |o,r::rs=>(o,r.length)::a1u (o+r.length) rs
theorem O4:∀(o:Nat) (X Y:List (List Keyed)),a1u o (X++Y)=a1u o X++a1u (o+X.flatten.length) Y
 |o,[],Y=>by simp[a1u]
 |o,r::X,Y=>by
  simp only[List.cons_append,a1u,O4 (o+r.length) X Y,List.flatten_cons,List.length_append,Nat.add_assoc]
theorem a2p:∀(o:Nat) (X:List (List Keyed)),(a1u o X).length=X.length
 |_,[]=>rfl
 |o,r::X=>by simp only[a1u,List.length_cons,a2p (o+r.length) X]
noncomputable abbrev ent(e:Nat×Nat×Nat):Nat×Nat:=(e.1,e.2.1)
section
variable {prog:Program}{w:World}{A:Around}{E:Value->Shared->Prop}{s:Shared}{κ:SortKind}{D:Keyed->Prop}{O:KeyOrd}{kf:Keyed->O.α}{st:SortSt}{a0:Array Keyed}
structure RI(kf:Keyed->O.α)(κ:SortKind)(a0:Array Keyed)(st:SortSt)(runs:List (List Keyed))(rest:List Keyed):Prop where
 kind:kindOf st=κ
 failed:failedOf st=none
 perm:(arrOf st).Perm a0
 eq:(arrOf st).toList=runs.flatten++rest
 sorted:∀r∈runs,r.Pairwise (leK kf)
 ne:∀r∈runs,0<r.length
 pend:(pendingOf st).toList.map ent=a1u 0 runs
theorem RI.size{runs:List (List Keyed)}{rest:List Keyed}(h:RI kf κ a0 st runs rest):(pendingOf st).size=runs.length:=by
 rw[<-Array.length_toList,<-List.length_map (f:=ent),h.pend,a2p]
theorem a1f{X Y:List (List Keyed)}{ra rb rest:List Keyed}{Q:Bool->SortSt->Prop}(e:Cmp prog w A s κ D (ltK kf))(m:AllD D a0)(h:RI kf κ a0 st (X++ra::rb::Y) rest)
  (q:∀(st':SortSt) (M:List Keyed),RI kf κ a0 st' (X++M::Y) rest->M.length=ra.length+rb.length->Q true st'):wpS (model prog w) A E s (mergeAt' X.length) Q st:=by
 have hp:=h.pend;rw[O4,a1u,a1u]at hp;obtain⟨l1,l2,g,j,p⟩:=List.map_eq_append_iff.mp hp;obtain⟨x,l3,t,d,n⟩:=List.map_eq_cons_iff.mp p;obtain⟨y,l4,C,c,l⟩:=List.map_eq_cons_iff.mp n;subst t C;obtain⟨o,v,k⟩:=x;obtain⟨F,u,i⟩:=y;rw[Nat.zero_add]at d c l;have d:(o,v)=(X.flatten.length,ra.length):=d;have c:(F,u)=(X.flatten.length+ra.length,rb.length):=c;cases d;cases c;have G:l1.length=X.length:=by rw[<-List.length_map (f:=ent),j,a2p]
 have H:(pendingOf st)[X.length]?=some (X.flatten.length,ra.length,k):=by
  rw[<-Array.getElem?_toList,g,List.getElem?_append_right (by omega),show X.length-l1.length=0 by omega];rfl
 have B:(pendingOf st)[X.length+1]?=some (X.flatten.length+ra.length,rb.length,i):=by
  rw[<-Array.getElem?_toList,g,List.getElem?_append_right (by omega),show X.length+1-l1.length=1 by omega];rfl
 have a:Runs2 kf D (arrOf st) X.flatten ra rb (Y.flatten++rest):=by
  refine⟨?_,λz hz=>(m.perm h.perm) z hz,h.sorted _ (by simp),h.sorted _ (by simp),h.ne _ (by simp),h.ne _ (by simp)⟩;rw[h.eq];simp[List.append_assoc]
 refine a4W e h.kind a H B h.failed λst' M k1 k2 k3 k4 k5=>?_;have b:M.length=ra.length+rb.length:=by rw[k4.1.length_eq,List.length_append]
 refine q st' M ⟨k1,k2,?_,?_,λr hr=>?_,λr hr=>?_,?_⟩ b
 .refine Array.perm_iff_toList_perm.mpr ?_;refine List.Perm.trans ?_ (Array.perm_iff_toList_perm.mp h.perm);rw[k5,a.eq];refine List.Perm.append_right _ ?_;rw[List.append_assoc X.flatten];exact List.Perm.append_left _ k4.1
 .rw[k5];simp[List.append_assoc]
 .rcases List.mem_append.mp hr with z|z
  .exact h.sorted r (List.mem_append_left _ z)
  .rcases List.mem_cons.mp z with rfl|z
   .exact k4.2
   .exact h.sorted r (List.mem_append_right _ (List.mem_cons_of_mem _ (List.mem_cons_of_mem _ z)))
 .rcases List.mem_append.mp hr with z|z
  .exact h.ne r (List.mem_append_left _ z)
  .rcases List.mem_cons.mp z with rfl|z
   .have:=h.ne ra (by simp);omega
   .exact h.ne r (List.mem_append_right _ (List.mem_cons_of_mem _ (List.mem_cons_of_mem _ z)))
 .rw[k3,Array.eraseIdxIfInBounds];have hz:(pendingOf st).size=X.length+(Y.length+2):=by rw[h.size];simp
  rw[dif_pos (by rw[Array.size_setIfInBounds];omega),Array.toList_eraseIdx,Array.toList_setIfInBounds,g];rw[List.set_append_right _ _ (by omega),show X.length-l1.length=0 by omega,List.set_cons_zero];rw[List.eraseIdx_append_of_length_le (by omega),show X.length+1-l1.length=1 by omega];show(l1++(X.flatten.length,ra.length+rb.length,k)::l4).map ent=_;rw[List.map_append,List.map_cons,j,l,O4,a1u,Nat.zero_add,b];show _++(X.flatten.length,ra.length+rb.length)::_=_;rw[Nat.add_assoc]
end
noncomputable def a1K(lo n:Nat):StateT SortSt Sem (ForInStep (Option Unit×Nat)) :=
 (modify λs=>setPending s ((pendingOf s).push (lo,n,0)))>>=λ_=>pure (.yield (none,lo+n))
noncomputable def V6(sz pw:Nat):StateT SortSt Sem (Option Unit×Unit) :=
 forIn [:sz] ((none,()):Option Unit×Unit) λ_ _=>get>>=λg=>match (if (pendingOf g).size > 1 then(pendingOf g)[(pendingOf g).size-2]? else none)with
  |some (_,_,older)=>(if older<=pw then pure (.done (none,()))else mergeAt' ((pendingOf g).size-2)>>=λb=>if (!b)=true then pure (.done (some (),()))else pure (.yield (none,())))
  |_=>pure (.done (none,()))
noncomputable def a0e(sz lo n:Nat):StateT SortSt Sem (ForInStep (Option Unit×Nat)):=get>>=λg=>match (pendingOf g).back? with
 |some (s1,n1,_)=>V6 sz (power' sz (2*s1+n1) (2*s1+n1+n1+n) sz)>>=λc=>match c.1 with
  |some r=>pure (.done (some r,lo))
  |none=>(modify λs=>setPending s ((pendingOf s).modify ((pendingOf s).size-1) λx=>(x.1,x.2.1,power' sz (2*s1+n1) (2*s1+n1+n1+n) sz)))>>=λ_=>a1K lo n
 |_=>a1K lo n
noncomputable def a7S(sz:Nat):StateT SortSt Sem (Option Unit×Unit) :=
 forIn [:sz] ((none,()):Option Unit×Unit) λ_ _=>get>>=λg=>if (pendingOf g).size<=1 then pure (.done (none,()))
  else mergeAt' (if Option.any (λx=>decide (x<(pendingOf g)[(pendingOf g).size-2+1]?.elim 0 λx=>x.2.1)) (if (pendingOf g).size-2 > 0 then Option.map (λx=>x.2.1) (pendingOf g)[(pendingOf g).size-2-1]? else none)=true then(pendingOf g).size-2-1 else(pendingOf g).size-2)>>=λb=>if (!b)=true then pure (.done (some (),()))else pure (.yield (none,()))
section
variable {prog:Program}{w:World}{A:Around}{E:Value->Shared->Prop}{s:Shared}{κ:SortKind}{D:Keyed->Prop}{O:KeyOrd}{kf:Keyed->O.α}{st:SortSt}{a0:Array Keyed}{runs:List (List Keyed)}{rest:List Keyed}
theorem two_last{α:Type}{l:List α}(h:2<=l.length):∃X a b,l=X++[a,b]/\X.length=l.length-2:=by
 refine⟨l.take (l.length-2),l[l.length-2],l[l.length-1],?_,by rw[List.length_take];omega⟩;have c:l.drop (l.length-2)=[l[l.length-2],l[l.length-1]]:=by
  rw[List.drop_eq_getElem_cons (by omega),List.drop_eq_getElem_cons (by omega),List.drop_eq_nil_of_le (by omega)];congr 2;congr 1;omega
 rw[<-c,List.take_append_drop]
theorem a3U{sz i:Nat}{Q:Option Unit×Unit->SortSt->Prop}(f:Cmp prog w A s κ D (ltK kf))(j:AllD D a0)(h:RI kf κ a0 st runs rest)
  (q:∀st' a,RI kf κ a0 st' a rest->a.flatten.length=runs.flatten.length->a.length<=runs.length->Q (none,()) st'):wpS (model prog w) A E s (V6 sz i) Q st:=by
 unfold V6;refine wpS_forRange (I:=λ_ c st'=>c=(none,())/\∃a,RI kf κ a0 st' a rest/\a.flatten.length=runs.flatten.length/\a.length<=runs.length) ?step (λc st' ⟨e,d,h1,h2,b⟩=>by rw[e];exact q st' d h1 h2 b) ⟨rfl,runs,h,rfl,Nat.le_refl _⟩;rintro x c st' _ _ ⟨rfl,d,h1,h2,b⟩;refine wpS_bind (wpS_get ?_);split
 .rename_i older heq;split
  .exact wpS_pure (q st' d h1 h2 b)
  .have hz:(pendingOf st').size > 1:=by
    refine Nat.lt_of_not_le λz=>?_;rw[if_neg (by omega)]at heq;cases heq
   have hs:=h1.size;obtain⟨X,ra,rb,g,k⟩:=two_last (l:=d) (by omega);rw[g]at h1;rw[show(pendingOf st').size-2=X.length by omega];refine wpS_bind (a1f f j h1 λm M k1 k2=>?_);rw[if_neg (by simp)];refine wpS_pure ⟨rfl,_,k1,?_,?_⟩
   .rw[<-h2,g];simp[k2]
   .rw[g]at b;simp at b⊢;omega
 .exact wpS_pure (q st' d h1 h2 b)
theorem a1e{lo n:Nat}{Q:ForInStep (Option Unit×Nat)->SortSt->Prop}{r:List Keyed}(h:RI kf κ a0 st runs (r++rest))(hr:r.Pairwise (leK kf))(b:0<n)(hl:r.length=n)(a:lo=runs.flatten.length)
  (q:∀st',RI kf κ a0 st' (runs++[r]) rest->Q (.yield (none,lo+n)) st'):wpS (model prog w) A E s (a1K lo n) Q st:=by
 unfold a1K;refine wpS_bind (wpS_modify (wpS_pure (q _ ⟨h.kind,h.failed,h.perm,?_,λz hz=>?_,λz hz=>?_,?_⟩)))
 .show(arrOf st).toList=_;rw[h.eq];simp
 .rcases List.mem_append.mp hz with y|y
  .exact h.sorted z y
  .rw[List.mem_singleton.mp y];exact hr
 .rcases List.mem_append.mp hz with y|y
  .exact h.ne z y
  .rw[List.mem_singleton.mp y,hl];exact b
 .show((pendingOf st).push (lo,n,0)).toList.map ent=_;rw[Array.toList_push,List.map_append,h.pend,O4,Nat.zero_add,a,<-hl];rfl
theorem map_modify{p:Array (Nat×Nat×Nat)}{i a:Nat}:(p.modify i λx=>(x.1,x.2.1,a)).toList.map ent=p.toList.map ent:=by
 rw[Array.toList_modify];refine List.ext_getElem? λj=>?_;rw[List.getElem?_map,List.getElem?_map,List.getElem?_modify];cases p.toList[j]? with
 |none=>rfl
 |some x =>
  by_cases e:i=j
  .simp[e]
  .simp[e]
theorem a6e{sz lo n:Nat}{Q:ForInStep (Option Unit×Nat)->SortSt->Prop}{r:List Keyed}(c:Cmp prog w A s κ D (ltK kf))(f:AllD D a0)(h:RI kf κ a0 st runs (r++rest))(hr:r.Pairwise (leK kf))(e:0<n)(hl:r.length=n)(b:lo=runs.flatten.length)
  (q:∀st' a,RI kf κ a0 st' a rest->a.flatten.length=lo+n->a.length<=runs.length+1->Q (.yield (none,lo+n)) st'):wpS (model prog w) A E s (a0e sz lo n) Q st:=by
 unfold a0e;refine wpS_bind (wpS_get ?_);split
 .refine wpS_bind (a3U c f h λst' a k1 k2 k3=>?_);dsimp only;refine wpS_bind (wpS_modify ?_);refine a1e (runs:=a) (rest:=rest) ⟨k1.kind,k1.failed,k1.perm,k1.eq,k1.sorted,k1.ne,map_modify.trans k1.pend⟩ hr e hl (by rw[k2];exact b) λd k4=>q d _ k4 ?_ ?_
  .simp[k2,hl,b]
  .simp;omega
 .refine a1e h hr e hl b λd k4=>q d _ k4 ?_ ?_
  .simp[hl,b]
  .simp
end
section
variable {prog:Program}{w:World}{A:Around}{E:Value->Shared->Prop}{s:Shared}{κ:SortKind}{D:Keyed->Prop}{O:KeyOrd}{kf:Keyed->O.α}{st:SortSt}{a0:Array Keyed}{runs:List (List Keyed)}{rest:List Keyed}
theorem b2z{α:Type}{l:List α}{i:Nat}(h:i+1<l.length):∃X a b Y,l=X++a::b::Y/\X.length=i:=by
 refine⟨l.take i,l[i],l[i+1],l.drop (i+1+1),?_,by rw[List.length_take];omega⟩;rw[<-List.drop_eq_getElem_cons (by omega),<-List.drop_eq_getElem_cons (by omega),List.take_append_drop]
theorem a4X{sz:Nat}{Q:Option Unit×Unit->SortSt->Prop}(j:Cmp prog w A s κ D (ltK kf))(l:AllD D a0)(h:RI kf κ a0 st runs rest)(hl:runs.length<=sz)
  (q:∀st' a,RI kf κ a0 st' a rest->a.length<=1->Q (none,()) st'):wpS (model prog w) A E s (a7S sz) Q st:=by
 unfold a7S;refine wpS_forRange (I:=λx c st'=>c=(none,())/\∃a,RI kf κ a0 st' a rest/\a.length+x<=sz+1) ?step (λc st' ⟨e,g,h1,h2⟩=>by rw[e];exact q st' g h1 (by omega)) ⟨rfl,runs,h,by omega⟩;rintro x c st' _ _ ⟨rfl,g,h1,h2⟩;refine wpS_bind (wpS_get ?_);have hs:=h1.size;split
 .exact wpS_pure (q st' g h1 (by omega))
 .rename_i hz;have go:∀i,i+1<g.length->wpS (model prog w) A E s ((mergeAt' i>>=λb=>if (!b)=true then pure (ForInStep.done (some (),()))else pure (ForInStep.yield (none,()))):StateT SortSt Sem (ForInStep (Option Unit×Unit))) (λr d=>match r with|ForInStep.done c'=>Q c' d|ForInStep.yield c'=>c'=(none,())/\∃a,RI kf κ a0 d a rest/\a.length+(x+1)<=sz+1) st':=λi hi=>by
   obtain⟨X,ra,rb,Y,m,k⟩:=b2z hi;rw[m]at h1 h2;rw[<-k];refine wpS_bind (a1f j l h1 λn M k1 k2=>?_);rw[if_neg (by simp)];refine wpS_pure ⟨rfl,_,k1,?_⟩;simp at h2⊢;omega
  refine wpS_mono (go _ ?_) (λr d hr=>by cases r<;>exact hr);by_cases f:(pendingOf st').size-2 > 0
  .rw[if_pos f];split<;>omega
  .rw[if_neg f,if_neg (by simp)];omega
theorem RI.kept{st':SortSt}(h:RI kf κ a0 st runs rest)(k:Kept runs.flatten.length st st'):RI kf κ a0 st' runs ((arrOf st').toList.drop runs.flatten.length):=by
 refine⟨k.1.trans h.kind,k.2.2.1.trans h.failed,k.2.2.2.1.trans h.perm,?_,h.sorted,h.ne,by rw[k.2.1];exact h.pend⟩;have e:(arrOf st').toList.take runs.flatten.length=runs.flatten:=by
  have a:(arrOf st).toList.take runs.flatten.length=runs.flatten:=by rw[h.eq,List.take_left'];rfl
  rw[<-a];refine List.ext_getElem? λi=>?_;rw[List.length_take];by_cases hi:i<runs.flatten.length
  .have hle:runs.flatten.length<=(arrOf st).toList.length:=by rw[h.eq,List.length_append];omega
   rw[List.getElem?_take_of_lt (by omega),List.getElem?_take_of_lt hi,Array.getElem?_toList,Array.getElem?_toList];exact k.2.2.2.2 i hi
  .rw[List.getElem?_eq_none (by rw[List.length_take];omega),List.getElem?_eq_none (by rw[List.length_take];omega)]
 rw[<-List.take_append_drop runs.flatten.length (arrOf st').toList,e];congr 1;rw[List.drop_append_of_le_length (Nat.le_refl _),List.drop_length,List.nil_append]
theorem b2Q{arr:Array Keyed}{lo n:Nat}(h:SoO kf arr lo n)(c:lo+n<=arr.size):((arr.toList.drop lo).take n).Pairwise (leK kf):=by
 rw[List.pairwise_iff_getElem];intro i j hi b a;rw[List.length_take,List.length_drop,Array.length_toList]at hi b;have q:=h i j (Nat.le_of_lt a) (by omega);unfold leK;have g:∀k,k<n->kx kf arr (lo+k)=kf (arr[lo+k]?.getD (Value.none,Value.none)):=λk _=>by unfold kx;rw[Array.getD_eq_getD_getElem?]
 rw[g i (by omega),g j (by omega),getElem?_pos arr _ (by omega),getElem?_pos arr _ (by omega)]at q;simp only[List.getElem_take,List.getElem_drop,Array.getElem_toList];exact q
theorem a2i:∀{runs:List (List Keyed)},(∀r∈runs,0<r.length)->runs.length<=runs.flatten.length
 |[],_=>Nat.le_refl _
 |r::runs,h=>by
  have:=a2i (runs:=runs) λz hz=>h z (List.mem_cons_of_mem _ hz);have:=h r List.mem_cons_self;simp only[List.length_cons,List.flatten_cons,List.length_append];omega
theorem a3h{α:Type}{m m':StateT SortSt Sem α}{Q:α->SortSt->Prop}(e:m=m')(h:wpS (model prog w) A E s m' Q st):wpS (model prog w) A E s m Q st:=by rw[e];exact h
theorem a4T{Q:Unit->SortSt->Prop}(f:Cmp prog w A s κ D (ltK kf))(K:kindOf st=κ)(u:AllD D (arrOf st))(hp:pendingOf st=#[])(hf:failedOf st=none)
  (q:∀st':SortSt,(arrOf st').Perm (arrOf st)->failedOf st'=none->(arrOf st').toList.Pairwise (leK kf)->Q () st'):wpS (model prog w) A E s sortRuns' Q st:=by
 rw[sortRuns'_eq];refine wpS_bind (wpS_get ?_);dsimp only;generalize hsz:(arrOf st).size=sz;have h0:RI kf κ (arrOf st) st [] (arrOf st).toList:=⟨K,hf,.refl _,rfl,(λ_ z=>nomatch z),(λ_ z=>nomatch z),by rw[hp];rfl⟩;have zz:∀{st':SortSt}{runs:List (List Keyed)}{rest:List Keyed},RI kf κ (arrOf st) st' runs rest->(arrOf st').size=sz:=λh=>by rw[h.perm.size_eq];exact hsz
 have C:∀{st':SortSt}{runs:List (List Keyed)}{rest:List Keyed},RI kf κ (arrOf st) st' runs rest->runs.flatten.length+rest.length=sz:=λh=>by
  have:=congrArg List.length h.eq;rw[Array.length_toList,zz h,List.length_append]at this;omega
 refine wpS_bind (wpS_mono (wpS_forRange (I:=λx c st'=>c.1=none/\∃runs rest,RI kf κ (arrOf st) st' runs rest/\c.2=runs.flatten.length/\x<=c.2)
  (Q:=λc st'=>c.1=none/\∃runs,RI kf κ (arrOf st) st' runs []/\runs.length<=sz) ?step ?fin ⟨rfl,[],_,h0,rfl,Nat.le_refl _⟩) ?post)
 case fin =>
  rintro c st' ⟨k,runs,rest,h1,h2,F⟩;have:=C h1;have hr:rest=[]:=List.eq_nil_of_length_eq_zero (by omega);subst hr;exact⟨k,runs,h1,by have:=a2i h1.ne;omega⟩
 case step =>
  rintro x c st' _ P ⟨k,runs,rest,h1,h2,F⟩;obtain⟨H,lo⟩:=c;dsimp only at k h2 F⊢;subst k;have L:=C h1;have B:=zz h1;by_cases p:lo ≥ sz
  .rw[if_pos p];have hr:rest=[]:=List.eq_nil_of_length_eq_zero (by omega);subst hr;exact wpS_pure ⟨rfl,runs,h1,by have:=a2i h1.ne;omega⟩
  .rw[if_neg p];have t:=u.perm h1.perm;have add:∀(n:Nat) (d:SortSt),Kept lo st' d->0<n->lo+n<=sz->SoO kf (arrOf d) lo n->wpS (model prog w) A E s (a0e sz lo n) (λr e=>match r with|ForInStep.done c'=>c'.1=none/\∃runs,RI kf κ (arrOf st) e runs []/\runs.length<=sz|ForInStep.yield c'=>c'.1=none/\∃runs rest,RI kf κ (arrOf st) e runs rest/\c'.2=runs.flatten.length/\x+1<=c'.2) d:=λn d j hn0 M i=>by
    rw[h2]at j;have hR:=h1.kept j;rw[<-h2]at hR;have y:=zz hR;rw[<-List.take_append_drop n ((arrOf d).toList.drop lo)]at hR;refine a6e f u hR (b2Q i (by omega)) hn0 (by rw[List.length_take,List.length_drop,Array.length_toList];omega) h2 λO J k1 k2 k3=>⟨rfl,J,_,k1,k2.symm,by show x+1<=lo+n;omega⟩
   refine wpS_bind (a6c f h1.kind t (by omega) (by omega) λm d j N G i=>?_);dsimp only;split
   .refine wpS_bind (P0 ?_);have y:(arrOf d).size=sz:=by rw[j.2.2.2.1.size_eq];exact B
    refine wpS_bind (a9Q f (j.1.trans h1.kind) (t.perm j.2.2.2.1) (by omega) (by omega) i λO v l=>?_);rw[if_neg (by simp)];refine a3h (m':=a0e sz lo (min (sz-lo) (minRun' sz sz 0))) (by
     unfold a0e;refine congrArg _ (funext λg=>?_);rcases(pendingOf g).back? with _|⟨s1,n1,z⟩
     .rfl
     .dsimp only;refine congr (congrArg _ ?_) (funext λc=>?_)
      .unfold V6;refine congrArg _ (funext λ_=>funext λ_=>congrArg _ (funext λg=>?_));generalize (if (pendingOf g).size > 1 then(pendingOf g)[(pendingOf g).size-2]? else none)=o;rcases o with _|⟨a,b,o⟩<;>rfl
      .rcases c with⟨_|q,c⟩<;>rfl) (wpS_mono (add _ O (j.trans v) (by omega) (by omega) l) λr e hr=>by cases r<;>exact hr)
   .refine a3h (m':=a0e sz lo m) (by
     unfold a0e;refine congrArg _ (funext λg=>?_);rcases(pendingOf g).back? with _|⟨s1,n1,z⟩
     .rfl
     .dsimp only;refine congr (congrArg _ ?_) (funext λc=>?_)
      .unfold V6;refine congrArg _ (funext λ_=>funext λ_=>congrArg _ (funext λg=>?_));generalize (if (pendingOf g).size > 1 then(pendingOf g)[(pendingOf g).size-2]? else none)=o;rcases o with _|⟨a,b,o⟩<;>rfl
      .rcases c with⟨_|q,c⟩<;>rfl) (wpS_mono (add _ d j (by omega) (by omega) i) λr e hr=>by cases r<;>exact hr)
 case post =>
  rintro c st' ⟨k,runs,h1,h2⟩;obtain⟨H,lo⟩:=c;dsimp only at k;subst k;dsimp only;refine wpS_bind (a4X (sz:=sz) f u h1 h2 λd r2 k1 k2=>?_);dsimp only;refine wpS_pure (q d k1.perm k1.failed ?_);rw[k1.eq,List.append_nil]
  match r2,k2,k1.sorted with
  |[],_,_=>exact .nil
  |[r],_,hs=>simpa using hs r (by simp)
  |_::_::_,k2,_=>simp at k2
end
noncomputable def E7(h:Heap)(v:Value):List Int:=match v with
 |.ref b=>match h.get? b with
  |some o=>match o.data with
   |.seq xs _=>xs.toList.map numOf
   |_=>[]
  |none=>[]
 |_=>[]
theorem C8{h:Heap}{b:Addr}{its:Array Value}{r:List Int}(t:IsTup h b its)(i:IntsAre its.toList r):E7 h (.ref b)=r:=by
 obtain⟨o,h1,h2,n,a⟩:=t;unfold E7;simp only[h1,a];exact i.nums
theorem L8{α β:Type}{f:α->β}{os d:List β}(h:os.Perm d):∀{T:List α},d=T.map f->∃c:List α,c.Perm T/\c.map f=os:=by
 induction h with
 |nil=>intro T e;cases T with|nil=>exact⟨[],.nil,rfl⟩|cons _ _=>cases e
 |cons x _ ih =>
  intro T e;cases T with
  |nil=>cases e
  |cons t T =>
   injection e with e1 e2
   obtain⟨c,h1,h2⟩:=ih e2;exact⟨t::c,h1.cons t,by rw[List.map_cons,h2,e1]⟩
 |swap x y l =>
  intro T e
  match T,e with
  |a::b::T,e =>
   injection e with e1 e2
   injection e2 with e2 e3
   exact⟨b::a::T,.swap a b T,by rw[List.map_cons,List.map_cons,e1,e2,e3]⟩
 |trans _ _ ih1 ih2 =>
  intro T e;obtain⟨c,h1,h2⟩:=ih2 e;obtain⟨T2,g,i⟩:=ih1 h2.symm;exact⟨T2,g.trans h1,i⟩
section
variable {prog:Program}{w:World}{A:Around}{E:Value->Shared->Prop}{s:Shared}
noncomputable def kfH(h:Heap):Keyed->OL.α:=λx=>(E7 h x.1:List Int)
def DH(h:Heap)(x:Keyed):Prop:=∃b its r,x.1=Value.ref b/\IsTup h b its/\IntsAre its.toList r
theorem b7X:Cmp prog w A s (tuples' true) (DH s.heap) (ltK (kfH s.heap)):=by
 rintro⟨x,j⟩ ⟨y,k⟩ C ⟨b,its,r,g,t1,d⟩ ⟨b',its',h,f,t2,a⟩ hc;dsimp only at g f;subst g f;have hc:C (HT.lexLt (E7 s.heap (.ref b)) (E7 s.heap (.ref b'))) s:=hc;rw[C8 t1 d,C8 t2 a]at hc;obtain⟨o,q1,q2,n,q3⟩:=t1;obtain⟨o',c,i,l,e⟩:=t2;refine kat_lt q1 q3 c e (a1m 0 d a ?_);have l1:its.size=r.length:=by rw[<-Array.length_toList];exact d.length
 have l2:its'.size=h.length:=by rw[<-Array.length_toList];exact a.length
 rw[l1,l2,a5H];exact hc
theorem Z4{a:Addr}{vs:List Value}{rss:LLI}{n:Nat}{P:Fin->Shared->Prop}(p:s.heap.get? a=some (seqObj "list" vs.toArray n))(T:TupsAre s.heap vs rss)(hw:∀r∈rss,0<r.length)(hz:vs.length<=sizeLine)
  (h:∀os:List Value,os.Perm vs->os.Pairwise (λx y=>HT.lexLt (E7 s.heap y) (E7 s.heap x)=false)->P (.done (.ret .none)) {s with heap:=sortedHeap s.heap a vs os.toArray}) :
  wpAny (model prog w) A (Builtin.«list.sort» ⟨[.ref a],[]⟩) P E s:=by
 rw[list_sort_plain];have ha:a<s.heap.objs.size:=Heap.lt_size p;refine wpAny_bind (listItems_at p rfl ?_);refine wpAny_bind (listUpdate_at p rfl ?_ (by rw[List.size_toArray];omega) (Nat.zero_le _));obtain⟨F,l⟩:∃F,(s.heap.update a (Obj.mapSeq λ_=>#[])).get? a=some (seqObj "list" #[] F):=⟨_,get?_update_seq p (λ_=>#[])⟩;refine wpAny_bind (seqEpoch_at l rfl ?_);refine wpAny_bind (wpAny_newTuple ?_ (by show vs.length<=_;omega));refine wpAny_bind (wpAny_newList ?_ (Nat.zero_le _));refine wpAny_holding ?_;have d:(((s.heap.update a (Obj.mapSeq λ_=>#[])).push (seqObj "tuple" vs.toArray 0)).push (seqObj "list" #[] 0)).get? a=some (seqObj "list" #[] F):=by
  rw[Heap.get?_push_ne _ _ _ (by rw[size_push',Heap.size_update];exact Nat.ne_of_lt (Nat.lt_succ_of_lt ha)),Heap.get?_push_ne _ _ _ (by rw[Heap.size_update];exact Nat.ne_of_lt ha)];exact l
 have g:∀b its,IsTup s.heap b its->IsTup (((s.heap.update a (Obj.mapSeq λ_=>#[])).push (seqObj "tuple" vs.toArray 0)).push (seqObj "list" #[] 0)) b its:=λb its ⟨o,q1,q2,q3⟩=>by
  have N:b≠a:=λz=>by
   rw[z,p]at q1;cases q1;have q2:Value.type "list"=Value.type "tuple":=q2;injection q2 with q2
   exact absurd q2 (by decide)
  refine⟨o,?_,q2,q3⟩;exact Heap.get?_push_of_some _ (Heap.get?_push_of_some _ (by rw[Heap.get?_update_ne _ _ _ _ N];exact q1))
 have K:=T.keeps g;show wpAny (model prog w) A _ P E {s with heap:=((s.heap.update a (Obj.mapSeq λ_=>#[])).push (seqObj "tuple" vs.toArray 0)).push (seqObj "list" #[] 0)};have c:∀v∈vs,E7 (((s.heap.update a (Obj.mapSeq λ_=>#[])).push (seqObj "tuple" vs.toArray 0)).push (seqObj "list" #[] 0)) v=E7 s.heap v:=λv M=>by
  obtain⟨i,hi⟩:=List.mem_iff_getElem?.mp M;obtain⟨r,b,its,_,G,u,B⟩:=T.2 i v hi;rw[G,C8 u B,C8 (g b its u) B]
 generalize I:((s.heap.update a (Obj.mapSeq λ_=>#[])).push (seqObj "tuple" vs.toArray 0)).push (seqObj "list" #[] 0)=k at d K c;dsimp only;have fin:∀os:List Value,os.Perm vs->os.Pairwise (λx y=>HT.lexLt (E7 s.heap y) (E7 s.heap x)=false)->P (.done (.ret .none)) {s with heap:=k.update a (Obj.mapSeq λ_=>os.toArray)}:=λos h1 h2=>by
  have:=h os h1 h2;unfold sortedHeap at this;rw[I]at this;exact this
 by_cases h2:vs.toArray.size<2
 .have h2':vs.length<2:=by simpa using h2
  rw[if_pos h2,if_pos h2];refine wpAny_bind (wpAny_pure ?_);rw[StateT.run_pure];refine wpAny_bind (wpAny_pure ?_);dsimp only;refine wpAny_bind (seqEpoch_at d rfl ?_);refine wpAny_bind (listUpdate_at d rfl ?_ (Nat.zero_le _) (by rw[Array.size_map];show(pairsOf vs).size<=_;rw[pairsOf_size];omega));simp only[bne_self_eq_false,Bool.false_eq_true,if_false];have e:((vs.toArray.zip vs.toArray).map (·.2))=vs.toArray:=by
   apply Array.toList_inj.mp;simp[List.map_snd_zip]
  show wpAny _ _ _ _ _ {s with heap:=k.update a (Obj.mapSeq λ_=>(vs.toArray.zip vs.toArray).map (·.2))};rw[e];refine wpAny_pure (fin vs (.refl _) ?_);rw[List.pairwise_iff_getElem];intro i j hi S O;omega
 .have h2':2<=vs.length:=by
   have:¬vs.length<2:=by simpa using h2
   omega
  rw[if_neg h2,if_neg h2];refine wpAny_bind (a8x K hw (by omega) ?_);have H:AllD (DH k) (vs.toArray.zip vs.toArray):=λx q=>by
   have J:x∈vs.zip vs:=by simpa using q
   obtain⟨_,R⟩:=mem_zip_self J;obtain⟨i,hi⟩:=List.mem_iff_getElem?.mp R;obtain⟨r,b,its,_,G,u,B⟩:=K.2 i _ hi;exact⟨b,its,r,G,u,B⟩
  refine wpAny_bind (wpAny_mono (a4T (s:={s with heap:=k}) (st:=SortSt.mk' (tuples' true) (vs.toArray.zip vs.toArray) #[] 7 none) (kf:=kfH k) (D:=DH k) (b7X (s:={s with heap:=k})) rfl H rfl rfl
   (Q:=λ_ st'=>(arrOf st').Perm (vs.toArray.zip vs.toArray)/\failedOf st'=none/\(arrOf st').toList.Pairwise (leK (kfH k))) λst' q1 q2 q3=>⟨q1,q2,q3⟩) ?_ λ_ _ e=>e)
  rintro⟨⟨⟩,st'⟩ s' ⟨rfl,hp,hf,hs⟩;dsimp only at hp hf hs⊢;have m:(arrOf st').toList.Perm (vs.zip vs):=by
   have:=Array.perm_iff_toList_perm.mp hp;simpa using this
  have t:((arrOf st').toList.map (·.2)).Perm vs:=by
   have:=m.map Prod.snd;rwa[List.map_snd_zip (Nat.le_refl _)]at this
  have f:∀x∈(arrOf st').toList,x.1=x.2/\x.1∈vs:=λx q=>mem_zip_self (m.mem_iff.mp q);have e:(arrOf st').map (·.2)=((arrOf st').toList.map (·.2)).toArray:=by
   apply Array.toList_inj.mp;simp
  refine wpAny_bind (seqEpoch_at d rfl ?_);rw[e];refine wpAny_bind (listUpdate_at d rfl ?_ (Nat.zero_le _) (by rw[List.size_toArray,t.length_eq];omega));rw[hf];simp only[bne_self_eq_false,Bool.false_eq_true,if_false];refine wpAny_pure (fin _ t ?_);rw[List.pairwise_map];refine hs.imp_of_mem λ{x y} q L C=>?_;have h1:=f x q;have h2:=f y L;rw[<-h1.1,<-h2.1,<-c _ h1.2,<-c _ h2.2];exact C
theorem a1D{x:Value}{vs:List Value}{rss:LLI}{Q:Value->Shared->Prop}(g:∀(z:Around) (t:Value->Shared->Prop) (n:List Value->Shared->Prop),(∀h1:Heap,(∀b o,s.heap.get? b=some o->h1.get? b=some o)->n vs {s with heap:=h1})->wpAny (model prog w) z (collect x) n t s)
  (T:TupsAre s.heap vs rss) (hw:∀r∈rss,0<r.length) (hz:vs.length<=sizeLine)
  (h:∀(h1 h':Heap) (os:List Value) (c:Nat),(∀b o,s.heap.get? b=some o->h1.get? b=some o)->(∀b o,h1.get? b=some o->h'.get? b=some o)->h'.get? h1.objs.size=some (seqObj "list" os.toArray c)->os.Perm vs->os.Pairwise (λx y=>HT.lexLt (E7 s.heap y) (E7 s.heap x)=false)->Q (.ref h1.objs.size) {s with heap:=h'}) :
  wpAny (model prog w) A (call (.builtin "sorted") [x]) Q E s:=by
 refine Calls.call_function_entry kind_sorted plain_sorted entry_sorted (args_sorted1 _) ?_;unfold Builtin.«sorted»;refine wpAny_bind (m:=checkCount "sorted" 1 1 _) (wpAny_pure ?_);refine wpAny_bind (g _ _ _ λh1 k1=>?_);refine wpAny_bind (wpAny_newList ?_ (by omega));have f:(h1.push (seqObj "list" vs.toArray 0)).get? h1.objs.size=some (seqObj "list" vs.toArray 0):=Heap.get?_push_size _ rfl;have a:∀b its,IsTup s.heap b its->IsTup (h1.push (seqObj "list" vs.toArray 0)) b its:=λb its ⟨o,q1,q2⟩=>⟨o,Heap.get?_push_of_some _ (k1 _ _ q1),q2⟩;have T2:=T.keeps a;have d:∀v∈vs,E7 (h1.push (seqObj "list" vs.toArray 0)) v=E7 s.heap v:=λv q=>by
  obtain⟨i,hi⟩:=List.mem_iff_getElem?.mp q;obtain⟨r,b,its,_,u,k,l⟩:=T.2 i v hi;rw[u,C8 k l,C8 (a b its k) l]
 show wpAny _ _ _ _ _ {s with heap:=h1.push (seqObj "list" vs.toArray 0)};refine wpAny_bind (wpAny_holding (wpAny_call_entry slot_list_sort ⟨_,f,rfl⟩ entry_list_sort (Z4 (s:={s with heap:=h1.push (seqObj "list" vs.toArray 0)}) f T2 hw hz λos hp hs=>⟨_,rfl,?_⟩) (args_list_sort _)));obtain⟨c,hc⟩:=Z1 (out:=os.toArray) f;refine wpAny_pure ⟨_,rfl,h h1 _ os c k1 (λb o e=>?_) hc hp (hs.imp_of_mem λ{x y} B p j=>?_)⟩
 .exact T5 b o (Nat.ne_of_lt (Heap.lt_size e)) (Heap.get?_push_of_some _ e)
 .rw[<-d _ (hp.mem_iff.mp B),<-d _ (hp.mem_iff.mp p)];exact j
end
def b0F(K:PySem.W.Frag):RL:=λxs H Q=>∃(p:Addr) (ys:List V) (rss:LLI),xs=[.ref p]/\(SqL K H p ys∨SqT K H p ys)/\Its H ys rss/\(∀r∈rss,0<r.length) /\
 ∀l zs tss,H l=none->Its H zs tss->tss.Perm rss->D4 tss->zs.Perm ys->Q (.ref l) (upd H l (.lst zs))
theorem X1:∀{ys:List V}{us:List Value}{rss:LLI},Vals ys us->ys.length=rss.length->∃T:List (Value×V×List Int),T.map (·.1)=us/\T.map (·.2.1)=ys/\T.map (·.2.2)=rss/\∀(i:Nat) t,T[i]?=some t->RelV t.2.1 t.1/\ys[i]?=some t.2.1/\rss[i]?=some t.2.2
 |[],us,rss,r,e=>by
  cases r;cases rss with
  |nil=>exact⟨[],rfl,rfl,rfl,λi t h=>by simp at h⟩
  |cons _ _=>cases e
 |y::ys,us,rss,r,e=>by
  cases r with
  |cons h hs =>
   cases rss with
   |nil=>cases e
   |cons r rss =>
    obtain⟨T,b,a,d,c⟩:=X1 hs (by simpa using e);refine⟨(_,y,r)::T,by rw[List.map_cons,b],by rw[List.map_cons,a],by rw[List.map_cons,d],λi t ht=>?_⟩;cases i with
    |zero=>cases ht;exact⟨h,rfl,rfl⟩
    |succ i=>exact c i t ht
theorem N4:∀{T:List (Value×V×List Int)},(∀t∈T,RelV t.2.1 t.1)->Vals (T.map (·.2.1)) (T.map (·.1))
 |[],_=>.nil
 |t::T,h=>.cons (h t List.mem_cons_self) (N4 λu a=>h u (List.mem_cons_of_mem _ a))
section
variable {X:Cx}
theorem a6S(K:PySem.W.Frag)(hK:X.K=K:=by rfl):C7 X (.builtin "sorted") (b0F K):=by
 subst hK;intro pins s σ H xs us Q I rv h;obtain⟨p,ys,rss,rfl,l,hI,hw,q⟩:=h;obtain⟨u,rfl,Z⟩:=rv.one;cases Z;obtain⟨its,ri,hz,A⟩:∃its:List Value,Vals ys its/\ys.length<=sizeLine/\∀(Y:Around) (C:Value->Shared->Prop) (B:List Value->Shared->Prop),(∀h1:Heap,(∀b o,s.heap.get? b=some o->h1.get? b=some o)->B its {s with heap:=h1})->wpAny (model X.prog X.w) Y (collect (.ref p)) B C s:=by
  rcases l with l|l
  .obtain⟨its,g,pl,hz⟩:=I.list l;obtain⟨o,F,hc,n,hd⟩:=pl.isList;have z:=g.length;exact⟨its,g,hz,λY C B k=>wpAny_collect_seq p (.inl rfl) F hc hd (λh' D=>k h' D) (by simp only[List.size_toArray];omega)⟩
  .obtain⟨its,g,pl,hz⟩:=I.tuple l;obtain⟨o,F,hc,n,hd⟩:=pl;have z:=g.length;exact⟨its,g,hz,λY C B k=>wpAny_collect_seq p (.inr rfl) F hc hd (λh' D=>k h' D) (by simp only[List.size_toArray];omega)⟩
 have hl:=ri.length;have TT:=a2H I hI ri;obtain⟨T,t1,t2,R,N⟩:=X1 ri hI.1;refine a1D A TT hw (by omega) λh1 h' os c k1 k2 e hp hs=>?_;obtain⟨d,p1,p2⟩:=L8 (f:=λt:Value×V×List Int=>t.1) hp t1.symm;have J:=I.kept (t':=s.toks) k1;have hT:∀t∈d,RelV t.2.1 t.1/\IT H t.2.1 t.2.2/\E7 s.heap t.1=t.2.2:=λt ht=>by
  obtain⟨i,hi⟩:=List.mem_iff_getElem?.mp (p1.mem_iff.mp ht);obtain⟨r1,r2,G⟩:=N i t hi;obtain⟨row,q1,q2⟩:=hI.2 i _ r2;rw[G]at q1;cases q1;have P:its[i]?=some t.1:=by rw[<-t1,List.getElem?_map,hi];rfl
  obtain⟨g,b,its',f1,f2,f3,O⟩:=TT.2 i _ P;rw[G]at f1;cases f1;exact⟨r1,q2,by rw[f2];exact C8 f3 O⟩
 have r:(d.map (·.2.1)).Perm ys:=by rw[<-t2];exact p1.map _
 have M:Vals (d.map (·.2.1)) os:=by rw[<-p2];exact N4 λt ht=>(hT t ht).1
 have U:=J.laid (h':=h') (a:=h1.objs.size) (o:=.lst (d.map (·.2.1))) (t':=s.toks) k2 (Nat.le_refl _) ⟨by rw[r.length_eq];exact hz,os,c,M,e⟩;refine⟨.ref h1.objs.size,_,U,rfl,q _ _ (d.map (·.2.2)) (J.hok.fresh (Nat.le_refl _)) ⟨by rw[List.length_map,List.length_map],λi v m=>?_⟩ (by rw[<-R];exact p1.map _) ?_ r⟩
 .rw[List.getElem?_map]at m⊢;cases E:d[i]? with
  |none=>rw[E]at m;cases m
  |some t =>
   rw[E]at m;cases m;exact⟨t.2.2,rfl,(hT t (List.mem_of_getElem? E)).2.1⟩
 .unfold D4;rw[List.pairwise_map];rw[<-p2,List.pairwise_map]at hs;refine hs.imp_of_mem λ{x y} S L j=>?_;rw[(hT x S).2.2,(hT y L).2.2]at j;exact j
theorem a2C(K:PySem.W.Frag){e:Expr}{t:TA}{p pos:Pos}(b:Gl X "sorted")(c:X.mg "sorted"=none)(ha:JA X [e] t)(f:X.K=K:=by rfl)(d:starEach [e] X.env=(false,eval e X.env)::starEach [] X.env:=by rfl)(a:(backTo pos (starEach [] X.env)).any (·.1)=false:=by rfl):JE X (.Call (.Name "sorted" p) [e] [] pos) (tCB (b0F K) t):=⟨D8 (a6S K f) b c a1a ha.h (by decide) (by decide) d a⟩
end
def DRaw(h:Heap)(d:Addr)(es:Array DictEntry)(ep:Nat):Prop:=∃ob:Obj,h.get? d=some ob/\ob.ExactDict/\ob.data=.dict es ep
theorem DRaw.typ{s:Shared}{d:Addr}{es:Array DictEntry}{ep:Nat}(x:DRaw s.heap d es ep):s.TypeIs (.ref d) "dict":=by
 obtain⟨c,b,a,_⟩:=x;exact⟨c,b,a.1⟩
theorem DRaw.lt{h:Heap}{d:Addr}{es:Array DictEntry}{ep:Nat}(x:DRaw h d es ep):d<h.objs.size:=by
 obtain⟨b,a,_⟩:=x;exact Heap.lt_size a
theorem DRaw.to{h h':Heap}{d:Addr}{es:Array DictEntry}{ep:Nat}(x:DRaw h d es ep)(k:∀a,h.get? d=some a->h'.get? d=some a):DRaw h' d es ep:=by
 obtain⟨a,b,q⟩:=x;exact⟨a,k _ b,q⟩
section
variable {prog:Program}{w:World}{A:Around}{E:Value->Shared->Prop}{s:Shared}{it d:Addr}{i ep:Nat}{es:Array DictEntry}
theorem b0z{Q:Value->Shared->Prop}(hs:(d==sysModules)=false)(D:DRaw s.heap d es ep)
  (q:Q (.ref s.heap.objs.size) {s with heap:=s.heap.push {cls:=.type "dict_keyiterator",data:=.fields #[.ref d,.int 0 0,.int es.size 0,.int ep 0]}}):wpAny (model prog w) A (pyIter (.ref d)) Q E s:=by
 have ty:=D.typ;obtain⟨c,b,_,a⟩:=D;refine wpAny_pyIter_slot ty PySem.F.slot_dict_iter (wpAny_call_entry PySem.F.slot_dict_iter ty PySem.F.entry_dict_iter ?body (PySem.F.args_dict_iter_1 _))
 case body =>
  unfold Builtin.«dict.__iter__» Builtin.Dict.dictSlotNone;refine wpAny_bind (wpAny_bind (wpAny_notOrdered_dict ty (wpAny_pure ?_)));show wpAny _ _ (Builtin.Dict.showsAll d>>=λ_=>_) _ _ _;unfold Builtin.Dict.showsAll;rw[if_neg (λz=>by rw[hs]at z;cases z)];refine wpAny_bind (wpAny_pure (wpAny_bind (wpAny_dictEntries b a (wpAny_bind (wpAny_dictEpoch b a ?_)))));refine wpAny_bind (wpAny_newObj_type (wpAny_pure ⟨_,rfl,"dict_keyiterator",_,⟨_,Heap.get?_push_size _ rfl,rfl⟩,PySem.F.slot_dict_keyiterator_next.lookup,?_⟩));exact q
theorem b0A{Q:Option Value->Shared->Prop}(I:s.heap.IsKeyIter it d i es.size ep)(D:DRaw s.heap d es ep)(hi:i<es.size)
  (q:∀h',h'.IsKeyIter it d (i+1) es.size ep->Heap.SameBut it s.heap h'->Q (some es[i].key) {s with heap:=h'}):wpAny (model prog w) A (pyNext (.ref it)) Q E s:=by
 obtain⟨h,f1,f2,a⟩:=id I;obtain⟨od,f,g,e⟩:=D;unfold pyNext;refine wpAny_bind (wpAny_attempt (wpAny_callSpecial?_slot (name:=Str.ofString "__next__") I.typeIs PySem.F.slot_dict_keyiterator_next (wpAny_call_entry PySem.F.slot_dict_keyiterator_next I.typeIs PySem.F.entry_dict_keyiterator_next ?body (PySem.F.args_dict_keyiterator_next_1 _))))
 case body =>
  refine wpAny_bind (wpAny_pure (wpAny_bind (wpAny_bind ?_)))
  first|refine wpAny_bind (wpAny_typeNameOfWhole_keyiter I.typeIs (wpAny_pure ?_))|refine wpAny_bind (wpAny_typeNameOf_keyiter I.typeIs (wpAny_pure ?_))
  refine wpAny_bind (wpAny_fieldsOf f1 a ?_);rw[show Builtin.Dict_items.ownsTuple "dict_keyiterator"=false by decide,if_neg Bool.false_ne_true];show wpAny _ _ (if (Value.ref d==Value.none)=true then _ else _) _ _ _;have b:¬((Value.ref d==Value.none)=true):=Bool.false_ne_true;rw[if_neg b];refine wpAny_bind (wpAny_pure (wpAny_bind (wpAny_dictEntries f e ?_)));rw[if_neg (by simp)];refine wpAny_bind (wpAny_pure (wpAny_bind (wpAny_dictEpoch f e ?_)));rw[if_neg (by simp)];refine wpAny_pure ?_;dsimp only;rw[show(if (i:Int)<0 then(none:Option DictEntry)else es[(i:Int).toNat]?)=some es[i] by rw[if_neg (by omega),Int.toNat_natCast,Array.getElem?_eq_getElem hi]];dsimp only;refine wpAny_bind ?_
  first|refine wpAny_bind (wpAny_typeNameOfWhole_keyiter I.typeIs (wpAny_pure ?_))|refine wpAny_bind (wpAny_typeNameOf_keyiter I.typeIs (wpAny_pure ?_))
  refine wpAny_bind (wpAny_isOneOf_keyiter I.typeIs ?_);show wpAny _ _ (setField (.ref it) 1 (rawInt ((i:Int)+1))>>=λ_=>_) _ _ _;have c:(s.heap.update it (Obj.mapFields λz=>z.setIfInBounds 1 (rawInt ((i:Int)+1)))).IsKeyIter it d (i+1) es.size ep :=
   ⟨_,Heap.get?_update_self _ f1 (Obj.isFreed_of_fields (Obj.data_mapFields a _)),(Obj.cls_mapFields ..).trans f2,by rw[Obj.data_mapFields a];simp[rawInt]⟩
  refine wpAny_bind (wpAny_setField f1 a (by simp) (wpAny_bind (wpAny_holding ?_)));refine wpAny_bind (wpAny_isOneOf_keyiter (s:={s with heap:=s.heap.update it (Obj.mapFields λz=>z.setIfInBounds 1 (rawInt ((i:Int)+1)))}) c.typeIs ?_);exact wpAny_pure (wpAny_pure ⟨_,rfl,wpAny_pure (q _ c (Heap.SameBut.update ..))⟩)
theorem b3g{Q:Option Value->Shared->Prop}(h:A.handled=none)(I:s.heap.IsKeyIter it d i es.size ep)(D:DRaw s.heap d es ep)(hi:es.size<=i)
  (q:∀h',Heap.ExtBut it s.heap h'->Q none {s with heap:=h'}):wpAny (model prog w) A (pyNext (.ref it)) Q E s:=by
 obtain⟨k,f1,f2,g⟩:=id I;obtain⟨od,f,j,e⟩:=D;unfold pyNext;refine wpAny_bind (wpAny_attempt (wpAny_callSpecial?_slot (name:=Str.ofString "__next__") I.typeIs PySem.F.slot_dict_keyiterator_next (wpAny_call_entry PySem.F.slot_dict_keyiterator_next I.typeIs PySem.F.entry_dict_keyiterator_next ?body (PySem.F.args_dict_keyiterator_next_1 _))))
 case body =>
  refine wpAny_bind (wpAny_pure (wpAny_bind (wpAny_bind ?_)))
  first|refine wpAny_bind (wpAny_typeNameOfWhole_keyiter I.typeIs (wpAny_pure ?_))|refine wpAny_bind (wpAny_typeNameOf_keyiter I.typeIs (wpAny_pure ?_))
  refine wpAny_bind (wpAny_fieldsOf f1 g ?_);rw[show Builtin.Dict_items.ownsTuple "dict_keyiterator"=false by decide,if_neg Bool.false_ne_true];show wpAny _ _ (if (Value.ref d==Value.none)=true then _ else _) _ _ _;have c:¬((Value.ref d==Value.none)=true):=Bool.false_ne_true;rw[if_neg c];refine wpAny_bind (wpAny_pure (wpAny_bind (wpAny_dictEntries f e ?_)));rw[if_neg (by simp)];refine wpAny_bind (wpAny_pure (wpAny_bind (wpAny_dictEpoch f e ?_)));rw[if_neg (by simp)];refine wpAny_pure ?_;dsimp only;rw[show(if (i:Int)<0 then(none:Option DictEntry)else es[(i:Int).toNat]?)=none by rw[if_neg (by omega),Int.toNat_natCast,Array.getElem?_eq_none hi]];dsimp only;refine wpAny_bind ?_
  first|refine wpAny_bind (wpAny_typeNameOfWhole_keyiter I.typeIs (wpAny_pure ?_))|refine wpAny_bind (wpAny_typeNameOf_keyiter I.typeIs (wpAny_pure ?_))
  show wpAny _ _ (setField (.ref it) 0 .none>>=λ_=>_) _ _ _;refine wpAny_bind (wpAny_setField f1 g (by simp) ?_);show wpAny _ _ (newExc (.type "StopIteration") []>>=λ_=>_) _ _ _;refine wpAny_bind ?_;simp only[newExc,newTuple];refine wpAny_bind (wpAny_newObj_type ?_ (by size_fits));refine wpAny_bind (m:=firstArgMember _ _) (wpAny_of_eq (a:=Value.none) (by first|rfl | (simp only[firstArgMember];rfl)) ?_);refine wpAny_newObj_type ?_ (by size_fits);simp only[raiseNew];refine wpAny_bind (wpAny_handled ?_);rw[show A.in1.handled=none from h];refine wpAny_bind (wpAny_pure (wpAny_throw ?_));refine wpAny_bind (wpAny_isInstance (T:="StopIteration") (b:=true) ⟨_,Heap.get?_push_size _ rfl,rfl⟩ isSubtype_stop ?_);exact wpAny_pure (q _ (((Heap.SameBut.update ..).extBut.push _).push _))
theorem a8J(l:A.handled=none)(J d:Addr)(f:d≠J)(es:Array DictEntry)(ep:Nat) :
  Walks prog w A J [J,d] [J] es.size (λi v=>∃e,es[i]?=some e/\v=e.key) (λi h=>h.IsKeyIter J d i es.size ep/\DRaw h d es ep) where
 sub:=λb a=>by rw[List.mem_singleton.mp a];exact List.mem_cons_self
 frame:=λi h h' st g=>⟨st.1.at λo e=>g J List.mem_cons_self o e,st.2.to λo e=>g d (List.mem_cons_of_mem _ List.mem_cons_self) o e⟩
 item:=λi s Q E hi st c=>b0A st.1 st.2 hi λh' k sb=>c _ h' s.toks ⟨es[i],by simp[hi],rfl⟩ ⟨k,st.2.to λo e=>sb.extBut d o f e⟩ λb o a e=>sb.extBut b o (λz=>a (by rw[z];exact List.mem_cons_self)) e
 done:=λs Q E st c=>b3g l st.1 st.2 (Nat.le_refl _) λh' j=>c h' s.toks λb o a e=>j b o (λz=>a (by rw[z];exact List.mem_cons_self)) e
 self:=λ_ _ _ _ st c=>wpAny_pyIter_keyiter st.1 c
theorem a4q(hs:(d==sysModules)=false)(es:Array DictEntry)(ep:Nat):KdlSrc prog w "dict" d d es.size (λi v=>∃e,es[i]?=some e/\v=e.key) (λh=>DRaw h d es ep) where
 type:=λ_ D=>D.typ
 there:=λ_ D=>⟨D.lt,D.lt⟩
 keep:=λ_ _ D b=>D.to λo e=>b d (.inl rfl) o e
 notList:=by decide
 notTuple:=by decide
 hint:=λ_ _ _ _ D q=>kdl_hint_dict D.typ q
 iter:=λ_ _ a D=>⟨_,_,λ_ _ q=>b0z hs D q,a8J a _ d (Nat.ne_of_lt D.lt) es ep,⟨⟨_,Heap.get?_push_size _ rfl,rfl,rfl⟩,D.to λo e=>Heap.get?_push_of_some _ e⟩⟩
end
section
variable {prog:Program}{w:World}{A:Around}{E:Value->Shared->Prop}{s:Shared}
theorem T9{x:Value}{vs:List Value}{rss:LLI}{Q:Value->Shared->Prop}(g:∀(t:Value->Shared->Prop) (n:List Value->Shared->Prop),(∀(h1:Heap) (tk:Nat),(∀b o,s.heap.get? b=some o->h1.get? b=some o)->n vs {s with heap:=h1,toks:=tk})->wpAny (model prog w) A.in1 (collect x) n t s)
  (T:TupsAre s.heap vs rss) (hw:∀r∈rss,0<r.length) (hz:vs.length<=sizeLine)
  (h:∀(h1 h':Heap) (os:List Value) (c tk:Nat),(∀b o,s.heap.get? b=some o->h1.get? b=some o)->(∀b o,h1.get? b=some o->h'.get? b=some o)->h'.get? h1.objs.size=some (seqObj "list" os.toArray c)->os.Perm vs->os.Pairwise (λx y=>HT.lexLt (E7 s.heap y) (E7 s.heap x)=false)->Q (.ref h1.objs.size) {s with heap:=h',toks:=tk}) :
  wpAny (model prog w) A (call (.builtin "sorted") [x]) Q E s:=by
 refine Calls.call_function_entry kind_sorted plain_sorted entry_sorted (args_sorted1 _) ?_;unfold Builtin.«sorted»;refine wpAny_bind (m:=checkCount "sorted" 1 1 _) (wpAny_pure ?_);refine wpAny_bind (g _ _ λh1 tk k1=>?_);refine wpAny_bind (wpAny_newList ?_ (by omega));have f:(h1.push (seqObj "list" vs.toArray 0)).get? h1.objs.size=some (seqObj "list" vs.toArray 0):=Heap.get?_push_size _ rfl;have a:∀b its,IsTup s.heap b its->IsTup (h1.push (seqObj "list" vs.toArray 0)) b its:=λb its ⟨o,q1,q2⟩=>⟨o,Heap.get?_push_of_some _ (k1 _ _ q1),q2⟩;have T2:=T.keeps a;have d:∀v∈vs,E7 (h1.push (seqObj "list" vs.toArray 0)) v=E7 s.heap v:=λv q=>by
  obtain⟨i,hi⟩:=List.mem_iff_getElem?.mp q;obtain⟨r,b,its,_,u,k,l⟩:=T.2 i v hi;rw[u,C8 k l,C8 (a b its k) l]
 show wpAny _ _ _ _ _ {s with heap:=h1.push (seqObj "list" vs.toArray 0),toks:=tk};refine wpAny_bind (wpAny_holding (wpAny_call_entry slot_list_sort ⟨_,f,rfl⟩ entry_list_sort (Z4 (s:={s with heap:=h1.push (seqObj "list" vs.toArray 0),toks:=tk}) f T2 hw hz λos hp hs=>⟨_,rfl,?_⟩) (args_list_sort _)));obtain⟨c,hc⟩:=Z1 (out:=os.toArray) f;refine wpAny_pure ⟨_,rfl,h h1 _ os c tk k1 (λb o e=>?_) hc hp (hs.imp_of_mem λ{x y} z p j=>?_)⟩
 .exact T5 b o (Nat.ne_of_lt (Heap.lt_size e)) (Heap.get?_push_of_some _ e)
 .rw[<-d _ (hp.mem_iff.mp z),<-d _ (hp.mem_iff.mp p)];exact j
end
noncomputable def IK(rss:LLI):List (List Key):=rss.map λr=>r.map Sum.inl
def a6v:RL:=λxs H Q=>∃(d:Addr) (kvs:List (List Key×V)) (rss:LLI),xs=[.ref d]/\H d=some (.dT kvs)/\kvs.map (·.1)=IK rss/\(∀r∈rss,0<r.length) /\
 ∀l zs tss,H l=none->Its H zs tss->tss.Perm rss->D4 tss->Q (.ref l) (upd H l (.lst zs))
theorem a4y{H:Hp}:∀{kvs:List (List Key×V)}{xs:List (List Key×Addr×Value)}{rss:LLI},KT H kvs xs->kvs.map (·.1)=IK rss->Its H (xs.map λx=>V.ref x.2.1) rss/\xs.length=rss.length:=by
 intro kvs xs rss r e;induction r generalizing rss with
 |nil =>
  cases rss with
  |nil=>exact⟨⟨rfl,λi v z=>by simp at z⟩,rfl⟩
  |cons _ _=>cases e
 |@cons p q ps qs h _ ih =>
  cases rss with
  |nil=>cases e
  |cons r rss =>
   injection e with a e2
   obtain⟨h1,h2⟩:=ih e2;refine⟨⟨by rw[List.length_map,List.length_cons,List.length_cons,h2],λi v b=>?_⟩,by rw[List.length_cons,List.length_cons,h2]⟩;cases i with
   |zero =>
    cases b;refine⟨r,rfl,q.2.1,rfl,?_⟩;have c:=h.2.1;have a:p.1=r.map Sum.inl:=a;rw[a,List.map_map]at c;exact c
   |succ i=>exact h1.2 i v b
theorem P6{α:Type}(f:α->Addr):∀xs:List α,Vals (xs.map λx=>V.ref (f x)) (xs.map λx=>Value.ref (f x))
 |[]=>.nil
 |x::xs=>.cons rfl (P6 f xs)
section
variable {X:Cx}
theorem a6R(hc:X.calm=true):C7 X (.builtin "sorted") a6v:=by
 intro pins s σ H xs us Q I rv h;obtain⟨d,kvs,rss,rfl,hd,hk,hw,q⟩:=h;obtain⟨u,rfl,ru⟩:=rv.one;cases ru;obtain⟨hz,B,g,J,ob,es,ep,W,r,e3,M,K⟩:=I.hok _ _ hd;obtain⟨hI,N⟩:=a4y J hk;have a0:kvs.length=g.length:=Paired.length J;have p:es.size=g.length:=by rw[<-Array.length_toList,M,List.length_map]
 have D:DRaw s.heap d es ep:=⟨ob,W,r,e3⟩;have ri:Vals (g.map λx=>V.ref x.2.1) (g.map λx=>Value.ref x.2.1):=P6 (λx:List Key×Addr×Value=>x.2.1) g;have C:∀(S:Value->Shared->Prop) (F:List Value->Shared->Prop),(∀(h1:Heap) (tk:Nat),(∀b o,s.heap.get? b=some o->h1.get? b=some o)->F (g.map λx=>Value.ref x.2.1) {s with heap:=h1,toks:=tk})->wpAny (model X.prog X.w) X.A.in1 (collect (.ref d)) F S s:=λS F k=>by
  refine kdu_collect (a4q B es ep) (show X.A.in1.handled=none from I.ok.hd hc) D (by omega) λh' tk acc kp l=>?_;have:acc.toList=g.map λx=>Value.ref x.2.1:=by
   refine List.ext_getElem? λi=>?_;rw[Array.getElem?_toList,List.getElem?_map];by_cases hi:i<g.length
   .have hia:i<acc.size:=by rw[l.1,p];exact hi
    obtain⟨e,he,E⟩:=l.2 i acc[i] (by simp[hia]);have j:es.toList[i]?=some e:=by rw[Array.getElem?_toList];exact he
    rw[M,List.getElem?_map,List.getElem?_eq_getElem hi]at j;injection j with j
    rw[Array.getElem?_eq_getElem hia,List.getElem?_eq_getElem hi,E,<-j];rfl
   .rw[Array.getElem?_eq_none (by rw[l.1,p];omega),List.getElem?_eq_none (by omega)];rfl
  rw[this];exact k h' tk kp
 have hl:=ri.length;have TT:=a2H I hI ri;obtain⟨T,t1,t2,Z,U⟩:=X1 ri hI.1;refine T9 C TT hw (by rw[List.length_map];omega) λh1 h' os c tk k1 k2 e hp hs=>?_;obtain⟨m,p1,p2⟩:=L8 (f:=λt:Value×V×List Int=>t.1) hp t1.symm;have P:=I.kept (t':=tk) k1;have hT:∀t∈m,RelV t.2.1 t.1/\IT H t.2.1 t.2.2/\E7 s.heap t.1=t.2.2:=λt ht=>by
  obtain⟨i,hi⟩:=List.mem_iff_getElem?.mp (p1.mem_iff.mp ht);obtain⟨r1,r2,L⟩:=U i t hi;obtain⟨row,q1,q2⟩:=hI.2 i _ r2;rw[L]at q1;cases q1;have K:(g.map λx=>Value.ref x.2.1)[i]?=some t.1:=by rw[<-t1,List.getElem?_map,hi];rfl
  obtain⟨r',b,its',f1,f2,f3,Y⟩:=TT.2 i _ K;rw[L]at f1;cases f1;exact⟨r1,q2,by rw[f2];exact C8 f3 Y⟩
 have G:(m.map (·.2.1)).length<=sizeLine:=by
  have O:=(p1.map (λt:Value×V×List Int=>t.2.1)).length_eq;rw[t2]at O;simp only[List.length_map]at O⊢;omega
 have E:Vals (m.map (·.2.1)) os:=by rw[<-p2];exact N4 λt ht=>(hT t ht).1
 have I2:=P.laid (h':=h') (a:=h1.objs.size) (o:=.lst (m.map (·.2.1))) (t':=tk) k2 (Nat.le_refl _) ⟨G,os,c,E,e⟩;refine⟨.ref h1.objs.size,_,I2,rfl,q _ _ (m.map (·.2.2)) (P.hok.fresh (Nat.le_refl _)) ⟨by rw[List.length_map,List.length_map],λi v z=>?_⟩ (by rw[<-Z];exact p1.map _) ?_⟩
 .rw[List.getElem?_map]at z⊢;cases r:m[i]? with
  |none=>rw[r]at z;cases z
  |some t =>
   rw[r]at z;cases z;exact⟨t.2.2,rfl,(hT t (List.mem_of_getElem? r)).2.1⟩
 .unfold D4;rw[List.pairwise_map];rw[<-p2,List.pairwise_map]at hs;refine hs.imp_of_mem λ{x y} hx R n=>?_;rw[(hT x hx).2.2,(hT y R).2.2]at n;exact n
end
end L2
namespace L2
open PySem PySem.Spec PyProof.Rows
def b5d(i j:Int):Prop:=0<j/\j<2 ^ 64
variable {X:Cx}
theorem b1g:OpR X (binaryOp .FloorDiv) (rI b5d λi j=>.int (i / j)):=opI λi j _ _ _ _ _ hc q=>by
 have h1:(0:Int)<j:=hc.1;have h2:j<2 ^ 64:=hc.2;refine floordiv_int (by omega) (by rw[Int.fdiv_eq_ediv_of_nonneg i (by omega)];exact q) (.inl (PyProof.noPylong_of_log2 ?_));have:j.natAbs.log2<64:=(Nat.log2_lt (by omega)).mpr (by omega);omega
theorem b4e{a b:Expr}{ta tb:TE}{pos:Pos}(ha:JE X a ta)(c:JE X b tb):JE X (.BinOp a .FloorDiv b pos) (tOp (rI b5d λi j=>.int (i / j)) ta tb):=⟨Z3 b1g ha.h c.h⟩
end L2
namespace L2
open PySem PySem.Spec PyProof.Rows PySem.W
section
variable {prog:Program}{w:World}{A:Around}{E:Value->Shared->Prop}{s:Shared}{d:Addr}{ep:Nat}{es:Array DictEntry}
theorem b3f{Q:Value->Shared->Prop}(hs:(d==sysModules)=false)(D:DRaw s.heap d es ep)(hz:(es.size:Int)<2 ^ 63)
  (q:Q (.int es.size (s.toks+1)) {s with toks:=s.toks+1+1}):wpAny (model prog w) A (call (.builtin "len") [.ref d]) Q E s:=by
 refine Calls.call_function_entry kind_len plain_len entry_len (args_len1 _) ?_;have ty:=D.typ;obtain⟨c,b,_,a⟩:=D;unfold Builtin.«len»;refine wpAny_bind (m:=oneArg "len" _) (wpAny_pure ?_);refine wpAny_bind (m:=callSpecial? (.ref d) (Str.ofString "__len__")) (wpAny_callSpecial?_slot (name:=Str.ofString "__len__") ty PySem.F.slot_dict_len (wpAny_call_entry PySem.F.slot_dict_len ty PySem.F.entry_dict_len ?body (PySem.F.args_dict_len_1 _)))
 case body =>
  show wpAny _ _ (dictSize d>>=λn=>_) _ _ _;unfold dictSize;refine wpAny_bind (wpAny_bind (wpAny_dictEntries b a (wpAny_pure ?_)));show wpAny _ _ (Builtin.Dict.pendingCount d>>=λn=>_) _ _ _;refine wpAny_bind (wpAny_pendingCount_other hs (wpAny_ret_mkInt ?_));show wpAny _ _ _ _ _ {s with toks:=s.toks+1};rw[show((es.size:Nat):Int)+((0:Nat):Int)=(es.size:Int) by simp];refine wpAny_bind (wpAny_holding (wpAny_pure (wpAny_bind (wpAny_letGo ?_))));show wpAny _ _ (if ((es.size:Nat):Int)<0 then _ else _) _ _ _;rw[if_neg (by omega)];show wpAny _ _ (if ((es.size:Nat):Int) ≥ 2 ^ 63 then _ else _) _ _ _;rw[if_neg (by omega)];exact wpAny_bind (wpAny_mkInt (wpAny_pure ⟨_,rfl,q⟩))
end
def b4S:RL:=λxs H Q=>∃(a:Addr) (kvs:List (List Key×V)),xs=[V.ref a]/\H a=some (.dT kvs)/\Q (.int kvs.length) H
section
variable {X:Cx}
theorem a9z:C7 X (.builtin "len") b4S:=by
 intro pins s σ H xs us Q I r h;obtain⟨a,kvs,rfl,ha,q⟩:=h;obtain⟨u,rfl,n⟩:=r.one;cases n;obtain⟨hz,b,f,g,i,es,ep,m,j,k,l,o⟩:=I.hok _ _ ha;have d:kvs.length=f.length:=Paired.length g;have c:es.size=f.length:=by rw[<-Array.length_toList,l,List.length_map]
 have e:=hz;rw[sizeLine_eq]at e;refine b3f b ⟨i,m,j,k⟩ (by omega) ?_;rw[c,<-d];exact⟨.int kvs.length,H,I.tok _,⟨_,rfl⟩,q⟩
variable {a b c e o i value:Expr}{es rest:List Expr}{ta tb tc te to td ty tv:TE}{t:TA}{pos p apos cpos p2 pos' tpos:Pos}
theorem b4d(d:Gl X "len")(b:X.mg "len"=none)(ha:JA X [e] t)(c:starEach [e] X.env=(false,eval e X.env)::starEach [] X.env:=by rfl)(a:(backTo pos (starEach [] X.env)).any (·.1)=false:=by rfl):JE X (.Call (.Name "len" p) [e] [] pos) (tCB b4S t):=⟨D8 a9z d b b2x ha.h (by decide) (by decide) c a⟩
theorem b1R(d:Gl X "sorted")(b:X.mg "sorted"=none)(ha:JA X [e] t)(hc:X.calm=true:=by rfl)(c:starEach [e] X.env=(false,eval e X.env)::starEach [] X.env:=by rfl)(a:(backTo pos (starEach [] X.env)).any (·.1)=false:=by rfl):JE X (.Call (.Name "sorted" p) [e] [] pos) (tCB a6v t):=⟨D8 (a6R hc) d b a1a ha.h (by decide) (by decide) c a⟩
theorem a4C:JE X (.Dict [] [] pos) b0d:=⟨b1b⟩
theorem b7T(c:X.A.units+60<cLine)(hi:JE X i ty)(b:JE X o td)(a:behindInMarks .In o=false):JE X (.Compare i [.In] [o] pos) (b7e ty td):=⟨b5P (b5R (by omega) hi.h b.h) a⟩
theorem a3y(c:X.A.units+60<cLine)(hi:JE X i ty)(b:JE X o td)(a:behindInMarks .NotIn o=false):JT X (.Compare i [.NotIn] [o] pos) (tB (a7k ty td)):=⟨b5w (a8R (by omega) hi.h b.h) a⟩
theorem a7R(c:X.A.units+60<cLine)(b:JE X o td)(hi:JE X i ty)(a:JE X value tv)(hs:swapsWith value (some (.Subscript o i pos')) pos.line X.env=pure false:=by rfl):JS X (.Assign [.Subscript o i pos'] value pos) (b4K td ty tv):=⟨b3n (by omega) b.h hi.h a.h hs⟩
theorem K6(K:PySem.W.Frag){f:Str}(a:JE X e ta)(c:X.K=K:=by rfl)(b:attributeBase e f X.env (eval e X.env)=eval e X.env:=by rfl):JE X (.Attribute e f pos) (b7d K ta f):=by
 subst c;exact⟨b5O a.h b⟩
theorem S6(K:PySem.W.Frag){f:Str}(ha:JE X o ta)(a:JE X value tv)(b:X.K=K:=by rfl)(hs:swapsWith value (some (.Attribute o f pos')) pos.line X.env=pure false:=by rfl):JS X (.Assign [.Attribute o f pos'] value pos) (b7h K ta tv f):=by
 subst b;exact⟨b5A ha.h a.h hs⟩
end
structure MethOk(P:Program)(w:World)(K:PySem.W.Frag)(mg:Str->Option Value)(base:Heap)(C:Addr)(m:Str)(k:Nat)(ps:List Str)(sp:Sp):Prop where
 ex:∃f fd,Meth K C m f/\Binds K fd ps []/\FnOk P w K mg base CX0 k f fd ps sp
structure MethAt(K:PySem.W.Frag)(C:Addr)(m qual:Str)(st:Stmt)(ps:List Str):Prop where
 ex:∃f fd,Meth K C m f/\Fun K m qual st f fd/\Binds K fd ps []
structure MakeOk(P:Program)(w:World)(K:PySem.W.Frag)(mg:Str->Option Value)(base:Heap)(x:Str)(C:Addr)(k:Nat)(ps:List Str)(sp:Sp):Prop where
 ex:∃f fd,mg x=some (.ref C)/\Mk K C f/\Binds K fd ps []/\FnOk P w K mg base CX0 k f fd ps sp
section
variable {P:Program}{w:World}{K:PySem.W.Frag}{mg:Str->Option Value}{base:Heap}{C:Addr}{m qual:Str}{st:Stmt}{N ps:List Str}{k:Nat}{sp:Sp}
theorem MethAt.fnJ(F:MethAt K C m qual st ps)(S:FnScope N ps (A1 st))(len:∀vs H Q E,sp vs H Q E->vs.length=ps.length)
  (a:∀(b:Value) (f:Addr) (A:Around) (outer:List Env) (s:Shared) (H:Hp) (vs:List V) (Q:VK) (E:XK),Room k (A.deeper (envOfC qual (A1 st) s.heap.objs.size f b))->sp vs H Q E ->
   ∃t,JB (J6 CX0 P w K mg base N qual (A1 st) f b A outer s H E).nox (E2 st) t/\t {nx:=λ_ H'=>Q .non H',rt:=Q} (start N vs) H):MethOk P w K mg base C m (k+1) ps sp:=by
 obtain⟨f,fd,h1,h2,c⟩:=F.ex;exact⟨f,fd,h1,c,h2.okJ S len λb=>a b f⟩
theorem MethOk.make{x:Str}(O:MethOk P w K mg base C "__init__" k ps sp)(b:mg x=some (.ref C))(a:PySem.W.makesIn K C=true)(d:PySem.W.keepIn K (.ref C)=true):MakeOk P w K mg base x C k ps sp:=by
 obtain⟨f,fd,h1,h2,c⟩:=O.ex;exact⟨f,fd,b,⟨a,h1.at_,h1.fn,d⟩,h2,c⟩
end
section
variable {X:Cx}{C:Addr}{m x:Str}{k:Nat}{ps:List Str}{sp:Sp}{o e:Expr}{es:List Expr}{ta:TE}{t:TA}{pos apos p:Pos}
theorem b6o{pl:Sem Bool}(O:MethOk X.prog X.w X.K X.mg X.base C m k ps sp)(c:Cls X.K C)(hr:Room k X.A)(g:JE X o ta)(ha:JA X (e::es) t)
  (b:starEach (e::es) X.env=(false,eval e X.env)::starEach es X.env:=by rfl) (a:(backTo pos (starEach es X.env)).any (·.1)=false:=by rfl)
  (ht:eval (.Call (.Attribute o m apos) (e::es) [] pos) X.env=(eval o X.env>>=λi=>standAt apos.atName>>=λ_=>holding [i] (getMethod i m pl)>>=λp=>match p with | (f,first)=>callWith pos f first (backTo pos (starEach (e::es) X.env)) (backToKw pos (keywordEach [] X.env))):=by rfl) :
  JE X (.Call (.Attribute o m apos) (e::es) [] pos) (a1h C m sp [] E0 ta t):=by
 obtain⟨f,fd,h1,h2,d⟩:=O.ex;exact⟨b3z (pl:=pl) g.h c h1 d hr h2 .nil a7I ha.h b a ht⟩
theorem a4B{pl:Sem Bool}(O:MethOk X.prog X.w X.K X.mg X.base C m k ps sp)(c:Cls X.K C)(hr:Room k X.A)(a:JE X o ta)
  (ht:eval (.Call (.Attribute o m apos) [] [] pos) X.env=(eval o X.env>>=λd=>standAt apos.atName>>=λ_=>holding [d] (getMethod d m pl)>>=λp=>match p with | (f,first)=>callWith pos f first (backTo pos (starEach [] X.env)) (backToKw pos (keywordEach [] X.env))):=by rfl) :
  JE X (.Call (.Attribute o m apos) [] [] pos) (a1h C m sp [] E0 ta a1q):=by
 obtain⟨f,fd,h1,h2,b⟩:=O.ex;exact⟨b0Y (pl:=pl) a.h c h1 b hr h2 .nil a7I ht⟩
theorem b6p(O:MakeOk X.prog X.w X.K X.mg X.base x C k ps sp)(hr:Room (k+1) X.A)(c:Gl X x)(ha:JA X (e::es) t)(a:(x==("__debug__" : Str))=false:=by decide)
  (g:starEach (e::es) X.env=(false,eval e X.env)::starEach es X.env:=by rfl) (b:(backTo pos (starEach es X.env)).any (·.1)=false:=by rfl) :
  JE X (.Call (.Name x p) (e::es) [] pos) (b4C C sp [] E0 t):=by
 obtain⟨f,fd,h0,h1,h2,d⟩:=O.ex;exact⟨b3A h1 d hr c h0 h2 .nil a7I ha.h a g b⟩
end
end L2
namespace L2
open PySem PySem.Spec PyProof.Rows
theorem a2v{K:PySem.W.Frag}{src:List (Option Nat)}{σ caps:St}{Q:VK}{a:Addr}{vs:List V}{rss:LLI}{H:Hp}{k:TT}(t:List Int->Bool)(hl:vs.length<=sizeLine)(b:∀H',Same H H'->SqL K H' a vs)(hI:Its H vs rss)(c:B4 src σ=none::caps)
  (g:∀v r H1 j,r∈rss->IT H1 v r->Same H H1->(∀H2,Same H1 H2->j (t r) H2)->k (some v::caps) H1 j) (hd:∀H1 p l,Same H H1->H1 p=none->Its H1 l (rss.filter t)->Q (.ref p) (upd H1 p (.lst l))):J3 src (A8 0) k (Y9 0) σ Q (Itl K a) H:=by
 refine Q9 (xs:=vs) (by omega) (λi ys H'=>Same H H'/\Its H' ys ((rss.take i).filter t)) ⟨Same.refl H,by simpa using Its.nil⟩ (λi ys H' _ h=>⟨b H' h.1,by rw[h.2.1];exact Nat.le_trans (List.length_filter_le _ _) (List.length_take_le _ _)⟩) ?_ ?_
 .rintro i x ys H' hx ⟨s,hy⟩;obtain⟨r,hr,f,d⟩:=hI.mem hx;show Sub _ ((B4 src σ).set 0 (some x))/\_;rw[c];refine⟨Sub.one,g x r H' _ hr (d.same s) s λH2 s2=>?_⟩;rw[List.take_add_one,f];cases e:t r with
  |true=>exact⟨_,rfl,s.trans s2,by simpa[e]using(hy.same s2).snoc ((d.same s).same s2)⟩
  |false=>exact⟨s.trans s2,by simpa[e]using hy.same s2⟩
 .rintro ys H' ⟨s,hy⟩ p hp;rw[hI.1,List.take_length]at hy;exact hd H' p ys s hp hy
def Prs(H:Hp)(ps:List V)(f:Nat->List Int)(js:List Nat):Prop:=ps.length=js.length/\∀(i:Nat) (q:V),ps[i]?=some q->∃(j:Nat) (b:Addr) (v:V),js[i]?=some j/\q=.ref b/\H b=some (.tup [.int j,v])/\IT H v (f j)
theorem Prs.same{H H':Hp}{ps:List V}{f:Nat->List Int}{a:List Nat}(h:Prs H ps f a)(s:Same H H'):Prs H' ps f a :=
 ⟨h.1,λi q e=>let ⟨j,b,v,e1,e2,e3,e4⟩:=h.2 i q e;⟨j,b,v,e1,e2,s _ _ e3,e4.same s⟩⟩
theorem Prs.nil{H:Hp}{f:Nat->List Int}:Prs H [] f []:=⟨rfl,λi q e=>by simp at e⟩
theorem Prs.snoc{H:Hp}{ps:List V}{f:Nat->List Int}{c:List Nat}{j:Nat}{b:Addr}{v:V}(h:Prs H ps f c)(l:H b=some (.tup [.int j,v]))(d:IT H v (f j)):Prs H (ps++[.ref b]) f (c++[j]):=by
 refine⟨by rw[List.length_append,List.length_append,h.1];rfl,λi q e=>?_⟩;rcases Nat.lt_or_ge i ps.length with hi|hi
 .rw[List.getElem?_append_left hi]at e;obtain⟨n,b',k,m,g⟩:=h.2 i q e;exact⟨n,b',k,by rw[List.getElem?_append_left (by rw[<-h.1];exact hi)];exact m,g⟩
 .rw[List.getElem?_append_right hi]at e;have a:i-ps.length=0:=by
   rcases Nat.eq_zero_or_pos (i-ps.length)with z|z
   .exact z
   .rw[List.getElem?_eq_none (by simp;omega)]at e;cases e
  rw[a]at e;cases e;exact⟨j,b,v,by rw[List.getElem?_append_right (by rw[<-h.1];exact hi),<-h.1,a];rfl,rfl,l,d⟩
section
variable {X:Cx}{k:Nat}{ps:List Str}{sp:Sp}{x y:Str}{p pos cpos pos' ip sp':Pos}{e:Expr}{es:List Expr}{t:TA}{i:Nat}{z:Int}{jj:Nat}
end
end L2
namespace L2
open PySem PySem.Spec PyProof.Rows PySem.W
section
variable {X:Cx}{tg:Expr}
end
section
variable {X:Cx}
end
section
variable {X:Cx}{o e:Expr}{es:List Expr}{to:TE}{t:TA}{apos cpos:Pos}
end
theorem a9e{K:PySem.W.Frag}{src:List (Option Nat)}{σ caps:St}{Q:VK}{a:Addr}{vs:List V}{rss:LLI}{H:Hp}{te:TE}(f:List Int->V)(hl:vs.length<=sizeLine)(b:∀H',Same H H'->SqL K H' a vs)(hI:Its H vs rss)(c:B4 src σ=none::caps)
  (d:∀v r H1 j,r∈rss->IT H1 v r->Same H H1->(∀H2,Same H1 H2->j (f r) H2)->te (some v::caps) H1 j) (hd:∀H1 p,Same H H1->H1 p=none->Q (.ref p) (upd H1 p (.lst (rss.map f)))):J3 src (A8 0) U5 te σ Q (Itl K a) H:=by
 refine Q9 (xs:=vs) (by omega) (λi ys H'=>Same H H'/\ys=(rss.take i).map f) ⟨Same.refl H,by simp⟩ (λi ys H' _ h=>⟨b H' h.1,by rw[h.2,List.length_map];exact List.length_take_le _ _⟩) ?_ ?_
 .rintro i x ys H' hx ⟨s,rfl⟩;obtain⟨r,hr,e,g⟩:=hI.mem hx;show Sub _ ((B4 src σ).set 0 (some x))/\_;rw[c];refine⟨Sub.one,d x r H' _ hr (g.same s) s λH2 s2=>⟨s.trans s2,?_⟩⟩;rw[List.take_add_one,e];simp
 .rintro ys H' ⟨s,rfl⟩ p hp;rw[hI.1,List.take_length];exact hd H' p s hp
def a9V(sp:Sp)(t:TA):TX:=λD R σ H=>t σ H λvs H1=>sp vs H1 (λ_ H2=>D.nx σ H2) λc _ H'=>∃C,c=.ref C/\R σ C H'
theorem b0K{X:Cx}{k:Nat}{ps:List Str}{sp:Sp}{x:Str}{p pos cpos:Pos}{e:Expr}{es:List Expr}{t:TA}(j:∀e s,¬X.xe e s)(O:OkE X.prog X.w X.K X.mg X.base x k ps sp)(hr:Room k X.A)(l:Gl X x)
  (ha:PA X (e::es) t) (d:(x==("__debug__" : Str))=false:=by decide)
  (L:starEach (e::es) X.env=(false,eval e X.env)::starEach es X.env:=by rfl) (i:(backTo cpos (starEach es X.env)).any (·.1)=false:=by rfl)
  (hs:swapsWith (.Call (.Name x p) (e::es) [] cpos) none pos.line X.env=pure false:=by rfl) :
  PSx X [.Expr (.Call (.Name x p) (e::es) [] cpos) pos] (a9V sp t):=by
 intro pins s σ H D R I h;obtain⟨f,fd,J,y,m,F⟩:=O.ex;refine wpAny_execs_cons (wpAny_Expr_any ?_ I.quiet hs);refine wpAny_Call_Name_kw (O5 I l J ?_ d);refine PySem.W.callWith_K (h₀:=X.base) I.ok.mod.kin y (wpAny_mono (ha cpos pins s σ H _ I h) (λus s1 ⟨vs,H1,c,r,q⟩=>⟨c.kIn,?_⟩) λe s z=>absurd z (j e s)) L i;have hl:us.length=ps.length:=by rw[<-r.length];exact F.len _ _ _ _ q
 have b:=m s1 us c.kIn (by rw[List.append_nil];exact hl);rw[List.append_nil]at b;refine wpAny_call (codeAny_mono (F.run X.A X.stack s1 H1 ⟨us,[]⟩ us vs _ _ hr c.env0 b r q) λr s' a=>?_);cases r with
 |error e =>
  obtain⟨p,C,H',B,a0,h1,h2,P,Q,M,E,o,N,S,n,g⟩:=a;cases n;exact⟨σ,H1,s1,p,C,H',B,a0,h1,c,h2,P,Q,M,E,o,N,g⟩
 |ok fl =>
  cases fl with
  |ret u =>
   obtain⟨v,H2,G,T,q2⟩:=c.after a;exact wpAny_execs_nil ⟨σ,H2,G,q2⟩
  |next=>exact False.elim a
  |brk=>exact False.elim a
  |cont=>exact False.elim a
section
variable {X:Cx}{k:Nat}{ps:List Str}{sp:Sp}{x:Str}{p pos cpos:Pos}{e:Expr}{es:List Expr}{t:TA}
theorem b3Y(O:OkE X.prog X.w X.K X.mg X.base x k ps sp)(hr:Room k X.A)(d:Gl X x)(ha:JA X (e::es) t)(c:∀e s,¬X.xe e s:=by exact λ_ _ z=>z)(a:(x==("__debug__" : Str))=false:=by decide)
  (f:starEach (e::es) X.env=(false,eval e X.env)::starEach es X.env:=by rfl) (b:(backTo cpos (starEach es X.env)).any (·.1)=false:=by rfl)
  (hs:swapsWith (.Call (.Name x p) (e::es) [] cpos) none pos.line X.env=pure false:=by rfl) :
  JX X [.Expr (.Call (.Name x p) (e::es) [] cpos) pos] (a9V sp t):=⟨b0K c O hr d ha.h a f b hs⟩
end
end L2
namespace L2
open PySem PySem.Spec PyProof.Rows
section
variable {prog:Program}{w:World}{A:Around}{E:Value->Shared->Prop}{s:Shared}
end
section
variable {X:Cx}{pos:Pos}
end
section
variable {X:Cx}{es:List Expr}{pos:Pos}
end
end L2
namespace L2
open PySem PySem.Spec PyProof.Rows PySem.W
def b0I:RL:=λxs H Q=>∃(d:Addr) (kvs:List (List Key×V)) (rss:LLI),xs=[.ref d]/\H d=some (.dT kvs)/\kvs.map (·.1)=IK rss/\∀l zs,H l=none->Its H zs rss->Q (.ref l) (upd H l (.lst zs))
section
variable {X:Cx}
theorem a6U(hc:X.calm=true):C7 X (.type "list") b0I:=by
 intro pins s σ H xs us Q I J h;obtain⟨d,kvs,rss,rfl,hd,A,q⟩:=h;obtain⟨u,rfl,G⟩:=J.one;cases G;obtain⟨hz,l,g,m,v,es,ep,t,y,z,n,K⟩:=(show ObjOk X.prog X.w H s.heap d (.dT kvs)from I.hok _ _ hd);obtain⟨hI,p⟩:=a4y m A;have F:kvs.length=g.length:=Paired.length m;have j:es.size=g.length:=by rw[<-Array.length_toList,n,List.length_map]
 have D:DRaw s.heap d es ep:=⟨v,t,y,z⟩;refine kdl_call (a4q l es ep) (I.ok.hd hc) D (by omega) λh' tk acc c kp hS f=>?_;have C:acc.toList=g.map λx=>Value.ref x.2.1:=by
  refine List.ext_getElem? λi=>?_;rw[Array.getElem?_toList,List.getElem?_map];by_cases hi:i<g.length
  .have hia:i<acc.size:=by rw[f.1,j];exact hi
   obtain⟨e,E,r⟩:=f.2 i acc[i] (by simp[hia]);have b:es.toList[i]?=some e:=by rw[Array.getElem?_toList];exact E
   rw[n,List.getElem?_map,List.getElem?_eq_getElem hi]at b;injection b with b
   rw[Array.getElem?_eq_getElem hia,List.getElem?_eq_getElem hi,r,<-b];rfl
  .rw[Array.getElem?_eq_none (by rw[f.1,j];omega),List.getElem?_eq_none (by omega)];rfl
 have k:acc=(g.map λx=>Value.ref x.2.1).toArray:=by rw[<-C,Array.toArray_toList]
 rw[k]at hS;have B:=I.laid (h':=h') (a:=s.heap.objs.size) (o:=.lst (g.map λx=>V.ref x.2.1)) (t':=tk) kp (Nat.le_refl _) ⟨by rw[List.length_map];omega,_,c,P6 (λx:List Key×Addr×Value=>x.2.1) g,hS⟩;exact⟨.ref s.heap.objs.size,_,B,rfl,q _ _ (I.hok.fresh (Nat.le_refl _)) hI⟩
end
section
variable {X:Cx}{e:Expr}{es:List Expr}{t:TA}{p pos:Pos}
theorem b1S(d:Gl X "list")(b:X.mg "list"=none)(ha:JA X (e::es) t)(hc:X.calm=true:=by rfl)(c:starEach (e::es) X.env=(false,eval e X.env)::starEach es X.env:=by rfl)(a:(backTo pos (starEach es X.env)).any (·.1)=false:=by rfl):JE X (.Call (.Name "list" p) (e::es) [] pos) (tCB b0I t):=⟨M4 (a6U hc) d b a8o ha.h (by decide) (by decide) c a⟩
end
section
variable {X:Cx}{k v:Expr}{tk tv:TE}{pos:Pos}
end
end L2
section
open PySem PyProof.Rows
end
namespace L2
open PySem PySem.Spec PyProof.Rows
section
variable {X:Cx}
variable {o e:Expr}{es:List Expr}{to:TE}{t:TA}{pos apos cpos:Pos}
end
end L2
namespace L2
theorem b7R{α:Type}{us:List α}(h:us.length=0):us=[]:=List.length_eq_zero_iff.mp h
theorem a0M{α:Type}{us:List α}(h:us.length=1):∃a,us=[a]:=by
 cases us with
 |nil=>cases h
 |cons a us=>exact⟨a,by rw[b7R (us:=us) (Nat.succ.inj h)]⟩
theorem Q3{α:Type}{us:List α}(h:us.length=2):∃a b,us=[a,b]:=by
 cases us with
 |nil=>cases h
 |cons a us=>obtain⟨b,e⟩:=a0M (us:=us) (Nat.succ.inj h);exact⟨a,b,by rw[e]⟩
theorem a4x{α:Type}{us:List α}(h:us.length=3):∃a b c,us=[a,b,c]:=by
 cases us with
 |nil=>cases h
 |cons a us=>obtain⟨b,c,e⟩:=Q3 (us:=us) (Nat.succ.inj h);exact⟨a,b,c,by rw[e]⟩
theorem b7Q{α:Type}{us:List α}(h:us.length=4):∃a b c d,us=[a,b,c,d]:=by
 cases us with
 |nil=>cases h
 |cons a us=>obtain⟨b,c,d,e⟩:=a4x (us:=us) (Nat.succ.inj h);exact⟨a,b,c,d,by rw[e]⟩
theorem b7P{α:Type}{us:List α}(h:us.length=5):∃a b c d e,us=[a,b,c,d,e]:=by
 cases us with
 |nil=>cases h
 |cons a us=>obtain⟨b,c,d,e,q⟩:=b7Q (us:=us) (Nat.succ.inj h);exact⟨a,b,c,d,e,by rw[q]⟩
section
open PySem PySem.Spec PyProof.Rows PySem.W
abbrev FnL(K:PySem.W.Frag)(f:Addr)(nm qn:Str)(st:Stmt)(oc:Value)(od:Option Addr)(sl:Array (Option Value))(kV dc pm:Value)(an:Option Addr)(cd ct:Value):Prop:=K.lookup f=some ⟨oc,od,.func (PySem.W.fnOf nm qn (O7 st) (E2 st) (A1 st) .none kV dc pm an cd ct),sl⟩
variable {K:PySem.W.Frag}{h:Heap}{mg:Str->Option Value}{x qn:Str}{st:Stmt}{f:Addr}{od an:Option Addr}{sl:Array (Option Value)}{oc kV dc pm cd ct:Value}{C:Addr}{m:Str}
theorem C1(X:K.In h)(G:h.Ns mainGlobals mg)(a:nsIn K mainGlobals x=some (some (.ref f)))(l:FnL K f x x st oc od sl kV dc pm an cd ct)(c:codeIn K cd x=true)(k:keepIn K (.ref f)=true){ps:List Str}
  (e:∀(kV b pm:Value) (an:Option Addr) (d ct:Value) (us:List Value),us.length=ps.length->bindArgs (fnOf x x (O7 st) (E2 st) (A1 st) .none kV b pm an d ct) ⟨us,[]⟩=pure (ps.zip us)):FunAt K mg x st ps:=⟨f,_,mg_of X G a,a2M (st:=st) l c k,(a2M (st:=st) l c k).binds e⟩
theorem a2u(a:findIn K (.ref C) m=some (some (.ref f)))(i:isFn K (.ref f)=true)(l:FnL K f m qn st oc od sl kV dc pm an cd ct)(c:codeIn K cd qn=true)(k:keepIn K (.ref f)=true){ps:List Str}
  (e:∀(kV b pm:Value) (an:Option Addr) (d ct:Value) (us:List Value),us.length=ps.length->bindArgs (fnOf m qn (O7 st) (E2 st) (A1 st) .none kV b pm an d ct) ⟨us,[]⟩=pure (ps.zip us)):MethAt K C m qn st ps:=⟨f,_,⟨a,i,k⟩,a2M (st:=st) l c k,(a2M (st:=st) l c k).binds e⟩
end
section
open PySem PySem.Spec PyProof.Rows PySem.W
variable {K:PySem.W.Frag}{h:Heap}{mg:Str->Option Value}{x nm qn:Str}{C N:Addr}{bs bm sub bmB above:List Value}{hd ab:Bool}{sn:List Str}{col:Option Bool}{dd:Option Addr}{k0 k1 k2 k3 k5:Option Value}{newId:String}
theorem b5T(X:K.In h)(b:mg x=some (.ref C))(c:K.lookup C=some (excClassObj nm qn C N bs bm hd sn sub ab col dd k0 k1 k2 k3 k5 newId))(tx:tailIn K bmB bm=true)(ok:nsOkIn K N=true)(a:nsIn K N "__init__"=some none):OwnCls x C bmB newId mg h :=
 ⟨b,bm,N,nm,qn,bs,hd,sn,sub,ab,col,dd,k0,k1,k2,k3,k5,_,X _ _ c,.of_isNs (isNs_of_in X ok),nsMap_none_of_in X ok a,tail_of_in X tx⟩
end
inductive Ex1{α0:Type}(p:α0->Prop):Prop
 |mk (a0:α0) (h:p a0):Ex1 p
inductive Ex2{α0 α1:Type}(p:α0->α1->Prop):Prop
 |mk (a0:α0) (a1:α1) (h:p a0 a1):Ex2 p
inductive Ex3{α0 α1 α2:Type}(p:α0->α1->α2->Prop):Prop
 |mk (a0:α0) (a1:α1) (a2:α2) (h:p a0 a1 a2):Ex3 p
inductive Ex4{α0 α1 α2 α3:Type}(p:α0->α1->α2->α3->Prop):Prop
 |mk (a0:α0) (a1:α1) (a2:α2) (a3:α3) (h:p a0 a1 a2 a3):Ex4 p
inductive Ex5{α0 α1 α2 α3 α4:Type}(p:α0->α1->α2->α3->α4->Prop):Prop
 |mk (a0:α0) (a1:α1) (a2:α2) (a3:α3) (a4:α4) (h:p a0 a1 a2 a3 a4):Ex5 p
inductive Ex6{α0 α1 α2 α3 α4 α5:Type}(p:α0->α1->α2->α3->α4->α5->Prop):Prop
 |mk (a0:α0) (a1:α1) (a2:α2) (a3:α3) (a4:α4) (a5:α5) (h:p a0 a1 a2 a3 a4 a5):Ex6 p
inductive An2(a0 a1:Prop):Prop
 |mk (h0:a0) (h1:a1):An2 a0 a1
inductive An3(a0 a1 a2:Prop):Prop
 |mk (h0:a0) (h1:a1) (h2:a2):An3 a0 a1 a2
inductive An4(a0 a1 a2 a3:Prop):Prop
 |mk (h0:a0) (h1:a1) (h2:a2) (h3:a3):An4 a0 a1 a2 a3
inductive An5(a0 a1 a2 a3 a4:Prop):Prop
 |mk (h0:a0) (h1:a1) (h2:a2) (h3:a3) (h4:a4):An5 a0 a1 a2 a3 a4
inductive An8(a0 a1 a2 a3 a4 a5 a6 a7:Prop):Prop
 |mk (h0:a0) (h1:a1) (h2:a2) (h3:a3) (h4:a4) (h5:a5) (h6:a6) (h7:a7):An8 a0 a1 a2 a3 a4 a5 a6 a7
inductive An9(a0 a1 a2 a3 a4 a5 a6 a7 a8:Prop):Prop
 |mk (h0:a0) (h1:a1) (h2:a2) (h3:a3) (h4:a4) (h5:a5) (h6:a6) (h7:a7) (h8:a8):An9 a0 a1 a2 a3 a4 a5 a6 a7 a8
inductive An10(a0 a1 a2 a3 a4 a5 a6 a7 a8 a9:Prop):Prop
 |mk (h0:a0) (h1:a1) (h2:a2) (h3:a3) (h4:a4) (h5:a5) (h6:a6) (h7:a7) (h8:a8) (h9:a9):An10 a0 a1 a2 a3 a4 a5 a6 a7 a8 a9
end L2
namespace L2
namespace Tab
open PySem
def gI:Nat->Nat->Nat
 |0,x=>x
 |n+1,x=>5*gI n x+1
def gS:Nat->Nat
 |0=>0
 |n+1=>5*gS n+1
theorem b5a:∀n x,gI n x=5 ^ n*x+gS n
 |0,x=>by simp[gI,gS]
 |n+1,x=>by
  rw[gI,b5a n x,gS,Nat.pow_succ,Nat.mul_add,<-Nat.mul_assoc,Nat.mul_comm 5 (5 ^ n)];omega
theorem a8a:∀n,4*gS n+1=5 ^ n
 |0=>rfl
 |n+1=>by
  have:=a8a n;rw[gS,Nat.pow_succ];omega
theorem a2O:∀k,∃u,5 ^ (2 ^ k)=1+2 ^ (k+2)*(2*u+1)
 |0=>⟨0,rfl⟩
 |k+1=>by
  obtain⟨u,h⟩:=a2O k;refine⟨u+2 ^ k*(2*u+1)*(2*u+1),?_⟩;rw[Nat.pow_succ 2 k,Nat.pow_mul,h,Nat.pow_two];have c:2 ^ (k+1+2)=8*2 ^ k:=by rw[Nat.pow_add,Nat.pow_succ];omega
  have a:2 ^ (k+2)=4*2 ^ k:=by rw[Nat.pow_add,Nat.mul_comm]
  rw[c,a];generalize 2 ^ k=b
  grind
theorem b6w(k:Nat):∃u,gS (2 ^ k)=2 ^ k*(2*u+1):=by
 obtain⟨u,h⟩:=a2O k;refine⟨u,?_⟩;have:=a8a (2 ^ k);have a:2 ^ (k+2)=4*2 ^ k:=by rw[Nat.pow_add,Nat.mul_comm]
 rw[h,a,Nat.mul_assoc]at this;omega
theorem b4l(k y:Nat):gI (2 ^ k) y % 2 ^ (k+1)=(y+2 ^ k) % 2 ^ (k+1):=by
 obtain⟨u,h⟩:=a2O k;obtain⟨v,h2⟩:=b6w k;rw[b5a,h,h2];have e:(1+2 ^ (k+2)*(2*u+1))*y+2 ^ k*(2*v+1)=(y+2 ^ k)+2 ^ (k+1)*(2*(2*u+1)*y+v):=by
  have c:2 ^ (k+1)=2*2 ^ k:=by rw[Nat.pow_succ];omega
  have a:2 ^ (k+2)=4*2 ^ k:=by rw[Nat.pow_add,Nat.mul_comm]
  rw[c,a];generalize 2 ^ k=b
  grind
 rw[e,Nat.add_mul_mod_self_left]
def fI(M:Nat):Nat->Nat->Nat
 |0,x=>x
 |n+1,x=>(fI M n x*5+1) % M
theorem b2i(M:Nat)(x:Nat)(a:x<M):∀n,fI M n x=gI n x % M
 |0=>(Nat.mod_eq_of_lt a).symm
 |n+1=>by
  rw[fI,b2i M x a n,gI,Nat.mul_comm,Nat.add_mod,Nat.mul_mod,Nat.mod_mod,<-Nat.mul_mod,<-Nat.add_mod]
theorem b2g(m:Nat):∀n x,gI (n+m) x=gI n (gI m x)
 |0,x=>by rw[Nat.zero_add];rfl
 |n+1,x=>by rw[Nat.add_right_comm,gI,b2g m n x,gI]
theorem b2f:∀(k x s:Nat),∃n,n<2 ^ k/\gI n x % 2 ^ k=s % 2 ^ k
 |0,x,s=>⟨0,by decide,by rw[Nat.pow_zero,Nat.mod_one,Nat.mod_one]⟩
 |k+1,x,s=>by
  obtain⟨n,j,h⟩:=b2f k x s;have e:2 ^ (k+1)=2*2 ^ k:=by rw[Nat.pow_succ];omega
  have hp:0<2 ^ k:=Nat.pow_pos (by decide);by_cases a:gI n x % 2 ^ (k+1)=s % 2 ^ (k+1)
  .exact⟨n,by omega,a⟩
  .refine⟨2 ^ k+n,by omega,?_⟩;rw[b2g,b4l];generalize gI n x=y at *;rw[e]at a⊢;generalize 2 ^ k=M at *;have a1:=Nat.mod_add_div y (2*M);have a2:=Nat.mod_add_div s (2*M);have g:=Nat.mod_lt y (show 0<2*M by omega);have i:=Nat.mod_lt s (show 0<2*M by omega);have c:y % M=y % (2*M) % M:=(Nat.mod_mul_left_mod y 2 M).symm;have d:s % M=s % (2*M) % M:=(Nat.mod_mul_left_mod s 2 M).symm;rw[Nat.add_mod,Nat.mod_eq_of_lt (show M<2*M by omega)];generalize y % (2*M)=p at *;generalize s % (2*M)=q at *;rw[c,d]at h;have f:p % M=if p<M then p else p-M:=by
    split
    .exact Nat.mod_eq_of_lt (by assumption)
    .rw[Nat.mod_eq_sub_mod (by omega)];exact Nat.mod_eq_of_lt (by omega)
   have b:q % M=if q<M then q else q-M:=by
    split
    .exact Nat.mod_eq_of_lt (by assumption)
    .rw[Nat.mod_eq_sub_mod (by omega)];exact Nat.mod_eq_of_lt (by omega)
   rw[f,b]at h;split at h<;>split at h
   .omega
   .rw[Nat.mod_eq_of_lt (by omega)];omega
   .rw[show p+M=p-M+2*M by omega,Nat.add_mod_right,Nat.mod_eq_of_lt (by omega)];omega
   .omega
abbrev Pr:=SetTable.Probe
noncomputable def adv(mask:Nat)(p:Pr):Pr :=
 if p.more > 0 then {p with j:=p.j+1,more:=p.more-1} else
 {p with j:=(SetTable.leap mask p.i p.perturb).1,more:=SetTable.runEnd mask (SetTable.leap mask p.i p.perturb).1-(SetTable.leap mask p.i p.perturb).1,i:=(SetTable.leap mask p.i p.perturb).1,perturb:=(SetTable.leap mask p.i p.perturb).2}
theorem b6M(t:SetTable)(p:Pr):t.advance p=adv t.mask p:=rfl
noncomputable def B7(mask:Nat)(p:Pr):Nat->Pr
 |0=>p
 |n+1=>adv mask (B7 mask p n)
theorem G6(mask:Nat)(p:Pr):∀n,B7 mask p (n+1)=B7 mask (adv mask p) n
 |0=>rfl
 |n+1=>by rw[B7,G6 mask p n];rfl
theorem a0h(mask:Nat)(p:Pr)(m:Nat):∀n,B7 mask p (m+n)=B7 mask (B7 mask p m) n
 |0=>rfl
 |n+1=>by rw[<-Nat.add_assoc,B7,a0h mask p m n];rfl
theorem a0G(mask:Nat)(p:Pr):∀n,(B7 mask p n).dummy=p.dummy
 |0=>rfl
 |n+1=>by
  rw[B7,<-a0G mask p n];unfold adv;split<;>rfl
noncomputable def a0I(mask i pt:Nat):Pr:={j:=i,more:=SetTable.runEnd mask i-i,i,perturb:=pt,dummy:=none}
noncomputable def st0(mask:Nat)(h:Int):Pr:=a0I mask (SetTable.bits h % (mask+1)) (SetTable.bits h)
theorem a0U(mask i pt:Nat):∀c,c<=SetTable.runEnd mask i-i->B7 mask (a0I mask i pt) c={j:=i+c,more:=SetTable.runEnd mask i-i-c,i,perturb:=pt,dummy:=none}
 |0,_=>rfl
 |c+1,h=>by
  rw[B7,a0U mask i pt c (by omega)];unfold adv;rw[if_pos (show SetTable.runEnd mask i-i-c > 0 by omega)];simp only[SetTable.Probe.mk.injEq,and_true];omega
theorem b3b(mask i:Nat):SetTable.runEnd mask i-i<=9:=by
 unfold SetTable.runEnd;split<;>omega
theorem a5B(mask i pt:Nat):B7 mask (a0I mask i pt) (SetTable.runEnd mask i-i+1)=a0I mask (SetTable.leap mask i pt).1 (SetTable.leap mask i pt).2:=by
 rw[B7,a0U mask i pt _ (Nat.le_refl _)];unfold adv;rw[if_neg (by show ¬SetTable.runEnd mask i-i-(SetTable.runEnd mask i-i) > 0;omega)];rfl
def L6(mask:Nat)(i pt:Nat):Nat->Nat×Nat
 |0=>(i,pt)
 |k+1=>SetTable.leap mask (L6 mask i pt k).1 (L6 mask i pt k).2
theorem b0u(mask i pt:Nat):∀k,∃n,n<=10*k/\B7 mask (a0I mask i pt) n=a0I mask (L6 mask i pt k).1 (L6 mask i pt k).2
 |0=>⟨0,Nat.le_refl _,rfl⟩
 |k+1=>by
  obtain⟨n,h1,h2⟩:=b0u mask i pt k;have:=b3b mask (L6 mask i pt k).1;refine⟨n+(SetTable.runEnd mask (L6 mask i pt k).1-(L6 mask i pt k).1+1),by omega,?_⟩;rw[a0h,h2,a5B];rfl
theorem b0s(mask i pt:Nat):∀k,(L6 mask i pt k).2=pt / 32 ^ k
 |0=>by simp[L6]
 |k+1=>by
  rw[L6,Nat.pow_succ,<-Nat.div_div_eq_div_mul,<-b0s mask i pt k];rfl
theorem a2j(mask i pt a:Nat):∀b,L6 mask i pt (a+b)=L6 mask (L6 mask i pt a).1 (L6 mask i pt a).2 b
 |0=>rfl
 |b+1=>by rw[<-Nat.add_assoc,L6,a2j mask i pt a b];rfl
theorem a5r(mask i:Nat):∀k,L6 mask i 0 k=(fI (mask+1) k i,0)
 |0=>rfl
 |k+1=>by
  rw[L6,a5r mask i k];show((fI (mask+1) k i*5+1+0 / 32) % (mask+1),0 / 32)=_;rw[Nat.zero_div,Nat.add_zero];rfl
theorem b4q(h:Int):SetTable.bits h<2 ^ 64:=by
 unfold SetTable.bits;have h1:=Int.emod_nonneg h (show(2:Int) ^ 64≠0 by decide);have h2:=Int.emod_lt_of_pos h (show(0:Int)<2 ^ 64 by decide);omega
theorem b3c(mask i pt:Nat)(hi:i<=mask):∀k,(L6 mask i pt k).1<=mask
 |0=>hi
 |k+1=>by
  rw[L6];exact Nat.le_of_lt_succ (Nat.mod_lt _ (Nat.succ_pos _))
theorem a5s{mask k:Nat}(a:mask+1=2 ^ k)(h:Int)(s:Nat)(hs:s<=mask):∃r,r<mask+14/\(L6 mask (SetTable.bits h % (mask+1)) (SetTable.bits h) r).1=s:=by
 have b:=b4q h;have hi:=b3c mask (SetTable.bits h % (mask+1)) (SetTable.bits h) (Nat.le_of_lt_succ (Nat.mod_lt _ (Nat.succ_pos _))) 13;have hp:=b0s mask (SetTable.bits h % (mask+1)) (SetTable.bits h) 13;rw[Nat.div_eq_of_lt (Nat.lt_of_lt_of_le b (by decide))]at hp;obtain⟨n,c,e⟩:=b2f k (L6 mask (SetTable.bits h % (mask+1)) (SetTable.bits h) 13).1 s;refine⟨13+n,by omega,?_⟩;rw[<-a]at e;rw[a2j,hp,a5r];show fI _ _ _=s;rw[b2i _ _ (by omega),e];exact Nat.mod_eq_of_lt (by omega)
noncomputable def pos(mask:Nat)(h:Int)(n:Nat):Nat:=(B7 mask (st0 mask h) n).j
theorem b0S{mask k:Nat}(b:mask+1=2 ^ k)(h:Int)(s:Nat)(hs:s<=mask):∃n,n<10*SetTable.turns mask/\pos mask h n=s:=by
 obtain⟨r,hr,e⟩:=a5s b h s hs;obtain⟨n,c,a⟩:=b0u mask (SetTable.bits h % (mask+1)) (SetTable.bits h) r;refine⟨n,by unfold SetTable.turns;omega,?_⟩;unfold pos st0;rw[a,<-e];rfl
theorem a2X(xs:Array Nat)(j:Nat)(hr:∀a b:Nat,a<b->b<xs.size->xs.getD a 0<xs.getD b 0):∀(fuel lo hi:Nat),hi-lo<=fuel->lo<=hi->hi<=xs.size->(∀i,i<lo->xs.getD i 0<j)->(∀i,hi<=i->i<xs.size->j<=xs.getD i 0) ->
  SetTable.below.go xs j fuel lo hi<=xs.size/\(∀i,i<SetTable.below.go xs j fuel lo hi->xs.getD i 0<j)/\∀i,SetTable.below.go xs j fuel lo hi<=i->i<xs.size->j<=xs.getD i 0
 |0,lo,hi,h1,h2,h3,h4,h5=>by
  have:hi=lo:=by omega
  subst this;exact⟨h3,h4,h5⟩
 |fuel+1,lo,hi,h1,h2,h3,h4,h5=>by
  unfold SetTable.below.go;by_cases h:lo<hi
  .rw[if_pos h];have f:(lo+hi) / 2<hi/\lo<=(lo+hi) / 2:=by omega
   have d:xs.getD ((lo+hi) / 2) j=xs.getD ((lo+hi) / 2) 0:=by
    have:(lo+hi) / 2<xs.size:=by omega
    simp[Array.getD,this]
   dsimp only;rw[d];by_cases hc:xs.getD ((lo+hi) / 2) 0<j
   .rw[if_pos hc];refine a2X xs j hr fuel _ _ (by omega) (by omega) h3 (λi c=>?_) h5;by_cases e:i=(lo+hi) / 2
    .rw[e];exact hc
    .exact Nat.lt_trans (hr i _ (by omega) (by omega)) hc
   .rw[if_neg hc];refine a2X xs j hr fuel _ _ (by omega) (by omega) (by omega) h4 (λi c hs=>?_);by_cases e:i=(lo+hi) / 2
    .rw[e];omega
    .have:=hr ((lo+hi) / 2) i (by omega) hs;omega
  .rw[if_neg h];have:hi=lo:=by omega
   subst this;exact⟨h3,h4,h5⟩
def Ris(xs:Array Nat):Prop:=∀a b:Nat,a<b->b<xs.size->xs.getD a 0<xs.getD b 0
theorem G4{xs:Array Nat}(hr:Ris xs)(j:Nat):SetTable.below xs j<=xs.size/\(∀i,i<SetTable.below xs j->xs.getD i 0<j)/\∀i,SetTable.below xs j<=i->i<xs.size->j<=xs.getD i 0 :=
 a2X xs j hr xs.size 0 xs.size (by omega) (by omega) (Nat.le_refl _) (λi h=>absurd h (by omega)) (λi h1 h2=>absurd h2 (by omega))
theorem a0z{xs:Array Nat}{i:Nat}(h:i<xs.size):xs[i]?=some (xs.getD i 0):=by simp[Array.getD,h]
theorem a0E{xs:Array Nat}(hr:Ris xs){i j:Nat}(h:xs[i]?=some j):SetTable.below xs j=i:=by
 obtain⟨d,a,b⟩:=G4 hr j;have hi:i<xs.size:=(Array.getElem?_eq_some_iff.mp h).1;have c:xs.getD i 0=j:=by have:=a0z hi;rw[h]at this;injection this with this;exact this.symm
 rcases Nat.lt_trichotomy (SetTable.below xs j) i with z|z|z
 .have h1:=b _ (Nat.le_refl _) (by omega);have h2:=hr _ _ z hi;omega
 .exact z
 .have:=a i z;omega
theorem a0Z{xs:Array Nat}(hr:Ris xs)(j:Nat):xs[SetTable.below xs j]?=some j↔j∈xs:=by
 constructor
 .intro h;exact Array.mem_of_getElem? h
 .intro h;obtain⟨i,hi⟩:=Array.mem_iff_getElem?.mp h;rw[a0E hr hi];exact hi
theorem a7z{t:SetTable}(hr:Ris t.place)(hd:t.dummies=#[])(j:Nat):t.slot j=if j∈t.place then .live (SetTable.below t.place j)else .empty:=by
 unfold SetTable.slot;dsimp only;by_cases h:j∈t.place
 .rw[if_pos h,if_pos];rw[(a0Z hr j).mpr h];simp
 .rw[if_neg h,if_neg,hd]
  .rw[if_neg];unfold SetTable.has;simp
  .intro z;exact h ((a0Z hr j).mp (by simpa using z))
theorem a5v{t:SetTable}(hr:Ris t.place)(hd:t.dummies=#[])(a:Nat->Int)(h:Int):∀(fuel:Nat) (p:Pr),p.dummy=none->(∃n,n<fuel/\(B7 t.mask p n).j∉t.place) ->
  (∃n,(B7 t.mask p n).j∉t.place/\(∀m,m<n->(B7 t.mask p m).j∈t.place/\a (SetTable.below t.place (B7 t.mask p m).j)≠h)/\SetTable.probe.go t a h fuel p=some (.empty (B7 t.mask p n).j none)) ∨
  ∃n,(B7 t.mask p n).j∈t.place/\a (SetTable.below t.place (B7 t.mask p n).j)=h/\(∀m,m<n->(B7 t.mask p m).j∈t.place/\a (SetTable.below t.place (B7 t.mask p m).j)≠h)/\SetTable.probe.go t a h fuel p=some (.candidate (B7 t.mask p n).j (SetTable.below t.place (B7 t.mask p n).j) (B7 t.mask p (n+1)))
 |0,p,_,⟨n,hn,_⟩=>absurd hn (by omega)
 |fuel+1,p,hdm,⟨n,hn,he⟩=>by
  unfold SetTable.probe.go;rw[a7z hr hd];by_cases b:p.j∈t.place
  .rw[if_pos b];dsimp only;by_cases c:a (SetTable.below t.place p.j)=h
   .right;refine⟨0,b,c,λm d=>absurd d (by omega),?_⟩;rw[if_pos (by simpa using c)];rfl
   .have hn0:n≠0:=λz=>he (by rw[z];exact b);obtain⟨n,rfl⟩:∃f,n=f+1:=⟨n-1,by omega⟩;rw[G6]at he;rw[if_neg (by simpa using c),b6M];have first:∀N,(∀m,m<N->(B7 t.mask (adv t.mask p) m).j∈t.place/\a (SetTable.below t.place (B7 t.mask (adv t.mask p) m).j)≠h)->∀m,m<N+1->(B7 t.mask p m).j∈t.place/\a (SetTable.below t.place (B7 t.mask p m).j)≠h:=λN e m d=>by
     cases m with
     |zero=>exact⟨b,c⟩
     |succ m=>rw[G6];exact e m (by omega)
    rcases a5v hr hd a h fuel (adv t.mask p) (by rw[<-hdm];exact a0G t.mask p 1) ⟨n,by omega,he⟩with⟨N,h1,h2,h3⟩|⟨N,h1,h2,h3,h4⟩
    .left;exact⟨N+1,by rw[G6];exact h1,first N h2,by rw[G6];exact h3⟩
    .right;exact⟨N+1,by rw[G6];exact h1,by rw[G6];exact h2,first N h3,by rw[G6,G6];exact h4⟩
  .rw[if_neg b];left;refine⟨0,b,λm d=>absurd d (by omega),?_⟩;show some (SetTable.Met.empty p.j p.dummy)=_;rw[hdm];rfl
theorem V9{α:Type}(xs:Array α)(p:Nat)(x:α)(hp:p<=xs.size):(SetTable.insertAt xs p x).toList=xs.toList.take p++x::xs.toList.drop p:=by
 unfold SetTable.insertAt;simp only[Array.toList_append,Array.toList_push,Array.toList_extract,List.extract_eq_take_drop,List.drop_zero,Nat.sub_zero,List.append_assoc,List.singleton_append];rw[List.take_of_length_le (l:=List.drop p xs.toList) (by simp)]
theorem ris_list{xs:Array Nat}:Ris xs↔xs.toList.Pairwise (· < ·):=by
 rw[List.pairwise_iff_getElem];unfold Ris;constructor
 .intro h i j hi hj hij;have:=h i j hij (by simpa using hj);simpa[Array.getD,show i<xs.size by simpa using hi,show j<xs.size by simpa using hj]using this
 .intro h a b hab hb;have:=h a b (by simp;omega) (by simpa using hb) hab;simpa[Array.getD,show a<xs.size by omega,hb]using this
theorem a3B{xs:Array Nat}{i:Nat}(h:i<xs.toList.length):xs.getD i 0=xs.toList[i]:=by
 have h':i<xs.size:=by simpa using h
 simp[Array.getD,h']
theorem b2L{xs:Array Nat}(hr:Ris xs){j x:Nat}(h:x∈xs.toList.take (SetTable.below xs j)):x<j:=by
 obtain⟨b,a,c⟩:=G4 hr j;obtain⟨i,hi,rfl⟩:=List.mem_iff_getElem.mp h;rw[List.length_take]at hi;rw[List.getElem_take,<-a3B];exact a i (by omega)
theorem a8f{xs:Array Nat}(hr:Ris xs){j x:Nat}(c:j∉xs)(h:x∈xs.toList.drop (SetTable.below xs j)):j<x:=by
 obtain⟨d,e,b⟩:=G4 hr j;have a:x∈xs:=by simpa using List.mem_of_mem_drop h
 obtain⟨i,hi,rfl⟩:=List.mem_iff_getElem.mp h;rw[List.length_drop]at hi;rw[List.getElem_drop,<-a3B]at a⊢;have:=b (SetTable.below xs j+i) (by omega) (by simp at hi;omega);rcases Nat.lt_or_eq_of_le this with z|z
 .exact z
 .exact absurd (z ▸ a) c
theorem b3d{xs:Array Nat}(hr:Ris xs){j:Nat}(b:j∉xs):Ris (SetTable.insertAt xs (SetTable.below xs j) j):=by
 rw[ris_list,V9 _ _ _ (G4 hr j).1];have hp:=ris_list.mp hr;rw[List.pairwise_append,List.pairwise_cons];refine⟨hp.take,⟨λy a=>a8f hr b a,hp.drop⟩,λx c y a=>?_⟩;have h1:=b2L hr c;rcases List.mem_cons.mp a with z|z
 .rw[z];exact h1
 .exact Nat.lt_trans h1 (a8f hr b z)
theorem a4w{xs:Array Nat}{p j x:Nat}(hp:p<=xs.size):x∈SetTable.insertAt xs p j↔x=j∨x∈xs:=by
 rw[<-Array.mem_toList_iff,V9 _ _ _ hp,List.mem_append,List.mem_cons,<-Array.mem_toList_iff];constructor
 .rintro(h|h|h)
  .exact .inr (List.mem_of_mem_take h)
  .exact .inl h
  .exact .inr (List.mem_of_mem_drop h)
 .rintro(h|h)
  .exact .inr (.inl h)
  .rw[<-List.take_append_drop p xs.toList]at h;rcases List.mem_append.mp h with z|z
   .exact .inl z
   .exact .inr (.inr z)
theorem nodup_le{α:Type}[DecidableEq α]:∀(a b:List α),a.Nodup->(∀x∈a,x∈b)->a.length<=b.length
 |[],b,_,_=>Nat.zero_le _
 |x::a,b,hn,h=>by
  obtain⟨h1,h2⟩:=List.nodup_cons.mp hn;have d:=h x List.mem_cons_self;have:=nodup_le a (b.erase x) h2 λy c=>(List.mem_erase_of_ne (λz:y=x=>h1 (z ▸ c))).mpr (h y (List.mem_cons_of_mem _ c));rw[List.length_erase_of_mem d]at this;have:=List.length_pos_of_mem d;rw[List.length_cons];omega
structure TabOk{α:Type}(t:SetTable)(es:Array (Int×α)):Prop where
 size:t.place.size=es.size
 dum:t.dummies=#[]
 ris:Ris t.place
 le:∀j∈t.place,j<=t.mask
 pow:∃k,3<=k/\t.mask+1=2 ^ k
 room:es.size<=t.mask
 reach:∀(i j:Nat) (e:Int×α),t.place[i]?=some j->es[i]?=some e->∃n,pos t.mask e.1 n=j/\∀m,m<n->pos t.mask e.1 m∈t.place
theorem TabOk.free{α:Type}{t:SetTable}{es:Array (Int×α)}(h:TabOk t es)(x:Int):∃n,n<10*SetTable.turns t.mask/\pos t.mask x n∉t.place:=by
 obtain⟨k,_,d⟩:=h.pow;have:∃s,s<=t.mask/\s∉t.place:=by
  refine Classical.byContradiction λe=>?_;have a:∀s,s<t.mask+1->s∈t.place.toList:=λs hs=>by
   refine Classical.byContradiction λz=>e ⟨s,by omega,λq=>z (by simpa using q)⟩
  have:=nodup_le (List.range (t.mask+1)) t.place.toList List.nodup_range λs hs=>a s (List.mem_range.mp hs);rw[List.length_range,Array.length_toList,h.size]at this;have:=h.room;omega
 obtain⟨s,hs,f⟩:=this;obtain⟨n,b,c⟩:=b0S d x s hs;exact⟨n,b,by rw[c];exact f⟩
theorem TabOk.first{α:Type}{t:SetTable}{es:Array (Int×α)}(h:TabOk t es)(x:Int):∃N,N<10*SetTable.turns t.mask/\pos t.mask x N∉t.place/\∀m,m<N->pos t.mask x m∈t.place:=by
 obtain⟨n,c,hf⟩:=h.free x;induction n using Nat.strongRecOn with
 |ind n ih =>
  by_cases b:∃m,m<n/\pos t.mask x m∉t.place
  .obtain⟨m,a,hm2⟩:=b;exact ih m a (by omega) hm2
  .exact⟨n,c,hf,λm a=>Classical.byContradiction λz=>b ⟨m,a,z⟩⟩
theorem a7Z{α:Type}{xs:Array α}{p:Nat}{x:α}(hp:p<=xs.size)(i:Nat):(SetTable.insertAt xs p x)[i]?=if i<p then xs[i]? else if i=p then some x else xs[i-1]?:=by
 rw[<-Array.getElem?_toList,V9 _ _ _ hp];by_cases h1:i<p
 .rw[if_pos h1,List.getElem?_append_left (by rw[List.length_take,Array.length_toList];omega),List.getElem?_take_of_lt h1,Array.getElem?_toList]
 .rw[if_neg h1,List.getElem?_append_right (by rw[List.length_take,Array.length_toList];omega),List.length_take,Array.length_toList,Nat.min_eq_left hp];by_cases h2:i=p
  .rw[if_pos h2,h2,Nat.sub_self];rfl
  .rw[if_neg h2];obtain⟨c,hc⟩:∃c,i-p=c+1:=⟨i-p-1,by omega⟩;rw[hc,List.getElem?_cons_succ,List.getElem?_drop,Array.getElem?_toList];congr 1;omega
theorem TabOk.add{α:Type}{t:SetTable}{es:Array (Int×α)}(h:TabOk t es){x:Int}{v:α}{N:Nat}(h1:pos t.mask x N∉t.place)(h2:∀m,m<N->pos t.mask x m∈t.place)(o:pos t.mask x N<=t.mask)(c:es.size<t.mask) :
  TabOk (t.put (pos t.mask x N)).1 (SetTable.insertAt es (t.put (pos t.mask x N)).2 (x,v)):=by
 have f:=(G4 h.ris (pos t.mask x N)).1;have hd:(t.put (pos t.mask x N)).1.dummies=#[]:=by
  show(if SetTable.has t.dummies (pos t.mask x N)=true then _ else t.dummies)=#[];rw[h.dum,if_neg];unfold SetTable.has;simp
 have d:SetTable.below t.place (pos t.mask x N)<=es.size:=by rw[<-h.size];exact f
 have hsz:∀{β:Type}(xs:Array β) (p:Nat) (y:β),p<=xs.size->(SetTable.insertAt xs p y).size=xs.size+1:=λxs p y hp=>by
  rw[<-Array.length_toList,V9 _ _ _ hp,List.length_append,List.length_cons,List.length_take,List.length_drop,Array.length_toList];omega
 refine⟨?_,hd,b3d h.ris h1,λj s=>?_,h.pow,?_,λi j e b a=>?_⟩
 .show(SetTable.insertAt t.place (SetTable.below t.place (pos t.mask x N)) _).size=(SetTable.insertAt es (SetTable.below t.place (pos t.mask x N)) _).size;rw[hsz _ _ _ f,hsz _ _ _ d,h.size]
 .rcases(a4w f).mp s with z|z
  .rw[z];exact o
  .exact h.le j z
 .show(SetTable.insertAt es (SetTable.below t.place (pos t.mask x N)) _).size<=t.mask;rw[hsz _ _ _ d];exact c
 .change (SetTable.insertAt t.place (SetTable.below t.place (pos t.mask x N)) (pos t.mask x N))[i]?=some j at b;change (SetTable.insertAt es (SetTable.below t.place (pos t.mask x N)) (x,v))[i]?=some e at a;rw[a7Z f]at b;rw[a7Z d]at a;show ∃n,pos t.mask e.1 n=j/\∀m,m<n->pos t.mask e.1 m∈SetTable.insertAt t.place (SetTable.below t.place (pos t.mask x N)) (pos t.mask x N);have g:∀k,t.place[k]?=some j->es[k]?=some e->∃n,pos t.mask e.1 n=j/\∀m,m<n->pos t.mask e.1 m∈SetTable.insertAt t.place (SetTable.below t.place (pos t.mask x N)) (pos t.mask x N):=λk q1 q2=>by
   obtain⟨n,n1,n2⟩:=h.reach k j e q1 q2;exact⟨n,n1,λm l=>(a4w f).mpr (.inr (n2 m l))⟩
  by_cases r:i<SetTable.below t.place (pos t.mask x N)
  .rw[if_pos r]at b a;exact g i b a
  .rw[if_neg r]at b a;by_cases q:i=SetTable.below t.place (pos t.mask x N)
   .rw[if_pos q]at b a;cases b;cases a;exact⟨N,rfl,λm l=>(a4w f).mpr (.inr (h2 m l))⟩
   .rw[if_neg q]at b a;exact g _ b a
theorem a3s{mask i:Nat}(hi:i<=mask):SetTable.runEnd mask i<=mask:=by
 unfold SetTable.runEnd;split<;>omega
theorem a9T(mask:Nat)(p:Pr)(h:p.j+p.more<=mask):∀n,(B7 mask p n).j+(B7 mask p n).more<=mask
 |0=>h
 |n+1=>by
  have ih:=a9T mask p h n;rw[B7];unfold adv;split
  .dsimp only;omega
  .dsimp only;have h1:(SetTable.leap mask (B7 mask p n).i (B7 mask p n).perturb).1<=mask:=Nat.le_of_lt_succ (Nat.mod_lt _ (Nat.succ_pos _));have h2:=a3s h1;have a:(SetTable.leap mask (B7 mask p n).i (B7 mask p n).perturb).1<=SetTable.runEnd mask (SetTable.leap mask (B7 mask p n).i (B7 mask p n).perturb).1:=by
    unfold SetTable.runEnd;split<;>omega
   omega
theorem a0J(mask:Nat)(h:Int)(n:Nat):pos mask h n<=mask:=by
 have h1:SetTable.bits h % (mask+1)<=mask:=Nat.le_of_lt_succ (Nat.mod_lt _ (Nat.succ_pos _));have h2:=a3s h1;have a:SetTable.bits h % (mask+1)<=SetTable.runEnd mask (SetTable.bits h % (mask+1)):=by
  unfold SetTable.runEnd;split<;>omega
 have:=a9T mask (st0 mask h) (by show SetTable.bits h % (mask+1)+(SetTable.runEnd mask (SetTable.bits h % (mask+1))-SetTable.bits h % (mask+1))<=mask;omega) n;unfold pos;omega
noncomputable def fr(owner:Array (Option Nat))(j:Nat):Bool:=(owner.getD j (some 0)).isNone
theorem a8b(mask:Nat)(owner:Array (Option Nat)):∀(fuel i pt:Nat),(∃r,r<fuel/\fr owner (L6 mask i pt r).1=true) ->
  ∃n,fr owner (B7 mask (a0I mask i pt) n).j=true/\(∀m,m<n->fr owner (B7 mask (a0I mask i pt) m).j=false)/\SetTable.layClean.free mask owner fuel i pt=some (B7 mask (a0I mask i pt) n).j
 |0,_,_,⟨r,hr,_⟩=>absurd hr (by omega)
 |fuel+1,i,pt,⟨r,hr,hf⟩=>by
  unfold SetTable.layClean.free;have l:i<=SetTable.runEnd mask i:=by
   unfold SetTable.runEnd;split<;>omega
  cases e:(List.range (SetTable.runEnd mask i+1-i)).find? (λk=>(owner.getD (i+k) (some 0)).isNone)with
  |some k =>
   dsimp only;rw[List.find?_range_eq_some]at e;obtain⟨o,f,g⟩:=e;have p:=List.mem_range.mp f;refine⟨k,?_,λm b=>?_,?_⟩
   .rw[a0U mask i pt k (by omega)];exact o
   .rw[a0U mask i pt m (by omega)];have:=g m b;simpa[fr]using this
   .rw[a0U mask i pt k (by omega)]
  |none =>
   dsimp only;rw[List.find?_range_eq_none]at e;have a:∀m,m<SetTable.runEnd mask i-i+1->fr owner (B7 mask (a0I mask i pt) m).j=false:=λm b=>by
    rw[a0U mask i pt m (by omega)];have:=e m (by omega);simpa[fr]using this
   cases r with
   |zero =>
    have:=a 0 (by omega);rw[show(B7 mask (a0I mask i pt) 0).j=(L6 mask i pt 0).1 from rfl,hf]at this;cases this
   |succ r =>
    have d:fr owner (L6 mask (SetTable.leap mask i pt).1 (SetTable.leap mask i pt).2 r).1=true:=by
     rw[Nat.add_comm,a2j]at hf;exact hf
    obtain⟨n,h1,h2,h⟩:=a8b mask owner fuel (SetTable.leap mask i pt).1 (SetTable.leap mask i pt).2 ⟨r,by omega,d⟩;have key:∀m,B7 mask (a0I mask i pt) (SetTable.runEnd mask i-i+1+m)=B7 mask (a0I mask (SetTable.leap mask i pt).1 (SetTable.leap mask i pt).2) m:=λm=>by
     rw[a0h,a5B]
    refine⟨SetTable.runEnd mask i-i+1+n,by rw[key];exact h1,λm b=>?_,by rw[key];exact h⟩;by_cases c:m<SetTable.runEnd mask i-i+1
    .exact a m c
    .obtain⟨m',rfl⟩:∃m',m=SetTable.runEnd mask i-i+1+m':=⟨m-(SetTable.runEnd mask i-i+1),by omega⟩;rw[key];exact h2 m' (by omega)
structure Lay(mask:Nat)(owner:Array (Option Nat))(hs:List Int):Prop where
 size:owner.size=mask+1
 val:∀j q:Nat,owner[j]?=some (some q)->∃h,hs[q]?=some h/\∃n,pos mask h n=j/\∀m,m<n->fr owner (pos mask h m)=false
 ex:∀q,q<hs.length->∃j:Nat,owner[j]?=some (some q)
 uniq:∀j j' q:Nat,owner[j]?=some (some q)->owner[j']?=some (some q)->j=j'
theorem W3{owner:Array (Option Nat)}{mask j:Nat}(hs:owner.size=mask+1)(a:j<=mask):fr owner j=false↔∃q,owner[j]?=some (some q):=by
 have h:j<owner.size:=by omega
 unfold fr;rw[Array.getElem?_eq_getElem h,show owner.getD j (some 0)=owner[j] by simp[Array.getD,h]];cases owner[j]with
 |none=>simp
 |some q=>simp
theorem Lay.start(mask:Nat):Lay mask (Array.replicate (mask+1) none) []:=by
 refine⟨by simp,λj q h=>?_,λq h=>absurd h (by simp),λj a q h=>?_⟩<;>
 .rw[Array.getElem?_replicate]at h;split at h
  .cases h
  .cases h
theorem Lay.free{mask k:Nat}(v:mask+1=2 ^ k){owner:Array (Option Nat)}{hs:List Int}(L:Lay mask owner hs)(hl:hs.length<=mask)(h:Int):∃n,fr owner (pos mask h n)=true/\(∀m,m<n->fr owner (pos mask h m)=false)/\SetTable.layClean.free mask owner (SetTable.turns mask) (SetTable.bits h % (mask+1)) (SetTable.bits h)=some (pos mask h n):=by
 have:∃s,s<=mask/\fr owner s=true:=by
  refine Classical.byContradiction λy=>?_;have c:∀s:Nat,s<=mask->∃q,owner[s]?=some (some q):=λs hs=>by
   rw[<-W3 L.size hs];cases e:fr owner s with
   |false=>rfl
   |true=>exact absurd ⟨s,hs,e⟩ y
  have:=nodup_le ((List.range (mask+1)).map λj=>(owner.getD j none).getD 0) (List.range hs.length) ?_ ?_
  .rw[List.length_map,List.length_range,List.length_range]at this;omega
  .rw[List.nodup_iff_pairwise_ne,List.pairwise_map];refine(List.nodup_iff_pairwise_ne.mp List.nodup_range).imp_of_mem λ{a b} ha u l e=>l ?_;obtain⟨q,f⟩:=c a (by have:=List.mem_range.mp ha;omega);obtain⟨p,d⟩:=c b (by have:=List.mem_range.mp u;omega);have o:owner.getD a none=some q:=by rw[Array.getD_eq_getD_getElem?,f];rfl
   have t:owner.getD b none=some p:=by rw[Array.getD_eq_getD_getElem?,d];rfl
   rw[o,t]at e;change q=p at e;exact L.uniq a b q f (e ▸ d)
  .intro x hx;obtain⟨j,w,rfl⟩:=List.mem_map.mp hx;obtain⟨q,f⟩:=c j (by have:=List.mem_range.mp w;omega);obtain⟨h',h1,_⟩:=L.val j q f;have o:owner.getD j none=some q:=by rw[Array.getD_eq_getD_getElem?,f];rfl
   rw[o];exact List.mem_range.mpr (List.getElem?_eq_some_iff.mp h1).1
 obtain⟨s,g,i⟩:=this;obtain⟨r,hr,e⟩:=a5s v h s g;exact a8b mask owner _ _ _ ⟨r,by unfold SetTable.turns;omega,by rw[e];exact i⟩
theorem Lay.put{mask:Nat}{owner:Array (Option Nat)}{hs:List Int}(L:Lay mask owner hs){h:Int}{n:Nat}(h1:fr owner (pos mask h n)=true)(h2:∀m,m<n->fr owner (pos mask h m)=false):Lay mask (owner.setIfInBounds (pos mask h n) (some hs.length)) (hs++[h]):=by
 have hp:pos mask h n<owner.size:=by have:=a0J mask h n;rw[L.size];omega
 have g:∀q,owner[pos mask h n]?≠some (some q):=λq z=>by
  have:=(W3 L.size (a0J mask h n)).mpr ⟨q,z⟩;rw[h1]at this;cases this
 have get:∀j:Nat,(owner.setIfInBounds (pos mask h n) (some hs.length))[j]?=if j=pos mask h n then some (some hs.length)else owner[j]?:=λj=>by
  rw[Array.getElem?_setIfInBounds];by_cases e:pos mask h n=j
  .rw[if_pos e,if_pos e.symm,if_pos hp]
  .rw[if_neg e,if_neg λz=>e z.symm]
 have hsz:(owner.setIfInBounds (pos mask h n) (some hs.length)).size=mask+1:=by rw[Array.size_setIfInBounds,L.size]
 have keep:∀j,j<=mask->fr owner j=false->fr (owner.setIfInBounds (pos mask h n) (some hs.length)) j=false:=λj b e=>by
  rw[W3 hsz b,get];split
  .exact⟨_,rfl⟩
  .exact(W3 L.size b).mp e
 refine⟨hsz,λj q e=>?_,λq p=>?_,λj i q e a=>?_⟩
 .rw[get]at e;by_cases c:j=pos mask h n
  .rw[if_pos c]at e;cases e;exact⟨h,by rw[List.getElem?_append_right (Nat.le_refl _),Nat.sub_self];rfl,n,c.symm,λm f=>keep _ (a0J mask h m) (h2 m f)⟩
  .rw[if_neg c]at e;obtain⟨h',d,o,k,l⟩:=L.val j q e;exact⟨h',by rw[List.getElem?_append_left (List.getElem?_eq_some_iff.mp d).1];exact d,o,k,λm f=>keep _ (a0J mask h' m) (l m f)⟩
 .by_cases c:q=hs.length
  .exact⟨pos mask h n,by rw[get,if_pos rfl,c]⟩
  .rw[List.length_append,List.length_singleton]at p;obtain⟨j,b⟩:=L.ex q (by omega);refine⟨j,?_⟩;rw[get,if_neg]
   .exact b
   .intro z;exact g q (z ▸ b)
 .rw[get]at e a;have lt:∀j:Nat,owner[j]?=some (some q)->q<hs.length:=λj z=>by
   obtain⟨_,d,_⟩:=L.val j q z;exact(List.getElem?_eq_some_iff.mp d).1
  by_cases c:j=pos mask h n
  .by_cases c':i=pos mask h n
   .rw[c,c']
   .rw[if_pos c]at e;rw[if_neg c']at a;cases e;exact absurd (lt _ a) (by omega)
  .by_cases c':i=pos mask h n
   .rw[if_neg c]at e;rw[if_pos c']at a;cases a;exact absurd (lt _ e) (by omega)
   .rw[if_neg c]at e;rw[if_neg c']at a;exact L.uniq j i q e a
theorem a5I{mask k:Nat}(d:mask+1=2 ^ k):∀(rest done:List Int) (owner:Array (Option Nat)),Lay mask owner done->done.length+rest.length<=mask ->
  ∃a,rest.foldl (λacc h=>do
   let (owner,k) <-acc
   let j <-SetTable.layClean.free mask owner (SetTable.turns mask) (SetTable.bits h % (mask+1)) (SetTable.bits h)
   pure (owner.setIfInBounds j (some k),k+1)) (some (owner,done.length))=some (a,(done++rest).length)/\Lay mask a (done++rest)
 |[],done,owner,L,_=>⟨owner,by simp,by simpa using L⟩
 |h::rest,done,owner,L,hl=>by
  rw[List.length_cons]at hl;obtain⟨n,h1,h2,e⟩:=L.free d (by omega) h;obtain⟨a,c,b⟩:=a5I d rest (done++[h]) _ (L.put h1 h2) (by rw[List.length_append,List.length_singleton];omega);refine⟨a,?_,by rw[List.append_assoc]at b;exact b⟩;rw[List.foldl_cons];rw[List.append_assoc]at c;refine Eq.trans (congrArg (λz=>List.foldl _ z rest) ?_) c;show(Option.bind (SetTable.layClean.free mask owner (SetTable.turns mask) (SetTable.bits h % (mask+1)) (SetTable.bits h)) λj=>some (owner.setIfInBounds j (some done.length),done.length+1))=_;rw[e,List.length_append];rfl
theorem a5J{mask k:Nat}(d:mask+1=2 ^ k)(a:Array Int)(hl:a.size<=mask):∃owner,SetTable.layClean mask a=some owner/\Lay mask owner a.toList:=by
 obtain⟨owner,c,b⟩:=a5I d a.toList [] _ (Lay.start mask) (by simpa using hl);refine⟨owner,?_,b⟩;unfold SetTable.layClean;rw[<-Array.foldl_toList];exact congrArg (Option.map (·.1)) c
theorem a6N{α β:Type}(f:α->Option β):∀l:List α,(∀x∈l,(f x).isSome=true)->(l.filterMap f).map some=l.map f
 |[],_=>rfl
 |x::l,h=>by
  have ih:=a6N f l λy b=>h y (List.mem_cons_of_mem _ b);have a:=h x List.mem_cons_self;cases e:f x with
  |none=>rw[e]at a;cases a
  |some y=>rw[List.filterMap_cons_some e,List.map_cons,List.map_cons,ih,e]
theorem b0C{α:Type}(es:Array α):(List.range es.size).filterMap (es[·]?)=es.toList:=by
 have h1:((List.range es.size).filterMap (es[·]?)).map some=(List.range es.size).map (es[·]?):=a6N _ _ λq a=>by
  have:=List.mem_range.mp a;simp[this]
 have h2:es.toList.map some=(List.range es.size).map (es[·]?):=by
  refine List.ext_getElem (by simp) λi h1 h2=>?_;simp at h1;simp[h1]
 exact(List.map_inj_right (λ_ _ h=>Option.some.inj h)).mp (h1.trans h2.symm)
def C9(mask:Nat)(owner:Array (Option Nat)):List (Nat×Nat):=(List.range (mask+1)).filterMap λj=>(owner.getD j none).map (j,·)
theorem M7{mask:Nat}{owner:Array (Option Nat)}(hs:owner.size=mask+1)(j q:Nat):(j,q)∈C9 mask owner↔owner[j]?=some (some q):=by
 unfold C9;rw[List.mem_filterMap];constructor
 .rintro⟨j',a,e⟩;have a:=List.mem_range.mp a;rw[Option.map_eq_some_iff]at e;obtain⟨d,b,c⟩:=e;cases c;rw[Array.getD_eq_getD_getElem?,Array.getElem?_eq_getElem (by omega)]at b;rw[Array.getElem?_eq_getElem (by omega)];exact congrArg some b
 .intro e;have f:j<owner.size:=(Array.getElem?_eq_some_iff.mp e).1;exact⟨j,List.mem_range.mpr (by omega),by rw[Array.getD_eq_getD_getElem?,e];rfl⟩
theorem b1x(mask:Nat)(owner:Array (Option Nat)):(C9 mask owner).Pairwise λa b=>a.1<b.1:=by
 unfold C9;refine List.Pairwise.filterMap _ (λa b c p hp q d=>?_) List.pairwise_lt_range;rw[Option.map_eq_some_iff]at hp d;obtain⟨_,_,rfl⟩:=hp;obtain⟨_,_,rfl⟩:=d;exact c
theorem b3X{α:Type}{mask k:Nat}(A:mask+1=2 ^ k)(G:3<=k)(es:Array (Int×α))(hl:es.size<=mask)(finger moves:Nat)(led plain:Bool) :
  ∃t' c,SetTable.laid mask finger moves led plain (es.map (·.1))=some (t',c)/\t'.mask=mask/\t'.led=led/\t'.plain=plain/\TabOk t' (c.filterMap (es[·]?))/\(c.filterMap (es[·]?)).toList.Perm es.toList:=by
 obtain⟨owner,e,L⟩:=a5J A (es.map (·.1)) (by simpa using hl);refine⟨{mask,place:=((C9 mask owner).map (·.1)).toArray,dummies:=#[],finger,led,moves,plain},((C9 mask owner).map (·.2)).toArray,?_,rfl,rfl,rfl,?_⟩
 .unfold SetTable.laid;rw[e];rfl
 have x:∀p∈C9 mask owner,p.2<es.size:=λp hp=>by
  obtain⟨h,h1,_⟩:=L.val p.1 p.2 ((M7 L.size p.1 p.2).mp hp);have:=(List.getElem?_eq_some_iff.mp h1).1;simpa using this
 have ris:=b1x mask owner;have nd:((C9 mask owner).map (·.2)).Nodup:=by
  rw[List.nodup_iff_pairwise_ne,List.pairwise_map];refine ris.imp_of_mem λ{a b} ha C E z=>?_;have h1:=(M7 L.size a.1 a.2).mp ha;have h2:=(M7 L.size b.1 b.2).mp C;rw[z]at h1;have:=L.uniq _ _ _ h1 h2;omega
 have d:∀q,q∈(C9 mask owner).map (·.2)↔q∈List.range es.size:=λq=>by
  rw[List.mem_range];constructor
  .intro o;obtain⟨p,hp,rfl⟩:=List.mem_map.mp o;exact x p hp
  .intro o;obtain⟨j,s⟩:=L.ex q (by simpa using o);exact List.mem_map.mpr ⟨(j,q),(M7 L.size j q).mpr s,rfl⟩
 have perm:((C9 mask owner).map (·.2)).Perm (List.range es.size):=(List.perm_ext_iff_of_nodup nd List.nodup_range).mpr d;have g:∀l:List Nat,(l.toArray.filterMap (es[·]?)).toList=l.filterMap (es[·]?):=λl=>by simp
 have f:(((C9 mask owner).map (·.2)).filterMap (es[·]?)).map some=((C9 mask owner).map (·.2)).map (es[·]?):=a6N _ _ λq o=>by
  have:=List.mem_range.mp ((d q).mp o);simp[this]
 have hsz:(((C9 mask owner).map (·.2)).toArray.filterMap (es[·]?)).size=(C9 mask owner).length:=by
  have:=congrArg List.length f;rw[List.length_map,List.length_map,List.length_map]at this;rw[<-Array.length_toList,g];exact this
 have r:(C9 mask owner).length=es.size:=by
  have:=perm.length_eq;rw[List.length_map,List.length_range]at this;exact this
 refine⟨⟨?_,rfl,?_,λj s=>?_,⟨k,G,A⟩,by rw[hsz,r];exact hl,λi j w t y=>?_⟩,?_⟩
 .rw[hsz];simp
 .rw[ris_list];show((C9 mask owner).map (·.1)).Pairwise (· < ·);rw[List.pairwise_map];exact ris
 .have s:j∈(C9 mask owner).map (·.1):=by simpa using s
  obtain⟨p,hp,rfl⟩:=List.mem_map.mp s;have:=(Array.getElem?_eq_some_iff.mp ((M7 L.size p.1 p.2).mp hp)).1;rw[L.size]at this;show p.1<=mask;omega
 .have t:((C9 mask owner).map (·.1))[i]?=some j:=by simpa using t
  rw[<-Array.getElem?_toList,g]at y;rw[List.getElem?_map,Option.map_eq_some_iff]at t;obtain⟨p,hp,rfl⟩:=t;have h1:=congrArg (λl=>l[i]?) f;simp only[List.getElem?_map,y,hp,Option.map_some]at h1;injection h1 with h1
  have v:=(M7 L.size p.1 p.2).mp (List.mem_of_getElem? hp);obtain⟨h,q1,n,q2,q3⟩:=L.val p.1 p.2 v;have D:h=w.1:=by
   rw[Array.getElem?_toList,Array.getElem?_map,<-h1]at q1;injection q1 with q1
   exact q1.symm
  rw[D]at q2 q3;refine⟨n,q2,λm F=>?_⟩;obtain⟨B,u⟩:=(W3 L.size (a0J mask _ m)).mp (q3 m F);have:pos mask w.1 m∈(C9 mask owner).map (·.1):=List.mem_map.mpr ⟨_,(M7 L.size _ B).mpr u,rfl⟩;show pos mask w.1 m∈((C9 mask owner).map (·.1)).toArray;simpa using this
 .rw[g];refine(perm.filterMap _).trans (List.Perm.of_eq ?_);exact b0C es
theorem a7A(n:Nat):∀(fuel a:Nat),3<=a->n<2 ^ (a+fuel)->∃b,3<=b/\SetTable.sizeAbove.go n fuel (2 ^ a)=2 ^ b/\n<2 ^ b/\(b=a∨2 ^ b<=2*n)
 |0,a,h3,h=>⟨a,h3,rfl,h,.inl rfl⟩
 |fuel+1,a,h3,h=>by
  unfold SetTable.sizeAbove.go;by_cases hc:2 ^ a<=n
  .rw[if_pos hc,<-Nat.pow_succ];obtain⟨b,c,e,d,f⟩:=a7A n fuel (a+1) (by omega) (by rw[Nat.add_assoc,Nat.add_comm 1];exact h);refine⟨b,c,e,d,.inr ?_⟩;rcases f with z|z
   .rw[z,Nat.pow_succ];omega
   .exact z
  .rw[if_neg hc];exact⟨a,h3,rfl,by omega,.inl rfl⟩
theorem a0k(n:Nat)(h:n<2 ^ 60):∃b,3<=b/\SetTable.sizeAbove n=2 ^ b/\n<2 ^ b/\(b=3∨2 ^ b<=2*n) :=
 a7A n 64 3 (Nat.le_refl _) (Nat.lt_of_lt_of_le h (by decide))
theorem a8I{α:Type}(t:SetTable)(es:Array (Int×α))(a:Nat)(hw:a<2 ^ 60)(hl:es.size<a) :
  ∃t' c,t.relaid (es.map (·.1)) a=some (t',c)/\a<=t'.mask/\t'.mask<=2*a+7/\t'.led=t.led/\t'.plain=t.plain/\TabOk t' (c.filterMap (es[·]?))/\(c.filterMap (es[·]?)).toList.Perm es.toList:=by
 obtain⟨b,e,i,l,g⟩:=a0k a hw;have hp:0<2 ^ b:=Nat.pow_pos (by decide);unfold SetTable.relaid;rw[i];obtain⟨t',c,h1,h2,f,j,h,d⟩:=b3X (mask:=2 ^ b-1) (k:=b) (by omega) e es (by omega) t.finger (t.movedTo (2 ^ b-1)) t.led t.plain;refine⟨t',c,h1,by rw[h2];omega,?_,f,j,h,d⟩;rw[h2];rcases g with z|z
 .rw[z];omega
 .omega
end Tab
end L2
namespace L2
namespace Tab
open PySem
section
variable {prog:Program}{w:World}{A:Around}{E:Value->Shared->Prop}{s:Shared}
abbrev TK(prog:Program)(w:World)(h:Heap)(r:List Int)(a:Addr):Prop:=IsTupleKey (intKind prog w) h r a
theorem TK.keep{h h':Heap}{r:List Int}{a:Addr}(x:TK prog w h r a)(k:∀b o,h.get? b=some o->h'.get? b=some o):TK prog w h' r a:=by
 obtain⟨o,its,n,h1,h2⟩:=x;exact⟨o,its,n,k _ _ h1,h2⟩
theorem items_int{r:List Int}{vs:List Value}(h:ItemsAre (intKind prog w) r vs):∀v∈vs,∃i t,v=.int i t:=by
 induction h with
 |nil=>intro v b;cases b
 |@cons k v ks vs h1 _ ih =>
  intro u a;rcases List.mem_cons.mp a with e|a
  .obtain⟨t,ht⟩:=Value.isInt_shape h1;exact⟨k,t,e.trans ht⟩
  .exact ih u a
theorem a5A{r:List Int}{a:Addr}{Q:Bool->Shared->Prop}(d:TK prog w s.heap r a)(h:Q false s):wpAny (model prog w) A (ofAClassStatement 8 (.ref a)) Q E s:=by
 have hT:=d.typeIs;obtain⟨o,items,n,f,_,hd,hi⟩:=d;have c:=items_int hi;unfold ofAClassStatement;refine wpAny_bind (wpAny_typeOf hT ?_);dsimp only;rw[if_pos (by decide)];refine wpAny_bind (wpAny_pure ?_);rw[if_neg (by decide)];refine wpAny_bind (wpAny_seqItems f hd ?_);dsimp only;refine wpAny_bind ?_;rw[<-Array.forIn_toList];refine wpAny_forIn_list _ (λrest b s'=>s'=s/\b.1=none/\∀v∈rest,∃i t,v=Value.int i t) _ ?_ ?_ _ _ ⟨rfl,rfl,c⟩
 .rintro x rest b s' ⟨rfl,hb,hr⟩;obtain⟨i,t,rfl⟩:=hr x List.mem_cons_self;refine wpAny_bind (m:=ofAClassStatement 7 (.int i t)) (wpAny_pure ?_);rw[if_neg (by decide)];exact wpAny_pure ⟨rfl,rfl,λv e=>hr v (List.mem_cons_of_mem _ e)⟩
 .rintro b s' ⟨rfl,hb,_⟩;rw[hb];exact wpAny_pure h
theorem b2u{r:List Int}{a:Addr}{Q:Bool->Shared->Prop}(d:TK prog w s.heap r a)(h:Q true s):wpAny (model prog w) A (hashByValue 8 (.ref a)) Q E s:=by
 have hT:=d.typeIs;obtain⟨o,items,n,f,_,hd,hi⟩:=d;have c:=items_int hi;unfold hashByValue;refine wpAny_bind (wpAny_specialOf hT F.slot_tuple_hash.lookup ?_);dsimp only;refine wpAny_bind (wpAny_seqItems f hd ?_);refine wpAny_bind ?_;show wpAny _ _ (forIn items _ _) _ _ _;rw[<-Array.forIn_toList];refine wpAny_forIn_list _ (λrest b s'=>s'=s/\b.1=none/\∀v∈rest,∃i t,v=Value.int i t) _ ?_ ?_ _ _ ⟨rfl,rfl,c⟩
 .rintro x rest b s' ⟨rfl,hb,hr⟩;obtain⟨i,t,rfl⟩:=hr x List.mem_cons_self;refine wpAny_bind (m:=hashByValue 7 (.int i t)) (wpAny_pure ?_);rw[if_neg (by decide)];exact wpAny_pure ⟨rfl,rfl,λv e=>hr v (List.mem_cons_of_mem _ e)⟩
 .rintro b s' ⟨rfl,hb,_⟩;rw[hb];exact wpAny_pure h
theorem b1t{r:List Int}{b:Addr}{l:List Value}{Q:Bool->Shared->Prop}(e:TK prog w s.heap r b)(hl:∀y∈l,∃a b',y=.ref b'/\TK prog w s.heap a b')(h:Q false s):wpAny (model prog w) A (searchCouldBeSeen (.ref b) l) Q E s:=by
 unfold searchCouldBeSeen;refine wpAny_bind ?_;refine wpAny_forIn_list _ (λrest c s'=>s'=s/\c.1=none/\∀y∈rest,∃a b',y=.ref b'/\TK prog w s.heap a b') _ ?_ ?_ _ _ ⟨rfl,rfl,hl⟩
 .rintro x rest c s' ⟨rfl,hc,hr⟩;obtain⟨a,b',rfl,d⟩:=hr x List.mem_cons_self;have go:∀y∈rest,∃a b',y=.ref b'/\TK prog w s'.heap a b':=λv f=>hr v (List.mem_cons_of_mem _ f);dsimp only;split
  .exact wpAny_pure ⟨rfl,rfl,go⟩
  .refine wpAny_bind ((tupleKind (intKind prog w)).quiet e ?_);rw[if_neg (by decide)];refine wpAny_bind ((tupleKind (intKind prog w)).quiet d ?_);rw[if_neg (by decide)];refine wpAny_bind (a5A e ?_);rw[if_neg (by decide)];refine wpAny_bind (a5A d ?_);rw[if_neg (by decide)];exact wpAny_pure ⟨rfl,rfl,go⟩
 .rintro c s' ⟨rfl,hc,_⟩;dsimp only;rw[hc];exact wpAny_pure h
noncomputable def hsh(prog:Program)(w:World)(r:List Int):Int:=tupleKeyHash (intKind prog w) r
noncomputable def ent(prog:Program)(w:World)(x:List Int×Addr):Int×Value:=(hsh prog w x.1,Value.ref x.2)
theorem G0{α:Type}{t:SetTable}{es:Array (Int×α)}(ok:TabOk t es):t.fits es.size=true:=by
 unfold SetTable.fits SetTable.fill;have:=ok.room;simp[ok.size,ok.dum,this]
theorem b6f{α:Type}{t:SetTable}{es:Array (Int×α)}(ok:TabOk t es):t.gaveWay=false:=by
 obtain⟨k,b,a⟩:=ok.pow;obtain⟨c,rfl⟩:∃c,k=c+1:=⟨k-1,by omega⟩;rw[Nat.pow_succ]at a;unfold SetTable.gaveWay;have:t.mask % 2=1:=by omega
 rw[this];rfl
theorem b1z{c:Bool}{m:Sem Bool}{X Y:Sem SetFound}{Q:SetFound->Shared->Prop}(b:∀a:Bool->Shared->Prop,a false s->wpAny (model prog w) A m a E s)(h:wpAny (model prog w) A Y Q E s):wpAny (model prog w) A (if c=true then m>>=λz=>if z=true then X else Y else Y) Q E s:=by
 split
 .refine wpAny_bind (b _ ?_);rw[if_neg (by decide)];exact h
 .exact h
theorem a3q{a b:Addr}{r:List Int}{o:Obj}{es:Array (Int×Value)}{ep:Nat}{t:SetTable}{xs:List (List Int×Addr)}{Q:SetFound->Shared->Prop}(O:s.heap.get? a=some o)(hd:o.data=.set es ep t)(ok:TabOk t es)
  (H:∀e∈es.toList,∃x∈xs,e=ent prog w x) (K:∀x∈xs,ent prog w x∈es.toList) (g:∀x∈xs,TK prog w s.heap x.1 x.2) (P:TK prog w s.heap r b) (U:A.units<cLine) {N:Nat}(Y:N<10*SetTable.turns t.mask) (l:pos t.mask (hsh prog w r) N∉t.place) (u:∀m,m<N->pos t.mask (hsh prog w r) m∈t.place)
  (J:r∈xs.map (·.1)->Q (.there none) s) (C:r∉xs.map (·.1)->Q (.free (pos t.mask (hsh prog w r) N) false) s) :
  ∀(fuel d:Nat) (st:Option SetTable.Probe),N-d<fuel->d<=N->st.getD (t.probeStart (hsh prog w r))=B7 t.mask (st0 t.mask (hsh prog w r)) d->(∀m,m<d->∀(i:Nat) (x:List Int×Addr),x∈xs->t.place[i]?=some (pos t.mask (hsh prog w r) m)->es[i]?=some (ent prog w x)->x.1≠r) ->
   wpAny (model prog w) A (setSearchFrom a (.ref b) (hsh prog w r) true fuel st) Q E s
 |0,d,st,h,_,_,_=>absurd h (by omega)
 |fuel+1,d,st,hf,hn0,hst,hno=>by
  unfold setSearchFrom;refine wpAny_bind (wpAny_setState_of O hd (G0 ok) ?_);dsimp only;rw[b6f ok,if_neg (by decide),hst];have f:∀m,(B7 t.mask (B7 t.mask (st0 t.mask (hsh prog w r)) d) m).j=pos t.mask (hsh prog w r) (d+m):=λm=>by rw[<-a0h];rfl
  have T:∀(i:Nat) (e:Int×Value),es[i]?=some e->(es[i]?.map (·.1)).getD 0=e.1:=λi e z=>by rw[z];rfl
  have S:∀n,d+n<N↔pos t.mask (hsh prog w r) (d+n)∈t.place/\∀m,m<n->pos t.mask (hsh prog w r) (d+m)∈t.place:=λn=>by
   constructor
   .intro h;exact⟨u _ h,λm M=>u _ (by omega)⟩
   .rintro⟨h1,h2⟩;rcases Nat.lt_trichotomy (d+n) N with z|z|z
    .exact z
    .rw[z]at h1;exact absurd h1 l
    .have:=h2 (N-d) (by omega);rw[show d+(N-d)=N by omega]at this;exact absurd this l
  rcases a5v ok.ris ok.dum (λi=>(es[i]?.map (·.1)).getD 0) (hsh prog w r) (10*SetTable.turns t.mask) (B7 t.mask (st0 t.mask (hsh prog w r)) d) (by rw[a0G];rfl) ⟨N-d,by omega,by rw[f,show d+(N-d)=N by omega];exact l⟩with⟨n,h1,h2,h3⟩|⟨n,h1,h2,h3,h4⟩
  .have h3:t.probe (λi=>(es[i]?.map (·.1)).getD 0) (hsh prog w r) (B7 t.mask (st0 t.mask (hsh prog w r)) d)=_:=h3;erw [h3];dsimp only;rw[f]at h1⊢;have e:d+n=N:=by
    rcases Nat.lt_trichotomy (d+n) N with z|z|z
    .exact absurd (u _ z) h1
    .exact z
    .have:=(h2 (N-d) (by omega)).1;rw[f,show d+(N-d)=N by omega]at this;exact absurd this l
   rw[e];refine wpAny_pure (C λM=>?_);obtain⟨x,I,rfl⟩:=List.mem_map.mp M;obtain⟨i,hi⟩:=List.mem_iff_getElem?.mp (K x I);rw[Array.getElem?_toList]at hi;have v:i<t.place.size:=by rw[ok.size];exact(Array.getElem?_eq_some_iff.mp hi).1
   obtain⟨q,q1,q2⟩:=ok.reach i _ _ (a0z v) hi;change pos t.mask (hsh prog w x.1) q=_ at q1;change ∀m,m<q->pos t.mask (hsh prog w x.1) m∈t.place at q2;have k:t.place[i]?=some (pos t.mask (hsh prog w x.1) q):=by rw[q1];exact a0z v
   have X:q<N:=by
    rcases Nat.lt_trichotomy q N with z|z|z
    .exact z
    .rw[z]at k;exact absurd (Array.mem_of_getElem? k) l
    .exact absurd (q2 N z) l
   by_cases c:q<d
   .exact hno q c i x I k hi rfl
   .have F:=(h2 (q-d) (by omega)).2;rw[f,show d+(q-d)=q by omega,a0E ok.ris k,T i _ hi]at F;exact F rfl
  .have h4:t.probe (λi=>(es[i]?.map (·.1)).getD 0) (hsh prog w r) (B7 t.mask (st0 t.mask (hsh prog w r)) d)=_:=h4;erw [h4];dsimp only;rw[f]at h1 h2⊢;have a0:d+n<N:=(S n).mpr ⟨h1,λm M=>by have:=(h3 m M).1;rw[f]at this;exact this⟩;have k:=(a0Z ok.ris _).mpr h1;generalize L:SetTable.below t.place (pos t.mask (hsh prog w r) (d+n))=ib at h2 k⊢;have v:ib<es.size:=by rw[<-ok.size];exact(Array.getElem?_eq_some_iff.mp k).1
   obtain⟨x,I,ex⟩:=H es[ib] (by simp);have D:es[ib]?=some (ent prog w x):=by rw[Array.getElem?_eq_getElem v,ex]
   rw[D];dsimp only;refine b1z (λQ' hq=>b1t P (λy W=>?_) hq) ?_
   .obtain⟨e,R,rfl⟩:=List.mem_map.mp W;have R:e∈es:=by
     have:=Array.mem_toList_iff.mp R;exact(Array.mem_filter.mp this).1
    obtain⟨G,B,ex'⟩:=H e (by simpa using R);exact⟨G.1,G.2,by rw[ex'];rfl,g G B⟩
   refine wpAny_bind (wpAny_holding ((tupleKind (intKind prog w)).eqBool U (g x I) P ?_));refine wpAny_bind (wpAny_setState_of O hd (G0 ok) ?_);dsimp only;by_cases p:x.1=r
   .rw[if_pos (by rw[decide_eq_true p];rfl)];exact wpAny_pure (J (List.mem_map.mpr ⟨x,I,p⟩))
   .rw[if_neg (by rw[decide_eq_false p];decide)];have Z:t.sameMemory t.moves t.mask=some true:=by unfold SetTable.sameMemory;simp
    rw[Z];dsimp only;rw[if_pos rfl,a7z ok.ris ok.dum,if_pos h1];dsimp only;rw[L,D];dsimp only;refine wpAny_bind (wpAny_isSame_ref_self ?_);rw[if_pos rfl];refine wpAny_bind (wpAny_pure ?_);dsimp only;rw[if_neg (by rw[decide_eq_false p];decide)];refine a3q O hd ok H K g P U Y l u J C fuel (d+n+1) _ (by omega) (by omega) (by rw[<-a0h];rfl) λm M i G B hp hi=>?_;by_cases c:m<d
    .exact hno m c i G B hp hi
    .by_cases c2:m=d+n
     .subst c2;have:ib=i:=by rw[<-L];exact a0E ok.ris hp
      subst this;rw[D]at hi;injection hi with hi
      have F:x.2=G.2:=by
       have:=congrArg Prod.snd hi;injection this
      intro z;have V:=g x I;rw[F]at V;exact p ((V.inj (g G B)).trans z)
     .have F:=(h3 (m-d) (by omega)).2;rw[f,show d+(m-d)=m by omega,a0E ok.ris hp,T i _ hi]at F;intro z;exact F (by rw[<-z];rfl)
def W9(prog:Program)(w:World)(ld:Bool)(h:Heap)(a:Addr)(xs:List (List Int×Addr)):Prop :=
 ∃o es ep t,h.get? a=some o/\o.ExactSet/\o.data=.set es ep t/\es.toList.Perm (xs.map (ent prog w))/\TabOk t es/\t.plain=true/\es.size*5<t.mask*3/\t.mask<=8*xs.length+7/\t.led=ld
theorem b6N{ld:Bool}{a b:Addr}{r:List Int}{xs:List (List Int×Addr)}{Q:Bool->Shared->Prop}(hS:W9 prog w ld s.heap a xs)(O:∀x∈xs,TK prog w s.heap x.1 x.2)(X:TK prog w s.heap r b)(hu:A.units<cLine)(hl:xs.length<1000)
  (h:∀h' C c,Heap.SameBut a s.heap h'->W9 prog w ld h' a C->((r∈xs.map (·.1)/\C=xs)∨(r∉xs.map (·.1)/\C=(r,b)::xs))->Q c {s with heap:=h',toks:=s.toks+(r.length+1)}):wpAny (model prog w) A (setAdd a (.ref b)) Q E s:=by
 obtain⟨o,es,ep,t,F,B,hd,p,ok,y,a0,a2,G⟩:=hS;have hsz:es.size=xs.length:=by rw[<-Array.length_toList,p.length_eq,List.length_map]
 unfold setAdd;refine wpAny_holding (wpAny_bind (wpAny_pyHash_tuple hu X ?_));unfold setAddHashed;refine wpAny_holding ?_;unfold setAddHashedIn;refine wpAny_bind (wpAny_setState_of (s:={s with toks:=s.toks+(r.length+1)}) F hd (G0 ok) ?_);dsimp only;rw[show byScan (.ref b) es=false from rfl,if_neg (by decide)];unfold setSearch;obtain⟨N,hN,M,L⟩:=ok.first (hsh prog w r);have a6:N<100000:=by unfold SetTable.turns at hN;omega
 refine wpAny_bind (a3q (s:={s with toks:=s.toks+(r.length+1)}) (xs:=xs) F hd ok (λe he=>?_) (λx Y=>p.mem_iff.mpr (List.mem_map.mpr ⟨x,Y,rfl⟩)) O X hu hN M L (λa5=>?_) (λR=>?_) 100000 0 none (by omega) (Nat.zero_le _) rfl (λm hm=>absurd hm (by omega)))
 .obtain⟨x,Y,rfl⟩:=List.mem_map.mp (p.mem_iff.mp he);exact⟨x,Y,rfl⟩
 .refine wpAny_pure ?_;exact h s.heap xs false (Heap.SameBut.refl a s.heap) ⟨o,es,ep,t,F,B,hd,p,ok,y,a0,a2,G⟩ (.inl ⟨a5,rfl⟩)
 .dsimp only;refine wpAny_bind (wpAny_setState_of (s:={s with toks:=s.toks+(r.length+1)}) F hd (G0 ok) ?_);dsimp only;rw[if_pos (show(t.put (pos t.mask (hsh prog w r) N)).1.plain=true from y)];refine wpAny_bind (b2u (s:={s with toks:=s.toks+(r.length+1)}) X ?_);simp only[↓reduceIte,Bool.not_false,Bool.true_and];have j:=ok.add (v:=Value.ref b) M L (a0J _ _ _) (by omega);have S:(t.put (pos t.mask (hsh prog w r) N)).1.mask=t.mask:=rfl;have n:(t.put (pos t.mask (hsh prog w r) N)).1.plain=true:=y;have l:(t.put (pos t.mask (hsh prog w r) N)).1.led=ld:=G;have a1:(t.put (pos t.mask (hsh prog w r) N)).2<=es.size:=by
   have:=(G4 ok.ris (pos t.mask (hsh prog w r) N)).1;rw[ok.size]at this;exact this
  have T:=V9 es (t.put (pos t.mask (hsh prog w r) N)).2 (hsh prog w r,Value.ref b) a1;change wpAny _ _ (storeSet a (SetTable.insertAt es (t.put (pos t.mask (hsh prog w r) N)).2 (hsh prog w r,Value.ref b)) _>>=_) _ _ _;generalize (t.put (pos t.mask (hsh prog w r) N)).1=t1 at j S n l⊢;generalize SetTable.insertAt es (t.put (pos t.mask (hsh prog w r) N)).2 (hsh prog w r,Value.ref b)=d at j T⊢;have q:d.toList.Perm (((r,b)::xs).map (ent prog w)):=by
   rw[T];refine List.perm_middle.trans ?_;rw[List.take_append_drop,List.map_cons];exact List.Perm.cons _ p
  have H:d.size=xs.length+1:=by rw[<-Array.length_toList,q.length_eq,List.length_map,List.length_cons]
  have J:d.size<=sizeLine:=by rw[sizeLine_eq];omega
  refine wpAny_bind (wpAny_storeSet_of (s:={s with toks:=s.toks+(r.length+1)}) F hd ?_ J);have u:(s.heap.update a (Obj.putSet d t1)).get? a=some {o with data:=.set d (ep+1) t1}:=by
   have:=Heap.get?_update_self (Obj.putSet d t1) F (by rw[putSet_of d t1 hd];rfl);rw[putSet_of d t1 hd]at this;exact this
  have K:=Heap.SameBut.update s.heap a (Obj.putSet d t1);have P:t1.fill=d.size:=by unfold SetTable.fill;rw[j.size,j.dum];rfl
  by_cases f:t1.tooFull=true
  .rw[if_pos f];unfold SetTable.tooFull at f;rw[P,decide_eq_true_eq]at f;refine wpAny_bind ?_;unfold setRelay;refine wpAny_bind (wpAny_setState_of (s:={s with heap:=s.heap.update a (Obj.putSet d t1),toks:=s.toks+(r.length+1)}) u rfl (G0 j) ?_);dsimp only;have Z:SetTable.grown (es.size+1)=4*(xs.length+1):=by
    unfold SetTable.grown;rw[if_neg (by omega),hsz];omega
   rw[Z];obtain⟨sb,a3,W,a7,U⟩:=a0k (4*(xs.length+1)) (by omega);have a4:SetTable.sizeAbove (4*(xs.length+1))<=16000:=by
    rw[W];rcases U with z|z
    .rw[z];decide
    .omega
   rw[if_neg (by rw[sizeLine_eq];omega)];obtain⟨t2,g,r1,r2,r3,r4,r5,I,D⟩:=a8I t1 d (4*(xs.length+1)) (by omega) (by omega);rw[r1];have i:(g.filterMap (d[·]?)).size=d.size:=by rw[<-Array.length_toList,D.length_eq,Array.length_toList]
   refine wpAny_bind ?_;show wpAny _ _ (if ((g.filterMap (d[·]?)).size != d.size)=true then _ else pure (g.filterMap (d[·]?),t2)) _ _ _;rw[if_neg (by rw[i];simp)];refine wpAny_pure ?_;dsimp only;generalize g.filterMap (d[·]?)=k at I D i⊢;refine wpAny_storeSet_of (s:={s with heap:=s.heap.update a (Obj.putSet d t1),toks:=s.toks+(r.length+1)}) u rfl ?_ (by rw[i];exact J);have V:((s.heap.update a (Obj.putSet d t1)).update a (Obj.putSet k t2)).get? a=some {o with data:=.set k (ep+1+1) t2}:=by
    have:=Heap.get?_update_self (Obj.putSet k t2) u (by rw[putSet_of k t2 rfl];rfl);rw[putSet_of k t2 rfl]at this;exact this
   refine wpAny_pure (h _ ((r,b)::xs) true (K.trans (Heap.SameBut.update _ a _)) ⟨_,k,_,t2,V,B,rfl,D.trans q,I,by rw[r5];exact n,?_,?_,by rw[r4];exact l⟩ (.inr ⟨R,rfl⟩))
   .rw[i,H];omega
   .rw[List.length_cons];omega
  .rw[if_neg f];unfold SetTable.tooFull at f;rw[P,decide_eq_true_eq]at f;refine wpAny_pure (h _ ((r,b)::xs) true K ⟨_,d,_,t1,u,B,rfl,q,j,n,by omega,?_,l⟩ (.inr ⟨R,rfl⟩));rw[List.length_cons,S];omega
end
end Tab
end L2
namespace L2
namespace Tab
open PySem
structure Came(rows:Nat->List Int×Addr)(i:Nat)(xs:List (List Int×Addr)):Prop where
 len:xs.length<=i
 nd:(xs.map (·.1)).Nodup
 from_:∀x∈xs,∃j,j<i/\x=rows j
 all:∀j,j<i->(rows j).1∈xs.map (·.1)
section
variable {prog:Program}{w:World}{A:Around}{R:Result->Shared->Prop}{I:Addr}{fp wr:List Addr}{G:Array GenState->Array GenState->Prop}{n:Nat}{P:Nat->Value->Prop}{St:Nat->Shared->Prop}
theorem a5g(W:WalksS prog w A.in1 I fp wr G n P St)(S:Addr)(K:S∉fp){ld:Bool}{h0:Heap}(H:∀b o,h0.get? b=some o->b∉wr/\b≠S)(a:Nat->List Int×Addr)
  (C:∀i v,i<n->P i v->v=.ref (a i).2) (hrow:∀i,i<n->TK prog w h0 (a i).1 (a i).2) (hn:n<=1000) (hu:A.units+10<cLine) :
  ∀(k i:Nat) (s:Shared) (xs:List (List Int×Addr)),n-i=k->i<=n->St i s->(∀b o,h0.get? b=some o->s.heap.get? b=some o)->W9 prog w ld s.heap S xs->Came a i xs ->
   (∀s' f,Moved (S::wr) G s s'->W9 prog w ld s'.heap S f->Came a n f->R (.ok (.ret .none)) s') ->
   codeAny (model prog w) A (.builtin "set.update.loop" ⟨[.ref S,.ref I],[]⟩) R s:=by
 have D:S∉wr:=λh=>K (W.sub _ h);have l:∀b∈wr,b∈S::wr:=λb B=>List.mem_cons_of_mem _ B;intro k;induction k with
 |zero =>
  intro i s xs Z hi m M hS d hR;have Q:i=n:=by omega
  subst Q;refine codeAny_builtin PyProof.Rows.F.entry_set_update_loop ?_;rw[Around.under_plainId PyProof.Rows.F.plain_set_update_loop _];show wpAny _ A.in1 (pyNext (.ref I)>>=_) _ _ s;refine wpAny_bind (W.done s _ _ m λs' r=>?_);show wpAny _ A.in1 (ret Value.none) _ _ s';refine wpAny_pure (hR s' xs (r.mono l) ?_ d);obtain⟨o,es,ep,t,T,rest⟩:=hS;exact⟨o,es,ep,t,r.heap S _ D T,rest⟩
 |succ k ih =>
  intro i s xs Z hi m M hS d hR;have g:i<n:=by omega
  refine codeAny_builtin PyProof.Rows.F.entry_set_update_loop ?_;rw[Around.under_plainId PyProof.Rows.F.plain_set_update_loop _];show wpAny _ A.in1 (pyNext (.ref I)>>=_) _ _ s;refine wpAny_bind (W.item i s _ _ g m λv s' hP u r=>?_);obtain rfl:=C i v g hP;have Y:W9 prog w ld s'.heap S xs:=by
   obtain⟨o,es,ep,tb,T,rest⟩:=hS;exact⟨o,es,ep,tb,r.heap S _ D T,rest⟩
  have p:∀b o,h0.get? b=some o->s'.heap.get? b=some o:=λb o e=>r.heap b o (H b o e).1 (M b o e);show wpAny _ A.in1 (holding [Value.ref (a i).2] (setAdd S (.ref (a i).2))>>=_) _ _ s';refine wpAny_bind (wpAny_holding (b6N Y (λx E=>?_) ((hrow i g).keep p) (show A.units+1<cLine by omega) (by have:=d.len;omega) λh' f c q V U=>?_))
  .obtain⟨j,O,rfl⟩:=d.from_ x E;exact(hrow j (by omega)).keep p
  have X:Came a (i+1) f:=by
   rcases U with⟨h1,rfl⟩|⟨h1,rfl⟩
   .refine⟨by have:=d.len;omega,d.nd,λx E=>?_,λj O=>?_⟩
    .obtain⟨j,O,e⟩:=d.from_ x E;exact⟨j,by omega,e⟩
    .by_cases c:j=i
     .rw[c];exact h1
     .exact d.all j (by omega)
   .refine⟨by have:=d.len;rw[List.length_cons];omega,by rw[List.map_cons,List.nodup_cons];exact⟨h1,d.nd⟩,λx E=>?_,λj O=>?_⟩
    .rcases List.mem_cons.mp E with z|z
     .exact⟨i,by omega,z⟩
     .obtain⟨j,O,e⟩:=d.from_ x z;exact⟨j,by omega,e⟩
    .rw[List.map_cons];by_cases c:j=i
     .rw[c];exact List.mem_cons_self
     .exact List.mem_cons_of_mem _ (d.all j (by omega))
  refine wpAny_pure ⟨plainId_quiet PyProof.Rows.F.plain_set_update_loop _,ih (i+1) _ f (by omega) g (W.frame _ s' _ _ u (Nat.le_add_right _ _) λb B o e=>?_) (λb o e=>?_) V X λa0 J N L y=>?_⟩
  .rw[q.2 b (λh:b=S=>K (by rw[<-h];exact B))];exact e
  .show h'.get? b=some o;rw[q.2 b (H b o e).2];exact p b o e
  .refine hR a0 J (Moved.trans W.gtrans ((r.mono l).then_heap (Nat.le_add_right _ _) λb o B e=>?_) N) L y;rw[q.2 b (λh:b=S=>B (by rw[h];exact List.mem_cons_self))];exact e
end
section
variable {prog:Program}{w:World}{A:Around}{E:Value->Shared->Prop}{s:Shared}
theorem Z7(a:Value){Q₁:Value->Shared->Prop}
  (h:Q₁ (.ref s.heap.objs.size) {s with heap:=s.heap.push {cls:=.type "set",dict:=none,data:=.set #[] 0 (.fresh 0 0 (!w.params.followText "set-order"))}}) :
  codeAny (model prog w) A (.call (.builtin "set.__new__") ⟨[.type "set",a],[]⟩) (wants Q₁ E) s:=by
 refine codeAny_of_tree ?_;show wpAny _ A.in1 (do checkBuiltinCall "set.__new__" ⟨[.type "set",a],[]⟩;again (.builtin "set.__new__" ⟨[.type "set",a],[]⟩)) _ _ s;refine wpAny_bind (wpAny_of_eq (PySem.F.newCall_set_1 a) (wpAny_pure ⟨plainId_quiet PySem.F.plain_set_new _,codeAny_builtin PySem.F.entry_set_new ?_⟩));rw[Around.under_plainId PySem.F.plain_set_new _];unfold Builtin.«set.__new__» Builtin.Frozenset.newClass;have b:=sub_set_self;obtain⟨hp,g,d,tk,os⟩:=s;dsimp only
 wp_walk
 refine wpAny_askSetting (wpAny_pure ?_);dsimp only;simp only[newObj];refine wpAny_bind (wpAny_alloc (wpAny_pure ?_));exact wpAny_pure h
theorem a3p{led:Bool}{h:Heap}{a:Addr}(e:h.get? a=some {cls:=.type "set",dict:=none,data:=.set #[] 0 (.fresh 0 0 led)}):W9 prog w led h a [] :=
 ⟨_,#[],0,_,e,⟨rfl,rfl,rfl⟩,rfl,List.Perm.nil,⟨rfl,rfl,λa b h1 h2=>absurd h2 (by simp[SetTable.fresh]),λj c=>by simp[SetTable.fresh]at c,⟨3,Nat.le_refl _,rfl⟩,Nat.zero_le _,λi j e h1 h2=>by simp at h2⟩,rfl,by show 0*5<7*3;decide,by show 7<=8*0+7;decide,rfl⟩
theorem a4a:isSubtype (.type "list") (.type "set")=pure false:=by rw[isSubtype_type];kernel_rfl
theorem a0a:isSubtype (.type "list") (.type "frozenset")=pure false:=by rw[isSubtype_type];kernel_rfl
theorem a3f{l:Addr}{items:Array Value}{a:Nat->List Int×Addr}{Q:Value->Shared->Prop}
  (X:A.handled=none) (hl:s.heap.IsList l items) (p:∀i v,i<items.size->items[i]?=some v->v=.ref (a i).2) (hrow:∀i,i<items.size->TK prog w s.heap (a i).1 (a i).2) (hn:items.size<=1000) (hu:A.units+20<cLine)
  (h:∀(h':Heap) (tk:Nat) (xs:List (List Int×Addr)),W9 prog w (!w.params.followText "set-order") h' s.heap.objs.size xs->Came a items.size xs ->
   (∀b o,b<s.heap.objs.size->s.heap.get? b=some o->h'.get? b=some o)->Q (.ref s.heap.objs.size) {s with heap:=h',toks:=tk}) :
  wpAny (model prog w) A (call (.type "set") [.ref l]) Q E s:=by
 obtain⟨c,tl,P⟩:=PySem.F.called_set.mro;have L:=PySem.F.called_set.made;have U:=PySem.F.called_set.sub;refine wpAny_call (codeAny_of_tree ?_);show wpAny _ _ (callAny (.type "set") _) _ _ _;refine wpAny_pure ⟨Code.quiet_builtin _ (by decide +kernel),codeAny_builtin PySem.F.entry_type_call ?_⟩;rw[Around.under_plain (weight_type_call_type "set" [.ref l] []) rfl];have h1:=PySem.F.called_set.notType;have h2:=PySem.F.called_set.canCreate;have V:=PySem.F.typeCall_set_1 (.ref l)
 repeat (any_goals (first|assumption|wp_step))
 refine codeAny_mono (Z7 (.ref l) (E:=E) (Q₁:=λobj s₁=>obj=.ref s.heap.objs.size/\s₁={s with heap:=s.heap.push {cls:=.type "set",dict:=none,data:=.set #[] 0 (.fresh 0 0 (!w.params.followText "set-order"))}}) ⟨rfl,rfl⟩) λr s₁ hr=>?_;cases r with
 |error e=>exact hr
 |ok fl =>
  cases fl with
  |ret obj =>
   obtain⟨rfl,rfl⟩:=hr;generalize Y:(!w.params.followText "set-order")=led at h;have hS:(s.heap.push {cls:=.type "set",dict:=none,data:=.set #[] 0 (.fresh 0 0 led)}).get? s.heap.objs.size=some {cls:=.type "set",dict:=none,data:=.set #[] 0 (.fresh 0 0 led)}:=Heap.get?_push_size _ rfl;have hT:Shared.TypeIs {s with heap:=s.heap.push {cls:=.type "set",dict:=none,data:=.set #[] 0 (.fresh 0 0 led)}} (.ref s.heap.objs.size) "set":=⟨_,hS,rfl⟩;have a0:=PySem.F.called_set.init.lookup;have a2:=PySem.F.called_set.init.bind (.ref s.heap.objs.size)
   repeat (any_goals (first|assumption|wp_step))
   refine codeAny_mono (codeAny_call_builtin (R:=wants (λr s₂=>r=.none/\∃h' tk xs,s₂={s with heap:=h',toks:=tk}/\W9 prog w led h' s.heap.objs.size xs/\Came a items.size xs /\
     (∀b o,b<s.heap.objs.size->s.heap.get? b=some o->h'.get? b=some o)) E) PySem.F.called_set.init.plain PySem.F.entry_set_init (check_set_init_1 hT ?_)) λr₂ s₂ hr₂=>?_
   .obtain⟨ol,hol,hcl,nl,hdl⟩:=hl;obtain⟨S,g,B,d⟩:=ol;simp only at hcl hdl;subst hcl;subst hdl;have t:(s.heap.push {cls:=.type "set",dict:=none,data:=.set #[] 0 (.fresh 0 0 led)}).get? l=some {cls:=.type "list",dict:=g,data:=.seq items nl,slots:=d}:=Heap.get?_push_of_some _ hol;have T:=a4a;have O:=a0a;have a1:(Value.type "list"==Value.type "dict")=false:=by decide
    have u:(s.heap.push {cls:=.type "set",dict:=none,data:=.set #[] 0 (.fresh 0 0 led)}).IsList l items:=⟨_,t,rfl,nl,rfl⟩;unfold Builtin.«set.__init__» noKeywords Builtin.Frozenset.updateFrom;generalize I:pyIter=PI
    wp_walk
    subst I;refine wpAny_pyIter_list u ?_;refine wpAny_bind (wpAny_runValue ?_);have q:l<s.heap.objs.size:=Heap.lt_size hol;have M:A.in1.in1.in1.handled=none:=by simp[X]
    have m:l≠(s.heap.push {cls:=.type "set",dict:=none,data:=.set #[] 0 (.fresh 0 0 led)}).objs.size:=by
     rw[Heap.size_push];exact Nat.ne_of_lt (Nat.lt_succ_of_lt q)
    have H:s.heap.objs.size∉[(s.heap.push {cls:=.type "set",dict:=none,data:=.set #[] 0 (.fresh 0 0 led)}).objs.size,l]:=by
     rw[Heap.size_push];simp only[List.mem_cons,List.mem_singleton,List.not_mem_nil,or_false,not_or];exact⟨Nat.ne_of_lt (Nat.lt_succ_self _),Nat.ne_of_gt q⟩
    have n:((s.heap.push {cls:=.type "set",dict:=none,data:=.set #[] 0 (.fresh 0 0 led)}).push {cls:=.type "list_iterator",data:=.fields #[.ref l,.int 0 0]}).get? s.heap.objs.size
       = some {cls:=.type "set",dict:=none,data:=.set #[] 0 (.fresh 0 0 led)}:=Heap.get?_push_of_some _ hS
    refine a5g (ld:=led) (h0:=s.heap) ((Walks.list M _ l m items).toS) s.heap.objs.size H (λb o e=>?_) a p hrow hn (show A.units+2+10<cLine by omega) (items.size-0) 0 _ [] (by omega) (Nat.zero_le _)
     ⟨⟨_,Heap.get?_push_size _ rfl,rfl,rfl⟩,(u.push _)⟩ (λb o e=>Heap.get?_push_of_some _ (Heap.get?_push_of_some _ e)) (a3p n) ⟨Nat.le_refl _,List.nodup_nil,(λx hx=>nomatch hx),λj hj=>absurd hj (Nat.not_lt_zero j)⟩ ?hR
    .have:=Heap.lt_size e;rw[Heap.size_push];simp only[List.mem_cons,List.not_mem_nil,or_false];exact⟨Nat.ne_of_lt (Nat.lt_succ_of_lt this),Nat.ne_of_lt this⟩
    case hR =>
     intro s' K y k f;obtain⟨h',g',d',C,G⟩:=s';have Z:g'=s.gens:=y.gens;have W:d'=s.drawn:=y.drawn;have eo:G=s.os:=y.os;subst Z;subst W;subst eo;show wpAny _ _ _ _ _ _;refine wpAny_pure ?_;show wpAny _ _ (ret Value.none) _ _ _;refine wpAny_pure ⟨rfl,h',C,K,rfl,k,f,λb o N e=>?_⟩;have J:b≠s.heap.objs.size:=Nat.ne_of_lt N;have D:b≠(s.heap.push {cls:=.type "set",dict:=none,data:=.set #[] 0 (.fresh 0 0 led)}).objs.size:=by
      rw[Heap.size_push];exact Nat.ne_of_lt (Nat.lt_succ_of_lt N)
     exact y.heap b o (by simp only[List.mem_cons,List.mem_singleton,List.not_mem_nil,or_false,not_or];exact⟨J,D⟩) (Heap.get?_push_of_some _ (Heap.get?_push_of_some _ e))
   .cases r₂ with
    |error e=>exact hr₂
    |ok fl₂ =>
     cases fl₂ with
     |ret r =>
      obtain⟨rfl,h',tk,xs,rfl,k,f,z⟩:=hr₂
      repeat (any_goals (first|assumption|wp_step))
      exact h _ _ _ k f z
     |_=>exact hr₂.elim
  |_=>exact hr.elim
theorem a2Z:isSubtype (.type "tuple") (.type "set")=pure false:=by rw[isSubtype_type];kernel_rfl
theorem Z0:isSubtype (.type "tuple") (.type "frozenset")=pure false:=by rw[isSubtype_type];kernel_rfl
theorem a2W{l:Addr}{items:Array Value}{a:Nat->List Int×Addr}{Q:Value->Shared->Prop}
  (X:A.handled=none) (hl:s.heap.IsTuple l items) (p:∀i v,i<items.size->items[i]?=some v->v=.ref (a i).2) (hrow:∀i,i<items.size->TK prog w s.heap (a i).1 (a i).2) (hn:items.size<=1000) (hu:A.units+20<cLine)
  (h:∀(h':Heap) (tk:Nat) (xs:List (List Int×Addr)),W9 prog w (!w.params.followText "set-order") h' s.heap.objs.size xs->Came a items.size xs ->
   (∀b o,b<s.heap.objs.size->s.heap.get? b=some o->h'.get? b=some o)->Q (.ref s.heap.objs.size) {s with heap:=h',toks:=tk}) :
  wpAny (model prog w) A (call (.type "set") [.ref l]) Q E s:=by
 obtain⟨c,tl,P⟩:=PySem.F.called_set.mro;have L:=PySem.F.called_set.made;have U:=PySem.F.called_set.sub;refine wpAny_call (codeAny_of_tree ?_);show wpAny _ _ (callAny (.type "set") _) _ _ _;refine wpAny_pure ⟨Code.quiet_builtin _ (by decide +kernel),codeAny_builtin PySem.F.entry_type_call ?_⟩;rw[Around.under_plain (weight_type_call_type "set" [.ref l] []) rfl];have h1:=PySem.F.called_set.notType;have h2:=PySem.F.called_set.canCreate;have V:=PySem.F.typeCall_set_1 (.ref l)
 repeat (any_goals (first|assumption|wp_step))
 refine codeAny_mono (Z7 (.ref l) (E:=E) (Q₁:=λobj s₁=>obj=.ref s.heap.objs.size/\s₁={s with heap:=s.heap.push {cls:=.type "set",dict:=none,data:=.set #[] 0 (.fresh 0 0 (!w.params.followText "set-order"))}}) ⟨rfl,rfl⟩) λr s₁ hr=>?_;cases r with
 |error e=>exact hr
 |ok fl =>
  cases fl with
  |ret obj =>
   obtain⟨rfl,rfl⟩:=hr;generalize Y:(!w.params.followText "set-order")=led at h;have hS:(s.heap.push {cls:=.type "set",dict:=none,data:=.set #[] 0 (.fresh 0 0 led)}).get? s.heap.objs.size=some {cls:=.type "set",dict:=none,data:=.set #[] 0 (.fresh 0 0 led)}:=Heap.get?_push_size _ rfl;have hT:Shared.TypeIs {s with heap:=s.heap.push {cls:=.type "set",dict:=none,data:=.set #[] 0 (.fresh 0 0 led)}} (.ref s.heap.objs.size) "set":=⟨_,hS,rfl⟩;have a0:=PySem.F.called_set.init.lookup;have a2:=PySem.F.called_set.init.bind (.ref s.heap.objs.size)
   repeat (any_goals (first|assumption|wp_step))
   refine codeAny_mono (codeAny_call_builtin (R:=wants (λr s₂=>r=.none/\∃h' tk xs,s₂={s with heap:=h',toks:=tk}/\W9 prog w led h' s.heap.objs.size xs/\Came a items.size xs /\
     (∀b o,b<s.heap.objs.size->s.heap.get? b=some o->h'.get? b=some o)) E) PySem.F.called_set.init.plain PySem.F.entry_set_init (check_set_init_1 hT ?_)) λr₂ s₂ hr₂=>?_
   .obtain⟨ol,hol,hcl,nl,hdl⟩:=hl;obtain⟨S,g,B,d⟩:=ol;simp only at hcl hdl;subst hcl;subst hdl;have t:(s.heap.push {cls:=.type "set",dict:=none,data:=.set #[] 0 (.fresh 0 0 led)}).get? l=some {cls:=.type "tuple",dict:=g,data:=.seq items nl,slots:=d}:=Heap.get?_push_of_some _ hol;have T:=a2Z;have O:=Z0;have a1:(Value.type "tuple"==Value.type "dict")=false:=by decide
    have u:(s.heap.push {cls:=.type "set",dict:=none,data:=.set #[] 0 (.fresh 0 0 led)}).IsTuple l items:=⟨_,t,rfl,nl,rfl⟩;unfold Builtin.«set.__init__» noKeywords Builtin.Frozenset.updateFrom;generalize I:pyIter=PI
    wp_walk
    subst I;refine wpAny_pyIter_tuple u ?_;refine wpAny_bind (wpAny_runValue ?_);have q:l<s.heap.objs.size:=Heap.lt_size hol;have M:A.in1.in1.in1.handled=none:=by simp[X]
    have m:l≠(s.heap.push {cls:=.type "set",dict:=none,data:=.set #[] 0 (.fresh 0 0 led)}).objs.size:=by
     rw[Heap.size_push];exact Nat.ne_of_lt (Nat.lt_succ_of_lt q)
    have H:s.heap.objs.size∉[(s.heap.push {cls:=.type "set",dict:=none,data:=.set #[] 0 (.fresh 0 0 led)}).objs.size,l]:=by
     rw[Heap.size_push];simp only[List.mem_cons,List.mem_singleton,List.not_mem_nil,or_false,not_or];exact⟨Nat.ne_of_lt (Nat.lt_succ_self _),Nat.ne_of_gt q⟩
    have n:((s.heap.push {cls:=.type "set",dict:=none,data:=.set #[] 0 (.fresh 0 0 led)}).push {cls:=.type "tuple_iterator",data:=.fields #[.ref l,.int 0 0]}).get? s.heap.objs.size
       = some {cls:=.type "set",dict:=none,data:=.set #[] 0 (.fresh 0 0 led)}:=Heap.get?_push_of_some _ hS
    refine a5g (ld:=led) (h0:=s.heap) ((Walks.tuple M _ l m items).toS) s.heap.objs.size H (λb o e=>?_) a p hrow hn (show A.units+2+10<cLine by omega) (items.size-0) 0 _ [] (by omega) (Nat.zero_le _)
     ⟨⟨_,Heap.get?_push_size _ rfl,rfl,rfl⟩,(u.push _)⟩ (λb o e=>Heap.get?_push_of_some _ (Heap.get?_push_of_some _ e)) (a3p n) ⟨Nat.le_refl _,List.nodup_nil,(λx hx=>nomatch hx),λj hj=>absurd hj (Nat.not_lt_zero j)⟩ ?hR
    .have:=Heap.lt_size e;rw[Heap.size_push];simp only[List.mem_cons,List.not_mem_nil,or_false];exact⟨Nat.ne_of_lt (Nat.lt_succ_of_lt this),Nat.ne_of_lt this⟩
    case hR =>
     intro s' K y k f;obtain⟨h',g',d',C,G⟩:=s';have Z:g'=s.gens:=y.gens;have W:d'=s.drawn:=y.drawn;have eo:G=s.os:=y.os;subst Z;subst W;subst eo;show wpAny _ _ _ _ _ _;refine wpAny_pure ?_;show wpAny _ _ (ret Value.none) _ _ _;refine wpAny_pure ⟨rfl,h',C,K,rfl,k,f,λb o N e=>?_⟩;have J:b≠s.heap.objs.size:=Nat.ne_of_lt N;have D:b≠(s.heap.push {cls:=.type "set",dict:=none,data:=.set #[] 0 (.fresh 0 0 led)}).objs.size:=by
      rw[Heap.size_push];exact Nat.ne_of_lt (Nat.lt_succ_of_lt N)
     exact y.heap b o (by simp only[List.mem_cons,List.mem_singleton,List.not_mem_nil,or_false,not_or];exact⟨J,D⟩) (Heap.get?_push_of_some _ (Heap.get?_push_of_some _ e))
   .cases r₂ with
    |error e=>exact hr₂
    |ok fl₂ =>
     cases fl₂ with
     |ret r =>
      obtain⟨rfl,h',tk,xs,rfl,k,f,z⟩:=hr₂
      repeat (any_goals (first|assumption|wp_step))
      exact h _ _ _ k f z
     |_=>exact hr₂.elim
  |_=>exact hr.elim
end
end Tab
end L2
namespace L2
namespace Tab
open PySem PySem.W
theorem a2S{α:Type}:∀(l:List α) (i:Nat) (h:i<l.length),([l[i]]++l.eraseIdx i).Perm l
 |x::l,0,_=>by simp
 |x::l,i+1,h=>by
  have ih:=a2S l i (by simpa using h);simp only[List.getElem_cons_succ,List.eraseIdx_cons_succ,List.singleton_append];exact(List.Perm.swap x (l[i]'(by simpa using h)) _).trans (List.Perm.cons x ih)
theorem a7G{α:Type}(next:Nat->Nat):∀(fuel k:Nat) (left:List α) (out:Array α),left.length=fuel->(pickOrder.go next fuel k left out).toList.Perm (out.toList++left)
 |0,k,left,out,h=>by
  rw[List.length_eq_zero_iff.mp h,List.append_nil];exact List.Perm.refl _
 |fuel+1,k,left,out,h=>by
  unfold pickOrder.go;have hi:next k % left.length<left.length:=Nat.mod_lt _ (by omega)
  rw[List.getElem?_eq_getElem hi];dsimp only;refine(a7G next fuel (k+1) _ _ (by rw[List.length_eraseIdx_of_lt hi];omega)).trans ?_;rw[Array.toList_push,List.append_assoc];exact List.Perm.append_left _ (a2S left _ hi)
theorem a8P{α:Type}(next:Nat->Nat)(xs:Array α):(pickOrder next xs).toList.Perm xs.toList:=by
 have:=a7G next xs.size 0 xs.toList #[] (by simp)
 rw[show(#[]:Array α).toList=[] from rfl,List.nil_append]at this;exact this
theorem slot_seti_next:Slot "set_iterator" "__next__" "set_iterator.__next__" :=
 .of (owner:="set_iterator") (n:="__next__") (by rw[typeLookup_type,builtinLookup_eq_fast];kernel_rfl) (by decide +kernel) (by decide +kernel) (by decide +kernel)
  (by first|exact .inl (by decide +kernel)|exact .inr (by decide +kernel)) (by rw[isSubtype_type];kernel_rfl)
theorem T8:entryFor table "set_iterator.__next__"=some Builtin.«set_iterator.__next__»:=entryFor_of_tree (by kernel_rfl)
theorem W8(a:Value):argsOk "set_iterator.__next__" ⟨[a],[]⟩:=by
 unfold argsOk;kernel_rfl
theorem U9:Slot "set_iterator" "__iter__" "set_iterator.__iter__" :=
 .of (owner:="set_iterator") (n:="__iter__") (by rw[typeLookup_type,builtinLookup_eq_fast];kernel_rfl) (by decide +kernel) (by decide +kernel) (by decide +kernel)
  (by first|exact .inl (by decide +kernel)|exact .inr (by decide +kernel)) (by rw[isSubtype_type];kernel_rfl)
theorem a2T:entryFor table "set.__iter__"=some Builtin.«frozenset.__iter__» :=
 entryFor_alias (id':="frozenset.__iter__") (by kernel_rfl) rfl (by decide +kernel) (by kernel_rfl)
structure SRaw(h:Heap)(a:Addr)(es:Array (Int×Value))(ep:Nat)(t:SetTable):Prop where
 ex:∃o,h.get? a=some o/\o.ExactSet/\o.data=.set es ep t
 ok:TabOk t es
 plain:t.plain=true
section
variable {prog:Program}{w:World}{A:Around}{E:Value->Shared->Prop}{s:Shared}{a it:Addr}{es:Array (Int×Value)}{ep i:Nat}{t:SetTable}
theorem SRaw.typ(x:SRaw s.heap a es ep t):s.TypeIs (.ref a) "set":=let ⟨o,h1,h2,_⟩:=x.ex;⟨o,h1,h2.1⟩
theorem b2b{Q:Bool->Shared->Prop}(hT:s.TypeIs (.ref a) "set")(h:Q false s):wpAny (model prog w) A (Builtin.List.listLengthHint (.ref a)) Q E s:=by
 unfold Builtin.List.listLengthHint;refine wpAny_bind (wpAny_specialOf hT PySem.F.slot_set_len.lookup ?_);generalize c:("set.__len__" : String)=e
 wp_delta
 rw[show splitId e=some ("set","__len__")from by subst c;decide +kernel];subst c;refine wpAny_bind (wpAny_isInstance (T:="set") (b:=true) hT (by rw[isSubtype_type];kernel_rfl) ?_);refine wpAny_ite_split (λd=>absurd d (by decide)) (λ_=>?_);refine wpAny_ite_split (λ_=>?_) (λd=>absurd (by decide +kernel) d);refine wpAny_bind (wpAny_typeOf hT ?_);exact wpAny_pure h
def V2(w:World)(a:Addr)(ep:Nat)(es:Array (Int×Value)):Array (Int×Value):=if w.params.followText "set-order"=true then pickOrder (w.params.setOrder a ep) es else es
theorem ord_perm:(V2 w a ep es).toList.Perm es.toList:=by
 unfold V2;split
 .exact a8P _ _
 .exact List.Perm.refl _
def a1r(w:World)(t:SetTable):Nat->Nat
 |0=>0
 |i+1=>if w.params.followText "set-order"=true then 0 else t.place.getD i 0+1
def SetIt(w:World)(h:Heap)(it a:Addr)(i n ep:Nat)(t:SetTable):Prop:=∃o,h.get? it=some o/\o.cls=.type "set_iterator"/\o.data=.fields #[rawInt (a1r w t i),rawInt i,.ref a,rawInt n,rawInt ep]
theorem b0o{Q:Value->Shared->Prop}(D:SRaw s.heap a es ep t)
  (q:Q (.ref s.heap.objs.size) {s with heap:=s.heap.push {cls:=.type "set_iterator",data:=.fields #[rawInt 0,rawInt 0,.ref a,rawInt es.size,rawInt ep]}}):wpAny (model prog w) A (pyIter (.ref a)) Q E s:=by
 have ty:=D.typ;obtain⟨o,c,_,b⟩:=D.ex;refine wpAny_pyIter_slot ty PySem.F.slot_set_iter (wpAny_call_entry PySem.F.slot_set_iter ty a2T ?body (PySem.F.args_set_iter_1 _))
 case body =>
  unfold Builtin.«frozenset.__iter__» Builtin.Frozenset.slot0;refine wpAny_bind (wpAny_bind (wpAny_pure (wpAny_pure ?_)));unfold Builtin.Frozenset.sizeOf setEntries;refine wpAny_bind (wpAny_bind (wpAny_bind (wpAny_setState_of c b (G0 D.ok) (wpAny_pure (wpAny_pure ?_)))));unfold setDrawn setsByText;refine wpAny_bind (wpAny_bind (wpAny_setState_of c b (G0 D.ok) ?_));dsimp only;refine wpAny_bind (wpAny_bind (wpAny_askSetting (wpAny_pure (wpAny_pure ?_))));dsimp only;rw[if_neg (λz=>by
   have z2:=(Bool.and_eq_true _ _ ▸ z).2;change (!t.plain && decide (es.size > 1))=true at z2;rw[D.plain]at z2;cases z2)]
  refine wpAny_bind (wpAny_pure ?_);refine wpAny_bind (wpAny_setEpoch_of c b (G0 D.ok) ?_);refine wpAny_bind (wpAny_newObj_type (wpAny_pure ⟨_,rfl,"set_iterator",_,⟨_,Heap.get?_push_size _ rfl,rfl⟩,slot_seti_next.lookup,?_⟩));exact q
theorem SetIt.typ{it a:Addr}{i n ep:Nat}{t:SetTable}(x:SetIt w s.heap it a i n ep t):s.TypeIs (.ref it) "set_iterator":=let ⟨o,h1,h2,_⟩:=x;⟨o,h1,h2⟩
theorem b0l(D:SRaw s.heap a es ep t)(hf:w.params.followText "set-order"=false){i:Nat}(hi:i<=es.size):SetTable.below t.place (a1r w t i)=i:=by
 obtain⟨d,b,c⟩:=G4 D.ok.ris (a1r w t i);have hsz:=D.ok.size;cases i with
 |zero =>
  rcases Nat.eq_zero_or_pos (SetTable.below t.place (a1r w t 0))with z|z
  .exact z
  .have:=b 0 z;exact absurd this (Nat.not_lt_zero _)
 |succ i =>
  have hs:a1r w t (i+1)=t.place.getD i 0+1:=by
   show(if w.params.followText "set-order"=true then 0 else t.place.getD i 0+1)=_;rw[hf,if_neg (by decide)]
  rw[hs]at d b c⊢;rcases Nat.lt_trichotomy (SetTable.below t.place (t.place.getD i 0+1)) (i+1)with z|z|z
  .have:=c i (by omega) (by omega);omega
  .exact z
  .have h1:=b (i+1) z;have h2:=D.ok.ris i (i+1) (by omega) (by omega);omega
theorem a5p(D:SRaw s.heap a es ep t)(c:t.led=!w.params.followText "set-order"){i:Nat}{Q:Option (Value×Nat)->Shared->Prop}(hi:i<=es.size)
  (h:Q ((V2 w a ep es)[i]?.map λe=>(e.2,a1r w t (i+1))) s):wpAny (model prog w) A (setNext a (a1r w t i) i ep) Q E s:=by
 obtain⟨o,f,_,d⟩:=D.ex;unfold setNext setsByText;refine wpAny_bind (wpAny_setState_of f d (G0 D.ok) ?_);dsimp only;refine wpAny_bind (wpAny_bind (wpAny_askSetting (wpAny_pure ?_)));dsimp only;by_cases hf:w.params.followText "set-order"=true
 .rw[if_pos (show(model prog w).w.params.followText "set-order"=true from hf),if_neg (by simp)];unfold setWalk setsByText;refine wpAny_bind (wpAny_bind (wpAny_setState_of f d (G0 D.ok) ?_));dsimp only;refine wpAny_bind (wpAny_bind (wpAny_askSetting (wpAny_pure ?_)));rw[if_pos (show(model prog w).w.params.followText "set-order"=true from hf)];refine wpAny_bind (wpAny_askSetting (wpAny_pure (wpAny_pure ?_)));have h0:∀j,a1r w t j=0:=λj=>by
   cases j with
   |zero=>rfl
   |succ j=>show(if w.params.followText "set-order"=true then 0 else _)=0;rw[if_pos hf]
  rw[h0]at h⊢;unfold V2 at h;rw[if_pos hf]at h;exact h
 .have hf':w.params.followText "set-order"=false:=by simpa using hf
  rw[if_neg (show ¬(model prog w).w.params.followText "set-order"=true from hf)];rw[if_neg (λz=>by
   change (!t.plain && decide (es.size > 1))=true at z;rw[D.plain]at z;cases z)]
  refine wpAny_bind ?_;show wpAny _ _ (if (!t.led && !es.isEmpty)=true then _ else pure ()) _ _ _;rw[if_neg (by rw[c,hf'];simp)];refine wpAny_pure (wpAny_pure ?_);rw[b0l D hf' hi];unfold V2 at h;rw[if_neg hf]at h;by_cases b:i<es.size
  .have hp:=a0z (xs:=t.place) (i:=i) (by rw[D.ok.size];exact b);rw[hp];have hs:a1r w t (i+1)=t.place.getD i 0+1:=by
    show(if w.params.followText "set-order"=true then 0 else t.place.getD i 0+1)=_;rw[hf',if_neg (by decide)]
   rw[hs]at h;rw[Array.getElem?_eq_getElem b]at h⊢;exact h
  .rw[Array.getElem?_eq_none (by omega)]at h⊢;exact h
theorem a8B{it:Addr}{i:Nat}{Q:Option Value->Shared->Prop}(I:SetIt w s.heap it a i es.size ep t)(D:SRaw s.heap a es ep t)(c:t.led=!w.params.followText "set-order")(hi:i<es.size){v:Int×Value}(f:(V2 w a ep es)[i]?=some v)
  (q:∀h',SetIt w h' it a (i+1) es.size ep t->Heap.SameBut it s.heap h'->Q (some v.2) {s with heap:=h'}):wpAny (model prog w) A (pyNext (.ref it)) Q E s:=by
 obtain⟨j,f1,f2,b⟩:=id I;obtain⟨od,h,k,g⟩:=D.ex;unfold pyNext;refine wpAny_bind (wpAny_attempt (wpAny_callSpecial?_slot (name:=Str.ofString "__next__") I.typ slot_seti_next (wpAny_call_entry slot_seti_next I.typ T8 ?body (W8 _))))
 case body =>
  unfold Builtin.«set_iterator.__next__»;refine wpAny_bind (wpAny_pure (wpAny_bind (wpAny_fieldsOf f1 b ?_)));dsimp only[rawInt];unfold setEntries;refine wpAny_bind (wpAny_bind (wpAny_setState_of h g (G0 D.ok) (wpAny_pure ?_)));rw[if_neg (by simp)];simp only[Int.toNat_natCast];refine wpAny_bind (a5p D c (Nat.le_of_lt hi) ?_);rw[f];dsimp only[Option.map];have e:(s.heap.update it (Obj.mapFields λz=>z.setIfInBounds 0 (.int (a1r w t (i+1)) 0))).get? it=some (Obj.mapFields (λz=>z.setIfInBounds 0 (.int (a1r w t (i+1)) 0)) j):=Heap.get?_update_self _ f1 (Obj.isFreed_of_fields (Obj.data_mapFields b _));have d:=Obj.data_mapFields b (λz=>z.setIfInBounds 0 (.int (a1r w t (i+1)) 0));refine wpAny_bind (wpAny_setField f1 b (by simp) ?_);refine wpAny_bind (wpAny_setField (s:={s with heap:=_}) e d (by simp) ?_);refine wpAny_pure ⟨_,rfl,wpAny_pure (q _ ⟨_,Heap.get?_update_self _ e (Obj.isFreed_of_fields (Obj.data_mapFields d _)),?_,?_⟩ ((Heap.SameBut.update ..).trans (Heap.SameBut.update ..)))⟩
  .rw[Obj.cls_mapFields,Obj.cls_mapFields];exact f2
  .rw[Obj.data_mapFields d];simp[rawInt]
theorem b0m{it:Addr}{Q:Option Value->Shared->Prop}(f:A.handled=none)(I:SetIt w s.heap it a es.size es.size ep t)(D:SRaw s.heap a es ep t)(c:t.led=!w.params.followText "set-order")
  (q:∀h',Heap.ExtBut it s.heap h'->Q none {s with heap:=h'}):wpAny (model prog w) A (pyNext (.ref it)) Q E s:=by
 obtain⟨i,f1,f2,d⟩:=id I;obtain⟨od,g,h,e⟩:=D.ex;unfold pyNext;refine wpAny_bind (wpAny_attempt (wpAny_callSpecial?_slot (name:=Str.ofString "__next__") I.typ slot_seti_next (wpAny_call_entry slot_seti_next I.typ T8 ?body (W8 _))))
 case body =>
  unfold Builtin.«set_iterator.__next__»;refine wpAny_bind (wpAny_pure (wpAny_bind (wpAny_fieldsOf f1 d ?_)));dsimp only[rawInt];unfold setEntries;refine wpAny_bind (wpAny_bind (wpAny_setState_of g e (G0 D.ok) (wpAny_pure ?_)));rw[if_neg (by simp)];simp only[Int.toNat_natCast];refine wpAny_bind (a5p D c (Nat.le_refl _) ?_);have hsz:(V2 w a ep es).size=es.size:=by rw[<-Array.length_toList,ord_perm.length_eq,Array.length_toList]
  rw[Array.getElem?_eq_none (by omega)];dsimp only[Option.map];refine wpAny_bind (wpAny_setField f1 d (by simp) ?_);show wpAny _ _ (newExc (.type "StopIteration") []>>=λ_=>_) _ _ _;refine wpAny_bind ?_;simp only[newExc,newTuple];refine wpAny_bind (wpAny_newObj_type ?_ (by size_fits));refine wpAny_bind (m:=firstArgMember _ _) (wpAny_of_eq (a:=Value.none) (by first|rfl | (simp only[firstArgMember];rfl)) ?_);refine wpAny_newObj_type ?_ (by size_fits);simp only[raiseNew];refine wpAny_bind (wpAny_handled ?_);rw[show A.in1.handled=none from f];refine wpAny_bind (wpAny_pure (wpAny_throw ?_));refine wpAny_bind (wpAny_isInstance (T:="StopIteration") (b:=true) ⟨_,Heap.get?_push_size _ rfl,rfl⟩ isSubtype_stop ?_);exact wpAny_pure (q _ (((Heap.SameBut.update ..).extBut.push _).push _))
theorem SetIt.at{h h':Heap}{it a:Addr}{i n ep:Nat}{t:SetTable}(x:SetIt w h it a i n ep t)(k:∀o,h.get? it=some o->h'.get? it=some o):SetIt w h' it a i n ep t:=let ⟨o,h1,h2⟩:=x;⟨o,k o h1,h2⟩
theorem SRaw.to{h h':Heap}(x:SRaw h a es ep t)(k:∀o,h.get? a=some o->h'.get? a=some o):SRaw h' a es ep t:=⟨let ⟨o,h1,h2⟩:=x.ex;⟨o,k o h1,h2⟩,x.ok,x.plain⟩
theorem a1B:entryFor table "set_iterator.__iter__"=some Builtin.«dict_keyiterator.__iter__» :=
 entryFor_alias (id':="dict_keyiterator.__iter__") (by kernel_rfl) rfl (by decide +kernel) (by kernel_rfl)
theorem a2Y(a:Value):argsOk "set_iterator.__iter__" ⟨[a],[]⟩:=by
 unfold argsOk;kernel_rfl
theorem a8A{it:Addr}{i n:Nat}{Q:Value->Shared->Prop}(I:SetIt w s.heap it a i n ep t)(h:Q (.ref it) s):wpAny (model prog w) A (pyIter (.ref it)) Q E s:=by
 refine wpAny_pyIter_slot I.typ U9 (wpAny_call_entry U9 I.typ a1B ?_ (a2Y _));show wpAny _ _ (ret (.ref it)) _ _ s;exact wpAny_pure ⟨_,rfl,"set_iterator",_,I.typ,slot_seti_next.lookup,h⟩
theorem b1d:(V2 w a ep es).size=es.size:=by rw[<-Array.length_toList,ord_perm.length_eq,Array.length_toList]
theorem a8C(n:A.handled=none)(J:Addr)(j:a≠J)(f:t.led=!w.params.followText "set-order") :
  Walks prog w A J [J,a] [J] es.size (λi v=>∃e,(V2 w a ep es)[i]?=some e/\v=e.2) (λi h=>SetIt w h J a i es.size ep t/\SRaw h a es ep t) where
 sub:=λb d=>by rw[List.mem_singleton.mp d];exact List.mem_cons_self
 frame:=λi h h' st k=>⟨st.1.at λo e=>k J List.mem_cons_self o e,st.2.to λo e=>k a (List.mem_cons_of_mem _ List.mem_cons_self) o e⟩
 item:=λi s Q E hi st g=>by
  have c:i<(V2 w a ep es).size:=by rw[b1d];exact hi
  exact a8B st.1 st.2 f hi (Array.getElem?_eq_getElem c) λh' m sb=>g _ h' s.toks ⟨_,Array.getElem?_eq_getElem c,rfl⟩ ⟨m,st.2.to λo e=>sb.extBut a o j e⟩ λb o d e=>sb.extBut b o (λz=>d (by rw[z];exact List.mem_cons_self)) e
 done:=λs Q E st g=>b0m n st.1 st.2 f λh' l=>g h' s.toks λb o d e=>l b o (λz=>d (by rw[z];exact List.mem_cons_self)) e
 self:=λ_ _ _ _ st g=>a8A st.1 g
theorem SRaw.lt{h:Heap}(x:SRaw h a es ep t):a<h.objs.size:=let ⟨_,h1,_⟩:=x.ex;Heap.lt_size h1
theorem b2U(b:t.led=!w.params.followText "set-order"):KdlSrc prog w "set" a a es.size (λi v=>∃e,(V2 w a ep es)[i]?=some e/\v=e.2) (λh=>SRaw h a es ep t) where
 type:=λ_ D=>D.typ
 there:=λ_ D=>⟨D.lt,D.lt⟩
 keep:=λ_ _ D d=>D.to λo e=>d a (.inl rfl) o e
 notList:=by decide
 notTuple:=by decide
 hint:=λ_ _ _ _ D q=>b2b D.typ q
 iter:=λ_ _ c D=>⟨_,_,λ_ _ q=>b0o D q,a8C c _ (Nat.ne_of_lt D.lt) b,⟨⟨_,Heap.get?_push_size _ rfl,rfl,rfl⟩,D.to λo e=>Heap.get?_push_of_some _ e⟩⟩
end
end Tab
end L2
namespace L2
open PySem PySem.Spec PyProof.Rows PySem.W Tab
def a4i(P:Program)(w:World)(a:Addr)(xs:List (List Int×Addr)):HO:=.ext λh=>∃es ep t,SRaw h a es ep t/\es.toList.Perm (xs.map (Tab.ent P w))/\t.led=!w.params.followText "set-order"
theorem b4z{P:Program}{w:World}{H:Hp}{h:Heap}(ok:HOk P w H h){r:List Int}{b:Addr}(x:IT H (.ref b) r):TK P w h r b:=by
 obtain⟨a,e,q⟩:=x;cases e;obtain⟨_,its,c,o,h1,h2,n,d⟩:=(show ObjOk P w H h b (.tup (r.map V.int))from ok b _ q);refine⟨o,its.toArray,n,h1,h2,d,?_⟩;have:∀{r:List Int}{its:List Value},Vals (r.map V.int) its->ItemsAre (intKind P w) r its:=by
  intro r;induction r with
  |nil=>intro its c;cases c;exact .nil
  |cons x r ih =>
   intro its c;cases c with
   |cons h t =>
    obtain⟨tk,rfl⟩:=h;exact .cons (intKind_is _ _ _ _) (ih t)
 simpa using this c
def b4M(K:PySem.W.Frag)(P:Program)(w:World):RL:=λys H Q=>∃(k:Bool) (p:Addr) (vs:List V) (rss:LLI),ys=[.ref p]/\SqK k K H p vs/\Its H vs rss/\vs.length<=1000 /\
 ∀a xs,H a=none->(xs.map (·.1)).Nodup->(∀r,r∈xs.map (·.1)↔r∈rss)->(∀x∈xs,IT H (.ref x.2) x.1)->Q (.ref a) (upd H a (a4i P w a xs))
def b0E(P:Program)(w:World):RL:=λys H Q=>∃(a:Addr) (xs:List (List Int×Addr)),ys=[.ref a]/\H a=some (a4i P w a xs)/\(∀x∈xs,IT H (.ref x.2) x.1)/\(∀x∈xs,0<x.1.length)/\xs.length<=1000 /\
 ∀l zs tss,H l=none->Its H zs tss->tss.Perm (xs.map (·.1))->D4 tss->Q (.ref l) (upd H l (.lst zs))
section
variable {X:Cx}
theorem a9x(K:PySem.W.Frag)(P:Program)(w:World)(hu:X.A.units+60<cLine)(hc:X.calm=true)(hK:X.K=K:=by rfl)(Z:X.prog=P:=by rfl)(hw:X.w=w:=by rfl):C7 X (.type "set") (b4M K P w):=by
 subst hK Z hw;intro pins s σ H ys us Q I rv h;obtain⟨k,p,vs,rss,rfl,M,hI,hn,q⟩:=h;obtain⟨u,rfl,C⟩:=rv.one;cases C;have J:X.A.handled=none:=I.ok.hd hc;have step:∀(its:List Value),Vals vs its->∀(h':Heap) (tk:Nat) (xs:List (List Int×Addr)) (c:Nat->List Int×Addr),(∀i,i<its.toArray.size->rss[i]?=some (c i).1/\IT H (.ref (c i).2) (c i).1) ->
   W9 X.prog X.w (!X.w.params.followText "set-order") h' s.heap.objs.size xs->Came c its.toArray.size xs->(∀b o,b<s.heap.objs.size->s.heap.get? b=some o->h'.get? b=some o)->EP X pins σ Q (.ref s.heap.objs.size) {s with heap:=h',toks:=tk}:=by
  intro its r h' tk xs c d hS l y;obtain⟨o,es,ep,t,L,U,V,Y,R,e6,e7,e8,e9⟩:=hS;have B:its.toArray.size=rss.length:=by rw[<-hI.1,r.length];simp
  have E:H s.heap.objs.size=none:=I.hok.fresh (Nat.le_refl _);have G:∀x∈xs,IT H (.ref x.2) x.1:=λx F=>by
   obtain⟨j,m,rfl⟩:=l.from_ x F;exact(d j m).2
  refine⟨.ref s.heap.objs.size,_,I.laid (h':=h') (a:=s.heap.objs.size) (o:=a4i X.prog X.w s.heap.objs.size xs) (t':=tk) (λb o e=>y b o (Heap.lt_size e) e) (Nat.le_refl _) ⟨⟨es,ep,t,⟨⟨o,L,U,V⟩,R,e6⟩,Y,e9⟩,⟨o,L⟩,λh1 h2 ⟨es,ep,t,q1,q2⟩ kk=>⟨es,ep,t,q1.to kk,q2⟩⟩,rfl,q _ xs E l.nd (λr=>?_) G⟩;constructor
  .intro hr;obtain⟨x,F,rfl⟩:=List.mem_map.mp hr;obtain⟨j,m,rfl⟩:=l.from_ x F;exact List.mem_of_getElem? (d j m).1
  .intro hr;obtain⟨j,m⟩:=List.mem_iff_getElem?.mp hr;have n:j<its.toArray.size:=by rw[B];exact(List.getElem?_eq_some_iff.mp m).1
   have h1:=(d j n).1;rw[m]at h1;injection h1 with h1
   rw[h1];exact l.all j n
 have f:∀(its:List Value),Vals vs its->∃c:Nat->List Int×Addr,(∀i v,i<its.toArray.size->its.toArray[i]?=some v->v=.ref (c i).2)/\∀i,i<its.toArray.size->rss[i]?=some (c i).1/\IT H (.ref (c i).2) (c i).1:=by
  intro its r;have g:∀i,∃x:List Int×Addr,i<its.toArray.size->(∀v,its.toArray[i]?=some v->v=.ref x.2)/\rss[i]?=some x.1/\IT H (.ref x.2) x.1:=λi=>by
   by_cases hi:i<its.toArray.size
   .have hi':i<vs.length:=by rw[r.length];simpa using hi
    obtain⟨u,N,C⟩:=r.get (List.getElem?_eq_getElem hi');obtain⟨row,T,b,S,O⟩:=hI.2 i _ (List.getElem?_eq_getElem hi');rw[S]at C;cases C;refine⟨(row,b),λ_=>⟨λv D=>?_,T,b,rfl,O⟩⟩;have:its[i]?=some v:=by simpa using D
    rw[N]at this;injection this with this
    exact this.symm
   .exact⟨([],0),λz=>absurd z hi⟩
  exact⟨λi=>Classical.choose (g i),λi v hi D=>(Classical.choose_spec (g i) hi).1 v D,λi hi=>(Classical.choose_spec (g i) hi).2⟩
 cases k
 .obtain⟨its,r,pl,hz⟩:=I.list M;obtain⟨c,r1,r2⟩:=f its r;exact a3f J pl.isList r1 (λi hi=>b4z I.hok (r2 i hi).2) (by have:=r.length;simp;omega) (by omega) λh' tk xs hS l y=>step its r h' tk xs c r2 hS l y
 .obtain⟨its,r,pl,hz⟩:=I.tuple M;obtain⟨c,r1,r2⟩:=f its r;exact a2W J pl r1 (λi hi=>b4z I.hok (r2 i hi).2) (by have:=r.length;simp;omega) (by omega) λh' tk xs hS l y=>step its r h' tk xs c r2 hS l y
theorem a6Q(P:Program)(w:World)(hc:X.calm=true)(hP:X.prog=P:=by rfl)(hw:X.w=w:=by rfl):C7 X (.builtin "sorted") (b0E P w):=by
 subst hP hw;intro pins s σ H ys us Q I rv h;obtain⟨a,xs,rfl,ha,O,N,hn,q⟩:=h;obtain⟨u,rfl,ru⟩:=rv.one;cases ru;obtain⟨⟨es,ep,t,D,B,L⟩,_⟩:=(show ObjOk X.prog X.w H s.heap a (a4i X.prog X.w a xs)from I.hok _ _ ha);obtain⟨d,F,te⟩:=L8 (f:=Tab.ent X.prog X.w) ((ord_perm (w:=X.w) (a:=a) (ep:=ep)).trans B) rfl;have z:∀x∈d,x∈xs:=λx p=>F.mem_iff.mp p;have g:es.size=d.length:=by rw[<-Array.length_toList,B.length_eq,List.length_map,F.length_eq]
 have hI:Its H (d.map λx=>V.ref x.2) (d.map (·.1)):=⟨by rw[List.length_map,List.length_map],λi v e=>by
  rw[List.getElem?_map]at e⊢;cases l:d[i]? with
  |none=>rw[l]at e;cases e
  |some x =>
   rw[l]at e;cases e;exact⟨x.1,rfl,O x (z x (List.mem_of_getElem? l))⟩⟩
 have ri:Vals (d.map λx=>V.ref x.2) (d.map λx=>Value.ref x.2):=P6 (λx:List Int×Addr=>x.2) d;have hz:(1000:Nat)<=sizeLine:=by rw[sizeLine_eq];decide
 have a0:d.length<=1000:=by rw[F.length_eq];exact hn
 have E:∀(Y:Value->Shared->Prop) (K:List Value->Shared->Prop),(∀(h1:Heap) (tk:Nat),(∀b o,s.heap.get? b=some o->h1.get? b=some o)->K (d.map λx=>Value.ref x.2) {s with heap:=h1,toks:=tk})->wpAny (model X.prog X.w) X.A.in1 (collect (.ref a)) K Y s:=λY K k=>by
  refine kdu_collect (b2U L) (show X.A.in1.handled=none from I.ok.hd hc) D (by omega) λh' tk acc kp j=>?_;have:acc.toList=d.map λx=>Value.ref x.2:=by
   refine List.ext_getElem? λi=>?_;rw[Array.getElem?_toList,List.getElem?_map];by_cases hi:i<d.length
   .have hia:i<acc.size:=by rw[j.1,g];exact hi
    obtain⟨e,G,J⟩:=j.2 i acc[i] (by simp[hia]);rw[<-Array.getElem?_toList,<-te,List.getElem?_map,List.getElem?_eq_getElem hi]at G;injection G with G
    rw[Array.getElem?_eq_getElem hia,List.getElem?_eq_getElem hi,J,<-G];rfl
   .rw[Array.getElem?_eq_none (by rw[j.1,g];omega),List.getElem?_eq_none (by omega)];rfl
  rw[this];exact k h' tk kp
 have hl:=ri.length;have TT:=a2H I hI ri;obtain⟨T,t1,t2,t3,Z⟩:=X1 ri hI.1;refine T9 E TT (λr hr=>by obtain⟨x,p,rfl⟩:=List.mem_map.mp hr;exact N x (z x p)) (by rw[List.length_map];omega) λh1 h' os c tk k1 k2 e hp hs=>?_;obtain⟨m,p1,p2⟩:=L8 (f:=λt:Value×V×List Int=>t.1) hp t1.symm;have U:=I.kept (t':=tk) k1;have hT:∀t∈m,RelV t.2.1 t.1/\IT H t.2.1 t.2.2/\E7 s.heap t.1=t.2.2:=λt ht=>by
  obtain⟨i,hi⟩:=List.mem_iff_getElem?.mp (p1.mem_iff.mp ht);obtain⟨r1,r2,R⟩:=Z i t hi;obtain⟨row,q1,q2⟩:=hI.2 i _ r2;rw[R]at q1;cases q1;have e5:(d.map λx=>Value.ref x.2)[i]?=some t.1:=by rw[<-t1,List.getElem?_map,hi];rfl
  obtain⟨r',b,its',f1,f2,f3,f4⟩:=TT.2 i _ e5;rw[R]at f1;cases f1;exact⟨r1,q2,by rw[f2];exact C8 f3 f4⟩
 have M:(m.map (·.2.1)).length<=sizeLine:=by
  have S:=(p1.map (λt:Value×V×List Int=>t.2.1)).length_eq;rw[t2]at S;simp only[List.length_map]at S⊢;omega
 have J:Vals (m.map (·.2.1)) os:=by rw[<-p2];exact N4 λt ht=>(hT t ht).1
 have I2:=U.laid (h':=h') (a:=h1.objs.size) (o:=.lst (m.map (·.2.1))) (t':=tk) k2 (Nat.le_refl _) ⟨M,os,c,J,e⟩;refine⟨.ref h1.objs.size,_,I2,rfl,q _ _ (m.map (·.2.2)) (U.hok.fresh (Nat.le_refl _)) ⟨by rw[List.length_map,List.length_map],λi v C=>?_⟩ (by have:=p1.map (λt:Value×V×List Int=>t.2.2);rw[t3]at this;exact this.trans (F.map _)) ?_⟩
 .rw[List.getElem?_map]at C⊢;cases l:m[i]? with
  |none=>rw[l]at C;cases C
  |some t =>
   rw[l]at C;cases C;exact⟨t.2.2,rfl,(hT t (List.mem_of_getElem? l)).2.1⟩
 .unfold D4;rw[List.pairwise_map];rw[<-p2,List.pairwise_map]at hs;refine hs.imp_of_mem λ{x y} p W n=>?_;rw[(hT x p).2.2,(hT y W).2.2]at n;exact n
variable {e:Expr}{es:List Expr}{t:TA}{p pos:Pos}
theorem b4a(K:PySem.W.Frag)(P:Program)(w:World)(g:X.A.units+60<cLine)(b:Gl X "set")(d:X.mg "set"=none)(ha:JA X (e::es) t)(hc:X.calm=true:=by rfl)(i:X.K=K:=by rfl)(c:X.prog=P:=by rfl)(hw:X.w=w:=by rfl)(f:starEach (e::es) X.env=(false,eval e X.env)::starEach es X.env:=by rfl)(a:(backTo pos (starEach es X.env)).any (·.1)=false:=by rfl):JE X (.Call (.Name "set" p) (e::es) [] pos) (tCB (b4M K P w) t):=⟨M4 (a9x K P w g hc i c hw) b d b6H ha.h (by decide) (by decide) f a⟩
theorem b1Q(P:Program)(w:World)(b:Gl X "sorted")(d:X.mg "sorted"=none)(ha:JA X (e::es) t)(hc:X.calm=true:=by rfl)(c:X.prog=P:=by rfl)(hw:X.w=w:=by rfl)(f:starEach (e::es) X.env=(false,eval e X.env)::starEach es X.env:=by rfl)(a:(backTo pos (starEach es X.env)).any (·.1)=false:=by rfl):JE X (.Call (.Name "sorted" p) (e::es) [] pos) (tCB (b0E P w) t):=⟨D8 (a6Q P w hc c hw) b d a1a ha.h (by decide) (by decide) f a⟩
end
end L2
namespace L2
open PySem PySem.Spec PyProof.Rows
section
variable {prog:Program}{w:World}{A:Around}{E:Value->Shared->Prop}{s:Shared}
end
theorem a7O(r:List Int):(r.map (Sum.inl:Int->Key)).map kV=r.map V.int:=by
 rw[List.map_map];rfl
theorem b6t{kvs:List (List Key×V)}{rss:LLI}{r:List Int}(f:kvs.map (·.1)=IK rss)(hr:r∉rss):D7 kvs (r.map Sum.inl)=none:=by
 rw[<-Option.not_isSome_iff_eq_none,Bool.not_eq_true,<-K3,List.any_eq_false];intro d c e;have e:=of_decide_eq_true e;have:d.1∈IK rss:=by rw[<-f];exact List.mem_map.mpr ⟨d,c,rfl⟩
 obtain⟨g,h1,h2⟩:=List.mem_map.mp this;rw[e]at h2;have inj:∀{a b:List Int},a.map (Sum.inl:Int->Key)=b.map Sum.inl->a=b:=λ{a b} z=>by
  have:=congrArg (List.map kV) z;rw[a7O,a7O]at this;exact map_int_inj.mp this
 exact hr (inj h2 ▸ h1)
section
variable {X:Cx}
variable {e:Expr}{es:List Expr}{t:TA}{p pos:Pos}
end
section
variable {X:Cx}
variable {e:Expr}{es:List Expr}{t:TA}{p pos:Pos}
end
end L2
namespace L2
open PySem PySem.Spec PyProof.Rows PySem.W
section
variable {prog:Program}{w:World}{κ:Type} [DecidableEq κ] {knd:HeapKind prog w κ}{A:Around}{E:Value->Shared->Prop}{s:Shared}
theorem b2W{d a:Addr}{xs:List (κ×Addr×Value)}{k:κ}{v:Value}{Q:Value->Shared->Prop}(r:knd.room A)(c:knd.is s.heap k a)(z:s.heap.DictOfH knd d xs)(hz:xs.length<=sizeLine)
  (h1:∀p,atKey xs k=some p->Q p.2 {s with toks:=s.toks+knd.draws k})
  (h2:atKey xs k=none->∀h',h'.DictOfH knd d (storedH xs k a v)->Heap.SameBut d s.heap h'->Q v {s with heap:=h',toks:=s.toks+knd.draws k}):wpAny (model prog w) A (dictSetDefault d (.ref a) v) Q E s:=by
 obtain⟨o,es,ep,f,hc,hd,h,g,m⟩:=z;unfold dictSetDefault
 try with_reducible refine wpAny_holding ?_
 refine wpAny_bind (knd.pyHash r c ?_);refine wpAny_bind (wpAny_dictFind_heap (s:={s with toks:=s.toks+knd.draws k}) r c f hd h g m (λi=>?_) λj p t=>?_)
 .have hnot:k∉xs.map (·.1):=not_mem_keys_of_get i;have b:=atKey_none_of_get i;refine wpAny_bind (wpAny_rule (wpAny_bind (wpAny_updateDictKeys (hz:=by have e:=size_of_entries h;omega) (s:={s with toks:=s.toks+knd.draws k}) f hd (wpAny_pure (h2 b _ ⟨_,_,ep+1,Heap.get?_update_self _ f (Obj.isFreed_of_dict (Obj.data_mapDictKeys hd _)),hc.mapDictKeys _,Obj.data_mapDictKeys hd _,?e,?k,?n⟩ (Heap.SameBut.update ..))))))
  case e =>
   rw[storedH_new b];simp[h,entryOfKey]
  case k =>
   rw[storedH_new b];intro x l;rcases List.mem_append.mp l with q|q
   .exact knd.keeps (g x q) f hd (Heap.SameBut.update ..)
   .rw[List.mem_singleton.mp q];exact knd.keeps c f hd (Heap.SameBut.update ..)
  case n =>
   rw[storedH_new b,List.map_append,List.nodup_append];refine⟨m,by simp,λx l y u e=>hnot ?_⟩;have:y=k:=by simpa using u
   rw[<-this,<-e];exact l
 .refine wpAny_bind (wpAny_dictEntries (s:={s with toks:=s.toks+knd.draws k}) f hd ?_);rw[entry_at h j,t];exact wpAny_bind (wpAny_rule (wpAny_pure (h1 p (atKey_of_get m t))))
end
section
variable {prog:Program}{w:World}{κ:Type} [DecidableEq κ] (knd:HeapKind prog w κ)
theorem b0p(d a:Addr)(hd:(d==sysModules)=false)(b:Value) :
  MeetsIn prog w (Builtin.«dict.setdefault» ⟨[.ref d,.ref a,b],[]⟩) (λA R s=>knd.room A.in1/\∃k xs,knd.is s.heap k a/\s.heap.DictOfH knd d xs/\xs.length<=sizeLine /\
   (∀p,atKey xs k=some p->R (.ok (.ret p.2)) {s with toks:=s.toks+knd.draws k}) /\
   (atKey xs k=none->∀h',h'.DictOfH knd d (storedH xs k a b)->Heap.SameBut d s.heap h'->R (.ok (.ret b)) {s with heap:=h',toks:=s.toks+knd.draws k})) :=
 .of_wp λA R s ⟨h,k,xs,c,g,hz,h1,h2⟩=>by
  unfold Builtin.«dict.setdefault» Builtin.Dict.keyAndDefault;refine wpAny_bind (wpAny_bind (wpAny_notOrdered_dict g.typeIs ?_));show wpAny _ _ (pure (d,Value.ref a,some b)) _ _ s;refine wpAny_pure ?_;change wpAny _ _ (if (d==sysModules)=true then _ else(dictSetDefault d (.ref a) b>>=_)) _ _ s;rw[if_neg (by rw[hd];decide)];exact wpAny_bind (b2W h c g hz (λp hp=>wpAny_pure ⟨p.2,rfl,h1 p hp⟩) λi h' e f=>wpAny_pure ⟨b,rfl,h2 i h' e f⟩)
end
section
variable {X:Cx}{pins:List (Addr×Obj)}{σ:St}{H:Hp}{s:Shared}{a b:Addr}{z:V}{r:Value}{kvs:List (List Key×V)}{k:List Key}{A:Around}{E:Value->Shared->Prop}
theorem RelO.sdv{o:Option V}{p:Addr×Value}(h:RelO o (Option.map (·.2) (some p))):∃v,o=some v/\RelV v p.2:=by
 cases o with
 |none=>exact h.elim
 |some v=>exact⟨v,rfl,h⟩
theorem b6B{Q:Value->Shared->Prop}(x:A.units+1<cLine)(I:Inv X pins σ H s)(e:H a=some (.dT kvs))(n:H b=some (.tup (k.map kV)))(hl:kvs.length<sizeLine)(y:RelV z r)
  (h1:∀v t s',D7 kvs k=some v->Inv X pins σ H s'->RelV v t->Q t s') (h2:∀s',D7 kvs k=none->Inv X pins σ (upd H a (.dT (U4 kvs k z))) s'->Q r s') :
  wpAny (model X.prog X.w) A (call (.builtin "dict.setdefault") [.ref a,.ref b,r]) Q E s:=by
 obtain⟨hz,hd,xs,d,dd⟩:=b5c I.hok e;have i:xs.length<=sizeLine:=by rw[<-Paired.length d];exact hz
 have g:=d.val k;have j:(U4 kvs k z).length<=sizeLine:=by have:=V4 kvs k z;omega
 refine call_meetsIn PySem.F.slot_dict_setdefault dd.typeIs PySem.F.entry_dict_setdefault (PySem.F.args_dict_setdefault_3 _ _ _) (b0p (tupleKind (D5 X.prog X.w)) a b hd r) ⟨tupleKind_room_in1 x,k,xs,a0Q I.hok n,dd,i,λp hp=>?_,λJ h' l hs=>?_⟩
 .rw[hp]at g;obtain⟨v,h,B⟩:=RelO.sdv g;exact h1 v _ _ h (I.tok _) B
 .rw[J]at g;have f:D7 kvs k=none:=by
   cases h:D7 kvs k with
   |none=>rfl
   |some v=>rw[h]at g;exact g.elim
  refine h2 _ f ?_;obtain⟨q,es,ep,m,D,u,C,_,G⟩:=l;refine a4J I (by rw[e];exact True.intro) hs ⟨q,m⟩ ⟨j,hd,_,(d.put k n y).keeps λc ys o=>?_,q,es,ep,m,D,u,C,G⟩;rw[A2 (G5 o e (λz=>nomatch z))];exact o
end
def b0c(td ty tx:TE):TE:=λσ H Q=>td σ H λx H1=>∃a,x=.ref a/\IsD H1 a/\ty σ H1 λy H2=>tx σ H2 λz H3=>∃kvs k b,H3 a=some (.dT kvs)/\y=.ref b/\H3 b=some (.tup (k.map kV))/\kvs.length<sizeLine /\
 (∀v,D7 kvs k=some v->Q v H3)/\(D7 kvs k=none->Q z (upd H3 a (.dT (U4 kvs k z))))
section
variable {X:Cx}{o e f:Expr}{apos cpos:Pos}{td ty tx:TE}
theorem b1a(p:X.A.units+1<cLine)(q:PE X o td)(D:PE X e ty)(hf:PE X f tx)(m:M2 X o "setdefault" apos e f cpos):PE X (.Call (.Attribute o "setdefault" apos) [e,f] [] cpos) (b0c td ty tx):=by
 intro pins s σ H Q I h;refine wpAny_Call_method m.base m.few m.line PySem.F.plainAttrs_dict PySem.F.slot_dict_setdefault PySem.F.type_dict_setdefault (thn (q pins s σ H _ I h) λu s1 ⟨x,H1,l,r,a,ex,d,q1⟩=>?_);subst ex;obtain rfl:u=Value.ref a:=r;obtain⟨t1,t2,_⟩:=b6s l d;refine⟨t1,t2,?_⟩;rw[m.trees];refine Calls.callWith_builtin rfl (Calls.evalArgs_plain (Calls.spliced_cons (thn (D pins s1 σ H1 _ l q1) λN s2 ⟨y,H2,B,C,q2⟩ =>
  Calls.spliced_cons (thn (hf pins s2 σ H2 _ B q2) λR M ⟨z,G,L,j,kvs,k,b,K,E,n,t,J,w⟩=>Calls.spliced_nil ?_))))
 subst E;obtain rfl:N=Value.ref b:=C;exact b6B p L K n t j (λv P O g c i=>⟨_,G,c,i,J v g⟩) λO g c=>⟨_,_,c,j,w g⟩
theorem b4f(c:X.A.units+60<cLine)(b:JE X o td)(a:JE X e ty)(hf:JE X f tx)(m:M2 X o "setdefault" apos e f cpos:=by exact⟨rfl,rfl,rfl,rfl⟩):JE X (.Call (.Attribute o "setdefault" apos) [e,f] [] cpos) (b0c td ty tx):=⟨b1a (by omega) b.h a.h hf.h m⟩
end
theorem a9X{prog:Program}{w:World}{d:Addr}(hs:(d==sysModules)=false)(es:Array DictEntry)(ep:Nat)(a:Obj)(m:a.ExactDict)(hd:a.data=.dict es ep) :
  MeetsIn prog w (Builtin.«tuple.__new__» ⟨[.type "tuple",.ref d],[]⟩) (λA R s=>A.handled=none/\s.heap.get? d=some a/\es.size<=sizeLine /\
   ∀(h':Heap) (tk:Nat) (acc:Array Value),(∀b o,s.heap.get? b=some o->h'.get? b=some o)->ItemsOf (λi v=>∃e,es[i]?=some e/\v=e.key) acc es.size->R (.ok (.ret (.ref h'.objs.size))) {s with heap:=h'.push {cls:=.type "tuple",data:=.seq acc},toks:=tk}) :=
 .of_wp λA R s h=>by
  obtain⟨hp,g,dd,tk,os⟩:=s;obtain⟨p,k,hz,h⟩:=h;have l:=sub_tuple_self;have j:=init_tuple_lookup;have n:=madeHere_tuple;have hT:Shared.TypeIs ⟨hp,g,dd,tk,os⟩ (.ref d) "dict":=⟨a,k,m.1⟩;have D:DRaw hp d es ep:=⟨a,k,m,hd⟩
  wp_walk using wpAny_loadPart' k,wpAny_typeOf hT,kdu_collect (a4q hs es ep) (show A.in1.handled=none from p) D hz
  intro h' f acc q c;show wpAny _ _ (Builtin.Tuple.tupleExact acc.toList.toArray>>=λv=>ret v) _ _ _;unfold Builtin.Tuple.tupleExact;have e:acc.toList.toArray=acc:=by simp
  rw[e];refine wpAny_bind (wpAny_newObj_type ?_ (by show acc.size<=sizeLine;rw[c.1];exact hz));exact wpAny_pure ⟨_,rfl,h h' f acc q c⟩
def a7C:RL:=λxs H Q=>∃(d:Addr) (kvs:List (List Key×V)) (rss:LLI),xs=[.ref d]/\H d=some (.dT kvs)/\kvs.map (·.1)=IK rss/\∀l zs,H l=none->Its H zs rss->Q (.ref l) (upd H l (.tup zs))
section
variable {X:Cx}
theorem a5Z(hc:X.calm=true):C7 X (.type "tuple") a7C:=by
 intro pins s σ H xs us Q I K h;obtain⟨d,kvs,rss,rfl,hd,B,q⟩:=h;obtain⟨u,rfl,J⟩:=K.one;cases J;obtain⟨hz,k,c,l,v,es,ep,t,y,z,m,L⟩:=(show ObjOk X.prog X.w H s.heap d (.dT kvs)from I.hok _ _ hd);obtain⟨hI,n⟩:=a4y l B;have G:kvs.length=c.length:=Paired.length l;have g:es.size=c.length:=by rw[<-Array.length_toList,m,List.length_map]
 refine callType_newIn PySem.F.called_tuple (by decide) (PySem.F.typeCall_tuple_1 _) (PySem.F.newCall_tuple_1 _) (λobj=>PySem.F.args_object_init_2 obj _) PySem.F.entry_tuple_new (a9X k es ep v y z) ⟨show X.A.in1.handled=none from I.ok.hd hc,t,by omega,λh' tk acc kp f=>?_⟩;have D:acc.toList=c.map λx=>Value.ref x.2.1:=by
  refine List.ext_getElem? λi=>?_;rw[Array.getElem?_toList,List.getElem?_map];by_cases hi:i<c.length
  .have hia:i<acc.size:=by rw[f.1,g];exact hi
   obtain⟨e,E,r⟩:=f.2 i acc[i] (by simp[hia]);have a:es.toList[i]?=some e:=by rw[Array.getElem?_toList];exact E
   rw[m,List.getElem?_map,List.getElem?_eq_getElem hi]at a;injection a with a
   rw[Array.getElem?_eq_getElem hia,List.getElem?_eq_getElem hi,r,<-a];rfl
  .rw[Array.getElem?_eq_none (by rw[f.1,g];omega),List.getElem?_eq_none (by omega)];rfl
 have j:acc=(c.map λx=>Value.ref x.2.1).toArray:=by rw[<-D,Array.toArray_toList]
 have p:Inv X pins σ H {s with heap:=h',toks:=tk}:=I.kept (t':=tk) kp;have C:Inv X pins σ (upd H h'.objs.size (.tup (c.map λx=>V.ref x.2.1))) {s with heap:=h'.push {cls:=.type "tuple",data:=.seq acc},toks:=tk}:=by
  rw[j];exact p.laid (t':=tk) (λb o e=>Heap.get?_push_of_some _ e) (Nat.le_refl _) (show ObjOk X.prog X.w _ _ _ (.tup (c.map λx=>V.ref x.2.1))from⟨by rw[List.length_map];omega,_,P6 (λx:List Key×Addr×Value=>x.2.1) c,IsTup.new _ _⟩)
 exact⟨⟨_,Heap.get?_push_size _ rfl,rfl⟩,.ref h'.objs.size,_,C,rfl,q _ _ (p.hok.fresh (Nat.le_refl _)) hI⟩
variable {e:Expr}{es:List Expr}{t:TA}{p pos:Pos}
theorem a9i(d:Gl X "tuple")(b:X.mg "tuple"=none)(ha:JA X (e::es) t)(hc:X.calm=true:=by rfl)(c:starEach (e::es) X.env=(false,eval e X.env)::starEach es X.env:=by rfl)(a:(backTo pos (starEach es X.env)).any (·.1)=false:=by rfl):JE X (.Call (.Name "tuple" p) (e::es) [] pos) (tCB a7C t):=⟨M4 (a5Z hc) d b a0F ha.h (by decide) (by decide) c a⟩
end
end L2
namespace K33
open PySem PySem.Spec PyProof.Rows L2
noncomputable def top(i:Nat):Stmt:=PySem.Challenge.pw_leastlays_k33_narrowed_by_a_row.main.body.getD i (.Pass ⟨0,0,0,0⟩)
noncomputable abbrev a4p:Stmt:=top 1
noncomputable abbrev a0m:Stmt:=top 2
noncomputable abbrev X5:Stmt:=top 11
noncomputable abbrev a4n:Stmt:=top 12
noncomputable abbrev N7:Stmt:=top 13
noncomputable abbrev X6:Stmt:=top 14
noncomputable abbrev a1I:Stmt:=top 15
noncomputable abbrev a1J:Stmt:=top 17
noncomputable abbrev a4o:Stmt:=top 18
noncomputable abbrev a1F:Stmt:=top 19
noncomputable abbrev a0o:Stmt:=top 20
noncomputable abbrev a4m:Stmt:=top 21
noncomputable abbrev R8:Stmt:=top 22
noncomputable abbrev N8:Stmt:=top 23
noncomputable abbrev J7:Stmt:=top 25
noncomputable abbrev a0n:Stmt:=top 26
noncomputable abbrev a1G:Stmt:=top 27
noncomputable abbrev N5:Stmt:=top 29
noncomputable abbrev K9:Stmt:=top 30
noncomputable abbrev a1H:Stmt:=top 32
noncomputable abbrev R6:Stmt:=top 34
noncomputable abbrev R7:Stmt:=top 36
noncomputable abbrev R9:Stmt:=top 38
noncomputable abbrev O1:Stmt:=top 39
noncomputable abbrev J8:Stmt:=top 40
noncomputable abbrev G7:Stmt:=top 41
noncomputable abbrev L5:Stmt:=top 42
noncomputable abbrev L4:Stmt:=top 43
noncomputable abbrev O2:Stmt:=top 44
noncomputable abbrev S0:Stmt:=top 45
noncomputable abbrev O0:Stmt:=top 46
noncomputable abbrev G8:Stmt:=top 47
noncomputable abbrev L3:Stmt:=top 48
noncomputable abbrev a2h:Stmt:=top 49
noncomputable abbrev E1:Stmt:=S9 (top 31) 0
noncomputable abbrev Z2:Stmt:=S9 (top 31) 1
noncomputable abbrev C4:Stmt:=S9 (top 31) 2
noncomputable abbrev V0:Stmt:=S9 (top 31) 3
noncomputable abbrev J9:Stmt:=S9 (top 31) 4
noncomputable abbrev G9:Stmt:=S9 (top 31) 5
noncomputable abbrev I0:Stmt:=S9 (top 31) 6
structure Tx(mg:Str->Option Value):Prop where
 b_ValueError:mg "ValueError"=none
 b_abs:mg "abs"=none
 b_all:mg "all"=none
 b_any:mg "any"=none
 b_bool:mg "bool"=none
 b_int:mg "int"=none
 b_isinstance:mg "isinstance"=none
 b_len:mg "len"=none
 b_list:mg "list"=none
 b_max:mg "max"=none
 b_range:mg "range"=none
 b_set:mg "set"=none
 b_sorted:mg "sorted"=none
 b_sum:mg "sum"=none
 b_tuple:mg "tuple"=none
 b_zip:mg "zip"=none
structure PotAt(H:Hp)(a b:Addr)(n:Nat):Prop where
 ne:a≠b
 ex:∃(cs:List Int) (t k:Int),H a=some (.lst [.ref b,.int t])/\H b=some (.lst (cs.map V.int))/\cs.length<=63/\(∀c∈cs,0<=c)/\0<=t/\t<2 ^ 61/\0<=k/\k<=n
theorem PotAt.same{H H':Hp}{a b:Addr}{n:Nat}(h:PotAt H a b n)(s:Same H H'):PotAt H' a b n:=by
 obtain⟨ne,cs,t,k,h1,h2,c⟩:=h;exact⟨ne,cs,t,k,s _ _ h1,s _ _ h2,c⟩
theorem PotAt.mono{H:Hp}{a b:Addr}{n m:Nat}(h:PotAt H a b n)(i:n<=m):PotAt H a b m:=by
 obtain⟨ne,cs,t,k,h1,h2,d,g,f,c,e,j⟩:=h;exact⟨ne,cs,t,k,h1,h2,d,g,f,c,e,by omega⟩
theorem a8k{ns:List Int}{hi:Option Int}{i:Nat}{x:V}(h:(Q8 (ns.map V.int) none hi)[i]?=some x):∃z,x=V.int z:=by
 unfold Q8 at h;have b:=List.mem_of_getElem? h;have a:=List.mem_of_mem_drop (List.mem_of_mem_take b);obtain⟨z,_,e⟩:=List.mem_map.mp a;exact⟨z,e.symm⟩
theorem b4o{ns:List Int}{hi:Option Int}:(Q8 (ns.map V.int) none hi).length<=ns.length:=by
 have:=W5 (ns.map V.int) none hi;rwa[List.length_map]at this
section
variable {P:Program}{w:World}{K:PySem.W.Frag}{mg:Str->Option Value}{base:Heap}
inductive IspPot(K:PySem.W.Frag)(vs:List V)(H:Hp)(Q:VK)(E:XK):Prop
 |mk (a:Addr) (ns:List Int) (_:vs=[.ref a]) (_:SqL K H a (ns.map V.int)) (_:ns.length<=63) (_:∀p b H',H p=none->H b=none->PotAt H' p b 0->Same H H'->Q (.ref p) H'):IspPot K vs H Q E
def b4I(K:PySem.W.Frag):Sp:=λvs H Q E=>IspPot K vs H Q E
theorem sc__law_pot:FnScope ["_law_script","_law_seed","_law_cell"] ["_law_script"] (A1 R9):=⟨rfl,rfl,rfl,by decide +kernel,rfl,by decide +kernel,by decide +kernel⟩
theorem b6b(F:FunAt K mg "_law_pot" R9 ["_law_script"])(T:Tx mg):Ok P w K mg base "_law_pot" 1 ["_law_script"] (b4I K):=by
 refine F.okJ sc__law_pot (λvs H Q E h=>?_) (λy f A outer s H vs Q E hr h=>?_)
 .obtain⟨a,ns,rfl,_⟩:=h;rfl
 .obtain⟨a,ns,rfl,hS,hl,k⟩:=h;refine⟨_,(A3 (B1 (i:=1) sc__law_pot.nd rfl (Or.inl rfl) A6)
 (A3 (J2 (E6 K (b4X K (jv 0) a1N (a1M A6))) (A7 (i:=2) sc__law_pot.nd rfl (Or.inl rfl))
 (A4 (B1 (i:=1) sc__law_pot.nd rfl (Or.inl rfl) (a2E (T7 (T7 (Z5 (jv 1) A6) (a2E (jv 2) (a7U A6 A6))) A6) A6))))
 (A4 (B0 (V8 (jaC (B9 (N:=["_law_cell"]) (src:=[none]) (E6 K (b4X K (jv 0) a1N (a1M A6))) (by show B8 _ _=true;rfl) (by rfl) (by rfl)
 (λ_ _ _ _ _=>(A7 (i:=0) (show(["_law_cell"]:List Str).Nodup by decide +kernel) rfl (Or.inl rfl))) (λ_ _ _ _ _=>(a2B (b7C (b1T rfl T.b_abs (jaC (jv 0) jaN)) (a7U A6 A6)))) (λ_ _ _ _ _=>(b1T rfl T.b_abs (jaC (jv 0) jaN)))) (jaC (jv 1) jaN))))))),?_⟩
  refine⟨_,rfl,63,rfl,a,_,rfl,hS,λp hp=>?_⟩;refine⟨p,rfl,⟨_,SqL.of A0⟩,?_⟩;refine M9 (K:=K) (a:=p) (xs:=Q8 (ns.map V.int) none (some 63)) (λi σ H2=>Ex2 λ(t:Int) (v:Option V)=>An4 (σ=[some (.ref a),some (.int t),v]) (0<=t) (t<2 ^ 61) (H2=upd H p (.lst (Q8 (ns.map V.int) none (some 63)))))
   ⟨29,none,rfl,by decide,by decide,rfl⟩ (λi σ H2 _ ⟨_,_,_,_,_,e⟩=>by rw[e];exact SqL.of A0) ?_ ?_
  .rintro i x σ H2 hx ⟨t,v,rfl,h0,h1,rfl⟩;obtain⟨z,rfl⟩:=a8k hx;dsimp only[A8];refine⟨_,rfl,_,_,rfl,rfl,.inl ⟨by omega,by omega⟩,_,rfl,_,_,rfl,rfl,⟨by decide,by decide,by decide⟩,_,_,rfl,rfl,(show(0:Int)<10 ^ Int.toNat 30 by decide),_,_,rfl,rfl,_,_,rfl,rfl,_,_,rfl,rfl,(show(0:Int)<2305843009213693951 by decide),?_⟩;refine⟨_,_,rfl,Int.emod_nonneg _ (by decide),?_,rfl⟩;have:=Int.emod_lt_of_pos (t*6364136223846793005+z % 10 ^ Int.toNat 30+1442695040888963407) (show(0:Int)<2305843009213693951 by decide);omega
  .rintro σ H2 ⟨t,v,rfl,h0,h1,rfl⟩;have g:Same H (upd H p (.lst (Q8 (ns.map V.int) none (some 63)))):=(Same.refl H).upd hp;generalize upd H p (.lst (Q8 (ns.map V.int) none (some 63)))=H1 at g;refine⟨_,rfl,63,rfl,a,_,rfl,g.seq hS,λp2 l=>?_⟩;have s2:Same H (upd H1 p2 (.lst (Q8 (ns.map V.int) none (some 63)))):=g.upd l;refine⟨p2,rfl,⟨_,SqL.of A0⟩,?_⟩;have hz:(1000:Nat)<=sizeLine:=by rw[sizeLine_eq];decide
   have r:=b4o (ns:=ns) (hi:=some 63);refine Q9 (K:=K) (a:=p2) (xs:=Q8 (ns.map V.int) none (some 63)) (by omega) (λi ys d=>d=upd H1 p2 (.lst (Q8 (ns.map V.int) none (some 63)))/\ys.length<=i/\∃cs:List Int,ys=cs.map V.int/\∀c∈cs,0<=c)
    ⟨rfl,Nat.le_refl _,[],rfl,λ_ h=>nomatch h⟩ (λi ys d _ ⟨e,n,_⟩=>⟨by rw[e];exact SqL.of A0,n⟩) ?_ ?_
   .rintro i x ys d hx ⟨rfl,hy,cs,rfl,hc⟩;obtain⟨z,rfl⟩:=a8k hx;refine⟨Sub.one,?_⟩;refine⟨_,rfl,z,rfl,_,_,rfl,rfl,⟨by decide,by decide,by decide⟩,_,_,rfl,rfl,_,rfl,a0T (λhz=>?_) (λhz=>?_)⟩
    .refine⟨_,rfl,z,rfl,rfl,by rw[List.length_append];simpa using hy,cs++[if z<0 then -z else z],by simp,λc j=>?_⟩;rcases List.mem_append.mp j with q|q
     .exact hc c q
     .rw[List.mem_singleton.mp q];split<;>omega
    .exact⟨rfl,by omega,cs,rfl,hc⟩
   .rintro ys d ⟨rfl,hy,cs,rfl,hc⟩ p3 hp3;refine⟨_,rfl,by show 2<=sizeLine;omega,λu b=>?_⟩;have m:=s2.upd (o:=.lst (cs.map V.int)) hp3;refine k u p3 _ (m.free b) (s2.free hp3) ⟨?_,cs,t,0,A0,?_,?_,hc,h0,h1,by decide,by decide⟩ (m.upd b)
    .exact(A5 (o:=.lst (cs.map V.int)) A0 b).symm
    .exact C0 A0 b
    .rw[List.length_map]at hy;omega
theorem at0{x y:V}:atI [x,y] 0=some x:=rfl
theorem at1{x y:V}:atI [x,y] 1=some y:=rfl
theorem atc{x:V}{xs:List V}:atI (x::xs) 0=some x:=a1U (j:=0) rfl
theorem b7V{x:Int}{xs:List Int}:ixN ((x::xs).map V.int).length 0=some 0:=by
 rw[List.length_map,List.length_cons];unfold ixN;rw[if_pos (by decide),if_pos (by omega)];rfl
inductive IspTake(vs:List V)(H:Hp)(Q:VK)(E:XK):Prop
 |mk (a b:Addr) (n:Nat) (m:Int) (_:vs=[.ref a,.int m]) (_:PotAt H a b n) (_:n<2 ^ 60) (_:0<m) (_:m<2 ^ 60) (_:∀r H',0<=r->r<m->PotAt H' a b (n+1)->Off [a,b] H H'->Q (.int r) H'):IspTake  vs H Q E
def a4b:Sp:=λvs H Q E=>IspTake  vs H Q E
theorem sc__law_take:FnScope ["_law_pot_here","_law_many","_law_number_here","_law_mixed"] ["_law_pot_here","_law_many"] (A1 O1):=⟨rfl,rfl,rfl,by decide +kernel,rfl,by decide +kernel,by decide +kernel⟩
theorem b3O(F:FunAt K mg "_law_take" O1 ["_law_pot_here","_law_many"])(T:Tx mg):Ok P w K mg base "_law_take" 1 ["_law_pot_here","_law_many"] a4b:=by
 refine F.okJ sc__law_take (λvs H Q E h=>?_) (λN f A outer s H vs Q E hr h=>?_)
 .obtain⟨a,b,n,m,rfl,_⟩:=h;rfl
 .obtain⟨a,b,n,m,rfl,⟨ne,cs,t,k,ha,hb,hlen,hpos,ht0,ht1,hk0,hk1⟩,hn,hm0,hm1,kk⟩:=h;have I:=hr.u60;refine⟨_,(A3 (E9 (b1F K I (Q5 K (jv 0) A6) (V8 jaN))
 (A3 (B1 (i:=2) sc__law_take.nd rfl (Or.inl rfl) (Q5 K (Q5 K (jv 0) A6) A6))
 (A3 (b1N (b4e (jv 2) (jv 1)) (b1P (Q5 K (jv 0) A6) A6))
 (A3 (E9 (a5M (Q5 K (Q5 K (jv 0) A6) A6) A6)
 (A4 (S7 (b1O K (Q5 K (jv 0) A6) (jaC A6 jaN))))
 D0)
 (A4 (B0 (a2E (jv 2) (jv 1)))))))
 D0)
 (A3 (b1N (a2E (T7 (Z5 (Q5 K (jv 0) A6) A6) A6) A6) (b1P (jv 0) A6))
 (A3 (B1 (i:=3) sc__law_take.nd rfl (Or.inl rfl) (a2E (Z5 (T7 (a2E (Q5 K (jv 0) A6) A6) A6) (T7 (b1U (Q5 K (jv 0) A6) A6) A6)) A6))
 (A4 (B0 (a2E (b1U (jv 3) A6) (jv 1))))))),?_⟩
  refine b6X (b:=b) (cs:=cs) (λO q=>ixL (var rfl) con ha at0 q) hb λp hp=>?_;have j:=C0 (o:=.lst []) ha hp;have u:=C0 (o:=.lst []) hb hp;have l:Off [a,b] H (upd H p (.lst [])):=(Off.refl _ _).upd hp;generalize upd H p (.lst [])=H1 at j u l;cases cs with
  |nil =>
   refine J4 ?_;refine⟨_,rfl,a,_,1,_,rfl,rfl,SqL.of j,at1,_,_,rfl,rfl,.inl ⟨by omega,by omega⟩,_,_,rfl,rfl,_,_,rfl,rfl,(show(0:Int)<2305843009213693951 by decide),?_⟩;dsimp only;generalize v:(t*3935559000370003845+2691343689449507681) % 2305843009213693951=x;have D:0<=x:=by rw[<-v];exact Int.emod_nonneg _ (by decide)
   have J:x<2305843009213693951:=by rw[<-v];exact Int.emod_lt_of_pos _ (by decide)
   refine⟨_,rfl,a,_,1,1,rfl,rfl,j,rfl,?_⟩;have y:PotAt (upd H1 a (.lst [.ref b,.int x])) a b (n+1):=⟨ne,[],x,0,A0,by rw[A2 ne.symm];exact u,by decide,(λ_ z=>nomatch z),D,by omega,by decide,by omega⟩;have d:Off [a,b] H (upd H1 a (.lst [.ref b,.int x])):=l.set (by simp);have g:upd H1 a (.lst [.ref b,.int x]) a=some (.lst [.ref b,.int x]):=A0;dsimp only[List.set_cons_succ,List.set_cons_zero];generalize upd H1 a (.lst [.ref b,.int x])=H2 at y d g⊢;have M:0<=x % 1000000007:=Int.emod_nonneg _ (by decide);have q1:x % 1000000007<1000000007:=Int.emod_lt_of_pos _ (by decide);refine⟨_,rfl,a,_,1,_,rfl,rfl,SqL.of g,at1,_,_,rfl,rfl,(show(0:Int)<1000000007 by decide),_,_,rfl,rfl,_,rfl,a,_,1,_,rfl,rfl,SqL.of g,at1,_,_,rfl,rfl,⟨by decide,by decide⟩,_,_,rfl,rfl,_,_,rfl,rfl,.inl ⟨by omega,by omega⟩,_,_,rfl,rfl,(show(0:Int)<2305843009213693921 by decide),?_⟩;dsimp only[A8];refine⟨_,rfl,_,_,rfl,rfl,⟨by decide,by decide⟩,_,rfl,_,_,rfl,rfl,hm0,?_⟩;exact kk _ _ (Int.emod_nonneg _ (by omega)) (Int.emod_lt_of_pos _ hm0) y d
  |cons c cs =>
   refine Q7 ?_;have C:0<=c:=hpos c List.mem_cons_self;have L:cs.length+1<=63:=hlen;refine⟨_,rfl,a,_,0,_,rfl,rfl,SqL.of j,at0,b,_,0,_,rfl,rfl,SqL.of u,atc,?_⟩;dsimp only[A8];refine⟨_,rfl,_,rfl,_,_,rfl,rfl,⟨hm0,by omega⟩,?_⟩;refine⟨_,rfl,a,_,0,_,rfl,rfl,SqL.of j,at0,b,_,0,0,rfl,rfl,u,b7V,?_⟩;have G:0<=c / m:=Int.ediv_nonneg C (by omega);dsimp only;generalize B:upd H1 b _=H2;have r:H2 b=some (.lst ((c / m::cs).map V.int)):=by rw[<-B];exact A0
   have g:H2 a=some (.lst [.ref b,.int t]):=by rw[<-B,A2 ne];exact j
   have d:Off [a,b] H H2:=by rw[<-B];exact l.set (by simp)
   refine a0l (λσ H'=>Ex1 λo=>An3 (σ=[some (.ref a),some (.int m),some (.int c),o]) (PotAt H' a b (n+1)) (Off [a,b] H H')) ?fin λfin=>?_
   case fin =>
    rintro σ H' ⟨o,rfl,y,off⟩;refine⟨_,rfl,_,rfl,_,_,rfl,rfl,hm0,?_⟩;exact kk _ _ (Int.emod_nonneg _ (by omega)) (Int.emod_lt_of_pos _ hm0) y off
   refine⟨_,rfl,a,_,0,_,rfl,rfl,SqL.of g,at0,b,_,0,_,rfl,rfl,SqL.of r,atc,rfl,_,rfl,a0T (λe=>?_) (λe=>?_)⟩
   .refine⟨_,rfl,a,_,0,_,rfl,rfl,SqL.of g,at0,.inl ⟨rfl,_,SqL.of r⟩,b,_,0,0,_,rfl,rfl,r,by decide,by decide,seqIndex_of (by decide) (by simp),rfl,?_⟩;exact fin _ _ ⟨none,rfl,⟨ne,cs,t,0,by rw[A2 ne];exact g,A0,by omega,λx v=>hpos x (List.mem_cons_of_mem _ v),ht0,ht1,by decide,by omega⟩,d.set (by simp)⟩
   .refine fin _ _ ⟨none,rfl,⟨ne,c / m::cs,t,0,g,r,hlen,λx v=>?_,ht0,ht1,by decide,by omega⟩,d⟩;rcases List.mem_cons.mp v with rfl|v
    .exact G
    .exact hpos x (List.mem_cons_of_mem _ v)
end
theorem N2{ns:List Int}{k:Nat}(h:k<ns.length):atI (ns.map V.int) (k:Int)=some (.int (ns.getD k 0)):=by
 refine a1U ?_;rw[List.getElem?_map,List.getElem?_eq_getElem h];simp[List.getD_eq_getElem?_getD,h]
theorem b0R{H:Hp}{a b:Addr}{n:Nat}(h:PotAt H a b n){c:Addr}{xs:List V}(hc:H c=some (.tup xs)):c∉[a,b]:=by
 obtain⟨_,cs,t,k,h1,h2,_⟩:=h;simp only[List.mem_cons,List.not_mem_nil,or_false,not_or];exact⟨G5 hc h1 (by intro z;cases z),G5 hc h2 (by intro z;cases z)⟩
theorem IT.off{H H':Hp}{v:V}{ns:List Int}{a b:Addr}{n:Nat}(h:IT H v ns)(d:PotAt H a b n)(o:Off [a,b] H H'):IT H' v ns:=by
 obtain⟨c,e,q⟩:=h;exact⟨c,e,o c _ (b0R d q) q⟩
theorem sqt{K:PySem.W.Frag}{H:Hp}{a:Addr}{xs:List V}(h:H a=some (.tup xs)):SqK true K H a xs:=SqT.of h
noncomputable def Bel(xs ys:List Int):Bool:=(List.zipWith (λa b=>decide (a<=b)) xs ys).all id
theorem b6S(xs ys:List Int):(List.zipWith (λa b=>V.bl (decide (a<=b))) xs ys).all trV=Bel xs ys:=by
 unfold Bel;induction xs generalizing ys with
 |nil=>rfl
 |cons x xs ih =>
  cases ys with
  |nil=>rfl
  |cons y ys=>simp only[List.zipWith_cons_cons,List.all_cons,ih ys];rfl
theorem a3T{γ:Type}(f:Int->Int->Int)(g:Int->γ):∀xs ys:List Int,List.zipWith (λa b=>g (f a b)) xs ys=(List.zipWith f xs ys).map g
 |[],_=>rfl
 |_::_,[]=>rfl
 |x::xs,y::ys=>by rw[List.zipWith_cons_cons,List.zipWith_cons_cons,List.map_cons,a3T f g xs ys]
section
variable {P:Program}{w:World}{K:PySem.W.Frag}{mg:Str->Option Value}{base:Heap}
end
theorem a5O(n:Nat):(List.replicate n [V.int 0]).flatten=(List.replicate n (0:Int)).map V.int:=by
 induction n with
 |zero=>rfl
 |succ n ih=>rw[List.replicate_succ,List.flatten_cons,ih,List.replicate_succ];rfl
noncomputable def dot(xs ys:List Int):Int:=(List.zipWith (λa b=>a*b) xs ys).sum
noncomputable def Ans(rss:LLI)(ys:List Int):Bool:=rss.all λr=>decide (dot r ys=0)
def Sm(ys:List Int):Prop:=∀z∈ys,-2 ^ 64<z/\z<2 ^ 64
section
variable {P:Program}{w:World}{K:PySem.W.Frag}{mg:Str->Option Value}{base:Heap}
inductive IspRowSum(vs:List V)(H:Hp)(Q:VK)(E:XK):Prop
 |mk (x:_) (y:_) (xs:_) (ys:_) (_:vs=[x,y]) (_:IT H x xs) (_:IT H y ys) (_:xs.length<=1000) (_:Sm ys) (_:∀H',Same H H'->Q (.int (dot xs ys)) H'):IspRowSum  vs H Q E
def a2c:Sp:=λvs H Q E=>IspRowSum  vs H Q E
theorem a6r:FnScope ["row","one"] ["row","one"] (A1 X5):=⟨rfl,rfl,rfl,by decide +kernel,rfl,by decide +kernel,by decide +kernel⟩
theorem a6z(F:FunAt K mg "row_sum" X5 ["row","one"])(T:Tx mg):Ok P w K mg base "row_sum" 1 ["row","one"] a2c:=by
 refine F.okJ a6r (λvs H Q E h=>?_) (λe f A outer s H vs Q E hr h=>?_)
 .obtain⟨x,y,xs,ys,rfl,_⟩:=h;rfl
 .obtain⟨_,_,xs,ys,rfl,⟨a,rfl,ha⟩,⟨b,rfl,hb⟩,hl,hs,k⟩:=h;refine⟨_,(A4 (B0 (a6G K rfl T.b_sum (jaC (B9 (N:=["a","b"]) (src:=[none,none]) (V7 K rfl T.b_zip (jaC (jv 0) (jaC (jv 1) jaN))) (by show B8 _ _=true;rfl) (by rfl) (by rfl)
 (λ_ _ _ _ _=>(S8 K 2 (B5 (A7 (i:=0) (show(["a","b"]:List Str).Nodup by decide +kernel) rfl (Or.inl rfl)) (B5 (A7 (i:=1) (show(["a","b"]:List Str).Nodup by decide +kernel) rfl (Or.inl rfl)) M0)))) (λ_ _ _ _ _=>C2) (λ_ _ _ _ _=>(Z5 (jv 0) (jv 1)))) jaN)))),?_⟩
  refine⟨_,rfl,_,rfl,true,true,a,b,rfl,⟨_,SqT.of ha⟩,⟨_,SqT.of hb⟩,?_⟩;refine a8s (caps:=[]) (λx y=>V.int (x*y)) hl (λH' s=>⟨sqt (s _ _ ha),sqt (s _ _ hb)⟩) rfl (λx y H1 d _ c _ q=>⟨_,rfl,_,rfl,_,_,rfl,rfl,.inr (hs y c),q⟩) λH1 p s hp=>?_;rw[a3T (λx y=>x*y) V.int];exact⟨false,p,_,rfl,SqL.of A0,k _ (s.upd hp)⟩
inductive IspSums(vs:List V)(H:Hp)(Q:VK)(E:XK):Prop
 |mk (a:Addr) (y:V) (us:List V) (rss:LLI) (ys:List Int) (_:vs=[.ref a,y]) (_:H a=some (.tup us)) (_:Its H us rss) (_:IT H y ys) (_:us.length<=1000) (_:(∀r∈rss,r.length<=1000)) (_:Sm ys) (_:∀v H',Same H H'->IT H' v (rss.map λr=>dot r ys)->Q v H'):IspSums  vs H Q E
def a6n:Sp:=λvs H Q E=>IspSums  vs H Q E
theorem b2Y:FnScope ["rows","one"] ["rows","one"] (A1 a4n):=⟨rfl,rfl,rfl,by decide +kernel,rfl,by decide +kernel,by decide +kernel⟩
theorem b3P(F:FunAt K mg "sums" a4n ["rows","one"])(T:Tx mg)(b:Ok P w K mg base "row_sum" 1 ["row","one"] a2c):Ok P w K mg base "sums" 2 ["rows","one"] a6n:=by
 refine F.okJ b2Y (λvs H Q E h=>?_) (λe f A outer s H vs Q E hr h=>?_)
 .obtain⟨a,y,us,rss,ys,rfl,_⟩:=h;rfl
 .obtain⟨a,y,us,rss,ys,rfl,ha,hI,hy,hl,hl2,hs,k⟩:=h;refine⟨_,(A4 (B0 (B6 K rfl T.b_tuple (jaC (B9 (N:=["row","one"]) (src:=[none,some 1]) (O9 K (jv 0)) (by show B8 _ _=true;rfl) (by rfl) (by rfl)
 (λ_ _ _ _ _=>(A7 (i:=0) (show(["row","one"]:List Str).Nodup by decide +kernel) rfl (Or.inl rfl))) (λ_ _ _ _ _=>C2) (λ_ _ _ _ _=>(A9 b (hr.mono (by omega)) rfl (jaC (jv 0) (jaC (jv 1) jaN))))) jaN)))),?_⟩
  refine⟨_,rfl,a,rfl,⟨_,SqT.of ha⟩,?_⟩;refine a3X (caps:=[some y]) (λr=>V.int (dot r ys)) hl (λH' s=>SqT.of (s _ _ ha)) hI rfl (λv r H1 d hr c s1 q=>⟨_,rfl,_,rfl,v,y,r,ys,rfl,c,hy.same s1,hl2 r hr,hs,q⟩) λH1 p s hp=>?_;rw[show(rss.map λr=>V.int (dot r ys))=(rss.map λr=>dot r ys).map V.int by rw[List.map_map];rfl];refine⟨p,_,rfl,.inl ⟨SqL.of A0,λl hl=>?_⟩⟩;exact k _ _ ((s.upd hp).upd hl) ⟨l,rfl,A0⟩
inductive IspIsAns(vs:List V)(H:Hp)(Q:VK)(E:XK):Prop
 |mk (a:Addr) (y:V) (us:List V) (rss:LLI) (ys:List Int) (_:vs=[.ref a,y]) (_:H a=some (.tup us)) (_:Its H us rss) (_:IT H y ys) (_:us.length<=1000) (_:(∀r∈rss,r.length<=1000)) (_:Sm ys) (_:∀H',Same H H'->Q (.bl (Ans rss ys)) H'):IspIsAns  vs H Q E
def a7v:Sp:=λvs H Q E=>IspIsAns  vs H Q E
theorem a4j:FnScope ["rows","one"] ["rows","one"] (A1 N7):=⟨rfl,rfl,rfl,by decide +kernel,rfl,by decide +kernel,by decide +kernel⟩
theorem a4v(F:FunAt K mg "is_answer" N7 ["rows","one"])(T:Tx mg)(b:Ok P w K mg base "sums" 2 ["rows","one"] a6n):Ok P w K mg base "is_answer" 3 ["rows","one"] a7v:=by
 refine F.okJ a4j (λvs H Q E h=>?_) (λj f A outer s H vs Q E hr h=>?_)
 .obtain⟨a,y,us,rss,ys,rfl,_⟩:=h;rfl
 .obtain⟨a,y,us,rss,ys,rfl,ha,hI,hy,hl,hl2,hs,k⟩:=h;refine⟨_,(A4 (B0 (a2D K rfl T.b_all (jaC (B9 (N:=["total"]) (src:=[none]) (O9 K (A9 b (hr.mono (by omega)) rfl (jaC (jv 0) (jaC (jv 1) jaN)))) (by show B8 _ _=true;rfl) (by rfl) (by rfl)
 (λ_ _ _ _ _=>(A7 (i:=0) (show(["total"]:List Str).Nodup by decide +kernel) rfl (Or.inl rfl))) (λ_ _ _ _ _=>C2) (λ_ _ _ _ _=>(a2A (jv 0) A6))) jaN)))),?_⟩
  refine⟨_,rfl,_,rfl,a,y,us,rss,ys,rfl,ha,hI,hy,hl,hl2,hs,λv H1 s1 c=>?_⟩;obtain⟨q,rfl,d⟩:=c;refine⟨q,rfl,⟨_,SqT.of d⟩,?_⟩;refine a5d (caps:=[]) (λx=>V.bl (decide (V.int x=V.int 0))) (by rw[List.length_map,<-hI.1];exact hl) (λH' s=>SqT.of (s _ _ d)) rfl (λx H2 g _ _ q=>⟨_,rfl,rfl,q⟩) λH2 p s2 hp=>?_;refine⟨false,p,_,rfl,SqL.of A0,?_,?_⟩
  .rw[List.all_eq_true];intro v c;obtain⟨x,_,rfl⟩:=List.mem_map.mp c;rfl
  .have e:((rss.map λr=>dot r ys).map λx=>V.bl (decide (V.int x=V.int 0))).all trV=Ans rss ys:=by
    rw[List.all_map,List.all_map];unfold Ans;congr 1;funext r;show decide (V.int (dot r ys)=V.int 0)=decide (dot r ys=0);simp
   rw[e];exact k _ (s1.trans (s2.upd hp))
end
theorem a4R{α β γ:Type}(f:α->β->Int)(g:Int->γ):∀(xs:List α) (ys:List β),List.zipWith (λa b=>g (f a b)) xs ys=(List.zipWith f xs ys).map g
 |[],_=>rfl
 |_::_,[]=>rfl
 |x::xs,y::ys=>by rw[List.zipWith_cons_cons,List.zipWith_cons_cons,List.map_cons,a4R f g xs ys]
noncomputable def O3(rss:LLI)(ts:List Int)(j:Nat):Int:=(List.zipWith (λt r=>t*r.getD j 0) ts rss).sum
noncomputable def a1b(rss:LLI)(ys:List Int)(j:Nat):Int:=O3 rss (rss.map λr=>dot r ys) j
def Rs(n:Nat)(rss:LLI):Prop:=∀r∈rss,r.length=n/\Sm r
theorem Sm.at{r:List Int}(h:Sm r){j:Nat}(a:j<r.length) : -2 ^ 64<r.getD j 0/\r.getD j 0<2 ^ 64:=by
 refine h _ ?_;rw[List.getD_eq_getElem?_getD,List.getElem?_eq_getElem a];exact List.getElem_mem _
section
variable {P:Program}{w:World}{K:PySem.W.Frag}{mg:Str->Option Value}{base:Heap}
inductive IspPullOf(vs:List V)(H:Hp)(Q:VK)(E:XK):Prop
 |mk (a:Addr) (y:V) (us:List V) (rss:LLI) (ts:List Int) (j n:Nat) (_:vs=[.ref a,y,.int j]) (_:H a=some (.tup us)) (_:Its H us rss) (_:IT H y ts) (_:ts.length<=1000) (_:j<n) (_:n<=1000) (_:Rs n rss) (_:∀H',Same H H'->Q (.int (O3 rss ts j)) H'):IspPullOf  vs H Q E
def a5j:Sp:=λvs H Q E=>IspPullOf  vs H Q E
theorem a6s:FnScope ["rows","totals","j"] ["rows","totals","j"] (A1 X6):=⟨rfl,rfl,rfl,by decide +kernel,rfl,by decide +kernel,by decide +kernel⟩
theorem a6B(F:FunAt K mg "pull_of" X6 ["rows","totals","j"])(T:Tx mg):Ok P w K mg base "pull_of" 1 ["rows","totals","j"] a5j:=by
 refine F.okJ a6s (λvs H Q E h=>?_) (λl f A outer s H vs Q E hr h=>?_)
 .obtain⟨a,y,us,rss,ts,j,n,rfl,_⟩:=h;rfl
 .obtain⟨a,_,us,rss,ts,j,n,rfl,ha,hI,⟨b,rfl,hb⟩,hl,hj,hn,hR,k⟩:=h;refine⟨_,(A4 (B0 (a6G K rfl T.b_sum (jaC (B9 (N:=["total","row","j"]) (src:=[none,none,some 2]) (V7 K rfl T.b_zip (jaC (jv 1) (jaC (jv 0) jaN))) (by show B8 _ _=true;rfl) (by rfl) (by rfl)
 (λ_ _ _ _ _=>(S8 K 2 (B5 (A7 (i:=0) (show(["total","row","j"]:List Str).Nodup by decide +kernel) rfl (Or.inl rfl)) (B5 (A7 (i:=1) (show(["total","row","j"]:List Str).Nodup by decide +kernel) rfl (Or.inl rfl)) M0)))) (λ_ _ _ _ _=>C2) (λ_ _ _ _ _=>(Z5 (jv 0) (K4 K (jv 1) (jv 2))))) jaN)))),?_⟩
  refine⟨_,rfl,_,rfl,true,true,b,a,rfl,⟨_,SqT.of hb⟩,⟨_,SqT.of ha⟩,?_⟩;refine a9K (caps:=[some (.int j)]) (λt r=>V.int (t*r.getD j 0)) hl (λH' s=>⟨sqt (s _ _ hb),sqt (s _ _ ha)⟩) hI rfl (λx v r H1 e _ hr c _ q=>?_) λH1 p s hp=>?_
  .obtain⟨va,rfl,hva⟩:=c;obtain⟨g,d⟩:=hR r hr;exact⟨_,rfl,_,rfl,_,rfl,va,_,_,_,rfl,rfl,SqT.of hva,N2 (by omega),_,_,rfl,rfl,.inr (d.at (by omega)),q⟩
  .rw[a4R (λt r=>t*List.getD r j 0) V.int];exact⟨false,p,_,rfl,SqL.of A0,k _ (s.upd hp)⟩
inductive IspFalls(vs:List V)(H:Hp)(Q:VK)(E:XK):Prop
 |mk (a:Addr) (y:V) (us:List V) (rss:LLI) (ys:List Int) (_:vs=[.ref a,y]) (_:H a=some (.tup us)) (_:Its H us rss) (_:IT H y ys) (_:us.length<=1000) (_:ys.length<=1000) (_:Rs ys.length rss) (_:Sm ys) (_:∀v H',Same H H'->IT H' v (((List.range ys.length).filter λj=>decide (a1b rss ys j<0)).map λ(i:Nat)=>(i:Int))->Q v H'):IspFalls  vs H Q E
def a7x:Sp:=λvs H Q E=>IspFalls  vs H Q E
theorem sc_falls:FnScope ["rows","one","totals"] ["rows","one"] (A1 a1I):=⟨rfl,rfl,rfl,by decide +kernel,rfl,by decide +kernel,by decide +kernel⟩
theorem b1p(F:FunAt K mg "falls" a1I ["rows","one"])(T:Tx mg)(b:Ok P w K mg base "pull_of" 1 ["rows","totals","j"] a5j)(c:Ok P w K mg base "sums" 2 ["rows","one"] a6n):Ok P w K mg base "falls" 3 ["rows","one"] a7x:=by
 refine F.okJ sc_falls (λvs H Q E h=>?_) (λo f A outer s H vs Q E hr h=>?_)
 .obtain⟨a,y,us,rss,ts,rfl,_⟩:=h;rfl
 .obtain⟨a,y,us,rss,ys,rfl,ha,hI,hy,hl,hn,hR,hs,k⟩:=h;refine⟨_,(A3 (B1 (i:=2) sc_falls.nd rfl (Or.inr rfl) (A9 c (hr.mono (by omega)) rfl (jaC (jv 0) (jaC (jv 1) jaN))))
 (A4 (B0 (B6 K rfl T.b_tuple (jaC (B9 (N:=["j","rows","totals"]) (src:=[none,some 0,some 2]) (D9 rfl T.b_range (jaC (G2 K rfl T.b_len (jaC (jv 1) jaN)) jaN)) (by show B8 _ _=true;rfl) (by rfl) (by rfl)
 (λ_ _ _ _ _=>(A7 (i:=0) (show(["j","rows","totals"]:List Str).Nodup by decide +kernel) rfl (Or.inl rfl))) (λ_ _ _ _ _=>(a2B (b1G (A9 b (hr.mono (by omega)) rfl (jaC (jv 1) (jaC (jv 2) (jaC (jv 0) jaN)))) A6))) (λ_ _ _ _ _=>(jv 0))) jaN))))),?_⟩
  refine⟨_,rfl,_,rfl,a,y,us,rss,ys,rfl,ha,hI,hy,hl,λr hr=>by rw[(hR r hr).1];exact hn,hs,λv H1 s1 e=>?_⟩;dsimp only[A8];obtain⟨g,rfl,d⟩:=hy.same s1;refine⟨_,rfl,g,_,rfl,.inr (SqT.of d),_,rfl,by omega,by rw[List.length_map];omega,?_⟩;rw[Int.toNat_natCast,List.length_map];refine a6u (caps:=[some (.ref a),some v]) (λj=>decide (a1b rss ys j<0)) hn rfl (λi H2 n hi s2 q=>?_) λH2 p s2 hp=>?_
  .refine⟨_,rfl,_,rfl,_,rfl,a,v,us,rss,_,i,ys.length,rfl,(s1.trans s2) _ _ ha,hI.same (s1.trans s2),e.same s2,by rw[List.length_map,<-hI.1];exact hl,hi,hn,hR,λt m=>?_⟩;exact⟨_,_,rfl,rfl,_,rfl,q _ m⟩
  .refine⟨p,_,rfl,.inl ⟨SqL.of A0,λl hl=>?_⟩⟩;exact k _ _ (s1.trans ((s2.upd hp).upd hl)) ⟨l,rfl,A0⟩
end
theorem a5S(x y:Int)(xs ys:List Int):dot (x::xs) (y::ys)=x*y+dot xs ys:=by unfold dot;rw[List.zipWith_cons_cons,List.sum_cons]
theorem a0Y:∀(xs ys:List Int),xs.length=ys.length->dot xs ys=((List.range ys.length).map λj=>xs.getD j 0*ys.getD j 0).sum
 |[],[],_=>rfl
 |x::xs,y::ys,h=>by
  rw[a5S,a0Y xs ys (by simpa using h),List.length_cons,List.range_succ_eq_map,List.map_cons,List.sum_cons,List.map_map];rfl
theorem a7n(l:List Nat)(f g:Nat->Int):(l.map λj=>f j+g j).sum=(l.map f).sum+(l.map g).sum:=by
 induction l with
 |nil=>rfl
 |cons x l ih=>simp only[List.map_cons,List.sum_cons,ih];omega
theorem a3Z(l:List Nat)(c:Int)(f:Nat->Int):(l.map λj=>c*f j).sum=c*(l.map f).sum:=by
 induction l with
 |nil=>simp
 |cons x l ih=>simp only[List.map_cons,List.sum_cons,ih,Int.mul_add]
noncomputable def bump(now:List Int)(j:Nat):List Int:=now.set j (now.getD j 0+1)
noncomputable def Pl(rss:LLI)(now xs:List Int):List Nat:=(List.range xs.length).filter λj=>decide (now.getD j 0<xs.getD j 0) && (Ans rss now || decide (a1b rss now j<0))
def Under(now xs:List Int):Prop:=now.length=xs.length/\∀j,j<xs.length->now.getD j 0<=xs.getD j 0
theorem E5(now:List Int)(j:Nat):(bump now j).length=now.length:=List.length_set
theorem b0U{rss:LLI}{now xs:List Int}{j:Nat}(h:j∈Pl rss now xs):j<xs.length/\now.getD j 0<xs.getD j 0:=by
 unfold Pl at h;rw[List.mem_filter,List.mem_range,Bool.and_eq_true,decide_eq_true_eq]at h;exact⟨h.1,h.2.1⟩
theorem a0D(now:List Int)(j k:Nat)(a:j<now.length):(bump now j).getD k 0=if k=j then now.getD j 0+1 else now.getD k 0:=by
 unfold bump;rw[List.getD_eq_getElem?_getD,List.getElem?_set];by_cases e:j=k
 .subst e;rw[if_pos rfl,if_pos a,if_pos rfl];rfl
 .rw[if_neg e,if_neg (Ne.symm e),List.getD_eq_getElem?_getD]
theorem Under.bump{rss:LLI}{now xs:List Int}{j:Nat}(h:Under now xs)(a:j∈Pl rss now xs):Under (bump now j) xs:=by
 obtain⟨h1,h2⟩:=b0U a;refine⟨by rw[E5];exact h.1,λk b=>?_⟩;rw[a0D _ _ _ (by rw[h.1];exact h1)];by_cases e:k=j
 .rw[if_pos e,e];omega
 .rw[if_neg e];exact h.2 k b
theorem a7m:∀(xs:List Int) (k:Nat) (z:Int),k<xs.length->(xs.set k z).sum=xs.sum-xs.getD k 0+z
 |[],_,_,h=>by simp at h
 |x::xs,0,z,_=>by rw[List.set_cons_zero,List.sum_cons,List.sum_cons,List.getD_cons_zero];omega
 |x::xs,k+1,z,h=>by rw[List.set_cons_succ,List.sum_cons,List.sum_cons,List.getD_cons_succ,a7m xs k z (by simpa using h)];omega
theorem a6a(now:List Int)(j:Nat)(h:j<now.length):(bump now j).sum=now.sum+1:=by
 unfold bump;rw[a7m _ _ _ h];omega
theorem Under.tail{x y:Int}{xs ys:List Int}(h:Under (x::xs) (y::ys)):x<=y/\Under xs ys :=
 ⟨by simpa using h.2 0 (by simp),by simpa using h.1,λj a=>by simpa using h.2 (j+1) (by simpa using a)⟩
theorem Under.sum:∀{xs ys:List Int},Under xs ys->xs.sum<=ys.sum/\(xs≠ys->xs.sum<ys.sum)
 |[],[],_=>⟨Int.le_refl _,λh=>absurd rfl h⟩
 |[],_::_,h=>by have:=h.1;simp at this
 |_::_,[],h=>by have:=h.1;simp at this
 |x::xs,y::ys,h=>by
  obtain⟨h1,h2⟩:=h.tail;obtain⟨b,a⟩:=Under.sum h2;rw[List.sum_cons,List.sum_cons];refine⟨by omega,λne=>?_⟩;by_cases e:xs=ys
  .subst e;have:x≠y:=λq=>ne (by rw[q]);omega
  .have:=a e;omega
theorem Under.ne:∀{xs ys:List Int},Under xs ys->xs≠ys->∃j,j<ys.length/\xs.getD j 0<ys.getD j 0
 |[],[],_,h=>absurd rfl h
 |[],_::_,h,_=>by have:=h.1;simp at this
 |_::_,[],h,_=>by have:=h.1;simp at this
 |x::xs,y::ys,h,ne=>by
  obtain⟨h1,h2⟩:=h.tail;by_cases e:xs=ys
  .subst e;have:x≠y:=λq=>ne (by rw[q]);exact⟨0,by simp,by simp;omega⟩
  .obtain⟨j,q1,q2⟩:=Under.ne h2 e;exact⟨j+1,by simpa using q1,by simpa using q2⟩
theorem b0f(l:List Int)(h:∀x∈l,0<=x):0<=l.sum:=by
 induction l with
 |nil=>exact Int.le_refl _
 |cons x l ih =>
  rw[List.sum_cons];have:=h x (List.mem_cons_self ..);have:=ih λy a=>h y (List.mem_cons_of_mem _ a);omega
theorem b2O(l:List Int)(h:∀x∈l,0<=x)(y:Int)(a:y∈l)(hp:0<y):0<l.sum:=by
 induction l with
 |nil=>cases a
 |cons x l ih =>
  rw[List.sum_cons];have b:=h x (List.mem_cons_self ..);have hl:=b0f l λz hz=>h z (List.mem_cons_of_mem _ hz);rcases List.mem_cons.mp a with q|q
  .omega
  .have:=ih (λz hz=>h z (List.mem_cons_of_mem _ hz)) q;omega
theorem a1j(t:Int):0<=t*t:=by
 rcases Int.le_total 0 t with h|h
 .exact Int.mul_nonneg h h
 .have:=Int.mul_nonneg (a := -t) (b := -t) (by omega) (by omega);rwa[Int.neg_mul_neg]at this
theorem a2a(ys:List Int):∀(rss:LLI) (a:List Int),(∀r∈rss,r.length=ys.length)->a.length=rss.length ->
  ((List.range ys.length).map λj=>O3 rss a j*ys.getD j 0).sum=(List.zipWith (λt r=>t*dot r ys) a rss).sum
 |[],[],_,_=>by
  have e:((List.range ys.length).map λj=>O3 [] [] j*ys.getD j 0)=(List.range ys.length).map λj=>0*ys.getD j 0:=rfl;rw[e,a3Z,Int.zero_mul];rfl
 |[],_::_,_,h=>by simp at h
 |_::_,[],_,h=>by simp at h
 |r::rss,t::a,h,hl=>by
  have ih:=a2a ys rss a (λq b=>h q (List.mem_cons_of_mem _ b)) (by simpa using hl);rw[List.zipWith_cons_cons,List.sum_cons,<-ih];have e:(λj=>O3 (r::rss) (t::a) j*ys.getD j 0)=λj=>t*(r.getD j 0*ys.getD j 0)+O3 rss a j*ys.getD j 0:=by
   funext j;unfold O3;rw[List.zipWith_cons_cons,List.sum_cons,Int.add_mul,Int.mul_assoc]
  rw[e,a7n,a3Z,<-a0Y r ys (h r (List.mem_cons_self ..))]
theorem a7p:∀(rss:LLI) (now xs:List Int),Ans rss xs=true->(List.zipWith (λt r=>t*dot r xs) (rss.map λr=>dot r now) rss).sum=0
 |[],_,_,_=>rfl
 |r::rss,now,xs,h=>by
  unfold Ans at h;rw[List.all_cons,Bool.and_eq_true,decide_eq_true_eq]at h;rw[List.map_cons,List.zipWith_cons_cons,List.sum_cons,h.1,a7p rss now xs h.2];omega
theorem b5k(rss:LLI)(now:List Int)(h:Ans rss now=false):0<(List.zipWith (λt r=>t*dot r now) (rss.map λr=>dot r now) rss).sum:=by
 have e:List.zipWith (λt r=>t*dot r now) (rss.map λr=>dot r now) rss=rss.map λr=>dot r now*dot r now:=by
  clear h;induction rss with
  |nil=>rfl
  |cons r rss ih=>rw[List.map_cons,List.zipWith_cons_cons,List.map_cons,ih]
 rw[e];have:∃r∈rss,dot r now≠0:=by
  refine Classical.byContradiction λq=>?_;have:Ans rss now=true:=by
   unfold Ans;rw[List.all_eq_true];intro r hr;rw[decide_eq_true_eq];exact Classical.byContradiction λz=>q ⟨r,hr,z⟩
  rw[this]at h;cases h
 obtain⟨r,hr,a⟩:=this;refine b2O _ (λx b=>?_) (dot r now*dot r now) (List.mem_map.mpr ⟨r,hr,rfl⟩) ?_
 .obtain⟨q,_,rfl⟩:=List.mem_map.mp b;exact a1j _
 .have h1:=a1j (dot r now);have h2:dot r now*dot r now≠0:=λz=>by
   rcases Int.mul_eq_zero.mp z with q|q<;>exact a q
  omega
theorem b7p(rss:LLI)(now xs:List Int)(hR:∀r∈rss,r.length=xs.length)(b:Under now xs)(f:now≠xs)(i:Ans rss xs=true):Pl rss now xs≠[]:=by
 intro a;unfold Pl at a;rw[List.filter_eq_nil_iff]at a;cases ha:Ans rss now with
 |true =>
  obtain⟨j,h1,h2⟩:=b.ne f;refine a j (List.mem_range.mpr h1) ?_;rw[ha,Bool.and_eq_true,decide_eq_true_eq];exact⟨h2,rfl⟩
 |false =>
  have p1:=a2a now rss (rss.map λr=>dot r now) (λr hr=>by rw[hR r hr,b.1]) (by simp);have p2:=a2a xs rss (rss.map λr=>dot r now) hR (by simp);have s:=b5k rss now ha;have k:=a7p rss now xs i;rw[b.1]at p1;have n:((List.range xs.length).map λj=>O3 rss (rss.map λr=>dot r now) j*now.getD j 0+(-1)*(O3 rss (rss.map λr=>dot r now) j*xs.getD j 0)).sum<=0:=by
   have hs:∀(l:List Int),(∀x∈l,x<=0)->l.sum<=0:=λl hl=>by
    induction l with
    |nil=>exact Int.le_refl _
    |cons x l ih =>
     rw[List.sum_cons];have:=hl x (List.mem_cons_self ..);have:=ih λy h=>hl y (List.mem_cons_of_mem _ h);omega
   refine hs _ λx o=>?_;obtain⟨j,g,rfl⟩:=List.mem_map.mp o;have c:=List.mem_range.mp g;have m:=b.2 j c;have e:O3 rss (rss.map λr=>dot r now) j*now.getD j 0+(-1)*(O3 rss (rss.map λr=>dot r now) j*xs.getD j 0) = -(O3 rss (rss.map λr=>dot r now) j*(xs.getD j 0-now.getD j 0)):=by
    rw[Int.mul_sub];omega
   rw[e];by_cases d:now.getD j 0<xs.getD j 0
   .have hp:0<=O3 rss (rss.map λr=>dot r now) j:=by
     have q:=a j g;rw[ha]at q;have p:¬a1b rss now j<0:=λz=>q (by simp only[Bool.false_or,Bool.and_eq_true,decide_eq_true_eq];exact⟨d,z⟩);show 0<=a1b rss now j;omega
    have:=Int.mul_nonneg hp (show 0<=xs.getD j 0-now.getD j 0 by omega);omega
   .have:xs.getD j 0-now.getD j 0=0:=by omega
    rw[this,Int.mul_zero];exact Int.le_refl _
  rw[a7n,a3Z,p1,p2,k]at n;omega
section
variable {P:Program}{w:World}{K:PySem.W.Frag}{mg:Str->Option Value}{base:Heap}
inductive IspBelow(vs:List V)(H:Hp)(Q:VK)(E:XK):Prop
 |mk (x:_) (y:_) (xs:_) (ys:_) (_:vs=[x,y]) (_:IT H x xs) (_:IT H y ys) (_:xs.length<=1000) (_:∀H',Same H H'->Q (.bl (Bel xs ys)) H'):IspBelow  vs H Q E
def a4g:Sp:=λvs H Q E=>IspBelow  vs H Q E
theorem b0r:FnScope ["one","other"] ["one","other"] (A1 a1J):=⟨rfl,rfl,rfl,by decide +kernel,rfl,by decide +kernel,by decide +kernel⟩
theorem b1r(F:FunAt K mg "below" a1J ["one","other"])(T:Tx mg):Ok P w K mg base "below" 1 ["one","other"] a4g:=by
 refine F.okJ b0r (λvs H Q E h=>?_) (λe f A outer s H vs Q E hr h=>?_)
 .obtain⟨x,y,xs,ys,rfl,_⟩:=h;rfl
 .obtain⟨_,_,xs,ys,rfl,⟨a,rfl,ha⟩,⟨b,rfl,hb⟩,hl,k⟩:=h;refine⟨_,(A4 (B0 (a2D K rfl T.b_all (jaC (B9 (N:=["a","b"]) (src:=[none,none]) (V7 K rfl T.b_zip (jaC (jv 0) (jaC (jv 1) jaN))) (by show B8 _ _=true;rfl) (by rfl) (by rfl)
 (λ_ _ _ _ _=>(S8 K 2 (B5 (A7 (i:=0) (show(["a","b"]:List Str).Nodup by decide +kernel) rfl (Or.inl rfl)) (B5 (A7 (i:=1) (show(["a","b"]:List Str).Nodup by decide +kernel) rfl (Or.inl rfl)) M0)))) (λ_ _ _ _ _=>C2) (λ_ _ _ _ _=>(b1E (jv 0) (jv 1)))) jaN)))),?_⟩
  refine⟨_,rfl,_,rfl,true,true,a,b,rfl,⟨_,SqT.of ha⟩,⟨_,SqT.of hb⟩,?_⟩;refine a4S (caps:=[]) (λx y=>V.bl (decide (x<=y))) (sqt ha) (sqt hb) hl (λH' s=>⟨sqt (s _ _ ha),sqt (s _ _ hb)⟩) rfl (λx y H1 d _ q=>⟨_,rfl,_,rfl,_,_,rfl,rfl,q⟩) λH1 p s hp=>?_;refine⟨false,p,_,rfl,SqL.of A0,?_,?_⟩
  .rw[List.all_eq_true];intro v c;obtain⟨i,hi,rfl⟩:=List.mem_iff_getElem.mp c;rw[List.getElem_zipWith];rfl
  .rw[b6S];exact k _ (s.upd hp)
inductive IspUnit(vs:List V)(H:Hp)(Q:VK)(E:XK):Prop
 |mk (wd:Int) (n j:Nat) (_:vs=[.int wd,.int j]) (_:wd=n) (_:n<=1000) (_:j<n) (_:∀v H',Same H H'->IT H' v ((List.range n).map λi=>if i=j then 1 else 0)->Q v H'):IspUnit  vs H Q E
def b0g:Sp:=λvs H Q E=>IspUnit  vs H Q E
theorem b2X:FnScope ["width","j"] ["width","j"] (A1 a4m):=⟨rfl,rfl,rfl,by decide +kernel,rfl,by decide +kernel,by decide +kernel⟩
theorem b3M(F:FunAt K mg "unit" a4m ["width","j"])(T:Tx mg):Ok P w K mg base "unit" 1 ["width","j"] b0g:=by
 refine F.okJ b2X (λvs H Q E h=>?_) (λc f A outer s H vs Q E hr h=>?_)
 .obtain⟨_,n,j,rfl,_⟩:=h;rfl
 .obtain⟨_,n,j,rfl,rfl,hn,hj,k⟩:=h;refine⟨_,(A4 (B0 (B6 K rfl T.b_tuple (jaC (B9 (N:=["k","j"]) (src:=[none,some 1]) (D9 rfl T.b_range (jaC (jv 0) jaN)) (by show B8 _ _=true;rfl) (by rfl) (by rfl)
 (λ_ _ _ _ _=>(A7 (i:=0) (show(["k","j"]:List Str).Nodup by decide +kernel) rfl (Or.inl rfl))) (λ_ _ _ _ _=>C2) (λ_ _ _ _ _=>(b7E (a5M (jv 0) (jv 1)) A6 A6))) jaN)))),?_⟩
  refine⟨_,rfl,n,rfl,by omega,by omega,?_⟩;rw[Int.toNat_natCast];refine S1 (caps:=[some (.int j)]) (λi=>V.int (if i=j then 1 else 0)) hn rfl (λi H1 b hi _ q=>?_) λH1 p s hp=>?_
  .refine⟨_,rfl,_,rfl,rfl,_,rfl,a0T (λe=>?_) (λe=>?_)⟩
   .have e1:(i:Int)=(j:Int):=by simpa using e
    have a:i=j:=by omega
    rw[if_pos a]at q;exact q
   .have e1:¬(i:Int)=(j:Int):=by simpa using e
    have a:i≠j:=by omega
    rw[if_neg a]at q;exact q
  .rw[show((List.range n).map λi=>V.int (if i=j then 1 else 0))=((List.range n).map λi=>if i=j then(1:Int)else 0).map V.int by rw[List.map_map];rfl];refine⟨p,_,rfl,.inl ⟨SqL.of A0,λl hl=>?_⟩⟩;exact k _ _ ((s.upd hp).upd hl) ⟨l,rfl,A0⟩
noncomputable def cV:Option Int->V
 |none=>.non
 |some c=>.int c
noncomputable def a9v(c:Option Int)(x:Int):Bool:=match c with|none=>true|some c=>decide (x<=c)
noncomputable def Wi(cs:List (Option Int))(xs:List Int):Bool:=(List.zipWith a9v cs xs).all id
theorem b6U(cs:List (Option Int))(xs:List Int):(List.zipWith (λc x=>V.bl (a9v c x)) cs xs).all trV=Wi cs xs:=by
 unfold Wi;induction cs generalizing xs with
 |nil=>rfl
 |cons c cs ih =>
  cases xs with
  |nil=>rfl
  |cons x xs=>rw[List.zipWith_cons_cons,List.zipWith_cons_cons,List.all_cons,List.all_cons,ih];rfl
inductive IspWithin(vs:List V)(H:Hp)(Q:VK)(E:XK):Prop
 |mk (a b:Addr) (cs:List (Option Int)) (xs:List Int) (_:vs=[.ref a,.ref b]) (_:H a=some (.tup (cs.map cV))) (_:H b=some (.tup (xs.map V.int))) (_:cs.length<=1000) (_:∀H',Same H H'->Q (.bl (Wi cs xs)) H'):IspWithin  vs H Q E
def a5h:Sp:=λvs H Q E=>IspWithin  vs H Q E
theorem a8F:FnScope ["caps","one"] ["caps","one"] (A1 a0m):=⟨rfl,rfl,rfl,by decide +kernel,rfl,by decide +kernel,by decide +kernel⟩
theorem a8U(F:FunAt K mg "within" a0m ["caps","one"])(T:Tx mg):Ok P w K mg base "within" 1 ["caps","one"] a5h:=by
 refine F.okJ a8F (λvs H Q E h=>?_) (λg f A outer s H vs Q E hr h=>?_)
 .obtain⟨a,b,cs,xs,rfl,_⟩:=h;rfl
 .obtain⟨a,b,cs,xs,rfl,ha,hb,hl,k⟩:=h;refine⟨_,(A4 (B0 (a2D K rfl T.b_all (jaC (B9 (N:=["cap","number"]) (src:=[none,none]) (V7 K rfl T.b_zip (jaC (jv 0) (jaC (jv 1) jaN))) (by show B8 _ _=true;rfl) (by rfl) (by rfl)
 (λ_ _ _ _ _=>(S8 K 2 (B5 (A7 (i:=0) (show(["cap","number"]:List Str).Nodup by decide +kernel) rfl (Or.inl rfl)) (B5 (A7 (i:=1) (show(["cap","number"]:List Str).Nodup by decide +kernel) rfl (Or.inl rfl)) M0)))) (λ_ _ _ _ _=>C2) (λ_ _ _ _ _=>(b7U (b6l (jv 0) a0x) (a7W (b1E (jv 1) (jv 0)))))) jaN)))),?_⟩
  refine⟨_,rfl,_,rfl,true,true,a,b,rfl,⟨_,SqT.of ha⟩,⟨_,SqT.of hb⟩,?_⟩;refine b2E (caps:=[]) cV V.int (λc x=>V.bl (a9v c x)) hl (λH' s=>⟨sqt (s _ _ ha),sqt (s _ _ hb)⟩) rfl (λc x H1 e _ _ _ q=>?_) λH1 p s hp=>?_
  .cases c with
   |none=>exact⟨_,rfl,rfl,true,rfl,Q7 (q _ (Same.refl _))⟩
   |some c=>exact⟨_,rfl,rfl,false,rfl,J4 ⟨_,rfl,_,rfl,_,_,rfl,rfl,q _ (Same.refl _)⟩⟩
  refine⟨false,p,_,rfl,SqL.of A0,?_,?_⟩
  .rw[List.all_eq_true];intro v d;obtain⟨i,hi,rfl⟩:=List.mem_iff_getElem.mp d;rw[List.getElem_zipWith];rfl
  .rw[b6U];exact k _ (s.upd hp)
end
noncomputable def K5(n j:Nat):List Int:=(List.range n).map λi=>if i=j then(1:Int)else 0
noncomputable def N3(cs:List (Option Int)):LLI:=((List.range cs.length).map (K5 cs.length)).filter λu=>Wi cs u
noncomputable def a8m(c:Option Int)(x:Int):Bool:=match c with|none=>true|some c=>decide (x<c)
noncomputable def StP(rss:LLI)(cs:List (Option Int))(ys:List Int):List Nat:=((List.range ys.length).filter λj=>decide (a1b rss ys j<0)).filter λj=>a8m (cs.getD j none) (ys.getD j 0)
section
variable {P:Program}{w:World}{K:PySem.W.Frag}{mg:Str->Option Value}{base:Heap}
inductive IspFirst(vs:List V)(H:Hp)(Q:VK)(E:XK):Prop
 |mk (a:Addr) (cs:List (Option Int)) (_:vs=[.ref a]) (_:H a=some (.tup (cs.map cV))) (_:0<=cs.length) (_:cs.length<=100) (_:∀p zs tss H',Same H H'->H' p=some (.tup zs)->Its H' zs tss->tss.Perm (N3 cs)->D4 tss->Q (.ref p) H'):IspFirst  vs H Q E
def a7w:Sp:=λvs H Q E=>IspFirst  vs H Q E
theorem sc_first_steps:FnScope ["caps","units"] ["caps"] (A1 J7):=⟨rfl,rfl,rfl,by decide +kernel,rfl,by decide +kernel,by decide +kernel⟩
theorem a2o(F:FunAt K mg "first_steps" J7 ["caps"])(T:Tx mg)(c:Ok P w K mg base "unit" 1 ["width","j"] b0g)(b:Ok P w K mg base "within" 1 ["caps","one"] a5h):Ok P w K mg base "first_steps" 2 ["caps"] a7w:=by
 refine F.okJ sc_first_steps (λvs H Q E h=>?_) (λS f A outer s H vs Q E hr h=>?_)
 .obtain⟨a,cs,rfl,_⟩:=h;rfl
 .obtain⟨a,cs,rfl,ha,h1,h2,k⟩:=h;have hz:(3000:Nat)<=sizeLine:=by rw[sizeLine_eq];decide
  refine⟨_,(A3 (a7Q (i:=1) sc_first_steps.nd rfl (Or.inl rfl) (N:=["j","caps"]) (src:=[none,some 0]) (D9 rfl T.b_range (jaC (G2 K rfl T.b_len (jaC (jv 0) jaN)) jaN)) (by show B8 _ _=true;rfl) (by rfl) (by rfl)
 (λ_ _ _ _ _=>(A7 (i:=0) (show(["j","caps"]:List Str).Nodup by decide +kernel) rfl (Or.inl rfl))) (λ_ _ _ _ _=>C2) (λ_ _ _ _ _=>(A9 c (hr.mono (by omega)) rfl (jaC (G2 K rfl T.b_len (jaC (jv 1) jaN)) (jaC (jv 0) jaN)))))
 (A4 (B0 (B6 K rfl T.b_tuple (jaC (a2C K rfl T.b_sorted (jaC (B9 (N:=["one","caps"]) (src:=[none,some 0]) (E6 K (jv 1)) (by show B8 _ _=true;rfl) (by rfl) (by rfl)
 (λ_ _ _ _ _=>(A7 (i:=0) (show(["one","caps"]:List Str).Nodup by decide +kernel) rfl (Or.inl rfl))) (λ_ _ _ _ _=>(a2B (G1 K (A9 b (hr.mono (by omega)) rfl (jaC (jv 1) (jaC (jv 0) jaN)))))) (λ_ _ _ _ _=>(jv 0))) jaN)) jaN))))),?_⟩
  refine⟨_,rfl,a,_,rfl,.inr (SqT.of ha),_,rfl,by rw[List.length_map];omega,by rw[List.length_map];omega,?_⟩;rw[Int.toNat_natCast,List.length_map];refine a0q (caps:=[some (.ref a)]) (by omega) rfl (λi ys H'=>Same H H'/\Its H' ys ((List.range i).map (K5 cs.length))) ⟨Same.refl H,.nil⟩ (λi ys H' h=>by rw[h.2.1];simp) ?_ ?_
  .rintro i ys H' hi ⟨s',hI⟩;refine⟨_,rfl,a,_,rfl,.inr (SqT.of (s' _ _ ha)),_,rfl,_,cs.length,i,rfl,by rw[List.length_map],by omega,hi,λv H2 s2 t=>⟨s'.trans s2,?_⟩⟩;rw[List.range_succ,List.map_append];exact(hI.same s2).snoc t
  .rintro ys H' ⟨s',hI⟩ p hp;dsimp only[A8];have s1:=s'.upd (o:=.lst ys) hp;have g:=hI.same ((Same.refl H').upd (o:=.lst ys) hp);have x:upd H' p (.lst ys) p=some (.lst ys):=A0;generalize upd H' p (.lst ys)=H1 at s1 g x;refine⟨_,rfl,p,rfl,⟨_,SqL.of x⟩,?_⟩;have O:ys.length=cs.length:=by rw[hI.1];simp
   refine a2v (caps:=[some (.ref a)]) (λu=>Wi cs u) (by omega) (λH2 s2=>SqL.of (s2 _ _ x)) g rfl (λv r H2 R hr t s2 q=>?_) λH2 p2 d s2 m z=>?_
   .obtain⟨va,rfl,hva⟩:=t;exact⟨_,rfl,_,rfl,a,va,cs,r,rfl,(s1.trans s2) _ _ ha,hva,by omega,λD n=>⟨Wi cs r,rfl,q D n⟩⟩
   have n:=(s1.trans s2).upd (o:=.lst d) m;have e:=z.same ((Same.refl H2).upd (o:=.lst d) m);have J:upd H2 p2 (.lst d) p2=some (.lst d):=A0;generalize upd H2 p2 (.lst d)=D at n e J;refine⟨p2,d,_,rfl,.inl (SqL.of J),e,λr hr=>?_,λl zs tss G B C y _=>?_⟩
   .obtain⟨j,hj,rfl⟩:=List.mem_map.mp (List.mem_filter.mp hr).1;have:=List.mem_range.mp hj;simp[K5];omega
   refine⟨l,_,rfl,.inl ⟨SqL.of A0,λl2 I=>?_⟩⟩;have L:=(Same.refl D).upd (o:=.lst zs) G;have M:=(Same.refl (upd D l (.lst zs))).upd (o:=.tup zs) I;exact k l2 zs tss _ ((n.trans L).trans M) A0 ((B.same L).same M) C y
inductive IspRaised(vs:List V)(H:Hp)(Q:VK)(E:XK):Prop
 |mk (y:V) (ys:List Int) (j:Nat) (_:vs=[y,.int j]) (_:IT H y ys) (_:j<ys.length) (_:ys.length<=1000) (_:∀v H',Same H H'->IT H' v (bump ys j)->Q v H'):IspRaised  vs H Q E
def a5i:Sp:=λvs H Q E=>IspRaised  vs H Q E
theorem a8G:FnScope ["one","j"] ["one","j"] (A1 a0n):=⟨rfl,rfl,rfl,by decide +kernel,rfl,by decide +kernel,by decide +kernel⟩
theorem a8V(F:FunAt K mg "raised" a0n ["one","j"]):Ok P w K mg base "raised" 1 ["one","j"] a5i:=by
 refine F.okJ a8G (λvs H Q E h=>?_) (λb f A outer s H vs Q E hr h=>?_)
 .obtain⟨y,ys,j,rfl,_⟩:=h;rfl
 .obtain⟨_,ys,j,rfl,⟨a,rfl,ha⟩,hj,hl,k⟩:=h;refine⟨_,(A4 (B0 (a7V (a7V (b4W K (jv 0) a1N (a1M (jv 1))) (E8 (jaC (T7 (K4 K (jv 0) (jv 1)) A6) jaN))) (b4W K (jv 0) (a1M (T7 (jv 1) A6)) a1N)))),?_⟩;exact b5u (i:=0) (j:=1) (a:=a) (xs:=ys) (k:=j) (z:=ys.getD j 0+1) rfl rfl ha hj hl (λH' N s' q=>⟨_,rfl,_,rfl,a,_,_,_,rfl,rfl,SqT.of (s' _ _ ha),N2 hj,_,_,rfl,rfl,q⟩) k
inductive IspSteps(vs:List V)(H:Hp)(Q:VK)(E:XK):Prop
 |mk (a c:Addr) (y:V) (us:List V) (rss:LLI) (cs:List (Option Int)) (ys:List Int) (_:vs=[.ref a,.ref c,y]) (_:H a=some (.tup us)) (_:Its H us rss) (_:H c=some (.tup (cs.map cV))) (_:IT H y ys) (_:us.length<=1000) (_:ys.length<=100) (_:cs.length=ys.length) (_:Rs ys.length rss) (_:Sm ys) (_:∀p ps H',Same H H'->H' p=some (.lst ps)->Prs H' ps (bump ys) (StP rss cs ys)->Q (.ref p) H'):IspSteps  vs H Q E
def a7r:Sp:=λvs H Q E=>IspSteps  vs H Q E
theorem b2o{cs:List (Option Int)}{j:Nat}(h:j<cs.length):atI (cs.map cV) (j:Int)=some (cV (cs.getD j none)):=by
 refine a1U ?_;rw[List.getElem?_map,List.getElem?_eq_getElem h];simp[List.getD_eq_getElem?_getD,h]
theorem sc_steps:FnScope ["rows","caps","one","places"] ["rows","caps","one"] (A1 a1G):=⟨rfl,rfl,rfl,by decide +kernel,rfl,by decide +kernel,by decide +kernel⟩
theorem b1j(F:FunAt K mg "steps" a1G ["rows","caps","one"])(T:Tx mg)(d:Ok P w K mg base "falls" 3 ["rows","one"] a7x)(b:Ok P w K mg base "raised" 1 ["one","j"] a5i):Ok P w K mg base "steps" 4 ["rows","caps","one"] a7r:=by
 refine F.okJ sc_steps (λvs H Q E h=>?_) (λW f A outer s H vs Q E hr h=>?_)
 .obtain⟨a,c,y,us,rss,cs,ys,rfl,_⟩:=h;rfl
 .obtain⟨a,c,_,us,rss,cs,ys,rfl,ha,hI,hc,⟨y,rfl,hy⟩,hl,hn,hcl,hR,hs,k⟩:=h;have hz:(3000:Nat)<=sizeLine:=by rw[sizeLine_eq];decide
  refine⟨_,(A3 (a7Q (i:=3) sc_steps.nd rfl (Or.inl rfl) (N:=["j","caps","one"]) (src:=[none,some 1,some 2]) (O9 K (A9 d (hr.mono (by omega)) rfl (jaC (jv 0) (jaC (jv 2) jaN)))) (by show B8 _ _=true;rfl) (by rfl) (by rfl)
 (λ_ _ _ _ _=>(A7 (i:=0) (show(["j","caps","one"]:List Str).Nodup by decide +kernel) rfl (Or.inl rfl))) (λ_ _ _ _ _=>(a2B (a4z (b1D (b1H (K4 K (jv 1) (jv 0)) a0x) (a6F (b1G (K4 K (jv 2) (jv 0)) (K4 K (jv 1) (jv 0)))))))) (λ_ _ _ _ _=>(jv 0)))
 (A4 (B0 (B9 (N:=["j","one"]) (src:=[none,some 2]) (E6 K (jv 3)) (by show B8 _ _=true;rfl) (by rfl) (by rfl)
 (λ_ _ _ _ _=>(A7 (i:=0) (show(["j","one"]:List Str).Nodup by decide +kernel) rfl (Or.inl rfl))) (λ_ _ _ _ _=>C2) (λ_ _ _ _ _=>(E8 (jaC (jv 0) (jaC (A9 b (hr.mono (by omega)) rfl (jaC (jv 1) (jaC (jv 0) jaN))) jaN)))))))),?_⟩
  refine⟨_,rfl,_,rfl,a,_,us,rss,ys,rfl,ha,hI,⟨y,rfl,hy⟩,hl,by omega,hR,hs,λv H1 s1 r=>?_⟩;obtain⟨R,rfl,g⟩:=r;refine⟨R,rfl,⟨_,SqT.of g⟩,?_⟩;rw[List.map_map]at g;have n:∀j∈(List.range ys.length).filter (λj=>decide (a1b rss ys j<0)),j<ys.length:=λj l=>List.mem_range.mp (List.mem_filter.mp l).1;have B:((List.range ys.length).filter (λj=>decide (a1b rss ys j<0))).length<=ys.length:=Nat.le_trans (List.length_filter_le _ _) (by simp);refine a8y (caps:=[some (.ref c),some (.ref y)]) (λ(j:Nat)=>V.int j) (λj=>a8m (cs.getD j none) (ys.getD j 0)) (by omega) (λH' s=>SqT.of (s _ _ g)) rfl (λj H2 S l s2 q=>?_) λH2 p2 s2 G=>?_
  .have hj':=n j l;refine⟨_,rfl,_,rfl,c,_,_,_,rfl,rfl,SqT.of ((s1.trans s2) _ _ hc),b2o (by omega),rfl,_,rfl,?_⟩;cases e:cs.getD j none with
   |none =>
    rw[e]at q;exact Q7 (q _ (Same.refl _))
   |some z =>
    rw[e]at q;refine J4 ⟨_,rfl,_,rfl,y,_,_,_,rfl,rfl,SqT.of ((s1.trans s2) _ _ hy),N2 hj',_,rfl,_,rfl,c,_,_,_,rfl,rfl,SqT.of ((s1.trans s2) _ _ hc),b2o (by omega),?_⟩;rw[e];exact⟨_,_,rfl,rfl,_,rfl,q _ (Same.refl _)⟩
  have u:=(s1.trans s2).upd (o:=.lst ((StP rss cs ys).map λ(j:Nat)=>V.int j)) G;have C:upd H2 p2 (.lst ((StP rss cs ys).map λ(j:Nat)=>V.int j)) p2=some (.lst ((StP rss cs ys).map λ(j:Nat)=>V.int j)):=A0;have t:∀j∈StP rss cs ys,j<ys.length:=λj l=>n j (List.mem_filter.mp l).1;have L:(StP rss cs ys).length<=ys.length:=Nat.le_trans (List.length_filter_le _ _) B;have M:((List.range ys.length).filter λj=>decide (a1b rss ys j<0)).filter (λj=>a8m (cs.getD j none) (ys.getD j 0))=StP rss cs ys:=rfl;rw[M];dsimp only[A8];generalize upd H2 p2 (.lst ((StP rss cs ys).map λ(j:Nat)=>V.int j))=J at u C;refine⟨_,rfl,p2,rfl,⟨_,SqL.of C⟩,?_⟩;refine Q9 (xs:=(StP rss cs ys).map λ(j:Nat)=>V.int j) (by rw[List.length_map];omega) (λi qs H'=>Same J H'/\Prs H' qs (bump ys) ((StP rss cs ys).take i)) ⟨Same.refl J,Prs.nil⟩ (λi qs H' _ h=>⟨SqL.of (h.1 _ _ C),by rw[h.2.1];exact List.length_take_le _ _⟩) ?_ ?_
  .rintro i x qs H' hx ⟨s',hP⟩;rw[List.getElem?_map]at hx;cases p:(StP rss cs ys)[i]? with
   |none=>rw[p]at hx;cases hx
   |some j =>
    rw[p]at hx;cases hx;have l:=t j (List.mem_of_getElem? p);refine⟨Sub.one,_,rfl,_,rfl,_,rfl,_,ys,j,rfl,⟨y,rfl,(u.trans s') _ _ hy⟩,l,by omega,λv O I r=>?_⟩;refine⟨by show 2<=sizeLine;omega,λU D=>?_⟩;have m:=(Same.refl O).upd (o:=.tup [.int j,v]) D;refine⟨(s'.trans I).trans m,?_⟩;rw[List.take_add_one,p];exact((hP.same I).same m).snoc A0 (r.same m)
  .rintro qs H' ⟨s',hP⟩ p4 hp4;rw[List.length_map,List.take_length]at hP;have m:=(Same.refl H').upd (o:=.lst qs) hp4;exact k p4 qs _ ((u.trans s').trans m) A0 (hP.same m)
noncomputable def Bar(fss:LLI)(ys:List Int)(j:Nat):Bool:=fss.any λf=>decide (f.getD j 0=ys.getD j 0) && Bel f ys
inductive IspBarred(vs:List V)(H:Hp)(Q:VK)(E:XK):Prop
 |mk (l:Addr) (y:V) (fs:List V) (fss:LLI) (ys:List Int) (j:Nat) (_:vs=[.ref l,y,.int j]) (_:H l=some (.lst fs)) (_:Its H fs fss) (_:IT H y ys) (_:j<ys.length) (_:ys.length<=1000) (_:(∀f∈fss,f.length=ys.length)) (_:∀H',Same H H'->Q (.bl (Bar fss ys j)) H'):IspBarred  vs H Q E
def a5n:Sp:=λvs H Q E=>IspBarred  vs H Q E
theorem sc_is_barred:FnScope ["found","one","j","answer"] ["found","one","j"] (A1 N5):=⟨rfl,rfl,rfl,by decide +kernel,rfl,by decide +kernel,by decide +kernel⟩
theorem a4u(F:FunAt K mg "is_barred" N5 ["found","one","j"])(T:Tx mg)(c:Ok P w K mg base "below" 1 ["one","other"] a4g):Ok P w K mg base "is_barred" 2 ["found","one","j"] a5n:=by
 refine F.okJ sc_is_barred (λvs H Q E h=>?_) (λv f A outer s H vs Q E hr h=>?_)
 .obtain⟨l,y,fs,fss,ys,j,rfl,_⟩:=h;rfl
 .obtain⟨l,_,fs,fss,ys,j,rfl,hl,hI,⟨y,rfl,hy⟩,hj,hn,hL,k⟩:=h;refine⟨_,(A3 (J2 (E6 K (jv 0)) (A7 (i:=3) sc_is_barred.nd rfl (Or.inl rfl))
 (A4 (E9 (a4z (a0R (a5M (K4 K (jv 3) (jv 2)) (K4 K (jv 1) (jv 2))) (X9 (G1 K (A9 c (hr.mono (by omega)) rfl (jaC (jv 3) (jaC (jv 1) jaN)))))))
 (A4 (B0 a1w))
 D0)))
 (A4 (B0 a1w))),?_⟩
  refine⟨_,rfl,l,rfl,⟨_,SqL.of hl⟩,?_⟩;refine M9 (K:=K) (a:=l) (xs:=fs) (λi σ H'=>Ex1 λo=>An3 (σ=[some (.ref l),some (.ref y),some (.int j),o]) (Same H H') (Bar (fss.take i) ys j=false)) ⟨none,rfl,Same.refl H,rfl⟩ (λi σ H' _ ⟨_,_,s',_⟩=>SqL.of (s' _ _ hl)) ?_ ?_
  .rintro i x σ H' hx ⟨o,rfl,s',hB⟩;obtain⟨r,hr,m,n⟩:=hI.mem hx;obtain⟨q,rfl,d⟩:=n.same s';have t:=hL r hr;have g:Bar (fss.take (i+1)) ys j=(decide (r.getD j 0=ys.getD j 0) && Bel r ys):=by
    unfold Bar at hB⊢;rw[List.take_add_one,m,List.any_append,hB];simp
   have b:(decide (r.getD j 0=ys.getD j 0) && Bel r ys)=true->Bar fss ys j=true:=λe=>by
    unfold Bar;rw[List.any_eq_true];exact⟨r,hr,e⟩
   dsimp only[A8];refine⟨_,rfl,_,rfl,q,_,_,_,rfl,rfl,SqT.of d,N2 (by omega),_,rfl,_,rfl,y,_,_,_,rfl,rfl,SqT.of (s' _ _ hy),N2 hj,rfl,_,rfl,?_⟩;have u:decide (V.int (r.getD j 0)=V.int (ys.getD j 0))=decide (r.getD j 0=ys.getD j 0):=by simp
   rw[u];cases e:decide (r.getD j 0=ys.getD j 0)with
   |false =>
    rw[e]at g;refine J4 (J4 ?_);exact⟨_,rfl,s',g⟩
   |true =>
    rw[e]at g b;refine Q7 ⟨_,rfl,_,rfl,_,_,r,ys,rfl,⟨q,rfl,d⟩,⟨y,rfl,s' _ _ hy⟩,by omega,λH2 s2=>⟨_,rfl,?_⟩⟩;cases p:Bel r ys with
    |false =>
     rw[p]at g;exact J4 ⟨_,rfl,s'.trans s2,g⟩
    |true =>
     rw[p]at b;refine Q7 ?_;have:=k H2 (s'.trans s2);rw[b rfl]at this;exact this
  .rintro σ H' ⟨o,rfl,s',hB⟩;rw[hI.1,List.take_length]at hB;have:=k H' s';rw[hB]at this;exact this
end
def a0f(rss:LLI)(cs:List (Option Int))(F:LLI)(u v:List Int):Prop:=∃j,j∈StP rss cs u/\v=bump u j/\Bar F v j=false
theorem a1P{a b:List Int}(h:a.map (Sum.inl:Int->Key)=b.map Sum.inl):a=b:=by
 induction a generalizing b with
 |nil=>cases b with|nil=>rfl|cons _ _=>cases h
 |cons x a ih =>
  cases b with
  |nil=>cases h
  |cons y b =>
   injection h with h1 h2
   injection h1 with h1
   rw[h1,ih h2]
theorem a2z{kvs:List (List Key×V)}{a:LLI}{r:List Int}(e:kvs.map (·.1)=IK a):D7 kvs (r.map Sum.inl)=none↔r∉a:=by
 constructor
 .intro h hm;refine a1Z h ?_;rw[e];exact List.mem_map.mpr ⟨r,hm,rfl⟩
 .intro h;cases c:D7 kvs (r.map Sum.inl)with
  |none=>rfl
  |some v =>
   have:=a7h c;rw[e]at this;obtain⟨q,d,b⟩:=List.mem_map.mp this;exact absurd (a1P b ▸ d) h
theorem b1C{kvs:List (List Key×V)}{a:LLI}{r:List Int}(e:kvs.map (·.1)=IK a):(D7 kvs (r.map Sum.inl)).isSome=decide (r∈a):=by
 by_cases h:r∈a
 .rw[decide_eq_true h];cases b:D7 kvs (r.map Sum.inl)with
  |none=>exact absurd h ((a2z e).mp b)
  |some v=>rfl
 .rw[decide_eq_false h,(a2z e).mpr h];rfl
theorem b1B(r:List Int):(r.map (Sum.inl:Int->Key)).map kV=r.map V.int:=by rw[List.map_map];rfl
theorem b4j{H H':Hp}{vs:List V}{rss:LLI}{d:Addr}{kvs:List (List Key×V)}(h:Its H vs rss)(hd:H d=some (.dT kvs))(o:Off [d] H H'):Its H' vs rss :=
 ⟨h.1,λi v e=>let ⟨r,e1,a,e2,q⟩:=h.2 i v e;⟨r,e1,a,e2,o _ _ (by simpa using G5 q hd (by intro z;cases z)) q⟩⟩
theorem a2g{H H1 H2:Hp}{a:Addr}(s:Same H H1)(ha:H a=none)(o:Off [a] H1 H2):Same H H2:=λb u e=>o b u (by simpa using A5 e ha) (s b u e)
structure NxPre(H:Hp)(a c f l:Addr)(us:List V)(rss:LLI)(cs:List (Option Int))(fs:List V)(F:LLI)(ls:List V)(L:LLI):Prop where
 ha:H a=some (.tup us)
 hI:Its H us rss
 hc:H c=some (.tup (cs.map cV))
 hf:H f=some (.lst fs)
 hF:Its H fs F
 hl:H l=some (.lst ls)
 hL:Its H ls L
 us1:us.length<=1000
 n1:0<=cs.length
 n2:cs.length<=100
 hR:Rs cs.length rss
 fw:∀v∈F,v.length=cs.length
 lw:∀v∈L,v.length=cs.length/\Sm v
 big:L.length*cs.length+100<=100000
section
variable {P:Program}{w:World}{K:PySem.W.Frag}{mg:Str->Option Value}{base:Heap}
inductive IspNext(vs:List V)(H:Hp)(Q:VK)(E:XK):Prop
 |mk (a c f l:Addr) (r:V) (us:List V) (rss:LLI) (cs:List (Option Int)) (fs:List V) (F:LLI) (ls:List V) (L:LLI) (_:vs=[.ref a,.ref c,.ref f,.ref l,r]) (_:NxPre H a c f l us rss cs fs F ls L) (_:(r=.non∨∃m:Int,r=.int m/\0<=m)) (_:∀p zs tss H',Same H H'->H p=none->H' p=some (.lst zs)->Its H' zs tss->D4 tss->tss.Nodup->(∀v∈tss,∃u∈L,a0f rss cs F u v)->((∀u∈L,∀v,a0f rss cs F u v->v∈tss)∨∃m:Int,r=.int m/\m<tss.length)->tss.length<=L.length*cs.length->(∀m:Int,r=.int m->(tss.length:Int)<=m+cs.length)->Q (.ref p) H'):IspNext  vs H Q E
def b0h:Sp:=λvs H Q E=>IspNext  vs H Q E
theorem sc_next_level:FnScope ["rows","caps","found","level","room","met","one","j","more"] ["rows","caps","found","level","room"] (A1 K9):=⟨rfl,rfl,rfl,by decide +kernel,rfl,by decide +kernel,by decide +kernel⟩
theorem a3c(F':FunAt K mg "next_level" K9 ["rows","caps","found","level","room"])(T:Tx mg)(O:Ok P w K mg base "steps" 4 ["rows","caps","one"] a7r)(n:Ok P w K mg base "is_barred" 2 ["found","one","j"] a5n):Ok P w K mg base "next_level" 5 ["rows","caps","found","level","room"] b0h:=by
 refine F'.okJ sc_next_level (λvs H Q E h=>?_) (λd0 f A outer s H vs Q E hr h=>?_)
 .obtain⟨a,c,f,l,r,us,rss,cs,fs,F,ls,L,rfl,_⟩:=h;rfl
 .obtain⟨a,c,f,l,r,us,rss,cs,fs,F,ls,L,rfl,N,hroom,k⟩:=h;have S:=hr.u60;have hz:(100000:Nat)<=sizeLine:=by rw[sizeLine_eq];decide
  have hbig:=N.big;refine⟨_,(A3 (B1 (i:=5) sc_next_level.nd rfl (Or.inl rfl) a4C)
 (A3 (J2 (E6 K (jv 3)) (A7 (i:=6) sc_next_level.nd rfl (Or.inl rfl))
 (A3 (J2 (E6 K (A9 O (hr.mono (by omega)) rfl (jaC (jv 0) (jaC (jv 1) (jaC (jv 6) jaN))))) (S8 K 2 (B5 (A7 (i:=7) sc_next_level.nd rfl (Or.inl rfl)) (B5 (A7 (i:=8) sc_next_level.nd rfl (Or.inl rfl)) M0)))
 (A4 (E9 (a4z (a0R (a3y S (jv 8) (jv 5) (by with_unfolding_all rfl)) (X9 (S5 (G1 K (A9 n (hr.mono (by omega)) rfl (jaC (jv 2) (jaC (jv 8) (jaC (jv 7) jaN)))))))))
 (A4 (a7R S (jv 5) (jv 8) a1w))
 D0)))
 (A4 (E9 (a4z (a0R (b3Z (jv 4) a0x) (X9 (a7P (b4d rfl T.b_len (jaC (jv 5) jaN)) (jv 4)))))
 (A4 b1M)
 D0))))
 (A4 (B0 (b1R rfl T.b_sorted (jaC (jv 5) jaN)))))),?_⟩
  intro d hd;dsimp only[A8];have s0:=(Same.refl H).upd (o:=.dT []) hd;have e0:upd H d (.dT []) d=some (.dT []):=A0;generalize upd H d (.dT [])=H0 at s0 e0;have fin:∀(kvs:List (List Key×V)) (g:LLI) (σ:L2.St) (H':Hp),σ[5]?=some (some (.ref d))->Same H H'->H' d=some (.dT kvs)->kvs.map (·.1)=IK g->g.Nodup->(∀v∈g,∃u∈L,a0f rss cs F u v)->((∀u∈L,∀v,a0f rss cs F u v->v∈g)∨∃m:Int,r=.int m/\m<g.length)->g.length<=L.length*cs.length->(∀m:Int,r=.int m->(g.length:Int)<=m+cs.length) ->
    b5j (tCB a6v (a5e (Y9 5) a1q)) {nx:=λx H'=>Q V.non H',rt:=Q} σ H':=by
   intro kvs g σ H' hσ s' J B D h1 h2 W R;refine⟨_,hσ,d,kvs,g,rfl,J,B,λv y=>?_,λp zs tss hp hI G b5=>?_⟩
   .obtain⟨u,S,j,hj,rfl,_⟩:=h1 v y;rw[E5];have:=List.mem_range.mp (List.mem_filter.mp (List.mem_filter.mp hj).1).1;omega
   refine k p zs tss _ (s'.upd hp) (s'.free hp) A0 (hI.same ((Same.refl H').upd hp)) b5 (G.symm.nodup D) (λv y=>h1 v (G.mem_iff.mp y)) ?_ (by rw[G.length_eq];exact W) λm e=>by rw[G.length_eq];exact R m e
   rcases h2 with h2|⟨m,e,h2⟩
   .exact .inl λu S v y=>G.mem_iff.mpr (h2 u S v y)
   .exact .inr ⟨m,e,by rw[G.length_eq];exact h2⟩
  refine⟨_,rfl,l,rfl,⟨_,SqL.of (s0 _ _ N.hl)⟩,?_⟩;refine M9 (K:=K) (a:=l) (xs:=ls) (λi σ H'=>Ex5 λo6 o7 U kvs g=>An9 (σ=[some (.ref a),some (.ref c),some (.ref f),some (.ref l),some r,some (.ref d),o6,o7,U]) (Same H H') (H' d=some (.dT kvs)) (kvs.map (·.1)=IK g) (g.Nodup) ((∀v∈g,∃u∈L,a0f rss cs F u v)) ((∀u∈L.take i,∀v,a0f rss cs F u v->v∈g)) (g.length<=i*cs.length) (∀m:Int,r=.int m->(g.length:Int)<=m))
   ⟨none,none,none,[],[],rfl,s0,e0,rfl,List.nodup_nil,(λ_ z=>nomatch z),(λ_ z=>by simp at z),by simp,λm e=>?_⟩ (λi σ H' _ h=>by obtain⟨_,_,_,_,_,_,s',_⟩:=h;exact SqL.of (s' _ _ N.hl)) ?_ ?_
  .rcases hroom with e'|⟨m',e',hm'⟩
   .rw[e']at e;cases e
   .rw[e']at e;cases e;simpa using hm'
  .rintro i x σ H' hx ⟨o6,o7,U,kvs,g,rfl,s',J,B,D,h1,h2,W,R⟩;obtain⟨ys,a1,a2,c1⟩:=N.hL.mem hx;obtain⟨yw,b6⟩:=N.lw ys a1;have b8:i<L.length:=(List.getElem?_eq_some_iff.mp a2).1;have c5:(i+1)*cs.length<=L.length*cs.length:=Nat.mul_le_mul_right _ b8;have c3:(i+1)*cs.length=i*cs.length+cs.length:=by rw[Nat.add_mul,Nat.one_mul]
   dsimp only[A8];have b4:Rs ys.length rss:=by rw[yw];exact N.hR
   refine⟨_,rfl,_,rfl,_,rfl,a,c,x,us,rss,cs,ys,rfl,s' _ _ N.ha,N.hI.same s',s' _ _ N.hc,c1.same s',N.us1,by rw[yw];exact N.n2,yw.symm,b4,b6,λp1 ps H1 s1 Z Y=>?_⟩;have C:=s1 _ _ J;have a0:=s'.trans s1;refine⟨p1,rfl,⟨_,SqL.of Z⟩,?_⟩;have b2:∀j∈StP rss cs ys,j<ys.length:=λj hj=>List.mem_range.mp (List.mem_filter.mp (List.mem_filter.mp hj).1).1;have c4:(StP rss cs ys).length<=cs.length:=by rw[<-yw];exact Nat.le_trans (List.length_filter_le _ _) (Nat.le_trans (List.length_filter_le _ _) (by simp))
   have b9:d≠p1:=G5 C Z (by intro z;cases z);refine M9 (K:=K) (a:=p1) (xs:=ps) (λi2 σ H2=>Ex4 λo7 U kvs g=>An10 (σ=[some (.ref a),some (.ref c),some (.ref f),some (.ref l),some r,some (.ref d),some x,o7,U]) (Off [d] H1 H2) (H2 d=some (.dT kvs)) (kvs.map (·.1)=IK g) (g.Nodup) ((∀v∈g,∃u∈L,a0f rss cs F u v)) ((∀u∈L.take i,∀v,a0f rss cs F u v->v∈g)) ((∀j∈(StP rss cs ys).take i2,Bar F (bump ys j) j=false->bump ys j∈g)) (g.length<=i*cs.length+i2) (∀m:Int,r=.int m->(g.length:Int)<=m+i2))
    ⟨o7,U,kvs,g,rfl,Off.refl _ _,C,B,D,h1,h2,(λ_ z=>by simp at z),W,λm e=>by have:=R m e;omega⟩ (λi2 σ H2 _ h=>by obtain⟨_,_,_,_,_,o2,_⟩:=h;exact SqL.of (o2 _ _ (by simpa using b9.symm) Z)) ?_ ?_
   .rintro i2 q σ H2 hq ⟨o7,U,kvs,g,rfl,off2,hd2,B,D,h1,h2,h5,W,R⟩;obtain⟨j,b,v,ej,rfl,hb,y⟩:=Y.2 i2 q hq;obtain⟨va,rfl,a6⟩:=y;have a3:=List.mem_of_getElem? ej;have hj:=b2 j a3;have b7:=off2 _ _ (by simpa using G5 hb C (by intro z;cases z)) hb;have I:=off2 _ _ (by simpa using G5 a6 C (by intro z;cases z)) a6;have b0:=a0 _ _ N.hf;have b1:=off2 _ _ (by simpa using G5 b0 C (by intro z;cases z)) b0;have b3:=b4j (N.hF.same a0) C off2;have c8:i2<(StP rss cs ys).length:=(List.getElem?_eq_some_iff.mp ej).1;have c2:kvs.length=g.length:=by
     have:=congrArg List.length B;simpa[IK]using this
    have X:∀M:LLI,(∀v∈g,v∈M)->(Bar F (bump ys j) j=false->bump ys j∈M)->∀j'∈(StP rss cs ys).take (i2+1),Bar F (bump ys j') j'=false->bump ys j'∈M:=λM a9 c0 j' a7 a5=>by
     rw[List.take_add_one,ej]at a7;rcases List.mem_append.mp a7 with z|z
     .exact a9 _ (h5 j' z a5)
     .have:j'=j:=by simpa using z
      subst this;exact c0 a5
    refine⟨b,[.int j,.ref va],rfl,SqT.of b7,rfl,.int j,[.ref va],rfl,.ref va,[],rfl,rfl,?_⟩;refine⟨_,rfl,_,rfl,d,_,rfl,DGet.t hd2 (by rw[b1B];exact I),_,rfl,?_⟩;rw[b1C B];by_cases hm:bump ys j∈g
    .rw[decide_eq_true hm];refine J4 (J4 ?_);exact⟨_,_,kvs,g,rfl,off2,hd2,B,D,h1,h2,X g (λ_ z=>z) (λ_=>hm),by omega,λm e=>by have:=R m e;omega⟩
    .rw[decide_eq_false hm];refine Q7 ⟨_,rfl,_,rfl,_,rfl,f,.ref va,fs,F,bump ys j,j,rfl,b1,b3,⟨va,rfl,I⟩,by rw[E5];exact hj,by rw[E5,yw];have:=N.n2;omega,λv y=>by rw[E5,yw];exact N.fw v y,λH3 s3=>⟨_,rfl,?_⟩⟩;have a8:=s3 _ _ hd2;cases e:Bar F (bump ys j) j with
     |true =>
      refine J4 ?_;exact⟨_,_,kvs,g,rfl,off2.trans s3.off,a8,B,D,h1,h2,X g (λ_ z=>z) (λz=>by rw[e]at z;cases z),by omega,λm e=>by have:=R m e;omega⟩
     |false =>
      refine Q7 ?_;refine⟨_,rfl,_,rfl,d,_,rfl,DPut.t a8 (by rw[b1B];exact s3 _ _ I) (by omega),?_⟩;rw[a2l _ ((a2z B).mpr hm)];refine⟨_,_,_,g++[bump ys j],rfl,(off2.trans s3.off).set (by simp),A0,by rw[List.map_append,B];simp[IK],a0t D hm,λv y=>?_,λu S v y=>List.mem_append_left _ (h2 u S v y),X _ (λv y=>List.mem_append_left _ y) (λ_=>by simp),by rw[List.length_append];simp;omega,λm e=>by have:=R m e;rw[List.length_append];simp;omega⟩;rcases List.mem_append.mp y with z|z
      .exact h1 v z
      .rw[List.mem_singleton.mp z];exact⟨ys,a1,j,a3,rfl,e⟩
   .rintro σ H2 ⟨o7,U,kvs,g,rfl,off2,hd2,B,D,h1,h2,h5,W,R⟩;rw[Y.1,List.take_length]at h5;have c2:kvs.length=g.length:=by
     have:=congrArg List.length B;simpa[IK]using this
    have c6:=Y.1;have s2:Same H H2:=a2g a0 hd off2;have a4:∀u∈L.take (i+1),∀v,a0f rss cs F u v->v∈g:=λu S v y=>by
     rw[List.take_add_one,a2]at S;rcases List.mem_append.mp S with z|z
     .exact h2 u z v y
     .have:u=ys:=by simpa using z
      subst this;obtain⟨j,hj,rfl,hb⟩:=y;exact h5 j hj hb
    rcases hroom with rfl|⟨m,rfl,c7⟩
    .refine⟨_,rfl,rfl,_,rfl,J4 (J4 ?_)⟩;exact⟨_,_,_,kvs,g,rfl,s2,hd2,B,D,h1,a4,by omega,λm e=>by cases e⟩
    .refine⟨_,rfl,rfl,_,rfl,Q7 ?_⟩;refine⟨_,rfl,d,kvs,rfl,hd2,_,rfl,_,_,rfl,rfl,_,rfl,a0T (λe=>?_) (λe=>?_)⟩
     .have e':m<(kvs.length:Int):=of_decide_eq_true e;have c9:=R m rfl;exact fin kvs g _ H2 rfl s2 hd2 B D h1 (.inr ⟨m,rfl,by omega⟩) (by omega) λm' e2=>by cases e2;omega
     .have e':¬m<(kvs.length:Int):=λz=>e (decide_eq_true z);exact⟨_,_,_,kvs,g,rfl,s2,hd2,B,D,h1,a4,by omega,λm' e2=>by cases e2;omega⟩
  .rintro σ H' ⟨o6,o7,U,kvs,g,rfl,s',J,B,D,h1,h2,W,R⟩;rw[N.hL.1,List.take_length]at h2;exact fin kvs g _ H' rfl s' J B D h1 (.inl h2) (by rw[N.hL.1]at W;exact W) λm e=>by have:=R m e;omega
end
noncomputable def ffl(ra ca:Addr)(b:Bool)(ah af aw:Addr):List (Str×V):=[("rows",.ref ra),("caps",.ref ca),("begun",.bl b),("here",.ref ah),("found",.ref af),("walked",.ref aw)]
section
variable (ra ca ah ah' af aw:Addr) (b b':Bool)
theorem a5Q:(ffl ra ca b ah af aw).lookup ("rows" : Str)=some (.ref ra):=by with_unfolding_all rfl
theorem a5R:(ffl ra ca b ah af aw).lookup ("caps" : Str)=some (.ref ca):=by with_unfolding_all rfl
theorem a3F:(ffl ra ca b ah af aw).lookup ("begun" : Str)=some (.bl b):=by with_unfolding_all rfl
theorem W4:(ffl ra ca b ah af aw).lookup ("here" : Str)=some (.ref ah):=by with_unfolding_all rfl
theorem a0W:(ffl ra ca b ah af aw).lookup ("found" : Str)=some (.ref af):=by with_unfolding_all rfl
theorem a2P:(ffl ra ca b ah af aw).lookup ("walked" : Str)=some (.ref aw):=by with_unfolding_all rfl
theorem a5u:J0 "here" (.ref ah') (ffl ra ca b ah af aw)=ffl ra ca b ah' af aw:=by with_unfolding_all rfl
theorem a8M:J0 "begun" (.bl b') (ffl ra ca b ah af aw)=ffl ra ca b' ah af aw:=by with_unfolding_all rfl
theorem a5t:J0 "walked" (.ref aw) (J0 "found" (.ref af) (J0 "here" (.ref ah) (J0 "begun" (.bl b) (J0 "caps" (.ref ca) (J0 "rows" (.ref ra) [])))))=ffl ra ca b ah af aw:=by with_unfolding_all rfl
theorem b2h:(ffl ra ca b ah af aw).lookup ("told" : Str)=none:=by with_unfolding_all rfl
theorem a9p:(ffl ra ca b ah af aw).lookup ("paper" : Str)=none:=by with_unfolding_all rfl
theorem a9q:(ffl ra ca b ah af aw).lookup ("ended" : Str)=none:=by with_unfolding_all rfl
theorem a1y:(ffl ra ca b ah af aw).lookup ("step_within" : Str)=none:=by with_unfolding_all rfl
end
structure FiTx(K:PySem.W.Frag)(C:Addr):Prop where
 cl:Cls K C
 n1:NoAttr K C "rows"
 n2:NoAttr K C "caps"
 n3:NoAttr K C "begun"
 n4:NoAttr K C "here"
 n5:NoAttr K C "found"
 n6:NoAttr K C "walked"
structure FAt(C:Addr)(H:Hp)(p ra ca af aw:Addr)(b:Bool)(L F W:LLI):Prop where
 ob:∃dx ah hs,H p=some (.ins C dx (ffl ra ca b ah af aw))/\H ah=some (.lst hs)/\Its H hs L/\ah≠af/\ah≠aw
 hf:∃fs,H af=some (.lst fs)/\Its H fs F
 hw:∃ws,H aw=some (.lst ws)/\Its H ws W
 ne:af≠aw
theorem FAt.same{C:Addr}{H H':Hp}{p ra ca af aw:Addr}{b:Bool}{L F W:LLI}(h:FAt C H p ra ca af aw b L F W)(s:Same H H'):FAt C H' p ra ca af aw b L F W:=by
 obtain⟨⟨dx,ah,hs,h1,h2,c,g,d⟩,⟨fs,f1,f2⟩,⟨f,a,e⟩,ne⟩:=h;exact⟨⟨dx,ah,hs,s _ _ h1,s _ _ h2,c.same s,g,d⟩,⟨fs,s _ _ f1,f2.same s⟩,⟨f,s _ _ a,e.same s⟩,ne⟩
structure SyAt(H:Hp)(a c:Addr)(rss:LLI)(cs:List (Option Int)):Prop where
 ex:∃us,H a=some (.tup us)/\Its H us rss/\us.length<=1000
 hc:H c=some (.tup (cs.map cV))
 n1:0<=cs.length
 n2:cs.length<=100
 hR:Rs cs.length rss
theorem SyAt.same{H H':Hp}{a c:Addr}{rss:LLI}{cs:List (Option Int)}(h:SyAt H a c rss cs)(s:Same H H'):SyAt H' a c rss cs:=by
 obtain⟨⟨us,h1,h2,b⟩,hc,n1,n2,hR⟩:=h;exact⟨⟨us,s _ _ h1,h2.same s,b⟩,s _ _ hc,n1,n2,hR⟩
structure StR(rss:LLI)(cs:List (Option Int))(b:Bool)(L F:LLI)(r:V)(L':LLI):Prop where
 ri:D4 L'
 nd:L'.Nodup
 fst:b=false->∀v,v∈L'↔v∈N3 cs
 snd:b=true->∀v∈L',∃u∈L,a0f rss cs F u v
 all:b=true->(∀u∈L,∀v,a0f rss cs F u v->v∈L')∨∃m:Int,r=.int m/\m<L'.length
 len:L'.length<=cs.length+L.length*cs.length
 few:∀m:Int,r=.int m->(L'.length:Int)<=m+cs.length
theorem X2(n j i:Nat)(hi:i<n):(K5 n j).getD i 0=if i=j then 1 else 0:=by
 unfold K5;simp[List.getD_eq_getElem?_getD,hi]
theorem M3(n j:Nat):(K5 n j).length=n:=by simp[K5]
theorem a9o(cs:List (Option Int)):(N3 cs).Nodup:=by
 unfold N3;refine List.Nodup.sublist (List.filter_sublist) ?_;unfold List.Nodup;rw[List.pairwise_map];refine(List.nodup_range (n:=cs.length)).imp_of_mem λ{i j} hi b a e=>?_;have h1:(K5 cs.length i).getD i 0=(K5 cs.length j).getD i 0:=congrArg (λl:List Int=>l.getD i 0) e;rw[X2 _ _ _ (List.mem_range.mp hi),X2 _ _ _ (List.mem_range.mp hi),if_pos rfl,if_neg a]at h1;omega
theorem lp{f:Str}{v:V}{fs:List (Str×V)}{k:Nat}(h:fs.length<=k):(J0 f v fs).length<=k+1:=by
 refine Nat.le_trans ?_ (Nat.succ_le_succ h);clear h;induction fs with
 |nil=>exact Nat.le_refl _
 |cons p r ih =>
  obtain⟨g,x⟩:=p;show(if g=f then(g,v)::r else(g,x)::J0 f v r).length<=_;split
  .simp
  .simpa using ih
section
variable {P:Program}{w:World}{K:PySem.W.Frag}{mg:Str->Option Value}{base:Heap}{C:Addr}
inductive IspFInit(C:Addr)(vs:List V)(H:Hp)(Q:VK)(E:XK):Prop
 |mk (p dx ra ca:Addr) (_:vs=[.ref p,.ref ra,.ref ca]) (_:H p=some (.ins C dx [])) (_:∀(af aw:Addr) (H':Hp),H af=none->H aw=none->FAt C H' p ra ca af aw false [] [] []->(∃dx ah,H' p=some (.ins C dx (ffl ra ca false ah af aw))/\H ah=none)->(∀b o,H b=some o->b≠p->H' b=some o)->Q .non H'):IspFInit C vs H Q E
def a7y(C:Addr):Sp:=λvs H Q E=>IspFInit C vs H Q E
theorem a0b:FnScope ["self","rows","caps"] ["self","rows","caps"] (A1 E1):=⟨rfl,rfl,rfl,by decide +kernel,rfl,by decide +kernel,by decide +kernel⟩
theorem b1o(F:MethAt K C "__init__" "Finder.__init__" E1 ["self","rows","caps"])(U:FiTx K C):MethOk P w K mg base C "__init__" 1 ["self","rows","caps"] (a7y C):=by
 refine F.fnJ a0b (λvs H Q E h=>?_) (λG f A outer s H vs Q E hr h=>?_)
 .obtain⟨p,dx,ra,ca,rfl,_⟩:=h;rfl
 .obtain⟨p,dx,ra,ca,rfl,hp,k⟩:=h;refine⟨_,(A3 (S6 K (jv 0) (jv 1))
 (A3 (S6 K (jv 0) (jv 2))
 (A3 (S6 K (jv 0) a1w)
 (A3 (S6 K (jv 0) (V8 jaN))
 (A3 (S6 K (jv 0) (V8 jaN))
 (A4 (S6 K (jv 0) (V8 jaN)))))))),?_⟩
  have x:([]:List (Str×V)).length<=0:=Nat.le_refl _;refine⟨_,rfl,_,rfl,p,C,dx,_,rfl,hp,U.cl,U.n1,Nat.lt_of_le_of_lt x (by decide),?_⟩;refine⟨_,rfl,_,rfl,p,C,dx,_,rfl,A0,U.cl,U.n2,Nat.lt_of_le_of_lt (lp x) (by decide),?_⟩;rw[a3W];refine⟨_,rfl,p,C,dx,_,rfl,A0,U.cl,U.n3,Nat.lt_of_le_of_lt (lp (lp x)) (by decide),?_⟩;rw[a3W];generalize D:J0 "begun" (V.bl false) (J0 "caps" (.ref ca) (J0 "rows" (.ref ra) []))=r;have l3:r.length<=3:=by rw[<-D];exact lp (lp (lp x))
  have k1:∀b o,H b=some o->b≠p->upd H p (.ins C dx r) b=some o:=λb o e c=>by rw[A2 c];exact e
  have B:upd H p (.ins C dx r) p=some (.ins C dx r):=A0;have n1:∀b,upd H p (.ins C dx r) b=none->H b=none:=λb e=>by
   by_cases c:b=p
   .subst c;rw[A0]at e;cases e
   .rwa[A2 c]at e
  generalize upd H p (.ins C dx r)=H1 at k1 B n1;refine⟨Nat.zero_le _,λah m=>?_⟩;have u:p≠ah:=A5 B m;refine⟨_,rfl,p,C,dx,_,rfl,by rw[A2 u];exact B,U.cl,U.n4,by omega,?_⟩;refine⟨Nat.zero_le _,λaf l=>?_⟩;have y:p≠af:=λz=>by subst z;rw[A0]at l;cases l
  have g:upd H1 ah (.lst []) af=none:=by rwa[A2 y.symm]at l
  have j:ah≠af:=A5 (o:=.lst []) A0 g;have d:H1 af=none:=by rwa[A2 j.symm]at g
  refine⟨_,rfl,p,C,dx,_,rfl,by rw[A2 y];exact A0,U.cl,U.n5,by have:=lp (f:="here") (v:=.ref ah) l3;omega,?_⟩;refine⟨Nat.zero_le _,λaw q=>?_⟩;have t:p≠aw:=λz=>by subst z;rw[A0]at q;cases q
  have a:=q;rw[A2 t.symm]at a;have n:af≠aw:=A5 (o:=.lst []) A0 a;rw[A2 n.symm,A2 t.symm]at a;have i:ah≠aw:=A5 (o:=.lst []) A0 a;rw[A2 i.symm]at a;refine⟨_,rfl,p,C,dx,_,rfl,by rw[A2 t];exact A0,U.cl,U.n6,by have:=lp (f:="found") (v:=.ref af) (lp (f:="here") (v:=.ref ah) l3);omega,?_⟩;refine k af aw _ (n1 _ d) (n1 _ a) ⟨⟨dx,ah,[],?_,?_,.nil,j,i⟩,⟨[],?_,.nil⟩,⟨[],?_,.nil⟩,n⟩ ⟨dx,ah,by rw[A0,<-D,<-a5t],n1 _ m⟩ λb o e c=>?_
  .rw[A0,<-D,<-a5t]
  .rw[A2 u.symm,A2 i,A2 u.symm,A2 j,A2 u.symm,A0]
  .rw[A2 y.symm,A2 n,A2 y.symm,A0]
  .rw[A2 t.symm,A0]
  .have e2:=k1 b o e c;rw[A2 c,A2 (A5 e2 a),A2 c,A2 (A5 e2 d),A2 c,A2 (A5 e2 m)];exact e2
theorem a7Y{H:Hp}:∀{vs c:List V}{rss tss:LLI},Its H vs rss->Its H c tss->Its H (vs++c) (rss++tss):=by
 intro vs c rss tss h g;refine⟨by rw[List.length_append,List.length_append,h.1,g.1],λi v e=>?_⟩;rcases Nat.lt_or_ge i vs.length with hi|hi
 .rw[List.getElem?_append_left hi]at e;obtain⟨r,b,a⟩:=h.2 i v e;exact⟨r,by rw[List.getElem?_append_left (by rw[<-h.1];exact hi)];exact b,a⟩
 .rw[List.getElem?_append_right hi]at e;obtain⟨r,b,a⟩:=g.2 _ v e;exact⟨r,by rw[List.getElem?_append_right (by rw[<-h.1];exact hi),<-h.1];exact b,a⟩
theorem a0y{H:Hp}{vs:List V}{rss:LLI}{c:Addr}{o o':HO}(h:Its H vs rss)(hc:H c=some o)(b:∀xs,HO.tup xs≠o):Its (upd H c o') vs rss :=
 ⟨h.1,λi v e=>let ⟨r,e1,a,e2,q⟩:=h.2 i v e;⟨r,e1,a,e2,by rw[A2 (G5 q hc (b _))];exact q⟩⟩
theorem a2I{H H':Hp}{vs:List V}{rss:LLI}{c:Addr}{o:HO}(h:Its H vs rss)(hc:H c=some o)(b:∀xs,HO.tup xs≠o)(off:Off [c] H H'):Its H' vs rss :=
 ⟨h.1,λi v e=>let ⟨r,e1,a,e2,q⟩:=h.2 i v e;⟨r,e1,a,e2,off _ _ (by simpa using G5 q hc (b _)) q⟩⟩
theorem b2N{H H':Hp}{a c:Addr}{rss:LLI}{cs:List (Option Int)}{b:Addr}{o:HO}(h:SyAt H a c rss cs)(d:H b=some o)(e:∀xs,HO.tup xs≠o)(off:Off [b] H H'):SyAt H' a c rss cs:=by
 obtain⟨⟨us,h1,h2,f⟩,hc,n1,n2,hR⟩:=h;exact⟨⟨us,off _ _ (by simpa using G5 h1 d (e _)) h1,a2I h2 d e off,f⟩,off _ _ (by simpa using G5 hc d (e _)) hc,n1,n2,hR⟩
theorem b2R{u:List Int}{B:Int}{j:Nat}(h:∀x∈u,0<=x/\x<=B)(b:B<=2 ^ 60):∀x∈bump u j,0<=x/\x<=2 ^ 60+1:=by
 intro x a;unfold bump at a;rcases List.mem_or_eq_of_mem_set a with z|z
 .have:=h x z;omega
 .by_cases hj:j<u.length
  .have:=h _ (List.getElem_mem (h:=hj));rw[List.getD_eq_getElem?_getD,List.getElem?_eq_getElem hj]at z;simp at z;omega
  .rw[List.getD_eq_getElem?_getD,List.getElem?_eq_none (by omega)]at z;simp at z;omega
inductive IspStepW(C:Addr)(vs:List V)(H:Hp)(Q:VK)(E:XK):Prop
 |mk (p ra ca af aw:Addr) (b:Bool) (L F W rss:LLI) (cs:List (Option Int)) (r:V) (B:Int) (_:vs=[.ref p,r]) (_:FAt C H p ra ca af aw b L F W) (_:SyAt H ra ca rss cs) (_:(r=.non∨∃m:Int,r=.int m/\0<=m)) (_:(∀v∈L,v.length=cs.length/\∀x∈v,0<=x/\x<=B)) (_:B<=2 ^ 60) (_:(∀v∈F,v.length=cs.length)) (_:L.length*cs.length+100<=100000) (_:F.length<=100000) (_:W.length<=100000) (_:∀L' H',StR rss cs b L F r L'->FAt C H' p ra ca af aw true L' (F++L'.filter λv=>Ans rss v) (W++L')->(∃dx ah,H' p=some (.ins C dx (ffl ra ca true ah af aw))/\H ah=none)->Off [p,af,aw] H H'->Q (.int L'.length) H'):IspStepW C vs H Q E
def a4c(C:Addr):Sp:=λvs H Q E=>IspStepW C vs H Q E
theorem b0w{σ:L2.St}{i j:Nat}{C p ra ca af aw:Addr}{b:Bool}{L F W rss:LLI}{cs:List (Option Int)}{r:V}{B:Int}{H:Hp}{Q:VK}(hi:σ[i]?=some (some (.ref p)))(g:σ[j]?=some (some r))(D:FAt C H p ra ca af aw b L F W)(Y:SyAt H ra ca rss cs)(h1:r=.non∨∃m:Int,r=.int m/\0<=m)(h2:∀v∈L,v.length=cs.length/\∀x∈v,0<=x/\x<=B)(d:B<=2 ^ 60)(l:∀v∈F,v.length=cs.length)(f:L.length*cs.length+100<=100000)(c:F.length<=100000)(e:W.length<=100000)
  (k:∀a H',StR rss cs b L F r a->FAt C H' p ra ca af aw true a (F++a.filter λv=>Ans rss v) (W++a)->(∃dx ah,H' p=some (.ins C dx (ffl ra ca true ah af aw))/\H ah=none)->Off [p,af,aw] H H'->Q (.int a.length) H'):a1h C "step_within" (a4c C) [] E0 (Y9 i) (a5e (Y9 j) a1q) σ H Q:=by
 obtain⟨⟨dx,ah,hs,h,_⟩,_,_,_⟩:=id D;exact⟨_,hi,p,dx,_,rfl,h,a1y _ _ _ _ _ _,_,g,p,ra,ca,af,aw,b,L,F,W,rss,cs,r,B,rfl,D,Y,h1,h2,d,l,f,c,e,k⟩
theorem U0:FnScope ["self","room"] ["self","room"] (A1 C4):=⟨rfl,rfl,rfl,by decide +kernel,rfl,by decide +kernel,by decide +kernel⟩
theorem b1i(FM:MethAt K C "step_within" "Finder.step_within" C4 ["self","room"])(U:FiTx K C)(T:Tx mg)(d:Ok P w K mg base "next_level" 5 ["rows","caps","found","level","room"] b0h)(c:Ok P w K mg base "first_steps" 2 ["caps"] a7w)(n:Ok P w K mg base "is_answer" 3 ["rows","one"] a7v) :
  MethOk P w K mg base C "step_within" 6 ["self","room"] (a4c C):=by
 refine FM.fnJ U0 (λvs H Q E h=>?_) (λc9 f A outer s H vs Q E hr h=>?_)
 .obtain⟨p,ra,ca,af,aw,b,L,F,W,rss,cs,r,B,rfl,_⟩:=h;rfl
 .obtain⟨p,ra,ca,af,aw,b,L,F,W,rss,cs,r,B,rfl,D,Y,hroom,hL,hB,hF,hbig,hF1,hW1,k⟩:=h;have hz:(300000:Nat)<=sizeLine:=by rw[sizeLine_eq];decide
  obtain⟨⟨dx,ah,hs,h1,h2,h3,h4,h5⟩,⟨fs,f1,f2⟩,⟨ws,w1,w2⟩,ne⟩:=id D;have a8:p≠af:=G5 h1 f1 (by intro z;cases z);have b5:p≠aw:=G5 h1 w1 (by intro z;cases z);refine⟨_,(A3 (E9 (G1 K (K6 K (jv 0)))
 (A4 (S6 K (jv 0) (A9 d (hr.mono (by omega)) rfl (jaC (K6 K (jv 0)) (jaC (K6 K (jv 0)) (jaC (K6 K (jv 0)) (jaC (K6 K (jv 0)) (jaC (jv 1) jaN))))))))
 (A3 (S6 K (jv 0) (b4c K rfl T.b_list (jaC (A9 c (hr.mono (by omega)) rfl (jaC (K6 K (jv 0)) jaN)) jaN)))
 (A4 (S6 K (jv 0) a1w))))
 (A3 (S7 (a3z K (K6 K (jv 0)) (jaC (B9 (N:=["one","self"]) (src:=[none,some 0]) (E6 K (K6 K (jv 0))) (by show B8 _ _=true;rfl) (by rfl) (by rfl)
 (λ_ _ _ _ _=>(A7 (i:=0) (show(["one","self"]:List Str).Nodup by decide +kernel) rfl (Or.inl rfl))) (λ_ _ _ _ _=>(a2B (G1 K (A9 n (hr.mono (by omega)) rfl (jaC (K6 K (jv 1)) (jaC (jv 0) jaN)))))) (λ_ _ _ _ _=>(jv 0))) jaN)))
 (A3 (S7 (a3z K (K6 K (jv 0)) (jaC (K6 K (jv 0)) jaN)))
 (A4 (B0 (G2 K rfl T.b_len (jaC (K6 K (jv 0)) jaN))))))),?_⟩
  refine a0l (λσ H'=>σ=[some (.ref p),some r]/\∃ah' a Z,H' p=some (.ins C dx (ffl ra ca true ah' af aw))/\H' ah'=some (.lst a)/\Its H' a Z/\H ah'=none/\StR rss cs b L F r Z/\Off [p] H H'/\∀v∈Z,v.length=cs.length/\Sm v) ?fin λfin=>?_
  case fin =>
   rintro σ H1 ⟨rfl,ah',a,Z,p1,a1,i1,a0,R,g,c5⟩;have b9:=Y.n2;have b4:Z.length<=100000:=by have:=R.len;omega
   have a9:=g _ _ (by simpa using a8.symm) f1;have b7:=g _ _ (by simpa using b5.symm) w1;have c0:=a2I f2 h1 (λ_ z=>by cases z) g;have c6:=a2I w2 h1 (λ_ z=>by cases z) g;have Y1:=b2N Y h1 (λ_ z=>by cases z) g;have b0:ah'≠af:=(A5 f1 a0).symm;have b1:ah'≠aw:=(A5 w1 a0).symm;have c7:p≠ah':=A5 h1 a0;refine⟨_,rfl,p,C,dx,_,_,rfl,p1,U.cl,U.n5,a0W _ _ _ _ _ _,.inl ⟨rfl,_,SqL.of a9⟩,?_⟩;refine⟨_,rfl,p,C,dx,_,_,rfl,p1,U.cl,U.n4,W4 _ _ _ _ _ _,ah',rfl,⟨_,SqL.of a1⟩,?_⟩;refine a2v (caps:=[some (.ref p)]) (λv=>Ans rss v) (by rw[i1.1];omega) (λH2 s2=>SqL.of (s2 _ _ a1)) i1 rfl (λv r' H2 Q2 c4 S s2 q=>?_) λH2 p2 zs s2 b6 J=>?_
   .obtain⟨⟨us,u1,u2,u3⟩,_,_,_,hR⟩:=Y1.same s2;refine⟨_,rfl,p,C,dx,_,_,rfl,s2 _ _ p1,U.cl,U.n1,a5Q _ _ _ _ _ _,_,rfl,ra,v,us,rss,r',rfl,u1,u2,S,u3,λr hr=>by rw[(hR r hr).1];omega,(c5 r' c4).2,λO t=>⟨_,rfl,q O t⟩⟩
   have b8:(Z.filter λv=>Ans rss v).length<=Z.length:=List.length_filter_le _ _;have t:=s2.upd (o:=.lst zs) b6;have c3:=(Same.refl H2).upd (o:=.lst zs) b6;have e3:upd H2 p2 (.lst zs) p2=some (.lst zs):=A0;have G:=J.same c3;generalize upd H2 p2 (.lst zs)=O at t e3 G;have f3:=t _ _ a9;refine⟨af,p2,fs,zs,rfl,rfl,f3,e3,by rw[f2.1,J.1];omega,?_⟩;have p4:upd O af (.lst (fs++zs)) p=some (.ins C dx (ffl ra ca true ah' af aw)):=by rw[A2 a8];exact t _ _ p1
   have w4:upd O af (.lst (fs++zs)) aw=some (.lst ws):=by rw[A2 ne.symm];exact t _ _ b7
   have a4:upd O af (.lst (fs++zs)) ah'=some (.lst a):=by rw[A2 b0];exact t _ _ a1
   refine⟨_,rfl,p,C,dx,_,_,rfl,p4,U.cl,U.n6,a2P _ _ _ _ _ _,.inl ⟨rfl,_,SqL.of w4⟩,?_⟩;refine⟨_,rfl,p,C,dx,_,_,rfl,p4,U.cl,U.n4,W4 _ _ _ _ _ _,aw,ah',ws,a,rfl,rfl,w4,a4,by rw[w2.1,i1.1];omega,?_⟩;have p5:upd (upd O af (.lst (fs++zs))) aw (.lst (ws++a)) p=some (.ins C dx (ffl ra ca true ah' af aw)):=by rw[A2 b5];exact p4
   have a5:upd (upd O af (.lst (fs++zs))) aw (.lst (ws++a)) ah'=some (.lst a):=by rw[A2 b1];exact a4
   refine⟨_,rfl,p,C,dx,_,_,rfl,p5,U.cl,U.n4,W4 _ _ _ _ _ _,ah',_,rfl,.inl (SqL.of a5),?_⟩;rw[i1.1];have I:∀{vs:List V}{rss:LLI},Its O vs rss->Its (upd (upd O af (.lst (fs++zs))) aw (.lst (ws++a))) vs rss:=λh=>a0y (a0y h f3 (λ_ z=>by cases z)) w4 (λ_ z=>by cases z);refine k Z _ R ⟨⟨dx,ah',a,p5,a5,I (i1.same t),b0,b1⟩,⟨fs++zs,by rw[A2 ne];exact A0,I (a7Y (c0.same t) G)⟩,⟨ws++a,A0,I (a7Y (c6.same t) (i1.same t))⟩,ne⟩ ⟨dx,ah',p5,a0⟩ λb o hb e=>?_;have a6:b≠p/\b≠af/\b≠aw:=by simpa using hb
   rw[A2 a6.2.2,A2 a6.2.1];exact t _ _ (g _ _ (by simpa using a6.1) e)
  refine⟨_,rfl,p,C,dx,_,_,rfl,h1,U.cl,U.n3,a3F _ _ _ _ _ _,b,rfl,?_⟩;obtain⟨us,u1,u2,u3⟩:=Y.ex;have b9:=Y.n2;cases b with
  |true =>
   refine Q7 ?_;refine⟨_,rfl,p,C,dx,_,_,rfl,h1,U.cl,U.n1,a5Q _ _ _ _ _ _,_,rfl,p,C,dx,_,_,rfl,h1,U.cl,U.n2,a5R _ _ _ _ _ _,_,rfl,p,C,dx,_,_,rfl,h1,U.cl,U.n5,a0W _ _ _ _ _ _,_,rfl,p,C,dx,_,_,rfl,h1,U.cl,U.n4,W4 _ _ _ _ _ _,_,rfl,?_⟩;refine⟨ra,ca,af,ah,r,us,rss,cs,fs,F,hs,L,rfl,⟨u1,u2,Y.hc,f1,f2,h2,h3,u3,Y.n1,Y.n2,Y.hR,hF,λv S=>⟨(hL v S).1,λx hx=>by have:=(hL v S).2 x hx;omega⟩,hbig⟩,hroom,λp9 zs tss H9 s9 y h9 c2 a2 c1 X b2 b4 a7=>?_⟩;have b3:=s9 _ _ h1;have a3:p≠p9:=A5 h1 y;refine⟨_,rfl,p,C,dx,_,rfl,b3,U.cl,U.n4,by show 6<1000;decide,?_⟩;rw[a5u];refine fin _ _ ⟨rfl,p9,zs,tss,A0,by rw[A2 a3.symm];exact h9,a0y c2 b3 (λ_ z=>by cases z),y,⟨a2,c1,(λz=>by cases z),λ_=>X,λ_=>b2,by omega,a7⟩,s9.off.set (by simp),λv S=>?_⟩;obtain⟨u,hu,j,_,rfl,_⟩:=X v S;have:=b2R (j:=j) (hL u hu).2 hB;exact⟨by rw[E5];exact(hL u hu).1,λx hx=>by have:=this x hx;omega⟩
  |false =>
   refine J4 ?_;refine⟨_,rfl,p,C,dx,_,_,rfl,h1,U.cl,U.n2,a5R _ _ _ _ _ _,ca,cs,rfl,Y.hc,Y.n1,Y.n2,λq zs tss H2 s2 hq J M a2=>?_⟩;refine⟨q,zs,rfl,.inr (SqT.of hq),λl hl=>?_⟩;have p3:=C0 (o:=.lst zs) (s2 _ _ h1) hl;have t:=s2.upd (o:=.lst zs) hl;have G:=J.same ((Same.refl H2).upd (o:=.lst zs) hl);have e3:upd H2 l (.lst zs) l=some (.lst zs):=A0;have y:=s2.free hl;generalize upd H2 l (.lst zs)=O at p3 t G e3;refine⟨_,rfl,p,C,dx,_,rfl,p3,U.cl,U.n4,by show 6<1000;decide,?_⟩;rw[a5u];refine⟨_,rfl,p,C,dx,_,rfl,A0,U.cl,U.n3,by show 6<1000;decide,?_⟩;rw[a3W,a8M];have a3:p≠l:=A5 h1 y;have b8:(N3 cs).length<=cs.length:=Nat.le_trans (List.length_filter_le _ _) (by simp);have c8:=M.length_eq;refine fin _ _ ⟨rfl,l,zs,tss,A0,by rw[A2 a3.symm];exact e3,a0y G p3 (λ_ z=>by cases z),y,⟨a2,M.symm.nodup (a9o cs),λ_ v=>M.mem_iff,(λz=>by cases z),(λz=>by cases z),by omega,λm e=>?_⟩,t.off.set (by simp),λv S=>?_⟩
   .rcases hroom with z|⟨m',z,hm'⟩
    .rw[z]at e;cases e
    .rw[z]at e;cases e;omega
   .obtain⟨j,_,rfl⟩:=List.mem_map.mp (List.mem_filter.mp (M.mem_iff.mp S)).1;refine⟨M3 _ _,λx hx=>?_⟩;unfold K5 at hx;obtain⟨i,_,rfl⟩:=List.mem_map.mp hx;split<;>omega
inductive IspEnded(C:Addr)(vs:List V)(H:Hp)(Q:VK)(E:XK):Prop
 |mk (p ra ca af aw:Addr) (b:Bool) (L F W:LLI) (_:vs=[.ref p]) (_:FAt C H p ra ca af aw b L F W) (_:Q (.bl (b && decide (L=[]))) H):IspEnded C vs H Q E
def a4f(C:Addr):Sp:=λvs H Q E=>IspEnded C vs H Q E
theorem b0y{σ:L2.St}{i:Nat}{C p ra ca af aw:Addr}{b:Bool}{L F W:LLI}{H:Hp}{Q:VK}(hi:σ[i]?=some (some (.ref p)))(D:FAt C H p ra ca af aw b L F W)(k:Q (.bl (b && decide (L=[]))) H):a1h C "ended" (a4f C) [] E0 (Y9 i) a1q σ H Q:=by
 obtain⟨⟨dx,ah,hs,a,_⟩,_,_,_⟩:=id D;exact⟨_,hi,p,dx,_,rfl,a,a9q _ _ _ _ _ _,p,ra,ca,af,aw,b,L,F,W,rfl,D,k⟩
theorem a1t:FnScope ["self"] ["self"] (A1 I0):=⟨rfl,rfl,rfl,by decide +kernel,rfl,by decide +kernel,by decide +kernel⟩
theorem b1q(a:MethAt K C "ended" "Finder.ended" I0 ["self"])(U:FiTx K C)(T:Tx mg):MethOk P w K mg base C "ended" 1 ["self"] (a4f C):=by
 refine a.fnJ a1t (λvs H Q E h=>?_) (λm f A outer s H vs Q E hr h=>?_)
 .obtain⟨p,ra,ca,af,aw,b,L,F,W,rfl,_⟩:=h;rfl
 .obtain⟨p,ra,ca,af,aw,b,L,F,W,rfl,D,k⟩:=h;obtain⟨⟨dx,ah,hs,h1,h2,c,l,g⟩,⟨fs,f1,f2⟩,⟨j,d,i⟩,ne⟩:=id D;refine⟨_,(A4 (B0 (a5N (K6 K (jv 0)) (a7W (a2A (G2 K rfl T.b_len (jaC (K6 K (jv 0)) jaN)) A6))))),?_⟩;refine⟨_,rfl,p,C,dx,_,_,rfl,h1,U.cl,U.n3,a3F _ _ _ _ _ _,?_⟩;refine⟨b,rfl,?_⟩;cases b with
  |false=>exact J4 k
  |true =>
   refine Q7 ⟨_,rfl,p,C,dx,_,_,rfl,h1,U.cl,U.n4,W4 _ _ _ _ _ _,ah,_,rfl,.inl (SqL.of h2),rfl,?_⟩;have e:decide (V.int (hs.length:Int)=V.int 0)=decide (L=[]):=by
    rw[c.1];cases L with
    |nil=>simp
    |cons x L=>simp;omega
   rw[e];exact k
inductive IspTold(C:Addr)(vs:List V)(H:Hp)(Q:VK)(E:XK):Prop
 |mk (p ra ca af aw:Addr) (b:Bool) (L F W:LLI) (_:vs=[.ref p]) (_:FAt C H p ra ca af aw b L F W) (_:(∀v∈F,0<v.length)) (_:∀q zs tss H',Same H H'->H' q=some (.tup zs)->Its H' zs tss->tss.Perm F->D4 tss->Q (.ref q) H'):IspTold C vs H Q E
def a6m(C:Addr):Sp:=λvs H Q E=>IspTold C vs H Q E
theorem b3e{σ:L2.St}{i:Nat}{C p ra ca af aw:Addr}{b:Bool}{L F W:LLI}{H:Hp}{Q:VK}(hi:σ[i]?=some (some (.ref p)))(D:FAt C H p ra ca af aw b L F W)(h:∀v∈F,0<v.length)(k:∀q zs tss H',Same H H'->H' q=some (.tup zs)->Its H' zs tss->tss.Perm F->D4 tss->Q (.ref q) H'):a1h C "told" (a6m C) [] E0 (Y9 i) a1q σ H Q:=by
 obtain⟨⟨dx,ah,hs,a,_⟩,_,_,_⟩:=id D;exact⟨_,hi,p,dx,_,rfl,a,b2h _ _ _ _ _ _,p,ra,ca,af,aw,b,L,F,W,rfl,D,h,k⟩
theorem a2f:FnScope ["self"] ["self"] (A1 J9):=⟨rfl,rfl,rfl,by decide +kernel,rfl,by decide +kernel,by decide +kernel⟩
theorem b3N(d:MethAt K C "told" "Finder.told" J9 ["self"])(U:FiTx K C)(T:Tx mg):MethOk P w K mg base C "told" 1 ["self"] (a6m C):=by
 refine d.fnJ a2f (λvs H Q E h=>?_) (λt f A outer s H vs Q E hr h=>?_)
 .obtain⟨p,ra,ca,af,aw,b,L,F,W,rfl,_⟩:=h;rfl
 .obtain⟨p,ra,ca,af,aw,b,L,F,W,rfl,D,hF,k⟩:=h;obtain⟨⟨dx,ah,hs,h1,h2,i,r,j⟩,⟨fs,f1,f2⟩,⟨n,g,m⟩,ne⟩:=id D;refine⟨_,(A4 (B0 (B6 K rfl T.b_tuple (jaC (a2C K rfl T.b_sorted (jaC (K6 K (jv 0)) jaN)) jaN)))),?_⟩;refine⟨_,rfl,p,C,dx,_,_,rfl,h1,U.cl,U.n5,a0W _ _ _ _ _ _,af,fs,F,rfl,.inl (SqL.of f1),f2,hF,λl zs tss hl hI a c _=>?_⟩;refine⟨l,_,rfl,.inl ⟨SqL.of A0,λq e=>?_⟩⟩;have s2:=((Same.refl H).upd (o:=.lst zs) hl).upd (o:=.tup zs) e;exact k q zs tss _ s2 A0 (hI.same s2) a c
inductive IspPaper(C:Addr)(vs:List V)(H:Hp)(Q:VK)(E:XK):Prop
 |mk (p ra ca af aw:Addr) (b:Bool) (L F W:LLI) (_:vs=[.ref p]) (_:FAt C H p ra ca af aw b L F W) (_:∀q zs H',Same H H'->H' q=some (.tup zs)->Its H' zs W->Q (.ref q) H'):IspPaper C vs H Q E
def a4d(C:Addr):Sp:=λvs H Q E=>IspPaper C vs H Q E
theorem b0x{σ:L2.St}{i:Nat}{C p ra ca af aw:Addr}{b:Bool}{L F W:LLI}{H:Hp}{Q:VK}(hi:σ[i]?=some (some (.ref p)))(D:FAt C H p ra ca af aw b L F W)(k:∀q zs H',Same H H'->H' q=some (.tup zs)->Its H' zs W->Q (.ref q) H'):a1h C "paper" (a4d C) [] E0 (Y9 i) a1q σ H Q:=by
 obtain⟨⟨dx,ah,hs,a,_⟩,_,_,_⟩:=id D;exact⟨_,hi,p,dx,_,rfl,a,a9p _ _ _ _ _ _,p,ra,ca,af,aw,b,L,F,W,rfl,D,k⟩
theorem a1s:FnScope ["self"] ["self"] (A1 G9):=⟨rfl,rfl,rfl,by decide +kernel,rfl,by decide +kernel,by decide +kernel⟩
theorem b1l(d:MethAt K C "paper" "Finder.paper" G9 ["self"])(U:FiTx K C)(T:Tx mg):MethOk P w K mg base C "paper" 1 ["self"] (a4d C):=by
 refine d.fnJ a1s (λvs H Q E h=>?_) (λm f A outer s H vs Q E hr h=>?_)
 .obtain⟨p,ra,ca,af,aw,b,L,F,W,rfl,_⟩:=h;rfl
 .obtain⟨p,ra,ca,af,aw,b,L,F,W,rfl,D,k⟩:=h;obtain⟨⟨dx,ah,hs,h1,h2,i,l,j⟩,⟨fs,f1,f2⟩,⟨a,c,e⟩,ne⟩:=id D;refine⟨_,(A4 (B0 (B6 K rfl T.b_tuple (jaC (K6 K (jv 0)) jaN)))),?_⟩;refine⟨_,rfl,p,C,dx,_,_,rfl,h1,U.cl,U.n6,a2P _ _ _ _ _ _,aw,_,rfl,.inl ⟨SqL.of c,λq g=>?_⟩⟩;have s2:=(Same.refl H).upd (o:=.tup a) g;exact k q a _ s2 A0 (e.same s2)
end
inductive Wk(rss:LLI)(cs:List (Option Int)):LLI->LLI->LLI->Nat->Prop
 |one {L:LLI}(ri:D4 L) (nd:L.Nodup) (h:∀v,v∈L↔v∈N3 cs):Wk rss cs (L.filter λv=>Ans rss v) L L 1
 |more {F W L L':LLI}{k:Nat}(h:Wk rss cs F W L k) (ne:L≠[]) (ri:D4 L') (nd:L'.Nodup) (hm:∀v,v∈L'↔∃u∈L,a0f rss cs F u v):Wk rss cs (F++L'.filter λv=>Ans rss v) (W++L') L' (k+1)
def a9J(rss:LLI)(cs:List (Option Int))(most:Int):Prop:=∃F W L k,Wk rss cs F W L k/\(most<W.length∨(L≠[]/\∃L':LLI,L'.Nodup/\(∀v∈L',∃u∈L,a0f rss cs F u v)/\most<W.length+L'.length))
theorem a7M{v:List Int}(h:∀x∈v,0<=x):∀x∈v,x<=v.sum:=by
 induction v with
 |nil=>intro x a;cases a
 |cons y v ih =>
  intro x a;have h1:=h y List.mem_cons_self;have h2:=b0f v λz hz=>h z (List.mem_cons_of_mem _ hz);rw[List.sum_cons];rcases List.mem_cons.mp a with rfl|a
  .omega
  .have:=ih (λz hz=>h z (List.mem_cons_of_mem _ hz)) x a;omega
theorem b4p{u:List Int}{j:Nat}(h:∀x∈u,0<=x):∀x∈bump u j,0<=x:=by
 intro x a;unfold bump at a;rcases List.mem_or_eq_of_mem_set a with z|z
 .exact h x z
 .by_cases hj:j<u.length
  .have:=h _ (List.getElem_mem (h:=hj));rw[List.getD_eq_getElem?_getD,List.getElem?_eq_getElem hj]at z;simp at z;omega
  .rw[List.getD_eq_getElem?_getD,List.getElem?_eq_none (by omega)]at z;simp at z;omega
theorem a9U(n j:Nat):∀x∈K5 n j,0<=x:=by
 intro x a;unfold K5 at a;obtain⟨i,_,rfl⟩:=List.mem_map.mp a;split<;>omega
theorem a6f(n j:Nat)(c:j<n):K5 n j=bump (List.replicate n 0) j:=by
 refine List.ext_getElem (by rw[M3,E5,List.length_replicate]) λi h1 h2=>?_;rw[M3]at h1;have b:=X2 n j i h1;have a:=a0D (List.replicate n 0) j i (by simpa using c);rw[List.getD_eq_getElem?_getD,List.getElem?_eq_getElem (by rw[M3];exact h1)]at b;rw[List.getD_eq_getElem?_getD,List.getElem?_eq_getElem h2]at a;simp only[Option.getD_some]at b a;rw[b,a];simp only[List.getD_eq_getElem?_getD,List.getElem?_replicate,c,h1,if_true];by_cases e:i=j<;>simp[e]
theorem b0v(n:Nat):(List.replicate n (0:Int)).sum=0:=by
 induction n with
 |zero=>rfl
 |succ n ih=>rw[List.replicate_succ,List.sum_cons,ih];rfl
theorem a8v(n j:Nat)(a:j<n):(K5 n j).sum=1:=by
 rw[a6f n j a,a6a _ _ (by simpa using a),b0v];rfl
theorem a6l{rss:LLI}{cs:List (Option Int)}{u:List Int}{j:Nat}(h:j∈StP rss cs u):j<u.length/\a1b rss u j<0/\a8m (cs.getD j none) (u.getD j 0)=true:=by
 unfold StP at h;rw[List.mem_filter,List.mem_filter,List.mem_range,decide_eq_true_eq]at h;exact⟨h.1.1,h.1.2,h.2⟩
structure LvF(n k:Nat)(v:List Int):Prop where
 len:v.length=n
 nn:∀x∈v,0<=x
 sum:v.sum=k
theorem a0V{cs:List (Option Int)}{v:List Int}(h:v∈N3 cs):LvF cs.length 1 v:=by
 obtain⟨j,a,rfl⟩:=List.mem_map.mp (List.mem_filter.mp h).1;exact⟨M3 _ _,a9U _ _,a8v _ _ (List.mem_range.mp a)⟩
theorem a7L{rss:LLI}{cs:List (Option Int)}{F:LLI}{u v:List Int}{n k:Nat}(a:LvF n k u)(h:a0f rss cs F u v):LvF n (k+1) v:=by
 obtain⟨j,b,rfl,_⟩:=h;have:=(a6l b).1;exact⟨by rw[E5];exact a.len,b4p a.nn,by rw[a6a _ _ this,a.sum];omega⟩
theorem Wk.lv{rss:LLI}{cs:List (Option Int)}{F W L:LLI}{k:Nat}(h:Wk rss cs F W L k):(∀v∈L,LvF cs.length k v)/\(∀v∈W,∃i,1<=i/\i<=k/\LvF cs.length i v)/\(∀v∈F,v∈W/\Ans rss v=true)/\F.length<=W.length/\L.length<=W.length/\1<=k/\k<=W.length+1/\(L≠[]->k<=W.length):=by
 induction h with
 |@one L ri nd h =>
  refine⟨λv a=>a0V ((h v).mp a),λv a=>⟨1,by omega,by omega,a0V ((h v).mp a)⟩,λv a=>List.mem_filter.mp a,List.length_filter_le _ _,Nat.le_refl _,by omega,by omega,λne=>?_⟩;cases L with
  |nil=>exact absurd rfl ne
  |cons x L=>simp
 |@more F W L L' k h ne ri nd hm ih =>
  obtain⟨l,g,c,m,o,p,n,e⟩:=ih;have b:∀v∈L',LvF cs.length (k+1) v:=λv a=>by
   obtain⟨u,f,j⟩:=(hm v).mp a;exact a7L (l u f) j
  have:=List.length_filter_le (λv=>Ans rss v) L';have k8:=e ne;refine⟨b,λv a=>?_,λv a=>?_,by rw[List.length_append,List.length_append];omega,by rw[List.length_append];omega,by omega,by rw[List.length_append];omega,λd=>?_⟩
  .rcases List.mem_append.mp a with z|z
   .obtain⟨i,q1,q2,q3⟩:=g v z;exact⟨i,q1,by omega,q3⟩
   .exact⟨k+1,by omega,by omega,b v z⟩
  .rcases List.mem_append.mp a with z|z
   .exact⟨List.mem_append_left _ (c v z).1,(c v z).2⟩
   .exact⟨List.mem_append_right _ (List.mem_filter.mp z).1,(List.mem_filter.mp z).2⟩
  .rw[List.length_append];have:0<L'.length:=List.length_pos_iff.mpr d;omega
section
variable {P:Program}{w:World}{K:PySem.W.Frag}{mg:Str->Option Value}{base:Heap}{C:Addr}
inductive IspLeast(D:Addr)(vs:List V)(H:Hp)(Q:VK)(E:XK):Prop
 |mk (ra ca:Addr) (rss:LLI) (cs:List (Option Int)) (most:Nat) (mi:Int) (_:vs=[.ref ra,.ref ca,.int mi]) (_:mi=most) (_:SyAt H ra ca rss cs) (_:(most+1)*(cs.length+1)+200<=100000) (_:(∀q t pp zs tss ws F W k H',Same H H'->H' q=some (.tup [.ref t,.ref pp])->H' t=some (.tup zs)->Its H' zs tss->tss.Perm F->D4 tss->H' pp=some (.tup ws)->Its H' ws W->Wk rss cs F W [] k->W.length<=most->Q (.ref q) H')) (_:(∀H',Same H H'->a9J rss cs most->E (.ref D) none H')):IspLeast D vs H Q E
def a4e(D:Addr):Sp:=λvs H Q E=>IspLeast D vs H Q E
theorem sc_least:FnScope ["rows","caps","most","finder","room"] ["rows","caps","most"] (A1 a1H):=⟨rfl,rfl,rfl,by decide +kernel,rfl,by decide +kernel,by decide +kernel⟩
theorem b1n{p:Addr}(V:FunAt K mg "least" a1H ["rows","caps","most"])(T:Tx mg)(U:FiTx K C)(a:Cls K C)(G:MakeOk P w K mg base "Finder" C 1 ["self","rows","caps"] (a7y C))(d:MethOk P w K mg base C "step_within" 6 ["self","room"] (a4c C))(l:MethOk P w K mg base C "ended" 1 ["self"] (a4f C))(r:MethOk P w K mg base C "told" 1 ["self"] (a6m C))(n:MethOk P w K mg base C "paper" 1 ["self"] (a4d C))
  (t:OwnCls "TooMany" p [.type "ValueError",.type "Exception",.type "BaseException",.type "object"] "ValueError.__new__" mg base):OkE P w K mg base "least" 7 ["rows","caps","most"] (a4e p):=by
 refine V.okE sc_least (λvs H Q E h=>?_) (λc6 f A outer s H vs Q E hr h=>?_)
 .obtain⟨ra,ca,rss,cs,most,mi,rfl,_⟩:=h;rfl
 .obtain⟨ra,ca,rss,cs,most,_,rfl,rfl,Y,hbig,kq,ke⟩:=h;refine⟨_,(A3 (B1 (i:=3) sc_least.nd rfl (Or.inl rfl) (b6p G (hr.mono (by omega)) rfl (jaC (jv 0) (jaC (jv 1) jaN))))
 (A3 (B1 (i:=4) sc_least.nd rfl (Or.inl rfl) (jv 2))
 (A3 (b1I (S5 (G1 K (a4B l a (hr.mono (by omega)) (jv 3))))
 (A3 (B1 (i:=4) sc_least.nd rfl (Or.inl rfl) (a7T (jv 4) (b6o d a (hr.mono (by omega)) (jv 3) (jaC (jv 4) jaN))))
 (A4 (E9 (b1G (jv 4) A6)
 (A4 (b1L t PySem.F.excBase_ValueError rfl PySem.F.excBase_ValueError rfl (jaC b7D jaN)))
 D0))) (hp:=PassesOwn.leaving))
 (A4 (B0 (E8 (jaC (a4B r a (hr.mono (by omega)) (jv 3)) (jaC (a4B n a (hr.mono (by omega)) (jv 3)) jaN)))))))),?_⟩
  refine⟨_,rfl,_,rfl,λx dx hx a3 M=>?_⟩;have b6:upd H dx (.own x) x=none:=by rw[A2 M.symm];exact hx
  have s0:Same H (upd (upd H dx (.own x)) x (.ins C dx [])):=((Same.refl H).upd a3).upd b6;refine⟨x,dx,ra,ca,rfl,A0,λaf aw H1 a9 b2 D1 _ kp=>⟨rfl,?_⟩⟩;have a1:H af=none:=s0.free a9;have a2:H aw=none:=s0.free b2;have s1:Same H H1:=λb o e=>kp b o (s0 b o e) (A5 e hx);dsimp only[A8];refine⟨_,rfl,?_⟩;dsimp only[A8];have hz:(300000:Nat)<=sizeLine:=by rw[sizeLine_eq];decide
  refine a0l (λσ H'=>σ=[some (.ref ra),some (.ref ca),some (.int most),some (.ref x),σ.getD 4 none]/\Same H H'/\∃F W k,FAt C H' x ra ca af aw true [] F W/\Wk rss cs F W [] k/\W.length<=most) ?fin λfin=>?_
  case fin =>
   rintro σ H2 ⟨hσ,s2,F,W,k,N,I,S⟩;obtain⟨⟨a8,ah,hs,h1,h2,h3,h4,h5⟩,_,_,_⟩:=id N;have a0:=I.lv;rw[hσ];refine b3e rfl N (λv J=>?_) λq1 zs tss H3 X b1 b3 b0 a4=>?_
   .obtain⟨i,i1,_,lv⟩:=a0.2.1 v (a0.2.2.1 v J).1;cases v with
    |nil=>have:=lv.sum;simp at this;omega
    |cons _ _=>simp
   have D3:=N.same X;obtain⟨⟨c1,c0,c2,g1,_⟩,_,_,_⟩:=id D3;refine b0x rfl D3 λq2 ws H4 s4 a5 a7=>?_;refine⟨by show 2<=sizeLine;omega,λq hq=>?_⟩;have s5:=(Same.refl H4).upd (o:=.tup [.ref q1,.ref q2]) hq;exact kq q q1 q2 zs tss ws F W k _ (((s2.trans X).trans s4).trans s5) A0 (s5 _ _ (s4 _ _ b1)) ((b3.same s4).same s5) b0 a4 (s5 _ _ a5) (a7.same s5) I S
  refine⟨λm σ H'=>∃(b:Bool) (L F W:LLI) (room:Int),σ=[some (.ref ra),some (.ref ca),some (.int most),some (.ref x),some (.int room)]/\Same H H'/\FAt C H' x ra ca af aw b L F W/\0<=room/\m=room.toNat+(if b=true/\L=[] then 0 else 1)/\((b=false/\L=[]/\F=[]/\W=[]/\room=most)∨(b=true/\∃k,Wk rss cs F W L k/\room=most-W.length)),
   ⟨_,false,[],[],[],_,rfl,s1,D1,by omega,rfl,.inl ⟨rfl,rfl,rfl,rfl,rfl⟩⟩,?_⟩
  rintro m σ H2 ⟨b,L,F,W,room,rfl,s2,N,r0,rfl,O⟩;obtain⟨⟨a8,ah,hs,h1,h2,h3,h4,h5⟩,_,_,_⟩:=id N;refine b0y rfl N ⟨_,rfl,?_⟩;have c4:most+1<=(most+1)*(cs.length+1):=Nat.le_mul_of_pos_right _ (Nat.succ_pos _);have b8:(most+1)*(cs.length+1)=(most+1)*cs.length+(most+1):=by rw[Nat.mul_add,Nat.mul_one]
  by_cases he:b=true/\L=[]
  .obtain⟨rfl,rfl⟩:=he;refine J4 ?_;rcases O with⟨z,_⟩|⟨_,k,I,g⟩
   .cases z
   .exact fin _ _ ⟨rfl,s2,F,W,k,N,I,by omega⟩
  .have hb:(b && decide (L=[]))=false:=by
    cases b with
    |false=>rfl
    |true =>
     have:L≠[]:=λz=>he ⟨rfl,z⟩;simpa using this
   rw[hb,if_neg he];refine Q7 ⟨λσ' H'=>∃(D V W':LLI) (k:Nat) (j:Int),σ'=[some (.ref ra),some (.ref ca),some (.int most),some (.ref x),some (.int j)]/\Same H H'/\FAt C H' x ra ca af aw true D V W'/\0<=j/\Wk rss cs V W' D k/\j=most-W'.length/\j.toNat+(if D=[] then 0 else 1)<room.toNat+1,λσ' H' ⟨D,V,W',k,j,e1,e2,e3,e4,e5,e6,e7⟩=>⟨_,e7,true,D,V,W',j,e1,e2,e3,e4,by simp,.inr ⟨rfl,k,e5,e6⟩⟩,?_⟩;obtain⟨B,hB,hL,hF,c5,b5,b7⟩:∃B:Int,B<=2 ^ 60/\(∀v∈L,v.length=cs.length/\∀y∈v,0<=y/\y<=B)/\(∀v∈F,v.length=cs.length)/\W.length<=most/\L.length<=most/\F.length<=most:=by
    rcases O with⟨rfl,rfl,rfl,rfl,_⟩|⟨rfl,k,I,g⟩
    .exact⟨0,by omega,(λ_ z=>nomatch z),(λ_ z=>nomatch z),by simp,by simp,by simp⟩
    .obtain⟨i1,i2,i3,i4,i5,i6,i7,i8⟩:=I.lv;refine⟨k,by omega,λv J=>⟨(i1 v J).len,λy hy=>⟨(i1 v J).nn y hy,?_⟩⟩,λv J=>?_,by omega,by omega,by omega⟩
     .have:=a7M (i1 v J).nn y hy;rw[(i1 v J).sum]at this;exact this
     .obtain⟨i,_,_,lv⟩:=i2 v (i3 v J).1;exact lv.len
   have c3:L.length*cs.length<=most*cs.length:=Nat.mul_le_mul_right _ b5;have b9:(most+1)*cs.length=most*cs.length+cs.length:=by rw[Nat.add_mul,Nat.one_mul]
   refine⟨_,rfl,b0w rfl rfl N (Y.same s2) (.inr ⟨room,rfl,r0⟩) hL hB hF (by omega) (by omega) (by omega) λD H3 R D3 _ Z=>?_⟩;refine⟨_,_,rfl,rfl,?_⟩;dsimp only[A8];have X:Same H H3:=λc o e=>Z c o (by simpa using⟨A5 e hx,A5 e a1,A5 e a2⟩) (s2 c o e);have key:(∃k,Wk rss cs (F++D.filter λv=>Ans rss v) (W++D) D k/\room=most-W.length)∨(room<D.length/\a9J rss cs most):=by
    rcases O with⟨rfl,rfl,rfl,rfl,g⟩|⟨rfl,k,I,g⟩
    .exact .inl ⟨1,by simpa using Wk.one R.ri R.nd (R.fst rfl),by simpa using g⟩
    .have M:L≠[]:=λz=>he ⟨rfl,z⟩;rcases R.all rfl with ha|⟨m',e',a6⟩
     .exact .inl ⟨k+1,.more I M R.ri R.nd λv=>⟨R.snd rfl v,λ⟨u,hu,J⟩=>ha u hu v J⟩,g⟩
     .cases e';exact .inr ⟨a6,F,W,L,k,I,.inr ⟨M,D,R.nd,R.snd rfl,by omega⟩⟩
   refine⟨_,rfl,_,_,rfl,rfl,_,rfl,a0T (λe=>?_) (λe=>?_)⟩
   .have e':room-(D.length:Int)<0:=of_decide_eq_true e;refine⟨by rw[sizeLine_eq];decide,ke _ X ?_⟩;rcases key with⟨k,I,g⟩|⟨_,ho⟩
    .exact⟨_,_,_,k,I,.inl (by rw[List.length_append];omega)⟩
    .exact ho
   .have e':¬room-(D.length:Int)<0:=λz=>e (decide_eq_true z);rcases key with⟨k,I,g⟩|⟨b4,_⟩
    .refine⟨D,_,_,k,_,rfl,X,D3,by omega,I,by rw[List.length_append];omega,?_⟩;cases D with
     |nil=>simp
     |cons y D=>simp only[List.length_cons]at e'⊢;rw[if_neg (by simp)];omega
    .exact absurd b4 (by omega)
end
structure Answer(rss:LLI)(n:Nat)(v:List Int):Prop where
 len:v.length=n
 nn:∀x∈v,0<=x
 ans:Ans rss v=true
 pos:0<v.sum
structure Least(rss:LLI)(cs:List (Option Int))(v:List Int):Prop where
 an:Answer rss cs.length v
 wi:Wi cs v=true
 min:∀u,Answer rss cs.length u->Under u v->u=v
theorem Under.refl(v:List Int):Under v v:=⟨rfl,λ_ _=>Int.le_refl _⟩
theorem Under.trans{a b c:List Int}(h:Under a b)(g:Under b c):Under a c :=
 ⟨h.1.trans g.1,λj d=>Int.le_trans (h.2 j (by rw[g.1];exact d)) (g.2 j d)⟩
theorem Under.eq{a b:List Int}(h:Under a b)(hs:b.sum<=a.sum):a=b:=by
 refine Classical.byContradiction λne=>?_;have:=h.sum.2 ne;omega
theorem a1Y{cs:List (Option Int)}{v:List Int}(h:v.length=cs.length):Wi cs v=true↔∀j,j<cs.length->a9v (cs.getD j none) (v.getD j 0)=true:=by
 unfold Wi;induction cs generalizing v with
 |nil=>simp
 |cons c cs ih =>
  cases v with
  |nil=>cases h
  |cons x v =>
   rw[List.zipWith_cons_cons,List.all_cons,Bool.and_eq_true,ih (by simpa using h)];constructor
   .rintro⟨h1,h2⟩ j a;cases j with
    |zero=>exact h1
    |succ j=>exact h2 j (by simpa using a)
   .intro h1;exact⟨h1 0 (by simp),λj a=>h1 (j+1) (by simpa using a)⟩
theorem a9u{c:Option Int}{x y:Int}(h:a9v c y=true)(a:x<=y):a9v c x=true:=by
 cases c with
 |none=>rfl
 |some c =>
  have:y<=c:=of_decide_eq_true h;exact decide_eq_true (by omega)
theorem a3V{cs:List (Option Int)}{u v:List Int}(a:v.length=cs.length)(h:Wi cs v=true)(c:Under u v):Wi cs u=true:=by
 rw[a1Y a]at h;rw[a1Y (by rw[c.1];exact a)];intro j b;exact a9u (h j b) (c.2 j (by rw[a];exact b))
theorem b2B{rss:LLI}{v:List Int}(h:Ans rss v=true)(j:Nat):a1b rss v j=0:=by
 unfold a1b O3;unfold Ans at h;induction rss with
 |nil=>rfl
 |cons r rss ih =>
  rw[List.all_cons,Bool.and_eq_true,decide_eq_true_eq]at h;rw[List.map_cons,List.zipWith_cons_cons,List.sum_cons,ih h.2,h.1];omega
theorem M5{f v:List Int}(hl:f.length=v.length):Bel f v=true↔Under f v:=by
 constructor
 .intro h;refine⟨hl,?_⟩;unfold Bel at h;induction f generalizing v with
  |nil =>
   intro j a;rw[<-hl]at a;simp at a
  |cons x f ih =>
   cases v with
   |nil=>cases hl
   |cons y v =>
    rw[List.zipWith_cons_cons,List.all_cons,Bool.and_eq_true]at h;intro j a;cases j with
    |zero=>exact of_decide_eq_true h.1
    |succ j=>exact ih (by simpa using hl) h.2 j (by simpa using a)
 .intro h;unfold Bel;induction f generalizing v with
  |nil=>rfl
  |cons x f ih =>
   cases v with
   |nil=>cases hl
   |cons y v =>
    obtain⟨h1,h2⟩:=h.tail;rw[List.zipWith_cons_cons,List.all_cons,ih (by simpa using hl) h2,Bool.and_true];exact decide_eq_true h1
theorem a0B{rss:LLI}{cs:List (Option Int)}:∀(m:Nat) {u:List Int},u.sum<=m->Answer rss cs.length u->Wi cs u=true->∃a,Least rss cs a/\Under a u
 |0,u,hm,h,_=>absurd h.pos (by omega)
 |m+1,u,hm,h,hw=>by
  by_cases c:∃t,Answer rss cs.length t/\Under t u/\t≠u
  .obtain⟨t,h1,h2,h3⟩:=c;have:=h2.sum.2 h3;obtain⟨a,ha,b⟩:=a0B m (u:=t) (by omega) h1 (a3V h.len hw h2);exact⟨a,ha,b.trans h2⟩
  .exact⟨u,⟨h,hw,λt ht b=>Classical.byContradiction λne=>c ⟨t,ht,b,ne⟩⟩,Under.refl u⟩
theorem b0T:∀{v:List Int},(∀x∈v,0<=x)->0<v.sum->∃j,j<v.length/\1<=v.getD j 0
 |[],_,h=>by simp at h
 |x::v,hn,h=>by
  by_cases b:1<=x
  .exact⟨0,by simp,by simpa using b⟩
  .have h0:=hn x List.mem_cons_self;rw[List.sum_cons]at h;obtain⟨j,h1,h2⟩:=b0T (v:=v) (λy a=>hn y (List.mem_cons_of_mem _ a)) (by omega);exact⟨j+1,by simpa using h1,by simpa using h2⟩
theorem b7A{v:List Int}(h:∀x∈v,0<=x)(j:Nat):0<=v.getD j 0:=by
 rw[List.getD_eq_getElem?_getD];cases e:v[j]? with
 |none=>simp
 |some x=>simpa using h x (List.mem_of_getElem? e)
structure WkOk(rss:LLI)(cs:List (Option Int))(F L:LLI)(k:Nat):Prop where
 wi:∀v∈L,Wi cs v=true
 bar:∀v∈L,∀f∈F,Under f v->f=v
 snd:∀f∈F,Least rss cs f
 all:∀a,Least rss cs a->a.sum<=k->a∈F
 up:∀a,Least rss cs a->k<=a.sum->∃v∈L,Under v a
theorem Wk.ok{rss:LLI}{cs:List (Option Int)}{F W L:LLI}{k:Nat}(hR:∀r∈rss,r.length=cs.length)(h:Wk rss cs F W L k):WkOk rss cs F L k:=by
 induction h with
 |@one L ri nd h =>
  have g:∀v∈L,LvF cs.length 1 v:=λv d=>a0V ((h v).mp d);have m:∀v∈L,Wi cs v=true:=λv d=>(List.mem_filter.mp ((h v).mp d)).2;have p:∀a,Least rss cs a->((1:Nat):Int)<=a.sum->∃v∈L,Under v a:=λa ha _=>by
   obtain⟨j,h1,h2⟩:=b0T ha.an.nn ha.an.pos;rw[ha.an.len]at h1;have b:Under (K5 cs.length j) a:=⟨by rw[M3,ha.an.len],λi hi=>by
    rw[ha.an.len]at hi;rw[X2 _ _ _ hi];by_cases e:i=j
    .rw[if_pos e,e];exact h2
    .rw[if_neg e];exact b7A ha.an.nn i⟩
   exact⟨_,(h _).mpr (List.mem_filter.mpr ⟨List.mem_map.mpr ⟨j,List.mem_range.mpr h1,rfl⟩,a3V ha.an.len ha.wi b⟩),b⟩
  refine⟨m,λv d f hf b=>?_,λf hf=>?_,λa ha hs=>?_,p⟩
  .have h1:=(g v d).sum;have h2:=(g f (List.mem_filter.mp hf).1).sum;exact b.eq (by omega)
  .obtain⟨hf1,l⟩:=List.mem_filter.mp hf;have lv:=g f hf1;refine⟨⟨lv.len,lv.nn,l,by rw[lv.sum];decide⟩,m f hf1,λu n b=>b.eq ?_⟩;have:=n.pos;rw[lv.sum];omega
  .obtain⟨v,d,b⟩:=p a ha (by have:=ha.an.pos;omega);have h1:=(g v d).sum;have:v=a:=b.eq (by omega);subst this;exact List.mem_filter.mpr ⟨d,ha.an.ans⟩
 |@more F W L L' k h ne ri nd hm ih =>
  obtain⟨G,S,N,V,X,U,T,Y⟩:=h.lv;have g:∀v∈L',LvF cs.length (k+1) v:=λv d=>by
   obtain⟨u,n,Q⟩:=(hm v).mp d;exact a7L (G u n) Q
  have y:∀f∈F,f.length=cs.length/\f.sum<=k:=λf hf=>by
   obtain⟨i,q1,q2,lv⟩:=S f (N f hf).1;exact⟨lv.len,by rw[lv.sum];omega⟩
  have p:∀a,Least rss cs a->((k+1:Nat):Int)<=a.sum->∃v∈L',Under v a:=λa ha hs=>by
   obtain⟨v,d,b⟩:=ih.up a ha (by omega);have lv:=G v d;have C:v≠a:=λz=>by rw[<-z,lv.sum]at hs;omega
   have J:Ans rss v=false:=by
    cases e:Ans rss v with
    |false=>rfl
    |true=>exact absurd (ha.min v ⟨lv.len,lv.nn,e,by rw[lv.sum];omega⟩ b) C
   have hp:=b7p rss v a (λr hr=>by rw[hR r hr,ha.an.len]) b C ha.an.ans;obtain⟨j,s⟩:=List.exists_mem_of_ne_nil _ hp;have A:=b0U s;have M:a1b rss v j<0:=by
    unfold Pl at s;rw[List.mem_filter,J,Bool.false_or,Bool.and_eq_true]at s;exact of_decide_eq_true s.2.2
   have E:Under (bump v j) a:=b.bump s;have hw:=(a1Y ha.an.len).mp ha.wi j (by rw[<-ha.an.len];exact A.1);refine⟨bump v j,(hm _).mpr ⟨v,d,j,?_,rfl,?_⟩,E⟩
   .unfold StP;rw[List.mem_filter,List.mem_filter,List.mem_range,decide_eq_true_eq];refine⟨⟨by rw[b.1];exact A.1,M⟩,?_⟩;cases e:cs.getD j none with
    |none=>rfl
    |some c =>
     rw[e]at hw;have:a.getD j 0<=c:=of_decide_eq_true hw;exact decide_eq_true (by omega)
   .cases e:Bar F (bump v j) j with
    |false=>rfl
    |true =>
     unfold Bar at e;obtain⟨f,hf,l⟩:=List.any_eq_true.mp e;rw[Bool.and_eq_true]at l;have w:=(y f hf).1;have x:Under f a:=((M5 (by rw[w,E5,lv.len])).mp l.2).trans E;have:=ha.min f (ih.snd f hf).an x;have h2:=(y f hf).2;rw[this]at h2;omega
  have m:∀v∈L',Wi cs v=true:=λv d=>by
   obtain⟨u,n,j,s,rfl,_⟩:=(hm v).mp d;have q:=(G u n).len;have o:=a6l s;have hw:=ih.wi u n;rw[a1Y q]at hw;rw[a1Y (by rw[E5];exact q)];intro i hi;rw[a0D _ _ _ o.1];by_cases e:i=j
   .rw[if_pos e,e];have H:=o.2.2;cases R:cs.getD j none with
    |none=>rfl
    |some c =>
     rw[R]at H;have:u.getD j 0<c:=of_decide_eq_true H;exact decide_eq_true (by omega)
   .rw[if_neg e];exact hw i hi
  have t:∀v∈L',∀f∈F++L'.filter (λv=>Ans rss v),Under f v->f=v:=λv d f hf b=>by
   rcases List.mem_append.mp hf with z|z
   .obtain⟨u,n,j,s,rfl,hb⟩:=(hm v).mp d;have q:=(G u n).len;have o:=a6l s;have w:=(y f z).1;exfalso;by_cases e:f.getD j 0=(bump u j).getD j 0
    .have:Bar F (bump u j) j=true:=by
      unfold Bar;exact List.any_eq_true.mpr ⟨f,z,by rw[Bool.and_eq_true];exact⟨decide_eq_true e,(M5 b.1).mpr b⟩⟩
     rw[this]at hb;cases hb
    .have x:Under f u:=⟨by rw[w,q],λi hi=>by
      have h1:=b.2 i (by rw[E5];exact hi);rw[a0D _ _ _ o.1]at h1;by_cases O:i=j
      .subst O;rw[a0D _ _ _ o.1,if_pos rfl]at e;rw[if_pos rfl]at h1;omega
      .rw[if_neg O]at h1;exact h1⟩
     have h2:=ih.bar u n f z x;have H:=b2B (N f z).2 j;rw[h2]at H;omega
   .have h1:=(g v d).sum;have h2:=(g f (List.mem_filter.mp z).1).sum;exact b.eq (by omega)
  have D:∀a,Least rss cs a->a.sum<=((k+1:Nat):Int)->a∈F++L'.filter (λv=>Ans rss v):=λa ha hs=>by
   by_cases h1:a.sum<=(k:Int)
   .exact List.mem_append_left _ (ih.all a ha h1)
   .obtain⟨v,d,b⟩:=p a ha (by omega);have h2:=(g v d).sum;have:v=a:=b.eq (by omega);subst this;exact List.mem_append_right _ (List.mem_filter.mpr ⟨d,ha.an.ans⟩)
  refine⟨m,t,λf hf=>?_,D,p⟩;rcases List.mem_append.mp hf with z|z
  .exact ih.snd f z
  .obtain⟨hf1,l⟩:=List.mem_filter.mp z;have lv:=g f hf1;refine⟨⟨lv.len,lv.nn,l,by rw[lv.sum];omega⟩,m f hf1,λu n b=>?_⟩;refine Classical.byContradiction λP=>?_;have K:=b.sum.2 P;rw[lv.sum]at K;obtain⟨a,ha,B⟩:=a0B (rss:=rss) (cs:=cs) u.sum.toNat (by have:=n.pos;omega) n (a3V lv.len (m f hf1) b);have hs:=B.sum.1;have I:=ih.all a ha (by omega);have:=t f hf1 a (List.mem_append_left _ I) (B.trans b);rw[this,lv.sum]at hs;omega
theorem Wk.least{rss:LLI}{cs:List (Option Int)}{F W:LLI}{k:Nat}(hR:∀r∈rss,r.length=cs.length)(h:Wk rss cs F W [] k)(v:List Int):v∈F↔Least rss cs v:=by
 have o:=h.ok hR;refine⟨o.snd v,λa=>?_⟩;by_cases hs:v.sum<=(k:Int)
 .exact o.all v a hs
 .obtain⟨u,hu,_⟩:=o.up v a (by omega);cases hu
theorem Wk.nd{rss:LLI}{cs:List (Option Int)}{F W L:LLI}{k:Nat}(h:Wk rss cs F W L k):W.Nodup/\F.Nodup:=by
 induction h with
 |@one L ri nd h=>exact⟨nd,nd.sublist List.filter_sublist⟩
 |@more F W L L' k h ne ri nd hm ih =>
  obtain⟨j,f,d,l,n,p,m,o⟩:=h.lv;have a:∀v∈W,∀u∈L',v≠u:=λv b u c e=>by
   obtain⟨i,q1,q2,lv⟩:=f v b;obtain⟨t,ht,g⟩:=(hm u).mp c;have:=(a7L (j t ht) g).sum;rw[<-e,lv.sum]at this;omega
  refine⟨List.nodup_append.mpr ⟨ih.1,nd,a⟩,List.nodup_append.mpr ⟨ih.2,nd.sublist List.filter_sublist,λv b u c=>a v (d v b).1 u (List.mem_filter.mp c).1⟩⟩
theorem V1:∀{a b:LLI},D4 a->D4 b->a.Nodup->b.Nodup->(∀v,v∈a↔v∈b)->a=b
 |[],[],_,_,_,_,_=>rfl
 |[],y::b,_,_,_,_,h=>by have:=(h y).mpr List.mem_cons_self;cases this
 |x::a,[],_,_,_,_,h=>by have:=(h x).mp List.mem_cons_self;cases this
 |x::a,y::b,ra,rb,na,nb,h=>by
  obtain⟨r1,r2⟩:=List.pairwise_cons.mp ra;obtain⟨q1,q2⟩:=List.pairwise_cons.mp rb;obtain⟨n1,n2⟩:=List.nodup_cons.mp na;obtain⟨d,c⟩:=List.nodup_cons.mp nb;have e:x=y:=by
   refine Q0 x y ?_ ?_
   .rcases List.mem_cons.mp ((h x).mp List.mem_cons_self)with z|z
    .rw[z];exact S3 y
    .exact q1 x z
   .rcases List.mem_cons.mp ((h y).mpr List.mem_cons_self)with z|z
    .rw[z];exact S3 x
    .exact r1 y z
  subst e;rw[V1 r2 q2 n2 c λv=>?_];constructor
  .intro hv;rcases List.mem_cons.mp ((h v).mp (List.mem_cons_of_mem _ hv))with z|z
   .exact absurd (z ▸ hv) n1
   .exact z
  .intro hv;rcases List.mem_cons.mp ((h v).mpr (List.mem_cons_of_mem _ hv))with z|z
   .exact absurd (z ▸ hv) d
   .exact z
theorem a0s{H:Hp}{a b:Addr}{n:Nat}(h:PotAt H a b n){c:Addr}(hc:H c=none):c∉[a,b]:=by
 obtain⟨_,cs,t,k,h1,h2,_⟩:=h;simp only[List.mem_cons,List.not_mem_nil,or_false,not_or];exact⟨(A5 h1 hc).symm,(A5 h2 hc).symm⟩
theorem b3o{H:Hp}{a b:Addr}{n:Nat}(h:PotAt H a b n){c:Addr}{o:HO}(hc:c∉[a,b]):PotAt (upd H c o) a b n:=by
 simp only[List.mem_cons,List.not_mem_nil,or_false,not_or]at hc;obtain⟨ne,cs,t,d,f,g,e⟩:=h;exact⟨ne,cs,t,d,by rw[A2 (Ne.symm hc.1)];exact f,by rw[A2 (Ne.symm hc.2)];exact g,e⟩
section
variable {P:Program}{w:World}{K:PySem.W.Frag}{mg:Str->Option Value}{base:Heap}
theorem two_at(x y:Int)(c:Bool):∃m:Int,atI [V.int x,.int y] (if c=true then 1 else 0)=some (.int m)/\(m=x∨m=y):=by
 cases c
 .exact⟨x,rfl,.inl rfl⟩
 .exact⟨y,rfl,.inr rfl⟩
theorem a3t{src:List (Option Nat)}{σ caps:L2.St}{Q:VK}{n f c:Nat}{H:Hp}{a b:Addr}{te:TE}(R:Int->Prop)(t:n<=1000)(k:B4 src σ=none::caps)(o:PotAt H a b f)
  (m:∀(i:Nat) (H':Hp) (N:VK),i<n->PotAt H' a b (f+c*i)->(∀r d,R r->PotAt d a b (f+c*i+c)->Off [a,b] H' d->N (.int r) d)->te (some (.int i)::caps) H' N)
  (hd:∀H' p (xs:List Int),xs.length=n->(∀x∈xs,R x)->PotAt H' a b (f+c*n)->Off [a,b] H H'->H' p=none->Q (.ref p) (upd H' p (.lst (xs.map V.int)))):J3 src (A8 0) U5 te σ Q (Itr 0 n) H:=by
 refine a0q t k (λi ys H'=>Ex1 λ(xs:List Int)=>An5 (ys=xs.map V.int) (xs.length=i) ((∀x∈xs,R x)) (PotAt H' a b (f+c*i)) (Off [a,b] H H')) ⟨[],rfl,rfl,(λ_ z=>nomatch z),o,Off.refl _ _⟩ (λi ys H' h=>by obtain⟨xs,e,g,_⟩:=h;rw[e,List.length_map,g];exact Nat.le_refl _) ?_ ?_
 .rintro i ys H' hi ⟨xs,rfl,g,hR,hP',off⟩;refine m i H' _ hi hP' λr d hr j l=>⟨xs++[r],by simp,by simp[g],λx s=>?_,?_,off.trans l⟩
  .rcases List.mem_append.mp s with q|q
   .exact hR x q
   .rw[List.mem_singleton.mp q];exact hr
  .have:f+c*(i+1)=f+c*i+c:=by rw[Nat.mul_add,Nat.mul_one,Nat.add_assoc]
   rw[this];exact j
 .rintro ys H' ⟨xs,rfl,g,hR,hP',off⟩ p hp;exact hd H' p xs g hR hP' off hp
theorem b6e{l:List Addr}{H H':Hp}{p:Addr}{o:HO}(s:Off l H H')(hp:H p=none):Off l H (upd H' p o):=λb u a e=>by
 rw[A2 (A5 e hp)];exact s b u a e
theorem b1s{H H':Hp}{a b:Addr}{n:Nat}{p:Addr}(o:Off [a,b] H H')(c:PotAt H' a b n)(hp:H' p=none):H p=none:=by
 rcases e:H p with _|u
 .rfl
 .have:=o _ _ (a0s c hp) e;rw[hp]at this;cases this
theorem a4D{H H':Hp}{vs:List V}{rss:LLI}{a b:Addr}{n:Nat}(h:Its H vs rss)(c:PotAt H a b n)(o:Off [a,b] H H'):Its H' vs rss:=⟨h.1,λi v e=>let ⟨r,e1,e2⟩:=h.2 i v e;⟨r,e1,IT.off e2 c o⟩⟩
end
def SD(H:Hp):Nat->V->V->Prop
 |0,_,_=>False
 |n+1,x,y=>(∃i,x=.int i/\y=.int i)∨∃a b xs ys,x=.ref a/\y=.ref b/\H a=some (.tup xs)/\H b=some (.tup ys)/\xs.length=ys.length/\xs.length<=1000/\∀(i:Nat) x' y',xs[i]?=some x'->ys[i]?=some y'->SD H n x' y'
theorem SD.same{H H':Hp}(s:Same H H'):∀{n:Nat}{x y:V},SD H n x y->SD H' n x y
 |0,_,_,h=>h
 |n+1,x,y,h=>by
  rcases h with h|⟨a,b,xs,ys,h1,h2,g,m,k,c,j⟩
  .exact .inl h
  .exact .inr ⟨a,b,xs,ys,h1,h2,s _ _ g,s _ _ m,k,c,λi d f e l=>SD.same s (j i d f e l)⟩
theorem SD.ints{H:Hp}{x y:V}{ns:List Int}(g:IT H x ns)(d:IT H y ns)(hl:ns.length<=1000):SD H 2 x y:=by
 obtain⟨a,rfl,ha⟩:=g;obtain⟨b,rfl,f⟩:=d;refine .inr ⟨a,b,_,_,rfl,rfl,ha,f,rfl,by rw[List.length_map];exact hl,λi h j e c=>?_⟩;rw[e]at c;cases c;obtain⟨z,_,rfl⟩:=M1 e;exact .inl ⟨z,rfl,rfl⟩
section
variable {P:Program}{w:World}{K:PySem.W.Frag}{mg:Str->Option Value}{base:Heap}
inductive IspSame(n:Nat)(vs:List V)(H:Hp)(Q:VK)(E:XK):Prop
 |mk (x:_) (y:_) (_:vs=[x,y]) (_:SD H n x y) (_:∀H',Same H H'->Q (.bl true) H'):IspSame n vs H Q E
def a6o(n:Nat):Sp:=λvs H Q E=>IspSame n vs H Q E
theorem b3L{x:Str}{st:Stmt}{ps:List Str}{k:Nat}(F:FunAt K mg x st ps):Ok P w K mg base x k ps (λ_ _ _ _=>False):=by
 obtain⟨f,fd,h1,h2,a⟩:=F.ex;exact⟨f,fd,h1,h2.kp,a,⟨λ_ _ _ _ z=>z.elim,λ_ _ _ _ _ _ _ _ _ _ _ _ _ z=>z.elim⟩⟩
theorem a4k:FnScope ["_law_found","_law_due_here"] ["_law_found","_law_due_here"] (A1 O2):=⟨rfl,rfl,rfl,by decide +kernel,rfl,by decide +kernel,by decide +kernel⟩
theorem a7K(F:FunAt K mg "_law_same" O2 ["_law_found","_law_due_here"])(T:Tx mg):∀n:Nat,Ok P w K mg base "_law_same" (n+1) ["_law_found","_law_due_here"] (a6o n)
 |0=>(b3L F).imp λvs H Q E ⟨_,_,_,z,_⟩=>z
 |n+1=>by
  have c:=a7K F T n;refine F.okJ a4k (λvs H Q E h=>?_) (λl f A outer s H vs Q E hr h=>?_)
  .obtain⟨x,y,rfl,_⟩:=h;rfl
  .obtain⟨x,y,rfl,hS,kk⟩:=h;refine⟨_,(A3 (E9 (G1 K (K1 K rfl T.b_isinstance (jaC (jv 1) (jaC (a2G (v:=.ty "tuple") rfl T.b_tuple a0F rfl) jaN))))
 (A3 (E9 (a4z (b1D (S5 (G1 K (K1 K rfl T.b_isinstance (jaC (jv 0) (jaC (a2G (v:=.ty "tuple") rfl T.b_tuple a0F rfl) jaN))))) (a6F (b7B (G2 K rfl T.b_len (jaC (jv 0) jaN)) (G2 K rfl T.b_len (jaC (jv 1) jaN))))))
 (A4 (B0 a1w))
 D0)
 (A4 (B0 (a2D K rfl T.b_all (jaC (B9 (N:=["_law_one","_law_other"]) (src:=[none,none]) (V7 K rfl T.b_zip (jaC (jv 0) (jaC (jv 1) jaN))) (by show B8 _ _=true;rfl) (by rfl) (by rfl)
 (λ_ _ _ _ _=>(S8 K 2 (B5 (A7 (i:=0) (show(["_law_one","_law_other"]:List Str).Nodup by decide +kernel) rfl (Or.inl rfl)) (B5 (A7 (i:=1) (show(["_law_one","_law_other"]:List Str).Nodup by decide +kernel) rfl (Or.inl rfl)) M0)))) (λ_ _ _ _ _=>C2) (λ_ _ _ _ _=>(A9 c (hr.mono (by omega)) rfl (jaC (jv 0) (jaC (jv 1) jaN))))) jaN)))))
 D0)
 (A4 (B0 (a5N (K1 K rfl T.b_isinstance (jaC (jv 0) (jaC (a2G (v:=.ty "int") rfl T.b_int b2y rfl) jaN))) (a5N (b4Y (K1 K rfl T.b_isinstance (jaC (jv 0) (jaC (a2G (v:=.ty "bool") rfl T.b_bool b4s rfl) jaN)))) (a7W (a2A (jv 0) (jv 1)))))))),?_⟩
   rcases hS with⟨i,rfl,rfl⟩|⟨a,b,xs,ys,rfl,rfl,ha,d,hl,g,hi⟩
   .refine⟨_,rfl,_,_,_,false,rfl,.int i,rfl,_,rfl,J4 ?_⟩;refine⟨_,rfl,_,_,_,true,rfl,.int i,rfl,_,rfl,Q7 ?_⟩;refine⟨_,rfl,_,_,_,false,rfl,.int i,rfl,_,rfl,_,rfl,Q7 ?_⟩;refine⟨_,rfl,_,rfl,rfl,?_⟩;rw[show decide (V.int i=V.int i)=true from decide_eq_true rfl];exact kk H (Same.refl H)
   .refine⟨_,rfl,_,_,_,true,rfl,.tup d,rfl,_,rfl,Q7 ?_⟩;refine⟨_,rfl,_,_,_,true,rfl,.tup ha,rfl,_,rfl,J4 ?_⟩;refine⟨_,rfl,_,_,rfl,.inr (SqT.of ha),_,rfl,_,_,rfl,.inr (SqT.of d),rfl,_,rfl,?_⟩;rw[show decide (V.int (xs.length:Int)=V.int (ys.length:Int))=true from decide_eq_true (by rw[hl])];refine J4 ?_;refine⟨_,rfl,_,rfl,true,true,a,b,rfl,⟨_,SqT.of ha⟩,⟨_,SqT.of d⟩,?_⟩;have hz:(1000:Nat)<=sizeLine:=by rw[sizeLine_eq];decide
    refine W6 (K:=K) (k1:=true) (k2:=true) (a:=a) (b:=b) (xs:=xs) (zs:=ys) (by omega) (λi zs H'=>Same H H'/\zs=List.replicate i (.bl true)) ⟨Same.refl H,rfl⟩
     (λi zs H' _ _ h=>⟨SqT.of (h.1 _ _ ha),SqT.of (h.1 _ _ d),by rw[h.2,List.length_replicate];exact Nat.le_refl _⟩) ?_ ?_
    .rintro i x z zs H' p hx hy ⟨s',rfl⟩ hp;have s2:Same H (upd H' p (.tup [x,z])):=s'.upd hp;refine⟨p,[x,z],rfl,SqT.of A0,rfl,x,[z],rfl,z,[],rfl,rfl,⟨rfl,λj v e=>?_⟩,?_⟩
     .match j,e with
      |0,e=>cases e
      |1,e=>cases e
     .refine⟨_,rfl,_,rfl,x,z,rfl,(hi i x z hx hy).same s2,λm k=>⟨s2.trans k,?_⟩⟩;rw[List.replicate_succ']
    .rintro zs H' ⟨s',rfl⟩ p hp;refine⟨false,p,_,rfl,SqL.of A0,?_,?_⟩
     .simp[a8d]
     .rw[show(List.replicate (min xs.length ys.length) (V.bl true)).all trV=true by simp[trV]];exact kk _ (s'.upd hp)
theorem a3E(n:Nat)(v:V):(List.replicate n [v]).flatten=List.replicate n v:=by
 induction n with
 |zero=>rfl
 |succ n ih=>rw[List.replicate_succ,List.flatten_cons,ih,List.replicate_succ];rfl
inductive IspFree(vs:List V)(H:Hp)(Q:VK)(E:XK):Prop
 |mk (n:Int) (_:vs=[.int n]) (_:0<=n) (_:n<=1000) (_:∀p H',Same H H'->H' p=some (.tup ((List.replicate n.toNat (none:Option Int)).map cV))->Q (.ref p) H'):IspFree  vs H Q E
def b0i:Sp:=λvs H Q E=>IspFree  vs H Q E
theorem b3a:FnScope ["width"] ["width"] (A1 a4p):=⟨rfl,rfl,rfl,by decide +kernel,rfl,by decide +kernel,by decide +kernel⟩
theorem b3R(F:FunAt K mg "free" a4p ["width"]):Ok P w K mg base "free" 1 ["width"] b0i:=by
 refine F.okJ b3a (λvs H Q E h=>?_) (λa f A outer s H vs Q E hr h=>?_)
 .obtain⟨n,rfl,_⟩:=h;rfl
 .obtain⟨n,rfl,h1,h2,k⟩:=h;refine⟨_,(A4 (B0 (b6n (E8 (jaC a0x jaN)) (jv 0)))),?_⟩;have hz:(1000:Nat)<=sizeLine:=by rw[sizeLine_eq];decide
  refine⟨by show 1<=sizeLine;omega,λp hp=>⟨_,rfl,p,[.non],n,rfl,rfl,A0,by simp,h1,?_,λq H' s e=>?_⟩⟩
  .show(1:Int)*n<=_;omega
  .rw[a3E]at e;exact k _ _ (((Same.refl H).upd hp).trans s) (by rw[e,List.map_replicate];rfl)
end
noncomputable def Lst(rss:LLI)(v:List Int):Bool:=!(rss.any λu=>!decide (u=v) && Bel u v)
structure Srt(rss srt:LLI):Prop where
 ri:D4 srt
 nd:srt.Nodup
 mem:∀r,r∈srt↔r∈rss
theorem a0K{rss a:LLI}(h:∀r,r∈rss↔r∈a)(v:List Int):Lst rss v=Lst a v:=by
 unfold Lst;congr 1;rw[Bool.eq_iff_iff,List.any_eq_true,List.any_eq_true];exact⟨λ⟨u,b,e⟩=>⟨u,(h u).mp b,e⟩,λ⟨u,b,e⟩=>⟨u,(h u).mpr b,e⟩⟩
theorem a8n:∀{u v:List Int},u.length=v.length->Bel u v=true->u≠v->HT.lexLt v u=false
 |[],[],_,_,ne=>absurd rfl ne
 |[],_::_,h,_,_=>by cases h
 |_::_,[],h,_,_=>by cases h
 |x::u,y::v,h,hb,ne=>by
  unfold Bel at hb;rw[List.zipWith_cons_cons,List.all_cons,Bool.and_eq_true]at hb;have h1:x<=y:=of_decide_eq_true hb.1;by_cases e:x=y
  .subst e;have ih:=a8n (u:=u) (v:=v) (by simpa using h) hb.2 λz=>ne (by rw[z]);simp[HT.lexLt,ih]
  .have:¬y<x:=by omega
   have a:¬y=x:=λz=>e z.symm;simp[HT.lexLt,this,a]
theorem a7B{α:Type}{m:List α->Prop}(l:List α)(nil:m [])(snoc:∀(l:List α) (v:α),m l->m (l++[v])):m l:=by
 have:∀r:List α,m r.reverse:=λr=>by
  induction r with
  |nil=>exact nil
  |cons x r ih=>rw[List.reverse_cons];exact snoc _ x ih
 have:=this l.reverse;rwa[List.reverse_reverse]at this
noncomputable def LO(l:LLI):LLI:=l.foldl (λacc v=>if acc.any (λu=>Bel u v)then acc else acc++[v]) []
theorem a1W(l:LLI)(v:List Int):LO (l++[v])=if (LO l).any (λu=>Bel u v)then LO l else LO l++[v]:=by
 unfold LO;rw[List.foldl_append];rfl
theorem b2w(v:List Int):Bel v v=true:=(M5 rfl).mpr (Under.refl v)
theorem a9I{a b c:List Int}(h1:a.length=b.length)(h2:b.length=c.length)(d:Bel a b=true)(e:Bel b c=true):Bel a c=true :=
 (M5 (h1.trans h2)).mpr (((M5 h1).mp d).trans ((M5 h2).mp e))
theorem a4Q{n:Nat}:∀(l:LLI),(∀r∈l,r.length=n)->(∀x∈LO l,x∈l)/\∀u∈l,∃x∈LO l,Bel x u=true:=by
 intro l;induction l using a7B with
 |nil=>intro _;exact⟨λ_ z=>z,λ_ z=>nomatch z⟩
 |snoc l v ih =>
  intro hl;obtain⟨c,d⟩:=ih λr hr=>hl r (List.mem_append_left _ hr);rw[a1W];cases e:(LO l).any (λu=>Bel u v)with
  |true =>
   rw[if_pos rfl];refine⟨λx a=>List.mem_append_left _ (c x a),λu b=>?_⟩;rcases List.mem_append.mp b with z|z
   .exact d u z
   .rw[List.mem_singleton.mp z];exact List.any_eq_true.mp e
  |false =>
   rw[if_neg (by decide)];refine⟨λx a=>?_,λu b=>?_⟩
   .rcases List.mem_append.mp a with z|z
    .exact List.mem_append_left _ (c x z)
    .exact List.mem_append_right _ z
   .rcases List.mem_append.mp b with z|z
    .obtain⟨x,h1,h2⟩:=d u z;exact⟨x,List.mem_append_left _ h1,h2⟩
    .rw[List.mem_singleton.mp z];exact⟨v,List.mem_append_right _ List.mem_cons_self,b2w v⟩
theorem a3R{n:Nat}(a:LLI)(hl:∀r∈a,r.length=n)(ri:D4 a)(nd:a.Nodup):∀(l rest:LLI),a=l++rest->LO l=l.filter (λv=>Lst a v):=by
 intro l;induction l using a7B with
 |nil=>intro _ _;rfl
 |snoc l v ih =>
  intro rest e;have c:a=l++(v::rest):=by rw[e,List.append_assoc];rfl
  have i:v∈a:=by rw[c];simp
  have b:∀r∈l,r.length=n:=λr hr=>hl r (by rw[c];exact List.mem_append_left _ hr);obtain⟨h,k⟩:=a4Q l b;rw[a1W,List.filter_append,<-ih _ c];have key:(LO l).any (λu=>Bel u v)=!Lst a v:=by
   rw[Bool.eq_iff_iff];unfold Lst;rw[Bool.not_not,List.any_eq_true,List.any_eq_true];constructor
   .rintro⟨u,hu,hb⟩;refine⟨u,by rw[c];exact List.mem_append_left _ (h u hu),?_⟩;have f:u≠v:=λz=>by
     rw[c]at nd;exact(List.nodup_append.mp nd).2.2 u (h u hu) v List.mem_cons_self z
    rw[hb,decide_eq_false f];rfl
   .rintro⟨u,hu,hb⟩;rw[Bool.and_eq_true,Bool.not_eq_true',decide_eq_false_iff_not]at hb;have d:u∈l:=by
     rw[c]at hu;rcases List.mem_append.mp hu with z|z
     .exact z
     .rcases List.mem_cons.mp z with q|q
      .exact absurd q hb.1
      .exfalso;have g:HT.lexLt u v=false:=by
        rw[c]at ri;have:=(List.pairwise_append.mp ri).2.1;exact(List.pairwise_cons.mp this).1 u q
       have h2:=a8n (by rw[hl u (by rw[c];exact List.mem_append_right _ z),hl v i]) hb.2 hb.1;exact hb.1 (Q0 u v g h2)
    obtain⟨x,h1,h2⟩:=k u d;exact⟨x,h1,a9I (by rw[b x (h x h1),b u d]) (by rw[b u d,hl v i]) h2 hb.2⟩
  rw[key];cases j:Lst a v with
  |true=>rw[if_neg (by decide),List.filter_cons_of_pos (p:=λv=>Lst a v) j];rfl
  |false=>rw[if_pos (by decide),List.filter_cons_of_neg (p:=λv=>Lst a v) (by rw[j];decide)];simp
section
variable {P:Program}{w:World}{K:PySem.W.Frag}{mg:Str->Option Value}{base:Heap}
inductive IspAboveL(vs:List V)(H:Hp)(Q:VK)(E:XK):Prop
 |mk (l:Addr) (y:V) (fs:List V) (fss:LLI) (ys:List Int) (_:vs=[.ref l,y]) (_:H l=some (.lst fs)) (_:Its H fs fss) (_:IT H y ys) (_:(∀f∈fss,f.length<=1000)) (_:∀H',Same H H'->Q (.bl (fss.any λf=>Bel f ys)) H'):IspAboveL  vs H Q E
def a5o:Sp:=λvs H Q E=>IspAboveL  vs H Q E
theorem sc_above_any:FnScope ["some","one","other"] ["some","one"] (A1 N8):=⟨rfl,rfl,rfl,by decide +kernel,rfl,by decide +kernel,by decide +kernel⟩
theorem a3d(F:FunAt K mg "above_any" N8 ["some","one"])(T:Tx mg)(b:Ok P w K mg base "below" 1 ["one","other"] a4g):Ok P w K mg base "above_any" 2 ["some","one"] a5o:=by
 refine F.okJ sc_above_any (λvs H Q E h=>?_) (λj f A outer s H vs Q E hr h=>?_)
 .obtain⟨l,y,fs,fss,ys,rfl,_⟩:=h;rfl
 .obtain⟨l,y,fs,fss,ys,rfl,hl,hI,hy,hL,k⟩:=h;refine⟨_,(A3 (J2 (E6 K (jv 0)) (A7 (i:=2) sc_above_any.nd rfl (Or.inl rfl))
 (A4 (E9 (G1 K (A9 b (hr.mono (by omega)) rfl (jaC (jv 2) (jaC (jv 1) jaN))))
 (A4 (B0 a1w))
 D0)))
 (A4 (B0 a1w))),?_⟩
  refine⟨_,rfl,l,rfl,⟨_,SqL.of hl⟩,?_⟩;refine M9 (K:=K) (a:=l) (xs:=fs) (λi σ H'=>Ex1 λo=>An3 (σ=[some (.ref l),some y,o]) (Same H H') (((fss.take i).any λf=>Bel f ys)=false)) ⟨none,rfl,Same.refl H,rfl⟩ (λi σ H' _ h=>by obtain⟨_,_,s',_⟩:=h;exact SqL.of (s' _ _ hl)) ?_ ?_
  .rintro i x σ H' hx ⟨o,rfl,s',hB⟩;obtain⟨r,hr,c,d⟩:=hI.mem hx;have g:((fss.take (i+1)).any λf=>Bel f ys)=Bel r ys:=by
    rw[List.take_add_one,c,List.any_append,hB];simp
   dsimp only[A8];refine⟨_,rfl,_,rfl,x,y,r,ys,rfl,d.same s',hy.same s',hL r hr,λH2 s2=>⟨_,rfl,?_⟩⟩;cases e:Bel r ys with
   |false =>
    rw[e]at g;exact J4 ⟨_,rfl,s'.trans s2,g⟩
   |true =>
    refine Q7 ?_;have:=k H2 (s'.trans s2);rw[show(fss.any λf=>Bel f ys)=true from List.any_eq_true.mpr ⟨r,hr,e⟩]at this;exact this
  .rintro σ H' ⟨o,rfl,s',hB⟩;rw[hI.1,List.take_length]at hB;have:=k H' s';rw[hB]at this;exact this
inductive IspLeastOf(vs:List V)(H:Hp)(Q:VK)(E:XK):Prop
 |mk (p:Addr) (us:List V) (rss:LLI) (n:Nat) (_:vs=[.ref p]) (_:H p=some (.tup us)) (_:Its H us rss) (_:us.length<=1000) (_:1<=n) (_:n<=1000) (_:(∀r∈rss,r.length=n)) (_:∀q zs srt H',Same H H'->Srt rss srt->H' q=some (.tup zs)->Its H' zs (srt.filter λv=>Lst rss v)->Q (.ref q) H'):IspLeastOf  vs H Q E
def a3o:Sp:=λvs H Q E=>IspLeastOf  vs H Q E
theorem sc_least_of:FnScope ["some","found","one"] ["some"] (A1 R8):=⟨rfl,rfl,rfl,by decide +kernel,rfl,by decide +kernel,by decide +kernel⟩
theorem a5z(F:FunAt K mg "least_of" R8 ["some"])(T:Tx mg)(c:Ok P w K mg base "above_any" 2 ["some","one"] a5o):Ok P w K mg base "least_of" 3 ["some"] a3o:=by
 refine F.okJ sc_least_of (λvs H Q E h=>?_) (λa5 f A outer s H vs Q E hr h=>?_)
 .obtain⟨p,us,rss,n,rfl,_⟩:=h;rfl
 .obtain⟨p,us,rss,n,rfl,hp,hI,hl,hn1,hn2,hR,k⟩:=h;have hu:=hr.u60;have hz:(3000:Nat)<=sizeLine:=by rw[sizeLine_eq];decide
  refine⟨_,(A3 (B1 (i:=1) sc_least_of.nd rfl (Or.inl rfl) (V8 jaN))
 (A3 (J2 (E6 K (b1Q P w rfl T.b_sorted (jaC (b4a K P w hu rfl T.b_set (jaC (jv 0) jaN)) jaN))) (A7 (i:=2) sc_least_of.nd rfl (Or.inl rfl))
 (A4 (E9 (S5 (G1 K (A9 c (hr.mono (by omega)) rfl (jaC (jv 1) (jaC (jv 2) jaN)))))
 (A4 (S7 (a0S K (jv 1) (jaC (jv 2) jaN))))
 D0)))
 (A4 (B0 (B6 K rfl T.b_tuple (jaC (jv 1) jaN)))))),?_⟩
  refine⟨Nat.zero_le _,λj M=>?_⟩;have s1:=(Same.refl H).upd (o:=.lst []) M;have W:upd H j (.lst []) j=some (.lst []):=A0;generalize upd H j (.lst [])=H1 at s1 W;dsimp only[A8];refine⟨_,rfl,true,p,us,rss,rfl,SqT.of (s1 _ _ hp),hI.same s1,hl,λa xs ha J g a0=>?_⟩;have s2:=s1.upd (o:=a4i P w a xs) ha;have y:=(Same.refl H1).upd (o:=a4i P w a xs) ha;have O:upd H1 a (a4i P w a xs) a=some (a4i P w a xs):=A0;generalize upd H1 a (a4i P w a xs)=H2 at s2 y O;have V:xs.length<=1000:=by
   have:=Tab.nodup_le (xs.map (·.1)) rss J λr hr=>(g r).mp hr;rw[List.length_map,<-hI.1]at this;omega
  refine⟨a,xs,rfl,O,λx G=>(a0 x G).same y,λx G=>by rw[hR x.1 ((g x.1).mp (List.mem_map.mpr ⟨x,G,rfl⟩))];exact hn1,V,λl zs b m d L X=>?_⟩;have S:Srt rss b:=⟨X,L.symm.nodup J,λr=>(L.mem_iff).trans (g r)⟩;have s3:=s2.upd (o:=.lst zs) m;have Y:upd H2 l (.lst zs) l=some (.lst zs):=A0;have D:upd H2 l (.lst zs) j=some (.lst []):=C0 (y _ _ W) m;have d:=d.same ((Same.refl H2).upd (o:=.lst zs) m);have U:l≠j:=(A5 (y _ _ W) m).symm;generalize upd H2 l (.lst zs)=H3 at s3 Y D d;have B:∀r∈b,r.length=n:=λr hr=>hR r ((S.mem r).mp hr);have a3:zs.length<=1000:=by
   have:=Tab.nodup_le b rss S.nd λr hr=>(S.mem r).mp hr;rw[d.1];rw[<-hI.1]at this;omega
  have R:H j=none:=M;refine⟨l,rfl,⟨_,SqL.of Y⟩,?_⟩;refine M9 (K:=K) (a:=l) (xs:=zs) (λi σ H'=>Ex2 λo2 fs=>An5 (σ=[some (.ref p),some (.ref j),o2]) (Off [j] H3 H') (H' j=some (.lst fs)) (Its H' fs (LO (b.take i))) (fs.length<=i)) ⟨none,[],rfl,Off.refl _ _,D,.nil,Nat.le_refl _⟩ (λi σ H' _ h=>by obtain⟨_,_,_,o',_⟩:=h;exact SqL.of (o' _ _ (by simpa using U) Y)) ?_ ?_
  .rintro i x σ H' G ⟨o2,fs,rfl,off,hf,hIf,hfl⟩;obtain⟨r,hr,Z,a1⟩:=d.mem G;have a4:i<zs.length:=(List.getElem?_eq_some_iff.mp G).1;have N:IT H' x r:=by
    obtain⟨xa,rfl,I⟩:=a1;exact⟨xa,rfl,off _ _ (by simpa using G5 I D (by intro z;cases z)) I⟩
   have a2:∀f∈LO (b.take i),f.length<=1000:=λf hf=>by
    have:=(a4Q (n:=n) (b.take i) λr hr=>B r (List.mem_of_mem_take hr)).1 f hf;rw[B f (List.mem_of_mem_take this)];exact hn2
   have t:LO (b.take (i+1))=if (LO (b.take i)).any (λu=>Bel u r)then LO (b.take i)else LO (b.take i)++[r]:=by
    rw[List.take_add_one,Z];exact a1W _ _
   dsimp only[A8];refine⟨_,rfl,_,rfl,j,x,fs,_,r,rfl,hf,hIf,N,a2,λH2 s2=>⟨_,rfl,?_⟩⟩;cases e:(LO (b.take i)).any (λu=>Bel u r)with
   |true =>
    rw[e,if_pos rfl]at t;refine J4 ⟨_,fs,rfl,off.trans s2.off,s2 _ _ hf,?_,by omega⟩;rw[t];exact hIf.same s2
   |false =>
    rw[e,if_neg (by decide)]at t;have C:=s2 _ _ hf;refine Q7 ⟨_,rfl,.inl ⟨rfl,_,SqL.of C⟩,_,rfl,j,_,_,rfl,rfl,C,by omega,?_⟩;refine⟨_,fs++[x],rfl,(off.trans s2.off).set (by simp),A0,?_,by simp;omega⟩;rw[t];exact Its.put ((hIf.same s2).snoc (N.same s2)) C
  .rintro σ H' ⟨o2,fs,rfl,off,hf,hIf,_⟩;rw[d.1,List.take_length]at hIf;refine⟨_,rfl,j,fs,rfl,.inl ⟨SqL.of hf,λq hq=>?_⟩⟩;have s4:=(Same.refl H').upd (o:=.tup fs) hq;refine k q fs b _ ((a2g s3 R off).trans s4) S A0 ?_;have e:=a3R (n:=n) b B S.ri S.nd b [] (by simp);rw[e]at hIf;have O:(b.filter λv=>Lst b v)=b.filter λv=>Lst rss v:=by
    congr 1;funext v;exact a0K S.mem v
   rw[O]at hIf;exact hIf.same s4
end
theorem Wk.inv1{rss:LLI}{cs:List (Option Int)}{F W L:LLI}{k:Nat}(h:Wk rss cs F W L k)(e:k=1):D4 L/\L.Nodup/\(∀v,v∈L↔v∈N3 cs)/\(F=L.filter λv=>Ans rss v)/\W=L:=by
 induction h with
 |one ri nd h=>exact⟨ri,nd,h,rfl,rfl⟩
 |more h _ _ _ _ _=>have:=h.lv.2.2.2.2.2.1;omega
theorem Wk.inv2{rss:LLI}{cs:List (Option Int)}{F W L:LLI}{d:Nat}(h:Wk rss cs F W L d):∀k,d=k+1->1<=k->∃a c b,Wk rss cs a c b k/\b≠[]/\D4 L/\L.Nodup/\(∀v,v∈L↔∃u∈b,a0f rss cs a u v)/\(F=a++L.filter λv=>Ans rss v)/\W=c++L:=by
 cases h with
 |one ri nd h=>intro k e f;omega
 |more h ne ri nd hm =>
  intro k e f;obtain rfl:_=k:=Nat.succ.inj e;exact⟨_,_,_,h,ne,ri,nd,hm,rfl,rfl⟩
theorem Wk.det{rss:LLI}{cs:List (Option Int)}:∀(k:Nat) {F W L b c a:LLI},Wk rss cs F W L k->Wk rss cs b c a k->F=b/\W=c/\L=a
 |0,_,_,_,_,_,_,h,_=>by have:=h.lv.2.2.2.2.2.1;omega
 |1,F,W,L,b,c,a,h,g=>by
  obtain⟨a1,a2,a3,a4,a5⟩:=h.inv1 rfl;obtain⟨e,i,f,j,d⟩:=g.inv1 rfl;have:L=a:=V1 a1 e a2 i λv=>(a3 v).trans (f v).symm;subst this;exact⟨a4.trans j.symm,a5.trans d.symm,rfl⟩
 |k+2,F,W,L,b,c,a,h,g=>by
  obtain⟨q,m,r,a0,_,a1,a2,a3,a4,a5⟩:=h.inv2 (k+1) rfl (by omega);obtain⟨p,n,o,l,_,e,i,f,j,d⟩:=g.inv2 (k+1) rfl (by omega);obtain⟨rfl,rfl,rfl⟩:=Wk.det (k+1) a0 l;have:L=a:=V1 a1 e a2 i λv=>(a3 v).trans (f v).symm;subst this;exact⟨a4.trans j.symm,a5.trans d.symm,rfl⟩
theorem Wk.back{rss:LLI}{cs:List (Option Int)}{F W L:LLI}{k:Nat}(h:Wk rss cs F W L k):∀st,1<=st->st<=k->∃c a b G R,Wk rss cs c a b st/\W=a++R/\F=c++G/\(∀v∈G,(st:Int)<v.sum)/\(st<k->b≠[]):=by
 induction h with
 |@one L ri nd h =>
  intro st h1 h2;have:st=1:=by omega
  subst this;exact⟨_,_,_,[],[],.one ri nd h,by simp,by simp,(λ_ z=>nomatch z),λz=>by omega⟩
 |@more F W L L' k h ne ri nd hm ih =>
  intro st h1 h2;by_cases e:st=k+1
  .subst e;exact⟨_,_,_,[],[],.more h ne ri nd hm,by simp,by simp,(λ_ z=>nomatch z),λz=>by omega⟩
  .obtain⟨c,a,b,G,R,g1,g2,g3,g4,g5⟩:=ih st h1 (by omega);refine⟨c,a,b,G++L'.filter (λv=>Ans rss v),R++L',g1,by rw[g2,List.append_assoc],by rw[g3,List.append_assoc],λv d=>?_,λ_=>?_⟩
   .rcases List.mem_append.mp d with z|z
    .exact g4 v z
    .obtain⟨u,hu,hx⟩:=(hm v).mp (List.mem_filter.mp z).1;have:=(a7L (h.lv.1 u hu) hx).sum;rw[this];omega
   .by_cases e2:st=k
    .subst e2;obtain⟨_,_,f⟩:=Wk.det _ h g1;rw[<-f];exact ne
    .exact g5 (by omega)
theorem Wk.stop{rss:LLI}{cs:List (Option Int)}{F W d a c:LLI}{k st:Nat}(h:Wk rss cs F W [] k)(g:Wk rss cs d a c st):st<=k:=by
 refine Classical.byContradiction λhc=>?_;obtain⟨j,i,L2,G,R,f,_,_,_,b⟩:=g.back k h.lv.2.2.2.2.2.1 (by omega);obtain⟨_,_,e⟩:=Wk.det _ h f;exact b (by omega) e.symm
theorem b6T{rss:LLI}{cs:List (Option Int)}{F W d a c:LLI}{k st:Nat}(h:Wk rss cs F W [] k)(g:Wk rss cs d a c st):a.length<=W.length:=by
 obtain⟨j,i,L2,G,R,f,b,_,_,_⟩:=h.back st g.lv.2.2.2.2.2.1 (h.stop g);obtain⟨_,e,_⟩:=Wk.det _ f g;rw[b,e,List.length_append];omega
theorem a9R{rss:LLI}{cs:List (Option Int)}{F W b a:LLI}{k st:Nat}(h:Wk rss cs F W [] k)(g:Wk rss cs b a [] st):F=b/\W=a:=by
 have e:k=st:=Nat.le_antisymm (g.stop h) (h.stop g);subst e;obtain⟨d,c,_⟩:=Wk.det _ h g;exact⟨d,c⟩
theorem b4V{α:Type}[DecidableEq α]:∀(a b:List α),a.Nodup->(∀x∈a,x∈b)->a.length<=b.length
 |[],b,_,_=>Nat.zero_le _
 |x::a,b,hn,h=>by
  obtain⟨h1,h2⟩:=List.nodup_cons.mp hn;have d:=h x List.mem_cons_self;have:=b4V a (b.erase x) h2 λy c=>(List.mem_erase_of_ne (λz:y=x=>h1 (z ▸ c))).mpr (h y (List.mem_cons_of_mem _ c));rw[List.length_erase_of_mem d]at this;have:=List.length_pos_of_mem d;rw[List.length_cons];omega
theorem a3v{rss:LLI}{cs:List (Option Int)}{F W:LLI}{k:Nat}{most:Int}(h:Wk rss cs F W [] k)(x:(W.length:Int)<=most):¬a9J rss cs most:=by
 rintro⟨o,t,s,st,g,d⟩;have l:=b6T h g;rcases d with q|⟨ne,b,nd,f,q⟩
 .omega
 .have hst:=h.stop g;have a:st<k:=by
   rcases Nat.lt_or_ge st k with z|z
   .exact z
   .have e:st=k:=Nat.le_antisymm hst z;subst e;obtain⟨_,_,e⟩:=Wk.det _ g h;exact absurd e ne
  obtain⟨w,n,L2,G,R,m,i,_,_,_⟩:=h.back (st+1) (by omega) a;obtain⟨p,j,r,a0,_,_,_,a3,_,a5⟩:=m.inv2 st rfl g.lv.2.2.2.2.2.1;obtain⟨rfl,rfl,rfl⟩:=Wk.det _ a0 g;have u:b.length<=L2.length:=b4V b L2 nd λv c=>(a3 v).mpr (f v c);have y:W.length=j.length+L2.length+R.length:=by rw[i,a5,List.length_append,List.length_append]
  omega
end K33
namespace L2
open PySem PySem.Spec PyProof.Rows
section
variable {X:Cx}{a b:Expr}{ta tb:TE}{pos:Pos}
end
structure Srt(rss srt:LLI):Prop where
 ri:D4 srt
 nd:srt.Nodup
 mem:∀r,r∈srt↔r∈rss
end L2
namespace L2
open PySem PySem.Spec PyProof.Rows PySem.Builtin PySem.Builtin.Str PySem.StrLaws
section
variable {X:Cx}
end
section
variable {X:Cx}
end
end L2
namespace L2
open PySem PySem.Spec PyProof.Rows PySem.NumText
section
variable {X:Cx}{e:Expr}{t:TA}{p pos:Pos}
end
section
variable {X:Cx}{o e:Expr}{es:List Expr}{to:TE}{t:TA}{apos cpos:Pos}
end
end L2
namespace L2
open PySem PySem.Spec PyProof.Rows
section
variable {X:Cx}{tg:Expr}
end
section
variable {prog:Program}{w:World}{A:Around}{E:Value->Shared->Prop}{s:Shared}
end
section
variable {M:Model}{A:Around}{E:Value->Shared->Prop}{s:Shared}{env:Env}
end
section
variable {X:Cx}
end
section
variable {X:Cx}{a b c e o i:Expr}{ta tb tc td ty te tv:TE}{t:TA}{p pos:Pos}
theorem b1V(b:X.A.units+60<cLine)(a:JE X o td)(hi:JE X i ty)(hs:b6R i:=by intro _ _;rfl):JE X (.Subscript o i pos) (b4E td ty):=⟨b3C (by omega) a.h hi.h hs⟩
end
section
variable {X:Cx}{pos:Pos}{k v:Expr}{ks:List (Option Expr)}{vs:List Expr}{tk tv:TE}{trs:List (TE×TE)}
end
end L2
namespace K33
open PySem PySem.Spec PyProof.Rows L2
theorem gdx{a b:List Int}(h:a.length=b.length)(e:∀j,j<b.length->a.getD j 0=b.getD j 0):a=b:=by
 refine List.ext_getElem h λi h1 h2=>?_;have:=e i h2;rw[List.getD_eq_getElem?_getD,List.getD_eq_getElem?_getD,List.getElem?_eq_getElem h1,List.getElem?_eq_getElem h2]at this;exact this
def a1p(a b:List Int):List Int:=List.zipWith (λa b=>a+b) a b
def a1o(c:Int)(r:List Int):List Int:=r.map λz=>c*z
def TgA:List Int->LLI->List Int->List Int
 |acc,r::rss,c::cs=>TgA (a1p acc (a1o c r)) rss cs
 |acc,_,_=>acc
theorem P7(a b:List Int)(h:a.length=b.length):(a1p a b).length=b.length:=by unfold a1p;rw[List.length_zipWith];omega
theorem C3(c:Int)(r:List Int):(a1o c r).length=r.length:=List.length_map ..
theorem a7i(a b:List Int)(h:a.length=b.length)(j:Nat):(a1p a b).getD j 0=a.getD j 0+b.getD j 0:=by
 unfold a1p;rw[List.getD_eq_getElem?_getD,List.getD_eq_getElem?_getD,List.getD_eq_getElem?_getD,List.getElem?_zipWith];by_cases c:j<a.length
 .rw[List.getElem?_eq_getElem c,List.getElem?_eq_getElem (by omega)];rfl
 .rw[List.getElem?_eq_none (by omega),List.getElem?_eq_none (by omega)];rfl
theorem a7g(c:Int)(r:List Int)(j:Nat):(a1o c r).getD j 0=c*r.getD j 0:=by
 unfold a1o;rw[List.getD_eq_getElem?_getD,List.getElem?_map,List.getD_eq_getElem?_getD];cases r[j]? with
 |none=>show(0:Int)=c*0;omega
 |some z=>rfl
theorem a8u(a r:List Int)(h:a.length=r.length):a1p a (a1o 0 r)=a:=by
 refine gdx (by rw[P7 _ _ (by rw[C3];exact h),C3];exact h.symm) λj _=>?_;rw[a7i _ _ (by rw[C3];exact h),a7g];omega
theorem a8r{n:Nat}:∀(rss:LLI) (cs acc:List Int),(∀r∈rss,r.length=n)->acc.length=n->(TgA acc rss cs).length=n
 |[],cs,acc,_,h=>by cases cs<;>exact h
 |r::rss,[],acc,_,h=>h
 |r::rss,c::cs,acc,hr,h=>by
  have h1:=hr r (List.mem_cons_self ..);exact a8r rss cs _ (λq a=>hr q (List.mem_cons_of_mem _ a)) (by rw[P7 _ _ (by rw[C3];omega),C3,h1])
theorem Y0{α:Type}{xs:List α}{i:Nat}{x:α}(h:xs[i]?=some x):xs.drop i=x::xs.drop (i+1):=by
 obtain⟨h1,h2⟩:=List.getElem?_eq_some_iff.mp h;rw[List.drop_eq_getElem_cons h1,h2]
theorem b6V(n:Nat)(xs:List Int):Wi (List.replicate n none) xs=true:=by
 unfold Wi;induction n generalizing xs with
 |zero=>rfl
 |succ n ih =>
  cases xs with
  |nil=>rfl
  |cons x xs=>rw[List.replicate_succ,List.zipWith_cons_cons,List.all_cons,ih];rfl
abbrev tgl(n:Nat)(tss:LLI)(c:List Int):List Int:=TgA (List.replicate n 0) tss c
abbrev fre(m:Nat):List (Option Int):=List.replicate m none
theorem K2(m:Nat):(fre m).length=m:=List.length_replicate
abbrev Cnt(tss:LLI)(row c:List Int):Prop:=Least [tss.map (dot row)] (fre tss.length) c
section
variable {rss tss:LLI}{row:List Int}{n:Nat}
theorem a3Y(h:∀t∈tss,t.length=n)(c:List Int):(tgl n tss c).length=n:=a8r tss c _ h List.length_replicate
variable (hR:∀r∈rss,r.length=n) (hrow:row.length=n) (hL:∀v,v∈tss↔Least rss (fre n) v)
include hL in
include hL hrow in
include hR hrow hL in
include hR hrow hL in
end
section
variable {P:Program}{w:World}{K:PySem.W.Frag}{mg:Str->Option Value}{base:Heap}
inductive IspNought(vs:List V)(H:Hp)(Q:VK)(E:XK):Prop
 |mk (n:Int) (_:vs=[.int n]) (_:1<=n) (_:n<=1000) (_:∀v H',Same H H'->IT H' v (List.replicate n.toNat 0)->Q v H'):IspNought  vs H Q E
def a5l:Sp:=λvs H Q E=>IspNought  vs H Q E
theorem a8H:FnScope ["width"] ["width"] (A1 a0o):=⟨rfl,rfl,rfl,by decide +kernel,rfl,by decide +kernel,by decide +kernel⟩
theorem a8X(F:FunAt K mg "nought" a0o ["width"]):Ok P w K mg base "nought" 1 ["width"] a5l:=by
 refine F.okJ a8H (λvs H Q E h=>?_) (λa f A outer s H vs Q E hr h=>?_)
 .obtain⟨n,rfl,_⟩:=h;rfl
 .obtain⟨n,rfl,h1,h2,k⟩:=h;refine⟨_,(A4 (B0 (a6H (E8 (jaC A6 jaN)) (jv 0)))),?_⟩;have hz:(1000:Nat)<=sizeLine:=by rw[sizeLine_eq];decide
  refine⟨by show 1<=sizeLine;omega,λp hp=>⟨_,rfl,p,[.int 0],n,rfl,rfl,A0,by simp,h1,?_,λq H' s e=>?_⟩⟩
  .show(1:Int)*n<=_;omega
  .rw[a5O]at e;exact k _ _ (((Same.refl H).upd hp).trans s) ⟨q,rfl,e⟩
inductive IspZip(g:Int->Int->Int)(vs:List V)(H:Hp)(Q:VK)(E:XK):Prop
 |mk (x:_) (y:_) (xs:_) (ys:_) (_:vs=[x,y]) (_:IT H x xs) (_:IT H y ys) (_:xs.length<=1000) (_:∀v H',Same H H'->IT H' v (List.zipWith g xs ys)->Q v H'):IspZip g vs H Q E
def b4G(g:Int->Int->Int):Sp:=λvs H Q E=>IspZip g vs H Q E
theorem b2Z:FnScope ["one","other"] ["one","other"] (A1 a4o):=⟨rfl,rfl,rfl,by decide +kernel,rfl,by decide +kernel,by decide +kernel⟩
theorem b3Q(F:FunAt K mg "plus" a4o ["one","other"])(T:Tx mg):Ok P w K mg base "plus" 1 ["one","other"] (b4G λa b=>a+b):=by
 refine F.okJ b2Z (λvs H Q E h=>?_) (λd f A outer s H vs Q E hr h=>?_)
 .obtain⟨x,y,xs,ys,rfl,_⟩:=h;rfl
 .obtain⟨_,_,xs,ys,rfl,⟨a,rfl,ha⟩,⟨b,rfl,hb⟩,hl,k⟩:=h;refine⟨_,(A4 (B0 (B6 K rfl T.b_tuple (jaC (B9 (N:=["a","b"]) (src:=[none,none]) (V7 K rfl T.b_zip (jaC (jv 0) (jaC (jv 1) jaN))) (by show B8 _ _=true;rfl) (by rfl) (by rfl)
 (λ_ _ _ _ _=>(S8 K 2 (B5 (A7 (i:=0) (show(["a","b"]:List Str).Nodup by decide +kernel) rfl (Or.inl rfl)) (B5 (A7 (i:=1) (show(["a","b"]:List Str).Nodup by decide +kernel) rfl (Or.inl rfl)) M0)))) (λ_ _ _ _ _=>C2) (λ_ _ _ _ _=>(T7 (jv 0) (jv 1)))) jaN)))),?_⟩
  refine⟨_,rfl,_,rfl,true,true,a,b,rfl,⟨_,SqT.of ha⟩,⟨_,SqT.of hb⟩,?_⟩;refine a4S (caps:=[]) (λx y=>V.int (x+y)) (sqt ha) (sqt hb) hl (λH' s=>⟨sqt (s _ _ ha),sqt (s _ _ hb)⟩) rfl (λx y H1 c _ q=>⟨_,rfl,_,rfl,_,_,rfl,rfl,q⟩) λH1 p s hp=>?_;rw[a3T (λx y=>x+y) V.int];refine⟨p,_,rfl,.inl ⟨SqL.of A0,λl hl=>?_⟩⟩;exact k _ _ ((s.upd hp).upd hl) ⟨l,rfl,A0⟩
inductive IspTimes(vs:List V)(H:Hp)(Q:VK)(E:XK):Prop
 |mk (m:Int) (x:V) (xs:List Int) (_:vs=[.int m,x]) (_:IT H x xs) (_:xs.length<=1000) (_:0<=m) (_:m<2 ^ 63) (_:∀v H',Same H H'->IT H' v (xs.map λz=>m*z)->Q v H'):IspTimes  vs H Q E
def a7q:Sp:=λvs H Q E=>IspTimes  vs H Q E
theorem b0q:FnScope ["many","one"] ["many","one"] (A1 a1F):=⟨rfl,rfl,rfl,by decide +kernel,rfl,by decide +kernel,by decide +kernel⟩
theorem b1h(F:FunAt K mg "times" a1F ["many","one"])(T:Tx mg):Ok P w K mg base "times" 1 ["many","one"] a7q:=by
 refine F.okJ b0q (λvs H Q E h=>?_) (λc f A outer s H vs Q E hr h=>?_)
 .obtain⟨m,x,xs,rfl,_⟩:=h;rfl
 .obtain⟨m,_,xs,rfl,⟨a,rfl,ha⟩,hl,m0,m1,k⟩:=h;refine⟨_,(A4 (B0 (B6 K rfl T.b_tuple (jaC (B9 (N:=["a","many"]) (src:=[none,some 0]) (O9 K (jv 1)) (by show B8 _ _=true;rfl) (by rfl) (by rfl)
 (λ_ _ _ _ _=>(A7 (i:=0) (show(["a","many"]:List Str).Nodup by decide +kernel) rfl (Or.inl rfl))) (λ_ _ _ _ _=>C2) (λ_ _ _ _ _=>(Z5 (jv 1) (jv 0)))) jaN)))),?_⟩
  refine⟨_,rfl,a,rfl,⟨_,SqT.of ha⟩,?_⟩;refine a5d (caps:=[some (.int m)]) (λz=>V.int (m*z)) hl (λH' s=>SqT.of (s _ _ ha)) rfl (λx H1 b _ _ q=>⟨_,rfl,_,rfl,_,_,rfl,rfl,.inl ⟨by omega,by omega⟩,q⟩) λH1 p s hp=>?_;rw[show(xs.map λx=>V.int (m*x))=(xs.map λx=>m*x).map V.int by rw[List.map_map];rfl];refine⟨p,_,rfl,.inl ⟨SqL.of A0,λl hl=>?_⟩⟩;exact k _ _ ((s.upd hp).upd hl) ⟨l,rfl,A0⟩
inductive IspTog(vs:List V)(H:Hp)(Q:VK)(E:XK):Prop
 |mk (t c:Addr) (us:List V) (rss:LLI) (cs:List Int) (n:Nat) (_:vs=[.ref t,.ref c,.int n]) (_:H t=some (.tup us)) (_:Its H us rss) (_:H c=some (.tup (cs.map V.int))) (_:1<=n) (_:n<=1000) (_:(∀r∈rss,r.length=n)) (_:(∀c∈cs,0<=c/\c<2 ^ 63)) (_:∀v H',Same H H'->IT H' v (TgA (List.replicate n 0) rss cs)->Q v H'):IspTog  vs H Q E
def b4H:Sp:=λvs H Q E=>IspTog  vs H Q E
theorem sc_together:FnScope ["told","counts","width","whole","one","many"] ["told","counts","width"] (A1 R6):=⟨rfl,rfl,rfl,by decide +kernel,rfl,by decide +kernel,by decide +kernel⟩
theorem a5x(F:FunAt K mg "together" R6 ["told","counts","width"])(T:Tx mg)(d:Ok P w K mg base "nought" 1 ["width"] a5l)(j:Ok P w K mg base "times" 1 ["many","one"] a7q)(k:Ok P w K mg base "plus" 1 ["one","other"] (b4G λa b=>a+b)):Ok P w K mg base "together" 2 ["told","counts","width"] b4H:=by
 refine F.okJ sc_together (λvs H Q E h=>?_) (λY f A outer s H vs Q E hr h=>?_)
 .obtain⟨t,c,us,rss,cs,n,rfl,_⟩:=h;rfl
 .obtain⟨t,c,us,rss,cs,n,rfl,ht,hI,hc,hn1,hn,hR,hC,kk⟩:=h;refine⟨_,(A3 (B1 (i:=3) sc_together.nd rfl (Or.inl rfl) (A9 d (hr.mono (by omega)) rfl (jaC (jv 2) jaN)))
 (A3 (J2 (V7 K rfl T.b_zip (jaC (jv 0) (jaC (jv 1) jaN))) (S8 K 2 (B5 (A7 (i:=4) sc_together.nd rfl (Or.inl rfl)) (B5 (A7 (i:=5) sc_together.nd rfl (Or.inl rfl)) M0)))
 (A4 (E9 (a7P (jv 5) A6)
 (A4 (B1 (i:=3) sc_together.nd rfl (Or.inl rfl) (A9 k (hr.mono (by omega)) rfl (jaC (jv 3) (jaC (A9 j (hr.mono (by omega)) rfl (jaC (jv 5) (jaC (jv 4) jaN))) jaN)))))
 D0)))
 (A4 (B0 (jv 3))))),?_⟩
  refine⟨_,rfl,_,rfl,by omega,by omega,λS H1 s1 u=>?_⟩;rw[Int.toNat_natCast]at u;dsimp only[A8];refine⟨_,rfl,_,rfl,true,true,t,c,rfl,⟨_,SqT.of (s1 _ _ ht)⟩,⟨_,SqT.of (s1 _ _ hc)⟩,?_⟩;refine a8c (k1:=true) (k2:=true) (xs:=us) (zs:=cs.map V.int) (λi σ H'=>Ex4 λv G D acc=>An5 (σ=[some (.ref t),some (.ref c),some (.int n),some v,G,D]) (Same H H') (IT H' v acc) (acc.length=n) (TgA acc (rss.drop i) (cs.drop i)=TgA (List.replicate n 0) rss cs))
   ⟨S,none,none,_,rfl,s1,u,List.length_replicate,rfl⟩ (λi σ H' _ _ h=>by obtain⟨_,_,_,_,_,s',_⟩:=h;exact⟨SqT.of (s' _ _ ht),SqT.of (s' _ _ hc)⟩) ?_ ?_
  .rintro i x z σ H' q hx hz' ⟨v,G,D,acc,rfl,s',hv',hal,hT⟩ hq;obtain⟨g,p,rfl⟩:=M1 hz';obtain⟨r,hr,B,ra,rfl,I⟩:=hI.mem hx;have C:=hR r hr;have m:=hC g (List.mem_of_getElem? p);rw[Y0 B,Y0 p]at hT;refine⟨q,[.ref ra,.int g],rfl,SqT.of A0,rfl,.ref ra,[.int g],rfl,.int g,[],rfl,rfl,?_⟩;have y:=s'.upd (o:=.tup [.ref ra,.int g]) hq;have l:=hv'.same ((Same.refl H').upd (o:=.tup [.ref ra,.int g]) hq);generalize upd H' q (.tup [.ref ra,.int g])=X at y l;dsimp only[A8];refine⟨_,rfl,_,_,rfl,rfl,_,rfl,a0T (λe=>?_) (λe=>?_)⟩
   .refine⟨_,rfl,_,rfl,_,rfl,g,.ref ra,r,rfl,⟨ra,rfl,y _ _ I⟩,by omega,m.1,m.2,λW U M L=>?_⟩;refine⟨v,W,acc,_,rfl,l.same M,L,by omega,λO R N J=>?_⟩;exact⟨O,_,_,a1p acc (a1o g r),rfl,(y.trans M).trans N,J,by rw[P7 _ _ (by rw[C3];omega),C3];exact C,hT⟩
   .have e0:g=0:=by
     have:¬0<g:=λz=>e (decide_eq_true z);omega
    subst e0;change TgA (a1p acc (a1o 0 r)) _ _=_ at hT;rw[a8u acc r (by omega)]at hT;exact⟨v,_,_,acc,rfl,y,l,hal,hT⟩
  .rintro σ H' ⟨v,G,D,acc,rfl,s',hv',hal,hT⟩;have e:acc=TgA (List.replicate n 0) rss cs:=by
    rw[<-hT,List.length_map,hI.1];by_cases h:rss.length<=cs.length
    .rw[Nat.min_eq_left h,List.drop_length];cases cs.drop rss.length<;>rfl
    .rw[Nat.min_eq_right (by omega),List.drop_length];cases rss.drop cs.length<;>rfl
   subst e;exact⟨_,rfl,kk _ _ s' hv'⟩
end
def Tk(H H':Hp):Prop:=∀c xs,H c=some (HO.tup xs)->H' c=some (.tup xs)
theorem Tk.trans{H H' a:Hp}(h:Tk H H')(g:Tk H' a):Tk H a:=λc xs e=>g c xs (h c xs e)
theorem Tk.same{H H':Hp}(s:Same H H'):Tk H H':=λc xs e=>s c _ e
theorem Tk.it{H H':Hp}(h:Tk H H'){v:V}{r:List Int}(g:IT H v r):IT H' v r:=let ⟨a,e,q⟩:=g;⟨a,e,h _ _ q⟩
section
variable {P:Program}{w:World}{K:PySem.W.Frag}{mg:Str->Option Value}{base:Heap}
theorem b1Z(a:LLI):(IK a).length=a.length:=List.length_map ..
theorem a0w(v:List Int):(v.map (Sum.inl:Int->Key)).map kV=v.map V.int:=by rw[List.map_map];rfl
theorem mem_IK{a:LLI}{v:List Int}:v.map (Sum.inl:Int->Key)∈IK a↔v∈a:=by
 unfold IK;rw[List.mem_map];constructor
 .rintro⟨u,hu,e⟩;rw[<-a1P e];exact hu
 .intro h;exact⟨v,h,rfl⟩
def fir(n:Nat)(tss cts:LLI)(v:List Int):List Int:=(cts.find? λc=>decide (tgl n tss c=v)).getD []
theorem a1Q{n:Nat}{tss a:LLI}{v:List Int}(d:List Int)(h:∃c∈a,tgl n tss c=v):fir n tss (a++[d]) v=fir n tss a v:=by
 obtain⟨c,hc,e⟩:=h;unfold fir;rw[List.find?_append];cases q:a.find? λc=>decide (tgl n tss c=v)with
 |some x=>rfl
 |none=>exact absurd (decide_eq_true e) (List.find?_eq_none.mp q c hc)
theorem a8e{n:Nat}{tss a:LLI}{v d:List Int}(h:¬∃c∈a,tgl n tss c=v)(e:tgl n tss d=v):fir n tss (a++[d]) v=d:=by
 unfold fir;rw[List.find?_append,List.find?_eq_none.mpr λc hc z=>h ⟨c,hc,of_decide_eq_true z⟩];simp[e]
structure NarC(tss:LLI)(row:List Int)(most:Nat)(cts fss:LLI):Prop where
 ri:D4 cts
 wk:∃F W k,cts.Perm F/\Wk [tss.map (dot row)] (fre tss.length) F W [] k/\W.length<=most
 ex:∃mss srt,mss.Nodup/\(∀v,v∈mss↔∃c∈cts,tgl row.length tss c=v)/\Srt mss srt/\fss=srt.filter λv=>Lst mss v
inductive IspNarrow(D:Addr)(vs:List V)(H:Hp)(Q:VK)(E:XK):Prop
 |mk (t r:Addr) (zs:List V) (tss:LLI) (row:List Int) (most:Nat) (mi:Int) (_:vs=[.ref t,.ref r,.int mi]) (_:mi=most) (_:H t=some (.tup zs)) (_:Its H zs tss) (_:H r=some (.tup (row.map V.int))) (_:1<=row.length) (_:row.length<=100) (_:zs.length<=100) (_:most<=900) (_:(∀v∈tss,v.length=row.length/\Sm v)) (_:Sm (tss.map (dot row))) (_:(∀q f g fs fss gs cts H',Same H H'->H' q=some (.tup [.ref f,.ref g])->H' f=some (.tup fs)->Its H' fs fss->H' g=some (.tup gs)->Its H' gs (fss.map (fir row.length tss cts))->NarC tss row most cts fss->Q (.ref q) H')) (_:∀H',Same H H'->a9J [tss.map (dot row)] (fre tss.length) most->E (.ref D) none H'):IspNarrow D vs H Q E
def U7(D:Addr):Sp:=λvs H Q E=>IspNarrow D vs H Q E
theorem sc_narrowed:FnScope ["told","row","most","totals","first","counts","found"] ["told","row","most"] (A1 R7):=⟨rfl,rfl,rfl,by decide +kernel,rfl,by decide +kernel,by decide +kernel⟩
theorem a5y{j:Addr}(F':FunAt K mg "narrowed" R7 ["told","row","most"])(T:Tx mg)(p:Ok P w K mg base "row_sum" 1 ["row","one"] a2c)(U:Ok P w K mg base "free" 1 ["width"] b0i)(m:Ok P w K mg base "together" 2 ["told","counts","width"] b4H)(n:Ok P w K mg base "least_of" 3 ["some"] a3o)(C:OkE P w K mg base "least" 7 ["rows","caps","most"] (a4e j)):OkE P w K mg base "narrowed" 8 ["told","row","most"] (U7 j):=by
 refine F'.okE sc_narrowed (λvs H Q E h=>?_) (λf9 f A outer s H vs Q E hr h=>?_)
 .obtain⟨t,r,zs,tss,row,most,mi,rfl,_⟩:=h;rfl
 .obtain⟨t,r,zs,tss,row,most,_,rfl,rfl,ht,hI,hrw,r1,r2,hzl,hmo,hT,hS,kq,ke⟩:=h;have hu:=hr.u60;have hz:(30000:Nat)<=sizeLine:=by rw[sizeLine_eq];decide
  refine⟨_,(A3 (B1 (i:=3) sc_narrowed.nd rfl (Or.inl rfl) (B6 K rfl T.b_tuple (jaC (B9 (N:=["one","row"]) (src:=[none,some 1]) (O9 K (jv 0)) (by show B8 _ _=true;rfl) (by rfl) (by rfl)
 (λ_ _ _ _ _=>(A7 (i:=0) (show(["one","row"]:List Str).Nodup by decide +kernel) rfl (Or.inl rfl))) (λ_ _ _ _ _=>C2) (λ_ _ _ _ _=>(A9 p (hr.mono (by omega)) rfl (jaC (jv 1) (jaC (jv 0) jaN))))) jaN)))
 (A3 (B1 (i:=4) sc_narrowed.nd rfl (Or.inr rfl) a4C)
 (A3 (J2 (O9 K (K4 K (b4g C (hr.mono (by omega)) rfl (jaC (E8 (jaC (jv 3) jaN)) (jaC (A9 U (hr.mono (by omega)) rfl (jaC (G2 K rfl T.b_len (jaC (jv 0) jaN)) jaN)) (jaC (jv 2) jaN)))) A6)) (A7 (i:=5) sc_narrowed.nd rfl (Or.inl rfl))
 (A4 (S7 (b4f hu (jv 4) (A9 m (hr.mono (by omega)) rfl (jaC (jv 0) (jaC (jv 5) (jaC (G2 K rfl T.b_len (jaC (jv 1) jaN)) jaN)))) (jv 5)))) (hp:=PassesOwn.leaving))
 (A3 (B1 (i:=6) sc_narrowed.nd rfl (Or.inl rfl) (A9 n (hr.mono (by omega)) rfl (jaC (a9i rfl T.b_tuple (jaC (jv 4) jaN)) jaN)))
 (A4 (B0 (E8 (jaC (jv 6) (jaC (B6 K rfl T.b_tuple (jaC (B9 (N:=["one","first"]) (src:=[none,some 4]) (O9 K (jv 6)) (by show B8 _ _=true;rfl) (by rfl) (by rfl)
 (λ_ _ _ _ _=>(A7 (i:=0) (show(["one","first"]:List Str).Nodup by decide +kernel) rfl (Or.inl rfl))) (λ_ _ _ _ _=>C2) (λ_ _ _ _ _=>(b1V hu (jv 1) (jv 0)))) jaN)) jaN))))))))),?_⟩
  refine⟨_,rfl,t,rfl,⟨_,SqT.of ht⟩,?_⟩;refine a3X (caps:=[some (.ref r)]) (λv=>V.int (dot row v)) (by omega) (λH' s=>SqT.of (s _ _ ht)) hI rfl (λv u H1 Q1 c4 B s1 q=>?_) λH1 p1 s1 d1=>?_
  .exact⟨_,rfl,_,rfl,.ref r,v,row,u,rfl,⟨r,rfl,s1 _ _ hrw⟩,B,by omega,(hT u c4).2,λH2 s2=>q H2 s2⟩
  rw[show(tss.map λv=>V.int (dot row v))=(tss.map (dot row)).map V.int by rw[List.map_map];rfl];refine⟨p1,_,rfl,.inl ⟨SqL.of A0,λpt d9=>?_⟩⟩;have s2:=(s1.upd (o:=.lst ((tss.map (dot row)).map V.int)) d1).upd (o:=.tup ((tss.map (dot row)).map V.int)) d9;have e2:upd (upd H1 p1 (.lst ((tss.map (dot row)).map V.int))) pt (.tup ((tss.map (dot row)).map V.int)) pt=some (.tup ((tss.map (dot row)).map V.int)):=A0;generalize upd (upd H1 p1 (.lst ((tss.map (dot row)).map V.int))) pt (.tup ((tss.map (dot row)).map V.int))=H2 at s2 e2
  try dsimp only[A8,List.set]
  intro d hd
  try dsimp only[A8,List.set]
  have d7:H d=none:=s2.free hd;have a6:=(Same.refl H2).upd (o:=.dT []) hd;have s3:=s2.trans a6;have e3:upd H2 d (.dT []) d=some (.dT []):=A0;have e2:=a6 _ _ e2;generalize upd H2 d (.dT [])=H3 at s3 a6 e3 e2;refine⟨_,rfl,by show 1<=sizeLine;omega,λp4 e7=>?_⟩;have Z:=(Same.refl H3).upd (o:=.tup [.ref pt]) e7;have s4:=s3.trans Z;have e4:upd H3 p4 (.tup [.ref pt]) p4=some (.tup [.ref pt]):=A0;have e2:=Z _ _ e2;have c1:=Z _ _ e3;generalize upd H3 p4 (.tup [.ref pt])=H4 at s4 Z e4 e2 c1;refine⟨_,rfl,t,_,rfl,.inr (SqT.of (s4 _ _ ht)),_,rfl,by omega,by omega,λca H5 s5 c2=>?_⟩;rw[Int.toNat_natCast,hI.1]at c2;have c5:tss.length<=100:=by rw[<-hI.1];exact hzl
  have Y:SyAt H5 p4 ca [tss.map (dot row)] (fre tss.length):=⟨⟨[.ref pt],s5 _ _ e4,Its.nil.snoc ⟨pt,rfl,s5 _ _ e2⟩,by simp⟩,c2,Nat.zero_le _,by rw[K2];exact c5,λr' a3=>by
   rw[List.mem_singleton.mp a3,K2,List.length_map];exact⟨rfl,hS⟩⟩
  have f0:(most+1)*(tss.length+1)<=901*101:=Nat.mul_le_mul (by omega) (by omega);refine⟨_,rfl,p4,ca,_,fre tss.length,most,_,rfl,rfl,Y,by rw[K2];omega,λq t0 pp ys l ws Fl W k H6 s6 hq b2 a0 O d3 f5 f3 hW b9=>?_,λH6 s6 ho=>ke H6 ((s4.trans s5).trans s6) ho⟩;have b4:=s5.trans s6;have d8:=s4.trans b4;have c7:=b4 _ _ c1;have c3:∀c,c∈l↔Cnt tss row c:=λc=>O.mem_iff.trans (hW.least (λr' a3=>(Y.hR r' a3).1) c);have f1:l.length<=most:=by rw[O.length_eq];have:=hW.lv;omega
  have b7:∀c∈l,c.sum<=(most:Int)+1:=λc hc=>by
   obtain⟨i1,i2,i3,i4,i5,i6,i7,i8⟩:=hW.lv;obtain⟨i,q1,q2,lv⟩:=i2 c (i3 c (O.mem_iff.mp hc)).1;rw[lv.sum];omega
  have b6:∀v∈tss,v.length=row.length:=λv B=>(hT v B).1;refine⟨q,_,0,_,rfl,rfl,SqT.of hq,rfl,t0,rfl,⟨_,SqT.of b2⟩,?_⟩;refine a4G (K:=K) (a:=t0) (xs:=ys) (λi σ H'=>Ex3 λ(o5:Option V) (kvs:List (List Key×V)) (g:LLI)=>An9 (σ=[some (.ref t),some (.ref r),some (.int most),some (.ref pt),some (.ref d),o5,none]) (Same H H') (Tk H6 H') (H' d=some (.dT kvs)) (kvs.map (·.1)=IK g) (g.Nodup) (g.length<=i) ((∀v,v∈g↔∃c∈l.take i,tgl row.length tss c=v)) (∀v∈g,∃y,D7 kvs (v.map Sum.inl)=some y/\IT H6 y (fir row.length tss (l.take i) v)))
   ⟨none,[],[],rfl,d8,λ_ _ e=>e,c7,rfl,List.nodup_nil,Nat.le_refl _,by simp,(λ_ z=>nomatch z)⟩ (λi σ H' _ h=>by obtain⟨_,_,_,_,_,tk,_⟩:=h;exact SqT.of (tk _ _ b2)) ?_ ?_
  .rintro i x σ H7 hx ⟨o5,kvs,g,rfl,s7,tk7,ed7,hk,hnd,hml7,hmem,hfir⟩;obtain⟨c,b1,d6,c0⟩:=a0.mem hx;obtain⟨xa,rfl,a4⟩:=id c0;have f6:i<ys.length:=(List.getElem?_eq_some_iff.mp hx).1;have f8:=a0.1;have b0:=((c3 c).mp b1).an;have X:l.take (i+1)=l.take i++[c]:=by rw[List.take_add_one,d6];rfl
   have f7:kvs.length=g.length:=by rw[<-b1Z g,<-hk,List.length_map]
   try dsimp only[A8,List.set]
   refine⟨_,rfl,d,rfl,.inr ⟨kvs,.inl ed7⟩,_,rfl,_,rfl,_,rfl,r,_,rfl,.inr (SqT.of (s7 _ _ hrw)),t,xa,zs,tss,c,row.length,by rw[List.length_map];rfl,s7 _ _ ht,hI.same s7,tk7 _ _ a4,r1,by omega,b6,λy hy=>?_,λv8 H8 s8 d4=>?_⟩
   .have h1:=b0.nn y hy;have h2:=a7M b0.nn y hy;have:=b7 c b1;omega
   obtain⟨va,rfl,e5⟩:=d4;have D:=s8 _ _ ed7;have b8:=s7.trans s8;have a5:=tk7.trans (Tk.same s8);refine⟨_,rfl,kvs,(tgl row.length tss c).map Sum.inl,va,D,rfl,by rw[a0w];exact e5,by omega,λv' c6=>?_,λhn=>?_⟩
   .have hin:tgl row.length tss c∈g:=mem_IK.mp (by rw[<-hk];exact a7h c6);refine⟨_,kvs,g,rfl,b8,a5,D,hk,hnd,by omega,λv=>?_,λv B=>by rw[X,a1Q c ((hmem v).mp B)];exact hfir v B⟩;rw[hmem v,X];constructor
    .rintro⟨c',h1,h2⟩;exact⟨c',List.mem_append_left _ h1,h2⟩
    .rintro⟨c',h1,rfl⟩;rcases List.mem_append.mp h1 with z|z
     .exact⟨c',z,rfl⟩
     .rw[List.mem_singleton.mp z];exact(hmem _).mp hin
   .have hni:tgl row.length tss c∉g:=λz=>a1Z hn (by rw[hk];exact mem_IK.mpr z);refine⟨_,_,g++[tgl row.length tss c],rfl,λb o e=>by rw[A2 (A5 e d7)];exact b8 b o e,λb xs e=>by rw[A2 (G5 (a5 _ _ e) D (λz=>nomatch z))];exact a5 _ _ e,A0,by rw[a2l _ hn,List.map_append,hk];unfold IK;rw[List.map_append];rfl,a0t hnd hni,by rw[List.length_append];show _+1<=_;omega,λv=>?_,λv B=>?_⟩
    rotate_left
    .rw[X,a5a];by_cases ev:v=tgl row.length tss c
     .rw[if_pos (by rw[ev]),a8e (λz=>hni (by rw[<-ev];exact(hmem v).mpr z)) ev.symm];exact⟨_,rfl,c0⟩
     .have B:v∈g:=by
       rcases List.mem_append.mp B with z|z
       .exact z
       .exact absurd (List.mem_singleton.mp z) ev
      rw[if_neg (λz=>ev (a1P z)),a1Q c ((hmem v).mp B)];exact hfir v B
    rw[List.mem_append,hmem v,X,List.mem_singleton];constructor
    .rintro(⟨c',h1,h2⟩|rfl)
     .exact⟨c',List.mem_append_left _ h1,h2⟩
     .exact⟨c,by simp,rfl⟩
    .rintro⟨c',h1,rfl⟩;rcases List.mem_append.mp h1 with z|z
     .exact .inl ⟨c',z,rfl⟩
     .rw[List.mem_singleton.mp z];exact .inr rfl
  .rintro σ H7 ⟨o5,kvs,g,rfl,s7,tk7,ed7,hk,hnd,hml7,hmem,hfir⟩;rw[a0.1,List.take_length]at hmem hfir;rw[a0.1]at hml7;have d2:∀v∈g,v.length=row.length:=λv B=>by
    obtain⟨c,_,rfl⟩:=(hmem v).mp B;exact a3Y b6 c
   refine⟨_,rfl,d,kvs,g,rfl,ed7,hk,λp8 ms c9 F=>?_⟩;have L:=(Same.refl H7).upd (o:=.tup ms) c9;have e8:upd H7 p8 (.tup ms) p8=some (.tup ms):=A0;have s8:=s7.trans L;have F:=F.same L;have D:=L _ _ ed7;generalize upd H7 p8 (.tup ms)=H8 at s8 L e8 F D;refine⟨p8,ms,g,row.length,rfl,e8,F,by rw[F.1];omega,r1,by omega,d2,λp9 fs G H9 a2 S e9 M=>?_⟩;have s9:=s8.trans a2;have e1:=a2 _ _ D
   try dsimp only[A8,List.set]
   have b3:NarC tss row most l (G.filter λv=>Lst g v):=⟨d3,⟨Fl,W,k,O,hW,b9⟩,g,G,hnd,hmem,S,rfl⟩;have f2:fs.length<=most:=by
    rw[M.1];have:=Tab.nodup_le G g S.nd λr hr=>(S.mem r).mp hr;have:=List.length_filter_le (λv=>Lst g v) G;omega
   refine⟨_,rfl,_,rfl,p9,rfl,⟨_,SqT.of e9⟩,?_⟩;refine a0C (K:=K) (a:=p9) (xs:=fs) (by omega) (λi zs H'=>Same H9 H'/\zs.length<=i/\Its H' zs (((G.filter λv=>Lst g v).take i).map (fir row.length tss l))) ⟨Same.refl _,Nat.le_refl _,.nil⟩ (λi zs H' _ h=>⟨SqT.of (h.1 _ _ e9),h.2.1⟩) ?_ ?_
   .rintro i x zs' H10 hx ⟨s10,hzl',hIz⟩;obtain⟨v,d5,c8,xa,rfl,a4⟩:=M.mem hx;have e0:v∈g:=(S.mem v).mp (List.mem_filter.mp d5).1;obtain⟨y,hy,d0⟩:=hfir v e0;refine⟨Sub.one,?_⟩;refine⟨_,rfl,_,rfl,d,y,rfl,?_,s10,by simp;omega,?_⟩
    .have:=DGet.t (k:=v.map Sum.inl) (s10 _ _ e1) (b:=xa) (by rw[a0w];exact s10 _ _ a4);rw[hy]at this;exact this
    .rw[List.take_add_one,c8,List.map_append];exact hIz.snoc ((((tk7.trans (Tk.same L)).trans (Tk.same a2)).trans (Tk.same s10)).it d0)
   .rintro zs' H10 ⟨s10,hzl',hIz⟩ p10 hp10;rw[M.1,List.take_length]at hIz;refine⟨p10,_,rfl,.inl ⟨SqL.of A0,λR b5=>?_⟩⟩;have I:=((Same.refl H10).upd (o:=.lst zs') hp10).upd (o:=.tup zs') b5;have a9:=s10.trans I;have a8:upd (upd H10 p10 (.lst zs')) R (.tup zs') R=some (.tup zs'):=A0;generalize upd (upd H10 p10 (.lst zs')) R (.tup zs')=e6 at a9 I a8;refine⟨by show 2<=sizeLine;omega,λf4 a7=>?_⟩;have J:=(Same.refl e6).upd (o:=.tup [.ref p9,.ref R]) a7;have a1:=a9.trans J;exact kq f4 p9 R fs _ _ _ _ (s9.trans a1) A0 (a1 _ _ e9) (M.same a1) (J _ _ a8) ((hIz.same I).same J) b3
end
end K33
namespace K33
open PySem PySem.Spec PyProof.Rows L2
section
variable {P:Program}{w:World}{K:PySem.W.Frag}{mg:Str->Option Value}{base:Heap}
inductive IspNumber(vs:List V)(H:Hp)(Q:VK)(E:XK):Prop
 |mk (a b:Addr) (n:Nat) (far:Int) (_:vs=[.ref a,.int far]) (_:0<=far) (_:far<=1000000000000) (_:PotAt H a b n) (_:n+10<2 ^ 60) (_:∀r H',-(far+3)<=r->r<=far+3->PotAt H' a b (n+3)->Off [a,b] H H'->Q (.int r) H'):IspNumber  vs H Q E
def a5k:Sp:=λvs H Q E=>IspNumber  vs H Q E
theorem a2e:FnScope ["_law_pot_here","_law_far"] ["_law_pot_here","_law_far"] (A1 J8):=⟨rfl,rfl,rfl,by decide +kernel,rfl,by decide +kernel,by decide +kernel⟩
theorem a8W(F:FunAt K mg "_law_number" J8 ["_law_pot_here","_law_far"])(T:Tx mg)(c:Ok P w K mg base "_law_take" 1 ["_law_pot_here","_law_many"] a4b):Ok P w K mg base "_law_number" 2 ["_law_pot_here","_law_far"] a5k:=by
 refine F.okJ a2e (λvs H Q E h=>?_) (λq f A outer s H vs Q E hr h=>?_)
 .obtain⟨a,b,n,far,rfl,_⟩:=h;rfl
 .obtain⟨a,b,n,far,rfl,hf0,hf1,hP,hn,k⟩:=h;refine⟨_,(A3 (E9 (a4z (a0R (a7P (jv 1) A6) (X9 (a5M (A9 c (hr.mono (by omega)) rfl (jaC (jv 0) (jaC A6 jaN))) A6))))
 (A4 (B0 (a7T (A9 c (hr.mono (by omega)) rfl (jaC (jv 0) (jaC (T7 (Z5 A6 (jv 1)) A6) jaN))) (jv 1))))
 D0)
 (A4 (B0 (a7T (A9 c (hr.mono (by omega)) rfl (jaC (jv 0) (jaC A6 jaN))) A6)))),?_⟩
  refine⟨_,rfl,_,_,rfl,rfl,_,rfl,a0T (λe=>?_) (λe=>?_)⟩
  .have e':0<far:=of_decide_eq_true e;refine⟨_,rfl,a,b,_,4,rfl,hP,by omega,by decide,by decide,λr1 H1 o m j i=>?_⟩;refine⟨rfl,_,rfl,a0T (λe=>?_) (λe=>⟨_,rfl,a,b,_,7,rfl,j,by omega,by decide,by decide,λr H2 h0 h1 g d=>⟨_,_,rfl,rfl,k _ _ (by show _<=r-3;omega) (by show r-3<=_;omega) (g.mono (by omega)) (i.trans d)⟩⟩)⟩;refine⟨_,rfl,_,rfl,_,_,rfl,rfl,.inl ⟨by omega,by omega⟩,_,_,rfl,rfl,a,b,_,_,rfl,j,by omega,by omega,by omega,λr2 H2 l p g d=>?_⟩;exact⟨_,rfl,_,_,rfl,rfl,k _ _ (by show _<=r2-far;omega) (by show r2-far<=_;omega) (g.mono (by omega)) (i.trans d)⟩
  .exact J4 (⟨_,rfl,a,b,_,7,rfl,hP,by omega,by decide,by decide,λr H2 h0 h1 g d=>⟨_,_,rfl,rfl,k _ _ (by show _<=r-3;omega) (by show r-3<=_;omega) (g.mono (by omega)) ((Off.refl _ _).trans d)⟩⟩)
def VB(wd:Nat)(r:List Int):Prop:=r.length=wd/\∀x∈r,0<=x/\x<=100000
inductive IspVectors(vs:List V)(H:Hp)(Q:VK)(E:XK):Prop
 |mk (a b:Addr) (n m:Nat) (mi:Int) (_:vs=[.ref a,.int mi]) (_:mi=m) (_:1<=m) (_:m<=8) (_:PotAt H a b n) (_:n+10000<2 ^ 60) (_:∀q us rss H',H' q=some (.tup us)->Its H' us rss->us.length<=30->rss.Nodup->(∀r∈rss,VB m r/\0<r.sum)->PotAt H' a b (n+1000)->Off [a,b] H H'->Q (.ref q) H'):IspVectors  vs H Q E
def a3m:Sp:=λvs H Q E=>IspVectors  vs H Q E
theorem b7L(l:List Int)(h:∀x∈l,0<=x)(y:Int)(a:y∈l)(hp:0<y):0<l.sum:=by
 have:=a7M h y a;omega
theorem sc__law_vectors:FnScope ["_law_pot_here","_law_width","_law_many","_law_far","_law_some","_law_k","_law_one"] ["_law_pot_here","_law_width"] (A1 G7):=⟨rfl,rfl,rfl,by decide +kernel,rfl,by decide +kernel,by decide +kernel⟩
theorem a6y(F:FunAt K mg "_law_vectors" G7 ["_law_pot_here","_law_width"])(T:Tx mg)(d:Ok P w K mg base "_law_take" 1 ["_law_pot_here","_law_many"] a4b):Ok P w K mg base "_law_vectors" 2 ["_law_pot_here","_law_width"] a3m:=by
 refine F.okJ sc__law_vectors (λvs H Q E h=>?_) (λc9 f A outer s H vs Q E hr h=>?_)
 .obtain⟨a,b,n,m,mi,rfl,_⟩:=h;rfl
 .obtain⟨a,b,n,wd,_,rfl,rfl,hw1,hw8,hP,hn,kk⟩:=h;have hz:(3000:Nat)<=sizeLine:=by rw[sizeLine_eq];decide
  have hu:=hr.u60;refine⟨_,(A3 (B1 (i:=2) sc__law_vectors.nd rfl (Or.inl rfl) (A9 d (hr.mono (by omega)) rfl (jaC (jv 0) (jaC A6 jaN))))
 (A3 (E9 (a5M (A9 d (hr.mono (by omega)) rfl (jaC (jv 0) (jaC A6 jaN))) A6)
 (A4 (B1 (i:=2) sc__law_vectors.nd rfl (Or.inl rfl) (A9 d (hr.mono (by omega)) rfl (jaC (jv 0) (jaC A6 jaN)))))
 D0)
 (A3 (B1 (i:=3) sc__law_vectors.nd rfl (Or.inr rfl) (Q5 K (V8 (jaC A6 (jaC (a7U A6 A6) jaN))) (a4A rfl T.b_int (jaC (a2A (A9 d (hr.mono (by omega)) rfl (jaC (jv 0) (jaC A6 jaN))) A6) jaN))))
 (A3 (B1 (i:=4) sc__law_vectors.nd rfl (Or.inl rfl) (V8 jaN))
 (A3 (J2 (D9 rfl T.b_range (jaC (jv 2) jaN)) (A7 (i:=5) sc__law_vectors.nd rfl (Or.inl rfl))
 (A3 (B1 (i:=6) sc__law_vectors.nd rfl (Or.inl rfl) (B6 K rfl T.b_tuple (jaC (B9 (N:=["_law_j","_law_pot_here","_law_far"]) (src:=[none,some 0,some 3]) (D9 rfl T.b_range (jaC (jv 1) jaN)) (by show B8 _ _=true;rfl) (by rfl) (by rfl)
 (λ_ _ _ _ _=>(A7 (i:=0) (show(["_law_j","_law_pot_here","_law_far"]:List Str).Nodup by decide +kernel) rfl (Or.inl rfl))) (λ_ _ _ _ _=>C2) (λ_ _ _ _ _=>(A9 d (hr.mono (by omega)) rfl (jaC (jv 1) (jaC (Q5 K (V8 (jaC A6 (jaC (T7 (jv 2) A6) jaN))) (a4A rfl T.b_int (jaC (a2A (A9 d (hr.mono (by omega)) rfl (jaC (jv 1) (jaC A6 jaN))) A6) jaN))) jaN))))) jaN)))
 (A4 (E9 (a4z (a0R (a7P (b4b K rfl T.b_max (jaC (jv 6) jaN)) A6) (X9 (a9h K hu (jv 6) (jv 4) (by with_unfolding_all rfl)))))
 (A4 (S7 (a0S K (jv 4) (jaC (jv 6) jaN))))
 D0))))
 (A4 (B0 (B6 K rfl T.b_tuple (jaC (jv 4) jaN))))))))),?_⟩
  refine⟨_,rfl,a,b,_,_,rfl,hP,by omega,by decide,by decide,λr1 H1 c3 c4 b2 S=>?_⟩;dsimp only[A8];refine a0l (λσ H'=>Ex1 λ(m:Nat)=>An4 (σ=[some (.ref a),some (.int wd),some (.int m),none,none,none,none]) (m<=30) (PotAt H' a b (n+3)) (Off [a,b] H H')) ?fin λfin=>?_
  case fin =>
   rintro σ H2 ⟨m,rfl,hm,C,y⟩;refine⟨_,_,rfl,rfl,⟨by decide,by decide,by decide⟩,by show 2<=sizeLine;omega,λp3 a2=>?_⟩;have a6:=a0s C a2;have s3:=(Same.refl H2).upd (o:=.lst [V.int 3,.int (10 ^ Int.toNat 5)]) a2;have e3:upd H2 p3 (.lst [V.int 3,.int (10 ^ Int.toNat 5)]) p3=some (.lst [V.int 3,.int (10 ^ Int.toNat 5)]):=A0;have g:=y.trans s3.off;have k:=C.same s3;generalize upd H2 p3 (.lst [V.int 3,.int (10 ^ Int.toNat 5)])=H3 at s3 e3 g k;refine⟨_,rfl,a,b,_,8,rfl,k,by omega,by decide,by decide,λr4 Z _ _ D j=>?_⟩;refine⟨rfl,.inr ⟨_,rfl,?_⟩⟩;obtain⟨G,a8,a0⟩:=two_at 3 (10 ^ Int.toNat 5) (decide (V.int r4=V.int 0));have c2:3<=G/\G<=100000:=by
    have:(10:Int) ^ Int.toNat 5=100000:=by decide
    rw[this]at a0;omega
   refine⟨p3,_,_,_,rfl,rfl,SqL.of (j _ _ a6 e3),a8,?_⟩;have u:=g.trans j;clear a8 a0 e3 k g s3 C;dsimp only[A8];refine⟨Nat.zero_le _,λR W=>?_⟩;have O:=a0s D W;have b6:=b1s u D W;have s5:=(Same.refl Z).upd (o:=.lst []) W;have e5:upd Z R (.lst []) R=some (.lst []):=A0;have Y:PotAt (upd Z R (.lst [])) a b (n+4):=(D.same s5).mono (by omega);have U:=u.trans (s5.off (l:=[a,b]));generalize upd Z R (.lst [])=H5 at e5 Y U;clear s5 D u j;dsimp only[A8];refine⟨_,rfl,_,rfl,by omega,by omega,?_⟩;rw[Int.toNat_natCast];refine a3C (lo:=0) (n:=m) (λi σ H'=>Ex4 λ(o5 o6:Option V) (us:List V) (rss:LLI)=>An8 (σ=[some (.ref a),some (.int wd),some (.int m),some (.int G),some (.ref R),o5,o6]) (PotAt H' a b (n+4+20*i)) (Off [a,b] H H') (H' R=some (.lst us)) (Its H' us rss) (us.length<=i) (rss.Nodup) (∀r∈rss,VB wd r/\0<r.sum)) ⟨none,none,[],[],rfl,Y,U,e5,.nil,Nat.le_refl _,List.nodup_nil,λ_ z=>nomatch z⟩ ?_ ?_
   .rintro i σ H6 hi ⟨o5,o6,us,rss,rfl,hP6,off6,e6,hI6,hul,hnd,hR⟩;obtain⟨nn,a1⟩:∃nn,nn=n+4+20*i:=⟨_,rfl⟩;rw[<-a1]at hP6;have hb:nn+100<2 ^ 60:=by omega
    have en:nn+20=n+4+20*(i+1):=by omega
    clear a1 Y;dsimp only[A8];refine⟨_,rfl,_,rfl,by omega,by omega,?_⟩;rw[Int.toNat_natCast];refine a3t (caps:=[some (.ref a),some (.int G)]) (c:=2) (λz=>0<=z/\z<=100000) (by omega) rfl hP6 (λi' H' N c5 a5 q=>?_) ?_
    .refine⟨_,rfl,_,rfl,_,_,rfl,rfl,by show 2<=sizeLine;omega,λp hp=>?_⟩;have c1:=a0s a5 hp;have s2:=(Same.refl H').upd (o:=.lst [V.int 4,.int (G+1)]) hp;refine⟨_,rfl,a,b,_,4,rfl,a5.same s2,by omega,by decide,by decide,λr3 H3 b7 b0 k g=>?_⟩;refine⟨rfl,.inr ⟨_,rfl,?_⟩⟩;obtain⟨m,b5,c8⟩:=two_at 4 (G+1) (decide (V.int r3=V.int 0));refine⟨p,_,_,_,rfl,rfl,SqL.of (g _ _ c1 A0),b5,?_⟩;refine⟨a,b,_,m,rfl,k,by omega,by omega,by omega,λr4 Z b3 c7 D j=>?_⟩;exact q r4 Z ⟨b3,by omega⟩ (D.mono (by omega)) ((s2.off.trans g).trans j)
    intro H7 pw xs a3 a9 a7 B b9;have e7:=B _ _ O e6;have a4:=a4D hI6 hP6 B;have J:=off6.trans B;refine⟨pw,_,rfl,.inl ⟨SqL.of A0,λq8 b4=>?_⟩⟩;have s8:=((Same.refl H7).upd (o:=.lst (xs.map V.int)) b9).upd (o:=.tup (xs.map V.int)) b4;have v8:upd (upd H7 pw (.lst (xs.map V.int))) q8 (.tup (xs.map V.int)) q8=some (.tup (xs.map V.int)):=A0;have X:=s8 _ _ e7;have I:=a4.same s8;have L:=a7.same s8;have v:=J.trans (s8.off (l:=[a,b]));generalize upd (upd H7 pw (.lst (xs.map V.int))) q8 (.tup (xs.map V.int))=H8 at v8 X I L v;clear s8 a7 B J e7 a4 hI6 off6 hP6 e6;dsimp only[A8];refine⟨_,rfl,true,q8,xs,rfl,SqT.of v8,by rw[a3];omega,λM c0 c6=>?_⟩;refine⟨_,_,rfl,rfl,_,rfl,a0T (λe=>?_) (λe=>J4 ⟨_,_,us,rss,rfl,en ▸ L.mono (by omega),v,X,I,by omega,hnd,hR⟩)⟩;have b1:0<M:=of_decide_eq_true e;refine⟨_,rfl,_,rfl,q8,R,xs,false,us,rss,rfl,v8,rfl,SqL.of X,I,_,rfl,a0T (λe=>?_) (λe=>⟨_,_,us,rss,rfl,en ▸ L.mono (by omega),v,X,I,by omega,hnd,hR⟩)⟩;have b8:xs∉rss:=by simpa using e
    refine⟨_,rfl,.inl ⟨rfl,_,SqL.of X⟩,_,rfl,R,_,_,rfl,rfl,X,by omega,?_⟩;refine⟨_,_,us++[.ref q8],rss++[xs],rfl,en ▸ b3o (L.mono (by omega)) O,b6e v b6,A0,a0y (I.snoc ⟨q8,rfl,v8⟩) X (λ_ z=>by cases z),by rw[List.length_append];simp;omega,a0t hnd b8,λr hr=>?_⟩;rcases List.mem_append.mp hr with z|z
    .exact hR r z
    .rw[List.mem_singleton.mp z];exact⟨⟨a3,a9⟩,b7L xs (λx hx=>(a9 x hx).1) M c0 b1⟩
   .rintro σ H6 ⟨o5,o6,us,rss,rfl,hP6,off6,e6,hI6,hul,hnd,hR⟩;refine⟨_,rfl,R,_,rfl,.inl ⟨SqL.of e6,λq hq=>?_⟩⟩;have s7:=(Same.refl H6).upd (o:=.tup us) hq;exact kk q us rss _ A0 (hI6.same s7) (by omega) hnd hR ((hP6.same s7).mono (by omega)) (off6.trans s7.off)
  obtain⟨t1,rfl⟩:∃t:Nat,r1=t:=⟨r1.toNat,by omega⟩;refine⟨_,rfl,a,b,_,8,rfl,b2,by omega,by decide,by decide,λr2 H2 _ _ C y=>?_⟩;refine⟨rfl,_,rfl,a0T (λe=>?_) (λe=>fin _ _ ⟨t1,rfl,by omega,C.mono (by omega),S.trans y⟩)⟩;refine⟨_,rfl,a,b,_,_,rfl,C,by omega,by decide,by decide,λr3 H3 b7 b0 k g=>?_⟩;obtain⟨t3,rfl⟩:∃t:Nat,r3=t:=⟨r3.toNat,by omega⟩;exact fin _ _ ⟨t3,rfl,by omega,k.mono (by omega),(S.trans y).trans g⟩
end
theorem a3Q:∀(xs ys:List Int),xs.length=ys.length->((List.range xs.length).map λj=>V.bl (decide (xs.getD j 0<=ys.getD j 0))).all trV=Bel xs ys
 |[],[],_=>rfl
 |x::xs,y::ys,h=>by
  have ih:=a3Q xs ys (by simpa using h);rw[List.length_cons,List.range_succ_eq_map,List.map_cons,List.all_cons,List.map_map];have e:((λj=>V.bl (decide ((x::xs).getD j 0<=(y::ys).getD j 0))) ∘ Nat.succ)=λj=>V.bl (decide (xs.getD j 0<=ys.getD j 0)):=rfl;rw[e,ih];rfl
section
variable {P:Program}{w:World}{K:PySem.W.Frag}{mg:Str->Option Value}{base:Heap}
inductive IspBelL(vs:List V)(H:Hp)(Q:VK)(E:XK):Prop
 |mk (x:_) (y:_) (xs:_) (ys:_) (_:vs=[x,y]) (_:IT H x xs) (_:IT H y ys) (_:xs.length=ys.length) (_:xs.length<=1000) (_:∀H',Same H H'->Q (.bl (Bel xs ys)) H'):IspBelL  vs H Q E
def b0j:Sp:=λvs H Q E=>IspBelL  vs H Q E
theorem a3b:FnScope ["_law_one","_law_other"] ["_law_one","_law_other"] (A1 L5):=⟨rfl,rfl,rfl,by decide +kernel,rfl,by decide +kernel,by decide +kernel⟩
theorem b3S(F:FunAt K mg "_law_below" L5 ["_law_one","_law_other"])(T:Tx mg):Ok P w K mg base "_law_below" 1 ["_law_one","_law_other"] b0j:=by
 refine F.okJ a3b (λvs H Q E h=>?_) (λg f A outer s H vs Q E hr h=>?_)
 .obtain⟨x,y,xs,ys,rfl,_⟩:=h;rfl
 .obtain⟨_,_,xs,ys,rfl,⟨a,rfl,ha⟩,⟨b,rfl,hb⟩,hl,hl2,k⟩:=h;refine⟨_,(A4 (B0 (a2D K rfl T.b_all (jaC (B9 (N:=["_law_j","_law_one","_law_other"]) (src:=[none,some 0,some 1]) (D9 rfl T.b_range (jaC (G2 K rfl T.b_len (jaC (jv 0) jaN)) jaN)) (by show B8 _ _=true;rfl) (by rfl) (by rfl)
 (λ_ _ _ _ _=>(A7 (i:=0) (show(["_law_j","_law_one","_law_other"]:List Str).Nodup by decide +kernel) rfl (Or.inl rfl))) (λ_ _ _ _ _=>C2) (λ_ _ _ _ _=>(b1E (K4 K (jv 1) (jv 0)) (K4 K (jv 2) (jv 0))))) jaN)))),?_⟩
  refine⟨_,rfl,a,_,rfl,.inr (SqT.of ha),_,rfl,by omega,by rw[List.length_map];omega,?_⟩;rw[Int.toNat_natCast,List.length_map];refine S1 (caps:=[some (.ref a),some (.ref b)]) (λj=>V.bl (decide (xs.getD j 0<=ys.getD j 0))) hl2 rfl (λj H1 e c s1 q=>?_) λH1 p s1 hp=>?_
  .exact⟨_,rfl,_,rfl,a,_,_,_,rfl,rfl,SqT.of (s1 _ _ ha),N2 c,_,rfl,_,rfl,b,_,_,_,rfl,rfl,SqT.of (s1 _ _ hb),N2 (by omega),_,_,rfl,rfl,q⟩
  refine⟨false,p,_,rfl,SqL.of A0,?_,?_⟩
  .rw[List.all_eq_true];intro v d;obtain⟨_,_,rfl⟩:=List.mem_map.mp d;rfl
  .rw[a3Q xs ys hl];exact k _ (s1.upd hp)
inductive IspLLeast(vs:List V)(H:Hp)(Q:VK)(E:XK):Prop
 |mk (p:Addr) (us:List V) (rss:LLI) (n:Nat) (_:vs=[.ref p]) (_:H p=some (.lst us)) (_:Its H us rss) (_:us.length<=1000) (_:1<=n) (_:n<=1000) (_:(∀r∈rss,r.length=n)) (_:∀l fs srt H',Same H H'->H l=none->srt.Perm rss->D4 srt->H' l=some (.lst fs)->Its H' fs (LO srt)->Q (.ref l) H'):IspLLeast  vs H Q E
def a5m:Sp:=λvs H Q E=>IspLLeast  vs H Q E
theorem b4u(a:LLI)(r:List Int):((a.map λf=>V.bl (Bel f r)).any trV)=a.any λf=>Bel f r:=by
 rw[List.any_map];rfl
theorem sc__law_least:FnScope ["_law_some","_law_found","_law_one"] ["_law_some"] (A1 L4):=⟨rfl,rfl,rfl,by decide +kernel,rfl,by decide +kernel,by decide +kernel⟩
theorem a8Y(F:FunAt K mg "_law_least" L4 ["_law_some"])(T:Tx mg)(c:Ok P w K mg base "_law_below" 1 ["_law_one","_law_other"] b0j):Ok P w K mg base "_law_least" 2 ["_law_some"] a5m:=by
 refine F.okJ sc__law_least (λvs H Q E h=>?_) (λa6 f A outer s H vs Q E hr h=>?_)
 .obtain⟨p,us,rss,n,rfl,_⟩:=h;rfl
 .obtain⟨p,us,rss,n,rfl,hp,hI,hl,hn1,hn2,hR,k⟩:=h;have hu:=hr.u60;have hz:(3000:Nat)<=sizeLine:=by rw[sizeLine_eq];decide
  refine⟨_,(A3 (B1 (i:=1) sc__law_least.nd rfl (Or.inl rfl) (V8 jaN))
 (A3 (J2 (E6 K (a2C K rfl T.b_sorted (jaC (jv 0) jaN))) (A7 (i:=2) sc__law_least.nd rfl (Or.inr rfl))
 (A4 (E9 (S5 (G1 K (b6m K rfl T.b_any (jaC (B9 (N:=["_law_other","_law_one"]) (src:=[none,some 2]) (E6 K (jv 1)) (by show B8 _ _=true;rfl) (by rfl) (by rfl)
 (λ_ _ _ _ _=>(A7 (i:=0) (show(["_law_other","_law_one"]:List Str).Nodup by decide +kernel) rfl (Or.inl rfl))) (λ_ _ _ _ _=>C2) (λ_ _ _ _ _=>(A9 c (hr.mono (by omega)) rfl (jaC (jv 0) (jaC (jv 1) jaN))))) jaN))))
 (A4 (S7 (a0S K (jv 1) (jaC (jv 2) jaN))))
 D0)))
 (A4 (B0 (jv 1))))),?_⟩
  refine⟨Nat.zero_le _,λm G=>?_⟩;have s1:=(Same.refl H).upd (o:=.lst []) G;have U:upd H m (.lst []) m=some (.lst []):=A0;generalize upd H m (.lst [])=H1 at s1 U;dsimp only[A8];refine⟨_,rfl,p,us,rss,rfl,.inl (SqL.of (s1 _ _ hp)),hI.same s1,λr hr=>by rw[hR r hr];exact hn1,λl zs b B d D W _=>?_⟩;have s3:=s1.upd (o:=.lst zs) B;have L:=(Same.refl H1).upd (o:=.lst zs) B;have X:upd H1 l (.lst zs) l=some (.lst zs):=A0;have C:=L _ _ U;have d:=d.same L;have S:l≠m:=(A5 U B).symm;generalize upd H1 l (.lst zs)=H3 at s3 X C d;have y:∀r∈b,r.length=n:=λr hr=>hR r (D.mem_iff.mp hr);have a3:zs.length<=1000:=by rw[d.1,D.length_eq,<-hI.1];exact hl
  refine⟨l,rfl,⟨_,SqL.of X⟩,?_⟩;refine M9 (K:=K) (a:=l) (xs:=zs) (λi σ H'=>Ex2 λo2 fs=>An5 (σ=[some (.ref p),some (.ref m),o2]) (Off [m] H3 H') (H' m=some (.lst fs)) (Its H' fs (LO (b.take i))) (fs.length<=i)) ⟨none,[],rfl,Off.refl _ _,C,.nil,Nat.le_refl _⟩ (λi σ H' _ h=>by obtain⟨_,_,_,o',_⟩:=h;exact SqL.of (o' _ _ (by simpa using S) X)) ?_ ?_
  .rintro i x σ H' hx ⟨o2,fs,rfl,off,hf,hIf,hfl⟩;obtain⟨r,hr,Z,a1⟩:=d.mem hx;have a4:i<zs.length:=(List.getElem?_eq_some_iff.mp hx).1;have M:IT H' x r:=by
    obtain⟨xa,rfl,J⟩:=a1;exact⟨xa,rfl,off _ _ (by simpa using G5 J C (by intro z;cases z)) J⟩
   have O:∀f∈LO (b.take i),f.length=n:=λf hf=>by
    have:=(a4Q (n:=n) (b.take i) λr hr=>y r (List.mem_of_mem_take hr)).1 f hf;exact y f (List.mem_of_mem_take this)
   have j:LO (b.take (i+1))=if (LO (b.take i)).any (λu=>Bel u r)then LO (b.take i)else LO (b.take i)++[r]:=by
    rw[List.take_add_one,Z];exact a1W _ _
   dsimp only[A8];refine⟨_,rfl,m,rfl,⟨_,SqL.of hf⟩,?_⟩;refine a9e (caps:=[some x]) (λf=>V.bl (Bel f r)) (by omega) (λa5 s=>SqL.of (s _ _ hf)) hIf rfl (λv f H4 Q4 I a2 Y q4=>?_) λH4 R Y a0=>?_
   .exact⟨_,rfl,_,rfl,v,x,f,r,rfl,a2,M.same Y,by rw[O f I,y r hr],by rw[O f I];omega,λH5 t=>q4 H5 t⟩
   have t:=Y.upd (o:=.lst ((LO (b.take i)).map λf=>V.bl (Bel f r))) a0;have e5:upd H4 R (.lst ((LO (b.take i)).map λf=>V.bl (Bel f r))) R=some (.lst ((LO (b.take i)).map λf=>V.bl (Bel f r))):=A0;generalize upd H4 R (.lst ((LO (b.take i)).map λf=>V.bl (Bel f r)))=H5 at t e5;refine⟨false,R,_,rfl,SqL.of e5,?_,_,rfl,?_⟩
   .rw[List.all_eq_true];intro v hv;obtain⟨_,_,rfl⟩:=List.mem_map.mp hv;rfl
   rw[b4u];have g:=t _ _ hf;have q:=off.trans t.off;cases e:(LO (b.take i)).any (λu=>Bel u r)with
   |true =>
    rw[e,if_pos rfl]at j;refine J4 ⟨_,fs,rfl,q,g,?_,by omega⟩;rw[j];exact hIf.same t
   |false =>
    rw[e,if_neg (by decide)]at j;refine Q7 ⟨_,rfl,.inl ⟨rfl,_,SqL.of g⟩,_,rfl,m,_,_,rfl,rfl,g,by omega,?_⟩;refine⟨_,fs++[x],rfl,q.set (by simp),A0,?_,by simp;omega⟩;rw[j];exact Its.put ((hIf.same t).snoc (M.same t)) g
  .rintro σ H' ⟨o2,fs,rfl,off,hf,hIf,_⟩;rw[d.1,List.take_length]at hIf;exact⟨_,rfl,k m fs b H' (a2g s3 G off) G D W hf hIf⟩
structure DueC(tss:LLI)(n:Nat)(cts fss:LLI):Prop where
 ex:∃mss srt,mss.Nodup/\(∀v,v∈mss↔∃c∈cts,tgl n tss c=v)/\Srt mss srt/\fss=srt.filter λv=>Lst mss v
theorem b6z{tss:LLI}{row:List Int}{most:Nat}{c a d b:LLI}(e:a=c)(h:NarC tss row most a b)(g:DueC tss row.length c d):b=d:=by
 subst e;obtain⟨l,t1,a1,a2,a3,rfl⟩:=h.ex;obtain⟨j,t2,m,k,f,rfl⟩:=g.ex;have i:∀v,v∈l↔v∈j:=λv=>(a2 v).trans (k v).symm;have:t1=t2:=V1 a3.ri f.ri a3.nd f.nd λv=>(a3.mem v).trans ((i v).trans (f.mem v).symm);subst this;congr 1;funext v;exact a0K i v
theorem b2K(acc t:List Int)(c:Int)(h:acc.length=t.length):((List.range t.length).map λj=>V.int (acc.getD j 0+c*t.getD j 0))=(a1p acc (a1o c t)).map V.int:=by
 refine List.ext_getElem (by rw[List.length_map,List.length_map,List.length_range,P7 _ _ (by rw[C3,h]),C3]) λi h1 h2=>?_;rw[List.length_map,List.length_range]at h1;rw[List.getElem_map,List.getElem_map,List.getElem_range];have:=a7i acc (a1o c t) (by rw[C3,h]) i;rw[a7g]at this;rw[<-this,List.getD_eq_getElem?_getD,List.getElem?_eq_getElem (by rw[P7 _ _ (by rw[C3,h]),C3];exact h1)];rfl
inductive IspDue(vs:List V)(H:Hp)(Q:VK)(E:XK):Prop
 |mk (t c:Addr) (zs ys:List V) (tss cts:LLI) (n:Nat) (_:vs=[.ref t,.ref c]) (_:H t=some (.tup zs)) (_:Its H zs tss) (_:H c=some (.tup ys)) (_:Its H ys cts) (_:1<=n) (_:n<=100) (_:tss≠[]) (_:(∀v∈tss,v.length=n)) (_:ys.length<=900) (_:(∀v∈cts,v.length=tss.length/\∀x∈v,0<=x/\x<2 ^ 60)) (_:zs.length<=100) (_:∀q f g fs gs fss H',Same H H'->H' q=some (.tup [.ref f,.ref g])->H' f=some (.tup fs)->Its H' fs fss->H' g=some (.tup gs)->Its H' gs (fss.map (fir n tss cts))->DueC tss n cts fss->fs.length<=900->Q (.ref q) H'):IspDue  vs H Q E
def b4J:Sp:=λvs H Q E=>IspDue  vs H Q E
theorem sc__law_due:FnScope ["_law_told_here","_law_counts","_law_stands","_law_some","_law_total","_law_many","_law_one","_law_found"] ["_law_told_here","_law_counts"] (A1 S0):=⟨rfl,rfl,rfl,by decide +kernel,rfl,by decide +kernel,by decide +kernel⟩
theorem b6d(F:FunAt K mg "_law_due" S0 ["_law_told_here","_law_counts"])(T:Tx mg)(m:Ok P w K mg base "_law_least" 2 ["_law_some"] a5m):Ok P w K mg base "_law_due" 3 ["_law_told_here","_law_counts"] b4J:=by
 refine F.okJ sc__law_due (λvs H Q E h=>?_) (λf1 f A outer s H vs Q E hr h=>?_)
 .obtain⟨t,c,zs,ys,tss,cts,n,rfl,_⟩:=h;rfl
 .obtain⟨t,c,zs,ys,tss,cts,n,rfl,ht,hI,hc,hJ,hn1,hn2,hne,hT,hyl,hC,hzl,k⟩:=h;have hu:=hr.u60;have hz:(3000:Nat)<=sizeLine:=by rw[sizeLine_eq];decide
  refine⟨_,(A3 (B1 (i:=2) sc__law_due.nd rfl (Or.inr rfl) a4C)
 (A3 (J2 (O9 K (jv 1)) (A7 (i:=3) sc__law_due.nd rfl (Or.inl rfl))
 (A3 (B1 (i:=4) sc__law_due.nd rfl (Or.inr rfl) (a6H (E8 (jaC A6 jaN)) (G2 K rfl T.b_len (jaC (K4 K (jv 0) A6) jaN))))
 (A3 (J2 (V7 K rfl T.b_zip (jaC (jv 3) (jaC (jv 0) jaN))) (S8 K 2 (B5 (A7 (i:=5) sc__law_due.nd rfl (Or.inr rfl)) (B5 (A7 (i:=6) sc__law_due.nd rfl (Or.inr rfl)) M0)))
 (A4 (B1 (i:=4) sc__law_due.nd rfl (Or.inr rfl) (B6 K rfl T.b_tuple (jaC (B9 (N:=["_law_j","_law_total","_law_many","_law_one"]) (src:=[none,some 4,some 5,some 6]) (D9 rfl T.b_range (jaC (G2 K rfl T.b_len (jaC (jv 6) jaN)) jaN)) (by show B8 _ _=true;rfl) (by rfl) (by rfl)
 (λ_ _ _ _ _=>(A7 (i:=0) (show(["_law_j","_law_total","_law_many","_law_one"]:List Str).Nodup by decide +kernel) rfl (Or.inl rfl))) (λ_ _ _ _ _=>C2) (λ_ _ _ _ _=>(T7 (K4 K (jv 1) (jv 0)) (Z5 (jv 2) (K4 K (jv 3) (jv 0)))))) jaN)))))
 (A4 (E9 (a3y hu (jv 4) (jv 2) (by with_unfolding_all rfl))
 (A4 (a7R hu (jv 2) (jv 4) (jv 3)))
 D0)))))
 (A3 (B1 (i:=7) sc__law_due.nd rfl (Or.inl rfl) (A9 m (hr.mono (by omega)) rfl (jaC (b1S rfl T.b_list (jaC (jv 2) jaN)) jaN)))
 (A4 (B0 (E8 (jaC (B6 K rfl T.b_tuple (jaC (jv 7) jaN)) (jaC (B6 K rfl T.b_tuple (jaC (B9 (N:=["_law_one","_law_stands"]) (src:=[none,some 2]) (E6 K (jv 7)) (by show B8 _ _=true;rfl) (by rfl) (by rfl)
 (λ_ _ _ _ _=>(A7 (i:=0) (show(["_law_one","_law_stands"]:List Str).Nodup by decide +kernel) rfl (Or.inl rfl))) (λ_ _ _ _ _=>C2) (λ_ _ _ _ _=>(b1V hu (jv 1) (jv 0)))) jaN)) jaN)))))))),?_⟩
  intro d hd;have s1:=(Same.refl H).upd (o:=.dT []) hd;have e1:upd H d (.dT []) d=some (.dT []):=A0;generalize upd H d (.dT [])=H1 at s1 e1;dsimp only[A8];refine⟨_,rfl,c,rfl,⟨_,SqT.of (s1 _ _ hc)⟩,?_⟩;refine a4G (K:=K) (a:=c) (xs:=ys) (λi σ H'=>Ex6 λ(o3 o4 o5 o6:Option V) (kvs:List (List Key×V)) (g:LLI)=>An9 (σ=[some (.ref t),some (.ref c),some (.ref d),o3,o4,o5,o6,none]) (Same H H') (Tk H1 H') (H' d=some (.dT kvs)) (kvs.map (·.1)=IK g) (g.Nodup) (g.length<=i) ((∀v,v∈g↔∃c∈cts.take i,tgl n tss c=v)) (∀v∈g,∃y,D7 kvs (v.map Sum.inl)=some y/\IT H1 y (fir n tss (cts.take i) v)))
   ⟨none,none,none,none,[],[],rfl,s1,λ_ _ e=>e,e1,rfl,List.nodup_nil,Nat.le_refl _,by simp,(λ_ z=>nomatch z)⟩ (λi σ H' _ h=>by obtain⟨_,_,_,_,_,_,_,s',_⟩:=h;exact SqT.of (s' _ _ hc)) ?_ ?_
  .rintro i x σ H2 hx ⟨o3,o4,o5,o6,kvs,g,rfl,s2,tk2,ed2,hk,hnd,hml,hmem,hfir⟩;obtain⟨C,c7,d4,d7⟩:=hJ.mem hx;obtain⟨xa,rfl,R⟩:=id d7;have e6:i<ys.length:=(List.getElem?_eq_some_iff.mp hx).1;obtain⟨d8,c3⟩:=hC C c7;have W:cts.take (i+1)=cts.take i++[C]:=by rw[List.take_add_one,d4];rfl
   have e7:kvs.length=g.length:=by rw[<-b1Z g,<-hk,List.length_map]
   obtain⟨z0,ze⟩:∃z0,zs[0]?=some z0:=by
    cases zs with
    |nil=>exact absurd (List.eq_nil_of_length_eq_zero hI.1.symm) hne
    |cons z zs=>exact⟨z,rfl⟩
   obtain⟨r0,a6,_,ra,rfl,a7⟩:=hI.mem ze
   try dsimp only[A8,List.set]
   refine⟨by show 1<=sizeLine;omega,λp1 a5=>⟨_,rfl,t,zs,0,_,rfl,rfl,SqT.of ?_,a1U (j:=0) ze,ra,r0.map V.int,rfl,.inr (SqT.of ?_),p1,[.int 0],_,rfl,rfl,A0,by simp,?_,?_,λq2 H3 s3 e3=>?_⟩⟩
   .exact C0 (s2 _ _ ht) a5
   .exact C0 (s2 _ _ a7) a5
   .rw[List.length_map,hT r0 a6];omega
   .rw[List.length_map,hT r0 a6];show(1:Int)*_<=_;omega
   rw[List.length_map,hT r0 a6,Int.toNat_natCast,a5O]at e3;have s3:=((Same.refl H2).upd (o:=.tup [.int 0]) a5).trans s3;have U:=s3 _ _ ed2;have I:=s2.trans s3;have d1:=tk2.trans (Tk.same s3);have a0:=I _ _ R;dsimp only[A8,List.set];refine⟨_,rfl,_,rfl,true,true,xa,t,rfl,⟨_,SqT.of a0⟩,⟨_,SqT.of (I _ _ ht)⟩,?_⟩;refine a8c (k1:=true) (k2:=true) (xs:=C.map V.int) (zs:=zs) (λj σ H'=>Ex4 λ(o5 o6:Option V) (v:V) (acc:List Int)=>An5 (σ=[some (.ref t),some (.ref c),some (.ref d),some (.ref xa),some v,o5,o6,none]) (Same H3 H') (IT H' v acc) (acc.length=n) (TgA acc (tss.drop j) (C.drop j)=tgl n tss C))
    ⟨o5,o6,.ref q2,_,rfl,Same.refl _,⟨q2,rfl,e3⟩,List.length_replicate,rfl⟩ (λj σ H' _ _ h=>by obtain⟨_,_,_,_,_,s',_⟩:=h;exact⟨SqT.of (s' _ _ a0),SqT.of (s' _ _ (I _ _ ht))⟩) ?_ ?_
   .rintro j x z σ H4 p hx hz' ⟨o5,o6,v,acc,rfl,s4,hv4,hal,hTg⟩ hp;obtain⟨J,b9,rfl⟩:=M1 hx;obtain⟨r,hr,a9,ra,rfl,a7⟩:=hI.mem hz';have d9:=hT r hr;have e2:=c3 J (List.mem_of_getElem? b9);rw[Y0 a9,Y0 b9]at hTg;refine⟨p,[.int J,.ref ra],rfl,SqT.of A0,rfl,.int J,[.ref ra],rfl,.ref ra,[],rfl,rfl,?_⟩;have u:=(Same.refl H4).upd (o:=.tup [.int J,.ref ra]) hp;have s5:=s4.trans u;have b8:=hv4.same u;generalize upd H4 p (.tup [.int J,.ref ra])=H5 at u s5 b8;obtain⟨va,rfl,Y⟩:=b8;have Z:=(I.trans s5) _ _ a7;dsimp only[A8,List.set];refine⟨_,rfl,ra,_,rfl,.inr (SqT.of Z),_,rfl,by omega,by rw[List.length_map];omega,?_⟩;rw[Int.toNat_natCast,List.length_map];refine S1 (caps:=[some (.ref va),some (.int J),some (.ref ra)]) (λj=>V.int (acc.getD j 0+J*r.getD j 0)) (by omega) rfl (λj' H6 Q6 d5 L q6=>?_) λH6 p6 L c4=>?_
    .exact⟨_,rfl,_,rfl,va,_,_,_,rfl,rfl,SqT.of (L _ _ Y),N2 (by omega),_,rfl,_,rfl,_,rfl,ra,_,_,_,rfl,rfl,SqT.of (L _ _ Z),N2 d5,_,_,rfl,rfl,.inl ⟨by omega,by omega⟩,_,_,rfl,rfl,q6⟩
    rw[b2K acc r J (by omega)];refine⟨p6,_,rfl,.inl ⟨SqL.of A0,λp7 a8=>?_⟩⟩;have s7:=(L.upd (o:=.lst ((a1p acc (a1o J r)).map V.int)) c4).upd (o:=.tup ((a1p acc (a1o J r)).map V.int)) a8;refine⟨_,_,.ref p7,a1p acc (a1o J r),rfl,s5.trans s7,⟨p7,rfl,A0⟩,by rw[P7 _ _ (by rw[C3];omega),C3,d9],?_⟩;exact hTg
   .rintro σ H4 ⟨o5,o6,v,acc,rfl,s4,hv4,hal,hTg⟩;have b6:acc=tgl n tss C:=by
     rw[<-hTg,List.length_map,hI.1,d8,Nat.min_self,List.drop_length,show C.drop tss.length=[] from List.drop_of_length_le (by omega)];cases acc<;>rfl
    subst b6;clear hTg;obtain⟨va,rfl,Y⟩:=hv4;have b5:=I.trans s4;have b2:=d1.trans (Tk.same s4);have D:=s4 _ _ U;refine⟨_,rfl,_,rfl,d,_,rfl,DGet.t (k:=(tgl n tss C).map Sum.inl) D (by rw[a0w];exact Y),_,rfl,a0T (λe=>?_) (λe=>?_)⟩
    .have hnone:D7 kvs ((tgl n tss C).map Sum.inl)=none:=by
      cases q:D7 kvs ((tgl n tss C).map Sum.inl)with
      |none=>rfl
      |some _=>rw[q]at e;cases e
     have b7:tgl n tss C∉g:=λz=>a1Z hnone (by rw[hk];exact mem_IK.mpr z);refine⟨_,rfl,_,rfl,_,rfl,d,_,rfl,DPut.t (k:=(tgl n tss C).map Sum.inl) D (by rw[a0w];exact Y) (by omega),?_⟩;refine⟨_,_,_,_,_,g++[tgl n tss C],rfl,λb o e=>by rw[A2 (A5 e hd)];exact b5 b o e,λb xs e=>by rw[A2 (G5 (b2 _ _ e) D (λz=>nomatch z))];exact b2 _ _ e,A0,by rw[a2l _ hnone,List.map_append,hk];unfold IK;rw[List.map_append];rfl,a0t hnd b7,by rw[List.length_append];show _+1<=_;omega,λv=>?_,λv O=>?_⟩
     .rw[List.mem_append,hmem v,W,List.mem_singleton];constructor
      .rintro(⟨c',h1,h2⟩|rfl)
       .exact⟨c',List.mem_append_left _ h1,h2⟩
       .exact⟨C,by simp,rfl⟩
      .rintro⟨c',h1,rfl⟩;rcases List.mem_append.mp h1 with z|z
       .exact .inl ⟨c',z,rfl⟩
       .rw[List.mem_singleton.mp z];exact .inr rfl
     .rw[W,a5a];by_cases ev:v=tgl n tss C
      .rw[if_pos (by rw[ev]),a8e (λz=>b7 (by rw[<-ev];exact(hmem v).mpr z)) ev.symm];exact⟨_,rfl,⟨xa,rfl,s1 _ _ R⟩⟩
      .have O:v∈g:=by
        rcases List.mem_append.mp O with z|z
        .exact z
        .exact absurd (List.mem_singleton.mp z) ev
       rw[if_neg (λz=>ev (a1P z)),a1Q C ((hmem v).mp O)];exact hfir v O
    .have hin:tgl n tss C∈g:=by
      refine Classical.byContradiction λz=>e ?_;rw[b6t hk z];rfl
     refine⟨_,_,_,_,kvs,g,rfl,b5,b2,D,hk,hnd,by omega,λv=>?_,λv O=>by rw[W,a1Q C ((hmem v).mp O)];exact hfir v O⟩;rw[hmem v,W];constructor
     .rintro⟨c',h1,h2⟩;exact⟨c',List.mem_append_left _ h1,h2⟩
     .rintro⟨c',h1,rfl⟩;rcases List.mem_append.mp h1 with z|z
      .exact⟨c',z,rfl⟩
      .rw[List.mem_singleton.mp z];exact(hmem _).mp hin
  .rintro σ H2 ⟨o3,o4,o5,o6,kvs,g,rfl,s2,tk2,ed2,hk,hnd,hml,hmem,hfir⟩;rw[hJ.1,List.take_length]at hmem hfir;rw[hJ.1]at hml;have e9:=hJ.1;have b4:∀v∈g,v.length=n:=λv O=>by
    obtain⟨c,_,rfl⟩:=(hmem v).mp O;exact a3Y hT c
   refine⟨_,rfl,d,kvs,g,rfl,ed2,hk,λp3 ms c2 G=>?_⟩;have M:=(Same.refl H2).upd (o:=.lst ms) c2;have e3:upd H2 p3 (.lst ms) p3=some (.lst ms):=A0;have s3:=s2.trans M;have G:=G.same M;have U:=M _ _ ed2;generalize upd H2 p3 (.lst ms)=H3 at s3 M e3 G U;refine⟨p3,ms,g,n,rfl,e3,G,by rw[G.1];omega,hn1,by omega,b4,λl fs B H4 b1 f0 b0 a9 e4 a4=>?_⟩;have s4:=s3.trans b1;have D:=b1 _ _ U;have S:Srt g B:=⟨a9,b0.symm.nodup hnd,λr=>b0.mem_iff⟩;have c0:∀r∈B,r.length=n:=λr hr=>b4 r ((S.mem r).mp hr);have c6:LO B=B.filter λv=>Lst g v:=by
    rw[a3R (n:=n) B c0 S.ri S.nd B [] (by simp)];congr 1;funext v;exact a0K S.mem v
   rw[c6]at a4;have d2:fs.length<=900:=by
    rw[a4.1];have:=List.length_filter_le (λv=>Lst g v) B;have:=b0.length_eq;omega
   dsimp only[A8,List.set];refine⟨_,rfl,l,_,rfl,.inl ⟨SqL.of e4,λp5 c5=>?_⟩⟩;have u:=(Same.refl H4).upd (o:=.tup fs) c5;have e5:upd H4 p5 (.tup fs) p5=some (.tup fs):=A0;have a1:=u _ _ e4;have X:=a4.same u;have b3:=u _ _ D;have s5:=s4.trans u;generalize upd H4 p5 (.tup fs)=H5 at u e5 a1 X b3 s5;refine⟨_,rfl,l,rfl,⟨_,SqL.of a1⟩,?_⟩;refine Q9 (K:=K) (a:=l) (xs:=fs) (by omega) (λi zs H'=>Same H5 H'/\zs.length<=i/\Its H' zs (((B.filter λv=>Lst g v).take i).map (fir n tss cts))) ⟨Same.refl _,Nat.le_refl _,.nil⟩ (λi zs H' _ h=>⟨SqL.of (h.1 _ _ a1),h.2.1⟩) ?_ ?_
   .rintro i x zs' H6 hx ⟨L,hzl',hIz⟩;obtain⟨v,d3,c8,xa,rfl,R⟩:=X.mem hx;have d6:v∈g:=(S.mem v).mp (List.mem_filter.mp d3).1;obtain⟨y,hy,d0⟩:=hfir v d6;refine⟨Sub.one,?_⟩;refine⟨_,rfl,_,rfl,d,y,rfl,?_,L,by simp;omega,?_⟩
    .have:=DGet.t (k:=v.map Sum.inl) (L _ _ b3) (b:=xa) (by rw[a0w];exact L _ _ R);rw[hy]at this;exact this
    .rw[List.take_add_one,c8,List.map_append];exact hIz.snoc (((((tk2.trans (Tk.same M)).trans (Tk.same b1)).trans (Tk.same u)).trans (Tk.same L)).it d0)
   .rintro zs' H6 ⟨L,hzl',hIz⟩ p7 a8;rw[X.1,List.take_length]at hIz;refine⟨p7,_,rfl,.inl ⟨SqL.of A0,λp8 c9=>?_⟩⟩;have a3:=((Same.refl H6).upd (o:=.lst zs') a8).upd (o:=.tup zs') c9;have s8:=L.trans a3;have e8:upd (upd H6 p7 (.lst zs')) p8 (.tup zs') p8=some (.tup zs'):=A0;generalize upd (upd H6 p7 (.lst zs')) p8 (.tup zs')=H8 at s8 a3 e8;refine⟨by show 2<=sizeLine;omega,λp9 e0=>?_⟩;have a2:=(Same.refl H8).upd (o:=.tup [.ref p5,.ref p8]) e0;have s9:=s8.trans a2;exact k p9 p5 p8 fs _ _ _ (s5.trans s9) A0 (s9 _ _ e5) (X.same s9) (a2 _ _ e8) ((hIz.same a3).same a2) ⟨g,B,hnd,hmem,S,rfl⟩ d2
end
theorem OkE.no{P:Program}{w:World}{K:PySem.W.Frag}{mg:Str->Option Value}{base:Heap}{x:Str}{k:Nat}{ps:List Str}{sp:Sp}(O:OkE P w K mg base x k ps sp):Ok P w K mg base x k ps (λvs H Q _=>sp vs H Q λ_ _ _=>False):=by
 obtain⟨f,fd,h1,h2,c,a⟩:=O.ex;refine⟨f,fd,h1,h2,c,⟨λvs H Q E h=>a.len _ _ _ _ h,λA outer s H args us vs Q E hr g d b hs=>codeAny_mono (a.run A outer s H args us vs Q (λ_ _ _=>False) hr g d b hs) λr s' h=>?_⟩⟩;cases r with
 |error e =>
  obtain⟨_,_,_,_,_,_,_,_,_,_,_,_,_,z⟩:=h;exact z.elim
 |ok fl=>cases fl<;>exact h
section
variable {P:Program}{w:World}{K:PySem.W.Frag}{mg:Str->Option Value}{base:Heap}
theorem b4m{m j:Nat}(h:j<m):K5 m j∈N3 (fre m):=List.mem_filter.mpr ⟨List.mem_map.mpr ⟨j,List.mem_range.mpr (by rw[K2];exact h),by rw[K2]⟩,b6V _ _⟩
theorem Wk.fst{rss:LLI}{cs:List (Option Int)}{F W L:LLI}{k:Nat}{v:List Int}(h:Wk rss cs F W L k)(a:v∈N3 cs):v∈W:=by
 induction h with
 |one _ _ h=>exact(h v).mpr a
 |more _ _ _ _ _ ih=>exact List.mem_append_left _ ih
theorem Wk.some{rss:LLI}{m:Nat}{F W L:LLI}{k:Nat}(h:Wk rss (fre m) F W L k)(a:1<=m):1<=W.length:=List.length_pos_of_mem (h.fst (b4m a))
theorem b7i{rss:LLI}{cs:List (Option Int)}{F W d f a b:LLI}{k i:Nat}(h:Wk rss cs F W [] k)(g:Wk rss cs d f [] i)(e:a.Perm F)(c:b.Perm d)(ra:D4 a)(rb:D4 b):a=b:=by
 obtain⟨rfl,rfl⟩:=a9R h g;have nd:=h.nd.2;exact V1 ra rb (e.symm.nodup nd) (c.symm.nodup nd) λv=>e.mem_iff.trans c.mem_iff.symm
inductive IspLTold(vs:List V)(H:Hp)(Q:VK)(E:XK):Prop
 |mk (l:Addr) (line:List Int) (_:vs=[.ref l]) (_:H l=some (.tup (line.map V.int))) (_:1<=line.length) (_:line.length<=100) (_:Sm line) (_:(∀H',Same H H'->a9J [line] (fre line.length) (60:Nat)->Q .non H')) (_:∀q t pp zs cts ws F W k H',Same H H'->H' q=some (.tup [.ref t,.ref pp])->H' t=some (.tup zs)->Its H' zs cts->cts.Perm F->D4 cts->H' pp=some (.tup ws)->Its H' ws W->Wk [line] (fre line.length) F W [] k->W.length<=60->Q (.ref q) H'):IspLTold  vs H Q E
def a7u:Sp:=λvs H Q E=>IspLTold  vs H Q E
theorem sc__law_told:FnScope ["_law_line","_law_told_here"] ["_law_line"] (A1 O0):=⟨rfl,rfl,rfl,by decide +kernel,rfl,by decide +kernel,by decide +kernel⟩
theorem b1m{a:Addr}(I:FunAt K mg "_law_told" O0 ["_law_line"])(T:Tx mg)(d:OkE P w K mg base "least" 7 ["rows","caps","most"] (a4e a))(c:mg "TooMany"=some (.ref a))(b:ClsX K a []):Ok P w K mg base "_law_told" 8 ["_law_line"] a7u:=by
 refine I.okJ sc__law_told (λvs H Q E h=>?_) (λZ f A outer s H vs Q E hr h=>?_)
 .obtain⟨l,line,rfl,_⟩:=h;rfl
 .obtain⟨l,line,rfl,hl,l1,l2,hS,kn,kq⟩:=h;have hz:(3000:Nat)<=sizeLine:=by rw[sizeLine_eq];decide
  refine⟨_,(A3 (B1 (i:=1) sc__law_told.nd rfl (Or.inl rfl) a0x)
 (A3 (b1J K (b6k (i:=1) d (hr.mono (by omega)) rfl sc__law_told.nd rfl (Or.inl rfl) (jaC (E8 (jaC (jv 0) jaN)) (jaC (a6H (E8 (jaC a0x jaN)) (G2 K rfl T.b_len (jaC (jv 0) jaN))) (jaC A6 jaN)))) rfl c b (λ_=>(A4 (B1 (i:=1) sc__law_told.nd rfl (Or.inl rfl) a0x))))
 (A4 (B0 (jv 1))))),?_⟩
  try dsimp only[A8,List.set]
  refine⟨_,rfl,by show 1<=sizeLine;omega,λp1 v=>?_⟩;have s1:=(Same.refl H).upd (o:=.tup [.ref l]) v;have D:upd H p1 (.tup [.ref l]) p1=some (.tup [.ref l]):=A0;generalize upd H p1 (.tup [.ref l])=H1 at s1 D;refine⟨by show 1<=sizeLine;omega,λp2 j=>⟨_,rfl,l,_,rfl,.inr (SqT.of (C0 (s1 _ _ hl) j)),p2,[.non],_,rfl,rfl,A0,by simp,by rw[List.length_map];omega,?_,λca U m G=>?_⟩⟩
  .rw[List.length_map];show(1:Int)*_<=_;omega
  rw[List.length_map,Int.toNat_natCast,a3E]at G;have m:=((Same.refl H1).upd (o:=.tup [.non]) j).trans m;have e:=s1.trans m;have Y:SyAt U p1 ca [line] (fre line.length):=⟨⟨[.ref l],m _ _ D,Its.nil.snoc ⟨l,rfl,e _ _ hl⟩,by simp⟩,by rw[G,List.map_replicate];rfl,Nat.zero_le _,by rw[K2];exact l2,λX B=>by
   rw[List.mem_singleton.mp B,K2];exact⟨rfl,hS⟩⟩
  have F:(60+1)*(line.length+1)<=61*101:=Nat.mul_le_mul (by omega) (by omega);refine⟨p1,ca,_,fre line.length,60,_,rfl,rfl,Y,by rw[K2];omega,λq N O ys x R S W k L u J n C y r t z V g=>?_,λL u M=>⟨a,rfl,rfl,λp hp=>?_⟩⟩
  .exact⟨_,rfl,kq q N O ys x R S W k L (e.trans u) J n C y r t z V g⟩
  .exact⟨_,rfl,kn _ ((e.trans u).upd hp) M⟩
structure NaP(H:Hp)(t r:Addr)(zs:List V)(tss:LLI)(row:List Int):Prop where
 ht:H t=some (.tup zs)
 hI:Its H zs tss
 hr:H r=some (.tup (row.map V.int))
 r1:1<=row.length
 r2:row.length<=100
 zl:zs.length<=100
 hT:∀v∈tss,v.length=row.length/\Sm v
 hS:Sm (tss.map (dot row))
theorem NaP.same{H H':Hp}{t r:Addr}{zs:List V}{tss:LLI}{row:List Int}(h:NaP H t r zs tss row)(s:Same H H'):NaP H' t r zs tss row:=⟨s _ _ h.ht,h.hI.same s,s _ _ h.hr,h.r1,h.r2,h.zl,h.hT,h.hS⟩
theorem a3g:bootBuiltins "ValueError"=some (.type "ValueError"):=by kernel_rfl
inductive IspRefused(vs:List V)(H:Hp)(Q:VK)(E:XK):Prop
 |mk (t r:Addr) (zs:List V) (tss:LLI) (row:List Int) (most:Nat) (mi:Int) (_:vs=[.ref t,.ref r,.int mi]) (_:mi=most) (_:NaP H t r zs tss row) (_:most<=900) (_:(∀F W k,Wk [tss.map (dot row)] (fre tss.length) F W [] k->most<W.length)) (_:∀H',Same H H'->Q (.bl true) H'):IspRefused  vs H Q E
def a3n:Sp:=λvs H Q E=>IspRefused  vs H Q E
theorem sc__law_refused:FnScope ["_law_told_here","_law_row","_law_most","_law_caught","e","_law_odd"] ["_law_told_here","_law_row","_law_most"] (A1 G8):=⟨rfl,rfl,rfl,by decide +kernel,rfl,by decide +kernel,by decide +kernel⟩
theorem a6A{l b e c d a:Addr}(O:FunAt K mg "_law_refused" G8 ["_law_told_here","_law_row","_law_most"])(T:Tx mg)(m:OkE P w K mg base "narrowed" 8 ["told","row","most"] (U7 a))(u:mg "LayError"=some (.ref l))(n:ClsX K l [])(I:ClsX K a [.ref l])
  (x:mg "NoAnswer"=some (.ref b)) (C:mg "NoLay"=some (.ref e)) (z:mg "NoLine"=some (.ref c)) (B:mg "NoText"=some (.ref d)) (y:mg "TooMany"=some (.ref a))
  (Z:IsX K a) (h1:PySem.W.kitOne K (.ref a) (.ref a)=some true) (h2:PySem.W.kitOne K (.ref a) (.type "ValueError")=some true) (Y:PySem.W.kitAny K (.ref a) [.ref b,.ref e,.ref c,.ref d]=some false):Ok P w K mg base "_law_refused" 9 ["_law_told_here","_law_row","_law_most"] a3n:=by
 refine O.okJ sc__law_refused (λvs H Q E h=>?_) (λa0 f A outer s H vs Q E hr h=>?_)
 .obtain⟨t,r,zs,tss,row,most,mi,rfl,_⟩:=h;rfl
 .obtain⟨t,r,zs,tss,row,most,_,rfl,rfl,N,hmo,hno,k⟩:=h;refine⟨_,(A3 (B1 (i:=3) sc__law_refused.nd rfl (Or.inl rfl) a0x)
 (A3 (b1K K (j:=4) (b3Y m (hr.mono (by omega)) rfl (jaC (jv 0) (jaC (jv 1) (jaC (jv 2) jaN)))) rfl u n sc__law_refused.nd rfl rfl (λ_=>(A4 (B1 (i:=3) sc__law_refused.nd rfl (Or.inl rfl) (jv 4)))))
 (A3 (B1 (i:=5) sc__law_refused.nd rfl (Or.inl rfl) (M8 K rfl T.b_isinstance (jaC (jv 3) (jaC (E8 (jaC (a2F (v:=.ref b) rfl x rfl) (jaC (a2F (v:=.ref e) rfl C rfl) (jaC (a2F (v:=.ref c) rfl z rfl) (jaC (a2F (v:=.ref d) rfl B rfl) jaN))))) jaN))))
 (A4 (B0 (a5N (M8 K rfl T.b_isinstance (jaC (jv 3) (jaC (a2F (v:=.ref a) rfl y rfl) jaN))) (a5N (M8 K rfl T.b_isinstance (jaC (jv 3) (jaC (a2G (v:=.ty "ValueError") rfl T.b_ValueError a3g rfl) jaN))) (a7W (b4Y (jv 5)))))))))),?_⟩
  try dsimp only[A8,List.set]
  refine⟨_,rfl,_,rfl,_,rfl,t,r,zs,tss,row,most,_,rfl,rfl,N.ht,N.hI,N.hr,N.r1,N.r2,N.zl,hmo,N.hT,N.hS,λq f g fs U gs S H' s' hq hf X hg V M=>?_,λH' s' _=>⟨a,rfl,I,λp hp=>?_⟩⟩
  .obtain⟨F,W,k,_,hW,hl⟩:=M.wk;have:=hno F W k hW;omega
  .have s2:=s'.upd (o:=a1z p a) hp;have L:upd H' p (a1z p a) p=some (a1z p a):=A0;generalize upd H' p (a1z p a)=H2 at s2 L;refine⟨_,rfl,?_⟩;refine⟨_,rfl,by show 4<=sizeLine;rw[sizeLine_eq];decide,λR D=>?_⟩;have J:=s2.upd (o:=.tup [.ref b,.ref e,.ref c,.ref d]) D;have G:=C0 (o:=.tup [.ref b,.ref e,.ref c,.ref d]) L D;refine⟨p,a,_,false,rfl,G,Z,.inr (.inr ⟨R,[b,e,c,d],rfl,A0,Y⟩),?_⟩;generalize upd H2 R (.tup [.ref b,.ref e,.ref c,.ref d])=H3 at J G
   try dsimp only[A8,List.set]
   refine⟨_,rfl,p,a,_,true,rfl,G,Z,.inr (.inl ⟨_,rfl,h1⟩),?_⟩;refine⟨true,rfl,Q7 ⟨_,rfl,p,a,_,true,rfl,G,Z,.inl ⟨_,rfl,h2⟩,true,rfl,Q7 ⟨_,rfl,false,rfl,?_⟩⟩⟩;exact k _ J
end
end K33
namespace K33
open PySem PySem.Spec PyProof.Rows L2
section
variable {P:Program}{w:World}{K:PySem.W.Frag}{mg:Str->Option Value}{base:Heap}
theorem b1y(row v:List Int)(h:v.length=row.length):(((List.range v.length).map λj=>row.getD j 0*v.getD j 0).map V.int)=((List.range v.length).map λj=>V.int (row.getD j 0*v.getD j 0)):=by
 rw[List.map_map];rfl
theorem b1X{H:Hp}{a b:Addr}{us vs:List V}{rss:LLI}(ha:H a=some (.tup us))(h:H b=some (.tup vs))(hI:Its H us rss)(d:Its H vs rss)(hl:us.length<=1000)(hr:∀r∈rss,r.length<=1000):SD H 3 (.ref a) (.ref b) :=
 .inr ⟨a,b,us,vs,rfl,rfl,ha,h,by rw[hI.1,d.1],hl,λi x y ex e=>by
  obtain⟨r,h1,h2,g⟩:=hI.mem ex;obtain⟨j,k,c,f⟩:=d.mem e;rw[h2]at c;cases c;exact SD.ints g f (hr r h1)⟩
theorem two_sd{H:Hp}{q p a b c d:Addr}{h bs cs ds:List V}{e f:LLI}(j:H q=some (.tup [.ref a,.ref b]))(hp:H p=some (.tup [.ref c,.ref d]))(ha:H a=some (.tup h))(k:H b=some (.tup bs))(hc:H c=some (.tup cs))(hd:H d=some (.tup ds))
  (m:Its H h e) (l:Its H bs f) (n:Its H cs e) (o:Its H ds f) (l1:h.length<=1000) (l2:bs.length<=1000) (r1:∀r∈e,r.length<=1000) (r2:∀r∈f,r.length<=1000):SD H 4 (.ref q) (.ref p) :=
 .inr ⟨q,p,_,_,rfl,rfl,j,hp,rfl,by simp,λi x y ex g=>by
  match i,ex,g with
  |0,ex,g=>cases ex;cases g;exact b1X ha hc m n l1 r1
  |1,ex,g=>cases ex;cases g;exact b1X k hd l o l2 r2⟩
theorem b6x{n:Nat}{tss a:LLI}{v:List Int}(h:∃c∈a,tgl n tss c=v):fir n tss a v∈a:=by
 obtain⟨c,hc,e⟩:=h;unfold fir;cases q:a.find? λc=>decide (tgl n tss c=v)with
 |some x=>exact List.mem_of_find?_eq_some q
 |none=>exact absurd (decide_eq_true e) (List.find?_eq_none.mp q c hc)
inductive IspRight(vs:List V)(H:Hp)(Q:VK)(E:XK):Prop
 |mk (t r:Addr) (zs:List V) (tss:LLI) (row:List Int) (_:vs=[.ref t,.ref r]) (_:NaP H t r zs tss row) (_:tss≠[]) (_:(∀v∈tss,∀x∈v,0<=x)) (_:∀H',Same H H'->Q (.bl true) H'):IspRight  vs H Q E
def a7s:Sp:=λvs H Q E=>IspRight  vs H Q E
theorem sc__law_right:FnScope ["_law_told_here","_law_row","_law_line","_law_least_told","_law_due_here","_law_many","_law_most"] ["_law_told_here","_law_row"] (A1 L3):=⟨rfl,rfl,rfl,by decide +kernel,rfl,by decide +kernel,by decide +kernel⟩
theorem b1k{p:Addr}(F:FunAt K mg "_law_right" L3 ["_law_told_here","_law_row"])(T:Tx mg)(e:Ok P w K mg base "_law_told" 8 ["_law_line"] a7u)(b:Ok P w K mg base "_law_refused" 9 ["_law_told_here","_law_row","_law_most"] a3n)(n:Ok P w K mg base "_law_due" 3 ["_law_told_here","_law_counts"] b4J)(l:Ok P w K mg base "narrowed" 8 ["told","row","most"] (λvs H Q _=>U7 p vs H Q λ_ _ _=>False))(d:Ok P w K mg base "_law_same" 5 ["_law_found","_law_due_here"] (a6o 4)):Ok P w K mg base "_law_right" 10 ["_law_told_here","_law_row"] a7s:=by
 refine F.okJ sc__law_right (λvs H Q E h=>?_) (λe7 f A outer s H vs Q E hr h=>?_)
 .obtain⟨t,r,zs,tss,row,rfl,_⟩:=h;rfl
 .obtain⟨t,r,zs,tss,row,rfl,N,hne,hnn,k⟩:=h;have hz:(3000:Nat)<=sizeLine:=by rw[sizeLine_eq];decide
  have hu:=hr.u60;have a7:=N.zl;have e6:=N.r2;refine⟨_,(A3 (B1 (i:=2) sc__law_right.nd rfl (Or.inl rfl) (B6 K rfl T.b_tuple (jaC (B9 (N:=["_law_one","_law_row"]) (src:=[none,some 1]) (O9 K (jv 0)) (by show B8 _ _=true;rfl) (by rfl) (by rfl)
 (λ_ _ _ _ _=>(A7 (i:=0) (show(["_law_one","_law_row"]:List Str).Nodup by decide +kernel) rfl (Or.inr rfl))) (λ_ _ _ _ _=>C2) (λ_ _ _ _ _=>(a6G K rfl T.b_sum (jaC (B9 (N:=["_law_j","_law_row","_law_one"]) (src:=[none,some 1,some 0]) (D9 rfl T.b_range (jaC (G2 K rfl T.b_len (jaC (jv 0) jaN)) jaN)) (by show B8 _ _=true;rfl) (by rfl) (by rfl)
 (λ_ _ _ _ _=>(A7 (i:=0) (show(["_law_j","_law_row","_law_one"]:List Str).Nodup by decide +kernel) rfl (Or.inl rfl))) (λ_ _ _ _ _=>C2) (λ_ _ _ _ _=>(Z5 (K4 K (jv 1) (jv 0)) (K4 K (jv 2) (jv 0))))) jaN)))) jaN)))
 (A3 (B1 (i:=3) sc__law_right.nd rfl (Or.inl rfl) (A9 e (hr.mono (by omega)) rfl (jaC (jv 2) jaN)))
 (A3 (E9 (b1H (jv 3) a0x)
 (A4 (B0 (A9 b (hr.mono (by omega)) rfl (jaC (jv 0) (jaC (jv 1) (jaC A6 jaN))))))
 D0)
 (A3 (B1 (i:=4) sc__law_right.nd rfl (Or.inl rfl) (A9 n (hr.mono (by omega)) rfl (jaC (jv 0) (jaC (K4 K (jv 3) A6) jaN))))
 (A3 (B1 (i:=5) sc__law_right.nd rfl (Or.inl rfl) (G2 K rfl T.b_len (jaC (K4 K (jv 3) A6) jaN)))
 (A3 (J2 (O9 K (E8 (jaC A6 (jaC (jv 5) (jaC A6 jaN))))) (A7 (i:=6) sc__law_right.nd rfl (Or.inl rfl))
 (A4 (E9 (S5 (G1 K (A9 d (hr.mono (by omega)) rfl (jaC (A9 l (hr.mono (by omega)) rfl (jaC (jv 0) (jaC (jv 1) (jaC (jv 6) jaN)))) (jaC (jv 4) jaN)))))
 (A4 (B0 a1w))
 D0)))
 (A4 (B0 (A9 b (hr.mono (by omega)) rfl (jaC (jv 0) (jaC (jv 1) (jaC (a7T (jv 5) A6) jaN)))))))))))),?_⟩
  refine⟨_,rfl,t,rfl,⟨_,SqT.of N.ht⟩,?_⟩;refine a3X (caps:=[some (.ref r)]) (λv=>V.int (dot row v)) (by omega) (λH' s=>SqT.of (s _ _ N.ht)) N.hI rfl (λv u H1 Q1 a8 Z s1 q=>?_) λH1 p1 s1 c0=>?_
  .obtain⟨va,rfl,hva⟩:=Z;have b2:=(N.hT u a8).1;refine⟨_,rfl,va,_,rfl,.inr (SqT.of hva),_,rfl,by omega,by rw[List.length_map];omega,?_⟩;rw[Int.toNat_natCast,List.length_map];refine S1 (caps:=[some (.ref r),some (.ref va)]) (λj=>V.int (row.getD j 0*u.getD j 0)) (by omega) rfl (λj H2 Q2 hj s2 q2=>?_) λH2 p2 s2 c4=>?_
   .exact⟨_,rfl,_,rfl,r,_,_,_,rfl,rfl,SqT.of ((s1.trans s2) _ _ N.hr),N2 (by omega),_,rfl,_,rfl,va,_,_,_,rfl,rfl,SqT.of (s2 _ _ hva),N2 hj,_,_,rfl,rfl,.inr ((N.hT u a8).2.at hj),q2⟩
   rw[<-b1y row u b2];refine⟨false,p2,_,rfl,SqL.of A0,?_⟩;rw[<-a0Y row u b2.symm];exact q _ (s2.upd c4)
  rw[show(tss.map λv=>V.int (dot row v))=(tss.map (dot row)).map V.int by rw[List.map_map];rfl];refine⟨p1,_,rfl,.inl ⟨SqL.of A0,λpl d5=>?_⟩⟩;have s2:=(s1.upd (o:=.lst ((tss.map (dot row)).map V.int)) c0).upd (o:=.tup ((tss.map (dot row)).map V.int)) d5;have e2:upd (upd H1 p1 (.lst ((tss.map (dot row)).map V.int))) pl (.tup ((tss.map (dot row)).map V.int)) pl=some (.tup ((tss.map (dot row)).map V.int)):=A0;generalize upd (upd H1 p1 (.lst ((tss.map (dot row)).map V.int))) pl (.tup ((tss.map (dot row)).map V.int))=H2 at s2 e2;have a5:(tss.map (dot row)).length=tss.length:=List.length_map ..;have d9:tss.length<=100:=by rw[<-N.hI.1];exact a7
  have b7:1<=tss.length:=by
   cases tss with
   |nil=>exact absurd rfl hne
   |cons _ _=>simp
  have b0:∀v∈tss,v.length=row.length:=λv Z=>(N.hT v Z).1;dsimp only[A8,List.set];refine⟨_,rfl,pl,_,rfl,e2,by omega,by omega,N.hS,λH3 s3 ho=>?_,λq0 t0 pp ys y ws F W k0 H3 s3 hq b9 b1 I c6 d4 c9 D O=>?_⟩
  .rw[a5]at ho;have B:=s2.trans s3;dsimp only[A8,List.set];refine⟨_,rfl,rfl,_,rfl,Q7 ?_⟩;refine⟨_,rfl,_,rfl,t,r,zs,tss,row,60,_,rfl,rfl,N.same B,by decide,λF W k D=>?_,λH4 s4=>k H4 (B.trans s4)⟩;refine Classical.byContradiction λz=>a3v D (most:=(60:Nat)) (by omega) ho
  rw[a5]at D;have B:=s2.trans s3;dsimp only[A8,List.set];refine⟨_,rfl,rfl,_,rfl,J4 ?_⟩;have hR:∀r'∈[tss.map (dot row)],r'.length=(fre tss.length).length:=λr' c1=>by rw[List.mem_singleton.mp c1,K2,a5]
  have a4:∀c∈y,Cnt tss row c:=λc hc=>(I.mem_iff.trans (D.least hR c)).mp hc;have d7:y.length<=60:=by rw[I.length_eq];have:=D.lv;omega
  have b4:∀c∈y,c.sum<=(61:Int):=λc hc=>by
   obtain⟨i1,i2,i3,i4,i5,i6,i7,i8⟩:=D.lv;obtain⟨i,q1,q2,lv⟩:=i2 c (i3 c (I.mem_iff.mp hc)).1;rw[lv.sum];omega
  have U:∀c∈y,c.length=tss.length:=λc hc=>by have:=(a4 c hc).an.len;rwa[K2]at this
  refine⟨_,rfl,_,rfl,q0,_,0,_,rfl,rfl,SqT.of hq,rfl,t,t0,zs,ys,tss,y,row.length,rfl,B _ _ N.ht,N.hI.same B,b9,b1,N.r1,N.r2,hne,b0,by rw[b1.1];omega,λc hc=>⟨U c hc,λx G=>?_⟩,a7,λqd f g fs gs a1 H4 s4 b8 hf Y hg a0 hD e4=>?_⟩
  .have h1:=(a4 c hc).an.nn x G;have h2:=a7M (a4 c hc).an.nn x G;have:=b4 c hc;omega
  have c5:=B.trans s4;dsimp only[A8,List.set];refine⟨_,rfl,q0,_,1,_,rfl,rfl,SqT.of (s4 _ _ hq),rfl,pp,_,rfl,.inr (SqT.of (s4 _ _ d4)),?_⟩;dsimp only[A8,List.set];have d1:=c9.1;have e1:1<=W.length:=D.some b7;have a6:∀r∈a1,r.length<=1000:=λv Z=>by
   obtain⟨c2,c7,_,hm,S,rfl⟩:=hD.ex;obtain⟨c,_,rfl⟩:=(hm v).mp ((S.mem v).mp (List.mem_filter.mp Z).1);rw[a3Y b0];omega
  have b6:∀r∈a1.map (fir row.length tss y),r.length<=1000:=λg hg=>by
   obtain⟨v,Z,rfl⟩:=List.mem_map.mp hg;obtain⟨c2,c7,_,hm,S,rfl⟩:=hD.ex;rw[U _ (b6x ((hm v).mp ((S.mem v).mp (List.mem_filter.mp Z).1)))];omega
  have b3:gs.length<=1000:=by rw[a0.1,List.length_map,<-Y.1];omega
  refine⟨_,rfl,by show 3<=sizeLine;omega,λpt d0=>?_⟩;have a3:=(Same.refl H4).upd (o:=.tup [.int 60,.int ws.length,.int 60]) d0;have e5:upd H4 pt (.tup [.int 60,.int ws.length,.int 60]) pt=some (.tup [.int 60,.int ws.length,.int 60]):=A0;have a2:=c5.trans a3;generalize upd H4 pt (.tup [.int 60,.int ws.length,.int 60])=H5 at a3 e5 a2;refine⟨pt,rfl,⟨_,SqT.of e5⟩,?_⟩;refine a4G (K:=K) (a:=pt) (xs:=[.int 60,.int ws.length,.int 60]) (λi σ H'=>Ex1 λo=>An2 (σ=[some (.ref t),some (.ref r),some (.ref pl),some (.ref q0),some (.ref qd),some (.int ws.length),o]) (Same H5 H')) ⟨none,rfl,Same.refl _⟩ (λi σ H' _ h=>by obtain⟨_,_,s'⟩:=h;exact SqT.of (s' _ _ e5)) ?_ ?_
  .rintro i x σ H6 G ⟨o,rfl,s6⟩;obtain⟨m,rfl,e0,d3⟩:∃m:Nat,x=.int m/\W.length<=m/\m<=900:=by
    match i,G with
    |0,G=>cases G;exact⟨60,rfl,O,by decide⟩
    |1,G=>cases G;exact⟨ws.length,rfl,by omega,by omega⟩
    |2,G=>cases G;exact⟨60,rfl,O,by decide⟩
   have J:=a2.trans s6;have M:=N.same J;dsimp only[A8,List.set];refine⟨_,rfl,_,rfl,_,rfl,t,r,zs,tss,row,m,_,rfl,rfl,M.ht,M.hI,M.hr,M.r1,M.r2,M.zl,d3,M.hT,M.hS,λq7 f7 g7 e3 a9 d8 b5 H7 s7 c8 c3 L d6 R X=>?_,λH7 s7 ho=>?_⟩
   .obtain⟨F7,W7,k7,hpm7,hW7,_⟩:=X.wk;have ec:b5=y:=b7i hW7 D hpm7 I X.ri c6;subst ec;have ef:a9=a1:=b6z rfl X hD;subst ef;have C:=(a3.trans s6).trans s7;refine⟨_,rfl,_,_,rfl,two_sd c8 (C _ _ b8) c3 d6 (C _ _ hf) (C _ _ hg) L R (Y.same C) (a0.same C) (by rw[L.1,<-Y.1];omega) (by rw[R.1,<-a0.1];exact b3) a6 b6,λH8 s8=>?_⟩;exact⟨_,rfl,J4 ⟨_,rfl,(s6.trans s7).trans s8⟩⟩
   .exact a3v D (by omega) ho
  .rintro σ H6 ⟨o,rfl,s6⟩;have J:=a2.trans s6;refine⟨_,rfl,_,rfl,_,rfl,_,_,rfl,rfl,t,r,zs,tss,row,W.length-1,_,rfl,?_,N.same J,by omega,λF' W' k' d2=>?_,λH7 s7=>k H7 (J.trans s7)⟩
   .rw[d1];omega
   .obtain⟨_,rfl⟩:=a9R D d2;omega
theorem b7H{b:Nat}{r:List Int}(h:VB b r):Sm r:=λx a=>by have:=h.2 x a;omega
theorem b2l{B:Int}:∀(a c:List Int),(∀x∈a,-B<=x/\x<=B)->(∀x∈c,0<=x/\x<=100000)->0<=B -> -(B*100000*a.length)<=dot a c/\dot a c<=B*100000*a.length
 |[],_,_,_,h=>by simp[dot]
 |_::a,[],_,_,h=>by
  have:0<=B*100000*((a.length+1:Nat):Int):=Int.mul_nonneg (by omega) (by omega);simp only[dot,List.zipWith_nil_right,List.sum_nil,List.length_cons];omega
 |x::a,y::c,ha,hc,h=>by
  have ih:=b2l a c (λz hz=>ha z (List.mem_cons_of_mem _ hz)) (λz hz=>hc z (List.mem_cons_of_mem _ hz)) h;have h1:=ha x List.mem_cons_self;have h2:=hc y List.mem_cons_self;have u:x*y<=B*100000:=Int.le_trans (Int.mul_le_mul_of_nonneg_right h1.2 h2.1) (Int.mul_le_mul_of_nonneg_left h2.2 h);have l : -(B*100000)<=x*y:=by
   have b : -B*y<=x*y:=Int.mul_le_mul_of_nonneg_right h1.1 h2.1;have d:B*y<=B*100000:=Int.mul_le_mul_of_nonneg_left h2.2 h;rw[Int.neg_mul]at b;omega
  rw[a5S,List.length_cons,show((a.length+1:Nat):Int)=(a.length:Int)+1 by omega,Int.mul_add,Int.mul_one];omega
theorem a9S{rss:LLI}{F W L:LLI}{k:Nat}(h:Wk rss [] F W L k):W=[]:=by
 have:∀{F W L:LLI}{k:Nat}{cs:List (Option Int)},Wk rss cs F W L k->cs=[]->W=[]/\L=[]:=by
  intro F W L k cs h;induction h with
  |one _ _ h =>
   intro e;subst e;have:_=[]:=List.eq_nil_iff_forall_not_mem.mpr λv a=>by
    have:=(h v).mp a;simp[N3]at this
   exact⟨this,this⟩
  |more h ne _ _ _ ih=>intro e;exact absurd (ih e).2 ne
 exact(this h rfl).1
theorem Wk.lin{rss:LLI}{cs:List (Option Int)}{F W L:LLI}{k:Nat}(h:Wk rss cs F W L k):∀u∈L,u∈W:=by
 cases h with
 |one _ _ h=>exact λu a=>a
 |more _ _ _ _ _=>exact λu a=>List.mem_append_right _ a
theorem b3U{rss:LLI}{most:Nat}:¬a9J rss [] most:=by
 rintro⟨F,W,L,k,h,a⟩;have hw:=a9S h;rcases a with q|⟨ne,_⟩
 .rw[hw]at q;simp at q;omega
 .have hl:=h.lv;obtain⟨u,b⟩:=List.exists_mem_of_ne_nil L ne;have:=h.lin u b;rw[hw]at this;cases this
theorem sc_law:FnScope ["_law_script","_law_pot_here","_law_turn","_law_width","_law_told_here","_law_great","_law_row"] ["_law_script"] (A1 a2h):=⟨rfl,rfl,rfl,by decide +kernel,rfl,by decide +kernel,by decide +kernel⟩
theorem b6c{f:Addr}{fd:FuncData}{G:Addr}(F':Fun K "law" "law" a2h f fd)(T:Tx mg)(J:Ok P w K mg base "_law_pot" 1 ["_law_script"] (b4I K))(d:Ok P w K mg base "_law_take" 1 ["_law_pot_here","_law_many"] a4b)(D:Ok P w K mg base "_law_number" 2 ["_law_pot_here","_law_far"] a5k)(C:Ok P w K mg base "_law_vectors" 2 ["_law_pot_here","_law_width"] a3m)(I:Ok P w K mg base "_law_right" 10 ["_law_told_here","_law_row"] a7s)(u:Ok P w K mg base "narrowed" 8 ["told","row","most"] (λvs H Q _=>U7 G vs H Q λ_ _ _=>False))(j:Ok P w K mg base "_law_same" 5 ["_law_found","_law_due_here"] (a6o 4)):FnOk P w K mg base CX0 11 f fd ["_law_script"] (a7t K):=by
 refine F'.okJ sc_law (λvs H Q E h=>?_) (λj4 A outer s H vs Q E hr h=>?_)
 .obtain⟨a,ns,rfl,_⟩:=h;rfl
 .obtain⟨a,ns,rfl,hS,hl,k⟩:=h;have hz:(3000:Nat)<=sizeLine:=by rw[sizeLine_eq];decide
  have hu:=hr.u60;refine⟨_,(A3 (B1 (i:=1) sc_law.nd rfl (Or.inr rfl) (A9 J (hr.mono (by omega)) rfl (jaC (jv 0) jaN)))
 (A3 (J2 (D9 rfl T.b_range (jaC A6 jaN)) (A7 (i:=2) sc_law.nd rfl (Or.inl rfl))
 (A3 (B1 (i:=3) sc_law.nd rfl (Or.inl rfl) (T7 A6 (A9 d (hr.mono (by omega)) rfl (jaC (jv 1) (jaC (Q5 K (V8 (jaC A6 (jaC A6 jaN))) (a4A rfl T.b_int (jaC (a2A (A9 d (hr.mono (by omega)) rfl (jaC (jv 1) (jaC A6 jaN))) A6) jaN))) jaN)))))
 (A3 (B1 (i:=4) sc_law.nd rfl (Or.inl rfl) (A9 C (hr.mono (by omega)) rfl (jaC (jv 1) (jaC (jv 3) jaN))))
 (A3 (B1 (i:=5) sc_law.nd rfl (Or.inr rfl) (Z5 (a7U A6 A6) (a4A rfl T.b_int (jaC (a2A (A9 d (hr.mono (by omega)) rfl (jaC (jv 1) (jaC A6 jaN))) A6) jaN))))
 (A3 (B1 (i:=6) sc_law.nd rfl (Or.inl rfl) (B6 K rfl T.b_tuple (jaC (B9 (N:=["_law_j","_law_pot_here","_law_great"]) (src:=[none,some 1,some 5]) (D9 rfl T.b_range (jaC (jv 3) jaN)) (by show B8 _ _=true;rfl) (by rfl) (by rfl)
 (λ_ _ _ _ _=>(A7 (i:=0) (show(["_law_j","_law_pot_here","_law_great"]:List Str).Nodup by decide +kernel) rfl (Or.inl rfl))) (λ_ _ _ _ _=>C2) (λ_ _ _ _ _=>(A9 D (hr.mono (by omega)) rfl (jaC (jv 1) (jaC (jv 2) jaN))))) jaN)))
 (A3 (E9 (a4z (a0R (b1F K hu (jv 4) (E8 jaN)) (X9 (S5 (G1 K (A9 I (hr.mono (by omega)) rfl (jaC (jv 4) (jaC (jv 6) jaN))))))))
 (A4 (B0 a1w))
 D0)
 (A4 (E9 (a4z (b1D (S5 (G1 K (A9 j (hr.mono (by omega)) rfl (jaC (A9 u (hr.mono (by omega)) rfl (jaC (E8 jaN) (jaC (jv 6) (jaC A6 jaN)))) (jaC (E8 (jaC (E8 jaN) (jaC (E8 jaN) jaN))) jaN))))) (a6F (S5 (G1 K (A9 j (hr.mono (by omega)) rfl (jaC (A9 u (hr.mono (by omega)) rfl (jaC (E8 jaN) (jaC (jv 6) (jaC A6 jaN)))) (jaC (E8 (jaC (E8 jaN) (jaC (E8 jaN) jaN))) jaN))))))))
 (A4 (B0 a1w))
 D0))))))))
 (A4 (B0 a1w)))),?_⟩
  refine⟨_,rfl,a,ns,rfl,hS,hl,λp b H1 _ _ g5 s1=>?_⟩;dsimp only[A8,List.set];refine⟨_,rfl,by decide,by decide,?_⟩;refine a3C (lo:=0) (n:=2) (λi σ H'=>Ex5 λo2 o3 o4 o5 o6=>An2 (σ=[some (.ref a),some (.ref p),o2,o3,o4,o5,o6]) (PotAt H' p b (5000*i))) ⟨none,none,none,none,none,rfl,g5⟩ ?_ ?_
  .rintro i σ H2 hi ⟨o2,o3,o4,o5,o6,rfl,hP2⟩;obtain⟨nn,c1⟩:∃nn,nn=5000*i:=⟨_,rfl⟩;rw[<-c1]at hP2;have hb:nn+20000<2 ^ 60:=by omega
   have en:nn+5000=5000*(i+1):=by omega
   clear c1;dsimp only[A8,List.set];refine⟨_,rfl,by show 2<=sizeLine;omega,λp3 c2=>?_⟩;have d9:=a0s hP2 c2;have s3:=(Same.refl H2).upd (o:=.lst [V.int 4,.int 8]) c2;refine⟨_,rfl,p,b,_,8,rfl,hP2.same s3,by omega,by decide,by decide,λr4 H4 _ _ d8 a9=>?_⟩;refine⟨rfl,.inr ⟨_,rfl,?_⟩⟩;obtain⟨m,d7,h9⟩:=two_at 4 8 (decide (V.int r4=V.int 0));refine⟨p3,_,_,_,rfl,rfl,SqL.of (a9 _ _ d9 A0),d7,?_⟩;refine⟨p,b,_,m,rfl,d8,by omega,by omega,by omega,λr5 H5 h5 f5 e4 e7=>?_⟩;refine⟨_,_,rfl,rfl,?_⟩;clear s3 a9 d8 hP2;obtain⟨w5,rfl⟩:∃t:Nat,r5=t:=⟨r5.toNat,by omega⟩;have e6:w5+1<=8:=by omega
   dsimp only[A8,List.set];rw[show(1+(w5:Int))=((w5+1:Nat):Int) by omega];generalize g7:w5+1=wd at e6;have g0:1<=wd:=by omega
   clear g7 h5 f5 d7 h9;refine⟨_,rfl,_,rfl,p,b,_,wd,_,rfl,rfl,g0,e6,e4,by omega,λt zs tss H6 b9 f1 i6 j1 hV a5 c9=>?_⟩;dsimp only[A8,List.set];refine⟨_,_,rfl,rfl,⟨by decide,by decide,by decide⟩,_,rfl,p,b,_,8,rfl,a5,by omega,by decide,by decide,λr7 H7 _ _ a6 a0=>?_⟩;refine⟨rfl,.inr ⟨_,rfl,?_⟩⟩;have b2:=a0 _ _ (b0R a5 b9) b9;have d2:=a4D f1 a5 a0;generalize decide (V.int r7=V.int 0)=cb;refine⟨_,_,rfl,rfl,.inr ⟨by cases cb<;>decide,by cases cb<;>decide⟩,?_⟩;obtain⟨g,hg,h4,j2⟩:∃g:Int,(10:Int) ^ Int.toNat 6*(if cb=true then 1 else 0)=g/\0<=g/\g<=1000000:=by
    cases cb
    .exact⟨0,by simp,by omega,by omega⟩
    .exact⟨1000000,by decide,by omega,by omega⟩
   dsimp only[A8,List.set];rw[hg];refine⟨_,rfl,_,rfl,by omega,by omega,?_⟩;rw[Int.toNat_natCast];refine a3t (caps:=[some (.ref p),some (.int g)]) (c:=3) (λz => -1000003<=z/\z<=1000003) (by omega) rfl a6 (λi' H' N' j0 g9 q=>⟨_,rfl,_,rfl,p,b,_,g,rfl,h4,by omega,g9,by omega,λr O h0 h1 c4 f8=>q r O ⟨by omega,by omega⟩ c4 f8⟩) ?_;intro H8 pw row i2 h8 d6 Y i4;have e8:=Y _ _ (b0R a6 b2) b2;have c3:=a4D d2 a6 Y;refine⟨pw,_,rfl,.inl ⟨SqL.of A0,λpr f4=>?_⟩⟩;have s9:=((Same.refl H8).upd (o:=.lst (row.map V.int)) i4).upd (o:=.tup (row.map V.int)) f4;have er:upd (upd H8 pw (.lst (row.map V.int))) pr (.tup (row.map V.int)) pr=some (.tup (row.map V.int)):=A0;have c0:PotAt (upd (upd H8 pw (.lst (row.map V.int))) pr (.tup (row.map V.int))) p b (nn+5000):=(d6.same s9).mono (by omega);have b3:=s9 _ _ e8;have b6:=c3.same s9;generalize upd (upd H8 pw (.lst (row.map V.int))) pr (.tup (row.map V.int))=H9 at er c0 b3 b6;clear s9 Y a0 c9 e7 d6 a6 a5 e4 e8 c3 b2 d2 b9 f1;have f7:Sm (tss.map (dot row)):=λx hx=>by
    obtain⟨v,hv,rfl⟩:=List.mem_map.mp hx;have h1:=b2l (B:=1000003) row v h8 (hV v hv).1.2 (by decide);have h2:(1000003:Int)*100000*row.length<=1000003*100000*8:=Int.mul_le_mul_of_nonneg_left (by omega) (by decide);omega
   have N9:NaP H9 t pr zs tss row:=⟨b3,b6,er,by omega,by omega,by omega,λv hv=>⟨by rw[(hV v hv).1.1,i2],b7H (hV v hv).1⟩,f7⟩;dsimp only[A8,List.set];have key:∀(H':Hp) (Q':VK) (m:Nat),H' pr=some (.tup (row.map V.int))->m<=900->(∀q O,Same H' O->(∀(y l R:Addr) (H3:Hp),Same O H3->H3 y=some (.tup [])->H3 l=some (.tup [])->H3 R=some (.tup [.ref y,.ref l])->SD H3 4 (.ref q) (.ref R))->Q' (.ref q) O)->∀X,H' X=some (.tup [])->U7 G [.ref X,.ref pr,.int m] H' Q' λ_ _ _=>False:=λH' Q' m d4 hm hk X a1=>by
    refine⟨X,pr,[],[],row,m,_,rfl,rfl,a1,.nil,d4,by omega,by omega,by simp,hm,(λ_ z=>nomatch z),(λ_ z=>nomatch z),λq f g fs i9 gs i3 O f0 hq hf c8 hg d3 hN=>?_,λO f0 ho=>b3U ho⟩;refine hk q O f0 λy l R H3 s3 h1 h2 h3=>?_;obtain⟨F,W,k,e0,hW,_⟩:=hN.wk;have hw:=a9S hW;have hF:F=[]:=List.eq_nil_iff_forall_not_mem.mpr λv hv=>by
     have:=(hW.lv.2.2.1 v hv).1;rw[hw]at this;cases this
    rw[hF]at e0;have hc:i3=[]:=e0.eq_nil;obtain⟨g8,h7,_,hm,S,rfl⟩:=hN.ex;have i0:(h7.filter λv=>Lst g8 v)=[]:=List.eq_nil_iff_forall_not_mem.mpr λv hv=>by
     obtain⟨c,h,_⟩:=(hm v).mp ((S.mem v).mp (List.mem_filter.mp hv).1);rw[hc]at h;cases h
    rw[i0]at c8 d3;have g6:fs=[]:=List.eq_nil_of_length_eq_zero c8.1;have i1:gs=[]:=List.eq_nil_of_length_eq_zero d3.1;subst g6 i1;exact two_sd (s3 _ _ hq) h3 (s3 _ _ hf) (s3 _ _ hg) h1 h2 .nil .nil .nil .nil (by simp) (by simp) (λ_ z=>nomatch z) (λ_ z=>nomatch z)
   refine a0l (λσ H'=>Ex4 λo2 o3 o4 o5=>An3 (σ=[some (.ref a),some (.ref p),o2,o3,o4,o5,some (.ref pr)]) (PotAt H' p b (nn+5000)) (H' pr=some (.tup (row.map V.int)))) ?fin λfin=>?_
   case fin =>
    rintro σ a8 ⟨o2,o3,o4,o5,rfl,c5,b0⟩;refine⟨Nat.zero_le _,λX a1=>?_⟩;have M:=(Same.refl a8).upd (o:=.tup []) a1;have b1:upd a8 X (.tup []) X=some (.tup []):=A0;generalize upd a8 X (.tup [])=i5 at M b1;refine⟨_,rfl,key i5 _ 0 (M _ _ b0) (by decide) (λq Z c6 a3=>?_) X b1⟩;refine⟨Nat.zero_le _,λy a4=>⟨Nat.zero_le _,λl U=>⟨by show 2<=sizeLine;omega,λR L=>?_⟩⟩⟩;have a7:=(((Same.refl Z).upd (o:=.tup []) a4).upd (o:=.tup []) U).upd (o:=.tup [.ref y,.ref l]) L;have g1:upd (upd (upd Z y (.tup [])) l (.tup [])) R (.tup [.ref y,.ref l]) y=some (.tup []):=C0 (C0 A0 U) L;have g2:upd (upd (upd Z y (.tup [])) l (.tup [])) R (.tup [.ref y,.ref l]) l=some (.tup []):=C0 A0 L;have g3:upd (upd (upd Z y (.tup [])) l (.tup [])) R (.tup [.ref y,.ref l]) R=some (.tup [.ref y,.ref l]):=A0;have b7:=a3 y l R _ a7 g1 g2 g3;generalize upd (upd (upd Z y (.tup [])) l (.tup [])) R (.tup [.ref y,.ref l])=i8 at a7 b7;clear g1 g2 g3 a4 U L a3;refine⟨_,_,rfl,b7,λc7 f2=>⟨true,rfl,J4 ?_⟩⟩;have b5:=((M.trans c6).trans a7).trans f2;have f3:=b5 _ _ b0;have d1:=c5.same b5;clear b7 a7 f2 c6 M b5 b1;refine⟨Nat.zero_le _,λX a1=>?_⟩;have b8:=(Same.refl c7).upd (o:=.tup []) a1;have d5:upd c7 X (.tup []) X=some (.tup []):=A0;generalize upd c7 X (.tup [])=g4 at b8 d5;refine⟨_,rfl,key g4 _ 60 (b8 _ _ f3) (by decide) (λq a2 f9 a3=>?_) X d5⟩;refine⟨Nat.zero_le _,λy a4=>⟨Nat.zero_le _,λl U=>⟨by show 2<=sizeLine;omega,λR L=>?_⟩⟩⟩;have b4:=(((Same.refl a2).upd (o:=.tup []) a4).upd (o:=.tup []) U).upd (o:=.tup [.ref y,.ref l]) L;have g1:upd (upd (upd a2 y (.tup [])) l (.tup [])) R (.tup [.ref y,.ref l]) y=some (.tup []):=C0 (C0 A0 U) L;have g2:upd (upd (upd a2 y (.tup [])) l (.tup [])) R (.tup [.ref y,.ref l]) l=some (.tup []):=C0 A0 L;have g3:upd (upd (upd a2 y (.tup [])) l (.tup [])) R (.tup [.ref y,.ref l]) R=some (.tup [.ref y,.ref l]):=A0;have e9:=a3 y l R _ b4 g1 g2 g3;generalize upd (upd (upd a2 y (.tup [])) l (.tup [])) R (.tup [.ref y,.ref l])=i7 at b4 e9;refine⟨_,_,rfl,e9,λj3 f6=>⟨true,rfl,J4 ?_⟩⟩;exact⟨_,_,_,_,_,rfl,en ▸ d1.same (((b8.trans f9).trans b4).trans f6)⟩
   refine⟨_,rfl,Nat.zero_le _,λp10 d0=>?_⟩;have s10:=(Same.refl H9).upd (o:=.tup []) d0;have e5:upd H9 p10 (.tup []) p10=some (.tup []):=A0;generalize upd H9 p10 (.tup [])=a8 at s10 e5;refine⟨2,_,by decide,EqV.its (k:=true) (SqT.of (s10 _ _ b3)) (SqT.of e5) (b6.same s10) .nil,⟨_,_,rfl,rfl⟩,_,rfl,a0T (λe=>?_) (λe=>J4 (fin _ _ ⟨_,_,_,_,rfl,c0.same s10,s10 _ _ er⟩))⟩;have h6:tss≠[]:=λz=>by rw[z]at e;simp at e
   refine⟨_,rfl,_,rfl,t,pr,zs,tss,row,rfl,N9.same s10,h6,λv hv x hx=>((hV v hv).1.2 x hx).1,λi5 M=>?_⟩;refine⟨true,rfl,J4 (fin _ _ ⟨_,_,_,_,rfl,(c0.same s10).same M,M _ _ (s10 _ _ er)⟩)⟩
  .rintro σ H2 ⟨o2,o3,o4,o5,o6,rfl,hP2⟩;exact k H2
end
open PySem.W
theorem all_mk{l:PySem.W.OpenLaw}{w:World}{K:PySem.W.Frag}{h:Heap}{mg:Str->Option Value}{fa:Addr}(X:K.In h)(G:h.Ns mainGlobals mg)(f0:mg "law"=some (.ref fa))
 (a1:nsIn K mainGlobals "free"=some (some (.ref f1))) (l1:FnL K f1 "free" "free" a4p o1 d1 s1 v1 x1 p1 n1 c1 t1) (c_1:codeIn K c1 "free"=true) (k1:keepIn K (.ref f1)=true)
 (a2:nsIn K mainGlobals "within"=some (some (.ref f2))) (l2:FnL K f2 "within" "within" a0m o2 d2 s2 v2 x2 p2 n2 c2 t2) (c_2:codeIn K c2 "within"=true) (k2:keepIn K (.ref f2)=true)
 (a3:nsIn K mainGlobals "row_sum"=some (some (.ref f3))) (l3:FnL K f3 "row_sum" "row_sum" X5 o3 d3 s3 v3 x3 p3 n3 c3 t3) (c_3:codeIn K c3 "row_sum"=true) (k3:keepIn K (.ref f3)=true)
 (a4:nsIn K mainGlobals "sums"=some (some (.ref f4))) (l4:FnL K f4 "sums" "sums" a4n o4 d4 s4 v4 x4 p4 n4 c4 t4) (c_4:codeIn K c4 "sums"=true) (k4:keepIn K (.ref f4)=true)
 (a5:nsIn K mainGlobals "is_answer"=some (some (.ref f5))) (l5:FnL K f5 "is_answer" "is_answer" N7 o5 d5 s5 v5 x5 p5 n5 c5 t5) (c_5:codeIn K c5 "is_answer"=true) (k5:keepIn K (.ref f5)=true)
 (a6:nsIn K mainGlobals "pull_of"=some (some (.ref f6))) (l6:FnL K f6 "pull_of" "pull_of" X6 o6 d6 s6 v6 x6 p6 n6 c6 t6) (c_6:codeIn K c6 "pull_of"=true) (k6:keepIn K (.ref f6)=true)
 (a7:nsIn K mainGlobals "falls"=some (some (.ref f7))) (l7:FnL K f7 "falls" "falls" a1I o7 d7 s7 v7 x7 p7 n7 c7 t7) (c_7:codeIn K c7 "falls"=true) (k7:keepIn K (.ref f7)=true)
 (a8:nsIn K mainGlobals "below"=some (some (.ref f8))) (l8:FnL K f8 "below" "below" a1J o8 d8 s8 v8 x8 p8 n8 c8 t8) (c_8:codeIn K c8 "below"=true) (k8:keepIn K (.ref f8)=true)
 (a9:nsIn K mainGlobals "plus"=some (some (.ref f9))) (l9:FnL K f9 "plus" "plus" a4o o9 d9 s9 v9 x9 p9 n9 c9 t9) (c_9:codeIn K c9 "plus"=true) (k9:keepIn K (.ref f9)=true)
 (a10:nsIn K mainGlobals "times"=some (some (.ref f10))) (l10:FnL K f10 "times" "times" a1F o10 d10 s10 v10 x10 p10 n10 c10 t10) (c_10:codeIn K c10 "times"=true) (k10:keepIn K (.ref f10)=true)
 (a11:nsIn K mainGlobals "nought"=some (some (.ref f11))) (l11:FnL K f11 "nought" "nought" a0o o11 d11 s11 v11 x11 p11 n11 c11 t11) (c_11:codeIn K c11 "nought"=true) (k11:keepIn K (.ref f11)=true)
 (a12:nsIn K mainGlobals "unit"=some (some (.ref f12))) (l12:FnL K f12 "unit" "unit" a4m o12 d12 s12 v12 x12 p12 n12 c12 t12) (c_12:codeIn K c12 "unit"=true) (k12:keepIn K (.ref f12)=true)
 (a13:nsIn K mainGlobals "least_of"=some (some (.ref f13))) (l13:FnL K f13 "least_of" "least_of" R8 o13 d13 s13 v13 x13 p13 n13 c13 t13) (c_13:codeIn K c13 "least_of"=true) (k13:keepIn K (.ref f13)=true)
 (a14:nsIn K mainGlobals "above_any"=some (some (.ref f14))) (l14:FnL K f14 "above_any" "above_any" N8 o14 d14 s14 v14 x14 p14 n14 c14 t14) (c_14:codeIn K c14 "above_any"=true) (k14:keepIn K (.ref f14)=true)
 (a15:nsIn K mainGlobals "first_steps"=some (some (.ref f15))) (l15:FnL K f15 "first_steps" "first_steps" J7 o15 d15 s15 v15 x15 p15 n15 c15 t15) (c_15:codeIn K c15 "first_steps"=true) (k15:keepIn K (.ref f15)=true)
 (a16:nsIn K mainGlobals "raised"=some (some (.ref f16))) (l16:FnL K f16 "raised" "raised" a0n o16 d16 s16 v16 x16 p16 n16 c16 t16) (c_16:codeIn K c16 "raised"=true) (k16:keepIn K (.ref f16)=true)
 (a17:nsIn K mainGlobals "steps"=some (some (.ref f17))) (l17:FnL K f17 "steps" "steps" a1G o17 d17 s17 v17 x17 p17 n17 c17 t17) (c_17:codeIn K c17 "steps"=true) (k17:keepIn K (.ref f17)=true)
 (a18:nsIn K mainGlobals "is_barred"=some (some (.ref f18))) (l18:FnL K f18 "is_barred" "is_barred" N5 o18 d18 s18 v18 x18 p18 n18 c18 t18) (c_18:codeIn K c18 "is_barred"=true) (k18:keepIn K (.ref f18)=true)
 (a19:nsIn K mainGlobals "next_level"=some (some (.ref f19))) (l19:FnL K f19 "next_level" "next_level" K9 o19 d19 s19 v19 x19 p19 n19 c19 t19) (c_19:codeIn K c19 "next_level"=true) (k19:keepIn K (.ref f19)=true)
 (a20:nsIn K mainGlobals "least"=some (some (.ref f20))) (l20:FnL K f20 "least" "least" a1H o20 d20 s20 v20 x20 p20 n20 c20 t20) (c_20:codeIn K c20 "least"=true) (k20:keepIn K (.ref f20)=true)
 (a21:nsIn K mainGlobals "together"=some (some (.ref f21))) (l21:FnL K f21 "together" "together" R6 o21 d21 s21 v21 x21 p21 n21 c21 t21) (c_21:codeIn K c21 "together"=true) (k21:keepIn K (.ref f21)=true)
 (a22:nsIn K mainGlobals "narrowed"=some (some (.ref f22))) (l22:FnL K f22 "narrowed" "narrowed" R7 o22 d22 s22 v22 x22 p22 n22 c22 t22) (c_22:codeIn K c22 "narrowed"=true) (k22:keepIn K (.ref f22)=true)
 (a23:nsIn K mainGlobals "_law_pot"=some (some (.ref f23))) (l23:FnL K f23 "_law_pot" "_law_pot" R9 o23 d23 s23 v23 x23 p23 n23 c23 t23) (c_23:codeIn K c23 "_law_pot"=true) (k23:keepIn K (.ref f23)=true)
 (a24:nsIn K mainGlobals "_law_take"=some (some (.ref f24))) (l24:FnL K f24 "_law_take" "_law_take" O1 o24 d24 s24 v24 x24 p24 n24 c24 t24) (c_24:codeIn K c24 "_law_take"=true) (k24:keepIn K (.ref f24)=true)
 (a25:nsIn K mainGlobals "_law_number"=some (some (.ref f25))) (l25:FnL K f25 "_law_number" "_law_number" J8 o25 d25 s25 v25 x25 p25 n25 c25 t25) (c_25:codeIn K c25 "_law_number"=true) (k25:keepIn K (.ref f25)=true)
 (a26:nsIn K mainGlobals "_law_vectors"=some (some (.ref f26))) (l26:FnL K f26 "_law_vectors" "_law_vectors" G7 o26 d26 s26 v26 x26 p26 n26 c26 t26) (c_26:codeIn K c26 "_law_vectors"=true) (k26:keepIn K (.ref f26)=true)
 (a27:nsIn K mainGlobals "_law_below"=some (some (.ref f27))) (l27:FnL K f27 "_law_below" "_law_below" L5 o27 d27 s27 v27 x27 p27 n27 c27 t27) (c_27:codeIn K c27 "_law_below"=true) (k27:keepIn K (.ref f27)=true)
 (a28:nsIn K mainGlobals "_law_least"=some (some (.ref f28))) (l28:FnL K f28 "_law_least" "_law_least" L4 o28 d28 s28 v28 x28 p28 n28 c28 t28) (c_28:codeIn K c28 "_law_least"=true) (k28:keepIn K (.ref f28)=true)
 (a29:nsIn K mainGlobals "_law_same"=some (some (.ref f29))) (l29:FnL K f29 "_law_same" "_law_same" O2 o29 d29 s29 v29 x29 p29 n29 c29 t29) (c_29:codeIn K c29 "_law_same"=true) (k29:keepIn K (.ref f29)=true)
 (a30:nsIn K mainGlobals "_law_due"=some (some (.ref f30))) (l30:FnL K f30 "_law_due" "_law_due" S0 o30 d30 s30 v30 x30 p30 n30 c30 t30) (c_30:codeIn K c30 "_law_due"=true) (k30:keepIn K (.ref f30)=true)
 (a31:nsIn K mainGlobals "_law_told"=some (some (.ref f31))) (l31:FnL K f31 "_law_told" "_law_told" O0 o31 d31 s31 v31 x31 p31 n31 c31 t31) (c_31:codeIn K c31 "_law_told"=true) (k31:keepIn K (.ref f31)=true)
 (a32:nsIn K mainGlobals "_law_refused"=some (some (.ref f32))) (l32:FnL K f32 "_law_refused" "_law_refused" G8 o32 d32 s32 v32 x32 p32 n32 c32 t32) (c_32:codeIn K c32 "_law_refused"=true) (k32:keepIn K (.ref f32)=true)
 (a33:nsIn K mainGlobals "_law_right"=some (some (.ref f33))) (l33:FnL K f33 "_law_right" "_law_right" L3 o33 d33 s33 v33 x33 p33 n33 c33 t33) (c_33:codeIn K c33 "_law_right"=true) (k33:keepIn K (.ref f33)=true)
 (a34:nsIn K mainGlobals "law"=some (some (.ref f34))) (l34:FnL K f34 "law" "law" a2h o34 d34 s34 v34 x34 p34 n34 c34 t34) (c_34:codeIn K c34 "law"=true) (k34:keepIn K (.ref f34)=true)
  (z1:PySem.W.nsIn K mainGlobals "ValueError"=some none) (z2:PySem.W.nsIn K mainGlobals "abs"=some none) (z3:PySem.W.nsIn K mainGlobals "all"=some none) (z4:PySem.W.nsIn K mainGlobals "any"=some none) (z5:PySem.W.nsIn K mainGlobals "bool"=some none) (z6:PySem.W.nsIn K mainGlobals "int"=some none) (z7:PySem.W.nsIn K mainGlobals "isinstance"=some none) (z8:PySem.W.nsIn K mainGlobals "len"=some none) (z9:PySem.W.nsIn K mainGlobals "list"=some none) (z10:PySem.W.nsIn K mainGlobals "max"=some none) (z11:PySem.W.nsIn K mainGlobals "range"=some none) (z12:PySem.W.nsIn K mainGlobals "set"=some none) (z13:PySem.W.nsIn K mainGlobals "sorted"=some none) (z14:PySem.W.nsIn K mainGlobals "sum"=some none) (z15:PySem.W.nsIn K mainGlobals "tuple"=some none) (z16:PySem.W.nsIn K mainGlobals "zip"=some none)
  {n:Addr}(aD_NoAnswer:PySem.W.nsIn K mainGlobals "NoAnswer"=some (some (.ref n))) {d:Addr}(aD_LayError:PySem.W.nsIn K mainGlobals "LayError"=some (some (.ref d))) {F:Addr}(aD_NoLay:PySem.W.nsIn K mainGlobals "NoLay"=some (some (.ref F))) {q:Addr}(aD_NoLine:PySem.W.nsIn K mainGlobals "NoLine"=some (some (.ref q))) {r:Addr}(aD_NoText:PySem.W.nsIn K mainGlobals "NoText"=some (some (.ref r))) {b:Addr}(aD_TooMany:PySem.W.nsIn K mainGlobals "TooMany"=some (some (.ref b))) {a:Addr}(aD_Finder:PySem.W.nsIn K mainGlobals "Finder"=some (some (.ref a))) (q1:a2U K d []=true) (q2:a2U K b [.ref d]=true) (q3:a2U K b []=true) (q4:PySem.W.mroIn K b (.type "object")=some true) (q5:PySem.W.findIn K (.ref b) "__class__"=some (some (.builtin "object.__class__"))) (q6:PySem.W.findIn K (.ref b) "__getattribute__"=some (some (.builtin "BaseException.__getattribute__"))) (q7:PySem.W.findIn K (.ref b) "__getattr__"=some none) (q8:PySem.W.kitOne K (.ref b) (.ref b)=some true) (q9:PySem.W.kitOne K (.ref b) (.type "ValueError")=some true) (q10:PySem.W.kitAny K (.ref b) [.ref n,.ref F,.ref q,.ref r]=some false) {x B:Str}{i:Addr}{J f t:List Value}{L A:Bool}{z:List Str}{u:Option Bool}{y:Option Addr}{M C H N E:Option Value}(lx_TooMany:K.lookup b=some (excClassObj x B b i J f L z t A u y M C H N E "ValueError.__new__")) (tx_TooMany:PySem.W.tailIn K [.type "ValueError",.type "Exception",.type "BaseException",.type "object"] f=true) (ok_TooMany:PySem.W.nsOkIn K i=true) (in_TooMany:PySem.W.nsIn K i "__init__"=some none) (be_TooMany:f.contains (.type "BaseException")=true) (pg_Finder:PySem.W.plainGet K a Str.empty=true) (hd_Finder:PySem.W.hasDictIn K a=true) (po_Finder:PySem.W.plainOver K a=true) (sa_Finder:PySem.W.findIn K (.ref a) "__setattr__"=some (some (.builtin "object.__setattr__"))) (mk_Finder:PySem.W.makesIn K a=true) (kc_Finder:PySem.W.keepIn K (.ref a)=true) (n_Finder_rows:PySem.W.findIn K (.ref a) "rows"=some none) (n_Finder_caps:PySem.W.findIn K (.ref a) "caps"=some none) (n_Finder_begun:PySem.W.findIn K (.ref a) "begun"=some none) (n_Finder_here:PySem.W.findIn K (.ref a) "here"=some none) (n_Finder_found:PySem.W.findIn K (.ref a) "found"=some none) (n_Finder_walked:PySem.W.findIn K (.ref a) "walked"=some none) (a_Finder___init__:findIn K (.ref a) "__init__"=some (some (.ref f_Finder___init__))) (i_Finder___init__:isFn K (.ref f_Finder___init__)=true) (l_Finder___init__:FnL K f_Finder___init__ "__init__" "Finder.__init__" E1 o_Finder___init__ d_Finder___init__ s0_Finder___init__ v_Finder___init__ x_Finder___init__ p_Finder___init__ n0_Finder___init__ c0_Finder___init__ t_Finder___init__) (c_Finder___init__:codeIn K c0_Finder___init__ "Finder.__init__"=true) (k_Finder___init__:keepIn K (.ref f_Finder___init__)=true) (a_Finder_step:findIn K (.ref a) "step"=some (some (.ref f_Finder_step))) (i_Finder_step:isFn K (.ref f_Finder_step)=true) (l_Finder_step:FnL K f_Finder_step "step" "Finder.step" Z2 o_Finder_step d_Finder_step s0_Finder_step v_Finder_step x_Finder_step p_Finder_step n0_Finder_step c0_Finder_step t_Finder_step) (c_Finder_step:codeIn K c0_Finder_step "Finder.step"=true) (k_Finder_step:keepIn K (.ref f_Finder_step)=true) (a_Finder_step_within:findIn K (.ref a) "step_within"=some (some (.ref f_Finder_step_within))) (i_Finder_step_within:isFn K (.ref f_Finder_step_within)=true) (l_Finder_step_within:FnL K f_Finder_step_within "step_within" "Finder.step_within" C4 o_Finder_step_within d_Finder_step_within s0_Finder_step_within v_Finder_step_within x_Finder_step_within p_Finder_step_within n0_Finder_step_within c0_Finder_step_within t_Finder_step_within) (c_Finder_step_within:codeIn K c0_Finder_step_within "Finder.step_within"=true) (k_Finder_step_within:keepIn K (.ref f_Finder_step_within)=true) (a_Finder_level:findIn K (.ref a) "level"=some (some (.ref f_Finder_level))) (i_Finder_level:isFn K (.ref f_Finder_level)=true) (l_Finder_level:FnL K f_Finder_level "level" "Finder.level" V0 o_Finder_level d_Finder_level s0_Finder_level v_Finder_level x_Finder_level p_Finder_level n0_Finder_level c0_Finder_level t_Finder_level) (c_Finder_level:codeIn K c0_Finder_level "Finder.level"=true) (k_Finder_level:keepIn K (.ref f_Finder_level)=true) (a_Finder_told:findIn K (.ref a) "told"=some (some (.ref f_Finder_told))) (i_Finder_told:isFn K (.ref f_Finder_told)=true) (l_Finder_told:FnL K f_Finder_told "told" "Finder.told" J9 o_Finder_told d_Finder_told s0_Finder_told v_Finder_told x_Finder_told p_Finder_told n0_Finder_told c0_Finder_told t_Finder_told) (c_Finder_told:codeIn K c0_Finder_told "Finder.told"=true) (k_Finder_told:keepIn K (.ref f_Finder_told)=true) (a_Finder_paper:findIn K (.ref a) "paper"=some (some (.ref f_Finder_paper))) (i_Finder_paper:isFn K (.ref f_Finder_paper)=true) (l_Finder_paper:FnL K f_Finder_paper "paper" "Finder.paper" G9 o_Finder_paper d_Finder_paper s0_Finder_paper v_Finder_paper x_Finder_paper p_Finder_paper n0_Finder_paper c0_Finder_paper t_Finder_paper) (c_Finder_paper:codeIn K c0_Finder_paper "Finder.paper"=true) (k_Finder_paper:keepIn K (.ref f_Finder_paper)=true) (a_Finder_ended:findIn K (.ref a) "ended"=some (some (.ref f_Finder_ended))) (i_Finder_ended:isFn K (.ref f_Finder_ended)=true) (l_Finder_ended:FnL K f_Finder_ended "ended" "Finder.ended" I0 o_Finder_ended d_Finder_ended s0_Finder_ended v_Finder_ended x_Finder_ended p_Finder_ended n0_Finder_ended c0_Finder_ended t_Finder_ended) (c_Finder_ended:codeIn K c0_Finder_ended "Finder.ended"=true) (k_Finder_ended:keepIn K (.ref f_Finder_ended)=true) :
  ∃fd:FuncData,(∀(s:Shared) (v:Value),BindsTo s fd ⟨[v],[]⟩ [("_law_script",v)])/\∀base:Heap,K.In base->base.Ns mainGlobals mg->FnOk l.prog w K mg base CX0 11 fa fd ["_law_script"] (a7t K):=by
 have e:=f0.symm.trans (PySem.W.mg_of X G a34);cases e;have T:Tx mg:=⟨PySem.W.mg_none_of X G z1,PySem.W.mg_none_of X G z2,PySem.W.mg_none_of X G z3,PySem.W.mg_none_of X G z4,PySem.W.mg_none_of X G z5,PySem.W.mg_none_of X G z6,PySem.W.mg_none_of X G z7,PySem.W.mg_none_of X G z8,PySem.W.mg_none_of X G z9,PySem.W.mg_none_of X G z10,PySem.W.mg_none_of X G z11,PySem.W.mg_none_of X G z12,PySem.W.mg_none_of X G z13,PySem.W.mg_none_of X G z14,PySem.W.mg_none_of X G z15,PySem.W.mg_none_of X G z16⟩;have F1:FunAt K mg "free" a4p ["width"]:=C1 X G a1 l1 c_1 k1 λ_ _ _ _ _ _ us hl=>by obtain⟨_,rfl⟩:=a0M hl;rfl
 have F2:FunAt K mg "within" a0m ["caps","one"]:=C1 X G a2 l2 c_2 k2 λ_ _ _ _ _ _ us hl=>by obtain⟨_,_,rfl⟩:=Q3 hl;rfl
 have F3:FunAt K mg "row_sum" X5 ["row","one"]:=C1 X G a3 l3 c_3 k3 λ_ _ _ _ _ _ us hl=>by obtain⟨_,_,rfl⟩:=Q3 hl;rfl
 have F4:FunAt K mg "sums" a4n ["rows","one"]:=C1 X G a4 l4 c_4 k4 λ_ _ _ _ _ _ us hl=>by obtain⟨_,_,rfl⟩:=Q3 hl;rfl
 have F5:FunAt K mg "is_answer" N7 ["rows","one"]:=C1 X G a5 l5 c_5 k5 λ_ _ _ _ _ _ us hl=>by obtain⟨_,_,rfl⟩:=Q3 hl;rfl
 have F6:FunAt K mg "pull_of" X6 ["rows","totals","j"]:=C1 X G a6 l6 c_6 k6 λ_ _ _ _ _ _ us hl=>by obtain⟨_,_,_,rfl⟩:=a4x hl;rfl
 have F7:FunAt K mg "falls" a1I ["rows","one"]:=C1 X G a7 l7 c_7 k7 λ_ _ _ _ _ _ us hl=>by obtain⟨_,_,rfl⟩:=Q3 hl;rfl
 have F8:FunAt K mg "below" a1J ["one","other"]:=C1 X G a8 l8 c_8 k8 λ_ _ _ _ _ _ us hl=>by obtain⟨_,_,rfl⟩:=Q3 hl;rfl
 have F9:FunAt K mg "plus" a4o ["one","other"]:=C1 X G a9 l9 c_9 k9 λ_ _ _ _ _ _ us hl=>by obtain⟨_,_,rfl⟩:=Q3 hl;rfl
 have b2:FunAt K mg "times" a1F ["many","one"]:=C1 X G a10 l10 c_10 k10 λ_ _ _ _ _ _ us hl=>by obtain⟨_,_,rfl⟩:=Q3 hl;rfl
 have e9:FunAt K mg "nought" a0o ["width"]:=C1 X G a11 l11 c_11 k11 λ_ _ _ _ _ _ us hl=>by obtain⟨_,rfl⟩:=a0M hl;rfl
 have e7:FunAt K mg "unit" a4m ["width","j"]:=C1 X G a12 l12 c_12 k12 λ_ _ _ _ _ _ us hl=>by obtain⟨_,_,rfl⟩:=Q3 hl;rfl
 have a0:FunAt K mg "least_of" R8 ["some"]:=C1 X G a13 l13 c_13 k13 λ_ _ _ _ _ _ us hl=>by obtain⟨_,rfl⟩:=a0M hl;rfl
 have b3:FunAt K mg "above_any" N8 ["some","one"]:=C1 X G a14 l14 c_14 k14 λ_ _ _ _ _ _ us hl=>by obtain⟨_,_,rfl⟩:=Q3 hl;rfl
 have b9:FunAt K mg "first_steps" J7 ["caps"]:=C1 X G a15 l15 c_15 k15 λ_ _ _ _ _ _ us hl=>by obtain⟨_,rfl⟩:=a0M hl;rfl
 have b0:FunAt K mg "raised" a0n ["one","j"]:=C1 X G a16 l16 c_16 k16 λ_ _ _ _ _ _ us hl=>by obtain⟨_,_,rfl⟩:=Q3 hl;rfl
 have c0:FunAt K mg "steps" a1G ["rows","caps","one"]:=C1 X G a17 l17 c_17 k17 λ_ _ _ _ _ _ us hl=>by obtain⟨_,_,_,rfl⟩:=a4x hl;rfl
 have b5:FunAt K mg "is_barred" N5 ["found","one","j"]:=C1 X G a18 l18 c_18 k18 λ_ _ _ _ _ _ us hl=>by obtain⟨_,_,_,rfl⟩:=a4x hl;rfl
 have e1:FunAt K mg "next_level" K9 ["rows","caps","found","level","room"]:=C1 X G a19 l19 c_19 k19 λ_ _ _ _ _ _ us hl=>by obtain⟨_,_,_,_,_,rfl⟩:=b7P hl;rfl
 have e2:FunAt K mg "least" a1H ["rows","caps","most"]:=C1 X G a20 l20 c_20 k20 λ_ _ _ _ _ _ us hl=>by obtain⟨_,_,_,rfl⟩:=a4x hl;rfl
 have Z:FunAt K mg "together" R6 ["told","counts","width"]:=C1 X G a21 l21 c_21 k21 λ_ _ _ _ _ _ us hl=>by obtain⟨_,_,_,rfl⟩:=a4x hl;rfl
 have d0:FunAt K mg "narrowed" R7 ["told","row","most"]:=C1 X G a22 l22 c_22 k22 λ_ _ _ _ _ _ us hl=>by obtain⟨_,_,_,rfl⟩:=a4x hl;rfl
 have b4:FunAt K mg "_law_pot" R9 ["_law_script"]:=C1 X G a23 l23 c_23 k23 λ_ _ _ _ _ _ us hl=>by obtain⟨_,rfl⟩:=a0M hl;rfl
 have e5:FunAt K mg "_law_take" O1 ["_law_pot_here","_law_many"]:=C1 X G a24 l24 c_24 k24 λ_ _ _ _ _ _ us hl=>by obtain⟨_,_,rfl⟩:=Q3 hl;rfl
 have e0:FunAt K mg "_law_number" J8 ["_law_pot_here","_law_far"]:=C1 X G a25 l25 c_25 k25 λ_ _ _ _ _ _ us hl=>by obtain⟨_,_,rfl⟩:=Q3 hl;rfl
 have e6:FunAt K mg "_law_vectors" G7 ["_law_pot_here","_law_width"]:=C1 X G a26 l26 c_26 k26 λ_ _ _ _ _ _ us hl=>by obtain⟨_,_,rfl⟩:=Q3 hl;rfl
 have b8:FunAt K mg "_law_below" L5 ["_law_one","_law_other"]:=C1 X G a27 l27 c_27 k27 λ_ _ _ _ _ _ us hl=>by obtain⟨_,_,rfl⟩:=Q3 hl;rfl
 have b7:FunAt K mg "_law_least" L4 ["_law_some"]:=C1 X G a28 l28 c_28 k28 λ_ _ _ _ _ _ us hl=>by obtain⟨_,rfl⟩:=a0M hl;rfl
 have e3:FunAt K mg "_law_same" O2 ["_law_found","_law_due_here"]:=C1 X G a29 l29 c_29 k29 λ_ _ _ _ _ _ us hl=>by obtain⟨_,_,rfl⟩:=Q3 hl;rfl
 have b1:FunAt K mg "_law_due" S0 ["_law_told_here","_law_counts"]:=C1 X G a30 l30 c_30 k30 λ_ _ _ _ _ _ us hl=>by obtain⟨_,_,rfl⟩:=Q3 hl;rfl
 have b6:FunAt K mg "_law_told" O0 ["_law_line"]:=C1 X G a31 l31 c_31 k31 λ_ _ _ _ _ _ us hl=>by obtain⟨_,rfl⟩:=a0M hl;rfl
 have e4:FunAt K mg "_law_refused" G8 ["_law_told_here","_law_row","_law_most"]:=C1 X G a32 l32 c_32 k32 λ_ _ _ _ _ _ us hl=>by obtain⟨_,_,_,rfl⟩:=a4x hl;rfl
 have e8:FunAt K mg "_law_right" L3 ["_law_told_here","_law_row"]:=C1 X G a33 l33 c_33 k33 λ_ _ _ _ _ _ us hl=>by obtain⟨_,_,rfl⟩:=Q3 hl;rfl
 refine⟨fnOf "law" "law" (O7 a2h) (E2 a2h) (A1 a2h) .none v34 x34 p34 n34 c34 t34,λs v=>.of_eq rfl,λbase XB GB=>?_⟩;have D:=PySem.W.mg_of X G aD_NoAnswer;have I:=PySem.W.mg_of X G aD_LayError;have V:=PySem.W.mg_of X G aD_NoLay;have S:=PySem.W.mg_of X G aD_NoLine;have R:=PySem.W.mg_of X G aD_NoText;have j:=PySem.W.mg_of X G aD_TooMany;have Q:=PySem.W.mg_of X G aD_Finder;have p:Cls K a:=⟨pg_Finder,hd_Finder,po_Finder,sa_Finder⟩;have g:MethAt K a "__init__" "Finder.__init__" E1 ["self","rows","caps"]:=a2u a_Finder___init__ i_Finder___init__ l_Finder___init__ c_Finder___init__ k_Finder___init__ λ_ _ _ _ _ _ us hl=>by obtain⟨_,_,_,rfl⟩:=a4x hl;rfl
 have U:MethAt K a "step" "Finder.step" Z2 ["self"]:=a2u a_Finder_step i_Finder_step l_Finder_step c_Finder_step k_Finder_step λ_ _ _ _ _ _ us hl=>by obtain⟨_,rfl⟩:=a0M hl;rfl
 have c:MethAt K a "step_within" "Finder.step_within" C4 ["self","room"]:=a2u a_Finder_step_within i_Finder_step_within l_Finder_step_within c_Finder_step_within k_Finder_step_within λ_ _ _ _ _ _ us hl=>by obtain⟨_,_,rfl⟩:=Q3 hl;rfl
 have O:MethAt K a "level" "Finder.level" V0 ["self"]:=a2u a_Finder_level i_Finder_level l_Finder_level c_Finder_level k_Finder_level λ_ _ _ _ _ _ us hl=>by obtain⟨_,rfl⟩:=a0M hl;rfl
 have o:MethAt K a "told" "Finder.told" J9 ["self"]:=a2u a_Finder_told i_Finder_told l_Finder_told c_Finder_told k_Finder_told λ_ _ _ _ _ _ us hl=>by obtain⟨_,rfl⟩:=a0M hl;rfl
 have k:MethAt K a "paper" "Finder.paper" G9 ["self"]:=a2u a_Finder_paper i_Finder_paper l_Finder_paper c_Finder_paper k_Finder_paper λ_ _ _ _ _ _ us hl=>by obtain⟨_,rfl⟩:=a0M hl;rfl
 have m:MethAt K a "ended" "Finder.ended" I0 ["self"]:=a2u a_Finder_ended i_Finder_ended l_Finder_ended c_Finder_ended k_Finder_ended λ_ _ _ _ _ _ us hl=>by obtain⟨_,rfl⟩:=a0M hl;rfl
 have FL:=a2M (st:=a2h) l34 c_34 k34;have RS:=a6z (base:=base) (P:=l.prog) (w:=w) F3 T;have SU:=b3P F4 T RS;have IA:=a4v F5 T SU;have FA:=b1p F7 T (a6B F6 T) SU;have BE:=b1r (base:=base) (P:=l.prog) (w:=w) F8 T;have ST:=b1j c0 T FA (a8V b0);have NX:=a3c e1 T ST (a4u b5 T BE);have FS:=a2o (base:=base) (P:=l.prog) (w:=w) b9 T (b3M e7 T) (a8U F2 T);have Y:FiTx K a:=⟨p,n_Finder_rows,n_Finder_caps,n_Finder_begun,n_Finder_here,n_Finder_found,n_Finder_walked⟩;have MI:=(b1o (base:=base) (P:=l.prog) (w:=w) (mg:=mg) g Y).make Q mk_Finder kc_Finder;have MS:=b1i c Y T NX FS IA;have ME:=b1q (base:=base) (P:=l.prog) (w:=w) m Y T;have MT:=b3N (base:=base) (P:=l.prog) (w:=w) o Y T;have MP:=b1l (base:=base) (P:=l.prog) (w:=w) k Y T;have LE:=b1n e2 T Y p MI MS ME MT MP (b5T XB j lx_TooMany tx_TooMany ok_TooMany in_TooMany);have TK:=b3O (base:=base) (P:=l.prog) (w:=w) e5 T;have FR:=b3R (base:=base) (P:=l.prog) (w:=w) F1;have TG:=a5x Z T (a8X e9) (b1h (base:=base) (P:=l.prog) (w:=w) b2 T) (b3Q F9 T);have LO:=a5z a0 T (a3d b3 T BE);have NR:=a5y d0 T RS FR TG LO LE;have SM:=a7K (base:=base) (P:=l.prog) (w:=w) e3 T 4;have BL:=b3S (base:=base) (P:=l.prog) (w:=w) b8 T;have DU:=b6d b1 T (a8Y b7 T BL);have TO:=b1m b6 T LE j (a1T q3);have RF:=a6A e4 T NR I (a1T q1) (a1T q2) D V S R j ⟨a1T q3,q4,q5,q6,q7⟩ q8 q9 q10;exact b6c FL T (b6b b4 T) TK (a8W e0 T TK) (a6y e6 T TK) (b1k e8 T TO RF DU (OkE.no NR) SM) (OkE.no NR) SM
end K33
namespace PySem.W.Fast
theorem tw11290743781929114138:True:=⟨⟩
theorem tw420457245908968994:True:=⟨⟩
theorem tw1896566080214231575:True:=⟨⟩
theorem tw12755990129159141192:True:=⟨⟩
theorem tw3515491974482620935:True:=⟨⟩
theorem tw15771861316687842695:True:=⟨⟩
theorem tw1996074152104753011:True:=⟨⟩
theorem tw513905407851315832:True:=⟨⟩
theorem tw6499693151915727883:True:=⟨⟩
theorem tw17964839838195612087:True:=⟨⟩
theorem tw2648704143544224309:True:=⟨⟩
theorem tw12848128178950252811:True:=⟨⟩
theorem tw680106332123339907:True:=⟨⟩
theorem tw4828789792190042774:True:=⟨⟩
theorem tw14399258308046096070:True:=⟨⟩
theorem tw14472626732801525107:True:=⟨⟩
theorem tw125939634428682098:True:=⟨⟩
theorem tw2299594320059057490:True:=⟨⟩
theorem tw84237331905440552:True:=⟨⟩
theorem tw13140618790223318443:True:=⟨⟩
theorem tw8222128885779967777:True:=⟨⟩
theorem tw8424482222875329883:True:=⟨⟩
theorem tw12199509095106142463:True:=⟨⟩
theorem tw8043827356368979253:True:=⟨⟩
theorem tw5389285509167289354:True:=⟨⟩
theorem tw8886331971126410970:True:=⟨⟩
theorem tw12739155244968588841:True:=⟨⟩
theorem tw9874169627471448617:True:=⟨⟩
theorem tw7893343357863972711:True:=⟨⟩
theorem tw1902620283269068898:True:=⟨⟩
theorem tw9259000935107456998:True:=⟨⟩
theorem tw1895284086993297254:True:=⟨⟩
theorem tw3464834386726282955:True:=⟨⟩
theorem tw18154931789246328574:True:=⟨⟩
theorem tw9240323389733299554:True:=⟨⟩
theorem tw8023245194033245173:True:=⟨⟩
theorem tw7178301238431121905:True:=⟨⟩
theorem tw768713193699370595:True:=⟨⟩
theorem tw4129226538198680727:True:=⟨⟩
theorem tw15729749308825568794:True:=⟨⟩
theorem tw17457897480026643822:True:=⟨⟩
theorem tw17390806542054994418:True:=⟨⟩
theorem tw14743938011856652895:True:=⟨⟩
theorem tw14391037031922076373:True:=⟨⟩
theorem tw7601162393326587968:True:=⟨⟩
theorem tw10941200859192823051:True:=⟨⟩
theorem tw9978304439331162709:True:=⟨⟩
theorem tw10851035996771941382:True:=⟨⟩
theorem tw1753212842278402806:True:=⟨⟩
theorem tw5372333679644022112:True:=⟨⟩
theorem tw13821335026561799755:True:=⟨⟩
theorem tw4079273063801590432:True:=⟨⟩
theorem tw7950491534706661828:True:=⟨⟩
theorem tw13654474648219102295:True:=⟨⟩
theorem tw11258928512765695134:True:=⟨⟩
theorem tw16601017228550313942:True:=⟨⟩
theorem tw11874893311718198258:True:=⟨⟩
theorem tw8776427248814356050:True:=⟨⟩
theorem tw1789778590847939790:True:=⟨⟩
theorem tw12213477972042845094:True:=⟨⟩
theorem tw16248782427676605727:True:=⟨⟩
theorem tw6718037118442746254:True:=⟨⟩
theorem tw1494673326033165872:True:=⟨⟩
theorem tw16252476436974090481:True:=⟨⟩
theorem tw1844923538968182727:True:=⟨⟩
theorem tw15281429141011586049:True:=⟨⟩
theorem tw13399991202570744380:True:=⟨⟩
theorem tw13023370122495346114:True:=⟨⟩
theorem tw1111702875712018049:True:=⟨⟩
theorem tw17608128896938808763:True:=⟨⟩
theorem tw10257477281653290757:True:=⟨⟩
theorem tw2267010645816246311:True:=⟨⟩
theorem tw5196237143713067297:True:=⟨⟩
theorem tw16957135070297656120:True:=⟨⟩
theorem tw6546910090328186050:True:=⟨⟩
theorem tw13950476827939843238:True:=⟨⟩
theorem tw8594825678300747960:True:=⟨⟩
theorem tw17240657972887923095:True:=⟨⟩
theorem tw15605967095555737675:True:=⟨⟩
theorem tw11886619938527735564:True:=⟨⟩
theorem tw449989831987086490:True:=⟨⟩
theorem tw16005168265602065316:True:=⟨⟩
theorem tw7578168069254766666:True:=⟨⟩
theorem tw2001666936140746873:True:=⟨⟩
theorem tw17164114941276064776:True:=⟨⟩
theorem tw7691176174271736726:True:=⟨⟩
theorem tw15537070629366891735:True:=⟨⟩
theorem tw14129889247907904916:True:=⟨⟩
theorem tw5162156019209688998:True:=⟨⟩
theorem tw560045054125840618:True:=⟨⟩
theorem tw14440176276526060960:True:=⟨⟩
theorem tw15745590836263244378:True:=⟨⟩
theorem tw1139519954268893768:True:=⟨⟩
theorem tw8933490965682879180:True:=⟨⟩
theorem tw5209209447579104663:True:=⟨⟩
theorem tw16159538485619349344:True:=⟨⟩
theorem tw10522890509389399466:True:=⟨⟩
theorem tw202601186316913678:True:=⟨⟩
theorem tw4303978755927735320:True:=⟨⟩
theorem tw2297363503862791209:True:=⟨⟩
theorem tw13630613795800505912:True:=⟨⟩
end PySem.W.Fast
open PySem PySem.W PyProof.Rows
set_option maxRecDepth 100000 in
set_option maxHeartbeats 0 in
theorem PySem.Challenge.cw_leastlays_k33_narrowed_by_a_row_holds : PySem.Challenge.rw_leastlays_k33_narrowed_by_a_row.Holds := by
 w_on;o_law;k_head;(case hw=>w_witness2)
 k_fill
 refine L2.law_walk (l:=PySem.Challenge.rw_leastlays_k33_narrowed_by_a_row) 11 rfl rfl ⟨rfl,by decide,by decide⟩ (λw h Y=>PySem.W.kIn_of Y) ?F
 case F =>
  intro w mg fa h KX G hmg
  refine' K33.all_mk KX G hmg ?a1 ?l1 ?c_1 ?k1 ?a2 ?l2 ?c_2 ?k2 ?a3 ?l3 ?c_3 ?k3 ?a4 ?l4 ?c_4 ?k4 ?a5 ?l5 ?c_5 ?k5 ?a6 ?l6 ?c_6 ?k6 ?a7 ?l7 ?c_7 ?k7 ?a8 ?l8 ?c_8 ?k8 ?a9 ?l9 ?c_9 ?k9 ?a10 ?l10 ?c_10 ?k10 ?a11 ?l11 ?c_11 ?k11 ?a12 ?l12 ?c_12 ?k12 ?a13 ?l13 ?c_13 ?k13 ?a14 ?l14 ?c_14 ?k14 ?a15 ?l15 ?c_15 ?k15 ?a16 ?l16 ?c_16 ?k16 ?a17 ?l17 ?c_17 ?k17 ?a18 ?l18 ?c_18 ?k18 ?a19 ?l19 ?c_19 ?k19 ?a20 ?l20 ?c_20 ?k20 ?a21 ?l21 ?c_21 ?k21 ?a22 ?l22 ?c_22 ?k22 ?a23 ?l23 ?c_23 ?k23 ?a24 ?l24 ?c_24 ?k24 ?a25 ?l25 ?c_25 ?k25 ?a26 ?l26 ?c_26 ?k26 ?a27 ?l27 ?c_27 ?k27 ?a28 ?l28 ?c_28 ?k28 ?a29 ?l29 ?c_29 ?k29 ?a30 ?l30 ?c_30 ?k30 ?a31 ?l31 ?c_31 ?k31 ?a32 ?l32 ?c_32 ?k32 ?a33 ?l33 ?c_33 ?k33 ?a34 ?l34 ?c_34 ?k34 ?z1 ?z2 ?z3 ?z4 ?z5 ?z6 ?z7 ?z8 ?z9 ?z10 ?z11 ?z12 ?z13 ?z14 ?z15 ?z16 ?aD_NoAnswer ?aD_LayError ?aD_NoLay ?aD_NoLine ?aD_NoText ?aD_TooMany ?aD_Finder ?q1 ?q2 ?q3 ?q4 ?q5 ?q6 ?q7 ?q8 ?q9 ?q10 ?lx_TooMany ?tx_TooMany ?ok_TooMany ?in_TooMany ?be_TooMany ?pg_Finder ?hd_Finder ?po_Finder ?sa_Finder ?mk_Finder ?kc_Finder ?n_Finder_rows ?n_Finder_caps ?n_Finder_begun ?n_Finder_here ?n_Finder_found ?n_Finder_walked ?a_Finder___init__ ?i_Finder___init__ ?l_Finder___init__ ?c_Finder___init__ ?k_Finder___init__ ?a_Finder_step ?i_Finder_step ?l_Finder_step ?c_Finder_step ?k_Finder_step ?a_Finder_step_within ?i_Finder_step_within ?l_Finder_step_within ?c_Finder_step_within ?k_Finder_step_within ?a_Finder_level ?i_Finder_level ?l_Finder_level ?c_Finder_level ?k_Finder_level ?a_Finder_told ?i_Finder_told ?l_Finder_told ?c_Finder_told ?k_Finder_told ?a_Finder_paper ?i_Finder_paper ?l_Finder_paper ?c_Finder_paper ?k_Finder_paper ?a_Finder_ended ?i_Finder_ended ?l_Finder_ended ?c_Finder_ended ?k_Finder_ended
  (case a1|l1|c_1|k1|a2|l2|c_2|k2|a3|l3|c_3|k3|a4|l4|c_4|k4|a5|l5|c_5|k5|a6|l6|c_6|k6|a7|l7|c_7|k7|a8|l8|c_8|k8|a9|l9|c_9|k9|a10|l10|c_10|k10|a11|l11|c_11|k11|a12|l12|c_12|k12|a13|l13|c_13|k13|a14|l14|c_14|k14|a15|l15|c_15|k15|a16|l16|c_16|k16|a17|l17|c_17|k17|a18|l18|c_18|k18|a19|l19|c_19|k19|a20|l20|c_20|k20|a21|l21|c_21|k21|a22|l22|c_22|k22|a23|l23|c_23|k23|a24|l24|c_24|k24|a25|l25|c_25|k25|a26|l26|c_26|k26|a27|l27|c_27|k27|a28|l28|c_28|k28|a29|l29|c_29|k29|a30|l30|c_30|k30|a31|l31|c_31|k31|a32|l32|c_32|k32|a33|l33|c_33|k33|a34|l34|c_34|k34|z1|z2|z3|z4|z5|z6|z7|z8|z9|z10|z11|z12|z13|z14|z15|z16|aD_NoAnswer|aD_LayError|aD_NoLay|aD_NoLine|aD_NoText|aD_TooMany|aD_Finder=>(try unfold L2.FnL);k_is)
  (case q1|q2|q3|q4|q5|q6|q7|q8|q9|q10|lx_TooMany|tx_TooMany|ok_TooMany|in_TooMany|be_TooMany=>first|k_is|kernel_rfl|rfl)
  (case pg_Finder|hd_Finder|po_Finder|sa_Finder|mk_Finder|kc_Finder|n_Finder_rows|n_Finder_caps|n_Finder_begun|n_Finder_here|n_Finder_found|n_Finder_walked|a_Finder___init__|i_Finder___init__|l_Finder___init__|c_Finder___init__|k_Finder___init__|a_Finder_step|i_Finder_step|l_Finder_step|c_Finder_step|k_Finder_step|a_Finder_step_within|i_Finder_step_within|l_Finder_step_within|c_Finder_step_within|k_Finder_step_within|a_Finder_level|i_Finder_level|l_Finder_level|c_Finder_level|k_Finder_level|a_Finder_told|i_Finder_told|l_Finder_told|c_Finder_told|k_Finder_told|a_Finder_paper|i_Finder_paper|l_Finder_paper|c_Finder_paper|k_Finder_paper|a_Finder_ended|i_Finder_ended|l_Finder_ended|c_Finder_ended|k_Finder_ended=>(try unfold L2.FnL);k_is)
#print axioms PySem.Challenge.cw_leastlays_k33_narrowed_by_a_row_holds
