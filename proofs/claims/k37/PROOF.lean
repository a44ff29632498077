import PyProof.Rows.All
import Wide.All
import OpenK.AllK
import Wide.FinOn
import Lean
import PyProof.EqAt
import PyProof.EqKinds
import PyProof.TupleCall
import PyProof.ZipIter
import PyProof.ExcArgsOwn
import PyProof.ExcAttrAll.ValueError
import KE.KSortTup
import PyProof.AutoSeq1
import PySem.SetTable
import PyProof.SetNew
import PyProof.TupleKey
import PyProof.DictRoadsH
import PyProof.DictKinds
import PyProof.IsRules
import PyProof.Rows.SetFrom
import PyProof.WalksMore
import KE.KDictSum
import KE.KDictOf
import PyProof.AttrMissHeap
import PyProof.TupleOfSeq
import PyProof.Rows.CallKwBuiltin
import PyProof.MinMaxWalk
import PyProof.ListRange
import PySem.Challenge.RW_leastlays_k37_dropped_and_turned
set_option compiler.extract_closed false
set_option bootstrap.genMatcherCode false
set_option genSizeOf false
set_option Elab.async false
set_option linter.all false
set_option maxRecDepth 100000
set_option maxHeartbeats 4000000
abbrev LLI:=List (List Int)
namespace L2
open PySem PySem.Spec PyProof.Rows
abbrev Key:=Sum Int Str
noncomputable def a3m:Key->Value->Bool
 |.inl k,v=>Value.isInt k v
 |.inr x,v=>Value.isStrOf x v
noncomputable def b6M(w:World):Key->Int
 |.inl k=>hashInt k
 |.inr x=>hashStr w x
theorem C3:∀{k:Key}{v:Value},a3m k v=true->(∃i t,k=Sum.inl i/\v=Value.int i t)∨(∃x t,k=Sum.inr x/\v=Value.str x t)
 |.inl i,v,h=>by
  obtain⟨t,e⟩:=Value.isInt_shape (k:=i) (v:=v) h;exact .inl ⟨i,t,rfl,e⟩
 |.inr x,v,h=>by
  obtain⟨t,e⟩:=Value.isStrOf_shape (x:=x) (v:=v) h;exact .inr ⟨x,t,rfl,e⟩
theorem a8H(i:Int)(t:Tok):a3m (.inl i) (.int i t)=true:=by simp[a3m,Value.isInt]
theorem a8G(x:Str)(t:Tok):a3m (.inr x) (.str x t)=true:=by simp[a3m,Value.isStrOf]
theorem b5o(a b:Int):decide ((Sum.inl a:Key)=Sum.inl b)=(a==b):=by
 by_cases e:a=b
 .subst e;simp
 .have h:¬(Sum.inl a:Key)=Sum.inl b:=λq=>e (Sum.inl.inj q);rw[decide_eq_false h];exact(beq_eq_false_iff_ne.mpr e).symm
theorem b5l(a b:Str):decide ((Sum.inr a:Key)=Sum.inr b)=decide (a=b):=by
 by_cases e:a=b
 .subst e;simp
 .have h:¬(Sum.inr a:Key)=Sum.inr b:=λq=>e (Sum.inr.inj q);rw[decide_eq_false h,decide_eq_false e]
theorem b5n(a:Int)(b:Str):decide ((Sum.inl a:Key)=Sum.inr b)=false:=decide_eq_false (λq=>nomatch q)
theorem b5m(a:Str)(b:Int):decide ((Sum.inr a:Key)=Sum.inl b)=false:=decide_eq_false (λq=>nomatch q)
noncomputable def D7(prog:Program)(w:World):PySem.KeyKind prog w Key where
 is:=a3m
 hash:=b6M w
 inj:=λv a b ha hb=>by
  rcases C3 ha with⟨i,t,rfl,rfl⟩|⟨x,t,rfl,rfl⟩
  .rcases C3 hb with⟨j,u,rfl,e⟩|⟨y,u,rfl,e⟩
   .injection e with e1 _;rw[e1]
   .exact nomatch e
  .rcases C3 hb with⟨j,u,rfl,e⟩|⟨y,u,rfl,e⟩
   .exact nomatch e
   .injection e with e1 _;rw[e1]
 byValue:=λk v h=>by
  rcases C3 h with⟨i,t,rfl,rfl⟩|⟨x,t,rfl,rfl⟩<;>rfl
 pyHash:=λhv h=>by
  rcases C3 hv with⟨i,t,rfl,rfl⟩|⟨x,t,rfl,rfl⟩
  .exact wpAny_pyHash_int h
  .exact wpAny_pyHash_str h
 eqBool:=λhu hv h=>by
  rcases C3 hu with⟨i,t,rfl,rfl⟩|⟨x,t,rfl,rfl⟩
  .rcases C3 hv with⟨j,u,rfl,rfl⟩|⟨y,u,rfl,rfl⟩
   .rw[b5o]at h;exact wpAny_eqBool_int h
   .rw[b5n]at h;exact SeqAt.EqAt.int_str i t y u _ _ _ _ h
  .rcases C3 hv with⟨j,u,rfl,rfl⟩|⟨y,u,rfl,rfl⟩
   .rw[b5m]at h;exact SeqAt.EqAt.str_int x t j u _ _ _ _ h
   .rw[b5l]at h;exact wpAny_eqBool_str h
 «strs»:=λk x t v h=>by
  rcases C3 h with⟨i,u,rfl,e⟩|⟨y,u,rfl,e⟩
  .exact nomatch e
  .injection e with e1 _
   subst e1;cases v<;>rfl
theorem a5c(prog:Program)(w:World)(i:Int)(t:Tok):(D7 prog w).is (.inl i) (.int i t)=true:=a8H i t
theorem a5b(prog:Program)(w:World)(x:Str)(t:Tok):(D7 prog w).is (.inr x) (.str x t)=true:=a8G x t
inductive V where
 |non|bl (b:Bool)|int (i:Int)|str (x:Str)|byt (b:Array UInt8)|flt (b:UInt64)|ref (a:Addr)|ty (n:String)
 deriving DecidableEq
def RelV:V->Value->Prop
 |.non,u=>u=Value.none
 |.bl b,u=>u=Value.bool b
 |.int i,u=>∃t,u=Value.int i t
 |.str x,u=>∃t,u=Value.str x t
 |.byt b,u=>∃t,u=Value.bytes b t
 |.flt b,u=>∃t,u=Value.float b t
 |.ref a,u=>u=Value.ref a
 |.ty n,u=>u=Value.type n
abbrev Vals:List V->List Value->Prop:=Paired RelV
theorem Vals.length{xs:List V}{us:List Value}(r:Vals xs us):xs.length=us.length:=Paired.length r
theorem Vals.get:∀{xs:List V}{us:List Value}{i:Nat}{x:V},Vals xs us->xs[i]?=some x->∃u,us[i]?=some u/\RelV x u
 |_,_,_,_,.nil,e=>by simp at e
 |_,_,0,_,.cons r _,e=>by simp at e;subst e;exact⟨_,rfl,r⟩
 |_,_,i+1,x,.cons _ t,e=>by
  obtain⟨u,h1,h2⟩:=Vals.get (i:=i) (x:=x) t (by simpa using e);exact⟨u,by simpa using h1,h2⟩
theorem Vals.set{x:V}{u:Value}(r:RelV x u):∀{xs:List V}{us:List Value}(i:Nat),Vals xs us->Vals (xs.set i x) (us.set i u)
 |_,_,_,.nil=>.nil
 |_,_,0,.cons _ t=>.cons r t
 |_,_,i+1,.cons q t=>.cons q (Vals.set r i t)
theorem Vals.append:∀{xs ys:List V}{us ws:List Value},Vals xs us->Vals ys ws->Vals (xs++ys) (us++ws)
 |_,_,_,_,.nil,s=>s
 |_,_,_,_,.cons r t,s=>.cons r (Vals.append t s)
theorem Vals.take:∀{xs:List V}{us:List Value}(n:Nat),Vals xs us->Vals (xs.take n) (us.take n)
 |_,_,0,_=>.nil
 |_,_,_+1,.nil=>.nil
 |_,_,n+1,.cons r t=>.cons r (Vals.take n t)
theorem Vals.drop:∀{xs:List V}{us:List Value}(n:Nat),Vals xs us->Vals (xs.drop n) (us.drop n)
 |_,_,0,r=>r
 |_,_,_+1,.nil=>.nil
 |_,_,n+1,.cons _ t=>Vals.drop n t
def RelO:Option V->Option Value->Prop
 |some v,some u=>RelV v u
 |none,none=>True
 |_,_=>False
def KV{κ:Type}:List (κ×V)->List (κ×Value)->Prop:=Paired λ(p:κ×V) (q:κ×Value)=>p.1=q.1/\RelV p.2 q.2
noncomputable def kV:Key->V
 |.inl i=>.int i
 |.inr x=>.str x
inductive HO where
 |lst (xs:List V)
 |tup (xs:List V)
 |dK (kvs:List (Key×V))|dT (kvs:List (List Key×V))
 |set (S:Int->Bool) (n:Nat)
 |ins (C dx:Addr) (fs:List (Str×V))
 |own (x:Addr)
 |xd (fs:List (Str×V))
 |met (f x:Addr)
 |rng (lo hi:Int)
 |frz (o:Obj) (u:HO)
 |tbl (ps:Array Value)
 |ext (φ:Heap->Prop)
abbrev Hp:=Addr->Option HO
noncomputable def upd(H:Hp)(a:Addr)(o:HO):Hp:=λb=>if b=a then some o else H b
theorem A0{H:Hp}{a:Addr}{o:HO}:upd H a o a=some o:=by unfold upd;rw[if_pos rfl]
theorem A1{H:Hp}{a b:Addr}{o:HO}(h:b≠a):upd H a o b=H b:=by unfold upd;rw[if_neg h]
theorem a3I{H:Hp}{a:Addr}{o u:HO}:upd (upd H a o) a u=upd H a u:=by
 funext b;unfold upd;split<;>rfl
theorem L5{H:Hp}{a b:Addr}{o u:HO}(h:H a=some o)(h':H b=some u)(d:o≠u):a≠b:=by
 intro e;subst e;rw[h]at h';exact d (Option.some.inj h')
theorem A7{H:Hp}{a b:Addr}{o:HO}(h:H a=some o)(h':H b=none):a≠b:=by
 intro e;subst e;rw[h]at h';cases h'
def IsTp(h:Heap)(a:Addr)(items:Array Value):Prop:=∃o:Obj,h.get? a=some o/\(o.cls,o.dict)=(.type "tuple",none)/\∃n,o.data=.seq items n
theorem IsTp.tup{h:Heap}{a:Addr}{items:Array Value}(x:IsTp h a items):IsTup h a items:=let ⟨o,e,c,d⟩:=x;⟨o,e,congrArg Prod.fst c,d⟩
theorem IsTp.new(h:Heap)(items:Array Value):IsTp (h.push {cls:=.type "tuple",data:=.seq items}) h.objs.size items:=⟨_,Heap.get?_push_size _ rfl,rfl,_,rfl⟩
section
variable (P:Program) (w:World)
def ObjOk(H:Hp)(h:Heap)(a:Addr):HO->Prop
 |.lst xs=>xs.length<=sizeLine/\∃(its:List Value) (n:Nat),Vals xs its/\h.get? a=some {cls:=.type "list",data:=.seq its.toArray n}
 |.tup xs=>xs.length<=sizeLine/\∃its:List Value,Vals xs its/\IsTp h a its.toArray
 |.dK kvs=>kvs.length<=sizeLine/\(a==sysModules)=false/\∃vs,KV kvs vs/\h.DictOf (D7 P w) a vs
 |.dT kvs=>kvs.length<=sizeLine/\(a==sysModules)=false/\∃xs:List (List Key×Addr×Value),
   Paired (λ(p:List Key×V) (q:List Key×Addr×Value)=>p.1=q.1/\H q.2.1=some (.tup (p.1.map kV))/\RelV p.2 q.2.2) kvs xs /\
   ∃o es ep,h.get? a=some o/\o.ExactDict/\o.data=.dict es ep/\es.toList=xs.map (entryOfKey (tupleKind (D7 P w)))/\(xs.map (·.1)).Nodup
 |.set S n=>h.SetOf (intKind P w) a S n
 |.ins C dx fs=>H dx=some (.own a)/\fs.length<=1000/\dx≠a/\h.get? a=some (PySem.W.instObj C dx) /\
   ∃mA,h.Ns1 dx mA/\(∀f,RelO (fs.lookup f) (mA f))/\PySem.Within mA (fs.map (·.1))
 |.own _=>∃o,h.get? a=some o
 |.xd fs=>∃mA,h.Ns1 a mA/\∀f,RelO (fs.lookup f) (mA f)
 |.rng lo hi=>∃t u v,h.get? a=some {cls:=.type "range",data:=.fields #[.int lo t,.int hi u,.int 1 v]}
 |.frz o u=>h.get? a=some o/\ObjOk H h a u
 |.tbl ps=>h.get? a=some {cls:=.none,data:=.fields ps}
 |.met f x=>h.get? a=some (PySem.W.methodObj (.ref f) (.ref x))
 |.ext φ=>φ h/\(∃o,h.get? a=some o)/\∀h1 h2:Heap,φ h1->(∀o,h1.get? a=some o->h2.get? a=some o)->φ h2
def HOk(H:Hp)(h:Heap):Prop:=∀a o,H a=some o->ObjOk P w H h a o
end
section
variable {P:Program}{w:World}{H H':Hp}{h h':Heap}{a:Addr}{o:HO}
theorem ObjOk.lt(x:ObjOk P w H h a o):a<h.objs.size:=by
 cases o with
 |lst xs=>obtain⟨_,_,_,_,e⟩:=x;exact Heap.lt_size e
 |tup xs=>obtain⟨_,_,_,p⟩:=x;exact p.tup.lt
 |dK kvs=>obtain⟨_,_,_,_,o,_,_,e,_⟩:=x;exact Heap.lt_size e
 |dT kvs=>obtain⟨_,_,_,_,o,_,_,e,_⟩:=x;exact Heap.lt_size e
 |set S n=>obtain⟨o,_,_,_,e,_⟩:=x;exact Heap.lt_size e
 |ins C dx fs=>obtain⟨_,_,_,e,_⟩:=x;exact Heap.lt_size e
 |own y=>obtain⟨_,e⟩:=x;exact Heap.lt_size e
 |xd fs=>obtain⟨_,⟨_,_,_,e,_⟩,_⟩:=x;exact Heap.lt_size e
 |rng lo hi=>obtain⟨_,_,_,e⟩:=x;exact Heap.lt_size e
 |frz ob u=>obtain⟨e,_⟩:=x;exact Heap.lt_size e
 |tbl ps=>exact Heap.lt_size (show h.get? a=some _ from x)
 |met f y=>exact Heap.lt_size (show h.get? a=some _ from x)
 |ext φ=>obtain⟨_,⟨_,e⟩,_⟩:=x;exact Heap.lt_size e
theorem Paired.mapP{α β:Type}{F G:α->β->Prop}:∀{l₁:List α}{l₂:List β},Paired F l₁ l₂->(∀a b,F a b->G a b)->Paired G l₁ l₂
 |_,_,.nil,_=>.nil
 |_,_,.cons r t,f=>.cons (f _ _ r) (Paired.mapP t f)
theorem ObjOk.stay(x:ObjOk P w H h a o)(k:∀b u,(b=a∨H b=some (.own a))->h.get? b=some u->h'.get? b=some u)
  (ho:∀b,H b=some (.own a)->H' b=some (.own a)) (ht:∀b xs,H b=some (.tup xs)->H' b=some (.tup xs)):ObjOk P w H' h' a o:=by
 induction o with
 |lst xs=>obtain⟨z,its,n,r,e⟩:=x;exact⟨z,its,n,r,k _ _ (.inl rfl) e⟩
 |tup xs=>obtain⟨z,its,r,ob,e,c⟩:=x;exact⟨z,its,r,ob,k _ _ (.inl rfl) e,c⟩
 |dK kvs=>obtain⟨z,y,vs,r,ob,es,ep,e,c⟩:=x;exact⟨z,y,vs,r,ob,es,ep,k _ _ (.inl rfl) e,c⟩
 |dT kvs =>
  obtain⟨z,y,xs,r,ob,es,ep,e,c⟩:=x;exact⟨z,y,xs,Paired.mapP r λp q z=>⟨z.1,ht _ _ z.2.1,z.2.2⟩,ob,es,ep,k _ _ (.inl rfl) e,c⟩
 |set S n=>obtain⟨ob,es,ep,t,e,c⟩:=x;exact⟨ob,es,ep,t,k _ _ (.inl rfl) e,c⟩
 |ins C dx fs =>
  obtain⟨d,z,ne,e,mA,⟨od,es,ep,e2,c⟩,r⟩:=x;exact⟨ho _ d,z,ne,k _ _ (.inl rfl) e,mA,⟨od,es,ep,k _ _ (.inr d) e2,c⟩,r⟩
 |own y=>obtain⟨ob,e⟩:=x;exact⟨ob,k _ _ (.inl rfl) e⟩
 |xd fs=>obtain⟨mA,⟨od,es,ep,e,c⟩,r⟩:=x;exact⟨mA,⟨od,es,ep,k _ _ (.inl rfl) e,c⟩,r⟩
 |rng lo hi=>obtain⟨t,u,v,e⟩:=x;exact⟨t,u,v,k _ _ (.inl rfl) e⟩
 |frz ob u ih=>obtain⟨e,q⟩:=x;exact⟨k _ _ (.inl rfl) e,ih q⟩
 |tbl ps =>
  have e:h.get? a=some {cls:=.none,data:=.fields ps}:=x;show h'.get? a=some {cls:=.none,data:=.fields ps};exact k a _ (.inl rfl) e
 |met f y =>
  have e:h.get? a=some (PySem.W.methodObj (.ref f) (.ref y)):=x;show h'.get? a=some (PySem.W.methodObj (.ref f) (.ref y));exact k a _ (.inl rfl) e
 |ext φ=>obtain⟨p,⟨o,e⟩,st⟩:=x;exact⟨st _ _ p λo q=>k _ _ (.inl rfl) q,⟨o,k _ _ (.inl rfl) e⟩,st⟩
theorem HOk.lt(x:HOk P w H h)(e:H a=some o):a<h.objs.size:=(x a o e).lt
theorem HOk.fresh(x:HOk P w H h)(e:h.objs.size<=a):H a=none:=by
 cases q:H a with
 |none=>rfl
 |some u=>exact absurd (Nat.lt_of_lt_of_le (x.lt q) e) (Nat.lt_irrefl _)
theorem HOk.kept(x:HOk P w H h)(k:∀b u,h.get? b=some u->h'.get? b=some u):HOk P w H h':=λa o e =>
 (x a o e).stay (λb u _ q=>k b u q) (λ_ q=>q) λ_ _ q=>q
theorem HOk.laid(x:HOk P w H h)(k:∀b u,h.get? b=some u->h'.get? b=some u)(hp:h.objs.size<=a)(new:ObjOk P w (upd H a o) h' a o):HOk P w (upd H a o) h':=λb u e=>by
 have hn:=x.fresh hp;by_cases hb:b=a
 .subst hb;rw[A0]at e;cases e;exact new
 .rw[A1 hb]at e;exact(x b u e).stay (λc v _ q=>k c v q) (λc q=>by rw[A1 (A7 q hn)];exact q) λc xs q=>by rw[A1 (A7 q hn)];exact q
end
def Rd(H:Hp)(a:Addr)(u:HO):Prop:=H a=some u∨∃o,H a=some (.frz o u)
theorem Rd.ok{P:Program}{w:World}{H:Hp}{h:Heap}{a:Addr}{u:HO}(r:Rd H a u)(x:HOk P w H h):ObjOk P w H h a u:=by
 rcases r with r|⟨o,r⟩
 .exact x a u r
 .obtain⟨_,q⟩:=x a _ r;exact q
def Mut:Option HO->Prop
 |some (.lst _)=>True
 |some (.dK _)=>True
 |some (.dT _)=>True
 |some (.set _ _)=>True
 |some (.ins _ _ _)=>True
 |some (.ext _)=>True
 |_=>False
section
variable {P:Program}{w:World}{H:Hp}{h h':Heap}{x e:Addr}{o':HO}
theorem HOk.write(ok:HOk P w H h)(mu:Mut (H x))(he:e=x∨H e=some (.own x))(k:∀b u,b≠e->h.get? b=some u->h'.get? b=some u)(heo:∃u,h'.get? e=some u)
  (new:ObjOk P w (upd H x o') h' x o'):HOk P w (upd H x o') h':=λb u q=>by
 have nown:∀c y,H c=some (.own y)->c≠x:=λc y r z=>by subst z;rw[r]at mu;exact mu
 have ntup:∀c xs,H c=some (.tup xs)->c≠x:=λc xs r z=>by subst z;rw[r]at mu;exact mu
 by_cases hb:b=x
 .subst hb;rw[A0]at q;cases q;exact new
 .rw[A1 hb]at q;by_cases hbe:b=e
  .have q':H b=some (.own x):=by
    rcases he with z|z
    .exact absurd (hbe.trans z) hb
    .rw[hbe];exact z
   rw[q]at q';cases q';obtain⟨v,hv⟩:=heo;exact⟨v,by rw[hbe];exact hv⟩
  .refine(ok b u q).stay (λc v hc r=>k c v ?_ r) (λc r=>by rw[A1 (nown c b r)];exact r) λc xs r=>by rw[A1 (ntup c xs r)];exact r
   rcases hc with rfl|hc
   .exact hbe
   .rintro rfl;rcases he with z|z
    .exact nown c b hc z
    .rw[hc]at z;cases z;exact hb rfl
end
structure Un(fs ex:List Addr)(H H':Hp)(h h':Heap):Prop where
 keep:∀b o,h.get? b=some o->H b=none->b∉fs->b∉ex->h'.get? b=some o
 slot:∀b o,h.get? b=some o->H b=none->b∈fs->b∉ex->∃sl,h'.get? b=some {o with slots:=sl}
 free:∀b o,h.get? b=some o->H b=none->b∉ex->H' b=none
 there:∀b o,h.get? b=some o->b∉ex->∃o',h'.get? b=some o'
 tups:∀b xs,H b=some (.tup xs)->H' b=some (.tup xs)
 frzs:∀b o u,H b=some (.frz o u)->H' b=some (.frz o u)
 tbls:∀b ps,H b=some (.tbl ps)->∃more,H' b=some (.tbl (ps++more))
section
variable {fs fs' ex ex':List Addr}{H H1 H2:Hp}{h h1 h2 h':Heap}{a x e:Addr}{o:HO}
theorem Un.any(u:Un fs ex H H1 h h1){b:Addr}{ob:Obj}(q:h.get? b=some ob)(n:H b=none)(hx:b∉ex):∃sl,h1.get? b=some {ob with slots:=sl}:=by
 by_cases hb:b∈fs
 .exact u.slot b ob q n hb hx
 .exact⟨ob.slots,u.keep b ob q n hb hx⟩
theorem Un.kept(k:∀b u,h.get? b=some u->h'.get? b=some u):Un fs ex H H h h' :=
 ⟨λb ob q _ _ _=>k b ob q,λb ob q _ _ _=>⟨ob.slots,k b ob q⟩,λ_ _ _ n _=>n,λb ob q _=>⟨ob,k b ob q⟩,λ_ _ q=>q,λ_ _ _ q=>q,λ_ ps q=>⟨#[],by rw[q];simp⟩⟩
theorem Un.refl:Un fs ex H H h h:=Un.kept λ_ _ q=>q
theorem Un.laid(k:∀b u,h.get? b=some u->h'.get? b=some u)(hp:h.objs.size<=a)(hn:H a=none):Un fs ex H (upd H a o) h h' where
 keep:=λb u q _ _ _=>k b u q
 slot:=λb u q _ _ _=>⟨u.slots,k b u q⟩
 free:=λb u q n _=>by rw[A1 (Nat.ne_of_lt (Nat.lt_of_lt_of_le (Heap.lt_size q) hp))];exact n
 there:=λb u q _=>⟨u,k b u q⟩
 tups:=λb xs q=>by rw[A1 (A7 q hn)];exact q
 frzs:=λb u xs q=>by rw[A1 (A7 q hn)];exact q
 tbls:=λb ps q=>⟨#[],by rw[A1 (A7 q hn),q];simp⟩
theorem Un.write(mu:Mut (H x))(he:e=x∨H e=some (.own x))(k:∀b u,b≠e->h.get? b=some u->h'.get? b=some u)(heo:∃u,h'.get? e=some u):Un fs ex H (upd H x o) h h':=by
 have hx:∀b,H b=none->b≠x:=λb n z=>by subst z;rw[n]at mu;exact mu
 have hb:∀b,H b=none->b≠e:=λb n z=>by
  subst z;rcases he with r|r
  .exact hx b n r
  .rw[n]at r;cases r
 have hm:∀b u,H b=some u->¬Mut (some u)->b≠x:=λb u q nm z=>by subst z;rw[q]at mu;exact nm mu
 refine⟨λb u q n _ _=>k b u (hb b n) q,λb u q n _ _=>⟨u.slots,k b u (hb b n) q⟩,λb u q n _=>by rw[A1 (hx b n)];exact n,λb u q _=>?_,
  λb xs q=>by rw[A1 (hm b _ q λz=>z)];exact q,λb u xs q=>by rw[A1 (hm b _ q λz=>z)];exact q,λb ps q=>⟨#[],by rw[A1 (hm b _ q λz=>z),q];simp⟩⟩
 by_cases hbe:b=e
 .subst hbe;exact heo
 .exact⟨u,k b u hbe q⟩
end
noncomputable def trk(h:Heap)(H:Hp):List Addr:=(List.range h.objs.size).filter λa=>(H a).isSome
noncomputable def a4m(h:Heap)(H:Hp):Heap:=PySem.W.hideAll h (trk h H)
theorem a8M(h:Heap)(H:Hp):(a4m h H).objs.size=h.objs.size:=PySem.W.hideAll_size _ _
theorem b1s{h:Heap}{H:Hp}{b:Addr}{o:Obj}(e:h.get? b=some o)(n:H b=none):(a4m h H).get? b=some o :=
 PySem.W.hideAll_get _ e λhm=>by
  have q:(H b).isSome=true:=(List.mem_filter.mp hm).2;rw[n]at q;simp at q
theorem b3h{h:Heap}{H:Hp}{b:Addr}{o:Obj}(e:(a4m h H).get? b=some o):h.get? b=some o/\H b=none:=by
 have e':h.get? b=some o:=PySem.W.of_hideAll (trk h H) e;refine⟨e',?_⟩;cases q:H b with
 |none=>rfl
 |some x =>
  have hm:b∈trk h H:=List.mem_filter.mpr ⟨List.mem_range.mpr (Heap.lt_size e'),by simp[q]⟩;have z:(a4m h H).get? b=none:=PySem.W.hideAll_none (trk h H) hm;rw[z]at e;cases e
noncomputable def b3L(g h:Heap)(L:Addr):List (Addr×Obj):=(List.range h.objs.size).filterMap λa=>if a=L∨(g.get? a).isSome=true then none else(h.get? a).map λo=>(a,o)
noncomputable def rest(g h:Heap)(L d:Addr):List (Addr×Obj):=(b3L g h L).filter λp=>decide (p.1≠d)
structure Mod(K:PySem.W.Frag)(mg:Str->Option Value)(base:Heap):Prop where
 kin:K.In base
 glob:base.Ns mainGlobals mg
 blt:∃mb,base.Ns builtinsNs mb/\∀x:Str,x≠"__name__"->mb x=bootBuiltins x
 nolimit:base.NoLimit
structure Cx where
 prog:Program
 w:World
 K:PySem.W.Frag
 mg:Str->Option Value
 base:Heap
 A:Around
 N:List Str
 s₀:Shared
 H₀:Hp
 env:Env
 outer:List Env
 stack:List Env
 ex:List Addr
 fn:Str->Bool
 calm:Bool
 pn:List (Addr×Obj)
 xe:Value->Shared->Prop
noncomputable def frs(l:List Env):List Addr:=l.filterMap (·.frame)
noncomputable abbrev Cx.fs(X:Cx):List Addr:=frs X.outer
def Vis(sc:Scope)(x:Str):Prop:=sc.names.lookup x=some .local∨sc.names.lookup x=some .cell∨sc.names.lookup x=some .free
def Loc(sc:Scope)(x:Str):Prop:=sc.names.lookup x=some .local∨sc.names.lookup x=some .cell
def b6T(env:Env)(h:Heap)(m:Str->Option Value)(x:Str)(u:Value):Prop :=
 (env.kindOf x=some .local/\m x=some u)∨((env.kindOf x=some .cell∨env.kindOf x=some .free)/\∃c,env.cells.lookup x=some c/\h.IsCell c (some u))
structure Cx.Ok(X:Cx):Prop where
 mod:Mod X.K X.mg X.base
 kind:X.env.scope.kind=.function
 glob:X.env.globals=mainGlobals
 blt:X.env.builtins=builtinsNs
 above:X.s₀.heap.objs.size<=X.env.locals
 inj:∀x y c,X.env.cells.lookup x=some c->X.env.cells.lookup y=some c->x=y
 has:∀x,(X.env.kindOf x=some .cell∨X.env.kindOf x=some .free)->∃c,X.env.cells.lookup x=some c
 cab:∀x c,X.fn x=true->X.env.cells.lookup x=some c->X.s₀.heap.objs.size<=c
 hd:X.calm=true->X.A.handled=none
 frames:X.A.frames=some X.stack
 stk:X.stack=X.outer∨(X.stack=X.env::X.outer/\X.env.frame=some X.env.locals)
 exf:∀b∈X.ex,b≠X.env.locals/\∀x c,X.env.cells.lookup x=some c->c≠b
 bs:∀b o,X.base.get? b=some o->X.s₀.heap.get? b=some o/\X.H₀ b=none
 bsz:X.base.objs.size<=X.s₀.heap.objs.size
 noex:∀b o,X.base.get? b=some o->b∉X.ex
 exfs:∀b∈X.ex,b∉X.fs
 funs:X.s₀.heap.FunFrames X.base X.outer
 frf:∀b∈X.fs,X.H₀ b=none
structure Inv(X:Cx)(pins:List (Addr×Obj))(σ:List (Option V))(H:Hp)(s:Shared):Prop where
 ok:X.Ok
 os:s.os=X.s₀.os
 bare:AllBare s.gens
 base:Un X.fs X.ex X.H₀ H X.s₀.heap s.heap
 loc:∃m,s.heap.Ns X.env.locals m/\∀(i:Nat) (x:Str) (v:V),X.N[i]?=some x->σ[i]?=some (some v)->Vis X.env.scope x->∃u,RelV v u/\b6T X.env s.heap m x u
 cell:∀x c,X.env.cells.lookup x=some c->∃v,s.heap.IsCell c v
 free:H X.env.locals=none
 freeC:∀x c,X.env.cells.lookup x=some c->H c=none
 pin:∀p∈X.pn++pins,s.heap.get? p.1=some p.2/\H p.1=none/\p.1≠X.env.locals/\p.1∉X.fs/\∀v,p.2.data≠.cell v
 hok:HOk X.prog X.w H s.heap
 len:σ.length=X.N.length
section
variable {X:Cx}{pins:List (Addr×Obj)}{σ:List (Option V)}{H H':Hp}{s:Shared}{h':Heap}
theorem Cx.Ok.nofr(ok:X.Ok){b:Addr}{o:Obj}(e:X.base.get? b=some o):b∉X.fs:=λhb=>by
 have:=(ok.funs.mem hb).1;rw[e]at this;cases this
theorem Inv.bs(I:Inv X pins σ H s):∀b o,X.base.get? b=some o->s.heap.get? b=some o/\H b=none:=λb o e =>
 ⟨I.base.keep b o (I.ok.bs b o e).1 (I.ok.bs b o e).2 (I.ok.nofr e) (I.ok.noex b o e),I.base.free b o (I.ok.bs b o e).1 (I.ok.bs b o e).2 (I.ok.noex b o e)⟩
theorem Inv.bk(I:Inv X pins σ H s):∀b o,X.base.get? b=some o->s.heap.get? b=some o:=λb o e=>(I.bs b o e).1
theorem Inv.mod(I:Inv X pins σ H s):Mod X.K X.mg X.base:=I.ok.mod
theorem Inv.kIn(I:Inv X pins σ H s):X.K.In s.heap:=I.ok.mod.kin.keeps I.bk
theorem Inv.lt(I:Inv X pins σ H s):X.env.locals<s.heap.objs.size:=let ⟨_,hn,_⟩:=I.loc;hn.lt
theorem Inv.sz(I:Inv X pins σ H s):X.s₀.heap.objs.size<=s.heap.objs.size:=Nat.le_trans I.ok.above (Nat.le_of_lt I.lt)
theorem Inv.nofs(I:Inv X pins σ H s){a:Addr}(h:s.heap.objs.size<=a):a∉X.fs:=λhb=>by
 obtain⟨_,o,ho,_⟩:=I.ok.funs.mem hb;exact absurd (Nat.lt_of_lt_of_le (Heap.lt_size ho) (Nat.le_trans I.sz h)) (Nat.lt_irrefl _)
theorem Inv.cne(I:Inv X pins σ H s):∀x c,X.env.cells.lookup x=some c->c≠X.env.locals:=λx c e z=>by
 obtain⟨v,o,ho,hd⟩:=I.cell x c e;obtain⟨m,⟨o',es,ep,ho',hd',_⟩,_⟩:=I.loc;rw[z,ho']at ho;cases ho;rw[hd']at hd;cases hd
theorem Inv.funs(I:Inv X pins σ H s):s.heap.FunFrames X.base X.outer:=by
 have all:∀(l:List Env),(∀b∈frs l,b∈X.fs)->X.s₀.heap.FunFrames X.base l->s.heap.FunFrames X.base l:=by
  intro l;induction l with
  |nil=>intro _ _;trivial
  |cons env r ih =>
   intro hs hl;obtain⟨hk,⟨L,o,hf,hn,ho,hd⟩,hr⟩:=hl;have hL:L∈X.fs:=hs L (by unfold frs;rw[List.filterMap_cons,hf];exact List.mem_cons_self);obtain⟨sl,e⟩:=I.base.slot L o ho (I.ok.frf L hL) hL λz=>I.ok.exfs L z hL;exact⟨hk,⟨L,_,hf,hn,e,hd⟩,ih (λb hb=>hs b (by unfold frs;rw[List.filterMap_cons,hf];exact List.mem_cons_of_mem _ hb)) hr⟩
 exact all X.outer (λ_ hb=>hb) I.ok.funs
theorem Inv.stack(I:Inv X pins σ H s):s.heap.FunFrames X.base X.stack:=by
 rcases I.ok.stk with e|⟨e,hf⟩
 .rw[e];exact I.funs
 .rw[e];obtain⟨m,hn,_⟩:=I.loc;refine .cons (by rw[I.ok.kind];decide) hf hn ?_ I.funs;exact Heap.get?_none_of_le (Nat.le_trans I.ok.bsz I.ok.above)
theorem Inv.stkSub(I:Inv X pins σ H s):∀b∈frs X.stack,b∈X.env.locals::X.fs:=λb hb=>by
 rcases I.ok.stk with e|⟨e,hf⟩
 .rw[e]at hb;exact List.mem_cons_of_mem _ hb
 .rw[e]at hb;unfold frs at hb;rw[List.filterMap_cons,hf]at hb;exact hb
theorem Inv.stkFree(I:Inv X pins σ H s):∀b∈frs X.stack,H b=none:=λb hb=>by
 rcases List.mem_cons.mp (I.stkSub b hb)with e|hb
 .rw[e];exact I.free
 .obtain⟨_,o,ho,_⟩:=I.ok.funs.mem hb;exact I.base.free b o ho (I.ok.frf b hb) λz=>I.ok.exfs b z hb
theorem Inv.step{g':Array GenState}{t':Nat}{d':Drawn}{ch:List Addr}(I:Inv X pins σ H s)
  (hch:∀b∈ch,(b∈X.ex∨X.s₀.heap.objs.size<=b)/\b≠X.env.locals/\(∀x c,X.env.cells.lookup x=some c->c≠b)/\∀p∈X.pn++pins,p.1≠b)
  (keep:∀b o,b≠X.env.locals->b∉X.fs->b∉ch->s.heap.get? b=some o->H b=none->h'.get? b=some o)
  (slot:∀b o,b≠X.env.locals->b∈X.fs->b∉ch->s.heap.get? b=some o->H b=none->∃sl,h'.get? b=some {o with slots:=sl}) (free:∀b o,b∉ch->s.heap.get? b=some o->H b=none->H' b=none)
  (there:∀b o,b∉ch->s.heap.get? b=some o->∃o',h'.get? b=some o')
  (tups:∀b xs,H b=some (.tup xs)->H' b=some (.tup xs)) (frzs:∀b o u,H b=some (.frz o u)->H' b=some (.frz o u)) (tbls:∀b ps,H b=some (.tbl ps)->∃more,H' b=some (.tbl (ps++more)))
  (ns:∀m,s.heap.Ns X.env.locals m->h'.Ns X.env.locals m) (hok:HOk X.prog X.w H' h') (hg:AllBare g') :
  Inv X pins σ H' {s with heap:=h',gens:=g',drawn:=d',toks:=t'}:=by
 have neL:∀b o,X.s₀.heap.get? b=some o->b≠X.env.locals:=λb o e=>Nat.ne_of_lt (Nat.lt_of_lt_of_le (Heap.lt_size e) I.ok.above);have neC:∀b o,X.s₀.heap.get? b=some o->b∉X.ex->b∉ch:=λb o e hx hb=>by
  rcases(hch b hb).1 with z|z
  .exact hx z
  .exact absurd (Nat.lt_of_lt_of_le (Heap.lt_size e) z) (Nat.lt_irrefl _)
 have cellK:∀x c,X.env.cells.lookup x=some c->∀v,s.heap.IsCell c v->h'.IsCell c v:=λx c e v ⟨o,ho,hd⟩=>by
  have nch:c∉ch:=λz=>(hch c z).2.2.1 x c e rfl;by_cases hc:c∈X.fs
  .obtain⟨sl,q⟩:=slot c o (I.cne x c e) hc nch ho (I.freeC x c e);exact⟨_,q,hd⟩
  .exact⟨o,keep c o (I.cne x c e) hc nch ho (I.freeC x c e),hd⟩
 refine⟨I.ok,I.os,hg,⟨λb o e n hb hx=>?_,λb o e n hb hx=>?_,λb o e n hx=>?_,λb o e hx=>?_,λb xs e=>tups b xs (I.base.tups b xs e),λb o xs e=>frzs b o xs (I.base.frzs b o xs e),λb ps e=>?_⟩,?_,λx c e=>?_,?_,λx c e=>?_,λp hp=>?_,hok,I.len⟩
 .exact keep b o (neL b o e) hb (neC b o e hx) (I.base.keep b o e n hb hx) (I.base.free b o e n hx)
 .obtain⟨sl,e1⟩:=I.base.slot b o e n hb hx;obtain⟨sl',e2⟩:=slot b _ (neL b o e) hb (neC b o e hx) e1 (I.base.free b o e n hx);exact⟨sl',e2⟩
 .obtain⟨o',e1⟩:=I.base.there b o e hx;exact free b o' (neC b o e hx) e1 (I.base.free b o e n hx)
 .obtain⟨o',e1⟩:=I.base.there b o e hx;exact there b o' (neC b o e hx) e1
 .obtain⟨m1,e1⟩:=I.base.tbls b ps e;obtain⟨m2,e2⟩:=tbls b _ e1;exact⟨m1++m2,by rw[e2,Array.append_assoc]⟩
 .obtain⟨m,hn,hl⟩:=I.loc;refine⟨m,ns m hn,λi x v e1 e2 e3=>?_⟩;obtain⟨u,r,l⟩:=hl i x v e1 e2 e3;refine⟨u,r,?_⟩;rcases l with l|⟨k,c,e,z⟩
  .exact .inl l
  .exact .inr ⟨k,c,e,cellK x c e _ z⟩
 .obtain⟨v,z⟩:=I.cell x c e;exact⟨v,cellK x c e v z⟩
 .obtain⟨m,⟨o,_,_,ho,_⟩,_⟩:=I.loc;exact free _ o (λz=>(hch _ z).2.1 rfl) ho I.free
 .obtain⟨v,o,ho,hd⟩:=I.cell x c e;exact free c o (λz=>(hch c z).2.2.1 x c e rfl) ho (I.freeC x c e)
 .obtain⟨e,n,ne,nf,d⟩:=I.pin p hp;have nch:p.1∉ch:=λz=>(hch p.1 z).2.2.2 p hp rfl;exact⟨keep p.1 p.2 ne nf nch e n,free p.1 p.2 nch e n,ne,nf,d⟩
theorem Inv.un{t':Nat}(I:Inv X pins σ H s)(u:Un X.fs [] H H' s.heap h')(hok:HOk X.prog X.w H' h'):Inv X pins σ H' {s with heap:=h',toks:=t'}:=by
 obtain⟨m,⟨o,es,ep,ho,r⟩,_⟩:=id I.loc;obtain⟨sl,hL⟩:=u.any ho I.free (by simp);exact I.step (g':=s.gens) (d':=s.drawn) (ch:=[]) (λ_ z=>nomatch z) (λb o _ hb _ e n=>u.keep b o e n hb (by simp)) (λb o _ hb _ e n=>u.slot b o e n hb (by simp)) (λb o _ e n=>u.free b o e n (by simp)) (λb o _ e=>u.there b o e (by simp)) u.tups u.frzs u.tbls (λm' hm=>by
  obtain⟨o',es',ep',ho',r'⟩:=hm;rw[ho]at ho';cases ho';exact⟨_,es',ep',hL,r'⟩) hok I.bare
theorem Inv.call{g':Array GenState}{t':Nat}{d':Drawn}{ch:List Addr}(I:Inv X pins σ H s)(u:Un (frs X.stack) ch H H' s.heap h')(hok:HOk X.prog X.w H' h')(hg:AllBare g')
  (hch:∀b∈ch,(b∈X.ex∨X.s₀.heap.objs.size<=b)/\b≠X.env.locals/\(∀x c,X.env.cells.lookup x=some c->c≠b)/\∀p∈X.pn++pins,p.1≠b) :
  Inv X pins σ H' {s with heap:=h',gens:=g',drawn:=d',toks:=t'}:=by
 obtain⟨m,⟨o,es,ep,ho,r⟩,_⟩:=id I.loc;obtain⟨sl,hL⟩:=u.any ho I.free λz=>(hch _ z).2.1 rfl;exact I.step (ch:=ch) hch (λb o hL hb hc e n=>u.keep b o e n (λz=>(List.mem_cons.mp (I.stkSub b z)).elim hL hb) hc) (λb o _ _ hc e n=>u.any e n hc) (λb o hc e n=>u.free b o e n hc) (λb o hc e=>u.there b o e hc) u.tups u.frzs u.tbls (λm' hm=>by
  obtain⟨o',es',ep',ho',r'⟩:=hm;rw[ho]at ho';cases ho';exact⟨_,es',ep',hL,r'⟩) hok hg
theorem Inv.turned{t':Nat}{it:Addr}(I:Inv X pins σ H s)(k:∀b o,b≠it->s.heap.get? b=some o->h'.get? b=some o)(hn:H it=none)(hL:it≠X.env.locals)
  (h1:it∈X.ex∨X.s₀.heap.objs.size<=it) (h2:∀x c,X.env.cells.lookup x=some c->c≠it) (h3:∀p∈X.pn++pins,p.1≠it):Inv X pins σ H {s with heap:=h',toks:=t'}:=by
 have nit:∀b u,H b=some u->b≠it:=λb u e z=>by rw[z,hn]at e;cases e
 refine I.step (g':=s.gens) (d':=s.drawn) (ch:=[it]) (λb hb=>?_) (λb o _ _ hc e _=>k b o (λz=>hc (by simp[z])) e) (λb o _ _ hc e _=>⟨o.slots,k b o (λz=>hc (by simp[z])) e⟩) (λ_ _ _ _ n=>n)
  (λb o hc e=>⟨o,k b o (λz=>hc (by simp[z])) e⟩) (λ_ _ e=>e) (λ_ _ _ e=>e) (λb ps e=>⟨#[],by rw[e];simp⟩) (λm hm=>?_) (λb u e=>?_) I.bare
 .have e:b=it:=by simpa using hb
  subst e;exact⟨h1,hL,h2,h3⟩
 .obtain⟨o,es,ep,ho,r⟩:=hm;exact⟨o,es,ep,k _ o (Ne.symm hL) ho,r⟩
 .refine(I.hok b u e).stay (λc v hc q=>k c v ?_ q) (λ_ q=>q) λ_ _ q=>q;rcases hc with z|z
  .rw[z];exact nit b u e
  .exact nit c _ z
theorem Inv.tok(I:Inv X pins σ H s)(t:Nat):Inv X pins σ H {s with toks:=t}:=I.un (h':=s.heap) (t':=t) Un.refl I.hok
theorem Inv.kept{t':Nat}(I:Inv X pins σ H s)(k:∀b u,s.heap.get? b=some u->h'.get? b=some u):Inv X pins σ H {s with heap:=h',toks:=t'}:=I.un (Un.kept k) (I.hok.kept k)
theorem Inv.laid{a:Addr}{o:HO}{t':Nat}(I:Inv X pins σ H s)(k:∀b u,s.heap.get? b=some u->h'.get? b=some u)(hp:s.heap.objs.size<=a)(new:ObjOk X.prog X.w (upd H a o) h' a o) :
  Inv X pins σ (upd H a o) {s with heap:=h',toks:=t'}:=I.un (Un.laid k hp (I.hok.fresh hp)) (I.hok.laid k hp new)
theorem Inv.write{x e:Addr}{o:HO}{t':Nat}(I:Inv X pins σ H s)(mu:Mut (H x))(he:e=x∨H e=some (.own x))(k:∀b u,b≠e->s.heap.get? b=some u->h'.get? b=some u)(heo:∃u,h'.get? e=some u)
  (new:ObjOk X.prog X.w (upd H x o) h' x o):Inv X pins σ (upd H x o) {s with heap:=h',toks:=t'}:=I.un (Un.write mu he k heo) (I.hok.write mu he k heo new)
theorem Inv.weak{σ':List (Option V)}(I:Inv X pins σ H s)(hl:σ'.length=σ.length)(w:∀(i:Nat) v,σ'[i]?=some (some v)->σ[i]?=some (some v)):Inv X pins σ' H s :=
 ⟨I.ok,I.os,I.bare,I.base,let ⟨m,hn,hl'⟩:=I.loc;⟨m,hn,λi x v e1 e2 e3=>hl' i x v e1 (w i v e2) e3⟩,I.cell,I.free,I.freeC,I.pin,I.hok,hl.trans I.len⟩
theorem Inv.pins_of{pins':List (Addr×Obj)}(I:Inv X pins σ H s)(h:∀p∈pins',s.heap.get? p.1=some p.2/\H p.1=none/\p.1≠X.env.locals/\p.1∉X.fs/\∀v,p.2.data≠.cell v):Inv X pins' σ H s :=
 ⟨I.ok,I.os,I.bare,I.base,I.loc,I.cell,I.free,I.freeC,λp hp=>(List.mem_append.mp hp).elim (λz=>I.pin p (List.mem_append_left _ z)) (h p),I.hok,I.len⟩
theorem a4Y{N:List Str}(hN:N.Nodup){i j:Nat}{x:Str}(a:N[i]?=some x)(b:N[j]?=some x):i=j:=by
 obtain⟨h1,e1⟩:=List.getElem?_eq_some_iff.mp a;obtain⟨h2,e2⟩:=List.getElem?_eq_some_iff.mp b;exact(List.getElem_inj hN).mp (e1.trans e2.symm)
theorem a3b{M:Model}{A:Around}{E:Value->Shared->Prop}{i:Nat}{x:Str}{v:V}{u:Value}{Q:Unit->Shared->Prop}(I:Inv X pins σ H s)(hN:X.N.Nodup)(hi:X.N[i]?=some x)(hx:Loc X.env.scope x)(r:RelV v u)
  (h:∀s',Inv X pins (σ.set i (some v)) H s'->(∃a,Heap.SameBut a s.heap s'.heap/\(a=X.env.locals∨X.env.cells.lookup x=some a))->Q () s') (hf:X.fn x=true∨X.env.scope.names.lookup x=some .local:=by first|exact .inl rfl|exact .inr rfl|assumption):wpAny M A (storeName X.env x u) Q E s:=by
 obtain⟨m,hn,hl⟩:=id I.loc;have hcls:(X.env.scope.kind==.class || (X.env.scope.kind==.module && X.env.locals != X.env.globals))=false:=by rw[I.ok.kind];rfl
 have hiσ:i<σ.length:=by rw[I.len];exact(List.getElem?_eq_some_iff.mp hi).1
 have cne:=I.cne;have tracked:∀{a:Addr}{h':Heap},(∃o,s.heap.get? a=some o/\H a=none)->Heap.SameBut a s.heap h'->HOk X.prog X.w H h':=λ{a h'} ha hs b ob e=>by
  obtain⟨_,_,hfree⟩:=ha;refine(I.hok b ob e).stay (λc w' hc q=>(hs.2 c ?_).trans q) (λ_ q=>q) λ_ _ q=>q;rintro rfl;rcases hc with rfl|hc
  .rw[hfree]at e;cases e
  .rw[hfree]at hc;cases hc
 rcases hx with hk|hk
 .refine wpAny_storeName_local hk hn (λh' hn' hs=>?_) hcls;obtain⟨oL,_,_,hoL,_⟩:=id hn;refine h _ ⟨I.ok,I.os,I.bare,⟨λb o e n hb hx=>?_,λb o e n hb hx=>?_,I.base.free,λb o e hx=>?_,I.base.tups,I.base.frzs,I.base.tbls⟩,⟨_,hn',λj y v' e1 e2 e3=>?_⟩,λy c e=>?_,I.free,I.freeC,λp hp=>?_,tracked ⟨oL,hoL,I.free⟩ hs,by simpa using I.len⟩ ⟨_,hs,.inl rfl⟩
  .exact(hs.2 b (Nat.ne_of_lt (Nat.lt_of_lt_of_le (Heap.lt_size e) I.ok.above))).trans (I.base.keep b o e n hb hx)
  .obtain⟨sl,e1⟩:=I.base.slot b o e n hb hx;exact⟨sl,(hs.2 b (Nat.ne_of_lt (Nat.lt_of_lt_of_le (Heap.lt_size e) I.ok.above))).trans e1⟩
  .obtain⟨o',e1⟩:=I.base.there b o e hx;exact⟨o',(hs.2 b (Nat.ne_of_lt (Nat.lt_of_lt_of_le (Heap.lt_size e) I.ok.above))).trans e1⟩
  .by_cases hj:j=i
   .subst hj;rw[hi]at e1;cases e1;rw[List.getElem?_set_self hiσ]at e2;cases e2;exact⟨u,r,.inl ⟨hk,by simp⟩⟩
   .rw[List.getElem?_set_ne (Ne.symm hj)]at e2;obtain⟨u',r',q⟩:=hl j y v' e1 e2 e3;refine⟨u',r',?_⟩;rcases q with⟨k,e⟩|⟨k,c,e,z⟩
    .refine .inl ⟨k,?_⟩;have:y≠x:=λe=>hj (a4Y hN e1 (e ▸ hi));simp[this,e]
    .exact .inr ⟨k,c,e,z.sameBut hs (cne y c e)⟩
  .obtain⟨w',z⟩:=I.cell y c e;exact⟨w',z.sameBut hs (cne y c e)⟩
  .obtain⟨e,n,ne,nf,d⟩:=I.pin p hp;exact⟨(hs.2 p.1 ne).trans e,n,ne,nf,d⟩
 .have hfn:X.fn x=true:=by
   rcases hf with z|z
   .exact z
   .rw[z]at hk;cases hk
  obtain⟨c,hc⟩:=I.ok.has x (.inl hk);obtain⟨w',z⟩:=I.cell x c hc;refine wpAny_storeName_cell I.ok.kind hk hc z (λh' hc' hs=>?_);obtain⟨oc,hoc,hocd⟩:=id z;refine h {s with heap:=h'} ⟨I.ok,I.os,I.bare,⟨λb o e n hb hx=>?_,λb o e n hb hx=>?_,I.base.free,λb o e hx=>?_,I.base.tups,I.base.frzs,I.base.tbls⟩,⟨m,hn.sameBut hs (Ne.symm (cne x c hc)),λj y v' e1 e2 e3=>?_⟩,λy c' e=>?_,I.free,I.freeC,λp hp=>?_,tracked ⟨oc,hoc,I.freeC x c hc⟩ hs,by simpa using I.len⟩ ⟨c,hs,.inr hc⟩
  .exact(hs.2 b (Nat.ne_of_lt (Nat.lt_of_lt_of_le (Heap.lt_size e) (I.ok.cab x c hfn hc)))).trans (I.base.keep b o e n hb hx)
  .obtain⟨sl,e1⟩:=I.base.slot b o e n hb hx;exact⟨sl,(hs.2 b (Nat.ne_of_lt (Nat.lt_of_lt_of_le (Heap.lt_size e) (I.ok.cab x c hfn hc)))).trans e1⟩
  .obtain⟨o',e1⟩:=I.base.there b o e hx;exact⟨o',(hs.2 b (Nat.ne_of_lt (Nat.lt_of_lt_of_le (Heap.lt_size e) (I.ok.cab x c hfn hc)))).trans e1⟩
  .by_cases hj:j=i
   .subst hj;rw[hi]at e1;cases e1;rw[List.getElem?_set_self hiσ]at e2;cases e2;exact⟨u,r,.inr ⟨.inl hk,c,hc,hc'⟩⟩
   .rw[List.getElem?_set_ne (Ne.symm hj)]at e2;obtain⟨u',r',q⟩:=hl j y v' e1 e2 e3;refine⟨u',r',?_⟩;rcases q with q|⟨k,c',e,z'⟩
    .exact .inl q
    .refine .inr ⟨k,c',e,z'.sameBut hs ?_⟩;rintro rfl;exact hj (a4Y hN e1 (I.ok.inj _ _ _ e hc ▸ hi))
  .by_cases hcc:c'=c
   .subst hcc;exact⟨_,hc'⟩
   .obtain⟨w2,z2⟩:=I.cell y c' e;exact⟨w2,z2.sameBut hs hcc⟩
  .obtain⟨e,n,ne,nf,d⟩:=I.pin p hp;refine⟨(hs.2 p.1 ?_).trans e,n,ne,nf,d⟩;intro q;rw[q,hoc]at e;have q':oc=p.2:=Option.some.inj e;exact d w' (by rw[<-q'];exact hocd)
theorem a1T{M:Model}{A:Around}{E:Value->Shared->Prop}{i:Nat}{x:Str}{v:V}{u:Value}{Q:Unit->Shared->Prop}(I:Inv X pins σ H s)(hN:X.N.Nodup)(hi:X.N[i]?=some x)(hx:Loc X.env.scope x)(r:RelV v u)
  (h:∀s',Inv X pins (σ.set i (some v)) H s'->Q () s') (hf:X.fn x=true∨X.env.scope.names.lookup x=some .local:=by first|exact .inl rfl|exact .inr rfl|assumption):wpAny M A (storeName X.env x u) Q E s :=
 a3b I hN hi hx r (λs' I' _=>h s' I') hf
theorem Inv.call'{s':Shared}{ch:List Addr}(I:Inv X pins σ H s)(ho:s'.os=s.os)(u:Un (frs X.stack) ch H H' s.heap s'.heap)(hok:HOk X.prog X.w H' s'.heap)(hg:AllBare s'.gens)
  (hch:∀b∈ch,(b∈X.ex∨X.s₀.heap.objs.size<=b)/\b≠X.env.locals/\(∀x c,X.env.cells.lookup x=some c->c≠b)/\∀p∈X.pn++pins,p.1≠b):Inv X pins σ H' s':=by
 obtain⟨h',g',d',t',o'⟩:=s';have e:o'=s.os:=ho;subst e;exact I.call (g':=g') (t':=t') (d':=d') u hok hg hch
end
abbrev XK:=Value->Option Addr->Hp->Prop
abbrev St:=List (Option V)
abbrev VK:=V->Hp->Prop
abbrev TE:=St->Hp->VK->Prop
abbrev TT:=St->Hp->(Bool->Hp->Prop)->Prop
abbrev TA:=St->Hp->(List V->Hp->Prop)->Prop
structure Ends where
 nx:St->Hp->Prop
 rt:VK
 bk:St->Hp->Prop:=λ_ _=>False
 ct:St->Hp->Prop:=λ_ _=>False
abbrev TS:=Ends->St->Hp->Prop
def EP(X:Cx)(pins:List (Addr×Obj))(σ:St)(Q:VK)(u:Value)(s':Shared):Prop:=∃v H',Inv X pins σ H' s'/\RelV v u/\Q v H'
def TP(X:Cx)(pins:List (Addr×Obj))(σ:St)(Q:Bool->Hp->Prop)(b:Bool)(s':Shared):Prop:=∃H',Inv X pins σ H' s'/\Q b H'
def AP(X:Cx)(pins:List (Addr×Obj))(σ:St)(Q:List V->Hp->Prop)(us:List Value)(s':Shared):Prop:=∃vs H',Inv X pins σ H' s'/\Vals vs us/\Q vs H'
def SP(X:Cx)(pins:List (Addr×Obj))(D:Ends)(f:Flow)(s':Shared):Prop :=
 match f with
 |.next=>∃σ' H',Inv X pins σ' H' s'/\D.nx σ' H'
 |.brk=>∃σ' H',Inv X pins σ' H' s'/\D.bk σ' H'
 |.cont=>∃σ' H',Inv X pins σ' H' s'/\D.ct σ' H'
 |.ret u=>∃v σ' H',Inv X pins σ' H' s'/\RelV v u/\D.rt v H'
def PE(X:Cx)(e:Expr)(t:TE):Prop :=
 ∀(pins:List (Addr×Obj)) (s:Shared) (σ:St) (H:Hp) (Q:VK),Inv X pins σ H s->t σ H Q->wpAny (model X.prog X.w) X.A (eval e X.env) (EP X pins σ Q) X.xe s
def PT(X:Cx)(e:Expr)(t:TT):Prop :=
 ∀(pins:List (Addr×Obj)) (s:Shared) (σ:St) (H:Hp) (Q:Bool->Hp->Prop),Inv X pins σ H s->t σ H Q->wpAny (model X.prog X.w) X.A (isTrue e X.env (eval e X.env)) (TP X pins σ Q) X.xe s
def PW(X:Cx)(e:Expr)(t:TT):Prop :=
 ∀(whole:Sem Value) (pins:List (Addr×Obj)) (s:Shared) (σ:St) (H:Hp) (Q:Bool->Hp->Prop),Inv X pins σ H s->t σ H Q->wpAny (model X.prog X.w) X.A (isTrue e X.env whole) (TP X pins σ Q) X.xe s
theorem PW.pt{X:Cx}{e:Expr}{t:TT}(h:PW X e t):PT X e t:=h _
def PA(X:Cx)(es:List Expr)(t:TA):Prop :=
 ∀(pos:Pos) (pins:List (Addr×Obj)) (s:Shared) (σ:St) (H:Hp) (Q:List V->Hp->Prop),Inv X pins σ H s->t σ H Q->wpAny (model X.prog X.w) X.A (spliced (backTo pos (starEach es X.env))) (AP X pins σ Q) X.xe s
def PS(X:Cx)(st:Stmt)(t:TS):Prop :=
 ∀(pins:List (Addr×Obj)) (s:Shared) (σ:St) (H:Hp) (D:Ends),Inv X pins σ H s->t D σ H->wpAny (model X.prog X.w) X.A (exec st X.env) (SP X pins D) X.xe s
def PSs(X:Cx)(st:List Stmt)(t:TS):Prop :=
 ∀(pins:List (Addr×Obj)) (s:Shared) (σ:St) (H:Hp) (D:Ends),Inv X pins σ H s->t D σ H->wpAny (model X.prog X.w) X.A (execs st X.env) (SP X pins D) X.xe s
theorem thn{α:Type}{t:Sem α}{Q Q':α->Shared->Prop}{M:Model}{A:Around}{E:Value->Shared->Prop}{s:Shared}(h:wpAny M A t Q E s)(hQ:∀a s,Q a s->Q' a s):wpAny M A t Q' E s:=wpAny_mono h hQ λ_ _ x=>x
section
variable {X:Cx}
def G2(i:Nat):TE:=λσ H Q=>∃v,σ[i]?=some (some v)/\Q v H
def tC(v:V):TE:=λ_ H Q=>Q v H
theorem b4K{i:Nat}{x:Str}{pos:Pos}(hN:X.N[i]?=some x)(hv:Vis X.env.scope x)(hd:(x==("__debug__" : Str))=false:=by decide)(hcd:(x==("__classdict__" : Str))=false:=by decide):PE X (.Name x pos) (G2 i):=by
 intro pins s σ H Q I h;obtain⟨v,e,h⟩:=h;obtain⟨m,hn,hl⟩:=I.loc;obtain⟨u,r,l⟩:=hl i x v hN e hv;have fin:EP X pins σ Q u s:=⟨v,H,I,r,h⟩;rcases l with⟨hk,hm⟩|⟨hk,c,hc,hcell⟩
 .exact wpAny_Name (wpAny_loadName_local I.ok.kind hk hn hm fin) hd
 .rcases hk with hk|hk
  .exact wpAny_Name (wpAny_loadName_cell I.ok.kind hk hc hcell fin) hd
  .exact wpAny_Name (wpAny_loadName_free I.ok.kind hk hc hcell fin hcd) hd
theorem b4R{i j pos}:PE X (.Constant (.int i) j pos) (tC (.int i)):=λ_ _ _ H _ I h=>wpAny_Constant_int ⟨.int i,H,I.tok _,⟨_,rfl⟩,h⟩
theorem b6k{b j pos}:PE X (.Constant (.bool b) j pos) (tC (.bl b)):=λ_ _ _ H _ I h=>Constant_bool ⟨.bl b,H,I,rfl,h⟩
theorem b4P{j pos}:PE X (.Constant .none j pos) (tC .non):=λ_ _ _ H _ I h=>Constant_none ⟨.non,H,I,rfl,h⟩
theorem b4M{x j pos}:PE X (.Constant (.str x) j pos) (tC (.str x)):=λ_ _ _ H _ I h=>Calls.Constant_str ⟨.str x,H,I.tok _,⟨_,rfl⟩,h⟩
def Gl(X:Cx)(x:Str):Prop:=X.env.kindOf x=some .globalImplicit
theorem a0t{E:Value->Shared->Prop}{pins:List (Addr×Obj)}{s:Shared}{σ:St}{H:Hp}{x:Str}{u:Value}{pos:Pos}{Q:Value->Shared->Prop}(I:Inv X pins σ H s)(hg:Gl X x)(hm:X.mg x=some u)(h:Q u s)
  (hd:(x==("__debug__" : Str))=false:=by decide):wpAny (model X.prog X.w) X.A (eval (.Name x pos) X.env) Q E s :=
 Calls.Name_function_global I.ok.kind hg (Calls.loadGlobal_global (by rw[I.ok.glob];exact I.mod.glob.keeps I.bk) hm h) hd
theorem a2p{E:Value->Shared->Prop}{pins:List (Addr×Obj)}{s:Shared}{σ:St}{H:Hp}{x:Str}{u:Value}{pos:Pos}{Q:Value->Shared->Prop}(I:Inv X pins σ H s)(hg:Gl X x)(hm:X.mg x=none)(hv:bootBuiltins x=some u)(h:Q u s)
  (hn:x≠"__name__":=by decide) (hd:(x==("__debug__" : Str))=false:=by decide):wpAny (model X.prog X.w) X.A (eval (.Name x pos) X.env) Q E s:=by
 obtain⟨mb,h1,h2⟩:=I.mod.blt;exact Calls.Name_function_global I.ok.kind hg (Calls.loadGlobal_builtin (by rw[I.ok.glob];exact I.mod.glob.keeps I.bk) hm (by rw[I.ok.blt];exact h1.keeps I.bk) ((h2 x hn).trans hv) h) hd
theorem b2T{x:Str}{v:V}{u:Value}{pos:Pos}(hg:Gl X x)(hm:X.mg x=none)(hv:bootBuiltins x=some u)(r:RelV v u)(hn:x≠"__name__":=by decide)(hd:(x==("__debug__" : Str))=false:=by decide):PE X (.Name x pos) (tC v) :=
 λ_ _ _ H _ I h=>a2p I hg hm hv ⟨v,H,I,r,h⟩ hn hd
variable {a b:Expr}{ta tb:TE}{pos:Pos}
def PC(X:Cx)(op:CmpOp)(a b:Expr)(t:TE):Prop :=
 ∀(pins:List (Addr×Obj)) (s:Shared) (σ:St) (H:Hp) (Q:VK),Inv X pins σ H s->t σ H Q ->
  wpAny (model X.prog X.w) X.A (eval a X.env) (λv s₁=>wpAny (model X.prog X.w) X.A (eval b X.env) (λu s₂=>wpAny (model X.prog X.w) X.A (compareOp op v u) (EP X pins σ Q) X.xe s₂) X.xe s₁) X.xe s
def tB(t:TE):TT:=λσ H Q=>t σ H λx H1=>∃c,x=.bl c/\Q c H1
theorem b4T{op:CmpOp}{t:TE}(h:PC X op a b t)(h1:behindInMarks op b=false:=by first|exact nobehind _ (by decide) (by decide)|rfl):PE X (.Compare a [op] [b] pos) t:=λpins s σ H Q I hw=>wpAny_Compare1 (h pins s σ H Q I hw) h1
theorem b4A{op:CmpOp}{t:TE}(h:PC X op a b t)(h1:behindInMarks op b=false:=by first|exact nobehind _ (by decide) (by decide)|rfl):PT X (.Compare a [op] [b] pos) (tB t):=by
 intro pins s σ H Q I hw;refine wpAny_isTrue_Compare1 (thn (h pins s σ H _ I hw) λv s1 h1=>thn h1 λu s2 h2=>thn h2 λc s3 ⟨x,H1,I1,r1,q1⟩=>?_) h1;obtain⟨d,rfl,q⟩:=q1;cases r1;exact wpAny_truthy_bool ⟨H1,I1,q⟩
variable {tA tB':TT}{rest:List Expr}
def b5W(t u:TT):TT:=λσ H Q=>t σ H λc H1=>if c=true then u σ H1 Q else Q false H1
def tOr(t u:TT):TT:=λσ H Q=>t σ H λc H1=>if c=true then Q true H1 else u σ H1 Q
def b5Q(t:TT):TT:=λσ H Q=>t σ H λc H1=>Q (!c) H1
theorem pw_and1(ha:PT X a tA):PW X (.BoolOp .And [a] pos) tA:=by
 intro wh pins s σ H Q I h;refine isTrue_and (thn (ha pins s σ H Q I h) λc s1 e=>?_);cases c with
 |true=>exact isTrue_and_nil e
 |false=>exact e
theorem pw_or1(ha:PT X a tA):PW X (.BoolOp .Or [a] pos) tA:=by
 intro wh pins s σ H Q I h;refine isTrue_or (thn (ha pins s σ H Q I h) λc s1 e=>?_);cases c with
 |false=>exact isTrue_or_nil e
 |true=>exact e
theorem pw_and(ha:PT X a tA)(hb:PW X (.BoolOp .And (b::rest) pos) tB'):PW X (.BoolOp .And (a::b::rest) pos) (b5W tA tB'):=by
 intro wh pins s σ H Q I h;refine isTrue_and (thn (ha pins s σ H _ I h) λc s1 ⟨H1,I1,q1⟩=>?_);cases c with
 |true=>exact hb wh pins s1 σ H1 Q I1 q1
 |false=>exact⟨H1,I1,q1⟩
theorem pw_or(ha:PT X a tA)(hb:PW X (.BoolOp .Or (b::rest) pos) tB'):PW X (.BoolOp .Or (a::b::rest) pos) (tOr tA tB'):=by
 intro wh pins s σ H Q I h;refine isTrue_or (thn (ha pins s σ H _ I h) λc s1 ⟨H1,I1,q1⟩=>?_);cases c with
 |true=>exact⟨H1,I1,q1⟩
 |false=>exact hb wh pins s1 σ H1 Q I1 q1
theorem b4z(ha:PT X a tA):PT X (.UnaryOp .Not a pos) (b5Q tA):=by
 intro pins s σ H Q I h;exact isTrue_not (ha pins s σ H (λc H1=>Q (!c) H1) I h)
def b3R(ta tb:TE):TE:=λσ H Q=>ta σ H λx H1=>∃c,x=.bl c/\if c=true then tb σ H1 Q else Q (.bl false) H1
def b5P(ta tb:TE):TE:=λσ H Q=>ta σ H λx H1=>∃c,x=.bl c/\if c=true then Q (.bl true) H1 else tb σ H1 Q
def b3N(ta:TE):TE:=λσ H Q=>ta σ H λx H1=>∃c,x=.bl c/\Q (.bl (!c)) H1
theorem b4N{op}{t:TE}(h:PE X a t):PE X (.BoolOp op [a] pos) t:=λpins s σ H Q I hw=>BoolOp_one (h pins s σ H Q I hw)
theorem b4V(ha:PE X a ta)(hb:PE X (.BoolOp .And (b::rest) pos) tb):PE X (.BoolOp .And (a::b::rest) pos) (b3R ta tb):=by
 intro pins s σ H Q I h;refine BoolOp_and (thn (ha pins s σ H _ I h) λv s1 ⟨x,H1,I1,r1,q1⟩=>?_);obtain⟨c,rfl,q1⟩:=q1;cases r1;refine wpAny_truthy_bool ?_;cases c with
 |true=>exact hb pins s1 σ H1 Q I1 q1
 |false=>exact⟨.bl false,H1,I1,rfl,q1⟩
theorem b6i(ha:PE X a ta)(hb:PE X (.BoolOp .Or (b::rest) pos) tb):PE X (.BoolOp .Or (a::b::rest) pos) (b5P ta tb):=by
 intro pins s σ H Q I h;refine BoolOp_or (thn (ha pins s σ H _ I h) λv s1 ⟨x,H1,I1,r1,q1⟩=>?_);obtain⟨c,rfl,q1⟩:=q1;cases r1;refine wpAny_truthy_bool ?_;cases c with
 |false=>exact hb pins s1 σ H1 Q I1 q1
 |true=>exact⟨.bl true,H1,I1,rfl,q1⟩
theorem b4O(ha:PE X a ta):PE X (.UnaryOp .Not a pos) (b3N ta):=by
 intro pins s σ H Q I h;refine UnaryOp_ (thn (ha pins s σ H _ I h) λv s1 ⟨x,H1,I1,r1,q1⟩=>?_);obtain⟨c,rfl,q1⟩:=q1;cases r1;exact not_of (wpAny_truthy_bool ⟨.bl (!c),H1,I1,rfl,q1⟩)
def tIf(t:TT)(ta tb:TE):TE:=λσ H Q=>t σ H λc H1=>if c=true then ta σ H1 Q else tb σ H1 Q
theorem b0r{c:Expr}(hc:PT X c tA)(ha:PE X a ta)(hb:PE X b tb):PE X (.IfExp c a b pos) (tIf tA ta tb):=by
 intro pins s σ H Q I h;refine wpAny_IfExp (thn (hc pins s σ H _ I h) λd s1 ⟨H1,I1,q1⟩=>?_);cases d with
 |true=>exact ha pins s1 σ H1 Q I1 q1
 |false=>exact hb pins s1 σ H1 Q I1 q1
end
def SqL(K:PySem.W.Frag)(H:Hp)(a:Addr)(xs:List V):Prop :=
 Rd H a (.lst xs) ∨
  ∃(o:Obj) (its:Array Value) (n:Nat),K.lookup a=some o/\o.cls=.type "list"/\o.dict=none/\o.data=.seq its n/\its.size<=sizeLine/\Vals xs its.toList
def SqT(K:PySem.W.Frag)(H:Hp)(a:Addr)(xs:List V):Prop :=
 Rd H a (.tup xs) ∨
  ∃(o:Obj) (its:Array Value) (n:Nat),K.lookup a=some o/\o.cls=.type "tuple"/\o.data=.seq its n/\its.size<=sizeLine/\Vals xs its.toList
noncomputable def b6R:Value->Option V
 |.none=>some .non
 |.bool b=>some (.bl b)
 |.int i _=>some (.int i)
 |.str x _=>some (.str x)
 |.bytes b _=>some (.byt b)
 |.float b _=>some (.flt b)
 |.ref a=>some (.ref a)
 |.type n=>some (.ty n)
 |_=>none
theorem RelV.abs{x:V}{u:Value}(r:RelV x u):b6R u=some x:=by
 cases x with
 |non=>cases r;rfl
 |bl _=>cases r;rfl
 |int _=>obtain⟨t,rfl⟩:=r;rfl
 |str _=>obtain⟨t,rfl⟩:=r;rfl
 |byt _=>obtain⟨t,rfl⟩:=r;rfl
 |flt _=>obtain⟨t,rfl⟩:=r;rfl
 |ref _=>cases r;rfl
 |ty _=>cases r;rfl
theorem RelV.inj{x y:V}{u:Value}(r:RelV x u)(q:RelV y u):x=y:=Option.some.inj (r.abs.symm.trans q.abs)
theorem Vals.inj:∀{xs ys:List V}{us:List Value},Vals xs us->Vals ys us->xs=ys
 |_,_,_,.nil,.nil=>rfl
 |_,_,_,.cons r t,.cons r' t'=>by rw[r.inj r',Vals.inj t t']
section
variable {X:Cx}{pins:List (Addr×Obj)}{σ:St}{H:Hp}{s:Shared}{a:Addr}{xs ys:List V}
theorem SqL.of{K:PySem.W.Frag}(h:H a=some (.lst xs)):SqL K H a xs:=.inl (.inl h)
theorem SqT.of{K:PySem.W.Frag}(h:H a=some (.tup xs)):SqT K H a xs:=.inl (.inl h)
theorem Inv.list(I:Inv X pins σ H s)(h:SqL X.K H a xs):∃its:List Value,Vals xs its/\PlainL s.heap a its.toArray/\xs.length<=sizeLine:=by
 rcases h with h|⟨o,its,n,hk,hc,hd,hs,hz,r⟩
 .obtain⟨z,its,n,r,e⟩:=h.ok I.hok;exact⟨its,r,⟨_,n,e,rfl,rfl,rfl⟩,z⟩
 .refine⟨its.toList,r,⟨o,n,I.kIn a o hk,hc,hd,by simpa using hs⟩,?_⟩;have e:=r.length;simp only[Array.length_toList]at e;omega
theorem Inv.tuple(I:Inv X pins σ H s)(h:SqT X.K H a xs):∃its:List Value,Vals xs its/\IsTup s.heap a its.toArray/\xs.length<=sizeLine:=by
 rcases h with h|⟨o,its,n,hk,hc,hs,hz,r⟩
 .obtain⟨z,its,r,p⟩:=h.ok I.hok;exact⟨its,r,p.tup,z⟩
 .refine⟨its.toList,r,⟨o,I.kIn a o hk,hc,n,by simpa using hs⟩,?_⟩;have e:=r.length;simp only[Array.length_toList]at e;omega
theorem Inv.list_inj(I:Inv X pins σ H s)(h:SqL X.K H a xs)(h':SqL X.K H a ys):xs=ys:=by
 obtain⟨its,r,⟨o,n,e,_,_,d⟩,_⟩:=I.list h;obtain⟨its',r',⟨o',n',e',_,_,d'⟩,_⟩:=I.list h';rw[e]at e';cases e';rw[d]at d';injection d' with d1 _
 have:its=its':=by simpa using congrArg Array.toList d1
 subst this;exact r.inj r'
theorem Inv.tuple_inj(I:Inv X pins σ H s)(h:SqT X.K H a xs)(h':SqT X.K H a ys):xs=ys:=by
 obtain⟨its,r,⟨o,e,_,n,d⟩,_⟩:=I.tuple h;obtain⟨its',r',⟨o',e',_,n',d'⟩,_⟩:=I.tuple h';rw[e]at e';cases e';rw[d]at d';injection d' with d1 _
 have:its=its':=by simpa using congrArg Array.toList d1
 subst this;exact r.inj r'
end
noncomputable abbrev Cx.wish(X:Cx)(E:Value->Shared->Prop):Cx:={X with xe:=E}
noncomputable abbrev Cx.nox(X:Cx):Cx:=X.wish λ_ _=>False
theorem Cx.Ok.wish{X:Cx}(ok:X.Ok)(E:Value->Shared->Prop):(X.wish E).Ok :=
 ⟨ok.mod,ok.kind,ok.glob,ok.blt,ok.above,ok.inj,ok.has,ok.cab,ok.hd,ok.frames,ok.stk,ok.exf,ok.bs,ok.bsz,ok.noex,ok.exfs,ok.funs,ok.frf⟩
theorem Cx.Ok.unwish{X:Cx}{E:Value->Shared->Prop}(ok:(X.wish E).Ok):X.Ok :=
 ⟨ok.mod,ok.kind,ok.glob,ok.blt,ok.above,ok.inj,ok.has,ok.cab,ok.hd,ok.frames,ok.stk,ok.exf,ok.bs,ok.bsz,ok.noex,ok.exfs,ok.funs,ok.frf⟩
section
variable {X:Cx}{pins:List (Addr×Obj)}{σ:St}{H:Hp}{s:Shared}{E:Value->Shared->Prop}
theorem Inv.wish(I:Inv X pins σ H s)(E:Value->Shared->Prop):Inv (X.wish E) pins σ H s:=⟨I.ok.wish E,I.os,I.bare,I.base,I.loc,I.cell,I.free,I.freeC,I.pin,I.hok,I.len⟩
theorem Inv.unwish(I:Inv (X.wish E) pins σ H s):Inv X pins σ H s:=⟨I.ok.unwish,I.os,I.bare,I.base,I.loc,I.cell,I.free,I.freeC,I.pin,I.hok,I.len⟩
theorem SP.unwish{D:Ends}{f:Flow}{s':Shared}(h:SP (X.wish E) pins D f s'):SP X pins D f s':=by
 cases f with
 |next=>obtain⟨σ',H',I,q⟩:=h;exact⟨σ',H',I.unwish,q⟩
 |brk=>obtain⟨σ',H',I,q⟩:=h;exact⟨σ',H',I.unwish,q⟩
 |cont=>obtain⟨σ',H',I,q⟩:=h;exact⟨σ',H',I.unwish,q⟩
 |ret u=>obtain⟨v,σ',H',I,r,q⟩:=h;exact⟨v,σ',H',I.unwish,r,q⟩
theorem PSs.nox{st:List Stmt}{t:TS}(h:PSs X.nox st t):PSs X st t:=λpins s σ H D I hw =>
 wpAny_mono (h pins s σ H D (I.wish _) hw) (λ_ _ q=>q.unwish) λ_ _ z=>False.elim z
end
section
variable {X:Cx}{st:Stmt}{rest:List Stmt}{t u:TS}{e:Expr}{te:TE}{pos:Pos}
def b3O:TS:=λD σ H=>D.nx σ H
def b4p(t u:TS):TS:=λD σ H=>t {D with nx:=u D} σ H
theorem b2A:PSs X [] b3O:=λ_ _ σ H _ I h=>wpAny_execs_nil ⟨σ,H,I,h⟩
theorem b0f(h1:PS X st t)(h2:PSs X rest u):PSs X (st::rest) (b4p t u):=by
 intro pins s σ H D I h;refine wpAny_execs_cons (thn (h1 pins s σ H {D with nx:=u D} I h) λf s1 q=>?_);cases f with
 |next =>
  obtain⟨σ',H',I',q⟩:=q;exact h2 pins s1 σ' H' D I' q
 |ret v=>exact q
 |brk=>exact q
 |cont=>exact q
theorem b2z(h1:PS X st t):PSs X [st] t:=by
 intro pins s σ H D I h;refine wpAny_execs_cons (thn (h1 pins s σ H D I h) λf s1 q=>?_);cases f with
 |next=>exact wpAny_execs_nil q
 |ret v=>exact q
 |brk=>exact q
 |cont=>exact q
def a9z:TS:=λD σ H=>D.bk σ H
theorem b0j:PS X (.Break pos) a9z:=λ_ _ σ H _ I h=>wpAny_Break ⟨σ,H,I,h⟩
theorem Inv.quiet{pins:List (Addr×Obj)}{σ:St}{H:Hp}{s:Shared}(I:Inv X pins σ H s):interactive X.env=false:=by simp[interactive,I.ok.kind]
def b3Q(te:TE):TS:=λD σ H=>te σ H λ_ H1=>D.nx σ H1
theorem b2C(he:PE X e te)(hs:swapsWith e none pos.line X.env=pure false:=by rfl):PS X (.Expr e pos) (b3Q te):=by
 intro pins s σ H D I h;exact wpAny_Expr_any (thn (he pins s σ H _ I h) λv s1 ⟨x,H1,I1,r1,q1⟩=>⟨σ,H1,I1,q1⟩) I.quiet hs
def b4q(te:TE):TS:=λD σ H=>te σ H D.rt
theorem b4C(he:PE X e te):PS X (.Return (some e) pos) (b4q te):=by
 intro pins s σ H D I h;exact wpAny_Return_some (thn (he pins s σ H _ I h) λv s1 ⟨x,H1,I1,r1,q1⟩=>⟨x,σ,H1,I1,r1,q1⟩)
def b6U:TS:=λD _ H=>D.rt .non H
def b5R(c:TT)(t u:TS):TS:=λD σ H=>c σ H λb H1=>if b=true then t D σ H1 else u D σ H1
theorem b6f{c:Expr}{a b:List Stmt}{tc:TT}(hc:PT X c tc)(ha:PSs X a t)(hb:PSs X b u):PS X (.If c a b pos) (b5R tc t u):=by
 intro pins s σ H D I h;refine wpAny_If (thn (hc pins s σ H _ I h) λd s1 ⟨H1,I1,q1⟩=>?_);cases d with
 |true=>exact ha pins s1 σ H1 D I1 q1
 |false=>exact hb pins s1 σ H1 D I1 q1
end
abbrev TG:=V->St->Hp->(St->Hp->Prop)->Prop
abbrev TGs:=List V->St->Hp->(St->Hp->Prop)->Prop
def PG(X:Cx)(target:Expr)(t:TG):Prop :=
 ∀(pins:List (Addr×Obj)) (s:Shared) (σ:St) (H:Hp) (v:V) (u:Value) (Q:St->Hp->Prop),Inv X pins σ H s->RelV v u->t v σ H Q ->
  wpAny (model X.prog X.w) X.A (assign target X.env u) (λ_ s'=>∃σ' H',Inv X pins σ' H' s'/\Q σ' H') X.xe s
def PGs(X:Cx)(ts:List Expr)(t:TGs):Prop :=
 ∀(pins:List (Addr×Obj)) (s:Shared) (σ:St) (H:Hp) (vs:List V) (us:List Value) (Q:St->Hp->Prop),Inv X pins σ H s->Vals vs us->t vs σ H Q ->
  wpAny (model X.prog X.w) X.A (assignInOrder ((assignEach ts X.env).map (·.2)) us) (λ_ s'=>∃σ' H',Inv X pins σ' H' s'/\Q σ' H') X.xe s
abbrev b5I:=V->V->V->Hp->(Hp->Prop)->Prop
def b6D(X:Cx)(t:b5I):Prop :=
 ∀(pins:List (Addr×Obj)) (s:Shared) (σ:St) (H:Hp) (o i v:V) (ov iv u:Value) (Q:Hp->Prop),Inv X pins σ H s->RelV o ov->RelV i iv->RelV v u->t o i v H Q ->
  wpAny (model X.prog X.w) X.A (setItem ov iv u) (λ_ s'=>∃H',Inv X pins σ H' s'/\Q H') X.xe s
abbrev TIp:=V->V->Hp->VK->Prop
section
variable {X:Cx}{pos:Pos}
def A9(i:Nat):TG:=λv σ H Q=>Q (σ.set i (some v)) H
theorem b2O{i:Nat}{x:Str}(hN:X.N.Nodup)(hi:X.N[i]?=some x)(hx:Loc X.env.scope x)(hf:X.fn x=true∨X.env.scope.names.lookup x=some .local:=by first|exact .inl rfl|exact .inr rfl|assumption):PG X (.Name x pos) (A9 i):=by
 intro pins s σ H v u Q I r h;exact wpAny_assign_Name (a1T I hN hi hx r (λs' I'=>⟨_,H,I',h⟩) hf)
def a8O:TGs:=λvs σ H Q=>vs=[]/\Q σ H
def Z5(t:TG)(u:TGs):TGs:=λvs σ H Q=>∃v r,vs=v::r/\t v σ H λσ' H'=>u r σ' H' Q
theorem b2M:PGs X [] a8O:=by
 intro pins s σ H vs us Q I r h;obtain⟨e,h⟩:=h;subst e;cases r;exact assignInOrder_nil ⟨σ,H,I,h⟩
theorem b0p{e:Expr}{es:List Expr}{t:TG}{u:TGs}(h1:PG X e t)(h2:PGs X es u)
  (hs:(assignEach (e::es) X.env).map (·.2)=assign e X.env::(assignEach es X.env).map (·.2):=by rfl):PGs X (e::es) (Z5 t u):=by
 intro pins s σ H vs us Q I r h;obtain⟨v,vr,e1,h⟩:=h;subst e1;cases r with
 |cons r rr =>
  rw[hs];refine assignInOrder_cons (thn (h1 pins s σ H _ _ _ I r h) λ_ s1 ⟨σ1,H1,I1,q1⟩=>?_);exact h2 pins s1 σ1 H1 _ _ Q I1 rr q1
def a6m(K:PySem.W.Frag)(n:Nat)(t:TGs):TG:=λv σ H Q=>∃a xs,v=.ref a/\SqT K H a xs/\xs.length=n/\t xs σ H Q
theorem b4I{es:List Expr}{k:Nat}{t:TGs}{n:Nat}(hc:X.calm=true)(h:PGs X es t)
  (hn:(assignEach es X.env).length=n:=by rfl) (hst:(assignEach es X.env).findIdx? (·.1)=none:=by rfl):PG X (.Tuple es k pos) (a6m X.K n t):=by
 intro pins s σ H v u Q I r hw;obtain⟨a,xs,e1,hq,hl,hw⟩:=hw;subst e1;cases r;obtain⟨its,rv,ht,hz⟩:=I.tuple hq;refine assign_Tuple_tuple (I.ok.hd hc) ht (by simp[hn,<-hl,rv.length]) hst λh' hx=>?_;have I1:Inv X pins σ H {s with heap:=h'}:=I.kept (t':=s.toks) λb o e=>hx b o (Nat.ne_of_lt (Heap.lt_size e)) e;exact h pins _ σ H xs _ Q I1 (by simpa using rv) hw
def b6A(to ti:TE)(t:b5I):TG:=λv σ H Q=>to σ H λo H1=>ti σ H1 λi H2=>t o i v H2 λH3=>Q σ H3
theorem b4J{o i:Expr}{to ti:TE}{t:b5I}(ho:PE X o to)(hi:PE X i ti)(hs:b6D X t)
  (ha:∀v,assign (.Subscript o i pos) X.env v=(do
   let ov <-holding [v] (eval o X.env)
   let iv <-holding [v,ov] (eval i X.env)
   standAt pos
   holding [v,ov,iv] (setItem ov iv v)
   release [v,ov,iv] []):=by intro _;rfl):PG X (.Subscript o i pos) (b6A to ti t):=by
 intro pins s σ H v u Q I r h;rw[ha];refine wpAny_bind (wpAny_holding (thn (ho pins s σ H _ I h) λov s1 ⟨x,H1,I1,r1,q1⟩=>?_));refine wpAny_bind (wpAny_holding (thn (hi pins s1 σ H1 _ I1 q1) λiv s2 ⟨y,H2,I2,r2,q2⟩=>?_));refine wpAny_bind (wpAny_standAt (wpAny_bind (wpAny_holding (thn (hs pins s2 σ H2 x y v ov iv u _ I2 r1 r2 r q2) λ_ s3 ⟨H3,I3,q3⟩=>?_))));exact wpAny_release ⟨σ,H3,I3,q3⟩
def a7X(te:TE)(g:TG):TS:=λD σ H=>te σ H λx H1=>g x σ H1 D.nx
theorem b4F{tg e:Expr}{te:TE}{g:TG}(he:PE X e te)(hg:PG X tg g)(hs:swapsWithSole [tg] e pos.line X.env=pure false:=by rfl)(hw:swappedStores [tg] e X.env=pure none:=by rfl)
  (h1:(assignEach [tg] X.env).map (·.2)=[assign tg X.env]:=by rfl):PS X (.Assign [tg] e pos) (a7X te g):=by
 intro pins s σ H D I h;refine wpAny_Assign_stores (thn (he pins s σ H _ I h) λv s1 ⟨x,H1,I1,r1,q1⟩=>?_) hs hw;rw[h1];exact thn (hg pins s1 σ H1 x v _ I1 r1 q1) λ_ s2 q=>q
theorem b4B{i:Nat}{x:Str}{e:Expr}{te:TE}{pos':Pos}(hN:X.N.Nodup)(hi:X.N[i]?=some x)(hx:Loc X.env.scope x)(he:PE X e te)(hs:swapsWith e (some (.Name x pos')) pos.line X.env=pure false:=by rfl)(hf:X.fn x=true∨X.env.scope.names.lookup x=some .local:=by first|exact .inl rfl|exact .inr rfl|assumption) :
  PS X (.Assign [.Name x pos'] e pos) (a7X te (A9 i)):=by
 intro pins s σ H D I h;refine wpAny_Assign_Name (thn (he pins s σ H _ I h) λv s1 ⟨y,H1,I1,r1,q1⟩=>?_) hs;exact a1T I1 hN hi hx r1 (λs2 I2=>⟨_,H1,I2,q1⟩) hf
def ipI(f:Int->Int->Int):TIp:=λx y H Q=>∃i j,x=.int i/\y=.int j/\Q (.int (f i j)) H
def a9u(c:TT)(tb:TS):TS:=λD σ H=>∃W:Nat->St->Hp->Prop,(∃m,W m σ H)/\∀m σ H,W m σ H ->
 c σ H λb H1=>if b=true then ∃N:St->Hp->Prop,(∀σ' H',N σ' H'->∃m',m'<m/\W m' σ' H')/\tb {D with nx:=N,ct:=N,bk:=D.nx} σ H1 else D.nx σ H1
theorem b0g{c:Expr}{body:List Stmt}{tc:TT}{tb:TS}(hp:PassesOwn (model X.prog X.w) X.A X.env X.xe)(hc:PT X c tc)(hb:PSs X body tb):PS X (.While c body [] pos) (a9u tc tb):=by
 intro pins s σ H D I h;obtain⟨W,⟨m0,w0⟩,turn⟩:=h;refine wpAny_While (codeAny_whileLoop (λn s'=>∃σ' H',Inv X pins σ' H' s'/\W n σ' H') ?_ m0 ⟨σ,H,I,w0⟩);rintro n s1 ⟨σ1,H1,I1,w1⟩;refine wpAny_passesOwn hp (thn (hc pins s1 σ1 H1 _ I1 (turn n σ1 H1 w1)) λb s2 ⟨H2,I2,q2⟩=>?_);cases b with
 |true =>
  obtain⟨N,hN,q2⟩:=q2;rw[if_pos rfl];refine wpAny_passesOwn hp (thn (hb pins s2 σ1 H2 _ I2 q2) λf s3 q3=>?_);cases f with
  |next =>
   obtain⟨σ3,H3,I3,n3⟩:=q3;obtain⟨m',hm,w3⟩:=hN σ3 H3 n3;exact⟨m',hm,σ3,H3,I3,w3⟩
  |cont =>
   obtain⟨σ3,H3,I3,n3⟩:=q3;obtain⟨m',hm,w3⟩:=hN σ3 H3 n3;exact⟨m',hm,σ3,H3,I3,w3⟩
  |brk=>exact q3
  |ret v=>exact q3
 |false =>
  rw[if_neg Bool.false_ne_true];exact wpAny_execs_nil ⟨σ1,H2,I2,q2⟩
end
structure It where
 go:Nat->Hp->Prop
 yld:Nat->Hp->V->Hp->Prop
 stop:Nat->Hp->Prop
def a1d(X:Cx)(pins:List (Addr×Obj))(H:Hp)(b:Addr):Prop :=
 H b=none/\b≠X.env.locals/\b∉X.fs/\(b∈X.ex∨X.s₀.heap.objs.size<=b)/\(∀x c,X.env.cells.lookup x=some c->c≠b)/\∀p∈X.pn++pins,p.1≠b
theorem Inv.fpOk{X:Cx}{pins:List (Addr×Obj)}{σ:St}{H H':Hp}{s:Shared}{b:Addr}(I:Inv X pins σ H s)(hb:s.heap.objs.size<=b)(hn:H' b=none):a1d X pins H' b:=by
 refine⟨hn,Nat.ne_of_gt (Nat.lt_of_lt_of_le I.lt hb),I.nofs hb,.inr (Nat.le_trans I.sz hb),λx c e z=>?_,λp hp z=>?_⟩
 .obtain⟨v,q⟩:=I.cell x c e;exact absurd (Nat.lt_of_lt_of_le q.lt (by rw[z];exact hb)) (Nat.lt_irrefl _)
 .exact absurd (Nat.lt_of_lt_of_le (Heap.lt_size (I.pin p hp).1) (by rw[z];exact hb)) (Nat.lt_irrefl _)
structure Turn(P:Program)(w:World)(K:PySem.W.Frag)(tg:Expr)(J:It)(fp:List Addr)(it:Addr)(tn:Nat->Heap->Prop):Prop where
 mem:it∈fp
 obj:∀i h,tn i h->∀b∈fp,∃o,h.get? b=some o/\∀v,o.data≠.cell v
 keep:∀i h h',tn i h->(∀b∈fp,∀o,h.get? b=some o->h'.get? b=some o)->tn i h'
 item:∀(X:Cx),X.prog=P->X.w=w->X.K=K->X.calm=true->∀(i:Nat) (pins:List (Addr×Obj)) (s:Shared) (σ:St) (H:Hp) (E:Value->Shared->Prop),Inv X pins σ H s->(∀b∈fp,a1d X pins H b)->tn i s.heap->J.go i H ->
  wpAny (model P w) X.A (pyNext (.ref it)) (λr s1=>∃u,r=some u /\
   wpAny (model P w) X.A (letOwnedTupleGo tg (.ref it) u) (λ_ s2=>∃x H',Inv X pins σ H' s2/\RelV x u/\J.yld i H x H'/\tn (i+1) s2.heap/\∀b∈fp,H' b=none) E s1) E s
 done:∀(X:Cx),X.prog=P->X.w=w->X.K=K->X.calm=true->∀(i:Nat) (pins:List (Addr×Obj)) (s:Shared) (σ:St) (H:Hp) (E:Value->Shared->Prop),Inv X pins σ H s->(∀b∈fp,a1d X pins H b)->tn i s.heap->J.stop i H ->
  wpAny (model P w) X.A (pyNext (.ref it)) (λr s1=>r=none/\Inv X pins σ H s1) E s
 self:∀(A:Around) (i:Nat) (s:Shared) (Q:Value->Shared->Prop) (E:Value->Shared->Prop),tn i s.heap->Q (.ref it) s->wpAny (model P w) A (pyIter (.ref it)) Q E s
abbrev TI:=St->Hp->(It->Hp->Prop)->Prop
def PIE(X:Cx)(pins:List (Addr×Obj))(σ:St)(tg:Expr)(R:It->Hp->Prop)(itv:Value)(s2:Shared):Prop :=
 ∃(it:Addr) (fp:List Addr) (tn:Nat->Heap->Prop) (J:It) (H':Hp),itv=.ref it/\Inv X pins σ H' s2/\Turn X.prog X.w X.K tg J fp it tn/\tn 0 s2.heap/\(∀b∈fp,a1d X pins H' b)/\R J H'
def PI(X:Cx)(tg iter:Expr)(wi:TI):Prop :=
 ∀(pins:List (Addr×Obj)) (s:Shared) (σ:St) (H:Hp) (R:It->Hp->Prop),Inv X pins σ H s->wi σ H R ->
  wpAny (model X.prog X.w) X.A (eval iter X.env) (λv s1=>wpAny (model X.prog X.w) X.A (pyIter v) (PIE X pins σ tg R) X.xe s1) X.xe s
theorem b1t{M:Model}{A:Around}{E:Value->Shared->Prop}{s:Shared}{tg:Expr}{it:Addr}{u:Value}{o:Obj}{n:String}{vs:Array Value}{Q:Unit->Shared->Prop}(ho:s.heap.get? it=some o)(hc:o.cls=.type n)(hd:o.data=.fields vs)
  (hn:["enumerate","zip","dict_itemiterator","dict_reverseitemiterator","odict_iterator","itertools.zip_longest","itertools.pairwise"].contains n=false) (hQ:Q () s):wpAny M A (letOwnedTupleGo tg (.ref it) u) Q E s:=by
 unfold letOwnedTupleGo;cases tg<;>first
  |exact wpAny_pure hQ
  | (cases u <;> first
    |exact wpAny_pure hQ
    | (refine wpAny_bind (wpAny_load ho ?_)
       rw[hc,hd];show wpAny M A (if (["enumerate","zip","dict_itemiterator","dict_reverseitemiterator","odict_iterator","itertools.zip_longest","itertools.pairwise"].contains n && vs[0]? == some (rawInt _))=true then _ else _) Q E s;rw[if_neg (by intro h;rw[hn,Bool.false_and]at h;cases h)];exact wpAny_pure hQ))
noncomputable def Itl(K:PySem.W.Frag)(a:Addr):It :=
 ⟨λi H=>∃xs x,SqL K H a xs/\xs[i]?=some x,λi H x H'=>H'=H/\∀xs,SqL K H a xs->xs[i]?=some x,λi H=>∃xs,SqL K H a xs/\xs.length<=i⟩
noncomputable def Itt(K:PySem.W.Frag)(a:Addr):It :=
 ⟨λi H=>∃xs x,SqT K H a xs/\xs[i]?=some x,λi H x H'=>H'=H/\∀xs,SqT K H a xs->xs[i]?=some x,λi H=>∃xs,SqT K H a xs/\xs.length<=i⟩
noncomputable def Itr(lo:Int)(n:Nat):It:=⟨λi _=>i<n,λi H x H'=>H'=H/\x=.int (lo+i),λi _=>n<=i⟩
theorem a7U{P:Program}{w:World}{K:PySem.W.Frag}{tg:Expr}(a it:Addr):Turn P w K tg (Itl K a) [it] it (λi h=>h.IsListIter it a i) where
 mem:=by simp
 obj:=λi h st b hb=>by
  have e:b=it:=by simpa using hb
  subst e;obtain⟨o,e,c,d⟩:=st;exact⟨o,e,λv z=>by rw[d]at z;cases z⟩
 keep:=λi h h' st k=>st.at λo e=>k it (by simp) o e
 item:=by
  intro X hP hw hK hc i pins s σ H E I hf st hg;subst hP hw hK;obtain⟨xs,x,hq,hx⟩:=hg;obtain⟨its,rv,p,hz⟩:=I.list hq;obtain⟨u,hu,ru⟩:=rv.get hx;obtain⟨f0,f1,f2,f3,f4,f5⟩:=hf it (by simp);refine wpAny_pyNext_list_item st p.isList (x:=u) (by simpa using hu) λh' st' sb=>?_;have I1:Inv X pins σ H {s with heap:=h'}:=I.turned (t':=s.toks) (λb o hb e=>(sb.2 b hb).trans e) f0 f1 f3 f4 f5;obtain⟨o,e,c,d⟩:=id st';exact⟨u,rfl,b1t (s:={s with heap:=h'}) e c d (by decide) ⟨x,H,I1,ru,⟨rfl,λys hy=>by rw[I.list_inj hy hq];exact hx⟩,st',λb hb=>(hf b hb).1⟩⟩
 done:=by
  intro X hP hw hK hc i pins s σ H E I hf st hg;subst hP hw hK;obtain⟨xs,hq,hx⟩:=hg;obtain⟨its,rv,p,hz⟩:=I.list hq;obtain⟨f0,f1,f2,f3,f4,f5⟩:=hf it (by simp);have hl:=rv.length;exact wpAny_pyNext_list_end (I.ok.hd hc) st p.isList (by simp;omega) λh' eb=>⟨rfl,I.turned (t':=s.toks) (λb o hb e=>eb b o hb e) f0 f1 f3 f4 f5⟩
 self:=λ_ _ _ _ _ st h=>wpAny_pyIter_listiter st h
theorem a5F{P:Program}{w:World}{K:PySem.W.Frag}{tg:Expr}(a it:Addr):Turn P w K tg (Itt K a) [it] it (λi h=>h.IsTupleIter it a i) where
 mem:=by simp
 obj:=λi h st b hb=>by
  have e:b=it:=by simpa using hb
  subst e;obtain⟨o,e,c,d⟩:=st;exact⟨o,e,λv z=>by rw[d]at z;cases z⟩
 keep:=λi h h' st k=>st.at λo e=>k it (by simp) o e
 item:=by
  intro X hP hw hK hc i pins s σ H E I hf st hg;subst hP hw hK;obtain⟨xs,x,hq,hx⟩:=hg;obtain⟨its,rv,p,hz⟩:=I.tuple hq;obtain⟨u,hu,ru⟩:=rv.get hx;obtain⟨f0,f1,f2,f3,f4,f5⟩:=hf it (by simp);refine wpAny_pyNext_tuple_item st (show s.heap.IsTuple a its.toArray from p) (x:=u) (by simpa using hu) λh' st' sb=>?_;have I1:Inv X pins σ H {s with heap:=h'}:=I.turned (t':=s.toks) (λb o hb e=>(sb.2 b hb).trans e) f0 f1 f3 f4 f5;obtain⟨o,e,c,d⟩:=id st';exact⟨u,rfl,b1t (s:={s with heap:=h'}) e c d (by decide) ⟨x,H,I1,ru,⟨rfl,λys hy=>by rw[I.tuple_inj hy hq];exact hx⟩,st',λb hb=>(hf b hb).1⟩⟩
 done:=by
  intro X hP hw hK hc i pins s σ H E I hf st hg;subst hP hw hK;obtain⟨xs,hq,hx⟩:=hg;obtain⟨its,rv,p,hz⟩:=I.tuple hq;obtain⟨f0,f1,f2,f3,f4,f5⟩:=hf it (by simp);have hl:=rv.length;exact wpAny_pyNext_tuple_end (I.ok.hd hc) st (show s.heap.IsTuple a its.toArray from p) (by simp;omega) λh' eb=>⟨rfl,I.turned (t':=s.toks) (λb o hb e=>eb b o hb e) f0 f1 f3 f4 f5⟩
 self:=λ_ _ _ _ _ st h=>wpAny_pyIter_tupleiter st h
theorem a5G{P:Program}{w:World}{K:PySem.W.Frag}{tg:Expr}(it:Addr)(lo:Int)(n:Nat):Turn P w K tg (Itr lo n) [it] it (λi h=>IsRangeIter h it (lo+(i:Nat)*1) ((n:Int)-(i:Nat)) 1) where
 mem:=by simp
 obj:=λi h st b hb=>by
  have e:b=it:=by simpa using hb
  subst e;exact⟨_,st,λv z=>by
   have z':Data.fields _=Data.cell v:=z;cases z'⟩
 keep:=λi h h' st k=>k it (by simp) _ st
 item:=by
  intro X hP hw hK hc i pins s σ H E I hf st hg;subst hP hw hK;obtain⟨f0,f1,f2,f3,f4,f5⟩:=hf it (by simp);have W:=Walks.range (prog:=X.prog) (w:=X.w) (I.ok.hd hc) it lo 1 n;refine W.item i s _ _ hg st λv h' tk hv st' kk=>?_;obtain⟨t,rfl⟩:=hv;have I1:Inv X pins σ H {s with heap:=h',toks:=tk}:=I.turned (λb o hb e=>kk b o (by simpa using hb) e) f0 f1 f3 f4 f5;refine⟨_,rfl,b1t (s:={s with heap:=h',toks:=tk}) (n:="range_iterator") st' rfl rfl (by decide) ⟨.int (lo+i),H,I1,⟨t,?_⟩,⟨rfl,rfl⟩,st',λb hb=>(hf b hb).1⟩⟩;rw[Int.mul_one]
 done:=by
  intro X hP hw hK hc i pins s σ H E I hf st hg;subst hP hw hK;obtain⟨f0,f1,f2,f3,f4,f5⟩:=hf it (by simp);exact wpAny_pyNext_range_end (I.ok.hd hc) st (by have:n<=i:=hg;omega) λh' eb=>⟨rfl,I.turned (t':=s.toks) (λb o hb e=>eb b o hb e) f0 f1 f3 f4 f5⟩
 self:=λ_ _ _ _ _ st h=>wpAny_pyIter_rangeiter st h
section
variable {X:Cx}{tg:Expr}
def b1q(K:PySem.W.Frag)(tl:TE):TI:=λσ H R=>tl σ H λx H1=>∃a,x=.ref a/\(∃xs,SqL K H1 a xs)/\R (Itl K a) H1
def b3x(K:PySem.W.Frag)(tl:TE):TI:=λσ H R=>tl σ H λx H1=>∃a,x=.ref a/\(∃xs,SqT K H1 a xs)/\R (Itt K a) H1
theorem b2L{l:Expr}{tl:TE}(hl:PE X l tl):PI X tg l (b1q X.K tl):=by
 intro pins s σ H R I h;refine thn (hl pins s σ H _ I h) λv s1 ⟨x,H1,I1,r1,q1⟩=>?_;obtain⟨a,e,⟨xs,hq⟩,q⟩:=q1;subst e;cases r1;obtain⟨its,rv,p,hz⟩:=I1.list hq;refine wpAny_pyIter_list p.isList ?_;refine⟨s1.heap.objs.size,[s1.heap.objs.size],_,_,H1,rfl,I1.kept (t':=s1.toks) λb o e=>Heap.get?_push_of_some _ e,a7U a _,⟨_,Heap.get?_push_size _ rfl,rfl,rfl⟩,λb hb=>?_,q⟩;have e:b=s1.heap.objs.size:=by simpa using hb
 subst e;exact I1.fpOk (Nat.le_refl _) (I1.hok.fresh (Nat.le_refl _))
theorem b4H{l:Expr}{tl:TE}(hl:PE X l tl):PI X tg l (b3x X.K tl):=by
 intro pins s σ H R I h;refine thn (hl pins s σ H _ I h) λv s1 ⟨x,H1,I1,r1,q1⟩=>?_;obtain⟨a,e,⟨xs,hq⟩,q⟩:=q1;subst e;cases r1;obtain⟨its,rv,p,hz⟩:=I1.tuple hq;refine wpAny_pyIter_tuple (show s1.heap.IsTuple a its.toArray from p) ?_;refine⟨s1.heap.objs.size,[s1.heap.objs.size],_,_,H1,rfl,I1.kept (t':=s1.toks) λb o e=>Heap.get?_push_of_some _ e,a5F a _,⟨_,Heap.get?_push_size _ rfl,rfl,rfl⟩,λb hb=>?_,q⟩;have e:b=s1.heap.objs.size:=by simpa using hb
 subst e;exact I1.fpOk (Nat.le_refl _) (I1.hok.fresh (Nat.le_refl _))
theorem a9W{pins:List (Addr×Obj)}{σ:St}{H:Hp}{s:Shared}{R:It->Hp->Prop}{E:Value->Shared->Prop}{lo hi:Int}{t u v:Tok}{tk:Nat}(I:Inv X pins σ H s)(h1 : -(2 ^ 62)<=lo)(h2:lo<2 ^ 62)(h3 : -(2 ^ 62)<=hi)(h4:hi<2 ^ 62)
  (q:R (Itr lo (hi-lo).toNat) H):wpAny (model X.prog X.w) X.A (pyIter (.ref s.heap.objs.size)) (PIE X pins σ tg R) E {s with heap:=s.heap.push {cls:=.type "range",data:=.fields #[.int lo t,.int hi u,.int 1 v]},toks:=tk}:=by
 refine wpAny_pyIter_range (IsRange.new ..) (small_one h1 h2 h3 h4) ?_;have I1:Inv X pins σ H {s with heap:=s.heap.push {cls:=.type "range",data:=.fields #[.int lo t,.int hi u,.int 1 v]},toks:=tk}:=I.kept λb o e=>Heap.get?_push_of_some _ e;refine⟨(s.heap.push {cls:=.type "range",data:=.fields #[.int lo t,.int hi u,.int 1 v]}).objs.size,[(s.heap.push {cls:=.type "range",data:=.fields #[.int lo t,.int hi u,.int 1 v]}).objs.size],_,_,H,rfl,
  I1.kept (t':=tk) λb o e=>Heap.get?_push_of_some _ e,a5G _ lo (hi-lo).toNat,?_,λb hb=>?_,q⟩
 .have e1:lo+((0:Nat):Int)*1=lo:=by simp
  have e2:(((hi-lo).toNat:Nat):Int)-((0:Nat):Int)=Builtin.Range.rangeSize lo hi 1:=by rw[rangeSize_one];split<;>omega
  show IsRangeIter _ _ (lo+((0:Nat):Int)*1) ((((hi-lo).toNat:Nat):Int)-((0:Nat):Int)) 1;rw[e1,e2];exact Heap.get?_push_size _ rfl
 .have e:b=(s.heap.push {cls:=.type "range",data:=.fields #[.int lo t,.int hi u,.int 1 v]}).objs.size:=by simpa using hb
  subst e;exact I1.fpOk (Nat.le_refl _) (I1.hok.fresh (Nat.le_refl _))
def b4h(ta:TA):TI:=λσ H R=>ta σ H λvs H1=>∃j:Int,vs=[.int j] /\ -(2 ^ 62)<=j/\j<2 ^ 62/\R (Itr 0 j.toNat) H1
theorem a8r{a:Expr}{ta:TA}{p pos:Pos}(hg:Gl X "range")(hm:X.mg "range"=none)(ha:PA X [a] ta)(hs:starEach [a] X.env=[(false,eval a X.env)]:=by rfl):PI X tg (.Call (.Name "range" p) [a] [] pos) (b4h ta):=by
 intro pins s σ H R I h;refine Call_ (a2p I hg hm boot_range (PyProof.Rows.callWith_type1 (thn (ha pos pins s σ H _ I h) λus s1 ⟨vs,H1,I1,r1,q1⟩=>?_) hs rfl));obtain⟨j,e,q1,q2,q⟩:=q1;subst e;cases r1 with
 |cons r rr =>
  cases rr;obtain⟨t,rfl⟩:=r;exact call_range_1 (a9W I1 (by omega) (by omega) q1 q2 (by simpa using q))
def b5S(wi:TI)(g:TG)(tb:TS):TS:=λD σ H=>wi σ H λJ H1=>∃W:Nat->Nat->St->Hp->Prop,(∃m,W 0 m σ H1)/\∀i m σ H,W i m σ H ->
 (J.stop i H/\D.nx σ H)∨(J.go i H/\∃N:St->Hp->Prop,(∀σ' H',N σ' H'->∃m',m'<m/\W (i+1) m' σ' H')/\∀x H',J.yld i H x H'->g x σ H' λσ2 H2=>tb {D with nx:=N,ct:=N,bk:=D.nx} σ2 H2)
noncomputable def a2e(fp:List Addr)(h:Heap):List (Addr×Obj):=fp.filterMap λb=>(h.get? b).map λo=>(b,o)
theorem Q3{fp:List Addr}{h:Heap}{b:Addr}{o:Obj}(hb:b∈fp)(e:h.get? b=some o):(b,o)∈a2e fp h:=List.mem_filterMap.mpr ⟨b,hb,by rw[e];rfl⟩
theorem a8B{fp:List Addr}{h:Heap}{p:Addr×Obj}(hp:p∈a2e fp h):p.1∈fp/\h.get? p.1=some p.2:=by
 obtain⟨b,hb,e⟩:=List.mem_filterMap.mp hp;cases q:h.get? b with
 |none=>rw[q]at e;cases e
 |some o =>
  rw[q]at e;have e':(b,o)=p:=Option.some.inj e;subst e';exact⟨hb,q⟩
theorem Inv.pinned{pins:List (Addr×Obj)}{σ:St}{H:Hp}{s:Shared}{fp:List Addr}(I:Inv X pins σ H s)(hf:∀b∈fp,a1d X pins H b)(ho:∀b∈fp,∃o,s.heap.get? b=some o/\∀v,o.data≠.cell v):Inv X (pins++a2e fp s.heap) σ H s :=
 I.pins_of λp hp=>(List.mem_append.mp hp).elim (λz=>I.pin p (List.mem_append_right _ z)) λz=>by
  obtain⟨hb,e⟩:=a8B z;obtain⟨f0,f1,f2,_⟩:=hf p.1 hb;obtain⟨o,e',d⟩:=ho p.1 hb;rw[e]at e';cases e';exact⟨e,f0,f1,f2,d⟩
theorem Inv.unpinned{pins pl:List (Addr×Obj)}{σ:St}{H:Hp}{s:Shared}(I:Inv X (pins++pl) σ H s):Inv X pins σ H s:=I.pins_of λp hp=>I.pin p (List.mem_append_right _ (List.mem_append_left _ hp))
theorem b4D{iter:Expr}{body:List Stmt}{wi:TI}{g:TG}{tb:TS}{pos:Pos}(hp:PassesOwn (model X.prog X.w) X.A X.env X.xe)(hc:X.calm=true)(hi:PI X tg iter wi)(hg:PG X tg g)(hb:PSs X body tb)
  (hs:∀x,foldedSetIterable iter X.env x=pure x:=by intro _;rfl):PS X (.For tg iter body [] pos) (b5S wi g tb):=by
 intro pins s σ H D I h;refine wpAny_For (thn (hi pins s σ H _ I h) λv s1 h1=>thn h1 λitv s2 h2=>?_) hs;obtain⟨it,fp,tn,J,H2,e,I2,T,st2,f2,W,⟨m0,w0⟩,turn⟩:=h2;subst e;have stat:∀{H':Hp},(∀b∈fp,H' b=none)->∀b∈fp,a1d X pins H' b:=λhn b hb=>⟨hn b hb,(f2 b hb).2⟩;refine codeAny_forLoop_any (λn s'=>∃i σ' H',Inv X pins σ' H' s'/\tn i s'.heap/\(∀b∈fp,H' b=none)/\W i n σ' H') ?_ m0 ⟨0,σ,H2,I2,st2,λb hb=>(f2 b hb).1,w0⟩;rintro n s3 ⟨i,σ3,H3,I3,st3,fr3,w3⟩;rcases turn i n σ3 H3 w3 with⟨stop,qn⟩|⟨go,N,hN,step⟩
 .refine wpAny_passesOwn hp (thn (T.done X rfl rfl rfl hc i pins s3 σ3 H3 X.xe I3 (stat fr3) st3 stop) λr s4 ⟨hr,I4⟩=>?_);subst hr;exact wpAny_execs_nil ⟨σ3,H3,I4,qn⟩
 .refine wpAny_passesOwn hp (thn (T.item X rfl rfl rfl hc i pins s3 σ3 H3 X.xe I3 (stat fr3) st3 go) λr s4 ⟨u,hr,h4⟩=>?_);subst hr;refine wpAny_passesOwn hp (thn h4 λ_ s5 ⟨x,H5,I5,r5,y5,st5,fr5⟩=>?_);have I5':=I5.pinned (stat fr5) (T.obj _ _ st5);refine wpAny_passesOwn hp (thn (hg _ s5 σ3 H5 x u _ I5' r5 (step x H5 y5)) λ_ s6 ⟨σ6,H6,I6,q6⟩=>?_);refine wpAny_passesOwn hp (thn (hb _ s6 σ6 H6 _ I6 q6) λf s7 q7=>?_);have again:∀{σ7:St}{H7:Hp},Inv X (pins++a2e fp s5.heap) σ7 H7 s7->N σ7 H7->∃m,m<n/\∃i σ' H',Inv X pins σ' H' s7/\tn i s7.heap/\(∀b∈fp,H' b=none)/\W i m σ' H':=λ{σ7 H7} I7 n7=>by
   obtain⟨m',hm,w7⟩:=hN σ7 H7 n7;refine⟨m',hm,i+1,σ7,H7,I7.unpinned,T.keep _ _ _ st5 λb hb o e=>(I7.pin (b,o) (List.mem_append_right _ (List.mem_append_right _ (Q3 hb e)))).1,λb hb=>?_,w7⟩;obtain⟨o,e,d⟩:=T.obj _ _ st5 b hb;exact(I7.pin (b,o) (List.mem_append_right _ (List.mem_append_right _ (Q3 hb e)))).2.1
  cases f with
  |next=>obtain⟨σ7,H7,I7,n7⟩:=q7;exact again I7 n7
  |cont=>obtain⟨σ7,H7,I7,n7⟩:=q7;exact again I7 n7
  |brk=>obtain⟨σ7,H7,I7,q7⟩:=q7;exact⟨σ7,H7,I7.unpinned,q7⟩
  |ret v=>obtain⟨x7,σ7,H7,I7,r7,q7⟩:=q7;exact⟨x7,σ7,H7,I7.unpinned,r7,q7⟩
end
theorem V9{K:PySem.W.Frag}{a:Addr}{xs:List V}{g:TG}{tb:TS}{D:Ends}{σ:St}{H:Hp}(Pv:Nat->St->Hp->Prop)(h0:Pv 0 σ H)(hl:∀i σ H,i<=xs.length->Pv i σ H->SqL K H a xs)
  (hs:∀i x σ H,xs[i]?=some x->Pv i σ H->g x σ H λσ2 H2=>tb {D with nx:=Pv (i+1),ct:=Pv (i+1),bk:=D.nx} σ2 H2) (hd:∀σ H,Pv xs.length σ H->D.nx σ H) :
  ∃W:Nat->Nat->St->Hp->Prop,(∃m,W 0 m σ H)/\∀i m σ H,W i m σ H ->
   ((Itl K a).stop i H/\D.nx σ H)∨((Itl K a).go i H/\∃N:St->Hp->Prop,(∀σ' H',N σ' H'->∃m',m'<m/\W (i+1) m' σ' H')/\∀x H',(Itl K a).yld i H x H'->g x σ H' λσ2 H2=>tb {D with nx:=N,ct:=N,bk:=D.nx} σ2 H2):=by
 refine⟨λi m σ H=>m=xs.length-i/\i<=xs.length/\Pv i σ H,⟨xs.length,by simp,Nat.zero_le _,h0⟩,?_⟩;rintro i m σ H ⟨rfl,hi,p⟩;have q:=hl i σ H hi p;by_cases hlt:i<xs.length
 .refine .inr ⟨⟨xs,xs[i],q,by simp[hlt]⟩,Pv (i+1),λσ' H' p'=>⟨xs.length-(i+1),by omega,rfl,hlt,p'⟩,λx H' y=>?_⟩;obtain⟨e,y⟩:=y;subst e;exact hs i x σ _ (y xs q) p
 .have e:i=xs.length:=by omega
  subst e;exact .inl ⟨⟨xs,q,Nat.le_refl _⟩,hd σ H p⟩
theorem X8{lo:Int}{n:Nat}{g:TG}{tb:TS}{D:Ends}{σ:St}{H:Hp}(Pv:Nat->St->Hp->Prop)(h0:Pv 0 σ H)
  (hs:∀i σ H,i<n->Pv i σ H->g (.int (lo+i)) σ H λσ2 H2=>tb {D with nx:=Pv (i+1),ct:=Pv (i+1),bk:=D.nx} σ2 H2) (hd:∀σ H,Pv n σ H->D.nx σ H) :
  ∃W:Nat->Nat->St->Hp->Prop,(∃m,W 0 m σ H)/\∀i m σ H,W i m σ H ->
   ((Itr lo n).stop i H/\D.nx σ H)∨((Itr lo n).go i H/\∃N:St->Hp->Prop,(∀σ' H',N σ' H'->∃m',m'<m/\W (i+1) m' σ' H')/\∀x H',(Itr lo n).yld i H x H'->g x σ H' λσ2 H2=>tb {D with nx:=N,ct:=N,bk:=D.nx} σ2 H2):=by
 refine⟨λi m σ H=>m=n-i/\i<=n/\Pv i σ H,⟨n,by simp,Nat.zero_le _,h0⟩,?_⟩;rintro i m σ H ⟨rfl,hi,p⟩;by_cases hlt:i<n
 .refine .inr ⟨hlt,Pv (i+1),λσ' H' p'=>⟨n-(i+1),by omega,rfl,hlt,p'⟩,λx H' y=>?_⟩;obtain⟨e,y⟩:=y;subst e y;exact hs i σ _ hlt p
 .have e:i=n:=by omega
  subst e;exact .inl ⟨Nat.le_refl _,hd σ H p⟩
abbrev R2:=V->V->Hp->VK->Prop
def OpR(X:Cx)(f:Value->Value->Sem Value)(r:R2):Prop :=
 ∀(pins:List (Addr×Obj)) (s:Shared) (σ:St) (H:Hp) (x y:V) (v u:Value) (Q:VK),Inv X pins σ H s->RelV x v->RelV y u->r x y H Q ->
  wpAny (model X.prog X.w) X.A (f v u) (EP X pins σ Q) X.xe s
def UnR(X:Cx)(f:Value->Sem Value)(r:V->Hp->VK->Prop):Prop :=
 ∀(pins:List (Addr×Obj)) (s:Shared) (σ:St) (H:Hp) (x:V) (v:Value) (Q:VK),Inv X pins σ H s->RelV x v->r x H Q ->
  wpAny (model X.prog X.w) X.A (f v) (EP X pins σ Q) X.xe s
def E1(X:Cx)(f:Value)(r:List V->Hp->VK->Prop):Prop :=
 ∀(pins:List (Addr×Obj)) (s:Shared) (σ:St) (H:Hp) (xs:List V) (us:List Value) (Q:VK),Inv X pins σ H s->Vals xs us->r xs H Q ->
  wpAny (model X.prog X.w) X.A (call f us) (EP X pins σ Q) X.xe s
def b6S(X:Cx)(r:V->Hp->(Bool->Hp->Prop)->Prop):Prop :=
 ∀(pins:List (Addr×Obj)) (s:Shared) (σ:St) (H:Hp) (x:V) (v:Value) (Q:Bool->Hp->Prop),Inv X pins σ H s->RelV x v->r x H Q ->
  wpAny (model X.prog X.w) X.A (truthy v) (TP X pins σ Q) X.xe s
def tOp(r:R2)(ta tb:TE):TE:=λσ H Q=>ta σ H λx H1=>tb σ H1 λy H2=>r x y H2 Q
def tUn(r:V->Hp->VK->Prop)(ta:TE):TE:=λσ H Q=>ta σ H λx H1=>r x H1 Q
def rI(C:Int->Int->Prop)(g:Int->Int->V):R2:=λx y H Q=>∃i j,x=.int i/\y=.int j/\C i j/\Q (g i j) H
def rI0(g:Int->Int->V):R2:=λx y H Q=>∃i j,x=.int i/\y=.int j/\Q (g i j) H
def rU(g:Int->V):V->Hp->VK->Prop:=λx H Q=>∃i,x=.int i/\Q (g i) H
section
variable {X:Cx}{a b c:Expr}{ta tb tc:TE}{pos:Pos}
theorem b5y(ha:PE X a ta)(hb:PE X b tb){pins:List (Addr×Obj)}{s:Shared}{σ:St}{H:Hp}{R:V->V->Hp->Prop}(I:Inv X pins σ H s)
  (h:ta σ H λx H1=>tb σ H1 λy H2=>R x y H2) {Q:Value->Shared->Prop}{f:Value->Value->Sem Value}
  (hf:∀v u s2 x y H2,Inv X pins σ H2 s2->RelV x v->RelV y u->R x y H2->wpAny (model X.prog X.w) X.A (f v u) Q X.xe s2) :
  wpAny (model X.prog X.w) X.A (eval a X.env) (λv s₁=>wpAny (model X.prog X.w) X.A (eval b X.env) (λu s₂=>wpAny (model X.prog X.w) X.A (f v u) Q X.xe s₂) X.xe s₁) X.xe s:=by
 refine thn (ha pins s σ H _ I h) λv s1 ⟨x,H1,I1,r1,q1⟩=>?_;refine thn (hb pins s1 σ H1 _ I1 q1) λu s2 ⟨y,H2,I2,r2,q2⟩=>?_;exact hf v u s2 x y H2 I2 r1 r2 q2
theorem a0s{op:Operator}{r:R2}(ho:OpR X (binaryOp op) r)(ha:PE X a ta)(hb:PE X b tb):PE X (.BinOp a op b pos) (tOp r ta tb):=by
 intro pins s σ H Q I h;exact wpAny_BinOp (b5y ha hb I h λv u s2 x y H2 I2 rx ry q=>ho pins s2 σ H2 x y v u Q I2 rx ry q)
theorem b6h{op:UnaryOp}{r:V->Hp->VK->Prop}(ho:UnR X (unaryOp op) r)(ha:PE X a ta):PE X (.UnaryOp op a pos) (tUn r ta):=by
 intro pins s σ H Q I h;exact UnaryOp_ (thn (ha pins s σ H _ I h) λv s1 ⟨x,H1,I1,r1,q1⟩=>ho pins s1 σ H1 x v Q I1 r1 q1)
theorem opI{f:Value->Value->Sem Value}{C:Int->Int->Prop}{g:Int->Int->Int}
  (rule:∀(i j:Int) (t u:Tok) (s:Shared) (Q:Value->Shared->Prop) (E:Value->Shared->Prop),C i j->Q (.int (g i j) s.toks) {s with toks:=s.toks+1}->wpAny (model X.prog X.w) X.A (f (.int i t) (.int j u)) Q E s) :
  OpR X f (rI C λi j=>.int (g i j)):=by
 intro pins s σ H x y v u Q I rx ry h;obtain⟨i,j,rfl,rfl,hc,q⟩:=h;obtain⟨t,rfl⟩:=rx;obtain⟨t',rfl⟩:=ry;exact rule i j t t' s _ _ hc ⟨.int (g i j),H,I.tok _,⟨_,rfl⟩,q⟩
theorem b6q{f:Value->Value->Sem Value}{g:Int->Int->Int}
  (rule:∀(i j:Int) (t u:Tok) (s:Shared) (Q:Value->Shared->Prop) (E:Value->Shared->Prop),Q (.int (g i j) s.toks) {s with toks:=s.toks+1}->wpAny (model X.prog X.w) X.A (f (.int i t) (.int j u)) Q E s) :
  OpR X f (rI0 λi j=>.int (g i j)):=by
 intro pins s σ H x y v u Q I rx ry h;obtain⟨i,j,rfl,rfl,q⟩:=h;obtain⟨t,rfl⟩:=rx;obtain⟨t',rfl⟩:=ry;exact rule i j t t' s _ _ ⟨.int (g i j),H,I.tok _,⟨_,rfl⟩,q⟩
theorem b2Z{f:Value->Value->Sem Value}{g:Int->Int->Bool}
  (rule:∀(i j:Int) (t u:Tok) (s:Shared) (Q:Value->Shared->Prop) (E:Value->Shared->Prop),Q (.bool (g i j)) s->wpAny (model X.prog X.w) X.A (f (.int i t) (.int j u)) Q E s) :
  OpR X f (rI0 λi j=>.bl (g i j)):=by
 intro pins s σ H x y v u Q I rx ry h;obtain⟨i,j,rfl,rfl,q⟩:=h;obtain⟨t,rfl⟩:=rx;obtain⟨t',rfl⟩:=ry;exact rule i j t t' s _ _ ⟨.bl (g i j),H,I,rfl,q⟩
def b6G(i j:Int):Prop:=0<j/\j<1073741824
def b6F(i j:Int):Prop:=0<=j/\j<=1000000/\i.natAbs<2 ^ 64
def CMul(i j:Int):Prop:=(-(2 ^ 64)<i/\i<2 ^ 64)∨(-(2 ^ 64)<j/\j<2 ^ 64)
theorem CMul.ok{i j:Int}(h:CMul i j):IntMulOk i j:=by
 rcases h with⟨h1,h2⟩|⟨h1,h2⟩
 .exact .of_left (intBits_le_64 h1 h2)
 .exact .of_right (intBits_le_64 h1 h2)
theorem b5f:OpR X (binaryOp .Add) (rI0 λi j=>.int (i+j)):=b6q λ_ _ _ _ _ _ _ q=>add_int q
theorem b4Z:OpR X (binaryOp .Sub) (rI0 λi j=>.int (i-j)):=b6q λ_ _ _ _ _ _ _ q=>sub_int q
theorem b5d:OpR X (binaryOp .Mult) (rI CMul λi j=>.int (i*j)):=opI λ_ _ _ _ _ _ _ hc q=>mul_int q hc.ok
theorem b2X:OpR X (binaryOp .FloorDiv) (rI b6G λi j=>.int (i / j)):=opI λi j _ _ _ _ _ hc q=>by
 have h1:(0:Int)<j:=hc.1;have h2:j<1073741824:=hc.2;exact floordiv_int (by omega) (by rw[Int.fdiv_eq_ediv_of_nonneg i (by omega)];exact q) (.inl (PyProof.noPylong_small (by omega)))
theorem b5e:OpR X (binaryOp .Mod) (rI (λ_ j=>0<j) λi j=>.int (i % j)):=opI λi j _ _ _ _ _ hc q=>by
 have h1:(0:Int)<j:=hc;exact mod_int' (by omega) (by rw[Int.fmod_eq_emod_of_nonneg i (by omega)];exact q)
theorem b5a:OpR X (binaryOp .Pow) (rI b6F λi j=>.int (i ^ j.toNat)):=opI λ_ _ _ _ _ _ _ hc q=>pow_int_small hc.1 hc.2.1 hc.2.2 q
theorem unI{f:Value->Sem Value}{g:Int->Int}
  (rule:∀(i:Int) (t:Tok) (s:Shared) (Q:Value->Shared->Prop) (E:Value->Shared->Prop),Q (.int (g i) s.toks) {s with toks:=s.toks+1}->wpAny (model X.prog X.w) X.A (f (.int i t)) Q E s) :
  UnR X f (rU λi=>.int (g i)):=by
 intro pins s σ H x v Q I rx h;obtain⟨i,rfl,q⟩:=h;obtain⟨t,rfl⟩:=rx;exact rule i t s _ _ ⟨.int (g i),H,I.tok _,⟨_,rfl⟩,q⟩
theorem b4l:UnR X (unaryOp .USub) (rU λi=>.int (-i)):=unI λ_ _ _ _ _ q=>neg_int q
end
noncomputable def b5Z:V->V->Bool
 |.non,.non=>true | .non,.int _=>true | .int _,.non=>true | .non,.bl _=>true | .bl _,.non=>true | .non,.str _=>true | .str _,.non=>true
 |.int _,.int _=>true | .bl _,.bl _=>true | .str _,.str _=>true | .byt _,.byt _=>true
 |.int _,.str _=>true | .str _,.int _=>true | .bl _,.str _=>true | .str _,.bl _=>true
 |_,_=>false
def rEq:R2:=λx y H Q=>b5Z x y=true/\Q (.bl (decide (x=y))) H
def rNe:R2:=λx y H Q=>b5Z x y=true/\Q (.bl (!decide (x=y))) H
theorem a7F{i j:Int}:decide (V.int i=V.int j)=(i==j):=by
 rw[Bool.eq_iff_iff];simp
theorem b1H{i j:Bool}:decide (V.bl i=V.bl j)=(i==j):=by
 rw[Bool.eq_iff_iff];simp
theorem a7E{i j:Str}:decide (V.str i=V.str j)=(i==j):=by
 rw[Bool.eq_iff_iff];simp
theorem a7G{i j:Array UInt8}:decide (V.byt i=V.byt j)=(i.toList==j.toList):=by
 rw[Bool.eq_iff_iff];cases i;cases j;simp
section
variable {X:Cx}{a b c:Expr}{ta tb tc:TE}{pos:Pos}
theorem B4{pins:List (Addr×Obj)}{σ:St}{H:Hp}{s:Shared}{Q:VK}{k k':Bool}(I:Inv X pins σ H s)(q:Q (.bl k) H)(e:k=k'):EP X pins σ Q (.bool k') s:=by
 subst e;exact⟨.bl k,H,I,rfl,q⟩
theorem b4f:OpR X (compareOp .Eq) rEq:=by
 intro pins s σ H x y v u Q I rx ry h;obtain⟨hs,q⟩:=h;cases x with
 |non =>
  cases rx;cases y with
  |non=>cases ry;exact PySem.EqNone.eq_none_none (B4 I q (by simp))
  |bl j=>cases ry;exact PySem.EqNone.eq_none_bool (B4 I q (by simp))
  |int j=>obtain⟨t',rfl⟩:=ry;exact PySem.EqNone.eq_none_int (B4 I q (by simp))
  |str j=>obtain⟨t',rfl⟩:=ry;exact PySem.EqNone.eq_none_str (B4 I q (by simp))
  |_=>exact absurd (show false=true from hs) Bool.false_ne_true
 |bl i =>
  cases rx;cases y with
  |non=>cases ry;exact PySem.EqNone.eq_bool_none (B4 I q (by simp))
  |bl j=>cases ry;exact eq_bool (B4 I q b1H)
  |str j=>obtain⟨t',rfl⟩:=ry;exact PySem.EqMixed.eq_bool_str (B4 I q (by simp))
  |_=>exact absurd (show false=true from hs) Bool.false_ne_true
 |int i =>
  obtain⟨t,rfl⟩:=rx;cases y with
  |non=>cases ry;exact PySem.EqNone.eq_int_none (B4 I q (by simp))
  |int j=>obtain⟨t',rfl⟩:=ry;exact eq_int (B4 I q a7F)
  |str j=>obtain⟨t',rfl⟩:=ry;exact PySem.EqMixed.eq_int_str (B4 I q (by simp))
  |_=>exact absurd (show false=true from hs) Bool.false_ne_true
 |str i =>
  obtain⟨t,rfl⟩:=rx;cases y with
  |non=>cases ry;exact PySem.EqNone.eq_str_none (B4 I q (by simp))
  |bl j=>cases ry;exact PySem.EqMixed.eq_str_bool (B4 I q (by simp))
  |int j=>obtain⟨t',rfl⟩:=ry;exact PySem.EqMixed.eq_str_int (B4 I q (by simp))
  |str j=>obtain⟨t',rfl⟩:=ry;exact eq_str (B4 I q a7E)
  |_=>exact absurd (show false=true from hs) Bool.false_ne_true
 |byt i =>
  obtain⟨t,rfl⟩:=rx;cases y with
  |byt j=>obtain⟨t',rfl⟩:=ry;exact PySem.W.eq_bytes (B4 I q a7G)
  |_=>exact absurd (show false=true from hs) Bool.false_ne_true
 |_=>cases y<;>exact absurd (show false=true from hs) Bool.false_ne_true
theorem b6l:OpR X (compareOp .NotEq) rNe:=by
 intro pins s σ H x y v u Q I rx ry h;obtain⟨hs,q⟩:=h;cases x with
 |non =>
  cases rx;cases y with
  |non=>cases ry;exact PySem.EqNone.ne_none_none (B4 I q (by simp))
  |bl j=>cases ry;exact PySem.EqNone.ne_none_bool (B4 I q (by simp))
  |int j=>obtain⟨t',rfl⟩:=ry;exact PySem.EqNone.ne_none_int (B4 I q (by simp))
  |str j=>obtain⟨t',rfl⟩:=ry;exact PySem.EqNone.ne_none_str (B4 I q (by simp))
  |_=>exact absurd (show false=true from hs) Bool.false_ne_true
 |bl i =>
  cases rx;cases y with
  |non=>cases ry;exact PySem.EqNone.ne_bool_none (B4 I q (by simp))
  |bl j=>cases ry;exact ne_bool (B4 I q (congrArg not b1H))
  |str j=>obtain⟨t',rfl⟩:=ry;exact PySem.EqMixed.ne_bool_str (B4 I q (by simp))
  |_=>exact absurd (show false=true from hs) Bool.false_ne_true
 |int i =>
  obtain⟨t,rfl⟩:=rx;cases y with
  |non=>cases ry;exact PySem.EqNone.ne_int_none (B4 I q (by simp))
  |int j=>obtain⟨t',rfl⟩:=ry;exact ne_int (B4 I q (congrArg not a7F))
  |str j=>obtain⟨t',rfl⟩:=ry;exact PySem.EqMixed.ne_int_str (B4 I q (by simp))
  |_=>exact absurd (show false=true from hs) Bool.false_ne_true
 |str i =>
  obtain⟨t,rfl⟩:=rx;cases y with
  |non=>cases ry;exact PySem.EqNone.ne_str_none (B4 I q (by simp))
  |bl j=>cases ry;exact PySem.EqMixed.ne_str_bool (B4 I q (by simp))
  |int j=>obtain⟨t',rfl⟩:=ry;exact PySem.EqMixed.ne_str_int (B4 I q (by simp))
  |str j=>obtain⟨t',rfl⟩:=ry;exact ne_str (B4 I q (congrArg not a7E))
  |_=>exact absurd (show false=true from hs) Bool.false_ne_true
 |byt i =>
  obtain⟨t,rfl⟩:=rx;cases y with
  |byt j=>obtain⟨t',rfl⟩:=ry;exact PySem.W.ne_bytes (B4 I q (congrArg not a7G))
  |_=>exact absurd (show false=true from hs) Bool.false_ne_true
 |_=>cases y<;>exact absurd (show false=true from hs) Bool.false_ne_true
theorem b6m:OpR X (compareOp .Lt) (rI0 λi j=>.bl (decide (i<j))):=b2Z λ_ _ _ _ _ _ _ q=>lt_int q
theorem b6n:OpR X (compareOp .LtE) (rI0 λi j=>.bl (decide (i<=j))):=b2Z λ_ _ _ _ _ _ _ q=>le_int q
theorem b6o:OpR X (compareOp .Gt) (rI0 λi j=>.bl (decide (j<i))):=b2Z λ_ _ _ _ _ _ _ q=>gt_int q
theorem b6p:OpR X (compareOp .GtE) (rI0 λi j=>.bl (decide (j<=i))):=b2Z λ_ _ _ _ _ _ _ q=>ge_int q
theorem b0w:OpR X (compareOp .Is) (λx y H Q=>y=.non/\Q (.bl (decide (x=.non))) H):=by
 intro pins s σ H x y v u Q I rx ry h;obtain⟨rfl,q⟩:=h;cases ry;refine is_none_gen (B4 I q ?_);cases x<;>first
  |(cases rx;rfl)
  |(obtain⟨t,rfl⟩:=rx;rfl)
theorem b2W:OpR X (compareOp .IsNot) (λx y H Q=>y=.non/\Q (.bl (!decide (x=.non))) H):=by
 intro pins s σ H x y v u Q I rx ry h;obtain⟨rfl,q⟩:=h;cases ry;refine isnot_none_gen (B4 I q ?_);cases x<;>first
  |(cases rx;rfl)
  |(obtain⟨t,rfl⟩:=rx;rfl)
theorem L4(b:Expr){op:CmpOp}(h:op≠.In:=by decide)(h2:op≠.NotIn:=by decide):behindInMarks op b=false:=by
 have e1:(op==CmpOp.In)=false:=by cases op<;>first|rfl|exact absurd rfl h
 have e2:(op==CmpOp.NotIn)=false:=by cases op<;>first|rfl|exact absurd rfl h2
 cases b with
 |Set elts k p=>show(k==0 && (op==CmpOp.In || op==CmpOp.NotIn) && elts.all (constantsAlone 8))=false;rw[e1,e2,Bool.or_false,Bool.and_false,Bool.false_and]
 |_=>rfl
theorem a3Z{op:CmpOp}{r:R2}(ho:OpR X (compareOp op) r)(ha:PE X a ta)(hb:PE X b tb)(hm:behindInMarks op b=false):PE X (.Compare a [op] [b] pos) (tOp r ta tb):=by
 intro pins s σ H Q I h;exact wpAny_Compare1 (b5y ha hb I h λv u s2 x y H2 I2 rx ry q=>ho pins s2 σ H2 x y v u Q I2 rx ry q) hm
def T9(t:TE):TT:=λσ H Q=>t σ H λx H'=>∃k,x=.bl k/\Q k H'
theorem N2{op:CmpOp}{r:R2}(ho:OpR X (compareOp op) r)(ha:PE X a ta)(hb:PE X b tb)(hm:behindInMarks op b=false):PT X (.Compare a [op] [b] pos) (T9 (tOp r ta tb)):=by
 intro pins s σ H Q I h;refine wpAny_isTrue_Compare1 (thn (ha pins s σ H _ I h) λv s1 ⟨x,H1,I1,r1,q1⟩=>thn (hb pins s1 σ H1 _ I1 q1) λu s2 ⟨y,H2,I2,r2,q2⟩ =>
  thn (ho pins s2 σ H2 x y v u _ I2 r1 r2 q2) λc s3 ⟨z,H3,I3,r3,k,e,q3⟩=>?_) hm
 subst e;cases r3;exact wpAny_truthy_bool ⟨H3,I3,q3⟩
def b5H(K:PySem.W.Frag)(x:V)(H:Hp)(k:Bool):Prop :=
 match x with
 |.non=>k=false
 |.bl b=>k=b
 |.int i=>k=(i != 0)
 |.str y=>y.length<=sizeLine/\k=((y.length:Int) != 0)
 |.byt y=>y.size<=sizeLine/\k=((y.size:Int) != 0)
 |.ref p=>(∃xs,SqL K H p xs/\k=!xs.isEmpty)∨(∃xs,SqT K H p xs/\k=!xs.isEmpty)∨∃kvs,H p=some (.dK kvs)/\k=!kvs.isEmpty
 |_=>False
theorem a6h{κ:Type}{kvs:List (κ×V)}{vs:List (κ×Value)}(r:KV kvs vs):(!vs.isEmpty)=!kvs.isEmpty:=by
 cases r<;>rfl
theorem a2y{xs:List V}{its:List Value}(r:Vals xs its):(!its.toArray.isEmpty)=!xs.isEmpty:=by
 cases r<;>simp
theorem a2n:(sizeLine:Nat)<2 ^ 63:=by rw[sizeLine_eq];decide
theorem b4n:b6S X (λx H Q=>∃k,b5H X.K x H k/\Q k H):=by
 intro pins s σ H x v Q I rx h;obtain⟨k,e,q⟩:=h;have hl:=a2n;have hs:sizeLine=16777216:=sizeLine_eq;cases x with
 |non =>
  cases rx;have e':k=false:=e;subst e';exact truthy_none ⟨H,I,q⟩
 |bl b =>
  cases rx;have e':k=b:=e;subst e';exact wpAny_truthy_bool ⟨H,I,q⟩
 |int i =>
  obtain⟨t,rfl⟩:=rx;have e':k=(i != 0):=e;subst e';exact PySem.P.truthy_int ⟨H,I,q⟩
 |str y =>
  obtain⟨t,rfl⟩:=rx;obtain⟨hy,e'⟩:y.length<=sizeLine/\k=((y.length:Int) != 0):=e;subst e';exact PySem.P.truthy_str (by omega) ⟨H,I.tok _,q⟩
 |byt y =>
  obtain⟨t,rfl⟩:=rx;obtain⟨hy,e'⟩:y.size<=sizeLine/\k=((y.size:Int) != 0):=e;subst e';exact PySem.W.truthy_bytes (by omega) ⟨H,I.tok _,q⟩
 |ref p =>
  cases rx;have e':(∃xs,SqL X.K H p xs/\k=!xs.isEmpty)∨(∃xs,SqT X.K H p xs/\k=!xs.isEmpty)∨∃kvs,H p=some (.dK kvs)/\k=!kvs.isEmpty:=e;rcases e' with⟨xs,hx,e'⟩|⟨xs,hx,e'⟩|⟨kvs,hx,e'⟩
  .subst e';obtain⟨its,r,pl,hz⟩:=I.list hx;have hlen:=r.length;exact wpAny_truthy_list pl.isList (by simp only[List.size_toArray];omega) ⟨H,I.tok _,by rw[a2y r];exact q⟩
  .subst e';obtain⟨its,r,pl,hz⟩:=I.tuple hx;have hlen:=r.length;exact truthy_tuple pl (by simp only[List.size_toArray];omega) ⟨H,I.tok _,by rw[a2y r];exact q⟩
  .subst e';obtain⟨hz,hS,vs,r,m⟩:kvs.length<=sizeLine/\(p==sysModules)=false/\∃vs,KV kvs vs/\s.heap.DictOf (D7 X.prog X.w) p vs:=I.hok p _ hx;have hlen:kvs.length=vs.length:=Paired.length r;exact wpAny_truthy_dict hS m (by omega) ⟨H,I.tok _,by rw[a6h r];exact q⟩
 |_=>exact(show False from e).elim
theorem b0e(ha:PE X a ta)(he:∀whole,isTrue a X.env whole=(do let v <-whole;standAt a.pos;holding [v] (truthy v))) :
  PT X a (λσ H Q=>ta σ H λx H'=>∃k,b5H X.K x H' k/\Q k H'):=by
 intro pins s σ H Q I h;exact isTrue_plain (thn (ha pins s σ H _ I h) λv s1 ⟨x,H1,I1,r1,q1⟩=>b4n pins s1 σ H1 x v Q I1 r1 q1) (he _)
theorem a2X{x:V}{us:List Value}(r:Vals [x] us):∃u,us=[u]/\RelV x u:=by
 cases r with
 |cons r1 r2=>cases r2;exact⟨_,rfl,r1⟩
theorem a9e:E1 X (.type "int") (λxs H Q=>(∃i,xs=[.int i]/\Q (.int i) H)∨∃k,xs=[.bl k]/\Q (.int (if k then 1 else 0)) H):=by
 intro pins s σ H xs us Q I r h;rcases h with⟨i,rfl,q⟩|⟨k,rfl,q⟩
 .obtain⟨u,rfl,t,rfl⟩:=a2X r;exact call_int_int ⟨.int i,H,I,⟨_,rfl⟩,q⟩
 .obtain⟨u,rfl,r1⟩:=a2X r;cases r1;exact call_int_bool ⟨.int (if k then 1 else 0),H,I.tok _,⟨_,rfl⟩,q⟩
end
structure ObjM(h:Heap)(x dx C:Addr)(mA:Str->Option Value):Prop where
 obj:h.get? x=some (PySem.W.instObj C dx)
 ns:h.Ns1 dx mA
 ne:dx≠x
theorem a8E{h:Heap}{dx:Addr}{mA:Str->Option Value}(n:h.Ns1 dx mA):∃od,h.get? dx=some od/\∀name,PySem.W.lookIn name od=some (mA name):=by
 obtain⟨o,es,ep,ho,hd,hk,_,hm⟩:=n;refine⟨o,ho,λname=>?_⟩;have e:=hm name;unfold nsFind findBy at e;rw[<-Array.find?_toList]at e;unfold PySem.W.lookIn;rw[hd];dsimp only;split
 .rename_i y q;rw[q]at e;exact congrArg some e
 .rename_i q;rw[q]at e;have a:es.toList.any (·.refKey)=false:=by
   rw[List.any_eq_false];intro y hy;obtain⟨z,t,hkey⟩:=hk y (Array.mem_toList_iff.mp hy);simp[DictEntry.refKey,hkey]
  have a':¬es.toList.any (·.refKey)=true:=by rw[a];exact Bool.false_ne_true
  rw[if_neg a'];exact congrArg some e
theorem ObjM.look{h:Heap}{x dx C:Addr}{mA:Str->Option Value}(I:ObjM h x dx C mA):∃od,PySem.W.InstAt h x (PySem.W.instObj C dx) C (some od)/\∀name,PySem.W.lookIn name od=some (mA name) :=
 let ⟨od,ho,hl⟩:=a8E I.ns
 ⟨od,⟨I.obj,rfl,rfl,ho⟩,hl⟩
section
variable {prog:Program}{w:World}{A:Around}{E:Value->Shared->Prop}{s:Shared}{K:PySem.W.Frag}{x dx C f:Addr}{mA:Str->Option Value}{name:Str}{v:Value}
theorem b3y{expr:Bool}{Q:Value->Shared->Prop}(X:K.In s.heap)(I:ObjM s.heap x dx C mA)(hg:PySem.W.plainGet K C name=true)(hh:PySem.W.hasDictIn K C=true)
  (ha:PySem.W.findIn K (.ref C) name=some none) (hv:mA name=some v) (hv':PySem.W.handedIn v=true) (h:Q v {s with toks:=s.toks+1}) :
  wpAny (model prog w) A (getAttr (.ref x) name expr) Q E s:=by
 obtain⟨od,J,hl⟩:=I.look;exact PySem.W.get_value X J (PySem.W.plainGet_of hg).1 (PySem.W.findObj_own hh ha rfl (by rw[hl,hv])) hv' h
theorem b1u{pl:Sem Bool}{Q:Value×List Value->Shared->Prop}(X:K.In s.heap)(I:ObjM s.heap x dx C mA)(hg:PySem.W.plainGet K C name=true)
  (hf:PySem.W.findIn K (.ref C) name=some (some (.ref f))) (ht:PySem.W.isFn K (.ref f)=true) (hv:mA name=none) (h:Q (.ref f,[.ref x]) s) :
  wpAny (model prog w) A (getMethod (.ref x) name pl) Q E s:=by
 obtain⟨od,J,hl⟩:=I.look;exact PySem.W.method_fn X J (PySem.W.plainGet_of hg).1 (PySem.W.plainGet_of hg).2 hf (beq_iff_eq.mp ht) (by show(PySem.W.lookIn name od).map (·.isSome)=some false;rw[hl,hv];rfl) h
theorem b2o{ns:List Str}{Q:Unit->Shared->Prop}(X:K.In s.heap)(I:ObjM s.heap x dx C mA)
  (hs:PySem.W.findIn K (.ref C) "__setattr__"=some (some (.builtin "object.__setattr__"))) (hp:PySem.W.plainOver K C=true) (ht:PySem.W.takerIn K C name=some none) (hh:PySem.W.hasDictIn K C=true)
  (hw:PySem.Within mA ns) (hsz:ns.length<=sizeLine)
  (h:∀h',ObjM h' x dx C (λy=>if y=name then some v else mA y)->Heap.SameBut dx s.heap h'->Q () {s with heap:=h',toks:=s.toks+2}) :
  wpAny (model prog w) A (setAttr (.ref x) name v) Q E s:=by
 obtain⟨od,J,hl⟩:=I.look;refine PySem.W.set_plain X J hs (PySem.W.osa_open (s:={s with toks:=s.toks+1}) (r:=none) X J hp ht λb=>?_);obtain⟨cd,hc,hd'⟩:=PySem.W.any_some hh;have hx:s.heap.get? x=some ⟨.ref C,some dx,.plain,#[]⟩:=I.obj;refine wpAny_bind (wpAny_pure (wpAny_bind (wpAny_bind (wpAny_loadPart hx (wpAny_bind (PySem.W.Looks.here (s:={s with toks:=s.toks+1}) (PySem.W.looks_clsIn X hc) ?_))))));rw[hd'];refine wpAny_pure (a:=some dx) (wpAny_bind (wpAny_pure (wpAny_bind ?_)));refine wpAny_nsSet1 (s:={s with toks:=s.toks+1}) I.ns λh' hn2 hs2=>?_;obtain⟨oD,esD,epD,hoD,hdD,hcD⟩:=hn2.count (PySem.Within.cons name v hw);refine wpAny_bind (wpAny_lookBehind hoD (by rw[hdD];exact pastItsLine_dict (Nat.le_trans hcD (by rw[List.length_cons];omega))) ?_);exact wpAny_pure (h _ ⟨(hs2.2 _ (Ne.symm I.ne)).trans I.obj,hn2,I.ne⟩ hs2)
theorem b0N{R:Result->Shared->Prop}{vs:List Value}{kw:List (Str×Value)}(X:K.In s.heap)(hm:PySem.W.makesIn K C=true)
  (hi:PySem.W.findIn K (.ref C) "__init__"=some (some (.ref f))) (hf:PySem.W.typeIn K (.ref f)=some (.type "function"))
  (h:codeAny (model prog w) (A.under (.builtin "type.__call__" ⟨.ref C::vs,kw⟩)) (.call (.ref f) ⟨.ref (s.heap.objs.size+1)::vs,kw⟩) (PySem.W.InitBack (s.heap.objs.size+1) R)
   {s with heap:=(s.heap.push PySem.W.emptyDict).push (PySem.W.instObj C s.heap.objs.size)}) :
  codeAny (model prog w) A (.call (.ref C) ⟨vs,kw⟩) R s:=by
 obtain⟨hh,g,d,t,os⟩:=s;exact PySem.W.make_core (PySem.W.makes_of X hm) (PySem.W.looks_findIn X hi) (λself=>PySem.W.bind_fn X self hf) (.inl rfl) h
end
noncomputable def G6(f:Str)(v:V):List (Str×V)->List (Str×V)
 |[]=>[(f,v)]
 |(g,x)::r=>if g=f then(g,v)::r else(g,x)::G6 f v r
theorem a1k(f g:Str)(v:V):∀fs:List (Str×V),(G6 f v fs).lookup g=if g=f then some v else fs.lookup g
 |[]=>by
  show List.lookup g [(f,v)]=_;by_cases h:g=f
  .have hb:(g==f)=true:=beq_iff_eq.mpr h;simp only[List.lookup,hb,if_pos h]
  .have hb:(g==f)=false:=beq_eq_false_iff_ne.mpr h;simp only[List.lookup,hb,if_neg h]
 |(k,x)::r=>by
  have ih:=a1k f g v r;rw[show G6 f v ((k,x)::r)=(if k=f then(k,v)::r else(k,x)::G6 f v r)from rfl];by_cases hk:k=f
  .rw[if_pos hk];by_cases h:g=k
   .have hb:(g==k)=true:=beq_iff_eq.mpr h;simp only[List.lookup,hb,if_pos (h.trans hk)]
   .have hb:(g==k)=false:=beq_eq_false_iff_ne.mpr h;simp only[List.lookup,hb,if_neg (λe:g=f=>h (e.trans hk.symm))]
  .rw[if_neg hk];by_cases h:g=k
   .have hb:(g==k)=true:=beq_iff_eq.mpr h;simp only[List.lookup,hb,if_neg (λe:g=f=>hk (h.symm.trans e))]
   .have hb:(g==k)=false:=beq_eq_false_iff_ne.mpr h;simp only[List.lookup,hb];exact ih
theorem a0S(f:Str)(v:V):∀fs:List (Str×V),f∈(G6 f v fs).map (·.1)/\∀g,g∈fs.map (·.1)->g∈(G6 f v fs).map (·.1)
 |[]=>⟨by simp[G6],λg h=>by simp at h⟩
 |(k,x)::r=>by
  obtain⟨i1,i2⟩:=a0S f v r;rw[show G6 f v ((k,x)::r)=(if k=f then(k,v)::r else(k,x)::G6 f v r)from rfl];by_cases hk:k=f
  .rw[if_pos hk];subst hk;exact⟨by simp,λg h=>by simpa using h⟩
  .rw[if_neg hk];refine⟨?_,λg h=>?_⟩
   .rw[List.map_cons];exact List.mem_cons_of_mem _ i1
   .rw[List.map_cons]at h⊢;rcases List.mem_cons.mp h with e|e
    .exact List.mem_cons.mpr (.inl e)
    .exact List.mem_cons_of_mem _ (i2 g e)
theorem a1m(f:Str)(v:V):∀fs:List (Str×V),(G6 f v fs).length<=fs.length+1
 |[]=>by simp[G6]
 |(k,x)::r=>by
  have ih:=a1m f v r;rw[show G6 f v ((k,x)::r)=(if k=f then(k,v)::r else(k,x)::G6 f v r)from rfl];by_cases hk:k=f
  .rw[if_pos hk,List.length_cons,List.length_cons];omega
  .rw[if_neg hk,List.length_cons,List.length_cons];omega
theorem RelO.some_of{v:V}{o:Option Value}(r:RelO (some v) o):∃u,o=some u/\RelV v u:=by
 cases o with
 |none=>exact(show False from r).elim
 |some u=>exact⟨u,rfl,r⟩
theorem RelO.none_of{o:Option Value}(r:RelO none o):o=none:=by
 cases o with
 |none=>rfl
 |some u=>exact(show False from r).elim
theorem a8N{v:V}{u:Value}(r:RelV v u):PySem.W.handedIn u=true:=by
 cases v with
 |non=>cases(show u=Value.none from r);rfl
 |bl b=>cases(show u=Value.bool b from r);rfl
 |int i=>obtain⟨t,e⟩:=(show ∃t,u=Value.int i t from r);cases e;rfl
 |str x=>obtain⟨t,e⟩:=(show ∃t,u=Value.str x t from r);cases e;rfl
 |byt b=>obtain⟨t,e⟩:=(show ∃t,u=Value.bytes b t from r);cases e;rfl
 |flt b=>obtain⟨t,e⟩:=(show ∃t,u=Value.float b t from r);cases e;rfl
 |ref a=>cases(show u=Value.ref a from r);rfl
 |ty n=>cases(show u=Value.type n from r);rfl
section
variable {P:Program}{w:World}{H H':Hp}{h h':Heap}{a C dx:Addr}{fs fs':List (Str×V)}
theorem a1J(hok:HOk P w H h)(e:H a=some (.ins C dx fs)):∃mA,ObjM h a dx C mA/\(∀f,RelO (fs.lookup f) (mA f))/\PySem.Within mA (fs.map (·.1))/\fs.length<=1000/\H dx=some (.own a):=by
 obtain⟨d,z,ne,ob,mA,n,r,q⟩:=(show ObjOk P w H h a (.ins C dx fs)from hok a _ e);exact⟨mA,⟨ob,n,ne⟩,r,q,z,d⟩
end
structure Cls(K:PySem.W.Frag)(C:Addr):Prop where
 pg:PySem.W.plainGet K C Str.empty=true
 hd:PySem.W.hasDictIn K C=true
 po:PySem.W.plainOver K C=true
 sa:PySem.W.findIn K (.ref C) "__setattr__"=some (some (.builtin "object.__setattr__"))
theorem Cls.get{K:PySem.W.Frag}{C:Addr}(c:Cls K C)(f:Str):PySem.W.plainGet K C f=true:=c.pg
def NoAttr(K:PySem.W.Frag)(C:Addr)(f:Str):Prop:=PySem.W.findIn K (.ref C) f=some none
theorem NoAttr.taker{K:PySem.W.Frag}{C:Addr}{f:Str}(n:NoAttr K C f):PySem.W.takerIn K C f=some none:=by
 unfold PySem.W.takerIn;rw[show PySem.W.findIn K (.ref C) f=some none from n];rfl
structure Meth(K:PySem.W.Frag)(C:Addr)(m:Str)(f:Addr):Prop where
 at_:PySem.W.findIn K (.ref C) m=some (some (.ref f))
 fn:PySem.W.isFn K (.ref f)=true
 kp:PySem.W.keepIn K (.ref f)=true
section
variable {X:Cx}{pins:List (Addr×Obj)}{σ:St}{H:Hp}{s:Shared}{a C dx:Addr}{fs:List (Str×V)}{f:Str}{v:V}{A:Around}{E:Value->Shared->Prop}
theorem a6k{b:Bool}{Q:Value->Shared->Prop}(I:Inv X pins σ H s)(e:H a=some (.ins C dx fs))(c:Cls X.K C)(n:NoAttr X.K C f)(l:fs.lookup f=some v)
  (h:∀u s',Inv X pins σ H s'->RelV v u->Q u s'):wpAny (model X.prog X.w) A (getAttr (.ref a) f b) Q E s:=by
 obtain⟨mA,O,r,_,_,_⟩:=a1J I.hok e;obtain⟨u,hu,ru⟩:=RelO.some_of (v:=v) (o:=mA f) (by rw[<-l];exact r f);exact b3y I.kIn O (c.get f) c.hd n hu (a8N ru) (h u _ (I.tok _) ru)
theorem a2z{m:Str}{g:Addr}{pl:Sem Bool}{Q:Value×List Value->Shared->Prop}(I:Inv X pins σ H s)(e:H a=some (.ins C dx fs))(c:Cls X.K C)(k:Meth X.K C m g)(l:fs.lookup m=none)
  (h:Q (.ref g,[.ref a]) s):wpAny (model X.prog X.w) A (getMethod (.ref a) m pl) Q E s:=by
 obtain⟨mA,O,r,_,_,_⟩:=a1J I.hok e;have hn:mA m=none:=RelO.none_of (by rw[<-l];exact r m);exact b1u I.kIn O (c.get m) k.at_ k.fn hn h
theorem a5O{y:V}{u:Value}{Q:Unit->Shared->Prop}(I:Inv X pins σ H s)(e:H a=some (.ins C dx fs))(c:Cls X.K C)(n:NoAttr X.K C f)(hl:fs.length<1000)(ry:RelV y u)
  (h:∀s',Inv X pins σ (upd H a (.ins C dx (G6 f y fs))) s'->Q () s'):wpAny (model X.prog X.w) A (setAttr (.ref a) f u) Q E s:=by
 obtain⟨mA,O,r,wi,_,ho⟩:=a1J I.hok e;have hz:(fs.map (·.1)).length<=sizeLine:=by rw[List.length_map,sizeLine_eq];omega
 refine b2o I.kIn O c.sa c.po n.taker c.hd wi hz λh' O' sb=>h _ ?_;have hd:∃o,h'.get? dx=some o:=let ⟨o,_,_,e',_⟩:=O'.ns;⟨o,e'⟩
 refine I.write (x:=a) (e:=dx) (by rw[e];exact True.intro) (.inr ho) (λb q hb z=>(sb.2 b hb).trans z) hd ?_;refine⟨by rw[A1 O.ne];exact ho,?_,O.ne,O'.obj,_,O'.ns,λg=>?_,λg hg=>?_⟩
 .have:=a1m f y fs;omega
 .show RelO ((G6 f y fs).lookup g) (if g=f then some u else mA g);rw[a1k];by_cases q:g=f
  .rw[if_pos q,if_pos q];exact ry
  .rw[if_neg q,if_neg q];exact r g
 .by_cases q:g=f
  .rw[q];exact(a0S f y fs).1
  .refine(a0S f y fs).2 g (wi g λz=>hg ?_);show(if g=f then some u else mA g)=none;rw[if_neg q];exact z
theorem Inv.made(I:Inv X pins σ H s):Inv X pins σ (upd (upd H s.heap.objs.size (.own (s.heap.objs.size+1))) (s.heap.objs.size+1) (.ins C s.heap.objs.size []))
  {s with heap:=(s.heap.push PySem.W.emptyDict).push (PySem.W.instObj C s.heap.objs.size)}:=by
 have e1:(s.heap.push PySem.W.emptyDict).get? s.heap.objs.size=some PySem.W.emptyDict:=Heap.get?_push_size s.heap rfl;have e2:((s.heap.push PySem.W.emptyDict).push (PySem.W.instObj C s.heap.objs.size)).get? (s.heap.objs.size+1)=some (PySem.W.instObj C s.heap.objs.size):=by
  have:=Heap.get?_push_size (s.heap.push PySem.W.emptyDict) (o:=PySem.W.instObj C s.heap.objs.size) rfl;rwa[Heap.size_push]at this
 have e3:(s.heap.push PySem.W.emptyDict).Ns s.heap.objs.size (λ_=>none):=⟨PySem.W.emptyDict,#[],_,e1,rfl,(λe he=>absurd he (by simp)),λ_=>rfl⟩;have I1:=I.laid (a:=s.heap.objs.size) (o:=.own (s.heap.objs.size+1)) (h':=s.heap.push PySem.W.emptyDict) (t':=s.toks) (λb u q=>Heap.get?_push_of_some _ q) (Nat.le_refl _) ⟨_,e1⟩;refine I1.laid (a:=s.heap.objs.size+1) (o:=.ins C s.heap.objs.size []) (t':=s.toks) (λb u q=>Heap.get?_push_of_some _ q) (Nat.le_of_eq (Heap.size_push _ _)) ?_;have ne:s.heap.objs.size≠s.heap.objs.size+1:=Nat.ne_of_lt (Nat.lt_succ_self _);refine⟨by rw[A1 ne,A0],Nat.zero_le _,ne,e2,λ_=>none,(Heap.Ns1.of_empty e3).at λo q=>Heap.get?_push_of_some _ q,λ_=>True.intro,λy hy=>absurd rfl hy⟩
theorem b3I{prog:Program}{w:World}{env:Env}{e:Expr}{f:Str}{pos:Pos}{s:Shared}{Q:Value->Shared->Prop}(hb:attributeBase e f env (eval e env)=eval e env)
  (h:wpAny (model prog w) A (eval e env) (λo s₁=>wpAny (model prog w) A (getAttr o f true) Q E s₁) E s):wpAny (model prog w) A (eval (.Attribute e f pos) env) Q E s :=
 Attribute_any_ h (by rw[arm_eval_Attribute,hb])
end
def b5T(K:PySem.W.Frag)(ta:TE)(f:Str):TE:=λσ H Q=>ta σ H λx H1=>∃a C dx fs v,x=.ref a/\H1 a=some (.ins C dx fs)/\Cls K C/\NoAttr K C f/\fs.lookup f=some v/\Q v H1
def b6a(K:PySem.W.Frag)(ta tv:TE)(f:Str):TS:=λD σ H=>tv σ H λy H1=>ta σ H1 λx H2=>∃a C dx fs,x=.ref a/\H2 a=some (.ins C dx fs)/\Cls K C/\NoAttr K C f/\fs.length<1000 /\
 D.nx σ (upd H2 a (.ins C dx (G6 f y fs)))
section
variable {X:Cx}{o e value:Expr}{f:Str}{pos pos' tpos:Pos}{ta tv:TE}
theorem b4S(he:PE X e ta)(hb:attributeBase e f X.env (eval e X.env)=eval e X.env):PE X (.Attribute e f pos) (b5T X.K ta f):=by
 intro pins s σ H Q I h;refine b3I hb (thn (he pins s σ H _ I h) λu s1 ⟨x,H1,I1,rx,a,C,dx,fs,v,ex,ea,c,n,l,q⟩=>?_);subst ex;obtain rfl:u=Value.ref a:=rx;exact a6k I1 ea c n l λu' s2 I2 ru=>⟨v,H1,I2,ru,q⟩
theorem b4E(ha:PE X o ta)(hv:PE X value tv)(hs:swapsWith value (some (.Attribute o f pos')) pos.line X.env=pure false):PS X (.Assign [.Attribute o f pos'] value pos) (b6a X.K ta tv f):=by
 intro pins s σ H D I h;refine plainObj_wpAny_Assign_Attribute (thn (hv pins s σ H _ I h) λu s1 ⟨y,H1,I1,ry,q⟩=>thn (ha pins s1 σ H1 _ I1 q) λov s2 ⟨x,H2,I2,rx,a,C,dx,fs,ex,ea,c,n,l,q2⟩=>?_) hs;subst ex;obtain rfl:ov=Value.ref a:=rx;exact a5O I2 ea c n l ry λs3 I3=>⟨σ,_,I3,q2⟩
end
section
variable {X:Cx}{pins:List (Addr×Obj)}{σ:St}{H:Hp}{s:Shared}{A:Around}{E:Value->Shared->Prop}{Q:Value->Shared->Prop}{c:Value}{b:Bool}
inductive TyOf(K:PySem.W.Frag)(H:Hp):V->Value->Prop where
 |non:TyOf K H .non (.type "NoneType")
 |bl (x:Bool):TyOf K H (.bl x) (.type "bool")
 |int (i:Int):TyOf K H (.int i) (.type "int")
 |str (x:Str):TyOf K H (.str x) (.type "str")
 |flt (x:UInt64):TyOf K H (.flt x) (.type "float")
 |lst {a:Addr}{xs:List V}(e:H a=some (.lst xs)):TyOf K H (.ref a) (.type "list")
 |frz {a:Addr}{o:Obj}{xs:List V}(e:H a=some (.frz o (.lst xs))):TyOf K H (.ref a) (.type "list")
 |tup {a:Addr}{xs:List V}(e:H a=some (.tup xs)):TyOf K H (.ref a) (.type "tuple")
 |dK {a:Addr}{kvs:List (Key×V)}(e:H a=some (.dK kvs)):TyOf K H (.ref a) (.type "dict")
 |dT {a:Addr}{kvs:List (List Key×V)}(e:H a=some (.dT kvs)):TyOf K H (.ref a) (.type "dict")
 |ins {a C dx:Addr}{fs:List (Str×V)}(e:H a=some (.ins C dx fs)) (cl:Cls K C) (ha:PySem.W.findIn K (.ref C) "__class__"=some (some (.builtin "object.__class__")))
   (hn:PySem.W.specialIn K (.builtin "object.__class__") "__get__"=some (some (.builtin "getset_descriptor.__get__"))) (htk:PySem.W.takesIn K (.builtin "object.__class__")=some true)
   (hm:PySem.W.mroIn K C (.type "object")=some true):TyOf K H (.ref a) (.ref C)
theorem a8K{x:V}{u t:Value}(I:Inv X pins σ H s)(rx:RelV x u)(ty:TyOf X.K H x t)(e:PySem.W.kitOne X.K t c=some b)(h:∀tk,Q (.bool b) {s with toks:=tk}) :
  wpAny (model X.prog X.w) A (call (.builtin "isinstance") [u,c]) Q E s:=by
 cases ty with
 |non=>cases(show u=Value.none from rx);exact PySem.W.kia_one PySem.W.kitx_none I.kIn True.intro e (λz=>nomatch z) h
 |bl y=>cases(show u=Value.bool y from rx);exact PySem.W.kia_one PySem.W.kitx_bool I.kIn True.intro e (λz=>nomatch z) h
 |int i=>obtain⟨t,q⟩:=(show ∃t,u=Value.int i t from rx);cases q;exact PySem.W.kia_one PySem.W.kitx_int I.kIn True.intro e (λz=>nomatch z) h
 |str y=>obtain⟨t,q⟩:=(show ∃t,u=Value.str y t from rx);cases q;exact PySem.W.kia_one PySem.W.kitx_str I.kIn True.intro e (λz=>nomatch z) h
 |flt y=>obtain⟨t,q⟩:=(show ∃t,u=Value.float y t from rx);cases q;exact PySem.W.kia_one PySem.W.kitx_float I.kIn True.intro e (λz=>nomatch z) h
 |@lst a xs ea =>
  cases(show u=Value.ref a from rx);obtain⟨_,_,n,_,h1⟩:=(show ObjOk X.prog X.w H s.heap a (.lst xs)from I.hok a _ ea);exact PySem.W.kia_one PySem.W.kitx_list I.kIn ⟨_,h1,rfl⟩ e (λz=>nomatch z) h
 |@frz a ob xs ea =>
  cases(show u=Value.ref a from rx);obtain⟨_,_,_,n,_,h1⟩:=(show ObjOk X.prog X.w H s.heap a (.frz ob (.lst xs))from I.hok a _ ea);exact PySem.W.kia_one PySem.W.kitx_list I.kIn ⟨_,h1,rfl⟩ e (λz=>nomatch z) h
 |@tup a xs ea =>
  cases(show u=Value.ref a from rx);obtain⟨_,_,_,p⟩:=(show ObjOk X.prog X.w H s.heap a (.tup xs)from I.hok a _ ea);obtain⟨o,h1,h2,_⟩:=p.tup;exact PySem.W.kia_one PySem.W.kitx_tuple I.kIn ⟨o,h1,h2⟩ e (λz=>nomatch z) h
 |@dK a kvs ea =>
  cases(show u=Value.ref a from rx);obtain⟨_,_,vs,_,p⟩:=(show ObjOk X.prog X.w H s.heap a (.dK kvs)from I.hok a _ ea);obtain⟨o,es,ep,h1,h2,_⟩:=p;exact PySem.W.kia_one PySem.W.kitx_dict I.kIn ⟨o,h1,h2.1⟩ e (λz=>nomatch z) h
 |@dT a kvs ea =>
  cases(show u=Value.ref a from rx);obtain⟨_,_,xs,_,o,es,ep,h1,h2,_⟩:=(show ObjOk X.prog X.w H s.heap a (.dT kvs)from I.hok a _ ea);exact PySem.W.kia_one PySem.W.kitx_dict I.kIn ⟨o,h1,h2.1⟩ e (λz=>nomatch z) h
 |@ins a C dx fs ea cl ha hn htk hm =>
  cases(show u=Value.ref a from rx);obtain⟨mA,O,_⟩:=a1J I.hok ea;obtain⟨od,J,_⟩:=O.look;exact PySem.W.kia_one (PySem.W.kitx_own (cl.get _) cl.hd ha hn htk hm) I.kIn J e (λz=>nomatch z) h
end
structure Room(k:Nat)(A:Around):Prop where
 hd:A.handled=none
 dp:A.depth+3*k+5<recursionLimit
 un:A.units+16*k+200<cLine
theorem Room.mono{j k:Nat}{A:Around}(r:Room k A)(h:j<=k):Room j A:=⟨r.hd,by have:=r.dp;omega,by have:=r.un;omega⟩
theorem Room.deeper{k:Nat}{A:Around}(r:Room (k+1) A)(env:Env):Room k (A.deeper env) :=
 ⟨r.hd,by have:=r.dp;show A.depth+1+3*k+5<_;omega,by have:=r.un;show A.units+3+16*k+200<_;omega⟩
theorem a6f{A:Around}{C:Addr}{us:List Value}{kw:List (Str×Value)}:(A.under (.builtin "type.__call__" ⟨.ref C::us,kw⟩)).depth=A.depth+1:=by
 first|rfl|simp[Around.under,Code.weight,Code.isCreation,Code.isGuard,Code.isCaller,Code.frames,Code.isFrame,guardIds]
theorem a6e{A:Around}{C:Addr}{us:List Value}{kw:List (Str×Value)}:(A.under (.builtin "type.__call__" ⟨.ref C::us,kw⟩)).units=A.units+1:=by
 first|rfl|simp[Around.under,Code.cUnits,Code.frames,Code.isFrame]
theorem Room.make{k:Nat}{A:Around}(r:Room (k+1) A)(C:Addr)(us:List Value)(kw:List (Str×Value)):Room k (A.under (.builtin "type.__call__" ⟨.ref C::us,kw⟩)) :=
 ⟨r.hd,by have:=r.dp;rw[a6f];omega,by have:=r.un;rw[a6e];omega⟩
theorem Room.depth{k:Nat}{A:Around}(r:Room k A):A.depth<recursionLimit:=by have:=r.dp;omega
def a0H:TA:=λ_ H Q=>Q [] H
def a2Z(ta:TE)(tr:TA):TA:=λσ H Q=>ta σ H λx H1=>tr σ H1 λxs H2=>Q (x::xs) H2
section
variable {X:Cx}{e:Expr}{es:List Expr}{te:TE}{t:TA}{pos:Pos}
theorem b4X:PA X [] a0H:=λ_ _ _ _ H Q I h=>Calls.spliced_nil ⟨[],H,I,.nil,h⟩
theorem b2U(ha:PE X e te)(hr:PA X es t)(hs:starEach (e::es) X.env=(false,eval e X.env)::starEach es X.env:=by rfl):PA X (e::es) (a2Z te t):=by
 intro pos pins s σ H Q I h;rw[hs];show wpAny _ _ (spliced ((false,eval e X.env)::backTo pos (starEach es X.env))) _ _ s;refine Calls.spliced_cons (thn (ha pins s σ H _ I h) λu s1 ⟨x,H1,I1,r1,q1⟩=>?_);exact thn (hr pos pins s1 σ H1 _ I1 q1) λus s2 ⟨xs,H2,I2,r2,q2⟩=>⟨x::xs,H2,I2,.cons r1 r2,q2⟩
def b4o(t:TA):TE:=λσ H Q=>t σ H λxs H1=>xs.length<=sizeLine/\∀p,H1 p=none->Q (.ref p) (upd H1 p (.tup xs))
def b2f(t:TA):TE:=λσ H Q=>t σ H λxs H1=>xs.length<=sizeLine/\∀p,H1 p=none->Q (.ref p) (upd H1 p (.lst xs))
theorem b4L{x1}(h:PA X es t):PE X (.Tuple es x1 pos) (b4o t):=by
 intro pins s σ H Q I hq;refine wpAny_Tuple_spliced (thn (h pos pins s σ H _ I hq) λus s1 ⟨xs,H1,I1,r,z,q⟩=>⟨by rw[<-r.length];exact z,?_⟩);have hf:H1 s1.heap.objs.size=none:=I1.hok.fresh (Nat.le_refl _);refine⟨.ref s1.heap.objs.size,upd H1 s1.heap.objs.size (.tup xs),I1.laid (t':=s1.toks) (λb u e=>Heap.get?_push_of_some _ e) (Nat.le_refl _) ?_,rfl,q _ hf⟩;exact⟨z,us,r,⟨_,Heap.get?_push_size _ rfl,rfl,_,rfl⟩⟩
theorem b4Q(h:PA X es t):PE X (.List es pos) (b2f t):=by
 intro pins s σ H Q I hq;refine wpAny_List_spliced (thn (h pos pins s σ H _ I hq) λus s1 ⟨xs,H1,I1,r,z,q⟩=>⟨by rw[<-r.length];exact z,?_⟩);have hf:H1 s1.heap.objs.size=none:=I1.hok.fresh (Nat.le_refl _);refine⟨.ref s1.heap.objs.size,upd H1 s1.heap.objs.size (.lst xs),I1.laid (t':=s1.toks) (λb u e=>Heap.get?_push_of_some _ e) (Nat.le_refl _) ?_,rfl,q _ hf⟩;exact⟨z,us,0,r,Heap.get?_push_size _ rfl⟩
end
abbrev Sp:=List V->Hp->VK->XK->Prop
abbrev CXT:=List Env->Hp->Shared->XK->Value->Shared->Prop
structure Env0(P:Program)(w:World)(K:PySem.W.Frag)(mg:Str->Option Value)(base:Heap)(A:Around)(outer:List Env)(s:Shared)(H:Hp):Prop where
 frames:A.frames=some outer
 mod:Mod K mg base
 bs:∀b o,base.get? b=some o->s.heap.get? b=some o/\H b=none
 bsz:base.objs.size<=s.heap.objs.size
 funs:s.heap.FunFrames base outer
 frf:∀b∈frs outer,H b=none
 hok:HOk P w H s.heap
 bare:AllBare s.gens
def CE(outer:List Env)(P:Program)(w:World)(H:Hp)(s:Shared)(Q:VK)(u:Value)(s':Shared):Prop :=
 ∃v H',s'.os=s.os/\AllBare s'.gens/\Un (frs outer) [] H H' s.heap s'.heap/\HOk P w H' s'.heap/\RelV v u/\Q v H'
def CR(CX:CXT)(outer:List Env)(P:Program)(w:World)(H:Hp)(s:Shared)(Q:VK)(E:XK)(r:Result)(s':Shared):Prop :=
 match r with
 |.ok (.ret u)=>CE outer P w H s Q u s'
 |.ok _=>False
 |.error e=>CX outer H s E e s'
structure FnOk(P:Program)(w:World)(K:PySem.W.Frag)(mg:Str->Option Value)(base:Heap)(CX:CXT)(k:Nat)(f:Addr)(fd:FuncData)(ps:List Str)(sp:Sp):Prop where
 len:∀vs H Q E,sp vs H Q E->vs.length=ps.length
 run:∀(A:Around) (outer:List Env) (s:Shared) (H:Hp) (args:Args) (us:List Value) (vs:List V) (Q:VK) (E:XK),Room k A->Env0 P w K mg base A outer s H->BindsTo s fd args (ps.zip us)->Vals vs us->sp vs H Q E ->
  codeAny (model P w) A (.call (.ref f) args) (CR CX outer P w H s Q E) s
theorem FnOk.imp{P:Program}{w:World}{K:PySem.W.Frag}{mg:Str->Option Value}{base:Heap}{CX:CXT}{k:Nat}{f:Addr}{fd:FuncData}{ps:List Str}{sp sp':Sp}(F:FnOk P w K mg base CX k f fd ps sp)
  (h:∀vs H Q E,sp' vs H Q E->sp vs H Q E):FnOk P w K mg base CX k f fd ps sp' :=
 ⟨λvs H Q E q=>F.len vs H Q E (h _ _ _ _ q),λA outer s H args us vs Q E hr he hb hv hs=>F.run A outer s H args us vs Q E hr he hb hv (h _ _ _ _ hs)⟩
theorem Env0.make{P:Program}{w:World}{K:PySem.W.Frag}{mg:Str->Option Value}{base:Heap}{A:Around}{outer:List Env}{s:Shared}{H:Hp}(e:Env0 P w K mg base A outer s H)(C:Addr)(us:List Value)(kw:List (Str×Value)) :
  Env0 P w K mg base (A.under (.builtin "type.__call__" ⟨.ref C::us,kw⟩)) outer s H:=⟨by first|exact e.frames | (simpa[Around.under,Code.envs,Code.isFrame,pushEnvs]using e.frames),e.mod,e.bs,e.bsz,e.funs,e.frf,e.hok,e.bare⟩
section
variable {X:Cx}{pins:List (Addr×Obj)}{σ:St}{H:Hp}{s s':Shared}
theorem Inv.env0(I:Inv X pins σ H s):Env0 X.prog X.w X.K X.mg X.base X.A X.stack s H :=
 ⟨I.ok.frames,I.ok.mod,I.bs,Nat.le_trans I.ok.bsz I.sz,I.stack,I.stkFree,I.hok,I.bare⟩
theorem Inv.after{Q:VK}{u:Value}(I:Inv X pins σ H s)(h:CE X.stack X.prog X.w H s Q u s'):EP X pins σ Q u s':=by
 obtain⟨v,H',os,bare,un,hok,r,q⟩:=h;obtain⟨hh,g,d,t,os'⟩:=s';obtain rfl:os'=s.os:=os;exact⟨v,H',I.call (h':=hh) (g':=g) (d':=d) (t':=t) (ch:=[]) un hok bare (λb z=>absurd z (by simp)),r,q⟩
end
def a9y(sp:Sp)(dvs:List V)(E:XK)(t:TA):TE:=λσ H Q=>t σ H λvs H1=>sp (vs++dvs) H1 Q E
def a1h(C:Addr)(m:Str)(sp:Sp)(dvs:List V)(E:XK)(ta:TE)(t:TA):TE:=λσ H Q=>ta σ H λx H1=>∃a dx fs,x=.ref a/\H1 a=some (.ins C dx fs)/\fs.lookup m=none /\
 t σ H1 λvs H2=>sp (x::(vs++dvs)) H2 Q E
def b3P(C:Addr)(sp:Sp)(dvs:List V)(E:XK)(t:TA):TE:=λσ H Q=>t σ H λvs H1=>∀x dx,H1 x=none->H1 dx=none->dx≠x ->
 sp (.ref x::(vs++dvs)) (upd (upd H1 dx (.own x)) x (.ins C dx [])) (λv H2=>v=.non/\Q (.ref x) H2) E
def Binds(K:PySem.W.Frag)(fd:FuncData)(ps:List Str)(ds:List Value):Prop :=
 ∀(s:Shared) (us:List Value),K.In s.heap->(us++ds).length=ps.length->BindsTo s fd ⟨us,[]⟩ (ps.zip (us++ds))
theorem Binds.all{K:PySem.W.Frag}{fd:FuncData}{ps:List Str}(h:∀us:List Value,us.length=ps.length->bindArgs fd ⟨us,[]⟩=pure (ps.zip us)):Binds K fd ps []:=λs us _ hl=>by
 rw[List.append_nil]at hl⊢;exact .of_eq (h us hl)
def a0e(CX:CXT)(X:Cx)(E:XK):Prop:=∀(pins:List (Addr×Obj)) (σ:St) (H:Hp) (s:Shared) (e:Value) (s':Shared),Inv X pins σ H s->CX X.stack H s E e s'->X.xe e s'
section
variable {X:Cx}{CX:CXT}{k:Nat}{f C:Addr}{fd:FuncData}{ps:List Str}{sp:Sp}{dvs:List V}{ds:List Value}{E:XK}{x m:Str}{p pos apos:Pos}{e o:Expr}{es:List Expr}{ta:TE}{t:TA}
theorem a5T{pins:List (Addr×Obj)}{σ:St}{H:Hp}{s:Shared}{Q:VK}{us:List Value}{vs:List V}(F:FnOk X.prog X.w X.K X.mg X.base CX k f fd ps sp)(hr:Room k X.A)(hb:Binds X.K fd ps ds)(hd:Vals dvs ds)(hx:a0e CX X E)
  (I:Inv X pins σ H s) (r:Vals vs us) (h:sp (vs++dvs) H Q E):wpAny (model X.prog X.w) X.A (call (.ref f) us) (EP X pins σ Q) X.xe s:=by
 have r2:Vals (vs++dvs) (us++ds):=r.append hd;have hl:(us++ds).length=ps.length:=by rw[<-r2.length];exact F.len _ _ _ _ h
 refine wpAny_call (codeAny_mono (F.run X.A X.stack s H ⟨us,[]⟩ (us++ds) (vs++dvs) Q E hr I.env0 (hb s us I.kIn hl) r2 h) λr s' hq=>?_);cases r with
 |error e=>exact hx pins σ H s e s' I hq
 |ok fl =>
  cases fl with
  |ret u=>exact I.after hq
  |next=>exact False.elim hq
  |brk=>exact False.elim hq
  |cont=>exact False.elim hq
theorem b2S(F:FnOk X.prog X.w X.K X.mg X.base CX k f fd ps sp)(hr:Room k X.A)(hg:Gl X x)(hm:X.mg x=some (.ref f))(hk:PySem.W.keepIn X.K (.ref f)=true)(hb:Binds X.K fd ps ds)(hd:Vals dvs ds)(hx:a0e CX X E)
  (ha:PA X (e::es) t) (hdb:(x==("__debug__" : Str))=false:=by decide) (he:starEach (e::es) X.env=(false,eval e X.env)::starEach es X.env:=by rfl) (hpl:(backTo pos (starEach es X.env)).any (·.1)=false:=by rfl) :
  PE X (.Call (.Name x p) (e::es) [] pos) (a9y sp dvs E t):=by
 intro pins s σ H Q I h;refine wpAny_Call_Name_kw (a0t I hg hm ?_ hdb);refine PySem.W.callWith_K (h₀:=X.base) I.ok.mod.kin hk (thn (ha pos pins s σ H _ I h) λus s1 ⟨vs,H1,I1,r,q⟩=>⟨I1.kIn,?_⟩) he hpl;exact a5T F hr hb hd hx I1 r q
theorem b2P{pl:Sem Bool}(he:PE X o ta)(c:Cls X.K C)(hm:Meth X.K C m f)(F:FnOk X.prog X.w X.K X.mg X.base CX k f fd ps sp)(hr:Room k X.A)(hb:Binds X.K fd ps ds)(hd:Vals dvs ds)(hx:a0e CX X E)(ha:PA X (e::es) t)
  (hst:starEach (e::es) X.env=(false,eval e X.env)::starEach es X.env:=by rfl) (hpl:(backTo pos (starEach es X.env)).any (·.1)=false:=by rfl)
  (ht:eval (.Call (.Attribute o m apos) (e::es) [] pos) X.env=(do
   let ov <-eval o X.env
   standAt apos.atName
   let (f,first) <-holding [ov] (getMethod ov m pl)
   callWith pos f first (backTo pos (starEach (e::es) X.env)) (backToKw pos (keywordEach [] X.env))):=by rfl) :
  PE X (.Call (.Attribute o m apos) (e::es) [] pos) (a1h C m sp dvs E ta t):=by
 intro pins s σ H Q I h;refine PySem.W.methodCall_KW (pl:=pl) (thn (he pins s σ H _ I h) λu s1 ⟨x,H1,I1,rx,a,dx,fs,ex,ea,l,q⟩=>?_) ht;subst ex;obtain rfl:u=Value.ref a:=rx;refine a2z I1 ea c hm l ?_;refine PySem.W.callWith_K (first:=[.ref a]) (h₀:=X.base) I.ok.mod.kin hm.kp (thn (ha pos pins s1 σ H1 _ I1 q) λus s2 ⟨vs,H2,I2,r,q2⟩=>⟨I2.kIn,?_⟩) hst hpl;exact a5T (us:=.ref a::us) (vs:=.ref a::vs) F hr hb hd hx I2 (.cons rfl r) q2
theorem b0q{pl:Sem Bool}(he:PE X o ta)(c:Cls X.K C)(hm:Meth X.K C m f)(F:FnOk X.prog X.w X.K X.mg X.base CX k f fd ps sp)(hr:Room k X.A)(hb:Binds X.K fd ps ds)(hd:Vals dvs ds)(hx:a0e CX X E)
  (ht:eval (.Call (.Attribute o m apos) [] [] pos) X.env=(do
   let ov <-eval o X.env
   standAt apos.atName
   let (f,first) <-holding [ov] (getMethod ov m pl)
   callWith pos f first (backTo pos (starEach [] X.env)) (backToKw pos (keywordEach [] X.env))):=by rfl) :
  PE X (.Call (.Attribute o m apos) [] [] pos) (a1h C m sp dvs E ta a0H):=by
 intro pins s σ H Q I h;refine PySem.W.methodCall_KW (pl:=pl) (thn (he pins s σ H _ I h) λu s1 ⟨x,H1,I1,rx,a,dx,fs,ex,ea,l,q⟩=>?_) ht;subst ex;obtain rfl:u=Value.ref a:=rx;refine a2z I1 ea c hm l ?_;exact PySem.W.callWith_K0 (first:=[.ref a]) I1.kIn hm.kp (a5T (us:=[.ref a]) (vs:=[.ref a]) F hr hb hd hx I1 (.cons rfl .nil) q)
structure Mk(K:PySem.W.Frag)(C f:Addr):Prop where
 makes:PySem.W.makesIn K C=true
 init:PySem.W.findIn K (.ref C) "__init__"=some (some (.ref f))
 fn:PySem.W.isFn K (.ref f)=true
 kp:PySem.W.keepIn K (.ref C)=true
theorem a9O{pins:List (Addr×Obj)}{σ:St}{H:Hp}{s:Shared}{Q:VK}{us:List Value}{vs:List V}(M:Mk X.K C f)(F:FnOk X.prog X.w X.K X.mg X.base CX k f fd ps sp)(hr:Room (k+1) X.A)(hb:Binds X.K fd ps ds)(hd:Vals dvs ds)
  (hx:a0e CX X E) (I:Inv X pins σ H s) (r:Vals vs us)
  (h:∀x dx,H x=none->H dx=none->dx≠x->sp (.ref x::(vs++dvs)) (upd (upd H dx (.own x)) x (.ins C dx [])) (λv H2=>v=.non/\Q (.ref x) H2) E) :
  wpAny (model X.prog X.w) X.A (call (.ref C) us) (EP X pins σ Q) X.xe s:=by
 have hq:=h (s.heap.objs.size+1) s.heap.objs.size (I.hok.fresh (Nat.le_succ _)) (I.hok.fresh (Nat.le_refl _)) (Nat.ne_of_lt (Nat.lt_succ_self _));have I2:=Inv.made (C:=C) I;have r2:Vals (V.ref (s.heap.objs.size+1)::(vs++dvs)) (Value.ref (s.heap.objs.size+1)::(us++ds)):=.cons rfl (r.append hd);have hl:(Value.ref (s.heap.objs.size+1)::us++ds).length=ps.length:=by
  have e:=r2.length;rw[F.len _ _ _ _ hq]at e;exact e.symm
 refine wpAny_call (b0N (f:=f) I.kIn M.makes M.init (beq_iff_eq.mp M.fn) (codeAny_mono (F.run _ X.stack _ _ ⟨Value.ref (s.heap.objs.size+1)::us,[]⟩ (Value.ref (s.heap.objs.size+1)::(us++ds)) _ _ E (hr.make C us [])
  (I2.env0.make C us []) (hb _ (Value.ref (s.heap.objs.size+1)::us) I2.kIn hl) r2 hq) λr s' hq'=>?_))
 cases r with
 |error e=>exact hx pins σ _ _ e s' I2 hq'
 |ok fl =>
  cases fl with
  |ret u =>
   obtain⟨v,H',I3,rv,ev,q3⟩:=I2.after hq';subst ev;exact⟨rv,⟨V.ref (s.heap.objs.size+1),H',I3,rfl,q3⟩⟩
  |next=>exact False.elim hq'
  |brk=>exact False.elim hq'
  |cont=>exact False.elim hq'
theorem b2Q(M:Mk X.K C f)(F:FnOk X.prog X.w X.K X.mg X.base CX k f fd ps sp)(hr:Room (k+1) X.A)(hg:Gl X x)(hm:X.mg x=some (.ref C))(hb:Binds X.K fd ps ds)(hd:Vals dvs ds)(hx:a0e CX X E)
  (ha:PA X (e::es) t) (hdb:(x==("__debug__" : Str))=false:=by decide) (he:starEach (e::es) X.env=(false,eval e X.env)::starEach es X.env:=by rfl) (hpl:(backTo pos (starEach es X.env)).any (·.1)=false:=by rfl) :
  PE X (.Call (.Name x p) (e::es) [] pos) (b3P C sp dvs E t):=by
 intro pins s σ H Q I h;refine wpAny_Call_Name_kw (a0t I hg hm ?_ hdb);refine PySem.W.callWith_K (h₀:=X.base) I.ok.mod.kin M.kp (thn (ha pos pins s σ H _ I h) λus s1 ⟨vs,H1,I1,r,q⟩=>⟨I1.kIn,?_⟩) he hpl;exact a9O M F hr hb hd hx I1 r q
end
section
variable {X:Cx}{CX:CXT}{k:Nat}{f C:Addr}{fd:FuncData}{ps ks:List Str}{sp:Sp}{E:XK}{x m:Str}{p pos apos kpos:Pos}{e o:Expr}{es:List Expr}{kws:List Keyword}{te ta:TE}{t tk:TA}{nm:Option Str}
variable {g:List Value->List Value->List Value}{gV:List V->List V->List V}
end
structure FnScope(N P:List Str)(sc:Scope):Prop where
 kind:sc.kind=.function
 co:sc.isCoroutine=false
 gen:sc.isGenerator=false
 nd:N.Nodup
 pre:N.take P.length=P
 par:∀x∈P,sc.names.lookup x=some .local∨sc.names.lookup x=some .cell
 nofree:∀y∈sc.names,y.2≠.free
theorem a3z{kindOf:Str->Option NameKind}{x:Str}:∀{binds:List (Str×Value)}{m:Str->Option Value},(∀v,(x,v)∉binds)->bindL kindOf binds m x=m x
 |[],_,_=>rfl
 |(n,v)::r,m,h=>by
  unfold bindL;rw[a3z λw hw=>h w (List.mem_cons_of_mem _ hw)];split
  .have:x≠n:=by rintro rfl;exact h v List.mem_cons_self
   simp[this]
  .rfl
theorem a3B{kindOf:Str->Option NameKind}{x:Str}:∀{binds:List (Str×Value)}{m:Str->Option Value},(∀v,(x,v)∉binds)->bindC kindOf binds m x=m x
 |[],_,_=>rfl
 |(n,v)::r,m,h=>by
  unfold bindC;rw[a3B λw hw=>h w (List.mem_cons_of_mem _ hw)];split
  .rfl
  .have:x≠n:=by rintro rfl;exact h v List.mem_cons_self
   simp[this]
theorem a3A{kindOf:Str->Option NameKind}{x:Str}{v:Value}:∀{P:List Str}{vs:List Value}{i:Nat}{m:Str->Option Value},P.Nodup->P[i]?=some x->vs[i]?=some v->kindOf x=some .local ->
  bindL kindOf (P.zip vs) m x=some v
 |[],_,_,_,_,h,_,_=>by simp at h
 |_::_,[],_,_,_,_,h,_=>by simp at h
 |p::P,w::vs,0,m,nd,h1,h2,hk=>by
  simp at h1 h2;subst h1;subst h2;show bindL kindOf ((p,w)::P.zip vs) m p=_;unfold bindL;rw[a3z λv hv=>(List.nodup_cons.mp nd).1 (List.of_mem_zip hv).1,if_pos hk];simp
 |p::P,w::vs,i+1,m,nd,h1,h2,hk=>by
  show bindL kindOf ((p,w)::P.zip vs) m x=_;unfold bindL;exact a3A (i:=i) (List.nodup_cons.mp nd).2 (by simpa using h1) (by simpa using h2) hk
theorem a3C{kindOf:Str->Option NameKind}{x:Str}{v:Value}:∀{P:List Str}{vs:List Value}{i:Nat}{m:Str->Option Value},P.Nodup->P[i]?=some x->vs[i]?=some v->kindOf x≠some .local ->
  bindC kindOf (P.zip vs) m x=some v
 |[],_,_,_,_,h,_,_=>by simp at h
 |_::_,[],_,_,_,_,h,_=>by simp at h
 |p::P,w::vs,0,m,nd,h1,h2,hk=>by
  simp at h1 h2;subst h1;subst h2;show bindC kindOf ((p,w)::P.zip vs) m p=_;unfold bindC;rw[a3B λv hv=>(List.nodup_cons.mp nd).1 (List.of_mem_zip hv).1,if_neg hk];simp
 |p::P,w::vs,i+1,m,nd,h1,h2,hk=>by
  show bindC kindOf ((p,w)::P.zip vs) m x=_;unfold bindC;exact a3C (i:=i) (List.nodup_cons.mp nd).2 (by simpa using h1) (by simpa using h2) hk
noncomputable def start(N:List Str)(vs:List V):St:=vs.map some++List.replicate (N.length-vs.length) none
noncomputable def T4(CX:CXT)(P:Program)(w:World)(K:PySem.W.Frag)(mg:Str->Option Value)(base:Heap)(N:List Str)(qual:Str)(scope:Scope)(f:Addr)(cd:Value)(A:Around)(outer:List Env)(s:Shared)(H:Hp)(E:XK):Cx where
 prog:=P
 w:=w
 K:=K
 mg:=mg
 base:=base
 A:=A.deeper (envOfC qual scope s.heap.objs.size f cd)
 N:=N
 s₀:=s
 H₀:=H
 env:=envOfC qual scope s.heap.objs.size f cd
 outer:=outer
 stack:=envOfC qual scope s.heap.objs.size f cd::outer
 ex:=[]
 calm:=true
 fn:=λ_=>true
 pn:=[]
 xe:=λe s'=>wpAny (model P w) (A.deeper (envOfC qual scope s.heap.objs.size f cd)) (leaving (envOfC qual scope s.heap.objs.size f cd) e) (λ_ s''=>CX outer H s E e s'') (λe' s''=>CX outer H s E e' s'') s'
theorem a5x{sc:Scope}{n:Nat}{x:Str}(h:sc.names.lookup x=some .cell):∃c,(cellsFrom n sc.names []).lookup x=some c:=by
 have q:=PySem.W.cellsFrom_some sc.names n [] (.inl h);exact Option.isSome_iff_exists.mp q
theorem a8L{CX:CXT}{P:Program}{w:World}{K:PySem.W.Frag}{mg:Str->Option Value}{base:Heap}{N ps:List Str}{qual:Str}{scope:Scope}{f:Addr}{cd:Value}{A:Around}{outer:List Env}{s s1:Shared}{H:Hp}{E:XK}{us:List Value}{vs:List V}
  (S:FnScope N ps scope) (hd:A.handled=none) (e0:Env0 P w K mg base A outer s H) (hl:vs.length=ps.length) (r:Vals vs us)
  (x:InCallC s s.heap.objs.size (bindL (envOfC qual scope s.heap.objs.size f cd).kindOf (ps.zip us) λ_=>none) (cellsFrom (s.heap.objs.size+1) scope.names []) (bindC (envOfC qual scope s.heap.objs.size f cd).kindOf (ps.zip us) λ_=>none) s1) :
  Inv (T4 CX P w K mg base N qual scope f cd A outer s H E) [] (start N vs) H s1:=by
 have hpl:ps.length<=N.length:=by have:=congrArg List.length S.pre;rw[List.length_take]at this;omega
 obtain⟨h1,tk,rfl,hk⟩:=x.done;have noA:∀b:Addr,b∉(T4 CX P w K mg base N qual scope f cd A outer s H E).ex:=λb z=>absurd (show b∈([]:List Addr)from z) (by simp);refine⟨⟨e0.mod,S.kind,rfl,rfl,Nat.le_refl _,λy z c h1 h2=>?_,λy hy=>?_,λy c _ h=>?_,λ_=>hd,Around.frames_deeper e0.frames,.inr ⟨rfl,rfl⟩,λb z=>absurd z (noA b),e0.bs,e0.bsz,λb _ _=>noA b,λb z=>absurd z (noA b),e0.funs,e0.frf⟩,
  rfl,e0.bare,Un.kept hk,⟨_,x.toInCall.ns,λi y v h1 h2 h3=>?_⟩,λy c h=>⟨_,x.cell y c h⟩,e0.hok.fresh (Nat.le_refl _),λy c h=>?_,λp hp=>absurd (show p∈([]:List (Addr×Obj))from hp) (by simp),e0.hok.kept hk,?_⟩
 .exact name_of_addr x.apart (PySem.mem_of_lookup h1) (PySem.mem_of_lookup h2)
 .have hy:scope.names.lookup y=some .cell∨scope.names.lookup y=some .free:=hy;rcases hy with hy|hy
  .exact a5x hy
  .exact absurd rfl (S.nofree _ (PySem.mem_of_lookup hy))
 .exact Nat.le_of_lt (x.above y c (PySem.mem_of_lookup h))
 .have hi:i<vs.length:=by
   unfold start at h2;by_cases hi:i<vs.length
   .exact hi
   .rw[List.getElem?_append_right (by simpa using hi)]at h2;rw[List.getElem?_replicate]at h2;split at h2<;>cases h2
  have ha:vs[i]?=some v:=by
   unfold start at h2;rw[List.getElem?_append_left (by simpa using hi),List.getElem?_map]at h2;cases e:vs[i]? with
   |none=>rw[e]at h2;cases h2
   |some a=>rw[e]at h2;cases h2;rfl
  obtain⟨u,hu,rv⟩:=r.get ha;have hp:ps[i]?=some y:=by
   rw[<-S.pre,List.getElem?_take_of_lt (by omega)];exact h1
  have ndP:ps.Nodup:=by rw[<-S.pre];exact S.nd.sublist (List.take_sublist _ _)
  refine⟨u,rv,?_⟩;rcases S.par y (List.mem_of_getElem? hp)with k|k
  .exact .inl ⟨k,a3A ndP hp hu k⟩
  .obtain⟨c,e⟩:=a5x (n:=s.heap.objs.size+1) k;refine .inr ⟨.inl k,c,e,?_⟩;have q:=x.cell y c e;rw[a3C ndP hp hu (by show scope.names.lookup y≠_;rw[k];decide)]at q;exact q
 .exact e0.hok.fresh (Nat.le_of_lt (x.above y c (PySem.mem_of_lookup h)))
 .unfold start;show _=N.length;rw[List.length_append,List.length_map,List.length_replicate];omega
theorem b4j{CX:CXT}{P:Program}{w:World}{K:PySem.W.Frag}{mg:Str->Option Value}{base:Heap}{k:Nat}{f:Addr}{name qual:Str}{params:Arguments}{body:List Stmt}{scope:Scope}{dV kV doc pm cdv ct oc:Value}{an od:Option Addr}
  {osl:Array (Option Value)}{N ps:List Str}{sp:Sp}(lk:K.lookup f=some ⟨oc,od,.func (PySem.W.fnOf name qual params body scope dV kV doc pm an cdv ct),osl⟩) (hcd:PySem.W.codeIn K cdv qual=true) (S:FnScope N ps scope)
  (len:∀vs H Q E,sp vs H Q E->vs.length=ps.length)
  (hbody:∀(A:Around) (outer:List Env) (s:Shared) (H:Hp) (vs:List V) (Q:VK) (E:XK),Room k (A.deeper (envOfC qual scope s.heap.objs.size f cdv))->sp vs H Q E ->
   ∃t,PSs (T4 CX P w K mg base N qual scope f cdv A outer s H E) body t/\t {nx:=λ_ H'=>Q .non H',rt:=Q} (start N vs) H) :
  FnOk P w K mg base CX (k+1) f (PySem.W.fnOf name qual params body scope dV kV doc pm an cdv ct) ps sp:=by
 refine⟨len,λA outer s H args us vs Q E hr e0 hb r hsp=>?_⟩;have hl:=len _ _ _ _ hsp;have KX:K.In s.heap:=e0.mod.kin.keeps λb o e=>(e0.bs b o e).1;have lim:s.heap.NoLimit:=e0.mod.nolimit.keeps λb o e=>(e0.bs b o e).1;have hkind:∀y∈ps.zip us,scope.names.lookup y.1=some .local∨(scope.names.lookup y.1=some .cell/\((cellsFrom (s.heap.objs.size+1) scope.names []).lookup y.1).isSome=true):=λ⟨n,v⟩ hy=>by
  rcases S.par n (List.of_mem_zip hy).1 with q|q
  .exact .inl q
  .exact .inr ⟨q,PySem.W.cellsFrom_some _ _ _ (.inl q)⟩
 refine codeAny_call_function hr.depth (KX _ _ lk) rfl S.co S.gen rfl (PySem.W.codeRec_of KX hcd) (hb _ _ _ _ ?_);refine wpAny_newFunctionEnv_cells S.kind hkind λenv he s1 x=>?_;subst he;refine⟨lim.keeps x.toInCall.keep,codeAny_func ?_⟩;obtain⟨t,ht,hq⟩:=hbody A outer s H vs Q E (hr.deeper _) hsp;have I:Inv (T4 CX P w K mg base N qual scope f cdv A outer s H E) [] (start N vs) H s1:=a8L S hr.hd e0 hl r x;refine wpAny_mono (ht [] s1 (start N vs) H _ I hq) (λfl s' hs=>?_) λe s' hs=>hs;have fin:∀{σ':St}{H':Hp}{v:V}{u:Value},Inv (T4 CX P w K mg base N qual scope f cdv A outer s H E) [] σ' H' s'->RelV v u->Q v H'->CE outer P w H s Q u s' :=
  λ{σ' H' v u} J rv q=>⟨v,H',J.os,J.bare,J.base,J.hok,rv,q⟩
 cases fl with
 |ret u =>
  obtain⟨v,σ',H',J,rv,q⟩:=hs;exact fin J rv q
 |next =>
  obtain⟨σ',H',J,q⟩:=hs;exact fin (v:=V.non) (u:=Value.none) J rfl q
 |brk =>
  obtain⟨_,_,_,q⟩:=hs;exact False.elim q
 |cont =>
  obtain⟨_,_,_,q⟩:=hs;exact False.elim q
section
variable {X:Cx}{x:Str}{p pos:Pos}{e:Expr}{es:List Expr}{t:TA}{id T:String}{r:List V->Hp->VK->Prop}
def tCB(r:List V->Hp->VK->Prop)(t:TA):TE:=λσ H Q=>t σ H λvs H1=>r vs H1 Q
theorem G7(hc:E1 X (.builtin id) r)(hg:Gl X x)(hm:X.mg x=none)(hv:bootBuiltins x=some (.builtin id))(ha:PA X (e::es) t)(hn:x≠"__name__":=by decide)(hdb:(x==("__debug__" : Str))=false:=by decide)
  (he:starEach (e::es) X.env=(false,eval e X.env)::starEach es X.env:=by rfl) (hpl:(backTo pos (starEach es X.env)).any (·.1)=false:=by rfl):PE X (.Call (.Name x p) (e::es) [] pos) (tCB r t):=by
 intro pins s σ H Q I h;refine wpAny_Call_Name_kw (a2p I hg hm hv ?_ hn hdb);exact PyProof.Rows.callWith_builtin1 (thn (ha pos pins s σ H _ I h) λus s1 ⟨vs,H1,I1,r1,q1⟩=>hc pins s1 σ H1 vs us Q I1 r1 q1) he hpl
theorem L1(hc:E1 X (.type T) r)(hg:Gl X x)(hm:X.mg x=none)(hv:bootBuiltins x=some (.type T))(ha:PA X (e::es) t)(hn:x≠"__name__":=by decide)(hdb:(x==("__debug__" : Str))=false:=by decide)
  (he:starEach (e::es) X.env=(false,eval e X.env)::starEach es X.env:=by rfl) (hpl:(backTo pos (starEach es X.env)).any (·.1)=false:=by rfl):PE X (.Call (.Name x p) (e::es) [] pos) (tCB r t):=by
 intro pins s σ H Q I h;refine wpAny_Call_Name_kw (a2p I hg hm hv ?_ hn hdb);exact PyProof.Rows.callWith_type1 (thn (ha pos pins s σ H _ I h) λus s1 ⟨vs,H1,I1,r1,q1⟩=>hc pins s1 σ H1 vs us Q I1 r1 q1) he hpl
end
end L2
namespace HT
open PySem PyProof.Rows
noncomputable def lexLt:List Int->List Int->Bool
 |[],[]=>false
 |[],_::_=>true
 |_::_,[]=>false
 |x::xs,y::ys=>if x=y then lexLt xs ys else decide (x<y)
theorem lexLt_cons(x y:Int)(xs ys:List Int):lexLt (x::xs) (y::ys)=if x=y then lexLt xs ys else decide (x<y):=rfl
section
open PySem.SeqAt
open PySem.AutoSeq1 (wpAny_loadPart')
open PySem.MeetsSeq PySem.MeetsSeq2 PySem.MeetsSeq3
end
section
variable {prog:Program}{w:World}{A:Around}{E:Value->Shared->Prop}{s:Shared}
theorem cat_tup{t b:Addr}{vs ws:List Value}{Q:Value->Shared->Prop}(ht:IsTup s.heap t vs.toArray)(hb:IsTup s.heap b ws.toArray)(hv:vs≠[])
  (h1:ws=[]->Q (.ref t) s) (h2:ws≠[]->Q (.ref s.heap.objs.size) {s with heap:=s.heap.push {cls:=.type "tuple",data:=.seq (vs++ws).toArray}})
  (hsz:vs.length+ws.length<=sizeLine):wpAny (model prog w) A (binaryOp .Add (.ref t) (.ref b)) Q E s:=by
 obtain⟨⟨cls,dd,data,sl⟩,ho,hc,n,hd⟩:=id ht;obtain⟨⟨cls2,dd2,data2,sl2⟩,ho2,hc2,n2,hd2⟩:=id hb;simp only at hc hd hc2 hd2;subst hc hd hc2 hd2;have e:vs.toArray++ws.toArray=(vs++ws).toArray:=by simp
 by_cases hw:ws=[]
 .exact concat_meets ⟨_,ho,rfl⟩ ⟨_,ho2,rfl⟩ noFill_tuple_add seq_tuple_add PySem.F.slot_tuple_add PySem.F.entry_tuple_add (PySem.F.args_tuple_add_2 _ _)
   (tuple_addW1 t b vs.toArray ws.toArray n n2 dd dd2 sl sl2 (by simpa using hv) (by simp[hw])) ⟨ho,ho2,h1 hw⟩
 .refine concat_meets ⟨_,ho,rfl⟩ ⟨_,ho2,rfl⟩ noFill_tuple_add seq_tuple_add PySem.F.slot_tuple_add PySem.F.entry_tuple_add (PySem.F.args_tuple_add_2 _ _)
   (tuple_addW2 t b vs.toArray ws.toArray n n2 dd dd2 sl sl2 (by simpa using hv) (by simpa using hw) (by rw[List.size_toArray,List.size_toArray];exact hsz)) ⟨ho,ho2,?_⟩
  rw[e];exact h2 hw
noncomputable def sIx(n d:Nat):Option Int->Nat
 |none=>d
 |some v=>if v<0 then(v+(n:Int)).toNat else min v.toNat n
theorem sIx_none(n d:Nat):sIx n d none=d:=rfl
theorem sIx_nat(n d k:Nat):sIx n d (some (k:Int))=min k n:=by
 show(if (k:Int)<0 then((k:Int)+(n:Int)).toNat else min (k:Int).toNat n)=min k n;rw[if_neg (by omega),Int.toNat_natCast]
theorem b4t(n d:Nat)(hd:d<=n)(o:Option Int):sIx n d o<=n:=by
 cases o with
 |none=>exact hd
 |some v =>
  show(if v<0 then(v+(n:Int)).toNat else min v.toNat n)<=n;by_cases hv:v<0
  .rw[if_pos hv];omega
  .rw[if_neg hv];exact Nat.min_le_right _ _
theorem a7J(v:Int)(n d:Nat):(if v<0 then max (v+(n:Int)) 0 else min v (n:Int))=((sIx n d (some v):Nat):Int):=by
 show(if v<0 then max (v+(n:Int)) 0 else min v (n:Int))=(((if v<0 then(v+(n:Int)).toNat else min v.toNat n):Nat):Int);by_cases hv:v<0
 .simp only[if_pos hv];omega
 .simp only[if_neg hv];omega
theorem a6A(lo hi:Option Int)(n:Nat):Builtin.Slice.sliceAdjust lo hi 1 (n:Int)=(((sIx n 0 lo:Nat):Int),((sIx n n hi:Nat):Int)):=by
 have h1:¬((1:Int)<0):=by omega
 unfold Builtin.Slice.sliceAdjust;simp only[h1,if_false];refine Prod.ext ?_ ?_
 .cases lo with
  |none=>rfl
  |some v=>exact a7J v n 0
 .cases hi with
  |none=>rfl
  |some v=>exact a7J v n n
theorem a5Y(i j:Nat):Builtin.Slice.slicePlaces (i:Int) (j:Int) 1=j-i:=by
 unfold Builtin.Slice.slicePlaces;have h1:(1:Int) > 0:=by omega
 simp only[h1,if_true,Int.ediv_one];split<;>omega
theorem a1W{v:Value}{o:Option Int}{Q:Option Int->Shared->Prop}(p:IsPart v o)(h:Q o s):wpAny (model prog w) A (Builtin.Slice.slicePartIndex v) Q E s:=by
 cases p with
 |none=>exact slicePart_none h
 |int i t=>exact slicePart_int h
theorem a0I{sl:Addr}{vl vu:Value}{lo hi:Option Int}{n:Nat}{Q:Int×Int×Nat->Shared->Prop}(hs:s.heap.IsSliceOf sl vl vu .none)(pl:IsPart vl lo)(pu:IsPart vu hi)
  (h:Q (((sIx n 0 lo:Nat):Int),1,sIx n n hi-sIx n 0 lo) s):wpAny (model prog w) A (Builtin.Slice.sliceApplied (.ref sl) (pure (n:Int))) Q E s:=by
 obtain⟨os,hos,hcs,hds⟩:=id hs;unfold Builtin.Slice.sliceApplied Builtin.Slice.sliceFields;refine wpAny_bind (wpAny_bind (wpAny_field hos hds (x:=vl) rfl (wpAny_bind (wpAny_field hos hds (x:=vu) rfl (wpAny_bind (wpAny_field hos hds (x:=.none) rfl (wpAny_pure ?_)))))));refine wpAny_bind (slicePart_none ?_);show wpAny _ _ (if ((1:Int)==0)=true then _ else _) _ _ s;rw[if_neg (by decide)];refine wpAny_bind (a1W pl (wpAny_bind (a1W pu (wpAny_bind (wpAny_pure ?_)))));show wpAny _ _ (match Builtin.Slice.sliceAdjust lo hi 1 (n:Int)with | (lo,hi)=>pure (lo,(1:Int),Builtin.Slice.slicePlaces lo hi 1)) _ _ s;rw[a6A lo hi n];show wpAny _ _ (pure (((sIx n 0 lo:Nat):Int),(1:Int),Builtin.Slice.slicePlaces ((sIx n 0 lo:Nat):Int) ((sIx n n hi:Nat):Int) 1)) _ _ s;rw[a5Y];exact wpAny_pure h
theorem b0n(xs:Array Value)(i k:Nat):((List.range k).filterMap λ(m:Nat)=>xs[((i:Int)+(m:Int)*1).toNat]?).toArray=((xs.toList.drop i).take k).toArray:=by
 have e:(λ(m:Nat)=>xs[((i:Int)+(m:Int)*1).toNat]?)=λm=>xs[i+m]?:=by
  funext m;have:((i:Int)+(m:Int)*1).toNat=i+m:=by omega
  rw[this]
 rw[e];have:=pick_run xs i k;rw[List.filterMap_map]at this;have e2:((λx=>xs[x]?) ∘ λx=>i+x)=λm=>xs[i+m]?:=rfl;rw[e2]at this;rw[this]
theorem getItem_tuple_cut{t sl:Addr}{items:Array Value}{vl vu:Value}{lo hi:Option Int}{Q:Value->Shared->Prop}(ht:IsTup s.heap t items)(hs:s.heap.IsSliceOf sl vl vu .none)(pl:IsPart vl lo)(pu:IsPart vu hi)
  (hw:¬(sIx items.size 0 lo=0/\sIx items.size items.size hi=items.size))
  (h:Q (.ref s.heap.objs.size) {s with heap:=s.heap.push {cls:=.type "tuple",data:=.seq ((items.toList.drop (sIx items.size 0 lo)).take (sIx items.size items.size hi-sIx items.size 0 lo)).toArray}})
  (hsz:items.size<=sizeLine):wpAny (model prog w) A (getItem (.ref t) (.ref sl)) Q E s:=by
 have htake:sizeOk (.seq ((items.toList.drop (sIx items.size 0 lo)).take (sIx items.size items.size hi-sIx items.size 0 lo)).toArray):=by
  show((items.toList.drop (sIx items.size 0 lo)).take (sIx items.size items.size hi-sIx items.size 0 lo)).toArray.size<=sizeLine;rw[List.size_toArray,List.length_take,List.length_drop,Array.length_toList];omega
 have hj:sIx items.size items.size hi<=items.size:=b4t _ _ (Nat.le_refl _) hi;obtain⟨os,hos,hcs,hds⟩:=id hs;have hTs:s.TypeIs (.ref sl) "slice":=⟨os,hos,hcs⟩;unfold getItem
 try with_reducible refine wpAny_holding ?_
 first|refine wpAny_bind (wpAny_pure ?_)|skip
 refine wpAny_bind (wpAny_sequenceKey ht.typeIs (by decide) ?_);refine wpAny_bind (wpAny_callSpecial?_slot (name:=Str.ofString "__getitem__") ht.typeIs PyProof.Rows.slot_tuple_getitem
  (wpAny_call_entry PyProof.Rows.slot_tuple_getitem ht.typeIs entry_tuple_getitem ?_ (args_tuple_getitem _ _)))
 show wpAny _ _ (Builtin.Tuple.tupleItemsOf (.ref t)>>=_) _ _ s;refine wpAny_bind (tupleItemsOf_ ht ?_);refine wpAny_bind (wpAny_typeOf hTs ?_);rw[if_pos (by decide)];refine wpAny_bind (a0I hs pl pu ?_);have hno:¬((((sIx items.size 0 lo:Nat):Int)==0 && (1:Int)==1 && (sIx items.size items.size hi-sIx items.size 0 lo)==items.size)=true):=by
  intro q;rw[Bool.and_eq_true,Bool.and_eq_true]at q;have q1:((sIx items.size 0 lo:Nat):Int)=0:=eq_of_beq q.1.1;have q2:sIx items.size items.size hi-sIx items.size 0 lo=items.size:=eq_of_beq q.2;exact hw ⟨by omega,by omega⟩
 show wpAny _ _ (if (((sIx items.size 0 lo:Nat):Int)==0 && (1:Int)==1 && (sIx items.size items.size hi-sIx items.size 0 lo)==items.size)=true then _ else _) _ _ s;rw[if_neg hno,b0n]
 first
  |exact wpAny_bind (m:=Builtin.Tuple.tupleExact _) (wpAny_newObj_type (wpAny_pure ⟨_,rfl,wpAny_pure h⟩) htake)
  |exact wpAny_bind (m:=Builtin.Tuple.tupleExact _) (wpAny_newObj_type (wpAny_bind (wpAny_pure (wpAny_pure ⟨_,rfl,wpAny_pure h⟩))) htake)
  |exact wpAny_bind (wpAny_bind (m:=Builtin.Tuple.tupleExact _) (wpAny_newObj_type (wpAny_pure (wpAny_pure ⟨_,rfl,wpAny_pure h⟩)) htake))
  |exact wpAny_bind (wpAny_bind (m:=Builtin.Tuple.tupleExact _) (wpAny_newObj_type (wpAny_pure ⟨_,rfl,wpAny_pure h⟩) htake))
end
end HT
namespace L2
open PySem PySem.Spec PyProof.Rows
abbrev TO:=St->Hp->(Option Int->Hp->Prop)->Prop
def PO(X:Cx)(e:Option Expr)(t:TO):Prop :=
 ∀(pins:List (Addr×Obj)) (s:Shared) (σ:St) (H:Hp) (Q:Option Int->Hp->Prop),Inv X pins σ H s->t σ H Q ->
  wpAny (model X.prog X.w) X.A (evalPart e X.env) (λu s'=>∃o H',Inv X pins σ H' s'/\IsPart u o/\Q o H') X.xe s
def K2:TO:=λ_ H Q=>Q none H
def a1g(t:TE):TO:=λσ H Q=>t σ H λx H1=>∃i,x=.int i/\Q (some i) H1
theorem a6i{ns:List Int}:∀{us:List Value},Vals (ns.map V.int) us->IntsAre us ns:=by
 induction ns with
 |nil=>intro us r;rw[List.map_nil]at r;cases r;exact .nil
 |cons n ns ih =>
  intro us r;rw[List.map_cons]at r;cases r with
  |cons r1 r2 =>
   obtain⟨t,e⟩:=r1;subst e;exact .cons n t (ih r2)
section
variable {X:Cx}{e:Expr}{te:TE}{lo hi:Option Expr}{tl th:TO}{pos p2:Pos}
theorem b2F:PO X none K2:=by
 intro pins s σ H Q I h;rw[evalPart_none];exact wpAny_pure ⟨none,H,I,.none,h⟩
theorem b2E(h:PE X e te):PO X (some e) (a1g te):=by
 intro pins s σ H Q I hw;rw[evalPart_some];refine thn (h pins s σ H _ I hw) λu s1 ⟨x,H1,I1,r1,q1⟩=>?_;obtain⟨i,rfl,q⟩:=q1;obtain⟨t,rfl⟩:=r1;exact⟨some i,H1,I1,.int i t,q⟩
def SlR(X:Cx)(r:V->Option Int->Option Int->Hp->VK->Prop):Prop :=
 ∀(pins:List (Addr×Obj)) (s:Shared) (σ:St) (H:Hp) (x:V) (v vl vu:Value) (lo hi:Option Int) (sl:Addr) (Q:VK),Inv X pins σ H s->RelV x v->s.heap.IsSliceOf sl vl vu .none->IsPart vl lo->IsPart vu hi->r x lo hi H Q ->
  ∃T id,typeLookup (.type T) "__getitem__"=pure (some (.builtin id))/\s.TypeIs v T/\wpAny (model X.prog X.w) X.A (getItem v (.ref sl)) (EP X pins σ Q) X.xe s
def tSl(r:V->Option Int->Option Int->Hp->VK->Prop)(te:TE)(tl th:TO):TE:=λσ H Q=>te σ H λx H1=>tl σ H1 λl H2=>th σ H2 λu H3=>r x l u H3 Q
theorem a4W{r:V->Option Int->Option Int->Hp->VK->Prop}(hr:SlR X r)(he:PE X e te)(hl:PO X lo tl)(hu:PO X hi th):PE X (.Subscript e (.Slice lo hi none p2) pos) (tSl r te tl th):=by
 intro pins s σ H Q I h;refine Subscript_ (thn (he pins s σ H _ I h) λv s1 ⟨x,H1,I1,r1,q1⟩=>?_);refine wpAny_Slice (thn (hl pins s1 σ H1 _ I1 q1) λvl s2 ⟨l,H2,I2,pl,q2⟩=>thn (hu pins s2 σ H2 _ I2 q2) λvu s3 ⟨u,H3,I3,pu,q3⟩=>?_);rw[evalPart_none];refine wpAny_pure ?_;have I4:Inv X pins σ H3 {s3 with heap:=s3.heap.push {cls:=.type "slice",data:=.fields #[vl,vu,.none]}}:=I3.kept (t':=s3.toks) λb ob q=>Heap.get?_push_of_some _ q;obtain⟨T,id,hT,ht,hg⟩:=hr pins {s3 with heap:=s3.heap.push {cls:=.type "slice",data:=.fields #[vl,vu,.none]}} σ H3 x v vl vu l u s3.heap.objs.size Q I4 r1 (Heap.IsSliceOf.new ..) pl pu q3;show wpAny (model X.prog X.w) X.A (subscriptTail e (.Slice lo hi none p2) v (.ref s3.heap.objs.size)) (EP X pins σ Q) X.xe {s3 with heap:=s3.heap.push {cls:=.type "slice",data:=.fields #[vl,vu,.none]}};exact tail_any (ops:=[.ref s3.heap.objs.size,v]) ht hT hg (by with_unfolding_all rfl)
noncomputable def M2(xs:List V)(lo hi:Option Int):List V:=(xs.drop (HT.sIx xs.length 0 lo)).take (HT.sIx xs.length xs.length hi-HT.sIx xs.length 0 lo)
theorem W1(xs:List V)(lo hi:Option Int):(M2 xs lo hi).length<=xs.length:=by
 unfold M2;rw[List.length_take,List.length_drop];omega
def a3X(K:PySem.W.Frag):V->Option Int->Option Int->Hp->VK->Prop:=λx lo hi H Q=>∃a xs,x=.ref a/\SqT K H a xs /\
 ¬(HT.sIx xs.length 0 lo=0/\HT.sIx xs.length xs.length hi=xs.length)/\∀p,H p=none->Q (.ref p) (upd H p (.tup (M2 xs lo hi)))
theorem b4s:SlR X (a3X X.K):=by
 intro pins s σ H x v vl vu lo hi sl Q I rx hs pl pu h;obtain⟨a,xs,rfl,hx,hw,q⟩:=h;cases rx;obtain⟨its,r,ht,hz⟩:=I.tuple hx;have hlen:its.toArray.size=xs.length:=by rw[List.size_toArray];exact r.length.symm
 refine⟨"tuple",_,PyProof.Rows.slot_tuple_getitem.lookup,ht.typeIs,?_⟩;refine HT.getItem_tuple_cut ht hs pl pu (by rw[hlen];exact hw) ?_ (by rw[hlen];exact hz);rw[hlen];refine⟨.ref s.heap.objs.size,_,I.laid (t':=s.toks) (o:=.tup (M2 xs lo hi)) (λb ob q=>Heap.get?_push_of_some _ q) (Nat.le_refl _) ?_,rfl,q _ (I.hok.fresh (Nat.le_refl _))⟩;exact⟨Nat.le_trans (W1 xs lo hi) hz,_,(r.drop (HT.sIx xs.length 0 lo)).take (HT.sIx xs.length xs.length hi-HT.sIx xs.length 0 lo),IsTp.new _ _⟩
def b6d(K:PySem.W.Frag):R2:=λx y H Q=>∃a b xs ys,x=.ref a/\y=.ref b/\SqT K H a xs/\SqT K H b ys/\xs≠[]/\xs.length+ys.length<=sizeLine /\
 (ys=[]->Q (.ref a) H)/\(ys≠[]->∀p,H p=none->Q (.ref p) (upd H p (.tup (xs++ys))))
theorem Vals.nil_iff{xs:List V}{us:List Value}(r:Vals xs us):us=[]↔xs=[]:=by
 cases r with
 |nil=>simp
 |cons _ _=>simp
theorem b2Y:OpR X (binaryOp .Add) (b6d X.K):=by
 intro pins s σ H x y v u Q I rx ry h;obtain⟨a,b,xs,ys,rfl,rfl,ha,hb,hx,hz,q1,q2⟩:=h;cases rx;cases ry;obtain⟨its,r1,p1,_⟩:=I.tuple ha;obtain⟨its2,r2,p2,_⟩:=I.tuple hb;refine HT.cat_tup p1 p2 (λz=>hx (r1.nil_iff.mp z)) (λz=>⟨.ref a,H,I,rfl,q1 (r2.nil_iff.mp z)⟩) (λz=>?_) (by rw[<-r1.length,<-r2.length];exact hz);refine⟨.ref s.heap.objs.size,_,I.laid (t':=s.toks) (o:=.tup (xs++ys)) (λb ob q=>Heap.get?_push_of_some _ q) (Nat.le_refl _) ?_,rfl,q2 (λw=>z (r2.nil_iff.mpr w)) _ (I.hok.fresh (Nat.le_refl _))⟩;exact⟨by rw[List.length_append];exact hz,_,r1.append r2,IsTp.new _ _⟩
end
noncomputable def ixN(n:Nat)(i:Int):Option Nat:=if 0<=i then(if i<n then some i.toNat else none)else if -(n:Int)<=i then some (i+n).toNat else none
noncomputable def atI{α:Type}(xs:List α)(i:Int):Option α:=(ixN xs.length i).bind λj=>xs[j]?
theorem a4l{n:Nat}{i:Int}{j:Nat}(h:ixN n i=some j):seqIndex? i n=some j/\j<n /\ -(n:Int)<=i/\i<n:=by
 unfold ixN at h;by_cases h0:0<=i
 .rw[if_pos h0]at h;by_cases h1:i<n
  .rw[if_pos h1]at h;have e:i.toNat=j:=Option.some.inj h;exact⟨by rw[seqIndex_of h0 h1,e],by omega,by omega,h1⟩
  .rw[if_neg h1]at h;cases h
 .rw[if_neg h0]at h;by_cases h1 : -(n:Int)<=i
  .rw[if_pos h1]at h;have e:(i+n).toNat=j:=Option.some.inj h;exact⟨by rw[seqIndex_neg (by omega) h1,e],by omega,h1,by omega⟩
  .rw[if_neg h1]at h;cases h
theorem a7O{α:Type}{xs:List α}{i:Int}{v:α}(h:atI xs i=some v):∃j,seqIndex? i xs.length=some j/\xs[j]?=some v/\j<xs.length /\ -(xs.length:Int)<=i/\i<xs.length:=by
 unfold atI at h;cases e:ixN xs.length i with
 |none=>rw[e]at h;cases h
 |some j =>
  rw[e]at h;obtain⟨h1,h2,h3,h4⟩:=a4l e;exact⟨j,h1,h,h2,h3,h4⟩
theorem Y8{α:Type}{xs:List α}{j:Nat}{v:α}(h:xs[j]?=some v):atI xs (j:Int)=some v:=by
 have hj:j<xs.length:=(List.getElem?_eq_some_iff.mp h).1;have e:ixN xs.length (j:Int)=some j:=by
  unfold ixN;rw[if_pos (by omega),if_pos (by omega)];simp
 unfold atI;rw[e];exact h
def a0D(b:Expr):Prop:=∀o i,subscripted b false o i=operate [o,i] (getItem o i)
def IxR(X:Cx)(r:R2):Prop :=
 ∀(value slice:Expr) (pins:List (Addr×Obj)) (s:Shared) (σ:St) (H:Hp) (x y:V) (v u:Value) (Q:VK),Inv X pins σ H s->RelV x v->RelV y u->r x y H Q ->
  subscripted slice false v u=operate [v,u] (getItem v u)->wpAny (model X.prog X.w) X.A (subscriptTail value slice v u) (EP X pins σ Q) X.xe s
def MtR(X:Cx)(id:String)(r:V->List V->Hp->VK->Prop):Prop :=
 ∀(pins:List (Addr×Obj)) (s:Shared) (σ:St) (H:Hp) (x:V) (xs:List V) (v:Value) (us:List Value) (Q:VK),Inv X pins σ H s->RelV x v->Vals xs us->r x xs H Q ->
  wpAny (model X.prog X.w) X.A (call (.builtin id) (v::us)) (EP X pins σ Q) X.xe s
section
variable {X:Cx}{a b:Expr}{ta tb:TE}{pos:Pos}
theorem b4e{r:R2}(hr:IxR X r)(ha:PE X a ta)(hb:PE X b tb)(hs:a0D b):PE X (.Subscript a b pos) (tOp r ta tb):=by
 intro pins s σ H Q I h;exact Subscript_ (b5y ha hb I h λv u s2 x y H2 I2 rx ry q=>hr a b pins s2 σ H2 x y v u Q I2 rx ry q (hs _ _))
def b2y(K:PySem.W.Frag):R2:=λx y H Q=>∃p xs i v,x=.ref p/\y=.int i/\SqL K H p xs/\atI xs i=some v/\Q v H
def a8k(K:PySem.W.Frag):R2:=λx y H Q=>∃p xs i v,x=.ref p/\y=.int i/\SqT K H p xs/\atI xs i=some v/\Q v H
theorem b3u:IxR X (b2y X.K):=by
 intro value slice pins s σ H x y v u Q I rx ry h hs;obtain⟨p,xs,i,z,rfl,rfl,hq,he,q⟩:=h;cases rx;obtain⟨t,rfl⟩:=ry;obtain⟨its,r,pl,hz⟩:=I.list hq;obtain⟨j,h1,h2,h3,h4,h5⟩:=a7O he;obtain⟨w,ew,rw'⟩:=r.get h2;have hl:=r.length;have hn:=a2n;have fin:EP X pins σ Q w s:=⟨z,H,I,rw',q⟩;by_cases h0:0<=i
 .have hj:i.toNat=j:=by
   rw[seqIndex_of h0 h5]at h1;exact Option.some.inj h1
  exact item_listR pl.isList h0 (by omega) (by rw[hj];simpa using ew) fin hs
 .have hj:(i+(its.toArray.size:Int)).toNat=j:=by
   rw[seqIndex_neg (by omega) h4]at h1;rw[List.size_toArray,<-hl];exact Option.some.inj h1
  exact subscriptTail_builtinR (x:=w) pl.isList.typeIs slot_list_getitem.lookup
   (wpAny_getItem_list_neg (Q:=λr s'=>r=w/\EP X pins σ Q r s') pl.isList (by omega) (by rw[List.size_toArray]<;>omega) (by omega) (by rw[hj];simpa using ew) ⟨rfl,fin⟩) hs
theorem b1j:IxR X (a8k X.K):=by
 intro value slice pins s σ H x y v u Q I rx ry h hs;obtain⟨p,xs,i,z,rfl,rfl,hq,he,q⟩:=h;cases rx;obtain⟨t,rfl⟩:=ry;obtain⟨its,r,pl,hz⟩:=I.tuple hq;obtain⟨j,h1,h2,h3,h4,h5⟩:=a7O he;obtain⟨w,ew,rw'⟩:=r.get h2;have hl:=r.length;have hn:=a2n;have fin:EP X pins σ Q w s:=⟨z,H,I,rw',q⟩;exact subscriptTail_builtinR (x:=w) pl.typeIs slot_tuple_getitem.lookup
  (getItem_tuple (j:=j) (Q:=λr s'=>r=w/\EP X pins σ Q r s') pl (by omega) (by omega) (by rw[List.size_toArray,<-hl];exact h1) (by simpa using ew) ⟨rfl,fin⟩) hs
theorem a6d(its:List Value)(n j:Nat)(u:Value):Obj.mapSeq (·.setIfInBounds j u) {cls:=.type "list",data:=.seq its.toArray n}={cls:=.type "list",data:=.seq (its.set j u).toArray n}:=by
 simp[Obj.mapSeq]
theorem Inv.lst{pins:List (Addr×Obj)}{σ:St}{H:Hp}{s:Shared}{p:Addr}{xs:List V}(I:Inv X pins σ H s)(h:H p=some (.lst xs)) :
  ∃(its:List Value) (n:Nat),Vals xs its/\s.heap.get? p=some {cls:=.type "list",data:=.seq its.toArray n}/\xs.length<=sizeLine:=by
 obtain⟨z,its,n,r,e⟩:=I.hok p _ h;exact⟨its,n,r,e,z⟩
theorem Inv.lstUpd{pins:List (Addr×Obj)}{σ:St}{H:Hp}{s:Shared}{p:Addr}{xs ys:List V}{its its':List Value}{n n':Nat}{f:Obj->Obj}(I:Inv X pins σ H s)(h:H p=some (.lst xs))
  (ho:s.heap.get? p=some {cls:=.type "list",data:=.seq its.toArray n}) (hf:f {cls:=.type "list",data:=.seq its.toArray n}={cls:=.type "list",data:=.seq its'.toArray n'}) (r:Vals ys its') (hz:ys.length<=sizeLine) (t:Nat) :
  Inv X pins σ (upd H p (.lst ys)) {s with heap:=s.heap.update p f,toks:=t}:=by
 have e:(s.heap.update p f).get? p=some {cls:=.type "list",data:=.seq its'.toArray n'}:=by
  rw[Heap.get?_update_self f ho (by rw[hf]<;>rfl),hf]
 refine I.write (x:=p) (e:=p) (by rw[h];trivial) (.inl rfl) (λb u hb q=>(Heap.get?_update_other _ _ (Ne.symm hb)).trans q) ⟨_,e⟩ ?_;exact⟨hz,its',n',r,e⟩
def b3Y:V->V->V->Hp->(Hp->Prop)->Prop:=λo i v H Q=>∃p xs k j,o=.ref p/\i=.int k/\H p=some (.lst xs)/\ixN xs.length k=some j/\Q (upd H p (.lst (xs.set j v)))
theorem a9I:b6D X b3Y:=by
 intro pins s σ H o i v ov iv u Q I ro ri rv h;obtain⟨p,xs,k,j,rfl,rfl,hp,hj,q⟩:=h;cases ro;obtain⟨t,rfl⟩:=ri;obtain⟨its,n,r,ho,hz⟩:=I.lst hp;obtain⟨h1,h2,h3,h4⟩:=a4l hj;have hl:=r.length;have hn:=a2n;have I':Inv X pins σ (upd H p (.lst (xs.set j v))) {s with heap:=s.heap.update p (Obj.mapSeq (·.setIfInBounds j u))} :=
  I.lstUpd hp ho (a6d its n j u) (r.set rv j) (by rw[List.length_set];exact hz) s.toks
 by_cases h0:0<=k
 .have hk:k.toNat=j:=by
   rw[seqIndex_of h0 h4]at h1;exact Option.some.inj h1
  exact PySem.W.ki_setAt ho h0 (by omega) (by rw[List.size_toArray,<-hl];exact h4) (by rw[hk];exact⟨_,I',q⟩)
 .have hk:(k+(its.toArray.size:Int)).toNat=j:=by
   rw[seqIndex_neg (by omega) h3]at h1;rw[List.size_toArray,<-hl];exact Option.some.inj h1
  exact PySem.W.ki_setBack ho (by omega) (by rw[List.size_toArray,<-hl];exact h3) (by omega) (by rw[hk];exact⟨_,I',q⟩)
theorem a3Q(lo hi:Option Int)(n:Nat):(sliceBounds lo hi none n).1=((HT.sIx n 0 lo:Nat):Int)/\(sliceBounds lo hi none n).2.1=((HT.sIx n n hi:Nat):Int)/\(sliceBounds lo hi none n).2.2=1:=by
 refine⟨?_,?_,rfl⟩
 .cases lo with
  |none=>simp[sliceBounds,HT.sIx]
  |some i =>
   simp only[sliceBounds,HT.sIx,Option.getD_none,show(1:Int) > 0 by decide,if_true];by_cases h:i<0
   .simp only[h,if_true]<;>omega
   .simp only[h,if_false]<;>omega
 .cases hi with
  |none=>simp[sliceBounds,HT.sIx]
  |some i =>
   simp only[sliceBounds,HT.sIx,Option.getD_none,show(1:Int) > 0 by decide,if_true];by_cases h:i<0
   .simp only[h,if_true]<;>omega
   .simp only[h,if_false]<;>omega
theorem a2P(its:List Value)(lo hi:Option Int):slicePick its.toArray lo hi none=((its.drop (HT.sIx its.length 0 lo)).take (HT.sIx its.length its.length hi-HT.sIx its.length 0 lo)).toArray:=by
 obtain⟨h1,h2,h3⟩:=a3Q lo hi its.toArray.size;unfold slicePick;rw[h1,h2,h3];simp only[sliceRange_one,pick_run,List.size_toArray]<;>rfl
def b4v(K:PySem.W.Frag):V->Option Int->Option Int->Hp->VK->Prop:=λx lo hi H Q=>∃a xs,x=.ref a/\SqL K H a xs/\∀p,H p=none->Q (.ref p) (upd H p (.lst (M2 xs lo hi)))
theorem b2m:SlR X (b4v X.K):=by
 intro pins s σ H x v vl vu lo hi sl Q I rx hs pl pu h;obtain⟨a,xs,rfl,hx,q⟩:=h;cases rx;obtain⟨its,r,ht,hz⟩:=I.list hx;have hlen:=r.length;refine⟨"list",_,slot_list_getitem.lookup,ht.isList.typeIs,?_⟩;refine wpAny_getItem_list_slice ht.isList hs pl pu .none (by simp) ?_ (by rw[List.size_toArray]<;>omega);rw[a2P,<-hlen];refine⟨.ref s.heap.objs.size,_,I.laid (t':=s.toks) (o:=.lst (M2 xs lo hi)) (λb ob q=>Heap.get?_push_of_some _ q) (Nat.le_refl _) ?_,rfl,q _ (I.hok.fresh (Nat.le_refl _))⟩;exact⟨Nat.le_trans (W1 xs lo hi) hz,_,0,(r.drop (HT.sIx xs.length 0 lo)).take (HT.sIx xs.length xs.length hi-HT.sIx xs.length 0 lo),Heap.get?_push_size _ rfl⟩
noncomputable def a5q:V->Bool
 |.non=>true
 |.bl _=>true
 |.int _=>true
 |.str _=>true
 |_=>false
noncomputable def eqV:V->V->Bool
 |.non,.non=>true
 |.bl a,.bl b=>a==b
 |.bl a,.int b=>(if a then 1 else 0)==b
 |.int a,.bl b=>a==(if b then 1 else 0)
 |.int a,.int b=>a==b
 |.str a,.str b=>a==b
 |_,_=>false
theorem b5v{A:Around}{s:Shared}{y x:V}{u v:Value}(ry:RelV y u)(rx:RelV x v)(fy:a5q y=true)(fx:a5q x=true):SeqAt.EqAt A s u v (eqV y x):=by
 cases y with
 |non =>
  cases ry;cases x with
  |non=>cases rx;exact SeqAt.EqAt.same _
  |bl b=>cases rx;exact SeqAt.EqAt.none_bool b
  |int b=>obtain⟨t,rfl⟩:=rx;exact SeqAt.EqAt.none_int b t
  |str b=>obtain⟨t,rfl⟩:=rx;exact SeqAt.EqAt.none_str b t
  |_=>exact absurd (show false=true from fx) Bool.false_ne_true
 |bl a =>
  cases ry;cases x with
  |non=>cases rx;exact SeqAt.EqAt.bool_none a
  |bl b=>cases rx;exact SeqAt.EqAt.bool_bool a b
  |int b=>obtain⟨t,rfl⟩:=rx;exact SeqAt.EqAt.bool_int a b t
  |str b=>obtain⟨t,rfl⟩:=rx;exact SeqAt.EqAt.bool_str a b t
  |_=>exact absurd (show false=true from fx) Bool.false_ne_true
 |int a =>
  obtain⟨t',rfl⟩:=ry;cases x with
  |non=>cases rx;exact SeqAt.EqAt.int_none a t'
  |bl b=>cases rx;exact SeqAt.EqAt.int_bool a t' b
  |int b=>obtain⟨t,rfl⟩:=rx;exact SeqAt.EqAt.int_int a t' b t
  |str b=>obtain⟨t,rfl⟩:=rx;exact SeqAt.EqAt.int_str a t' b t
  |_=>exact absurd (show false=true from fx) Bool.false_ne_true
 |str a =>
  obtain⟨t',rfl⟩:=ry;cases x with
  |non=>cases rx;exact SeqAt.EqAt.str_none a t'
  |bl b=>cases rx;exact SeqAt.EqAt.str_bool a t' b
  |int b=>obtain⟨t,rfl⟩:=rx;exact SeqAt.EqAt.str_int a t' b t
  |str b=>obtain⟨t,rfl⟩:=rx;exact SeqAt.EqAt.str_str a t' b t
  |_=>exact absurd (show false=true from fx) Bool.false_ne_true
 |_=>exact absurd (show false=true from fy) Bool.false_ne_true
theorem a4u:E1 X (.builtin "len") (λxs H Q=>∃p ys,xs=[.ref p]/\(SqL X.K H p ys∨SqT X.K H p ys)/\Q (.int ys.length) H):=by
 intro pins s σ H xs us Q I r h;obtain⟨p,ys,rfl,hq,q⟩:=h;obtain⟨u,rfl,rx⟩:=a2X r;cases rx;have hn:=a2n;rcases hq with hq|hq
 .obtain⟨its,r',pl,hz⟩:=I.list hq;have hlen:=r'.length;exact Calls.call_len_list pl.isList (by simp only[List.size_toArray]<;>omega) ⟨.int ys.length,H,I.tok _,⟨s.toks+1,by rw[List.size_toArray,hlen]⟩,q⟩
 .obtain⟨its,r',pl,hz⟩:=I.tuple hq;have hlen:=r'.length;exact len_tuple pl (by simp only[List.size_toArray]<;>omega) ⟨.int ys.length,H,I.tok _,⟨s.toks+1,by rw[List.size_toArray,hlen]⟩,q⟩
theorem a4t:E1 X (.type "list") (λxs H Q=>∃p ys,xs=[.ref p]/\(SqL X.K H p ys∨SqT X.K H p ys)/\∀l,H l=none->Q (.ref l) (upd H l (.lst ys))):=by
 intro pins s σ H xs us Q I r h;obtain⟨p,ys,rfl,hq,q⟩:=h;obtain⟨u,rfl,rx⟩:=a2X r;cases rx;have fin:∀(its:List Value),Vals ys its->ys.length<=sizeLine->∀(h':Heap) (c':Nat),(∀b o',s.heap.get? b=some o'->h'.get? b=some o') ->
   h'.get? s.heap.objs.size=some {cls:=.type "list",dict:=none,data:=.seq its.toArray c',slots:=#[]}->EP X pins σ Q (.ref s.heap.objs.size) {s with heap:=h'}:=λits r' hz h' c' kp e =>
  ⟨.ref s.heap.objs.size,_,I.laid (t':=s.toks) kp (Nat.le_refl _) (show ObjOk X.prog X.w _ h' _ (.lst ys)from⟨hz,its,c',r',e⟩),rfl,q _ (I.hok.fresh (Nat.le_refl _))⟩
 rcases hq with hq|hq
 .obtain⟨its,r',pl,hz⟩:=I.list hq;have hlen:=r'.length;obtain⟨o,ho,hc,n,hd⟩:=pl.isList;exact call_list_seq p (.inl rfl) ho hc hd (λh' c' kp e=>fin its r' hz h' c' kp e) (by simp only[List.size_toArray]<;>omega)
 .obtain⟨its,r',pl,hz⟩:=I.tuple hq;have hlen:=r'.length;obtain⟨o,ho,hc,n,hd⟩:=pl;exact call_list_seq p (.inr rfl) ho hc hd (λh' c' kp e=>fin its r' hz h' c' kp e) (by simp only[List.size_toArray]<;>omega)
theorem a2S:E1 X (.type "tuple") (λxs H Q=>∃p ys,xs=[.ref p]/\((SqL X.K H p ys/\∀l,H l=none->Q (.ref l) (upd H l (.tup ys)))∨(SqT X.K H p ys/\Q (.ref p) H))):=by
 intro pins s σ H xs us Q I r h;obtain⟨p,ys,rfl,h⟩:=h;obtain⟨u,rfl,rx⟩:=a2X r;cases rx;rcases h with⟨hq,q⟩|⟨hq,q⟩
 .obtain⟨its,r',pl,hz⟩:=I.list hq;have hlen:=r'.length;refine call_tuple_list pl.isList (λh' kp=>?_) (by simp only[List.size_toArray]<;>omega);have I1:Inv X pins σ H {s with heap:=h'}:=I.kept (t':=s.toks) kp;have I2:Inv X pins σ (upd H h'.objs.size (.tup ys)) {s with heap:=h'.push {cls:=.type "tuple",data:=.seq its.toArray}} :=
   I1.laid (t':=s.toks) (λb o e=>Heap.get?_push_of_some _ e) (Nat.le_refl _) (show ObjOk X.prog X.w _ _ _ (.tup ys)from⟨hz,its,r',IsTp.new _ _⟩)
  exact⟨.ref h'.objs.size,_,I2,rfl,q _ (I1.hok.fresh (Nat.le_refl _))⟩
 .obtain⟨its,r',pl,hz⟩:=I.tuple hq;exact call_tuple_same pl ⟨.ref p,H,I,rfl,q⟩
def tyV(K:PySem.W.Frag)(T:String)(x:V)(H:Hp):Prop:=match x with
 |.str _=>T="str"
 |.int _=>T="int"
 |.ref p=>(T="list" /\ ∃xs,SqL K H p xs)∨(T="tuple" /\ ∃o,K.lookup p=some o/\o.cls=.type "tuple"/\o.dict=none) ∨
   (T="dict"/\((∃kvs,H p=some (.dK kvs))∨∃kvs,H p=some (.dT kvs)))∨(T="set" /\ ∃S n,H p=some (.set S n))
 |_=>False
theorem b4m{pins:List (Addr×Obj)}{σ:St}{H:Hp}{s:Shared}{T:String}{x:V}{v:Value}(I:Inv X pins σ H s)(r:RelV x v)(ty:tyV X.K T x H) :
  s.TypeIs v T/\∀a,v=.ref a->∃ob,s.heap.get? a=some ob/\ob.dict=none:=by
 cases x with
 |str z =>
  obtain⟨t,rfl⟩:=r;cases(show T="str" from ty);exact⟨typeIs_str s z t,λ_ e=>nomatch e⟩
 |int i =>
  obtain⟨t,rfl⟩:=r;cases(show T="int" from ty);exact⟨typeIs_int s i t,λ_ e=>nomatch e⟩
 |ref p =>
  cases r;rcases ty with⟨rfl,xs,hq⟩|⟨rfl,o,hk,hc,hd⟩|⟨rfl,hk⟩|⟨rfl,S,n,hk⟩
  .obtain⟨its,_,pl,_⟩:=I.list hq;refine⟨pl.isList.typeIs,λa e=>?_⟩;cases e;obtain⟨o,n,e,c,hd,_⟩:=pl;exact⟨o,e,hd⟩
  .refine⟨⟨o,I.kIn p o hk,hc⟩,λa e=>?_⟩;cases e;exact⟨o,I.kIn _ o hk,hd⟩
  .have z:∃o,s.heap.get? p=some o/\o.ExactDict:=by
    rcases hk with⟨kvs,hk⟩|⟨kvs,hk⟩
    .obtain⟨_,_,_,_,o,_,_,e,ex,_⟩:=I.hok p _ hk;exact⟨o,e,ex⟩
    .obtain⟨_,_,_,_,o,_,_,e,ex,_⟩:=I.hok p _ hk;exact⟨o,e,ex⟩
   obtain⟨o,e,ex⟩:=z;refine⟨⟨o,e,ex.1⟩,λa e2=>?_⟩;cases e2;exact⟨o,e,ex.2.1⟩
  .obtain⟨o,_,_,_,e,ex,_⟩:=I.hok p _ hk;refine⟨⟨o,e,ex.1⟩,λa e2=>?_⟩;cases e2;exact⟨o,e,ex.2.1⟩
 |_=>exact False.elim ty
def tBM(K:PySem.W.Frag)(T:String)(r:V->List V->Hp->VK->Prop)(to:TE)(t:TA):TE:=λσ H Q=>to σ H λx H1=>tyV K T x H1/\t σ H1 λxs H2=>r x xs H2 Q
variable {o e:Expr}{es:List Expr}{to:TE}{t:TA}{name:Str}{apos cpos:Pos}{T id:String}{r:V->List V->Hp->VK->Prop}
theorem b6j(pa:PlainAttrs T)(slot:Slot T name id)(hty:typeOf (.builtin id)=pure (.type "method_descriptor"))(hm:MtR X id r)(ho:PE X o to)(ha:PA X (e::es) t)
  (hbase:attributeBase o name X.env (eval o X.env)=eval o X.env:=by rfl)
  (hfew:((backTo cpos (starEach (e::es) X.env)).all (λx=>!x.1) && (backToKw cpos (keywordEach [] X.env)).all (λx=>x.1.isSome)
   && decide ((e::es).length+([]:List Keyword).length+(if ([]:List Keyword).isEmpty then 0 else 1)<30))=true:=by rfl)
  (hline:(apos.endLine==cpos.line)=true:=by rfl) (hs:starEach (e::es) X.env=(false,eval e X.env)::starEach es X.env:=by rfl) (hplain:(backTo cpos (starEach es X.env)).any (·.1)=false:=by rfl) :
  PE X (.Call (.Attribute o name apos) (e::es) [] cpos) (tBM X.K T r to t):=by
 intro pins s σ H Q I h;refine wpAny_Call_method_late hbase hfew hline rfl (thn (ho pins s σ H _ I h) λv s1 ⟨x,H1,I1,r1,ty,q1⟩=>?_);obtain⟨h1,h2⟩:=b4m I1 r1 ty;refine⟨T,id,pa,slot,hty,h1,h2,?_⟩;have hA:=ha cpos pins s1 σ H1 _ I1 q1;rw[hs]at hA⊢;refine Calls.callWith_builtin (by show(false || (backTo cpos (starEach es X.env)).any (·.1))=false;rw[hplain]<;>rfl) (Calls.evalArgs_plain ?_);exact thn hA λus s2 ⟨vs,H2,I2,r2,q2⟩=>hm pins s2 σ H2 x vs v us Q I2 r1 r2 q2
end
def MtM(X:Cx)(id:String)(r:V->List V->Hp->VK->Prop):Prop :=
 ∀(pins:List (Addr×Obj)) (s:Shared) (σ:St) (H:Hp) (x:V) (xs:List V) (v:Value) (us:List Value) (Q:VK),Inv X pins σ H s->RelV x v->Vals xs us->r x xs H Q ->
  wpAny (model X.prog X.w) X.A (call (.builtin id) (v::us)) (EP X pins σ Q) X.xe s
theorem Vals.one{x:V}{us:List Value}(h:Vals [x] us):∃u,us=[u]/\RelV x u:=by
 cases h with
 |cons r q=>cases q;exact⟨_,rfl,r⟩
theorem Vals.two{x y:V}{us:List Value}(h:Vals [x,y] us):∃u v,us=[u,v]/\RelV x u/\RelV y v:=by
 cases h with
 |cons r h=>obtain⟨v,rfl,q⟩:=Vals.one (x:=y) h;exact⟨_,_,rfl,r,q⟩
theorem Vals.eraseIdx:∀{xs:List V}{us:List Value}(i:Nat),Vals xs us->Vals (xs.eraseIdx i) (us.eraseIdx i)
 |_,_,_,.nil=>.nil
 |_,_,0,.cons _ t=>t
 |_,_,i+1,.cons r t=>.cons r (Vals.eraseIdx i t)
theorem Vals.rep{xs:List V}{us:List Value}(h:Vals xs us):∀k:Nat,Vals (List.replicate k xs).flatten (List.replicate k us).flatten
 |0=>.nil
 |k+1=>by
  rw[List.replicate_succ,List.replicate_succ,List.flatten_cons,List.flatten_cons];exact Vals.append h (Vals.rep h k)
theorem a3j{α:Type}:∀(l:List α) (i:Nat),(l.eraseIdx i).length<=l.length
 |[],_=>Nat.le_refl _
 |_::_,0=>Nat.le_succ _
 |_::r,i+1=>Nat.succ_le_succ (a3j r i)
section
variable {X:Cx}{pins:List (Addr×Obj)}{σ:St}{H:Hp}{s:Shared}{l b:Addr}{xs ys zs:List V}
theorem Inv.lset{its its':List Value}{n:Nat}{f:Array Value->Array Value}{t':Nat}(I:Inv X pins σ H s)(hH:H l=some (.lst xs))
  (e:s.heap.get? l=some {cls:=.type "list",data:=.seq its.toArray n}) (hf:f its.toArray=its'.toArray) (hv:Vals ys its') (hz:ys.length<=sizeLine) :
  Inv X pins σ (upd H l (.lst ys)) {s with heap:=s.heap.update l (Obj.mapSeq f),toks:=t'}:=by
 have q:=PySem.IsL.update e f;rw[hf]at q;refine I.write (x:=l) (e:=l) (by rw[hH];exact trivial) (.inl rfl) (λb' u hb hu=>(Heap.get?_update_other s.heap (Obj.mapSeq f) (Ne.symm hb)).trans hu) ⟨_,q⟩ ?_;exact⟨hz,its',_,hv,q⟩
theorem Inv.lstM(I:Inv X pins σ H s)(hH:H l=some (.lst xs)):xs.length<=sizeLine/\∃(its:List Value) (n:Nat),Vals xs its/\xs.length=its.length/\s.heap.get? l=some {cls:=.type "list",data:=.seq its.toArray n}:=by
 obtain⟨z,its,n,r,e⟩:=I.hok l _ hH;exact⟨z,its,n,r,r.length,e⟩
theorem b0K{n:Nat}(h:n<=sizeLine):Builtin.List.listTooLong n=false:=by
 unfold Builtin.List.listTooLong;exact decide_eq_false (by omega)
end
section
variable {X:Cx}
def a7d:V->List V->Hp->VK->Prop:=λx vs H Q=>∃l xs y,x=.ref l/\vs=[y]/\H l=some (.lst xs)/\xs.length<sizeLine/\Q .non (upd H l (.lst (xs++[y])))
theorem a8D:MtM X "list.append" a7d:=by
 intro pins s σ H x vs v us Q I rx rv h;obtain⟨l,xs,y,rfl,rfl,hH,hz,q⟩:=h;cases rx;obtain⟨u,rfl,ru⟩:=rv.one;obtain⟨z,its,n,r,hl,e⟩:=I.lstM hH;refine call_meets F.slot_list_append ⟨_,e,rfl⟩ F.entry_list_append (F.args_list_append_2 _ _) (PySem.list_append l its.toArray n u (by rw[List.size_toArray];omega)) ⟨e,?_⟩;refine⟨.non,_,I.lset (its':=its++[u]) hH e (by simp) (r.append (.cons ru .nil)) ?_,rfl,q⟩;rw[List.length_append,List.length_singleton];omega
def a7c:V->List V->Hp->VK->Prop:=λx vs H Q=>∃l b xs zs,x=.ref l/\vs=[.ref b]/\H l=some (.lst xs)/\H b=some (.lst zs)/\xs.length+zs.length<=sizeLine/\Q .non (upd H l (.lst (xs++zs)))
theorem a8C:MtM X "list.extend" a7c:=by
 intro pins s σ H x vs v us Q I rx rv h;obtain⟨l,b,xs,zs,rfl,rfl,hH,hB,hz,q⟩:=h;cases rx;obtain⟨u,rfl,ru⟩:=rv.one;cases ru;obtain⟨z,its,n,r,hl,e⟩:=I.lstM hH;obtain⟨z2,its2,n2,r2,hl2,e2⟩:=I.lstM hB;have hsz:its.toArray.size+its2.toArray.size<=sizeLine:=by rw[List.size_toArray,List.size_toArray];omega
 have hlong:¬(!its.toArray.isEmpty && Builtin.List.listTooLong (its.toArray.size+its2.toArray.size))=true:=by
  rw[b0K hsz,Bool.and_false];exact Bool.false_ne_true
 refine call_meets F.slot_list_extend ⟨_,e,rfl⟩ F.entry_list_extend (F.args_list_extend_2 _ _)
  (AutoSeq1.list_extend_list_list_0 l its.toArray n b its2.toArray n2 hlong (by rw[List.size_toArray];omega) (by omega)) ⟨e,e2,?_⟩
 refine⟨.non,_,I.lset (its':=its++its2) hH e (by simp) (r.append r2) ?_,rfl,q⟩;rw[List.length_append];omega
def b0a:V->List V->Hp->VK->Prop:=λx vs H Q=>∃l xs i k y,x=.ref l/\vs=[.int i]/\H l=some (.lst xs) /\ -(2 ^ 63)<=i/\i<2 ^ 63/\seqIndex? i xs.length=some k/\xs[k]?=some y/\Q y (upd H l (.lst (xs.eraseIdx k)))
theorem b0L:MtM X "list.pop" b0a:=by
 intro pins s σ H x vs v us Q I rx rv h;obtain⟨l,xs,i,k,y,rfl,rfl,hH,h1,h2,hk,hy,q⟩:=h;cases rx;obtain⟨u,rfl,ru⟩:=rv.one;obtain⟨t,rfl⟩:=ru;obtain⟨z,its,n,r,hl,e⟩:=I.lstM hH;obtain⟨w,hw,rw'⟩:=r.get hy;refine call_meets F.slot_list_pop ⟨_,e,rfl⟩ F.entry_list_pop (F.args_list_pop_2 _ _)
  (MeetsSeq.list_pop_at l its.toArray n i t k w (fitsIndex_both h1 h2) (by rw[List.size_toArray,<-hl];exact hk) (by rw[<-Array.getElem?_toList];exact hw) (by rw[List.size_toArray];omega)) ⟨e,?_⟩
 refine⟨y,_,I.lset (its':=its.eraseIdx k) hH e ?_ (r.eraseIdx k) ?_,rw',q⟩
 .show its.toArray.eraseIdxIfInBounds k=(its.eraseIdx k).toArray;rw[List.eraseIdxIfInBounds_toArray]
 .have:=a3j xs k;omega
theorem a7l{α:Type}(xs:List α)(k:Nat):(List.replicate k xs).flatten.length=k*xs.length:=by
 induction k with
 |zero=>simp
 |succ k ih=>rw[List.replicate_succ,List.flatten_cons,List.length_append,ih,Nat.succ_mul,Nat.add_comm]
end
section
variable {prog:Program}{w:World}{A:Around}{E:Value->Shared->Prop}{s:Shared}
end
section
variable {X:Cx}
end
end L2
namespace Att
open PySem PySem.W PySem.Calls PyProof.Rows
theorem a1x{P:Params}{h:Heap}:∀(ns:List Int) (vs:List Value),WellAll P h vs (ns.map WData.int)->IntsAre vs ns:=by
 intro ns;induction ns with
 |nil =>
  intro vs w;rw[List.map_nil]at w;cases w;exact .nil
 |cons n ns ih =>
  intro vs w;rw[List.map_cons]at w;cases w with
  |cons a b =>
   cases a;exact .cons _ _ (ih _ b)
theorem a8c{l:OpenLaw}{n:Nat}(hn:l.most=some n){P:Params}{h:Heap}{args:List WData}{vals:List Value}
  (hpre:l.row.toRowW.claim.pre args=true) (hwl:WellAll P h vals args) :
  ∃a vs ns,vals=[Value.ref a]/\args=[WData.list (ns.map WData.int)]/\h.get? a=some {cls:=.type "list",data:=.seq vs.toArray}/\IntsAre vs ns/\ns.length<=n:=by
 have hsh:WShape.hasAll [] args [.list .int]=true:=(pre_splitW hpre).1;have hc:l.pre.holds [] {args:=args}=true:=(pre_splitW hpre).2;obtain⟨d,r,rfl,h1,h2⟩:=hasAllW_cons hsh;obtain rfl:=hasAllW_nil h2;obtain⟨xs,rfl,h3⟩:=hasW_list h1;obtain⟨ns,rfl⟩:=items_int h3;have hlen:ns.length<=n:=by
  unfold OpenLaw.pre at hc;have h4:(WTm.not (.lt (.lit (.int (n:Int))) (.len (.arg 0)))).holds [] {args:=[.list (ns.map .int)]}=true:=by
   have h4:=(holds_andW hc).1;rw[hn]at h4;exact h4
  have h5:=condW_of h4 (w_not (w_lt w_lit (w_len_list (w_arg rfl))));rw[List.length_map]at h5;refine Nat.le_of_not_lt λq=>?_;have q':(n:Int)<((ns.length:Nat):Int):=by omega
  first
   |(rw[decide_eq_true q']at h5;exact absurd h5 (by decide))
   |(simp at h5;omega)
 cases hwl with
 |cons w1 w2 =>
  cases w2;cases w1 with
  |list ho hall=>exact⟨_,_,ns,rfl,rfl,ho,a1x ns _ hall,hlen⟩
theorem a8p(l:OpenLaw)(args:List WData):l.row.toRowW.claim.post args (.bool true) args=true :=
 postW_of (r:=l.row.toRowW) (X:=(true==true))
  (show WShape.has [] (.bool true) .bool=true by first|rfl|decide|simp[WShape.has,WShape.arms,WShape.armsAll])
  (show(WTm.eq .res (.lit (.bool true))).value [] {args:=args,res:=some (.bool true),after:=args}=some (.bool (true==true))from w_eq_bool (w_res rfl) w_lit) rfl
theorem attach_call{l:OpenLaw}{n:Nat}{q:Program}{loose:List Str}{XP:(Str->Option Value)->Heap->Prop}{YP:World->Heap->Prop}{d:DefRec}
  (hn:l.most=some n) (hdf:d.params.defaults=[])
  (call:∀(w:World) (s₀ s₁:Shared) (mg mb:Str->Option Value) (fa:Addr) (o:Obj) (pm cd doc:Value) (a:Addr) (vs:List Value) (ns:List Int),
   Ground q loose [] XP w s₀ mg mb s₁.heap->YP w s₁.heap ->
   s₁.heap.get? fa=some o->o.data=.func (docDef d.name d.params d.body d.scope pm cd doc)->s₁.heap.CodeRec cd d.name->mg d.name=some (.ref fa) ->
   s₁.heap.get? a=some {cls:=.type "list",data:=.seq vs.toArray}->IntsAre vs ns->ns.length<=n->s₁.gens=#[] ->
   codeAny (model l.prog w) callerA (.call (.ref fa) ⟨[.ref a],[]⟩) (λr s'=>r=.ok (.ret (.bool true))/\OldK s₁.heap s'.heap/\s'.os=s₁.os/\AllBare s'.gens) s₁) :
  WalkO q loose XP YP l.row.toRowW d [] (λf vs=>PySem.call f vs):=by
 intro w s₀ s₁ mg mb G Y fa o pm cd doc dV kV ho hd hcd hD hmg hg args vals as hpre hlay hrd hwl hlo;obtain rfl:dV=.none:=Dflts.none hD hdf;obtain rfl:kV=.none:=Dflts.noKw hD;obtain⟨a,vs,ns,rfl,rfl,hobj,hints,hlen⟩:=a8c hn hpre hwl;refine enter_call (codeAny_mono (call w s₀ s₁ mg mb fa o pm cd doc a vs ns G Y ho (fd_plain hd) hcd hmg hobj hints hlen hg) λr s' hq=>?_);obtain⟨rfl,h2,h3,h4⟩:=hq;exact⟨.inl ⟨.bool true,.bool true,[],rfl,λ_=>rfl,.bool true,a8p l _,λ_=>⟨List.Pairwise.nil,λ_ hm=>(nomatch hm)⟩⟩,h2,h3,h4⟩
section
variable {prog:Program}{w:World}{A:Around}{E:Value->Shared->Prop}{s:Shared}{K:Frag}
end
end Att
namespace L2
open PySem PySem.Spec PyProof.Rows
theorem a2W:∀{vs:List Value}{ns:List Int},IntsAre vs ns->Vals (ns.map V.int) vs
 |_,_,.nil=>.nil
 |_,_,.cons n t h=>.cons ⟨t,rfl⟩ (a2W h)
def b5J(H:Hp):Prop:=∀b,H b=none∨∃o xs,H b=some (.frz o (.lst xs))
theorem b0R{P:Program}{w:World}{K:PySem.W.Frag}{mg mb:Str->Option Value}{CX:CXT}{k:Nat}{fa a:Addr}{fd:FuncData}{x:Str}{sp:Sp}{s₁:Shared}{vs:List Value}{ns:List Int}
  (KX:K.In s₁.heap) (hns:s₁.heap.Ns mainGlobals mg) (hb:s₁.heap.Ns builtinsNs mb) (hbb:∀x:Str,x≠"__name__"->mb x=bootBuiltins x) (hlim:s₁.heap.NoLimit) (hg:s₁.gens=#[])
  (ha:s₁.heap.get? a=some {cls:=.type "list",data:=.seq vs.toArray}) (hi:IntsAre vs ns) (hl:ns.length<=sizeLine) (hr:Room k callerA)
  (F:∀base:Heap,K.In base->base.Ns mainGlobals mg->FnOk P w K mg base CX k fa fd [x] sp) (hbind:∀(s:Shared) (u:Value),BindsTo s fd ⟨[u],[]⟩ [(x,u)])
  (hsp:∀H:Hp,b5J H->SqL K H a (ns.map V.int)->sp [.ref a] H (λv _=>v=.bl true) λ_ _ _=>False)
  (hCX:∀H e s',CX [] H s₁ (λ_ _ _=>False) e s'->False) :
  codeAny (model P w) callerA (.call (.ref fa) ⟨[.ref a],[]⟩) (λr s'=>r=.ok (.ret (.bool true))/\OldK s₁.heap s'.heap/\s'.os=s₁.os/\AllBare s'.gens) s₁:=by
 have rv:=a2W hi;have lenV:=hi.length;have core:∀H:Hp,b5J H->SqL K H a (ns.map V.int)->HOk P w H s₁.heap->(∀b,H b≠none->b=a)->(H a≠none->K.lookup a=none) ->
   codeAny (model P w) callerA (.call (.ref fa) ⟨[.ref a],[]⟩) (λr s'=>r=.ok (.ret (.bool true))/\OldK s₁.heap s'.heap/\s'.os=s₁.os/\AllBare s'.gens) s₁:=by
  intro H hO hS hok hA hK;have base_of:∀{b:Addr}{o:Obj},s₁.heap.get? b=some o->H b=none->(a4m s₁.heap H).get? b=some o:=λe n=>b1s e n;have noA:∀{b:Addr}{o:Obj}{es:Array DictEntry}{ep:Nat},s₁.heap.get? b=some o->o.data=.dict es ep->H b=none:=λ{b o es ep} e d=>by
   cases q:H b with
   |none=>rfl
   |some u =>
    have e':b=a:=hA b (by rw[q];simp);subst e';rw[ha]at e;cases e;have d':Data.seq vs.toArray _=Data.dict es ep:=d;cases d'
  have nsK:∀{b:Addr}{m:Str->Option Value},s₁.heap.Ns b m->(a4m s₁.heap H).Ns b m:=λ{b m} ⟨o,es,ep,e,d,r⟩=>⟨o,es,ep,base_of e (noA e d),d,r⟩;have hKb:K.In (a4m s₁.heap H):=λb o e=>base_of (KX b o e) (by
   cases q:H b with
   |none=>rfl
   |some u =>
    have e':b=a:=hA b (by rw[q];simp);subst e';rw[hK (by rw[q];simp)]at e;cases e)
  have hM:Mod K mg (a4m s₁.heap H):=⟨hKb,nsK hns,⟨mb,nsK hb,hbb⟩,let ⟨mc,h1,h2⟩:=hlim;⟨mc,nsK h1,h2⟩⟩;have e0:Env0 P w K mg (a4m s₁.heap H) callerA [] s₁ H:=⟨rfl,hM,λb o e=>b3h e,Nat.le_of_eq (a8M _ _),trivial,λb hb=>absurd (show b∈([]:List Addr)from hb) (by simp),hok,.of_eq hg⟩;refine codeAny_mono ((F _ hKb (nsK hns)).run callerA [] s₁ H ⟨[.ref a],[]⟩ [.ref a] [.ref a] _ _ hr e0 (hbind s₁ (.ref a)) (.cons rfl .nil) (hsp H hO hS)) λr s' h=>?_;cases r with
  |error e=>exact(hCX H e s' h).elim
  |ok fl =>
   cases fl with
   |next=>exact False.elim h
   |brk=>exact False.elim h
   |cont=>exact False.elim h
   |ret u =>
    obtain⟨v,H',os,bare,un,hok',r',q⟩:=h;have q':v=.bl true:=q;subst q';obtain rfl:u=Value.bool true:=r';refine⟨rfl,OldK.of_keep λb o e=>?_,os,bare⟩;cases q:H b with
    |none=>exact un.keep b o e q (by intro z;exact absurd (show b∈([]:List Addr)from z) (by simp)) (by simp)
    |some u =>
     rcases hO b with z|⟨ob,xs,z⟩
     .rw[q]at z;cases z
     .have z2:=un.frzs b ob _ z;obtain⟨e1,_⟩:=hok b _ z;obtain⟨e2,_⟩:=hok' b _ z2;rw[e]at e1;cases e1;exact e2
 cases hk:K.lookup a with
 |some o =>
  have e:=KX a o hk;rw[ha]at e;cases e;refine core (λ_=>none) (λ_=>.inl rfl) (.inr ⟨_,vs.toArray,_,hk,rfl,rfl,rfl,by rw[List.size_toArray,lenV];exact hl,by simpa using rv⟩) (λb u z=>by have z':(none:Option HO)=some u:=z;cases z') (λb z=>absurd rfl z) λz=>absurd rfl z
 |none =>
  refine core (λb=>if b=a then some (.frz {cls:=.type "list",data:=.seq vs.toArray} (.lst (ns.map V.int)))else none) (λb=>?_) (.inl (.inr ⟨{cls:=.type "list",data:=.seq vs.toArray},if_pos rfl⟩)) (λb u z=>?_) (λb z=>?_) λ_=>hk
  .by_cases hb:b=a
   .exact .inr ⟨_,_,if_pos hb⟩
   .exact .inl (if_neg hb)
  .by_cases hb:b=a
   .have z':=(if_pos hb).symm.trans z;cases z';subst hb;exact⟨ha,by rw[List.length_map];exact hl,vs,_,rv,ha⟩
   .have z':=(if_neg hb).symm.trans z;cases z'
  .by_cases hb:b=a
   .exact hb
   .exact absurd (if_neg hb) z
theorem walk_of{l:PySem.W.OpenLaw}{n k:Nat}{q:Program}{loose:List Str}{XP:(Str->Option Value)->Heap->Prop}{YP:World->Heap->Prop}{d:DefRec}{K:Params->PySem.W.Frag}{CX:World->CXT}{sp:World->Sp}{x:Str}
  (hn:l.most=some n) (hn2:n<=sizeLine) (hdf:d.params.defaults=[]) (hr:Room k callerA)
  (hY:∀(w:World) (h:Heap),YP w h->(K w.params).In h)
  (F:∀(w:World) (mg:Str->Option Value) (fa:Addr) (h:Heap),(K w.params).In h->h.Ns mainGlobals mg->mg d.name=some (.ref fa) ->
   ∃fd:FuncData,(∀(s:Shared) (u:Value),BindsTo s fd ⟨[u],[]⟩ [(x,u)]) /\
    ∀base:Heap,(K w.params).In base->base.Ns mainGlobals mg->FnOk l.prog w (K w.params) mg base (CX w) k fa fd [x] (sp w))
  (hsp:∀(w:World) (H:Hp) (a:Addr) (ns:List Int),ns.length<=n->b5J H->SqL (K w.params) H a (ns.map V.int)->sp w [.ref a] H (λv _=>v=.bl true) λ_ _ _=>False)
  (hCX:∀(w:World) (H:Hp) (s:Shared) (e:Value) (s':Shared),CX w [] H s (λ_ _ _=>False) e s'->False) :
  PySem.W.WalkO q loose XP YP l.row.toRowW d [] (λf vs=>PySem.call f vs):=by
 refine Att.attach_call hn hdf λw s₀ s₁ mg mb fa o pm cd doc a vs ns G Y ho hd hcd hmg hobj hints hlen hg=>?_;have KX:=hY w _ Y;obtain⟨fd,hb,hF⟩:=F w mg fa _ KX G.T.g hmg;exact b0R KX G.T.g G.T.b G.T.builtins G.T.nolimit hg hobj hints (Nat.le_trans hlen hn2) hr hF hb (λH hO hS=>hsp w H a ns hlen hO hS) λH e s'=>hCX w H s₁ e s'
end L2
namespace L2
open PySem PySem.Spec PyProof.Rows
noncomputable def R0(s:Stmt)(j:Nat):Stmt:=match s with
 |.ClassDef _ _ _ body _ _ _ _ _ _ _=>body.getD j (.Pass ⟨0,0,0,0⟩)
 |_=>.Pass ⟨0,0,0,0⟩
noncomputable def O5(s:Stmt):Arguments:=match s with
 |.FunctionDef _ a _ _ _ _ _ _ _ _=>a
 |_=>{posonlyargs:=[],args:=[],vararg:=none,kwonlyargs:=[],kw_defaults:=[],kwarg:=none,defaults:=[]}
noncomputable def D9(s:Stmt):List Stmt:=match s with
 |.FunctionDef _ _ b _ _ _ _ _ _ _=>b
 |_=>[]
noncomputable def A3(s:Stmt):Scope:=match s with
 |.FunctionDef _ _ _ _ _ _ sc _ _ _=>sc
 |_=>{kind:=.function,names:=[],isGenerator:=false,isCoroutine:=false}
abbrev CX0:CXT:=λ_ _ _ _ _ _=>False
abbrev E0:XK:=λ_ _ _=>False
theorem a7h{X:Cx}:a0e CX0 X E0:=λ_ _ _ _ _ _ _ h=>h.elim
structure Fun(K:PySem.W.Frag)(x qual:Str)(st:Stmt)(f:Addr)(fd:FuncData):Prop where
 ex:∃(oc:Value) (od:Option Addr) (kV doc pm:Value) (an:Option Addr) (cdv ct:Value) (osl:Array (Option Value)),
  fd=PySem.W.fnOf x qual (O5 st) (D9 st) (A3 st) .none kV doc pm an cdv ct/\K.lookup f=some ⟨oc,od,.func fd,osl⟩/\PySem.W.codeIn K cdv qual=true
 kp:PySem.W.keepIn K (.ref f)=true
section
variable {P:Program}{w:World}{K:PySem.W.Frag}{mg:Str->Option Value}{base:Heap}
theorem Fun.ok{x qual:Str}{st:Stmt}{f:Addr}{fd:FuncData}{N ps:List Str}{k:Nat}{sp:Sp}(F:Fun K x qual st f fd)(S:FnScope N ps (A3 st))(len:∀vs H Q E,sp vs H Q E->vs.length=ps.length)
  (hbody:∀(cdv:Value) (A:Around) (outer:List Env) (s:Shared) (H:Hp) (vs:List V) (Q:VK) (E:XK),Room k (A.deeper (envOfC qual (A3 st) s.heap.objs.size f cdv))->sp vs H Q E ->
   ∃t,PSs (T4 CX0 P w K mg base N qual (A3 st) f cdv A outer s H E).nox (D9 st) t/\t {nx:=λ_ H'=>Q .non H',rt:=Q} (start N vs) H):FnOk P w K mg base CX0 (k+1) f fd ps sp:=by
 obtain⟨oc,od,kV,doc,pm,an,cdv,ct,osl,rfl,lk,hcd⟩:=F.ex;refine b4j lk hcd S len λA outer s H vs Q E hr hsp=>?_;obtain⟨t,h,q⟩:=hbody cdv A outer s H vs Q E hr hsp;exact⟨t,h.nox,q⟩
theorem Fun.binds{x qual:Str}{st:Stmt}{f:Addr}{fd:FuncData}{ps:List Str}(F:Fun K x qual st f fd)
  (h:∀(kV doc pm:Value) (an:Option Addr) (cdv ct:Value) (us:List Value),us.length=ps.length->bindArgs (PySem.W.fnOf x qual (O5 st) (D9 st) (A3 st) .none kV doc pm an cdv ct) ⟨us,[]⟩=pure (ps.zip us)):Binds K fd ps []:=by
 obtain⟨oc,od,kV,doc,pm,an,cdv,ct,osl,rfl,lk,hcd⟩:=F.ex;exact .all (h kV doc pm an cdv ct)
theorem a2B{x qual:Str}{st:Stmt}{f:Addr}{oc:Value}{od an:Option Addr}{osl:Array (Option Value)}{kV doc pm cdv ct:Value}(l:K.lookup f=some ⟨oc,od,.func (PySem.W.fnOf x qual (O5 st) (D9 st) (A3 st) .none kV doc pm an cdv ct),osl⟩)
  (c:PySem.W.codeIn K cdv qual=true) (k:PySem.W.keepIn K (.ref f)=true):Fun K x qual st f (PySem.W.fnOf x qual (O5 st) (D9 st) (A3 st) .none kV doc pm an cdv ct):=⟨⟨oc,od,kV,doc,pm,an,cdv,ct,osl,rfl,l,c⟩,k⟩
end
section
variable {X:Cx}
end
theorem E5{A B:Prop}(h:B):if false=true then A else B:=by
 rw[if_neg Bool.false_ne_true];exact h
theorem V6{A B:Prop}(h:A):if true=true then A else B:=by
 rw[if_pos rfl];exact h
theorem T3{c A B:Prop}[Decidable c](h1:c->A)(h2:¬c->B):if c then A else B:=by
 by_cases h:c
 .rw[if_pos h];exact h1 h
 .rw[if_neg h];exact h2 h
def Same(H H':Hp):Prop:=∀b o,H b=some o->H' b=some o
theorem Same.refl(H:Hp):Same H H:=λ_ _ h=>h
theorem Same.trans{H H1 H2:Hp}(a:Same H H1)(b:Same H1 H2):Same H H2:=λc o h=>b c o (a c o h)
theorem Same.free{H H':Hp}(e:Same H H'){l:Addr}(h:H' l=Option.none):H l=Option.none:=by
 cases q:H l with
 |none=>rfl
 |some o =>
  rw[e l o q]at h;cases h
theorem Same.seq{K:PySem.W.Frag}{H H':Hp}{a:Addr}{xs:List V}(e:Same H H')(h:SqL K H a xs):SqL K H' a xs:=by
 rcases h with(h|⟨o,h⟩)|h
 .exact .inl (.inl (e _ _ h))
 .exact .inl (.inr ⟨o,e _ _ h⟩)
 .exact .inr h
noncomputable def E9(env:Env)(cs:List (Str×Addr))(x:Str×NameKind):List (Str×Addr) :=
 if x.2==.free then(match env.cells.lookup x.1 with|some a=>(x.1,a)::cs|none=>cs)else cs
noncomputable def a1B(scope:Scope)(env:Env):List (Str×Addr):=scope.names.foldl (E9 env) []
theorem a2J{env:Env}(f:Str×NameKind->List (Str×Addr)->Sem (ForInStep (List (Str×Addr))))
  (hf:∀n k r,f (n,k) r=if (k==NameKind.free)=true then(do let a <-cellOf env n;pure (ForInStep.yield ((n,a)::r)))else pure (ForInStep.yield r)) :
  ∀(names:List (Str×NameKind)) (cs:List (Str×Addr)),(∀x∈names,x.2=.free->∃a,env.cells.lookup x.1=some a)->forIn names cs f=pure (names.foldl (E9 env) cs)
 |[],cs,_=>rfl
 |(n,k)::r,cs,h=>by
  rw[List.forIn_cons,List.foldl_cons,hf];have hr:=λy hy=>h y (List.mem_cons_of_mem _ hy);by_cases hk:k=.free
  .subst hk;obtain⟨a,ha⟩:=h (n,NameKind.free) List.mem_cons_self rfl;have e1:cellOf env n=pure a:=by unfold cellOf;rw[ha]
   have e2:E9 env cs (n,NameKind.free)=(n,a)::cs:=by unfold E9;rw[ha];rfl
   rw[e2,<-a2J f hf r _ hr,e1];rfl
  .have hb:(k==NameKind.free)=false:=by simpa using hk
   have e2:E9 env cs (n,k)=cs:=by unfold E9;rw[hb];rfl
   rw[e2,<-a2J f hf r _ hr,hb];rfl
theorem b1J{scope:Scope}{env:Env}(h:∀x∈scope.names,x.2=.free->∃a,env.cells.lookup x.1=some a):closureFor scope env=pure (a1B scope env):=by
 simp only[closureFor];rw[a2J (env:=env) _ (λn k r=>by cases hkc:k==NameKind.free<;>simp[hkc]) scope.names [] h];rfl
theorem a3w{env:Env}{x:Str}{c:Addr}:∀(names:List (Str×NameKind)) (cs:List (Str×Addr)),(names.foldl (E9 env) cs).lookup x=some c->env.cells.lookup x=some c∨cs.lookup x=some c
 |[],cs,h=>.inr h
 |y::r,cs,h=>by
  rw[List.foldl_cons]at h;rcases a3w r _ h with z|z
  .exact .inl z
  .unfold E9 at z;split at z
   .split at z
    .rename_i a ha;rw[List.lookup_cons]at z;cases hb:x==y.1 with
     |true =>
      rw[hb]at z;rw[beq_iff_eq.mp hb];exact .inl (ha.trans z)
     |false =>
      rw[hb]at z;exact .inr z
    .exact .inr z
   .exact .inr z
theorem Y7{scope:Scope}{env:Env}{x:Str}{c:Addr}(h:(a1B scope env).lookup x=some c):env.cells.lookup x=some c :=
 (a3w scope.names [] h).elim id λz=>by cases z
theorem a0c{env:Env}{x:Str}{a:Addr}(ha:env.cells.lookup x=some a):∀(names:List (Str×NameKind)) (cs:List (Str×Addr)),((x,NameKind.free)∈names∨cs.lookup x=some a)->(∀c,cs.lookup x=some c->c=a)->(names.foldl (E9 env) cs).lookup x=some a
 |[],cs,h,_=>h.elim (λz=>by cases z) id
 |y::r,cs,h,hc=>by
  rw[List.foldl_cons];by_cases hy:y.2=.free/\y.1=x
  .have e2:E9 env cs y=(x,a)::cs:=by unfold E9;rw[hy.2,ha,hy.1];rfl
   rw[e2];have el:((x,a)::cs).lookup x=some a:=by rw[List.lookup_cons];simp
   exact a0c ha r _ (.inr el) λc z=>by rw[el]at z;exact(Option.some.inj z).symm
  .have same:(E9 env cs y).lookup x=cs.lookup x:=by
    unfold E9;split
    .rename_i hk;split
     .have hne:(x==y.1)=false:=by
       cases hb:x==y.1 with
       |false=>rfl
       |true=>exact absurd ⟨by simpa using hk,(beq_iff_eq.mp hb).symm⟩ hy
      rw[List.lookup_cons,hne]
     .rfl
    .rfl
   refine a0c ha r _ ?_ (by rw[same];exact hc);rw[same];rcases h with z|z
   .rcases List.mem_cons.mp z with e|z
    .exact absurd ⟨by rw[<-e],by rw[<-e]⟩ hy
    .exact .inl z
   .exact .inr z
theorem a5w{scope:Scope}{env:Env}{x:Str}{a:Addr}(ha:env.cells.lookup x=some a)(hx:(x,NameKind.free)∈scope.names):(a1B scope env).lookup x=some a :=
 a0c ha _ _ (.inl hx) λc z=>by cases z
theorem P7{x:Str}{c:Addr}:∀(names:List (Str×NameKind)) (n:Nat) (acc:List (Str×Addr)),(cellsFrom n names acc).lookup x=some c->(n<=c/\(x,NameKind.cell)∈names)∨acc.lookup x=some c
 |[],_,_,h=>.inr h
 |(y,k)::r,n,acc,h=>by
  unfold cellsFrom at h;split at h
  .rename_i hk;have hk':k=.cell:=by simpa using hk
   rcases P7 r _ _ h with⟨z1,z2⟩|z
   .exact .inl ⟨by omega,List.mem_cons_of_mem _ z2⟩
   .rw[List.lookup_cons]at z;cases hb:x==y with
    |true =>
     rw[hb]at z;cases z;exact .inl ⟨Nat.le_refl _,by rw[hk',beq_iff_eq.mp hb];exact List.mem_cons_self⟩
    |false =>
     rw[hb]at z;exact .inr z
  .rcases P7 r _ _ h with⟨z1,z2⟩|z
   .exact .inl ⟨z1,List.mem_cons_of_mem _ z2⟩
   .exact .inr z
theorem a6s:∀(names:List (Str×NameKind)) (n:Nat) (acc:List (Str×Addr)),(∀x c,acc.lookup x=some c->c<n)->(∀x y c,acc.lookup x=some c->acc.lookup y=some c->x=y) ->
  ∀x y c,(cellsFrom n names acc).lookup x=some c->(cellsFrom n names acc).lookup y=some c->x=y
 |[],_,_,_,h2=>h2
 |(z,k)::r,n,acc,h1,h2=>by
  unfold cellsFrom;split
  .have lk:∀x c,List.lookup x ((z,n)::acc)=some c->(x=z/\c=n)∨acc.lookup x=some c:=λx c e=>by
    rw[List.lookup_cons]at e;cases hb:x==z with
    |true=>rw[hb]at e;cases e;exact .inl ⟨beq_iff_eq.mp hb,rfl⟩
    |false=>rw[hb]at e;exact .inr e
   refine a6s r (n+1) _ (λx c e=>?_) λx y c e e'=>?_
   .rcases lk x c e with⟨_,q⟩|q
    .rw[q];exact Nat.lt_succ_self _
    .exact Nat.lt_succ_of_lt (h1 x c q)
   .rcases lk x c e with⟨q1,q2⟩|q<;>rcases lk y c e' with⟨p1,p2⟩|p
    .rw[q1,p1]
    .exact absurd (h1 y c p) (by rw[q2];exact Nat.lt_irrefl _)
    .exact absurd (h1 x c q) (by rw[p2];exact Nat.lt_irrefl _)
    .exact h2 x y c q p
  .exact a6s r n acc h1 h2
theorem a4s{x:Str}:∀(names:List (Str×NameKind)) (n:Nat) (acc:List (Str×Addr)),((x,NameKind.cell)∈names∨∃c,acc.lookup x=some c)->∃c,(cellsFrom n names acc).lookup x=some c
 |[],_,_,h=>h.elim (λz=>by cases z) id
 |(y,k)::r,n,acc,h=>by
  unfold cellsFrom;split
  .rename_i hk;refine a4s r _ _ ?_;by_cases hx:x=y
   .exact .inr ⟨n,by rw[List.lookup_cons,hx];simp⟩
   .have hb:(x==y)=false:=beq_eq_false_iff_ne.mpr hx;rcases h with z|⟨c,z⟩
    .rcases List.mem_cons.mp z with e|z
     .exact absurd (Prod.mk.inj e).1 hx
     .exact .inl z
    .exact .inr ⟨c,by rw[List.lookup_cons,hb];exact z⟩
  .rename_i hk;refine a4s r _ _ ?_;rcases h with z|z
   .rcases List.mem_cons.mp z with e|z
    .exact absurd (by rw[<-(Prod.mk.inj e).2];rfl) hk
    .exact .inl z
   .exact .inr z
theorem a4a{x:Str}{c:Addr}:∀(names:List (Str×NameKind)) (h:Heap) (acc:List (Str×Addr)),(∀x c,acc.lookup x=some c->∃v,h.IsCell c v)->(cellsFrom h.objs.size names acc).lookup x=some c->∃v,(pushCells h names).IsCell c v
 |[],h,acc,ha,e=>ha x c e
 |(y,k)::r,h,acc,ha,e=>by
  unfold cellsFrom at e;unfold pushCells;split at e
  .rename_i hk;rw[if_pos hk];rw[show h.objs.size+1=(h.push {cls:=.type "cell",data:=.cell none}).objs.size from(Heap.size_push ..).symm]at e;refine a4a r _ _ (λx' c' e'=>?_) e;rw[List.lookup_cons]at e';cases hb:x'==y with
   |true=>rw[hb]at e';cases e';exact⟨_,_,Heap.get?_push_size _ rfl,rfl⟩
   |false =>
    rw[hb]at e';obtain⟨v,z⟩:=ha x' c' e';exact⟨v,z.keeps λb o q=>Heap.get?_push_of_some _ q⟩
  .rename_i hk;rw[if_neg hk];exact a4a r _ _ ha e
section
variable {M:Model}{A:Around}{E:Value->Shared->Prop}{s:Shared}
theorem a5A{scope:Scope}{globals:Addr}{closure:List (Str×Addr)}{qual:Str}{outer:Env}{Q:Env->Shared->Prop}
  (hQ:Q (newEnv scope s.heap.objs.size globals (cellsFrom (s.heap.objs.size+1) scope.names closure) qual none .none (some outer) builtinsNs) {s with heap:=pushCells (s.heap.push {cls:=.type "dict",data:=.dict #[]}) scope.names}) :
  wpAny M A (newFunctionEnv scope globals closure [] qual none .none (some outer)) Q E s:=by
 simp only[newFunctionEnv,Option.isSome_some,if_true];refine wpAny_bind (wpAny_alloc ?_);refine wpAny_bind (wpAny_layCells _ (λname kind cells=>by cases hkc:kind==NameKind.cell<;>simp[hkc]) _ _ _ _ ?_);rw[show({s with heap:=s.heap.push {cls:=.type "dict",data:=.dict #[]}}:Shared).heap.objs.size=s.heap.objs.size+1 from Heap.size_push ..];exact wpAny_bind (wpAny_pure (wpAny_pure hQ))
end
section
variable {prog:Program}{w:World}{A:Around}{s:Shared}
abbrev NoX:Value->Shared->Prop:=λ_ _=>False
theorem toE{α:Type}{M:Model}{A:Around}{t:Sem α}{Q Q':α->Shared->Prop}{E:Value->Shared->Prop}{s:Shared}(h:wpAny M A t Q NoX s)(hQ:∀a s,Q a s->Q' a s):wpAny M A t Q' E s :=
 wpAny_mono h hQ λ_ _ z=>z.elim
theorem a4r{elt target iter:Expr}{ifs:List Expr}{scope:Scope}{pos:Pos}{it acc:Value}{env:Env}{R:Result->Shared->Prop}(I:Nat->Shared->Prop)
  (turn:∀n s,I n s->wpAny (model prog w) A (pyNext it) (λr s₁=>match r with
   |none=>R (.ok .next) s₁
   |some v=>wpAny (model prog w) A (letOwnedTupleGo target it v) (λ_ s₂=>wpAny (model prog w) A (assign target env v) (λ_ s₃ =>
     wpAny (model prog w) A (forIn ifs true λc r=>if r=true then do let ok <-isTrue c env (eval c env);pure (ForInStep.yield ok)else pure (ForInStep.yield r)) (λok s₄ =>
      if ok=true then wpAny (model prog w) A (eval elt env) (λx s₅=>wpAny (model prog w) A (call (.builtin "list.append") [acc,x]) (λ_ s₆=>∃m,m<n/\I m s₆) NoX s₅) NoX s₄
      else ∃m,m<n/\I m s₄) NoX s₃) NoX s₂) NoX s₁) NoX s)
  (n:Nat) (h:I n s):codeAny (model prog w) A (.compLoop (.ListComp elt [⟨target,iter,ifs,0⟩] scope pos) 0 it acc env) R s:=by
 refine codeAny_loop rfl I (λn s hI=>?_) n h;show wpAny _ A ((compTurn (.ListComp elt [⟨target,iter,ifs,0⟩] scope pos) 0 it acc env).onRaise (λx=>do noteFrame x env;theTreesLotGoes x)) _ _ s;refine wpAny_noted ?_;rw[compTurn_list];refine wpAny_bind (wpAny_standAt (wpAny_bind (toE (turn n s hI) λr s₁ h₁=>?_)));cases r with
 |none=>exact wpAny_pure h₁
 |some v =>
  refine wpAny_bind (toE h₁ λ_ s₂ h₂=>wpAny_bind (toE h₂ λ_ s₃ h₃=>wpAny_bind (toE h₃ λok s₄ h₄=>?_)));cases ok with
  |false=>exact wpAny_pure ⟨rfl,h₄⟩
  |true=>exact wpAny_bind (wpAny_bind (toE h₄ λx s₅ h₅=>wpAny_bind (toE h₅ λ_ s₆ h₆=>wpAny_pure (wpAny_pure ⟨rfl,h₆⟩))))
end
noncomputable def Cx.blk(X:Cx)(N:List Str)(scope:Scope)(cells:List (Str×Addr))(C:Addr)(s:Shared)(H:Hp)(ex:List Addr):Cx :=
 {X with N:=N,s₀:=s,H₀:=H,env:=compEnvC scope cells C X.env,outer:=X.stack,stack:=X.stack,ex:=ex,fn:=λx=>scope.names.any λy=>y.1==x && y.2==.cell,pn:=[],xe:=NoX}
noncomputable def B2(src:List (Option Nat))(σ:St):St:=src.map λo=>o.bind λj=>(σ[j]?).join
noncomputable def B8(sc out:Scope):Bool:=sc.names.all λx=>x.2 != .free || (out.names.lookup x.1==some .cell || out.names.lookup x.1==some .free)
noncomputable def K0:List Str->List (Option Nat)->List Str->Scope->Bool
 |[],[],_,_=>true
 |x::N,o::src,M,sc=>(match o with|none=>true|some j=>M[j]? == some x && sc.names.lookup x==some .free) && K0 N src M sc
 |_,_,_,_=>false
noncomputable def a3T(sc:Scope):Bool:=sc.kind==.function && sc.names.all λx=>sc.names.lookup x.1==some x.2
theorem a3x:∀{N:List Str}{src:List (Option Nat)}{M:List Str}{sc:Scope},K0 N src M sc=true->src.length=N.length
 |[],[],_,_,_=>rfl
 |_::N,_::src,M,sc,h=>by
  unfold K0 at h;rw[Bool.and_eq_true]at h;rw[List.length_cons,List.length_cons,a3x h.2]
 |[],_::_,_,_,h=>by simp[K0]at h
 |_::_,[],_,_,h=>by simp[K0]at h
theorem a3y:∀{N:List Str}{src:List (Option Nat)}{M:List Str}{sc:Scope}{i:Nat}{x:Str}{j:Nat},K0 N src M sc=true->N[i]?=some x->src[i]?=some (some j)->M[j]?=some x/\sc.names.lookup x=some .free
 |[],[],_,_,_,_,_,_,h,_=>by simp at h
 |y::N,o::src,M,sc,0,x,j,h,h1,h2=>by
  unfold K0 at h;rw[Bool.and_eq_true]at h;simp at h1 h2;subst h1 h2;have q:=h.1;rw[Bool.and_eq_true]at q;exact⟨beq_iff_eq.mp q.1,beq_iff_eq.mp q.2⟩
 |y::N,o::src,M,sc,i+1,x,j,h,h1,h2=>by
  unfold K0 at h;rw[Bool.and_eq_true]at h;exact a3y h.2 (by simpa using h1) (by simpa using h2)
 |[],_::_,_,_,_,_,_,h,_,_=>by simp[K0]at h
 |_::_,[],_,_,_,_,_,h,_,_=>by simp[K0]at h
theorem a9h{src:List (Option Nat)}{σ:St}{i:Nat}{v:V}(h:(B2 src σ)[i]?=some (some v)):∃j,src[i]?=some (some j)/\σ[j]?=some (some v):=by
 unfold B2 at h;rw[List.getElem?_map]at h;cases e:src[i]? with
 |none=>rw[e]at h;cases h
 |some o =>
  rw[e]at h;cases o with
  |none=>cases h
  |some j =>
   refine⟨j,rfl,?_⟩;have h':(σ[j]?).join=some v:=Option.some.inj h;cases q:σ[j]? with
   |none=>rw[q]at h';cases h'
   |some z=>rw[q]at h';rw[show z=some v from h']
theorem U9{env:Env}:∀{names:List (Str×NameKind)}{x:Str}{k:NameKind},
  (names.map λ(n,k)=>if (k==NameKind.free && env.scope.kind==.function && env.kindOf n==some .cell)then(n,NameKind.cell)else(n,k)).lookup x=some k ->
  ∃k',names.lookup x=some k'/\(k=k'∨(k'=.free/\k=.cell))
 |[],_,_,h=>by cases h
 |(n,k0)::r,x,k,h=>by
  rw[List.map_cons,List.lookup_cons]at h;rw[List.lookup_cons];dsimp only at h;split at h
  .rename_i h0;have hb:x==n:=by
    split at h0<;>exact h0
   rw[hb];refine⟨k0,rfl,?_⟩;split at h
   .rename_i hc;cases h;simp only[Bool.and_eq_true]at hc;exact .inr ⟨by simpa using hc.1.1,rfl⟩
   .cases h;exact .inl rfl
  .rename_i h0;have hb:(x==n)=false:=by
    split at h0<;>exact h0
   rw[hb];exact U9 h
theorem G8{env:Env}:∀{names:List (Str×NameKind)}{x:Str}{k':NameKind},names.lookup x=some k' ->
  ∃k,(names.map λ(n,k)=>if (k==NameKind.free && env.scope.kind==.function && env.kindOf n==some .cell)then(n,NameKind.cell)else(n,k)).lookup x=some k/\(k=k'∨(k'=.free/\k=.cell))
 |[],_,_,h=>by cases h
 |(n,k0)::r,x,k',h=>by
  rw[List.lookup_cons]at h;rw[List.map_cons];by_cases hc:(k0==NameKind.free && env.scope.kind==.function && env.kindOf n==some .cell)=true
  .simp only[hc,if_true];rw[List.lookup_cons];cases hb:x==n with
   |true =>
    rw[hb]at h;cases h;simp only[Bool.and_eq_true]at hc;exact⟨_,rfl,.inr ⟨by simpa using hc.1.1,rfl⟩⟩
   |false=>rw[hb]at h;exact G8 h
  .simp only[if_neg hc];rw[List.lookup_cons];cases hb:x==n with
   |true=>rw[hb]at h;cases h;exact⟨_,rfl,.inl rfl⟩
   |false=>rw[hb]at h;exact G8 h
def PIf(X:Cx)(ifs:List Expr)(t:TT):Prop :=
 ∀(pins:List (Addr×Obj)) (s:Shared) (σ:St) (H:Hp) (Q:Bool->Hp->Prop),Inv X pins σ H s->t σ H Q ->
  wpAny (model X.prog X.w) X.A (forIn ifs true λc r=>if r=true then do let ok <-isTrue c X.env (eval c X.env);pure (ForInStep.yield ok)else pure (ForInStep.yield r)) (TP X pins σ Q) X.xe s
def M4:TT:=λ_ H Q=>Q true H
theorem b2I{X:Cx}:PIf X [] M4:=λpins s σ H Q I h=>wpAny_tests_nil ⟨H,I,h⟩
theorem b2H{X:Cx}{c:Expr}{t:TT}(h:PT X c t):PIf X [c] t:=λpins s σ H Q I q=>wpAny_tests_one (h pins s σ H Q I q)
def Sub(σ σ':St):Prop:=σ.length=σ'.length/\∀(i:Nat) (v:V),σ[i]?=some (some v)->σ'[i]?=some (some v)
def E4(src:List (Option Nat))(g:TG)(tt:TT)(te:TE)(σ:St)(Q:VK)(J:It)(H1:Hp):Prop :=
 ∃W:Nat->Nat->List V->Hp->Prop,(∃m,W 0 m [] H1)/\∀i m ys H,W i m ys H ->
  (J.stop i H/\ys.length<=sizeLine/\∀p,H p=none->Q (.ref p) (upd H p (.lst ys))) ∨
  (J.go i H/\ys.length<sizeLine/\∃N:List V->Hp->Prop,(∀zs H',N zs H'->∃m',m'<m/\W (i+1) m' zs H')/\∀x H',J.yld i H x H'->g x (B2 src σ) H' λσ2 H2=>Sub (B2 src σ) σ2/\tt σ2 H2 λb H3 =>
   if b=true then te σ2 H3 λv H4=>N (ys++[v]) H4 else N ys H3)
def a3a(src:List (Option Nat))(wi:TI)(g:TG)(tt:TT)(te:TE):TE:=λσ H Q=>wi σ H (E4 src g tt te σ Q)
section
variable {X:Cx}{pins:List (Addr×Obj)}{σ:St}{H:Hp}{s:Shared}
theorem Inv.block{N:List Str}{src:List (Option Nat)}{scope:Scope}{fp:List Addr}(I:Inv X pins σ H s)(hf:∀b∈fp,a1d X pins H b)(ho:∀b∈fp,∃o,s.heap.get? b=some o)
  (hcap:B8 scope X.env.scope=true) (hblk:K0 N src X.N scope=true) (hsc:a3T scope=true) {lo:Obj} :
  Inv (X.blk N scope (cellsFrom (s.heap.objs.size+2) scope.names (a1B scope X.env)) (s.heap.objs.size+1) s H fp) [] (B2 src σ) H
   {s with heap:=pushCells ((s.heap.push lo).push {cls:=.type "dict",data:=.dict #[]}) scope.names}:=by
 unfold a3T at hsc;rw[Bool.and_eq_true]at hsc;have hkind:scope.kind=.function:=by simpa using hsc.1
 have hnd:∀x∈scope.names,scope.names.lookup x.1=some x.2:=λx hx=>by simpa using List.all_eq_true.mp hsc.2 x hx
 have hfree:∀x∈scope.names,x.2=.free->X.env.kindOf x.1=some .cell∨X.env.kindOf x.1=some .free:=λx hx hk=>by
  have q:=List.all_eq_true.mp hcap x hx;rw[hk]at q;have q':(X.env.scope.names.lookup x.1==some .cell || X.env.scope.names.lookup x.1==some .free)=true:=by simpa using q
  rw[Bool.or_eq_true]at q';exact q'.imp (λz=>beq_iff_eq.mp z) λz=>beq_iff_eq.mp z
 have keep:∀b o,s.heap.get? b=some o->(pushCells ((s.heap.push lo).push {cls:=.type "dict",data:=.dict #[]}) scope.names).get? b=some o:=λb o e =>
  pushCells_keeps _ _ _ _ (Heap.get?_push_of_some _ (Heap.get?_push_of_some _ e))
 have clc:∀x c,(a1B scope X.env).lookup x=some c->c<s.heap.objs.size:=λx c e=>by
  obtain⟨v,z⟩:=I.cell x c (Y7 e);exact z.lt
 have cases':∀x c,(cellsFrom (s.heap.objs.size+2) scope.names (a1B scope X.env)).lookup x=some c->(s.heap.objs.size+2<=c/\(x,NameKind.cell)∈scope.names)∨X.env.cells.lookup x=some c:=λx c e =>
  (P7 _ _ _ e).imp id Y7
 have kof:∀x k,(compEnvC scope (cellsFrom (s.heap.objs.size+2) scope.names (a1B scope X.env)) (s.heap.objs.size+1) X.env).kindOf x=some k->∃k',scope.names.lookup x=some k'/\(k=k'∨(k'=.free/\k=.cell)):=λx k e =>
  U9 (env:=X.env) e
 have mem:∀{x k},scope.names.lookup x=some k->(x,k)∈scope.names:=λe=>mem_of_lookup e;refine⟨⟨I.ok.mod,?_,I.ok.glob,I.ok.blt,?_,?_,?_,?_,I.ok.hd,I.ok.frames,.inl rfl,?_,I.bs,Nat.le_trans I.ok.bsz I.sz,?_,?_,I.stack,I.stkFree⟩,rfl,I.bare,Un.kept keep,?_,?_,?_,?_,?_,I.hok.kept keep,?_⟩
 .exact hkind
 .exact Nat.le_succ _
 .-- inj
  refine a6s _ _ _ (λx c e=>?_) λx y c e e'=>I.ok.inj x y c (Y7 e) (Y7 e');exact Nat.lt_of_lt_of_le (clc x c e) (Nat.le_add_right _ 2)
 .-- has
  intro x hx;refine a4s _ _ _ ?_;have hk:∃k',scope.names.lookup x=some k'/\(k'=.cell∨k'=.free):=by
   rcases hx with hx|hx
   .obtain⟨k',e,z⟩:=kof x _ hx;exact⟨k',e,z.elim (λz=>.inl z.symm) λz=>.inr z.1⟩
   .obtain⟨k',e,z⟩:=kof x _ hx;exact⟨k',e,z.elim (λz=>.inr z.symm) λz=>by cases z.2⟩
  obtain⟨k',e,rfl|rfl⟩:=hk
  .exact .inl (mem e)
  .obtain⟨a,ha⟩:=I.ok.has x (hfree _ (mem e) rfl);exact .inr ⟨a,a5w ha (mem e)⟩
 .-- cab
  intro x c hx e;rcases cases' x c e with z|z
  .exact Nat.le_trans (Nat.le_add_right _ 2) z.1
  .-- x is the block's own cell, so it is not in the closure's part
   exfalso;obtain⟨y,hy,hyx⟩:=List.any_eq_true.mp hx;rw[Bool.and_eq_true]at hyx;have e1:y.1=x:=beq_iff_eq.mp hyx.1;have e2:y.2=.cell:=by simpa using hyx.2
   have l1:scope.names.lookup x=some .cell:=by rw[<-e1,<-e2];exact hnd y hy
   rcases P7 _ _ _ e with q|q
   .obtain⟨v,z'⟩:=I.cell x c z;exact absurd (Nat.lt_of_lt_of_le z'.lt (Nat.le_trans (Nat.le_add_right _ 2) q.1)) (Nat.lt_irrefl _)
   .-- the closure holds free names alone
    have fr:∀(names:List (Str×NameKind)) (cs:List (Str×Addr)),(names.foldl (E9 X.env) cs).lookup x=some c->(x,NameKind.free)∈names∨cs.lookup x=some c:=by
     intro names;induction names with
     |nil=>intro cs h;exact .inr h
     |cons n r ih =>
      intro cs h;rw[List.foldl_cons]at h;rcases ih _ h with w|w
      .exact .inl (List.mem_cons_of_mem _ w)
      .unfold E9 at w;split at w
       .rename_i hk;split at w
        .rw[List.lookup_cons]at w;cases hb:x==n.1 with
         |true =>
          have:n=(x,NameKind.free):=Prod.ext (beq_iff_eq.mp hb).symm (by simpa using hk);exact .inl (by rw[this];exact List.mem_cons_self)
         |false=>rw[hb]at w;exact .inr w
        .exact .inr w
       .exact .inr w
    rcases fr _ _ q with w|w
    .have:=hnd _ w;rw[l1]at this;cases this
    .cases w
 .-- exf
  intro b hb;obtain⟨o,e⟩:=ho b hb;have lt:=Heap.lt_size e;refine⟨Nat.ne_of_lt (Nat.lt_succ_of_lt lt),λx c hc=>?_⟩;rcases cases' x c hc with z|z
  .exact Nat.ne_of_gt (Nat.lt_of_lt_of_le lt (Nat.le_trans (Nat.le_add_right _ 2) z.1))
  .exact(hf b hb).2.2.2.2.1 x c z
 .-- noex
  intro b o e hb;rcases(hf b hb).2.2.2.1 with z|z
  .exact I.ok.noex b o e z
  .exact absurd (Nat.lt_of_lt_of_le (Heap.lt_size (I.ok.bs b o e).1) z) (Nat.lt_irrefl _)
 .-- exfs
  intro b hb z;rcases List.mem_cons.mp (I.stkSub b z)with q|q
  .exact(hf b hb).2.1 q
  .exact(hf b hb).2.2.1 q
 .-- loc
  refine⟨λ_=>none,?_,λi x v e1 e2 e3=>?_⟩
  .have:=(Heap.Ns.new (s.heap.push lo) (.type "dict")).keeps (pushCells_keeps scope.names _);rw[Heap.size_push]at this;exact this
  .obtain⟨j,e4,e5⟩:=a9h e2;obtain⟨e6,e7⟩:=a3y hblk e1 e4;obtain⟨m,_,hl⟩:=I.loc;have hk:=hfree _ (mem e7) rfl;have hv:Vis X.env.scope x:=.inr (hk.imp id id);obtain⟨u,r,l⟩:=hl j x v e6 e5 hv;refine⟨u,r,.inr ⟨?_,?_⟩⟩
   .obtain⟨k,q,z⟩:=G8 (env:=X.env) e7;rcases z with z|z
    .exact .inr (by rw[<-z];exact q)
    .exact .inl (by rw[<-z.2];exact q)
   .rcases l with l|⟨_,c,hc,z⟩
    .exfalso;rcases hk with hk|hk<;>rw[l.1]at hk<;>cases hk
    .refine⟨c,?_,z.keeps keep⟩;have own:¬(x,NameKind.cell)∈scope.names:=λw=>by
      have:=hnd _ w;rw[e7]at this;cases this
     obtain⟨c',q⟩:=a4s (x:=x) scope.names (s.heap.objs.size+2) (a1B scope X.env) (.inr ⟨c,a5w hc (mem e7)⟩);rcases cases' x c' q with w|w
     .exact absurd w.2 own
     .rw[hc]at w;cases w;exact q
 .-- cell
  intro x c e;have e':(cellsFrom ((s.heap.push lo).push {cls:=.type "dict",data:=.dict #[]}).objs.size scope.names (a1B scope X.env)).lookup x=some c:=by
   rw[Heap.size_push,Heap.size_push];exact e
  refine a4a _ _ _ (λx' c' q=>?_) e';obtain⟨v,z⟩:=I.cell x' c' (Y7 q);exact⟨v,z.keeps λb o q=>Heap.get?_push_of_some _ (Heap.get?_push_of_some _ q)⟩
 .exact I.hok.fresh (Nat.le_succ _)
 .intro x c e;rcases cases' x c e with z|z
  .exact I.hok.fresh (Nat.le_trans (Nat.le_add_right _ 2) z.1)
  .exact I.freeC x c z
 .intro p hp;cases hp
 .show(B2 src σ).length=N.length;unfold B2;rw[List.length_map];exact a3x hblk
theorem Inv.unblock{N:List Str}{scope:Scope}{cells:List (Str×Addr)}{C acc:Addr}{fp:List Addr}{pins':List (Addr×Obj)}{σ':St}{H':Hp}{s':Shared}{h':Heap}{ys:List V}{us:List Value}{n:Nat}
  (I:Inv X pins σ H s) (hf:∀b∈fp,a1d X pins H b) (hC:s.heap.objs.size<=C) (ha:s.heap.objs.size<=acc) (hne:acc≠C) (J:Inv (X.blk N scope cells C s H fp) pins' σ' H' s')
  (hn:H' acc=none) (hl:s'.heap.get? acc=some {cls:=.type "list",data:=.seq us.toArray n}) (hv:Vals ys us) (hz:ys.length<=sizeLine) (hb:Heap.SameBut C s'.heap h') :
  Inv X pins σ (upd H' acc (.lst ys)) {s' with heap:=h'}:=by
 have base:Un (frs X.stack) fp H H' s.heap s'.heap:=J.base;have kp:∀b o,b≠C->s'.heap.get? b=some o->h'.get? b=some o:=λb o q e=>hb.extBut b o q e;have old:∀b o,s.heap.get? b=some o->b≠C/\b≠acc:=λb o e=>by
  have:=Heap.lt_size e;exact⟨Nat.ne_of_lt (Nat.lt_of_lt_of_le this hC),Nat.ne_of_lt (Nat.lt_of_lt_of_le this ha)⟩
 have frC:H' C=none:=J.free;have hacc:H acc=none:=I.hok.fresh ha;have hokh:HOk X.prog X.w H' s'.heap:=J.hok;have ok':HOk X.prog X.w (upd H' acc (.lst ys)) h':=by
  intro b o e;by_cases hba:b=acc
  .subst hba;rw[A0]at e;cases e;exact⟨hz,us,n,hv,kp _ _ hne hl⟩
  .rw[A1 hba]at e;refine(hokh b o e).stay (λc u hc q=>kp c u ?_ q) (λc q=>?_) λc xs q=>?_
   .rintro rfl;rcases hc with rfl|hc
    .rw[frC]at e;cases e
    .rw[frC]at hc;cases hc
   .rw[A1 (by rintro rfl;rw[hn]at q;cases q)];exact q
   .rw[A1 (by rintro rfl;rw[hn]at q;cases q)];exact q
 have neA:∀b u,H b=some u->b≠acc:=λb u e=>by rintro rfl;rw[hacc]at e;cases e
 refine I.call' (s':={s' with heap:=h'}) (ch:=fp) (J.os) ⟨λb o e q r t=>?_,λb o e q r t=>?_,λb o e q t=>?_,λb o e t=>?_,λb xs e=>?_,λb o u e=>?_,λb ps e=>?_⟩ ok' J.bare λb hb=>?_
 .exact kp b o (old b o e).1 (base.keep b o e q r t)
 .obtain⟨sl,z⟩:=base.slot b o e q r t;exact⟨sl,kp b _ (old b o e).1 z⟩
 .rw[A1 (old b o e).2];exact base.free b o e q t
 .obtain⟨o',z⟩:=base.there b o e t;exact⟨o',kp b _ (old b o e).1 z⟩
 .rw[A1 (neA b _ e)];exact base.tups b xs e
 .rw[A1 (neA b _ e)];exact base.frzs b o u e
 .rw[A1 (neA b _ e)];exact base.tbls b ps e
 .obtain⟨_,h1,_,h3,h4,h5⟩:=hf b hb;exact⟨h3,h1,h4,h5⟩
set_option maxHeartbeats 4000000 in
theorem a3v{tg iter elt:Expr}{ifs:List Expr}{scope:Scope}{pos:Pos}{N:List Str}{src:List (Option Nat)}{wi:TI}{g:TG}{tt:TT}{te:TE}{Q:VK}{RR:Value->Addr->Result->Shared->Prop}(hc:X.calm=true)(hi:PI X tg iter wi)
  (hcap:B8 scope X.env.scope=true) (hblk:K0 N src X.N scope=true) (hsc:a3T scope=true)
  (hg:∀cells C s H ex,PG (X.blk N scope cells C s H ex) tg g) (ht:∀cells C s H ex,PIf (X.blk N scope cells C s H ex) ifs tt) (he:∀cells C s H ex,PE (X.blk N scope cells C s H ex) elt te)
  (I:Inv X pins σ H s) (h:a3a src wi g tt te σ H Q)
  (hend:∀(s2 s4:Shared) (H2 H4:Hp) (fp:List Addr) (cells:List (Str×Addr)) (pl:List (Addr×Obj)) (σ4:St) (ys:List V) (us:List Value) (k:Nat),Inv X pins σ H2 s2->(∀b∈fp,a1d X pins H2 b) ->
   Inv (X.blk N scope cells (s2.heap.objs.size+1) s2 H2 fp) pl σ4 H4 s4->H4 s2.heap.objs.size=none->s4.heap.get? s2.heap.objs.size=some {cls:=.type "list",data:=.seq us.toArray k}->Vals ys us->ys.length<=sizeLine ->
   Q (.ref s2.heap.objs.size) (upd H4 s2.heap.objs.size (.lst ys))->RR (.ref s2.heap.objs.size) (s2.heap.objs.size+1) (.ok .next) s4) :
  wpAny (model X.prog X.w) X.A (eval iter X.env) (λx s₁=>wpAny (model X.prog X.w) X.A (pyIter x) (λit s₂=>wpAny (model X.prog X.w) X.A (newList []) (λacc s₃ =>
   wpAny (model X.prog X.w) X.A (newFunctionEnv scope X.env.globals (a1B scope X.env) [] X.env.qual none .none (some X.env)) (λcenv s₄ =>
    codeAny (model X.prog X.w) X.A (.compStart (.ListComp elt [⟨tg,iter,ifs,0⟩] scope pos) 0 it acc {cenv with scope:=relabel scope X.env}) (RR acc cenv.locals) s₄) X.xe s₃) X.xe s₂) X.xe s₁) X.xe s:=by
 refine thn (hi pins s σ H _ I h) λv s1 h1=>thn h1 λitv s2 h2=>?_;obtain⟨it,fp,tn,J,H2,e,I2,T,st2,f2,W,⟨m0,w0⟩,turn⟩:=h2;subst e;have ho2:∀b∈fp,∃o,s2.heap.get? b=some o:=λb hb=>(T.obj _ _ st2 b hb).imp λ_ q=>q.1;refine wpAny_newObj_type (a5A ?_);have hB:=I2.block (lo:={cls:=.type "list",dict:=none,data:=.seq ([]:List Value).toArray}) f2 ho2 hcap hblk hsc;rw[show({s2 with heap:=s2.heap.push {cls:=.type "list",dict:=none,data:=.seq ([]:List Value).toArray}}:Shared).heap.objs.size=s2.heap.objs.size+1 from Heap.size_push ..];generalize hcells:cellsFrom (s2.heap.objs.size+1+1) scope.names (a1B scope X.env)=cells at hB⊢;generalize hheap:pushCells ((s2.heap.push {cls:=.type "list",dict:=none,data:=.seq ([]:List Value).toArray}).push {cls:=.type "dict",data:=.dict #[]}) scope.names=h4 at hB⊢;have keep4:∀b o,s2.heap.get? b=some o->h4.get? b=some o:=λb o q=>by
  rw[<-hheap];exact pushCells_keeps _ _ _ _ (Heap.get?_push_of_some _ (Heap.get?_push_of_some _ q))
 have acc4:h4.get? s2.heap.objs.size=some {cls:=.type "list",data:=.seq ([]:List Value).toArray 0}:=by
  rw[<-hheap];exact pushCells_keeps _ _ _ _ (Heap.get?_push_of_some _ (Heap.get?_push_size _ rfl))
 have st4:tn 0 h4:=T.keep _ _ _ st2 λb _ o q=>keep4 b o q;generalize hXc:X.blk N scope cells (s2.heap.objs.size+1) s2 H2 fp=Xc at hB;have eA:Xc.A=X.A:=by rw[<-hXc];rfl
 have eP:Xc.prog=X.prog:=by rw[<-hXc];rfl
 have ew:Xc.w=X.w:=by rw[<-hXc];rfl
 have eK:Xc.K=X.K:=by rw[<-hXc];rfl
 have ec:Xc.calm=true:=by rw[<-hXc];exact hc
 have ee:Xc.env=compEnvC scope cells (s2.heap.objs.size+1) X.env:=by rw[<-hXc];rfl
 have ex:Xc.ex=fp:=by rw[<-hXc];rfl
 have epn:Xc.pn=[]:=by rw[<-hXc];rfl
 have es0:Xc.s₀=s2:=by rw[<-hXc];rfl
 have exe:Xc.xe=NoX:=by rw[<-hXc];rfl
 have eL:Xc.env.locals=s2.heap.objs.size+1:=by rw[ee];rfl
 have efs:Xc.fs=frs X.stack:=by rw[<-hXc];rfl
 have okB:=hB.ok;have cne:∀x c,Xc.env.cells.lookup x=some c->c≠s2.heap.objs.size:=λx c q=>by
  rw[ee]at q;have q':cells.lookup x=some c:=q;rw[<-hcells]at q';rcases P7 _ _ _ q' with z|z
  .exact Nat.ne_of_gt (Nat.lt_of_lt_of_le (Nat.lt_succ_self _) (Nat.le_trans (Nat.le_succ _) z.1))
  .obtain⟨v,z'⟩:=I2.cell x c (Y7 z);exact Nat.ne_of_lt z'.lt
 have fpne:∀b∈fp,b≠s2.heap.objs.size:=λb hb=>by
  obtain⟨o,q⟩:=ho2 b hb;exact Nat.ne_of_lt (Heap.lt_size q)
 have accfs:s2.heap.objs.size∉Xc.fs:=by
  rw[efs];intro z;rcases List.mem_cons.mp (I2.stkSub _ z)with q|q
  .exact absurd I2.lt (by rw[<-q];exact Nat.lt_irrefl _)
  .exact I2.nofs (Nat.le_refl _) q
 have stat:∀{H':Hp}{pl:List (Addr×Obj)},(∀b∈fp,H' b=none)->(∀p∈pl,p.1=s2.heap.objs.size)->∀b∈fp,a1d Xc pl H' b:=λ{H' pl} hn hp b hb=>by
  obtain⟨x1,x2⟩:=okB.exf b (by rw[ex];exact hb);refine⟨hn b hb,x1,okB.exfs b (by rw[ex];exact hb),.inl (by rw[ex];exact hb),x2,λp hp'=>?_⟩;rw[epn,List.nil_append]at hp';rw[hp p hp'];exact(fpne b hb).symm
 have main:∀s5:Shared,s5={s2 with heap:=h4}->codeAny (model X.prog X.w) X.A (.compLoop (.ListComp elt [⟨tg,iter,ifs,0⟩] scope pos) 0 (.ref it) (.ref s2.heap.objs.size) Xc.env)
   (RR (.ref s2.heap.objs.size) (s2.heap.objs.size+1)) s5:=by
  rintro s5 rfl;refine a4r (λn s'=>∃i H' ys us k,Inv Xc [] (B2 src σ) H' s'/\tn i s'.heap/\(∀b∈fp,H' b=none)/\H' s2.heap.objs.size=none /\
   s'.heap.get? s2.heap.objs.size=some {cls:=.type "list",data:=.seq (us:List Value).toArray k}/\Vals ys us/\W i n ys H') ?_ m0
   ⟨0,H2,[],[],0,hB,st4,λb hb=>(f2 b hb).1,I2.hok.fresh (Nat.le_refl _),acc4,.nil,w0⟩
  rintro n s3 ⟨i,H3,ys,us,k,I3,st3,fr3,na3,ac3,r3,w3⟩;rcases turn i n ys H3 w3 with⟨stop,hz,qn⟩|⟨go,hz,Nn,hN,step⟩
  .have d:=T.done Xc eP ew eK ec i [] s3 (B2 src σ) H3 NoX I3 (stat fr3 (λ_ z=>by cases z)) st3 stop;rw[eA]at d;have I3':Inv Xc [(s2.heap.objs.size,{cls:=.type "list",data:=.seq us.toArray k})] (B2 src σ) H3 s3:=I3.pins_of λp hp=>by
    rw[List.mem_singleton.mp hp];exact⟨ac3,na3,by rw[eL];exact Nat.ne_of_lt (Nat.lt_succ_self _),accfs,λv z=>by cases z⟩
   have d:=T.done Xc eP ew eK ec i _ s3 (B2 src σ) H3 NoX I3' (stat fr3 (λp z=>by rw[List.mem_singleton.mp z])) st3 stop;rw[eA]at d;refine thn d λr s4 ⟨hr,I4⟩=>?_;subst hr;have ac4:=(I4.pin (s2.heap.objs.size,{cls:=.type "list",data:=.seq us.toArray k}) (List.mem_append_right _ List.mem_cons_self)).1;rw[<-hXc]at I4;exact hend s2 s4 H2 H3 fp cells _ _ ys us k I2 f2 I4 na3 ac4 r3 hz (qn _ na3)
  .have I3':Inv Xc [(s2.heap.objs.size,{cls:=.type "list",data:=.seq us.toArray k})] (B2 src σ) H3 s3:=I3.pins_of λp hp=>by
    rw[List.mem_singleton.mp hp];exact⟨ac3,na3,by rw[eL];exact Nat.ne_of_lt (Nat.lt_succ_self _),accfs,λv z=>by cases z⟩
   have d:=T.item Xc eP ew eK ec i _ s3 (B2 src σ) H3 NoX I3' (stat fr3 (λp z=>by rw[List.mem_singleton.mp z])) st3 go;rw[eA]at d;refine thn d λr s4 ⟨u,hr,h4'⟩=>?_;subst hr;refine thn h4' λ_ s5 ⟨x,H5,I5,r5,y5,st5,fr5⟩=>?_;have I5':=I5.pinned (stat fr5 (λp z=>by rw[List.mem_singleton.mp z])) (T.obj _ _ st5);have hgX:PG Xc tg g:=by rw[<-hXc];exact hg _ _ _ _ _
   have htX:PIf Xc ifs tt:=by rw[<-hXc];exact ht _ _ _ _ _
   have heX:PE Xc elt te:=by rw[<-hXc];exact he _ _ _ _ _
   have a1:=hgX _ s5 _ H5 x u _ I5' r5 (step x H5 y5);rw[eP,ew,eA,exe]at a1;refine thn a1 λ_ s6 ⟨σ6,H6,I6,sb,q6⟩=>?_;have a2:=htX _ s6 σ6 H6 _ I6 q6;rw[eP,ew,eA,exe]at a2;refine thn a2 λok s7 ⟨H7,I7,q7⟩=>?_;have back:∀{H8:Hp}{s8:Shared}{pl:List (Addr×Obj)},Inv Xc ([(s2.heap.objs.size,{cls:=.type "list",data:=.seq us.toArray k})]++a2e fp s5.heap) σ6 H8 s8 ->
     Inv Xc [] (B2 src σ) H8 s8/\tn (i+1) s8.heap/\(∀b∈fp,H8 b=none)/\H8 s2.heap.objs.size=none/\s8.heap.get? s2.heap.objs.size=some {cls:=.type "list",data:=.seq us.toArray k}:=λ{H8 s8 pl} I8=>by
    have p0:=I8.pin (s2.heap.objs.size,{cls:=.type "list",data:=.seq us.toArray k}) (List.mem_append_right _ (List.mem_append_left _ List.mem_cons_self));refine⟨(I8.pins_of (pins':=[]) λp hp=>by cases hp).weak sb.1 sb.2,T.keep _ _ _ st5 λb hb o e=>(I8.pin (b,o) (List.mem_append_right _ (List.mem_append_right _ (Q3 hb e)))).1,λb hb=>?_,p0.2.1,p0.1⟩;obtain⟨o,e,_⟩:=T.obj _ _ st5 b hb;exact(I8.pin (b,o) (List.mem_append_right _ (List.mem_append_right _ (Q3 hb e)))).2.1
   cases ok with
   |false =>
    obtain⟨m',hm,w7⟩:=hN _ _ q7;obtain⟨b1,b2,b3,b4,b5⟩:=back (pl:=[]) I7;exact⟨m',hm,i+1,H7,ys,us,k,b1,b2,b3,b4,b5,r3,w7⟩
   |true =>
    have a3:=heX _ s7 σ6 H7 _ I7 q7;rw[eP,ew,eA,exe]at a3;refine thn a3 λy s8 ⟨vy,H8,I8,ry,n8⟩=>?_;obtain⟨m',hm,w8⟩:=hN _ _ n8;obtain⟨b1,b2,b3,b4,b5⟩:=back (pl:=[]) I8;refine call_meets F.slot_list_append ⟨_,b5,rfl⟩ F.entry_list_append (F.args_list_append_2 _ _) (PySem.list_append s2.heap.objs.size us.toArray k y (by rw[List.size_toArray,<-r3.length];omega)) ⟨b5,?_⟩;have q:=PySem.IsL.update b5 (λxs=>xs.push y);rw[show us.toArray.push y=(us++[y]).toArray by simp]at q;have nb:∀b o,b≠s2.heap.objs.size->s8.heap.get? b=some o->(s8.heap.update s2.heap.objs.size (Obj.mapSeq λxs=>xs.push y)).get? b=some o:=λb o hb e =>
     (Heap.get?_update_other s8.heap _ (Ne.symm hb)).trans e
    refine⟨m',hm,i+1,H8,ys++[vy],us++[y],_,?_,?_,b3,b4,q,r3.append (.cons ry .nil),w8⟩
    .exact b1.turned nb b4 (by rw[eL];exact Nat.ne_of_lt (Nat.lt_succ_self _)) (.inr (by rw[es0];exact Nat.le_refl _)) cne λp hp=>by rw[epn]at hp;cases hp
    .exact T.keep _ _ _ b2 λb hb o e=>nb b o (fpne b hb) e
 have main':=main _ rfl;rw[ee]at main';exact codeAny_compStart_list main' (T.self _ 0 _ _ _ st4 main')
theorem a3e{scope:Scope}(hsc:a3T scope=true):scope.kind=.function/\∀x∈scope.names,scope.names.lookup x.1=some x.2:=by
 unfold a3T at hsc;rw[Bool.and_eq_true]at hsc;exact⟨by simpa using hsc.1,λx hx=>by simpa using List.all_eq_true.mp hsc.2 x hx⟩
theorem Inv.clos{scope:Scope}(I:Inv X pins σ H s)(hcap:B8 scope X.env.scope=true):closureFor scope X.env=pure (a1B scope X.env):=b1J λx hx hk=>by
 have q:=List.all_eq_true.mp hcap x hx;rw[hk]at q;have q':(X.env.scope.names.lookup x.1==some .cell || X.env.scope.names.lookup x.1==some .free)=true:=by simpa using q
 rw[Bool.or_eq_true]at q';exact I.ok.has x.1 (q'.imp (λz=>beq_iff_eq.mp z) λz=>beq_iff_eq.mp z)
theorem b2R{tg iter elt:Expr}{ifs:List Expr}{scope:Scope}{pos:Pos}{N:List Str}{src:List (Option Nat)}{wi:TI}{g:TG}{tt:TT}{te:TE}(hc:X.calm=true)(hi:PI X tg iter wi)
  (hcap:B8 scope X.env.scope=true) (hblk:K0 N src X.N scope=true) (hsc:a3T scope=true)
  (hg:∀cells C s H ex,PG (X.blk N scope cells C s H ex) tg g) (ht:∀cells C s H ex,PIf (X.blk N scope cells C s H ex) ifs tt) (he:∀cells C s H ex,PE (X.blk N scope cells C s H ex) elt te)
  (hs:∀x,foldedSetIterable iter X.env x=pure x:=by intro _;rfl):PE X (.ListComp elt [⟨tg,iter,ifs,0⟩] scope pos) (a3a src wi g tt te):=by
 intro pins s σ H Q I h;obtain⟨hkind,hnd⟩:=a3e hsc;rw[eval_ListComp];refine wpAny_comprehension_free (use:=none) rfl hs (I.clos hcap) hkind (λx hx hk=>by rw[<-hk];exact hnd x hx) (a3v (RR:=compPost (model X.prog X.w) X.A X.xe none (EP X pins σ Q)) hc hi hcap hblk hsc hg ht he I h ?_);intro s2 s4 H2 H4 fp cells pl σ4 ys us k I2 f2 I4 na4 ac4 r4 hz q;obtain⟨m,hns,_⟩:=I4.loc;exact⟨m,hns,λh' hb=>⟨.ref s2.heap.objs.size,_,Inv.unblock I2 f2 (Nat.le_succ _) (Nat.le_refl _) (Nat.ne_of_lt (Nat.lt_succ_self _)) I4 na4 ac4 r4 hz hb,rfl,q⟩⟩
theorem b2B{i:Nat}{y:Str}{py spos:Pos}{tg iter elt:Expr}{ifs:List Expr}{scope:Scope}{pos:Pos}{N:List Str}{src:List (Option Nat)}{wi:TI}{g:TG}{tt:TT}{te:TE}
  (hN:X.N.Nodup) (hy:X.N[i]?=some y) (hx:Loc X.env.scope y)
  (hc:X.calm=true) (hi:PI X tg iter wi) (hcap:B8 scope X.env.scope=true) (hblk:K0 N src X.N scope=true) (hsc:a3T scope=true)
  (hg:∀cells C s H ex,PG (X.blk N scope cells C s H ex) tg g) (ht:∀cells C s H ex,PIf (X.blk N scope cells C s H ex) ifs tt) (hel:∀cells C s H ex,PE (X.blk N scope cells C s H ex) elt te)
  (hsw:swapsWith (.ListComp elt [⟨tg,iter,ifs,0⟩] scope pos) (some (.Name y py)) spos.line X.env=pure true:=by rfl) (hs:∀x,foldedSetIterable iter X.env x=pure x:=by intro _;rfl)
  (hf:X.fn y=true∨X.env.scope.names.lookup y=some .local:=by first|exact .inl rfl|exact .inr rfl|assumption) :
  PS X (.Assign [.Name y py] (.ListComp elt [⟨tg,iter,ifs,0⟩] scope pos) spos) (a7X (a3a src wi g tt te) (A9 i)):=by
 intro pins s σ H D I h;obtain⟨hkind,hnd⟩:=a3e hsc;rw[exec_Assign_Name_used _ _ _ _ hsw];refine wpAny_bind (wpAny_standAt (wpAny_bind ?_));show wpAny _ X.A (do let _ <-comprehension (.ListComp elt [⟨tg,iter,ifs,0⟩] scope pos) scope X.env _ (newList []) false (eval iter X.env) (some (assign (.Name y py) X.env))) _ _ s;refine wpAny_bind (wpAny_mono (wpAny_comprehension_free (use:=some (assign (.Name y py) X.env)) (Q:=λ_ s'=>SP X pins D .next s') rfl hs (I.clos hcap) hkind (λx hx hk=>by rw[<-hk];exact hnd x hx)
  (a3v (RR:=compPost (model X.prog X.w) X.A X.xe (some (assign (.Name y py) X.env)) (λ_ s'=>SP X pins D .next s')) hc hi hcap hblk hsc hg ht hel I h ?_)) (λ_ s' hq=>wpAny_pure (wpAny_pure hq)) λ_ _ e=>e)
 intro s2 s4 H2 H4 fp cells pl σ4 ys us k I2 f2 I4 na4 ac4 r4 hz q;obtain⟨m,hns,_⟩:=I4.loc;have hns':s4.heap.Ns (s2.heap.objs.size+1) m:=hns;have frC:H4 (s2.heap.objs.size+1)=none:=I4.free;have J:=Inv.unblock I2 f2 (Nat.le_succ _) (Nat.le_refl _) (Nat.ne_of_lt (Nat.lt_succ_self _)) I4 na4 ac4 r4 hz (Heap.SameBut.refl _ _);have neL:s2.heap.objs.size+1≠X.env.locals:=Nat.ne_of_gt (Nat.lt_succ_of_lt I2.lt);have neC:∀x c,X.env.cells.lookup x=some c->c≠s2.heap.objs.size+1:=λx c e=>by
  obtain⟨v,z⟩:=I2.cell x c e;exact Nat.ne_of_lt (Nat.lt_succ_of_lt z.lt)
 show wpAny _ X.A (assign (.Name y py) X.env (.ref s2.heap.objs.size)) _ _ s4;refine wpAny_assign_Name (a3b (v:=.ref s2.heap.objs.size) J hN hy hx rfl (λs' I' hb=>?_) hf);obtain⟨a,sb,ha⟩:=hb;have hane:s2.heap.objs.size+1≠a:=by
  rcases ha with rfl|ha
  .exact neL
  .exact(neC _ _ ha).symm
 refine⟨m,hns'.sameBut sb hane,λh' hb'=>⟨_,_,I'.turned (t':=s'.toks) (it:=s2.heap.objs.size+1) (λb o hne e=>hb'.extBut b o hne e) ?_ neL (.inr (Nat.le_trans I2.sz (Nat.le_succ _))) neC λp hp=>?_,q⟩⟩
 .rw[A1 (Nat.ne_of_gt (Nat.lt_succ_self _))];exact frC
 .exact Nat.ne_of_lt (Nat.lt_succ_of_lt (Heap.lt_size (I2.pin p hp).1))
end
def SqAt(k:Bool)(h:Heap)(l:Addr)(xs:Array Value):Prop:=match k with|true=>h.IsTuple l xs|false=>h.IsList l xs
def ItAt(k:Bool)(h:Heap)(i l:Addr)(n:Nat):Prop:=match k with|true=>h.IsTupleIter i l n|false=>h.IsListIter i l n
noncomputable def b5s:Bool->String|true => "tuple_iterator" | false => "list_iterator"
noncomputable def a1p(k:Bool)(l:Addr):Obj:={cls:=.type (b5s k),data:=.fields #[.ref l,.int 0 0]}
theorem ItAt.extBut{k:Bool}{h h':Heap}{i l b:Addr}{n:Nat}(x:ItAt k h i l n)(hs:Heap.ExtBut b h h')(hb:i≠b):ItAt k h' i l n:=by
 cases k
 .exact Heap.IsListIter.extBut x hs hb
 .exact Heap.IsTupleIter.extBut x hs hb
theorem ItAt.at{k:Bool}{h h':Heap}{i l:Addr}{n:Nat}(x:ItAt k h i l n)(e:∀o,h.get? i=some o->h'.get? i=some o):ItAt k h' i l n:=by
 cases k
 .exact Heap.IsListIter.at x e
 .exact Heap.IsTupleIter.at x e
theorem ItAt.get{k:Bool}{h:Heap}{i l:Addr}{n:Nat}(x:ItAt k h i l n):∃o,h.get? i=some o/\o.data=.fields #[.ref l,.int n 0]:=by
 cases k<;>obtain⟨o,e,c,d⟩:=x<;>exact⟨o,e,d⟩
theorem SqAt.extBut{k:Bool}{h h':Heap}{l b:Addr}{xs:Array Value}(x:SqAt k h l xs)(hs:Heap.ExtBut b h h')(hb:l≠b):SqAt k h' l xs:=by
 cases k
 .exact Heap.IsList.extBut x hs hb
 .exact Heap.IsTuple.extBut x hs hb
theorem SqAt.at{k:Bool}{h h':Heap}{l:Addr}{xs:Array Value}(x:SqAt k h l xs)(e:∀o,h.get? l=some o->h'.get? l=some o):SqAt k h' l xs:=by
 cases k<;>obtain⟨o,q,r⟩:=x<;>exact⟨o,e o q,r⟩
theorem SqAt.get{k:Bool}{h:Heap}{l:Addr}{xs:Array Value}(x:SqAt k h l xs):∃o,h.get? l=some o:=by
 cases k<;>obtain⟨o,q,r⟩:=x<;>exact⟨o,q⟩
section
variable {prog:Program}{w:World}{A:Around}{E:Value->Shared->Prop}{s:Shared}
theorem a1v{it t:Addr}{i:Nat}{items:Array Value}{x:Value}{Q:Value->Shared->Prop}(hit:s.heap.IsTupleIter it t i)(ht:s.heap.IsTuple t items)(hx:items[i]?=some x)
  (hQ:∀h',h'.IsTupleIter it t (i+1)->Heap.SameBut it s.heap h'->Q x {s with heap:=h'}):wpAny (model prog w) A (Builtin.SmallTypes.nextOf (.ref it)) Q E s:=by
 obtain⟨o,ho,hc,hd⟩:=id hit;obtain⟨ol,hol,_,nl,hdl⟩:=ht;unfold Builtin.SmallTypes.nextOf;refine wpAny_bind (wpAny_callSpecial?_slot (name:=Str.ofString "__next__") hit.typeIs F.slot_tuple_iterator_next
  (wpAny_call_entry F.slot_tuple_iterator_next hit.typeIs F.entry_tuple_iterator_next ?_ (F.args_tuple_iterator_next_1 _)))
 show wpAny _ _ (field (.ref it) 0>>=_) _ _ s;refine wpAny_bind (wpAny_field ho hd (x:=.ref t) rfl ?_);show wpAny _ _ (if (Value.ref t==Value.none)=true then _ else _) _ _ s;rw[if_neg (show ¬((Value.ref t==Value.none)=true)from Bool.false_ne_true)];show wpAny _ _ (field (.ref it) 1>>=_) _ _ s;refine wpAny_bind (wpAny_field ho hd (x:=.int i 0) rfl ?_);show wpAny _ _ (seqItems? (.ref t)>>=_) _ _ s;refine wpAny_bind (wpAny_seqItems hol hdl ?_);simp only[Int.toNat_natCast,hx];refine wpAny_bind (wpAny_setField ho hd (by simp) (wpAny_pure ⟨x,rfl,wpAny_pure (hQ _ ?_ (Heap.SameBut.update ..))⟩));exact⟨_,Heap.get?_update_self _ ho (Obj.isFreed_of_fields (Obj.data_mapFields hd _)),(Obj.cls_mapFields ..).trans hc,by
  rw[Obj.data_mapFields hd];simp[rawInt]⟩
theorem a2i{it t:Addr}{i:Nat}{items:Array Value}{Q:Value->Shared->Prop}(hh:A.handled=none)(hit:s.heap.IsTupleIter it t i)(ht:s.heap.IsTuple t items)(hx:items[i]?=none)
  (hE:∀h' e,Heap.ExtBut it s.heap h'->(∃o,h'.get? e=some o/\o.cls=.type "StopIteration")->E (.ref e) {s with heap:=h'}) :
  wpAny (model prog w) A (Builtin.SmallTypes.nextOf (.ref it)) Q E s:=by
 obtain⟨o,ho,hc,hd⟩:=id hit;obtain⟨ol,hol,_,nl,hdl⟩:=ht;unfold Builtin.SmallTypes.nextOf;refine wpAny_bind (wpAny_callSpecial?_slot (name:=Str.ofString "__next__") hit.typeIs F.slot_tuple_iterator_next
  (wpAny_call_entry F.slot_tuple_iterator_next hit.typeIs F.entry_tuple_iterator_next ?_ (F.args_tuple_iterator_next_1 _)))
 show wpAny _ _ (field (.ref it) 0>>=_) _ _ s;refine wpAny_bind (wpAny_field ho hd (x:=.ref t) rfl ?_);show wpAny _ _ (if (Value.ref t==Value.none)=true then _ else _) _ _ s;rw[if_neg (show ¬((Value.ref t==Value.none)=true)from Bool.false_ne_true)];show wpAny _ _ (field (.ref it) 1>>=_) _ _ s;refine wpAny_bind (wpAny_field ho hd (x:=.int i 0) rfl ?_);show wpAny _ _ (seqItems? (.ref t)>>=_) _ _ s;refine wpAny_bind (wpAny_seqItems hol hdl ?_);simp only[Int.toNat_natCast,hx];refine wpAny_bind (wpAny_rule (wpAny_bind (wpAny_setField ho hd (by simp) ?_)));show wpAny _ _ (newExc (.type "StopIteration") []>>=_) _ _ _;refine wpAny_bind ?_;simp only[newExc,newTuple];refine wpAny_bind (wpAny_newObj_type ?_ (by size_fits));refine wpAny_bind (m:=firstArgMember _ _) (wpAny_of_eq (a:=Value.none) (by first|rfl | (simp only[firstArgMember];rfl)) ?_);refine wpAny_newObj_type ?_ (by size_fits);simp only[raiseNew];refine wpAny_bind (wpAny_handled ?_)
 first|rw[show A.in1.handled=none from hh]|rw[hh]
 refine wpAny_bind (wpAny_pure (wpAny_throw ?_));exact hE _ _ (((Heap.SameBut.update ..).extBut.push _).push _) ⟨_,Heap.get?_push_size _ rfl,rfl⟩
theorem a1U{k:Bool}{it l:Addr}{i:Nat}{items:Array Value}{x:Value}{Q:Value->Shared->Prop}(hit:ItAt k s.heap it l i)(ht:SqAt k s.heap l items)(hx:items[i]?=some x)
  (hQ:∀h',ItAt k h' it l (i+1)->Heap.SameBut it s.heap h'->Q x {s with heap:=h'}):wpAny (model prog w) A (Builtin.SmallTypes.nextOf (.ref it)) Q E s:=by
 cases k
 .exact wpAny_nextOf_list_item hit ht hx hQ
 .exact a1v hit ht hx hQ
theorem a6P{k:Bool}{it l:Addr}{i:Nat}{items:Array Value}{Q:Value->Shared->Prop}(hh:A.handled=none)(hit:ItAt k s.heap it l i)(ht:SqAt k s.heap l items)(hx:items[i]?=none)
  (hE:∀h' e,Heap.ExtBut it s.heap h'->(∃o,h'.get? e=some o/\o.cls=.type "StopIteration")->E (.ref e) {s with heap:=h'}) :
  wpAny (model prog w) A (Builtin.SmallTypes.nextOf (.ref it)) Q E s:=by
 cases k
 .exact wpAny_nextOf_list_end hh hit ht hx hE
 .exact a2i hh hit ht hx hE
theorem a0j{k:Bool}{l:Addr}{items:Array Value}{Q:Value->Shared->Prop}(ht:SqAt k s.heap l items)(hQ:Q (.ref s.heap.objs.size) {s with heap:=s.heap.push (a1p k l)}):wpAny (model prog w) A (pyIter (.ref l)) Q E s:=by
 cases k
 .exact wpAny_pyIter_list ht hQ
 .exact wpAny_pyIter_tuple ht hQ
end
section
variable {prog:Program}{w:World}{A:Around}{E:Value->Shared->Prop}{s:Shared}{k1 k2:Bool}
theorem a9j{z TI TO i1 i2 l1 l2:Addr}{n1 n2:Nat}{xs ys:Array Value}{x y a b:Value}{Q:Value->Shared->Prop}(D:ZipApart z TI TO i1 i2 l1 l2)
  (hz:IsZip s.heap z TI TO .none) (hTI:IsPair s.heap TI (.ref i1) (.ref i2)) (hTO:IsPair s.heap TO a b)
  (h1:ItAt k1 s.heap i1 l1 n1) (h2:ItAt k2 s.heap i2 l2 n2) (hl1:SqAt k1 s.heap l1 xs) (hl2:SqAt k2 s.heap l2 ys) (hx:xs[n1]?=some x) (hy:ys[n2]?=some y)
  (hQ:∀h',IsZip h' z TI TO (rawInt s.heap.objs.size)->IsPair h' TO x y->ItAt k1 h' i1 l1 (n1+1)->ItAt k2 h' i2 l2 (n2+1)->IsPair h' s.heap.objs.size x y->h'.objs.size=s.heap.objs.size+1 ->
   (∀c o,c≠z->c≠TO->c≠i1->c≠i2->s.heap.get? c=some o->h'.get? c=some o)->Q (.ref s.heap.objs.size) {s with heap:=h'}) :
  wpAny (model prog w) A (Builtin.«zip.__next__» ⟨[.ref z],[]⟩) (λfin s'=>∃v,fin=.done (.ret v)/\Q v s') E s:=by
 show wpAny _ _ (field (.ref z) 2>>=_) _ _ _;refine wpAny_bind (wpAny_field hz rfl (x:=.bool false) rfl ?_);show wpAny _ _ (field (.ref z) 3>>=_) _ _ _;refine wpAny_bind (wpAny_field hz rfl (x:=.ref TI) rfl ?_);refine wpAny_bind (wpAny_seqItems hTI rfl ?_);show wpAny _ _ (Builtin.SmallTypes.ownedTupleIsFree (.ref z)>>=_) _ _ _;refine wpAny_bind ?_;unfold Builtin.SmallTypes.ownedTupleIsFree;refine wpAny_bind (wpAny_field hz rfl (x:=.none) rfl (wpAny_pure ?_));simp only[if_true];refine wpAny_bind (wpAny_rule ?_);refine wpAny_bind (wpAny_field hz rfl (x:=.ref TO) rfl ?_);refine wpAny_bind (wpAny_setField_rec hz (by simp) λh₁ hz₁ hs₁=>?_);replace hz₁:IsZip h₁ z TI TO .ellipsis:=hz₁;refine wpAny_bind ?_;simp only[List.zipIdx_cons,List.zipIdx_nil,List.forIn_cons,List.forIn_nil];refine wpAny_bind (wpAny_bind (wpAny_onRaise ?_));show wpAny _ _ (Builtin.SmallTypes.nextOf (.ref i1)>>=_) _ _ _;refine wpAny_bind (a1U (h1.extBut hs₁.extBut D.i1z) (hl1.extBut hs₁.extBut D.l1z) hx λh₂ h1₂ hs₂=>wpAny_pure ?_);have hTO₂:IsPair h₂ TO a b:=hs₂.extBut _ _ D.TOi1 (hs₁.extBut _ _ D.TOz hTO);refine wpAny_bind (wpAny_seqItems hTO₂ rfl ?_);refine wpAny_bind (wpAny_updateSeq_pair hTO₂ λh₃ hTO₃ hs₃=>?_);replace hTO₃:IsPair h₃ TO x b:=hTO₃;refine wpAny_bind (wpAny_letGo (wpAny_pure ?_));refine wpAny_bind (wpAny_bind (wpAny_onRaise ?_));show wpAny _ _ (Builtin.SmallTypes.nextOf (.ref i2)>>=_) _ _ _;refine wpAny_bind (a1U (((h2.extBut hs₁.extBut D.i2z).extBut hs₂.extBut D.i12.symm).extBut hs₃.extBut D.TOi2.symm)
  (((hl2.extBut hs₁.extBut D.l2z).extBut hs₂.extBut D.l2i1).extBut hs₃.extBut D.l2TO) hy λh₄ h2₄ hs₄=>wpAny_pure ?_)
 have hTO₄:IsPair h₄ TO x b:=hs₄.extBut _ _ D.TOi2 hTO₃;refine wpAny_bind (wpAny_seqItems hTO₄ rfl ?_);refine wpAny_bind (wpAny_updateSeq_pair hTO₄ λh₅ hTO₅ hs₅=>?_);replace hTO₅:IsPair h₅ TO x y:=hTO₅;refine wpAny_bind (wpAny_letGo (wpAny_pure (wpAny_pure ?_)));refine wpAny_bind (wpAny_seqItems hTO₅ rfl ?_);refine wpAny_bind (wpAny_newTuple ?_);have hsz:h₅.objs.size=s.heap.objs.size:=by rw[hs₅.1,hs₄.1,hs₃.1,hs₂.1,hs₁.1]
 have hz₅:IsZip h₅ z TI TO .ellipsis:=hs₅.extBut _ _ D.TOz.symm (hs₄.extBut _ _ D.i2z.symm (hs₃.extBut _ _ D.TOz.symm (hs₂.extBut _ _ D.i1z.symm hz₁)));have hk₅:∀c o,c≠z->c≠TO->c≠i1->c≠i2->s.heap.get? c=some o->h₅.get? c=some o:=λc o c1 c2 c3 c4 e =>
  hs₅.extBut _ _ c2 (hs₄.extBut _ _ c4 (hs₃.extBut _ _ c2 (hs₂.extBut _ _ c3 (hs₁.extBut _ _ c1 e))))
 have h1₅:ItAt k1 h₅ i1 l1 (n1+1):=((h1₂.extBut hs₃.extBut D.TOi1.symm).extBut hs₄.extBut D.i12).extBut hs₅.extBut D.TOi1.symm;have h2₅:ItAt k2 h₅ i2 l2 (n2+1):=h2₄.extBut hs₅.extBut D.TOi2.symm;have hzlt:z<h₅.objs.size:=Heap.lt_size hz₅;show wpAny _ _ (Builtin.SmallTypes.ownedTupleHandOut (.ref z) (.ref h₅.objs.size)>>=_) _ _ _;refine wpAny_bind ?_;unfold Builtin.SmallTypes.ownedTupleHandOut;have hz₆:IsZip (h₅.push {cls:=.type "tuple",data:=.seq #[x,y]}) z TI TO .ellipsis:=Heap.get?_push_of_some _ hz₅;refine wpAny_bind (wpAny_setField_rec hz₆ (by simp) λh₇ hz₇ hs₇=>?_);replace hz₇:IsZip h₇ z TI TO (rawInt h₅.objs.size):=hz₇;refine wpAny_setField_rec hz₇ (by simp) λh₈ hz₈ hs₈=>?_;replace hz₈:IsZip h₈ z TI TO (rawInt h₅.objs.size):=hz₈;have up:∀c o,c≠z->h₅.get? c=some o->h₈.get? c=some o:=λc o c1 e=>hs₈.extBut _ _ c1 (hs₇.extBut _ _ c1 (Heap.get?_push_of_some _ e));have hT₈:IsPair h₈ h₅.objs.size x y:=hs₈.extBut _ _ (Nat.ne_of_gt hzlt) (hs₇.extBut _ _ (Nat.ne_of_gt hzlt) (Heap.get?_push_size _ rfl));have hz8:h₈.objs.size=h₅.objs.size+1:=by rw[hs₈.1,hs₇.1,Heap.size_push]
 rw[hsz]at hz₈ hT₈ hz8;refine wpAny_pure ⟨_,rfl,?_⟩;show Q (.ref h₅.objs.size) _;rw[hsz];exact hQ h₈ hz₈ (up _ _ D.TOz hTO₅) (h1₅.at λo e=>up _ o D.i1z e) (h2₅.at λo e=>up _ o D.i2z e) hT₈ hz8 λc o c1 c2 c3 c4 e=>up c o c1 (hk₅ c o c1 c2 c3 c4 e)
theorem b1Y{z TI TO i1 i2 l1 l2:Addr}{n1 n2:Nat}{xs ys:Array Value}{a b:Value}{Q:Fin->Shared->Prop}(hh:A.handled=none)(D:ZipApart z TI TO i1 i2 l1 l2)
  (hz:IsZip s.heap z TI TO .none) (hTI:IsPair s.heap TI (.ref i1) (.ref i2)) (hTO:IsPair s.heap TO a b)
  (h1:ItAt k1 s.heap i1 l1 n1) (h2:ItAt k2 s.heap i2 l2 n2) (hl1:SqAt k1 s.heap l1 xs) (hl2:SqAt k2 s.heap l2 ys) (hend:xs[n1]?=none∨ys[n2]?=none)
  (hE:∀h' e,(∀c o,c≠z->c≠TO->c≠i1->c≠i2->s.heap.get? c=some o->h'.get? c=some o)->(∃o,h'.get? e=some o/\o.cls=.type "StopIteration")->E (.ref e) {s with heap:=h'}) :
  wpAny (model prog w) A (Builtin.«zip.__next__» ⟨[.ref z],[]⟩) Q E s:=by
 show wpAny _ _ (field (.ref z) 2>>=_) _ _ _;refine wpAny_bind (wpAny_field hz rfl (x:=.bool false) rfl ?_);show wpAny _ _ (field (.ref z) 3>>=_) _ _ _;refine wpAny_bind (wpAny_field hz rfl (x:=.ref TI) rfl ?_);refine wpAny_bind (wpAny_seqItems hTI rfl ?_);show wpAny _ _ (Builtin.SmallTypes.ownedTupleIsFree (.ref z)>>=_) _ _ _;refine wpAny_bind ?_;unfold Builtin.SmallTypes.ownedTupleIsFree;refine wpAny_bind (wpAny_field hz rfl (x:=.none) rfl (wpAny_pure ?_));simp only[if_true];refine wpAny_bind (wpAny_rule ?_);refine wpAny_bind (wpAny_field hz rfl (x:=.ref TO) rfl ?_);refine wpAny_bind (wpAny_setField_rec hz (by simp) λh₁ hz₁ hs₁=>?_);replace hz₁:IsZip h₁ z TI TO .ellipsis:=hz₁;refine wpAny_bind ?_;simp only[List.zipIdx_cons,List.zipIdx_nil,List.forIn_cons,List.forIn_nil];refine wpAny_bind (wpAny_bind (wpAny_onRaise ?_));show wpAny _ _ (Builtin.SmallTypes.nextOf (.ref i1)>>=_) _ _ _;cases hx:xs[n1]? with
 |none =>
  refine wpAny_bind (a6P hh (h1.extBut hs₁.extBut D.i1z) (hl1.extBut hs₁.extBut D.l1z) hx λh₂ e hs₂ he=>?_);obtain⟨oe,hoe,hce⟩:=he;have hz₂:IsZip h₂ z TI TO .ellipsis:=hs₂ _ _ D.i1z.symm hz₁;have hez:e≠z:=λx=>by subst x;rw[hz₂]at hoe;cases hoe;simp at hce
  refine wpAny_setField_rec hz₂ (by simp) λh₃ _ hs₃=>hE h₃ e (λc o c1 _ c3 _ x=>hs₃.extBut _ _ c1 (hs₂ _ _ c3 (hs₁.extBut _ _ c1 x))) ⟨oe,hs₃.extBut _ _ hez hoe,hce⟩
 |some x =>
  have hy:ys[n2]?=none:=by rcases hend with h|h;rw[hx]at h;cases h;exact h
  refine wpAny_bind (a1U (h1.extBut hs₁.extBut D.i1z) (hl1.extBut hs₁.extBut D.l1z) hx λh₂ h1₂ hs₂=>wpAny_pure ?_);have hTO₂:IsPair h₂ TO a b:=hs₂.extBut _ _ D.TOi1 (hs₁.extBut _ _ D.TOz hTO);refine wpAny_bind (wpAny_seqItems hTO₂ rfl ?_);refine wpAny_bind (wpAny_updateSeq_pair hTO₂ λh₃ hTO₃ hs₃=>?_);refine wpAny_bind (wpAny_letGo (wpAny_pure ?_));refine wpAny_bind (wpAny_bind (wpAny_onRaise ?_));show wpAny _ _ (Builtin.SmallTypes.nextOf (.ref i2)>>=_) _ _ _;refine wpAny_bind (a6P hh (((h2.extBut hs₁.extBut D.i2z).extBut hs₂.extBut D.i12.symm).extBut hs₃.extBut D.TOi2.symm)
   (((hl2.extBut hs₁.extBut D.l2z).extBut hs₂.extBut D.l2i1).extBut hs₃.extBut D.l2TO) hy λh₄ e hs₄ he=>?_)
  obtain⟨oe,hoe,hce⟩:=he;have hz₄:IsZip h₄ z TI TO .ellipsis:=hs₄ _ _ D.i2z.symm (hs₃.extBut _ _ D.TOz.symm (hs₂.extBut _ _ D.i1z.symm hz₁));have hez:e≠z:=λx=>by subst x;rw[hz₄]at hoe;cases hoe;simp at hce
  refine wpAny_setField_rec hz₄ (by simp) λh₅ _ hs₅=>hE h₅ e (λc o c1 c2 c3 c4 x=>hs₅.extBut _ _ c1 (hs₄ _ _ c4 (hs₃.extBut _ _ c2 (hs₂.extBut _ _ c3 (hs₁.extBut _ _ c1 x))))) ⟨oe,hs₅.extBut _ _ hez hoe,hce⟩
noncomputable abbrev zH1(k1:Bool)(h:Heap)(l1:Addr):Heap:=h.push (a1p k1 l1)
noncomputable abbrev zH2(k1 k2:Bool)(h:Heap)(l1 l2:Addr):Heap:=(zH1 k1 h l1).push (a1p k2 l2)
noncomputable abbrev zH3(k1 k2:Bool)(h:Heap)(l1 l2:Addr):Heap:=(zH2 k1 k2 h l1 l2).push {cls:=.type "tuple",data:=.seq #[.ref h.objs.size,.ref (zH1 k1 h l1).objs.size]}
noncomputable abbrev zH4(k1 k2:Bool)(h:Heap)(l1 l2:Addr):Heap:=(zH3 k1 k2 h l1 l2).push {cls:=.type "tuple",data:=.seq #[.none,.none]}
noncomputable abbrev zH5(k1 k2:Bool)(h:Heap)(l1 l2:Addr):Heap:=(zH4 k1 k2 h l1 l2).push {cls:=.type "zip",data:=.fields #[.none,.bool false,.bool false,.ref (zH2 k1 k2 h l1 l2).objs.size,.ref (zH3 k1 k2 h l1 l2).objs.size]}
theorem b1W(l1 l2:Addr)(xs ys:Array Value) :
  Meets (Builtin.«zip.__new__» ⟨[.type "zip",.ref l1,.ref l2],[]⟩) (λ_ R s=>SqAt k1 s.heap l1 xs/\SqAt k2 s.heap l2 ys /\
   R (.ok (.ret (.ref (zH4 k1 k2 s.heap l1 l2).objs.size))) {s with heap:=zH5 k1 k2 s.heap l1 l2}) :=
 .of_wp λprog w A R s h=>by
  obtain⟨hp,g,d,tk,os⟩:=s;obtain⟨hl1,hl2,h⟩:=h;have hsub:=sub_zip;have hL1:SqAt k1 (Shared.heap ⟨hp,g,d,tk,os⟩) l1 xs:=hl1;have hL2:SqAt k2 (Shared.heap ⟨hp.push (a1p k1 l1),g,d,tk,os⟩) l2 ys:=hl2.at λo e=>Heap.get?_push_of_some _ e
  wp_walk using a0j hL1,a0j hL2
  exact⟨_,rfl,h⟩
theorem a9l{l1 l2:Addr}{xs ys:Array Value}{Q:Value->Shared->Prop}(hl1:SqAt k1 s.heap l1 xs)(hl2:SqAt k2 s.heap l2 ys)
  (h:∀h',IsZip h' (s.heap.objs.size+4) (s.heap.objs.size+2) (s.heap.objs.size+3) .none->IsPair h' (s.heap.objs.size+2) (.ref s.heap.objs.size) (.ref (s.heap.objs.size+1)) ->
   IsPair h' (s.heap.objs.size+3) .none .none->ItAt k1 h' s.heap.objs.size l1 0->ItAt k2 h' (s.heap.objs.size+1) l2 0->h'.objs.size=s.heap.objs.size+5 ->
   (∀c o,s.heap.get? c=some o->h'.get? c=some o)->Q (.ref (s.heap.objs.size+4)) {s with heap:=h'}) :
  wpAny (model prog w) A (call (.type "zip") [.ref l1,.ref l2]) Q E s:=by
 refine callType_new F.called_zip (by decide) (F.typeCall_zip_2 _ _) (F.newCall_zip_2 _ _) (λobj=>F.args_object_init_3 obj _ _) F.entry_zip_new
  (b1W (k1:=k1) (k2:=k2) l1 l2 xs ys) ⟨hl1,hl2,?_⟩
 have z1:(zH1 k1 s.heap l1).objs.size=s.heap.objs.size+1:=Heap.size_push ..;have z2:(zH2 k1 k2 s.heap l1 l2).objs.size=s.heap.objs.size+2:=by rw[Heap.size_push,z1]
 have z3:(zH3 k1 k2 s.heap l1 l2).objs.size=s.heap.objs.size+3:=by rw[Heap.size_push,z2]
 have z4:(zH4 k1 k2 s.heap l1 l2).objs.size=s.heap.objs.size+4:=by rw[Heap.size_push,z3]
 have z5:(zH5 k1 k2 s.heap l1 l2).objs.size=s.heap.objs.size+5:=by rw[Heap.size_push,z4]
 have g5:(zH5 k1 k2 s.heap l1 l2).get? (zH4 k1 k2 s.heap l1 l2).objs.size=some _:=Heap.get?_push_size _ rfl;have g4:(zH5 k1 k2 s.heap l1 l2).get? (zH3 k1 k2 s.heap l1 l2).objs.size=some _:=Heap.get?_push_of_some _ (Heap.get?_push_size _ rfl);have g3:(zH5 k1 k2 s.heap l1 l2).get? (zH2 k1 k2 s.heap l1 l2).objs.size=some _:=Heap.get?_push_of_some _ (Heap.get?_push_of_some _ (Heap.get?_push_size _ rfl));have g2:(zH5 k1 k2 s.heap l1 l2).get? (zH1 k1 s.heap l1).objs.size=some (a1p k2 l2):=Heap.get?_push_of_some _ (Heap.get?_push_of_some _ (Heap.get?_push_of_some _ (Heap.get?_push_size _ rfl)));have g1:(zH5 k1 k2 s.heap l1 l2).get? s.heap.objs.size=some (a1p k1 l1):=Heap.get?_push_of_some _ (Heap.get?_push_of_some _ (Heap.get?_push_of_some _ (Heap.get?_push_of_some _ (Heap.get?_push_size _ rfl))));show _/\_;rw[z2,z3,z4]at g5;rw[z1,z2]at g3;rw[z3]at g4;rw[z1]at g2;rw[z4];refine⟨⟨_,g5,rfl⟩,h _ g5 g3 g4 ?_ ?_ z5 λc o x =>
  Heap.get?_push_of_some _ (Heap.get?_push_of_some _ (Heap.get?_push_of_some _ (Heap.get?_push_of_some _ (Heap.get?_push_of_some _ x))))⟩
 .cases k1<;>exact⟨_,g1,rfl,rfl⟩
 .cases k2<;>exact⟨_,g2,rfl,rfl⟩
end
def SqK(k:Bool)(K:PySem.W.Frag)(H:Hp)(a:Addr)(xs:List V):Prop:=match k with|true=>SqT K H a xs|false=>SqL K H a xs
theorem Inv.sqk{X:Cx}{pins:List (Addr×Obj)}{σ:St}{H:Hp}{s:Shared}{k:Bool}{a:Addr}{xs:List V}(I:Inv X pins σ H s)(h:SqK k X.K H a xs):∃its:List Value,Vals xs its/\SqAt k s.heap a its.toArray/\xs.length<=sizeLine:=by
 cases k
 .obtain⟨its,r,p,z⟩:=I.list h;exact⟨its,r,p.isList,z⟩
 .obtain⟨its,r,p,z⟩:=I.tuple h;exact⟨its,r,p,z⟩
theorem Inv.sqk_inj{X:Cx}{pins:List (Addr×Obj)}{σ:St}{H:Hp}{s:Shared}{k:Bool}{a:Addr}{xs ys:List V}(I:Inv X pins σ H s)(h:SqK k X.K H a xs)(h':SqK k X.K H a ys):xs=ys:=by
 cases k
 .exact I.list_inj h h'
 .exact I.tuple_inj h h'
noncomputable def Itz(K:PySem.W.Frag)(k1 k2:Bool)(a b:Addr):It :=
 ⟨λi H=>∃xs ys x y,SqK k1 K H a xs/\SqK k2 K H b ys/\xs[i]?=some x/\ys[i]?=some y,
  λi H v H'=>∃p x y,v=.ref p/\H p=none/\H'=upd H p (.tup [x,y])/\(∀xs,SqK k1 K H a xs->xs[i]?=some x)/\∀ys,SqK k2 K H b ys->ys[i]?=some y,
  λi H=>∃xs ys,SqK k1 K H a xs/\SqK k2 K H b ys/\(xs.length<=i∨ys.length<=i)⟩
structure ZTurn(k1 k2:Bool)(z TI TO i1 i2 a b:Addr)(i:Nat)(f0:Value)(h:Heap):Prop where
 zz:IsZip h z TI TO f0
 ti:IsPair h TI (.ref i1) (.ref i2)
 to:∃u v,IsPair h TO u v
 t1:ItAt k1 h i1 a i
 t2:ItAt k2 h i2 b i
structure ZNe(z TI TO i1 i2:Addr):Prop where
 TIz:TI≠z
 TOz:TO≠z
 i1z:i1≠z
 i2z:i2≠z
 TITO:TI≠TO
 TIi1:TI≠i1
 TIi2:TI≠i2
 TOi1:TO≠i1
 TOi2:TO≠i2
 i12:i1≠i2
section
variable {X:Cx}{pins:List (Addr×Obj)}{σ:St}{H:Hp}{s:Shared}
theorem Inv.turnedT{h':Heap}{ch:List Addr}{p:Addr}{o:HO}(I:Inv X pins σ H s)(hf:∀b∈ch,a1d X pins H b)(hp:s.heap.objs.size=p)(k:∀b o,b∉ch->s.heap.get? b=some o->h'.get? b=some o)
  (new:ObjOk X.prog X.w (upd H p o) h' p o):Inv X pins σ (upd H p o) {s with heap:=h'}:=by
 have hn:H p=none:=I.hok.fresh (Nat.le_of_eq hp);have nit:∀b u,H b=some u->b∉ch:=λb u e z=>by rw[(hf b z).1]at e;cases e
 have nep:∀b u,H b=some u->b≠p:=λb u e z=>by rw[z,hn]at e;cases e
 have nap:∀b u,s.heap.get? b=some u->b≠p:=λb u e=>by
  rw[<-hp];exact Nat.ne_of_lt (Heap.lt_size e)
 refine I.step (g':=s.gens) (d':=s.drawn) (t':=s.toks) (ch:=ch) (λb hb=>?_) (λb o _ _ hc e _=>k b o hc e) (λb o _ _ hc e _=>⟨o.slots,k b o hc e⟩) (λb u _ e n=>by rw[A1 (nap b u e)];exact n)
  (λb o hc e=>⟨o,k b o hc e⟩) (λb xs e=>by rw[A1 (nep b _ e)];exact e) (λb u v e=>by rw[A1 (nep b _ e)];exact e) (λb ps e=>⟨#[],by rw[A1 (nep b _ e),e];simp⟩) (λm hm=>?_) (λb u e=>?_) I.bare
 .obtain⟨_,h1,_,h3,h4,h5⟩:=hf b hb;exact⟨h3,h1,h4,h5⟩
 .obtain⟨o,es,ep,ho,r⟩:=hm;exact⟨o,es,ep,k _ o (λz=>(hf _ z).2.1 rfl) ho,r⟩
 .by_cases hb:b=p
  .subst hb;rw[A0]at e;cases e;exact new
  .rw[A1 hb]at e;refine(I.hok b u e).stay (λc v hc q=>k c v ?_ q) (λc q=>by rw[A1 (nep c _ q)];exact q) λc xs q=>by rw[A1 (nep c _ q)];exact q
   rcases hc with z|z
   .rw[z];exact nit b u e
   .exact nit c _ z
theorem Inv.turnedL{h':Heap}{ch:List Addr}(I:Inv X pins σ H s)(hf:∀b∈ch,a1d X pins H b)(k:∀b o,b∉ch->s.heap.get? b=some o->h'.get? b=some o):Inv X pins σ H {s with heap:=h'}:=by
 have nit:∀b u,H b=some u->b∉ch:=λb u e z=>by rw[(hf b z).1]at e;cases e
 refine I.step (g':=s.gens) (d':=s.drawn) (t':=s.toks) (ch:=ch) (λb hb=>?_) (λb o _ _ hc e _=>k b o hc e) (λb o _ _ hc e _=>⟨o.slots,k b o hc e⟩) (λb u _ e n=>n)
  (λb o hc e=>⟨o,k b o hc e⟩) (λb xs e=>e) (λb u v e=>e) (λb ps e=>⟨#[],by rw[e];simp⟩) (λm hm=>?_) (λb u e=>?_) I.bare
 .obtain⟨_,h1,_,h3,h4,h5⟩:=hf b hb;exact⟨h3,h1,h4,h5⟩
 .obtain⟨o,es,ep,ho,r⟩:=hm;exact⟨o,es,ep,k _ o (λz=>(hf _ z).2.1 rfl) ho,r⟩
 .refine(I.hok b u e).stay (λc v hc q=>k c v ?_ q) (λc q=>q) λc xs q=>q;rcases hc with z|z
  .rw[z];exact nit b u e
  .exact nit c _ z
theorem Inv.apart{k:Bool}{a:Addr}{xs:List V}{b:Addr}{o:Obj}(I:Inv X pins σ H s)(hs:SqK k X.K H a xs)(hf:a1d X pins H b):a≠b:=by
 rintro rfl;have inH:∀{u:HO},Rd H a u->False:=λr=>by
  rcases r with r|⟨o,r⟩<;>rw[hf.1]at r<;>cases r
 have inK:∀{ob:Obj},X.K.lookup a=some ob->False:=λe=>by
  have e0:=I.mod.kin a _ e;rcases hf.2.2.2.1 with z|z
  .exact I.ok.noex _ _ e0 z
  .exact absurd (Nat.lt_of_lt_of_le (Heap.lt_size (I.ok.bs _ _ e0).1) z) (Nat.lt_irrefl _)
 cases k
 .rcases hs with r|⟨ob,_,_,e,_⟩
  .exact inH r
  .exact inK e
 .rcases hs with r|⟨ob,_,_,e,_⟩
  .exact inH r
  .exact inK e
end
theorem a9t{P:Program}{w:World}{K:PySem.W.Frag}{es:List Expr}{kt:Nat}{tp:Pos}{k1 k2:Bool}{a b z TI TO i1 i2:Addr}(D:ZNe z TI TO i1 i2) :
  Turn P w K (.Tuple es kt tp) (Itz K k1 k2 a b) [z,TI,TO,i1,i2] z (λi h=>ZTurn k1 k2 z TI TO i1 i2 a b i .none h) where
 mem:=by simp
 obj:=λi h st c hc=>by
  simp only[List.mem_cons,List.not_mem_nil,or_false]at hc;rcases hc with rfl|rfl|rfl|rfl|rfl
  .exact⟨_,st.zz,λv z=>by cases z⟩
  .exact⟨_,st.ti,λv z=>by cases z⟩
  .obtain⟨u,v,q⟩:=st.to;exact⟨_,q,λv z=>by cases z⟩
  .obtain⟨o,e,d⟩:=st.t1.get;exact⟨o,e,λv z=>by rw[d]at z;cases z⟩
  .obtain⟨o,e,d⟩:=st.t2.get;exact⟨o,e,λv z=>by rw[d]at z;cases z⟩
 keep:=λi h h' st k=>⟨k z (by simp) _ st.zz,k TI (by simp) _ st.ti,let ⟨u,v,q⟩:=st.to;⟨u,v,k TO (by simp) _ q⟩,st.t1.at λo e=>k i1 (by simp) o e,st.t2.at λo e=>k i2 (by simp) o e⟩
 item:=by
  intro X hP hw hK hc i pins s σ H E I hf st hg;subst hP hw hK;obtain⟨xs,ys,x,y,hx1,hy1,hx,hy⟩:=hg;obtain⟨us,ru,pu,zu⟩:=I.sqk hx1;obtain⟨ws,rw',pw,zw⟩:=I.sqk hy1;obtain⟨u,hu,rux⟩:=ru.get hx;obtain⟨v,hv,rvy⟩:=rw'.get hy;have ap:∀c∈[z,TI,TO,i1,i2],a≠c/\b≠c:=λc hc=>⟨I.apart (o:=default) hx1 (hf c hc),I.apart (o:=default) hy1 (hf c hc)⟩;have D':ZipApart z TI TO i1 i2 a b:=⟨D.TIz,D.TOz,D.i1z,D.i2z,D.TITO,D.TIi1,D.TIi2,D.TOi1,D.TOi2,D.i12,(ap z (by simp)).1,(ap TO (by simp)).1,(ap i1 (by simp)).1,(ap i2 (by simp)).1,(ap z (by simp)).2,(ap TO (by simp)).2,(ap i1 (by simp)).2,(ap i2 (by simp)).2⟩;obtain⟨ua,ub,hTO⟩:=st.to;have hT:s.TypeIs (.ref z) "zip":=⟨_,st.zz,rfl⟩;unfold pyNext;refine wpAny_bind (wpAny_attempt (wpAny_callSpecial?_slot (name:=Str.ofString "__next__") hT F.slot_zip_next
   (wpAny_call_entry F.slot_zip_next hT F.entry_zip_next
    (a9j D' st.zz st.ti hTO st.t1 st.t2 pu pw (x:=u) (y:=v) (by simpa using hu) (by simpa using hv) λh' a1 a2 a3 a4 a5 a6 a7=>wpAny_pure ?_) (F.args_zip_next_1 _))))
  refine⟨_,rfl,?_⟩;refine wpAny_letOwnedTupleGo_zip (s:={s with heap:=h'}) a1 λh2 hz2 hs2=>?_;have ne:∀c∈[z,TI,TO,i1,i2],c≠s.heap.objs.size:=λc hc e=>by
   have:∃o,s.heap.get? c=some o:=by
    simp only[List.mem_cons,List.not_mem_nil,or_false]at hc;rcases hc with rfl|rfl|rfl|rfl|rfl
    .exact⟨_,st.zz⟩
    .exact⟨_,st.ti⟩
    .exact⟨_,hTO⟩
    .obtain⟨o,e,d⟩:=st.t1.get;exact⟨o,e⟩
    .obtain⟨o,e,d⟩:=st.t2.get;exact⟨o,e⟩
   obtain⟨o,q⟩:=this;exact absurd (Heap.lt_size q) (by rw[e];exact Nat.lt_irrefl _)
  have hfree:H s.heap.objs.size=none:=I.hok.fresh (Nat.le_refl _);have pr2:IsPair h2 s.heap.objs.size u v:=hs2.extBut _ _ (ne z (by simp)).symm a5;have kk:∀c o,c∉[z,TI,TO,i1,i2]->s.heap.get? c=some o->h2.get? c=some o:=λc o hc e=>by
   simp only[List.mem_cons,List.not_mem_nil,or_false,not_or]at hc;exact hs2.extBut _ _ hc.1 (a7 c o hc.1 hc.2.2.1 hc.2.2.2.1 hc.2.2.2.2 e)
  have I2:Inv X pins σ (upd H s.heap.objs.size (.tup [x,y])) {s with heap:=h2} :=
   I.turnedT (ch:=[z,TI,TO,i1,i2]) hf rfl kk ⟨by show 2<=sizeLine;decide,[u,v],.cons rux (.cons rvy .nil),⟨_,pr2,rfl,0,rfl⟩⟩
  refine⟨.ref s.heap.objs.size,_,I2,rfl,⟨_,x,y,rfl,hfree,rfl,λzs hz=>?_,λzs hz=>?_⟩,⟨hz2,hs2.extBut _ _ D.TIz (a7 _ _ D.TIz D.TITO D.TIi1 D.TIi2 st.ti),⟨u,v,hs2.extBut _ _ D.TOz a2⟩,a3.extBut hs2.extBut D.i1z,a4.extBut hs2.extBut D.i2z⟩,λc hc=>?_⟩
  .rw[I.sqk_inj hz hx1];exact hx
  .rw[I.sqk_inj hz hy1];exact hy
  .rw[A1 (ne c hc)];exact(hf c hc).1
 done:=by
  intro X hP hw hK hc i pins s σ H E I hf st hg;subst hP hw hK;obtain⟨xs,ys,hx1,hy1,hend⟩:=hg;obtain⟨us,ru,pu,zu⟩:=I.sqk hx1;obtain⟨ws,rw',pw,zw⟩:=I.sqk hy1;have l1:=ru.length;have l2:=rw'.length;have ap:∀c∈[z,TI,TO,i1,i2],a≠c/\b≠c:=λc hc=>⟨I.apart (o:=default) hx1 (hf c hc),I.apart (o:=default) hy1 (hf c hc)⟩;have D':ZipApart z TI TO i1 i2 a b:=⟨D.TIz,D.TOz,D.i1z,D.i2z,D.TITO,D.TIi1,D.TIi2,D.TOi1,D.TOi2,D.i12,(ap z (by simp)).1,(ap TO (by simp)).1,(ap i1 (by simp)).1,(ap i2 (by simp)).1,(ap z (by simp)).2,(ap TO (by simp)).2,(ap i1 (by simp)).2,(ap i2 (by simp)).2⟩;obtain⟨ua,ub,hTO⟩:=st.to;have hT:s.TypeIs (.ref z) "zip":=⟨_,st.zz,rfl⟩;unfold pyNext;refine wpAny_bind (wpAny_attempt (wpAny_callSpecial?_slot (name:=Str.ofString "__next__") hT F.slot_zip_next
   (wpAny_call_entry F.slot_zip_next hT F.entry_zip_next (b1Y (I.ok.hd hc) D' st.zz st.ti hTO st.t1 st.t2 pu pw ?_ λh' e hk he=>?_) (F.args_zip_next_1 _))))
  .rcases hend with q|q
   .exact .inl (by simp;omega)
   .exact .inr (by simp;omega)
  .obtain⟨o,ho,hc⟩:=he;refine wpAny_bind (wpAny_isInstance (T:="StopIteration") (b:=true) ⟨o,ho,hc⟩ isSubtype_stop ?_);refine wpAny_pure ⟨rfl,I.turnedL (ch:=[z,TI,TO,i1,i2]) hf λc o hc e=>?_⟩;simp only[List.mem_cons,List.not_mem_nil,or_false,not_or]at hc;exact hk c o hc.1 hc.2.2.1 hc.2.2.2.1 hc.2.2.2.2 e
 self:=λA i s Q E st h=>wpAny_pyIter_zip st.zz h
theorem nne{a b:Nat}(h:a≠b):@Ne Addr a b:=h
theorem zne(n:Nat):ZNe (n+4) (n+2) (n+3) n (n+1) :=
 ⟨nne (by omega),nne (by omega),nne (by omega),nne (by omega),nne (by omega),nne (by omega),nne (by omega),nne (by omega),nne (by omega),nne (by omega)⟩
def b5t(K:PySem.W.Frag)(ta:TA):TI:=λσ H R=>ta σ H λvs H1=>∃k1 k2 a b,vs=[.ref a,.ref b]/\(∃xs,SqK k1 K H1 a xs)/\(∃ys,SqK k2 K H1 b ys)/\R (Itz K k1 k2 a b) H1
section
variable {X:Cx}
theorem b4G{es:List Expr}{kt:Nat}{tp:Pos}{a b:Expr}{ta:TA}{p pos:Pos}(hg:Gl X "zip")(hm:X.mg "zip"=none)(ha:PA X [a,b] ta)(hbz:bootBuiltins "zip"=some (.type "zip"))
  (hs:starEach [a,b] X.env=[(false,eval a X.env),(false,eval b X.env)]:=by rfl) (hs2:starEach [b] X.env=[(false,eval b X.env)]:=by rfl) :
  PI X (.Tuple es kt tp) (.Call (.Name "zip" p) [a,b] [] pos) (b5t X.K ta):=by
 intro pins s σ H R I h;refine Call_ (a2p I hg hm hbz (PyProof.Rows.callWith_type1 (thn (ha pos pins s σ H _ I h) λus s1 ⟨vs,H1,I1,r1,q1⟩=>?_) (by rw[hs,hs2]) (by rw[hs2];rfl)));obtain⟨k1,k2,l1,l2,e,⟨xs,hx⟩,⟨ys,hy⟩,q⟩:=q1;subst e;cases r1 with
 |cons r rr =>
  cases rr with
  |cons r' rr =>
   cases rr;cases r;cases r';obtain⟨us,ru,pu,zu⟩:=I1.sqk hx;obtain⟨ws,rw',pw,zw⟩:=I1.sqk hy;refine a9l pu pw λh' z1 z2 z3 z4 z5 z6 z7=>?_;refine wpAny_pyIter_zip (s:={s1 with heap:=h'}) z1 ?_;refine⟨s1.heap.objs.size+4,[s1.heap.objs.size+4,s1.heap.objs.size+2,s1.heap.objs.size+3,s1.heap.objs.size,s1.heap.objs.size+1],_,_,H1,rfl,I1.kept (t':=s1.toks) z7,a9t (zne _),
    ⟨z1,z2,⟨_,_,z3⟩,z4,z5⟩,λc hc=>?_,q⟩
   have hle:s1.heap.objs.size<=c:=by
    simp only[List.mem_cons,List.not_mem_nil,or_false]at hc;rcases hc with rfl|rfl|rfl|rfl|rfl
    .exact Nat.le_add_right _ _
    .exact Nat.le_add_right _ _
    .exact Nat.le_add_right _ _
    .exact Nat.le_refl _
    .exact Nat.le_add_right _ _
   exact I1.fpOk hle (I1.hok.fresh hle)
end
theorem a4D{prog:Program}{w:World}{A:Around}{k:Bool}{I l:Addr}{items:Array Value}(hh:A.handled=none)(hne:l≠I) :
  Walks prog w A I [I,l] [I] items.size (λi v=>items[i]?=some v) (λi h=>ItAt k h I l i/\SqAt k h l items):=by
 cases k
 .exact Walks.list hh I l hne items
 .exact Walks.tuple hh I l hne items
noncomputable def trV:V->Bool
 |.bl b=>b
 |.int i=>i != 0
 |.non=>false
 |_=>true
noncomputable def b1x:V->Bool
 |.bl _=>true
 |.int _=>true
 |.non=>true
 |_=>false
theorem a4F{prog:Program}{w:World}{A:Around}{E:Value->Shared->Prop}{s:Shared}{x:V}{v:Value}{Q:Bool->Shared->Prop}(r:RelV x v)(f:b1x x=true)(h:Q (trV x) s):wpAny (model prog w) A (truthy v) Q E s:=by
 cases x with
 |non=>cases r;exact truthy_none h
 |bl b=>cases r;exact wpAny_truthy_bool h
 |int i=>obtain⟨t,rfl⟩:=r;exact PySem.P.truthy_int h
 |_=>cases f
theorem a8j{α:Type}(xs:List α)(p:α->Bool)(d:α):(List.range xs.length).all (λi=>p (xs.getD i d))=xs.all p:=by
 rw[Bool.eq_iff_iff,List.all_eq_true,List.all_eq_true];constructor
 .intro h x hx;obtain⟨i,hi,rfl⟩:=List.mem_iff_getElem.mp hx;have:=h i (List.mem_range.mpr hi);simpa[List.getD_eq_getElem?_getD,hi]using this
 .intro h i hi;have hi':=List.mem_range.mp hi;simpa[List.getD_eq_getElem?_getD,hi']using h xs[i] (List.getElem_mem hi')
theorem a7e(xs:List Int):∀n,n<=xs.length->preSum (λi=>xs.getD i 0) n=(xs.take n).sum
 |0,_=>by simp[preSum]
 |n+1,h=>by
  have this:xs[n]?=some xs[n]:=List.getElem?_eq_getElem (by omega);have e:xs.take (n+1)=xs.take n++[xs[n]]:=by rw[List.take_add_one,this];rfl
  rw[preSum,a7e xs n (by omega),e,List.sum_append];simp[List.getD_eq_getElem?_getD,this]
section
variable {X:Cx}
abbrev RL:=List V->Hp->VK->Prop
def b4x(K:PySem.W.Frag):RL:=λxs H Q=>∃(k:Bool) (p:Addr) (ys:List V),xs=[.ref p]/\SqK k K H p ys/\ys.all b1x=true/\Q (.bl (ys.all trV)) H
def b4u(K:PySem.W.Frag):RL:=λxs H Q=>∃(k:Bool) (p:Addr) (ns:List Int),xs=[.ref p]/\SqK k K H p (ns.map V.int)/\Q (.int ns.sum) H
theorem b1o{k:Bool}{l:Addr}{items:Array Value}{s:Shared}(h:SqAt k s.heap l items):ItAt k (s.heap.push (a1p k l)) s.heap.objs.size l 0/\SqAt k (s.heap.push (a1p k l)) l items:=by
 refine⟨?_,h.at λo e=>Heap.get?_push_of_some _ e⟩;cases k<;>exact⟨_,Heap.get?_push_size _ rfl,rfl,rfl⟩
theorem a5k{k:Bool}{l:Addr}{items:Array Value}{s:Shared}(h:SqAt k s.heap l items):l≠s.heap.objs.size:=by
 obtain⟨o,e⟩:=h.get;exact Nat.ne_of_lt (Heap.lt_size e)
theorem a5l{s:Shared}{h':Heap}{o0:Obj}(hk:∀b o,b∉[s.heap.objs.size]->(s.heap.push o0).get? b=some o->h'.get? b=some o):∀b o,s.heap.get? b=some o->h'.get? b=some o:=λb o e =>
 hk b o (λz=>by have:=Heap.lt_size e;rw[List.mem_singleton.mp z]at this;exact Nat.lt_irrefl _ this) (Heap.get?_push_of_some _ e)
theorem b1N(hc:X.calm=true):E1 X (.builtin "all") (b4x X.K):=by
 intro pins s σ H xs us Q I rv h;obtain⟨k,p,ys,rfl,hs,hf,q⟩:=h;obtain⟨u,rfl,ru⟩:=rv.one;cases ru;obtain⟨its,ri,sq,hz⟩:=I.sqk hs;have hh:X.A.in1.handled=none:=I.ok.hd hc;refine call_all_walk (a0j sq ?_);refine⟨s.heap.objs.size,_,_,_,_,_,λi=>trV (ys.getD i .non),rfl,a4D (k:=k) (l:=p) (items:=its.toArray) hh (a5k sq),b1o sq,?_,λh' tk hk=>?_⟩
 .intro i v s' Q' E' hv hq;have hv':its[i]?=some v:=by simpa using hv
  obtain⟨hi,_⟩:=List.getElem?_eq_some_iff.mp hv';have hi':i<ys.length:=by rw[ri.length];exact hi
  have hy:ys[i]?=some ys[i]:=List.getElem?_eq_getElem hi';obtain⟨v',e1,e2⟩:=ri.get hy;rw[hv']at e1;cases e1;refine a4F e2 (List.all_eq_true.mp hf _ (List.getElem_mem hi')) ?_;simpa[List.getD_eq_getElem?_getD,hy]using hq
 .have e:(List.range its.toArray.size).all (λi=>trV (ys.getD i .non))=ys.all trV:=by
   rw[List.size_toArray,<-ri.length];exact a8j ys trV .non
  rw[e];exact⟨.bl _,H,I.kept (a5l hk),rfl,q⟩
theorem b1L(hc:X.calm=true):E1 X (.builtin "sum") (b4u X.K):=by
 intro pins s σ H xs us Q I rv h;obtain⟨k,p,ns,rfl,hs,q⟩:=h;obtain⟨u,rfl,ru⟩:=rv.one;cases ru;obtain⟨its,ri,sq,hz⟩:=I.sqk hs;have hl:=ri.length;rw[List.length_map]at hl;have hh:X.A.in1.handled=none:=I.ok.hd hc;refine call_sum_walkG (a0j sq ?_);refine⟨s.heap.objs.size,_,_,_,_,_,λi=>ns.getD i 0,rfl,a4D (k:=k) (l:=p) (items:=its.toArray) hh (a5k sq),b1o sq,λb hb=>?_,?_,λh' tk t' hk=>?_⟩
 .rw[Heap.size_push];obtain⟨o,e⟩:=sq.get;have hlt:=Heap.lt_size e;simp only[List.mem_cons,List.not_mem_nil,or_false]at hb;rcases hb with rfl|rfl
  .exact Nat.lt_succ_self _
  .exact Nat.lt_succ_of_lt hlt
 .intro i v hv;have hv':its[i]?=some v:=by simpa using hv
  obtain⟨hi,_⟩:=List.getElem?_eq_some_iff.mp hv';have hy:(ns.map V.int)[i]?=some (.int ns[i]):=by rw[List.getElem?_map,List.getElem?_eq_getElem (by omega)];rfl
  obtain⟨v',e1,t,e2⟩:=ri.get hy;rw[hv']at e1;cases e1;exact⟨t,by rw[e2];show _=Value.int (ns.getD i 0) t;rw[List.getD_eq_getElem?_getD,List.getElem?_eq_getElem (by omega)];rfl⟩
 .have e:preSum (λi=>ns.getD i 0) its.toArray.size=ns.sum:=by
   rw[List.size_toArray,<-hl,a7e ns _ (Nat.le_refl _),List.take_length]
  rw[e];exact⟨.int ns.sum,H,I.kept (a5l hk),⟨t',rfl⟩,q⟩
def b4w(K:PySem.W.Frag):RL:=λxs H Q=>∃x n t b,xs=[x,.ty n]/\TyOf K H x t/\PySem.W.kitOne K t (.type n)=some b/\Q (.bl b) H
theorem b1M:E1 X (.builtin "isinstance") (b4w X.K):=by
 intro pins s σ H xs us Q I rv h;obtain⟨x,n,t,b,rfl,ty,e,q⟩:=h;obtain⟨u,v,rfl,ru,rv'⟩:=rv.two;cases rv';exact a8K I ru ty e λtk=>⟨.bl b,H,I.tok tk,rfl,q⟩
end
theorem b1Q:bootBuiltins "len"=some (.builtin "len"):=boot_len
theorem b5z:bootBuiltins "zip"=some (.type "zip"):=by kernel_rfl
theorem b5C:bootBuiltins "all"=some (.builtin "all"):=by kernel_rfl
theorem b5A:bootBuiltins "sum"=some (.builtin "sum"):=by kernel_rfl
theorem b5D:bootBuiltins "abs"=some (.builtin "abs"):=by kernel_rfl
theorem a2U:bootBuiltins "isinstance"=some (.builtin "isinstance"):=by kernel_rfl
theorem a1a:bootBuiltins "sorted"=some (.builtin "sorted"):=by kernel_rfl
theorem a2M:bootBuiltins "tuple"=some (.type "tuple"):=by kernel_rfl
theorem a7N:bootBuiltins "list"=some (.type "list"):=by kernel_rfl
theorem b1R:bootBuiltins "int"=some (.type "int"):=by kernel_rfl
theorem b3H:bootBuiltins "bool"=some (.type "bool"):=by kernel_rfl
theorem b5B:bootBuiltins "set"=some (.type "set"):=by kernel_rfl
theorem a1M{src:List (Option Nat)}{g:TG}{tt:TT}{te:TE}{σ:St}{Q:VK}{J:It}{H1:Hp}(n:Nat)(Pv:Nat->List V->Hp->Prop)(h0:Pv 0 [] H1)
  (hs:∀i ys H,i<n->Pv i ys H->J.go i H/\ys.length<sizeLine/\∀x H',J.yld i H x H'->g x (B2 src σ) H' λσ2 H2=>Sub (B2 src σ) σ2/\tt σ2 H2 λb H3=>if b=true then te σ2 H3 λv H4=>Pv (i+1) (ys++[v]) H4 else Pv (i+1) ys H3)
  (hd:∀ys H,Pv n ys H->J.stop n H/\ys.length<=sizeLine/\∀p,H p=none->Q (.ref p) (upd H p (.lst ys))):E4 src g tt te σ Q J H1:=by
 refine⟨λi m ys H=>m=n-i/\i<=n/\Pv i ys H,⟨n,by omega,Nat.zero_le _,h0⟩,?_⟩;rintro i m ys H ⟨rfl,hi,p⟩;by_cases hlt:i<n
 .obtain⟨q1,q2,q3⟩:=hs i ys H hlt p;exact .inr ⟨q1,q2,Pv (i+1),λzs H' p'=>⟨n-(i+1),by omega,rfl,hlt,p'⟩,q3⟩
 .have e:i=n:=by omega
  subst e;exact .inl (hd ys H p)
theorem a6q{src:List (Option Nat)}{g:TG}{tt:TT}{te:TE}{σ:St}{Q:VK}{lo:Int}{n:Nat}{H1:Hp}(hn:n<=sizeLine)(Pv:Nat->List V->Hp->Prop)(h0:Pv 0 [] H1)
  (hl:∀i ys H,Pv i ys H->ys.length<=i)
  (hs:∀i ys H,i<n->Pv i ys H->g (.int (lo+i)) (B2 src σ) H λσ2 H2=>Sub (B2 src σ) σ2/\tt σ2 H2 λb H3=>if b=true then te σ2 H3 λv H4=>Pv (i+1) (ys++[v]) H4 else Pv (i+1) ys H3)
  (hd:∀ys H,Pv n ys H->∀p,H p=none->Q (.ref p) (upd H p (.lst ys))):E4 src g tt te σ Q (Itr lo n) H1 :=
 a1M n Pv h0 (λi ys H hi p=>⟨hi,by have:=hl i ys H p;omega,λx H' y=>by obtain⟨e,y⟩:=y;subst e y;exact hs i ys _ hi p⟩)
  λys H p=>⟨Nat.le_refl _,Nat.le_trans (hl n ys H p) hn,hd ys H p⟩
theorem a0Y{K:PySem.W.Frag}{src:List (Option Nat)}{g:TG}{tt:TT}{te:TE}{σ:St}{Q:VK}{a:Addr}{xs:List V}{H1:Hp}(hn:xs.length<=sizeLine)(Pv:Nat->List V->Hp->Prop)(h0:Pv 0 [] H1)
  (hq:∀i ys H,i<=xs.length->Pv i ys H->SqL K H a xs/\ys.length<=i)
  (hs:∀i x ys H,xs[i]?=some x->Pv i ys H->g x (B2 src σ) H λσ2 H2=>Sub (B2 src σ) σ2/\tt σ2 H2 λb H3=>if b=true then te σ2 H3 λv H4=>Pv (i+1) (ys++[v]) H4 else Pv (i+1) ys H3)
  (hd:∀ys H,Pv xs.length ys H->∀p,H p=none->Q (.ref p) (upd H p (.lst ys))):E4 src g tt te σ Q (Itl K a) H1 :=
 a1M xs.length Pv h0 (λi ys H hi p=>by
   obtain⟨q1,q2⟩:=hq i ys H (Nat.le_of_lt hi) p;refine⟨⟨xs,xs[i],q1,List.getElem?_eq_getElem hi⟩,by omega,λx H' y=>?_⟩;obtain⟨e,y⟩:=y;subst e;exact hs i x ys _ (y xs q1) p)
  λys H p=>by
   obtain⟨q1,q2⟩:=hq _ ys H (Nat.le_refl _) p;exact⟨⟨xs,q1,Nat.le_refl _⟩,by omega,hd ys H p⟩
theorem W3{K:PySem.W.Frag}{src:List (Option Nat)}{g:TG}{tt:TT}{te:TE}{σ:St}{Q:VK}{a:Addr}{xs:List V}{H1:Hp}(hn:xs.length<=sizeLine)(Pv:Nat->List V->Hp->Prop)(h0:Pv 0 [] H1)
  (hq:∀i ys H,i<=xs.length->Pv i ys H->SqT K H a xs/\ys.length<=i)
  (hs:∀i x ys H,xs[i]?=some x->Pv i ys H->g x (B2 src σ) H λσ2 H2=>Sub (B2 src σ) σ2/\tt σ2 H2 λb H3=>if b=true then te σ2 H3 λv H4=>Pv (i+1) (ys++[v]) H4 else Pv (i+1) ys H3)
  (hd:∀ys H,Pv xs.length ys H->∀p,H p=none->Q (.ref p) (upd H p (.lst ys))):E4 src g tt te σ Q (Itt K a) H1 :=
 a1M xs.length Pv h0 (λi ys H hi p=>by
   obtain⟨q1,q2⟩:=hq i ys H (Nat.le_of_lt hi) p;refine⟨⟨xs,xs[i],q1,List.getElem?_eq_getElem hi⟩,by omega,λx H' y=>?_⟩;obtain⟨e,y⟩:=y;subst e;exact hs i x ys _ (y xs q1) p)
  λys H p=>by
   obtain⟨q1,q2⟩:=hq _ ys H (Nat.le_refl _) p;exact⟨⟨xs,q1,Nat.le_refl _⟩,by omega,hd ys H p⟩
theorem W2{K:PySem.W.Frag}{src:List (Option Nat)}{g:TG}{tt:TT}{te:TE}{σ:St}{Q:VK}{k1 k2:Bool}{a b:Addr}{xs zs:List V}{H1:Hp}(hn:xs.length<=sizeLine)(Pv:Nat->List V->Hp->Prop)(h0:Pv 0 [] H1)
  (hq:∀i ys H,i<=xs.length->i<=zs.length->Pv i ys H->SqK k1 K H a xs/\SqK k2 K H b zs/\ys.length<=i)
  (hs:∀i x z ys H p,xs[i]?=some x->zs[i]?=some z->Pv i ys H->H p=none->g (.ref p) (B2 src σ) (upd H p (.tup [x,z])) λσ2 H2=>Sub (B2 src σ) σ2/\tt σ2 H2 λb H3=>if b=true then te σ2 H3 λv H4=>Pv (i+1) (ys++[v]) H4 else Pv (i+1) ys H3)
  (hd:∀ys H,Pv (min xs.length zs.length) ys H->∀p,H p=none->Q (.ref p) (upd H p (.lst ys))):E4 src g tt te σ Q (Itz K k1 k2 a b) H1 :=
 a1M (min xs.length zs.length) Pv h0 (λi ys H hi p=>by
   have hi1:i<xs.length:=by omega
   have hi2:i<zs.length:=by omega
   obtain⟨q1,q2,q3⟩:=hq i ys H (by omega) (by omega) p;refine⟨⟨xs,zs,xs[i],zs[i],q1,q2,List.getElem?_eq_getElem hi1,List.getElem?_eq_getElem hi2⟩,by omega,λx H' y=>?_⟩;obtain⟨pp,x',z',e,e2,e3,y1,y2⟩:=y;subst e e3;exact hs i x' z' ys _ pp (y1 xs q1) (y2 zs q2) p e2)
  λys H p=>by
   obtain⟨q1,q2,q3⟩:=hq _ ys H (by omega) (by omega) p;exact⟨⟨xs,zs,q1,q2,by omega⟩,by omega,hd ys H p⟩
structure Ok(P:Program)(w:World)(K:PySem.W.Frag)(mg:Str->Option Value)(base:Heap)(x:Str)(k:Nat)(ps:List Str)(sp:Sp):Prop where
 ex:∃f fd,mg x=some (.ref f)/\PySem.W.keepIn K (.ref f)=true/\Binds K fd ps []/\FnOk P w K mg base CX0 k f fd ps sp
structure FunAt(K:PySem.W.Frag)(mg:Str->Option Value)(x:Str)(st:Stmt)(ps:List Str):Prop where
 ex:∃f fd,mg x=some (.ref f)/\Fun K x x st f fd/\Binds K fd ps []
section
variable {P:Program}{w:World}{K:PySem.W.Frag}{mg:Str->Option Value}{base:Heap}
theorem Ok.imp{x:Str}{k:Nat}{ps:List Str}{sp sp':Sp}(O:Ok P w K mg base x k ps sp)(h:∀vs H Q E,sp' vs H Q E->sp vs H Q E):Ok P w K mg base x k ps sp':=by
 obtain⟨f,fd,h1,h2,h3,h4⟩:=O.ex;exact⟨f,fd,h1,h2,h3,h4.imp h⟩
theorem FunAt.ok{x:Str}{st:Stmt}{N ps:List Str}{k:Nat}{sp:Sp}(F:FunAt K mg x st ps)(S:FnScope N ps (A3 st))(len:∀vs H Q E,sp vs H Q E->vs.length=ps.length)
  (hbody:∀(cdv:Value) (f:Addr) (A:Around) (outer:List Env) (s:Shared) (H:Hp) (vs:List V) (Q:VK) (E:XK),Room k (A.deeper (envOfC x (A3 st) s.heap.objs.size f cdv))->sp vs H Q E ->
   ∃t,PSs (T4 CX0 P w K mg base N x (A3 st) f cdv A outer s H E).nox (D9 st) t/\t {nx:=λ_ H'=>Q .non H',rt:=Q} (start N vs) H):Ok P w K mg base x (k+1) ps sp:=by
 obtain⟨f,fd,h1,h2,h3⟩:=F.ex;exact⟨f,fd,h1,h2.kp,h3,h2.ok S len λcdv=>hbody cdv f⟩
end
section
variable {X:Cx}{k:Nat}{ps:List Str}{sp:Sp}{x:Str}{p pos:Pos}{e:Expr}{es:List Expr}{t:TA}
theorem b0t(O:Ok X.prog X.w X.K X.mg X.base x k ps sp)(hr:Room k X.A)(hg:Gl X x)(ha:PA X (e::es) t)(hdb:(x==("__debug__" : Str))=false:=by decide)
  (he:starEach (e::es) X.env=(false,eval e X.env)::starEach es X.env:=by rfl) (hpl:(backTo pos (starEach es X.env)).any (·.1)=false:=by rfl):PE X (.Call (.Name x p) (e::es) [] pos) (a9y sp [] E0 t):=by
 obtain⟨f,fd,h1,h2,h3,h4⟩:=O.ex;exact b2S h4 hr hg h1 h2 h3 .nil a7h ha hdb he hpl
end
inductive EqV(K:PySem.W.Frag)(H:Hp):Nat->V->V->Bool->Prop
 |flat {n:Nat}{x y:V}(fx:a5q x=true) (fy:a5q y=true):EqV K H n x y (eqV x y)
 |tup {n:Nat}{a b:Addr}{xs ys:List V}(e:Nat->Bool) (ha:SqT K H a xs) (hb:SqT K H b ys) (he:∀j x y,xs[j]?=some x->ys[j]?=some y->EqV K H n x y (e j)) :
   EqV K H (n+1) (.ref a) (.ref b) ((List.range (min xs.length ys.length)).all e && xs.length==ys.length)
 |lst {n:Nat}{a b:Addr}{xs ys:List V}(e:Nat->Bool) (ha:SqL K H a xs) (hb:SqL K H b ys) (he:∀j x y,xs[j]?=some x->ys[j]?=some y->EqV K H n x y (e j)) :
   EqV K H (n+1) (.ref a) (.ref b) ((List.range (min xs.length ys.length)).all e && xs.length==ys.length)
theorem b1B:∀{x:V},a5q x=true->eqV x x=true
 |.non,_=>rfl
 |.bl b,_=>beq_self_eq_true b
 |.int i,_=>beq_self_eq_true i
 |.str y,_=>beq_self_eq_true y
 |.byt _,h=>by cases h
 |.flt _,h=>by cases h
 |.ref _,h=>by cases h
 |.ty _,h=>by cases h
section
variable {X:Cx}{pins:List (Addr×Obj)}{σ:St}{H:Hp}{s:Shared}
theorem EqV.same{n:Nat}{x y:V}{b:Bool}(I:Inv X pins σ H s)(h:EqV X.K H n x y b):x=y->b=true:=by
 induction h with
 |flat fx fy=>rintro rfl;exact b1B fx
 |tup e ha hb he ih =>
  intro z;cases z;have q:=I.tuple_inj ha hb;subst q;simp only[Nat.min_self,Bool.and_eq_true,beq_self_eq_true,and_true,List.all_eq_true,List.mem_range];intro j hj;exact ih j _ _ (List.getElem?_eq_getElem hj) (List.getElem?_eq_getElem hj) rfl
 |lst e ha hb he ih =>
  intro z;cases z;have q:=I.list_inj ha hb;subst q;simp only[Nat.min_self,Bool.and_eq_true,beq_self_eq_true,and_true,List.all_eq_true,List.mem_range];intro j hj;exact ih j _ _ (List.getElem?_eq_getElem hj) (List.getElem?_eq_getElem hj) rfl
theorem D4{xs:List V}{us:List Value}{j:Nat}{u:Value}(r:Vals xs us)(h:us[j]?=some u):∃x,xs[j]?=some x/\RelV x u:=by
 obtain⟨hj,_⟩:=List.getElem?_eq_some_iff.mp h;have hj':j<xs.length:=by rw[r.length];exact hj
 have hx:xs[j]?=some xs[j]:=List.getElem?_eq_getElem hj';obtain⟨u',e,q⟩:=r.get hx;rw[h]at e;cases e;exact⟨_,hx,q⟩
theorem EqV.at{n:Nat}{x y:V}{b:Bool}(I:Inv X pins σ H s)(h:EqV X.K H n x y b):∀{A:Around}{u v:Value},A.units+n<cLine->RelV x u->RelV y v->SeqAt.EqAt A s u v b:=by
 induction h with
 |flat fx fy=>intro A u v _ ru rv;exact b5v ru rv fx fy
 |@tup n a b xs ys e ha hb he ih =>
  intro A u v hu ru rv;cases ru;cases rv;by_cases hab:a=b
  .have:=(EqV.tup e ha hb he).same I (by rw[hab]);rw[this,hab];exact SeqAt.EqAt.same _
  .obtain⟨us,r1,p1,_⟩:=I.tuple ha;obtain⟨ws,r2,p2,_⟩:=I.tuple hb;rw[r1.length,r2.length];refine SeqAt.EqAt.of_refs hab ?_;have:=SeqAt.RcAt.tuples (A:=A) (s:=s) (e:=e) (show s.heap.IsTuple a us.toArray from p1) (show s.heap.IsTuple b ws.toArray from p2) (by omega) (λj h1 h2=>?_)
   .simpa using this
   .have h1':us[j]?=some us.toArray[j]:=by simp at h1⊢
    have h2':ws[j]?=some ws.toArray[j]:=by simp at h2⊢
    obtain⟨x,ex,rx⟩:=D4 r1 h1';obtain⟨y,ey,ry⟩:=D4 r2 h2';exact ih j x y ex ey (by show A.units+1+n<cLine;omega) rx ry
 |@lst n a b xs ys e ha hb he ih =>
  intro A u v hu ru rv;cases ru;cases rv;by_cases hab:a=b
  .have:=(EqV.lst e ha hb he).same I (by rw[hab]);rw[this,hab];exact SeqAt.EqAt.same _
  .obtain⟨us,r1,p1,_⟩:=I.list ha;obtain⟨ws,r2,p2,_⟩:=I.list hb;rw[r1.length,r2.length];refine SeqAt.EqAt.of_refs hab ?_;by_cases hl:us.length=ws.length
   .have:=SeqAt.RcAt.lists (A:=A) (s:=s) (e:=e) p1.isList p2.isList (by simpa using hl) (by omega) (λj h1 h2=>?_)
    .simpa[hl]using this
    .have h1':us[j]?=some us.toArray[j]:=by simp at h1⊢
     have h2':ws[j]?=some ws.toArray[j]:=by simp at h2⊢
     obtain⟨x,ex,rx⟩:=D4 r1 h1';obtain⟨y,ey,ry⟩:=D4 r2 h2';exact ih j x y ex ey (by show A.units+1+n<cLine;omega) rx ry
   .have:=SeqAt.RcAt.lists_lengths (A:=A) (s:=s) p1.isList p2.isList (by simpa using hl) (by omega);have e0:(us.length==ws.length)=false:=by simpa using hl
    rw[e0,Bool.and_false];exact this
end
def a8l(K:PySem.W.Frag)(neg:Bool):R2:=λx y H Q=>∃n b,n<=50/\EqV K H n x y b/\(∃a c,x=.ref a/\y=.ref c)/\Q (.bl (if neg then !b else b)) H
section
variable {X:Cx}
theorem b6I(hu:X.A.units+60<cLine):OpR X (compareOp .Eq) (a8l X.K false):=by
 intro pins s σ H x y v u Q I rx ry h;obtain⟨n,b,hn,he,⟨a,c,rfl,rfl⟩,q⟩:=h;cases rx;cases ry;show wpAny _ _ (richCompare .Eq (.ref a) (.ref c)) _ _ s;have key:SeqAt.RcAt X.A s (.ref a) (.ref c) b:=by
  cases he with
  |flat fx fy=>cases fx
  |@tup n _ _ xs ys e ha hb he =>
   obtain⟨us,r1,p1,_⟩:=I.tuple ha;obtain⟨ws,r2,p2,_⟩:=I.tuple hb;rw[r1.length,r2.length];have:=SeqAt.RcAt.tuples (A:=X.A) (s:=s) (e:=e) (show s.heap.IsTuple a us.toArray from p1) (show s.heap.IsTuple c ws.toArray from p2) (by omega) (λj h1 h2=>?_)
   .simpa using this
   .have h1':us[j]?=some us.toArray[j]:=by simp at h1⊢
    have h2':ws[j]?=some ws.toArray[j]:=by simp at h2⊢
    obtain⟨x,ex,rx⟩:=D4 r1 h1';obtain⟨y,ey,ry⟩:=D4 r2 h2';exact(he j x y ex ey).at I (by show X.A.units+1+n<cLine;omega) rx ry
  |@lst n _ _ xs ys e ha hb he =>
   obtain⟨us,r1,p1,_⟩:=I.list ha;obtain⟨ws,r2,p2,_⟩:=I.list hb;rw[r1.length,r2.length];by_cases hl:us.length=ws.length
   .have:=SeqAt.RcAt.lists (A:=X.A) (s:=s) (e:=e) p1.isList p2.isList (by simpa using hl) (by omega) (λj h1 h2=>?_)
    .simpa[hl]using this
    .have h1':us[j]?=some us.toArray[j]:=by simp at h1⊢
     have h2':ws[j]?=some ws.toArray[j]:=by simp at h2⊢
     obtain⟨x,ex,rx⟩:=D4 r1 h1';obtain⟨y,ey,ry⟩:=D4 r2 h2';exact(he j x y ex ey).at I (by show X.A.units+1+n<cLine;omega) rx ry
   .have:=SeqAt.RcAt.lists_lengths (A:=X.A) (s:=s) p1.isList p2.isList (by simpa using hl) (by omega);have e0:(us.length==ws.length)=false:=by simpa using hl
    rw[e0,Bool.and_false];exact this
 exact key _ _ _ _ ⟨.bl _,H,I,rfl,q⟩
theorem b5c(hu:X.A.units+60<cLine):OpR X (compareOp .NotEq) (a8l X.K true):=by
 intro pins s σ H x y v u Q I rx ry h;obtain⟨n,b,hn,he,⟨a,c,rfl,rfl⟩,q⟩:=h;cases rx;cases ry;show wpAny _ _ (richCompare .NotEq (.ref a) (.ref c)) _ _ s;have key:SeqAt.RcNeAt X.A s (.ref a) (.ref c) (!b):=by
  cases he with
  |flat fx fy=>cases fx
  |@tup n _ _ xs ys e ha hb he =>
   obtain⟨us,r1,p1,_⟩:=I.tuple ha;obtain⟨ws,r2,p2,_⟩:=I.tuple hb;rw[r1.length,r2.length];have:=SeqAt.RcNeAt.tuples (A:=X.A) (s:=s) (e:=e) (show s.heap.IsTuple a us.toArray from p1) (show s.heap.IsTuple c ws.toArray from p2) (by omega) (λj h1 h2=>?_)
   .simpa using this
   .have h1':us[j]?=some us.toArray[j]:=by simp at h1⊢
    have h2':ws[j]?=some ws.toArray[j]:=by simp at h2⊢
    obtain⟨x,ex,rx⟩:=D4 r1 h1';obtain⟨y,ey,ry⟩:=D4 r2 h2';exact(he j x y ex ey).at I (by show X.A.units+1+n<cLine;omega) rx ry
  |@lst n _ _ xs ys e ha hb he =>
   obtain⟨us,r1,p1,_⟩:=I.list ha;obtain⟨ws,r2,p2,_⟩:=I.list hb;rw[r1.length,r2.length];by_cases hl:us.length=ws.length
   .have:=SeqAt.RcNeAt.lists (A:=X.A) (s:=s) (e:=e) p1.isList p2.isList (by simpa using hl) (by omega) (λj h1 h2=>?_)
    .simpa[hl]using this
    .have h1':us[j]?=some us.toArray[j]:=by simp at h1⊢
     have h2':ws[j]?=some ws.toArray[j]:=by simp at h2⊢
     obtain⟨x,ex,rx⟩:=D4 r1 h1';obtain⟨y,ey,ry⟩:=D4 r2 h2';exact(he j x y ex ey).at I (by show X.A.units+1+n<cLine;omega) rx ry
   .have:=SeqAt.RcNeAt.lists_lengths (A:=X.A) (s:=s) p1.isList p2.isList (by simpa using hl) (by omega);have e0:(us.length==ws.length)=false:=by simpa using hl
    rw[e0,Bool.and_false];exact this
 exact key _ _ _ _ ⟨.bl _,H,I,rfl,q⟩
theorem b3K{ns ms:List Int}:((List.range (min ns.length ms.length)).all (λj=>decide (ns.getD j 0=ms.getD j 0)) && ns.length==ms.length)=decide (ns=ms):=by
 rw[Bool.eq_iff_iff];simp only[Bool.and_eq_true,List.all_eq_true,List.mem_range,decide_eq_true_eq,beq_iff_eq];constructor
 .rintro⟨h1,h2⟩;refine List.ext_getElem h2 λi a b=>?_;have:=h1 i (by omega);simpa[List.getD_eq_getElem?_getD,a,b]using this
 .rintro rfl;exact⟨λ_ _=>rfl,rfl⟩
theorem b1p{ns:List Int}{j:Nat}{x:V}(h:(ns.map V.int)[j]?=some x):x=.int (ns.getD j 0)/\j<ns.length:=by
 rw[List.getElem?_map]at h;cases e:ns[j]? with
 |none=>rw[e]at h;cases h
 |some z =>
  rw[e]at h;obtain⟨hj,_⟩:=List.getElem?_eq_some_iff.mp e;exact⟨by rw[List.getD_eq_getElem?_getD,e];exact(Option.some.inj h).symm,hj⟩
theorem EqV.ints{K:PySem.W.Frag}{H:Hp}{k:Bool}{a b:Addr}{ns ms:List Int}(ha:SqK k K H a (ns.map V.int))(hb:SqK k K H b (ms.map V.int)):EqV K H 1 (.ref a) (.ref b) (decide (ns=ms)):=by
 have step:∀j x y,(ns.map V.int)[j]?=some x->(ms.map V.int)[j]?=some y->EqV K H 0 x y (decide (ns.getD j 0=ms.getD j 0)):=λj x y hx hy=>by
  obtain⟨rfl,_⟩:=b1p hx;obtain⟨rfl,_⟩:=b1p hy;have:=EqV.flat (K:=K) (H:=H) (n:=0) (x:=.int (ns.getD j 0)) (y:=.int (ms.getD j 0)) rfl rfl;rw[show eqV (.int (ns.getD j 0)) (.int (ms.getD j 0))=decide (ns.getD j 0=ms.getD j 0)from rfl]at this;exact this
 rw[<-b3K];cases k
 .have:=EqV.lst (λj=>decide (ns.getD j 0=ms.getD j 0)) ha hb step;simpa using this
 .have:=EqV.tup (λj=>decide (ns.getD j 0=ms.getD j 0)) ha hb step;simpa using this
def a0K:R2:=λx y H Q=>∃a b xs ys,x=.ref a/\y=.ref b/\H a=some (.tup xs)/\H b=some (.tup ys)/\xs.length+ys.length<=sizeLine/\∀p H',Same H H'->H' p=some (.tup (xs++ys))->Q (.ref p) H'
theorem b0v:OpR X (binaryOp .Add) a0K:=by
 intro pins s σ H x y v u Q I rx ry h;obtain⟨a,b,xs,ys,rfl,rfl,ha,hb,hz,q⟩:=h;by_cases hx:xs=[]
 .subst hx;cases rx;cases ry;obtain⟨its,r1,p1,_⟩:=I.tuple (.inl (.inl ha));obtain⟨its2,r2,p2,_⟩:=I.tuple (.inl (.inl hb));cases r1;obtain⟨⟨cls,dd,data,sl⟩,ho,hc,n,hd⟩:=id p1;obtain⟨⟨cls2,dd2,data2,sl2⟩,ho2,hc2,n2,hd2⟩:=id p2;simp only at hc hd hc2 hd2;subst hc hd hc2 hd2;exact concat_meets ⟨_,ho,rfl⟩ ⟨_,ho2,rfl⟩ noFill_tuple_add seq_tuple_add PySem.F.slot_tuple_add PySem.F.entry_tuple_add (PySem.F.args_tuple_add_2 _ _)
   (tuple_addW0 a b _ _ n n2 dd dd2 sl sl2 (by simp)) ⟨ho,ho2,⟨.ref b,H,I,rfl,q b H (Same.refl H) hb⟩⟩
 .refine b2Y pins s σ H _ _ v u Q I rx ry ⟨a,b,xs,ys,rfl,rfl,.inl (.inl ha),.inl (.inl hb),hx,hz,λe=>?_,λ_ p hp=>?_⟩
  .subst e;exact q a H (Same.refl H) (by rw[List.append_nil];exact ha)
  .exact q p _ (λc o e=>by rw[A1 (A7 e hp)];exact e) A0
end
open PySem.AutoSeq1 (wpAny_loadPart')
theorem a0O:fillsNumberSlot (.type "tuple") "mul"=pure false :=
 PySem.fillsNumberSlot_seq (id:="tuple.__mul__") (r:=some (.builtin "tuple.__rmul__")) F.slot_tuple_mul.lookup (by decide +kernel) F.slot_tuple_rmul.lookup (by decide +kernel)
theorem a3W:seqRepeat? (.type "tuple")=pure (some (.builtin "tuple.__mul__")):=by
 unfold seqRepeat?;rw[PySem.seqSlot_of (T:="tuple") (name:="__mul__") (id:="tuple.__mul__") F.slot_tuple_mul.lookup (by decide +kernel),PySem.seqSlot_of (T:="tuple") (name:="__rmul__") (id:="tuple.__rmul__") F.slot_tuple_rmul.lookup (by decide +kernel)];rfl
theorem a5U(a:Int)(t:Tok)(l:Addr)(items:Array Value)(n:Nat)(dd:Option Addr)(sl:Array (Option Value)) :
  Meets (Builtin.«int.__rmul__» ⟨[.int a t,.ref l],[]⟩) (λ_ R s=>s.heap.get? l=some {cls:=.type "tuple",dict:=dd,data:=.seq items n,slots:=sl}/\R (.ok (.ret Value.notImplemented)) s) :=
 .of_wp λprog w A R s h=>by obtain⟨hp,g,d,tk,os⟩:=s;obtain⟨hl,h⟩:=h;wp_walk;exact⟨_,rfl,h⟩
theorem a5I(l:Addr)(items:Array Value)(n:Nat)(dd:Option Addr)(sl:Array (Option Value))(u:Tok) :
  Meets (Builtin.«tuple.__mul__» ⟨[.ref l,.int 1 u],[]⟩) (λ_ R s=>s.heap.get? l=some {cls:=.type "tuple",dict:=dd,data:=.seq items n,slots:=sl}/\R (.ok (.ret (.ref l))) s) :=
 .of_wp λprog w A R s h=>by
  obtain⟨hp,g,d,tk,os⟩:=s;obtain⟨hl,h⟩:=h;have f1:=AutoSeq1.idx_int
  wp_walk using wpAny_loadPart' hl
  exact⟨_,rfl,h⟩
theorem a5H(l:Addr)(items:Array Value)(n:Nat)(dd:Option Addr)(sl:Array (Option Value))(x:Int)(u:Tok)(he:items.isEmpty=false)(h1:1<x)(h2:¬(decide (x < -(2 ^ 63)) || decide (x ≥ 2 ^ 63))=true)
  (h3:¬((items.size:Int)*x > (2 ^ 63-1) / 8)) (h4:¬Builtin.Tuple.tupleTooMany ((items.size:Int)*x)=true) (hsz:(List.foldl (λx1 x2=>x1++x2) #[] (List.replicate x.toNat items)).size<=sizeLine) :
  Meets (Builtin.«tuple.__mul__» ⟨[.ref l,.int x u],[]⟩) (λ_ R s=>s.heap.get? l=some {cls:=.type "tuple",dict:=dd,data:=.seq items n,slots:=sl} /\
   R (.ok (.ret (.ref s.heap.objs.size))) {s with heap:=s.heap.push {cls:=.type "tuple",data:=.seq (List.foldl (λx1 x2=>x1++x2) #[] (List.replicate x.toNat items))}}) :=
 .of_wp λprog w A R s h=>by
  obtain⟨hp,g,d,tk,os⟩:=s;obtain⟨hl,h⟩:=h;have f1:=AutoSeq1.idx_int;have e1:(x==1)=false:=by simp;omega
  have e2:decide (x<=0)=false:=by simp;omega
  have e3:¬((items.isEmpty || x==1)=true):=by rw[he,e1];decide
  have e4:¬((decide (x<=0) || items.isEmpty)=true):=by rw[he,e2];decide
  wp_walk using wpAny_loadPart' hl
  rw[if_neg h2]
  wp_walk using wpAny_loadPart' hl
  rw[if_neg h3]
  wp_walk using wpAny_loadPart' hl
  first
   |exact⟨_,rfl,h⟩
   |(rw[if_neg h4];wp_walk using wpAny_loadPart' hl;exact⟨_,rfl,h⟩)
theorem a2C{α:Type}(its:List α):∀(k:Nat) (acc:List α),List.foldl (λx1 x2=>x1++x2) acc.toArray (List.replicate k its.toArray)=(acc++(List.replicate k its).flatten).toArray
 |0,acc=>by simp
 |k+1,acc=>by
  have e:acc.toArray++its.toArray=(acc++its).toArray:=by simp
  rw[List.replicate_succ,List.foldl_cons,e,a2C its k,List.replicate_succ,List.flatten_cons,List.append_assoc]
section
variable {X:Cx}
def b4a:R2:=λx y H Q=>∃a xs n,x=.ref a/\y=.int n/\H a=some (.tup xs)/\xs≠[]/\1<=n/\(xs.length:Int)*n<=(sizeLine:Int)/\∀p H',Same H H'->H' p=some (.tup (List.replicate n.toNat xs).flatten)->Q (.ref p) H'
theorem b2V:OpR X (binaryOp .Mult) b4a:=by
 intro pins s σ H x y v u Q I rx ry h;obtain⟨a,xs,n,rfl,rfl,ha,hne,hn,hz,q⟩:=h;cases rx;obtain⟨t,rfl⟩:=ry;obtain⟨its,r,p1,hzl⟩:=I.tuple (.inl (.inl ha));obtain⟨⟨cls,dd,data,sl⟩,ho,hc,m,hd⟩:=id p1;simp only at hc hd;subst hc hd;have hlen:=r.length;have hpos:0<its.length:=by rw[<-hlen];exact List.length_pos_iff.mpr hne
 refine wpAny_binaryOp_repeat_ref (T:="tuple") (U:="int") (by decide) ⟨_,ho,rfl⟩ (λs'=>typeIs_int s' n t) a0O F.fills_int_mul F.slot_int_rmul a3W F.slot_int_index.lookup
  (call_meets F.slot_int_rmul (typeIs_int s n t) F.entry_int_rmul (F.args_int_rmul_2 _ _) (a5U n t a its.toArray m dd sl) ⟨ho,rfl,⟨_,ho,rfl⟩,?_⟩)
 by_cases h1:n=1
 .subst h1;refine call_meets F.slot_tuple_mul ⟨_,ho,rfl⟩ F.entry_tuple_mul (F.args_tuple_mul_2 _ _) (a5I a its.toArray m dd sl t) ⟨ho,.ref a,H,I,rfl,q a H (Same.refl H) ?_⟩;rw[ha];simp
 .have e0:=a2C its n.toNat [];rw[List.nil_append]at e0;have hl:((List.replicate n.toNat its).flatten).length=n.toNat*its.length:=a7l its n.toNat;have hb:n.toNat*its.length<=sizeLine:=by
   have e1:((n.toNat*its.length:Nat):Int)=(xs.length:Int)*n:=by
    rw[hlen];push_cast;rw[Int.toNat_of_nonneg (by omega),Int.mul_comm]
   omega
  have hs:sizeLine=16777216:=sizeLine_eq;have hsz:(its.toArray.size:Int)*n<=16777216:=by rw[List.size_toArray,<-hlen];omega
  have hnn:n<=(its.toArray.size:Int)*n:=by
   have h0:(1:Int)<=(its.toArray.size:Int):=by rw[List.size_toArray];omega
   have:=Int.mul_le_mul_of_nonneg_right h0 (show(0:Int)<=n by omega);omega
  refine call_meets F.slot_tuple_mul ⟨_,ho,rfl⟩ F.entry_tuple_mul (F.args_tuple_mul_2 _ _) (a5H a its.toArray m dd sl n t (by simp;intro z;rw[z]at hpos;exact Nat.lt_irrefl _ hpos) (by omega) ?_ ?_ ?_ ?_) ⟨ho,?_⟩
  .simp only[Bool.or_eq_true,decide_eq_true_eq,not_or];omega
  .omega
  .simp only[Builtin.Tuple.tupleTooMany,decide_eq_true_eq];omega
  .have e0':List.foldl (λx1 x2=>x1++x2) #[] (List.replicate n.toNat its.toArray)=(List.replicate n.toNat its).flatten.toArray:=e0;rw[e0',List.size_toArray,hl];exact hb
  .have e0':List.foldl (λx1 x2=>x1++x2) #[] (List.replicate n.toNat its.toArray)=(List.replicate n.toNat its).flatten.toArray:=e0;rw[e0'];have hf:H s.heap.objs.size=none:=I.hok.fresh (Nat.le_refl _);refine⟨.ref s.heap.objs.size,_,I.laid (t':=s.toks) (o:=.tup (List.replicate n.toNat xs).flatten) (λb ob q=>Heap.get?_push_of_some _ q) (Nat.le_refl _) ?_,rfl,q _ _ (λc o e=>by rw[A1 (A7 e hf)];exact e) A0⟩;exact⟨by rw[a7l,hlen];exact hb,_,r.rep n.toNat,IsTp.new _ _⟩
end
end L2
namespace L2
open PySem PySem.Spec PyProof.Rows
section
variable {X:Cx}{pos:Pos}
theorem b2N(K:PySem.W.Frag){es:List Expr}{k:Nat}{t:TGs}{n:Nat}(hc:X.calm=true)(h:PGs X es t)(hK:X.K=K:=by rfl)
  (hn:(assignEach es X.env).length=n:=by rfl) (hst:(assignEach es X.env).findIdx? (·.1)=none:=by rfl):PG X (.Tuple es k pos) (a6m K n t):=by
 subst hK;exact b4I hc h hn hst
theorem b0o(K:PySem.W.Frag){tg l:Expr}{tl:TE}(hl:PE X l tl)(hK:X.K=K:=by rfl):PI X tg l (b1q K tl):=by subst hK;exact b2L hl
theorem b2K(K:PySem.W.Frag){tg l:Expr}{tl:TE}(hl:PE X l tl)(hK:X.K=K:=by rfl):PI X tg l (b3x K tl):=by subst hK;exact b4H hl
theorem b2J(K:PySem.W.Frag){es:List Expr}{kt:Nat}{tp:Pos}{a b:Expr}{ta:TA}{p pos:Pos}(hg:Gl X "zip")(hm:X.mg "zip"=none)(ha:PA X [a,b] ta)(hK:X.K=K:=by rfl)
  (hs:starEach [a,b] X.env=[(false,eval a X.env),(false,eval b X.env)]:=by rfl) (hs2:starEach [b] X.env=[(false,eval b X.env)]:=by rfl) :
  PI X (.Tuple es kt tp) (.Call (.Name "zip" p) [a,b] [] pos) (b5t K ta):=by subst hK;exact b4G hg hm ha b5z hs hs2
def b5O(K:PySem.W.Frag)(ta:TE):TT:=λσ H Q=>ta σ H λx H'=>∃k,b5H K x H' k/\Q k H'
theorem a8n(K:PySem.W.Frag){a:Expr}{ta:TE}(ha:PE X a ta)(he:∀whole,isTrue a X.env whole=(do let v <-whole;standAt a.pos;holding [v] (truthy v)))(hK:X.K=K:=by rfl):PT X a (b5O K ta):=by
 subst hK;exact b0e ha he
theorem b1l(K:PySem.W.Frag)(hK:X.K=K:=by rfl):IxR X (b2y K):=by subst hK;exact b3u
theorem b3t(K:PySem.W.Frag)(hK:X.K=K:=by rfl):IxR X (a8k K):=by subst hK;exact b1j
theorem a9F(K:PySem.W.Frag)(hK:X.K=K:=by rfl):SlR X (b4v K):=by subst hK;exact b2m
theorem b2l(K:PySem.W.Frag)(hK:X.K=K:=by rfl):SlR X (a3X K):=by subst hK;exact b4s
theorem b5b(K:PySem.W.Frag)(hu:X.A.units+60<cLine)(hK:X.K=K:=by rfl):OpR X (compareOp .NotEq) (a8l K true):=by subst hK;exact b5c hu
theorem a9f(K:PySem.W.Frag)(hc:X.calm=true)(hK:X.K=K:=by rfl):E1 X (.builtin "all") (b4x K):=by subst hK;exact b1N hc
theorem a8X(K:PySem.W.Frag)(hc:X.calm=true)(hK:X.K=K:=by rfl):E1 X (.builtin "sum") (b4u K):=by subst hK;exact b1L hc
theorem a9c(K:PySem.W.Frag)(hK:X.K=K:=by rfl):E1 X (.builtin "isinstance") (b4w K):=by subst hK;exact b1M
def b6b(K:PySem.W.Frag):RL:=λxs H Q=>∃p ys,xs=[.ref p]/\(SqL K H p ys∨SqT K H p ys)/\Q (.int ys.length) H
def b4b(K:PySem.W.Frag):RL:=λxs H Q=>∃p ys,xs=[.ref p]/\(SqL K H p ys∨SqT K H p ys)/\∀l,H l=none->Q (.ref l) (upd H l (.lst ys))
def a5W(K:PySem.W.Frag):RL:=λxs H Q=>∃p ys,xs=[.ref p]/\((SqL K H p ys/\∀l,H l=none->Q (.ref l) (upd H l (.tup ys)))∨(SqT K H p ys/\Q (.ref p) H))
theorem a9b(K:PySem.W.Frag)(hK:X.K=K:=by rfl):E1 X (.builtin "len") (b6b K):=by subst hK;exact a4u
theorem a6x(K:PySem.W.Frag)(hK:X.K=K:=by rfl):E1 X (.type "list") (b4b K):=by subst hK;exact a4t
theorem a5y(K:PySem.W.Frag)(hK:X.K=K:=by rfl):E1 X (.type "tuple") (a5W K):=by subst hK;exact a2S
def b6V:RL:=λxs H Q=>∃i j,xs=[.int i,.int j]/\Q (.int (if j<i then j else i)) H
def b6W:RL:=λxs H Q=>∃i j,xs=[.int i,.int j]/\Q (.int (if j > i then j else i)) H
def b6c:RL:=λxs H Q=>(∃i,xs=[.int i]/\Q (.int i) H)∨∃k,xs=[.bl k]/\Q (.int (if k then 1 else 0)) H
theorem a9d:E1 X (.type "int") b6c:=a9e
variable {o e:Expr}{es:List Expr}{to:TE}{t:TA}{name:Str}{apos cpos:Pos}{T id:String}{r:V->List V->Hp->VK->Prop}
theorem a5Z(K:PySem.W.Frag)(pa:PlainAttrs T)(slot:Slot T name id)(hty:typeOf (.builtin id)=pure (.type "method_descriptor"))(hm:MtR X id r)(ho:PE X o to)(ha:PA X (e::es) t)(hK:X.K=K:=by rfl)
  (hbase:attributeBase o name X.env (eval o X.env)=eval o X.env:=by rfl)
  (hfew:((backTo cpos (starEach (e::es) X.env)).all (λx=>!x.1) && (backToKw cpos (keywordEach [] X.env)).all (λx=>x.1.isSome)
   && decide ((e::es).length+([]:List Keyword).length+(if ([]:List Keyword).isEmpty then 0 else 1)<30))=true:=by rfl)
  (hline:(apos.endLine==cpos.line)=true:=by rfl) (hs:starEach (e::es) X.env=(false,eval e X.env)::starEach es X.env:=by rfl) (hplain:(backTo cpos (starEach es X.env)).any (·.1)=false:=by rfl) :
  PE X (.Call (.Attribute o name apos) (e::es) [] cpos) (tBM K T r to t):=by subst hK;exact b6j pa slot hty hm ho ha hbase hfew hline hs hplain
end
def IT(H:Hp)(v:V)(ns:List Int):Prop:=∃a,v=.ref a/\H a=some (.tup (ns.map V.int))
theorem IT.same{H H':Hp}{v:V}{ns:List Int}(h:IT H v ns)(s:Same H H')   : IT H' v ns:=let ⟨a,e,q⟩:=h;⟨a,e,s a _ q⟩
theorem Same.upd{H H':Hp}{p:Addr}{o:HO}(s:Same H H')(hp:H' p=none):Same H (upd H' p o):=λb u e=>by
 rw[A1 (A7 (s b u e) hp)];exact s b u e
theorem T8{H:Hp}{p b:Addr}{o u:HO}(hb:H b=some u)(hp:H p=none):upd H p o b=some u:=by rw[A1 (A7 hb hp)];exact hb
def Off(l:List Addr)(H H':Hp):Prop:=∀b o,b∉l->H b=some o->H' b=some o
theorem Off.refl(l:List Addr)(H:Hp):Off l H H:=λ_ _ _ e=>e
theorem Off.trans{l:List Addr}{H H1 H2:Hp}(a:Off l H H1)(b:Off l H1 H2):Off l H H2:=λc o hc e=>b c o hc (a c o hc e)
theorem Same.off{l:List Addr}{H H':Hp}(s:Same H H'):Off l H H':=λb o _ e=>s b o e
theorem Off.upd{l:List Addr}{H H':Hp}{p:Addr}{o:HO}(s:Off l H H')(hp:H' p=none):Off l H (upd H' p o):=λb u hb e=>by
 rw[A1 (A7 (s b u hb e) hp)];exact s b u hb e
theorem Off.set{l:List Addr}{H H':Hp}{p:Addr}{o:HO}(s:Off l H H')(hp:p∈l):Off l H (L2.upd H' p o):=λb u hb e=>by
 rw[A1 (by rintro rfl;exact hb hp)];exact s b u hb e
theorem J5(ns:List Int):(ns.map V.int).length=ns.length:=List.length_map _
theorem R5{ns:List Int}{i:Nat}{x:V}(h:(ns.map V.int)[i]?=some x):∃z,ns[i]?=some z/\x=.int z:=by
 rw[List.getElem?_map]at h;cases e:ns[i]? with
 |none=>rw[e]at h;cases h
 |some z=>rw[e]at h;exact⟨z,rfl,(Option.some.inj h).symm⟩
theorem K1{α β γ:Type}(f:α->β->γ){xs:List α}{ys:List β}{i:Nat}{x:α}{y:β}(hx:xs[i]?=some x)(hy:ys[i]?=some y):(List.zipWith f xs ys).take (i+1)=(List.zipWith f xs ys).take i++[f x y]:=by
 have:(List.zipWith f xs ys)[i]?=some (f x y):=by rw[List.getElem?_zipWith,hx,hy]
 rw[List.take_add_one,this];rfl
theorem a9k{K:PySem.W.Frag}{src:List (Option Nat)}{σ caps:St}{Q:VK}{k1 k2:Bool}{a b:Addr}{xs ys:List Int}{H:Hp}{te:TE}(f:Int->Int->V)(ha:SqK k1 K H a (xs.map V.int))(hb:SqK k2 K H b (ys.map V.int))(hl:xs.length<=1000)
  (hmono:∀H',Same H H'->SqK k1 K H' a (xs.map V.int)/\SqK k2 K H' b (ys.map V.int))
  (hsrc:B2 src σ=none::none::caps) (hte:∀x y H1 Q1,Same H H1->Q1 (f x y) H1->te (some (.int x)::some (.int y)::caps) H1 Q1)
  (hd:∀H1 p,Same H H1->H1 p=none->Q (.ref p) (upd H1 p (.lst (List.zipWith f xs ys)))) :
  E4 src (a6m K 2 (Z5 (A9 0) (Z5 (A9 1) a8O))) M4 te σ Q (Itz K k1 k2 a b) H:=by
 have hz:(1000:Nat)<=sizeLine:=by rw[sizeLine_eq];decide
 refine W2 (xs:=xs.map V.int) (zs:=ys.map V.int) (by rw[J5];omega) (λi zs H'=>Same H H'/\zs=(List.zipWith f xs ys).take i) ⟨Same.refl H,by simp⟩ (λi zs H' _ _ h=>⟨(hmono H' h.1).1,(hmono H' h.1).2,by rw[h.2];exact List.length_take_le _ _⟩) ?_ ?_
 .rintro i x z zs H' p hx hy ⟨s,rfl⟩ hp;obtain⟨x',hx',e1⟩:=R5 hx;obtain⟨z',hy',e2⟩:=R5 hy;subst e1 e2;clear hx hy;have s':Same H (upd H' p (.tup [.int x',.int z'])):=s.upd hp;refine⟨p,[.int x',.int z'],rfl,SqT.of A0,rfl,.int x',[.int z'],rfl,.int z',[],rfl,rfl,?_⟩;rw[hsrc];show Sub _ (some (.int x')::some (.int z')::caps)/\_;refine⟨⟨rfl,λj v e=>?_⟩,?_⟩
  .match j,e with
   |0,e=>cases e
   |1,e=>cases e
   |j+2,e=>exact e
  .exact hte x' z' _ _ s' ⟨s',(K1 f hx' hy').symm⟩
 .rintro zs H' ⟨s,rfl⟩ p hp;have e:(List.zipWith f xs ys).take (min (xs.map V.int).length (ys.map V.int).length)=List.zipWith f xs ys:=by
   rw[J5,J5,List.take_of_length_le];rw[List.length_zipWith];exact Nat.le_refl _
  rw[e];exact hd H' p s hp
theorem Sub.one{caps:St}{v:V}:Sub (none::caps) (some v::caps):=⟨rfl,λj u e=>by
 match j,e with
 |0,e=>cases e
 |j+1,e=>exact e⟩
theorem a0p{src:List (Option Nat)}{σ caps:St}{Q:VK}{n:Nat}{H:Hp}{tt:TT}{te:TE}(hn:n<=1000)(hsrc:B2 src σ=none::caps)(Pv:Nat->List V->Hp->Prop)(h0:Pv 0 [] H)(hl:∀i ys H,Pv i ys H->ys.length<=i)
  (hs:∀i ys H,i<n->Pv i ys H->tt (some (.int i)::caps) H λb H3=>if b=true then te (some (.int i)::caps) H3 λv H4=>Pv (i+1) (ys++[v]) H4 else Pv (i+1) ys H3)
  (hd:∀ys H,Pv n ys H->∀p,H p=none->Q (.ref p) (upd H p (.lst ys))):E4 src (A9 0) tt te σ Q (Itr 0 n) H:=by
 have hz:(1000:Nat)<=sizeLine:=by rw[sizeLine_eq];decide
 refine a6q (by omega) Pv h0 hl (λi ys H hi p=>?_) hd;show Sub _ ((B2 src σ).set 0 (some (.int (0+(i:Int)))))/\_;rw[hsrc,Int.zero_add];exact⟨Sub.one,hs i ys H hi p⟩
theorem a0i{K:PySem.W.Frag}{src:List (Option Nat)}{σ caps:St}{Q:VK}{a:Addr}{xs:List Int}{H:Hp}{te:TE}(f:Int->V)(hl:xs.length<=1000)(hmono:∀H',Same H H'->SqT K H' a (xs.map V.int))(hsrc:B2 src σ=none::caps)
  (hte:∀x H1 Q1,x∈xs->Same H H1->Q1 (f x) H1->te (some (.int x)::caps) H1 Q1) (hd:∀H1 p,Same H H1->H1 p=none->Q (.ref p) (upd H1 p (.lst (xs.map f)))):E4 src (A9 0) M4 te σ Q (Itt K a) H:=by
 have hz:(1000:Nat)<=sizeLine:=by rw[sizeLine_eq];decide
 refine W3 (xs:=xs.map V.int) (by rw[J5];omega) (λi ys H'=>Same H H'/\ys=(xs.take i).map f) ⟨Same.refl H,by simp⟩ (λi ys H' _ h=>⟨hmono H' h.1,by rw[h.2,List.length_map];exact List.length_take_le _ _⟩) ?_ ?_
 .rintro i x ys H' hx ⟨s,rfl⟩;obtain⟨z,hz',rfl⟩:=R5 hx;show Sub _ ((B2 src σ).set 0 (some (.int z)))/\_;rw[hsrc];refine⟨Sub.one,hte z H' _ (List.mem_of_getElem? hz') s ⟨s,?_⟩⟩;rw[List.take_add_one,hz'];simp
 .rintro ys H' ⟨s,rfl⟩ p hp;rw[J5,List.take_length];exact hd H' p s hp
theorem a2c{src:List (Option Nat)}{σ caps:St}{Q:VK}{n:Nat}{H:Hp}{te:TE}(f:Nat->V)(hn:n<=1000)(hsrc:B2 src σ=none::caps)(hte:∀(i:Nat) H1 Q1,i<n->Same H H1->Q1 (f i) H1->te (some (.int i)::caps) H1 Q1)
  (hd:∀H1 p,Same H H1->H1 p=none->Q (.ref p) (upd H1 p (.lst ((List.range n).map f)))):E4 src (A9 0) M4 te σ Q (Itr 0 n) H:=by
 refine a0p hn hsrc (λi ys H'=>Same H H'/\ys=(List.range i).map f) ⟨Same.refl H,rfl⟩ (λi ys H' h=>by rw[h.2];simp) ?_ ?_
 .rintro i ys H' hi ⟨s,rfl⟩;refine hte i H' _ hi s ⟨s,?_⟩;rw[List.range_succ,List.map_append];rfl
 .rintro ys H' ⟨s,rfl⟩ p hp;exact hd H' p s hp
theorem Room.u60{k:Nat}{A:Around}(r:Room k A):A.units+60<cLine:=by have:=r.un;omega
theorem K3{t u:TS}{D:Ends}{σ:St}{H:Hp}(Pe:St->Hp->Prop)(fin:∀σ H,Pe σ H->u D σ H)(h:(∀σ H,Pe σ H->u D σ H)->t {D with nx:=u D} σ H):b4p t u D σ H:=h fin
theorem b5M{K:PySem.W.Frag}{neg:Bool}{te:TE}{σ:St}{H:Hp}{Q:VK}{b:Addr}{cs:List Int}(hte:∀Q':VK,Q' (.ref b) H->te σ H Q')(hb:H b=some (.lst (cs.map V.int)))
  (q:∀p,H p=none->Q (.bl (if neg then !decide (cs=[])else decide (cs=[]))) (upd H p (.lst []))):tOp (a8l K neg) te (b2f a0H) σ H Q :=
 hte _ ⟨Nat.zero_le _,λp hp=>⟨1,_,by decide,EqV.ints (k:=false) (ms:=[]) (SqL.of (T8 hb hp)) (SqL.of A0),⟨_,_,rfl,rfl⟩,q p hp⟩⟩
theorem b5N{K:PySem.W.Frag}{neg:Bool}{te:TE}{σ:St}{H:Hp}{Q:Bool->Hp->Prop}{b:Addr}{cs:List Int}(hte:∀Q':VK,Q' (.ref b) H->te σ H Q')(hb:H b=some (.lst (cs.map V.int)))
  (q:∀p,H p=none->Q (if neg then !decide (cs=[])else decide (cs=[])) (upd H p (.lst []))):T9 (tOp (a8l K neg) te (b2f a0H)) σ H Q :=
 b5M hte hb λp hp=>⟨_,rfl,q p hp⟩
theorem ixL{K:PySem.W.Frag}{ta tb:TE}{σ:St}{H:Hp}{Q:VK}{p:Addr}{xs:List V}{i:Int}{v:V}(ha:∀Q':VK,Q' (.ref p) H->ta σ H Q')(hb:∀Q':VK,Q' (.int i) H->tb σ H Q')(hp:H p=some (.lst xs))(e:atI xs i=some v)(q:Q v H):tOp (b2y K) ta tb σ H Q :=
 ha _ (hb _ ⟨p,xs,i,v,rfl,rfl,SqL.of hp,e,q⟩)
theorem a6o(xs:List Int)(k:Nat)(hk:k<=xs.length):M2 (xs.map V.int) none (some (k:Int))=(xs.take k).map V.int:=by
 unfold M2;rw[HT.sIx_none,HT.sIx_nat,List.length_map,Nat.min_eq_left hk,List.drop_zero,Nat.sub_zero,List.map_take]
theorem a6p(xs:List Int)(k:Nat)(hk:k<=xs.length):M2 (xs.map V.int) (some (k:Int)) none=(xs.drop k).map V.int:=by
 unfold M2;rw[HT.sIx_none,HT.sIx_nat,List.length_map,Nat.min_eq_left hk,List.take_of_length_le (by simp),List.map_drop]
theorem a8b(xs:List Int)(k:Nat)(z:Int)(hk:k<xs.length):xs.take k++[z]++xs.drop (k+1)=xs.set k z:=by
 rw[List.set_eq_take_append_cons_drop,if_pos hk,List.append_assoc];rfl
theorem b4y{K:PySem.W.Frag}{σ:St}{H:Hp}{Q:VK}{i j:Nat}{tx:TE}{a:Addr}{xs:List Int}{k:Nat}{z:Int}(hi:σ[i]?=some (some (.ref a)))(hj:σ[j]?=some (some (.int k)))(ha:H a=some (.tup (xs.map V.int)))(hk:k<xs.length)(hl:xs.length<=1000)
  (htx:∀H' (N:VK),Same H H'->N (.int z) H'->tx σ H' N) (q:∀v H',Same H H'->IT H' v (xs.set k z)->Q v H') :
  tOp a0K (tOp a0K (tSl (a3X K) (G2 i) K2 (a1g (G2 j))) (b4o (a2Z tx a0H))) (tSl (a3X K) (G2 i) (a1g (tOp (rI0 λi j=>.int (i+j)) (G2 j) (tC (.int 1)))) K2) σ H Q:=by
 have hz:(3000:Nat)<=sizeLine:=by rw[sizeLine_eq];decide
 refine⟨_,hi,_,hj,k,rfl,a,_,rfl,SqT.of ha,?_,λp hp=>?_⟩
 .rw[HT.sIx_none,HT.sIx_nat,List.length_map];omega
 .rw[a6o xs k (by omega)];have s1:Same H (upd H p (.tup ((xs.take k).map V.int))):=(Same.refl H).upd hp;have e1:upd H p (.tup ((xs.take k).map V.int)) p=some (.tup ((xs.take k).map V.int)):=A0;generalize upd H p (.tup ((xs.take k).map V.int))=H1 at s1 e1;refine htx H1 _ s1 ⟨by show 1<=sizeLine;omega,λp2 hp2=>?_⟩;have s2:Same H1 (upd H1 p2 (.tup [.int z])):=(Same.refl H1).upd hp2;have e2:upd H1 p2 (.tup [.int z]) p2=some (.tup [.int z]):=A0;generalize upd H1 p2 (.tup [.int z])=H2 at s2 e2;refine⟨p,p2,_,_,rfl,rfl,s2 _ _ e1,e2,?_,λp3 H3 s3 e3=>?_⟩
  .rw[List.length_map,List.length_take];show min k xs.length+1<=_;omega
  .have s13:Same H H3:=(s1.trans s2).trans s3;refine⟨_,hi,_,hj,_,_,rfl,rfl,_,rfl,a,_,rfl,SqT.of (s13 _ _ ha),?_,λp4 hp4=>?_⟩
   .rw[show((k:Int)+1)=((k+1:Nat):Int) by push_cast;rfl,HT.sIx_nat,List.length_map];omega
   .rw[show((k:Int)+1)=((k+1:Nat):Int) by push_cast;rfl,a6p xs (k+1) (by omega)];have s4:Same H3 (upd H3 p4 (.tup ((xs.drop (k+1)).map V.int))):=(Same.refl H3).upd hp4;refine⟨p3,p4,_,_,rfl,rfl,s4 _ _ e3,A0,?_,λp5 H5 s5 e5=>?_⟩
    .rw[List.length_append,List.length_map,List.length_take,List.length_map,List.length_drop];show min k xs.length+1+_<=_;omega
    .refine q _ _ ((s13.trans s4).trans s5) ⟨p5,rfl,?_⟩;rw[e5,<-a8b xs k z hk];simp
theorem var{i:Nat}{σ:St}{H:Hp}{v:V}(e:σ[i]?=some (some v)):∀Q:VK,Q v H->G2 i σ H Q:=λQ q=>⟨v,e,q⟩
theorem con{v:V}{σ:St}{H:Hp}:∀Q:VK,Q v H->tC v σ H Q:=λQ q=>q
structure JE(X:Cx)(e:Expr)(t:TE):Prop where
 h:PE X e t
structure JT(X:Cx)(e:Expr)(t:TT):Prop where
 h:PT X e t
structure JW(X:Cx)(e:Expr)(t:TT):Prop where
 h:PW X e t
structure JA(X:Cx)(es:List Expr)(t:TA):Prop where
 h:PA X es t
structure JS(X:Cx)(st:Stmt)(t:TS):Prop where
 h:PS X st t
structure JB(X:Cx)(st:List Stmt)(t:TS):Prop where
 h:PSs X st t
structure JG(X:Cx)(tg:Expr)(t:TG):Prop where
 h:PG X tg t
structure JGs(X:Cx)(ts:List Expr)(t:TGs):Prop where
 h:PGs X ts t
structure JI(X:Cx)(tg iter:Expr)(t:TI):Prop where
 h:PI X tg iter t
structure JF(X:Cx)(ifs:List Expr)(t:TT):Prop where
 h:PIf X ifs t
structure JO(X:Cx)(e:Option Expr)(t:TO):Prop where
 h:PO X e t
section
variable {X:Cx}{a b c e o:Expr}{es rest:List Expr}{ta tb tc te to:TE}{tA tB:TT}{t:TA}{pos p apos cpos p2:Pos}
theorem jv(i:Nat){x:Str}(hN:X.N[i]?=some x:=by rfl)(hv:Vis X.env.scope x:=by first|exact Or.inl rfl|exact Or.inr (Or.inl rfl)|exact Or.inr (Or.inr rfl))(hd:(x==("__debug__" : Str))=false:=by decide)
  (hcd:(x==("__classdict__" : Str))=false:=by decide):JE X (.Name x pos) (G2 i):=⟨b4K hN hv hd hcd⟩
theorem A4{i j}:JE X (.Constant (.int i) j pos) (tC (.int i)):=⟨b4R⟩
theorem Z0{i j}:JE X (.Constant (.bool i) j pos) (tC (.bl i)):=⟨b6k⟩
theorem a0v{j}:JE X (.Constant .none j pos) (tC .non):=⟨b4P⟩
theorem b6v{x j}:JE X (.Constant (.str x) j pos) (tC (.str x)):=⟨b4M⟩
theorem a4k{x:Str}{v:V}{u:Value}(hg:Gl X x)(hm:X.mg x=none)(hv:bootBuiltins x=some u)(r:RelV v u)(hn:x≠"__name__":=by decide)(hd:(x==("__debug__" : Str))=false:=by decide):JE X (.Name x pos) (tC v):=⟨b2T hg hm hv r hn hd⟩
theorem L9(ha:JE X a ta)(hb:JE X b tb):JE X (.BinOp a .Add b pos) (tOp (rI0 λi j=>.int (i+j)) ta tb):=⟨a0s b5f ha.h hb.h⟩
theorem a5p(ha:JE X a ta)(hb:JE X b tb):JE X (.BinOp a .Sub b pos) (tOp (rI0 λi j=>.int (i-j)) ta tb):=⟨a0s b4Z ha.h hb.h⟩
theorem a2u(ha:JE X a ta)(hb:JE X b tb):JE X (.BinOp a .Mult b pos) (tOp (rI CMul λi j=>.int (i*j)) ta tb):=⟨a0s b5d ha.h hb.h⟩
theorem a2v(ha:JE X a ta)(hb:JE X b tb):JE X (.BinOp a .Mod b pos) (tOp (rI (λ_ j=>0<j) λi j=>.int (i % j)) ta tb):=⟨a0s b5e ha.h hb.h⟩
theorem b1h(ha:JE X a ta)(hb:JE X b tb):JE X (.BinOp a .FloorDiv b pos) (tOp (rI b6G λi j=>.int (i / j)) ta tb):=⟨a0s b2X ha.h hb.h⟩
theorem a7r(ha:JE X a ta)(hb:JE X b tb):JE X (.BinOp a .Pow b pos) (tOp (rI b6F λi j=>.int (i ^ j.toNat)) ta tb):=⟨a0s b5a ha.h hb.h⟩
theorem a0u(ha:JE X a ta)(hb:JE X b tb):JE X (.BinOp a .Add b pos) (tOp (a0K) ta tb):=⟨a0s b0v ha.h hb.h⟩
theorem b5p(ha:JE X a ta)(hb:JE X b tb):JE X (.BinOp a .Mult b pos) (tOp (b4a) ta tb):=⟨a0s b2V ha.h hb.h⟩
theorem b6y(ha:JE X a ta):JE X (.UnaryOp .USub a pos) (tUn (rU λi=>.int (-i)) ta):=⟨b6h b4l ha.h⟩
theorem b6x(ha:JE X a ta):JE X (.UnaryOp .Not a pos) (b3N ta):=⟨b4O ha.h⟩
theorem a7s{op}(h:JE X a ta):JE X (.BoolOp op [a] pos) ta:=⟨b4N h.h⟩
theorem b1i(ha:JE X a ta)(hb:JE X (.BoolOp .And (b::rest) pos) tb):JE X (.BoolOp .And (a::b::rest) pos) (b3R ta tb):=⟨b4V ha.h hb.h⟩
theorem b6w(ha:JE X a ta)(hb:JE X (.BoolOp .Or (b::rest) pos) tb):JE X (.BoolOp .Or (a::b::rest) pos) (b5P ta tb):=⟨b6i ha.h hb.h⟩
theorem b6z(hc:JT X c tA)(ha:JE X a ta)(hb:JE X b tb):JE X (.IfExp c a b pos) (tIf tA ta tb):=⟨b0r hc.h ha.h hb.h⟩
theorem a3n(ha:JE X a ta)(hb:JE X b tb):JE X (.Compare a [.Eq] [b] pos) (tOp (rEq) ta tb):=⟨a3Z b4f ha.h hb.h (L4 _)⟩
theorem V2(ha:JE X a ta)(hb:JE X b tb):JT X (.Compare a [.Eq] [b] pos) (T9 (tOp (rEq) ta tb)):=⟨N2 b4f ha.h hb.h (L4 _)⟩
theorem b6t(ha:JE X a ta)(hb:JE X b tb):JT X (.Compare a [.NotEq] [b] pos) (T9 (tOp (rNe) ta tb)):=⟨N2 b6l ha.h hb.h (L4 _)⟩
theorem b0W(ha:JE X a ta)(hb:JE X b tb):JT X (.Compare a [.Lt] [b] pos) (T9 (tOp (rI0 λi j=>.bl (decide (i<j))) ta tb)):=⟨N2 b6m ha.h hb.h (L4 _)⟩
theorem b4g(ha:JE X a ta)(hb:JE X b tb):JE X (.Compare a [.LtE] [b] pos) (tOp (rI0 λi j=>.bl (decide (i<=j))) ta tb):=⟨a3Z b6n ha.h hb.h (L4 _)⟩
theorem a5m(ha:JE X a ta)(hb:JE X b tb):JT X (.Compare a [.Gt] [b] pos) (T9 (tOp (rI0 λi j=>.bl (decide (j<i))) ta tb)):=⟨N2 b6o ha.h hb.h (L4 _)⟩
theorem b6u(ha:JE X a ta)(hb:JE X b tb):JT X (.Compare a [.GtE] [b] pos) (T9 (tOp (rI0 λi j=>.bl (decide (j<=i))) ta tb)):=⟨N2 b6p ha.h hb.h (L4 _)⟩
theorem a2r(K:PySem.W.Frag)(hu:X.A.units+60<cLine)(ha:JE X a ta)(hb:JE X b tb)(hK:X.K=K:=by rfl):JT X (.Compare a [.NotEq] [b] pos) (T9 (tOp (a8l K true) ta tb)):=⟨N2 (b5b K hu hK) ha.h hb.h (L4 _)⟩
theorem b0V(ha:JE X a ta)(hb:JE X b tb):JE X (.Compare a [.Is] [b] pos) (tOp (λx y H Q=>y=.non/\Q (.bl (decide (x=.non))) H) ta tb):=⟨a3Z b0w ha.h hb.h (L4 _)⟩
theorem b0X(ha:JE X a ta)(hb:JE X b tb):JT X (.Compare a [.Is] [b] pos) (T9 (tOp (λx y H Q=>y=.non/\Q (.bl (decide (x=.non))) H) ta tb)):=⟨N2 b0w ha.h hb.h (L4 _)⟩
theorem a7o(ha:JE X a ta)(hb:JE X b tb):JT X (.Compare a [.IsNot] [b] pos) (T9 (tOp (λx y H Q=>y=.non/\Q (.bl (!decide (x=.non))) H) ta tb)):=⟨N2 b2W ha.h hb.h (L4 _)⟩
theorem a1w(h:JW X e tA):JT X e tA:=⟨h.h.pt⟩
theorem O0(ha:JT X a tA):JW X (.BoolOp .And [a] pos) tA:=⟨pw_and1 ha.h⟩
theorem a4g(ha:JT X a tA):JW X (.BoolOp .Or [a] pos) tA:=⟨pw_or1 ha.h⟩
theorem V1(ha:JT X a tA)(hb:JW X (.BoolOp .And (b::rest) pos) tB):JW X (.BoolOp .And (a::b::rest) pos) (b5W tA tB):=⟨pw_and ha.h hb.h⟩
theorem a7n(ha:JT X a tA)(hb:JW X (.BoolOp .Or (b::rest) pos) tB):JW X (.BoolOp .Or (a::b::rest) pos) (tOr tA tB):=⟨pw_or ha.h hb.h⟩
theorem O7(ha:JT X a tA):JT X (.UnaryOp .Not a pos) (b5Q tA):=⟨b4z ha.h⟩
theorem E8(K:PySem.W.Frag)(ha:JE X a ta)(he:∀whole,isTrue a X.env whole=(do let v <-whole;standAt a.pos;holding [v] (truthy v)):=by intro _;rfl)(hK:X.K=K:=by rfl):JT X a (b5O K ta):=⟨a8n K ha.h he hK⟩
theorem jaN:JA X [] a0H:=⟨b4X⟩
theorem jaC(ha:JE X e te)(hr:JA X es t)(hs:starEach (e::es) X.env=(false,eval e X.env)::starEach es X.env:=by rfl):JA X (e::es) (a2Z te t):=⟨b2U ha.h hr.h hs⟩
theorem Z4{x1}(h:JA X es t):JE X (.Tuple es x1 pos) (b4o t):=⟨b4L h.h⟩
theorem O2(h:JA X es t):JE X (.List es pos) (b2f t):=⟨b4Q h.h⟩
theorem L8(K:PySem.W.Frag)(ha:JE X a ta)(hb:JE X b tb)(hs:a0D b:=by intro _ _;rfl)(hK:X.K=K:=by rfl):JE X (.Subscript a b pos) (tOp (b2y K) ta tb):=⟨b4e (b1l K hK) ha.h hb.h hs⟩
theorem P5(K:PySem.W.Frag)(ha:JE X a ta)(hb:JE X b tb)(hs:a0D b:=by intro _ _;rfl)(hK:X.K=K:=by rfl):JE X (.Subscript a b pos) (tOp (a8k K) ta tb):=⟨b4e (b3t K hK) ha.h hb.h hs⟩
theorem I0:JO X none K2:=⟨b2F⟩
theorem G9(h:JE X e te):JO X (some e) (a1g te):=⟨b2E h.h⟩
theorem b1g(K:PySem.W.Frag){lo hi:Option Expr}{tl th:TO}(he:JE X e te)(hl:JO X lo tl)(hu:JO X hi th)(hK:X.K=K:=by rfl):JE X (.Subscript e (.Slice lo hi none p2) pos) (tSl (b4v K) te tl th):=⟨a4W (a9F K hK) he.h hl.h hu.h⟩
theorem a1o(K:PySem.W.Frag){lo hi:Option Expr}{tl th:TO}(he:JE X e te)(hl:JO X lo tl)(hu:JO X hi th)(hK:X.K=K:=by rfl):JE X (.Subscript e (.Slice lo hi none p2) pos) (tSl (a3X K) te tl th):=⟨a4W (b2l K hK) he.h hl.h hu.h⟩
theorem A6{k:Nat}{ps:List Str}{sp:Sp}{x:Str}(O:Ok X.prog X.w X.K X.mg X.base x k ps sp)(hr:Room k X.A)(hg:Gl X x)(ha:JA X (e::es) t)(hdb:(x==("__debug__" : Str))=false:=by decide)
  (he:starEach (e::es) X.env=(false,eval e X.env)::starEach es X.env:=by rfl) (hpl:(backTo pos (starEach es X.env)).any (·.1)=false:=by rfl):JE X (.Call (.Name x p) (e::es) [] pos) (a9y sp [] E0 t):=⟨b0t O hr hg ha.h hdb he hpl⟩
theorem V5(K:PySem.W.Frag)(hg:Gl X "len")(hm:X.mg "len"=none)(ha:JA X (e::es) t)(hK:X.K=K:=by rfl)(he:starEach (e::es) X.env=(false,eval e X.env)::starEach es X.env:=by rfl)(hpl:(backTo pos (starEach es X.env)).any (·.1)=false:=by rfl):JE X (.Call (.Name "len" p) (e::es) [] pos) (tCB (b6b K) t):=⟨G7 (a9b K hK) hg hm b1Q ha.h (by decide) (by decide) he hpl⟩
theorem b1b(K:PySem.W.Frag)(hg:Gl X "sum")(hm:X.mg "sum"=none)(ha:JA X (e::es) t)(hc:X.calm=true:=by rfl)(hK:X.K=K:=by rfl)(he:starEach (e::es) X.env=(false,eval e X.env)::starEach es X.env:=by rfl)(hpl:(backTo pos (starEach es X.env)).any (·.1)=false:=by rfl):JE X (.Call (.Name "sum" p) (e::es) [] pos) (tCB (b4u K) t):=⟨G7 (a8X K hc hK) hg hm b5A ha.h (by decide) (by decide) he hpl⟩
theorem a4i(K:PySem.W.Frag)(hg:Gl X "all")(hm:X.mg "all"=none)(ha:JA X (e::es) t)(hc:X.calm=true:=by rfl)(hK:X.K=K:=by rfl)(he:starEach (e::es) X.env=(false,eval e X.env)::starEach es X.env:=by rfl)(hpl:(backTo pos (starEach es X.env)).any (·.1)=false:=by rfl):JE X (.Call (.Name "all" p) (e::es) [] pos) (tCB (b4x K) t):=⟨G7 (a9f K hc hK) hg hm b5C ha.h (by decide) (by decide) he hpl⟩
theorem J6(K:PySem.W.Frag)(hg:Gl X "isinstance")(hm:X.mg "isinstance"=none)(ha:JA X (e::es) t)(hK:X.K=K:=by rfl)(he:starEach (e::es) X.env=(false,eval e X.env)::starEach es X.env:=by rfl)(hpl:(backTo pos (starEach es X.env)).any (·.1)=false:=by rfl):JE X (.Call (.Name "isinstance" p) (e::es) [] pos) (tCB (b4w K) t):=⟨G7 (a9c K hK) hg hm a2U ha.h (by decide) (by decide) he hpl⟩
theorem B5(K:PySem.W.Frag)(hg:Gl X "tuple")(hm:X.mg "tuple"=none)(ha:JA X (e::es) t)(hK:X.K=K:=by rfl)(he:starEach (e::es) X.env=(false,eval e X.env)::starEach es X.env:=by rfl)(hpl:(backTo pos (starEach es X.env)).any (·.1)=false:=by rfl):JE X (.Call (.Name "tuple" p) (e::es) [] pos) (tCB (a5W K) t):=⟨L1 (a5y K hK) hg hm a2M ha.h (by decide) (by decide) he hpl⟩
theorem b3p(K:PySem.W.Frag)(hg:Gl X "list")(hm:X.mg "list"=none)(ha:JA X (e::es) t)(hK:X.K=K:=by rfl)(he:starEach (e::es) X.env=(false,eval e X.env)::starEach es X.env:=by rfl)(hpl:(backTo pos (starEach es X.env)).any (·.1)=false:=by rfl):JE X (.Call (.Name "list" p) (e::es) [] pos) (tCB (b4b K) t):=⟨L1 (a6x K hK) hg hm a7N ha.h (by decide) (by decide) he hpl⟩
theorem a6g(hg:Gl X "int")(hm:X.mg "int"=none)(ha:JA X (e::es) t)(he:starEach (e::es) X.env=(false,eval e X.env)::starEach es X.env:=by rfl)(hpl:(backTo pos (starEach es X.env)).any (·.1)=false:=by rfl):JE X (.Call (.Name "int" p) (e::es) [] pos) (tCB (b6c) t):=⟨L1 a9d hg hm b1R ha.h (by decide) (by decide) he hpl⟩
theorem X7(K:PySem.W.Frag)(ho:JE X o to)(ha:JA X (e::es) t)(hK:X.K=K:=by rfl)(hbase:attributeBase o "append" X.env (eval o X.env)=eval o X.env:=by rfl)
  (hfew:((backTo cpos (starEach (e::es) X.env)).all (λx=>!x.1) && (backToKw cpos (keywordEach [] X.env)).all (λx=>x.1.isSome) && decide ((e::es).length+([]:List Keyword).length+(if ([]:List Keyword).isEmpty then 0 else 1)<30))=true:=by rfl)
  (hline:(apos.endLine==cpos.line)=true:=by rfl) (hs:starEach (e::es) X.env=(false,eval e X.env)::starEach es X.env:=by rfl) (hplain:(backTo cpos (starEach es X.env)).any (·.1)=false:=by rfl) :
  JE X (.Call (.Attribute o "append" apos) (e::es) [] cpos) (tBM K "list" a7d to t):=⟨a5Z K PySem.F.plainAttrs_list PySem.F.slot_list_append PySem.F.type_list_append a8D ho.h ha.h hK hbase hfew hline hs hplain⟩
theorem a5o(K:PySem.W.Frag)(ho:JE X o to)(ha:JA X (e::es) t)(hK:X.K=K:=by rfl)(hbase:attributeBase o "pop" X.env (eval o X.env)=eval o X.env:=by rfl)
  (hfew:((backTo cpos (starEach (e::es) X.env)).all (λx=>!x.1) && (backToKw cpos (keywordEach [] X.env)).all (λx=>x.1.isSome) && decide ((e::es).length+([]:List Keyword).length+(if ([]:List Keyword).isEmpty then 0 else 1)<30))=true:=by rfl)
  (hline:(apos.endLine==cpos.line)=true:=by rfl) (hs:starEach (e::es) X.env=(false,eval e X.env)::starEach es X.env:=by rfl) (hplain:(backTo cpos (starEach es X.env)).any (·.1)=false:=by rfl) :
  JE X (.Call (.Attribute o "pop" apos) (e::es) [] cpos) (tBM K "list" b0a to t):=⟨a5Z K PySem.F.plainAttrs_list PySem.F.slot_list_pop PySem.F.type_list_pop b0L ho.h ha.h hK hbase hfew hline hs hplain⟩
theorem a3o(K:PySem.W.Frag)(ho:JE X o to)(ha:JA X (e::es) t)(hK:X.K=K:=by rfl)(hbase:attributeBase o "extend" X.env (eval o X.env)=eval o X.env:=by rfl)
  (hfew:((backTo cpos (starEach (e::es) X.env)).all (λx=>!x.1) && (backToKw cpos (keywordEach [] X.env)).all (λx=>x.1.isSome) && decide ((e::es).length+([]:List Keyword).length+(if ([]:List Keyword).isEmpty then 0 else 1)<30))=true:=by rfl)
  (hline:(apos.endLine==cpos.line)=true:=by rfl) (hs:starEach (e::es) X.env=(false,eval e X.env)::starEach es X.env:=by rfl) (hplain:(backTo cpos (starEach es X.env)).any (·.1)=false:=by rfl) :
  JE X (.Call (.Attribute o "extend" apos) (e::es) [] cpos) (tBM K "list" a7c to t):=⟨a5Z K PySem.F.plainAttrs_list PySem.F.slot_list_extend PySem.F.type_list_extend a8C ho.h ha.h hK hbase hfew hline hs hplain⟩
theorem A8{i:Nat}{x:Str}(hN:X.N.Nodup)(hi:X.N[i]?=some x)(hx:Loc X.env.scope x)(hf:X.fn x=true∨X.env.scope.names.lookup x=some .local:=by first|exact .inl rfl|exact .inr rfl|assumption):JG X (.Name x pos) (A9 i):=⟨b2O hN hi hx hf⟩
theorem O1:JGs X [] a8O:=⟨b2M⟩
theorem B9{g:TG}{u:TGs}(h1:JG X e g)(h2:JGs X es u)(hs:(assignEach (e::es) X.env).map (·.2)=assign e X.env::(assignEach es X.env).map (·.2):=by rfl):JGs X (e::es) (Z5 g u):=⟨b0p h1.h h2.h hs⟩
theorem V4(K:PySem.W.Frag)(n:Nat){k:Nat}{u:TGs}(h:JGs X es u)(hc:X.calm=true:=by rfl)(hK:X.K=K:=by rfl)(hn:(assignEach es X.env).length=n:=by rfl)(hst:(assignEach es X.env).findIdx? (·.1)=none:=by rfl):JG X (.Tuple es k pos) (a6m K n u):=⟨b2N K hc h.h hK hn hst⟩
theorem a4h{i:Expr}{ti:TE}(ho:JE X o to)(hi:JE X i ti)
  (ha:∀v,assign (.Subscript o i pos) X.env v=(do
   let ov <-holding [v] (eval o X.env)
   let iv <-holding [v,ov] (eval i X.env)
   standAt pos
   holding [v,ov,iv] (setItem ov iv v)
   release [v,ov,iv] []):=by intro _;rfl):JG X (.Subscript o i pos) (b6A to ti b3Y):=⟨b4J ho.h hi.h a9I ha⟩
theorem K9(K:PySem.W.Frag){tg l:Expr}{tl:TE}(hl:JE X l tl)(hK:X.K=K:=by rfl):JI X tg l (b1q K tl):=⟨b0o K hl.h hK⟩
theorem J0(K:PySem.W.Frag){tg l:Expr}{tl:TE}(hl:JE X l tl)(hK:X.K=K:=by rfl):JI X tg l (b3x K tl):=⟨b2K K hl.h hK⟩
theorem a2s(K:PySem.W.Frag){kt:Nat}{tp:Pos}(hg:Gl X "zip")(hm:X.mg "zip"=none)(ha:JA X [a,b] t)(hK:X.K=K:=by rfl)(hs:starEach [a,b] X.env=[(false,eval a X.env),(false,eval b X.env)]:=by rfl)(hs2:starEach [b] X.env=[(false,eval b X.env)]:=by rfl) :
  JI X (.Tuple es kt tp) (.Call (.Name "zip" p) [a,b] [] pos) (b5t K t):=⟨b2J K hg hm ha.h hK hs hs2⟩
theorem D5{tg:Expr}(hg:Gl X "range")(hm:X.mg "range"=none)(ha:JA X [a] t)(hs:starEach [a] X.env=[(false,eval a X.env)]:=by rfl):JI X tg (.Call (.Name "range" p) [a] [] pos) (b4h t):=⟨a8r hg hm ha.h hs⟩
theorem C6:JF X [] M4:=⟨b2I⟩
theorem a0b(h:JT X c tA):JF X [c] tA:=⟨b2H h.h⟩
theorem B7{tg iter elt:Expr}{ifs:List Expr}{scope:Scope}{N:List Str}{src:List (Option Nat)}{wi:TI}{g:TG}{tt:TT}(hi:JI X tg iter wi)(hcap:B8 scope X.env.scope=true)(hblk:K0 N src X.N scope=true)(hsc:a3T scope=true)
  (hg:∀cells C s H ex,JG (X.blk N scope cells C s H ex) tg g) (ht:∀cells C s H ex,JF (X.blk N scope cells C s H ex) ifs tt) (he:∀cells C s H ex,JE (X.blk N scope cells C s H ex) elt te)
  (hc:X.calm=true:=by rfl) (hs:∀x,foldedSetIterable iter X.env x=pure x:=by intro _;rfl):JE X (.ListComp elt [⟨tg,iter,ifs,0⟩] scope pos) (a3a src wi g tt te) :=
 ⟨b2R hc hi.h hcap hblk hsc (λ_ _ _ _ _=>(hg _ _ _ _ _).h) (λ_ _ _ _ _=>(ht _ _ _ _ _).h) (λ_ _ _ _ _=>(he _ _ _ _ _).h) hs⟩
variable {st:Stmt}{sts:List Stmt}{u v:TS}
theorem C0:JB X [] b3O:=⟨b2A⟩
theorem A2(h1:JS X st u)(h2:JB X sts v):JB X (st::sts) (b4p u v):=⟨b0f h1.h h2.h⟩
theorem A5(h1:JS X st u):JB X [st] u:=⟨b2z h1.h⟩
theorem b1a:JS X (.Break pos) a9z:=⟨b0j⟩
theorem B0(he:JE X e te):JS X (.Return (some e) pos) (b4q te):=⟨b4C he.h⟩
theorem Q8(he:JE X e te)(hs:swapsWith e none pos.line X.env=pure false:=by rfl):JS X (.Expr e pos) (b3Q te):=⟨b2C he.h hs⟩
theorem D8{A B:List Stmt}(hc:JT X c tA)(ha:JB X A u)(hb:JB X B v):JS X (.If c A B pos) (b5R tA u v):=⟨b6f hc.h ha.h hb.h⟩
theorem a5n{B:List Stmt}(hc:JT X c tA)(hb:JB X B v)(hp:PassesOwn (model X.prog X.w) X.A X.env X.xe:=by exact PassesOwn.never):JS X (.While c B [] pos) (a9u tA v):=⟨b0g hp hc.h hb.h⟩
theorem Q6{tg iter:Expr}{B:List Stmt}{wi:TI}{g:TG}(hi:JI X tg iter wi)(hg:JG X tg g)(hb:JB X B v)(hp:PassesOwn (model X.prog X.w) X.A X.env X.xe:=by exact PassesOwn.never)(hc:X.calm=true:=by rfl)
  (hs:∀x,foldedSetIterable iter X.env x=pure x:=by intro _;rfl):JS X (.For tg iter B [] pos) (b5S wi g v):=⟨b4D hp hc hi.h hg.h hb.h hs⟩
theorem B1{i:Nat}{x:Str}{pos':Pos}(hN:X.N.Nodup)(hi:X.N[i]?=some x)(hx:Loc X.env.scope x)(he:JE X e te)(hs:swapsWith e (some (.Name x pos')) pos.line X.env=pure false:=by rfl)
  (hf:X.fn x=true∨X.env.scope.names.lookup x=some .local:=by first|exact .inl rfl|exact .inr rfl|assumption):JS X (.Assign [.Name x pos'] e pos) (a7X te (A9 i)):=⟨b4B hN hi hx he.h hs hf⟩
theorem a7p{i:Nat}{y:Str}{py spos:Pos}{tg iter elt:Expr}{ifs:List Expr}{scope:Scope}{N:List Str}{src:List (Option Nat)}{wi:TI}{g:TG}{tt:TT}
  (hN:X.N.Nodup) (hy:X.N[i]?=some y) (hx:Loc X.env.scope y) (hi:JI X tg iter wi) (hcap:B8 scope X.env.scope=true) (hblk:K0 N src X.N scope=true) (hsc:a3T scope=true)
  (hg:∀cells C s H ex,JG (X.blk N scope cells C s H ex) tg g) (ht:∀cells C s H ex,JF (X.blk N scope cells C s H ex) ifs tt) (hel:∀cells C s H ex,JE (X.blk N scope cells C s H ex) elt te)
  (hc:X.calm=true:=by rfl) (hsw:swapsWith (.ListComp elt [⟨tg,iter,ifs,0⟩] scope pos) (some (.Name y py)) spos.line X.env=pure true:=by rfl) (hs:∀x,foldedSetIterable iter X.env x=pure x:=by intro _;rfl)
  (hf:X.fn y=true∨X.env.scope.names.lookup y=some .local:=by first|exact .inl rfl|exact .inr rfl|assumption) :
  JS X (.Assign [.Name y py] (.ListComp elt [⟨tg,iter,ifs,0⟩] scope pos) spos) (a7X (a3a src wi g tt te) (A9 i)) :=
 ⟨b2B hN hy hx hc hi.h hcap hblk hsc (λ_ _ _ _ _=>(hg _ _ _ _ _).h) (λ_ _ _ _ _=>(ht _ _ _ _ _).h) (λ_ _ _ _ _=>(hel _ _ _ _ _).h) hsw hs hf⟩
theorem a0T{tg:Expr}{g:TG}(he:JE X e te)(hg:JG X tg g)(hs:swapsWithSole [tg] e pos.line X.env=pure false:=by rfl)(hw:swappedStores [tg] e X.env=pure none:=by rfl)
  (h1:(assignEach [tg] X.env).map (·.2)=[assign tg X.env]:=by rfl):JS X (.Assign [tg] e pos) (a7X te g):=⟨b4F he.h hg.h hs hw h1⟩
end
section
variable {P:Program}{w:World}{K:PySem.W.Frag}{mg:Str->Option Value}{base:Heap}
theorem FunAt.okJ{x:Str}{st:Stmt}{N ps:List Str}{k:Nat}{sp:Sp}(F:FunAt K mg x st ps)(S:FnScope N ps (A3 st))(len:∀vs H Q E,sp vs H Q E->vs.length=ps.length)
  (hbody:∀(cdv:Value) (f:Addr) (A:Around) (outer:List Env) (s:Shared) (H:Hp) (vs:List V) (Q:VK) (E:XK),Room k (A.deeper (envOfC x (A3 st) s.heap.objs.size f cdv))->sp vs H Q E ->
   ∃t,JB (T4 CX0 P w K mg base N x (A3 st) f cdv A outer s H E).nox (D9 st) t/\t {nx:=λ_ H'=>Q .non H',rt:=Q} (start N vs) H):Ok P w K mg base x (k+1) ps sp :=
 F.ok S len λcdv f A outer s H vs Q E hr h=>let ⟨t,d,r⟩:=hbody cdv f A outer s H vs Q E hr h;⟨t,d.h,r⟩
theorem Fun.okJ{x qual:Str}{st:Stmt}{f:Addr}{fd:FuncData}{N ps:List Str}{k:Nat}{sp:Sp}(F:Fun K x qual st f fd)(S:FnScope N ps (A3 st))(len:∀vs H Q E,sp vs H Q E->vs.length=ps.length)
  (hbody:∀(cdv:Value) (A:Around) (outer:List Env) (s:Shared) (H:Hp) (vs:List V) (Q:VK) (E:XK),Room k (A.deeper (envOfC qual (A3 st) s.heap.objs.size f cdv))->sp vs H Q E ->
   ∃t,JB (T4 CX0 P w K mg base N qual (A3 st) f cdv A outer s H E).nox (D9 st) t/\t {nx:=λ_ H'=>Q .non H',rt:=Q} (start N vs) H):FnOk P w K mg base CX0 (k+1) f fd ps sp :=
 F.ok S len λcdv A outer s H vs Q E hr h=>let ⟨t,d,r⟩:=hbody cdv A outer s H vs Q E hr h;⟨t,d.h,r⟩
end
def a6U(K:PySem.W.Frag):Sp:=λvs H Q _=>∃(a:Addr) (ns:List Int),vs=[.ref a]/\SqL K H a (ns.map V.int)/\ns.length<=63/\∀H',Q (.bl true) H'
theorem law_walk{l:PySem.W.OpenLaw}{q:Program}{loose:List Str}{XP:(Str->Option Value)->Heap->Prop}{YP:World->Heap->Prop}{d:DefRec}{K:Params->PySem.W.Frag}(k:Nat)(hn:l.most=some 63)(hdf:d.params.defaults=[])(hr:Room k callerA)
  (hY:∀(w:World) (h:Heap),YP w h->(K w.params).In h)
  (F:∀(w:World) (mg:Str->Option Value) (fa:Addr) (h:Heap),(K w.params).In h->h.Ns mainGlobals mg->mg d.name=some (.ref fa) ->
   ∃fd:FuncData,(∀(s:Shared) (u:Value),BindsTo s fd ⟨[u],[]⟩ [("_law_script",u)])/\∀base:Heap,(K w.params).In base->base.Ns mainGlobals mg->FnOk l.prog w (K w.params) mg base CX0 k fa fd ["_law_script"] (a6U (K w.params))) :
  PySem.W.WalkO q loose XP YP l.row.toRowW d [] (λf vs=>PySem.call f vs) :=
 L2.walk_of (n:=63) (k:=k) (x:="_law_script") (CX:=λ_=>CX0) (sp:=λw=>a6U (K w.params)) hn (by decide) hdf hr hY F (λ_ _ a ns hl _ hS=>⟨a,ns,rfl,hS,hl,λ_=>rfl⟩) λ_ _ _ _ _ z=>z
def Its(H:Hp)(vs:List V)(rss:LLI):Prop:=vs.length=rss.length/\∀(i:Nat) (v:V),vs[i]?=some v->∃r,rss[i]?=some r/\IT H v r
theorem Its.same{H H':Hp}{vs:List V}{rss:LLI}(h:Its H vs rss)(s:Same H H'):Its H' vs rss:=⟨h.1,λi v e=>let ⟨r,e1,e2⟩:=h.2 i v e;⟨r,e1,e2.same s⟩⟩
theorem Its.nil{H:Hp}:Its H [] []:=⟨rfl,λi v e=>by simp at e⟩
theorem Its.snoc{H:Hp}{vs:List V}{rss:LLI}{v:V}{r:List Int}(h:Its H vs rss)(hv:IT H v r):Its H (vs++[v]) (rss++[r]):=by
 refine⟨by simp[h.1],λi u e=>?_⟩;by_cases hi:i<vs.length
 .rw[List.getElem?_append_left hi]at e;obtain⟨q,e1,e2⟩:=h.2 i u e;exact⟨q,by rw[List.getElem?_append_left (by rw[<-h.1];exact hi)];exact e1,e2⟩
 .rw[List.getElem?_append_right (by omega)]at e;have hj:i-vs.length=0:=by
   have:=(List.getElem?_eq_some_iff.mp e).1;simp at this;omega
  rw[hj]at e;simp at e;subst e;refine⟨r,?_,hv⟩;rw[List.getElem?_append_right (by rw[<-h.1];omega),<-h.1,hj];rfl
theorem Its.mem{H:Hp}{vs:List V}{rss:LLI}{v:V}{i:Nat}(h:Its H vs rss)(e:vs[i]?=some v):∃r,r∈rss/\rss[i]?=some r/\IT H v r :=
 let ⟨r,e1,e2⟩:=h.2 i v e
 ⟨r,List.mem_of_getElem? e1,e1,e2⟩
theorem a7R{K:PySem.W.Frag}{src:List (Option Nat)}{σ caps:St}{Q:VK}{k1 k2:Bool}{a b:Addr}{xs ys:List Int}{H:Hp}{te:TE}(f:Int->Int->V)(hl:xs.length<=1000)
  (hmono:∀H',Same H H'->SqK k1 K H' a (xs.map V.int)/\SqK k2 K H' b (ys.map V.int))
  (hsrc:B2 src σ=none::none::caps) (hte:∀x y H1 Q1,x∈xs->y∈ys->Same H H1->Q1 (f x y) H1->te (some (.int x)::some (.int y)::caps) H1 Q1)
  (hd:∀H1 p,Same H H1->H1 p=none->Q (.ref p) (upd H1 p (.lst (List.zipWith f xs ys)))) :
  E4 src (a6m K 2 (Z5 (A9 0) (Z5 (A9 1) a8O))) M4 te σ Q (Itz K k1 k2 a b) H:=by
 have hz:(1000:Nat)<=sizeLine:=by rw[sizeLine_eq];decide
 refine W2 (xs:=xs.map V.int) (zs:=ys.map V.int) (by rw[J5];omega) (λi zs H'=>Same H H'/\zs=(List.zipWith f xs ys).take i) ⟨Same.refl H,by simp⟩ (λi zs H' _ _ h=>⟨(hmono H' h.1).1,(hmono H' h.1).2,by rw[h.2];exact List.length_take_le _ _⟩) ?_ ?_
 .rintro i x z zs H' p hx hy ⟨s,rfl⟩ hp;obtain⟨x',hx',e1⟩:=R5 hx;obtain⟨z',hy',e2⟩:=R5 hy;subst e1 e2;clear hx hy;have s':Same H (upd H' p (.tup [.int x',.int z'])):=s.upd hp;refine⟨p,[.int x',.int z'],rfl,SqT.of A0,rfl,.int x',[.int z'],rfl,.int z',[],rfl,rfl,?_⟩;rw[hsrc];show Sub _ (some (.int x')::some (.int z')::caps)/\_;refine⟨⟨rfl,λj v e=>?_⟩,?_⟩
  .match j,e with
   |0,e=>cases e
   |1,e=>cases e
   |j+2,e=>exact e
  .exact hte x' z' _ _ (List.mem_of_getElem? hx') (List.mem_of_getElem? hy') s' ⟨s',(K1 f hx' hy').symm⟩
 .rintro zs H' ⟨s,rfl⟩ p hp;have e:(List.zipWith f xs ys).take (min (xs.map V.int).length (ys.map V.int).length)=List.zipWith f xs ys:=by
   rw[J5,J5,List.take_of_length_le];rw[List.length_zipWith];exact Nat.le_refl _
  rw[e];exact hd H' p s hp
theorem b2d{K:PySem.W.Frag}{src:List (Option Nat)}{σ caps:St}{Q:VK}{a:Addr}{vs:List V}{rss:LLI}{H:Hp}{te:TE}(f:List Int->V)(hl:vs.length<=1000)(hmono:∀H',Same H H'->SqT K H' a vs)(hI:Its H vs rss)(hsrc:B2 src σ=none::caps)
  (hte:∀v r H1 Q1,r∈rss->IT H1 v r->Same H H1->(∀H2,Same H1 H2->Q1 (f r) H2)->te (some v::caps) H1 Q1) (hd:∀H1 p,Same H H1->H1 p=none->Q (.ref p) (upd H1 p (.lst (rss.map f)))):E4 src (A9 0) M4 te σ Q (Itt K a) H:=by
 have hz:(1000:Nat)<=sizeLine:=by rw[sizeLine_eq];decide
 refine W3 (xs:=vs) (by omega) (λi ys H'=>Same H H'/\ys=(rss.take i).map f) ⟨Same.refl H,by simp⟩ (λi ys H' _ h=>⟨hmono H' h.1,by rw[h.2,List.length_map];exact List.length_take_le _ _⟩) ?_ ?_
 .rintro i x ys H' hx ⟨s,rfl⟩;obtain⟨r,hr,hr2,hr3⟩:=hI.mem hx;show Sub _ ((B2 src σ).set 0 (some x))/\_;rw[hsrc];refine⟨Sub.one,hte x r H' _ hr (hr3.same s) s λH2 s2=>⟨s.trans s2,?_⟩⟩;rw[List.take_add_one,hr2];simp
 .rintro ys H' ⟨s,rfl⟩ p hp;rw[hI.1,List.take_length];exact hd H' p s hp
theorem a9i{K:PySem.W.Frag}{src:List (Option Nat)}{σ caps:St}{Q:VK}{k1 k2:Bool}{a b:Addr}{xs:List Int}{us:List V}{rss:LLI}{H:Hp}{te:TE}(f:Int->List Int->V)(hl:xs.length<=1000)
  (hmono:∀H',Same H H'->SqK k1 K H' a (xs.map V.int)/\SqK k2 K H' b us) (hI:Its H us rss)
  (hsrc:B2 src σ=none::none::caps) (hte:∀x v r H1 Q1,x∈xs->r∈rss->IT H1 v r->Same H H1->Q1 (f x r) H1->te (some (.int x)::some v::caps) H1 Q1)
  (hd:∀H1 p,Same H H1->H1 p=none->Q (.ref p) (upd H1 p (.lst (List.zipWith f xs rss)))) :
  E4 src (a6m K 2 (Z5 (A9 0) (Z5 (A9 1) a8O))) M4 te σ Q (Itz K k1 k2 a b) H:=by
 have hz:(1000:Nat)<=sizeLine:=by rw[sizeLine_eq];decide
 refine W2 (xs:=xs.map V.int) (zs:=us) (by rw[J5];omega) (λi zs H'=>Same H H'/\zs=(List.zipWith f xs rss).take i) ⟨Same.refl H,by simp⟩ (λi zs H' _ _ h=>⟨(hmono H' h.1).1,(hmono H' h.1).2,by rw[h.2];exact List.length_take_le _ _⟩) ?_ ?_
 .rintro i x z zs H' p hx hy ⟨s,rfl⟩ hp;obtain⟨x',hx',e1⟩:=R5 hx;subst e1;obtain⟨r,hr,hr2,hr3⟩:=hI.mem hy;have s':Same H (upd H' p (.tup [.int x',z])):=s.upd hp;refine⟨p,[.int x',z],rfl,SqT.of A0,rfl,.int x',[z],rfl,z,[],rfl,rfl,?_⟩;rw[hsrc];show Sub _ (some (.int x')::some z::caps)/\_;refine⟨⟨rfl,λj v e=>?_⟩,?_⟩
  .match j,e with
   |0,e=>cases e
   |1,e=>cases e
   |j+2,e=>exact e
  .exact hte x' z r _ _ (List.mem_of_getElem? hx') hr (hr3.same s') s' ⟨s',(K1 f hx' hr2).symm⟩
 .rintro zs H' ⟨s,rfl⟩ p hp;have e:(List.zipWith f xs rss).take (min (xs.map V.int).length us.length)=List.zipWith f xs rss:=by
   rw[J5,hI.1,List.take_of_length_le];rw[List.length_zipWith];exact Nat.le_refl _
  rw[e];exact hd H' p s hp
theorem a5V{src:List (Option Nat)}{σ caps:St}{Q:VK}{n:Nat}{H:Hp}{tt:TT}(t:Nat->Bool)(hn:n<=1000)(hsrc:B2 src σ=none::caps)(htt:∀(i:Nat) H1 (Q1:Bool->Hp->Prop),i<n->Same H H1->(∀H2,Same H1 H2->Q1 (t i) H2)->tt (some (.int i)::caps) H1 Q1)
  (hd:∀H1 p,Same H H1->H1 p=none->Q (.ref p) (upd H1 p (.lst ((((List.range n).filter t).map λ(i:Nat)=>(i:Int)).map V.int)))):E4 src (A9 0) tt (G2 0) σ Q (Itr 0 n) H:=by
 refine a0p hn hsrc (λi ys H'=>Same H H'/\ys=(((List.range i).filter t).map λ(i:Nat)=>(i:Int)).map V.int) ⟨Same.refl H,rfl⟩ (λi ys H' h=>by rw[h.2,List.length_map,List.length_map];exact Nat.le_trans (List.length_filter_le _ _) (by simp)) ?_ ?_
 .rintro i ys H' hi ⟨s,rfl⟩;refine htt i H' _ hi s λH2 s2=>?_;rw[List.range_succ,List.filter_append];cases e:t i with
  |true=>exact⟨_,rfl,s.trans s2,by simp[e]⟩
  |false=>exact⟨s.trans s2,by simp[e]⟩
 .rintro ys H' ⟨s,rfl⟩ p hp;exact hd H' p s hp
end L2
namespace L2
open PySem PySem.Spec PyProof.Rows PySem.W
noncomputable def b1A(p C:Addr):HO:=.ext λh=>∃o,h.get? p=some o/\o.cls=.ref C
theorem ObjOk.there{P:Program}{w:World}{H:Hp}{h:Heap}{a:Addr}{o:HO}(x:ObjOk P w H h a o):∃u,h.get? a=some u:=by
 induction o with
 |lst xs=>obtain⟨_,_,_,_,e⟩:=x;exact⟨_,e⟩
 |tup xs=>obtain⟨_,_,_,ob,e,_⟩:=x;exact⟨_,e⟩
 |dK kvs=>obtain⟨_,_,_,_,o,_,_,e,_⟩:=x;exact⟨_,e⟩
 |dT kvs=>obtain⟨_,_,_,_,o,_,_,e,_⟩:=x;exact⟨_,e⟩
 |set S n=>obtain⟨o,_,_,_,e,_⟩:=x;exact⟨_,e⟩
 |ins C dx fs=>obtain⟨_,_,_,e,_⟩:=x;exact⟨_,e⟩
 |own y=>obtain⟨_,e⟩:=x;exact⟨_,e⟩
 |xd fs=>obtain⟨_,⟨_,_,_,e,_⟩,_⟩:=x;exact⟨_,e⟩
 |rng lo hi=>obtain⟨_,_,_,e⟩:=x;exact⟨_,e⟩
 |frz ob u ih=>obtain⟨e,_⟩:=x;exact⟨_,e⟩
 |tbl ps=>exact⟨_,x⟩
 |met f y=>exact⟨_,x⟩
 |ext φ=>exact x.2.1
def Cov(l:List Env)(H:Hp)(h0 h B:Heap):Prop:=∀b o,h.get? b=some o->b∉frs l->(H b≠none∨∃o',h0.get? b=some o')->B.get? b=some o
theorem a2D{P:Program}{w:World}{l:List Env}{H H':Hp}{h0 h1 h2 B base:Heap}(hU:Un (frs l) [] H H' h0 h1)(hok:HOk P w H' h1)(cov:Cov l H' h0 h1 B)(st:B.StaysIn h2)(up:h1.UpToSlots h2)(ff:h1.FunFrames base l)(hf:∀b∈frs l,H' b=none) :
  Un (frs l) [] H H' h0 h2/\HOk P w H' h2/\Cov l H' h0 h2 B:=by
 have tr:∀b,H' b≠none->b∉frs l:=λb n hb=>n (hf b hb);refine⟨⟨?_,?_,hU.free,?_,hU.tups,hU.frzs,hU.tbls⟩,?_,?_⟩
 .intro b o e n hb hx;exact st b o (cov b o (hU.keep b o e n hb hx) hb (.inr ⟨o,e⟩))
 .intro b o e n hb hx;obtain⟨sl,q⟩:=hU.slot b o e n hb hx;obtain⟨_,o2,e2,nf⟩:=ff.mem hb;rw[q]at e2;cases e2;obtain⟨sl2,q2⟩:=up b _ q nf;exact⟨sl2,q2⟩
 .intro b o e hx;obtain⟨o1,q⟩:=hU.there b o e hx;by_cases hb:b∈frs l
  .obtain⟨_,o2,e2,nf⟩:=ff.mem hb;rw[q]at e2;cases e2;obtain⟨sl2,q2⟩:=up b _ q nf;exact⟨_,q2⟩
  .exact⟨o1,st b o1 (cov b o1 q hb (.inr ⟨o,e⟩))⟩
 .intro a o e;refine(hok a o e).stay (λb u hb q=>?_) (λ_ q=>q) λ_ _ q=>q;have ht:H' b≠none:=by
   rcases hb with rfl|hb
   .rw[e];intro z;cases z
   .rw[hb];intro z;cases z
  exact st b u (cov b u q (tr b ht) (.inl ht))
 .intro b o e hb ho;have ex:∃o1,h1.get? b=some o1:=by
   rcases ho with ht|⟨o',q⟩
   .cases eq:H' b with
    |none=>exact absurd eq ht
    |some u=>exact(hok b u eq).there
   .exact hU.there b o' q (by simp)
  obtain⟨o1,q1⟩:=ex;have q2:=cov b o1 q1 hb ho;have q3:=st b o1 q2;rw[e]at q3;cases q3;exact q2
def CXE(P:Program)(w:World):CXT:=λouter H s E e s' =>
 ∃(p C:Addr) (H':Hp) (B:Heap) (a0:Value),e=.ref p/\s'.os=s.os/\AllBare s'.gens/\Un (frs outer) [] H H' s.heap s'.heap/\HOk P w H' s'.heap /\
  H' p=none/\Heap.FlyingW B outer p (.ref C) a0 s'.heap/\Cov outer H' s.heap s'.heap B/\E (.ref C) none H'
theorem b6H{K:PySem.W.Frag}{h:Heap}{mg:Str->Option Value}{x:Str}{C:Addr}{bmB:List Value}{newId:String}(X:K.In h)(hm:mg x=some (.ref C))(q:excIn K C bmB newId=true):OwnCls x C bmB newId mg h:=by
 refine⟨hm,?_⟩;unfold excIn at q;split at q
 .rename_i dd cd sl ho;split at q
  .rename_i C' bm k0 k1 k2 k3 n k5 hmro hs;simp only[Bool.and_eq_true,beq_iff_eq,Bool.not_eq_true']at q;obtain⟨⟨⟨⟨⟨rfl,rfl⟩,hdel⟩,ht⟩,hok⟩,hni⟩:=q;obtain⟨nm,bs,mro,ns,qn,hd,sn,sub,ab,col,del⟩:=cd;dsimp only at hmro hdel hok hni;subst hmro hdel;have hsl:sl=#[k0,k1,k2,k3,some (.builtin n),k5]:=by
    obtain⟨l⟩:=sl;simp only at hs;rw[hs]
   subst hsl;exact⟨bm,ns,nm,qn,bs,hd,sn,sub,ab,col,dd,k0,k1,k2,k3,k5,_,X _ _ ho,.of_isNs (isNs_of_in X hok),nsMap_none_of_in X hok hni,tail_of_in X ht⟩
  .cases q
 .cases q
def a9w(C:Addr)(E:XK)(t:TA):TS:=λ_ σ H=>t σ H λvs H1=>vs.length<=sizeLine/\E (.ref C) none H1
theorem b0i{P:Program}{w:World}{K:PySem.W.Frag}{mg:Str->Option Value}{base:Heap}{N:List Str}{qual:Str}{scope:Scope}{f:Addr}{cd:Value}{A:Around}{outer:List Env}{s0:Shared}{H0:Hp}{E:XK}
  {x:Str}{C:Addr}{bmB bmN:List Value}{B Bn newId nid initId inN:String}{e:Expr}{es:List Expr}{t:TA}{np cpos pos:Pos}
  (O:OwnCls x C bmB newId mg base) (Fn:ExcBaseFacts Bn newId inN bmN) (hBn:bmB.contains (.type Bn)=true) (FB:ExcBaseFacts B nid initId bmB)
  (hg:Gl (T4 (CXE P w) P w K mg base N qual scope f cd A outer s0 H0 E) x)
  (ha:PA (T4 (CXE P w) P w K mg base N qual scope f cd A outer s0 H0 E) (e::es) t) (hd:(x==("__debug__" : Str))=false:=by decide)
  (he:starEach (e::es) (envOfC qual scope s0.heap.objs.size f cd)=(false,eval e (envOfC qual scope s0.heap.objs.size f cd))::starEach es (envOfC qual scope s0.heap.objs.size f cd):=by rfl)
  (hpl:(backTo cpos (starEach es (envOfC qual scope s0.heap.objs.size f cd))).any (·.1)=false:=by rfl) :
  PS (T4 (CXE P w) P w K mg base N qual scope f cd A outer s0 H0 E) (.Raise (some (.Call (.Name x np) (e::es) [] cpos)) none pos) (a9w C E t):=by
 intro pins s σ H D I h;obtain⟨tl,NC,nm,q,bs,hdct,sn,sub,ab,col,dd,k0,k1,k2,k3,k5,mN,hC,hN,hni,T⟩:=O.obj;refine wpAny_Raise_call_subU (C:=C) (nm:=nm) (q:=q) (N:=NC) (bs:=bs) (bm:=tl) (hdct:=hdct) (sn:=sn) (sub:=sub) (ab:=ab) (col:=col) (dd:=dd) (k0:=k0) (k1:=k1) (k2:=k2) (k3:=k3) (k5:=k5)
  Fn hBn FB (mN:=mN) (T.hasType FB.hasBase) (I.ok.hd rfl) (by show(backTo cpos (starEach (e::es) (envOfC qual scope s0.heap.objs.size f cd))).any _=false;rw[he];show(false || (backTo cpos (starEach es (envOfC qual scope s0.heap.objs.size f cd))).any (·.1))=false;rw[hpl];rfl) hni (a0t I hg O.bound ⟨rfl,?_⟩ hd)
 have ha':=ha cpos pins s σ H _ I h;have he':starEach (e::es) (T4 (CXE P w) P w K mg base N qual scope f cd A outer s0 H0 E).env=_:=he;rw[he']at ha'⊢;refine Calls.evalArgs_plain (wpAny_mono ha' (λus s2 ⟨vs,H1,I1,r,hl,q⟩=>⟨rfl,by rw[<-r.length];exact hl,I1.bk _ _ hC,hN.keeps I1.bk,T.keeps I1.bk,λh' p hm=>?_⟩) λ_ _ z=>z);have hin:∀env∈(envOfC qual scope s0.heap.objs.size f cd::outer),∀b,env.frame=some b->b∈frs (envOfC qual scope s0.heap.objs.size f cd::outer):=λenv he b hb=>List.mem_filterMap.mpr ⟨env,he,hb⟩;refine wpAny_leaves_madeW (base:=hideAll s2.heap (frs (envOfC qual scope s0.heap.objs.size f cd::outer))) (h:=s2.heap) I1.ok.frames rfl (λb o q=>of_hideAll _ q) (funFrames_hide I1.stack hin) hm λh2 t x1 x2 x3 x4=>?_;have hsub:∀b∈frs outer,b∈frs (envOfC qual scope s0.heap.objs.size f cd::outer):=λb hb=>by
  obtain⟨env,h1,h2⟩:=List.mem_filterMap.mp hb;exact List.mem_filterMap.mpr ⟨env,List.mem_cons_of_mem _ h1,h2⟩
 have hnot:∀b,b∉frs outer->b≠s0.heap.objs.size->b∉frs (envOfC qual scope s0.heap.objs.size f cd::outer):=λb h1 h2 h3=>by
  obtain⟨env,q1,q2⟩:=List.mem_filterMap.mp h3;rcases List.mem_cons.mp q1 with rfl|q1
  .exact h2 (Option.some.inj q2).symm
  .exact h1 (List.mem_filterMap.mpr ⟨env,q1,q2⟩)
 have cov:Cov outer H1 s0.heap s2.heap (hideAll s2.heap (frs (envOfC qual scope s0.heap.objs.size f cd::outer))):=λb o eb nb hb=>by
  refine hideAll_get _ eb (hnot b nb λz=>?_);subst z;rcases hb with hb|⟨o',hb⟩
  .exact hb I1.free
  .exact absurd (Heap.lt_size hb) (Nat.lt_irrefl _)
 have hp:H1 p=none:=by
  cases eq:H1 p with
  |none=>rfl
  |some u =>
   obtain⟨o,eo⟩:=(I1.hok p u eq).there;rw[hm.new]at eo;cases eo
 obtain⟨U2,ok2,cov2⟩:=a2D (P:=P) (w:=w) (l:=outer) (H:=H0) (H':=H1) (h0:=s0.heap) (h1:=s2.heap) (h2:=h2) I1.base I1.hok cov x1.1 ((Heap.UpToSlots.of_keeps hm.keeps).trans x4) I1.funs λb hb=>I1.stkFree b (hsub b hb);exact⟨p,C,H1,_,.ref t,rfl,I1.os,I1.bare,U2,ok2,hp,x1,cov2,q⟩
def XP(X:Cx)(pins:List (Addr×Obj))(R:St->Addr->Hp->Prop)(e:Value)(s':Shared):Prop :=
 ∃(σ1:St) (H1:Hp) (s1:Shared) (p C:Addr) (H':Hp) (B:Heap) (a0:Value),e=.ref p/\Inv X pins σ1 H1 s1/\s'.os=s1.os/\AllBare s'.gens/\Un (frs X.stack) [] H1 H' s1.heap s'.heap/\HOk X.prog X.w H' s'.heap /\
  H' p=none/\Heap.FlyingW B X.stack p (.ref C) a0 s'.heap/\Cov X.stack H' s1.heap s'.heap B/\R σ1 C H'
abbrev TX:=Ends->(St->Addr->Hp->Prop)->St->Hp->Prop
def PSx(X:Cx)(sts:List Stmt)(t:TX):Prop :=
 ∀(pins:List (Addr×Obj)) (s:Shared) (σ:St) (H:Hp) (D:Ends) (R:St->Addr->Hp->Prop),Inv X pins σ H s->t D R σ H->wpAny (model X.prog X.w) X.A (execs sts X.env) (SP X pins D) (XP X pins R) s
structure OkE(P:Program)(w:World)(K:PySem.W.Frag)(mg:Str->Option Value)(base:Heap)(x:Str)(k:Nat)(ps:List Str)(sp:Sp):Prop where
 ex:∃f fd,mg x=some (.ref f)/\PySem.W.keepIn K (.ref f)=true/\Binds K fd ps []/\FnOk P w K mg base (CXE P w) k f fd ps sp
theorem FunAt.okE{P:Program}{w:World}{K:PySem.W.Frag}{mg:Str->Option Value}{base:Heap}{x:Str}{st:Stmt}{N ps:List Str}{k:Nat}{sp:Sp}(F:FunAt K mg x st ps)(S:FnScope N ps (A3 st))(len:∀vs H Q E,sp vs H Q E->vs.length=ps.length)
  (hbody:∀(cdv:Value) (f:Addr) (A:Around) (outer:List Env) (s:Shared) (H:Hp) (vs:List V) (Q:VK) (E:XK),Room k (A.deeper (envOfC x (A3 st) s.heap.objs.size f cdv))->sp vs H Q E ->
   ∃t,JB (T4 (CXE P w) P w K mg base N x (A3 st) f cdv A outer s H E) (D9 st) t/\t {nx:=λ_ H'=>Q .non H',rt:=Q} (start N vs) H):OkE P w K mg base x (k+1) ps sp:=by
 obtain⟨f,fd,h1,h2,h3⟩:=F.ex;refine⟨f,fd,h1,h2.kp,h3,?_⟩;obtain⟨oc,od,kV,doc,pm,an,cdv,ct,osl,rfl,lk,hcd⟩:=h2.ex;refine b4j lk hcd S len λA outer s H vs Q E hr hsp=>?_;obtain⟨t,h,q⟩:=hbody cdv f A outer s H vs Q E hr hsp;exact⟨t,h.h,q⟩
section
variable {M:Model}{A:Around}{E:Value->Shared->Prop}
structure ClsX(K:PySem.W.Frag)(C:Addr)(above:List Value):Prop where
 ex:∃nm q N bs bm hdct sn sub ab col dd k0 k1 k2 k3 k5 newId,K.lookup C=some (excClassObj nm q C N bs bm hdct sn sub ab col dd k0 k1 k2 k3 k5 newId)/\bm.contains (.type "BaseException")=true/\∀v∈above,bm.contains v=true
end
section
variable {X:Cx}{pins:List (Addr×Obj)}{σ:St}{H1 H':Hp}{s1 s':Shared}{p C:Addr}{B:Heap}{a0:Value}{h2:Heap}
theorem Inv.land(I1:Inv X pins σ H1 s1)(hos:s'.os=s1.os)(hg:AllBare s'.gens)(hU:Un (frs X.stack) [] H1 H' s1.heap s'.heap)(hok:HOk X.prog X.w H' s'.heap)(ff:s'.heap.FunFrames B X.stack)(cov:Cov X.stack H' s1.heap s'.heap B)(st:B.StaysIn h2)(up:s'.heap.UpToSlots h2) :
  Inv X pins σ H' {s' with heap:=h2}:=by
 have hf:∀b∈frs X.stack,H' b=none:=λb hb=>by
  obtain⟨_,o,ho,_⟩:=I1.stack.mem hb;exact hU.free b o ho (I1.stkFree b hb) (by simp)
 obtain⟨U2,ok2,_⟩:=a2D hU hok cov st up ff hf;exact I1.call' (ch:=[]) hos U2 ok2 hg (λb z=>absurd z (by simp))
theorem Inv.landX(I1:Inv X pins σ H1 s1)(hos:s'.os=s1.os)(hg:AllBare s'.gens)(hU:Un (frs X.stack) [] H1 H' s1.heap s'.heap)(hok:HOk X.prog X.w H' s'.heap)(hp:H' p=none)(ff:s'.heap.FunFrames B X.stack)(cov:Cov X.stack H' s1.heap s'.heap B)(fl2:Heap.FlyingW B X.stack p (.ref C) a0 h2)(up:s'.heap.UpToSlots h2) :
  Inv X pins σ (upd H' p (b1A p C)) {s' with heap:=h2}:=by
 have hf:∀b∈frs X.stack,H' b=none:=λb hb=>by
  obtain⟨_,o,ho,_⟩:=I1.stack.mem hb;exact hU.free b o ho (I1.stkFree b hb) (by simp)
 obtain⟨U2,ok2,cov2⟩:=a2D hU hok cov fl2.1 up ff hf;obtain⟨oe,heo,hcl⟩:=fl2.there;have hpf:p∉frs X.stack:=λhb=>by
  obtain⟨_,o,ho,nf⟩:=fl2.2.2.1.mem hb;obtain⟨oe',vs,_,_,_,he',_,hd',_⟩:=fl2.2.2.2;rw[ho]at he';cases he';exact nf vs hd'
 have hn1:∀o,s1.heap.get? p≠some o:=λo e=>by
  have:=cov2 p oe heo hpf (.inr ⟨o,e⟩);rw[fl2.2.1]at this;cases this
 have U3:Un (frs X.stack) [] H1 (upd H' p (b1A p C)) s1.heap h2:=by
  refine⟨U2.keep,U2.slot,λb o e n hx=>?_,U2.there,λb xs e=>?_,λb o u e=>?_,λb ps e=>?_⟩
  .rw[A1 (by rintro rfl;exact hn1 o e)];exact U2.free b o e n hx
  .have q:=U2.tups b xs e;rw[A1 (by rintro rfl;rw[hp]at q;cases q)];exact q
  .have q:=U2.frzs b o u e;rw[A1 (by rintro rfl;rw[hp]at q;cases q)];exact q
  .obtain⟨more,q⟩:=U2.tbls b ps e;exact⟨more,by rw[A1 (by rintro rfl;rw[hp]at q;cases q)];exact q⟩
 have ok3:HOk X.prog X.w (upd H' p (b1A p C)) h2:=λa o e=>by
  by_cases ha:a=p
  .subst ha;rw[A0]at e;cases e;exact⟨⟨oe,heo,hcl⟩,⟨oe,heo⟩,λg1 g2 ⟨o,q1,q2⟩ k=>⟨o,k o q1,q2⟩⟩
  .rw[A1 ha]at e;refine(ok2 a o e).stay (λb u _ q=>q) (λb q=>?_) λb xs q=>?_
   .rw[A1 (by rintro rfl;rw[hp]at q;cases q)];exact q
   .rw[A1 (by rintro rfl;rw[hp]at q;cases q)];exact q
 exact I1.call' (ch:=[]) hos U3 ok3 hg (λb z=>absurd z (by simp))
end
section
variable {X:Cx}{pins:List (Addr×Obj)}{σ:St}{H:Hp}{s:Shared}
noncomputable abbrev Cx.held(X:Cx)(p:Addr):Cx:={X with A:=X.A.mark (some (.ref p)),calm:=false,xe:=λ_ _=>False}
theorem Inv.held(I:Inv X pins σ H s)(p:Addr):Inv (X.held p) pins σ H s :=
 ⟨⟨I.ok.mod,I.ok.kind,I.ok.glob,I.ok.blt,I.ok.above,I.ok.inj,I.ok.has,I.ok.cab,(λz=>by cases z),I.ok.frames,I.ok.stk,I.ok.exf,I.ok.bs,I.ok.bsz,I.ok.noex,I.ok.exfs,I.ok.funs,I.ok.frf⟩,I.os,I.bare,I.base,I.loc,I.cell,I.free,I.freeC,I.pin,I.hok,I.len⟩
theorem Inv.unheld{p:Addr}(J:X.Ok)(I:Inv (X.held p) pins σ H s):Inv X pins σ H s :=
 ⟨J,I.os,I.bare,I.base,I.loc,I.cell,I.free,I.freeC,I.pin,I.hok,I.len⟩
end
def a6r(K:PySem.W.Frag)(C:Addr)(above:List Value):Bool:=match K.lookup C with
 |some ⟨.type "type",_,.cls cd,sl⟩=>(match cd.mro,sl.toList with
  |.ref C'::bm,[_,_,_,_,some (.builtin _),_]=>C'==C && !cd.hasDel && bm.contains (.type "BaseException") && above.all λv=>bm.contains v
  |_,_=>false)
 |_=>false
theorem b3D{K:PySem.W.Frag}{C:Addr}{above:List Value}(q:a6r K C above=true):ClsX K C above:=by
 unfold a6r at q;split at q
 .rename_i dd cd sl ho;split at q
  .rename_i C' bm k0 k1 k2 k3 n k5 hmro hs;simp only[Bool.and_eq_true,beq_iff_eq,Bool.not_eq_true',List.all_eq_true]at q;obtain⟨⟨⟨rfl,hdel⟩,hb⟩,ha⟩:=q;obtain⟨nm,bs,mro,ns,qn,hd,sn,sub,ab,col,del⟩:=cd;dsimp only at hmro hdel;subst hmro hdel;have hsl:sl=#[k0,k1,k2,k3,some (.builtin n),k5]:=by
    obtain⟨l⟩:=sl;simp only at hs;rw[hs]
   subst hsl;exact⟨nm,qn,ns,bs,bm,hd,sn,sub,ab,col,dd,k0,k1,k2,k3,k5,n,ho,hb,λv hv=>ha v hv⟩
  .cases q
 .cases q
structure JX(X:Cx)(sts:List Stmt)(t:TX):Prop where
 h:PSx X sts t
section
variable {X:Cx}{k:Nat}{ps:List Str}{sp:Sp}{x y:Str}{p pos cpos pos':Pos}{e:Expr}{es:List Expr}{t:TA}{i:Nat}
end
theorem b0Z{P:Program}{w:World}{K:PySem.W.Frag}{mg:Str->Option Value}{base:Heap}{N:List Str}{qual:Str}{scope:Scope}{f:Addr}{cd:Value}{A:Around}{outer:List Env}{s0:Shared}{H0:Hp}{E:XK}
  {x:Str}{C:Addr}{bmB bmN:List Value}{B Bn newId nid initId inN:String}{e:Expr}{es:List Expr}{t:TA}{np cpos pos:Pos}
  (O:OwnCls x C bmB newId mg base) (Fn:ExcBaseFacts Bn newId inN bmN) (hBn:bmB.contains (.type Bn)=true) (FB:ExcBaseFacts B nid initId bmB)
  (hg:Gl (T4 (CXE P w) P w K mg base N qual scope f cd A outer s0 H0 E) x)
  (ha:JA (T4 (CXE P w) P w K mg base N qual scope f cd A outer s0 H0 E) (e::es) t) (hd:(x==("__debug__" : Str))=false:=by decide)
  (he:starEach (e::es) (envOfC qual scope s0.heap.objs.size f cd)=(false,eval e (envOfC qual scope s0.heap.objs.size f cd))::starEach es (envOfC qual scope s0.heap.objs.size f cd):=by rfl)
  (hpl:(backTo cpos (starEach es (envOfC qual scope s0.heap.objs.size f cd))).any (·.1)=false:=by rfl) :
  JS (T4 (CXE P w) P w K mg base N qual scope f cd A outer s0 H0 E) (.Raise (some (.Call (.Name x np) (e::es) [] cpos)) none pos) (a9w C E t):=⟨b0i O Fn hBn FB hg ha.h hd he hpl⟩
end L2
namespace L2
open PySem PySem.Spec PyProof.Rows PySem.W Builtin Builtin.ObjectAttr Builtin.Getset_descriptor
section
variable {K:PySem.W.Frag}{prog:Program}{w:World}{A:Around}{E:Value->Shared->Prop}{h:Heap}{g:Array GenState}{d:Drawn}{t:Nat}{os:OsState}{a:Addr}{o:Obj}
 {nm q:Str}{C N:Addr}{bs bm:List Value}{hdct:Bool}{sn:List Str}{sub:List Value}{ab:Bool}{col:Option Bool}{dd:Option Addr}{k0 k1 k2 k3 k5:Option Value}{newId:String}
end
section
variable {X:Cx}{es:List Expr}{e:Expr}{t:TA}{pos p:Pos}
end
end L2
namespace L2
open PySem PySem.Spec PyProof.Rows
theorem a2A{α:Type}{ca:α->V}{xs:List α}{i:Nat}{x:V}(h:(xs.map ca)[i]?=some x):∃z,xs[i]?=some z/\x=ca z:=by
 rw[List.getElem?_map]at h;cases e:xs[i]? with
 |none=>rw[e]at h;cases h
 |some z=>rw[e]at h;exact⟨z,rfl,(Option.some.inj h).symm⟩
theorem b1X{α β:Type}{K:PySem.W.Frag}{src:List (Option Nat)}{σ caps:St}{Q:VK}{k1 k2:Bool}{a b:Addr}(ca:α->V)(cb:β->V){xs:List α}{ys:List β}{H:Hp}{te:TE}(f:α->β->V)(hl:xs.length<=1000)
  (hmono:∀H',Same H H'->SqK k1 K H' a (xs.map ca)/\SqK k2 K H' b (ys.map cb))
  (hsrc:B2 src σ=none::none::caps) (hte:∀x y H1 Q1,x∈xs->y∈ys->Same H H1->(∀H2,Same H1 H2->Q1 (f x y) H2)->te (some (ca x)::some (cb y)::caps) H1 Q1)
  (hd:∀H1 p,Same H H1->H1 p=none->Q (.ref p) (upd H1 p (.lst (List.zipWith f xs ys)))) :
  E4 src (a6m K 2 (Z5 (A9 0) (Z5 (A9 1) a8O))) M4 te σ Q (Itz K k1 k2 a b) H:=by
 have hz:(1000:Nat)<=sizeLine:=by rw[sizeLine_eq];decide
 refine W2 (xs:=xs.map ca) (zs:=ys.map cb) (by rw[List.length_map];omega) (λi zs H'=>Same H H'/\zs=(List.zipWith f xs ys).take i) ⟨Same.refl H,by simp⟩ (λi zs H' _ _ h=>⟨(hmono H' h.1).1,(hmono H' h.1).2,by rw[h.2];exact List.length_take_le _ _⟩) ?_ ?_
 .rintro i x z zs H' p hx hy ⟨s,rfl⟩ hp;obtain⟨x',hx',e1⟩:=a2A hx;obtain⟨z',hy',e2⟩:=a2A hy;subst e1 e2;clear hx hy;have s':Same H (upd H' p (.tup [ca x',cb z'])):=s.upd hp;refine⟨p,[ca x',cb z'],rfl,SqT.of A0,rfl,ca x',[cb z'],rfl,cb z',[],rfl,rfl,?_⟩;rw[hsrc];show Sub _ (some (ca x')::some (cb z')::caps)/\_;refine⟨⟨rfl,λj v e=>?_⟩,?_⟩
  .match j,e with
   |0,e=>cases e
   |1,e=>cases e
   |j+2,e=>exact e
  .exact hte x' z' _ _ (List.mem_of_getElem? hx') (List.mem_of_getElem? hy') s' λH2 s2=>⟨s'.trans s2,(K1 f hx' hy').symm⟩
 .rintro zs H' ⟨s,rfl⟩ p hp;have e:(List.zipWith f xs ys).take (min (xs.map ca).length (ys.map cb).length)=List.zipWith f xs ys:=by
   rw[List.length_map,List.length_map,List.take_of_length_le];rw[List.length_zipWith];exact Nat.le_refl _
  rw[e];exact hd H' p s hp
theorem a7W{α:Type}{K:PySem.W.Frag}{src:List (Option Nat)}{σ caps:St}{Q:VK}{a:Addr}(ca:α->V){xs:List α}{H:Hp}{tt:TT}(t:α->Bool)(hl:xs.length<=1000)(hmono:∀H',Same H H'->SqT K H' a (xs.map ca))(hsrc:B2 src σ=none::caps)
  (htt:∀x H1 (Q1:Bool->Hp->Prop),x∈xs->Same H H1->(∀H2,Same H1 H2->Q1 (t x) H2)->tt (some (ca x)::caps) H1 Q1) (hd:∀H1 p,Same H H1->H1 p=none->Q (.ref p) (upd H1 p (.lst ((xs.filter t).map ca)))):E4 src (A9 0) tt (G2 0) σ Q (Itt K a) H:=by
 have hz:(1000:Nat)<=sizeLine:=by rw[sizeLine_eq];decide
 refine W3 (xs:=xs.map ca) (by rw[List.length_map];omega) (λi ys H'=>Same H H'/\ys=((xs.take i).filter t).map ca) ⟨Same.refl H,by simp⟩ (λi ys H' _ h=>⟨hmono H' h.1,by rw[h.2,List.length_map];exact Nat.le_trans (List.length_filter_le _ _) (List.length_take_le _ _)⟩) ?_ ?_
 .rintro i x ys H' hx ⟨s,rfl⟩;obtain⟨z,hz',rfl⟩:=a2A hx;show Sub _ ((B2 src σ).set 0 (some (ca z)))/\_;rw[hsrc];refine⟨Sub.one,htt z H' _ (List.mem_of_getElem? hz') s λH2 s2=>?_⟩;rw[List.take_add_one,hz'];cases e:t z with
  |true=>exact⟨_,rfl,s.trans s2,by simp[e]⟩
  |false=>exact⟨s.trans s2,by simp[e]⟩
 .rintro ys H' ⟨s,rfl⟩ p hp;rw[List.length_map,List.take_length];exact hd H' p s hp
theorem b3J{rss qss:LLI}:((List.range (min rss.length qss.length)).all (λj=>decide (rss.getD j []=qss.getD j [])) && rss.length==qss.length)=decide (rss=qss):=by
 rw[Bool.eq_iff_iff];simp only[Bool.and_eq_true,List.all_eq_true,List.mem_range,decide_eq_true_eq,beq_iff_eq];constructor
 .rintro⟨h1,h2⟩;refine List.ext_getElem h2 λi a b=>?_;have:=h1 i (by omega);simpa[List.getD_eq_getElem?_getD,a,b]using this
 .rintro rfl;exact⟨λ_ _=>rfl,rfl⟩
theorem EqV.its{K:PySem.W.Frag}{H:Hp}{k:Bool}{a b:Addr}{vs ws:List V}{rss qss:LLI}(ha:SqK k K H a vs)(hb:SqK k K H b ws)(h1:Its H vs rss)(h2:Its H ws qss):EqV K H 2 (.ref a) (.ref b) (decide (rss=qss)):=by
 have step:∀j x y,vs[j]?=some x->ws[j]?=some y->EqV K H 1 x y (decide (rss.getD j []=qss.getD j [])):=λj x y hx hy=>by
  obtain⟨r,er,ra,rfl,hr⟩:=h1.2 j x hx;obtain⟨q,eq,qa,rfl,hq⟩:=h2.2 j y hy;rw[List.getD_eq_getElem?_getD,List.getD_eq_getElem?_getD,er,eq];exact EqV.ints (k:=true) (SqT.of hr) (SqT.of hq)
 rw[<-b3J,<-h1.1,<-h2.1];cases k
 .exact EqV.lst (λj=>decide (rss.getD j []=qss.getD j [])) ha hb step
 .exact EqV.tup (λj=>decide (rss.getD j []=qss.getD j [])) ha hb step
open _root_.HT
section
variable {prog:Program}{w:World}{A:Around}{E:Value->Shared->Prop}{s:Shared}
end
section
variable {X:Cx}{e:Expr}{te:TE}{lo hi:Option Expr}{tl th:TO}{pos p2:Pos}
end
end L2
namespace L2
open PySem PySem.Spec PyProof.Rows
section
variable {X:Cx}
end
section
variable {X:Cx}
def b6e:RL:=λxs H Q=>∃i:Int,xs=[.int i]/\Q (.int (if i<0 then -i else i)) H
theorem a9g:E1 X (.builtin "abs") b6e:=by
 intro pins s σ H xs us Q I rv h;obtain⟨i,rfl,q⟩:=h;obtain⟨u,rfl,ru⟩:=rv.one;obtain⟨t,rfl⟩:=ru;exact call_abs_int λu tk=>⟨.int _,H,I.tok tk,⟨u,rfl⟩,q⟩
theorem b1f{e:Expr}{es:List Expr}{t:TA}{p pos:Pos}(hg:Gl X "abs")(hm:X.mg "abs"=none)(ha:JA X (e::es) t)(he:starEach (e::es) X.env=(false,eval e X.env)::starEach es X.env:=by rfl)(hpl:(backTo pos (starEach es X.env)).any (·.1)=false:=by rfl):JE X (.Call (.Name "abs" p) (e::es) [] pos) (tCB b6e t):=⟨G7 a9g hg hm b5D ha.h (by decide) (by decide) he hpl⟩
end
section
variable {prog:Program}{w:World}{A:Around}{E:Value->Shared->Prop}{s:Shared}{k:Bool}
end
section
variable {X:Cx}
end
section
variable {M:Model}{A:Around}{E:Value->Shared->Prop}
theorem a1z{nm q:Str}{C N:Addr}{bs bm:List Value}{hdct:Bool}{sn:List Str}{sub:List Value}{ab:Bool}{col:Option Bool}{dd:Option Addr}{k0 k1 k2 k3 k5:Option Value}{newId:String}
  {h:Heap}{g:Array GenState}{d:Drawn}{t:Nat}{os:OsState}{e:Addr}{oe:Obj}{Q:Bool->Shared->Prop}
  (hC:h.get? C=some (excClassObj nm q C N bs bm hdct sn sub ab col dd k0 k1 k2 k3 k5 newId)) (he:h.get? e=some oe) (hcls:oe.cls=.ref C)
  (hbase:bm.contains (.type "BaseException")=true) (hq:Q true ⟨h,g,d,t,os⟩):wpAny M A (excMatches (.ref e) (.ref C)) Q E ⟨h,g,d,t,os⟩:=by
 have hcB:(Value.ref C::bm).contains (.type "BaseException")=true:=by rw[List.contains_cons,hbase,Bool.or_true]
 have hcC:(Value.ref C::bm).contains (.ref C)=true:=by rw[List.contains_cons];simp
 have f:=tc_notTuple;unfold excMatches
 repeat (first | (with_reducible refine wpAny_loadPart_at he ?_;rw[hcls])|with_reducible refine wpAny_loadPart_at hC ?_ | (with_reducible refine wpAny_isSubtype_exc hC ?_;first|rw[hcB]|rw[hcC])|wp_step)
 exact hq
end
def a9v(K:PySem.W.Frag)(D:Addr)(tx:TX)(ts:TS):TS:=λDe σ H=>tx De (λσ1 C H'=>C=D/\∀p,H' p=none->ts De σ1 (upd H' p (b1A p C))) σ H
theorem b0h{X:Cx}{body:List Stmt}{tx:TX}{ts:TS}{cx:Str}{np hpos pos:Pos}{b0:Stmt}{suite:List Stmt}{D:Addr}(hst:X.stack=X.env::X.outer)(hfr:X.env.frame=some X.env.locals)(hx:PSx X body tx)
  (hg:Gl X cx) (hm:X.mg cx=some (.ref D)) (hD:ClsX X.K D [])
  (hsu:∀p,PSs (X.held p) (b0::suite) ts) (hd:(cx==("__debug__" : Str))=false:=by decide) :
  PS X (.Try body [.ExceptHandler (some (.Name cx np)) none (b0::suite) hpos] [] [] pos) (a9v X.K D tx ts):=by
 intro pins s σ H De I h;refine wpAny_Try_except (wpAny_mono (hx pins s σ H De _ I h) (λf s1 q=>?_) λe s' q=>?_)
 .cases f with
  |next=>exact wpAny_execs_nil q
  |brk=>exact q
  |cont=>exact q
  |ret v=>exact q
 .obtain⟨σ1,H1,s1,p,C,H',B,a0,rfl,I1,hos,hbare,hU,hok,hp,fl,cov,hC,k⟩:=q;subst hC;have ff:=fl.2.2.1;have fl':=fl;rw[hst]at fl';refine wpAny_looks_onW (L:=X.env.locals) (by rw[<-hst];exact I1.ok.frames) hfr fl' λh4 held4 up4=>?_;refine wpAny_landsW held4 λh5 fl5 up5=>?_;rw[<-hst]at fl5;have up5:=up4.trans up5;have I5:Inv X pins σ1 H' {s' with heap:=h5}:=I1.land hos hbare hU hok ff cov fl5.1 up5;refine wpAny_handleBy_cons (codeAny_handlers_test ?_) (by intro q;cases q);refine a0t (X:=X.held p) (I5.held p) hg hm ?_ hd;obtain⟨oe,hoe,hcl⟩:=fl5.there;obtain⟨nm',q',NN',bs',bm',hdct',sn',sub',ab',col',dd',j0,j1,j2,j3,j5,newId',lkD,hbD,_⟩:=hD.ex;refine a1z (I5.kIn _ _ lkD) hoe hcl hbD ?_;refine codeAny_handlers_suite ?_;refine lands_againW fl5 λh6 fl6 up6=>?_;have I6:Inv X pins σ1 (upd H' p (b1A p C)) {s' with heap:=h6}:=I1.landX hos hbare hU hok hp ff cov fl6 (up5.trans up6);refine wpAny_mono (hsu p pins _ _ _ De (I6.held p) (k p hp)) (λf s8 q8=>?_) λ_ _ z=>False.elim z;cases f with
  |next=>obtain⟨σ2,H2,I8,q8⟩:=q8;exact⟨σ2,H2,I8.unheld I.ok,q8⟩
  |brk=>obtain⟨σ2,H2,I8,q8⟩:=q8;exact⟨σ2,H2,I8.unheld I.ok,q8⟩
  |cont=>obtain⟨σ2,H2,I8,q8⟩:=q8;exact⟨σ2,H2,I8.unheld I.ok,q8⟩
  |ret v=>obtain⟨v',σ2,H2,I8,rv,q8⟩:=q8;exact⟨v',σ2,H2,I8.unheld I.ok,rv,q8⟩
section
variable {X:Cx}{k:Nat}{ps:List Str}{sp:Sp}{x:Str}{p pos cpos:Pos}{e:Expr}{es:List Expr}{t:TA}
theorem b0Y(K:PySem.W.Frag){body:List Stmt}{tx:TX}{ts:TS}{cx:Str}{np hpos pos:Pos}{b0:Stmt}{suite:List Stmt}{D:Addr}(hx:JX X body tx)(hg:Gl X cx)(hm:X.mg cx=some (.ref D))(hD:ClsX K D [])
  (hsu:∀p,JB (X.held p) (b0::suite) ts) (hK:X.K=K:=by rfl) (hst:X.stack=X.env::X.outer:=by rfl) (hfr:X.env.frame=some X.env.locals:=by rfl) (hd:(cx==("__debug__" : Str))=false:=by decide) :
  JS X (.Try body [.ExceptHandler (some (.Name cx np)) none (b0::suite) hpos] [] [] pos) (a9v K D tx ts):=by
 subst hK;exact⟨b0h hst hfr hx.h hg hm hD (λp=>(hsu p).h) hd⟩
end
section
variable (P:Program) (w:World)
end
section
variable {P:Program}{w:World}{H H':Hp}{h h':Heap}{a:Addr}{o:HO}
end
section
variable {P:Program}{w:World}{H:Hp}{h h':Heap}{x e:Addr}{o':HO}
end
section
variable {fs fs' ex ex':List Addr}{H H1 H2:Hp}{h h1 h2 h':Heap}{a x e:Addr}{o:HO}
end
section
variable {X:Cx}{pins:List (Addr×Obj)}{σ:List (Option V)}{H H':Hp}{s:Shared}{h':Heap}
end
section
variable {X:Cx}
variable {a b:Expr}{ta tb:TE}{pos:Pos}
variable {tA tB':TT}{rest:List Expr}
end
section
variable {X:Cx}{pins:List (Addr×Obj)}{σ:St}{H:Hp}{s:Shared}{a:Addr}{xs ys:List V}
end
section
variable {X:Cx}{pins:List (Addr×Obj)}{σ:St}{H:Hp}{s:Shared}{E:Value->Shared->Prop}
end
section
variable {X:Cx}{st:Stmt}{rest:List Stmt}{t u:TS}{e:Expr}{te:TE}{pos:Pos}
end
section
variable {X:Cx}{pos:Pos}
end
section
variable {X:Cx}{tg:Expr}
end
section
variable {X:Cx}{a b c:Expr}{ta tb tc:TE}{pos:Pos}
end
section
variable {prog:Program}{w:World}{A:Around}{E:Value->Shared->Prop}{s:Shared}{K:PySem.W.Frag}{x dx C f:Addr}{mA:Str->Option Value}{name:Str}{v:Value}
end
section
variable {P:Program}{w:World}{H H':Hp}{h h':Heap}{a C dx:Addr}{fs fs':List (Str×V)}
end
section
variable {X:Cx}{pins:List (Addr×Obj)}{σ:St}{H:Hp}{s:Shared}{a C dx:Addr}{fs:List (Str×V)}{f:Str}{v:V}{A:Around}{E:Value->Shared->Prop}
end
section
variable {X:Cx}{o e value:Expr}{f:Str}{pos pos' tpos:Pos}{ta tv:TE}
end
section
variable {X:Cx}{pins:List (Addr×Obj)}{σ:St}{H:Hp}{s:Shared}{A:Around}{E:Value->Shared->Prop}{Q:Value->Shared->Prop}{c:Value}{b:Bool}
end
section
variable {X:Cx}{e:Expr}{es:List Expr}{te:TE}{t:TA}{pos:Pos}
end
section
variable {X:Cx}{pins:List (Addr×Obj)}{σ:St}{H:Hp}{s s':Shared}
end
section
variable {X:Cx}{CX:CXT}{k:Nat}{f C:Addr}{fd:FuncData}{ps:List Str}{sp:Sp}{dvs:List V}{ds:List Value}{E:XK}{x m:Str}{p pos apos:Pos}{e o:Expr}{es:List Expr}{ta:TE}{t:TA}
end
section
variable {X:Cx}{CX:CXT}{k:Nat}{f C:Addr}{fd:FuncData}{ps ks:List Str}{sp:Sp}{E:XK}{x m:Str}{p pos apos kpos:Pos}{e o:Expr}{es:List Expr}{kws:List Keyword}{te ta:TE}{t tk:TA}{nm:Option Str}
variable {g:List Value->List Value->List Value}{gV:List V->List V->List V}
end
section
variable {X:Cx}{x:Str}{p pos:Pos}{e:Expr}{es:List Expr}{t:TA}{id T:String}{r:List V->Hp->VK->Prop}
end
section
variable {κ:Type} [DecidableEq κ]
noncomputable def S5(kvs:List (κ×V))(k:κ):Option V:=(kvs.find? λkv=>decide (kv.1=k)).map (·.2)
noncomputable def a0L(kvs:List (κ×V))(k:κ)(v:V):List (κ×V) :=
 if (kvs.any λkv=>decide (kv.1=k))=true then kvs.map (λkv=>if kv.1=k then(kv.1,v)else kv)else kvs++[(k,v)]
theorem a1P{p:κ×V}{r:List (κ×V)}{k:κ}(e:p.1=k):S5 (p::r) k=some p.2:=by simp[S5,List.find?_cons,e]
theorem a1Q{p:κ×V}{r:List (κ×V)}{k:κ}(e:¬p.1=k):S5 (p::r) k=S5 r k:=by simp[S5,List.find?_cons,e]
theorem T5(k:κ):∀kvs:List (κ×V),(kvs.any λkv=>decide (kv.1=k))=(S5 kvs k).isSome
 |[]=>rfl
 |p::r=>by
  rw[List.any_cons];by_cases e:p.1=k
  .simp only[a1P e,decide_eq_true e,Bool.true_or,Option.isSome_some]
  .rw[a1Q e,decide_eq_false e,Bool.false_or];exact T5 k r
theorem a1l(kvs:List (κ×V))(k:κ)(v:V):(a0L kvs k v).length<=kvs.length+1:=by
 unfold a0L;split
 .rw[List.length_map];omega
 .rw[List.length_append,List.length_cons,List.length_nil];omega
theorem b0d{kvs:List (κ×V)}{k:κ}(v:V)(h:S5 kvs k=none):a0L kvs k v=kvs++[(k,v)]:=by
 unfold a0L;rw[T5,h];exact if_neg (by decide)
theorem RelO.isSome_eq{o:Option V}{u:Option Value}(r:RelO o u):o.isSome=u.isSome:=by
 cases o with
 |none=>cases u with
  |none=>rfl
  |some _=>exact(show False from r).elim
 |some _=>cases u with
  |none=>exact(show False from r).elim
  |some _=>rfl
theorem KV.val{kvs:List (κ×V)}{vs:List (κ×Value)}(r:KV kvs vs)(k:κ):RelO (S5 kvs k) (valueAt vs k):=by
 unfold KV at r;induction r with
 |nil=>exact True.intro
 |@cons p q ps qs h t ih =>
  obtain⟨h1,h2⟩:=h;by_cases e:p.1=k
  .have e':q.1=k:=h1.symm.trans e;have b:valueAt (q::qs) k=some q.2:=by simp[valueAt,List.find?_cons,e']
   rw[a1P e,b];exact h2
  .have e':¬q.1=k:=λz=>e (h1.trans z);have b:valueAt (q::qs) k=valueAt qs k:=by simp[valueAt,List.find?_cons,e']
   rw[a1Q e,b];exact ih
theorem KV.any{kvs:List (κ×V)}{vs:List (κ×Value)}(r:KV kvs vs)(k:κ):(kvs.any λkv=>decide (kv.1=k))=vs.any λkv=>decide (kv.1=k):=by
 unfold KV at r;induction r with
 |nil=>rfl
 |cons h t ih=>rw[List.any_cons,List.any_cons,ih,h.1]
theorem KV.repl{kvs:List (κ×V)}{vs:List (κ×Value)}(r:KV kvs vs)(k:κ){y:V}{u:Value}(ry:RelV y u) :
  KV (kvs.map λkv=>if kv.1=k then(kv.1,y)else kv) (vs.map λkv=>if kv.1=k then(kv.1,u)else kv):=by
 unfold KV at r⊢;induction r with
 |nil=>exact .nil
 |@cons p q ps qs h t ih =>
  rw[List.map_cons,List.map_cons];refine .cons ?_ ih;obtain⟨h1,h2⟩:=h;by_cases e:p.1=k
  .rw[if_pos e,if_pos (h1.symm.trans e)];exact⟨h1,ry⟩
  .rw[if_neg e,if_neg (λz=>e (h1.trans z))];exact⟨h1,h2⟩
theorem KV.put{kvs:List (κ×V)}{vs:List (κ×Value)}(r:KV kvs vs)(k:κ){y:V}{u:Value}(ry:RelV y u):KV (a0L kvs k y) (stored vs k u):=by
 unfold a0L stored;rw[r.any k];by_cases e:(vs.any λkv=>decide (kv.1=k))=true
 .rw[if_pos e,if_pos e];exact r.repl k ry
 .rw[if_neg e,if_neg e];exact Paired.snoc r ⟨rfl,ry⟩
theorem KV.length{kvs:List (κ×V)}{vs:List (κ×Value)}(r:KV kvs vs):kvs.length=vs.length:=Paired.length r
end
theorem a7m{P:Program}{w:World}{k:Key}{u:Value}(r:RelV (kV k) u):(D7 P w).is k u=true:=by
 cases k with
 |inl i=>obtain⟨t,e⟩:=(show ∃t,u=Value.int i t from r);subst e;exact a5c P w i t
 |inr x=>obtain⟨t,e⟩:=(show ∃t,u=Value.str x t from r);subst e;exact a5b P w x t
theorem a3p{P:Program}{w:World}:∀{ks:List Key}{us:List Value},Vals (ks.map kV) us->ItemsAre (D7 P w) ks us
 |[],_,r=>by rw[List.map_nil]at r;cases r;exact .nil
 |k::ks,_,r=>by
  rw[List.map_cons]at r;cases r with
  |cons h t=>exact .cons (a7m h) (a3p t)
abbrev KT(H:Hp):List (List Key×V)->List (List Key×Addr×Value)->Prop:=Paired λp q=>p.1=q.1/\H q.2.1=some (.tup (p.1.map kV))/\RelV p.2 q.2.2
theorem KT.val{H:Hp}{kvs:List (List Key×V)}{xs:List (List Key×Addr×Value)}(r:KT H kvs xs)(k:List Key):RelO (S5 kvs k) ((atKey xs k).map (·.2)):=by
 induction r with
 |nil=>exact True.intro
 |@cons p q ps qs h t ih =>
  obtain⟨h1,_,h2⟩:=h;by_cases e:p.1=k
  .have e':q.1=k:=h1.symm.trans e;have b:atKey (q::qs) k=some q.2:=by simp[atKey,List.find?_cons,e']
   rw[a1P e,b];exact h2
  .have e':¬q.1=k:=λz=>e (h1.trans z);have b:atKey (q::qs) k=atKey qs k:=by simp[atKey,List.find?_cons,e']
   rw[a1Q e,b];exact ih
theorem KT.repl{H:Hp}{kvs:List (List Key×V)}{xs:List (List Key×Addr×Value)}(r:KT H kvs xs)(k:List Key){y:V}{u:Value}(ry:RelV y u) :
  KT H (kvs.map λkv=>if kv.1=k then(kv.1,y)else kv) (xs.map (putAt k u)):=by
 induction r with
 |nil=>exact .nil
 |@cons p q ps qs h t ih =>
  rw[List.map_cons,List.map_cons];refine .cons ?_ ih;obtain⟨h1,h2,h3⟩:=h;unfold putAt;by_cases e:p.1=k
  .rw[if_pos e,if_pos (h1.symm.trans e)];exact⟨h1,h2,ry⟩
  .rw[if_neg e,if_neg (λz=>e (h1.trans z))];exact⟨h1,h2,h3⟩
theorem KT.put{H:Hp}{kvs:List (List Key×V)}{xs:List (List Key×Addr×Value)}(r:KT H kvs xs)(k:List Key){b:Addr}{y:V}{u:Value}(hb:H b=some (.tup (k.map kV)))(ry:RelV y u) :
  KT H (a0L kvs k y) (storedH xs k b u):=by
 have e:(kvs.any λkv=>decide (kv.1=k))=(atKey xs k).isSome:=by
  rw[T5,(r.val k).isSome_eq,Option.isSome_map]
 unfold a0L storedH;rw[e];by_cases q:(atKey xs k).isSome=true
 .rw[if_pos q,if_pos q];exact r.repl k ry
 .rw[if_neg q,if_neg q];exact Paired.snoc r ⟨rfl,hb,ry⟩
theorem KT.keeps{H H':Hp}{kvs:List (List Key×V)}{xs:List (List Key×Addr×Value)}(r:KT H kvs xs)(ht:∀b ys,H b=some (.tup ys)->H' b=some (.tup ys)):KT H' kvs xs :=
 Paired.mapP r λ_ _ z=>⟨z.1,ht _ _ z.2.1,z.2.2⟩
section
variable {P:Program}{w:World}{H:Hp}{h:Heap}{a:Addr}
theorem b3W{u:HO}(ok:HOk P w H h)(e:Rd H a u):ObjOk P w H h a u:=e.ok ok
theorem b1G{kvs:List (Key×V)}(ok:HOk P w H h)(e:Rd H a (.dK kvs)):kvs.length<=sizeLine/\(a==sysModules)=false/\∃vs,KV kvs vs/\h.DictOf (D7 P w) a vs :=
 show ObjOk P w H h a (.dK kvs)from b3W ok e
theorem b6C{kvs:List (Key×V)}(ok:HOk P w H h)(e:H a=some (.dK kvs)):kvs.length<=sizeLine/\(a==sysModules)=false/\∃vs,KV kvs vs/\h.DictOf (D7 P w) a vs:=b1G ok (.inl e)
theorem a4f{ks:List Key}(ok:HOk P w H h)(e:H a=some (.tup (ks.map kV))):(tupleKind (D7 P w)).is h ks a:=by
 obtain⟨_,its,r,o,h1,h2,n,h3⟩:=(show ObjOk P w H h a (.tup (ks.map kV))from ok a _ e);exact⟨o,its.toArray,n,h1,congrArg Prod.fst h2,h3,by simpa using a3p r⟩
theorem b1C{kvs:List (List Key×V)}(ok:HOk P w H h)(e:Rd H a (.dT kvs)):kvs.length<=sizeLine/\(a==sysModules)=false /\
  ∃xs,KT H kvs xs/\h.DictOfH (tupleKind (D7 P w)) a xs:=by
 obtain⟨z,y,xs,r,o,es,ep,h1,h2,h3,h4,h5⟩:=(show ObjOk P w H h a (.dT kvs)from b3W ok e);refine⟨z,y,xs,r,o,es,ep,h1,h2,h3,h4,λx hx=>?_,h5⟩;have all:∀{l:List (List Key×V)}{m:List (List Key×Addr×Value)},KT H l m->∀x∈m,(tupleKind (D7 P w)).is h x.1 x.2.1:=by
  intro l m q;induction q with
  |nil=>intro x hx;exact nomatch hx
  |@cons p q ps qs hq t ih =>
   intro x hx;rcases List.mem_cons.mp hx with e|hx
   .subst e;exact a4f ok (by rw[<-hq.1];exact hq.2.1)
   .exact ih x hx
 exact all r x hx
theorem b6B{kvs:List (List Key×V)}(ok:HOk P w H h)(e:H a=some (.dT kvs)):kvs.length<=sizeLine/\(a==sysModules)=false /\
  ∃xs,KT H kvs xs/\h.DictOfH (tupleKind (D7 P w)) a xs:=b1C ok (.inl e)
end
def DGet(H:Hp)(a:Addr)(y:V)(r:Option V):Prop :=
 (∃kvs k,Rd H a (.dK kvs)/\y=kV k/\r=S5 kvs k)∨∃kvs k b,Rd H a (.dT kvs)/\y=.ref b/\H b=some (.tup (k.map kV))/\r=S5 kvs k
def DPut(H:Hp)(a:Addr)(y v:V)(H':Hp):Prop :=
 (∃kvs k,H a=some (.dK kvs)/\y=kV k/\kvs.length<sizeLine/\H'=upd H a (.dK (a0L kvs k v))) ∨
 ∃kvs k b,H a=some (.dT kvs)/\y=.ref b/\H b=some (.tup (k.map kV))/\kvs.length<sizeLine/\H'=upd H a (.dT (a0L kvs k v))
theorem DGet.t{H:Hp}{a b:Addr}{kvs:List (List Key×V)}{k:List Key}(e:H a=some (.dT kvs))(eb:H b=some (.tup (k.map kV))):DGet H a (.ref b) (S5 kvs k):=.inr ⟨kvs,k,b,.inl e,rfl,eb,rfl⟩
theorem DPut.t{H:Hp}{a b:Addr}{kvs:List (List Key×V)}{k:List Key}{v:V}(e:H a=some (.dT kvs))(eb:H b=some (.tup (k.map kV)))(hl:kvs.length<sizeLine) :
  DPut H a (.ref b) v (upd H a (.dT (a0L kvs k v))):=.inr ⟨kvs,k,b,e,rfl,eb,hl,rfl⟩
section
variable {X:Cx}{pins:List (Addr×Obj)}{σ:St}{H:Hp}{s:Shared}{a:Addr}{y v:V}{u r:Value}{o:Option V}{A:Around}{E:Value->Shared->Prop}
theorem Inv.big(I:Inv X pins σ H s):sysModules<s.heap.objs.size:=by
 have h:mainGlobals<s.heap.objs.size:=(I.mod.glob.keeps I.bk).lt;exact Nat.lt_trans (by decide) h
theorem b6P{Q:Value->Shared->Prop}(hu:A.units+1<cLine)(I:Inv X pins σ H s)(g:DGet H a y o)(ry:RelV y u)(h:∀s',Inv X pins σ H s'->Q (.bool o.isSome) s') :
  wpAny (model X.prog X.w) A (compareOp .In u (.ref a)) Q E s:=by
 rcases g with⟨kvs,k,e,ey,l⟩|⟨kvs,k,b,e,ey,eb,l⟩
 .subst ey;obtain⟨z,hd,vs,rel,dd⟩:=b1G I.hok e;refine wpAny_in_of (a7m ry) hd dd.mapOf ?_;rw[<-(rel.val k).isSome_eq,<-l];exact h _ (I.tok _)
 .subst ey;cases(show u=Value.ref b from ry);obtain⟨z,hd,xs,rel,dd⟩:=b1C I.hok e;refine wpAny_in_heap (tupleKind_room_in1 hu) (a4f I.hok eb) hd dd ?_;have q:=(rel.val k).isSome_eq;rw[Option.isSome_map]at q;rw[<-q,<-l];exact h _ (I.tok _)
theorem b3B{Q:Value->Shared->Prop}(hu:A.units+1<cLine)(I:Inv X pins σ H s)(g:DGet H a y o)(ry:RelV y u)(h:∀s',Inv X pins σ H s'->Q (.bool (!o.isSome)) s') :
  wpAny (model X.prog X.w) A (compareOp .NotIn u (.ref a)) Q E s:=by
 rcases g with⟨kvs,k,e,ey,l⟩|⟨kvs,k,b,e,ey,eb,l⟩
 .subst ey;obtain⟨z,hd,vs,rel,dd⟩:=b1G I.hok e;refine wpAny_notIn_of (a7m ry) hd dd.mapOf ?_;rw[<-(rel.val k).isSome_eq,<-l];exact h _ (I.tok _)
 .subst ey;cases(show u=Value.ref b from ry);obtain⟨z,hd,xs,rel,dd⟩:=b1C I.hok e;refine wpAny_notIn_heap (tupleKind_room_in1 hu) (a4f I.hok eb) hd dd ?_;have q:=(rel.val k).isSome_eq;rw[Option.isSome_map]at q;rw[<-q,<-l];exact h _ (I.tok _)
theorem a7H{h':Heap}{t':Nat}{ob:HO}(I:Inv X pins σ H s)(mu:Mut (H a))(hs:Heap.SameBut a s.heap h')(he:∃q,h'.get? a=some q)(new:ObjOk X.prog X.w (upd H a ob) h' a ob) :
  Inv X pins σ (upd H a ob) {s with heap:=h',toks:=t'} :=
 I.write (x:=a) (e:=a) mu (.inl rfl) (λb q hb z=>(hs.2 b hb).trans z) he new
theorem b5w{P:Program}{w:World}{H':Hp}{h':Heap}{kvs:List (Key×V)}{vs:List (Key×Value)}(z:kvs.length<=sizeLine)(hd:(a==sysModules)=false)(rel:KV kvs vs)(dd:h'.DictOf (D7 P w) a vs) :
  ObjOk P w H' h' a (.dK kvs):=⟨z,hd,vs,rel,dd⟩
theorem a8T{H':Hp}{Q:Unit->Shared->Prop}(hu:A.units+1<cLine)(I:Inv X pins σ H s)(g:DPut H a y v H')(ry:RelV y u)(rv:RelV v r)(h:∀s',Inv X pins σ H' s'->Q () s') :
  wpAny (model X.prog X.w) A (setItem (.ref a) u r) Q E s:=by
 rcases g with⟨kvs,k,e,ey,l,eH⟩|⟨kvs,k,b,e,ey,eb,l,eH⟩
 .subst ey eH;obtain⟨z,hd,vs,rel,dd⟩:=b6C I.hok e;have hz:vs.length<=sizeLine:=by rw[<-rel.length];exact z
  have hl:(a0L kvs k v).length<=sizeLine:=by have:=a1l kvs k v;omega
  refine wpAny_setItem_pairs (hsz:=hz) (a7m ry) dd λh' dd' hs=>h _ ?_;have he:∃q,h'.get? a=some q:=let ⟨q,_,_,hq,_⟩:=dd';⟨q,hq⟩
  exact a7H I (by rw[e];exact True.intro) hs he (b5w hl hd (rel.put k rv) dd')
 .subst ey eH;cases(show u=Value.ref b from ry);obtain⟨z,hd,xs,rel,dd⟩:=b6B I.hok e;have hz:xs.length<=sizeLine:=by rw[<-Paired.length rel];exact z
  have hl:(a0L kvs k v).length<=sizeLine:=by have:=a1l kvs k v;omega
  refine wpAny_setItem_heap (hsz:=hz) (tupleKind_room_in1 hu) (a4f I.hok eb) dd λh' dd' hs=>h _ ?_;obtain⟨q,es,ep,hq,h2,h3,h4,_,h5⟩:=dd';refine a7H I (by rw[e];exact True.intro) hs ⟨q,hq⟩ ⟨hl,hd,_,(rel.put k eb rv).keeps λc ys ec=>?_,q,es,ep,hq,h2,h3,h4,h5⟩;rw[A1 (L5 ec e (λz=>nomatch z))];exact ec
end
section
variable {X:Cx}{pins:List (Addr×Obj)}{σ:St}{H:Hp}{s:Shared}{a:Addr}{kvs:List (Key×V)}{k:Key}{u:Value}{A:Around}{E:Value->Shared->Prop}
end
def b5U(ty td:TE):TE:=λσ H Q=>ty σ H λy H1=>td σ H1 λx H2=>∃a o,x=.ref a/\DGet H2 a y o/\Q (.bl o.isSome) H2
def a6L(ty td:TE):TE:=λσ H Q=>ty σ H λy H1=>td σ H1 λx H2=>∃a o,x=.ref a/\DGet H2 a y o/\Q (.bl (!o.isSome)) H2
def b3V(td ty tv:TE):TS:=λD σ H=>tv σ H λv H1=>td σ H1 λx H2=>ty σ H2 λy H3=>∃a H4,x=.ref a/\DPut H3 a y v H4/\D.nx σ H4
section
variable {X:Cx}{o i e value:Expr}{pos pos' tpos:Pos}{td ty tv:TE}
theorem b4W(hu:X.A.units+1<cLine)(hi:PE X i ty)(ho:PE X o td):PC X .In i o (b5U ty td):=by
 intro pins s σ H Q I h;refine thn (hi pins s σ H _ I h) λiv s1 ⟨y,H1,I1,ry,q1⟩=>thn (ho pins s1 σ H1 _ I1 q1) λu s2 ⟨x,H2,I2,rx,a,ov,ex,g,q2⟩=>?_;subst ex;obtain rfl:u=Value.ref a:=rx;exact b6P hu I2 g ry λs3 I3=>⟨.bl ov.isSome,H2,I3,rfl,q2⟩
theorem a8s(hu:X.A.units+1<cLine)(hi:PE X i ty)(ho:PE X o td):PC X .NotIn i o (a6L ty td):=by
 intro pins s σ H Q I h;refine thn (hi pins s σ H _ I h) λiv s1 ⟨y,H1,I1,ry,q1⟩=>thn (ho pins s1 σ H1 _ I1 q1) λu s2 ⟨x,H2,I2,rx,a,ov,ex,g,q2⟩=>?_;subst ex;obtain rfl:u=Value.ref a:=rx;exact b3B hu I2 g ry λs3 I3=>⟨.bl (!ov.isSome),H2,I3,rfl,q2⟩
theorem b2D(hu:X.A.units+1<cLine)(ho:PE X o td)(hi:PE X i ty)(hv:PE X value tv)(hs:swapsWith value (some (.Subscript o i pos')) pos.line X.env=pure false) :
  PS X (.Assign [.Subscript o i pos'] value pos) (b3V td ty tv):=by
 intro pins s σ H D I h;refine wpAny_Assign_Subscript (thn (hv pins s σ H _ I h) λr s1 ⟨v,H1,I1,rv,q1⟩=>thn (ho pins s1 σ H1 _ I1 q1) λu s2 ⟨x,H2,I2,rx,q2⟩=>thn (hi pins s2 σ H2 _ I2 q2) λiv s3 ⟨y,H3,I3,ry,a,H4,ex,g,q3⟩=>?_) hs;subst ex;obtain rfl:u=Value.ref a:=rx;exact a8T hu I3 g ry rv λs4 I4=>⟨σ,H4,I4,q3⟩
end
theorem b1D{P:Program}{w:World}{H:Hp}(h:Heap)(hb:sysModules<h.objs.size):ObjOk P w H (h.push {cls:=.type "dict",data:=.dict #[]}) h.objs.size (.dT []) :=
 ⟨Nat.zero_le _,beq_eq_false_iff_ne.mpr (Ne.symm (Nat.ne_of_lt hb)),[],.nil,_,#[],0,Heap.get?_push_size _ rfl,⟨rfl,rfl,rfl⟩,rfl,rfl,List.nodup_nil⟩
def a9x:TE:=λ_ H Q=>∀p,H p=none->Q (.ref p) (upd H p (.dT []))
section
variable {X:Cx}{pos:Pos}
theorem b0s:PE X (.Dict [] [] pos) a9x:=λpins s σ H Q I h =>
 wpAny_Dict_empty ⟨.ref s.heap.objs.size,_,I.laid (a:=s.heap.objs.size) (o:=.dT []) (t':=s.toks) (λ_ _ q=>Heap.get?_push_of_some _ q) (Nat.le_refl _) (b1D s.heap I.big),rfl,h _ (I.hok.fresh (Nat.le_refl _))⟩
end
section
variable {X:Cx}{pins:List (Addr×Obj)}{σ:St}{H:Hp}{s:Shared}{a:Addr}{y d:V}{u r:Value}{o:Option V}{A:Around}{E:Value->Shared->Prop}
end
section
variable {X:Cx}{o e f:Expr}{apos cpos:Pos}{td ty tx:TE}
end
section
variable {X:Cx}{pins:List (Addr×Obj)}{σ:St}{H:Hp}{s:Shared}{a:Addr}{kvs:List (Key×V)}{A:Around}{E:Value->Shared->Prop}
end
section
variable {X:Cx}{pins:List (Addr×Obj)}{σ:St}{H:Hp}{s:Shared}{a:Addr}{y:V}{u:Value}{A:Around}{E:Value->Shared->Prop}
end
end L2
namespace Att
open PySem PySem.W PySem.Calls PyProof.Rows
section
variable {prog:Program}{w:World}{A:Around}{E:Value->Shared->Prop}{s:Shared}{K:Frag}
end
end Att
namespace L2
open PySem PySem.Spec PyProof.Rows
end L2
namespace L2
open PySem PySem.Spec PyProof.Rows
section
variable {P:Program}{w:World}{K:PySem.W.Frag}{mg:Str->Option Value}{base:Heap}
end
section
variable {X:Cx}
end
section
variable {κ:Type} [DecidableEq κ]
theorem a9q{kvs:List (κ×V)}{k:κ}(h:S5 kvs k=none):¬k∈kvs.map (·.1):=by
 intro m;obtain⟨p,hp,e⟩:=List.mem_map.mp m;have q:(kvs.any λkv=>decide (kv.1=k))=true:=List.any_eq_true.mpr ⟨p,hp,decide_eq_true e⟩;rw[T5,h]at q;exact absurd q (by simp)
theorem b2c{kvs:List (κ×V)}{k:κ}{v:V}(h:S5 kvs k=some v):k∈kvs.map (·.1):=by
 have q:(kvs.any λkv=>decide (kv.1=k))=true:=by
  rw[T5,h]
  all_goals rfl
 obtain⟨p,hp,e⟩:=List.any_eq_true.mp q;exact List.mem_map.mpr ⟨p,hp,of_decide_eq_true e⟩
theorem a7j:∀{l:List κ}{k:κ},l.Nodup->¬k∈l->(l++[k]).Nodup
 |[],k,_,_=>by simp
 |a::r,k,h,hk=>by
  obtain⟨h1,h2⟩:=List.nodup_cons.mp h;show(a::(r++[k])).Nodup;refine List.nodup_cons.mpr ⟨λm=>?_,a7j h2 λm=>hk (List.mem_cons.mpr (Or.inr m))⟩;rcases List.mem_append.mp m with q|q
  .exact h1 q
  .exact hk (List.mem_cons.mpr (Or.inl (List.mem_singleton.mp q).symm))
end
end L2
namespace L2
open PySem PySem.Spec PyProof.Rows PySem.W
section
variable {O:KeyOrd}{key:Nat->O.α}{N:Nat}{p:Array Nat}
noncomputable def kk(key:Nat->O.α)(p:Array Nat)(i:Nat):O.α:=key (p[i]?.getD 0)
end
theorem L7:∀a:List Int,HT.lexLt a a=false
 |[]=>rfl
 |x::xs=>by rw[HT.lexLt_cons,if_pos rfl];exact L7 xs
theorem a0P:∀a b c:List Int,HT.lexLt a b=true->HT.lexLt b c=true->HT.lexLt a c=true
 |[],[],_,h,_=>by cases h
 |_::_,[],_,h,_=>by cases h
 |_,_::_,[],_,h=>by cases h
 |[],_::_,_::_,_,_=>rfl
 |x::xs,y::ys,z::zs,h1,h2=>by
  rw[HT.lexLt_cons]at h1 h2⊢;by_cases e1:x=y
  .rw[if_pos e1]at h1;by_cases e2:y=z
   .rw[if_pos e2]at h2;rw[if_pos (e1.trans e2)];exact a0P xs ys zs h1 h2
   .rw[if_neg e2]at h2;rw[if_neg (by rw[e1];exact e2),e1];exact h2
  .rw[if_neg e1]at h1;have h1:=of_decide_eq_true h1;by_cases e2:y=z
   .rw[if_neg (by rw[<-e2];exact e1),<-e2];exact decide_eq_true h1
   .rw[if_neg e2]at h2;have h2:=of_decide_eq_true h2;rw[if_neg (by omega)];exact decide_eq_true (by omega)
theorem P0:∀a b:List Int,HT.lexLt a b=false->HT.lexLt b a=false->a=b
 |[],[],_,_=>rfl
 |[],_::_,h,_=>by cases h
 |_::_,[],_,h=>by cases h
 |x::xs,y::ys,h1,h2=>by
  rw[HT.lexLt_cons]at h1 h2;by_cases e:x=y
  .subst e;rw[if_pos rfl]at h1 h2;rw[P0 xs ys h1 h2]
  .rw[if_neg e]at h1;rw[if_neg (Ne.symm e)]at h2;have h1:=of_decide_eq_false h1;have h2:=of_decide_eq_false h2;omega
theorem b3i(a b c:List Int)(h:HT.lexLt a c=true):HT.lexLt a b=true∨HT.lexLt b c=true:=by
 cases h1:HT.lexLt a b with
 |true=>exact .inl rfl
 |false =>
  refine .inr ?_;cases h2:HT.lexLt b a with
  |true=>exact a0P b a c h2 h
  |false=>rw[<-P0 a b h1 h2];exact h
noncomputable def OL:KeyOrd:=⟨List Int,HT.lexLt,L7,a0P,b3i,P0⟩
def G0(tss:LLI):Prop:=tss.Pairwise λa b=>HT.lexLt b a=false
section
variable {prog:Program}{w:World}{A:Around}{E:Value->Shared->Prop}{s:Shared}
noncomputable def b3j(fin:Bool):List Int->List Int->Bool
 |[],_=>fin
 |_::_,[]=>fin
 |x::xs,y::ys=>if x=y then b3j fin xs ys else decide (x<y)
theorem a5g:∀(xs ys:List Int),b3j (decide (xs.length<ys.length)) xs ys=HT.lexLt xs ys
 |[],[]=>rfl
 |[],y::ys=>by
  show decide (0<ys.length+1)=true;exact decide_eq_true (by omega)
 |x::xs,[]=>by
  show decide (xs.length+1<0)=false;exact decide_eq_false (by omega)
 |x::xs,y::ys=>by
  rw[HT.lexLt_cons];show(if x=y then _ else _)=_;split
  .rw[<-a5g xs ys];congr 1;simp only[List.length_cons];exact decide_eq_decide.mpr (by omega)
  .rfl
theorem a8t{flag:Bool}{a b:Int}{t u:Tok}{Q:Bool->Shared->Prop}(h:Q (decide (a<b)) s):wpAny (model prog w) A (oneLt' flag (.int a t) (.int b u)) Q E s:=by
 cases flag with
 |true=>exact oneLt_int h
 |false=>exact kat_one _ _ (lt_int h)
theorem a1n{b fin:Bool}{Q:Bool->Shared->Prop}:∀{vs ws:List Value}{ns ms:List Int}(i:Nat),IntsAre vs ns->IntsAre ws ms->Q (b3j fin ns ms) s->KatLex prog w A b fin Q (vs.zip ws) i s
 |_,_,_,_,i,.nil,_,h=>h
 |_,_,_,_,i,.cons _ _ _,.nil,h=>h
 |_,_,_,_,i,.cons x t hx,.cons y u hy,h=>by
  rw[List.zip_cons_cons];refine kat_cons (wpAny_eqBool_int ?_);have h:Q (if x=y then b3j fin _ _ else decide (x<y)) s:=h;by_cases e:x=y
  .rw[if_pos e]at h;rw[show(x==y)=true from beq_iff_eq.mpr e];exact kat_yes (a1n (i+1) hx hy h)
  .rw[if_neg e]at h;rw[show(x==y)=false from beq_eq_false_iff_ne.mpr e];exact kat_no (a8t h)
def TupsAre(h:Heap)(vs:List Value)(rss:LLI):Prop:=vs.length=rss.length/\∀(i:Nat) (v:Value),vs[i]?=some v->∃(r:List Int) (b:Addr) (its:Array Value),rss[i]?=some r/\v=Value.ref b/\IsTup h b its/\IntsAre its.toList r
theorem TupsAre.keeps{h h':Heap}{vs:List Value}{rss:LLI}(t:TupsAre h vs rss)(k:∀b its,IsTup h b its->IsTup h' b its):TupsAre h' vs rss :=
 ⟨t.1,λi v e=>let ⟨r,b,its,e1,e2,e3,e4⟩:=t.2 i v e;⟨r,b,its,e1,e2,k _ _ e3,e4⟩⟩
theorem a4E{h:Heap}:∀{vs:List Value}{rss:LLI},TupsAre h vs rss->(∀r∈rss,0<r.length)->∃fs,KatTups h vs fs/\fs.length=vs.length/\∀f∈fs,∃n t,f=Value.int n t
 |[],_,_,_=>⟨[],trivial,rfl,λ_ z=>nomatch z⟩
 |v::vs,[],T,_=>by cases T.1
 |v::vs,r::rss,T,hw=>by
  obtain⟨fs,h1,h2,h3⟩:=a4E (vs:=vs) (rss:=rss) ⟨by have:=T.1;simpa using this,λi u e=>T.2 (i+1) u e⟩ λr hr=>hw r (List.mem_cons_of_mem _ hr);obtain⟨r',b,its,e1,e2,⟨o,q1,q2,n,q3⟩,e4⟩:=T.2 0 v rfl;cases e1;have hr:=hw r List.mem_cons_self;obtain⟨x,t,us,e5⟩:∃x t us,its.toList=Value.int x t::us:=by
   generalize its.toList=l at e4;cases e4 with
   |nil=>simp at hr
   |cons x t h=>exact⟨x,t,_,rfl⟩
  refine⟨.int x t::fs,⟨⟨b,o,its,n,e2,q1,q2,q3,?_⟩,h1⟩,by simp[h2],λf hf=>?_⟩
  .rw[<-Array.getElem?_toList,e5];rfl
  .rcases List.mem_cons.mp hf with rfl|hf
   .exact⟨x,t,rfl⟩
   .exact h3 f hf
theorem a7V{vs:List Value}{rss:LLI}{Q:SortKind->Shared->Prop}(T:TupsAre s.heap vs rss)(hw:∀r∈rss,0<r.length)(hv:0<vs.length)(h:Q (tuples' true) s):wpAny (model prog w) A (keyKind' vs.toArray) Q E s:=by
 obtain⟨fs,h1,h2,h3⟩:=a4E T hw;refine kat_kind (T:=.type "int") h1 (by omega) (λv hv=>?_) rfl ?_
 .obtain⟨n,t,rfl⟩:=h3 v hv;exact .now
 .rw[show(Value.type "int" != Value.type "tuple")=true from rfl];exact h
end
section
variable {prog:Program}{w:World}{A:Around}{E:Value->Shared->Prop}{s:Shared}
theorem R9{h:Heap}{a:Addr}{vs:List Value}{out:Array Value}:∀b o,b≠a->h.get? b=some o->(sortedHeap h a vs out).get? b=some o:=λb o hb e=>by
 unfold sortedHeap;rw[Heap.get?_update_ne _ _ _ _ hb];exact Heap.get?_push_of_some _ (Heap.get?_push_of_some _ (by rw[Heap.get?_update_ne _ _ _ _ hb];exact e))
theorem Z1{h:Heap}{a:Addr}{vs:List Value}{out:Array Value}{n:Nat}(ho:h.get? a=some (seqObj "list" vs.toArray n)):∃c,(sortedHeap h a vs out).get? a=some (seqObj "list" out c):=by
 unfold sortedHeap;have ha:a<h.objs.size:=Heap.lt_size ho;obtain⟨e1,ho1⟩:∃e1,(h.update a (Obj.mapSeq λ_=>#[])).get? a=some (seqObj "list" #[] e1):=⟨_,get?_update_seq ho (λ_=>#[])⟩;have ho6:(((h.update a (Obj.mapSeq λ_=>#[])).push (seqObj "tuple" vs.toArray 0)).push (seqObj "list" #[] 0)).get? a=some (seqObj "list" #[] e1):=Heap.get?_push_of_some _ (Heap.get?_push_of_some _ ho1);exact⟨_,get?_update_seq ho6 (λ_=>out)⟩
end
section
variable {X:Cx}
theorem a2w{pins:List (Addr×Obj)}{σ:St}{H:Hp}{s:Shared}(I:Inv X pins σ H s){ys:List V}{rss:LLI}{us:List Value}(h:Its H ys rss)(r:Vals ys us):TupsAre s.heap us rss:=by
 refine⟨by rw[<-r.length];exact h.1,λi v e=>?_⟩;have hi:i<ys.length:=by rw[r.length];exact(List.getElem?_eq_some_iff.mp e).1
 obtain⟨u,e1,e2⟩:=r.get (List.getElem?_eq_getElem hi);rw[e]at e1;cases e1;obtain⟨row,q1,a,q2,q3⟩:=h.2 i _ (List.getElem?_eq_getElem hi);rw[q2]at e2;cases e2;obtain⟨its,rv,tp,_⟩:=I.tuple (SqT.of (K:=X.K) q3);exact⟨row,a,its.toArray,q1,rfl,tp,by simpa using a6i rv⟩
end
noncomputable def O4:Bool->Keyed->Array Keyed->Nat->Nat->Nat->StateT SortSt Sem (Option Nat):=sortPriv% PySem.Builtin.gallop
noncomputable def O6(left:Bool)(key:Keyed)(arr:Array Keyed)(base:Nat)(i:Nat):StateT SortSt Sem (Option Bool):=do
 let x <-elem' arr (base+i)
 if left then lt' x key else return (<-lt' key x).map (!·)
noncomputable def b3G(left:Bool)(key:Keyed)(arr:Array Keyed)(base n lo₀ hi₀:Nat):StateT SortSt Sem (Option Nat):=do
 let mut lo:=lo₀
 let mut hi:=hi₀
 for _ in [0:n] do
  if lo ≥ hi then break
  let m:=lo+(hi-lo) / 2
  let some more <-O6 left key arr base m|return none
  if more then lo:=m+1 else hi:=m
 return some hi
theorem a6l(left:Bool)(key:Keyed)(arr:Array Keyed)(base n hint:Nat):O4 left key arr base n hint=(O6 left key arr base hint>>=λr=>match r with
 |some right=>(if right=true then
   (forIn [:n] ((none,0,1):Option (Option Nat)×Nat×Nat) (λ_ c=>if c.2.2 ≥ n-hint then pure (.done (none,c.2.1,c.2.2))else O6 left key arr base (hint+c.2.2)>>=λr=>match r with
     |some more=>(if (!more)=true then pure (.done (none,c.2.1,c.2.2))else pure (.yield (none,c.2.2,2*c.2.2+1)))
     |_=>pure (.done (some none,c.2.1,c.2.2)))>>=λc=>match c.1 with
    |some r=>pure r
    |none=>b3G left key arr base n (hint+c.2.1+1) (hint+min c.2.2 (n-hint)))
  else
   (forIn [:n] ((none,0,1):Option (Option Nat)×Nat×Nat) (λ_ c=>if c.2.2 ≥ hint+1 then pure (.done (none,c.2.1,c.2.2))else O6 left key arr base (hint-c.2.2)>>=λr=>match r with
     |some found=>(if found=true then pure (.done (none,c.2.1,c.2.2))else pure (.yield (none,c.2.2,2*c.2.2+1)))
     |_=>pure (.done (some none,c.2.1,c.2.2)))>>=λc=>match c.1 with
    |some r=>pure r
    |none=>b3G left key arr base n (hint+1-min c.2.2 (hint+1)) (hint-c.2.1)))
 |_=>pure none):=by
 show(_>>=_)=(_>>=_);refine congrArg _ (funext λr=>?_);cases r with
 |none=>rfl
 |some right =>
  dsimp only;refine ite_congr rfl (λ_=>?_) (λ_=>?_)
  .refine congr (congrArg _ (congrArg _ (funext λ_=>funext λc=>?_))) (funext λc=>?_)
   .rfl
   .rcases c with⟨_|q,c⟩<;>rfl
  .refine congr (congrArg _ (congrArg _ (funext λ_=>funext λc=>?_))) (funext λc=>?_)
   .rfl
   .rcases c with⟨_|q,c⟩<;>rfl
section
variable {prog:Program}{w:World}{A:Around}{E:Value->Shared->Prop}{s:Shared}
def Cmp(prog:Program)(w:World)(A:Around)(s:Shared)(κ:SortKind)(D:Keyed->Prop)(lt:Keyed->Keyed->Bool):Prop :=
 ∀x y (C:Bool->Shared->Prop),D x->D y->C (lt x y) s->wpAny (model prog w) A (keyLt' κ x.1 y.1) C (λ_ _=>False) s
variable {κ:SortKind}{D:Keyed->Prop}{lt:Keyed->Keyed->Bool}
theorem a0g{st:SortSt}{x y:Keyed}{Q:Option Bool->SortSt->Prop}(hc:Cmp prog w A s κ D lt)(hk:kindOf st=κ)(hx:D x)(hy:D y)(h:Q (some (lt x y)) st):wpS (model prog w) A E s (lt' x y) Q st:=by
 rw[lt'_eq];refine wpS_bind (wpS_get ?_);rw[hk];refine wpS_bind (wpS_lift (wpAny_attempt (wpAny_mono (hc x y (λb s'=>s'=s/\b=lt x y) hx hy ⟨rfl,rfl⟩) (λb s' ⟨e1,e2⟩=>?_) λ_ _ z=>z.elim)));rw[e1,e2];exact⟨rfl,wpS_pure h⟩
noncomputable def b1V(lt:Keyed->Keyed->Bool)(left:Bool)(key x:Keyed):Bool:=if left then lt x key else !(lt key x)
theorem a5C{st:SortSt}{left:Bool}{key x:Keyed}{arr:Array Keyed}{base i:Nat}{Q:Option Bool->SortSt->Prop}(hc:Cmp prog w A s κ D lt)(hk:kindOf st=κ)(hkey:D key)(hx:D x)(he:arr[base+i]?=some x)(h:Q (some (b1V lt left key x)) st) :
  wpS (model prog w) A E s (O6 left key arr base i) Q st:=by
 unfold O6;rw[elem'_eq,he];refine wpS_bind (wpS_pure ?_);unfold b1V at h;cases left with
 |true=>exact a0g hc hk hx hkey h
 |false=>exact wpS_bind (a0g hc hk hkey hx (wpS_pure h))
theorem a6J{st:SortSt}{left:Bool}{key:Keyed}{arr:Array Keyed}{base n lo hi:Nat}{Q:Option Nat->SortSt->Prop}(bb:Nat->Bool)
  (ask:∀i,i<n->∀{R:Option Bool->SortSt->Prop},R (some (bb i)) st->wpS (model prog w) A E s (O6 left key arr base i) R st) (mono:∀i j,i<=j->j<n->bb j=true->bb i=true) (neg:∀i j,i<=j->j<n->bb i=false->bb j=false)
  (h1:lo<=hi) (h2:hi<=n) (h3:∀i,i<lo->bb i=true) (h4:∀i,hi<=i->i<n->bb i=false)
  (h:∀k,k<=n->(∀i,i<k->bb i=true)->(∀i,k<=i->i<n->bb i=false)->Q (some k) st):wpS (model prog w) A E s (b3G left key arr base n lo hi) Q st:=by
 unfold b3G;dsimp only;refine wpS_bind (wpS_mono (wpS_forRange (I:=λx c st'=>st'=st/\∃l r,c=(none,l,r)/\l<=r/\r<=n/\r-l<=n-x/\(∀i,i<l->bb i=true)/\(∀i,r<=i->i<n->bb i=false))
  (Q:=λc st'=>st'=st/\∃l,c=(none,l,l)/\l<=n/\(∀i,i<l->bb i=true)/\(∀i,l<=i->i<n->bb i=false)) ?step ?fin ⟨rfl,lo,hi,rfl,h1,h2,by omega,h3,h4⟩) ?post)
 case fin =>
  rintro c st' ⟨rfl,l,r,rfl,a1,a2,a3,a4,a5⟩;have e:l=r:=by omega
  subst e;exact⟨rfl,l,rfl,a2,a4,a5⟩
 case step =>
  rintro x c st' _ hx ⟨rfl,l,r,rfl,a1,a2,a3,a4,a5⟩;dsimp only;by_cases hge:l ≥ r
  .rw[if_pos hge];have e:l=r:=by omega
   subst e;exact wpS_pure ⟨rfl,l,rfl,a2,a4,a5⟩
  .rw[if_neg hge];have hm:l+(r-l) / 2<n:=by omega
   refine wpS_bind (ask _ hm ?_);dsimp only;cases hb:bb (l+(r-l) / 2)with
   |true =>
    rw[if_pos rfl];exact wpS_pure ⟨rfl,_,r,rfl,by omega,a2,by omega,λi hi=>mono i _ (by omega) hm hb,a5⟩
   |false =>
    rw[if_neg (by simp)];exact wpS_pure ⟨rfl,l,_,rfl,by omega,by omega,by omega,a4,λi h1 h2=>neg _ i h1 h2 hb⟩
 case post =>
  rintro c st' ⟨rfl,l,rfl,a2,a4,a5⟩;exact wpS_pure (h l a2 a4 a5)
theorem I9{st:SortSt}{left:Bool}{key:Keyed}{arr:Array Keyed}{base n hint:Nat}{Q:Option Nat->SortSt->Prop}(hc:Cmp prog w A s κ D lt)(hk:kindOf st=κ)(hkey:D key)(bb:Nat->Bool)
  (hb:∀i,i<n->∃x,arr[base+i]?=some x/\D x/\b1V lt left key x=bb i) (mono:∀i j,i<=j->j<n->bb j=true->bb i=true) (hh:hint<n)
  (h:∀k,k<=n->(∀i,i<k->bb i=true)->(∀i,k<=i->i<n->bb i=false)->Q (some k) st):wpS (model prog w) A E s (O4 left key arr base n hint) Q st:=by
 have ask:∀i,i<n->∀{R:Option Bool->SortSt->Prop},R (some (bb i)) st->wpS (model prog w) A E s (O6 left key arr base i) R st:=λi hi R hR=>by
  obtain⟨x,e1,e2,e3⟩:=hb i hi;exact a5C hc hk hkey e2 e1 (by rw[e3];exact hR)
 have neg:∀i j,i<=j->j<n->bb i=false->bb j=false:=λi j hij hj e=>by
  cases e2:bb j with
  |false=>rfl
  |true=>rw[mono i j hij hj e2]at e;cases e
 rw[a6l];refine wpS_bind (ask hint hh ?_);dsimp only;cases hb0:bb hint with
 |true =>
  rw[if_pos rfl];refine wpS_bind (wpS_mono (wpS_forRange (I:=λx c st'=>st'=st/\∃l o,c=(none,l,o)/\l<o/\x+1<=o/\hint+l<n/\bb (hint+l)=true)
   (Q:=λc st'=>st'=st/\∃l o,c=(none,l,o)/\l<o/\hint+l<n/\bb (hint+l)=true/\(o ≥ n-hint∨bb (hint+o)=false)) ?step ?fin ⟨rfl,0,1,rfl,by omega,by omega,by omega,hb0⟩) ?post)
  case fin =>
   rintro c st' ⟨rfl,l,o,rfl,a1,a2,a3,a4⟩;exact⟨rfl,l,o,rfl,a1,a3,a4,.inl (by omega)⟩
  case step =>
   rintro x c st' _ hx ⟨rfl,l,o,rfl,a1,a2,a3,a4⟩;dsimp only;by_cases hge:o ≥ n-hint
   .rw[if_pos hge];exact wpS_pure ⟨rfl,l,o,rfl,a1,a3,a4,.inl hge⟩
   .rw[if_neg hge];refine wpS_bind (ask _ (by omega) ?_);dsimp only;cases hb:bb (hint+o)with
    |true =>
     rw[if_neg (by simp)];exact wpS_pure ⟨rfl,o,2*o+1,rfl,by omega,by omega,by omega,hb⟩
    |false =>
     rw[if_pos (by rfl)];exact wpS_pure ⟨rfl,l,o,rfl,a1,a3,a4,.inr hb⟩
  case post =>
   rintro c st' ⟨rfl,l,o,rfl,a1,a3,a4,a5⟩;dsimp only;refine a6J (lo:=hint+l+1) (hi:=hint+min o (n-hint)) bb ask mono neg (by omega) (by omega) (λi hi=>mono i (hint+l) (by omega) a3 a4) (λi h1 h2=>?_) h;rcases a5 with a5|a5
   .omega
   .exact neg (hint+o) i (by omega) h2 a5
 |false =>
  rw[if_neg (by simp)];refine wpS_bind (wpS_mono (wpS_forRange (I:=λx c st'=>st'=st/\∃l o,c=(none,l,o)/\l<o/\x+1<=o/\l<=hint/\bb (hint-l)=false)
   (Q:=λc st'=>st'=st/\∃l o,c=(none,l,o)/\l<o/\l<=hint/\bb (hint-l)=false/\(o ≥ hint+1∨bb (hint-o)=true)) ?step ?fin ⟨rfl,0,1,rfl,by omega,by omega,by omega,hb0⟩) ?post)
  case fin =>
   rintro c st' ⟨rfl,l,o,rfl,a1,a2,a3,a4⟩;exact⟨rfl,l,o,rfl,a1,a3,a4,.inl (by omega)⟩
  case step =>
   rintro x c st' _ hx ⟨rfl,l,o,rfl,a1,a2,a3,a4⟩;dsimp only;by_cases hge:o ≥ hint+1
   .rw[if_pos hge];exact wpS_pure ⟨rfl,l,o,rfl,a1,a3,a4,.inl hge⟩
   .rw[if_neg hge];refine wpS_bind (ask _ (by omega) ?_);dsimp only;cases hb:bb (hint-o)with
    |true =>
     rw[if_pos rfl];exact wpS_pure ⟨rfl,l,o,rfl,a1,a3,a4,.inr hb⟩
    |false =>
     rw[if_neg (by simp)];exact wpS_pure ⟨rfl,o,2*o+1,rfl,by omega,by omega,by omega,hb⟩
  case post =>
   rintro c st' ⟨rfl,l,o,rfl,a1,a3,a4,a5⟩;dsimp only;refine a6J (lo:=hint+1-min o (hint+1)) (hi:=hint-l) bb ask mono neg (by omega) (by omega) (λi hi=>?_) (λi h1 h2=>neg (hint-l) i h1 h2 a4) h;rcases a5 with a5|a5
   .omega
   .exact mono i (hint-o) (by omega) (by omega) a5
end
section
variable {O:KeyOrd}{kf:Keyed->O.α}{la lb o:List Keyed}{ia ib:Nat}
def leK(kf:Keyed->O.α)(x y:Keyed):Prop:=O.kle (kf x) (kf y)
noncomputable def ltK(kf:Keyed->O.α)(x y:Keyed):Bool:=O.blt (kf x) (kf y)
structure MS(kf:Keyed->O.α)(la lb o:List Keyed)(ia ib:Nat):Prop where
 perm:o.Perm (la.take ia++lb.take ib)
 sorted:o.Pairwise (leK kf)
 ra:∀x∈o,∀y∈la.drop ia,leK kf x y
 rb:∀x∈o,∀y∈lb.drop ib,leK kf x y
theorem Y0{α:Type}{l:List α}{i:Nat}{x:α}(h:l[i]?=some x):l.drop i=x::l.drop (i+1):=by
 obtain⟨hi,e⟩:=List.getElem?_eq_some_iff.mp h;rw[List.drop_eq_getElem_cons hi,e]
theorem U4{l:List Keyed}{i:Nat}{x:Keyed}(hs:l.Pairwise (leK kf))(h:l[i]?=some x):∀y∈l.drop (i+1),leK kf x y:=by
 have:=hs.drop (i:=i);rw[Y0 h]at this;exact(List.pairwise_cons.mp this).1
theorem P9{α:Type}{l:List α}{i:Nat}{x:α}(h:l[i]?=some x):l.take (i+1)=l.take i++[x]:=by
 rw[List.take_add_one,h];rfl
theorem MS.stepA{x:Keyed}(h:MS kf la lb o ia ib)(hs:la.Pairwise (leK kf))(e:la[ia]?=some x)(hb:∀y∈lb.drop ib,leK kf x y):MS kf la lb (o++[x]) (ia+1) ib:=by
 have hx:x∈la.drop ia:=by rw[Y0 e];exact List.mem_cons_self
 refine⟨?_,?_,λz hz y hy=>?_,λz hz y hy=>?_⟩
 .rw[P9 e];have:=h.perm.append_right [x];refine this.trans ?_;rw[List.append_assoc,List.append_assoc];exact List.Perm.append_left _ List.perm_append_comm
 .rw[List.pairwise_append];exact⟨h.sorted,List.pairwise_singleton _ _,λz hz y hy=>by rw[List.mem_singleton.mp hy];exact h.ra z hz x hx⟩
 .have hy':y∈la.drop ia:=by rw[Y0 e];exact List.mem_cons_of_mem _ hy
  rcases List.mem_append.mp hz with q|q
  .exact h.ra z q y hy'
  .rw[List.mem_singleton.mp q];exact U4 hs e y hy
 .rcases List.mem_append.mp hz with q|q
  .exact h.rb z q y hy
  .rw[List.mem_singleton.mp q];exact hb y hy
theorem MS.swap(h:MS kf la lb o ia ib):MS kf lb la o ib ia:=⟨h.perm.trans List.perm_append_comm,h.sorted,h.rb,h.ra⟩
theorem MS.stepB{x:Keyed}(h:MS kf la lb o ia ib)(hs:lb.Pairwise (leK kf))(e:lb[ib]?=some x)(ha:∀y∈la.drop ia,leK kf x y):MS kf la lb (o++[x]) ia (ib+1) :=
 (h.swap.stepA hs e ha).swap
theorem MS.bulkA(hs:la.Pairwise (leK kf)):∀(k:Nat) {o:List Keyed}{ia:Nat},MS kf la lb o ia ib->ia+k<=la.length->(∀i x,i<k->la[ia+i]?=some x->∀y∈lb.drop ib,leK kf x y)->MS kf la lb (o++(la.drop ia).take k) (ia+k) ib
 |0,o,ia,h,_,_=>by rw[List.take_zero,List.append_nil];exact h
 |k+1,o,ia,h,hl,hk=>by
  obtain⟨x,hx⟩:∃x,la[ia]?=some x:=⟨_,List.getElem?_eq_getElem (by omega)⟩;have h1:=h.stepA hs hx (hk 0 x (by omega) hx);have h2:=MS.bulkA hs k h1 (by omega) λi y hi e=>hk (i+1) y (by omega) (by rw[<-e];congr 1;omega);rw[Y0 hx,List.take_succ_cons];rw[List.append_assoc]at h2;rw[show ia+(k+1)=ia+1+k by omega];exact h2
theorem MS.bulkB(hs:lb.Pairwise (leK kf)){k:Nat}(h:MS kf la lb o ia ib)(hl:ib+k<=lb.length)(hk:∀i x,i<k->lb[ib+i]?=some x->∀y∈la.drop ia,leK kf x y):MS kf la lb (o++(lb.drop ib).take k) ia (ib+k) :=
 (MS.bulkA hs k h.swap hl hk).swap
def a1c(kf:Keyed->O.α)(la lb o:List Keyed):Prop:=o.Perm (la++lb)/\o.Pairwise (leK kf)
theorem MS.done(h:MS kf la lb o ia ib)(hs:la.Pairwise (leK kf))(hb:ib=lb.length):a1c kf la lb (o++la.drop ia++lb.drop ib):=by
 subst hb;rw[List.drop_length,List.append_nil];have hp:=h.perm;rw[List.take_length]at hp;refine⟨?_,?_⟩
 .refine(hp.append_right _).trans ?_;rw[List.append_assoc];refine(List.Perm.append_left _ List.perm_append_comm).trans ?_;rw[<-List.append_assoc,List.take_append_drop]
 .rw[List.pairwise_append];exact⟨h.sorted,hs.drop,h.ra⟩
theorem MS.lastA(h:MS kf la lb o ia ib)(hsa:la.Pairwise (leK kf))(hs:lb.Pairwise (leK kf))(hl:∀y∈lb.drop ib,∀x∈la.drop ia,leK kf y x):a1c kf la lb (o++lb.drop ib++la.drop ia):=by
 refine⟨?_,?_⟩
 .have hp:=(h.perm.append_right (lb.drop ib)).append_right (la.drop ia);refine hp.trans ?_;rw[List.append_assoc (la.take ia),List.take_append_drop,List.append_assoc];refine(List.Perm.append_left _ List.perm_append_comm).trans ?_;rw[<-List.append_assoc,List.take_append_drop]
 .rw[List.pairwise_append];refine⟨?_,hsa.drop,λx hx y hy=>?_⟩
  .rw[List.pairwise_append];exact⟨h.sorted,hs.drop,h.rb⟩
  .rcases List.mem_append.mp hx with q|q
   .exact h.ra x q y hy
   .exact hl x q y hy
end
noncomputable def a2j:Array Keyed->Array Keyed->StateT SortSt Sem (Array Keyed):=sortPriv% PySem.Builtin.mergeLo
noncomputable def W9(g:Nat):StateT SortSt Sem Unit:=modify λs=>SortSt.mk' (kindOf s) (arrOf s) (pendingOf s) g (failedOf s)
noncomputable def M0(a b out:Array Keyed)(ia ib:Nat):Array Keyed:=out++a.extract ia a.size++b.extract ib b.size
noncomputable def a0a(a b out:Array Keyed)(ia ib:Nat):Array Keyed:=out++b.extract ib b.size++a.extract ia a.size
abbrev T1:Type:=Option (Array Keyed)×Array Keyed×Nat×Nat×Nat×Nat
abbrev T2:Type:=Option (Array Keyed)×Array Keyed×Nat×Nat×Nat×Nat×Nat
noncomputable def loD(a b out:Array Keyed)(ia ib mg k k1:Nat):StateT SortSt Sem (ForInStep T2) :=
 elem' a ia>>=λx =>
 if (ia+1+1==a.size)=true then pure (.done (some (a0a a b (out.push x) (ia+1) ib),out.push x,ia+1,ib,mg,k,k1))
 else if (decide (k<7) && decide (k1<7))=true then pure (.done (none,out.push x,ia+1,ib,mg,k,k1))
 else pure (.yield (none,out.push x,ia+1,ib,mg,k,k1))
noncomputable def loC(a b out:Array Keyed)(ia ib mg k bc:Nat):StateT SortSt Sem (ForInStep T2) :=
 elem' b ib>>=λy =>
 if (ib+1==b.size)=true then pure (.done (some (M0 a b (out.push y) ia (ib+1)),out.push y,ia,ib+1,mg,k,bc))
 else elem' a ia>>=λx=>O4 true x b (ib+1) (b.size-(ib+1)) 0>>=λr =>
  match r with
  |some k1=>(if k1 > 0 then
    (if (ib+1+k1==b.size)=true then pure (.done (some (M0 a b (out.push y++b.extract (ib+1) (ib+1+k1)) ia (ib+1+k1)),out.push y++b.extract (ib+1) (ib+1+k1),ia,ib+1+k1,mg,k,k1))
    else loD a b (out.push y++b.extract (ib+1) (ib+1+k1)) ia (ib+1+k1) mg k k1)
   else loD a b (out.push y) ia (ib+1) mg k k1)
  |_=>pure (.done (some (M0 a b (out.push y) ia (ib+1)),out.push y,ia,ib+1,mg,k,bc))
noncomputable def loB(a b out:Array Keyed)(ia ib mg ac bc:Nat):StateT SortSt Sem (ForInStep T2) :=
 W9 mg>>=λ_=>elem' b ib>>=λy=>O4 false y a ia (a.size-ia) 0>>=λr =>
 match r with
 |some k=>(if k > 0 then
   (if (ia+k+1==a.size)=true then pure (.done (some (a0a a b (out++a.extract ia (ia+k)) (ia+k) ib),out++a.extract ia (ia+k),ia+k,ib,mg,k,bc))
   else if (ia+k==a.size)=true then pure (.done (some (M0 a b (out++a.extract ia (ia+k)) (ia+k) ib),out++a.extract ia (ia+k),ia+k,ib,mg,k,bc))
   else loC a b (out++a.extract ia (ia+k)) (ia+k) ib mg k bc)
  else loC a b out ia ib mg k bc)
 |_=>pure (.done (some (M0 a b out ia ib),out,ia,ib,mg,ac,bc))
noncomputable def loA(a b out:Array Keyed)(ia ib ac bc mg:Nat):StateT SortSt Sem (ForInStep T1) :=
 elem' b ib>>=λy=>elem' a ia>>=λx=>lt' y x>>=λr =>
 match r with
 |some bWins=>(if bWins=true then elem' b ib>>=λy =>
   (if (ib+1==b.size)=true then pure (.done (some (M0 a b (out.push y) ia (ib+1)),out.push y,ia,ib+1,0,bc+1))
   else if bc+1 ≥ mg then pure (.done (none,out.push y,ia,ib+1,0,bc+1))
   else pure (.yield (none,out.push y,ia,ib+1,0,bc+1)))
  else elem' a ia>>=λx =>
   (if (ia+1+1==a.size)=true then pure (.done (some (a0a a b (out.push x) (ia+1) ib),out.push x,ia+1,ib,ac+1,0))
   else if ac+1 ≥ mg then pure (.done (none,out.push x,ia+1,ib,ac+1,0))
   else pure (.yield (none,out.push x,ia+1,ib,ac+1,0))))
 |_=>pure (.done (some (M0 a b out ia ib),out,ia,ib,ac,bc))
theorem a5d(a b:Array Keyed):a2j a b=(do
 rule "list.sort.merge-lo"
 let y <-elem' b 0
 if (1==b.size)=true then pure (M0 a b #[y] 0 1)
 else if (0+1==a.size)=true then pure (a0a a b #[y] 0 1)
 else do
  let g <-get
  let r <-forIn [:a.size+b.size] ((none,#[y],0,1,gallopOf g):Option (Array Keyed)×Array Keyed×Nat×Nat×Nat) λ_ c=>do
   let r <-forIn [:a.size+b.size] ((none,c.2.1,c.2.2.1,c.2.2.2.1,0,0):T1) λ_ d=>loA a b d.2.1 d.2.2.1 d.2.2.2.1 d.2.2.2.2.1 d.2.2.2.2.2 c.2.2.2.2
   match r.1 with
   |some q=>pure (ForInStep.done (some q,r.2.1,r.2.2.1,r.2.2.2.1,c.2.2.2.2))
   |none=>do
    rule "list.sort.gallop"
    let t <-forIn [:a.size+b.size] ((none,r.2.1,r.2.2.1,r.2.2.2.1,c.2.2.2.2+1,r.2.2.2.2.1,r.2.2.2.2.2):T2) λ_ d =>
     if d.2.2.2.2.1 > 1 then loB a b d.2.1 d.2.2.1 d.2.2.2.1 (d.2.2.2.2.1-1) d.2.2.2.2.2.1 d.2.2.2.2.2.2 else loB a b d.2.1 d.2.2.1 d.2.2.2.1 d.2.2.2.2.1 d.2.2.2.2.2.1 d.2.2.2.2.2.2
    match t.1 with
    |some q=>pure (ForInStep.done (some q,t.2.1,t.2.2.1,t.2.2.2.1,t.2.2.2.2.1))
    |none=>do
     W9 (t.2.2.2.2.1+1)
     pure (ForInStep.yield (none,t.2.1,t.2.2.1,t.2.2.2.1,t.2.2.2.2.1+1))
  match r.1 with
  |some q=>pure q
  |none=>unsupported "internal:list.sort.merge-bound"):=by
 show(_>>=_)=(_>>=_);refine congrArg _ (funext λ_=>?_);dsimp only;refine congrArg _ (funext λy=>?_);refine ite_congr rfl (λ_=>rfl) (λ_=>ite_congr rfl (λ_=>rfl) λ_=>?_);refine congrArg _ (funext λg=>?_);refine congr (congrArg _ (congrArg _ (funext λ_=>funext λc=>?_))) (funext λr=>?_)
 .refine congr (congrArg _ (congrArg _ (funext λ_=>funext λd=>?_))) (funext λr=>?_)
  .rfl
  .rcases r with⟨_|q,r⟩
   .dsimp only;refine congrArg _ (funext λ_=>?_);refine congr (congrArg _ (congrArg _ (funext λ_=>funext λd=>?_))) (funext λr=>?_)
    .rfl
    .rcases r with⟨_|q,r⟩<;>rfl
   .rfl
 .rcases r with⟨_|q,r⟩
  .dsimp only
  .rfl
theorem a1L{α:Type}(a:Array α)(i:Nat):(a.extract i a.size).toList=a.toList.drop i:=by
 rw[Array.toList_extract];simp[List.extract_eq_drop_take'];rw[<-Array.length_toList,List.take_length]
theorem a2G{α:Type}(a:Array α)(i k:Nat):(a.extract i (i+k)).toList=(a.toList.drop i).take k:=by
 rw[Array.toList_extract];simp[List.extract_eq_drop_take]
theorem a5t(a b out:Array Keyed)(ia ib:Nat):(M0 a b out ia ib).toList=out.toList++a.toList.drop ia++b.toList.drop ib:=by
 unfold M0;rw[Array.toList_append,Array.toList_append,a1L,a1L]
theorem a5j(a b out:Array Keyed)(ia ib:Nat):(a0a a b out ia ib).toList=out.toList++b.toList.drop ib++a.toList.drop ia:=by
 unfold a0a;rw[Array.toList_append,Array.toList_append,a1L,a1L]
section
variable {prog:Program}{w:World}{A:Around}{E:Value->Shared->Prop}{s:Shared}{κ:SortKind}{D:Keyed->Prop}{O:KeyOrd}{kf:Keyed->O.α}{a b out:Array Keyed}{ia ib:Nat}{st:SortSt}
def Good(st st':SortSt):Prop:=kindOf st'=kindOf st/\arrOf st'=arrOf st/\pendingOf st'=pendingOf st/\failedOf st'=failedOf st
structure Two(D:Keyed->Prop)(kf:Keyed->O.α)(a b:Array Keyed):Prop where
 da:∀(i:Nat) x,a[i]?=some x->D x
 db:∀(i:Nat) x,b[i]?=some x->D x
 sa:a.toList.Pairwise (leK kf)
 sb:b.toList.Pairwise (leK kf)
 last:∀y∈b.toList,∀x,a[a.size-1]?=some x->ltK kf y x=true
theorem R1{l:List Keyed}{i:Nat}{x z:Keyed}(hs:l.Pairwise (leK kf))(e:l[i]?=some x)(h:leK kf z x):∀y∈l.drop i,leK kf z y:=λy hy=>by
 rw[Y0 e]at hy;rcases List.mem_cons.mp hy with rfl|hy
 .exact h
 .exact KeyOrd.kle_trans h (U4 hs e y hy)
def MI(kf:Keyed->O.α)(a b out:Array Keyed)(ia ib:Nat):Prop:=MS kf a.toList b.toList out.toList ia ib/\ia+1<a.size/\ib<b.size
def C5(kf:Keyed->O.α)(a b r:Array Keyed):Prop:=a1c kf a.toList b.toList r.toList
theorem X6(T:Two D kf a b)(h:MS kf a.toList b.toList out.toList ia ib)(hi:ia+1=a.size):C5 kf a b (a0a a b out ia ib):=by
 unfold C5;rw[a5j];refine h.lastA T.sa T.sb λy hy x hx=>?_;have hlt:ia<a.toList.length:=by rw[Array.length_toList];omega
 rw[List.drop_eq_getElem_cons hlt,List.drop_eq_nil_of_le (by rw[Array.length_toList];omega),List.mem_singleton]at hx;refine KeyOrd.kle_of_klt (T.last y (List.mem_of_mem_drop hy) x ?_);rw[hx,show a.size-1=ia by omega,<-Array.getElem?_toList,List.getElem?_eq_getElem hlt]
theorem Y5(T:Two D kf a b)(h:MS kf a.toList b.toList out.toList ia ib)(hi:ib=b.size):C5 kf a b (M0 a b out ia ib):=by
 unfold C5;rw[a5t];exact h.done T.sa (by rw[Array.length_toList];exact hi)
theorem B3{arr:Array Keyed}{i:Nat}(hi:i<arr.size){Q:Keyed->SortSt->Prop}(h:∀x,arr[i]?=some x->arr.toList[i]?=some x->Q x st):wpS (model prog w) A E s (elem' arr i) Q st:=by
 rw[elem'_eq];have e:arr[i]?=some arr[i]:=getElem?_pos arr i hi;rw[e];exact wpS_pure (h _ e (by rw[Array.getElem?_toList];exact e))
def P2(kf:Keyed->O.α)(st:SortSt)(a b:Array Keyed)(c0:Nat)(c:T2)(st':SortSt):Prop:=Good st st'/\((∃r,c.1=some r/\C5 kf a b r)∨(c.1=none/\MI kf a b c.2.1 c.2.2.1 c.2.2.2.1/\c0<=c.2.2.1+c.2.2.2.1))
def Y2(kf:Keyed->O.α)(st:SortSt)(a b:Array Keyed)(c0:Nat)(c:T2)(st':SortSt):Prop:=Good st st'/\c.1=none/\MI kf a b c.2.1 c.2.2.1 c.2.2.2.1/\c0<=c.2.2.1+c.2.2.2.1
def R2'(kf:Keyed->O.α)(st:SortSt)(a b:Array Keyed)(c0:Nat)(r:ForInStep T2)(st':SortSt):Prop:=match r with | .done c'=>P2 kf st a b c0 c' st' | .yield c'=>Y2 kf st a b c0 c' st'
variable {c0 mg k k1 bc ac:Nat}{st':SortSt}
theorem a6C(T:Two D kf a b)(g:Good st st')(h:MI kf a b out ia ib)(hx:∀x,a.toList[ia]?=some x->∀y∈b.toList.drop ib,leK kf x y)(hc0:c0<=ia+ib):wpS (model prog w) A E s (loD a b out ia ib mg k k1) (R2' kf st a b c0) st':=by
 unfold loD;refine wpS_bind (B3 (by have:=h.2.1;omega) λx e1 e2=>?_);have hm:=h.1.stepA T.sa e2 (hx x e2);rw[<-Array.toList_push]at hm;split
 .rename_i e;exact wpS_pure ⟨g,.inl ⟨_,rfl,X6 T hm (eq_of_beq e)⟩⟩
 .rename_i e;have e:¬ia+1+1=a.size:=λz=>e (beq_iff_eq.mpr z);have hq:MI kf a b (out.push x) (ia+1) ib:=⟨hm,by have:=h.2.1;omega,h.2.2⟩;split
  .exact wpS_pure ⟨g,.inr ⟨rfl,hq,by show c0<=ia+1+ib;omega⟩⟩
  .exact wpS_pure ⟨g,rfl,hq,by show c0<=ia+1+ib;omega⟩
theorem gdK(a:Array Keyed){i:Nat}(hi:i<a.size):a[i]?=some (a.getD i (Value.none,Value.none)):=by
 rw[Array.getD_eq_getD_getElem?,getElem?_pos a i hi];rfl
theorem X5{l:List Keyed}(hs:l.Pairwise (leK kf)){i j:Nat}{x y:Keyed}(hij:i<=j)(ex:l[i]?=some x)(ey:l[j]?=some y):leK kf x y:=by
 by_cases e:i=j
 .subst e;rw[ex]at ey;cases ey;exact KeyOrd.kle_refl _
 .refine U4 hs ex y ?_;have:(l.drop (i+1))[j-(i+1)]?=some y:=by rw[List.getElem?_drop,<-ey];congr 1;omega
  exact List.mem_of_getElem? this
theorem a6D(T:Two D kf a b)(hcm:Cmp prog w A s κ D (ltK kf))(hk:kindOf st=κ)(g:Good st st')(h:MI kf a b out ia ib)(hy:∀y,b.toList[ib]?=some y->∀x∈a.toList.drop ia,leK kf y x)(hc0:c0<=ia+ib):wpS (model prog w) A E s (loC a b out ia ib mg k bc) (R2' kf st a b c0) st':=by
 unfold loC;obtain⟨hms,hia,hib⟩:=h;refine wpS_bind (B3 hib λy e1 e2=>?_);have hm:=hms.stepB T.sb e2 (hy y e2);rw[<-Array.toList_push]at hm;split
 .rename_i e;exact wpS_pure ⟨g,.inl ⟨_,rfl,Y5 T hm (eq_of_beq e)⟩⟩
 .rename_i e;have e:¬ib+1=b.size:=λz=>e (beq_iff_eq.mpr z);refine wpS_bind (B3 (by omega) λx f1 f2=>?_);refine wpS_bind (I9 hcm (g.1.trans hk) (T.da _ _ f1) (λi=>ltK kf (b.getD (ib+1+i) (Value.none,Value.none)) x) (λi hi=>⟨_,gdK b (by omega),T.db _ _ (gdK b (by omega)),rfl⟩) (λi j hij hj hb=>?_) (by omega) λk1 q1 q2 q3=>?_)
  .refine KeyOrd.klt_of_kle_of_klt (X5 T.sb (i:=ib+1+i) (j:=ib+1+j) (by omega) ?_ ?_) hb
   .rw[Array.getElem?_toList];exact gdK b (by omega)
   .rw[Array.getElem?_toList];exact gdK b (by omega)
  .dsimp only;have hrest:∀(ib':Nat),ib'=ib+1+k1->ib'<b.size->∀x',a.toList[ia]?=some x'->∀y∈b.toList.drop ib',leK kf x' y:=λib' e1 e2 x' ex'=>by
    rw[f2]at ex';cases ex';have hb0:b.toList[ib']?=some (b.getD ib' (Value.none,Value.none)):=by rw[Array.getElem?_toList];exact gdK b e2
    refine R1 T.sb hb0 ?_;have:=q3 k1 (Nat.le_refl _) (by omega);rw[<-e1]at this;exact this
   split
   .have hbk:=MS.bulkB T.sb (k:=k1) hm (by rw[Array.length_toList];omega) λi z hi ez=>by
     refine R1 T.sa f2 ?_;have:=q2 i hi;rw[Array.getElem?_toList,gdK b (by omega)]at ez;cases ez;exact KeyOrd.kle_of_klt this
    rw[<-a2G,<-Array.toList_append]at hbk;split
    .rename_i e3;exact wpS_pure ⟨g,.inl ⟨_,rfl,Y5 T hbk (eq_of_beq e3)⟩⟩
    .rename_i e3;have e3:¬ib+1+k1=b.size:=λz=>e3 (beq_iff_eq.mpr z);exact a6C T g ⟨hbk,hia,by omega⟩ (hrest _ rfl (by omega)) (by omega)
   .exact a6C T g ⟨hm,hia,by omega⟩ (hrest _ (by omega) (by omega)) (by omega)
theorem P8{Q:Unit->SortSt->Prop}(h:∀st2,Good st' st2->Q () st2):wpS (model prog w) A E s (W9 mg) Q st':=by
 unfold W9;exact wpS_modify (h _ ⟨rfl,rfl,rfl,rfl⟩)
theorem Good.trans{st st' st2:SortSt}(h:Good st st')(h2:Good st' st2):Good st st2:=⟨h2.1.trans h.1,h2.2.1.trans h.2.1,h2.2.2.1.trans h.2.2.1,h2.2.2.2.trans h.2.2.2⟩
theorem a6E(T:Two D kf a b)(hcm:Cmp prog w A s κ D (ltK kf))(hk:kindOf st=κ)(g:Good st st')(h:MI kf a b out ia ib)(hc0:c0<=ia+ib):wpS (model prog w) A E s (loB a b out ia ib mg ac bc) (R2' kf st a b c0) st':=by
 unfold loB;obtain⟨hms,hia,hib⟩:=h;refine wpS_bind (P8 λst2 g2=>?_);have g:=g.trans g2;refine wpS_bind (B3 hib λy e1 e2=>?_);refine wpS_bind (I9 hcm (g.1.trans hk) (T.db _ _ e1) (λi=>!(ltK kf y (a.getD (ia+i) (Value.none,Value.none)))) (λi hi=>⟨_,gdK a (by omega),T.da _ _ (gdK a (by omega)),rfl⟩) (λi j hij hj hb=>?_) (by omega) λk q1 q2 q3=>?_)
 .have hle:leK kf (a.getD (ia+j) (Value.none,Value.none)) y:=by
   unfold leK KeyOrd.kle;unfold ltK at hb;simpa using hb
  have:=KeyOrd.kle_trans (X5 T.sa (i:=ia+i) (j:=ia+j) (by omega) (by rw[Array.getElem?_toList];exact gdK a (by omega)) (by rw[Array.getElem?_toList];exact gdK a (by omega))) hle;unfold KeyOrd.kle at this;unfold ltK;rw[this];rfl
 .dsimp only;have hlast:ltK kf y (a.getD (a.size-1) (Value.none,Value.none))=true:=T.last y (List.mem_of_getElem? e2) _ (gdK a (by omega));have hkl:ia+k<a.size:=by
   refine Nat.lt_of_not_le λhge=>?_;have:=q2 (a.size-1-ia) (by omega);rw[show ia+(a.size-1-ia)=a.size-1 by omega,hlast]at this;cases this
  have hrest:∀ia',ia'=ia+k->∀y',b.toList[ib]?=some y'->∀x∈a.toList.drop ia',leK kf y' x:=λia' e y' ey=>by
   rw[e2]at ey;cases ey;have ha0:a.toList[ia']?=some (a.getD ia' (Value.none,Value.none)):=by rw[Array.getElem?_toList];exact gdK a (by omega)
   refine R1 T.sa ha0 ?_;have:=q3 k (Nat.le_refl _) (by omega);rw[<-e]at this;refine KeyOrd.kle_of_klt ?_;unfold KeyOrd.klt;unfold ltK at this;simpa using this
  split
  .have hbk:=MS.bulkA T.sa k hms (by rw[Array.length_toList];omega) λi z hi ez=>by
    refine R1 T.sb e2 ?_;have:=q2 i hi;rw[Array.getElem?_toList,gdK a (by omega)]at ez;cases ez;unfold leK KeyOrd.kle;unfold ltK at this;simpa using this
   rw[<-a2G,<-Array.toList_append]at hbk;split
   .rename_i e3;exact wpS_pure ⟨g,.inl ⟨_,rfl,X6 T hbk (eq_of_beq e3)⟩⟩
   .rename_i e3;have e3:¬ia+k+1=a.size:=λz=>e3 (beq_iff_eq.mpr z);split
    .rename_i e4;have e4:=eq_of_beq e4;omega
    .exact a6D T hcm hk g ⟨hbk,by omega,hib⟩ (hrest _ rfl) (by omega)
  .exact a6D T hcm hk g ⟨hms,hia,hib⟩ (hrest _ (by omega)) hc0
def P1(kf:Keyed->O.α)(st:SortSt)(a b:Array Keyed)(c0:Nat)(c:T1)(st':SortSt):Prop:=Good st st'/\((∃r,c.1=some r/\C5 kf a b r)∨(c.1=none/\MI kf a b c.2.1 c.2.2.1 c.2.2.2.1/\c0<=c.2.2.1+c.2.2.2.1))
def Y1(kf:Keyed->O.α)(st:SortSt)(a b:Array Keyed)(c0:Nat)(c:T1)(st':SortSt):Prop:=Good st st'/\c.1=none/\MI kf a b c.2.1 c.2.2.1 c.2.2.2.1/\c0<=c.2.2.1+c.2.2.2.1
def R1'(kf:Keyed->O.α)(st:SortSt)(a b:Array Keyed)(c0:Nat)(r:ForInStep T1)(st':SortSt):Prop:=match r with | .done c'=>P1 kf st a b c0 c' st' | .yield c'=>Y1 kf st a b c0 c' st'
theorem b2a(T:Two D kf a b)(hcm:Cmp prog w A s κ D (ltK kf))(hk:kindOf st=κ)(g:Good st st')(h:MI kf a b out ia ib)(hc0:c0<=ia+ib):wpS (model prog w) A E s (loA a b out ia ib ac bc mg) (R1' kf st a b (c0+1)) st':=by
 unfold loA;obtain⟨hms,hia,hib⟩:=h;refine wpS_bind (B3 hib λy e1 e2=>?_);refine wpS_bind (B3 (by omega) λx f1 f2=>?_);refine wpS_bind (a0g hcm (g.1.trans hk) (T.db _ _ e1) (T.da _ _ f1) ?_);dsimp only;cases hb:ltK kf y x with
 |true =>
  rw[if_pos rfl];refine wpS_bind (B3 hib λy' e1' e2'=>?_);rw[e2]at e2';cases e2';have hm:=hms.stepB T.sb e2 (R1 T.sa f2 (KeyOrd.kle_of_klt hb));rw[<-Array.toList_push]at hm;split
  .rename_i e;exact wpS_pure ⟨g,.inl ⟨_,rfl,Y5 T hm (eq_of_beq e)⟩⟩
  .rename_i e;have e:¬ib+1=b.size:=λz=>e (beq_iff_eq.mpr z);have hq:MI kf a b (out.push y) ia (ib+1):=⟨hm,hia,by omega⟩;split
   .exact wpS_pure ⟨g,.inr ⟨rfl,hq,by show c0+1<=ia+(ib+1);omega⟩⟩
   .exact wpS_pure ⟨g,rfl,hq,by show c0+1<=ia+(ib+1);omega⟩
 |false =>
  rw[if_neg (by simp)];refine wpS_bind (B3 (by omega) λx' e1' e2'=>?_);rw[f2]at e2';cases e2';have hm:=hms.stepA T.sa f2 (R1 T.sb e2 hb);rw[<-Array.toList_push]at hm;split
  .rename_i e;exact wpS_pure ⟨g,.inl ⟨_,rfl,X6 T hm (eq_of_beq e)⟩⟩
  .rename_i e;have e:¬ia+1+1=a.size:=λz=>e (beq_iff_eq.mpr z);have hq:MI kf a b (out.push x) (ia+1) ib:=⟨hm,by omega,hib⟩;split
   .exact wpS_pure ⟨g,.inr ⟨rfl,hq,by show c0+1<=ia+1+ib;omega⟩⟩
   .exact wpS_pure ⟨g,rfl,hq,by show c0+1<=ia+1+ib;omega⟩
theorem O8{n:String}{Q:Unit->SortSt->Prop}(h:Q () st):wpS (model prog w) A E s (liftM (rule n):StateT SortSt Sem Unit) Q st:=wpS_lift (wpAny_rule ⟨rfl,h⟩)
theorem a4y(T:Two D kf a b)(hcm:Cmp prog w A s κ D (ltK kf))(hk:kindOf st=κ)(ha:0<a.size)(hb:0<b.size)(h0:∀y,b.toList[0]?=some y->∀x∈a.toList,leK kf y x){Q:Array Keyed->SortSt->Prop}
  (q:∀r st',C5 kf a b r->Good st st'->Q r st'):wpS (model prog w) A E s (a2j a b) Q st:=by
 rw[a5d];refine wpS_bind (O8 ?_);refine wpS_bind (B3 hb λy e1 e2=>?_);have hm0:MS kf a.toList b.toList (#[y]:Array Keyed).toList 0 1:=by
  have z:MS kf a.toList b.toList [] 0 0:=⟨.nil,.nil,(λ_ h=>nomatch h),λ_ h=>nomatch h⟩;exact z.stepB T.sb e2 (λx hx=>h0 y e2 x hx)
 have gr:Good st st:=⟨rfl,rfl,rfl,rfl⟩;split
 .rename_i e;exact wpS_pure (q _ _ (Y5 T hm0 (eq_of_beq e)) gr)
 .rename_i e;have e:¬1=b.size:=λz=>e (beq_iff_eq.mpr z);split
  .rename_i e';exact wpS_pure (q _ _ (X6 T hm0 (eq_of_beq e')) gr)
  .rename_i e';have e':¬0+1=a.size:=λz=>e' (beq_iff_eq.mpr z);refine wpS_bind (wpS_get ?_);refine wpS_bind (wpS_mono (wpS_forRange (I:=λx c st'=>Good st st'/\c.1=none/\MI kf a b c.2.1 c.2.2.1 c.2.2.2.1/\x+1<=c.2.2.1+c.2.2.2.1)
    (Q:=λc st'=>Good st st'/\∃r,c.1=some r/\C5 kf a b r) ?step ?fin ⟨gr,rfl,⟨hm0,by show 0+1<a.size;omega,by show 1<b.size;omega⟩,Nat.le_refl _⟩) ?post)
   case post =>
    rintro c st' ⟨g,r,e1,e2⟩;obtain⟨c1,c2⟩:=c;dsimp only at e1;subst e1;exact wpS_pure (q _ _ e2 g)
   case fin =>
    rintro c st' ⟨g,e1,⟨_,h1,h2⟩,h3⟩;exfalso;omega
   case step =>
    rintro x c st1 _ hx ⟨g,e1,hMI,hx2⟩;refine wpS_bind (wpS_mono (wpS_forRange (I:=λz d st'=>Y1 kf st a b (x+1+min z 1) d st') (Q:=λd st'=>P1 kf st a b (x+2) d st') ?s1 ?f1 ⟨g,rfl,hMI,by show x+1+min 0 1<=c.2.2.1+c.2.2.2.1;omega⟩) ?p1)
    case f1 =>
     rintro d st' ⟨g,e1,h1,h2⟩;exact⟨g,.inr ⟨e1,h1,by omega⟩⟩
    case s1 =>
     rintro z d st' _ hz ⟨g,e1,h1,h2⟩;refine wpS_mono (b2a T hcm hk g h1 (c0:=x+1) (by omega)) λr st2 hr=>?_;cases r with
     |done c'=>exact hr
     | «yield» c'=>exact⟨hr.1,hr.2.1,hr.2.2.1,by have:=hr.2.2.2;omega⟩
    case p1 =>
     rintro d st' ⟨g,hd⟩;obtain⟨d1,d2⟩:=d;rcases hd with⟨r,e1,e2⟩|⟨e1,h1,h2⟩
     .dsimp only at e1;subst e1;exact wpS_pure ⟨g,r,rfl,e2⟩
     .dsimp only at e1;subst e1;refine wpS_bind (O8 ?_);refine wpS_bind (wpS_mono (wpS_forRange (I:=λz d st'=>Y2 kf st a b (x+2) d st') (Q:=λd st'=>P2 kf st a b (x+2) d st') ?s2 ?f2 ⟨g,rfl,h1,h2⟩) ?p2)
      case f2 =>
       rintro d st' ⟨g,e1,h1,h2⟩;exact⟨g,.inr ⟨e1,h1,h2⟩⟩
      case s2 =>
       rintro z d st' _ hz ⟨g,e1,h1,h2⟩;split
       .refine wpS_mono (a6E T hcm hk g h1 h2) λr st2 hr=>?_;cases r<;>exact hr
       .refine wpS_mono (a6E T hcm hk g h1 h2) λr st2 hr=>?_;cases r<;>exact hr
      case p2 =>
       rintro d st' ⟨g,hd⟩;obtain⟨d1,d2⟩:=d;rcases hd with⟨r,e1,e2⟩|⟨e1,h1,h2⟩
       .dsimp only at e1;subst e1;exact wpS_pure ⟨g,r,rfl,e2⟩
       .dsimp only at e1;subst e1;refine wpS_bind (P8 λst3 g3=>?_);exact wpS_pure ⟨g.trans g3,rfl,h1,h2⟩
end
section
variable {O:KeyOrd}{kf:Keyed->O.α}{la lb o:List Keyed}{na nb:Nat}
structure MH(kf:Keyed->O.α)(la lb o:List Keyed)(na nb:Nat):Prop where
 perm:o.Perm (la.drop na++lb.drop nb)
 sorted:o.Pairwise (leK kf)
 ra:∀x∈la.take na,∀y∈o,leK kf x y
 rb:∀x∈lb.take nb,∀y∈o,leK kf x y
theorem a1i{l:List Keyed}{i:Nat}{x:Keyed}(hs:l.Pairwise (leK kf))(h:l[i]?=some x):∀y∈l.take i,leK kf y x:=λy hy=>by
 have:=hs.take (i:=i+1);rw[P9 h,List.pairwise_append]at this;exact this.2.2 y hy x (List.mem_singleton.mpr rfl)
theorem MH.stepA{x:Keyed}(h:MH kf la lb o (na+1) nb)(hs:la.Pairwise (leK kf))(e:la[na]?=some x)(hb:∀y∈lb.take nb,leK kf y x):MH kf la lb (x::o) na nb:=by
 have hx:x∈la.take (na+1):=by rw[P9 e];exact List.mem_append_right _ (List.mem_singleton.mpr rfl)
 refine⟨?_,?_,λz hz y hy=>?_,λz hz y hy=>?_⟩
 .rw[Y0 e,List.cons_append];exact h.perm.cons x
 .rw[List.pairwise_cons];exact⟨λy hy=>h.ra x hx y hy,h.sorted⟩
 .rcases List.mem_cons.mp hy with rfl|hy
  .exact a1i hs e z hz
  .exact h.ra z (by rw[P9 e];exact List.mem_append_left _ hz) y hy
 .rcases List.mem_cons.mp hy with rfl|hy
  .exact hb z hz
  .exact h.rb z hz y hy
theorem MH.swap(h:MH kf la lb o na nb):MH kf lb la o nb na:=⟨h.perm.trans List.perm_append_comm,h.sorted,h.rb,h.ra⟩
theorem MH.stepB{x:Keyed}(h:MH kf la lb o na (nb+1))(hs:lb.Pairwise (leK kf))(e:lb[nb]?=some x)(ha:∀y∈la.take na,leK kf y x):MH kf la lb (x::o) na nb:=(h.swap.stepA hs e ha).swap
theorem MH.bulkA(hs:la.Pairwise (leK kf)){at_:Nat}:∀(k:Nat) {o:List Keyed},MH kf la lb o (at_+k) nb->at_+k<=la.length->(∀i x,at_<=i->i<at_+k->la[i]?=some x->∀y∈lb.take nb,leK kf y x)->MH kf la lb ((la.take (at_+k)).drop at_++o) at_ nb
 |0,o,h,hl,_=>by
  rw[Nat.add_zero,List.drop_eq_nil_of_le (by rw[List.length_take];omega),List.nil_append];exact h
 |k+1,o,h,hl,hk=>by
  obtain⟨x,hx⟩:∃x,la[at_+k]?=some x:=⟨_,List.getElem?_eq_getElem (by omega)⟩;have h1:=MH.stepA (na:=at_+k) h hs hx (hk _ x (by omega) (by omega) hx);have h2:=MH.bulkA hs k h1 (by omega) λi y h1 h2 e=>hk i y h1 (by omega) e;rw[show at_+(k+1)=at_+k+1 by omega,P9 hx,List.drop_append_of_le_length (by rw[List.length_take];omega),List.append_assoc];exact h2
theorem MH.bulkB(hs:lb.Pairwise (leK kf)){at_ k:Nat}(h:MH kf la lb o na (at_+k))(hl:at_+k<=lb.length)(hk:∀i x,at_<=i->i<at_+k->lb[i]?=some x->∀y∈la.take na,leK kf y x):MH kf la lb ((lb.take (at_+k)).drop at_++o) na at_ :=
 (MH.bulkA hs k h.swap hl hk).swap
theorem MH.done(h:MH kf la lb o 0 nb)(hs:lb.Pairwise (leK kf)):a1c kf la lb (la.take 0++lb.take nb++o):=by
 rw[List.take_zero,List.nil_append];have hp:=h.perm;rw[List.drop_zero]at hp;refine⟨?_,?_⟩
 .refine(List.Perm.append_left _ hp).trans ?_;rw[<-List.append_assoc];refine(List.Perm.append_right _ List.perm_append_comm).trans ?_;rw[List.append_assoc,List.take_append_drop]
 .rw[List.pairwise_append];exact⟨hs.take,h.sorted,h.rb⟩
theorem MH.firstB(h:MH kf la lb o na nb)(hsa:la.Pairwise (leK kf))(hs:lb.Pairwise (leK kf))(hl:∀y∈lb.take nb,∀x∈la.take na,leK kf y x):a1c kf la lb (lb.take nb++la.take na++o):=by
 refine⟨?_,?_⟩
 .refine(List.Perm.append_left _ h.perm).trans ?_;rw[List.append_assoc,<-List.append_assoc (la.take na),List.take_append_drop];refine List.perm_append_comm.trans ?_;rw[List.append_assoc];refine List.Perm.append_left _ (List.perm_append_comm.trans ?_);rw[List.take_append_drop]
 .rw[List.pairwise_append];refine⟨?_,h.sorted,λx hx y hy=>?_⟩
  .rw[List.pairwise_append];exact⟨hs.take,hsa.take,hl⟩
  .rcases List.mem_append.mp hx with q|q
   .exact h.rb x q y hy
   .exact h.ra x q y hy
end
noncomputable def a2k:Array Keyed->Array Keyed->StateT SortSt Sem (Array Keyed):=sortPriv% PySem.Builtin.mergeHi
noncomputable def M1(a b out:Array Keyed)(na nb:Nat):Array Keyed:=a.extract 0 na++b.extract 0 nb++out.reverse
noncomputable def R7(a b out:Array Keyed)(na nb:Nat):Array Keyed:=b.extract 0 nb++a.extract 0 na++out.reverse
abbrev U1:Type:=Option (Array Keyed)×Nat×Nat×Array Keyed×Nat×Nat
abbrev U2:Type:=Option (Array Keyed)×Nat×Nat×Array Keyed×Nat×Nat×Nat
noncomputable def hiD(a b:Array Keyed)(na nb:Nat)(out:Array Keyed)(mg k k1:Nat):StateT SortSt Sem (ForInStep U2) :=
 elem' a (na-1)>>=λx =>
 if (na-1==0)=true then pure (.done (some (M1 a b (out.push x) (na-1) nb),na-1,nb,out.push x,mg,k,k1))
 else if (decide (k<7) && decide (k1<7))=true then pure (.done (none,na-1,nb,out.push x,mg,k,k1))
 else pure (.yield (none,na-1,nb,out.push x,mg,k,k1))
noncomputable def hiC(a b:Array Keyed)(na nb:Nat)(out:Array Keyed)(mg k bc:Nat):StateT SortSt Sem (ForInStep U2) :=
 elem' b (nb-1)>>=λy =>
 if (nb-1==1)=true then pure (.done (some (R7 a b (out.push y) na (nb-1)),na,nb-1,out.push y,mg,k,bc))
 else elem' a (na-1)>>=λx=>O4 true x b 0 (nb-1) (nb-1-1)>>=λr =>
  match r with
  |some at_=>(if nb-1-at_ > 0 then
    (if (at_==1)=true then pure (.done (some (R7 a b (out.push y++(b.extract at_ (nb-1)).reverse) na at_),na,at_,out.push y++(b.extract at_ (nb-1)).reverse,mg,k,nb-1-at_))
    else if (at_==0)=true then pure (.done (some (M1 a b (out.push y++(b.extract at_ (nb-1)).reverse) na at_),na,at_,out.push y++(b.extract at_ (nb-1)).reverse,mg,k,nb-1-at_))
    else hiD a b na at_ (out.push y++(b.extract at_ (nb-1)).reverse) mg k (nb-1-at_))
   else hiD a b na (nb-1) (out.push y) mg k (nb-1-at_))
  |_=>pure (.done (some (M1 a b (out.push y) na (nb-1)),na,nb-1,out.push y,mg,k,bc))
noncomputable def hiB(a b:Array Keyed)(na nb:Nat)(out:Array Keyed)(mg ac bc:Nat):StateT SortSt Sem (ForInStep U2) :=
 W9 mg>>=λ_=>elem' b (nb-1)>>=λy=>O4 false y a 0 na (na-1)>>=λr =>
 match r with
 |some at_=>(if na-at_ > 0 then
   (if (at_==0)=true then pure (.done (some (M1 a b (out++(a.extract at_ na).reverse) at_ nb),at_,nb,out++(a.extract at_ na).reverse,mg,na-at_,bc))
   else hiC a b at_ nb (out++(a.extract at_ na).reverse) mg (na-at_) bc)
  else hiC a b na nb out mg (na-at_) bc)
 |_=>pure (.done (some (M1 a b out na nb),na,nb,out,mg,ac,bc))
noncomputable def hiA(a b:Array Keyed)(na nb:Nat)(out:Array Keyed)(ac bc mg:Nat):StateT SortSt Sem (ForInStep U1) :=
 elem' b (nb-1)>>=λy=>elem' a (na-1)>>=λx=>lt' y x>>=λr =>
 match r with
 |some aWins=>(if aWins=true then elem' a (na-1)>>=λx =>
   (if (na-1==0)=true then pure (.done (some (M1 a b (out.push x) (na-1) nb),na-1,nb,out.push x,ac+1,0))
   else if ac+1 ≥ mg then pure (.done (none,na-1,nb,out.push x,ac+1,0))
   else pure (.yield (none,na-1,nb,out.push x,ac+1,0)))
  else elem' b (nb-1)>>=λy =>
   (if (nb-1==1)=true then pure (.done (some (R7 a b (out.push y) na (nb-1)),na,nb-1,out.push y,0,bc+1))
   else if bc+1 ≥ mg then pure (.done (none,na,nb-1,out.push y,0,bc+1))
   else pure (.yield (none,na,nb-1,out.push y,0,bc+1))))
 |_=>pure (.done (some (M1 a b out na nb),na,nb,out,ac,bc))
theorem a5e(a b:Array Keyed):a2k a b=(do
 rule "list.sort.merge-hi"
 let y <-elem' a (a.size-1)
 if (a.size-1==0)=true then pure (M1 a b #[y] (a.size-1) b.size)
 else if (b.size==1)=true then pure (R7 a b #[y] (a.size-1) b.size)
 else do
  let g <-get
  let r <-forIn [:a.size+b.size] ((none,a.size-1,b.size,#[y],gallopOf g):Option (Array Keyed)×Nat×Nat×Array Keyed×Nat) λ_ c=>do
   let r <-forIn [:a.size+b.size] ((none,c.2.1,c.2.2.1,c.2.2.2.1,0,0):U1) λ_ d=>hiA a b d.2.1 d.2.2.1 d.2.2.2.1 d.2.2.2.2.1 d.2.2.2.2.2 c.2.2.2.2
   match r.1 with
   |some q=>pure (ForInStep.done (some q,r.2.1,r.2.2.1,r.2.2.2.1,c.2.2.2.2))
   |none=>do
    rule "list.sort.gallop"
    let t <-forIn [:a.size+b.size] ((none,r.2.1,r.2.2.1,r.2.2.2.1,c.2.2.2.2+1,r.2.2.2.2.1,r.2.2.2.2.2):U2) λ_ d =>
     if d.2.2.2.2.1 > 1 then hiB a b d.2.1 d.2.2.1 d.2.2.2.1 (d.2.2.2.2.1-1) d.2.2.2.2.2.1 d.2.2.2.2.2.2 else hiB a b d.2.1 d.2.2.1 d.2.2.2.1 d.2.2.2.2.1 d.2.2.2.2.2.1 d.2.2.2.2.2.2
    match t.1 with
    |some q=>pure (ForInStep.done (some q,t.2.1,t.2.2.1,t.2.2.2.1,t.2.2.2.2.1))
    |none=>do
     W9 (t.2.2.2.2.1+1)
     pure (ForInStep.yield (none,t.2.1,t.2.2.1,t.2.2.2.1,t.2.2.2.2.1+1))
  match r.1 with
  |some q=>pure q
  |none=>unsupported "internal:list.sort.merge-bound"):=by
 show(_>>=_)=(_>>=_);refine congrArg _ (funext λ_=>?_);dsimp only;refine congrArg _ (funext λy=>?_);refine ite_congr rfl (λ_=>rfl) (λ_=>ite_congr rfl (λ_=>rfl) λ_=>?_);refine congrArg _ (funext λg=>?_);refine congr (congrArg _ (congrArg _ (funext λ_=>funext λc=>?_))) (funext λr=>?_)
 .refine congr (congrArg _ (congrArg _ (funext λ_=>funext λd=>?_))) (funext λr=>?_)
  .rfl
  .rcases r with⟨_|q,r⟩
   .dsimp only;refine congrArg _ (funext λ_=>?_);refine congr (congrArg _ (congrArg _ (funext λ_=>funext λd=>?_))) (funext λr=>?_)
    .rfl
    .rcases r with⟨_|q,r⟩<;>rfl
   .rfl
 .rcases r with⟨_|q,r⟩
  .dsimp only
  .rfl
theorem a0X{α:Type}(a:Array α)(i n:Nat):(a.extract i n).toList=(a.toList.take n).drop i:=by
 rw[Array.toList_extract];simp[List.extract_eq_drop_take']
theorem a5u(a b out:Array Keyed)(na nb:Nat):(M1 a b out na nb).toList=a.toList.take na++b.toList.take nb++out.toList.reverse:=by
 unfold M1;rw[Array.toList_append,Array.toList_append,a0X,a0X,Array.toList_reverse,List.drop_zero,List.drop_zero]
theorem a4o(a b out:Array Keyed)(na nb:Nat):(R7 a b out na nb).toList=b.toList.take nb++a.toList.take na++out.toList.reverse:=by
 unfold R7;rw[Array.toList_append,Array.toList_append,a0X,a0X,Array.toList_reverse,List.drop_zero,List.drop_zero]
theorem a0q(out:Array Keyed)(x:Keyed):(out.push x).toList.reverse=x::out.toList.reverse:=by
 rw[Array.toList_push,List.reverse_append];rfl
theorem a7P(out a:Array Keyed)(i n:Nat):(out++(a.extract i n).reverse).toList.reverse=(a.toList.take n).drop i++out.toList.reverse:=by
 rw[Array.toList_append,List.reverse_append,Array.toList_reverse,List.reverse_reverse,a0X]
section
variable {prog:Program}{w:World}{A:Around}{E:Value->Shared->Prop}{s:Shared}{κ:SortKind}{D:Keyed->Prop}{O:KeyOrd}{kf:Keyed->O.α}{a b out:Array Keyed}{na nb:Nat}{st:SortSt}
def a3F(kf:Keyed->O.α)(a b:Array Keyed):Prop:=∀y,b.toList[0]?=some y->∀x∈a.toList,ltK kf y x=true
theorem Q5{l:List Keyed}{i:Nat}{x z:Keyed}(hs:l.Pairwise (leK kf))(e:l[i]?=some x)(h:leK kf x z):∀y∈l.take (i+1),leK kf y z:=λy hy=>by
 rw[P9 e]at hy;rcases List.mem_append.mp hy with hy|hy
 .exact KeyOrd.kle_trans (a1i hs e y hy) h
 .rw[List.mem_singleton.mp hy];exact h
def MJ(kf:Keyed->O.α)(a b out:Array Keyed)(na nb:Nat):Prop:=MH kf a.toList b.toList out.toList.reverse na nb/\1<=na/\2<=nb/\na<=a.size/\nb<=b.size
theorem Y6(T:Two D kf a b)(h:MH kf a.toList b.toList out.toList.reverse na nb)(hi:na=0):C5 kf a b (M1 a b out na nb):=by
 subst hi;unfold C5;rw[a5u];exact h.done T.sb
theorem R6(T:Two D kf a b)(F:a3F kf a b)(h:MH kf a.toList b.toList out.toList.reverse na nb)(hi:nb=1)(hb:0<b.size):C5 kf a b (R7 a b out na nb):=by
 subst hi;unfold C5;rw[a4o];refine h.firstB T.sa T.sb λy hy x hx=>?_;have e:b.toList[0]?=some (b.getD 0 (Value.none,Value.none)):=by rw[Array.getElem?_toList];exact gdK b hb
 rw[P9 e,List.take_zero,List.nil_append,List.mem_singleton]at hy;rw[hy];exact KeyOrd.kle_of_klt (F _ e x (List.mem_of_mem_take hx))
def P4(kf:Keyed->O.α)(st:SortSt)(a b:Array Keyed)(c0:Nat)(c:U2)(st':SortSt):Prop:=Good st st'/\((∃r,c.1=some r/\C5 kf a b r)∨(c.1=none/\MJ kf a b c.2.2.2.1 c.2.1 c.2.2.1/\c.2.1+c.2.2.1+c0<=a.size+b.size))
def Y4(kf:Keyed->O.α)(st:SortSt)(a b:Array Keyed)(c0:Nat)(c:U2)(st':SortSt):Prop:=Good st st'/\c.1=none/\MJ kf a b c.2.2.2.1 c.2.1 c.2.2.1/\c.2.1+c.2.2.1+c0<=a.size+b.size
def R4(kf:Keyed->O.α)(st:SortSt)(a b:Array Keyed)(c0:Nat)(r:ForInStep U2)(st':SortSt):Prop:=match r with | .done c'=>P4 kf st a b c0 c' st' | .yield c'=>Y4 kf st a b c0 c' st'
variable {c0 mg k k1 bc ac:Nat}{st':SortSt}
theorem a6F(T:Two D kf a b)(g:Good st st')(h:MJ kf a b out na nb)(hx:∀x,a.toList[na-1]?=some x->∀y∈b.toList.take nb,leK kf y x)(hc0:na+nb+c0<=a.size+b.size):wpS (model prog w) A E s (hiD a b na nb out mg k k1) (R4 kf st a b c0) st':=by
 unfold hiD;obtain⟨hms,h1,h2,h3,h4⟩:=h;refine wpS_bind (B3 (by omega) λx e1 e2=>?_);obtain⟨n,rfl⟩:∃n,na=n+1:=⟨na-1,by omega⟩;rw[Nat.add_sub_cancel]at e1 e2 hx⊢;have hm:=hms.stepA T.sa e2 (hx x e2);rw[<-a0q]at hm;split
 .rename_i e;exact wpS_pure ⟨g,.inl ⟨_,rfl,Y6 T hm (eq_of_beq e)⟩⟩
 .rename_i e;have e:¬n=0:=λz=>e (beq_iff_eq.mpr z);have hq:MJ kf a b (out.push x) n nb:=⟨hm,by omega,h2,by omega,h4⟩;split
  .exact wpS_pure ⟨g,.inr ⟨rfl,hq,by show n+nb+c0<=_;omega⟩⟩
  .exact wpS_pure ⟨g,rfl,hq,by show n+nb+c0<=_;omega⟩
theorem a6G(T:Two D kf a b)(F:a3F kf a b)(hcm:Cmp prog w A s κ D (ltK kf))(hk:kindOf st=κ)(g:Good st st')(h:MJ kf a b out na nb)(hy:∀y,b.toList[nb-1]?=some y->∀x∈a.toList.take na,leK kf x y)(hc0:na+nb+c0<=a.size+b.size):wpS (model prog w) A E s (hiC a b na nb out mg k bc) (R4 kf st a b c0) st':=by
 unfold hiC;obtain⟨hms,h1,h2,h3,h4⟩:=h;refine wpS_bind (B3 (by omega) λy e1 e2=>?_);obtain⟨m,rfl⟩:∃m,nb=m+1:=⟨nb-1,by omega⟩;rw[Nat.add_sub_cancel]at e1 e2 hy⊢;have hm:=hms.stepB T.sb e2 (hy y e2);rw[<-a0q]at hm;split
 .rename_i e;exact wpS_pure ⟨g,.inl ⟨_,rfl,R6 T F hm (eq_of_beq e) (by omega)⟩⟩
 .rename_i e;have e:¬m=1:=λz=>e (beq_iff_eq.mpr z);refine wpS_bind (B3 (by omega) λx f1 f2=>?_);refine wpS_bind (I9 hcm (g.1.trans hk) (T.da _ _ f1) (λi=>ltK kf (b.getD (0+i) (Value.none,Value.none)) x) (λi hi=>⟨_,gdK b (by omega),T.db _ _ (gdK b (by omega)),rfl⟩) (λi j hij hj hb=>?_) (by omega) λat_ q1 q2 q3=>?_)
  .refine KeyOrd.klt_of_kle_of_klt (X5 T.sb (i:=0+i) (j:=0+j) (by omega) ?_ ?_) hb
   .rw[Array.getElem?_toList];exact gdK b (by omega)
   .rw[Array.getElem?_toList];exact gdK b (by omega)
  .dsimp only;have hat:1<=at_:=by
    refine Nat.pos_of_ne_zero λz=>?_;have:=q3 0 (by omega) (by omega);have hF:=F (b.getD 0 (Value.none,Value.none)) (by rw[Array.getElem?_toList];exact gdK b (by omega)) x (List.mem_of_getElem? f2);rw[Nat.zero_add]at this;rw[hF]at this;cases this
   have hrest:∀x',a.toList[na-1]?=some x'->∀nb',nb'=at_->∀y∈b.toList.take nb',leK kf y x':=λx' ex' nb' en=>by
    rw[f2]at ex';cases ex';obtain⟨n,hn⟩:∃n,nb'=n+1:=⟨nb'-1,by omega⟩;rw[hn];have hb0:b.toList[n]?=some (b.getD n (Value.none,Value.none)):=by rw[Array.getElem?_toList];exact gdK b (by omega)
    refine Q5 T.sb hb0 (KeyOrd.kle_of_klt ?_);have:=q2 n (by omega);rw[Nat.zero_add]at this;exact this
   split
   .obtain⟨j,hj⟩:∃j,m=at_+j:=⟨m-at_,by omega⟩;have hbk:MH kf a.toList b.toList ((b.toList.take (at_+j)).drop at_++(out.push y).toList.reverse) na at_:=by
     rw[hj]at hm;refine MH.bulkB T.sb hm (by rw[Array.length_toList];omega) λi z i1 i2 ez=>?_;have:=q3 i i1 (by omega);rw[Nat.zero_add]at this;rw[Array.getElem?_toList,gdK b (by omega)]at ez;cases ez;have hle:leK kf x (b.getD i (Value.none,Value.none)):=this;have:=Q5 T.sa f2 hle;rwa[show na-1+1=na by omega]at this
    rw[<-hj,<-a7P]at hbk;split
    .rename_i e3;exact wpS_pure ⟨g,.inl ⟨_,rfl,R6 T F hbk (eq_of_beq e3) (by omega)⟩⟩
    .rename_i e3;have e3:¬at_=1:=λz=>e3 (beq_iff_eq.mpr z);split
     .rename_i e4;have e4:=eq_of_beq e4;omega
     .exact a6F T g ⟨hbk,h1,by omega,h3,by omega⟩ (λx' ex'=>hrest x' ex' _ rfl) (by omega)
   .exact a6F T g ⟨hm,h1,by omega,h3,by omega⟩ (λx' ex'=>hrest x' ex' _ (by omega)) (by omega)
theorem a6H(T:Two D kf a b)(F:a3F kf a b)(hcm:Cmp prog w A s κ D (ltK kf))(hk:kindOf st=κ)(g:Good st st')(h:MJ kf a b out na nb)(hc0:na+nb+c0<=a.size+b.size):wpS (model prog w) A E s (hiB a b na nb out mg ac bc) (R4 kf st a b c0) st':=by
 unfold hiB;obtain⟨hms,h1,h2,h3,h4⟩:=h;refine wpS_bind (P8 λst2 g2=>?_);have g:=g.trans g2;refine wpS_bind (B3 (by omega) λy e1 e2=>?_);refine wpS_bind (I9 hcm (g.1.trans hk) (T.db _ _ e1) (λi=>!(ltK kf y (a.getD (0+i) (Value.none,Value.none)))) (λi hi=>⟨_,gdK a (by omega),T.da _ _ (gdK a (by omega)),rfl⟩) (λi j hij hj hb=>?_) (by omega) λat_ q1 q2 q3=>?_)
 .have hle:leK kf (a.getD (0+j) (Value.none,Value.none)) y:=by
   unfold leK KeyOrd.kle;unfold ltK at hb;simpa using hb
  have:=KeyOrd.kle_trans (X5 T.sa (i:=0+i) (j:=0+j) (by omega) (by rw[Array.getElem?_toList];exact gdK a (by omega)) (by rw[Array.getElem?_toList];exact gdK a (by omega))) hle;unfold KeyOrd.kle at this;unfold ltK;rw[this];rfl
 .dsimp only;have hrest:∀na',na'=at_->∀y',b.toList[nb-1]?=some y'->∀x∈a.toList.take na',leK kf x y':=λna' e y' ey=>by
   rw[e2]at ey;cases ey;subst e;by_cases hz:na'=0
   .rw[hz,List.take_zero];exact λ_ z=>nomatch z
   obtain⟨n,rfl⟩:∃n,na'=n+1:=⟨na'-1,by omega⟩;have ha0:a.toList[n]?=some (a.getD n (Value.none,Value.none)):=by rw[Array.getElem?_toList];exact gdK a (by omega)
   refine Q5 T.sa ha0 ?_;have:=q2 n (by omega);rw[Nat.zero_add]at this;unfold leK KeyOrd.kle;unfold ltK at this;simpa using this
  split
  .obtain⟨j,hj⟩:∃j,na=at_+j:=⟨na-at_,by omega⟩;have hbk:MH kf a.toList b.toList ((a.toList.take (at_+j)).drop at_++out.toList.reverse) at_ nb:=by
    rw[hj]at hms;refine MH.bulkA T.sa j hms (by rw[Array.length_toList];omega) λi z i1 i2 ez=>?_;have:=q3 i i1 (by omega);rw[Nat.zero_add]at this;rw[Array.getElem?_toList,gdK a (by omega)]at ez;cases ez;have hlt:O.klt (kf y) (kf (a.getD i (Value.none,Value.none))):=by
     unfold KeyOrd.klt;unfold ltK at this;simpa using this
    have:=Q5 T.sb e2 (KeyOrd.kle_of_klt hlt);rwa[show nb-1+1=nb by omega]at this
   rw[<-hj,<-a7P]at hbk;split
   .rename_i e3;exact wpS_pure ⟨g,.inl ⟨_,rfl,Y6 T hbk (eq_of_beq e3)⟩⟩
   .rename_i e3;have e3:¬at_=0:=λz=>e3 (beq_iff_eq.mpr z);exact a6G T F hcm hk g ⟨hbk,by omega,h2,by omega,h4⟩ (hrest _ rfl) (by omega)
  .exact a6G T F hcm hk g ⟨hms,h1,h2,h3,h4⟩ (hrest _ (by omega)) hc0
def P3(kf:Keyed->O.α)(st:SortSt)(a b:Array Keyed)(c0:Nat)(c:U1)(st':SortSt):Prop:=Good st st'/\((∃r,c.1=some r/\C5 kf a b r)∨(c.1=none/\MJ kf a b c.2.2.2.1 c.2.1 c.2.2.1/\c.2.1+c.2.2.1+c0<=a.size+b.size))
def Y3(kf:Keyed->O.α)(st:SortSt)(a b:Array Keyed)(c0:Nat)(c:U1)(st':SortSt):Prop:=Good st st'/\c.1=none/\MJ kf a b c.2.2.2.1 c.2.1 c.2.2.1/\c.2.1+c.2.2.1+c0<=a.size+b.size
def R3(kf:Keyed->O.α)(st:SortSt)(a b:Array Keyed)(c0:Nat)(r:ForInStep U1)(st':SortSt):Prop:=match r with | .done c'=>P3 kf st a b c0 c' st' | .yield c'=>Y3 kf st a b c0 c' st'
theorem b2b(T:Two D kf a b)(F:a3F kf a b)(hcm:Cmp prog w A s κ D (ltK kf))(hk:kindOf st=κ)(g:Good st st')(h:MJ kf a b out na nb)(hc0:na+nb+c0<=a.size+b.size):wpS (model prog w) A E s (hiA a b na nb out ac bc mg) (R3 kf st a b (c0+1)) st':=by
 unfold hiA;obtain⟨hms,h1,h2,h3,h4⟩:=h;refine wpS_bind (B3 (by omega) λy e1 e2=>?_);refine wpS_bind (B3 (by omega) λx f1 f2=>?_);refine wpS_bind (a0g hcm (g.1.trans hk) (T.db _ _ e1) (T.da _ _ f1) ?_);dsimp only;obtain⟨n,rfl⟩:∃n,na=n+1:=⟨na-1,by omega⟩;obtain⟨m,rfl⟩:∃m,nb=m+1:=⟨nb-1,by omega⟩;rw[Nat.add_sub_cancel]at e1 e2 f1 f2⊢;rw[Nat.add_sub_cancel];cases hb:ltK kf y x with
 |true =>
  rw[if_pos rfl];refine wpS_bind (B3 (by omega) λx' e1' e2'=>?_);rw[f2]at e2';cases e2';have hm:=hms.stepA T.sa f2 (Q5 T.sb e2 (KeyOrd.kle_of_klt hb));rw[<-a0q]at hm;split
  .rename_i e;exact wpS_pure ⟨g,.inl ⟨_,rfl,Y6 T hm (eq_of_beq e)⟩⟩
  .rename_i e;have e:¬n=0:=λz=>e (beq_iff_eq.mpr z);have hq:MJ kf a b (out.push x) n (m+1):=⟨hm,by omega,h2,by omega,h4⟩;split
   .exact wpS_pure ⟨g,.inr ⟨rfl,hq,by show n+(m+1)+(c0+1)<=_;omega⟩⟩
   .exact wpS_pure ⟨g,rfl,hq,by show n+(m+1)+(c0+1)<=_;omega⟩
 |false =>
  rw[if_neg (by simp)];refine wpS_bind (B3 (by omega) λy' e1' e2'=>?_);rw[e2]at e2';cases e2';have hm:=hms.stepB T.sb e2 (Q5 T.sa f2 hb);rw[<-a0q]at hm;split
  .rename_i e;exact wpS_pure ⟨g,.inl ⟨_,rfl,R6 T F hm (eq_of_beq e) (by omega)⟩⟩
  .rename_i e;have e:¬m=1:=λz=>e (beq_iff_eq.mpr z);have hq:MJ kf a b (out.push y) (n+1) m:=⟨hm,h1,by omega,h3,by omega⟩;split
   .exact wpS_pure ⟨g,.inr ⟨rfl,hq,by show n+1+m+(c0+1)<=_;omega⟩⟩
   .exact wpS_pure ⟨g,rfl,hq,by show n+1+m+(c0+1)<=_;omega⟩
theorem a4z(T:Two D kf a b)(F:a3F kf a b)(hcm:Cmp prog w A s κ D (ltK kf))(hk:kindOf st=κ)(ha:0<a.size)(hb:0<b.size){Q:Array Keyed->SortSt->Prop}
  (q:∀r st',C5 kf a b r->Good st st'->Q r st'):wpS (model prog w) A E s (a2k a b) Q st:=by
 rw[a5e];refine wpS_bind (O8 ?_);refine wpS_bind (B3 (by omega) λy e1 e2=>?_);have hm0:MH kf a.toList b.toList (#[y]:Array Keyed).toList.reverse (a.size-1) b.size:=by
  have z:MH kf a.toList b.toList [] (a.size-1+1) b.size:=by
   refine⟨?_,.nil,(λ_ _ _ h=>nomatch h),λ_ _ _ h=>nomatch h⟩;rw[List.drop_eq_nil_of_le (by rw[Array.length_toList];omega),List.drop_eq_nil_of_le (by rw[Array.length_toList];omega)];exact .nil
  exact z.stepA T.sa e2 (λx hx=>KeyOrd.kle_of_klt (T.last x (List.mem_of_mem_take hx) y e1))
 have gr:Good st st:=⟨rfl,rfl,rfl,rfl⟩;split
 .rename_i e;exact wpS_pure (q _ _ (Y6 T hm0 (eq_of_beq e)) gr)
 .rename_i e;have e:¬a.size-1=0:=λz=>e (beq_iff_eq.mpr z);split
  .rename_i e';exact wpS_pure (q _ _ (R6 T F hm0 (eq_of_beq e') hb) gr)
  .rename_i e';have e':¬b.size=1:=λz=>e' (beq_iff_eq.mpr z);refine wpS_bind (wpS_get ?_);refine wpS_bind (wpS_mono (wpS_forRange (I:=λx c st'=>Good st st'/\c.1=none/\MJ kf a b c.2.2.2.1 c.2.1 c.2.2.1/\c.2.1+c.2.2.1+(x+1)<=a.size+b.size)
    (Q:=λc st'=>Good st st'/\∃r,c.1=some r/\C5 kf a b r) ?step ?fin ⟨gr,rfl,⟨hm0,by show 1<=a.size-1;omega,by show 2<=b.size;omega,by show a.size-1<=a.size;omega,Nat.le_refl _⟩,by show a.size-1+b.size+(0+1)<=_;omega⟩) ?post)
   case post =>
    rintro c st' ⟨g,r,e1,e2⟩;obtain⟨c1,c2⟩:=c;dsimp only at e1;subst e1;exact wpS_pure (q _ _ e2 g)
   case fin =>
    rintro c st' ⟨g,e1,⟨_,h1,h2,_⟩,h3⟩;exfalso;omega
   case step =>
    rintro x c st1 _ hx ⟨g,e1,hMI,hx2⟩;refine wpS_bind (wpS_mono (wpS_forRange (I:=λz d st'=>Y3 kf st a b (x+1+min z 1) d st') (Q:=λd st'=>P3 kf st a b (x+2) d st') ?s1 ?f1 ⟨g,rfl,hMI,by show c.2.1+c.2.2.1+(x+1+min 0 1)<=_;omega⟩) ?p1)
    case f1 =>
     rintro d st' ⟨g,e1,h1,h2⟩;exact⟨g,.inr ⟨e1,h1,by omega⟩⟩
    case s1 =>
     rintro z d st' _ hz ⟨g,e1,h1,h2⟩;refine wpS_mono (b2b T F hcm hk g h1 (c0:=x+1) (by omega)) λr st2 hr=>?_;cases r with
     |done c'=>exact hr
     | «yield» c'=>exact⟨hr.1,hr.2.1,hr.2.2.1,by have:=hr.2.2.2;omega⟩
    case p1 =>
     rintro d st' ⟨g,hd⟩;obtain⟨d1,d2⟩:=d;rcases hd with⟨r,e1,e2⟩|⟨e1,h1,h2⟩
     .dsimp only at e1;subst e1;exact wpS_pure ⟨g,r,rfl,e2⟩
     .dsimp only at e1;subst e1;refine wpS_bind (O8 ?_);refine wpS_bind (wpS_mono (wpS_forRange (I:=λz d st'=>Y4 kf st a b (x+2) d st') (Q:=λd st'=>P4 kf st a b (x+2) d st') ?s2 ?f2 ⟨g,rfl,h1,h2⟩) ?p2)
      case f2 =>
       rintro d st' ⟨g,e1,h1,h2⟩;exact⟨g,.inr ⟨e1,h1,h2⟩⟩
      case s2 =>
       rintro z d st' _ hz ⟨g,e1,h1,h2⟩;split
       .refine wpS_mono (a6H T F hcm hk g h1 h2) λr st2 hr=>?_;cases r<;>exact hr
       .refine wpS_mono (a6H T F hcm hk g h1 h2) λr st2 hr=>?_;cases r<;>exact hr
      case p2 =>
       rintro d st' ⟨g,hd⟩;obtain⟨d1,d2⟩:=d;rcases hd with⟨r,e1,e2⟩|⟨e1,h1,h2⟩
       .dsimp only at e1;subst e1;exact wpS_pure ⟨g,r,rfl,e2⟩
       .dsimp only at e1;subst e1;refine wpS_bind (P8 λst3 g3=>?_);exact wpS_pure ⟨g.trans g3,rfl,h1,h2⟩
end
noncomputable def a5P(arr merged:Array Keyed)(sa:Nat):Array Keyed:=merged.toList.zipIdx.foldl (λa (p,j)=>a.setIfInBounds (sa+j) p) arr
noncomputable def mgC(sa:Nat)(merged:Array Keyed):StateT SortSt Sem Bool :=
 (modify λs=>SortSt.mk' (kindOf s) (a5P (arrOf s) merged sa) (pendingOf s) (gallopOf s) (failedOf s))>>=λ_=>get>>=λs=>pure (failedOf s).isNone
noncomputable def mgB(s:SortSt)(sa na sb nb:Nat):StateT SortSt Sem Bool :=
 elem' (arrOf s) (sa+na-1)>>=λx=>O4 true x (arrOf s) sb nb (nb-1)>>=λr=>match r with
 |some n=>(if (n==0)=true then pure true
  else if na<=n then a2j ((arrOf s).extract sa sb) ((arrOf s).extract sb (sb+n))>>=mgC sa
  else a2k ((arrOf s).extract sa sb) ((arrOf s).extract sb (sb+n))>>=mgC sa)
 |_=>pure false
noncomputable def mgA(s:SortSt)(sa na sb nb:Nat):StateT SortSt Sem Bool :=
 elem' (arrOf s) sb>>=λy=>O4 false y (arrOf s) sa na 0>>=λr=>match r with
 |some k=>(if (na-k==0)=true then pure true else mgB s (sa+k) (na-k) sb nb)
 |_=>pure false
theorem a5f(i:Nat):mergeAt' i=(get>>=λs=>match ((pendingOf s)[i]?,(pendingOf s)[i+1]?)with
 |(some (sa,na,pw),some (sb,nb,_))=>set (SortSt.mk' (kindOf s) (arrOf s) (((pendingOf s).setIfInBounds i (sa,na+nb,pw)).eraseIdxIfInBounds (i+1)) (gallopOf s) (failedOf s))>>=λ_=>mgA s sa na sb nb
 |_=>liftM (unsupported "internal:list.sort.pending" : Sem Bool)):=by
 show(_>>=_)=(_>>=_);refine congrArg _ (funext λs=>?_);dsimp only;rcases(pendingOf s)[i]? with _|⟨sa,na,pw⟩
 .rfl
 rcases(pendingOf s)[i+1]? with _|⟨sb,nb,pw2⟩
 .rfl
 dsimp only;refine congrArg _ (funext λ_=>?_);unfold mgA;refine congrArg _ (funext λy=>?_);refine congrArg _ (funext λr=>?_);rcases r with _|k
 .rfl
 dsimp only;refine ite_congr rfl (λ_=>rfl) λ_=>?_;unfold mgB;refine congrArg _ (funext λx=>?_);refine congrArg _ (funext λr=>?_);rcases r with _|n
 .rfl
 rfl
theorem a3r:∀(l:List Keyed) (arr:Array Keyed) (sa j:Nat),sa+j+l.length<=arr.size ->
  ((l.zipIdx j).foldl (λa (p:Keyed×Nat)=>a.setIfInBounds (sa+p.2) p.1) arr).toList=arr.toList.take (sa+j)++l++arr.toList.drop (sa+j+l.length)
 |[],arr,sa,j,h=>by simp
 |x::l,arr,sa,j,h=>by
  rw[List.length_cons]at h;rw[List.zipIdx_cons,List.foldl_cons,a3r l _ sa (j+1) (by rw[Array.size_setIfInBounds];omega)];rw[Array.toList_setIfInBounds];have hlt:sa+j<arr.toList.length:=by rw[Array.length_toList];omega
  rw[List.length_cons,show sa+(j+1)=sa+j+1 by omega];rw[List.take_set,List.drop_set_of_lt (by omega)];rw[List.take_succ_eq_append_getElem hlt,List.set_append_right _ _ (by rw[List.length_take];omega)];rw[List.length_take,show sa+j-min (sa+j) arr.toList.length=0 by omega];simp[List.append_assoc];congr 1;omega
theorem a4Q(arr merged:Array Keyed)(sa:Nat)(h:sa+merged.size<=arr.size):(a5P arr merged sa).toList=arr.toList.take sa++merged.toList++arr.toList.drop (sa+merged.size):=by
 have:=a3r merged.toList arr sa 0 (by rw[Array.length_toList];omega);rw[Nat.add_zero,Array.length_toList]at this;exact this
theorem b1Z{M:Model}{A:Around}{E:Value->Shared->Prop}{s:Shared}{σ:Type}{st st2:σ}{Q:PUnit->σ->Prop}(h:Q ⟨⟩ st2):wpS M A E s (set st2:StateT σ Sem PUnit) Q st:=by
 unfold wpS;rw[StateT.run_set];exact wpAny_pure ⟨rfl,h⟩
section
variable {prog:Program}{w:World}{A:Around}{E:Value->Shared->Prop}{s:Shared}{κ:SortKind}{D:Keyed->Prop}{O:KeyOrd}{kf:Keyed->O.α}{st:SortSt}
structure Runs2(kf:Keyed->O.α)(D:Keyed->Prop)(arr:Array Keyed)(P LA LB R:List Keyed):Prop where
 eq:arr.toList=P++LA++LB++R
 d:∀x∈arr.toList,D x
 sa:LA.Pairwise (leK kf)
 sb:LB.Pairwise (leK kf)
 na:0<LA.length
 nb:0<LB.length
variable {arr:Array Keyed}{P LA LB R:List Keyed}
theorem Runs2.atA(h:Runs2 kf D arr P LA LB R){i:Nat}(hi:i<LA.length):arr[P.length+i]?=LA[i]?:=by
 rw[<-Array.getElem?_toList,h.eq,List.append_assoc,List.append_assoc,List.getElem?_append_right (by omega),List.getElem?_append_left (by omega)];congr 1;omega
theorem Runs2.atB(h:Runs2 kf D arr P LA LB R){i:Nat}(hi:i<LB.length):arr[P.length+LA.length+i]?=LB[i]?:=by
 rw[<-Array.getElem?_toList,h.eq,List.append_assoc,List.getElem?_append_right (by rw[List.length_append];omega),List.getElem?_append_left (by rw[List.length_append];omega)];congr 1;rw[List.length_append];omega
theorem Runs2.dA(h:Runs2 kf D arr P LA LB R):∀x∈LA,D x:=λx hx=>h.d x (by rw[h.eq];simp[hx])
theorem Runs2.dB(h:Runs2 kf D arr P LA LB R):∀x∈LB,D x:=λx hx=>h.d x (by rw[h.eq];simp[hx])
theorem Runs2.size(h:Runs2 kf D arr P LA LB R):arr.size=P.length+LA.length+LB.length+R.length:=by
 rw[<-Array.length_toList,h.eq];simp[Nat.add_assoc]
theorem Runs2.extA(h:Runs2 kf D arr P LA LB R)(k:Nat):(arr.extract (P.length+k) (P.length+LA.length)).toList=LA.drop k:=by
 rw[a0X,h.eq,List.append_assoc (P++LA),List.take_append_of_le_length (by simp)];rw[List.take_of_length_le (by simp),List.drop_append,List.drop_eq_nil_of_le (by omega),List.nil_append];congr 1;omega
theorem Runs2.extB(h:Runs2 kf D arr P LA LB R){k:Nat}(hk:k<=LB.length):(arr.extract (P.length+LA.length) (P.length+LA.length+k)).toList=LB.take k:=by
 rw[a2G,h.eq,List.append_assoc,List.drop_append_of_le_length (by simp),List.drop_eq_nil_of_le (by simp),List.nil_append,List.take_append_of_le_length hk]
theorem a4A{i pw pw2:Nat}{Q:Bool->SortSt->Prop}(hcm:Cmp prog w A s κ D (ltK kf))(hk:kindOf st=κ)(h:Runs2 kf D (arrOf st) P LA LB R)(hp:(pendingOf st)[i]?=some (P.length,LA.length,pw))(hp2:(pendingOf st)[i+1]?=some (P.length+LA.length,LB.length,pw2))(hf:failedOf st=none)
  (q:∀(st':SortSt) (M:List Keyed),kindOf st'=κ->failedOf st'=none->pendingOf st'=((pendingOf st).setIfInBounds i (P.length,LA.length+LB.length,pw)).eraseIdxIfInBounds (i+1)->a1c kf LA LB M->(arrOf st').toList=P++M++R->Q true st'):wpS (model prog w) A E s (mergeAt' i) Q st:=by
 rw[a5f];refine wpS_bind (wpS_get ?_);rw[hp,hp2];dsimp only;refine wpS_bind (b1Z ?_);unfold mgA;have hsz:=heq_of_eq h.size;have hna:=h.na;have hnb:=h.nb;generalize hst2:SortSt.mk' (kindOf st) (arrOf st) (((pendingOf st).setIfInBounds i (P.length,LA.length+LB.length,pw)).eraseIdxIfInBounds (i+1)) (gallopOf st) (failedOf st)=st2;have k2:kindOf st2=κ:=by rw[<-hst2];exact hk
 have a2:arrOf st2=arrOf st:=by rw[<-hst2]
 have p2:pendingOf st2=((pendingOf st).setIfInBounds i (P.length,LA.length+LB.length,pw)).eraseIdxIfInBounds (i+1):=by rw[<-hst2]
 have f2:failedOf st2=none:=by rw[<-hst2];exact hf
 have whole:LA++LB=LA++LB->(∀x∈LA,∀y∈LB,leK kf x y)->Q true st2:=λ_ hle=>by
  refine q st2 (LA++LB) k2 f2 p2 ⟨.refl _,List.pairwise_append.mpr ⟨h.sa,h.sb,hle⟩⟩ ?_;rw[a2,h.eq];simp[List.append_assoc]
 refine wpS_bind (B3 (by have:=eq_of_heq hsz;omega) λy e1 _=>?_);have ey:LB[0]?=some y:=by rw[<-h.atB hnb];exact e1
 have hyB:∀z∈LB,leK kf y z:=R1 h.sb ey (KeyOrd.kle_refl _);have gA:∀i,i<LA.length->(arrOf st)[P.length+i]?=some (LA.getD i (Value.none,Value.none))/\LA[i]?=some (LA.getD i (Value.none,Value.none)):=λi hi=>by
  have:LA[i]?=some (LA.getD i (Value.none,Value.none)):=by rw[List.getD_eq_getElem?_getD,List.getElem?_eq_getElem hi];rfl
  exact⟨by rw[h.atA hi];exact this,this⟩
 have gB:∀i,i<LB.length->(arrOf st)[P.length+LA.length+i]?=some (LB.getD i (Value.none,Value.none))/\LB[i]?=some (LB.getD i (Value.none,Value.none)):=λi hi=>by
  have:LB[i]?=some (LB.getD i (Value.none,Value.none)):=by rw[List.getD_eq_getElem?_getD,List.getElem?_eq_getElem hi];rfl
  exact⟨by rw[h.atB hi];exact this,this⟩
 have le_of:∀{u v:Keyed},(!(ltK kf u v))=true->leK kf v u:=λ{u v} z=>by
  unfold leK KeyOrd.kle;unfold ltK at z;simpa using z
 refine wpS_bind (I9 hcm k2 (h.dB _ (List.mem_of_getElem? ey)) (λi=>!(ltK kf y (LA.getD i (Value.none,Value.none)))) (λi hi=>⟨_,(gA i hi).1,h.dA _ (List.mem_of_getElem? (gA i hi).2),rfl⟩) (λi j hij hj hb=>?_) hna λk q1 q2 q3=>?_)
 .have:=KeyOrd.kle_trans (X5 h.sa hij (gA i (by omega)).2 (gA j hj).2) (le_of hb);unfold KeyOrd.kle at this;unfold ltK;rw[this];rfl
 .dsimp only;have hAk:∀x∈LA.take k,leK kf x y:=λx hx=>by
   obtain⟨j,hj,e⟩:=List.mem_iff_getElem.mp hx;rw[List.length_take]at hj;have hjn:=Nat.lt_of_lt_of_le hj (Nat.min_le_right _ _);have:=le_of (q2 j (Nat.lt_of_lt_of_le hj (Nat.min_le_left _ _)));have e2:=(gA j hjn).2;rw[List.getElem_take]at e;rw[List.getElem?_eq_getElem hjn,e]at e2;injection e2 with e2
   rw[e2];exact this
  split
  .rename_i e;have e:=eq_of_beq e;refine wpS_pure (whole rfl λx hx z hz=>KeyOrd.kle_trans (hAk x ?_) (hyB z hz));rw[List.take_of_length_le (by omega)];exact hx
  .rename_i e;replace e:k<LA.length:=Nat.lt_of_sub_ne_zero λz=>e (beq_iff_eq.mpr z);clear q1;have hAd:∀x∈LA.drop k,ltK kf y x=true:=λx hx=>by
    obtain⟨j,hj,e⟩:=List.mem_iff_getElem.mp hx;rw[List.length_drop]at hj;rw[List.getElem_drop]at e;clear hsz hnb;have hkj:k+j<LA.length:=by omega
    have:=q3 (k+j) (Nat.le_add_right _ _) hkj;have e2:=(gA (k+j) hkj).2;rw[List.getElem?_eq_getElem hkj,e]at e2;injection e2 with e2
    rw[e2];simpa using this
   unfold mgB;refine wpS_bind (B3 (by have:=eq_of_heq hsz;omega) λx f1 _=>?_);rw[show P.length+k+(LA.length-k)-1=P.length+(LA.length-1) by omega]at f1;have ex:LA[LA.length-1]?=some x:=by rw[<-h.atA (by omega)];exact f1
   have hxA:∀z∈LA,leK kf z x:=λz hz=>by
    have:=Q5 h.sa ex (KeyOrd.kle_refl _) z;rw[show LA.length-1+1=LA.length by omega,List.take_length]at this;exact this hz
   refine wpS_bind (I9 hcm k2 (h.dA _ (List.mem_of_getElem? ex)) (λi=>ltK kf (LB.getD i (Value.none,Value.none)) x) (λi hi=>⟨_,(gB i hi).1,h.dB _ (List.mem_of_getElem? (gB i hi).2),rfl⟩) (λi j hij hj hb=>?_) (by omega) λn r1 r2 r3=>?_)
   .exact KeyOrd.klt_of_kle_of_klt (X5 h.sb hij (gB i (by omega)).2 (gB j hj).2) hb
   .dsimp only;have hBd:∀z∈LB.drop n,leK kf x z:=λz hz=>by
     obtain⟨j,hj,e⟩:=List.mem_iff_getElem.mp hz;rw[List.length_drop]at hj;rw[List.getElem_drop]at e;have hnj:n+j<LB.length:=by clear hsz hna hnb;omega
     have:=r3 (n+j) (Nat.le_add_right _ _) hnj;have e2:=(gB (n+j) hnj).2;rw[List.getElem?_eq_getElem hnj,e]at e2;injection e2 with e2
     rw[e2];exact this
    have hBt:∀z∈LB.take n,ltK kf z x=true:=λz hz=>by
     obtain⟨j,hj,e⟩:=List.mem_iff_getElem.mp hz;rw[List.length_take]at hj;rw[List.getElem_take]at e;have hjn:=Nat.lt_of_lt_of_le hj (Nat.min_le_right _ _);have:=r2 j (Nat.lt_of_lt_of_le hj (Nat.min_le_left _ _));have e2:=(gB j hjn).2;rw[List.getElem?_eq_getElem hjn,e]at e2;injection e2 with e2
     rw[e2];exact this
    split
    .rename_i e;have e:=eq_of_beq e;refine wpS_pure (whole rfl λu hu z hz=>KeyOrd.kle_trans (hxA u hu) (hBd z ?_));rw[e,List.drop_zero];exact hz
    .rename_i en;replace en:0<n:=Nat.pos_of_ne_zero λz=>en (beq_iff_eq.mpr z);have eX:=h.extA k;have eY:=h.extB r1;generalize hXa:(arrOf st).extract (P.length+k) (P.length+LA.length)=Xa at eX;generalize hYa:(arrOf st).extract (P.length+LA.length) (P.length+LA.length+n)=Ya at eY;have sX:=heq_of_eq (show Xa.size=LA.length-k by rw[<-Array.length_toList,eX,List.length_drop]);have sY:=heq_of_eq (show Ya.size=n by rw[<-Array.length_toList,eY,List.length_take,Nat.min_eq_left r1]);have T:Two D kf Xa Ya:=by
      refine⟨λi z ez=>?_,λi z ez=>?_,by rw[eX];exact h.sa.drop,by rw[eY];exact h.sb.take,λz hz u eu=>?_⟩
      .refine h.dA z (List.mem_of_mem_drop (i:=k) ?_);rw[<-eX];rw[<-Array.getElem?_toList]at ez;exact List.mem_of_getElem? ez
      .refine h.dB z (List.mem_of_mem_take (i:=n) ?_);rw[<-eY];rw[<-Array.getElem?_toList]at ez;exact List.mem_of_getElem? ez
      .rw[eY]at hz;rw[<-Array.getElem?_toList,eX,List.getElem?_drop,eq_of_heq sX,show k+(LA.length-k-1)=LA.length-1 by omega,ex]at eu;cases eu;exact hBt z hz
     have F:a3F kf Xa Ya:=λz ez u hu=>by
      rw[eY,List.getElem?_take_of_lt en,ey]at ez;cases ez;rw[eX]at hu;exact hAd u hu
     have fin:∀(r:Array Keyed) (st3:SortSt),C5 kf Xa Ya r->Good st2 st3->wpS (model prog w) A E s (mgC (P.length+k) r) Q st3:=λr st3 hr g=>by
      unfold mgC;obtain⟨hpm,hso⟩:=hr;rw[eX,eY]at hpm;have hrl:=heq_of_eq (show r.size=LA.length-k+n by
       have:=hpm.length_eq;rw[List.length_append,List.length_drop,List.length_take,Array.length_toList,Nat.min_eq_left r1]at this;exact this)
      refine wpS_bind (wpS_modify (wpS_bind (wpS_get (wpS_pure ?_))));show Q (failedOf st3).isNone _;rw[g.2.2.2,f2];have hmem:∀z∈r.toList,z∈LA.drop k∨z∈LB.take n:=λz hz=>List.mem_append.mp (hpm.mem_iff.mp hz);refine q _ (LA.take k++r.toList++LB.drop n) (g.1.trans k2) rfl (g.2.2.1.trans p2) ⟨?_,?_⟩ ?_
      .refine((List.Perm.append_left _ hpm).append_right _).trans ?_;rw[<-List.append_assoc (LA.take k),List.take_append_drop,List.append_assoc,List.take_append_drop]
      .have sAk:∀u∈LA.take k,∀v∈LA.drop k,leK kf u v:=by
        have:=h.sa;rw[<-List.take_append_drop k LA,List.pairwise_append]at this;exact this.2.2
       have sBk:∀u∈LB.take n,∀v∈LB.drop n,leK kf u v:=by
        have:=h.sb;rw[<-List.take_append_drop n LB,List.pairwise_append]at this;exact this.2.2
       rw[List.pairwise_append,List.pairwise_append];refine⟨⟨h.sa.take,hso,λu hu v hv=>?_⟩,h.sb.drop,λu hu v hv=>?_⟩
       .rcases hmem v hv with z|z
        .exact sAk u hu v z
        .exact KeyOrd.kle_trans (hAk u hu) (hyB v (List.mem_of_mem_take z))
       .rcases List.mem_append.mp hu with z|z
        .exact KeyOrd.kle_trans (hxA u (List.mem_of_mem_take z)) (hBd v hv)
        .rcases hmem u z with z|z
         .exact KeyOrd.kle_trans (hxA u (List.mem_of_mem_drop z)) (hBd v hv)
         .exact sBk u z v hv
      .show(a5P (arrOf st3) r (P.length+k)).toList=_;rw[g.2.1,a2,a4Q _ _ _ (by rw[eq_of_heq hrl,eq_of_heq hsz];clear hsz;omega),h.eq,eq_of_heq hrl];have e1:(P++LA++LB++R).take (P.length+k)=P++LA.take k:=by
        rw[List.append_assoc,List.append_assoc,List.take_append,List.take_of_length_le (by omega),show P.length+k-P.length=k by omega,List.take_append_of_le_length (by omega)]
       have e2:(P++LA++LB++R).drop (P.length+k+(LA.length-k+n))=LB.drop n++R:=by
        rw[List.append_assoc (P++LA),List.drop_append,List.drop_eq_nil_of_le (by rw[List.length_append];omega),List.nil_append,List.length_append,show P.length+k+(LA.length-k+n)-(P.length+LA.length)=n by omega,List.drop_append_of_le_length r1]
       rw[e1,e2];simp[List.append_assoc]
     split
     .exact wpS_bind (a4y T hcm k2 (by rw[eq_of_heq sX];omega) (by rw[eq_of_heq sY];exact en) (λz ez u hu=>KeyOrd.kle_of_klt (F z ez u hu)) λr st3 hr g=>fin r st3 hr g)
     .exact wpS_bind (a4z T F hcm k2 (by rw[eq_of_heq sX];omega) (by rw[eq_of_heq sY];exact en) λr st3 hr g=>fin r st3 hr g)
end
section
variable {prog:Program}{w:World}{A:Around}{E:Value->Shared->Prop}{s:Shared}{κ:SortKind}{D:Keyed->Prop}{O:KeyOrd}{kf:Keyed->O.α}{st:SortSt}
noncomputable def kx(kf:Keyed->O.α)(arr:Array Keyed)(i:Nat):O.α:=kf (arr.getD i (Value.none,Value.none))
def SoO(kf:Keyed->O.α)(arr:Array Keyed)(lo m:Nat):Prop:=∀i j,i<=j->j<m->O.kle (kx kf arr (lo+i)) (kx kf arr (lo+j))
def NiO(kf:Keyed->O.α)(arr:Array Keyed)(lo m:Nat):Prop:=∀i j,i<=j->j<m->O.kle (kx kf arr (lo+j)) (kx kf arr (lo+i))
def Kept(lo:Nat)(st st':SortSt):Prop:=kindOf st'=kindOf st/\pendingOf st'=pendingOf st/\failedOf st'=failedOf st/\(arrOf st').Perm (arrOf st)/\∀i,i<lo->(arrOf st')[i]?=(arrOf st)[i]?
theorem Kept.refl{lo:Nat}:Kept lo st st:=⟨rfl,rfl,rfl,.refl _,λ_ _=>rfl⟩
theorem Kept.trans{lo:Nat}{st' st2:SortSt}(h:Kept lo st st')(h2:Kept lo st' st2):Kept lo st st2:=⟨h2.1.trans h.1,h2.2.1.trans h.2.1,h2.2.2.1.trans h.2.2.1,h2.2.2.2.1.trans h.2.2.2.1,λi hi=>(h2.2.2.2.2 i hi).trans (h.2.2.2.2 i hi)⟩
def AllD(D:Keyed->Prop)(arr:Array Keyed):Prop:=∀x∈arr.toList,D x
theorem AllD.perm{a b:Array Keyed}(h:AllD D a)(p:b.Perm a):AllD D b:=λx hx=>h x ((Array.perm_iff_toList_perm.mp p).mem_iff.mp hx)
theorem V0{a b:Array Keyed}{i j:Nat}(h:a[i]?=b[j]?):kx kf a i=kx kf b j:=by
 unfold kx;rw[Array.getD_eq_getD_getElem?,Array.getD_eq_getD_getElem?,h]
theorem O9{i j:Nat}{Q:Option Bool->SortSt->Prop}(hcm:Cmp prog w A s κ D (ltK kf))(hk:kindOf st=κ)(hD:AllD D (arrOf st))(hi:i<(arrOf st).size)(hj:j<(arrOf st).size)(h:Q (some (O.blt (kx kf (arrOf st) i) (kx kf (arrOf st) j))) st):wpS (model prog w) A E s (ltAt' i j) Q st:=by
 rw[ltAt'_eq];refine wpS_bind (wpS_get ?_);refine wpS_bind (B3 hi λx e1 f1=>wpS_bind (B3 hj λy e2 f2=>?_));rw[gdK _ hi]at e1;rw[gdK _ hj]at e2;cases e1;cases e2;exact a0g hcm hk (hD _ (List.mem_of_getElem? f1)) (hD _ (List.mem_of_getElem? f2)) h
theorem a9m{src dst:Nat}{Q:Unit->SortSt->Prop}(h:Q () (setArr st (bubble (arrOf st) src (src-dst)))):wpS (model prog w) A E s (moveDown' src dst) Q st:=by
 rw[moveDown'_eq];exact wpS_modify h
theorem a0R{arr:Array Keyed}{src dst:Nat}(hs:src<arr.size)(hd:dst<=src)(i:Nat):kx kf (bubble arr src (src-dst)) i=if i=dst then kx kf arr src else if dst<i/\i<=src then kx kf arr (i-1)else kx kf arr i:=by
 have e:=getElem?_bubble hs (src-dst) (by omega) i;rw[show src-(src-dst)=dst by omega]at e;split
 .rename_i c;rw[if_pos c]at e;exact V0 e
 .rename_i c;rw[if_neg c]at e;split
  .rename_i c2;rw[if_pos c2]at e;exact V0 e
  .rename_i c2;rw[if_neg c2]at e;exact V0 e
theorem a2d{l j k:Nat}(h:l<j)(h2:j<=k):j-1<k:=by omega
section
variable {arr:Array Keyed}{lo k l i:Nat}(hs:lo+k<arr.size) (hd:l<=k)
include hs hd
theorem b1P(h:i<l):kx kf (bubble arr (lo+k) (lo+k-(lo+l))) (lo+i)=kx kf arr (lo+i):=by
 rw[a0R hs (by omega),if_neg (by omega),if_neg (by omega)]
theorem a6y:kx kf (bubble arr (lo+k) (lo+k-(lo+l))) (lo+l)=kx kf arr (lo+k):=by
 rw[a0R hs (by omega),if_pos rfl]
theorem a4v(h:l<i)(h2:i<=k):kx kf (bubble arr (lo+k) (lo+k-(lo+l))) (lo+i)=kx kf arr (lo+(i-1)):=by
 rw[a0R hs (by omega),if_neg (by omega),if_pos (by omega),Nat.add_sub_assoc (by omega)]
end
theorem a9n{lo n ok:Nat}{Q:Bool->SortSt->Prop}(hcm:Cmp prog w A s κ D (ltK kf))(hk:kindOf st=κ)(hD:AllD D (arrOf st))(hn:lo+n<=(arrOf st).size)(hok:ok<=n)(hs:SoO kf (arrOf st) lo ok)
  (h:∀st',Kept lo st st'->SoO kf (arrOf st') lo n->Q true st'):wpS (model prog w) A E s (binarySort' lo n ok) Q st:=by
 rw[binarySort'_eq];refine wpS_bind (wpS_mono (wpS_forRange (I:=λk c st'=>c=(none,())/\Kept lo st st'/\SoO kf (arrOf st') lo (min k n))
  (Q:=λc st'=>c=(none,())/\Kept lo st st'/\SoO kf (arrOf st') lo n) ?step ?fin ?init) ?post)
 case post =>
  rintro c st' ⟨rfl,hB',hs'⟩;exact wpS_pure (h st' hB' hs')
 case init =>
  refine⟨rfl,Kept.refl,λi j hij hj=>?_⟩;by_cases h1:ok=0
  .have:i=j:=by omega
   subst this;exact KeyOrd.kle_refl _
  .exact hs i j hij (by omega)
 case fin =>
  rintro c st' ⟨hc,hB',hs'⟩;refine⟨hc,hB',?_⟩;rwa[show min (max (max ok 1) n) n=n by omega]at hs'
 case step =>
  rintro k c st' hak hkn ⟨rfl,hB',hs'⟩;rw[show min k n=k by omega]at hs';have hz:lo+k<(arrOf st').size:=by have:=hB'.2.2.2.1.size_eq;omega
  have hD':=hD.perm hB'.2.2.2.1;have hkn':min (k+1) n=k+1:=by omega
  clear hn hok hak hkn;refine wpS_bind (wpS_mono (wpS_forRange (I:=λx c st''=>st''=st'/\∃l r,c=(none,l,r)/\l<=r/\r<=k/\r-l<=k-x /\
    (∀i,i<l->O.kle (kx kf (arrOf st') (lo+i)) (kx kf (arrOf st') (lo+k)))/\(∀i,r<=i->i<k->O.kle (kx kf (arrOf st') (lo+k)) (kx kf (arrOf st') (lo+i))))
   (Q:=λc st''=>st''=st'/\∃l r,c=(none,l,r)/\l<=k /\
    (∀i,i<l->O.kle (kx kf (arrOf st') (lo+i)) (kx kf (arrOf st') (lo+k)))/\(∀i,l<=i->i<k->O.kle (kx kf (arrOf st') (lo+k)) (kx kf (arrOf st') (lo+i)))) ?istep ?ifin ?iinit) ?ipost)
  case iinit=>exact⟨rfl,0,k,rfl,by omega,by omega,by omega,λi hi=>by omega,λi h1 h2=>by omega⟩
  case ifin =>
   rintro c st'' ⟨rfl,l,r,rfl,hlr,hrk,hm,hlo,hhi⟩;have:l=r:=by omega
   subst this;exact⟨rfl,l,l,rfl,hrk,hlo,hhi⟩
  case istep =>
   rintro x c st'' _ hxk ⟨rfl,l,r,rfl,hlr,hrk,hm,hlo,hhi⟩;dsimp only;by_cases hge:l ≥ r
   .rw[if_pos hge];have:l=r:=by omega
    subst this;exact wpS_pure ⟨rfl,l,l,rfl,hrk,hlo,hhi⟩
   .rw[if_neg hge];refine wpS_bind (O9 hcm (hB'.1.trans hk) hD' (by omega) (by omega) ?_);dsimp only;cases hless:O.blt (kx kf (arrOf st'') (lo+k)) (kx kf (arrOf st'') (lo+(l+r) / 2))with
    |true =>
     rw[if_pos rfl];refine wpS_pure ⟨rfl,l,(l+r) / 2,rfl,by omega,by omega,by omega,hlo,λi h1 h2=>?_⟩;exact KeyOrd.kle_trans (KeyOrd.kle_of_klt hless) (hs' _ _ h1 h2)
    |false =>
     rw[if_neg (by simp)];refine wpS_pure ⟨rfl,(l+r) / 2+1,r,rfl,by omega,by omega,by omega,λi h1=>?_,hhi⟩;exact KeyOrd.kle_trans (hs' i ((l+r) / 2) (by omega) (by omega)) hless
  case ipost =>
   rintro c st'' ⟨rfl,l,r,rfl,hlk,hlo,hhi⟩;refine wpS_bind (a9m (wpS_pure ⟨rfl,hB'.trans ⟨rfl,rfl,rfl,bubble_perm _ _ _,λi hi=>?_⟩,?_⟩))
   .show(bubble (arrOf st'') (lo+k) (lo+k-(lo+l)))[i]?=_;rw[getElem?_bubble hz _ (by omega),if_neg (by omega),if_neg (by omega)]
   rw[hkn'];clear hkn';intro i j hij hj;replace hj:j<=k:=Nat.le_of_lt_succ hj;show O.kle (kx kf (bubble (arrOf st'') (lo+k) (lo+k-(lo+l))) (lo+i)) (kx kf (bubble (arrOf st'') (lo+k) (lo+k-(lo+l))) (lo+j));rcases Nat.lt_trichotomy i l with c|rfl|c
   .rw[b1P hz hlk c];rcases Nat.lt_trichotomy j l with d|rfl|d
    .rw[b1P hz hlk d];exact hs' i j hij (Nat.lt_of_lt_of_le d hlk)
    .rw[a6y hz hlk];exact hlo i c
    .rw[a4v hz hlk d hj];exact hs' i (j-1) (Nat.le_sub_one_of_lt (Nat.lt_trans c d)) (a2d d hj)
   .rw[a6y hz hlk];rcases Nat.lt_or_eq_of_le hij with d|rfl
    .rw[a4v hz hlk d hj];exact hhi (j-1) (Nat.le_sub_one_of_lt d) (a2d d hj)
    .rw[a6y hz hlk];exact KeyOrd.kle_refl _
   .have d:=Nat.lt_of_lt_of_le c hij;rw[a4v hz hlk c (Nat.le_trans hij hj),a4v hz hlk d hj];exact hs' (i-1) (j-1) (Nat.sub_le_sub_right hij 1) (a2d d hj)
end
noncomputable def b1T(lo a nrem:Nat):StateT SortSt Sem AscSt:=forIn [a:nrem] ((none,a):AscSt) λ_ c=>ltAt' (lo+c.2) (lo+c.2-1)>>=λr=>match r with
 |some sm=>(if sm=true then pure (.done (none,c.2))else pure (.yield (none,c.2+1)))
 |_=>pure (.done (some none,c.2))
noncomputable def Z7(lo n nrem:Nat):StateT SortSt Sem (Option Nat):=reverseSlice' lo (lo+n)>>=λ_=>b1T lo n nrem>>=λc=>match c.1 with
 |some r=>pure r
 |none=>pure (some c.2)
noncomputable def a7D(lo n nrem:Nat):StateT SortSt Sem DescSt:=forIn [n:nrem] ((none,n,0):DescSt) λ_ c=>ltAt' (lo+c.2.1) (lo+c.2.1-1)>>=λr=>match r with
 |some sm=>(if sm=true then(if c.2.2 > 0 then reverseSlice' (lo+c.2.1-(c.2.2+1)) (lo+c.2.1)>>=λ_=>pure (.yield (none,c.2.1+1,0))else pure (.yield (none,c.2.1+1,0)))
  else ltAt' (lo+c.2.1-1) (lo+c.2.1)>>=λr=>match r with
   |some lg=>(if lg=true then pure (.done (none,c.2.1,c.2.2))else pure (.yield (none,c.2.1+1,c.2.2+1)))
   |_=>pure (.done (some none,c.2.1,c.2.2)))
 |_=>pure (.done (some none,c.2.1,c.2.2))
noncomputable def dpO(lo n nrem:Nat):StateT SortSt Sem (Option Nat):=liftM (rule "list.sort.descending-run")>>=λ_=>a7D lo (n+1) nrem>>=λc=>match c.1 with
 |some r=>pure r
 |none=>(if c.2.2 > 0 then reverseSlice' (lo+c.2.1-(c.2.2+1)) (lo+c.2.1)>>=λ_=>Z7 lo c.2.1 nrem else Z7 lo c.2.1 nrem)
theorem a8U(lo nrem:Nat):countRun' lo nrem=(b1T lo 1 nrem>>=λc=>match c.1 with
 |some r=>pure r
 |none=>(if (c.2==nrem)=true then pure (some c.2)else if c.2 > 1 then ltAt' lo (lo+c.2-1)>>=λr=>match r with
   |some rose=>(if rose=true then pure (some c.2)else reverseSlice' lo (lo+c.2)>>=λ_=>dpO lo c.2 nrem)
   |_=>pure none
  else dpO lo c.2 nrem)):=by
 have t3:∀(n:Nat),(reverseSlice' lo (lo+n)>>=λ_=>b1T lo n nrem>>=λc=>match c.1 with|some r=>pure r|none=>pure (some c.2))=Z7 lo n nrem:=λn=>rfl;rw[countRun'_eq];dsimp only;refine congr (congrArg _ ?_) (funext λc=>?_)
 .rfl
 rcases c with⟨_|q,n⟩
 .dsimp only;have dp:∀n:Nat,(liftM (rule "list.sort.descending-run")>>=λ_=>a7D lo (n+1) nrem>>=λc=>match c.1 with
    |some r=>pure r
    |none=>(if c.2.2 > 0 then reverseSlice' (lo+c.2.1-(c.2.2+1)) (lo+c.2.1)>>=λ_=>Z7 lo c.2.1 nrem else Z7 lo c.2.1 nrem))=dpO lo n nrem:=λn=>rfl
  have dq:∀{β:Type}{m:StateT SortSt Sem β}{f g:β->StateT SortSt Sem (Option Nat)},(∀c,f c=g c)->(m>>=f)=(m>>=g):=λh=>congrArg _ (funext h);refine ite_congr rfl (λ_=>rfl) λ_=>ite_congr rfl (λ_=>?_) λ_=>?_
  .refine dq λr=>?_;rcases r with _|r
   .rfl
   .dsimp only;refine ite_congr rfl (λ_=>rfl) λ_=>?_;refine dq λ_=>?_;rw[<-dp];refine dq λ_=>?_;refine congr (congrArg _ ?_) (funext λc=>?_)
    .rfl
    .rcases c with⟨_|q,n,z⟩
     .dsimp only;refine ite_congr rfl (λ_=>?_) λ_=>?_
      .refine dq λ_=>?_;refine dq λ_=>?_;refine congr (congrArg _ ?_) (funext λc=>?_)
       .rfl
       .rcases c with⟨_|q,n⟩<;>rfl
      .refine dq λ_=>?_;refine congr (congrArg _ ?_) (funext λc=>?_)
       .rfl
       .rcases c with⟨_|q,n⟩<;>rfl
     .rfl
  .rw[<-dp];refine dq λ_=>?_;refine congr (congrArg _ ?_) (funext λc=>?_)
   .rfl
   .rcases c with⟨_|q,n,z⟩
    .dsimp only;refine ite_congr rfl (λ_=>?_) λ_=>?_
     .refine dq λ_=>?_;refine dq λ_=>?_;refine congr (congrArg _ ?_) (funext λc=>?_)
      .rfl
      .rcases c with⟨_|q,n⟩<;>rfl
     .refine dq λ_=>?_;refine congr (congrArg _ ?_) (funext λc=>?_)
      .rfl
      .rcases c with⟨_|q,n⟩<;>rfl
    .rfl
 .rfl
section
variable {prog:Program}{w:World}{A:Around}{E:Value->Shared->Prop}{s:Shared}{κ:SortKind}{D:Keyed->Prop}{O:KeyOrd}{kf:Keyed->O.α}{st:SortSt}
theorem a0Q{arr:Array Keyed}{i j:Nat}(hj:j<=arr.size)(k:Nat):kx kf (mirror arr i j ((j-i) / 2)) k=if i<=k/\k<j then kx kf arr (i+j-1-k)else kx kf arr k:=by
 have e:=getElem?_mirror_all (i:=i) hj k;split
 .rename_i c;rw[if_pos c]at e;exact V0 e
 .rename_i c;rw[if_neg c]at e;exact V0 e
theorem K8{arr:Array Keyed}{i j:Nat}(hj:j<=arr.size)(he:∀k,i<=k->k<j->kx kf arr k=kx kf arr (j-1))(k:Nat):kx kf (mirror arr i j ((j-i) / 2)) k=kx kf arr k:=by
 rw[a0Q hj];split
 .rw[he _ (by omega) (by omega),he k (by omega) (by omega)]
 .rfl
theorem Kept.rev{lo i j:Nat}(hi:lo<=i)(hj:j<=(arrOf st).size):Kept lo st (setArr st (mirror (arrOf st) i j ((j-i) / 2))):=⟨rfl,rfl,rfl,mirror_perm _ _ _ _,λk hk=>by
 show(mirror (arrOf st) i j ((j-i) / 2))[k]?=_;rw[getElem?_mirror_all hj,if_neg (by omega)]⟩
theorem a4C{lo a nrem:Nat}{Q:AscSt->SortSt->Prop}(hcm:Cmp prog w A s κ D (ltK kf))(hk:kindOf st=κ)(hD:AllD D (arrOf st))(hn:lo+nrem<=(arrOf st).size)(ha:1<=a)(han:a<=nrem)(hs:SoO kf (arrOf st) lo a)
  (h:∀n,a<=n->n<=nrem->SoO kf (arrOf st) lo n->(n=nrem∨O.klt (kx kf (arrOf st) (lo+n)) (kx kf (arrOf st) (lo+(n-1))))->Q (none,n) st):wpS (model prog w) A E s (b1T lo a nrem) Q st:=by
 unfold b1T;refine wpS_forRange (I:=λx c st'=>st'=st/\c=(none,x)/\SoO kf (arrOf st) lo x) ?step ?fin ⟨rfl,rfl,hs⟩
 case fin =>
  rintro c st' ⟨rfl,rfl,hs'⟩;rw[Nat.max_eq_right han]at hs'⊢;exact h nrem han (Nat.le_refl _) hs' (.inl rfl)
 case step =>
  rintro x c st' hax hxn ⟨rfl,rfl,hs'⟩;dsimp only;replace ha:1<=x:=Nat.le_trans ha hax;rw[show lo+x-1=lo+(x-1) by clear hn han hax hxn;omega];refine wpS_bind (O9 hcm hk hD (by omega) (by omega) ?_);clear hn han;dsimp only;cases hless:O.blt (kx kf (arrOf st') (lo+x)) (kx kf (arrOf st') (lo+(x-1)))with
  |true =>
   rw[if_pos rfl];exact wpS_pure (h x hax (by omega) hs' (.inr hless))
  |false =>
   rw[if_neg (by simp)];refine wpS_pure ⟨rfl,rfl,λi j hij hj=>?_⟩;by_cases hjx:j<x
   .exact hs' i j hij hjx
   .have hj':j=x:=by omega
    subst hj';by_cases hi':i=j
    .subst hi';exact KeyOrd.kle_refl _
    .exact KeyOrd.kle_trans (hs' i (j-1) (by omega) (by omega)) hless
theorem a1N{lo n nrem:Nat}{Q:Option Nat->SortSt->Prop}(hcm:Cmp prog w A s κ D (ltK kf))(hk:kindOf st=κ)(hD:AllD D (arrOf st))(hn:lo+nrem<=(arrOf st).size)(h1:1<=n)(hnn:n<=nrem)(hs:NiO kf (arrOf st) lo n)
  (h:∀m st',Kept lo st st'->1<=m->m<=nrem->SoO kf (arrOf st') lo m->Q (some m) st'):wpS (model prog w) A E s (Z7 lo n nrem) Q st:=by
 unfold Z7;refine wpS_bind (wpS_reverse ?_);have hK:Kept lo st (setArr st (mirror (arrOf st) lo (lo+n) ((lo+n-lo) / 2))):=Kept.rev (Nat.le_refl _) (by omega);refine wpS_bind (a4C hcm (hK.1.trans hk) (hD.perm hK.2.2.2.1) (by rw[hK.2.2.2.1.size_eq];exact hn) h1 hnn (λi j hij hj=>?_) λm q1 q2 q3 _=>wpS_pure (h m _ hK (by omega) q2 q3));show O.kle (kx kf (mirror (arrOf st) lo (lo+n) ((lo+n-lo) / 2)) (lo+i)) (kx kf (mirror (arrOf st) lo (lo+n) ((lo+n-lo) / 2)) (lo+j));have hz:lo+n<=(arrOf st).size:=by omega
 rw[a0Q hz,a0Q hz];clear hn h1 hnn hz;rw[if_pos (by omega),if_pos (by omega),show lo+(lo+n)-1-(lo+i)=lo+(n-1-i) by omega,show lo+(lo+n)-1-(lo+j)=lo+(n-1-j) by omega];exact hs _ _ (by omega) (by omega)
theorem a7S{lo n nrem:Nat}{Q:DescSt->SortSt->Prop}(hcm:Cmp prog w A s κ D (ltK kf))(hk:kindOf st=κ)(hD:AllD D (arrOf st))(hn:lo+nrem<=(arrOf st).size)(h1:1<=n)(hnn:n<=nrem)(hs:NiO kf (arrOf st) lo n)
  (h:∀m neq st',Kept lo st st'->n<=m->m<=nrem->NiO kf (arrOf st') lo m->neq+1<=m->(∀i,lo+m-(neq+1)<=i->i<lo+m->kx kf (arrOf st') i=kx kf (arrOf st') (lo+m-1))->Q (none,m,neq) st'):wpS (model prog w) A E s (a7D lo n nrem) Q st:=by
 unfold a7D;refine wpS_forRange (I:=λx c st'=>∃neq,c=(none,x,neq)/\Kept lo st st'/\NiO kf (arrOf st') lo x/\neq+1<=x /\
   (∀i,lo+x-(neq+1)<=i->i<lo+x->kx kf (arrOf st') i=kx kf (arrOf st') (lo+x-1))) ?step ?fin ⟨0,rfl,Kept.refl,hs,by omega,λi h1 h2=>by congr 1;omega⟩
 case fin =>
  rintro c st' ⟨neq,rfl,hB',hs',hq,he⟩;rw[Nat.max_eq_right hnn]at hs' hq he⊢;exact h nrem neq st' hB' hnn (Nat.le_refl _) hs' hq he
 case step =>
  rintro x c st' hax hxn ⟨neq,rfl,hB',hs',hq,he⟩;dsimp only;have hz:lo+x<(arrOf st').size:=by rw[hB'.2.2.2.1.size_eq];exact Nat.lt_of_lt_of_le (Nat.add_lt_add_left hxn lo) hn
  have hD':=hD.perm hB'.2.2.2.1;replace hxn:x<=nrem:=Nat.le_of_lt hxn;have ex:HEq (lo+x-1) (lo+(x-1)):=heq_of_eq (by clear hn h1 hnn hax hxn hz;omega);have hz':lo+x-1<(arrOf st').size:=Nat.lt_of_le_of_lt (Nat.sub_le _ _) hz;clear hn h1 hnn;refine wpS_bind (O9 hcm (hB'.1.trans hk) hD' hz hz' ?_);dsimp only;rw[eq_of_heq ex]at he hz'⊢;cases hless:O.blt (kx kf (arrOf st') (lo+x)) (kx kf (arrOf st') (lo+(x-1)))with
  |true =>
   rw[if_pos rfl];have step1:∀xs:Array Keyed,(∀k,kx kf xs k=kx kf (arrOf st') k)->NiO kf xs lo (x+1):=by
    intro xs hk i j hij hj;rw[hk,hk];by_cases hjx:j<x
    .exact hs' i j hij hjx
    .have hj':j=x:=by omega
     subst hj';by_cases hi':i=j
     .subst hi';exact KeyOrd.kle_refl _
     .exact KeyOrd.kle_trans (KeyOrd.kle_of_klt hless) (hs' i (j-1) (by omega) (by omega))
   by_cases hneq:neq > 0
   .rw[if_pos hneq];refine wpS_bind (wpS_reverse (wpS_pure ⟨0,rfl,hB'.trans (Kept.rev (by clear hz hz' ex hax hxn hneq;omega) (Nat.le_of_lt hz)),step1 _ (K8 (Nat.le_of_lt hz) (λk q1 q2=>by rw[eq_of_heq ex];exact he k q1 q2)),Nat.succ_pos _,λi h1 h2=>by clear hz hz' ex hax hxn hneq hq;congr 1;omega⟩))
   .rw[if_neg hneq];exact wpS_pure ⟨0,rfl,hB',step1 _ (λ_=>rfl),Nat.succ_pos _,λi h1 h2=>by clear hz hz' ex hax hxn hneq hq;congr 1;omega⟩
  |false =>
   rw[if_neg (by simp)];refine wpS_bind (O9 hcm (hB'.1.trans hk) hD' hz' hz ?_);dsimp only;clear hz hz';cases hlarger:O.blt (kx kf (arrOf st') (lo+(x-1))) (kx kf (arrOf st') (lo+x))with
   |true =>
    rw[if_pos rfl];exact wpS_pure (h x neq st' hB' hax hxn hs' hq (by rw[eq_of_heq ex];exact he))
   |false =>
    rw[if_neg (by simp)];have heqx:kx kf (arrOf st') (lo+x)=kx kf (arrOf st') (lo+(x-1)):=KeyOrd.kle_antisymm hlarger hless;clear hax hxn;refine wpS_pure ⟨neq+1,rfl,hB',λi j hij hj=>?_,by omega,λi h1 h2=>?_⟩
    .by_cases hjx:j<x
     .exact hs' i j hij hjx
     .have hj':j=x:=by omega
      subst hj';by_cases hi':i=j
      .subst hi';exact KeyOrd.kle_refl _
      .rw[heqx];exact hs' i (j-1) (by omega) (by omega)
    .rw[show lo+(x+1)-1=lo+x by omega];by_cases hix:i=lo+x
     .subst hix;rfl
     .rw[heqx];exact he i (by omega) (by omega)
theorem a6I{lo n nrem:Nat}{Q:Option Nat->SortSt->Prop}(hcm:Cmp prog w A s κ D (ltK kf))(hk:kindOf st=κ)(hD:AllD D (arrOf st))(hn:lo+nrem<=(arrOf st).size)(hnn:n+1<=nrem)(hs:NiO kf (arrOf st) lo (n+1))
  (h:∀m st',Kept lo st st'->1<=m->m<=nrem->SoO kf (arrOf st') lo m->Q (some m) st'):wpS (model prog w) A E s (dpO lo n nrem) Q st:=by
 unfold dpO;refine wpS_bind (O8 ?_);refine wpS_bind (a7S hcm hk hD hn (by omega) hnn hs λm neq st' hB' hm1 hm2 hs' hq he=>?_);dsimp only;have hz:=heq_of_eq (hB'.2.2.2.1.size_eq:(arrOf st').size=(arrOf st).size);have hz2:lo+m<=(arrOf st').size:=by rw[eq_of_heq hz];exact Nat.le_trans (Nat.add_le_add_left hm2 lo) hn
 have hD':=hD.perm hB'.2.2.2.1;by_cases hneq:neq > 0
 .rw[if_pos hneq];have hK2:Kept lo st' (setArr st' (mirror (arrOf st') (lo+m-(neq+1)) (lo+m) ((lo+m-(lo+m-(neq+1))) / 2))):=Kept.rev (by omega) hz2;refine wpS_bind (wpS_reverse (a1N hcm (hK2.1.trans (hB'.1.trans hk)) (hD'.perm hK2.2.2.2.1) (by rw[hK2.2.2.2.1.size_eq,eq_of_heq hz];exact hn) (by omega) hm2 (λi j hij hj=>?_) λm2 st2 k2=>h m2 st2 (hB'.trans (hK2.trans k2))));show O.kle (kx kf (mirror (arrOf st') _ _ _) _) (kx kf (mirror (arrOf st') _ _ _) _);rw[K8 hz2 he,K8 hz2 he];exact hs' i j hij hj
 .rw[if_neg hneq];exact a1N hcm (hB'.1.trans hk) hD' (by rw[eq_of_heq hz];exact hn) (by omega) hm2 hs' λm2 st2 k2=>h m2 st2 (hB'.trans k2)
theorem a5B{lo nrem:Nat}{Q:Option Nat->SortSt->Prop}(hcm:Cmp prog w A s κ D (ltK kf))(hk:kindOf st=κ)(hD:AllD D (arrOf st))(hn:lo+nrem<=(arrOf st).size)(h1:1<=nrem)
  (h:∀m st',Kept lo st st'->1<=m->m<=nrem->SoO kf (arrOf st') lo m->Q (some m) st'):wpS (model prog w) A E s (countRun' lo nrem) Q st:=by
 rw[a8U];refine wpS_bind (a4C hcm hk hD hn (Nat.le_refl 1) h1 (λi j hij hj=>by have:i=j:=(by omega);subst this;exact KeyOrd.kle_refl _) λn hn1 hn2 hsn hor=>?_);dsimp only;by_cases hnn:n=nrem
 .rw[if_pos (by simpa using hnn)];exact wpS_pure (h n st Kept.refl hn1 hn2 hsn)
 .rw[if_neg (by simpa using hnn)];have hlt:O.klt (kx kf (arrOf st) (lo+n)) (kx kf (arrOf st) (lo+(n-1))):=hor.resolve_left hnn;replace hnn:n+1<=nrem:=by omega
  clear hor hn2 h1;replace hn2:=Nat.le_of_succ_le hnn;have hz:lo+n<(arrOf st).size:=Nat.lt_of_lt_of_le (Nat.add_lt_add_left hnn lo) hn;by_cases hgt:n > 1
  .rw[if_pos hgt];refine wpS_bind (O9 hcm hk hD (by omega) (by omega) ?_);dsimp only;have ex:lo+n-1=lo+(n-1):=by clear hn hnn hn2 hz;omega
   rw[ex];cases hrose:O.blt (kx kf (arrOf st) lo) (kx kf (arrOf st) (lo+(n-1)))with
   |true =>
    rw[if_pos rfl];exact wpS_pure (h n st Kept.refl hn1 hn2 hsn)
   |false =>
    rw[if_neg (by simp)];have hn':=hn;clear hn;have hall:∀k,k<n->kx kf (arrOf st) (lo+k)=kx kf (arrOf st) (lo+(n-1)):=by
     intro k hk;clear hz hnn hn2 ex;have a1:=hsn 0 k (Nat.zero_le _) hk;have a2:=hsn k (n-1) (by omega) (by omega);exact KeyOrd.kle_antisymm a2 (KeyOrd.kle_trans hrose a1)
    have hmr:∀k,kx kf (mirror (arrOf st) lo (lo+n) ((lo+n-lo) / 2)) k=kx kf (arrOf st) k:=K8 (Nat.le_of_lt hz) λk q1 q2=>by
     rw[ex];clear hz hnn hn2 ex hn';have:=hall (k-lo) (by omega);rwa[show lo+(k-lo)=k by omega]at this
    have hK2:Kept lo st (setArr st (mirror (arrOf st) lo (lo+n) ((lo+n-lo) / 2))):=Kept.rev (Nat.le_refl _) (Nat.le_of_lt hz);refine wpS_bind (wpS_reverse (a6I hcm (hK2.1.trans hk) (hD.perm hK2.2.2.2.1) (by rw[hK2.2.2.2.1.size_eq];exact hn') hnn (λi j hij hj=>?_) λm2 st2 k2=>h m2 st2 (hK2.trans k2)));show O.kle (kx kf (mirror (arrOf st) _ _ _) _) (kx kf (mirror (arrOf st) _ _ _) _);rw[hmr,hmr];clear hz hnn hn2 ex hn' hn1;by_cases hjn:j<n
    .rw[hall i (by omega),hall j hjn];exact KeyOrd.kle_refl _
    .have hj':j=n:=by omega
     subst hj';by_cases hi':i=j
     .subst hi';exact KeyOrd.kle_refl _
     .rw[hall i (by omega)];exact KeyOrd.kle_of_klt hlt
  .rw[if_neg hgt];have hn1':n=1:=by omega
   subst hn1';refine a6I hcm hk hD hn hnn (λi j hij hj=>?_) h;clear hz hnn hn2 hn hn1 hgt;by_cases hi':i=j
   .subst hi';exact KeyOrd.kle_refl _
   .have hi0:i=0:=by omega
    have hj1:j=1:=by omega
    subst hi0;subst hj1;exact KeyOrd.kle_of_klt hlt
end
noncomputable def a1u:Nat->List (List Keyed)->List (Nat×Nat)
 |_,[]=>[]
 |o,r::rs=>(o,r.length)::a1u (o+r.length) rs
theorem N9:∀(o:Nat) (X Y:List (List Keyed)),a1u o (X++Y)=a1u o X++a1u (o+X.flatten.length) Y
 |o,[],Y=>by simp[a1u]
 |o,r::X,Y=>by
  simp only[List.cons_append,a1u,N9 (o+r.length) X Y,List.flatten_cons,List.length_append,Nat.add_assoc]
theorem a2h:∀(o:Nat) (X:List (List Keyed)),(a1u o X).length=X.length
 |_,[]=>rfl
 |o,r::X=>by simp only[a1u,List.length_cons,a2h (o+r.length) X]
noncomputable abbrev ent(e:Nat×Nat×Nat):Nat×Nat:=(e.1,e.2.1)
section
variable {prog:Program}{w:World}{A:Around}{E:Value->Shared->Prop}{s:Shared}{κ:SortKind}{D:Keyed->Prop}{O:KeyOrd}{kf:Keyed->O.α}{st:SortSt}{a0:Array Keyed}
structure RI(kf:Keyed->O.α)(κ:SortKind)(a0:Array Keyed)(st:SortSt)(runs:List (List Keyed))(rest:List Keyed):Prop where
 kind:kindOf st=κ
 failed:failedOf st=none
 perm:(arrOf st).Perm a0
 eq:(arrOf st).toList=runs.flatten++rest
 sorted:∀r∈runs,r.Pairwise (leK kf)
 ne:∀r∈runs,0<r.length
 pend:(pendingOf st).toList.map ent=a1u 0 runs
theorem RI.size{runs:List (List Keyed)}{rest:List Keyed}(h:RI kf κ a0 st runs rest):(pendingOf st).size=runs.length:=by
 rw[<-Array.length_toList,<-List.length_map (f:=ent),h.pend,a2h]
theorem a1f{X Y:List (List Keyed)}{ra rb rest:List Keyed}{Q:Bool->SortSt->Prop}(hcm:Cmp prog w A s κ D (ltK kf))(hD:AllD D a0)(h:RI kf κ a0 st (X++ra::rb::Y) rest)
  (q:∀(st':SortSt) (M:List Keyed),RI kf κ a0 st' (X++M::Y) rest->M.length=ra.length+rb.length->Q true st'):wpS (model prog w) A E s (mergeAt' X.length) Q st:=by
 have hp:=h.pend;rw[N9,a1u,a1u]at hp;obtain⟨l1,l2,e0,e1,e2⟩:=List.map_eq_append_iff.mp hp;obtain⟨x,l3,e3,e4,e5⟩:=List.map_eq_cons_iff.mp e2;obtain⟨y,l4,e6,e7,e8⟩:=List.map_eq_cons_iff.mp e5;subst e3 e6;obtain⟨x1,x2,pw⟩:=x;obtain⟨y1,y2,pw2⟩:=y;rw[Nat.zero_add]at e4 e7 e8;have e4:(x1,x2)=(X.flatten.length,ra.length):=e4;have e7:(y1,y2)=(X.flatten.length+ra.length,rb.length):=e7;cases e4;cases e7;have hl1:l1.length=X.length:=by rw[<-List.length_map (f:=ent),e1,a2h]
 have g1:(pendingOf st)[X.length]?=some (X.flatten.length,ra.length,pw):=by
  rw[<-Array.getElem?_toList,e0,List.getElem?_append_right (by omega),show X.length-l1.length=0 by omega];rfl
 have g2:(pendingOf st)[X.length+1]?=some (X.flatten.length+ra.length,rb.length,pw2):=by
  rw[<-Array.getElem?_toList,e0,List.getElem?_append_right (by omega),show X.length+1-l1.length=1 by omega];rfl
 have hrun:Runs2 kf D (arrOf st) X.flatten ra rb (Y.flatten++rest):=by
  refine⟨?_,λz hz=>(hD.perm h.perm) z hz,h.sorted _ (by simp),h.sorted _ (by simp),h.ne _ (by simp),h.ne _ (by simp)⟩;rw[h.eq];simp[List.append_assoc]
 refine a4A hcm h.kind hrun g1 g2 h.failed λst' M k1 k2 k3 k4 k5=>?_;have hMl:M.length=ra.length+rb.length:=by rw[k4.1.length_eq,List.length_append]
 refine q st' M ⟨k1,k2,?_,?_,λr hr=>?_,λr hr=>?_,?_⟩ hMl
 .refine Array.perm_iff_toList_perm.mpr ?_;refine List.Perm.trans ?_ (Array.perm_iff_toList_perm.mp h.perm);rw[k5,hrun.eq];refine List.Perm.append_right _ ?_;rw[List.append_assoc X.flatten];exact List.Perm.append_left _ k4.1
 .rw[k5];simp[List.append_assoc]
 .rcases List.mem_append.mp hr with z|z
  .exact h.sorted r (List.mem_append_left _ z)
  .rcases List.mem_cons.mp z with rfl|z
   .exact k4.2
   .exact h.sorted r (List.mem_append_right _ (List.mem_cons_of_mem _ (List.mem_cons_of_mem _ z)))
 .rcases List.mem_append.mp hr with z|z
  .exact h.ne r (List.mem_append_left _ z)
  .rcases List.mem_cons.mp z with rfl|z
   .have:=h.ne ra (by simp);omega
   .exact h.ne r (List.mem_append_right _ (List.mem_cons_of_mem _ (List.mem_cons_of_mem _ z)))
 .rw[k3,Array.eraseIdxIfInBounds];have hz:(pendingOf st).size=X.length+(Y.length+2):=by rw[h.size];simp
  rw[dif_pos (by rw[Array.size_setIfInBounds];omega),Array.toList_eraseIdx,Array.toList_setIfInBounds,e0];rw[List.set_append_right _ _ (by omega),show X.length-l1.length=0 by omega,List.set_cons_zero];rw[List.eraseIdx_append_of_length_le (by omega),show X.length+1-l1.length=1 by omega];show(l1++(X.flatten.length,ra.length+rb.length,pw)::l4).map ent=_;rw[List.map_append,List.map_cons,e1,e8,N9,a1u,Nat.zero_add,hMl];show _++(X.flatten.length,ra.length+rb.length)::_=_;rw[Nat.add_assoc]
end
noncomputable def a1I(lo n:Nat):StateT SortSt Sem (ForInStep (Option Unit×Nat)) :=
 (modify λs=>setPending s ((pendingOf s).push (lo,n,0)))>>=λ_=>pure (.yield (none,lo+n))
noncomputable def V3(sz pw:Nat):StateT SortSt Sem (Option Unit×Unit) :=
 forIn [:sz] ((none,()):Option Unit×Unit) λ_ _=>get>>=λg=>match (if (pendingOf g).size > 1 then(pendingOf g)[(pendingOf g).size-2]? else none)with
  |some (_,_,older)=>(if older<=pw then pure (.done (none,()))else mergeAt' ((pendingOf g).size-2)>>=λb=>if (!b)=true then pure (.done (some (),()))else pure (.yield (none,())))
  |_=>pure (.done (none,()))
noncomputable def a0d(sz lo n:Nat):StateT SortSt Sem (ForInStep (Option Unit×Nat)):=get>>=λg=>match (pendingOf g).back? with
 |some (s1,n1,_)=>V3 sz (power' sz (2*s1+n1) (2*s1+n1+n1+n) sz)>>=λc=>match c.1 with
  |some r=>pure (.done (some r,lo))
  |none=>(modify λs=>setPending s ((pendingOf s).modify ((pendingOf s).size-1) λx=>(x.1,x.2.1,power' sz (2*s1+n1) (2*s1+n1+n1+n) sz)))>>=λ_=>a1I lo n
 |_=>a1I lo n
noncomputable def a7q(sz:Nat):StateT SortSt Sem (Option Unit×Unit) :=
 forIn [:sz] ((none,()):Option Unit×Unit) λ_ _=>get>>=λg=>if (pendingOf g).size<=1 then pure (.done (none,()))
  else mergeAt' (if Option.any (λx=>decide (x<(pendingOf g)[(pendingOf g).size-2+1]?.elim 0 λx=>x.2.1)) (if (pendingOf g).size-2 > 0 then Option.map (λx=>x.2.1) (pendingOf g)[(pendingOf g).size-2-1]? else none)=true then(pendingOf g).size-2-1 else(pendingOf g).size-2)>>=λb=>if (!b)=true then pure (.done (some (),()))else pure (.yield (none,()))
section
variable {prog:Program}{w:World}{A:Around}{E:Value->Shared->Prop}{s:Shared}{κ:SortKind}{D:Keyed->Prop}{O:KeyOrd}{kf:Keyed->O.α}{st:SortSt}{a0:Array Keyed}{runs:List (List Keyed)}{rest:List Keyed}
theorem two_last{α:Type}{l:List α}(h:2<=l.length):∃X a b,l=X++[a,b]/\X.length=l.length-2:=by
 refine⟨l.take (l.length-2),l[l.length-2],l[l.length-1],?_,by rw[List.length_take];omega⟩;have e1:l.drop (l.length-2)=[l[l.length-2],l[l.length-1]]:=by
  rw[List.drop_eq_getElem_cons (by omega),List.drop_eq_getElem_cons (by omega),List.drop_eq_nil_of_le (by omega)];congr 2;congr 1;omega
 rw[<-e1,List.take_append_drop]
theorem a3G{sz pw:Nat}{Q:Option Unit×Unit->SortSt->Prop}(hcm:Cmp prog w A s κ D (ltK kf))(hD:AllD D a0)(h:RI kf κ a0 st runs rest)
  (q:∀st' runs',RI kf κ a0 st' runs' rest->runs'.flatten.length=runs.flatten.length->runs'.length<=runs.length->Q (none,()) st'):wpS (model prog w) A E s (V3 sz pw) Q st:=by
 unfold V3;refine wpS_forRange (I:=λ_ c st'=>c=(none,())/\∃runs',RI kf κ a0 st' runs' rest/\runs'.flatten.length=runs.flatten.length/\runs'.length<=runs.length) ?step (λc st' ⟨e,r',h1,h2,h3⟩=>by rw[e];exact q st' r' h1 h2 h3) ⟨rfl,runs,h,rfl,Nat.le_refl _⟩;rintro x c st' _ _ ⟨rfl,r',h1,h2,h3⟩;refine wpS_bind (wpS_get ?_);split
 .rename_i older heq;split
  .exact wpS_pure (q st' r' h1 h2 h3)
  .have hz:(pendingOf st').size > 1:=by
    refine Nat.lt_of_not_le λz=>?_;rw[if_neg (by omega)]at heq;cases heq
   have hs:=h1.size;obtain⟨X,ra,rb,e1,e2⟩:=two_last (l:=r') (by omega);rw[e1]at h1;rw[show(pendingOf st').size-2=X.length by omega];refine wpS_bind (a1f hcm hD h1 λst2 M k1 k2=>?_);rw[if_neg (by simp)];refine wpS_pure ⟨rfl,_,k1,?_,?_⟩
   .rw[<-h2,e1];simp[k2]
   .rw[e1]at h3;simp at h3⊢;omega
 .exact wpS_pure (q st' r' h1 h2 h3)
theorem a1e{lo n:Nat}{Q:ForInStep (Option Unit×Nat)->SortSt->Prop}{r:List Keyed}(h:RI kf κ a0 st runs (r++rest))(hr:r.Pairwise (leK kf))(hn:0<n)(hl:r.length=n)(hlo:lo=runs.flatten.length)
  (q:∀st',RI kf κ a0 st' (runs++[r]) rest->Q (.yield (none,lo+n)) st'):wpS (model prog w) A E s (a1I lo n) Q st:=by
 unfold a1I;refine wpS_bind (wpS_modify (wpS_pure (q _ ⟨h.kind,h.failed,h.perm,?_,λz hz=>?_,λz hz=>?_,?_⟩)))
 .show(arrOf st).toList=_;rw[h.eq];simp
 .rcases List.mem_append.mp hz with y|y
  .exact h.sorted z y
  .rw[List.mem_singleton.mp y];exact hr
 .rcases List.mem_append.mp hz with y|y
  .exact h.ne z y
  .rw[List.mem_singleton.mp y,hl];exact hn
 .show((pendingOf st).push (lo,n,0)).toList.map ent=_;rw[Array.toList_push,List.map_append,h.pend,N9,Nat.zero_add,hlo,<-hl];rfl
theorem map_modify{p:Array (Nat×Nat×Nat)}{i pw:Nat}:(p.modify i λx=>(x.1,x.2.1,pw)).toList.map ent=p.toList.map ent:=by
 rw[Array.toList_modify];refine List.ext_getElem? λj=>?_;rw[List.getElem?_map,List.getElem?_map,List.getElem?_modify];cases p.toList[j]? with
 |none=>rfl
 |some x =>
  by_cases e:i=j
  .simp[e]
  .simp[e]
theorem a5D{sz lo n:Nat}{Q:ForInStep (Option Unit×Nat)->SortSt->Prop}{r:List Keyed}(hcm:Cmp prog w A s κ D (ltK kf))(hD:AllD D a0)(h:RI kf κ a0 st runs (r++rest))(hr:r.Pairwise (leK kf))(hn:0<n)(hl:r.length=n)(hlo:lo=runs.flatten.length)
  (q:∀st' runs',RI kf κ a0 st' runs' rest->runs'.flatten.length=lo+n->runs'.length<=runs.length+1->Q (.yield (none,lo+n)) st'):wpS (model prog w) A E s (a0d sz lo n) Q st:=by
 unfold a0d;refine wpS_bind (wpS_get ?_);split
 .refine wpS_bind (a3G hcm hD h λst' runs' k1 k2 k3=>?_);dsimp only;refine wpS_bind (wpS_modify ?_);refine a1e (runs:=runs') (rest:=rest) ⟨k1.kind,k1.failed,k1.perm,k1.eq,k1.sorted,k1.ne,map_modify.trans k1.pend⟩ hr hn hl (by rw[k2];exact hlo) λst2 k4=>q st2 _ k4 ?_ ?_
  .simp[k2,hl,hlo]
  .simp;omega
 .refine a1e h hr hn hl hlo λst2 k4=>q st2 _ k4 ?_ ?_
  .simp[hl,hlo]
  .simp
end
section
variable {prog:Program}{w:World}{A:Around}{E:Value->Shared->Prop}{s:Shared}{κ:SortKind}{D:Keyed->Prop}{O:KeyOrd}{kf:Keyed->O.α}{st:SortSt}{a0:Array Keyed}{runs:List (List Keyed)}{rest:List Keyed}
theorem b1S{α:Type}{l:List α}{i:Nat}(h:i+1<l.length):∃X a b Y,l=X++a::b::Y/\X.length=i:=by
 refine⟨l.take i,l[i],l[i+1],l.drop (i+1+1),?_,by rw[List.length_take];omega⟩;rw[<-List.drop_eq_getElem_cons (by omega),<-List.drop_eq_getElem_cons (by omega),List.take_append_drop]
theorem a4B{sz:Nat}{Q:Option Unit×Unit->SortSt->Prop}(hcm:Cmp prog w A s κ D (ltK kf))(hD:AllD D a0)(h:RI kf κ a0 st runs rest)(hl:runs.length<=sz)
  (q:∀st' runs',RI kf κ a0 st' runs' rest->runs'.length<=1->Q (none,()) st'):wpS (model prog w) A E s (a7q sz) Q st:=by
 unfold a7q;refine wpS_forRange (I:=λx c st'=>c=(none,())/\∃runs',RI kf κ a0 st' runs' rest/\runs'.length+x<=sz+1) ?step (λc st' ⟨e,r',h1,h2⟩=>by rw[e];exact q st' r' h1 (by omega)) ⟨rfl,runs,h,by omega⟩;rintro x c st' _ _ ⟨rfl,r',h1,h2⟩;refine wpS_bind (wpS_get ?_);have hs:=h1.size;split
 .exact wpS_pure (q st' r' h1 (by omega))
 .rename_i hz;have go:∀i,i+1<r'.length->wpS (model prog w) A E s ((mergeAt' i>>=λb=>if (!b)=true then pure (ForInStep.done (some (),()))else pure (ForInStep.yield (none,()))):StateT SortSt Sem (ForInStep (Option Unit×Unit))) (λr st''=>match r with|ForInStep.done c'=>Q c' st''|ForInStep.yield c'=>c'=(none,())/\∃runs',RI kf κ a0 st'' runs' rest/\runs'.length+(x+1)<=sz+1) st':=λi hi=>by
   obtain⟨X,ra,rb,Y,e1,e2⟩:=b1S hi;rw[e1]at h1 h2;rw[<-e2];refine wpS_bind (a1f hcm hD h1 λst2 M k1 k2=>?_);rw[if_neg (by simp)];refine wpS_pure ⟨rfl,_,k1,?_⟩;simp at h2⊢;omega
  refine wpS_mono (go _ ?_) (λr st'' hr=>by cases r<;>exact hr);by_cases hz3:(pendingOf st').size-2 > 0
  .rw[if_pos hz3];split<;>omega
  .rw[if_neg hz3,if_neg (by simp)];omega
theorem RI.kept{st':SortSt}(h:RI kf κ a0 st runs rest)(k:Kept runs.flatten.length st st'):RI kf κ a0 st' runs ((arrOf st').toList.drop runs.flatten.length):=by
 refine⟨k.1.trans h.kind,k.2.2.1.trans h.failed,k.2.2.2.1.trans h.perm,?_,h.sorted,h.ne,by rw[k.2.1];exact h.pend⟩;have e:(arrOf st').toList.take runs.flatten.length=runs.flatten:=by
  have e0:(arrOf st).toList.take runs.flatten.length=runs.flatten:=by rw[h.eq,List.take_left'];rfl
  rw[<-e0];refine List.ext_getElem? λi=>?_;rw[List.length_take];by_cases hi:i<runs.flatten.length
  .have hle:runs.flatten.length<=(arrOf st).toList.length:=by rw[h.eq,List.length_append];omega
   rw[List.getElem?_take_of_lt (by omega),List.getElem?_take_of_lt hi,Array.getElem?_toList,Array.getElem?_toList];exact k.2.2.2.2 i hi
  .rw[List.getElem?_eq_none (by rw[List.length_take];omega),List.getElem?_eq_none (by rw[List.length_take];omega)]
 rw[<-List.take_append_drop runs.flatten.length (arrOf st').toList,e];congr 1;rw[List.drop_append_of_le_length (Nat.le_refl _),List.drop_length,List.nil_append]
theorem b2j{arr:Array Keyed}{lo n:Nat}(h:SoO kf arr lo n)(hn:lo+n<=arr.size):((arr.toList.drop lo).take n).Pairwise (leK kf):=by
 rw[List.pairwise_iff_getElem];intro i j hi hj hij;rw[List.length_take,List.length_drop,Array.length_toList]at hi hj;have q:=h i j (Nat.le_of_lt hij) (by omega);unfold leK;have g:∀k,k<n->kx kf arr (lo+k)=kf (arr[lo+k]?.getD (Value.none,Value.none)):=λk _=>by unfold kx;rw[Array.getD_eq_getD_getElem?]
 rw[g i (by omega),g j (by omega),getElem?_pos arr _ (by omega),getElem?_pos arr _ (by omega)]at q;simp only[List.getElem_take,List.getElem_drop,Array.getElem_toList];exact q
theorem a2a:∀{runs:List (List Keyed)},(∀r∈runs,0<r.length)->runs.length<=runs.flatten.length
 |[],_=>Nat.le_refl _
 |r::runs,h=>by
  have:=a2a (runs:=runs) λz hz=>h z (List.mem_cons_of_mem _ hz);have:=h r List.mem_cons_self;simp only[List.length_cons,List.flatten_cons,List.length_append];omega
theorem a2V{α:Type}{m m':StateT SortSt Sem α}{Q:α->SortSt->Prop}(e:m=m')(h:wpS (model prog w) A E s m' Q st):wpS (model prog w) A E s m Q st:=by rw[e];exact h
theorem a4x{Q:Unit->SortSt->Prop}(hcm:Cmp prog w A s κ D (ltK kf))(hk:kindOf st=κ)(hD:AllD D (arrOf st))(hp:pendingOf st=#[])(hf:failedOf st=none)
  (q:∀st':SortSt,(arrOf st').Perm (arrOf st)->failedOf st'=none->(arrOf st').toList.Pairwise (leK kf)->Q () st'):wpS (model prog w) A E s sortRuns' Q st:=by
 rw[sortRuns'_eq];refine wpS_bind (wpS_get ?_);dsimp only;generalize hsz:(arrOf st).size=sz;have h0:RI kf κ (arrOf st) st [] (arrOf st).toList:=⟨hk,hf,.refl _,rfl,(λ_ z=>nomatch z),(λ_ z=>nomatch z),by rw[hp];rfl⟩;have zz:∀{st':SortSt}{runs:List (List Keyed)}{rest:List Keyed},RI kf κ (arrOf st) st' runs rest->(arrOf st').size=sz:=λh=>by rw[h.perm.size_eq];exact hsz
 have ll:∀{st':SortSt}{runs:List (List Keyed)}{rest:List Keyed},RI kf κ (arrOf st) st' runs rest->runs.flatten.length+rest.length=sz:=λh=>by
  have:=congrArg List.length h.eq;rw[Array.length_toList,zz h,List.length_append]at this;omega
 refine wpS_bind (wpS_mono (wpS_forRange (I:=λx c st'=>c.1=none/\∃runs rest,RI kf κ (arrOf st) st' runs rest/\c.2=runs.flatten.length/\x<=c.2)
  (Q:=λc st'=>c.1=none/\∃runs,RI kf κ (arrOf st) st' runs []/\runs.length<=sz) ?step ?fin ⟨rfl,[],_,h0,rfl,Nat.le_refl _⟩) ?post)
 case fin =>
  rintro c st' ⟨e1,runs,rest,h1,h2,h3⟩;have:=ll h1;have hr:rest=[]:=List.eq_nil_of_length_eq_zero (by omega);subst hr;exact⟨e1,runs,h1,by have:=a2a h1.ne;omega⟩
 case step =>
  rintro x c st' _ hx ⟨e1,runs,rest,h1,h2,h3⟩;obtain⟨c1,lo⟩:=c;dsimp only at e1 h2 h3⊢;subst e1;have hll:=ll h1;have hzz:=zz h1;by_cases hge:lo ≥ sz
  .rw[if_pos hge];have hr:rest=[]:=List.eq_nil_of_length_eq_zero (by omega);subst hr;exact wpS_pure ⟨rfl,runs,h1,by have:=a2a h1.ne;omega⟩
  .rw[if_neg hge];have hD':=hD.perm h1.perm;have add:∀(n:Nat) (st2:SortSt),Kept lo st' st2->0<n->lo+n<=sz->SoO kf (arrOf st2) lo n->wpS (model prog w) A E s (a0d sz lo n) (λr st''=>match r with|ForInStep.done c'=>c'.1=none/\∃runs,RI kf κ (arrOf st) st'' runs []/\runs.length<=sz|ForInStep.yield c'=>c'.1=none/\∃runs rest,RI kf κ (arrOf st) st'' runs rest/\c'.2=runs.flatten.length/\x+1<=c'.2) st2:=λn st2 hK hn0 hn1 hso=>by
    rw[h2]at hK;have hR:=h1.kept hK;rw[<-h2]at hR;have hz2:=zz hR;rw[<-List.take_append_drop n ((arrOf st2).toList.drop lo)]at hR;refine a5D hcm hD hR (b2j hso (by omega)) hn0 (by rw[List.length_take,List.length_drop,Array.length_toList];omega) h2 λst3 r3 k1 k2 k3=>⟨rfl,r3,_,k1,k2.symm,by show x+1<=lo+n;omega⟩
   refine wpS_bind (a5B hcm h1.kind hD' (by omega) (by omega) λm st2 hK hm1 hm2 hso=>?_);dsimp only;split
   .refine wpS_bind (O8 ?_);have hz2:(arrOf st2).size=sz:=by rw[hK.2.2.2.1.size_eq];exact hzz
    refine wpS_bind (a9n hcm (hK.1.trans h1.kind) (hD'.perm hK.2.2.2.1) (by omega) (by omega) hso λst3 hK3 hso3=>?_);rw[if_neg (by simp)];refine a2V (m':=a0d sz lo (min (sz-lo) (minRun' sz sz 0))) (by
     unfold a0d;refine congrArg _ (funext λg=>?_);rcases(pendingOf g).back? with _|⟨s1,n1,z⟩
     .rfl
     .dsimp only;refine congr (congrArg _ ?_) (funext λc=>?_)
      .unfold V3;refine congrArg _ (funext λ_=>funext λ_=>congrArg _ (funext λg=>?_));generalize (if (pendingOf g).size > 1 then(pendingOf g)[(pendingOf g).size-2]? else none)=o;rcases o with _|⟨a,b,o⟩<;>rfl
      .rcases c with⟨_|q,c⟩<;>rfl) (wpS_mono (add _ st3 (hK.trans hK3) (by omega) (by omega) hso3) λr st'' hr=>by cases r<;>exact hr)
   .refine a2V (m':=a0d sz lo m) (by
     unfold a0d;refine congrArg _ (funext λg=>?_);rcases(pendingOf g).back? with _|⟨s1,n1,z⟩
     .rfl
     .dsimp only;refine congr (congrArg _ ?_) (funext λc=>?_)
      .unfold V3;refine congrArg _ (funext λ_=>funext λ_=>congrArg _ (funext λg=>?_));generalize (if (pendingOf g).size > 1 then(pendingOf g)[(pendingOf g).size-2]? else none)=o;rcases o with _|⟨a,b,o⟩<;>rfl
      .rcases c with⟨_|q,c⟩<;>rfl) (wpS_mono (add _ st2 hK (by omega) (by omega) hso) λr st'' hr=>by cases r<;>exact hr)
 case post =>
  rintro c st' ⟨e1,runs,h1,h2⟩;obtain⟨c1,lo⟩:=c;dsimp only at e1;subst e1;dsimp only;refine wpS_bind (a4B (sz:=sz) hcm hD h1 h2 λst2 r2 k1 k2=>?_);dsimp only;refine wpS_pure (q st2 k1.perm k1.failed ?_);rw[k1.eq,List.append_nil]
  match r2,k2,k1.sorted with
  |[],_,_=>exact .nil
  |[r],_,hs=>simpa using hs r (by simp)
  |_::_::_,k2,_=>simp at k2
end
noncomputable def E3(h:Heap)(v:Value):List Int:=match v with
 |.ref b=>match h.get? b with
  |some o=>match o.data with
   |.seq xs _=>xs.toList.map numOf
   |_=>[]
  |none=>[]
 |_=>[]
theorem C8{h:Heap}{b:Addr}{its:Array Value}{r:List Int}(t:IsTup h b its)(i:IntsAre its.toList r):E3 h (.ref b)=r:=by
 obtain⟨o,h1,h2,n,h3⟩:=t;unfold E3;simp only[h1,h3];exact i.nums
theorem K7{α β:Type}{f:α->β}{os ls:List β}(h:os.Perm ls):∀{T:List α},ls=T.map f->∃T':List α,T'.Perm T/\T'.map f=os:=by
 induction h with
 |nil=>intro T e;cases T with|nil=>exact⟨[],.nil,rfl⟩|cons _ _=>cases e
 |cons x _ ih =>
  intro T e;cases T with
  |nil=>cases e
  |cons t T =>
   injection e with e1 e2
   obtain⟨T',h1,h2⟩:=ih e2;exact⟨t::T',h1.cons t,by rw[List.map_cons,h2,e1]⟩
 |swap x y l =>
  intro T e
  match T,e with
  |a::b::T,e =>
   injection e with e1 e2
   injection e2 with e2 e3
   exact⟨b::a::T,.swap a b T,by rw[List.map_cons,List.map_cons,e1,e2,e3]⟩
 |trans _ _ ih1 ih2 =>
  intro T e;obtain⟨T',h1,h2⟩:=ih2 e;obtain⟨T2,h3,h4⟩:=ih1 h2.symm;exact⟨T2,h3.trans h1,h4⟩
section
variable {prog:Program}{w:World}{A:Around}{E:Value->Shared->Prop}{s:Shared}
noncomputable def kfH(h:Heap):Keyed->OL.α:=λx=>(E3 h x.1:List Int)
def DH(h:Heap)(x:Keyed):Prop:=∃b its r,x.1=Value.ref b/\IsTup h b its/\IntsAre its.toList r
theorem b6Q:Cmp prog w A s (tuples' true) (DH s.heap) (ltK (kfH s.heap)):=by
 rintro⟨x,x'⟩ ⟨y,y'⟩ C ⟨b,its,r,e1,t1,i1⟩ ⟨b',its',r',e2,t2,i2⟩ hc;dsimp only at e1 e2;subst e1 e2;have hc:C (HT.lexLt (E3 s.heap (.ref b)) (E3 s.heap (.ref b'))) s:=hc;rw[C8 t1 i1,C8 t2 i2]at hc;obtain⟨o,q1,q2,n,q3⟩:=t1;obtain⟨o',q1',q2',n',q3'⟩:=t2;refine kat_lt q1 q3 q1' q3' (a1n 0 i1 i2 ?_);have l1:its.size=r.length:=by rw[<-Array.length_toList];exact i1.length
 have l2:its'.size=r'.length:=by rw[<-Array.length_toList];exact i2.length
 rw[l1,l2,a5g];exact hc
theorem Z3{a:Addr}{vs:List Value}{rss:LLI}{n:Nat}{P:Fin->Shared->Prop}(ho:s.heap.get? a=some (seqObj "list" vs.toArray n))(T:TupsAre s.heap vs rss)(hw:∀r∈rss,0<r.length)(hz:vs.length<=sizeLine)
  (h:∀os:List Value,os.Perm vs->os.Pairwise (λx y=>HT.lexLt (E3 s.heap y) (E3 s.heap x)=false)->P (.done (.ret .none)) {s with heap:=sortedHeap s.heap a vs os.toArray}) :
  wpAny (model prog w) A (Builtin.«list.sort» ⟨[.ref a],[]⟩) P E s:=by
 rw[list_sort_plain];have ha:a<s.heap.objs.size:=Heap.lt_size ho;refine wpAny_bind (listItems_at ho rfl ?_);refine wpAny_bind (listUpdate_at ho rfl ?_ (by rw[List.size_toArray];omega) (Nat.zero_le _));obtain⟨e1,ho1⟩:∃e1,(s.heap.update a (Obj.mapSeq λ_=>#[])).get? a=some (seqObj "list" #[] e1):=⟨_,get?_update_seq ho (λ_=>#[])⟩;refine wpAny_bind (seqEpoch_at ho1 rfl ?_);refine wpAny_bind (wpAny_newTuple ?_ (by show vs.length<=_;omega));refine wpAny_bind (wpAny_newList ?_ (Nat.zero_le _));refine wpAny_holding ?_;have ho6:(((s.heap.update a (Obj.mapSeq λ_=>#[])).push (seqObj "tuple" vs.toArray 0)).push (seqObj "list" #[] 0)).get? a=some (seqObj "list" #[] e1):=by
  rw[Heap.get?_push_ne _ _ _ (by rw[size_push',Heap.size_update];exact Nat.ne_of_lt (Nat.lt_succ_of_lt ha)),Heap.get?_push_ne _ _ _ (by rw[Heap.size_update];exact Nat.ne_of_lt ha)];exact ho1
 have keepT:∀b its,IsTup s.heap b its->IsTup (((s.heap.update a (Obj.mapSeq λ_=>#[])).push (seqObj "tuple" vs.toArray 0)).push (seqObj "list" #[] 0)) b its:=λb its ⟨o,q1,q2,q3⟩=>by
  have hb:b≠a:=λz=>by
   rw[z,ho]at q1;cases q1;have q2:Value.type "list"=Value.type "tuple":=q2;injection q2 with q2
   exact absurd q2 (by decide)
  refine⟨o,?_,q2,q3⟩;exact Heap.get?_push_of_some _ (Heap.get?_push_of_some _ (by rw[Heap.get?_update_ne _ _ _ _ hb];exact q1))
 have T6:=T.keeps keepT;show wpAny (model prog w) A _ P E {s with heap:=((s.heap.update a (Obj.mapSeq λ_=>#[])).push (seqObj "tuple" vs.toArray 0)).push (seqObj "list" #[] 0)};have rowEq:∀v∈vs,E3 (((s.heap.update a (Obj.mapSeq λ_=>#[])).push (seqObj "tuple" vs.toArray 0)).push (seqObj "list" #[] 0)) v=E3 s.heap v:=λv hv=>by
  obtain⟨i,hi⟩:=List.mem_iff_getElem?.mp hv;obtain⟨r,b,its,_,e2,e3,e4⟩:=T.2 i v hi;rw[e2,C8 e3 e4,C8 (keepT b its e3) e4]
 generalize hH6:((s.heap.update a (Obj.mapSeq λ_=>#[])).push (seqObj "tuple" vs.toArray 0)).push (seqObj "list" #[] 0)=H6 at ho6 T6 rowEq;dsimp only;have fin:∀os:List Value,os.Perm vs->os.Pairwise (λx y=>HT.lexLt (E3 s.heap y) (E3 s.heap x)=false)->P (.done (.ret .none)) {s with heap:=H6.update a (Obj.mapSeq λ_=>os.toArray)}:=λos h1 h2=>by
  have:=h os h1 h2;unfold sortedHeap at this;rw[hH6]at this;exact this
 by_cases h2:vs.toArray.size<2
 .have h2':vs.length<2:=by simpa using h2
  rw[if_pos h2,if_pos h2];refine wpAny_bind (wpAny_pure ?_);rw[StateT.run_pure];refine wpAny_bind (wpAny_pure ?_);dsimp only;refine wpAny_bind (seqEpoch_at ho6 rfl ?_);refine wpAny_bind (listUpdate_at ho6 rfl ?_ (Nat.zero_le _) (by rw[Array.size_map];show(pairsOf vs).size<=_;rw[pairsOf_size];omega));simp only[bne_self_eq_false,Bool.false_eq_true,if_false];have e:((vs.toArray.zip vs.toArray).map (·.2))=vs.toArray:=by
   apply Array.toList_inj.mp;simp[List.map_snd_zip]
  show wpAny _ _ _ _ _ {s with heap:=H6.update a (Obj.mapSeq λ_=>(vs.toArray.zip vs.toArray).map (·.2))};rw[e];refine wpAny_pure (fin vs (.refl _) ?_);rw[List.pairwise_iff_getElem];intro i j hi hj hij;omega
 .have h2':2<=vs.length:=by
   have:¬vs.length<2:=by simpa using h2
   omega
  rw[if_neg h2,if_neg h2];refine wpAny_bind (a7V T6 hw (by omega) ?_);have hDH:AllD (DH H6) (vs.toArray.zip vs.toArray):=λx hx=>by
   have hx':x∈vs.zip vs:=by simpa using hx
   obtain⟨_,hm⟩:=mem_zip_self hx';obtain⟨i,hi⟩:=List.mem_iff_getElem?.mp hm;obtain⟨r,b,its,_,e2,e3,e4⟩:=T6.2 i _ hi;exact⟨b,its,r,e2,e3,e4⟩
  refine wpAny_bind (wpAny_mono (a4x (s:={s with heap:=H6}) (st:=SortSt.mk' (tuples' true) (vs.toArray.zip vs.toArray) #[] 7 none) (kf:=kfH H6) (D:=DH H6) (b6Q (s:={s with heap:=H6})) rfl hDH rfl rfl
   (Q:=λ_ st'=>(arrOf st').Perm (vs.toArray.zip vs.toArray)/\failedOf st'=none/\(arrOf st').toList.Pairwise (leK (kfH H6))) λst' q1 q2 q3=>⟨q1,q2,q3⟩) ?_ λ_ _ e=>e)
  rintro⟨⟨⟩,st'⟩ s' ⟨rfl,hp,hf,hs⟩;dsimp only at hp hf hs⊢;have hpl:(arrOf st').toList.Perm (vs.zip vs):=by
   have:=Array.perm_iff_toList_perm.mp hp;simpa using this
  have hos:((arrOf st').toList.map (·.2)).Perm vs:=by
   have:=hpl.map Prod.snd;rwa[List.map_snd_zip (Nat.le_refl _)]at this
  have hsame:∀x∈(arrOf st').toList,x.1=x.2/\x.1∈vs:=λx hx=>mem_zip_self (hpl.mem_iff.mp hx);have e:(arrOf st').map (·.2)=((arrOf st').toList.map (·.2)).toArray:=by
   apply Array.toList_inj.mp;simp
  refine wpAny_bind (seqEpoch_at ho6 rfl ?_);rw[e];refine wpAny_bind (listUpdate_at ho6 rfl ?_ (Nat.zero_le _) (by rw[List.size_toArray,hos.length_eq];omega));rw[hf];simp only[bne_self_eq_false,Bool.false_eq_true,if_false];refine wpAny_pure (fin _ hos ?_);rw[List.pairwise_map];refine hs.imp_of_mem λ{x y} hx hy hxy=>?_;have h1:=hsame x hx;have h2:=hsame y hy;rw[<-h1.1,<-h2.1,<-rowEq _ h1.2,<-rowEq _ h2.2];exact hxy
theorem a1C{x:Value}{vs:List Value}{rss:LLI}{Q:Value->Shared->Prop}(hcol:∀(A':Around) (E':Value->Shared->Prop) (Q':List Value->Shared->Prop),(∀h1:Heap,(∀b o,s.heap.get? b=some o->h1.get? b=some o)->Q' vs {s with heap:=h1})->wpAny (model prog w) A' (collect x) Q' E' s)
  (T:TupsAre s.heap vs rss) (hw:∀r∈rss,0<r.length) (hz:vs.length<=sizeLine)
  (h:∀(h1 h':Heap) (os:List Value) (c:Nat),(∀b o,s.heap.get? b=some o->h1.get? b=some o)->(∀b o,h1.get? b=some o->h'.get? b=some o)->h'.get? h1.objs.size=some (seqObj "list" os.toArray c)->os.Perm vs->os.Pairwise (λx y=>HT.lexLt (E3 s.heap y) (E3 s.heap x)=false)->Q (.ref h1.objs.size) {s with heap:=h'}) :
  wpAny (model prog w) A (call (.builtin "sorted") [x]) Q E s:=by
 refine Calls.call_function_entry kind_sorted plain_sorted entry_sorted (args_sorted1 _) ?_;unfold Builtin.«sorted»;refine wpAny_bind (m:=checkCount "sorted" 1 1 _) (wpAny_pure ?_);refine wpAny_bind (hcol _ _ _ λh1 k1=>?_);refine wpAny_bind (wpAny_newList ?_ (by omega));have hoL:(h1.push (seqObj "list" vs.toArray 0)).get? h1.objs.size=some (seqObj "list" vs.toArray 0):=Heap.get?_push_size _ rfl;have keepT:∀b its,IsTup s.heap b its->IsTup (h1.push (seqObj "list" vs.toArray 0)) b its:=λb its ⟨o,q1,q2⟩=>⟨o,Heap.get?_push_of_some _ (k1 _ _ q1),q2⟩;have T2:=T.keeps keepT;have rowEq:∀v∈vs,E3 (h1.push (seqObj "list" vs.toArray 0)) v=E3 s.heap v:=λv hv=>by
  obtain⟨i,hi⟩:=List.mem_iff_getElem?.mp hv;obtain⟨r,b,its,_,e2,e3,e4⟩:=T.2 i v hi;rw[e2,C8 e3 e4,C8 (keepT b its e3) e4]
 show wpAny _ _ _ _ _ {s with heap:=h1.push (seqObj "list" vs.toArray 0)};refine wpAny_bind (wpAny_holding (wpAny_call_entry slot_list_sort ⟨_,hoL,rfl⟩ entry_list_sort (Z3 (s:={s with heap:=h1.push (seqObj "list" vs.toArray 0)}) hoL T2 hw hz λos hp hs=>⟨_,rfl,?_⟩) (args_list_sort _)));obtain⟨c,hc⟩:=Z1 (out:=os.toArray) hoL;refine wpAny_pure ⟨_,rfl,h h1 _ os c k1 (λb o e=>?_) hc hp (hs.imp_of_mem λ{x y} hx hy hxy=>?_)⟩
 .exact R9 b o (Nat.ne_of_lt (Heap.lt_size e)) (Heap.get?_push_of_some _ e)
 .rw[<-rowEq _ (hp.mem_iff.mp hx),<-rowEq _ (hp.mem_iff.mp hy)];exact hxy
end
def a9Z(K:PySem.W.Frag):RL:=λxs H Q=>∃(p:Addr) (ys:List V) (rss:LLI),xs=[.ref p]/\(SqL K H p ys∨SqT K H p ys)/\Its H ys rss/\(∀r∈rss,0<r.length) /\
 ∀l zs tss,H l=none->Its H zs tss->tss.Perm rss->G0 tss->zs.Perm ys->Q (.ref l) (upd H l (.lst zs))
theorem W7:∀{ys:List V}{us:List Value}{rss:LLI},Vals ys us->ys.length=rss.length->∃T:List (Value×V×List Int),T.map (·.1)=us/\T.map (·.2.1)=ys/\T.map (·.2.2)=rss/\∀(i:Nat) t,T[i]?=some t->RelV t.2.1 t.1/\ys[i]?=some t.2.1/\rss[i]?=some t.2.2
 |[],us,rss,r,e=>by
  cases r;cases rss with
  |nil=>exact⟨[],rfl,rfl,rfl,λi t h=>by simp at h⟩
  |cons _ _=>cases e
 |y::ys,us,rss,r,e=>by
  cases r with
  |cons h hs =>
   cases rss with
   |nil=>cases e
   |cons r rss =>
    obtain⟨T,e1,e2,e3,e4⟩:=W7 hs (by simpa using e);refine⟨(_,y,r)::T,by rw[List.map_cons,e1],by rw[List.map_cons,e2],by rw[List.map_cons,e3],λi t ht=>?_⟩;cases i with
    |zero=>cases ht;exact⟨h,rfl,rfl⟩
    |succ i=>exact e4 i t ht
theorem M3:∀{T:List (Value×V×List Int)},(∀t∈T,RelV t.2.1 t.1)->Vals (T.map (·.2.1)) (T.map (·.1))
 |[],_=>.nil
 |t::T,h=>.cons (h t List.mem_cons_self) (M3 λu hu=>h u (List.mem_cons_of_mem _ hu))
section
variable {X:Cx}
theorem a6v(K:PySem.W.Frag)(hK:X.K=K:=by rfl):E1 X (.builtin "sorted") (a9Z K):=by
 subst hK;intro pins s σ H xs us Q I rv h;obtain⟨p,ys,rss,rfl,hq,hI,hw,q⟩:=h;obtain⟨u,rfl,ru⟩:=rv.one;cases ru;obtain⟨its,ri,hz,hcol⟩:∃its:List Value,Vals ys its/\ys.length<=sizeLine/\∀(A':Around) (E':Value->Shared->Prop) (Q':List Value->Shared->Prop),(∀h1:Heap,(∀b o,s.heap.get? b=some o->h1.get? b=some o)->Q' its {s with heap:=h1})->wpAny (model X.prog X.w) A' (collect (.ref p)) Q' E' s:=by
  rcases hq with hq|hq
  .obtain⟨its,r',pl,hz⟩:=I.list hq;obtain⟨o,ho,hc,n,hd⟩:=pl.isList;have hlen:=r'.length;exact⟨its,r',hz,λA' E' Q' k=>wpAny_collect_seq p (.inl rfl) ho hc hd (λh' k'=>k h' k') (by simp only[List.size_toArray];omega)⟩
  .obtain⟨its,r',pl,hz⟩:=I.tuple hq;obtain⟨o,ho,hc,n,hd⟩:=pl;have hlen:=r'.length;exact⟨its,r',hz,λA' E' Q' k=>wpAny_collect_seq p (.inr rfl) ho hc hd (λh' k'=>k h' k') (by simp only[List.size_toArray];omega)⟩
 have hl:=ri.length;have TT:=a2w I hI ri;obtain⟨T,t1,t2,t3,t4⟩:=W7 ri hI.1;refine a1C hcol TT hw (by omega) λh1 h' os c k1 k2 e hp hs=>?_;obtain⟨T',p1,p2⟩:=K7 (f:=λt:Value×V×List Int=>t.1) hp t1.symm;have I1:=I.kept (t':=s.toks) k1;have hT:∀t∈T',RelV t.2.1 t.1/\IT H t.2.1 t.2.2/\E3 s.heap t.1=t.2.2:=λt ht=>by
  obtain⟨i,hi⟩:=List.mem_iff_getElem?.mp (p1.mem_iff.mp ht);obtain⟨r1,r2,r3⟩:=t4 i t hi;obtain⟨row,q1,q2⟩:=hI.2 i _ r2;rw[r3]at q1;cases q1;have e5:its[i]?=some t.1:=by rw[<-t1,List.getElem?_map,hi];rfl
  obtain⟨r',b,its',f1,f2,f3,f4⟩:=TT.2 i _ e5;rw[r3]at f1;cases f1;exact⟨r1,q2,by rw[f2];exact C8 f3 f4⟩
 have hzp:(T'.map (·.2.1)).Perm ys:=by rw[<-t2];exact p1.map _
 have hv:Vals (T'.map (·.2.1)) os:=by rw[<-p2];exact M3 λt ht=>(hT t ht).1
 have I2:=I1.laid (h':=h') (a:=h1.objs.size) (o:=.lst (T'.map (·.2.1))) (t':=s.toks) k2 (Nat.le_refl _) ⟨by rw[hzp.length_eq];exact hz,os,c,hv,e⟩;refine⟨.ref h1.objs.size,_,I2,rfl,q _ _ (T'.map (·.2.2)) (I1.hok.fresh (Nat.le_refl _)) ⟨by rw[List.length_map,List.length_map],λi v ei=>?_⟩ (by rw[<-t3];exact p1.map _) ?_ hzp⟩
 .rw[List.getElem?_map]at ei⊢;cases e2:T'[i]? with
  |none=>rw[e2]at ei;cases ei
  |some t =>
   rw[e2]at ei;cases ei;exact⟨t.2.2,rfl,(hT t (List.mem_of_getElem? e2)).2.1⟩
 .unfold G0;rw[List.pairwise_map];rw[<-p2,List.pairwise_map]at hs;refine hs.imp_of_mem λ{x y} hx hy hxy=>?_;rw[(hT x hx).2.2,(hT y hy).2.2]at hxy;exact hxy
theorem a2t(K:PySem.W.Frag){e:Expr}{t:TA}{p pos:Pos}(hg:Gl X "sorted")(hm:X.mg "sorted"=none)(ha:JA X [e] t)(hK:X.K=K:=by rfl)(he:starEach [e] X.env=(false,eval e X.env)::starEach [] X.env:=by rfl)(hpl:(backTo pos (starEach [] X.env)).any (·.1)=false:=by rfl):JE X (.Call (.Name "sorted" p) [e] [] pos) (tCB (a9Z K) t):=⟨G7 (a6v K hK) hg hm a1a ha.h (by decide) (by decide) he hpl⟩
end
def DRaw(h:Heap)(d:Addr)(es:Array DictEntry)(ep:Nat):Prop:=∃ob:Obj,h.get? d=some ob/\ob.ExactDict/\ob.data=.dict es ep
theorem DRaw.typ{s:Shared}{d:Addr}{es:Array DictEntry}{ep:Nat}(x:DRaw s.heap d es ep):s.TypeIs (.ref d) "dict":=by
 obtain⟨ob,e1,e2,_⟩:=x;exact⟨ob,e1,e2.1⟩
theorem DRaw.lt{h:Heap}{d:Addr}{es:Array DictEntry}{ep:Nat}(x:DRaw h d es ep):d<h.objs.size:=by
 obtain⟨ob,e1,_⟩:=x;exact Heap.lt_size e1
theorem DRaw.to{h h':Heap}{d:Addr}{es:Array DictEntry}{ep:Nat}(x:DRaw h d es ep)(k:∀ob,h.get? d=some ob->h'.get? d=some ob):DRaw h' d es ep:=by
 obtain⟨ob,e1,q⟩:=x;exact⟨ob,k _ e1,q⟩
section
variable {prog:Program}{w:World}{A:Around}{E:Value->Shared->Prop}{s:Shared}{it d:Addr}{i ep:Nat}{es:Array DictEntry}
theorem a9U{Q:Value->Shared->Prop}(hs:(d==sysModules)=false)(D:DRaw s.heap d es ep)
  (q:Q (.ref s.heap.objs.size) {s with heap:=s.heap.push {cls:=.type "dict_keyiterator",data:=.fields #[.ref d,.int 0 0,.int es.size 0,.int ep 0]}}):wpAny (model prog w) A (pyIter (.ref d)) Q E s:=by
 have ty:=D.typ;obtain⟨ob,e1,_,e3⟩:=D;refine wpAny_pyIter_slot ty PySem.F.slot_dict_iter (wpAny_call_entry PySem.F.slot_dict_iter ty PySem.F.entry_dict_iter ?body (PySem.F.args_dict_iter_1 _))
 case body =>
  unfold Builtin.«dict.__iter__» Builtin.Dict.dictSlotNone;refine wpAny_bind (wpAny_bind (wpAny_notOrdered_dict ty (wpAny_pure ?_)));show wpAny _ _ (Builtin.Dict.showsAll d>>=λ_=>_) _ _ _;unfold Builtin.Dict.showsAll;rw[if_neg (λz=>by rw[hs]at z;cases z)];refine wpAny_bind (wpAny_pure (wpAny_bind (wpAny_dictEntries e1 e3 (wpAny_bind (wpAny_dictEpoch e1 e3 ?_)))));refine wpAny_bind (wpAny_newObj_type (wpAny_pure ⟨_,rfl,"dict_keyiterator",_,⟨_,Heap.get?_push_size _ rfl,rfl⟩,PySem.F.slot_dict_keyiterator_next.lookup,?_⟩));exact q
theorem a9V{Q:Option Value->Shared->Prop}(I:s.heap.IsKeyIter it d i es.size ep)(D:DRaw s.heap d es ep)(hi:i<es.size)
  (q:∀h',h'.IsKeyIter it d (i+1) es.size ep->Heap.SameBut it s.heap h'->Q (some es[i].key) {s with heap:=h'}):wpAny (model prog w) A (pyNext (.ref it)) Q E s:=by
 obtain⟨oi,f1,f2,f3⟩:=id I;obtain⟨od,e1,e2,e3⟩:=D;unfold pyNext;refine wpAny_bind (wpAny_attempt (wpAny_callSpecial?_slot (name:=Str.ofString "__next__") I.typeIs PySem.F.slot_dict_keyiterator_next (wpAny_call_entry PySem.F.slot_dict_keyiterator_next I.typeIs PySem.F.entry_dict_keyiterator_next ?body (PySem.F.args_dict_keyiterator_next_1 _))))
 case body =>
  refine wpAny_bind (wpAny_pure (wpAny_bind (wpAny_bind ?_)))
  first|refine wpAny_bind (wpAny_typeNameOfWhole_keyiter I.typeIs (wpAny_pure ?_))|refine wpAny_bind (wpAny_typeNameOf_keyiter I.typeIs (wpAny_pure ?_))
  refine wpAny_bind (wpAny_fieldsOf f1 f3 ?_);rw[show Builtin.Dict_items.ownsTuple "dict_keyiterator"=false by decide,if_neg Bool.false_ne_true];show wpAny _ _ (if (Value.ref d==Value.none)=true then _ else _) _ _ _;have hnn:¬((Value.ref d==Value.none)=true):=Bool.false_ne_true;rw[if_neg hnn];refine wpAny_bind (wpAny_pure (wpAny_bind (wpAny_dictEntries e1 e3 ?_)));rw[if_neg (by simp)];refine wpAny_bind (wpAny_pure (wpAny_bind (wpAny_dictEpoch e1 e3 ?_)));rw[if_neg (by simp)];refine wpAny_pure ?_;dsimp only;rw[show(if (i:Int)<0 then(none:Option DictEntry)else es[(i:Int).toNat]?)=some es[i] by rw[if_neg (by omega),Int.toNat_natCast,Array.getElem?_eq_getElem hi]];dsimp only;refine wpAny_bind ?_
  first|refine wpAny_bind (wpAny_typeNameOfWhole_keyiter I.typeIs (wpAny_pure ?_))|refine wpAny_bind (wpAny_typeNameOf_keyiter I.typeIs (wpAny_pure ?_))
  refine wpAny_bind (wpAny_isOneOf_keyiter I.typeIs ?_);show wpAny _ _ (setField (.ref it) 1 (rawInt ((i:Int)+1))>>=λ_=>_) _ _ _;have I':(s.heap.update it (Obj.mapFields λz=>z.setIfInBounds 1 (rawInt ((i:Int)+1)))).IsKeyIter it d (i+1) es.size ep :=
   ⟨_,Heap.get?_update_self _ f1 (Obj.isFreed_of_fields (Obj.data_mapFields f3 _)),(Obj.cls_mapFields ..).trans f2,by rw[Obj.data_mapFields f3];simp[rawInt]⟩
  refine wpAny_bind (wpAny_setField f1 f3 (by simp) (wpAny_bind (wpAny_holding ?_)));refine wpAny_bind (wpAny_isOneOf_keyiter (s:={s with heap:=s.heap.update it (Obj.mapFields λz=>z.setIfInBounds 1 (rawInt ((i:Int)+1)))}) I'.typeIs ?_);exact wpAny_pure (wpAny_pure ⟨_,rfl,wpAny_pure (q _ I' (Heap.SameBut.update ..))⟩)
theorem b2x{Q:Option Value->Shared->Prop}(hh:A.handled=none)(I:s.heap.IsKeyIter it d i es.size ep)(D:DRaw s.heap d es ep)(hi:es.size<=i)
  (q:∀h',Heap.ExtBut it s.heap h'->Q none {s with heap:=h'}):wpAny (model prog w) A (pyNext (.ref it)) Q E s:=by
 obtain⟨oi,f1,f2,f3⟩:=id I;obtain⟨od,e1,e2,e3⟩:=D;unfold pyNext;refine wpAny_bind (wpAny_attempt (wpAny_callSpecial?_slot (name:=Str.ofString "__next__") I.typeIs PySem.F.slot_dict_keyiterator_next (wpAny_call_entry PySem.F.slot_dict_keyiterator_next I.typeIs PySem.F.entry_dict_keyiterator_next ?body (PySem.F.args_dict_keyiterator_next_1 _))))
 case body =>
  refine wpAny_bind (wpAny_pure (wpAny_bind (wpAny_bind ?_)))
  first|refine wpAny_bind (wpAny_typeNameOfWhole_keyiter I.typeIs (wpAny_pure ?_))|refine wpAny_bind (wpAny_typeNameOf_keyiter I.typeIs (wpAny_pure ?_))
  refine wpAny_bind (wpAny_fieldsOf f1 f3 ?_);rw[show Builtin.Dict_items.ownsTuple "dict_keyiterator"=false by decide,if_neg Bool.false_ne_true];show wpAny _ _ (if (Value.ref d==Value.none)=true then _ else _) _ _ _;have hnn:¬((Value.ref d==Value.none)=true):=Bool.false_ne_true;rw[if_neg hnn];refine wpAny_bind (wpAny_pure (wpAny_bind (wpAny_dictEntries e1 e3 ?_)));rw[if_neg (by simp)];refine wpAny_bind (wpAny_pure (wpAny_bind (wpAny_dictEpoch e1 e3 ?_)));rw[if_neg (by simp)];refine wpAny_pure ?_;dsimp only;rw[show(if (i:Int)<0 then(none:Option DictEntry)else es[(i:Int).toNat]?)=none by rw[if_neg (by omega),Int.toNat_natCast,Array.getElem?_eq_none hi]];dsimp only;refine wpAny_bind ?_
  first|refine wpAny_bind (wpAny_typeNameOfWhole_keyiter I.typeIs (wpAny_pure ?_))|refine wpAny_bind (wpAny_typeNameOf_keyiter I.typeIs (wpAny_pure ?_))
  show wpAny _ _ (setField (.ref it) 0 .none>>=λ_=>_) _ _ _;refine wpAny_bind (wpAny_setField f1 f3 (by simp) ?_);show wpAny _ _ (newExc (.type "StopIteration") []>>=λ_=>_) _ _ _;refine wpAny_bind ?_;simp only[newExc,newTuple];refine wpAny_bind (wpAny_newObj_type ?_ (by size_fits));refine wpAny_bind (m:=firstArgMember _ _) (wpAny_of_eq (a:=Value.none) (by first|rfl | (simp only[firstArgMember];rfl)) ?_);refine wpAny_newObj_type ?_ (by size_fits);simp only[raiseNew];refine wpAny_bind (wpAny_handled ?_);rw[show A.in1.handled=none from hh];refine wpAny_bind (wpAny_pure (wpAny_throw ?_));refine wpAny_bind (wpAny_isInstance (T:="StopIteration") (b:=true) ⟨_,Heap.get?_push_size _ rfl,rfl⟩ isSubtype_stop ?_);exact wpAny_pure (q _ (((Heap.SameBut.update ..).extBut.push _).push _))
theorem a8i(hh:A.handled=none)(J d:Addr)(hne:d≠J)(es:Array DictEntry)(ep:Nat) :
  Walks prog w A J [J,d] [J] es.size (λi v=>∃e,es[i]?=some e/\v=e.key) (λi h=>h.IsKeyIter J d i es.size ep/\DRaw h d es ep) where
 sub:=λb hb=>by rw[List.mem_singleton.mp hb];exact List.mem_cons_self
 frame:=λi h h' st hk=>⟨st.1.at λo e=>hk J List.mem_cons_self o e,st.2.to λo e=>hk d (List.mem_cons_of_mem _ List.mem_cons_self) o e⟩
 item:=λi s Q E hi st hQ=>a9V st.1 st.2 hi λh' I' sb=>hQ _ h' s.toks ⟨es[i],by simp[hi],rfl⟩ ⟨I',st.2.to λo e=>sb.extBut d o hne e⟩ λb o hb e=>sb.extBut b o (λz=>hb (by rw[z];exact List.mem_cons_self)) e
 done:=λs Q E st hQ=>b2x hh st.1 st.2 (Nat.le_refl _) λh' eb=>hQ h' s.toks λb o hb e=>eb b o (λz=>hb (by rw[z];exact List.mem_cons_self)) e
 self:=λ_ _ _ _ st hQ=>wpAny_pyIter_keyiter st.1 hQ
theorem b2v(hs:(d==sysModules)=false)(es:Array DictEntry)(ep:Nat):KdlSrc prog w "dict" d d es.size (λi v=>∃e,es[i]?=some e/\v=e.key) (λh=>DRaw h d es ep) where
 type:=λ_ D=>D.typ
 there:=λ_ D=>⟨D.lt,D.lt⟩
 keep:=λ_ _ D hk=>D.to λo e=>hk d (.inl rfl) o e
 notList:=by decide
 notTuple:=by decide
 hint:=λ_ _ _ _ D q=>kdl_hint_dict D.typ q
 iter:=λ_ _ hh D=>⟨_,_,λ_ _ q=>a9U hs D q,a8i hh _ d (Nat.ne_of_lt D.lt) es ep,⟨⟨_,Heap.get?_push_size _ rfl,rfl,rfl⟩,D.to λo e=>Heap.get?_push_of_some _ e⟩⟩
end
section
variable {prog:Program}{w:World}{A:Around}{E:Value->Shared->Prop}{s:Shared}
theorem S1{x:Value}{vs:List Value}{rss:LLI}{Q:Value->Shared->Prop}(hcol:∀(E':Value->Shared->Prop) (Q':List Value->Shared->Prop),(∀(h1:Heap) (tk:Nat),(∀b o,s.heap.get? b=some o->h1.get? b=some o)->Q' vs {s with heap:=h1,toks:=tk})->wpAny (model prog w) A.in1 (collect x) Q' E' s)
  (T:TupsAre s.heap vs rss) (hw:∀r∈rss,0<r.length) (hz:vs.length<=sizeLine)
  (h:∀(h1 h':Heap) (os:List Value) (c tk:Nat),(∀b o,s.heap.get? b=some o->h1.get? b=some o)->(∀b o,h1.get? b=some o->h'.get? b=some o)->h'.get? h1.objs.size=some (seqObj "list" os.toArray c)->os.Perm vs->os.Pairwise (λx y=>HT.lexLt (E3 s.heap y) (E3 s.heap x)=false)->Q (.ref h1.objs.size) {s with heap:=h',toks:=tk}) :
  wpAny (model prog w) A (call (.builtin "sorted") [x]) Q E s:=by
 refine Calls.call_function_entry kind_sorted plain_sorted entry_sorted (args_sorted1 _) ?_;unfold Builtin.«sorted»;refine wpAny_bind (m:=checkCount "sorted" 1 1 _) (wpAny_pure ?_);refine wpAny_bind (hcol _ _ λh1 tk k1=>?_);refine wpAny_bind (wpAny_newList ?_ (by omega));have hoL:(h1.push (seqObj "list" vs.toArray 0)).get? h1.objs.size=some (seqObj "list" vs.toArray 0):=Heap.get?_push_size _ rfl;have keepT:∀b its,IsTup s.heap b its->IsTup (h1.push (seqObj "list" vs.toArray 0)) b its:=λb its ⟨o,q1,q2⟩=>⟨o,Heap.get?_push_of_some _ (k1 _ _ q1),q2⟩;have T2:=T.keeps keepT;have rowEq:∀v∈vs,E3 (h1.push (seqObj "list" vs.toArray 0)) v=E3 s.heap v:=λv hv=>by
  obtain⟨i,hi⟩:=List.mem_iff_getElem?.mp hv;obtain⟨r,b,its,_,e2,e3,e4⟩:=T.2 i v hi;rw[e2,C8 e3 e4,C8 (keepT b its e3) e4]
 show wpAny _ _ _ _ _ {s with heap:=h1.push (seqObj "list" vs.toArray 0),toks:=tk};refine wpAny_bind (wpAny_holding (wpAny_call_entry slot_list_sort ⟨_,hoL,rfl⟩ entry_list_sort (Z3 (s:={s with heap:=h1.push (seqObj "list" vs.toArray 0),toks:=tk}) hoL T2 hw hz λos hp hs=>⟨_,rfl,?_⟩) (args_list_sort _)));obtain⟨c,hc⟩:=Z1 (out:=os.toArray) hoL;refine wpAny_pure ⟨_,rfl,h h1 _ os c tk k1 (λb o e=>?_) hc hp (hs.imp_of_mem λ{x y} hx hy hxy=>?_)⟩
 .exact R9 b o (Nat.ne_of_lt (Heap.lt_size e)) (Heap.get?_push_of_some _ e)
 .rw[<-rowEq _ (hp.mem_iff.mp hx),<-rowEq _ (hp.mem_iff.mp hy)];exact hxy
end
noncomputable def IK(rss:LLI):List (List Key):=rss.map λr=>r.map Sum.inl
def a5X:RL:=λxs H Q=>∃(d:Addr) (kvs:List (List Key×V)) (rss:LLI),xs=[.ref d]/\H d=some (.dT kvs)/\kvs.map (·.1)=IK rss/\(∀r∈rss,0<r.length) /\
 ∀l zs tss,H l=none->Its H zs tss->tss.Perm rss->G0 tss->Q (.ref l) (upd H l (.lst zs))
theorem b3l{H:Hp}:∀{kvs:List (List Key×V)}{xs:List (List Key×Addr×Value)}{rss:LLI},KT H kvs xs->kvs.map (·.1)=IK rss->Its H (xs.map λx=>V.ref x.2.1) rss/\xs.length=rss.length:=by
 intro kvs xs rss r e;induction r generalizing rss with
 |nil =>
  cases rss with
  |nil=>exact⟨⟨rfl,λi v z=>by simp at z⟩,rfl⟩
  |cons _ _=>cases e
 |@cons p q ps qs h _ ih =>
  cases rss with
  |nil=>cases e
  |cons r rss =>
   injection e with e1 e2
   obtain⟨h1,h2⟩:=ih e2;refine⟨⟨by rw[List.length_map,List.length_cons,List.length_cons,h2],λi v hv=>?_⟩,by rw[List.length_cons,List.length_cons,h2]⟩;cases i with
   |zero =>
    cases hv;refine⟨r,rfl,q.2.1,rfl,?_⟩;have h3:=h.2.1;have e1:p.1=r.map Sum.inl:=e1;rw[e1,List.map_map]at h3;exact h3
   |succ i=>exact h1.2 i v hv
theorem a0G{α:Type}(f:α->Addr):∀xs:List α,Vals (xs.map λx=>V.ref (f x)) (xs.map λx=>Value.ref (f x))
 |[]=>.nil
 |x::xs=>.cons rfl (a0G f xs)
section
variable {X:Cx}
theorem a6u(hc:X.calm=true):E1 X (.builtin "sorted") a5X:=by
 intro pins s σ H xs us Q I rv h;obtain⟨d,kvs,rss,rfl,hd,hk,hw,q⟩:=h;obtain⟨u,rfl,ru⟩:=rv.one;cases ru;obtain⟨hz,hsys,ts,kt,ob,es,ep,e1,e2,e3,e4,e5⟩:=I.hok _ _ hd;obtain⟨hI,hlen⟩:=b3l kt hk;have hkl:kvs.length=ts.length:=Paired.length kt;have esz:es.size=ts.length:=by rw[<-Array.length_toList,e4,List.length_map]
 have D:DRaw s.heap d es ep:=⟨ob,e1,e2,e3⟩;have ri:Vals (ts.map λx=>V.ref x.2.1) (ts.map λx=>Value.ref x.2.1):=a0G (λx:List Key×Addr×Value=>x.2.1) ts;have hcol:∀(E':Value->Shared->Prop) (Q':List Value->Shared->Prop),(∀(h1:Heap) (tk:Nat),(∀b o,s.heap.get? b=some o->h1.get? b=some o)->Q' (ts.map λx=>Value.ref x.2.1) {s with heap:=h1,toks:=tk})->wpAny (model X.prog X.w) X.A.in1 (collect (.ref d)) Q' E' s:=λE' Q' k=>by
  refine kdu_collect (b2v hsys es ep) (show X.A.in1.handled=none from I.ok.hd hc) D (by omega) λh' tk acc kp hit=>?_;have:acc.toList=ts.map λx=>Value.ref x.2.1:=by
   refine List.ext_getElem? λi=>?_;rw[Array.getElem?_toList,List.getElem?_map];by_cases hi:i<ts.length
   .have hia:i<acc.size:=by rw[hit.1,esz];exact hi
    obtain⟨e,he,hv⟩:=hit.2 i acc[i] (by simp[hia]);have he':es.toList[i]?=some e:=by rw[Array.getElem?_toList];exact he
    rw[e4,List.getElem?_map,List.getElem?_eq_getElem hi]at he';injection he' with he'
    rw[Array.getElem?_eq_getElem hia,List.getElem?_eq_getElem hi,hv,<-he'];rfl
   .rw[Array.getElem?_eq_none (by rw[hit.1,esz];omega),List.getElem?_eq_none (by omega)];rfl
  rw[this];exact k h' tk kp
 have hl:=ri.length;have TT:=a2w I hI ri;obtain⟨T,t1,t2,t3,t4⟩:=W7 ri hI.1;refine S1 hcol TT hw (by rw[List.length_map];omega) λh1 h' os c tk k1 k2 e hp hs=>?_;obtain⟨T',p1,p2⟩:=K7 (f:=λt:Value×V×List Int=>t.1) hp t1.symm;have I1:=I.kept (t':=tk) k1;have hT:∀t∈T',RelV t.2.1 t.1/\IT H t.2.1 t.2.2/\E3 s.heap t.1=t.2.2:=λt ht=>by
  obtain⟨i,hi⟩:=List.mem_iff_getElem?.mp (p1.mem_iff.mp ht);obtain⟨r1,r2,r3⟩:=t4 i t hi;obtain⟨row,q1,q2⟩:=hI.2 i _ r2;rw[r3]at q1;cases q1;have e5:(ts.map λx=>Value.ref x.2.1)[i]?=some t.1:=by rw[<-t1,List.getElem?_map,hi];rfl
  obtain⟨r',b,its',f1,f2,f3,f4⟩:=TT.2 i _ e5;rw[r3]at f1;cases f1;exact⟨r1,q2,by rw[f2];exact C8 f3 f4⟩
 have hzl:(T'.map (·.2.1)).length<=sizeLine:=by
  have e6:=(p1.map (λt:Value×V×List Int=>t.2.1)).length_eq;rw[t2]at e6;simp only[List.length_map]at e6⊢;omega
 have hv:Vals (T'.map (·.2.1)) os:=by rw[<-p2];exact M3 λt ht=>(hT t ht).1
 have I2:=I1.laid (h':=h') (a:=h1.objs.size) (o:=.lst (T'.map (·.2.1))) (t':=tk) k2 (Nat.le_refl _) ⟨hzl,os,c,hv,e⟩;refine⟨.ref h1.objs.size,_,I2,rfl,q _ _ (T'.map (·.2.2)) (I1.hok.fresh (Nat.le_refl _)) ⟨by rw[List.length_map,List.length_map],λi v ei=>?_⟩ (by rw[<-t3];exact p1.map _) ?_⟩
 .rw[List.getElem?_map]at ei⊢;cases e2:T'[i]? with
  |none=>rw[e2]at ei;cases ei
  |some t =>
   rw[e2]at ei;cases ei;exact⟨t.2.2,rfl,(hT t (List.mem_of_getElem? e2)).2.1⟩
 .unfold G0;rw[List.pairwise_map];rw[<-p2,List.pairwise_map]at hs;refine hs.imp_of_mem λ{x y} hx hy hxy=>?_;rw[(hT x hx).2.2,(hT y hy).2.2]at hxy;exact hxy
end
end L2
namespace L2
open PySem PySem.Spec PyProof.Rows
def b4k(i j:Int):Prop:=0<j/\j<2 ^ 64
variable {X:Cx}
theorem b0x:OpR X (binaryOp .FloorDiv) (rI b4k λi j=>.int (i / j)):=opI λi j _ _ _ _ _ hc q=>by
 have h1:(0:Int)<j:=hc.1;have h2:j<2 ^ 64:=hc.2;refine floordiv_int (by omega) (by rw[Int.fdiv_eq_ediv_of_nonneg i (by omega)];exact q) (.inl (PyProof.noPylong_of_log2 ?_));have:j.natAbs.log2<64:=(Nat.log2_lt (by omega)).mpr (by omega);omega
theorem b3r{a b:Expr}{ta tb:TE}{pos:Pos}(ha:JE X a ta)(hb:JE X b tb):JE X (.BinOp a .FloorDiv b pos) (tOp (rI b4k λi j=>.int (i / j)) ta tb):=⟨a0s b0x ha.h hb.h⟩
end L2
namespace L2
open PySem PySem.Spec PyProof.Rows PySem.W
section
variable {prog:Program}{w:World}{A:Around}{E:Value->Shared->Prop}{s:Shared}{d:Addr}{ep:Nat}{es:Array DictEntry}
theorem b2w{Q:Value->Shared->Prop}(hs:(d==sysModules)=false)(D:DRaw s.heap d es ep)(hz:(es.size:Int)<2 ^ 63)
  (q:Q (.int es.size (s.toks+1)) {s with toks:=s.toks+1+1}):wpAny (model prog w) A (call (.builtin "len") [.ref d]) Q E s:=by
 refine Calls.call_function_entry kind_len plain_len entry_len (args_len1 _) ?_;have ty:=D.typ;obtain⟨ob,e1,_,e3⟩:=D;unfold Builtin.«len»;refine wpAny_bind (m:=oneArg "len" _) (wpAny_pure ?_);refine wpAny_bind (m:=callSpecial? (.ref d) (Str.ofString "__len__")) (wpAny_callSpecial?_slot (name:=Str.ofString "__len__") ty PySem.F.slot_dict_len (wpAny_call_entry PySem.F.slot_dict_len ty PySem.F.entry_dict_len ?body (PySem.F.args_dict_len_1 _)))
 case body =>
  show wpAny _ _ (dictSize d>>=λn=>_) _ _ _;unfold dictSize;refine wpAny_bind (wpAny_bind (wpAny_dictEntries e1 e3 (wpAny_pure ?_)));show wpAny _ _ (Builtin.Dict.pendingCount d>>=λn=>_) _ _ _;refine wpAny_bind (wpAny_pendingCount_other hs (wpAny_ret_mkInt ?_));show wpAny _ _ _ _ _ {s with toks:=s.toks+1};rw[show((es.size:Nat):Int)+((0:Nat):Int)=(es.size:Int) by simp];refine wpAny_bind (wpAny_holding (wpAny_pure (wpAny_bind (wpAny_letGo ?_))));show wpAny _ _ (if ((es.size:Nat):Int)<0 then _ else _) _ _ _;rw[if_neg (by omega)];show wpAny _ _ (if ((es.size:Nat):Int) ≥ 2 ^ 63 then _ else _) _ _ _;rw[if_neg (by omega)];exact wpAny_bind (wpAny_mkInt (wpAny_pure ⟨_,rfl,q⟩))
end
def b4c:RL:=λxs H Q=>∃(a:Addr) (kvs:List (List Key×V)),xs=[V.ref a]/\H a=some (.dT kvs)/\Q (.int kvs.length) H
section
variable {X:Cx}
theorem a9a:E1 X (.builtin "len") b4c:=by
 intro pins s σ H xs us Q I r h;obtain⟨a,kvs,rfl,ha,q⟩:=h;obtain⟨u,rfl,ru⟩:=r.one;cases ru;obtain⟨hz,hsys,ts,kt,ob,es,ep,e1,e2,e3,e4,e5⟩:=I.hok _ _ ha;have hkl:kvs.length=ts.length:=Paired.length kt;have esz:es.size=ts.length:=by rw[<-Array.length_toList,e4,List.length_map]
 have hz':=hz;rw[sizeLine_eq]at hz';refine b2w hsys ⟨ob,e1,e2,e3⟩ (by omega) ?_;rw[esz,<-hkl];exact⟨.int kvs.length,H,I.tok _,⟨_,rfl⟩,q⟩
variable {a b c e o i value:Expr}{es rest:List Expr}{ta tb tc te to td ty tv:TE}{t:TA}{pos p apos cpos p2 pos' tpos:Pos}
theorem b3q(hg:Gl X "len")(hm:X.mg "len"=none)(ha:JA X [e] t)(he:starEach [e] X.env=(false,eval e X.env)::starEach [] X.env:=by rfl)(hpl:(backTo pos (starEach [] X.env)).any (·.1)=false:=by rfl):JE X (.Call (.Name "len" p) [e] [] pos) (tCB b4c t):=⟨G7 a9a hg hm b1Q ha.h (by decide) (by decide) he hpl⟩
theorem b1d(hg:Gl X "sorted")(hm:X.mg "sorted"=none)(ha:JA X [e] t)(hc:X.calm=true:=by rfl)(he:starEach [e] X.env=(false,eval e X.env)::starEach [] X.env:=by rfl)(hpl:(backTo pos (starEach [] X.env)).any (·.1)=false:=by rfl):JE X (.Call (.Name "sorted" p) [e] [] pos) (tCB a5X t):=⟨G7 (a6u hc) hg hm a1a ha.h (by decide) (by decide) he hpl⟩
theorem b3s:JE X (.Dict [] [] pos) a9x:=⟨b0s⟩
theorem b6N(hu:X.A.units+60<cLine)(hi:JE X i ty)(ho:JE X o td)(hm:behindInMarks .In o=false):JE X (.Compare i [.In] [o] pos) (b5U ty td):=⟨b4T (b4W (by omega) hi.h ho.h) hm⟩
theorem a8I(hu:X.A.units+60<cLine)(hi:JE X i ty)(ho:JE X o td)(hm:behindInMarks .NotIn o=false):JT X (.Compare i [.NotIn] [o] pos) (tB (a6L ty td)):=⟨b4A (a8s (by omega) hi.h ho.h) hm⟩
theorem b3m(hu:X.A.units+60<cLine)(ho:JE X o td)(hi:JE X i ty)(hv:JE X value tv)(hs:swapsWith value (some (.Subscript o i pos')) pos.line X.env=pure false:=by rfl):JS X (.Assign [.Subscript o i pos'] value pos) (b3V td ty tv):=⟨b2D (by omega) ho.h hi.h hv.h hs⟩
theorem J9(K:PySem.W.Frag){f:Str}(he:JE X e ta)(hK:X.K=K:=by rfl)(hb:attributeBase e f X.env (eval e X.env)=eval e X.env:=by rfl):JE X (.Attribute e f pos) (b5T K ta f):=by
 subst hK;exact⟨b4S he.h hb⟩
theorem Q7(K:PySem.W.Frag){f:Str}(ha:JE X o ta)(hv:JE X value tv)(hK:X.K=K:=by rfl)(hs:swapsWith value (some (.Attribute o f pos')) pos.line X.env=pure false:=by rfl):JS X (.Assign [.Attribute o f pos'] value pos) (b6a K ta tv f):=by
 subst hK;exact⟨b4E ha.h hv.h hs⟩
end
structure MethOk(P:Program)(w:World)(K:PySem.W.Frag)(mg:Str->Option Value)(base:Heap)(C:Addr)(m:Str)(k:Nat)(ps:List Str)(sp:Sp):Prop where
 ex:∃f fd,Meth K C m f/\Binds K fd ps []/\FnOk P w K mg base CX0 k f fd ps sp
structure MethAt(K:PySem.W.Frag)(C:Addr)(m qual:Str)(st:Stmt)(ps:List Str):Prop where
 ex:∃f fd,Meth K C m f/\Fun K m qual st f fd/\Binds K fd ps []
structure MakeOk(P:Program)(w:World)(K:PySem.W.Frag)(mg:Str->Option Value)(base:Heap)(x:Str)(C:Addr)(k:Nat)(ps:List Str)(sp:Sp):Prop where
 ex:∃f fd,mg x=some (.ref C)/\Mk K C f/\Binds K fd ps []/\FnOk P w K mg base CX0 k f fd ps sp
section
variable {P:Program}{w:World}{K:PySem.W.Frag}{mg:Str->Option Value}{base:Heap}{C:Addr}{m qual:Str}{st:Stmt}{N ps:List Str}{k:Nat}{sp:Sp}
theorem MethAt.fnJ(F:MethAt K C m qual st ps)(S:FnScope N ps (A3 st))(len:∀vs H Q E,sp vs H Q E->vs.length=ps.length)
  (hbody:∀(cdv:Value) (f:Addr) (A:Around) (outer:List Env) (s:Shared) (H:Hp) (vs:List V) (Q:VK) (E:XK),Room k (A.deeper (envOfC qual (A3 st) s.heap.objs.size f cdv))->sp vs H Q E ->
   ∃t,JB (T4 CX0 P w K mg base N qual (A3 st) f cdv A outer s H E).nox (D9 st) t/\t {nx:=λ_ H'=>Q .non H',rt:=Q} (start N vs) H):MethOk P w K mg base C m (k+1) ps sp:=by
 obtain⟨f,fd,h1,h2,h3⟩:=F.ex;exact⟨f,fd,h1,h3,h2.okJ S len λcdv=>hbody cdv f⟩
theorem MethOk.make{x:Str}(O:MethOk P w K mg base C "__init__" k ps sp)(hx:mg x=some (.ref C))(hm:PySem.W.makesIn K C=true)(hk:PySem.W.keepIn K (.ref C)=true):MakeOk P w K mg base x C k ps sp:=by
 obtain⟨f,fd,h1,h2,h3⟩:=O.ex;exact⟨f,fd,hx,⟨hm,h1.at_,h1.fn,hk⟩,h2,h3⟩
end
section
variable {X:Cx}{C:Addr}{m x:Str}{k:Nat}{ps:List Str}{sp:Sp}{o e:Expr}{es:List Expr}{ta:TE}{t:TA}{pos apos p:Pos}
theorem b5q{pl:Sem Bool}(O:MethOk X.prog X.w X.K X.mg X.base C m k ps sp)(c:Cls X.K C)(hr:Room k X.A)(he:JE X o ta)(ha:JA X (e::es) t)
  (hst:starEach (e::es) X.env=(false,eval e X.env)::starEach es X.env:=by rfl) (hpl:(backTo pos (starEach es X.env)).any (·.1)=false:=by rfl)
  (ht:eval (.Call (.Attribute o m apos) (e::es) [] pos) X.env=(eval o X.env>>=λov=>standAt apos.atName>>=λ_=>holding [ov] (getMethod ov m pl)>>=λp=>match p with | (f,first)=>callWith pos f first (backTo pos (starEach (e::es) X.env)) (backToKw pos (keywordEach [] X.env))):=by rfl) :
  JE X (.Call (.Attribute o m apos) (e::es) [] pos) (a1h C m sp [] E0 ta t):=by
 obtain⟨f,fd,h1,h2,h3⟩:=O.ex;exact⟨b2P (pl:=pl) he.h c h1 h3 hr h2 .nil a7h ha.h hst hpl ht⟩
theorem a4j{pl:Sem Bool}(O:MethOk X.prog X.w X.K X.mg X.base C m k ps sp)(c:Cls X.K C)(hr:Room k X.A)(he:JE X o ta)
  (ht:eval (.Call (.Attribute o m apos) [] [] pos) X.env=(eval o X.env>>=λov=>standAt apos.atName>>=λ_=>holding [ov] (getMethod ov m pl)>>=λp=>match p with | (f,first)=>callWith pos f first (backTo pos (starEach [] X.env)) (backToKw pos (keywordEach [] X.env))):=by rfl) :
  JE X (.Call (.Attribute o m apos) [] [] pos) (a1h C m sp [] E0 ta a0H):=by
 obtain⟨f,fd,h1,h2,h3⟩:=O.ex;exact⟨b0q (pl:=pl) he.h c h1 h3 hr h2 .nil a7h ht⟩
theorem b5r(O:MakeOk X.prog X.w X.K X.mg X.base x C k ps sp)(hr:Room (k+1) X.A)(hg:Gl X x)(ha:JA X (e::es) t)(hdb:(x==("__debug__" : Str))=false:=by decide)
  (he:starEach (e::es) X.env=(false,eval e X.env)::starEach es X.env:=by rfl) (hpl:(backTo pos (starEach es X.env)).any (·.1)=false:=by rfl) :
  JE X (.Call (.Name x p) (e::es) [] pos) (b3P C sp [] E0 t):=by
 obtain⟨f,fd,h0,h1,h2,h3⟩:=O.ex;exact⟨b2Q h1 h3 hr hg h0 h2 .nil a7h ha.h hdb he hpl⟩
end
end L2
namespace L2
open PySem PySem.Spec PyProof.Rows
theorem a2m{K:PySem.W.Frag}{src:List (Option Nat)}{σ caps:St}{Q:VK}{a:Addr}{vs:List V}{rss:LLI}{H:Hp}{tt:TT}(t:List Int->Bool)(hl:vs.length<=sizeLine)(hmono:∀H',Same H H'->SqL K H' a vs)(hI:Its H vs rss)(hsrc:B2 src σ=none::caps)
  (htt:∀v r H1 Q1,r∈rss->IT H1 v r->Same H H1->(∀H2,Same H1 H2->Q1 (t r) H2)->tt (some v::caps) H1 Q1) (hd:∀H1 p ws,Same H H1->H1 p=none->Its H1 ws (rss.filter t)->Q (.ref p) (upd H1 p (.lst ws))):E4 src (A9 0) tt (G2 0) σ Q (Itl K a) H:=by
 refine a0Y (xs:=vs) (by omega) (λi ys H'=>Same H H'/\Its H' ys ((rss.take i).filter t)) ⟨Same.refl H,by simpa using Its.nil⟩ (λi ys H' _ h=>⟨hmono H' h.1,by rw[h.2.1];exact Nat.le_trans (List.length_filter_le _ _) (List.length_take_le _ _)⟩) ?_ ?_
 .rintro i x ys H' hx ⟨s,hy⟩;obtain⟨r,hr,hr2,hr3⟩:=hI.mem hx;show Sub _ ((B2 src σ).set 0 (some x))/\_;rw[hsrc];refine⟨Sub.one,htt x r H' _ hr (hr3.same s) s λH2 s2=>?_⟩;rw[List.take_add_one,hr2];cases e:t r with
  |true=>exact⟨_,rfl,s.trans s2,by simpa[e]using(hy.same s2).snoc ((hr3.same s).same s2)⟩
  |false=>exact⟨s.trans s2,by simpa[e]using hy.same s2⟩
 .rintro ys H' ⟨s,hy⟩ p hp;rw[hI.1,List.take_length]at hy;exact hd H' p ys s hp hy
def Prs(H:Hp)(ps:List V)(f:Nat->List Int)(js:List Nat):Prop:=ps.length=js.length/\∀(i:Nat) (q:V),ps[i]?=some q->∃(j:Nat) (b:Addr) (v:V),js[i]?=some j/\q=.ref b/\H b=some (.tup [.int j,v])/\IT H v (f j)
theorem Prs.same{H H':Hp}{ps:List V}{f:Nat->List Int}{js:List Nat}(h:Prs H ps f js)(s:Same H H'):Prs H' ps f js :=
 ⟨h.1,λi q e=>let ⟨j,b,v,e1,e2,e3,e4⟩:=h.2 i q e;⟨j,b,v,e1,e2,s _ _ e3,e4.same s⟩⟩
theorem Prs.nil{H:Hp}{f:Nat->List Int}:Prs H [] f []:=⟨rfl,λi q e=>by simp at e⟩
theorem Prs.snoc{H:Hp}{ps:List V}{f:Nat->List Int}{js:List Nat}{j:Nat}{b:Addr}{v:V}(h:Prs H ps f js)(hb:H b=some (.tup [.int j,v]))(hv:IT H v (f j)):Prs H (ps++[.ref b]) f (js++[j]):=by
 refine⟨by rw[List.length_append,List.length_append,h.1];rfl,λi q e=>?_⟩;rcases Nat.lt_or_ge i ps.length with hi|hi
 .rw[List.getElem?_append_left hi]at e;obtain⟨j',b',v',e1,e2⟩:=h.2 i q e;exact⟨j',b',v',by rw[List.getElem?_append_left (by rw[<-h.1];exact hi)];exact e1,e2⟩
 .rw[List.getElem?_append_right hi]at e;have hi0:i-ps.length=0:=by
   rcases Nat.eq_zero_or_pos (i-ps.length)with z|z
   .exact z
   .rw[List.getElem?_eq_none (by simp;omega)]at e;cases e
  rw[hi0]at e;cases e;exact⟨j,b,v,by rw[List.getElem?_append_right (by rw[<-h.1];exact hi),<-h.1,hi0];rfl,rfl,hb,hv⟩
def a6K(K:PySem.W.Frag)(i:Nat)(sp:Sp)(t:TA)(z:Int):TX:=λD R σ H=>t σ H λvs H1=>sp vs H1 (λv H2=>a8k K v (.int z) H2 λu H3=>D.nx (σ.set i (some u)) H3) λc _ H'=>∃C,c=.ref C/\R σ C H'
theorem a8o{X:Cx}{k:Nat}{ps:List Str}{sp:Sp}{x y:Str}{p pos cpos pos' ip sp':Pos}{e:Expr}{es:List Expr}{t:TA}{i:Nat}{z:Int}{jj:Nat}(hx0:∀e s,¬X.xe e s)(O:OkE X.prog X.w X.K X.mg X.base x k ps sp)(hr:Room k X.A)(hg:Gl X x)
  (hN:X.N.Nodup) (hi:X.N[i]?=some y) (hy:Loc X.env.scope y) (ha:PA X (e::es) t) (hdb:(x==("__debug__" : Str))=false:=by decide)
  (he:starEach (e::es) X.env=(false,eval e X.env)::starEach es X.env:=by rfl) (hpl:(backTo cpos (starEach es X.env)).any (·.1)=false:=by rfl)
  (hpx:a0D (.Constant (.int z) jj ip):=by intro _ _;rfl)
  (hs:swapsWith (.Subscript (.Call (.Name x p) (e::es) [] cpos) (.Constant (.int z) jj ip) sp') (some (.Name y pos')) pos.line X.env=pure false:=by rfl) (hf:X.fn y=true∨X.env.scope.names.lookup y=some .local:=by first|exact .inl rfl|exact .inr rfl|assumption) :
  PSx X [.Assign [.Name y pos'] (.Subscript (.Call (.Name x p) (e::es) [] cpos) (.Constant (.int z) jj ip) sp') pos] (a6K X.K i sp t z):=by
 intro pins s σ H D R I h;obtain⟨f,fd,hm,hk,hb,F⟩:=O.ex;refine wpAny_execs_cons (wpAny_Assign_Name (Subscript_ ?_) hs);refine wpAny_Call_Name_kw (a0t I hg hm ?_ hdb);refine PySem.W.callWith_K (h₀:=X.base) I.ok.mod.kin hk (wpAny_mono (ha cpos pins s σ H _ I h) (λus s1 ⟨vs,H1,I1,r,q⟩=>⟨I1.kIn,?_⟩) λe s z=>absurd z (hx0 e s)) he hpl;have hl:us.length=ps.length:=by rw[<-r.length];exact F.len _ _ _ _ q
 have hb':=hb s1 us I1.kIn (by rw[List.append_nil];exact hl);rw[List.append_nil]at hb';refine wpAny_call (codeAny_mono (F.run X.A X.stack s1 H1 ⟨us,[]⟩ us vs _ _ hr I1.env0 hb' r q) λr s' hq=>?_);cases r with
 |error e =>
  obtain⟨p,C,H',B,a0,h1,h2,h3,h4,h5,h6,h7,h8,C',h9,h10⟩:=hq;cases h9;exact⟨σ,H1,s1,p,C,H',B,a0,h1,I1,h2,h3,h4,h5,h6,h7,h8,h10⟩
 |ok fl =>
  cases fl with
  |ret u =>
   obtain⟨v,H2,I2,rv,q2⟩:=I1.after hq;refine wpAny_Constant_int ?_;have I3:=I2.tok (s'.toks+1);refine wpAny_mono (b1j _ _ pins _ σ H2 v (.int z) u _ _ I3 rv ⟨_,rfl⟩ q2 (hpx _ _)) (λu' s4 ⟨v',H4,I4,rv',q4⟩=>?_) λe s z=>absurd z (hx0 e s);exact a1T I4 hN hi hy rv' (λs2 I5=>wpAny_execs_nil ⟨_,H4,I5,q4⟩) hf
  |next=>exact False.elim hq
  |brk=>exact False.elim hq
  |cont=>exact False.elim hq
section
variable {X:Cx}{k:Nat}{ps:List Str}{sp:Sp}{x y:Str}{p pos cpos pos' ip sp':Pos}{e:Expr}{es:List Expr}{t:TA}{i:Nat}{z:Int}{jj:Nat}
theorem b0U(K:PySem.W.Frag)(O:OkE X.prog X.w X.K X.mg X.base x k ps sp)(hr:Room k X.A)(hg:Gl X x)(hN:X.N.Nodup)(hi:X.N[i]?=some y)(hy:Loc X.env.scope y)(ha:JA X (e::es) t)(hK:X.K=K:=by rfl)(hx0:∀e s,¬X.xe e s:=by exact λ_ _ z=>z)(hdb:(x==("__debug__" : Str))=false:=by decide)
  (he:starEach (e::es) X.env=(false,eval e X.env)::starEach es X.env:=by rfl) (hpl:(backTo cpos (starEach es X.env)).any (·.1)=false:=by rfl) (hpx:a0D (.Constant (.int z) jj ip):=by intro _ _;rfl)
  (hs:swapsWith (.Subscript (.Call (.Name x p) (e::es) [] cpos) (.Constant (.int z) jj ip) sp') (some (.Name y pos')) pos.line X.env=pure false:=by rfl) (hf:X.fn y=true∨X.env.scope.names.lookup y=some .local:=by first|exact .inl rfl|exact .inr rfl|assumption) :
  JX X [.Assign [.Name y pos'] (.Subscript (.Call (.Name x p) (e::es) [] cpos) (.Constant (.int z) jj ip) sp') pos] (a6K K i sp t z):=by
 subst hK;exact⟨a8o hx0 O hr hg hN hi hy ha.h hdb he hpl hpx hs hf⟩
end
end L2
namespace L2
open PySem PySem.Spec PyProof.Rows PySem.W
section
variable {X:Cx}{tg:Expr}
end
section
variable {X:Cx}
end
section
variable {X:Cx}{o e:Expr}{es:List Expr}{to:TE}{t:TA}{apos cpos:Pos}
end
section
variable {X:Cx}{k:Nat}{ps:List Str}{sp:Sp}{x:Str}{p pos cpos:Pos}{e:Expr}{es:List Expr}{t:TA}
end
end L2
namespace L2
open PySem PySem.Spec PyProof.Rows
section
variable {prog:Program}{w:World}{A:Around}{E:Value->Shared->Prop}{s:Shared}
end
section
variable {X:Cx}{pos:Pos}
end
section
variable {X:Cx}{es:List Expr}{pos:Pos}
end
end L2
namespace L2
open PySem PySem.Spec PyProof.Rows PySem.W
section
variable {X:Cx}
end
section
variable {X:Cx}{e:Expr}{es:List Expr}{t:TA}{p pos:Pos}
end
section
variable {X:Cx}{k v:Expr}{tk tv:TE}{pos:Pos}
end
end L2
section
open PySem PyProof.Rows
end
namespace L2
open PySem PySem.Spec PyProof.Rows
section
variable {X:Cx}
variable {o e:Expr}{es:List Expr}{to:TE}{t:TA}{pos apos cpos:Pos}
end
end L2
namespace L2
theorem b6L{α:Type}{us:List α}(h:us.length=0):us=[]:=List.length_eq_zero_iff.mp h
theorem a2R{α:Type}{us:List α}(h:us.length=1):∃a,us=[a]:=by
 cases us with
 |nil=>cases h
 |cons a us=>exact⟨a,by rw[b6L (us:=us) (Nat.succ.inj h)]⟩
theorem Q4{α:Type}{us:List α}(h:us.length=2):∃a b,us=[a,b]:=by
 cases us with
 |nil=>cases h
 |cons a us=>obtain⟨b,e⟩:=a2R (us:=us) (Nat.succ.inj h);exact⟨a,b,by rw[e]⟩
theorem a4e{α:Type}{us:List α}(h:us.length=3):∃a b c,us=[a,b,c]:=by
 cases us with
 |nil=>cases h
 |cons a us=>obtain⟨b,c,e⟩:=Q4 (us:=us) (Nat.succ.inj h);exact⟨a,b,c,by rw[e]⟩
theorem b6K{α:Type}{us:List α}(h:us.length=4):∃a b c d,us=[a,b,c,d]:=by
 cases us with
 |nil=>cases h
 |cons a us=>obtain⟨b,c,d,e⟩:=a4e (us:=us) (Nat.succ.inj h);exact⟨a,b,c,d,by rw[e]⟩
theorem b6J{α:Type}{us:List α}(h:us.length=5):∃a b c d e,us=[a,b,c,d,e]:=by
 cases us with
 |nil=>cases h
 |cons a us=>obtain⟨b,c,d,e,q⟩:=b6K (us:=us) (Nat.succ.inj h);exact⟨a,b,c,d,e,by rw[q]⟩
section
open PySem PySem.Spec PyProof.Rows PySem.W
abbrev FnL(K:PySem.W.Frag)(f:Addr)(nm qn:Str)(st:Stmt)(oc:Value)(od:Option Addr)(sl:Array (Option Value))(kV dc pm:Value)(an:Option Addr)(cd ct:Value):Prop:=K.lookup f=some ⟨oc,od,.func (PySem.W.fnOf nm qn (O5 st) (D9 st) (A3 st) .none kV dc pm an cd ct),sl⟩
variable {K:PySem.W.Frag}{h:Heap}{mg:Str->Option Value}{x qn:Str}{st:Stmt}{f:Addr}{od an:Option Addr}{sl:Array (Option Value)}{oc kV dc pm cd ct:Value}{C:Addr}{m:Str}
theorem C4(X:K.In h)(G:h.Ns mainGlobals mg)(a:nsIn K mainGlobals x=some (some (.ref f)))(l:FnL K f x x st oc od sl kV dc pm an cd ct)(c:codeIn K cd x=true)(k:keepIn K (.ref f)=true){ps:List Str}
  (hb:∀(kV doc pm:Value) (an:Option Addr) (cdv ct:Value) (us:List Value),us.length=ps.length->bindArgs (fnOf x x (O5 st) (D9 st) (A3 st) .none kV doc pm an cdv ct) ⟨us,[]⟩=pure (ps.zip us)):FunAt K mg x st ps:=⟨f,_,mg_of X G a,a2B (st:=st) l c k,(a2B (st:=st) l c k).binds hb⟩
theorem a2l(a:findIn K (.ref C) m=some (some (.ref f)))(i:isFn K (.ref f)=true)(l:FnL K f m qn st oc od sl kV dc pm an cd ct)(c:codeIn K cd qn=true)(k:keepIn K (.ref f)=true){ps:List Str}
  (hb:∀(kV doc pm:Value) (an:Option Addr) (cdv ct:Value) (us:List Value),us.length=ps.length->bindArgs (fnOf m qn (O5 st) (D9 st) (A3 st) .none kV doc pm an cdv ct) ⟨us,[]⟩=pure (ps.zip us)):MethAt K C m qn st ps:=⟨f,_,⟨a,i,k⟩,a2B (st:=st) l c k,(a2B (st:=st) l c k).binds hb⟩
end
section
open PySem PySem.Spec PyProof.Rows PySem.W
variable {K:PySem.W.Frag}{h:Heap}{mg:Str->Option Value}{x nm qn:Str}{C N:Addr}{bs bm sub bmB above:List Value}{hd ab:Bool}{sn:List Str}{col:Option Bool}{dd:Option Addr}{k0 k1 k2 k3 k5:Option Value}{newId:String}
theorem b4Y(X:K.In h)(hm:mg x=some (.ref C))(lx:K.lookup C=some (excClassObj nm qn C N bs bm hd sn sub ab col dd k0 k1 k2 k3 k5 newId))(tx:tailIn K bmB bm=true)(ok:nsOkIn K N=true)(ini:nsIn K N "__init__"=some none):OwnCls x C bmB newId mg h :=
 ⟨hm,bm,N,nm,qn,bs,hd,sn,sub,ab,col,dd,k0,k1,k2,k3,k5,_,X _ _ lx,.of_isNs (isNs_of_in X ok),nsMap_none_of_in X ok ini,tail_of_in X tx⟩
end
inductive Ex1{α0:Type}(p:α0->Prop):Prop
 |mk (a0:α0) (h:p a0):Ex1 p
inductive Ex2{α0 α1:Type}(p:α0->α1->Prop):Prop
 |mk (a0:α0) (a1:α1) (h:p a0 a1):Ex2 p
inductive Ex3{α0 α1 α2:Type}(p:α0->α1->α2->Prop):Prop
 |mk (a0:α0) (a1:α1) (a2:α2) (h:p a0 a1 a2):Ex3 p
inductive Ex4{α0 α1 α2 α3:Type}(p:α0->α1->α2->α3->Prop):Prop
 |mk (a0:α0) (a1:α1) (a2:α2) (a3:α3) (h:p a0 a1 a2 a3):Ex4 p
inductive Ex5{α0 α1 α2 α3 α4:Type}(p:α0->α1->α2->α3->α4->Prop):Prop
 |mk (a0:α0) (a1:α1) (a2:α2) (a3:α3) (a4:α4) (h:p a0 a1 a2 a3 a4):Ex5 p
inductive An2(a0 a1:Prop):Prop
 |mk (h0:a0) (h1:a1):An2 a0 a1
inductive An3(a0 a1 a2:Prop):Prop
 |mk (h0:a0) (h1:a1) (h2:a2):An3 a0 a1 a2
inductive An4(a0 a1 a2 a3:Prop):Prop
 |mk (h0:a0) (h1:a1) (h2:a2) (h3:a3):An4 a0 a1 a2 a3
inductive An5(a0 a1 a2 a3 a4:Prop):Prop
 |mk (h0:a0) (h1:a1) (h2:a2) (h3:a3) (h4:a4):An5 a0 a1 a2 a3 a4
inductive An6(a0 a1 a2 a3 a4 a5:Prop):Prop
 |mk (h0:a0) (h1:a1) (h2:a2) (h3:a3) (h4:a4) (h5:a5):An6 a0 a1 a2 a3 a4 a5
inductive An7(a0 a1 a2 a3 a4 a5 a6:Prop):Prop
 |mk (h0:a0) (h1:a1) (h2:a2) (h3:a3) (h4:a4) (h5:a5) (h6:a6):An7 a0 a1 a2 a3 a4 a5 a6
inductive An9(a0 a1 a2 a3 a4 a5 a6 a7 a8:Prop):Prop
 |mk (h0:a0) (h1:a1) (h2:a2) (h3:a3) (h4:a4) (h5:a5) (h6:a6) (h7:a7) (h8:a8):An9 a0 a1 a2 a3 a4 a5 a6 a7 a8
inductive An10(a0 a1 a2 a3 a4 a5 a6 a7 a8 a9:Prop):Prop
 |mk (h0:a0) (h1:a1) (h2:a2) (h3:a3) (h4:a4) (h5:a5) (h6:a6) (h7:a7) (h8:a8) (h9:a9):An10 a0 a1 a2 a3 a4 a5 a6 a7 a8 a9
inductive An11(a0 a1 a2 a3 a4 a5 a6 a7 a8 a9 a10:Prop):Prop
 |mk (h0:a0) (h1:a1) (h2:a2) (h3:a3) (h4:a4) (h5:a5) (h6:a6) (h7:a7) (h8:a8) (h9:a9) (h10:a10):An11 a0 a1 a2 a3 a4 a5 a6 a7 a8 a9 a10
end L2
namespace L2
namespace Tab
open PySem
def gI:Nat->Nat->Nat
 |0,x=>x
 |n+1,x=>5*gI n x+1
def gS:Nat->Nat
 |0=>0
 |n+1=>5*gS n+1
theorem b4i:∀n x,gI n x=5 ^ n*x+gS n
 |0,x=>by simp[gI,gS]
 |n+1,x=>by
  rw[gI,b4i n x,gS,Nat.pow_succ,Nat.mul_add,<-Nat.mul_assoc,Nat.mul_comm 5 (5 ^ n)];omega
theorem a7y:∀n,4*gS n+1=5 ^ n
 |0=>rfl
 |n+1=>by
  have:=a7y n;rw[gS,Nat.pow_succ];omega
theorem a2E:∀k,∃u,5 ^ (2 ^ k)=1+2 ^ (k+2)*(2*u+1)
 |0=>⟨0,rfl⟩
 |k+1=>by
  obtain⟨u,h⟩:=a2E k;refine⟨u+2 ^ k*(2*u+1)*(2*u+1),?_⟩;rw[Nat.pow_succ 2 k,Nat.pow_mul,h,Nat.pow_two];have e1:2 ^ (k+1+2)=8*2 ^ k:=by rw[Nat.pow_add,Nat.pow_succ];omega
  have e2:2 ^ (k+2)=4*2 ^ k:=by rw[Nat.pow_add,Nat.mul_comm]
  rw[e1,e2];generalize 2 ^ k=b
  grind
theorem b5u(k:Nat):∃u,gS (2 ^ k)=2 ^ k*(2*u+1):=by
 obtain⟨u,h⟩:=a2E k;refine⟨u,?_⟩;have:=a7y (2 ^ k);have e2:2 ^ (k+2)=4*2 ^ k:=by rw[Nat.pow_add,Nat.mul_comm]
 rw[h,e2,Nat.mul_assoc]at this;omega
theorem b3z(k y:Nat):gI (2 ^ k) y % 2 ^ (k+1)=(y+2 ^ k) % 2 ^ (k+1):=by
 obtain⟨u,h⟩:=a2E k;obtain⟨v,h2⟩:=b5u k;rw[b4i,h,h2];have e:(1+2 ^ (k+2)*(2*u+1))*y+2 ^ k*(2*v+1)=(y+2 ^ k)+2 ^ (k+1)*(2*(2*u+1)*y+v):=by
  have e1:2 ^ (k+1)=2*2 ^ k:=by rw[Nat.pow_succ];omega
  have e2:2 ^ (k+2)=4*2 ^ k:=by rw[Nat.pow_add,Nat.mul_comm]
  rw[e1,e2];generalize 2 ^ k=b
  grind
 rw[e,Nat.add_mul_mod_self_left]
def fI(M:Nat):Nat->Nat->Nat
 |0,x=>x
 |n+1,x=>(fI M n x*5+1) % M
theorem b1z(M:Nat)(x:Nat)(hx:x<M):∀n,fI M n x=gI n x % M
 |0=>(Nat.mod_eq_of_lt hx).symm
 |n+1=>by
  rw[fI,b1z M x hx n,gI,Nat.mul_comm,Nat.add_mod,Nat.mul_mod,Nat.mod_mod,<-Nat.mul_mod,<-Nat.add_mod]
theorem b1w(m:Nat):∀n x,gI (n+m) x=gI n (gI m x)
 |0,x=>by rw[Nat.zero_add];rfl
 |n+1,x=>by rw[Nat.add_right_comm,gI,b1w m n x,gI]
theorem b1v:∀(k x s:Nat),∃n,n<2 ^ k/\gI n x % 2 ^ k=s % 2 ^ k
 |0,x,s=>⟨0,by decide,by rw[Nat.pow_zero,Nat.mod_one,Nat.mod_one]⟩
 |k+1,x,s=>by
  obtain⟨n,hn,h⟩:=b1v k x s;have e1:2 ^ (k+1)=2*2 ^ k:=by rw[Nat.pow_succ];omega
  have hp:0<2 ^ k:=Nat.pow_pos (by decide);by_cases hy:gI n x % 2 ^ (k+1)=s % 2 ^ (k+1)
  .exact⟨n,by omega,hy⟩
  .refine⟨2 ^ k+n,by omega,?_⟩;rw[b1w,b3z];generalize gI n x=y at *;rw[e1]at hy⊢;generalize 2 ^ k=M at *;have a1:=Nat.mod_add_div y (2*M);have a2:=Nat.mod_add_div s (2*M);have b1:=Nat.mod_lt y (show 0<2*M by omega);have b2:=Nat.mod_lt s (show 0<2*M by omega);have c1:y % M=y % (2*M) % M:=(Nat.mod_mul_left_mod y 2 M).symm;have c2:s % M=s % (2*M) % M:=(Nat.mod_mul_left_mod s 2 M).symm;rw[Nat.add_mod,Nat.mod_eq_of_lt (show M<2*M by omega)];generalize y % (2*M)=p at *;generalize s % (2*M)=q at *;rw[c1,c2]at h;have d1:p % M=if p<M then p else p-M:=by
    split
    .exact Nat.mod_eq_of_lt (by assumption)
    .rw[Nat.mod_eq_sub_mod (by omega)];exact Nat.mod_eq_of_lt (by omega)
   have d2:q % M=if q<M then q else q-M:=by
    split
    .exact Nat.mod_eq_of_lt (by assumption)
    .rw[Nat.mod_eq_sub_mod (by omega)];exact Nat.mod_eq_of_lt (by omega)
   rw[d1,d2]at h;split at h<;>split at h
   .omega
   .rw[Nat.mod_eq_of_lt (by omega)];omega
   .rw[show p+M=p-M+2*M by omega,Nat.add_mod_right,Nat.mod_eq_of_lt (by omega)];omega
   .omega
abbrev Pr:=SetTable.Probe
noncomputable def adv(mask:Nat)(p:Pr):Pr :=
 if p.more > 0 then {p with j:=p.j+1,more:=p.more-1} else
 {p with j:=(SetTable.leap mask p.i p.perturb).1,more:=SetTable.runEnd mask (SetTable.leap mask p.i p.perturb).1-(SetTable.leap mask p.i p.perturb).1,i:=(SetTable.leap mask p.i p.perturb).1,perturb:=(SetTable.leap mask p.i p.perturb).2}
theorem b5F(t:SetTable)(p:Pr):t.advance p=adv t.mask p:=rfl
noncomputable def B6(mask:Nat)(p:Pr):Nat->Pr
 |0=>p
 |n+1=>adv mask (B6 mask p n)
theorem G1(mask:Nat)(p:Pr):∀n,B6 mask p (n+1)=B6 mask (adv mask p) n
 |0=>rfl
 |n+1=>by rw[B6,G1 mask p n];rfl
theorem a0h(mask:Nat)(p:Pr)(m:Nat):∀n,B6 mask p (m+n)=B6 mask (B6 mask p m) n
 |0=>rfl
 |n+1=>by rw[<-Nat.add_assoc,B6,a0h mask p m n];rfl
theorem a0F(mask:Nat)(p:Pr):∀n,(B6 mask p n).dummy=p.dummy
 |0=>rfl
 |n+1=>by
  rw[B6,<-a0F mask p n];unfold adv;split<;>rfl
noncomputable def a0J(mask i pt:Nat):Pr:={j:=i,more:=SetTable.runEnd mask i-i,i,perturb:=pt,dummy:=none}
noncomputable def st0(mask:Nat)(h:Int):Pr:=a0J mask (SetTable.bits h % (mask+1)) (SetTable.bits h)
theorem a0U(mask i pt:Nat):∀c,c<=SetTable.runEnd mask i-i->B6 mask (a0J mask i pt) c={j:=i+c,more:=SetTable.runEnd mask i-i-c,i,perturb:=pt,dummy:=none}
 |0,_=>rfl
 |c+1,h=>by
  rw[B6,a0U mask i pt c (by omega)];unfold adv;rw[if_pos (show SetTable.runEnd mask i-i-c > 0 by omega)];simp only[SetTable.Probe.mk.injEq,and_true];omega
theorem b2r(mask i:Nat):SetTable.runEnd mask i-i<=9:=by
 unfold SetTable.runEnd;split<;>omega
theorem a5a(mask i pt:Nat):B6 mask (a0J mask i pt) (SetTable.runEnd mask i-i+1)=a0J mask (SetTable.leap mask i pt).1 (SetTable.leap mask i pt).2:=by
 rw[B6,a0U mask i pt _ (Nat.le_refl _)];unfold adv;rw[if_neg (by show ¬SetTable.runEnd mask i-i-(SetTable.runEnd mask i-i) > 0;omega)];rfl
def K6(mask:Nat)(i pt:Nat):Nat->Nat×Nat
 |0=>(i,pt)
 |k+1=>SetTable.leap mask (K6 mask i pt k).1 (K6 mask i pt k).2
theorem a9P(mask i pt:Nat):∀k,∃n,n<=10*k/\B6 mask (a0J mask i pt) n=a0J mask (K6 mask i pt k).1 (K6 mask i pt k).2
 |0=>⟨0,Nat.le_refl _,rfl⟩
 |k+1=>by
  obtain⟨n,h1,h2⟩:=a9P mask i pt k;have:=b2r mask (K6 mask i pt k).1;refine⟨n+(SetTable.runEnd mask (K6 mask i pt k).1-(K6 mask i pt k).1+1),by omega,?_⟩;rw[a0h,h2,a5a];rfl
theorem a9N(mask i pt:Nat):∀k,(K6 mask i pt k).2=pt / 32 ^ k
 |0=>by simp[K6]
 |k+1=>by
  rw[K6,Nat.pow_succ,<-Nat.div_div_eq_div_mul,<-a9N mask i pt k];rfl
theorem a2b(mask i pt a:Nat):∀b,K6 mask i pt (a+b)=K6 mask (K6 mask i pt a).1 (K6 mask i pt a).2 b
 |0=>rfl
 |b+1=>by rw[<-Nat.add_assoc,K6,a2b mask i pt a b];rfl
theorem a4R(mask i:Nat):∀k,K6 mask i 0 k=(fI (mask+1) k i,0)
 |0=>rfl
 |k+1=>by
  rw[K6,a4R mask i k];show((fI (mask+1) k i*5+1+0 / 32) % (mask+1),0 / 32)=_;rw[Nat.zero_div,Nat.add_zero];rfl
theorem b3F(h:Int):SetTable.bits h<2 ^ 64:=by
 unfold SetTable.bits;have h1:=Int.emod_nonneg h (show(2:Int) ^ 64≠0 by decide);have h2:=Int.emod_lt_of_pos h (show(0:Int)<2 ^ 64 by decide);omega
theorem b2s(mask i pt:Nat)(hi:i<=mask):∀k,(K6 mask i pt k).1<=mask
 |0=>hi
 |k+1=>by
  rw[K6];exact Nat.le_of_lt_succ (Nat.mod_lt _ (Nat.succ_pos _))
theorem a4S{mask k:Nat}(hk:mask+1=2 ^ k)(h:Int)(s:Nat)(hs:s<=mask):∃r,r<mask+14/\(K6 mask (SetTable.bits h % (mask+1)) (SetTable.bits h) r).1=s:=by
 have hb:=b3F h;have hi:=b2s mask (SetTable.bits h % (mask+1)) (SetTable.bits h) (Nat.le_of_lt_succ (Nat.mod_lt _ (Nat.succ_pos _))) 13;have hp:=a9N mask (SetTable.bits h % (mask+1)) (SetTable.bits h) 13;rw[Nat.div_eq_of_lt (Nat.lt_of_lt_of_le hb (by decide))]at hp;obtain⟨n,hn,e⟩:=b1v k (K6 mask (SetTable.bits h % (mask+1)) (SetTable.bits h) 13).1 s;refine⟨13+n,by omega,?_⟩;rw[<-hk]at e;rw[a2b,hp,a4R];show fI _ _ _=s;rw[b1z _ _ (by omega),e];exact Nat.mod_eq_of_lt (by omega)
noncomputable def pos(mask:Nat)(h:Int)(n:Nat):Nat:=(B6 mask (st0 mask h) n).j
theorem b0k{mask k:Nat}(hk:mask+1=2 ^ k)(h:Int)(s:Nat)(hs:s<=mask):∃n,n<10*SetTable.turns mask/\pos mask h n=s:=by
 obtain⟨r,hr,e⟩:=a4S hk h s hs;obtain⟨n,hn,e2⟩:=a9P mask (SetTable.bits h % (mask+1)) (SetTable.bits h) r;refine⟨n,by unfold SetTable.turns;omega,?_⟩;unfold pos st0;rw[e2,<-e];rfl
theorem a2L(xs:Array Nat)(j:Nat)(hr:∀a b:Nat,a<b->b<xs.size->xs.getD a 0<xs.getD b 0):∀(fuel lo hi:Nat),hi-lo<=fuel->lo<=hi->hi<=xs.size->(∀i,i<lo->xs.getD i 0<j)->(∀i,hi<=i->i<xs.size->j<=xs.getD i 0) ->
  SetTable.below.go xs j fuel lo hi<=xs.size/\(∀i,i<SetTable.below.go xs j fuel lo hi->xs.getD i 0<j)/\∀i,SetTable.below.go xs j fuel lo hi<=i->i<xs.size->j<=xs.getD i 0
 |0,lo,hi,h1,h2,h3,h4,h5=>by
  have:hi=lo:=by omega
  subst this;exact⟨h3,h4,h5⟩
 |fuel+1,lo,hi,h1,h2,h3,h4,h5=>by
  unfold SetTable.below.go;by_cases h:lo<hi
  .rw[if_pos h];have hm:(lo+hi) / 2<hi/\lo<=(lo+hi) / 2:=by omega
   have hg:xs.getD ((lo+hi) / 2) j=xs.getD ((lo+hi) / 2) 0:=by
    have:(lo+hi) / 2<xs.size:=by omega
    simp[Array.getD,this]
   dsimp only;rw[hg];by_cases hc:xs.getD ((lo+hi) / 2) 0<j
   .rw[if_pos hc];refine a2L xs j hr fuel _ _ (by omega) (by omega) h3 (λi hi'=>?_) h5;by_cases e:i=(lo+hi) / 2
    .rw[e];exact hc
    .exact Nat.lt_trans (hr i _ (by omega) (by omega)) hc
   .rw[if_neg hc];refine a2L xs j hr fuel _ _ (by omega) (by omega) (by omega) h4 (λi hi' hs=>?_);by_cases e:i=(lo+hi) / 2
    .rw[e];omega
    .have:=hr ((lo+hi) / 2) i (by omega) hs;omega
  .rw[if_neg h];have:hi=lo:=by omega
   subst this;exact⟨h3,h4,h5⟩
def Ris(xs:Array Nat):Prop:=∀a b:Nat,a<b->b<xs.size->xs.getD a 0<xs.getD b 0
theorem F0{xs:Array Nat}(hr:Ris xs)(j:Nat):SetTable.below xs j<=xs.size/\(∀i,i<SetTable.below xs j->xs.getD i 0<j)/\∀i,SetTable.below xs j<=i->i<xs.size->j<=xs.getD i 0 :=
 a2L xs j hr xs.size 0 xs.size (by omega) (by omega) (Nat.le_refl _) (λi h=>absurd h (by omega)) (λi h1 h2=>absurd h2 (by omega))
theorem a0x{xs:Array Nat}{i:Nat}(h:i<xs.size):xs[i]?=some (xs.getD i 0):=by simp[Array.getD,h]
theorem a0B{xs:Array Nat}(hr:Ris xs){i j:Nat}(h:xs[i]?=some j):SetTable.below xs j=i:=by
 obtain⟨b1,b2,b3⟩:=F0 hr j;have hi:i<xs.size:=(Array.getElem?_eq_some_iff.mp h).1;have hj:xs.getD i 0=j:=by have:=a0x hi;rw[h]at this;injection this with this;exact this.symm
 rcases Nat.lt_trichotomy (SetTable.below xs j) i with z|z|z
 .have h1:=b3 _ (Nat.le_refl _) (by omega);have h2:=hr _ _ z hi;omega
 .exact z
 .have:=b2 i z;omega
theorem a0Z{xs:Array Nat}(hr:Ris xs)(j:Nat):xs[SetTable.below xs j]?=some j↔j∈xs:=by
 constructor
 .intro h;exact Array.mem_of_getElem? h
 .intro h;obtain⟨i,hi⟩:=Array.mem_iff_getElem?.mp h;rw[a0B hr hi];exact hi
theorem a7a{t:SetTable}(hr:Ris t.place)(hd:t.dummies=#[])(j:Nat):t.slot j=if j∈t.place then .live (SetTable.below t.place j)else .empty:=by
 unfold SetTable.slot;dsimp only;by_cases h:j∈t.place
 .rw[if_pos h,if_pos];rw[(a0Z hr j).mpr h];simp
 .rw[if_neg h,if_neg,hd]
  .rw[if_neg];unfold SetTable.has;simp
  .intro z;exact h ((a0Z hr j).mp (by simpa using z))
theorem a4V{t:SetTable}(hr:Ris t.place)(hd:t.dummies=#[])(hashAt:Nat->Int)(h:Int):∀(fuel:Nat) (p:Pr),p.dummy=none->(∃n,n<fuel/\(B6 t.mask p n).j∉t.place) ->
  (∃n,(B6 t.mask p n).j∉t.place/\(∀m,m<n->(B6 t.mask p m).j∈t.place/\hashAt (SetTable.below t.place (B6 t.mask p m).j)≠h)/\SetTable.probe.go t hashAt h fuel p=some (.empty (B6 t.mask p n).j none)) ∨
  ∃n,(B6 t.mask p n).j∈t.place/\hashAt (SetTable.below t.place (B6 t.mask p n).j)=h/\(∀m,m<n->(B6 t.mask p m).j∈t.place/\hashAt (SetTable.below t.place (B6 t.mask p m).j)≠h)/\SetTable.probe.go t hashAt h fuel p=some (.candidate (B6 t.mask p n).j (SetTable.below t.place (B6 t.mask p n).j) (B6 t.mask p (n+1)))
 |0,p,_,⟨n,hn,_⟩=>absurd hn (by omega)
 |fuel+1,p,hdm,⟨n,hn,he⟩=>by
  unfold SetTable.probe.go;rw[a7a hr hd];by_cases hj:p.j∈t.place
  .rw[if_pos hj];dsimp only;by_cases hh:hashAt (SetTable.below t.place p.j)=h
   .right;refine⟨0,hj,hh,λm hm=>absurd hm (by omega),?_⟩;rw[if_pos (by simpa using hh)];rfl
   .have hn0:n≠0:=λz=>he (by rw[z];exact hj);obtain⟨n,rfl⟩:∃n',n=n'+1:=⟨n-1,by omega⟩;rw[G1]at he;rw[if_neg (by simpa using hh),b5F];have first:∀N,(∀m,m<N->(B6 t.mask (adv t.mask p) m).j∈t.place/\hashAt (SetTable.below t.place (B6 t.mask (adv t.mask p) m).j)≠h)->∀m,m<N+1->(B6 t.mask p m).j∈t.place/\hashAt (SetTable.below t.place (B6 t.mask p m).j)≠h:=λN hN m hm=>by
     cases m with
     |zero=>exact⟨hj,hh⟩
     |succ m=>rw[G1];exact hN m (by omega)
    rcases a4V hr hd hashAt h fuel (adv t.mask p) (by rw[<-hdm];exact a0F t.mask p 1) ⟨n,by omega,he⟩with⟨N,h1,h2,h3⟩|⟨N,h1,h2,h3,h4⟩
    .left;exact⟨N+1,by rw[G1];exact h1,first N h2,by rw[G1];exact h3⟩
    .right;exact⟨N+1,by rw[G1];exact h1,by rw[G1];exact h2,first N h3,by rw[G1,G1];exact h4⟩
  .rw[if_neg hj];left;refine⟨0,hj,λm hm=>absurd hm (by omega),?_⟩;show some (SetTable.Met.empty p.j p.dummy)=_;rw[hdm];rfl
theorem V7{α:Type}(xs:Array α)(p:Nat)(x:α)(hp:p<=xs.size):(SetTable.insertAt xs p x).toList=xs.toList.take p++x::xs.toList.drop p:=by
 unfold SetTable.insertAt;simp only[Array.toList_append,Array.toList_push,Array.toList_extract,List.extract_eq_take_drop,List.drop_zero,Nat.sub_zero,List.append_assoc,List.singleton_append];rw[List.take_of_length_le (l:=List.drop p xs.toList) (by simp)]
theorem ris_list{xs:Array Nat}:Ris xs↔xs.toList.Pairwise (· < ·):=by
 rw[List.pairwise_iff_getElem];unfold Ris;constructor
 .intro h i j hi hj hij;have:=h i j hij (by simpa using hj);simpa[Array.getD,show i<xs.size by simpa using hi,show j<xs.size by simpa using hj]using this
 .intro h a b hab hb;have:=h a b (by simp;omega) (by simpa using hb) hab;simpa[Array.getD,show a<xs.size by omega,hb]using this
theorem a3q{xs:Array Nat}{i:Nat}(h:i<xs.toList.length):xs.getD i 0=xs.toList[i]:=by
 have h':i<xs.size:=by simpa using h
 simp[Array.getD,h']
theorem b2e{xs:Array Nat}(hr:Ris xs){j x:Nat}(h:x∈xs.toList.take (SetTable.below xs j)):x<j:=by
 obtain⟨b1,b2,b3⟩:=F0 hr j;obtain⟨i,hi,rfl⟩:=List.mem_iff_getElem.mp h;rw[List.length_take]at hi;rw[List.getElem_take,<-a3q];exact b2 i (by omega)
theorem a7A{xs:Array Nat}(hr:Ris xs){j x:Nat}(hj:j∉xs)(h:x∈xs.toList.drop (SetTable.below xs j)):j<x:=by
 obtain⟨b1,b2,b3⟩:=F0 hr j;have hm:x∈xs:=by simpa using List.mem_of_mem_drop h
 obtain⟨i,hi,rfl⟩:=List.mem_iff_getElem.mp h;rw[List.length_drop]at hi;rw[List.getElem_drop,<-a3q]at hm⊢;have:=b3 (SetTable.below xs j+i) (by omega) (by simp at hi;omega);rcases Nat.lt_or_eq_of_le this with z|z
 .exact z
 .exact absurd (z ▸ hm) hj
theorem b2t{xs:Array Nat}(hr:Ris xs){j:Nat}(hj:j∉xs):Ris (SetTable.insertAt xs (SetTable.below xs j) j):=by
 rw[ris_list,V7 _ _ _ (F0 hr j).1];have hp:=ris_list.mp hr;rw[List.pairwise_append,List.pairwise_cons];refine⟨hp.take,⟨λy hy=>a7A hr hj hy,hp.drop⟩,λx hx y hy=>?_⟩;have h1:=b2e hr hx;rcases List.mem_cons.mp hy with z|z
 .rw[z];exact h1
 .exact Nat.lt_trans h1 (a7A hr hj z)
theorem a4d{xs:Array Nat}{p j x:Nat}(hp:p<=xs.size):x∈SetTable.insertAt xs p j↔x=j∨x∈xs:=by
 rw[<-Array.mem_toList_iff,V7 _ _ _ hp,List.mem_append,List.mem_cons,<-Array.mem_toList_iff];constructor
 .rintro(h|h|h)
  .exact .inr (List.mem_of_mem_take h)
  .exact .inl h
  .exact .inr (List.mem_of_mem_drop h)
 .rintro(h|h)
  .exact .inr (.inl h)
  .rw[<-List.take_append_drop p xs.toList]at h;rcases List.mem_append.mp h with z|z
   .exact .inl z
   .exact .inr (.inr z)
theorem nodup_le{α:Type}[DecidableEq α]:∀(a b:List α),a.Nodup->(∀x∈a,x∈b)->a.length<=b.length
 |[],b,_,_=>Nat.zero_le _
 |x::a,b,hn,h=>by
  obtain⟨h1,h2⟩:=List.nodup_cons.mp hn;have hx:=h x List.mem_cons_self;have:=nodup_le a (b.erase x) h2 λy hy=>(List.mem_erase_of_ne (λz:y=x=>h1 (z ▸ hy))).mpr (h y (List.mem_cons_of_mem _ hy));rw[List.length_erase_of_mem hx]at this;have:=List.length_pos_of_mem hx;rw[List.length_cons];omega
structure TabOk{α:Type}(t:SetTable)(es:Array (Int×α)):Prop where
 size:t.place.size=es.size
 dum:t.dummies=#[]
 ris:Ris t.place
 le:∀j∈t.place,j<=t.mask
 pow:∃k,3<=k/\t.mask+1=2 ^ k
 room:es.size<=t.mask
 reach:∀(i j:Nat) (e:Int×α),t.place[i]?=some j->es[i]?=some e->∃n,pos t.mask e.1 n=j/\∀m,m<n->pos t.mask e.1 m∈t.place
theorem TabOk.free{α:Type}{t:SetTable}{es:Array (Int×α)}(h:TabOk t es)(x:Int):∃n,n<10*SetTable.turns t.mask/\pos t.mask x n∉t.place:=by
 obtain⟨k,_,hk⟩:=h.pow;have:∃s,s<=t.mask/\s∉t.place:=by
  refine Classical.byContradiction λhno=>?_;have hall:∀s,s<t.mask+1->s∈t.place.toList:=λs hs=>by
   refine Classical.byContradiction λz=>hno ⟨s,by omega,λq=>z (by simpa using q)⟩
  have:=nodup_le (List.range (t.mask+1)) t.place.toList List.nodup_range λs hs=>hall s (List.mem_range.mp hs);rw[List.length_range,Array.length_toList,h.size]at this;have:=h.room;omega
 obtain⟨s,hs,hn⟩:=this;obtain⟨n,hn1,hn2⟩:=b0k hk x s hs;exact⟨n,hn1,by rw[hn2];exact hn⟩
theorem TabOk.first{α:Type}{t:SetTable}{es:Array (Int×α)}(h:TabOk t es)(x:Int):∃N,N<10*SetTable.turns t.mask/\pos t.mask x N∉t.place/\∀m,m<N->pos t.mask x m∈t.place:=by
 obtain⟨n,hn,hf⟩:=h.free x;induction n using Nat.strongRecOn with
 |ind n ih =>
  by_cases hx:∃m,m<n/\pos t.mask x m∉t.place
  .obtain⟨m,hm,hm2⟩:=hx;exact ih m hm (by omega) hm2
  .exact⟨n,hn,hf,λm hm=>Classical.byContradiction λz=>hx ⟨m,hm,z⟩⟩
theorem a7x{α:Type}{xs:Array α}{p:Nat}{x:α}(hp:p<=xs.size)(i:Nat):(SetTable.insertAt xs p x)[i]?=if i<p then xs[i]? else if i=p then some x else xs[i-1]?:=by
 rw[<-Array.getElem?_toList,V7 _ _ _ hp];by_cases h1:i<p
 .rw[if_pos h1,List.getElem?_append_left (by rw[List.length_take,Array.length_toList];omega),List.getElem?_take_of_lt h1,Array.getElem?_toList]
 .rw[if_neg h1,List.getElem?_append_right (by rw[List.length_take,Array.length_toList];omega),List.length_take,Array.length_toList,Nat.min_eq_left hp];by_cases h2:i=p
  .rw[if_pos h2,h2,Nat.sub_self];rfl
  .rw[if_neg h2];obtain⟨c,hc⟩:∃c,i-p=c+1:=⟨i-p-1,by omega⟩;rw[hc,List.getElem?_cons_succ,List.getElem?_drop,Array.getElem?_toList];congr 1;omega
theorem TabOk.add{α:Type}{t:SetTable}{es:Array (Int×α)}(h:TabOk t es){x:Int}{v:α}{N:Nat}(h1:pos t.mask x N∉t.place)(h2:∀m,m<N->pos t.mask x m∈t.place)(hle:pos t.mask x N<=t.mask)(hroom:es.size<t.mask) :
  TabOk (t.put (pos t.mask x N)).1 (SetTable.insertAt es (t.put (pos t.mask x N)).2 (x,v)):=by
 have hb:=(F0 h.ris (pos t.mask x N)).1;have hd:(t.put (pos t.mask x N)).1.dummies=#[]:=by
  show(if SetTable.has t.dummies (pos t.mask x N)=true then _ else t.dummies)=#[];rw[h.dum,if_neg];unfold SetTable.has;simp
 have hes:SetTable.below t.place (pos t.mask x N)<=es.size:=by rw[<-h.size];exact hb
 have hsz:∀{β:Type}(xs:Array β) (p:Nat) (y:β),p<=xs.size->(SetTable.insertAt xs p y).size=xs.size+1:=λxs p y hp=>by
  rw[<-Array.length_toList,V7 _ _ _ hp,List.length_append,List.length_cons,List.length_take,List.length_drop,Array.length_toList];omega
 refine⟨?_,hd,b2t h.ris h1,λj hj=>?_,h.pow,?_,λi j e ei ee=>?_⟩
 .show(SetTable.insertAt t.place (SetTable.below t.place (pos t.mask x N)) _).size=(SetTable.insertAt es (SetTable.below t.place (pos t.mask x N)) _).size;rw[hsz _ _ _ hb,hsz _ _ _ hes,h.size]
 .rcases(a4d hb).mp hj with z|z
  .rw[z];exact hle
  .exact h.le j z
 .show(SetTable.insertAt es (SetTable.below t.place (pos t.mask x N)) _).size<=t.mask;rw[hsz _ _ _ hes];exact hroom
 .change (SetTable.insertAt t.place (SetTable.below t.place (pos t.mask x N)) (pos t.mask x N))[i]?=some j at ei;change (SetTable.insertAt es (SetTable.below t.place (pos t.mask x N)) (x,v))[i]?=some e at ee;rw[a7x hb]at ei;rw[a7x hes]at ee;show ∃n,pos t.mask e.1 n=j/\∀m,m<n->pos t.mask e.1 m∈SetTable.insertAt t.place (SetTable.below t.place (pos t.mask x N)) (pos t.mask x N);have old:∀i',t.place[i']?=some j->es[i']?=some e->∃n,pos t.mask e.1 n=j/\∀m,m<n->pos t.mask e.1 m∈SetTable.insertAt t.place (SetTable.below t.place (pos t.mask x N)) (pos t.mask x N):=λi' q1 q2=>by
   obtain⟨n,n1,n2⟩:=h.reach i' j e q1 q2;exact⟨n,n1,λm hm=>(a4d hb).mpr (.inr (n2 m hm))⟩
  by_cases c1:i<SetTable.below t.place (pos t.mask x N)
  .rw[if_pos c1]at ei ee;exact old i ei ee
  .rw[if_neg c1]at ei ee;by_cases c2:i=SetTable.below t.place (pos t.mask x N)
   .rw[if_pos c2]at ei ee;cases ei;cases ee;exact⟨N,rfl,λm hm=>(a4d hb).mpr (.inr (h2 m hm))⟩
   .rw[if_neg c2]at ei ee;exact old _ ei ee
theorem a3f{mask i:Nat}(hi:i<=mask):SetTable.runEnd mask i<=mask:=by
 unfold SetTable.runEnd;split<;>omega
theorem a9p(mask:Nat)(p:Pr)(h:p.j+p.more<=mask):∀n,(B6 mask p n).j+(B6 mask p n).more<=mask
 |0=>h
 |n+1=>by
  have ih:=a9p mask p h n;rw[B6];unfold adv;split
  .dsimp only;omega
  .dsimp only;have h1:(SetTable.leap mask (B6 mask p n).i (B6 mask p n).perturb).1<=mask:=Nat.le_of_lt_succ (Nat.mod_lt _ (Nat.succ_pos _));have h2:=a3f h1;have h3:(SetTable.leap mask (B6 mask p n).i (B6 mask p n).perturb).1<=SetTable.runEnd mask (SetTable.leap mask (B6 mask p n).i (B6 mask p n).perturb).1:=by
    unfold SetTable.runEnd;split<;>omega
   omega
theorem a0M(mask:Nat)(h:Int)(n:Nat):pos mask h n<=mask:=by
 have h1:SetTable.bits h % (mask+1)<=mask:=Nat.le_of_lt_succ (Nat.mod_lt _ (Nat.succ_pos _));have h2:=a3f h1;have h3:SetTable.bits h % (mask+1)<=SetTable.runEnd mask (SetTable.bits h % (mask+1)):=by
  unfold SetTable.runEnd;split<;>omega
 have:=a9p mask (st0 mask h) (by show SetTable.bits h % (mask+1)+(SetTable.runEnd mask (SetTable.bits h % (mask+1))-SetTable.bits h % (mask+1))<=mask;omega) n;unfold pos;omega
noncomputable def fr(owner:Array (Option Nat))(j:Nat):Bool:=(owner.getD j (some 0)).isNone
theorem a7z(mask:Nat)(owner:Array (Option Nat)):∀(fuel i pt:Nat),(∃r,r<fuel/\fr owner (K6 mask i pt r).1=true) ->
  ∃n,fr owner (B6 mask (a0J mask i pt) n).j=true/\(∀m,m<n->fr owner (B6 mask (a0J mask i pt) m).j=false)/\SetTable.layClean.free mask owner fuel i pt=some (B6 mask (a0J mask i pt) n).j
 |0,_,_,⟨r,hr,_⟩=>absurd hr (by omega)
 |fuel+1,i,pt,⟨r,hr,hf⟩=>by
  unfold SetTable.layClean.free;have hle:i<=SetTable.runEnd mask i:=by
   unfold SetTable.runEnd;split<;>omega
  cases e:(List.range (SetTable.runEnd mask i+1-i)).find? (λk=>(owner.getD (i+k) (some 0)).isNone)with
  |some k =>
   dsimp only;rw[List.find?_range_eq_some]at e;obtain⟨e1,e2,e3⟩:=e;have hk:=List.mem_range.mp e2;refine⟨k,?_,λm hm=>?_,?_⟩
   .rw[a0U mask i pt k (by omega)];exact e1
   .rw[a0U mask i pt m (by omega)];have:=e3 m hm;simpa[fr]using this
   .rw[a0U mask i pt k (by omega)]
  |none =>
   dsimp only;rw[List.find?_range_eq_none]at e;have hno:∀m,m<SetTable.runEnd mask i-i+1->fr owner (B6 mask (a0J mask i pt) m).j=false:=λm hm=>by
    rw[a0U mask i pt m (by omega)];have:=e m (by omega);simpa[fr]using this
   cases r with
   |zero =>
    have:=hno 0 (by omega);rw[show(B6 mask (a0J mask i pt) 0).j=(K6 mask i pt 0).1 from rfl,hf]at this;cases this
   |succ r =>
    have hf':fr owner (K6 mask (SetTable.leap mask i pt).1 (SetTable.leap mask i pt).2 r).1=true:=by
     rw[Nat.add_comm,a2b]at hf;exact hf
    obtain⟨n,h1,h2,h3⟩:=a7z mask owner fuel (SetTable.leap mask i pt).1 (SetTable.leap mask i pt).2 ⟨r,by omega,hf'⟩;have key:∀m,B6 mask (a0J mask i pt) (SetTable.runEnd mask i-i+1+m)=B6 mask (a0J mask (SetTable.leap mask i pt).1 (SetTable.leap mask i pt).2) m:=λm=>by
     rw[a0h,a5a]
    refine⟨SetTable.runEnd mask i-i+1+n,by rw[key];exact h1,λm hm=>?_,by rw[key];exact h3⟩;by_cases hm2:m<SetTable.runEnd mask i-i+1
    .exact hno m hm2
    .obtain⟨m',rfl⟩:∃m',m=SetTable.runEnd mask i-i+1+m':=⟨m-(SetTable.runEnd mask i-i+1),by omega⟩;rw[key];exact h2 m' (by omega)
structure Lay(mask:Nat)(owner:Array (Option Nat))(hs:List Int):Prop where
 size:owner.size=mask+1
 val:∀j q:Nat,owner[j]?=some (some q)->∃h,hs[q]?=some h/\∃n,pos mask h n=j/\∀m,m<n->fr owner (pos mask h m)=false
 ex:∀q,q<hs.length->∃j:Nat,owner[j]?=some (some q)
 uniq:∀j j' q:Nat,owner[j]?=some (some q)->owner[j']?=some (some q)->j=j'
theorem V8{owner:Array (Option Nat)}{mask j:Nat}(hs:owner.size=mask+1)(hj:j<=mask):fr owner j=false↔∃q,owner[j]?=some (some q):=by
 have h:j<owner.size:=by omega
 unfold fr;rw[Array.getElem?_eq_getElem h,show owner.getD j (some 0)=owner[j] by simp[Array.getD,h]];cases owner[j]with
 |none=>simp
 |some q=>simp
theorem Lay.start(mask:Nat):Lay mask (Array.replicate (mask+1) none) []:=by
 refine⟨by simp,λj q h=>?_,λq h=>absurd h (by simp),λj j' q h=>?_⟩<;>
 .rw[Array.getElem?_replicate]at h;split at h
  .cases h
  .cases h
theorem Lay.free{mask k:Nat}(hk:mask+1=2 ^ k){owner:Array (Option Nat)}{hs:List Int}(L:Lay mask owner hs)(hl:hs.length<=mask)(h:Int):∃n,fr owner (pos mask h n)=true/\(∀m,m<n->fr owner (pos mask h m)=false)/\SetTable.layClean.free mask owner (SetTable.turns mask) (SetTable.bits h % (mask+1)) (SetTable.bits h)=some (pos mask h n):=by
 have:∃s,s<=mask/\fr owner s=true:=by
  refine Classical.byContradiction λhno=>?_;have hall:∀s:Nat,s<=mask->∃q,owner[s]?=some (some q):=λs hs=>by
   rw[<-V8 L.size hs];cases e:fr owner s with
   |false=>rfl
   |true=>exact absurd ⟨s,hs,e⟩ hno
  have:=nodup_le ((List.range (mask+1)).map λj=>(owner.getD j none).getD 0) (List.range hs.length) ?_ ?_
  .rw[List.length_map,List.length_range,List.length_range]at this;omega
  .rw[List.nodup_iff_pairwise_ne,List.pairwise_map];refine(List.nodup_iff_pairwise_ne.mp List.nodup_range).imp_of_mem λ{a b} ha hb hab e=>hab ?_;obtain⟨q,hq⟩:=hall a (by have:=List.mem_range.mp ha;omega);obtain⟨q',hq'⟩:=hall b (by have:=List.mem_range.mp hb;omega);have g1:owner.getD a none=some q:=by rw[Array.getD_eq_getD_getElem?,hq];rfl
   have g2:owner.getD b none=some q':=by rw[Array.getD_eq_getD_getElem?,hq'];rfl
   rw[g1,g2]at e;change q=q' at e;exact L.uniq a b q hq (e ▸ hq')
  .intro x hx;obtain⟨j,hj,rfl⟩:=List.mem_map.mp hx;obtain⟨q,hq⟩:=hall j (by have:=List.mem_range.mp hj;omega);obtain⟨h',h1,_⟩:=L.val j q hq;have g1:owner.getD j none=some q:=by rw[Array.getD_eq_getD_getElem?,hq];rfl
   rw[g1];exact List.mem_range.mpr (List.getElem?_eq_some_iff.mp h1).1
 obtain⟨s,hs1,hs2⟩:=this;obtain⟨r,hr,e⟩:=a4S hk h s hs1;exact a7z mask owner _ _ _ ⟨r,by unfold SetTable.turns;omega,by rw[e];exact hs2⟩
theorem Lay.put{mask:Nat}{owner:Array (Option Nat)}{hs:List Int}(L:Lay mask owner hs){h:Int}{n:Nat}(h1:fr owner (pos mask h n)=true)(h2:∀m,m<n->fr owner (pos mask h m)=false):Lay mask (owner.setIfInBounds (pos mask h n) (some hs.length)) (hs++[h]):=by
 have hp:pos mask h n<owner.size:=by have:=a0M mask h n;rw[L.size];omega
 have hno:∀q,owner[pos mask h n]?≠some (some q):=λq z=>by
  have:=(V8 L.size (a0M mask h n)).mpr ⟨q,z⟩;rw[h1]at this;cases this
 have get:∀j:Nat,(owner.setIfInBounds (pos mask h n) (some hs.length))[j]?=if j=pos mask h n then some (some hs.length)else owner[j]?:=λj=>by
  rw[Array.getElem?_setIfInBounds];by_cases e:pos mask h n=j
  .rw[if_pos e,if_pos e.symm,if_pos hp]
  .rw[if_neg e,if_neg λz=>e z.symm]
 have hsz:(owner.setIfInBounds (pos mask h n) (some hs.length)).size=mask+1:=by rw[Array.size_setIfInBounds,L.size]
 have keep:∀j,j<=mask->fr owner j=false->fr (owner.setIfInBounds (pos mask h n) (some hs.length)) j=false:=λj hj e=>by
  rw[V8 hsz hj,get];split
  .exact⟨_,rfl⟩
  .exact(V8 L.size hj).mp e
 refine⟨hsz,λj q e=>?_,λq hq=>?_,λj j' q e e'=>?_⟩
 .rw[get]at e;by_cases c:j=pos mask h n
  .rw[if_pos c]at e;cases e;exact⟨h,by rw[List.getElem?_append_right (Nat.le_refl _),Nat.sub_self];rfl,n,c.symm,λm hm=>keep _ (a0M mask h m) (h2 m hm)⟩
  .rw[if_neg c]at e;obtain⟨h',e1,n',e2,e3⟩:=L.val j q e;exact⟨h',by rw[List.getElem?_append_left (List.getElem?_eq_some_iff.mp e1).1];exact e1,n',e2,λm hm=>keep _ (a0M mask h' m) (e3 m hm)⟩
 .by_cases c:q=hs.length
  .exact⟨pos mask h n,by rw[get,if_pos rfl,c]⟩
  .rw[List.length_append,List.length_singleton]at hq;obtain⟨j,hj⟩:=L.ex q (by omega);refine⟨j,?_⟩;rw[get,if_neg]
   .exact hj
   .intro z;exact hno q (z ▸ hj)
 .rw[get]at e e';have lt:∀j:Nat,owner[j]?=some (some q)->q<hs.length:=λj z=>by
   obtain⟨_,e1,_⟩:=L.val j q z;exact(List.getElem?_eq_some_iff.mp e1).1
  by_cases c:j=pos mask h n
  .by_cases c':j'=pos mask h n
   .rw[c,c']
   .rw[if_pos c]at e;rw[if_neg c']at e';cases e;exact absurd (lt _ e') (by omega)
  .by_cases c':j'=pos mask h n
   .rw[if_neg c]at e;rw[if_pos c']at e';cases e';exact absurd (lt _ e) (by omega)
   .rw[if_neg c]at e;rw[if_neg c']at e';exact L.uniq j j' q e e'
theorem a5h{mask k:Nat}(hk:mask+1=2 ^ k):∀(rest done:List Int) (owner:Array (Option Nat)),Lay mask owner done->done.length+rest.length<=mask ->
  ∃owner',rest.foldl (λacc h=>do
   let (owner,k) <-acc
   let j <-SetTable.layClean.free mask owner (SetTable.turns mask) (SetTable.bits h % (mask+1)) (SetTable.bits h)
   pure (owner.setIfInBounds j (some k),k+1)) (some (owner,done.length))=some (owner',(done++rest).length)/\Lay mask owner' (done++rest)
 |[],done,owner,L,_=>⟨owner,by simp,by simpa using L⟩
 |h::rest,done,owner,L,hl=>by
  rw[List.length_cons]at hl;obtain⟨n,h1,h2,h3⟩:=L.free hk (by omega) h;obtain⟨owner',e1,e2⟩:=a5h hk rest (done++[h]) _ (L.put h1 h2) (by rw[List.length_append,List.length_singleton];omega);refine⟨owner',?_,by rw[List.append_assoc]at e2;exact e2⟩;rw[List.foldl_cons];rw[List.append_assoc]at e1;refine Eq.trans (congrArg (λz=>List.foldl _ z rest) ?_) e1;show(Option.bind (SetTable.layClean.free mask owner (SetTable.turns mask) (SetTable.bits h % (mask+1)) (SetTable.bits h)) λj=>some (owner.setIfInBounds j (some done.length),done.length+1))=_;rw[h3,List.length_append];rfl
theorem a5i{mask k:Nat}(hk:mask+1=2 ^ k)(hashes:Array Int)(hl:hashes.size<=mask):∃owner,SetTable.layClean mask hashes=some owner/\Lay mask owner hashes.toList:=by
 obtain⟨owner,e1,e2⟩:=a5h hk hashes.toList [] _ (Lay.start mask) (by simpa using hl);refine⟨owner,?_,e2⟩;unfold SetTable.layClean;rw[<-Array.foldl_toList];exact congrArg (Option.map (·.1)) e1
theorem a6n{α β:Type}(f:α->Option β):∀l:List α,(∀x∈l,(f x).isSome=true)->(l.filterMap f).map some=l.map f
 |[],_=>rfl
 |x::l,h=>by
  have ih:=a6n f l λy hy=>h y (List.mem_cons_of_mem _ hy);have hx:=h x List.mem_cons_self;cases e:f x with
  |none=>rw[e]at hx;cases hx
  |some y=>rw[List.filterMap_cons_some e,List.map_cons,List.map_cons,ih,e]
theorem a9X{α:Type}(es:Array α):(List.range es.size).filterMap (es[·]?)=es.toList:=by
 have h1:((List.range es.size).filterMap (es[·]?)).map some=(List.range es.size).map (es[·]?):=a6n _ _ λq hq=>by
  have:=List.mem_range.mp hq;simp[this]
 have h2:es.toList.map some=(List.range es.size).map (es[·]?):=by
  refine List.ext_getElem (by simp) λi h1 h2=>?_;simp at h1;simp[h1]
 exact(List.map_inj_right (λ_ _ h=>Option.some.inj h)).mp (h1.trans h2.symm)
def C9(mask:Nat)(owner:Array (Option Nat)):List (Nat×Nat):=(List.range (mask+1)).filterMap λj=>(owner.getD j none).map (j,·)
theorem L6{mask:Nat}{owner:Array (Option Nat)}(hs:owner.size=mask+1)(j q:Nat):(j,q)∈C9 mask owner↔owner[j]?=some (some q):=by
 unfold C9;rw[List.mem_filterMap];constructor
 .rintro⟨j',hj',e⟩;have hj':=List.mem_range.mp hj';rw[Option.map_eq_some_iff]at e;obtain⟨q',e1,e2⟩:=e;cases e2;rw[Array.getD_eq_getD_getElem?,Array.getElem?_eq_getElem (by omega)]at e1;rw[Array.getElem?_eq_getElem (by omega)];exact congrArg some e1
 .intro e;have hj:j<owner.size:=(Array.getElem?_eq_some_iff.mp e).1;exact⟨j,List.mem_range.mpr (by omega),by rw[Array.getD_eq_getD_getElem?,e];rfl⟩
theorem b0O(mask:Nat)(owner:Array (Option Nat)):(C9 mask owner).Pairwise λa b=>a.1<b.1:=by
 unfold C9;refine List.Pairwise.filterMap _ (λa b hab p hp q hq=>?_) List.pairwise_lt_range;rw[Option.map_eq_some_iff]at hp hq;obtain⟨_,_,rfl⟩:=hp;obtain⟨_,_,rfl⟩:=hq;exact hab
theorem b3k{α:Type}{mask k:Nat}(hk:mask+1=2 ^ k)(h3:3<=k)(es:Array (Int×α))(hl:es.size<=mask)(finger moves:Nat)(led plain:Bool) :
  ∃t' order,SetTable.laid mask finger moves led plain (es.map (·.1))=some (t',order)/\t'.mask=mask/\t'.led=led/\t'.plain=plain/\TabOk t' (order.filterMap (es[·]?))/\(order.filterMap (es[·]?)).toList.Perm es.toList:=by
 obtain⟨owner,e,L⟩:=a5i hk (es.map (·.1)) (by simpa using hl);refine⟨{mask,place:=((C9 mask owner).map (·.1)).toArray,dummies:=#[],finger,led,moves,plain},((C9 mask owner).map (·.2)).toArray,?_,rfl,rfl,rfl,?_⟩
 .unfold SetTable.laid;rw[e];rfl
 have hlt:∀p∈C9 mask owner,p.2<es.size:=λp hp=>by
  obtain⟨h,h1,_⟩:=L.val p.1 p.2 ((L6 L.size p.1 p.2).mp hp);have:=(List.getElem?_eq_some_iff.mp h1).1;simpa using this
 have ris:=b0O mask owner;have nd:((C9 mask owner).map (·.2)).Nodup:=by
  rw[List.nodup_iff_pairwise_ne,List.pairwise_map];refine ris.imp_of_mem λ{a b} ha hb hab z=>?_;have h1:=(L6 L.size a.1 a.2).mp ha;have h2:=(L6 L.size b.1 b.2).mp hb;rw[z]at h1;have:=L.uniq _ _ _ h1 h2;omega
 have hmem:∀q,q∈(C9 mask owner).map (·.2)↔q∈List.range es.size:=λq=>by
  rw[List.mem_range];constructor
  .intro hq;obtain⟨p,hp,rfl⟩:=List.mem_map.mp hq;exact hlt p hp
  .intro hq;obtain⟨j,hj⟩:=L.ex q (by simpa using hq);exact List.mem_map.mpr ⟨(j,q),(L6 L.size j q).mpr hj,rfl⟩
 have perm:((C9 mask owner).map (·.2)).Perm (List.range es.size):=(List.perm_ext_iff_of_nodup nd List.nodup_range).mpr hmem;have hfm:∀l:List Nat,(l.toArray.filterMap (es[·]?)).toList=l.filterMap (es[·]?):=λl=>by simp
 have hall:(((C9 mask owner).map (·.2)).filterMap (es[·]?)).map some=((C9 mask owner).map (·.2)).map (es[·]?):=a6n _ _ λq hq=>by
  have:=List.mem_range.mp ((hmem q).mp hq);simp[this]
 have hsz:(((C9 mask owner).map (·.2)).toArray.filterMap (es[·]?)).size=(C9 mask owner).length:=by
  have:=congrArg List.length hall;rw[List.length_map,List.length_map,List.length_map]at this;rw[<-Array.length_toList,hfm];exact this
 have hlen:(C9 mask owner).length=es.size:=by
  have:=perm.length_eq;rw[List.length_map,List.length_range]at this;exact this
 refine⟨⟨?_,rfl,?_,λj hj=>?_,⟨k,h3,hk⟩,by rw[hsz,hlen];exact hl,λi j e' ei ee=>?_⟩,?_⟩
 .rw[hsz];simp
 .rw[ris_list];show((C9 mask owner).map (·.1)).Pairwise (· < ·);rw[List.pairwise_map];exact ris
 .have hj:j∈(C9 mask owner).map (·.1):=by simpa using hj
  obtain⟨p,hp,rfl⟩:=List.mem_map.mp hj;have:=(Array.getElem?_eq_some_iff.mp ((L6 L.size p.1 p.2).mp hp)).1;rw[L.size]at this;show p.1<=mask;omega
 .have ei:((C9 mask owner).map (·.1))[i]?=some j:=by simpa using ei
  rw[<-Array.getElem?_toList,hfm]at ee;rw[List.getElem?_map,Option.map_eq_some_iff]at ei;obtain⟨p,hp,rfl⟩:=ei;have h1:=congrArg (λl=>l[i]?) hall;simp only[List.getElem?_map,ee,hp,Option.map_some]at h1;injection h1 with h1
  have hpm:=(L6 L.size p.1 p.2).mp (List.mem_of_getElem? hp);obtain⟨h,q1,n,q2,q3⟩:=L.val p.1 p.2 hpm;have hh:h=e'.1:=by
   rw[Array.getElem?_toList,Array.getElem?_map,<-h1]at q1;injection q1 with q1
   exact q1.symm
  rw[hh]at q2 q3;refine⟨n,q2,λm hm=>?_⟩;obtain⟨q',hq'⟩:=(V8 L.size (a0M mask _ m)).mp (q3 m hm);have:pos mask e'.1 m∈(C9 mask owner).map (·.1):=List.mem_map.mpr ⟨_,(L6 L.size _ q').mpr hq',rfl⟩;show pos mask e'.1 m∈((C9 mask owner).map (·.1)).toArray;simpa using this
 .rw[hfm];refine(perm.filterMap _).trans (List.Perm.of_eq ?_);exact a9X es
theorem a7b(n:Nat):∀(fuel a:Nat),3<=a->n<2 ^ (a+fuel)->∃b,3<=b/\SetTable.sizeAbove.go n fuel (2 ^ a)=2 ^ b/\n<2 ^ b/\(b=a∨2 ^ b<=2*n)
 |0,a,h3,h=>⟨a,h3,rfl,h,.inl rfl⟩
 |fuel+1,a,h3,h=>by
  unfold SetTable.sizeAbove.go;by_cases hc:2 ^ a<=n
  .rw[if_pos hc,<-Nat.pow_succ];obtain⟨b,b1,b2,b3,b4⟩:=a7b n fuel (a+1) (by omega) (by rw[Nat.add_assoc,Nat.add_comm 1];exact h);refine⟨b,b1,b2,b3,.inr ?_⟩;rcases b4 with z|z
   .rw[z,Nat.pow_succ];omega
   .exact z
  .rw[if_neg hc];exact⟨a,h3,rfl,by omega,.inl rfl⟩
theorem a0k(n:Nat)(h:n<2 ^ 60):∃b,3<=b/\SetTable.sizeAbove n=2 ^ b/\n<2 ^ b/\(b=3∨2 ^ b<=2*n) :=
 a7b n 64 3 (Nat.le_refl _) (Nat.lt_of_lt_of_le h (by decide))
theorem a8h{α:Type}(t:SetTable)(es:Array (Int×α))(wanted:Nat)(hw:wanted<2 ^ 60)(hl:es.size<wanted) :
  ∃t' order,t.relaid (es.map (·.1)) wanted=some (t',order)/\wanted<=t'.mask/\t'.mask<=2*wanted+7/\t'.led=t.led/\t'.plain=t.plain/\TabOk t' (order.filterMap (es[·]?))/\(order.filterMap (es[·]?)).toList.Perm es.toList:=by
 obtain⟨b,b1,b2,b3,b4⟩:=a0k wanted hw;have hp:0<2 ^ b:=Nat.pow_pos (by decide);unfold SetTable.relaid;rw[b2];obtain⟨t',order,h1,h2,h3,h4,h5,h6⟩:=b3k (mask:=2 ^ b-1) (k:=b) (by omega) b1 es (by omega) t.finger (t.movedTo (2 ^ b-1)) t.led t.plain;refine⟨t',order,h1,by rw[h2];omega,?_,h3,h4,h5,h6⟩;rw[h2];rcases b4 with z|z
 .rw[z];omega
 .omega
end Tab
end L2
namespace L2
namespace Tab
open PySem
section
variable {prog:Program}{w:World}{A:Around}{E:Value->Shared->Prop}{s:Shared}
abbrev TK(prog:Program)(w:World)(h:Heap)(r:List Int)(a:Addr):Prop:=IsTupleKey (intKind prog w) h r a
theorem TK.keep{h h':Heap}{r:List Int}{a:Addr}(x:TK prog w h r a)(k:∀b o,h.get? b=some o->h'.get? b=some o):TK prog w h' r a:=by
 obtain⟨o,its,n,h1,h2⟩:=x;exact⟨o,its,n,k _ _ h1,h2⟩
theorem items_int{r:List Int}{vs:List Value}(h:ItemsAre (intKind prog w) r vs):∀v∈vs,∃i t,v=.int i t:=by
 induction h with
 |nil=>intro v hv;cases hv
 |@cons k v ks vs h1 _ ih =>
  intro u hu;rcases List.mem_cons.mp hu with e|hu
  .obtain⟨t,ht⟩:=Value.isInt_shape h1;exact⟨k,t,e.trans ht⟩
  .exact ih u hu
theorem a4Z{r:List Int}{a:Addr}{Q:Bool->Shared->Prop}(hk:TK prog w s.heap r a)(h:Q false s):wpAny (model prog w) A (ofAClassStatement 8 (.ref a)) Q E s:=by
 have hT:=hk.typeIs;obtain⟨o,items,n,ho,_,hd,hi⟩:=hk;have hint:=items_int hi;unfold ofAClassStatement;refine wpAny_bind (wpAny_typeOf hT ?_);dsimp only;rw[if_pos (by decide)];refine wpAny_bind (wpAny_pure ?_);rw[if_neg (by decide)];refine wpAny_bind (wpAny_seqItems ho hd ?_);dsimp only;refine wpAny_bind ?_;rw[<-Array.forIn_toList];refine wpAny_forIn_list _ (λrest b s'=>s'=s/\b.1=none/\∀v∈rest,∃i t,v=Value.int i t) _ ?_ ?_ _ _ ⟨rfl,rfl,hint⟩
 .rintro x rest b s' ⟨rfl,hb,hr⟩;obtain⟨i,t,rfl⟩:=hr x List.mem_cons_self;refine wpAny_bind (m:=ofAClassStatement 7 (.int i t)) (wpAny_pure ?_);rw[if_neg (by decide)];exact wpAny_pure ⟨rfl,rfl,λv hv=>hr v (List.mem_cons_of_mem _ hv)⟩
 .rintro b s' ⟨rfl,hb,_⟩;rw[hb];exact wpAny_pure h
theorem b1O{r:List Int}{a:Addr}{Q:Bool->Shared->Prop}(hk:TK prog w s.heap r a)(h:Q true s):wpAny (model prog w) A (hashByValue 8 (.ref a)) Q E s:=by
 have hT:=hk.typeIs;obtain⟨o,items,n,ho,_,hd,hi⟩:=hk;have hint:=items_int hi;unfold hashByValue;refine wpAny_bind (wpAny_specialOf hT F.slot_tuple_hash.lookup ?_);dsimp only;refine wpAny_bind (wpAny_seqItems ho hd ?_);refine wpAny_bind ?_;show wpAny _ _ (forIn items _ _) _ _ _;rw[<-Array.forIn_toList];refine wpAny_forIn_list _ (λrest b s'=>s'=s/\b.1=none/\∀v∈rest,∃i t,v=Value.int i t) _ ?_ ?_ _ _ ⟨rfl,rfl,hint⟩
 .rintro x rest b s' ⟨rfl,hb,hr⟩;obtain⟨i,t,rfl⟩:=hr x List.mem_cons_self;refine wpAny_bind (m:=hashByValue 7 (.int i t)) (wpAny_pure ?_);rw[if_neg (by decide)];exact wpAny_pure ⟨rfl,rfl,λv hv=>hr v (List.mem_cons_of_mem _ hv)⟩
 .rintro b s' ⟨rfl,hb,_⟩;rw[hb];exact wpAny_pure h
theorem b0J{r:List Int}{b:Addr}{l:List Value}{Q:Bool->Shared->Prop}(hk:TK prog w s.heap r b)(hl:∀y∈l,∃r' b',y=.ref b'/\TK prog w s.heap r' b')(h:Q false s):wpAny (model prog w) A (searchCouldBeSeen (.ref b) l) Q E s:=by
 unfold searchCouldBeSeen;refine wpAny_bind ?_;refine wpAny_forIn_list _ (λrest c s'=>s'=s/\c.1=none/\∀y∈rest,∃r' b',y=.ref b'/\TK prog w s.heap r' b') _ ?_ ?_ _ _ ⟨rfl,rfl,hl⟩
 .rintro x rest c s' ⟨rfl,hc,hr⟩;obtain⟨r',b',rfl,hk'⟩:=hr x List.mem_cons_self;have go:∀y∈rest,∃r' b',y=.ref b'/\TK prog w s'.heap r' b':=λv hv=>hr v (List.mem_cons_of_mem _ hv);dsimp only;split
  .exact wpAny_pure ⟨rfl,rfl,go⟩
  .refine wpAny_bind ((tupleKind (intKind prog w)).quiet hk ?_);rw[if_neg (by decide)];refine wpAny_bind ((tupleKind (intKind prog w)).quiet hk' ?_);rw[if_neg (by decide)];refine wpAny_bind (a4Z hk ?_);rw[if_neg (by decide)];refine wpAny_bind (a4Z hk' ?_);rw[if_neg (by decide)];exact wpAny_pure ⟨rfl,rfl,go⟩
 .rintro c s' ⟨rfl,hc,_⟩;dsimp only;rw[hc];exact wpAny_pure h
noncomputable def hsh(prog:Program)(w:World)(r:List Int):Int:=tupleKeyHash (intKind prog w) r
noncomputable def ent(prog:Program)(w:World)(x:List Int×Addr):Int×Value:=(hsh prog w x.1,Value.ref x.2)
theorem E7{α:Type}{t:SetTable}{es:Array (Int×α)}(ok:TabOk t es):t.fits es.size=true:=by
 unfold SetTable.fits SetTable.fill;have:=ok.room;simp[ok.size,ok.dum,this]
theorem b5k{α:Type}{t:SetTable}{es:Array (Int×α)}(ok:TabOk t es):t.gaveWay=false:=by
 obtain⟨k,h3,hk⟩:=ok.pow;obtain⟨c,rfl⟩:∃c,k=c+1:=⟨k-1,by omega⟩;rw[Nat.pow_succ]at hk;unfold SetTable.gaveWay;have:t.mask % 2=1:=by omega
 rw[this];rfl
theorem b0P{c:Bool}{m:Sem Bool}{X Y:Sem SetFound}{Q:SetFound->Shared->Prop}(hm:∀Q':Bool->Shared->Prop,Q' false s->wpAny (model prog w) A m Q' E s)(h:wpAny (model prog w) A Y Q E s):wpAny (model prog w) A (if c=true then m>>=λz=>if z=true then X else Y else Y) Q E s:=by
 split
 .refine wpAny_bind (hm _ ?_);rw[if_neg (by decide)];exact h
 .exact h
theorem a3d{a b:Addr}{r:List Int}{o:Obj}{es:Array (Int×Value)}{ep:Nat}{t:SetTable}{xs:List (List Int×Addr)}{Q:SetFound->Shared->Prop}(ho:s.heap.get? a=some o)(hd:o.data=.set es ep t)(ok:TabOk t es)
  (hes:∀e∈es.toList,∃x∈xs,e=ent prog w x) (hse:∀x∈xs,ent prog w x∈es.toList) (hall:∀x∈xs,TK prog w s.heap x.1 x.2) (hk:TK prog w s.heap r b) (hu:A.units<cLine) {N:Nat}(hN:N<10*SetTable.turns t.mask) (hN1:pos t.mask (hsh prog w r) N∉t.place) (hN2:∀m,m<N->pos t.mask (hsh prog w r) m∈t.place)
  (hin:r∈xs.map (·.1)->Q (.there none) s) (hout:r∉xs.map (·.1)->Q (.free (pos t.mask (hsh prog w r) N) false) s) :
  ∀(fuel n0:Nat) (st:Option SetTable.Probe),N-n0<fuel->n0<=N->st.getD (t.probeStart (hsh prog w r))=B6 t.mask (st0 t.mask (hsh prog w r)) n0->(∀m,m<n0->∀(i:Nat) (x:List Int×Addr),x∈xs->t.place[i]?=some (pos t.mask (hsh prog w r) m)->es[i]?=some (ent prog w x)->x.1≠r) ->
   wpAny (model prog w) A (setSearchFrom a (.ref b) (hsh prog w r) true fuel st) Q E s
 |0,n0,st,h,_,_,_=>absurd h (by omega)
 |fuel+1,n0,st,hf,hn0,hst,hno=>by
  unfold setSearchFrom;refine wpAny_bind (wpAny_setState_of ho hd (E7 ok) ?_);dsimp only;rw[b5k ok,if_neg (by decide),hst];have hway:∀m,(B6 t.mask (B6 t.mask (st0 t.mask (hsh prog w r)) n0) m).j=pos t.mask (hsh prog w r) (n0+m):=λm=>by rw[<-a0h];rfl
  have hg:∀(i:Nat) (e:Int×Value),es[i]?=some e->(es[i]?.map (·.1)).getD 0=e.1:=λi e z=>by rw[z];rfl
  have atN:∀n,n0+n<N↔pos t.mask (hsh prog w r) (n0+n)∈t.place/\∀m,m<n->pos t.mask (hsh prog w r) (n0+m)∈t.place:=λn=>by
   constructor
   .intro h;exact⟨hN2 _ h,λm hm=>hN2 _ (by omega)⟩
   .rintro⟨h1,h2⟩;rcases Nat.lt_trichotomy (n0+n) N with z|z|z
    .exact z
    .rw[z]at h1;exact absurd h1 hN1
    .have:=h2 (N-n0) (by omega);rw[show n0+(N-n0)=N by omega]at this;exact absurd this hN1
  rcases a4V ok.ris ok.dum (λi=>(es[i]?.map (·.1)).getD 0) (hsh prog w r) (10*SetTable.turns t.mask) (B6 t.mask (st0 t.mask (hsh prog w r)) n0) (by rw[a0F];rfl) ⟨N-n0,by omega,by rw[hway,show n0+(N-n0)=N by omega];exact hN1⟩with⟨n,h1,h2,h3⟩|⟨n,h1,h2,h3,h4⟩
  .have h3:t.probe (λi=>(es[i]?.map (·.1)).getD 0) (hsh prog w r) (B6 t.mask (st0 t.mask (hsh prog w r)) n0)=_:=h3;erw [h3];dsimp only;rw[hway]at h1⊢;have e:n0+n=N:=by
    rcases Nat.lt_trichotomy (n0+n) N with z|z|z
    .exact absurd (hN2 _ z) h1
    .exact z
    .have:=(h2 (N-n0) (by omega)).1;rw[hway,show n0+(N-n0)=N by omega]at this;exact absurd this hN1
   rw[e];refine wpAny_pure (hout λhm=>?_);obtain⟨x,hx,rfl⟩:=List.mem_map.mp hm;obtain⟨i,hi⟩:=List.mem_iff_getElem?.mp (hse x hx);rw[Array.getElem?_toList]at hi;have hil:i<t.place.size:=by rw[ok.size];exact(Array.getElem?_eq_some_iff.mp hi).1
   obtain⟨n',q1,q2⟩:=ok.reach i _ _ (a0x hil) hi;change pos t.mask (hsh prog w x.1) n'=_ at q1;change ∀m,m<n'->pos t.mask (hsh prog w x.1) m∈t.place at q2;have hpl:t.place[i]?=some (pos t.mask (hsh prog w x.1) n'):=by rw[q1];exact a0x hil
   have hn':n'<N:=by
    rcases Nat.lt_trichotomy n' N with z|z|z
    .exact z
    .rw[z]at hpl;exact absurd (Array.mem_of_getElem? hpl) hN1
    .exact absurd (q2 N z) hN1
   by_cases c:n'<n0
   .exact hno n' c i x hx hpl hi rfl
   .have h5:=(h2 (n'-n0) (by omega)).2;rw[hway,show n0+(n'-n0)=n' by omega,a0B ok.ris hpl,hg i _ hi]at h5;exact h5 rfl
  .have h4:t.probe (λi=>(es[i]?.map (·.1)).getD 0) (hsh prog w r) (B6 t.mask (st0 t.mask (hsh prog w r)) n0)=_:=h4;erw [h4];dsimp only;rw[hway]at h1 h2⊢;have hlt:n0+n<N:=(atN n).mpr ⟨h1,λm hm=>by have:=(h3 m hm).1;rw[hway]at this;exact this⟩;have hpl:=(a0Z ok.ris _).mpr h1;generalize hib:SetTable.below t.place (pos t.mask (hsh prog w r) (n0+n))=ib at h2 hpl⊢;have hil:ib<es.size:=by rw[<-ok.size];exact(Array.getElem?_eq_some_iff.mp hpl).1
   obtain⟨x,hx,ex⟩:=hes es[ib] (by simp);have hei:es[ib]?=some (ent prog w x):=by rw[Array.getElem?_eq_getElem hil,ex]
   rw[hei];dsimp only;refine b0P (λQ' hq=>b0J hk (λy hy=>?_) hq) ?_
   .obtain⟨e,he,rfl⟩:=List.mem_map.mp hy;have he:e∈es:=by
     have:=Array.mem_toList_iff.mp he;exact(Array.mem_filter.mp this).1
    obtain⟨x',hx',ex'⟩:=hes e (by simpa using he);exact⟨x'.1,x'.2,by rw[ex'];rfl,hall x' hx'⟩
   refine wpAny_bind (wpAny_holding ((tupleKind (intKind prog w)).eqBool hu (hall x hx) hk ?_));refine wpAny_bind (wpAny_setState_of ho hd (E7 ok) ?_);dsimp only;by_cases hxr:x.1=r
   .rw[if_pos (by rw[decide_eq_true hxr];rfl)];exact wpAny_pure (hin (List.mem_map.mpr ⟨x,hx,hxr⟩))
   .rw[if_neg (by rw[decide_eq_false hxr];decide)];have sm:t.sameMemory t.moves t.mask=some true:=by unfold SetTable.sameMemory;simp
    rw[sm];dsimp only;rw[if_pos rfl,a7a ok.ris ok.dum,if_pos h1];dsimp only;rw[hib,hei];dsimp only;refine wpAny_bind (wpAny_isSame_ref_self ?_);rw[if_pos rfl];refine wpAny_bind (wpAny_pure ?_);dsimp only;rw[if_neg (by rw[decide_eq_false hxr];decide)];refine a3d ho hd ok hes hse hall hk hu hN hN1 hN2 hin hout fuel (n0+n+1) _ (by omega) (by omega) (by rw[<-a0h];rfl) λm hm i x' hx' hp hi=>?_;by_cases c:m<n0
    .exact hno m c i x' hx' hp hi
    .by_cases c2:m=n0+n
     .subst c2;have:ib=i:=by rw[<-hib];exact a0B ok.ris hp
      subst this;rw[hei]at hi;injection hi with hi
      have h5:x.2=x'.2:=by
       have:=congrArg Prod.snd hi;injection this
      intro z;have h6:=hall x hx;rw[h5]at h6;exact hxr ((h6.inj (hall x' hx')).trans z)
     .have h5:=(h3 (m-n0) (by omega)).2;rw[hway,show n0+(m-n0)=m by omega,a0B ok.ris hp,hg i _ hi]at h5;intro z;exact h5 (by rw[<-z];rfl)
def W6(prog:Program)(w:World)(ld:Bool)(h:Heap)(a:Addr)(xs:List (List Int×Addr)):Prop :=
 ∃o es ep t,h.get? a=some o/\o.ExactSet/\o.data=.set es ep t/\es.toList.Perm (xs.map (ent prog w))/\TabOk t es/\t.plain=true/\es.size*5<t.mask*3/\t.mask<=8*xs.length+7/\t.led=ld
theorem b5G{ld:Bool}{a b:Addr}{r:List Int}{xs:List (List Int×Addr)}{Q:Bool->Shared->Prop}(hS:W6 prog w ld s.heap a xs)(hall:∀x∈xs,TK prog w s.heap x.1 x.2)(hk:TK prog w s.heap r b)(hu:A.units<cLine)(hl:xs.length<1000)
  (h:∀h' xs' c,Heap.SameBut a s.heap h'->W6 prog w ld h' a xs'->((r∈xs.map (·.1)/\xs'=xs)∨(r∉xs.map (·.1)/\xs'=(r,b)::xs))->Q c {s with heap:=h',toks:=s.toks+(r.length+1)}):wpAny (model prog w) A (setAdd a (.ref b)) Q E s:=by
 obtain⟨o,es,ep,t,ho,hex,hd,hpm,ok,hpl,hrm,hmk,hld⟩:=hS;have hsz:es.size=xs.length:=by rw[<-Array.length_toList,hpm.length_eq,List.length_map]
 unfold setAdd;refine wpAny_holding (wpAny_bind (wpAny_pyHash_tuple hu hk ?_));unfold setAddHashed;refine wpAny_holding ?_;unfold setAddHashedIn;refine wpAny_bind (wpAny_setState_of (s:={s with toks:=s.toks+(r.length+1)}) ho hd (E7 ok) ?_);dsimp only;rw[show byScan (.ref b) es=false from rfl,if_neg (by decide)];unfold setSearch;obtain⟨N,hN,hN1,hN2⟩:=ok.first (hsh prog w r);have hN':N<100000:=by unfold SetTable.turns at hN;omega
 refine wpAny_bind (a3d (s:={s with toks:=s.toks+(r.length+1)}) (xs:=xs) ho hd ok (λe he=>?_) (λx hx=>hpm.mem_iff.mpr (List.mem_map.mpr ⟨x,hx,rfl⟩)) hall hk hu hN hN1 hN2 (λhin=>?_) (λhout=>?_) 100000 0 none (by omega) (Nat.zero_le _) rfl (λm hm=>absurd hm (by omega)))
 .obtain⟨x,hx,rfl⟩:=List.mem_map.mp (hpm.mem_iff.mp he);exact⟨x,hx,rfl⟩
 .refine wpAny_pure ?_;exact h s.heap xs false (Heap.SameBut.refl a s.heap) ⟨o,es,ep,t,ho,hex,hd,hpm,ok,hpl,hrm,hmk,hld⟩ (.inl ⟨hin,rfl⟩)
 .dsimp only;refine wpAny_bind (wpAny_setState_of (s:={s with toks:=s.toks+(r.length+1)}) ho hd (E7 ok) ?_);dsimp only;rw[if_pos (show(t.put (pos t.mask (hsh prog w r) N)).1.plain=true from hpl)];refine wpAny_bind (b1O (s:={s with toks:=s.toks+(r.length+1)}) hk ?_);simp only[↓reduceIte,Bool.not_false,Bool.true_and];have ok1:=ok.add (v:=Value.ref b) hN1 hN2 (a0M _ _ _) (by omega);have hm1:(t.put (pos t.mask (hsh prog w r) N)).1.mask=t.mask:=rfl;have hpl1:(t.put (pos t.mask (hsh prog w r) N)).1.plain=true:=hpl;have hld1:(t.put (pos t.mask (hsh prog w r) N)).1.led=ld:=hld;have hb1:(t.put (pos t.mask (hsh prog w r) N)).2<=es.size:=by
   have:=(F0 ok.ris (pos t.mask (hsh prog w r) N)).1;rw[ok.size]at this;exact this
  have hl1:=V7 es (t.put (pos t.mask (hsh prog w r) N)).2 (hsh prog w r,Value.ref b) hb1;change wpAny _ _ (storeSet a (SetTable.insertAt es (t.put (pos t.mask (hsh prog w r) N)).2 (hsh prog w r,Value.ref b)) _>>=_) _ _ _;generalize (t.put (pos t.mask (hsh prog w r) N)).1=t1 at ok1 hm1 hpl1 hld1⊢;generalize SetTable.insertAt es (t.put (pos t.mask (hsh prog w r) N)).2 (hsh prog w r,Value.ref b)=es1 at ok1 hl1⊢;have hpm1:es1.toList.Perm (((r,b)::xs).map (ent prog w)):=by
   rw[hl1];refine List.perm_middle.trans ?_;rw[List.take_append_drop,List.map_cons];exact List.Perm.cons _ hpm
  have hsz1:es1.size=xs.length+1:=by rw[<-Array.length_toList,hpm1.length_eq,List.length_map,List.length_cons]
  have hzl:es1.size<=sizeLine:=by rw[sizeLine_eq];omega
  refine wpAny_bind (wpAny_storeSet_of (s:={s with toks:=s.toks+(r.length+1)}) ho hd ?_ hzl);have hg1:(s.heap.update a (Obj.putSet es1 t1)).get? a=some {o with data:=.set es1 (ep+1) t1}:=by
   have:=Heap.get?_update_self (Obj.putSet es1 t1) ho (by rw[putSet_of es1 t1 hd];rfl);rw[putSet_of es1 t1 hd]at this;exact this
  have sb1:=Heap.SameBut.update s.heap a (Obj.putSet es1 t1);have hf1:t1.fill=es1.size:=by unfold SetTable.fill;rw[ok1.size,ok1.dum];rfl
  by_cases hfull:t1.tooFull=true
  .rw[if_pos hfull];unfold SetTable.tooFull at hfull;rw[hf1,decide_eq_true_eq]at hfull;refine wpAny_bind ?_;unfold setRelay;refine wpAny_bind (wpAny_setState_of (s:={s with heap:=s.heap.update a (Obj.putSet es1 t1),toks:=s.toks+(r.length+1)}) hg1 rfl (E7 ok1) ?_);dsimp only;have hgr:SetTable.grown (es.size+1)=4*(xs.length+1):=by
    unfold SetTable.grown;rw[if_neg (by omega),hsz];omega
   rw[hgr];obtain⟨sb,sb1',sb2,sb3,sb4⟩:=a0k (4*(xs.length+1)) (by omega);have hsl:SetTable.sizeAbove (4*(xs.length+1))<=16000:=by
    rw[sb2];rcases sb4 with z|z
    .rw[z];decide
    .omega
   rw[if_neg (by rw[sizeLine_eq];omega)];obtain⟨t2,order,r1,r2,r3,r4,r5,ok2,hp2⟩:=a8h t1 es1 (4*(xs.length+1)) (by omega) (by omega);rw[r1];have hsz2:(order.filterMap (es1[·]?)).size=es1.size:=by rw[<-Array.length_toList,hp2.length_eq,Array.length_toList]
   refine wpAny_bind ?_;show wpAny _ _ (if ((order.filterMap (es1[·]?)).size != es1.size)=true then _ else pure (order.filterMap (es1[·]?),t2)) _ _ _;rw[if_neg (by rw[hsz2];simp)];refine wpAny_pure ?_;dsimp only;generalize order.filterMap (es1[·]?)=es2 at ok2 hp2 hsz2⊢;refine wpAny_storeSet_of (s:={s with heap:=s.heap.update a (Obj.putSet es1 t1),toks:=s.toks+(r.length+1)}) hg1 rfl ?_ (by rw[hsz2];exact hzl);have hg2:((s.heap.update a (Obj.putSet es1 t1)).update a (Obj.putSet es2 t2)).get? a=some {o with data:=.set es2 (ep+1+1) t2}:=by
    have:=Heap.get?_update_self (Obj.putSet es2 t2) hg1 (by rw[putSet_of es2 t2 rfl];rfl);rw[putSet_of es2 t2 rfl]at this;exact this
   refine wpAny_pure (h _ ((r,b)::xs) true (sb1.trans (Heap.SameBut.update _ a _)) ⟨_,es2,_,t2,hg2,hex,rfl,hp2.trans hpm1,ok2,by rw[r5];exact hpl1,?_,?_,by rw[r4];exact hld1⟩ (.inr ⟨hout,rfl⟩))
   .rw[hsz2,hsz1];omega
   .rw[List.length_cons];omega
  .rw[if_neg hfull];unfold SetTable.tooFull at hfull;rw[hf1,decide_eq_true_eq]at hfull;refine wpAny_pure (h _ ((r,b)::xs) true sb1 ⟨_,es1,_,t1,hg1,hex,rfl,hpm1,ok1,hpl1,by omega,?_,hld1⟩ (.inr ⟨hout,rfl⟩));rw[List.length_cons,hm1];omega
end
end Tab
end L2
namespace L2
namespace Tab
open PySem
structure Came(rows:Nat->List Int×Addr)(i:Nat)(xs:List (List Int×Addr)):Prop where
 len:xs.length<=i
 nd:(xs.map (·.1)).Nodup
 from_:∀x∈xs,∃j,j<i/\x=rows j
 all:∀j,j<i->(rows j).1∈xs.map (·.1)
section
variable {prog:Program}{w:World}{A:Around}{R:Result->Shared->Prop}{I:Addr}{fp wr:List Addr}{G:Array GenState->Array GenState->Prop}{n:Nat}{P:Nat->Value->Prop}{St:Nat->Shared->Prop}
theorem a4G(W:WalksS prog w A.in1 I fp wr G n P St)(S:Addr)(hSf:S∉fp){ld:Bool}{h0:Heap}(hwr:∀b o,h0.get? b=some o->b∉wr/\b≠S)(rows:Nat->List Int×Addr)
  (hval:∀i v,i<n->P i v->v=.ref (rows i).2) (hrow:∀i,i<n->TK prog w h0 (rows i).1 (rows i).2) (hn:n<=1000) (hu:A.units+10<cLine) :
  ∀(k i:Nat) (s:Shared) (xs:List (List Int×Addr)),n-i=k->i<=n->St i s->(∀b o,h0.get? b=some o->s.heap.get? b=some o)->W6 prog w ld s.heap S xs->Came rows i xs ->
   (∀s' xs',Moved (S::wr) G s s'->W6 prog w ld s'.heap S xs'->Came rows n xs'->R (.ok (.ret .none)) s') ->
   codeAny (model prog w) A (.builtin "set.update.loop" ⟨[.ref S,.ref I],[]⟩) R s:=by
 have hSw:S∉wr:=λh=>hSf (W.sub _ h);have hsub:∀b∈wr,b∈S::wr:=λb hb=>List.mem_cons_of_mem _ hb;intro k;induction k with
 |zero =>
  intro i s xs hk hi hst h0s hS hC hR;have hin:i=n:=by omega
  subst hin;refine codeAny_builtin PyProof.Rows.F.entry_set_update_loop ?_;rw[Around.under_plainId PyProof.Rows.F.plain_set_update_loop _];show wpAny _ A.in1 (pyNext (.ref I)>>=_) _ _ s;refine wpAny_bind (W.done s _ _ hst λs' hm=>?_);show wpAny _ A.in1 (ret Value.none) _ _ s';refine wpAny_pure (hR s' xs (hm.mono hsub) ?_ hC);obtain⟨o,es,ep,t,ho,rest⟩:=hS;exact⟨o,es,ep,t,hm.heap S _ hSw ho,rest⟩
 |succ k ih =>
  intro i s xs hk hi hst h0s hS hC hR;have hlt:i<n:=by omega
  refine codeAny_builtin PyProof.Rows.F.entry_set_update_loop ?_;rw[Around.under_plainId PyProof.Rows.F.plain_set_update_loop _];show wpAny _ A.in1 (pyNext (.ref I)>>=_) _ _ s;refine wpAny_bind (W.item i s _ _ hlt hst λv s' hP hst' hm=>?_);obtain rfl:=hval i v hlt hP;have hS':W6 prog w ld s'.heap S xs:=by
   obtain⟨o,es,ep,tb,ho,rest⟩:=hS;exact⟨o,es,ep,tb,hm.heap S _ hSw ho,rest⟩
  have h0':∀b o,h0.get? b=some o->s'.heap.get? b=some o:=λb o e=>hm.heap b o (hwr b o e).1 (h0s b o e);show wpAny _ A.in1 (holding [Value.ref (rows i).2] (setAdd S (.ref (rows i).2))>>=_) _ _ s';refine wpAny_bind (wpAny_holding (b5G hS' (λx hx=>?_) ((hrow i hlt).keep h0') (show A.units+1<cLine by omega) (by have:=hC.len;omega) λh' xs' c hsb hS2 hor=>?_))
  .obtain⟨j,hj,rfl⟩:=hC.from_ x hx;exact(hrow j (by omega)).keep h0'
  have hC':Came rows (i+1) xs':=by
   rcases hor with⟨h1,rfl⟩|⟨h1,rfl⟩
   .refine⟨by have:=hC.len;omega,hC.nd,λx hx=>?_,λj hj=>?_⟩
    .obtain⟨j,hj,e⟩:=hC.from_ x hx;exact⟨j,by omega,e⟩
    .by_cases c:j=i
     .rw[c];exact h1
     .exact hC.all j (by omega)
   .refine⟨by have:=hC.len;rw[List.length_cons];omega,by rw[List.map_cons,List.nodup_cons];exact⟨h1,hC.nd⟩,λx hx=>?_,λj hj=>?_⟩
    .rcases List.mem_cons.mp hx with z|z
     .exact⟨i,by omega,z⟩
     .obtain⟨j,hj,e⟩:=hC.from_ x z;exact⟨j,by omega,e⟩
    .rw[List.map_cons];by_cases c:j=i
     .rw[c];exact List.mem_cons_self
     .exact List.mem_cons_of_mem _ (hC.all j (by omega))
  refine wpAny_pure ⟨plainId_quiet PyProof.Rows.F.plain_set_update_loop _,ih (i+1) _ xs' (by omega) hlt (W.frame _ s' _ _ hst' (Nat.le_add_right _ _) λb hb o e=>?_) (λb o e=>?_) hS2 hC' λs'' xs'' hm'' hS'' hC''=>?_⟩
  .rw[hsb.2 b (λh:b=S=>hSf (by rw[<-h];exact hb))];exact e
  .show h'.get? b=some o;rw[hsb.2 b (hwr b o e).2];exact h0' b o e
  .refine hR s'' xs'' (Moved.trans W.gtrans ((hm.mono hsub).then_heap (Nat.le_add_right _ _) λb o hb e=>?_) hm'') hS'' hC'';rw[hsb.2 b (λh:b=S=>hb (by rw[h];exact List.mem_cons_self))];exact e
end
section
variable {prog:Program}{w:World}{A:Around}{E:Value->Shared->Prop}{s:Shared}
theorem Z6(a:Value){Q₁:Value->Shared->Prop}
  (h:Q₁ (.ref s.heap.objs.size) {s with heap:=s.heap.push {cls:=.type "set",dict:=none,data:=.set #[] 0 (.fresh 0 0 (!w.params.followText "set-order"))}}) :
  codeAny (model prog w) A (.call (.builtin "set.__new__") ⟨[.type "set",a],[]⟩) (wants Q₁ E) s:=by
 refine codeAny_of_tree ?_;show wpAny _ A.in1 (do checkBuiltinCall "set.__new__" ⟨[.type "set",a],[]⟩;again (.builtin "set.__new__" ⟨[.type "set",a],[]⟩)) _ _ s;refine wpAny_bind (wpAny_of_eq (PySem.F.newCall_set_1 a) (wpAny_pure ⟨plainId_quiet PySem.F.plain_set_new _,codeAny_builtin PySem.F.entry_set_new ?_⟩));rw[Around.under_plainId PySem.F.plain_set_new _];unfold Builtin.«set.__new__» Builtin.Frozenset.newClass;have hsub:=sub_set_self;obtain⟨hp,g,d,tk,os⟩:=s;dsimp only
 wp_walk
 refine wpAny_askSetting (wpAny_pure ?_);dsimp only;simp only[newObj];refine wpAny_bind (wpAny_alloc (wpAny_pure ?_));exact wpAny_pure h
theorem a3c{led:Bool}{h:Heap}{a:Addr}(e:h.get? a=some {cls:=.type "set",dict:=none,data:=.set #[] 0 (.fresh 0 0 led)}):W6 prog w led h a [] :=
 ⟨_,#[],0,_,e,⟨rfl,rfl,rfl⟩,rfl,List.Perm.nil,⟨rfl,rfl,λa b h1 h2=>absurd h2 (by simp[SetTable.fresh]),λj hj=>by simp[SetTable.fresh]at hj,⟨3,Nat.le_refl _,rfl⟩,Nat.zero_le _,λi j e h1 h2=>by simp at h2⟩,rfl,by show 0*5<7*3;decide,by show 7<=8*0+7;decide,rfl⟩
theorem a3K:isSubtype (.type "list") (.type "set")=pure false:=by rw[isSubtype_type];kernel_rfl
theorem Z8:isSubtype (.type "list") (.type "frozenset")=pure false:=by rw[isSubtype_type];kernel_rfl
theorem a2T{l:Addr}{items:Array Value}{rows:Nat->List Int×Addr}{Q:Value->Shared->Prop}
  (hh:A.handled=none) (hl:s.heap.IsList l items) (hval:∀i v,i<items.size->items[i]?=some v->v=.ref (rows i).2) (hrow:∀i,i<items.size->TK prog w s.heap (rows i).1 (rows i).2) (hn:items.size<=1000) (hu:A.units+20<cLine)
  (h:∀(h':Heap) (tk:Nat) (xs:List (List Int×Addr)),W6 prog w (!w.params.followText "set-order") h' s.heap.objs.size xs->Came rows items.size xs ->
   (∀b o,b<s.heap.objs.size->s.heap.get? b=some o->h'.get? b=some o)->Q (.ref s.heap.objs.size) {s with heap:=h',toks:=tk}) :
  wpAny (model prog w) A (call (.type "set") [.ref l]) Q E s:=by
 obtain⟨c,tl,hmro⟩:=PySem.F.called_set.mro;have hmade:=PySem.F.called_set.made;have hsub:=PySem.F.called_set.sub;refine wpAny_call (codeAny_of_tree ?_);show wpAny _ _ (callAny (.type "set") _) _ _ _;refine wpAny_pure ⟨Code.quiet_builtin _ (by decide +kernel),codeAny_builtin PySem.F.entry_type_call ?_⟩;rw[Around.under_plain (weight_type_call_type "set" [.ref l] []) rfl];have h1:=PySem.F.called_set.notType;have h2:=PySem.F.called_set.canCreate;have hct:=PySem.F.typeCall_set_1 (.ref l)
 repeat (any_goals (first|assumption|wp_step))
 refine codeAny_mono (Z6 (.ref l) (E:=E) (Q₁:=λobj s₁=>obj=.ref s.heap.objs.size/\s₁={s with heap:=s.heap.push {cls:=.type "set",dict:=none,data:=.set #[] 0 (.fresh 0 0 (!w.params.followText "set-order"))}}) ⟨rfl,rfl⟩) λr s₁ hr=>?_;cases r with
 |error e=>exact hr
 |ok fl =>
  cases fl with
  |ret obj =>
   obtain⟨rfl,rfl⟩:=hr;generalize hld:(!w.params.followText "set-order")=led at h;have hS:(s.heap.push {cls:=.type "set",dict:=none,data:=.set #[] 0 (.fresh 0 0 led)}).get? s.heap.objs.size=some {cls:=.type "set",dict:=none,data:=.set #[] 0 (.fresh 0 0 led)}:=Heap.get?_push_size _ rfl;have hT:Shared.TypeIs {s with heap:=s.heap.push {cls:=.type "set",dict:=none,data:=.set #[] 0 (.fresh 0 0 led)}} (.ref s.heap.objs.size) "set":=⟨_,hS,rfl⟩;have hli:=PySem.F.called_set.init.lookup;have hbi:=PySem.F.called_set.init.bind (.ref s.heap.objs.size)
   repeat (any_goals (first|assumption|wp_step))
   refine codeAny_mono (codeAny_call_builtin (R:=wants (λr s₂=>r=.none/\∃h' tk xs,s₂={s with heap:=h',toks:=tk}/\W6 prog w led h' s.heap.objs.size xs/\Came rows items.size xs /\
     (∀b o,b<s.heap.objs.size->s.heap.get? b=some o->h'.get? b=some o)) E) PySem.F.called_set.init.plain PySem.F.entry_set_init (check_set_init_1 hT ?_)) λr₂ s₂ hr₂=>?_
   .obtain⟨ol,hol,hcl,nl,hdl⟩:=hl;obtain⟨ocls,odict,odata,oslots⟩:=ol;simp only at hcl hdl;subst hcl;subst hdl;have hol':(s.heap.push {cls:=.type "set",dict:=none,data:=.set #[] 0 (.fresh 0 0 led)}).get? l=some {cls:=.type "list",dict:=odict,data:=.seq items nl,slots:=oslots}:=Heap.get?_push_of_some _ hol;have hsls:=a3K;have hslf:=Z8;have hne:(Value.type "list"==Value.type "dict")=false:=by decide
    have hl1:(s.heap.push {cls:=.type "set",dict:=none,data:=.set #[] 0 (.fresh 0 0 led)}).IsList l items:=⟨_,hol',rfl,nl,rfl⟩;unfold Builtin.«set.__init__» noKeywords Builtin.Frozenset.updateFrom;generalize hPI:pyIter=PI
    wp_walk
    subst hPI;refine wpAny_pyIter_list hl1 ?_;refine wpAny_bind (wpAny_runValue ?_);have hlS:l<s.heap.objs.size:=Heap.lt_size hol;have hh3:A.in1.in1.in1.handled=none:=by simp[hh]
    have hneI:l≠(s.heap.push {cls:=.type "set",dict:=none,data:=.set #[] 0 (.fresh 0 0 led)}).objs.size:=by
     rw[Heap.size_push];exact Nat.ne_of_lt (Nat.lt_succ_of_lt hlS)
    have hSf:s.heap.objs.size∉[(s.heap.push {cls:=.type "set",dict:=none,data:=.set #[] 0 (.fresh 0 0 led)}).objs.size,l]:=by
     rw[Heap.size_push];simp only[List.mem_cons,List.mem_singleton,List.not_mem_nil,or_false,not_or];exact⟨Nat.ne_of_lt (Nat.lt_succ_self _),Nat.ne_of_gt hlS⟩
    have hget:((s.heap.push {cls:=.type "set",dict:=none,data:=.set #[] 0 (.fresh 0 0 led)}).push {cls:=.type "list_iterator",data:=.fields #[.ref l,.int 0 0]}).get? s.heap.objs.size
       = some {cls:=.type "set",dict:=none,data:=.set #[] 0 (.fresh 0 0 led)}:=Heap.get?_push_of_some _ hS
    refine a4G (ld:=led) (h0:=s.heap) ((Walks.list hh3 _ l hneI items).toS) s.heap.objs.size hSf (λb o e=>?_) rows hval hrow hn (show A.units+2+10<cLine by omega) (items.size-0) 0 _ [] (by omega) (Nat.zero_le _)
     ⟨⟨_,Heap.get?_push_size _ rfl,rfl,rfl⟩,(hl1.push _)⟩ (λb o e=>Heap.get?_push_of_some _ (Heap.get?_push_of_some _ e)) (a3c hget) ⟨Nat.le_refl _,List.nodup_nil,(λx hx=>nomatch hx),λj hj=>absurd hj (Nat.not_lt_zero j)⟩ ?hR
    .have:=Heap.lt_size e;rw[Heap.size_push];simp only[List.mem_cons,List.not_mem_nil,or_false];exact⟨Nat.ne_of_lt (Nat.lt_succ_of_lt this),Nat.ne_of_lt this⟩
    case hR =>
     intro s' xs' hm hS' hC';obtain⟨h',g',d',tk',os'⟩:=s';have eg:g'=s.gens:=hm.gens;have ed:d'=s.drawn:=hm.drawn;have eo:os'=s.os:=hm.os;subst eg;subst ed;subst eo;show wpAny _ _ _ _ _ _;refine wpAny_pure ?_;show wpAny _ _ (ret Value.none) _ _ _;refine wpAny_pure ⟨rfl,h',tk',xs',rfl,hS',hC',λb o hb e=>?_⟩;have hb1:b≠s.heap.objs.size:=Nat.ne_of_lt hb;have hb2:b≠(s.heap.push {cls:=.type "set",dict:=none,data:=.set #[] 0 (.fresh 0 0 led)}).objs.size:=by
      rw[Heap.size_push];exact Nat.ne_of_lt (Nat.lt_succ_of_lt hb)
     exact hm.heap b o (by simp only[List.mem_cons,List.mem_singleton,List.not_mem_nil,or_false,not_or];exact⟨hb1,hb2⟩) (Heap.get?_push_of_some _ (Heap.get?_push_of_some _ e))
   .cases r₂ with
    |error e=>exact hr₂
    |ok fl₂ =>
     cases fl₂ with
     |ret r =>
      obtain⟨rfl,h',tk,xs,rfl,hS',hC',hk'⟩:=hr₂
      repeat (any_goals (first|assumption|wp_step))
      exact h _ _ _ hS' hC' hk'
     |_=>exact hr₂.elim
  |_=>exact hr.elim
theorem a2O:isSubtype (.type "tuple") (.type "set")=pure false:=by rw[isSubtype_type];kernel_rfl
theorem Y9:isSubtype (.type "tuple") (.type "frozenset")=pure false:=by rw[isSubtype_type];kernel_rfl
theorem a2K{l:Addr}{items:Array Value}{rows:Nat->List Int×Addr}{Q:Value->Shared->Prop}
  (hh:A.handled=none) (hl:s.heap.IsTuple l items) (hval:∀i v,i<items.size->items[i]?=some v->v=.ref (rows i).2) (hrow:∀i,i<items.size->TK prog w s.heap (rows i).1 (rows i).2) (hn:items.size<=1000) (hu:A.units+20<cLine)
  (h:∀(h':Heap) (tk:Nat) (xs:List (List Int×Addr)),W6 prog w (!w.params.followText "set-order") h' s.heap.objs.size xs->Came rows items.size xs ->
   (∀b o,b<s.heap.objs.size->s.heap.get? b=some o->h'.get? b=some o)->Q (.ref s.heap.objs.size) {s with heap:=h',toks:=tk}) :
  wpAny (model prog w) A (call (.type "set") [.ref l]) Q E s:=by
 obtain⟨c,tl,hmro⟩:=PySem.F.called_set.mro;have hmade:=PySem.F.called_set.made;have hsub:=PySem.F.called_set.sub;refine wpAny_call (codeAny_of_tree ?_);show wpAny _ _ (callAny (.type "set") _) _ _ _;refine wpAny_pure ⟨Code.quiet_builtin _ (by decide +kernel),codeAny_builtin PySem.F.entry_type_call ?_⟩;rw[Around.under_plain (weight_type_call_type "set" [.ref l] []) rfl];have h1:=PySem.F.called_set.notType;have h2:=PySem.F.called_set.canCreate;have hct:=PySem.F.typeCall_set_1 (.ref l)
 repeat (any_goals (first|assumption|wp_step))
 refine codeAny_mono (Z6 (.ref l) (E:=E) (Q₁:=λobj s₁=>obj=.ref s.heap.objs.size/\s₁={s with heap:=s.heap.push {cls:=.type "set",dict:=none,data:=.set #[] 0 (.fresh 0 0 (!w.params.followText "set-order"))}}) ⟨rfl,rfl⟩) λr s₁ hr=>?_;cases r with
 |error e=>exact hr
 |ok fl =>
  cases fl with
  |ret obj =>
   obtain⟨rfl,rfl⟩:=hr;generalize hld:(!w.params.followText "set-order")=led at h;have hS:(s.heap.push {cls:=.type "set",dict:=none,data:=.set #[] 0 (.fresh 0 0 led)}).get? s.heap.objs.size=some {cls:=.type "set",dict:=none,data:=.set #[] 0 (.fresh 0 0 led)}:=Heap.get?_push_size _ rfl;have hT:Shared.TypeIs {s with heap:=s.heap.push {cls:=.type "set",dict:=none,data:=.set #[] 0 (.fresh 0 0 led)}} (.ref s.heap.objs.size) "set":=⟨_,hS,rfl⟩;have hli:=PySem.F.called_set.init.lookup;have hbi:=PySem.F.called_set.init.bind (.ref s.heap.objs.size)
   repeat (any_goals (first|assumption|wp_step))
   refine codeAny_mono (codeAny_call_builtin (R:=wants (λr s₂=>r=.none/\∃h' tk xs,s₂={s with heap:=h',toks:=tk}/\W6 prog w led h' s.heap.objs.size xs/\Came rows items.size xs /\
     (∀b o,b<s.heap.objs.size->s.heap.get? b=some o->h'.get? b=some o)) E) PySem.F.called_set.init.plain PySem.F.entry_set_init (check_set_init_1 hT ?_)) λr₂ s₂ hr₂=>?_
   .obtain⟨ol,hol,hcl,nl,hdl⟩:=hl;obtain⟨ocls,odict,odata,oslots⟩:=ol;simp only at hcl hdl;subst hcl;subst hdl;have hol':(s.heap.push {cls:=.type "set",dict:=none,data:=.set #[] 0 (.fresh 0 0 led)}).get? l=some {cls:=.type "tuple",dict:=odict,data:=.seq items nl,slots:=oslots}:=Heap.get?_push_of_some _ hol;have hsls:=a2O;have hslf:=Y9;have hne:(Value.type "tuple"==Value.type "dict")=false:=by decide
    have hl1:(s.heap.push {cls:=.type "set",dict:=none,data:=.set #[] 0 (.fresh 0 0 led)}).IsTuple l items:=⟨_,hol',rfl,nl,rfl⟩;unfold Builtin.«set.__init__» noKeywords Builtin.Frozenset.updateFrom;generalize hPI:pyIter=PI
    wp_walk
    subst hPI;refine wpAny_pyIter_tuple hl1 ?_;refine wpAny_bind (wpAny_runValue ?_);have hlS:l<s.heap.objs.size:=Heap.lt_size hol;have hh3:A.in1.in1.in1.handled=none:=by simp[hh]
    have hneI:l≠(s.heap.push {cls:=.type "set",dict:=none,data:=.set #[] 0 (.fresh 0 0 led)}).objs.size:=by
     rw[Heap.size_push];exact Nat.ne_of_lt (Nat.lt_succ_of_lt hlS)
    have hSf:s.heap.objs.size∉[(s.heap.push {cls:=.type "set",dict:=none,data:=.set #[] 0 (.fresh 0 0 led)}).objs.size,l]:=by
     rw[Heap.size_push];simp only[List.mem_cons,List.mem_singleton,List.not_mem_nil,or_false,not_or];exact⟨Nat.ne_of_lt (Nat.lt_succ_self _),Nat.ne_of_gt hlS⟩
    have hget:((s.heap.push {cls:=.type "set",dict:=none,data:=.set #[] 0 (.fresh 0 0 led)}).push {cls:=.type "tuple_iterator",data:=.fields #[.ref l,.int 0 0]}).get? s.heap.objs.size
       = some {cls:=.type "set",dict:=none,data:=.set #[] 0 (.fresh 0 0 led)}:=Heap.get?_push_of_some _ hS
    refine a4G (ld:=led) (h0:=s.heap) ((Walks.tuple hh3 _ l hneI items).toS) s.heap.objs.size hSf (λb o e=>?_) rows hval hrow hn (show A.units+2+10<cLine by omega) (items.size-0) 0 _ [] (by omega) (Nat.zero_le _)
     ⟨⟨_,Heap.get?_push_size _ rfl,rfl,rfl⟩,(hl1.push _)⟩ (λb o e=>Heap.get?_push_of_some _ (Heap.get?_push_of_some _ e)) (a3c hget) ⟨Nat.le_refl _,List.nodup_nil,(λx hx=>nomatch hx),λj hj=>absurd hj (Nat.not_lt_zero j)⟩ ?hR
    .have:=Heap.lt_size e;rw[Heap.size_push];simp only[List.mem_cons,List.not_mem_nil,or_false];exact⟨Nat.ne_of_lt (Nat.lt_succ_of_lt this),Nat.ne_of_lt this⟩
    case hR =>
     intro s' xs' hm hS' hC';obtain⟨h',g',d',tk',os'⟩:=s';have eg:g'=s.gens:=hm.gens;have ed:d'=s.drawn:=hm.drawn;have eo:os'=s.os:=hm.os;subst eg;subst ed;subst eo;show wpAny _ _ _ _ _ _;refine wpAny_pure ?_;show wpAny _ _ (ret Value.none) _ _ _;refine wpAny_pure ⟨rfl,h',tk',xs',rfl,hS',hC',λb o hb e=>?_⟩;have hb1:b≠s.heap.objs.size:=Nat.ne_of_lt hb;have hb2:b≠(s.heap.push {cls:=.type "set",dict:=none,data:=.set #[] 0 (.fresh 0 0 led)}).objs.size:=by
      rw[Heap.size_push];exact Nat.ne_of_lt (Nat.lt_succ_of_lt hb)
     exact hm.heap b o (by simp only[List.mem_cons,List.mem_singleton,List.not_mem_nil,or_false,not_or];exact⟨hb1,hb2⟩) (Heap.get?_push_of_some _ (Heap.get?_push_of_some _ e))
   .cases r₂ with
    |error e=>exact hr₂
    |ok fl₂ =>
     cases fl₂ with
     |ret r =>
      obtain⟨rfl,h',tk,xs,rfl,hS',hC',hk'⟩:=hr₂
      repeat (any_goals (first|assumption|wp_step))
      exact h _ _ _ hS' hC' hk'
     |_=>exact hr₂.elim
  |_=>exact hr.elim
end
end Tab
end L2
namespace L2
namespace Tab
open PySem PySem.W
theorem a2H{α:Type}:∀(l:List α) (i:Nat) (h:i<l.length),([l[i]]++l.eraseIdx i).Perm l
 |x::l,0,_=>by simp
 |x::l,i+1,h=>by
  have ih:=a2H l i (by simpa using h);simp only[List.getElem_cons_succ,List.eraseIdx_cons_succ,List.singleton_append];exact(List.Perm.swap x (l[i]'(by simpa using h)) _).trans (List.Perm.cons x ih)
theorem a7g{α:Type}(next:Nat->Nat):∀(fuel k:Nat) (left:List α) (out:Array α),left.length=fuel->(pickOrder.go next fuel k left out).toList.Perm (out.toList++left)
 |0,k,left,out,h=>by
  rw[List.length_eq_zero_iff.mp h,List.append_nil];exact List.Perm.refl _
 |fuel+1,k,left,out,h=>by
  unfold pickOrder.go;have hi:next k % left.length<left.length:=Nat.mod_lt _ (by omega)
  rw[List.getElem?_eq_getElem hi];dsimp only;refine(a7g next fuel (k+1) _ _ (by rw[List.length_eraseIdx_of_lt hi];omega)).trans ?_;rw[Array.toList_push,List.append_assoc];exact List.Perm.append_left _ (a2H left _ hi)
theorem a8q{α:Type}(next:Nat->Nat)(xs:Array α):(pickOrder next xs).toList.Perm xs.toList:=by
 have:=a7g next xs.size 0 xs.toList #[] (by simp)
 rw[show(#[]:Array α).toList=[] from rfl,List.nil_append]at this;exact this
theorem slot_seti_next:Slot "set_iterator" "__next__" "set_iterator.__next__" :=
 .of (owner:="set_iterator") (n:="__next__") (by rw[typeLookup_type,builtinLookup_eq_fast];kernel_rfl) (by decide +kernel) (by decide +kernel) (by decide +kernel)
  (by first|exact .inl (by decide +kernel)|exact .inr (by decide +kernel)) (by rw[isSubtype_type];kernel_rfl)
theorem S0:entryFor table "set_iterator.__next__"=some Builtin.«set_iterator.__next__»:=entryFor_of_tree (by kernel_rfl)
theorem W5(a:Value):argsOk "set_iterator.__next__" ⟨[a],[]⟩:=by
 unfold argsOk;kernel_rfl
theorem U5:Slot "set_iterator" "__iter__" "set_iterator.__iter__" :=
 .of (owner:="set_iterator") (n:="__iter__") (by rw[typeLookup_type,builtinLookup_eq_fast];kernel_rfl) (by decide +kernel) (by decide +kernel) (by decide +kernel)
  (by first|exact .inl (by decide +kernel)|exact .inr (by decide +kernel)) (by rw[isSubtype_type];kernel_rfl)
theorem a2I:entryFor table "set.__iter__"=some Builtin.«frozenset.__iter__» :=
 entryFor_alias (id':="frozenset.__iter__") (by kernel_rfl) rfl (by decide +kernel) (by kernel_rfl)
structure SRaw(h:Heap)(a:Addr)(es:Array (Int×Value))(ep:Nat)(t:SetTable):Prop where
 ex:∃o,h.get? a=some o/\o.ExactSet/\o.data=.set es ep t
 ok:TabOk t es
 plain:t.plain=true
section
variable {prog:Program}{w:World}{A:Around}{E:Value->Shared->Prop}{s:Shared}{a it:Addr}{es:Array (Int×Value)}{ep i:Nat}{t:SetTable}
theorem SRaw.typ(x:SRaw s.heap a es ep t):s.TypeIs (.ref a) "set":=let ⟨o,h1,h2,_⟩:=x.ex;⟨o,h1,h2.1⟩
theorem b1r{Q:Bool->Shared->Prop}(hT:s.TypeIs (.ref a) "set")(h:Q false s):wpAny (model prog w) A (Builtin.List.listLengthHint (.ref a)) Q E s:=by
 unfold Builtin.List.listLengthHint;refine wpAny_bind (wpAny_specialOf hT PySem.F.slot_set_len.lookup ?_);generalize hid:("set.__len__" : String)=id0
 wp_delta
 rw[show splitId id0=some ("set","__len__")from by subst hid;decide +kernel];subst hid;refine wpAny_bind (wpAny_isInstance (T:="set") (b:=true) hT (by rw[isSubtype_type];kernel_rfl) ?_);refine wpAny_ite_split (λhab=>absurd hab (by decide)) (λ_=>?_);refine wpAny_ite_split (λ_=>?_) (λhab=>absurd (by decide +kernel) hab);refine wpAny_bind (wpAny_typeOf hT ?_);exact wpAny_pure h
def U7(w:World)(a:Addr)(ep:Nat)(es:Array (Int×Value)):Array (Int×Value):=if w.params.followText "set-order"=true then pickOrder (w.params.setOrder a ep) es else es
theorem ord_perm:(U7 w a ep es).toList.Perm es.toList:=by
 unfold U7;split
 .exact a8q _ _
 .exact List.Perm.refl _
def a1r(w:World)(t:SetTable):Nat->Nat
 |0=>0
 |i+1=>if w.params.followText "set-order"=true then 0 else t.place.getD i 0+1
def SetIt(w:World)(h:Heap)(it a:Addr)(i n ep:Nat)(t:SetTable):Prop:=∃o,h.get? it=some o/\o.cls=.type "set_iterator"/\o.data=.fields #[rawInt (a1r w t i),rawInt i,.ref a,rawInt n,rawInt ep]
theorem a9J{Q:Value->Shared->Prop}(D:SRaw s.heap a es ep t)
  (q:Q (.ref s.heap.objs.size) {s with heap:=s.heap.push {cls:=.type "set_iterator",data:=.fields #[rawInt 0,rawInt 0,.ref a,rawInt es.size,rawInt ep]}}):wpAny (model prog w) A (pyIter (.ref a)) Q E s:=by
 have ty:=D.typ;obtain⟨o,e1,_,e3⟩:=D.ex;refine wpAny_pyIter_slot ty PySem.F.slot_set_iter (wpAny_call_entry PySem.F.slot_set_iter ty a2I ?body (PySem.F.args_set_iter_1 _))
 case body =>
  unfold Builtin.«frozenset.__iter__» Builtin.Frozenset.slot0;refine wpAny_bind (wpAny_bind (wpAny_pure (wpAny_pure ?_)));unfold Builtin.Frozenset.sizeOf setEntries;refine wpAny_bind (wpAny_bind (wpAny_bind (wpAny_setState_of e1 e3 (E7 D.ok) (wpAny_pure (wpAny_pure ?_)))));unfold setDrawn setsByText;refine wpAny_bind (wpAny_bind (wpAny_setState_of e1 e3 (E7 D.ok) ?_));dsimp only;refine wpAny_bind (wpAny_bind (wpAny_askSetting (wpAny_pure (wpAny_pure ?_))));dsimp only;rw[if_neg (λz=>by
   have z2:=(Bool.and_eq_true _ _ ▸ z).2;change (!t.plain && decide (es.size > 1))=true at z2;rw[D.plain]at z2;cases z2)]
  refine wpAny_bind (wpAny_pure ?_);refine wpAny_bind (wpAny_setEpoch_of e1 e3 (E7 D.ok) ?_);refine wpAny_bind (wpAny_newObj_type (wpAny_pure ⟨_,rfl,"set_iterator",_,⟨_,Heap.get?_push_size _ rfl,rfl⟩,slot_seti_next.lookup,?_⟩));exact q
theorem SetIt.typ{it a:Addr}{i n ep:Nat}{t:SetTable}(x:SetIt w s.heap it a i n ep t):s.TypeIs (.ref it) "set_iterator":=let ⟨o,h1,h2,_⟩:=x;⟨o,h1,h2⟩
theorem a9G(D:SRaw s.heap a es ep t)(hf:w.params.followText "set-order"=false){i:Nat}(hi:i<=es.size):SetTable.below t.place (a1r w t i)=i:=by
 obtain⟨b1,b2,b3⟩:=F0 D.ok.ris (a1r w t i);have hsz:=D.ok.size;cases i with
 |zero =>
  rcases Nat.eq_zero_or_pos (SetTable.below t.place (a1r w t 0))with z|z
  .exact z
  .have:=b2 0 z;exact absurd this (Nat.not_lt_zero _)
 |succ i =>
  have hs:a1r w t (i+1)=t.place.getD i 0+1:=by
   show(if w.params.followText "set-order"=true then 0 else t.place.getD i 0+1)=_;rw[hf,if_neg (by decide)]
  rw[hs]at b1 b2 b3⊢;rcases Nat.lt_trichotomy (SetTable.below t.place (t.place.getD i 0+1)) (i+1)with z|z|z
  .have:=b3 i (by omega) (by omega);omega
  .exact z
  .have h1:=b2 (i+1) z;have h2:=D.ok.ris i (i+1) (by omega) (by omega);omega
theorem a4O(D:SRaw s.heap a es ep t)(hld:t.led=!w.params.followText "set-order"){i:Nat}{Q:Option (Value×Nat)->Shared->Prop}(hi:i<=es.size)
  (h:Q ((U7 w a ep es)[i]?.map λe=>(e.2,a1r w t (i+1))) s):wpAny (model prog w) A (setNext a (a1r w t i) i ep) Q E s:=by
 obtain⟨o,e1,_,e3⟩:=D.ex;unfold setNext setsByText;refine wpAny_bind (wpAny_setState_of e1 e3 (E7 D.ok) ?_);dsimp only;refine wpAny_bind (wpAny_bind (wpAny_askSetting (wpAny_pure ?_)));dsimp only;by_cases hf:w.params.followText "set-order"=true
 .rw[if_pos (show(model prog w).w.params.followText "set-order"=true from hf),if_neg (by simp)];unfold setWalk setsByText;refine wpAny_bind (wpAny_bind (wpAny_setState_of e1 e3 (E7 D.ok) ?_));dsimp only;refine wpAny_bind (wpAny_bind (wpAny_askSetting (wpAny_pure ?_)));rw[if_pos (show(model prog w).w.params.followText "set-order"=true from hf)];refine wpAny_bind (wpAny_askSetting (wpAny_pure (wpAny_pure ?_)));have h0:∀j,a1r w t j=0:=λj=>by
   cases j with
   |zero=>rfl
   |succ j=>show(if w.params.followText "set-order"=true then 0 else _)=0;rw[if_pos hf]
  rw[h0]at h⊢;unfold U7 at h;rw[if_pos hf]at h;exact h
 .have hf':w.params.followText "set-order"=false:=by simpa using hf
  rw[if_neg (show ¬(model prog w).w.params.followText "set-order"=true from hf)];rw[if_neg (λz=>by
   change (!t.plain && decide (es.size > 1))=true at z;rw[D.plain]at z;cases z)]
  refine wpAny_bind ?_;show wpAny _ _ (if (!t.led && !es.isEmpty)=true then _ else pure ()) _ _ _;rw[if_neg (by rw[hld,hf'];simp)];refine wpAny_pure (wpAny_pure ?_);rw[a9G D hf' hi];unfold U7 at h;rw[if_neg hf]at h;by_cases hlt:i<es.size
  .have hp:=a0x (xs:=t.place) (i:=i) (by rw[D.ok.size];exact hlt);rw[hp];have hs:a1r w t (i+1)=t.place.getD i 0+1:=by
    show(if w.params.followText "set-order"=true then 0 else t.place.getD i 0+1)=_;rw[hf',if_neg (by decide)]
   rw[hs]at h;rw[Array.getElem?_eq_getElem hlt]at h⊢;exact h
  .rw[Array.getElem?_eq_none (by omega)]at h⊢;exact h
theorem a7Z{it:Addr}{i:Nat}{Q:Option Value->Shared->Prop}(I:SetIt w s.heap it a i es.size ep t)(D:SRaw s.heap a es ep t)(hld:t.led=!w.params.followText "set-order")(hi:i<es.size){v:Int×Value}(hv:(U7 w a ep es)[i]?=some v)
  (q:∀h',SetIt w h' it a (i+1) es.size ep t->Heap.SameBut it s.heap h'->Q (some v.2) {s with heap:=h'}):wpAny (model prog w) A (pyNext (.ref it)) Q E s:=by
 obtain⟨oi,f1,f2,f3⟩:=id I;obtain⟨od,e1,e2,e3⟩:=D.ex;unfold pyNext;refine wpAny_bind (wpAny_attempt (wpAny_callSpecial?_slot (name:=Str.ofString "__next__") I.typ slot_seti_next (wpAny_call_entry slot_seti_next I.typ S0 ?body (W5 _))))
 case body =>
  unfold Builtin.«set_iterator.__next__»;refine wpAny_bind (wpAny_pure (wpAny_bind (wpAny_fieldsOf f1 f3 ?_)));dsimp only[rawInt];unfold setEntries;refine wpAny_bind (wpAny_bind (wpAny_setState_of e1 e3 (E7 D.ok) (wpAny_pure ?_)));rw[if_neg (by simp)];simp only[Int.toNat_natCast];refine wpAny_bind (a4O D hld (Nat.le_of_lt hi) ?_);rw[hv];dsimp only[Option.map];have g1:(s.heap.update it (Obj.mapFields λz=>z.setIfInBounds 0 (.int (a1r w t (i+1)) 0))).get? it=some (Obj.mapFields (λz=>z.setIfInBounds 0 (.int (a1r w t (i+1)) 0)) oi):=Heap.get?_update_self _ f1 (Obj.isFreed_of_fields (Obj.data_mapFields f3 _));have d1:=Obj.data_mapFields f3 (λz=>z.setIfInBounds 0 (.int (a1r w t (i+1)) 0));refine wpAny_bind (wpAny_setField f1 f3 (by simp) ?_);refine wpAny_bind (wpAny_setField (s:={s with heap:=_}) g1 d1 (by simp) ?_);refine wpAny_pure ⟨_,rfl,wpAny_pure (q _ ⟨_,Heap.get?_update_self _ g1 (Obj.isFreed_of_fields (Obj.data_mapFields d1 _)),?_,?_⟩ ((Heap.SameBut.update ..).trans (Heap.SameBut.update ..)))⟩
  .rw[Obj.cls_mapFields,Obj.cls_mapFields];exact f2
  .rw[Obj.data_mapFields d1];simp[rawInt]
theorem a9H{it:Addr}{Q:Option Value->Shared->Prop}(hh:A.handled=none)(I:SetIt w s.heap it a es.size es.size ep t)(D:SRaw s.heap a es ep t)(hld:t.led=!w.params.followText "set-order")
  (q:∀h',Heap.ExtBut it s.heap h'->Q none {s with heap:=h'}):wpAny (model prog w) A (pyNext (.ref it)) Q E s:=by
 obtain⟨oi,f1,f2,f3⟩:=id I;obtain⟨od,e1,e2,e3⟩:=D.ex;unfold pyNext;refine wpAny_bind (wpAny_attempt (wpAny_callSpecial?_slot (name:=Str.ofString "__next__") I.typ slot_seti_next (wpAny_call_entry slot_seti_next I.typ S0 ?body (W5 _))))
 case body =>
  unfold Builtin.«set_iterator.__next__»;refine wpAny_bind (wpAny_pure (wpAny_bind (wpAny_fieldsOf f1 f3 ?_)));dsimp only[rawInt];unfold setEntries;refine wpAny_bind (wpAny_bind (wpAny_setState_of e1 e3 (E7 D.ok) (wpAny_pure ?_)));rw[if_neg (by simp)];simp only[Int.toNat_natCast];refine wpAny_bind (a4O D hld (Nat.le_refl _) ?_);have hsz:(U7 w a ep es).size=es.size:=by rw[<-Array.length_toList,ord_perm.length_eq,Array.length_toList]
  rw[Array.getElem?_eq_none (by omega)];dsimp only[Option.map];refine wpAny_bind (wpAny_setField f1 f3 (by simp) ?_);show wpAny _ _ (newExc (.type "StopIteration") []>>=λ_=>_) _ _ _;refine wpAny_bind ?_;simp only[newExc,newTuple];refine wpAny_bind (wpAny_newObj_type ?_ (by size_fits));refine wpAny_bind (m:=firstArgMember _ _) (wpAny_of_eq (a:=Value.none) (by first|rfl | (simp only[firstArgMember];rfl)) ?_);refine wpAny_newObj_type ?_ (by size_fits);simp only[raiseNew];refine wpAny_bind (wpAny_handled ?_);rw[show A.in1.handled=none from hh];refine wpAny_bind (wpAny_pure (wpAny_throw ?_));refine wpAny_bind (wpAny_isInstance (T:="StopIteration") (b:=true) ⟨_,Heap.get?_push_size _ rfl,rfl⟩ isSubtype_stop ?_);exact wpAny_pure (q _ (((Heap.SameBut.update ..).extBut.push _).push _))
theorem SetIt.at{h h':Heap}{it a:Addr}{i n ep:Nat}{t:SetTable}(x:SetIt w h it a i n ep t)(k:∀o,h.get? it=some o->h'.get? it=some o):SetIt w h' it a i n ep t:=let ⟨o,h1,h2⟩:=x;⟨o,k o h1,h2⟩
theorem SRaw.to{h h':Heap}(x:SRaw h a es ep t)(k:∀o,h.get? a=some o->h'.get? a=some o):SRaw h' a es ep t:=⟨let ⟨o,h1,h2⟩:=x.ex;⟨o,k o h1,h2⟩,x.ok,x.plain⟩
theorem a1A:entryFor table "set_iterator.__iter__"=some Builtin.«dict_keyiterator.__iter__» :=
 entryFor_alias (id':="dict_keyiterator.__iter__") (by kernel_rfl) rfl (by decide +kernel) (by kernel_rfl)
theorem a2N(a:Value):argsOk "set_iterator.__iter__" ⟨[a],[]⟩:=by
 unfold argsOk;kernel_rfl
theorem a7Y{it:Addr}{i n:Nat}{Q:Value->Shared->Prop}(I:SetIt w s.heap it a i n ep t)(h:Q (.ref it) s):wpAny (model prog w) A (pyIter (.ref it)) Q E s:=by
 refine wpAny_pyIter_slot I.typ U5 (wpAny_call_entry U5 I.typ a1A ?_ (a2N _));show wpAny _ _ (ret (.ref it)) _ _ s;exact wpAny_pure ⟨_,rfl,"set_iterator",_,I.typ,slot_seti_next.lookup,h⟩
theorem b0u:(U7 w a ep es).size=es.size:=by rw[<-Array.length_toList,ord_perm.length_eq,Array.length_toList]
theorem a8a(hh:A.handled=none)(J:Addr)(hne:a≠J)(hld:t.led=!w.params.followText "set-order") :
  Walks prog w A J [J,a] [J] es.size (λi v=>∃e,(U7 w a ep es)[i]?=some e/\v=e.2) (λi h=>SetIt w h J a i es.size ep t/\SRaw h a es ep t) where
 sub:=λb hb=>by rw[List.mem_singleton.mp hb];exact List.mem_cons_self
 frame:=λi h h' st hk=>⟨st.1.at λo e=>hk J List.mem_cons_self o e,st.2.to λo e=>hk a (List.mem_cons_of_mem _ List.mem_cons_self) o e⟩
 item:=λi s Q E hi st hQ=>by
  have hi':i<(U7 w a ep es).size:=by rw[b0u];exact hi
  exact a7Z st.1 st.2 hld hi (Array.getElem?_eq_getElem hi') λh' I' sb=>hQ _ h' s.toks ⟨_,Array.getElem?_eq_getElem hi',rfl⟩ ⟨I',st.2.to λo e=>sb.extBut a o hne e⟩ λb o hb e=>sb.extBut b o (λz=>hb (by rw[z];exact List.mem_cons_self)) e
 done:=λs Q E st hQ=>a9H hh st.1 st.2 hld λh' eb=>hQ h' s.toks λb o hb e=>eb b o (λz=>hb (by rw[z];exact List.mem_cons_self)) e
 self:=λ_ _ _ _ st hQ=>a7Y st.1 hQ
theorem SRaw.lt{h:Heap}(x:SRaw h a es ep t):a<h.objs.size:=let ⟨_,h1,_⟩:=x.ex;Heap.lt_size h1
theorem b2n(hld:t.led=!w.params.followText "set-order"):KdlSrc prog w "set" a a es.size (λi v=>∃e,(U7 w a ep es)[i]?=some e/\v=e.2) (λh=>SRaw h a es ep t) where
 type:=λ_ D=>D.typ
 there:=λ_ D=>⟨D.lt,D.lt⟩
 keep:=λ_ _ D hk=>D.to λo e=>hk a (.inl rfl) o e
 notList:=by decide
 notTuple:=by decide
 hint:=λ_ _ _ _ D q=>b1r D.typ q
 iter:=λ_ _ hh D=>⟨_,_,λ_ _ q=>a9J D q,a8a hh _ (Nat.ne_of_lt D.lt) hld,⟨⟨_,Heap.get?_push_size _ rfl,rfl,rfl⟩,D.to λo e=>Heap.get?_push_of_some _ e⟩⟩
end
end Tab
end L2
namespace L2
open PySem PySem.Spec PyProof.Rows PySem.W Tab
def a4P(P:Program)(w:World)(a:Addr)(xs:List (List Int×Addr)):HO:=.ext λh=>∃es ep t,SRaw h a es ep t/\es.toList.Perm (xs.map (Tab.ent P w))/\t.led=!w.params.followText "set-order"
theorem b3M{P:Program}{w:World}{H:Hp}{h:Heap}(ok:HOk P w H h){r:List Int}{b:Addr}(x:IT H (.ref b) r):TK P w h r b:=by
 obtain⟨a,e,q⟩:=x;cases e;obtain⟨_,its,rv,o,h1,h2,n,h3⟩:=(show ObjOk P w H h b (.tup (r.map V.int))from ok b _ q);refine⟨o,its.toArray,n,h1,congrArg Prod.fst h2,h3,?_⟩;have:∀{r:List Int}{its:List Value},Vals (r.map V.int) its->ItemsAre (intKind P w) r its:=by
  intro r;induction r with
  |nil=>intro its rv;cases rv;exact .nil
  |cons x r ih =>
   intro its rv;cases rv with
   |cons h t =>
    obtain⟨tk,rfl⟩:=h;exact .cons (intKind_is _ _ _ _) (ih t)
 simpa using this rv
def b3X(K:PySem.W.Frag)(P:Program)(w:World):RL:=λys H Q=>∃(k:Bool) (p:Addr) (vs:List V) (rss:LLI),ys=[.ref p]/\SqK k K H p vs/\Its H vs rss/\vs.length<=1000 /\
 ∀a xs,H a=none->(xs.map (·.1)).Nodup->(∀r,r∈xs.map (·.1)↔r∈rss)->(∀x∈xs,IT H (.ref x.2) x.1)->Q (.ref a) (upd H a (a4P P w a xs))
def a9Y(P:Program)(w:World):RL:=λys H Q=>∃(a:Addr) (xs:List (List Int×Addr)),ys=[.ref a]/\H a=some (a4P P w a xs)/\(∀x∈xs,IT H (.ref x.2) x.1)/\(∀x∈xs,0<x.1.length)/\xs.length<=1000 /\
 ∀l zs tss,H l=none->Its H zs tss->tss.Perm (xs.map (·.1))->G0 tss->Q (.ref l) (upd H l (.lst zs))
section
variable {X:Cx}
theorem a8Y(K:PySem.W.Frag)(P:Program)(w:World)(hu:X.A.units+60<cLine)(hc:X.calm=true)(hK:X.K=K:=by rfl)(hP:X.prog=P:=by rfl)(hw:X.w=w:=by rfl):E1 X (.type "set") (b3X K P w):=by
 subst hK hP hw;intro pins s σ H ys us Q I rv h;obtain⟨k,p,vs,rss,rfl,hq,hI,hn,q⟩:=h;obtain⟨u,rfl,ru⟩:=rv.one;cases ru;have hh:X.A.handled=none:=I.ok.hd hc;have step:∀(its:List Value),Vals vs its->∀(h':Heap) (tk:Nat) (xs:List (List Int×Addr)) (rows:Nat->List Int×Addr),(∀i,i<its.toArray.size->rss[i]?=some (rows i).1/\IT H (.ref (rows i).2) (rows i).1) ->
   W6 X.prog X.w (!X.w.params.followText "set-order") h' s.heap.objs.size xs->Came rows its.toArray.size xs->(∀b o,b<s.heap.objs.size->s.heap.get? b=some o->h'.get? b=some o)->EP X pins σ Q (.ref s.heap.objs.size) {s with heap:=h',toks:=tk}:=by
  intro its r h' tk xs rows hrows hS hC hk;obtain⟨o,es,ep,t,e1,e2,e3,e4,e5,e6,e7,e8,e9⟩:=hS;have hlen:its.toArray.size=rss.length:=by rw[<-hI.1,r.length];simp
  have hfr:H s.heap.objs.size=none:=I.hok.fresh (Nat.le_refl _);have hIT:∀x∈xs,IT H (.ref x.2) x.1:=λx hx=>by
   obtain⟨j,hj,rfl⟩:=hC.from_ x hx;exact(hrows j hj).2
  refine⟨.ref s.heap.objs.size,_,I.laid (h':=h') (a:=s.heap.objs.size) (o:=a4P X.prog X.w s.heap.objs.size xs) (t':=tk) (λb o e=>hk b o (Heap.lt_size e) e) (Nat.le_refl _) ⟨⟨es,ep,t,⟨⟨o,e1,e2,e3⟩,e5,e6⟩,e4,e9⟩,⟨o,e1⟩,λh1 h2 ⟨es,ep,t,q1,q2⟩ kk=>⟨es,ep,t,q1.to kk,q2⟩⟩,rfl,q _ xs hfr hC.nd (λr=>?_) hIT⟩;constructor
  .intro hr;obtain⟨x,hx,rfl⟩:=List.mem_map.mp hr;obtain⟨j,hj,rfl⟩:=hC.from_ x hx;exact List.mem_of_getElem? (hrows j hj).1
  .intro hr;obtain⟨j,hj⟩:=List.mem_iff_getElem?.mp hr;have hjl:j<its.toArray.size:=by rw[hlen];exact(List.getElem?_eq_some_iff.mp hj).1
   have h1:=(hrows j hjl).1;rw[hj]at h1;injection h1 with h1
   rw[h1];exact hC.all j hjl
 have rowsOf:∀(its:List Value),Vals vs its->∃rows:Nat->List Int×Addr,(∀i v,i<its.toArray.size->its.toArray[i]?=some v->v=.ref (rows i).2)/\∀i,i<its.toArray.size->rss[i]?=some (rows i).1/\IT H (.ref (rows i).2) (rows i).1:=by
  intro its r;have each:∀i,∃x:List Int×Addr,i<its.toArray.size->(∀v,its.toArray[i]?=some v->v=.ref x.2)/\rss[i]?=some x.1/\IT H (.ref x.2) x.1:=λi=>by
   by_cases hi:i<its.toArray.size
   .have hi':i<vs.length:=by rw[r.length];simpa using hi
    obtain⟨u,eu,ru⟩:=r.get (List.getElem?_eq_getElem hi');obtain⟨row,er,b,eb,hb⟩:=hI.2 i _ (List.getElem?_eq_getElem hi');rw[eb]at ru;cases ru;refine⟨(row,b),λ_=>⟨λv hv=>?_,er,b,rfl,hb⟩⟩;have:its[i]?=some v:=by simpa using hv
    rw[eu]at this;injection this with this
    exact this.symm
   .exact⟨([],0),λz=>absurd z hi⟩
  exact⟨λi=>Classical.choose (each i),λi v hi hv=>(Classical.choose_spec (each i) hi).1 v hv,λi hi=>(Classical.choose_spec (each i) hi).2⟩
 cases k
 .obtain⟨its,r,pl,hz⟩:=I.list hq;obtain⟨rows,r1,r2⟩:=rowsOf its r;exact a2T hh pl.isList r1 (λi hi=>b3M I.hok (r2 i hi).2) (by have:=r.length;simp;omega) (by omega) λh' tk xs hS hC hk=>step its r h' tk xs rows r2 hS hC hk
 .obtain⟨its,r,pl,hz⟩:=I.tuple hq;obtain⟨rows,r1,r2⟩:=rowsOf its r;exact a2K hh pl r1 (λi hi=>b3M I.hok (r2 i hi).2) (by have:=r.length;simp;omega) (by omega) λh' tk xs hS hC hk=>step its r h' tk xs rows r2 hS hC hk
theorem a6t(P:Program)(w:World)(hc:X.calm=true)(hP:X.prog=P:=by rfl)(hw:X.w=w:=by rfl):E1 X (.builtin "sorted") (a9Y P w):=by
 subst hP hw;intro pins s σ H ys us Q I rv h;obtain⟨a,xs,rfl,ha,hIT,hwd,hn,q⟩:=h;obtain⟨u,rfl,ru⟩:=rv.one;cases ru;obtain⟨⟨es,ep,t,D,hpm,hld⟩,_⟩:=(show ObjOk X.prog X.w H s.heap a (a4P X.prog X.w a xs)from I.hok _ _ ha);obtain⟨ts,tp,te⟩:=K7 (f:=Tab.ent X.prog X.w) ((ord_perm (w:=X.w) (a:=a) (ep:=ep)).trans hpm) rfl;have hts:∀x∈ts,x∈xs:=λx hx=>tp.mem_iff.mp hx;have hlen:es.size=ts.length:=by rw[<-Array.length_toList,hpm.length_eq,List.length_map,tp.length_eq]
 have hI:Its H (ts.map λx=>V.ref x.2) (ts.map (·.1)):=⟨by rw[List.length_map,List.length_map],λi v e=>by
  rw[List.getElem?_map]at e⊢;cases e2:ts[i]? with
  |none=>rw[e2]at e;cases e
  |some x =>
   rw[e2]at e;cases e;exact⟨x.1,rfl,hIT x (hts x (List.mem_of_getElem? e2))⟩⟩
 have ri:Vals (ts.map λx=>V.ref x.2) (ts.map λx=>Value.ref x.2):=a0G (λx:List Int×Addr=>x.2) ts;have hz:(1000:Nat)<=sizeLine:=by rw[sizeLine_eq];decide
 have htl:ts.length<=1000:=by rw[tp.length_eq];exact hn
 have hcol:∀(E':Value->Shared->Prop) (Q':List Value->Shared->Prop),(∀(h1:Heap) (tk:Nat),(∀b o,s.heap.get? b=some o->h1.get? b=some o)->Q' (ts.map λx=>Value.ref x.2) {s with heap:=h1,toks:=tk})->wpAny (model X.prog X.w) X.A.in1 (collect (.ref a)) Q' E' s:=λE' Q' k=>by
  refine kdu_collect (b2n hld) (show X.A.in1.handled=none from I.ok.hd hc) D (by omega) λh' tk acc kp hit=>?_;have:acc.toList=ts.map λx=>Value.ref x.2:=by
   refine List.ext_getElem? λi=>?_;rw[Array.getElem?_toList,List.getElem?_map];by_cases hi:i<ts.length
   .have hia:i<acc.size:=by rw[hit.1,hlen];exact hi
    obtain⟨e,he,hv⟩:=hit.2 i acc[i] (by simp[hia]);rw[<-Array.getElem?_toList,<-te,List.getElem?_map,List.getElem?_eq_getElem hi]at he;injection he with he
    rw[Array.getElem?_eq_getElem hia,List.getElem?_eq_getElem hi,hv,<-he];rfl
   .rw[Array.getElem?_eq_none (by rw[hit.1,hlen];omega),List.getElem?_eq_none (by omega)];rfl
  rw[this];exact k h' tk kp
 have hl:=ri.length;have TT:=a2w I hI ri;obtain⟨T,t1,t2,t3,t4⟩:=W7 ri hI.1;refine S1 hcol TT (λr hr=>by obtain⟨x,hx,rfl⟩:=List.mem_map.mp hr;exact hwd x (hts x hx)) (by rw[List.length_map];omega) λh1 h' os c tk k1 k2 e hp hs=>?_;obtain⟨T',p1,p2⟩:=K7 (f:=λt:Value×V×List Int=>t.1) hp t1.symm;have I1:=I.kept (t':=tk) k1;have hT:∀t∈T',RelV t.2.1 t.1/\IT H t.2.1 t.2.2/\E3 s.heap t.1=t.2.2:=λt ht=>by
  obtain⟨i,hi⟩:=List.mem_iff_getElem?.mp (p1.mem_iff.mp ht);obtain⟨r1,r2,r3⟩:=t4 i t hi;obtain⟨row,q1,q2⟩:=hI.2 i _ r2;rw[r3]at q1;cases q1;have e5:(ts.map λx=>Value.ref x.2)[i]?=some t.1:=by rw[<-t1,List.getElem?_map,hi];rfl
  obtain⟨r',b,its',f1,f2,f3,f4⟩:=TT.2 i _ e5;rw[r3]at f1;cases f1;exact⟨r1,q2,by rw[f2];exact C8 f3 f4⟩
 have hzl:(T'.map (·.2.1)).length<=sizeLine:=by
  have e6:=(p1.map (λt:Value×V×List Int=>t.2.1)).length_eq;rw[t2]at e6;simp only[List.length_map]at e6⊢;omega
 have hv:Vals (T'.map (·.2.1)) os:=by rw[<-p2];exact M3 λt ht=>(hT t ht).1
 have I2:=I1.laid (h':=h') (a:=h1.objs.size) (o:=.lst (T'.map (·.2.1))) (t':=tk) k2 (Nat.le_refl _) ⟨hzl,os,c,hv,e⟩;refine⟨.ref h1.objs.size,_,I2,rfl,q _ _ (T'.map (·.2.2)) (I1.hok.fresh (Nat.le_refl _)) ⟨by rw[List.length_map,List.length_map],λi v ei=>?_⟩ (by have:=p1.map (λt:Value×V×List Int=>t.2.2);rw[t3]at this;exact this.trans (tp.map _)) ?_⟩
 .rw[List.getElem?_map]at ei⊢;cases e2:T'[i]? with
  |none=>rw[e2]at ei;cases ei
  |some t =>
   rw[e2]at ei;cases ei;exact⟨t.2.2,rfl,(hT t (List.mem_of_getElem? e2)).2.1⟩
 .unfold G0;rw[List.pairwise_map];rw[<-p2,List.pairwise_map]at hs;refine hs.imp_of_mem λ{x y} hx hy hxy=>?_;rw[(hT x hx).2.2,(hT y hy).2.2]at hxy;exact hxy
variable {e:Expr}{es:List Expr}{t:TA}{p pos:Pos}
theorem b3n(K:PySem.W.Frag)(P:Program)(w:World)(hu:X.A.units+60<cLine)(hg:Gl X "set")(hm:X.mg "set"=none)(ha:JA X (e::es) t)(hc:X.calm=true:=by rfl)(hK:X.K=K:=by rfl)(hP:X.prog=P:=by rfl)(hw:X.w=w:=by rfl)(he:starEach (e::es) X.env=(false,eval e X.env)::starEach es X.env:=by rfl)(hpl:(backTo pos (starEach es X.env)).any (·.1)=false:=by rfl):JE X (.Call (.Name "set" p) (e::es) [] pos) (tCB (b3X K P w) t):=⟨L1 (a8Y K P w hu hc hK hP hw) hg hm b5B ha.h (by decide) (by decide) he hpl⟩
theorem b1c(P:Program)(w:World)(hg:Gl X "sorted")(hm:X.mg "sorted"=none)(ha:JA X (e::es) t)(hc:X.calm=true:=by rfl)(hP:X.prog=P:=by rfl)(hw:X.w=w:=by rfl)(he:starEach (e::es) X.env=(false,eval e X.env)::starEach es X.env:=by rfl)(hpl:(backTo pos (starEach es X.env)).any (·.1)=false:=by rfl):JE X (.Call (.Name "sorted" p) (e::es) [] pos) (tCB (a9Y P w) t):=⟨G7 (a6t P w hc hP hw) hg hm a1a ha.h (by decide) (by decide) he hpl⟩
end
end L2
namespace L2
open PySem PySem.Spec PyProof.Rows
section
variable {prog:Program}{w:World}{A:Around}{E:Value->Shared->Prop}{s:Shared}
end
section
variable {X:Cx}
variable {e:Expr}{es:List Expr}{t:TA}{p pos:Pos}
end
section
variable {X:Cx}
variable {e:Expr}{es:List Expr}{t:TA}{p pos:Pos}
end
section
variable {X:Cx}{a b:Expr}{ta tb:TE}{pos:Pos}
end
theorem a1R{K:PySem.W.Frag}{src:List (Option Nat)}{σ caps:St}{Q:VK}{a:Addr}{vs:List V}{rss:LLI}{H:Hp}{te:TE}(f:List Int->List Int)(hl:vs.length<=sizeLine)(hmono:∀H',Same H H'->SqT K H' a vs)(hI:Its H vs rss)(hsrc:B2 src σ=none::caps)
  (hte:∀v r H1 (Q1:VK),r∈rss->IT H1 v r->Same H H1->(∀u H2,Same H1 H2->IT H2 u (f r)->Q1 u H2)->te (some v::caps) H1 Q1) (hd:∀H1 p ws,Same H H1->H1 p=none->Its H1 ws (rss.map f)->Q (.ref p) (upd H1 p (.lst ws))):E4 src (A9 0) M4 te σ Q (Itt K a) H:=by
 refine W3 (xs:=vs) (by omega) (λi ys H'=>Same H H'/\Its H' ys ((rss.take i).map f)) ⟨Same.refl H,by simpa using Its.nil⟩ (λi ys H' _ h=>⟨hmono H' h.1,by rw[h.2.1,List.length_map];exact List.length_take_le _ _⟩) ?_ ?_
 .rintro i x ys H' hx ⟨s,hy⟩;obtain⟨r,hr,hr2,hr3⟩:=hI.mem hx;show Sub _ ((B2 src σ).set 0 (some x))/\_;rw[hsrc];refine⟨Sub.one,hte x r H' _ hr (hr3.same s) s λu H2 s2 hu=>?_⟩;rw[List.take_add_one,hr2,List.map_append];exact⟨s.trans s2,(hy.same s2).snoc hu⟩
 .rintro ys H' ⟨s,hy⟩ p hp;rw[hI.1,List.take_length]at hy;exact hd H' p ys s hp hy
theorem Its.drop{H:Hp}{vs:List V}{rss:LLI}(h:Its H vs rss)(n:Nat):Its H (vs.drop n) (rss.drop n):=by
 refine⟨by rw[List.length_drop,List.length_drop,h.1],λi v e=>?_⟩;rw[List.getElem?_drop]at e⊢;exact h.2 _ v e
theorem Its.one{H:Hp}{v:V}{r:List Int}(h:IT H v r):Its H [v] [r]:=Its.nil.snoc h
theorem a3g:∀{a b:LLI},G0 a->G0 b->a.Nodup->b.Nodup->(∀v,v∈a↔v∈b)->a=b
 |[],[],_,_,_,_,_=>rfl
 |[],y::b,_,_,_,_,h=>by have:=(h y).mpr List.mem_cons_self;cases this
 |x::a,[],_,_,_,_,h=>by have:=(h x).mp List.mem_cons_self;cases this
 |x::a,y::b,ra,rb,na,nb,h=>by
  obtain⟨r1,r2⟩:=List.pairwise_cons.mp ra;obtain⟨q1,q2⟩:=List.pairwise_cons.mp rb;obtain⟨n1,n2⟩:=List.nodup_cons.mp na;obtain⟨m1,m2⟩:=List.nodup_cons.mp nb;have e:x=y:=by
   refine P0 x y ?_ ?_
   .rcases List.mem_cons.mp ((h x).mp List.mem_cons_self)with z|z
    .rw[z];exact L7 y
    .exact q1 x z
   .rcases List.mem_cons.mp ((h y).mpr List.mem_cons_self)with z|z
    .rw[z];exact L7 x
    .exact r1 y z
  subst e;rw[a3g r2 q2 n2 m2 λv=>?_];constructor
  .intro hv;rcases List.mem_cons.mp ((h v).mp (List.mem_cons_of_mem _ hv))with z|z
   .exact absurd (z ▸ hv) n1
   .exact z
  .intro hv;rcases List.mem_cons.mp ((h v).mpr (List.mem_cons_of_mem _ hv))with z|z
   .exact absurd (z ▸ hv) m1
   .exact z
structure Srt(rss srt:LLI):Prop where
 ri:G0 srt
 nd:srt.Nodup
 mem:∀r,r∈srt↔r∈rss
theorem Srt.eq{rss a b:LLI}(h:Srt rss a)(g:Srt rss b):a=b:=a3g h.ri g.ri h.nd g.nd λv=>(h.mem v).trans (g.mem v).symm
theorem Srt.congr{rss qss a:LLI}(h:Srt rss a)(g:∀r,r∈rss↔r∈qss):Srt qss a:=⟨h.ri,h.nd,λr=>(h.mem r).trans (g r)⟩
theorem Srt.nil:Srt [] []:=⟨.nil,.nil,λ_=>Iff.rfl⟩
theorem Srt.len{rss srt:LLI}(h:Srt rss srt):srt.length<=rss.length:=Tab.nodup_le srt rss h.nd λr hr=>(h.mem r).mp hr
end L2
namespace L2
open PySem PySem.Spec PyProof.Rows PySem.W
section
variable {prog:Program}{w:World}{κ:Type} [DecidableEq κ] {knd:HeapKind prog w κ}{A:Around}{E:Value->Shared->Prop}{s:Shared}
end
section
variable {prog:Program}{w:World}{κ:Type} [DecidableEq κ] (knd:HeapKind prog w κ)
end
section
variable {X:Cx}{pins:List (Addr×Obj)}{σ:St}{H:Hp}{s:Shared}{a b:Addr}{z:V}{r:Value}{kvs:List (List Key×V)}{k:List Key}{A:Around}{E:Value->Shared->Prop}
end
section
variable {X:Cx}{o e f:Expr}{apos cpos:Pos}{td ty tx:TE}
end
section
variable {X:Cx}
variable {e:Expr}{es:List Expr}{t:TA}{p pos:Pos}
end
end L2
namespace L2
open PySem PySem.Spec PyProof.Rows
section
open PySem.SeqAt
open PySem.AutoSeq1 (wpAny_loadPart')
open PySem.MeetsSeq PySem.MeetsSeq2 PySem.MeetsSeq3
end
section
variable {X:Cx}{pins:List (Addr×Obj)}{σ:St}{H:Hp}{s:Shared}
end
section
variable {prog:Program}{w:World}{A:Around}{I l S:Addr}{vs:List Value}{kw:List (Str×Value)}{R:Result->Shared->Prop}{h₀:Heap}{s:Shared}
end
section
variable {prog:Program}{w:World}{A:Around}{E:Value->Shared->Prop}{s:Shared}
end
section
variable {X:Cx}{e:Expr}{t:TA}{p pos kp np:Pos}{nk:Nat}
end
section
variable {X:Cx}{e:Expr}{te:TE}{pos p2:Pos}
end
section
variable {prog:Program}{w:World}{A:Around}{I l S:Addr}{vs:List Value}{kw:List (Str×Value)}{R:Result->Shared->Prop}{h₀:Heap}{s:Shared}
end
section
variable {prog:Program}{w:World}{A:Around}{E:Value->Shared->Prop}{s:Shared}
end
section
variable {X:Cx}{e:Expr}{t:TA}{p pos kp np:Pos}{nk:Nat}{d:Int}
end
open PySem.AutoSeq1 (wpAny_loadPart')
section
variable {prog:Program}{w:World}{A:Around}{E:Value->Shared->Prop}{s:Shared}
end
theorem a2f{α β:Type}{F:α->β->Prop}:∀{l₁:List α}{l₂:List β},l₁.length=l₂.length->(∀(i:Nat) x y,l₁[i]?=some x->l₂[i]?=some y->F x y)->Paired F l₁ l₂
 |[],[],_,_=>.nil
 |[],_::_,e,_=>nomatch e
 |_::_,[],e,_=>nomatch e
 |x::xs,y::ys,e,h=>.cons (h 0 x y rfl rfl) (a2f (by simpa using e) λi a b ha hb=>h (i+1) a b (by simpa using ha) (by simpa using hb))
def a1q(n:Nat):List Int:=(List.range n).map λ(i:Nat)=>(i:Int)
theorem T7(n:Nat):(a1q n).length=n:=by simp[a1q]
def b3Z:RL:=λxs H Q=>∃j:Nat,xs=[.int j]/\j<2 ^ 62/\∀l,H l=none->Q (.ref l) (upd H l (.rng 0 j))
section
variable {X:Cx}{e:Expr}{es:List Expr}{t:TA}{p pos:Pos}
theorem a8Z:E1 X (.type "range") b3Z:=by
 intro pins s σ H xs us Q I rv h;obtain⟨j,rfl,hj,q⟩:=h;obtain⟨u,rfl,ru⟩:=rv.one;obtain⟨t,rfl⟩:=ru;refine call_range_1 ?_;exact⟨.ref s.heap.objs.size,_,I.laid (a:=s.heap.objs.size) (o:=.rng 0 j) (λb o e=>Heap.get?_push_of_some _ e) (Nat.le_refl _) ⟨_,_,_,Heap.get?_push_size _ rfl⟩,rfl,q _ (I.hok.fresh (Nat.le_refl _))⟩
theorem b3o(hg:Gl X "range")(hm:X.mg "range"=none)(ha:JA X (e::es) t)(he:starEach (e::es) X.env=(false,eval e X.env)::starEach es X.env:=by rfl)(hpl:(backTo pos (starEach es X.env)).any (·.1)=false:=by rfl):JE X (.Call (.Name "range" p) (e::es) [] pos) (tCB b3Z t):=⟨L1 a8Z hg hm boot_range ha.h (by decide) (by decide) he hpl⟩
end
end L2
namespace L2
open PySem PySem.Spec PyProof.Rows
def b1n(items:Array Value)(x:Value)(i:Nat)(_:Option Fin×Unit):Sem (ForInStep (Option Fin×Unit)) :=
 match items[i]? with
 |some y=>do
  let b <-eqBool y x
  if b=true then do
    let r <-retInt (i:Int)
    pure (ForInStep.done (some r,()))
   else pure (ForInStep.yield (none,()))
 |x=>pure (ForInStep.yield (none,()))
theorem a7t{prog:Program}{w:World}{B:Around}{E:Value->Shared->Prop}{s:Shared}{items:Array Value}{x:Value}{f:Nat->Bool}{k:Nat}{Q:(Option Fin×Unit)->Shared->Prop}(hk:k<items.size)(hfk:f k=true)(hf:∀j,j<k->f j=false)(he:∀j y,items[j]?=some y->SeqAt.EqAt B s y x (f j))
  (q:Q (some (Fin.done (.ret (.int k s.toks))),()) {s with toks:=s.toks+1}):∀m j,j+m=items.size->j<=k->wpAny (model prog w) B (forIn (List.range' j m) ((none:Option Fin),()) (b1n items x)) Q E s
 |0,j,h,hj=>by omega
 |m+1,j,h,hj=>by
  rw[List.range'_succ,List.forIn_cons];have hlt:j<items.size:=by omega
  have hi:items[j]?=some items[j]:=by simp[hlt]
  refine wpAny_bind ?_;unfold b1n;rw[hi];refine wpAny_bind (he j _ hi prog w _ _ ?_);by_cases e:j=k
  .subst e;rw[hfk];obtain⟨hp,g,d,tk,os⟩:=s
   wp_walk
   exact q
  .rw[hf j (by omega)];refine wpAny_pure ?_;exact a7t hk hfk hf he q m (j+1) (by omega) (by omega)
theorem b1k(l:Addr)(items:Array Value)(n:Nat)(dd:Option Addr)(sl:Array (Option Value))(x:Value)(f:Nat->Bool)(k:Nat)(hk:k<items.size)(hfk:f k=true)(hf:∀j,j<k->f j=false) :
  Meets (Builtin.«tuple.index» ⟨[.ref l,x],[]⟩)
   (λA R s=>s.heap.get? l=some {cls:=.type "tuple",dict:=dd,data:=.seq items n,slots:=sl}/\(∀j y,items[j]?=some y->SeqAt.EqAt A.in1 s y x (f j))/\R (.ok (.ret (.int k s.toks))) {s with toks:=s.toks+1}):=by
 intro prog w A R s h;obtain⟨hp,g,d,tk,os⟩:=s;obtain⟨hl,he,h⟩:=h;unfold Builtin.«tuple.index»;simp only[Std.Legacy.Range.forIn_eq_forIn_range',Std.Legacy.Range.size]
 wp_walk using PySem.AutoSeq1.wpAny_loadPart' hl
 have e:(min items.size items.size-0+1-1) / 1=items.size:=by simp
 rw[e];refine a7t hk hfk hf he ?_ items.size 0 (by omega) (Nat.zero_le _);exact wpAny_pure h
def b0c(K:PySem.W.Frag):V->List V->Hp->VK->Prop:=λx vs H Q=>∃(a:Addr) (xs:List V) (y:V) (n:Nat) (f:Nat->Bool) (k:Nat),x=.ref a/\vs=[y]/\H a=some (.tup xs)/\n<=8/\(∀j z,xs[j]?=some z->EqV K H n z y (f j))/\k<xs.length/\f k=true/\(∀j,j<k->f j=false)/\Q (.int k) H
section
variable {X:Cx}
theorem b0M(hu:X.A.units+60<cLine):MtM X "tuple.index" (b0c X.K):=by
 intro pins s σ H x vs v us Q I rx rv h;obtain⟨a,xs,y,n,f,k,rfl,rfl,ha,hn,he,hk,hfk,hf,q⟩:=h;cases rx;obtain⟨u,rfl,ru⟩:=a2X rv;obtain⟨z,its,r,o,ho,hc,m,hd⟩:=(show ObjOk X.prog X.w H s.heap a (.tup xs)from I.hok a _ ha);obtain⟨cls,dd,data,sl⟩:=o;have hc1:cls=.type "tuple":=congrArg Prod.fst hc;simp only at hd;subst hc1 hd;have hlen:=r.length;refine call_meets PySem.F.slot_tuple_index ⟨_,ho,rfl⟩ PySem.F.entry_tuple_index (PySem.F.args_tuple_index_2 _ _) (b1k a its.toArray m dd sl u f k (by rw[List.size_toArray,<-hlen];exact hk) hfk hf) ⟨ho,λj y' hy=>?_,.int k,H,I.tok _,⟨_,rfl⟩,q⟩;have hy:its[j]?=some y':=by simpa using hy
 have hj:j<xs.length:=by rw[hlen];exact(List.getElem?_eq_some_iff.mp hy).1
 obtain⟨w',hw,rw'⟩:=r.get (List.getElem?_eq_getElem hj);rw[hy]at hw;cases hw;exact EqV.at I (he j _ (List.getElem?_eq_getElem hj)) (by show X.A.units+1+n<cLine;omega) rw' ru
def b5V(r:V->List V->Hp->VK->Prop)(to:TE)(t:TA):TE:=λσ H Q=>to σ H λx H1=>(∃a xs,x=.ref a/\H1 a=some (.tup xs))/\t σ H1 λvs H2=>r x vs H2 Q
variable {o e:Expr}{es:List Expr}{to:TE}{t:TA}{name:Str}{apos cpos pos:Pos}{id:String}{r:V->List V->Hp->VK->Prop}
theorem b4U(slot:Slot "tuple" name id)(hty:typeOf (.builtin id)=pure (.type "method_descriptor"))(hm:MtM X id r)(ho:PE X o to)(ha:PA X (e::es) t)
  (hbase:attributeBase o name X.env (eval o X.env)=eval o X.env:=by rfl)
  (hfew:((backTo cpos (starEach (e::es) X.env)).all (λx=>!x.1) && (backToKw cpos (keywordEach [] X.env)).all (λx=>x.1.isSome)
   && decide ((e::es).length+([]:List Keyword).length+(if ([]:List Keyword).isEmpty then 0 else 1)<30))=true:=by rfl)
  (hline:(apos.endLine==cpos.line)=true:=by rfl) (hs:starEach (e::es) X.env=(false,eval e X.env)::starEach es X.env:=by rfl) (hplain:(backTo cpos (starEach es X.env)).any (·.1)=false:=by rfl) :
  PE X (.Call (.Attribute o name apos) (e::es) [] cpos) (b5V r to t):=by
 intro pins s σ H Q I h;refine wpAny_Call_method_late hbase hfew hline rfl (thn (ho pins s σ H _ I h) λv s1 ⟨x,H1,I1,r1,⟨a,xs,hx,hax⟩,q1⟩=>?_);subst hx;cases r1;obtain⟨z,its,rr,ob,hob,hc,m,hd⟩:=(show ObjOk X.prog X.w H1 s1.heap a (.tup xs)from I1.hok a _ hax);refine⟨"tuple",id,PySem.F.plainAttrs_tuple,slot,hty,⟨ob,hob,congrArg Prod.fst hc⟩,(λb eb=>by cases eb;exact⟨ob,hob,congrArg Prod.snd hc⟩),?_⟩;have hA:=ha cpos pins s1 σ H1 _ I1 q1;rw[hs]at hA⊢;refine Calls.callWith_builtin (by show(false || (backTo cpos (starEach es X.env)).any (·.1))=false;rw[hplain]<;>rfl) (Calls.evalArgs_plain ?_);exact thn hA λus s2 ⟨vs,H2,I2,r2,q2⟩=>hm pins s2 σ H2 (.ref a) vs (.ref a) us Q I2 rfl r2 q2
theorem a8J(K:PySem.W.Frag)(hu:X.A.units+60<cLine)(ho:JE X o to)(ha:JA X (e::es) t)(hK:X.K=K:=by rfl)(hbase:attributeBase o "index" X.env (eval o X.env)=eval o X.env:=by rfl)
  (hfew:((backTo cpos (starEach (e::es) X.env)).all (λx=>!x.1) && (backToKw cpos (keywordEach [] X.env)).all (λx=>x.1.isSome) && decide ((e::es).length+([]:List Keyword).length+(if ([]:List Keyword).isEmpty then 0 else 1)<30))=true:=by rfl)
  (hline:(apos.endLine==cpos.line)=true:=by rfl) (hs:starEach (e::es) X.env=(false,eval e X.env)::starEach es X.env:=by rfl) (hplain:(backTo cpos (starEach es X.env)).any (·.1)=false:=by rfl) :
  JE X (.Call (.Attribute o "index" apos) (e::es) [] cpos) (b5V (b0c K) to t):=by
 subst hK;exact⟨b4U PySem.F.slot_tuple_index PySem.F.type_tuple_index (b0M hu) ho.h ha.h hbase hfew hline hs hplain⟩
def b0b:RL:=λxs H Q=>∃(a:Addr) (n:Nat),xs=[.ref a]/\H a=some (.rng 0 n)/\n<=2 ^ 24/\n<=sizeLine/\∀l,H l=none->Q (.ref l) (upd H l (.lst ((a1q n).map V.int)))
theorem a6w(hc:X.calm=true):E1 X (.type "list") b0b:=by
 intro pins s σ H xs us Q I rv h;obtain⟨d,n,rfl,hd,hn,hz,q⟩:=h;obtain⟨u,rfl,ru⟩:=rv.one;cases ru;obtain⟨t1,t2,t3,e1⟩:=(show ObjOk X.prog X.w H s.heap d (.rng 0 n)from I.hok _ _ hd);have hs:Builtin.Range.rangeSize 0 (n:Int) 1=n:=by rw[rangeSize_one];split<;>omega
 refine call_list_range (I.ok.hd hc) e1 (small_one (by omega) (by omega) (by omega) (by omega)) hs hn λh' tk acc c' hk hS' hit=>?_;have hv:Vals ((a1q n).map V.int) acc.toList:=by
  refine a2f ?_ λi x y hx hy=>?_
  .rw[List.length_map,T7,Array.length_toList,hit.1]
  .rw[Array.getElem?_toList]at hy;obtain⟨t,rfl⟩:=hit.2 i y hy;have hi:i<n:=by have:=(List.getElem?_eq_some_iff.mp hx).1;rw[List.length_map,T7]at this;exact this
   have:x=.int (i:Int):=by
    rw[List.getElem?_map,a1q,List.getElem?_map,List.getElem?_range hi]at hx;simpa using hx.symm
   rw[this];exact⟨t,by simp⟩
 exact⟨.ref s.heap.objs.size,_,I.laid (t':=tk) (a:=s.heap.objs.size) (o:=.lst ((a1q n).map V.int)) hk (Nat.le_refl _) (show ObjOk X.prog X.w _ _ _ (.lst ((a1q n).map V.int))from⟨by rw[List.length_map,T7];exact hz,acc.toList,c',hv,by rw[Array.toArray_toList];exact hS'⟩),rfl,q _ (I.hok.fresh (Nat.le_refl _))⟩
theorem b1e{p:Pos}(hg:Gl X "list")(hm:X.mg "list"=none)(ha:JA X (e::es) t)(hc:X.calm=true:=by rfl)(he:starEach (e::es) X.env=(false,eval e X.env)::starEach es X.env:=by rfl)(hpl:(backTo pos (starEach es X.env)).any (·.1)=false:=by rfl):JE X (.Call (.Name "list" p) (e::es) [] pos) (tCB b0b t):=⟨L1 (a6w hc) hg hm a7N ha.h (by decide) (by decide) he hpl⟩
end
end L2
namespace K37
open PySem PySem.Spec PyProof.Rows L2
noncomputable def top(i:Nat):Stmt:=PySem.Challenge.pw_leastlays_k37_dropped_and_turned.main.body.getD i (.Pass ⟨0,0,0,0⟩)
noncomputable abbrev a1H:Stmt:=top 1
noncomputable abbrev a3U:Stmt:=top 2
noncomputable abbrev a1E:Stmt:=top 4
noncomputable abbrev X2:Stmt:=top 5
noncomputable abbrev a0o:Stmt:=top 6
noncomputable abbrev a0m:Stmt:=top 7
noncomputable abbrev a0l:Stmt:=top 12
noncomputable abbrev X0:Stmt:=top 14
noncomputable abbrev a3V:Stmt:=top 15
noncomputable abbrev M6:Stmt:=top 16
noncomputable abbrev X1:Stmt:=top 17
noncomputable abbrev a1G:Stmt:=top 18
noncomputable abbrev J1:Stmt:=top 20
noncomputable abbrev a0n:Stmt:=top 21
noncomputable abbrev a1D:Stmt:=top 22
noncomputable abbrev M5:Stmt:=top 24
noncomputable abbrev K4:Stmt:=top 25
noncomputable abbrev a1F:Stmt:=top 27
noncomputable abbrev Q0:Stmt:=top 29
noncomputable abbrev M7:Stmt:=top 30
noncomputable abbrev J3:Stmt:=top 31
noncomputable abbrev J2:Stmt:=top 32
noncomputable abbrev G3:Stmt:=top 33
noncomputable abbrev M8:Stmt:=top 34
noncomputable abbrev M9:Stmt:=top 35
noncomputable abbrev K5:Stmt:=top 36
noncomputable abbrev E6:Stmt:=top 37
noncomputable abbrev C1:Stmt:=top 38
noncomputable abbrev C7:Stmt:=top 39
noncomputable abbrev a1Z:Stmt:=top 40
noncomputable abbrev D6:Stmt:=R0 (top 26) 0
noncomputable abbrev Z2:Stmt:=R0 (top 26) 1
noncomputable abbrev C2:Stmt:=R0 (top 26) 2
noncomputable abbrev U6:Stmt:=R0 (top 26) 3
noncomputable abbrev J4:Stmt:=R0 (top 26) 4
noncomputable abbrev G4:Stmt:=R0 (top 26) 5
noncomputable abbrev G5:Stmt:=R0 (top 26) 6
structure Tx(mg:Str->Option Value):Prop where
 b_ValueError:mg "ValueError"=none
 b_abs:mg "abs"=none
 b_all:mg "all"=none
 b_bool:mg "bool"=none
 b_int:mg "int"=none
 b_isinstance:mg "isinstance"=none
 b_len:mg "len"=none
 b_list:mg "list"=none
 b_range:mg "range"=none
 b_set:mg "set"=none
 b_sorted:mg "sorted"=none
 b_sum:mg "sum"=none
 b_tuple:mg "tuple"=none
 b_zip:mg "zip"=none
structure PotAt(H:Hp)(a b:Addr)(n:Nat):Prop where
 ne:a≠b
 ex:∃(cs:List Int) (t k:Int),H a=some (.lst [.ref b,.int t])/\H b=some (.lst (cs.map V.int))/\cs.length<=63/\(∀c∈cs,0<=c)/\0<=t/\t<2 ^ 61/\0<=k/\k<=n
theorem PotAt.same{H H':Hp}{a b:Addr}{n:Nat}(h:PotAt H a b n)(s:Same H H'):PotAt H' a b n:=by
 obtain⟨ne,cs,t,k,h1,h2,h3⟩:=h;exact⟨ne,cs,t,k,s _ _ h1,s _ _ h2,h3⟩
theorem PotAt.mono{H:Hp}{a b:Addr}{n m:Nat}(h:PotAt H a b n)(hm:n<=m):PotAt H a b m:=by
 obtain⟨ne,cs,t,k,h1,h2,h3,h4,h5,h6,h7,h8⟩:=h;exact⟨ne,cs,t,k,h1,h2,h3,h4,h5,h6,h7,by omega⟩
theorem a7I{ns:List Int}{hi:Option Int}{i:Nat}{x:V}(h:(M2 (ns.map V.int) none hi)[i]?=some x):∃z,x=V.int z:=by
 unfold M2 at h;have hm:=List.mem_of_getElem? h;have hm2:=List.mem_of_mem_drop (List.mem_of_mem_take hm);obtain⟨z,_,e⟩:=List.mem_map.mp hm2;exact⟨z,e.symm⟩
theorem b3C{ns:List Int}{hi:Option Int}:(M2 (ns.map V.int) none hi).length<=ns.length:=by
 have:=W1 (ns.map V.int) none hi;rwa[List.length_map]at this
section
variable {P:Program}{w:World}{K:PySem.W.Frag}{mg:Str->Option Value}{base:Heap}
inductive IspPot(K:PySem.W.Frag)(vs:List V)(H:Hp)(Q:VK)(E:XK):Prop
 |mk (a:Addr) (ns:List Int) (_:vs=[.ref a]) (_:SqL K H a (ns.map V.int)) (_:ns.length<=63) (_:∀p b H',H p=none->H b=none->PotAt H' p b 0->Same H H'->Q (.ref p) H'):IspPot K vs H Q E
def b3T(K:PySem.W.Frag):Sp:=λvs H Q E=>IspPot K vs H Q E
theorem sc__law_pot:FnScope ["_law_script","_law_seed","_law_cell"] ["_law_script"] (A3 Q0):=⟨rfl,rfl,rfl,by decide +kernel,rfl,by decide +kernel,by decide +kernel⟩
theorem b5h(F:FunAt K mg "_law_pot" Q0 ["_law_script"])(T:Tx mg):Ok P w K mg base "_law_pot" 1 ["_law_script"] (b3T K):=by
 refine F.okJ sc__law_pot (λvs H Q E h=>?_) (λcdv f A outer s H vs Q E hr h=>?_)
 .obtain⟨a,ns,rfl,_⟩:=h;rfl
 .obtain⟨a,ns,rfl,hS,hl,k⟩:=h;refine⟨_,(A2 (B1 (i:=1) sc__law_pot.nd rfl (Or.inl rfl) A4)
 (A2 (Q6 (K9 K (b1g K (jv 0) I0 (G9 A4))) (A8 (i:=2) sc__law_pot.nd rfl (Or.inl rfl))
 (A5 (B1 (i:=1) sc__law_pot.nd rfl (Or.inl rfl) (a2v (L9 (L9 (a2u (jv 1) A4) (a2v (jv 2) (a7r A4 A4))) A4) A4))))
 (A5 (B0 (O2 (jaC (B7 (N:=["_law_cell"]) (src:=[none]) (K9 K (b1g K (jv 0) I0 (G9 A4))) (by show B8 _ _=true;rfl) (by rfl) (by rfl)
 (λ_ _ _ _ _=>(A8 (i:=0) (show(["_law_cell"]:List Str).Nodup by decide +kernel) rfl (Or.inl rfl))) (λ_ _ _ _ _=>(a0b (b6u (b1f rfl T.b_abs (jaC (jv 0) jaN)) (a7r A4 A4)))) (λ_ _ _ _ _=>(b1f rfl T.b_abs (jaC (jv 0) jaN)))) (jaC (jv 1) jaN))))))),?_⟩
  refine⟨_,rfl,63,rfl,a,_,rfl,hS,λp hp=>?_⟩;refine⟨p,rfl,⟨_,SqL.of A0⟩,?_⟩;refine V9 (K:=K) (a:=p) (xs:=M2 (ns.map V.int) none (some 63)) (λi σ H2=>Ex2 λ(t:Int) (v:Option V)=>An4 (σ=[some (.ref a),some (.int t),v]) (0<=t) (t<2 ^ 61) (H2=upd H p (.lst (M2 (ns.map V.int) none (some 63)))))
   ⟨29,none,rfl,by decide,by decide,rfl⟩ (λi σ H2 _ ⟨_,_,_,_,_,e⟩=>by rw[e];exact SqL.of A0) ?_ ?_
  .rintro i x σ H2 hx ⟨t,v,rfl,h0,h1,rfl⟩;obtain⟨z,rfl⟩:=a7I hx;dsimp only[A9];refine⟨_,rfl,_,_,rfl,rfl,.inl ⟨by omega,by omega⟩,_,rfl,_,_,rfl,rfl,⟨by decide,by decide,by decide⟩,_,_,rfl,rfl,(show(0:Int)<10 ^ Int.toNat 30 by decide),_,_,rfl,rfl,_,_,rfl,rfl,_,_,rfl,rfl,(show(0:Int)<2305843009213693951 by decide),?_⟩;refine⟨_,_,rfl,Int.emod_nonneg _ (by decide),?_,rfl⟩;have:=Int.emod_lt_of_pos (t*6364136223846793005+z % 10 ^ Int.toNat 30+1442695040888963407) (show(0:Int)<2305843009213693951 by decide);omega
  .rintro σ H2 ⟨t,v,rfl,h0,h1,rfl⟩;have sS:Same H (upd H p (.lst (M2 (ns.map V.int) none (some 63)))):=(Same.refl H).upd hp;generalize upd H p (.lst (M2 (ns.map V.int) none (some 63)))=H1 at sS;refine⟨_,rfl,63,rfl,a,_,rfl,sS.seq hS,λp2 hp2=>?_⟩;have s2:Same H (upd H1 p2 (.lst (M2 (ns.map V.int) none (some 63)))):=sS.upd hp2;refine⟨p2,rfl,⟨_,SqL.of A0⟩,?_⟩;have hz:(1000:Nat)<=sizeLine:=by rw[sizeLine_eq];decide
   have hcl:=b3C (ns:=ns) (hi:=some 63);refine a0Y (K:=K) (a:=p2) (xs:=M2 (ns.map V.int) none (some 63)) (by omega) (λi ys H3=>H3=upd H1 p2 (.lst (M2 (ns.map V.int) none (some 63)))/\ys.length<=i/\∃cs:List Int,ys=cs.map V.int/\∀c∈cs,0<=c)
    ⟨rfl,Nat.le_refl _,[],rfl,λ_ h=>nomatch h⟩ (λi ys H3 _ ⟨e,e2,_⟩=>⟨by rw[e];exact SqL.of A0,e2⟩) ?_ ?_
   .rintro i x ys H3 hx ⟨rfl,hy,cs,rfl,hc⟩;obtain⟨z,rfl⟩:=a7I hx;refine⟨Sub.one,?_⟩;refine⟨_,rfl,z,rfl,_,_,rfl,rfl,⟨by decide,by decide,by decide⟩,_,_,rfl,rfl,_,rfl,T3 (λhz=>?_) (λhz=>?_)⟩
    .refine⟨_,rfl,z,rfl,rfl,by rw[List.length_append];simpa using hy,cs++[if z<0 then -z else z],by simp,λc hcm=>?_⟩;rcases List.mem_append.mp hcm with q|q
     .exact hc c q
     .rw[List.mem_singleton.mp q];split<;>omega
    .exact⟨rfl,by omega,cs,rfl,hc⟩
   .rintro ys H3 ⟨rfl,hy,cs,rfl,hc⟩ p3 hp3;refine⟨_,rfl,by show 2<=sizeLine;omega,λp4 hp4=>?_⟩;have s3:=s2.upd (o:=.lst (cs.map V.int)) hp3;refine k p4 p3 _ (s3.free hp4) (s2.free hp3) ⟨?_,cs,t,0,A0,?_,?_,hc,h0,h1,by decide,by decide⟩ (s3.upd hp4)
    .exact(A7 (o:=.lst (cs.map V.int)) A0 hp4).symm
    .exact T8 A0 hp4
    .rw[List.length_map]at hy;omega
theorem at0{x y:V}:atI [x,y] 0=some x:=rfl
theorem at1{x y:V}:atI [x,y] 1=some y:=rfl
theorem atc{x:V}{xs:List V}:atI (x::xs) 0=some x:=Y8 (j:=0) rfl
theorem b6O{x:Int}{xs:List Int}:ixN ((x::xs).map V.int).length 0=some 0:=by
 rw[List.length_map,List.length_cons];unfold ixN;rw[if_pos (by decide),if_pos (by omega)];rfl
inductive IspTake(vs:List V)(H:Hp)(Q:VK)(E:XK):Prop
 |mk (a b:Addr) (n:Nat) (m:Int) (_:vs=[.ref a,.int m]) (_:PotAt H a b n) (_:n<2 ^ 60) (_:0<m) (_:m<2 ^ 60) (_:∀r H',0<=r->r<m->PotAt H' a b (n+1)->Off [a,b] H H'->Q (.int r) H'):IspTake  vs H Q E
def U0:Sp:=λvs H Q E=>IspTake  vs H Q E
theorem sc__law_take:FnScope ["_law_pot_here","_law_many","_law_number_here","_law_mixed"] ["_law_pot_here","_law_many"] (A3 M7):=⟨rfl,rfl,rfl,by decide +kernel,rfl,by decide +kernel,by decide +kernel⟩
theorem b3e(F:FunAt K mg "_law_take" M7 ["_law_pot_here","_law_many"])(T:Tx mg):Ok P w K mg base "_law_take" 1 ["_law_pot_here","_law_many"] U0:=by
 refine F.okJ sc__law_take (λvs H Q E h=>?_) (λcdv f A outer s H vs Q E hr h=>?_)
 .obtain⟨a,b,n,m,rfl,_⟩:=h;rfl
 .obtain⟨a,b,n,m,rfl,⟨ne,cs,t,k,ha,hb,hlen,hpos,ht0,ht1,hk0,hk1⟩,hn,hm0,hm1,kk⟩:=h;have hu:=hr.u60;refine⟨_,(A2 (D8 (a2r K hu (L8 K (jv 0) A4) (O2 jaN))
 (A2 (B1 (i:=2) sc__law_take.nd rfl (Or.inl rfl) (L8 K (L8 K (jv 0) A4) A4))
 (A2 (a0T (b3r (jv 2) (jv 1)) (a4h (L8 K (jv 0) A4) A4))
 (A2 (D8 (V2 (L8 K (L8 K (jv 0) A4) A4) A4)
 (A5 (Q8 (a5o K (L8 K (jv 0) A4) (jaC A4 jaN))))
 C0)
 (A5 (B0 (a2v (jv 2) (jv 1)))))))
 C0)
 (A2 (a0T (a2v (L9 (a2u (L8 K (jv 0) A4) A4) A4) A4) (a4h (jv 0) A4))
 (A2 (B1 (i:=3) sc__law_take.nd rfl (Or.inl rfl) (a2v (a2u (L9 (a2v (L8 K (jv 0) A4) A4) A4) (L9 (b1h (L8 K (jv 0) A4) A4) A4)) A4))
 (A5 (B0 (a2v (b1h (jv 3) A4) (jv 1))))))),?_⟩
  refine b5N (b:=b) (cs:=cs) (λQ' q=>ixL (var rfl) con ha at0 q) hb λp hp=>?_;have ha1:=T8 (o:=.lst []) ha hp;have hb1:=T8 (o:=.lst []) hb hp;have off1:Off [a,b] H (upd H p (.lst [])):=(Off.refl _ _).upd hp;generalize upd H p (.lst [])=H1 at ha1 hb1 off1;cases cs with
  |nil =>
   refine E5 ?_;refine⟨_,rfl,a,_,1,_,rfl,rfl,SqL.of ha1,at1,_,_,rfl,rfl,.inl ⟨by omega,by omega⟩,_,_,rfl,rfl,_,_,rfl,rfl,(show(0:Int)<2305843009213693951 by decide),?_⟩;dsimp only;generalize hx:(t*3935559000370003845+2691343689449507681) % 2305843009213693951=x;have hx0:0<=x:=by rw[<-hx];exact Int.emod_nonneg _ (by decide)
   have hx1:x<2305843009213693951:=by rw[<-hx];exact Int.emod_lt_of_pos _ (by decide)
   refine⟨_,rfl,a,_,1,1,rfl,rfl,ha1,rfl,?_⟩;have hP:PotAt (upd H1 a (.lst [.ref b,.int x])) a b (n+1):=⟨ne,[],x,0,A0,by rw[A1 ne.symm];exact hb1,by decide,(λ_ z=>nomatch z),hx0,by omega,by decide,by omega⟩;have off2:Off [a,b] H (upd H1 a (.lst [.ref b,.int x])):=off1.set (by simp);have ha2:upd H1 a (.lst [.ref b,.int x]) a=some (.lst [.ref b,.int x]):=A0;dsimp only[List.set_cons_succ,List.set_cons_zero];generalize upd H1 a (.lst [.ref b,.int x])=H2 at hP off2 ha2⊢;have q0:0<=x % 1000000007:=Int.emod_nonneg _ (by decide);have q1:x % 1000000007<1000000007:=Int.emod_lt_of_pos _ (by decide);refine⟨_,rfl,a,_,1,_,rfl,rfl,SqL.of ha2,at1,_,_,rfl,rfl,(show(0:Int)<1000000007 by decide),_,_,rfl,rfl,_,rfl,a,_,1,_,rfl,rfl,SqL.of ha2,at1,_,_,rfl,rfl,⟨by decide,by decide⟩,_,_,rfl,rfl,_,_,rfl,rfl,.inl ⟨by omega,by omega⟩,_,_,rfl,rfl,(show(0:Int)<2305843009213693921 by decide),?_⟩;dsimp only[A9];refine⟨_,rfl,_,_,rfl,rfl,⟨by decide,by decide⟩,_,rfl,_,_,rfl,rfl,hm0,?_⟩;exact kk _ _ (Int.emod_nonneg _ (by omega)) (Int.emod_lt_of_pos _ hm0) hP off2
  |cons c cs =>
   refine V6 ?_;have hc0:0<=c:=hpos c List.mem_cons_self;have hlc:cs.length+1<=63:=hlen;refine⟨_,rfl,a,_,0,_,rfl,rfl,SqL.of ha1,at0,b,_,0,_,rfl,rfl,SqL.of hb1,atc,?_⟩;dsimp only[A9];refine⟨_,rfl,_,rfl,_,_,rfl,rfl,⟨hm0,by omega⟩,?_⟩;refine⟨_,rfl,a,_,0,_,rfl,rfl,SqL.of ha1,at0,b,_,0,0,rfl,rfl,hb1,b6O,?_⟩;have hq0:0<=c / m:=Int.ediv_nonneg hc0 (by omega);dsimp only;generalize hH:upd H1 b _=H2;have hb2:H2 b=some (.lst ((c / m::cs).map V.int)):=by rw[<-hH];exact A0
   have ha2:H2 a=some (.lst [.ref b,.int t]):=by rw[<-hH,A1 ne];exact ha1
   have off2:Off [a,b] H H2:=by rw[<-hH];exact off1.set (by simp)
   refine K3 (λσ H'=>Ex1 λo=>An3 (σ=[some (.ref a),some (.int m),some (.int c),o]) (PotAt H' a b (n+1)) (Off [a,b] H H')) ?fin λfin=>?_
   case fin =>
    rintro σ H' ⟨o,rfl,hP,off⟩;refine⟨_,rfl,_,rfl,_,_,rfl,rfl,hm0,?_⟩;exact kk _ _ (Int.emod_nonneg _ (by omega)) (Int.emod_lt_of_pos _ hm0) hP off
   refine⟨_,rfl,a,_,0,_,rfl,rfl,SqL.of ha2,at0,b,_,0,_,rfl,rfl,SqL.of hb2,atc,rfl,_,rfl,T3 (λe=>?_) (λe=>?_)⟩
   .refine⟨_,rfl,a,_,0,_,rfl,rfl,SqL.of ha2,at0,.inl ⟨rfl,_,SqL.of hb2⟩,b,_,0,0,_,rfl,rfl,hb2,by decide,by decide,seqIndex_of (by decide) (by simp),rfl,?_⟩;exact fin _ _ ⟨none,rfl,⟨ne,cs,t,0,by rw[A1 ne];exact ha2,A0,by omega,λx hx=>hpos x (List.mem_cons_of_mem _ hx),ht0,ht1,by decide,by omega⟩,off2.set (by simp)⟩
   .refine fin _ _ ⟨none,rfl,⟨ne,c / m::cs,t,0,ha2,hb2,hlen,λx hx=>?_,ht0,ht1,by decide,by omega⟩,off2⟩;rcases List.mem_cons.mp hx with rfl|hx
    .exact hq0
    .exact hpos x (List.mem_cons_of_mem _ hx)
end
theorem W4{ns:List Int}{k:Nat}(h:k<ns.length):atI (ns.map V.int) (k:Int)=some (.int (ns.getD k 0)):=by
 refine Y8 ?_;rw[List.getElem?_map,List.getElem?_eq_getElem h];simp[List.getD_eq_getElem?_getD,h]
theorem b4d{H:Hp}{a b:Addr}{n:Nat}(h:PotAt H a b n){c:Addr}{xs:List V}(hc:H c=some (.tup xs)):c∉[a,b]:=by
 obtain⟨_,cs,t,k,h1,h2,_⟩:=h;simp only[List.mem_cons,List.not_mem_nil,or_false,not_or];exact⟨L5 hc h1 (by intro z;cases z),L5 hc h2 (by intro z;cases z)⟩
theorem IT.off{H H':Hp}{v:V}{ns:List Int}{a b:Addr}{n:Nat}(h:IT H v ns)(hP:PotAt H a b n)(o:Off [a,b] H H'):IT H' v ns:=by
 obtain⟨c,e,q⟩:=h;exact⟨c,e,o c _ (b4d hP q) q⟩
theorem sqt{K:PySem.W.Frag}{H:Hp}{a:Addr}{xs:List V}(h:H a=some (.tup xs)):SqK true K H a xs:=SqT.of h
noncomputable def Bel(xs ys:List Int):Bool:=(List.zipWith (λa b=>decide (a<=b)) xs ys).all id
theorem b5K(xs ys:List Int):(List.zipWith (λa b=>V.bl (decide (a<=b))) xs ys).all trV=Bel xs ys:=by
 unfold Bel;induction xs generalizing ys with
 |nil=>rfl
 |cons x xs ih =>
  cases ys with
  |nil=>rfl
  |cons y ys=>simp only[List.zipWith_cons_cons,List.all_cons,ih ys];rfl
theorem a6B{γ:Type}(f:Int->Int->Int)(g:Int->γ):∀xs ys:List Int,List.zipWith (λa b=>g (f a b)) xs ys=(List.zipWith f xs ys).map g
 |[],_=>rfl
 |_::_,[]=>rfl
 |x::xs,y::ys=>by rw[List.zipWith_cons_cons,List.zipWith_cons_cons,List.map_cons,a6B f g xs ys]
section
variable {P:Program}{w:World}{K:PySem.W.Frag}{mg:Str->Option Value}{base:Heap}
end
noncomputable def dot(xs ys:List Int):Int:=(List.zipWith (λa b=>a*b) xs ys).sum
noncomputable def Ans(rss:LLI)(ys:List Int):Bool:=rss.all λr=>decide (dot r ys=0)
def Sm(ys:List Int):Prop:=∀z∈ys,-2 ^ 64<z/\z<2 ^ 64
section
variable {P:Program}{w:World}{K:PySem.W.Frag}{mg:Str->Option Value}{base:Heap}
inductive IspRowSum(vs:List V)(H:Hp)(Q:VK)(E:XK):Prop
 |mk (x:_) (y:_) (xs:_) (ys:_) (_:vs=[x,y]) (_:IT H x xs) (_:IT H y ys) (_:xs.length<=1000) (_:Sm ys) (_:∀H',Same H H'->Q (.int (dot xs ys)) H'):IspRowSum  vs H Q E
def a4I:Sp:=λvs H Q E=>IspRowSum  vs H Q E
theorem a5Q:FnScope ["row","one"] ["row","one"] (A3 X0):=⟨rfl,rfl,rfl,by decide +kernel,rfl,by decide +kernel,by decide +kernel⟩
theorem a6a(F:FunAt K mg "row_sum" X0 ["row","one"])(T:Tx mg):Ok P w K mg base "row_sum" 1 ["row","one"] a4I:=by
 refine F.okJ a5Q (λvs H Q E h=>?_) (λcdv f A outer s H vs Q E hr h=>?_)
 .obtain⟨x,y,xs,ys,rfl,_⟩:=h;rfl
 .obtain⟨_,_,xs,ys,rfl,⟨a,rfl,ha⟩,⟨b,rfl,hb⟩,hl,hs,k⟩:=h;refine⟨_,(A5 (B0 (b1b K rfl T.b_sum (jaC (B7 (N:=["a","b"]) (src:=[none,none]) (a2s K rfl T.b_zip (jaC (jv 0) (jaC (jv 1) jaN))) (by show B8 _ _=true;rfl) (by rfl) (by rfl)
 (λ_ _ _ _ _=>(V4 K 2 (B9 (A8 (i:=0) (show(["a","b"]:List Str).Nodup by decide +kernel) rfl (Or.inl rfl)) (B9 (A8 (i:=1) (show(["a","b"]:List Str).Nodup by decide +kernel) rfl (Or.inl rfl)) O1)))) (λ_ _ _ _ _=>C6) (λ_ _ _ _ _=>(a2u (jv 0) (jv 1)))) jaN)))),?_⟩
  refine⟨_,rfl,_,rfl,true,true,a,b,rfl,⟨_,SqT.of ha⟩,⟨_,SqT.of hb⟩,?_⟩;refine a7R (caps:=[]) (λx y=>V.int (x*y)) hl (λH' s=>⟨sqt (s _ _ ha),sqt (s _ _ hb)⟩) rfl (λx y H1 Q1 _ hy _ q=>⟨_,rfl,_,rfl,_,_,rfl,rfl,.inr (hs y hy),q⟩) λH1 p s hp=>?_;rw[a6B (λx y=>x*y) V.int];exact⟨false,p,_,rfl,SqL.of A0,k _ (s.upd hp)⟩
inductive IspSums(vs:List V)(H:Hp)(Q:VK)(E:XK):Prop
 |mk (a:Addr) (y:V) (us:List V) (rss:LLI) (ys:List Int) (_:vs=[.ref a,y]) (_:H a=some (.tup us)) (_:Its H us rss) (_:IT H y ys) (_:us.length<=1000) (_:(∀r∈rss,r.length<=1000)) (_:Sm ys) (_:∀v H',Same H H'->IT H' v (rss.map λr=>dot r ys)->Q v H'):IspSums  vs H Q E
def a5L:Sp:=λvs H Q E=>IspSums  vs H Q E
theorem b2q:FnScope ["rows","one"] ["rows","one"] (A3 a3V):=⟨rfl,rfl,rfl,by decide +kernel,rfl,by decide +kernel,by decide +kernel⟩
theorem b3f(F:FunAt K mg "sums" a3V ["rows","one"])(T:Tx mg)(O_row_sum:Ok P w K mg base "row_sum" 1 ["row","one"] a4I):Ok P w K mg base "sums" 2 ["rows","one"] a5L:=by
 refine F.okJ b2q (λvs H Q E h=>?_) (λcdv f A outer s H vs Q E hr h=>?_)
 .obtain⟨a,y,us,rss,ys,rfl,_⟩:=h;rfl
 .obtain⟨a,y,us,rss,ys,rfl,ha,hI,hy,hl,hl2,hs,k⟩:=h;refine⟨_,(A5 (B0 (B5 K rfl T.b_tuple (jaC (B7 (N:=["row","one"]) (src:=[none,some 1]) (J0 K (jv 0)) (by show B8 _ _=true;rfl) (by rfl) (by rfl)
 (λ_ _ _ _ _=>(A8 (i:=0) (show(["row","one"]:List Str).Nodup by decide +kernel) rfl (Or.inl rfl))) (λ_ _ _ _ _=>C6) (λ_ _ _ _ _=>(A6 O_row_sum (hr.mono (by omega)) rfl (jaC (jv 0) (jaC (jv 1) jaN))))) jaN)))),?_⟩
  refine⟨_,rfl,a,rfl,⟨_,SqT.of ha⟩,?_⟩;refine b2d (caps:=[some y]) (λr=>V.int (dot r ys)) hl (λH' s=>SqT.of (s _ _ ha)) hI rfl (λv r H1 Q1 hr hv s1 q=>⟨_,rfl,_,rfl,v,y,r,ys,rfl,hv,hy.same s1,hl2 r hr,hs,q⟩) λH1 p s hp=>?_;rw[show(rss.map λr=>V.int (dot r ys))=(rss.map λr=>dot r ys).map V.int by rw[List.map_map];rfl];refine⟨p,_,rfl,.inl ⟨SqL.of A0,λl hl=>?_⟩⟩;exact k _ _ ((s.upd hp).upd hl) ⟨l,rfl,A0⟩
inductive IspIsAns(vs:List V)(H:Hp)(Q:VK)(E:XK):Prop
 |mk (a:Addr) (y:V) (us:List V) (rss:LLI) (ys:List Int) (_:vs=[.ref a,y]) (_:H a=some (.tup us)) (_:Its H us rss) (_:IT H y ys) (_:us.length<=1000) (_:(∀r∈rss,r.length<=1000)) (_:Sm ys) (_:∀H',Same H H'->Q (.bl (Ans rss ys)) H'):IspIsAns  vs H Q E
def a6V:Sp:=λvs H Q E=>IspIsAns  vs H Q E
theorem a3R:FnScope ["rows","one"] ["rows","one"] (A3 M6):=⟨rfl,rfl,rfl,by decide +kernel,rfl,by decide +kernel,by decide +kernel⟩
theorem a4c(F:FunAt K mg "is_answer" M6 ["rows","one"])(T:Tx mg)(O_sums:Ok P w K mg base "sums" 2 ["rows","one"] a5L):Ok P w K mg base "is_answer" 3 ["rows","one"] a6V:=by
 refine F.okJ a3R (λvs H Q E h=>?_) (λcdv f A outer s H vs Q E hr h=>?_)
 .obtain⟨a,y,us,rss,ys,rfl,_⟩:=h;rfl
 .obtain⟨a,y,us,rss,ys,rfl,ha,hI,hy,hl,hl2,hs,k⟩:=h;refine⟨_,(A5 (B0 (a4i K rfl T.b_all (jaC (B7 (N:=["total"]) (src:=[none]) (J0 K (A6 O_sums (hr.mono (by omega)) rfl (jaC (jv 0) (jaC (jv 1) jaN)))) (by show B8 _ _=true;rfl) (by rfl) (by rfl)
 (λ_ _ _ _ _=>(A8 (i:=0) (show(["total"]:List Str).Nodup by decide +kernel) rfl (Or.inl rfl))) (λ_ _ _ _ _=>C6) (λ_ _ _ _ _=>(a3n (jv 0) A4))) jaN)))),?_⟩
  refine⟨_,rfl,_,rfl,a,y,us,rss,ys,rfl,ha,hI,hy,hl,hl2,hs,λv H1 s1 hv=>?_⟩;obtain⟨q,rfl,hq⟩:=hv;refine⟨q,rfl,⟨_,SqT.of hq⟩,?_⟩;refine a0i (caps:=[]) (λx=>V.bl (decide (V.int x=V.int 0))) (by rw[List.length_map,<-hI.1];exact hl) (λH' s=>SqT.of (s _ _ hq)) rfl (λx H2 Q2 _ _ q=>⟨_,rfl,rfl,q⟩) λH2 p s2 hp=>?_;refine⟨false,p,_,rfl,SqL.of A0,?_,?_⟩
  .rw[List.all_eq_true];intro v hv;obtain⟨x,_,rfl⟩:=List.mem_map.mp hv;rfl
  .have e:((rss.map λr=>dot r ys).map λx=>V.bl (decide (V.int x=V.int 0))).all trV=Ans rss ys:=by
    rw[List.all_map,List.all_map];unfold Ans;congr 1;funext r;show decide (V.int (dot r ys)=V.int 0)=decide (dot r ys=0);simp
   rw[e];exact k _ (s1.trans (s2.upd hp))
end
theorem a4w{α β γ:Type}(f:α->β->Int)(g:Int->γ):∀(xs:List α) (ys:List β),List.zipWith (λa b=>g (f a b)) xs ys=(List.zipWith f xs ys).map g
 |[],_=>rfl
 |_::_,[]=>rfl
 |x::xs,y::ys=>by rw[List.zipWith_cons_cons,List.zipWith_cons_cons,List.map_cons,a4w f g xs ys]
noncomputable def N0(rss:LLI)(ts:List Int)(j:Nat):Int:=(List.zipWith (λt r=>t*r.getD j 0) ts rss).sum
noncomputable def a1b(rss:LLI)(ys:List Int)(j:Nat):Int:=N0 rss (rss.map λr=>dot r ys) j
def Rs(n:Nat)(rss:LLI):Prop:=∀r∈rss,r.length=n/\Sm r
theorem Sm.at{r:List Int}(h:Sm r){j:Nat}(hj:j<r.length) : -2 ^ 64<r.getD j 0/\r.getD j 0<2 ^ 64:=by
 refine h _ ?_;rw[List.getD_eq_getElem?_getD,List.getElem?_eq_getElem hj];exact List.getElem_mem _
section
variable {P:Program}{w:World}{K:PySem.W.Frag}{mg:Str->Option Value}{base:Heap}
inductive IspPullOf(vs:List V)(H:Hp)(Q:VK)(E:XK):Prop
 |mk (a:Addr) (y:V) (us:List V) (rss:LLI) (ts:List Int) (j n:Nat) (_:vs=[.ref a,y,.int j]) (_:H a=some (.tup us)) (_:Its H us rss) (_:IT H y ts) (_:ts.length<=1000) (_:j<n) (_:n<=1000) (_:Rs n rss) (_:∀H',Same H H'->Q (.int (N0 rss ts j)) H'):IspPullOf  vs H Q E
def a4K:Sp:=λvs H Q E=>IspPullOf  vs H Q E
theorem a5R:FnScope ["rows","totals","j"] ["rows","totals","j"] (A3 X1):=⟨rfl,rfl,rfl,by decide +kernel,rfl,by decide +kernel,by decide +kernel⟩
theorem a6b(F:FunAt K mg "pull_of" X1 ["rows","totals","j"])(T:Tx mg):Ok P w K mg base "pull_of" 1 ["rows","totals","j"] a4K:=by
 refine F.okJ a5R (λvs H Q E h=>?_) (λcdv f A outer s H vs Q E hr h=>?_)
 .obtain⟨a,y,us,rss,ts,j,n,rfl,_⟩:=h;rfl
 .obtain⟨a,_,us,rss,ts,j,n,rfl,ha,hI,⟨b,rfl,hb⟩,hl,hj,hn,hR,k⟩:=h;refine⟨_,(A5 (B0 (b1b K rfl T.b_sum (jaC (B7 (N:=["total","row","j"]) (src:=[none,none,some 2]) (a2s K rfl T.b_zip (jaC (jv 1) (jaC (jv 0) jaN))) (by show B8 _ _=true;rfl) (by rfl) (by rfl)
 (λ_ _ _ _ _=>(V4 K 2 (B9 (A8 (i:=0) (show(["total","row","j"]:List Str).Nodup by decide +kernel) rfl (Or.inl rfl)) (B9 (A8 (i:=1) (show(["total","row","j"]:List Str).Nodup by decide +kernel) rfl (Or.inl rfl)) O1)))) (λ_ _ _ _ _=>C6) (λ_ _ _ _ _=>(a2u (jv 0) (P5 K (jv 1) (jv 2))))) jaN)))),?_⟩
  refine⟨_,rfl,_,rfl,true,true,b,a,rfl,⟨_,SqT.of hb⟩,⟨_,SqT.of ha⟩,?_⟩;refine a9i (caps:=[some (.int j)]) (λt r=>V.int (t*r.getD j 0)) hl (λH' s=>⟨sqt (s _ _ hb),sqt (s _ _ ha)⟩) hI rfl (λx v r H1 Q1 _ hr hv _ q=>?_) λH1 p s hp=>?_
  .obtain⟨va,rfl,hva⟩:=hv;obtain⟨e1,e2⟩:=hR r hr;exact⟨_,rfl,_,rfl,_,rfl,va,_,_,_,rfl,rfl,SqT.of hva,W4 (by omega),_,_,rfl,rfl,.inr (e2.at (by omega)),q⟩
  .rw[a4w (λt r=>t*List.getD r j 0) V.int];exact⟨false,p,_,rfl,SqL.of A0,k _ (s.upd hp)⟩
inductive IspFalls(vs:List V)(H:Hp)(Q:VK)(E:XK):Prop
 |mk (a:Addr) (y:V) (us:List V) (rss:LLI) (ys:List Int) (_:vs=[.ref a,y]) (_:H a=some (.tup us)) (_:Its H us rss) (_:IT H y ys) (_:us.length<=1000) (_:ys.length<=1000) (_:Rs ys.length rss) (_:Sm ys) (_:∀v H',Same H H'->IT H' v (((List.range ys.length).filter λj=>decide (a1b rss ys j<0)).map λ(i:Nat)=>(i:Int))->Q v H'):IspFalls  vs H Q E
def a6X:Sp:=λvs H Q E=>IspFalls  vs H Q E
theorem sc_falls:FnScope ["rows","one","totals"] ["rows","one"] (A3 a1G):=⟨rfl,rfl,rfl,by decide +kernel,rfl,by decide +kernel,by decide +kernel⟩
theorem b0F(F:FunAt K mg "falls" a1G ["rows","one"])(T:Tx mg)(O_pull_of:Ok P w K mg base "pull_of" 1 ["rows","totals","j"] a4K)(O_sums:Ok P w K mg base "sums" 2 ["rows","one"] a5L):Ok P w K mg base "falls" 3 ["rows","one"] a6X:=by
 refine F.okJ sc_falls (λvs H Q E h=>?_) (λcdv f A outer s H vs Q E hr h=>?_)
 .obtain⟨a,y,us,rss,ts,rfl,_⟩:=h;rfl
 .obtain⟨a,y,us,rss,ys,rfl,ha,hI,hy,hl,hn,hR,hs,k⟩:=h;refine⟨_,(A2 (B1 (i:=2) sc_falls.nd rfl (Or.inr rfl) (A6 O_sums (hr.mono (by omega)) rfl (jaC (jv 0) (jaC (jv 1) jaN))))
 (A5 (B0 (B5 K rfl T.b_tuple (jaC (B7 (N:=["j","rows","totals"]) (src:=[none,some 0,some 2]) (D5 rfl T.b_range (jaC (V5 K rfl T.b_len (jaC (jv 1) jaN)) jaN)) (by show B8 _ _=true;rfl) (by rfl) (by rfl)
 (λ_ _ _ _ _=>(A8 (i:=0) (show(["j","rows","totals"]:List Str).Nodup by decide +kernel) rfl (Or.inl rfl))) (λ_ _ _ _ _=>(a0b (b0W (A6 O_pull_of (hr.mono (by omega)) rfl (jaC (jv 1) (jaC (jv 2) (jaC (jv 0) jaN)))) A4))) (λ_ _ _ _ _=>(jv 0))) jaN))))),?_⟩
  refine⟨_,rfl,_,rfl,a,y,us,rss,ys,rfl,ha,hI,hy,hl,λr hr=>by rw[(hR r hr).1];exact hn,hs,λv H1 s1 hv=>?_⟩;dsimp only[A9];obtain⟨ya,rfl,hya⟩:=hy.same s1;refine⟨_,rfl,ya,_,rfl,.inr (SqT.of hya),_,rfl,by omega,by rw[List.length_map];omega,?_⟩;rw[Int.toNat_natCast,List.length_map];refine a5V (caps:=[some (.ref a),some v]) (λj=>decide (a1b rss ys j<0)) hn rfl (λi H2 Q2 hi s2 q=>?_) λH2 p s2 hp=>?_
  .refine⟨_,rfl,_,rfl,_,rfl,a,v,us,rss,_,i,ys.length,rfl,(s1.trans s2) _ _ ha,hI.same (s1.trans s2),hv.same s2,by rw[List.length_map,<-hI.1];exact hl,hi,hn,hR,λH3 s3=>?_⟩;exact⟨_,_,rfl,rfl,_,rfl,q _ s3⟩
  .refine⟨p,_,rfl,.inl ⟨SqL.of A0,λl hl=>?_⟩⟩;exact k _ _ (s1.trans ((s2.upd hp).upd hl)) ⟨l,rfl,A0⟩
end
theorem a0z(x y:Int)(xs ys:List Int):dot (x::xs) (y::ys)=x*y+dot xs ys:=by unfold dot;rw[List.zipWith_cons_cons,List.sum_cons]
theorem b1F(ys:List Int):dot [] ys=0:=rfl
theorem a3t:∀(xs ys:List Int),xs.length=ys.length->dot xs ys=((List.range ys.length).map λj=>xs.getD j 0*ys.getD j 0).sum
 |[],[],_=>rfl
 |x::xs,y::ys,h=>by
  rw[a0z,a3t xs ys (by simpa using h),List.length_cons,List.range_succ_eq_map,List.map_cons,List.sum_cons,List.map_map];rfl
theorem a6O(l:List Nat)(f g:Nat->Int):(l.map λj=>f j+g j).sum=(l.map f).sum+(l.map g).sum:=by
 induction l with
 |nil=>rfl
 |cons x l ih=>simp only[List.map_cons,List.sum_cons,ih];omega
theorem a3J(l:List Nat)(c:Int)(f:Nat->Int):(l.map λj=>c*f j).sum=c*(l.map f).sum:=by
 induction l with
 |nil=>simp
 |cons x l ih=>simp only[List.map_cons,List.sum_cons,ih,Int.mul_add]
noncomputable def bump(now:List Int)(j:Nat):List Int:=now.set j (now.getD j 0+1)
noncomputable def Pl(rss:LLI)(now xs:List Int):List Nat:=(List.range xs.length).filter λj=>decide (now.getD j 0<xs.getD j 0) && (Ans rss now || decide (a1b rss now j<0))
def Under(now xs:List Int):Prop:=now.length=xs.length/\∀j,j<xs.length->now.getD j 0<=xs.getD j 0
theorem E2(now:List Int)(j:Nat):(bump now j).length=now.length:=List.length_set
theorem b0m{rss:LLI}{now xs:List Int}{j:Nat}(h:j∈Pl rss now xs):j<xs.length/\now.getD j 0<xs.getD j 0:=by
 unfold Pl at h;rw[List.mem_filter,List.mem_range,Bool.and_eq_true,decide_eq_true_eq]at h;exact⟨h.1,h.2.1⟩
theorem a0A(now:List Int)(j k:Nat)(hj:j<now.length):(bump now j).getD k 0=if k=j then now.getD j 0+1 else now.getD k 0:=by
 unfold bump;rw[List.getD_eq_getElem?_getD,List.getElem?_set];by_cases e:j=k
 .subst e;rw[if_pos rfl,if_pos hj,if_pos rfl];rfl
 .rw[if_neg e,if_neg (Ne.symm e),List.getD_eq_getElem?_getD]
theorem Under.bump{rss:LLI}{now xs:List Int}{j:Nat}(h:Under now xs)(hj:j∈Pl rss now xs):Under (bump now j) xs:=by
 obtain⟨h1,h2⟩:=b0m hj;refine⟨by rw[E2];exact h.1,λk hk=>?_⟩;rw[a0A _ _ _ (by rw[h.1];exact h1)];by_cases e:k=j
 .rw[if_pos e,e];omega
 .rw[if_neg e];exact h.2 k hk
theorem a6M:∀(xs:List Int) (k:Nat) (z:Int),k<xs.length->(xs.set k z).sum=xs.sum-xs.getD k 0+z
 |[],_,_,h=>by simp at h
 |x::xs,0,z,_=>by rw[List.set_cons_zero,List.sum_cons,List.sum_cons,List.getD_cons_zero];omega
 |x::xs,k+1,z,h=>by rw[List.set_cons_succ,List.sum_cons,List.sum_cons,List.getD_cons_succ,a6M xs k z (by simpa using h)];omega
theorem a5z(now:List Int)(j:Nat)(h:j<now.length):(bump now j).sum=now.sum+1:=by
 unfold bump;rw[a6M _ _ _ h];omega
theorem Under.tail{x y:Int}{xs ys:List Int}(h:Under (x::xs) (y::ys)):x<=y/\Under xs ys :=
 ⟨by simpa using h.2 0 (by simp),by simpa using h.1,λj hj=>by simpa using h.2 (j+1) (by simpa using hj)⟩
theorem Under.sum:∀{xs ys:List Int},Under xs ys->xs.sum<=ys.sum/\(xs≠ys->xs.sum<ys.sum)
 |[],[],_=>⟨Int.le_refl _,λh=>absurd rfl h⟩
 |[],_::_,h=>by have:=h.1;simp at this
 |_::_,[],h=>by have:=h.1;simp at this
 |x::xs,y::ys,h=>by
  obtain⟨h1,h2⟩:=h.tail;obtain⟨i1,i2⟩:=Under.sum h2;rw[List.sum_cons,List.sum_cons];refine⟨by omega,λne=>?_⟩;by_cases e:xs=ys
  .subst e;have:x≠y:=λq=>ne (by rw[q]);omega
  .have:=i2 e;omega
theorem Under.ne:∀{xs ys:List Int},Under xs ys->xs≠ys->∃j,j<ys.length/\xs.getD j 0<ys.getD j 0
 |[],[],_,h=>absurd rfl h
 |[],_::_,h,_=>by have:=h.1;simp at this
 |_::_,[],h,_=>by have:=h.1;simp at this
 |x::xs,y::ys,h,ne=>by
  obtain⟨h1,h2⟩:=h.tail;by_cases e:xs=ys
  .subst e;have:x≠y:=λq=>ne (by rw[q]);exact⟨0,by simp,by simp;omega⟩
  .obtain⟨j,q1,q2⟩:=Under.ne h2 e;exact⟨j+1,by simpa using q1,by simpa using q2⟩
theorem a9B(l:List Int)(h:∀x∈l,0<=x):0<=l.sum:=by
 induction l with
 |nil=>exact Int.le_refl _
 |cons x l ih =>
  rw[List.sum_cons];have:=h x (List.mem_cons_self ..);have:=ih λy hy=>h y (List.mem_cons_of_mem _ hy);omega
theorem b2h(l:List Int)(h:∀x∈l,0<=x)(y:Int)(hy:y∈l)(hp:0<y):0<l.sum:=by
 induction l with
 |nil=>cases hy
 |cons x l ih =>
  rw[List.sum_cons];have hx:=h x (List.mem_cons_self ..);have hl:=a9B l λz hz=>h z (List.mem_cons_of_mem _ hz);rcases List.mem_cons.mp hy with q|q
  .omega
  .have:=ih (λz hz=>h z (List.mem_cons_of_mem _ hz)) q;omega
theorem a1j(t:Int):0<=t*t:=by
 rcases Int.le_total 0 t with h|h
 .exact Int.mul_nonneg h h
 .have:=Int.mul_nonneg (a := -t) (b := -t) (by omega) (by omega);rwa[Int.neg_mul_neg]at this
theorem a1S(ys:List Int):∀(rss:LLI) (ts:List Int),(∀r∈rss,r.length=ys.length)->ts.length=rss.length ->
  ((List.range ys.length).map λj=>N0 rss ts j*ys.getD j 0).sum=(List.zipWith (λt r=>t*dot r ys) ts rss).sum
 |[],[],_,_=>by
  have e:((List.range ys.length).map λj=>N0 [] [] j*ys.getD j 0)=(List.range ys.length).map λj=>0*ys.getD j 0:=rfl;rw[e,a3J,Int.zero_mul];rfl
 |[],_::_,_,h=>by simp at h
 |_::_,[],_,h=>by simp at h
 |r::rss,t::ts,h,hl=>by
  have ih:=a1S ys rss ts (λq hq=>h q (List.mem_cons_of_mem _ hq)) (by simpa using hl);rw[List.zipWith_cons_cons,List.sum_cons,<-ih];have e:(λj=>N0 (r::rss) (t::ts) j*ys.getD j 0)=λj=>t*(r.getD j 0*ys.getD j 0)+N0 rss ts j*ys.getD j 0:=by
   funext j;unfold N0;rw[List.zipWith_cons_cons,List.sum_cons,Int.add_mul,Int.mul_assoc]
  rw[e,a6O,a3J,<-a3t r ys (h r (List.mem_cons_self ..))]
theorem a6Q:∀(rss:LLI) (now xs:List Int),Ans rss xs=true->(List.zipWith (λt r=>t*dot r xs) (rss.map λr=>dot r now) rss).sum=0
 |[],_,_,_=>rfl
 |r::rss,now,xs,h=>by
  unfold Ans at h;rw[List.all_cons,Bool.and_eq_true,decide_eq_true_eq]at h;rw[List.map_cons,List.zipWith_cons_cons,List.sum_cons,h.1,a6Q rss now xs h.2];omega
theorem b4r(rss:LLI)(now:List Int)(h:Ans rss now=false):0<(List.zipWith (λt r=>t*dot r now) (rss.map λr=>dot r now) rss).sum:=by
 have e:List.zipWith (λt r=>t*dot r now) (rss.map λr=>dot r now) rss=rss.map λr=>dot r now*dot r now:=by
  clear h;induction rss with
  |nil=>rfl
  |cons r rss ih=>rw[List.map_cons,List.zipWith_cons_cons,List.map_cons,ih]
 rw[e];have:∃r∈rss,dot r now≠0:=by
  refine Classical.byContradiction λq=>?_;have:Ans rss now=true:=by
   unfold Ans;rw[List.all_eq_true];intro r hr;rw[decide_eq_true_eq];exact Classical.byContradiction λz=>q ⟨r,hr,z⟩
  rw[this]at h;cases h
 obtain⟨r,hr,hne⟩:=this;refine b2h _ (λx hx=>?_) (dot r now*dot r now) (List.mem_map.mpr ⟨r,hr,rfl⟩) ?_
 .obtain⟨q,_,rfl⟩:=List.mem_map.mp hx;exact a1j _
 .have h1:=a1j (dot r now);have h2:dot r now*dot r now≠0:=λz=>by
   rcases Int.mul_eq_zero.mp z with q|q<;>exact hne q
  omega
theorem b6g(rss:LLI)(now xs:List Int)(hR:∀r∈rss,r.length=xs.length)(hU:Under now xs)(hne:now≠xs)(hA:Ans rss xs=true):Pl rss now xs≠[]:=by
 intro hnil;unfold Pl at hnil;rw[List.filter_eq_nil_iff]at hnil;cases ha:Ans rss now with
 |true =>
  obtain⟨j,h1,h2⟩:=hU.ne hne;refine hnil j (List.mem_range.mpr h1) ?_;rw[ha,Bool.and_eq_true,decide_eq_true_eq];exact⟨h2,rfl⟩
 |false =>
  have p1:=a1S now rss (rss.map λr=>dot r now) (λr hr=>by rw[hR r hr,hU.1]) (by simp);have p2:=a1S xs rss (rss.map λr=>dot r now) hR (by simp);have p3:=b4r rss now ha;have p4:=a6Q rss now xs hA;rw[hU.1]at p1;have p5:((List.range xs.length).map λj=>N0 rss (rss.map λr=>dot r now) j*now.getD j 0+(-1)*(N0 rss (rss.map λr=>dot r now) j*xs.getD j 0)).sum<=0:=by
   have hs:∀(l:List Int),(∀x∈l,x<=0)->l.sum<=0:=λl hl=>by
    induction l with
    |nil=>exact Int.le_refl _
    |cons x l ih =>
     rw[List.sum_cons];have:=hl x (List.mem_cons_self ..);have:=ih λy hy=>hl y (List.mem_cons_of_mem _ hy);omega
   refine hs _ λx hx=>?_;obtain⟨j,hj,rfl⟩:=List.mem_map.mp hx;have hj':=List.mem_range.mp hj;have hle:=hU.2 j hj';have e:N0 rss (rss.map λr=>dot r now) j*now.getD j 0+(-1)*(N0 rss (rss.map λr=>dot r now) j*xs.getD j 0) = -(N0 rss (rss.map λr=>dot r now) j*(xs.getD j 0-now.getD j 0)):=by
    rw[Int.mul_sub];omega
   rw[e];by_cases hlt:now.getD j 0<xs.getD j 0
   .have hp:0<=N0 rss (rss.map λr=>dot r now) j:=by
     have q:=hnil j hj;rw[ha]at q;have q':¬a1b rss now j<0:=λz=>q (by simp only[Bool.false_or,Bool.and_eq_true,decide_eq_true_eq];exact⟨hlt,z⟩);show 0<=a1b rss now j;omega
    have:=Int.mul_nonneg hp (show 0<=xs.getD j 0-now.getD j 0 by omega);omega
   .have:xs.getD j 0-now.getD j 0=0:=by omega
    rw[this,Int.mul_zero];exact Int.le_refl _
  rw[a6O,a3J,p1,p2,p4]at p5;omega
section
variable {P:Program}{w:World}{K:PySem.W.Frag}{mg:Str->Option Value}{base:Heap}
inductive IspBelow(vs:List V)(H:Hp)(Q:VK)(E:XK):Prop
 |mk (x:_) (y:_) (xs:_) (ys:_) (_:vs=[x,y]) (_:IT H x xs) (_:IT H y ys) (_:xs.length<=1000) (_:∀H',Same H H'->Q (.bl (Bel xs ys)) H'):IspBelow  vs H Q E
def a6Z:Sp:=λvs H Q E=>IspBelow  vs H Q E
theorem a9L:FnScope ["one","other"] ["one","other"] (A3 a1H):=⟨rfl,rfl,rfl,by decide +kernel,rfl,by decide +kernel,by decide +kernel⟩
theorem b0H(F:FunAt K mg "below" a1H ["one","other"])(T:Tx mg):Ok P w K mg base "below" 1 ["one","other"] a6Z:=by
 refine F.okJ a9L (λvs H Q E h=>?_) (λcdv f A outer s H vs Q E hr h=>?_)
 .obtain⟨x,y,xs,ys,rfl,_⟩:=h;rfl
 .obtain⟨_,_,xs,ys,rfl,⟨a,rfl,ha⟩,⟨b,rfl,hb⟩,hl,k⟩:=h;refine⟨_,(A5 (B0 (a4i K rfl T.b_all (jaC (B7 (N:=["a","b"]) (src:=[none,none]) (a2s K rfl T.b_zip (jaC (jv 0) (jaC (jv 1) jaN))) (by show B8 _ _=true;rfl) (by rfl) (by rfl)
 (λ_ _ _ _ _=>(V4 K 2 (B9 (A8 (i:=0) (show(["a","b"]:List Str).Nodup by decide +kernel) rfl (Or.inl rfl)) (B9 (A8 (i:=1) (show(["a","b"]:List Str).Nodup by decide +kernel) rfl (Or.inl rfl)) O1)))) (λ_ _ _ _ _=>C6) (λ_ _ _ _ _=>(b4g (jv 0) (jv 1)))) jaN)))),?_⟩
  refine⟨_,rfl,_,rfl,true,true,a,b,rfl,⟨_,SqT.of ha⟩,⟨_,SqT.of hb⟩,?_⟩;refine a9k (caps:=[]) (λx y=>V.bl (decide (x<=y))) (sqt ha) (sqt hb) hl (λH' s=>⟨sqt (s _ _ ha),sqt (s _ _ hb)⟩) rfl (λx y H1 Q1 _ q=>⟨_,rfl,_,rfl,_,_,rfl,rfl,q⟩) λH1 p s hp=>?_;refine⟨false,p,_,rfl,SqL.of A0,?_,?_⟩
  .rw[List.all_eq_true];intro v hv;obtain⟨i,hi,rfl⟩:=List.mem_iff_getElem.mp hv;rw[List.getElem_zipWith];rfl
  .rw[b5K];exact k _ (s.upd hp)
inductive IspUnit(vs:List V)(H:Hp)(Q:VK)(E:XK):Prop
 |mk (wd:Int) (n j:Nat) (_:vs=[.int wd,.int j]) (_:wd=n) (_:n<=1000) (_:j<n) (_:∀v H',Same H H'->IT H' v ((List.range n).map λi=>if i=j then 1 else 0)->Q v H'):IspUnit  vs H Q E
def a9C:Sp:=λvs H Q E=>IspUnit  vs H Q E
theorem b2p:FnScope ["width","j"] ["width","j"] (A3 a3U):=⟨rfl,rfl,rfl,by decide +kernel,rfl,by decide +kernel,by decide +kernel⟩
theorem b3c(F:FunAt K mg "unit" a3U ["width","j"])(T:Tx mg):Ok P w K mg base "unit" 1 ["width","j"] a9C:=by
 refine F.okJ b2p (λvs H Q E h=>?_) (λcdv f A outer s H vs Q E hr h=>?_)
 .obtain⟨_,n,j,rfl,_⟩:=h;rfl
 .obtain⟨_,n,j,rfl,rfl,hn,hj,k⟩:=h;refine⟨_,(A5 (B0 (B5 K rfl T.b_tuple (jaC (B7 (N:=["k","j"]) (src:=[none,some 1]) (D5 rfl T.b_range (jaC (jv 0) jaN)) (by show B8 _ _=true;rfl) (by rfl) (by rfl)
 (λ_ _ _ _ _=>(A8 (i:=0) (show(["k","j"]:List Str).Nodup by decide +kernel) rfl (Or.inl rfl))) (λ_ _ _ _ _=>C6) (λ_ _ _ _ _=>(b6z (V2 (jv 0) (jv 1)) A4 A4))) jaN)))),?_⟩
  refine⟨_,rfl,n,rfl,by omega,by omega,?_⟩;rw[Int.toNat_natCast];refine a2c (caps:=[some (.int j)]) (λi=>V.int (if i=j then 1 else 0)) hn rfl (λi H1 Q1 hi _ q=>?_) λH1 p s hp=>?_
  .refine⟨_,rfl,_,rfl,rfl,_,rfl,T3 (λe=>?_) (λe=>?_)⟩
   .have e1:(i:Int)=(j:Int):=by simpa using e
    have e':i=j:=by omega
    rw[if_pos e']at q;exact q
   .have e1:¬(i:Int)=(j:Int):=by simpa using e
    have e':i≠j:=by omega
    rw[if_neg e']at q;exact q
  .rw[show((List.range n).map λi=>V.int (if i=j then 1 else 0))=((List.range n).map λi=>if i=j then(1:Int)else 0).map V.int by rw[List.map_map];rfl];refine⟨p,_,rfl,.inl ⟨SqL.of A0,λl hl=>?_⟩⟩;exact k _ _ ((s.upd hp).upd hl) ⟨l,rfl,A0⟩
noncomputable def cV:Option Int->V
 |none=>.non
 |some c=>.int c
noncomputable def a8W(c:Option Int)(x:Int):Bool:=match c with|none=>true|some c=>decide (x<=c)
noncomputable def Wi(cs:List (Option Int))(xs:List Int):Bool:=(List.zipWith a8W cs xs).all id
theorem b5L(cs:List (Option Int))(xs:List Int):(List.zipWith (λc x=>V.bl (a8W c x)) cs xs).all trV=Wi cs xs:=by
 unfold Wi;induction cs generalizing xs with
 |nil=>rfl
 |cons c cs ih =>
  cases xs with
  |nil=>rfl
  |cons x xs=>rw[List.zipWith_cons_cons,List.zipWith_cons_cons,List.all_cons,List.all_cons,ih];rfl
inductive IspWithin(vs:List V)(H:Hp)(Q:VK)(E:XK):Prop
 |mk (a b:Addr) (cs:List (Option Int)) (xs:List Int) (_:vs=[.ref a,.ref b]) (_:H a=some (.tup (cs.map cV))) (_:H b=some (.tup (xs.map V.int))) (_:cs.length<=1000) (_:∀H',Same H H'->Q (.bl (Wi cs xs)) H'):IspWithin  vs H Q E
def a4H:Sp:=λvs H Q E=>IspWithin  vs H Q E
theorem a8d:FnScope ["caps","one"] ["caps","one"] (A3 a0l):=⟨rfl,rfl,rfl,by decide +kernel,rfl,by decide +kernel,by decide +kernel⟩
theorem a8u(F:FunAt K mg "within" a0l ["caps","one"])(T:Tx mg):Ok P w K mg base "within" 1 ["caps","one"] a4H:=by
 refine F.okJ a8d (λvs H Q E h=>?_) (λcdv f A outer s H vs Q E hr h=>?_)
 .obtain⟨a,b,cs,xs,rfl,_⟩:=h;rfl
 .obtain⟨a,b,cs,xs,rfl,ha,hb,hl,k⟩:=h;refine⟨_,(A5 (B0 (a4i K rfl T.b_all (jaC (B7 (N:=["cap","number"]) (src:=[none,none]) (a2s K rfl T.b_zip (jaC (jv 0) (jaC (jv 1) jaN))) (by show B8 _ _=true;rfl) (by rfl) (by rfl)
 (λ_ _ _ _ _=>(V4 K 2 (B9 (A8 (i:=0) (show(["cap","number"]:List Str).Nodup by decide +kernel) rfl (Or.inl rfl)) (B9 (A8 (i:=1) (show(["cap","number"]:List Str).Nodup by decide +kernel) rfl (Or.inl rfl)) O1)))) (λ_ _ _ _ _=>C6) (λ_ _ _ _ _=>(b6w (b0V (jv 0) a0v) (a7s (b4g (jv 1) (jv 0)))))) jaN)))),?_⟩
  refine⟨_,rfl,_,rfl,true,true,a,b,rfl,⟨_,SqT.of ha⟩,⟨_,SqT.of hb⟩,?_⟩;refine b1X (caps:=[]) cV V.int (λc x=>V.bl (a8W c x)) hl (λH' s=>⟨sqt (s _ _ ha),sqt (s _ _ hb)⟩) rfl (λc x H1 Q1 _ _ _ q=>?_) λH1 p s hp=>?_
  .cases c with
   |none=>exact⟨_,rfl,rfl,true,rfl,V6 (q _ (Same.refl _))⟩
   |some c=>exact⟨_,rfl,rfl,false,rfl,E5 ⟨_,rfl,_,rfl,_,_,rfl,rfl,q _ (Same.refl _)⟩⟩
  refine⟨false,p,_,rfl,SqL.of A0,?_,?_⟩
  .rw[List.all_eq_true];intro v hv;obtain⟨i,hi,rfl⟩:=List.mem_iff_getElem.mp hv;rw[List.getElem_zipWith];rfl
  .rw[b5L];exact k _ (s.upd hp)
end
noncomputable def L3(n j:Nat):List Int:=(List.range n).map λi=>if i=j then(1:Int)else 0
noncomputable def a0f(cs:List (Option Int)):LLI:=((List.range cs.length).map (L3 cs.length)).filter λu=>Wi cs u
noncomputable def a7K(c:Option Int)(x:Int):Bool:=match c with|none=>true|some c=>decide (x<c)
noncomputable def StP(rss:LLI)(cs:List (Option Int))(ys:List Int):List Nat:=((List.range ys.length).filter λj=>decide (a1b rss ys j<0)).filter λj=>a7K (cs.getD j none) (ys.getD j 0)
section
variable {P:Program}{w:World}{K:PySem.W.Frag}{mg:Str->Option Value}{base:Heap}
inductive IspFirst(vs:List V)(H:Hp)(Q:VK)(E:XK):Prop
 |mk (a:Addr) (cs:List (Option Int)) (_:vs=[.ref a]) (_:H a=some (.tup (cs.map cV))) (_:1<=cs.length) (_:cs.length<=100) (_:∀p zs tss H',Same H H'->H' p=some (.tup zs)->Its H' zs tss->tss.Perm (a0f cs)->G0 tss->Q (.ref p) H'):IspFirst  vs H Q E
def a6W:Sp:=λvs H Q E=>IspFirst  vs H Q E
theorem sc_first_steps:FnScope ["caps","units"] ["caps"] (A3 J1):=⟨rfl,rfl,rfl,by decide +kernel,rfl,by decide +kernel,by decide +kernel⟩
theorem a2g(F:FunAt K mg "first_steps" J1 ["caps"])(T:Tx mg)(O_unit:Ok P w K mg base "unit" 1 ["width","j"] a9C)(O_within:Ok P w K mg base "within" 1 ["caps","one"] a4H):Ok P w K mg base "first_steps" 2 ["caps"] a6W:=by
 refine F.okJ sc_first_steps (λvs H Q E h=>?_) (λcdv f A outer s H vs Q E hr h=>?_)
 .obtain⟨a,cs,rfl,_⟩:=h;rfl
 .obtain⟨a,cs,rfl,ha,h1,h2,k⟩:=h;have hz:(3000:Nat)<=sizeLine:=by rw[sizeLine_eq];decide
  refine⟨_,(A2 (a7p (i:=1) sc_first_steps.nd rfl (Or.inl rfl) (N:=["j","caps"]) (src:=[none,some 0]) (D5 rfl T.b_range (jaC (V5 K rfl T.b_len (jaC (jv 0) jaN)) jaN)) (by show B8 _ _=true;rfl) (by rfl) (by rfl)
 (λ_ _ _ _ _=>(A8 (i:=0) (show(["j","caps"]:List Str).Nodup by decide +kernel) rfl (Or.inl rfl))) (λ_ _ _ _ _=>C6) (λ_ _ _ _ _=>(A6 O_unit (hr.mono (by omega)) rfl (jaC (V5 K rfl T.b_len (jaC (jv 1) jaN)) (jaC (jv 0) jaN)))))
 (A5 (B0 (B5 K rfl T.b_tuple (jaC (a2t K rfl T.b_sorted (jaC (B7 (N:=["one","caps"]) (src:=[none,some 0]) (K9 K (jv 1)) (by show B8 _ _=true;rfl) (by rfl) (by rfl)
 (λ_ _ _ _ _=>(A8 (i:=0) (show(["one","caps"]:List Str).Nodup by decide +kernel) rfl (Or.inl rfl))) (λ_ _ _ _ _=>(a0b (E8 K (A6 O_within (hr.mono (by omega)) rfl (jaC (jv 1) (jaC (jv 0) jaN)))))) (λ_ _ _ _ _=>(jv 0))) jaN)) jaN))))),?_⟩
  refine⟨_,rfl,a,_,rfl,.inr (SqT.of ha),_,rfl,by rw[List.length_map];omega,by rw[List.length_map];omega,?_⟩;rw[Int.toNat_natCast,List.length_map];refine a0p (caps:=[some (.ref a)]) (by omega) rfl (λi ys H'=>Same H H'/\Its H' ys ((List.range i).map (L3 cs.length))) ⟨Same.refl H,.nil⟩ (λi ys H' h=>by rw[h.2.1];simp) ?_ ?_
  .rintro i ys H' hi ⟨s',hI⟩;refine⟨_,rfl,a,_,rfl,.inr (SqT.of (s' _ _ ha)),_,rfl,_,cs.length,i,rfl,by rw[List.length_map],by omega,hi,λv H2 s2 hv=>⟨s'.trans s2,?_⟩⟩;rw[List.range_succ,List.map_append];exact(hI.same s2).snoc hv
  .rintro ys H' ⟨s',hI⟩ p hp;dsimp only[A9];have s1:=s'.upd (o:=.lst ys) hp;have hI1:=hI.same ((Same.refl H').upd (o:=.lst ys) hp);have e1:upd H' p (.lst ys) p=some (.lst ys):=A0;generalize upd H' p (.lst ys)=H1 at s1 hI1 e1;refine⟨_,rfl,p,rfl,⟨_,SqL.of e1⟩,?_⟩;have hyl:ys.length=cs.length:=by rw[hI.1];simp
   refine a2m (caps:=[some (.ref a)]) (λu=>Wi cs u) (by omega) (λH2 s2=>SqL.of (s2 _ _ e1)) hI1 rfl (λv r H2 Q2 hr hv s2 q=>?_) λH2 p2 ws s2 hp2 hI2=>?_
   .obtain⟨va,rfl,hva⟩:=hv;exact⟨_,rfl,_,rfl,a,va,cs,r,rfl,(s1.trans s2) _ _ ha,hva,by omega,λH3 s3=>⟨Wi cs r,rfl,q H3 s3⟩⟩
   have s3:=(s1.trans s2).upd (o:=.lst ws) hp2;have hI3:=hI2.same ((Same.refl H2).upd (o:=.lst ws) hp2);have e3:upd H2 p2 (.lst ws) p2=some (.lst ws):=A0;generalize upd H2 p2 (.lst ws)=H3 at s3 hI3 e3;refine⟨p2,ws,_,rfl,.inl (SqL.of e3),hI3,λr hr=>?_,λl zs tss hl4 hI4 hpm hri _=>?_⟩
   .obtain⟨j,_,rfl⟩:=List.mem_map.mp (List.mem_filter.mp hr).1;simp[L3];omega
   refine⟨l,_,rfl,.inl ⟨SqL.of A0,λl2 hl5=>?_⟩⟩;have s4:=(Same.refl H3).upd (o:=.lst zs) hl4;have s5:=(Same.refl (upd H3 l (.lst zs))).upd (o:=.tup zs) hl5;exact k l2 zs tss _ ((s3.trans s4).trans s5) A0 ((hI4.same s4).same s5) hpm hri
inductive IspRaised(vs:List V)(H:Hp)(Q:VK)(E:XK):Prop
 |mk (y:V) (ys:List Int) (j:Nat) (_:vs=[y,.int j]) (_:IT H y ys) (_:j<ys.length) (_:ys.length<=1000) (_:∀v H',Same H H'->IT H' v (bump ys j)->Q v H'):IspRaised  vs H Q E
def a4J:Sp:=λvs H Q E=>IspRaised  vs H Q E
theorem a8f:FnScope ["one","j"] ["one","j"] (A3 a0n):=⟨rfl,rfl,rfl,by decide +kernel,rfl,by decide +kernel,by decide +kernel⟩
theorem a8y(F:FunAt K mg "raised" a0n ["one","j"]):Ok P w K mg base "raised" 1 ["one","j"] a4J:=by
 refine F.okJ a8f (λvs H Q E h=>?_) (λcdv f A outer s H vs Q E hr h=>?_)
 .obtain⟨y,ys,j,rfl,_⟩:=h;rfl
 .obtain⟨_,ys,j,rfl,⟨a,rfl,ha⟩,hj,hl,k⟩:=h;refine⟨_,(A5 (B0 (a0u (a0u (a1o K (jv 0) I0 (G9 (jv 1))) (Z4 (jaC (L9 (P5 K (jv 0) (jv 1)) A4) jaN))) (a1o K (jv 0) (G9 (L9 (jv 1) A4)) I0)))),?_⟩;exact b4y (i:=0) (j:=1) (a:=a) (xs:=ys) (k:=j) (z:=ys.getD j 0+1) rfl rfl ha hj hl (λH' N s' q=>⟨_,rfl,_,rfl,a,_,_,_,rfl,rfl,SqT.of (s' _ _ ha),W4 hj,_,_,rfl,rfl,q⟩) k
inductive IspSteps(vs:List V)(H:Hp)(Q:VK)(E:XK):Prop
 |mk (a c:Addr) (y:V) (us:List V) (rss:LLI) (cs:List (Option Int)) (ys:List Int) (_:vs=[.ref a,.ref c,y]) (_:H a=some (.tup us)) (_:Its H us rss) (_:H c=some (.tup (cs.map cV))) (_:IT H y ys) (_:us.length<=1000) (_:ys.length<=100) (_:cs.length=ys.length) (_:Rs ys.length rss) (_:Sm ys) (_:∀p ps H',Same H H'->H' p=some (.lst ps)->Prs H' ps (bump ys) (StP rss cs ys)->Q (.ref p) H'):IspSteps  vs H Q E
def a6S:Sp:=λvs H Q E=>IspSteps  vs H Q E
theorem b1K{cs:List (Option Int)}{j:Nat}(h:j<cs.length):atI (cs.map cV) (j:Int)=some (cV (cs.getD j none)):=by
 refine Y8 ?_;rw[List.getElem?_map,List.getElem?_eq_getElem h];simp[List.getD_eq_getElem?_getD,h]
theorem sc_steps:FnScope ["rows","caps","one","places"] ["rows","caps","one"] (A3 a1D):=⟨rfl,rfl,rfl,by decide +kernel,rfl,by decide +kernel,by decide +kernel⟩
theorem b0z(F:FunAt K mg "steps" a1D ["rows","caps","one"])(T:Tx mg)(O_falls:Ok P w K mg base "falls" 3 ["rows","one"] a6X)(O_raised:Ok P w K mg base "raised" 1 ["one","j"] a4J):Ok P w K mg base "steps" 4 ["rows","caps","one"] a6S:=by
 refine F.okJ sc_steps (λvs H Q E h=>?_) (λcdv f A outer s H vs Q E hr h=>?_)
 .obtain⟨a,c,y,us,rss,cs,ys,rfl,_⟩:=h;rfl
 .obtain⟨a,c,_,us,rss,cs,ys,rfl,ha,hI,hc,⟨y,rfl,hy⟩,hl,hn,hcl,hR,hs,k⟩:=h;have hz:(3000:Nat)<=sizeLine:=by rw[sizeLine_eq];decide
  refine⟨_,(A2 (a7p (i:=3) sc_steps.nd rfl (Or.inl rfl) (N:=["j","caps","one"]) (src:=[none,some 1,some 2]) (J0 K (A6 O_falls (hr.mono (by omega)) rfl (jaC (jv 0) (jaC (jv 2) jaN)))) (by show B8 _ _=true;rfl) (by rfl) (by rfl)
 (λ_ _ _ _ _=>(A8 (i:=0) (show(["j","caps","one"]:List Str).Nodup by decide +kernel) rfl (Or.inl rfl))) (λ_ _ _ _ _=>(a0b (a1w (a7n (b0X (P5 K (jv 1) (jv 0)) a0v) (a4g (b0W (P5 K (jv 2) (jv 0)) (P5 K (jv 1) (jv 0)))))))) (λ_ _ _ _ _=>(jv 0)))
 (A5 (B0 (B7 (N:=["j","one"]) (src:=[none,some 2]) (K9 K (jv 3)) (by show B8 _ _=true;rfl) (by rfl) (by rfl)
 (λ_ _ _ _ _=>(A8 (i:=0) (show(["j","one"]:List Str).Nodup by decide +kernel) rfl (Or.inl rfl))) (λ_ _ _ _ _=>C6) (λ_ _ _ _ _=>(Z4 (jaC (jv 0) (jaC (A6 O_raised (hr.mono (by omega)) rfl (jaC (jv 1) (jaC (jv 0) jaN))) jaN)))))))),?_⟩
  refine⟨_,rfl,_,rfl,a,_,us,rss,ys,rfl,ha,hI,⟨y,rfl,hy⟩,hl,by omega,hR,hs,λv H1 s1 hv=>?_⟩;obtain⟨va,rfl,hva⟩:=hv;refine⟨va,rfl,⟨_,SqT.of hva⟩,?_⟩;rw[List.map_map]at hva;have hjs:∀j∈(List.range ys.length).filter (λj=>decide (a1b rss ys j<0)),j<ys.length:=λj hj=>List.mem_range.mp (List.mem_filter.mp hj).1;have hjl:((List.range ys.length).filter (λj=>decide (a1b rss ys j<0))).length<=ys.length:=Nat.le_trans (List.length_filter_le _ _) (by simp);refine a7W (caps:=[some (.ref c),some (.ref y)]) (λ(j:Nat)=>V.int j) (λj=>a7K (cs.getD j none) (ys.getD j 0)) (by omega) (λH' s=>SqT.of (s _ _ hva)) rfl (λj H2 Q2 hj s2 q=>?_) λH2 p2 s2 hp2=>?_
  .have hj':=hjs j hj;refine⟨_,rfl,_,rfl,c,_,_,_,rfl,rfl,SqT.of ((s1.trans s2) _ _ hc),b1K (by omega),rfl,_,rfl,?_⟩;cases e:cs.getD j none with
   |none =>
    rw[e]at q;exact V6 (q _ (Same.refl _))
   |some z =>
    rw[e]at q;refine E5 ⟨_,rfl,_,rfl,y,_,_,_,rfl,rfl,SqT.of ((s1.trans s2) _ _ hy),W4 hj',_,rfl,_,rfl,c,_,_,_,rfl,rfl,SqT.of ((s1.trans s2) _ _ hc),b1K (by omega),?_⟩;rw[e];exact⟨_,_,rfl,rfl,_,rfl,q _ (Same.refl _)⟩
  have s3:=(s1.trans s2).upd (o:=.lst ((StP rss cs ys).map λ(j:Nat)=>V.int j)) hp2;have e3:upd H2 p2 (.lst ((StP rss cs ys).map λ(j:Nat)=>V.int j)) p2=some (.lst ((StP rss cs ys).map λ(j:Nat)=>V.int j)):=A0;have hst:∀j∈StP rss cs ys,j<ys.length:=λj hj=>hjs j (List.mem_filter.mp hj).1;have hsl:(StP rss cs ys).length<=ys.length:=Nat.le_trans (List.length_filter_le _ _) hjl;have e0:((List.range ys.length).filter λj=>decide (a1b rss ys j<0)).filter (λj=>a7K (cs.getD j none) (ys.getD j 0))=StP rss cs ys:=rfl;rw[e0];dsimp only[A9];generalize upd H2 p2 (.lst ((StP rss cs ys).map λ(j:Nat)=>V.int j))=H3 at s3 e3;refine⟨_,rfl,p2,rfl,⟨_,SqL.of e3⟩,?_⟩;refine a0Y (xs:=(StP rss cs ys).map λ(j:Nat)=>V.int j) (by rw[List.length_map];omega) (λi qs H'=>Same H3 H'/\Prs H' qs (bump ys) ((StP rss cs ys).take i)) ⟨Same.refl H3,Prs.nil⟩ (λi qs H' _ h=>⟨SqL.of (h.1 _ _ e3),by rw[h.2.1];exact List.length_take_le _ _⟩) ?_ ?_
  .rintro i x qs H' hx ⟨s',hP⟩;rw[List.getElem?_map]at hx;cases ej:(StP rss cs ys)[i]? with
   |none=>rw[ej]at hx;cases hx
   |some j =>
    rw[ej]at hx;cases hx;have hj:=hst j (List.mem_of_getElem? ej);refine⟨Sub.one,_,rfl,_,rfl,_,rfl,_,ys,j,rfl,⟨y,rfl,(s3.trans s') _ _ hy⟩,hj,by omega,λv H4 s4 hv=>?_⟩;refine⟨by show 2<=sizeLine;omega,λp5 hp5=>?_⟩;have s5:=(Same.refl H4).upd (o:=.tup [.int j,v]) hp5;refine⟨(s'.trans s4).trans s5,?_⟩;rw[List.take_add_one,ej];exact((hP.same s4).same s5).snoc A0 (hv.same s5)
  .rintro qs H' ⟨s',hP⟩ p4 hp4;rw[List.length_map,List.take_length]at hP;have s5:=(Same.refl H').upd (o:=.lst qs) hp4;exact k p4 qs _ ((s3.trans s').trans s5) A0 (hP.same s5)
noncomputable def Bar(fss:LLI)(ys:List Int)(j:Nat):Bool:=fss.any λf=>decide (f.getD j 0=ys.getD j 0) && Bel f ys
inductive IspBarred(vs:List V)(H:Hp)(Q:VK)(E:XK):Prop
 |mk (l:Addr) (y:V) (fs:List V) (fss:LLI) (ys:List Int) (j:Nat) (_:vs=[.ref l,y,.int j]) (_:H l=some (.lst fs)) (_:Its H fs fss) (_:IT H y ys) (_:j<ys.length) (_:ys.length<=1000) (_:(∀f∈fss,f.length=ys.length)) (_:∀H',Same H H'->Q (.bl (Bar fss ys j)) H'):IspBarred  vs H Q E
def a4N:Sp:=λvs H Q E=>IspBarred  vs H Q E
theorem sc_is_barred:FnScope ["found","one","j","answer"] ["found","one","j"] (A3 M5):=⟨rfl,rfl,rfl,by decide +kernel,rfl,by decide +kernel,by decide +kernel⟩
theorem a4b(F:FunAt K mg "is_barred" M5 ["found","one","j"])(T:Tx mg)(O_below:Ok P w K mg base "below" 1 ["one","other"] a6Z):Ok P w K mg base "is_barred" 2 ["found","one","j"] a4N:=by
 refine F.okJ sc_is_barred (λvs H Q E h=>?_) (λcdv f A outer s H vs Q E hr h=>?_)
 .obtain⟨l,y,fs,fss,ys,j,rfl,_⟩:=h;rfl
 .obtain⟨l,_,fs,fss,ys,j,rfl,hl,hI,⟨y,rfl,hy⟩,hj,hn,hL,k⟩:=h;refine⟨_,(A2 (Q6 (K9 K (jv 0)) (A8 (i:=3) sc_is_barred.nd rfl (Or.inl rfl))
 (A5 (D8 (a1w (V1 (V2 (P5 K (jv 3) (jv 2)) (P5 K (jv 1) (jv 2))) (O0 (E8 K (A6 O_below (hr.mono (by omega)) rfl (jaC (jv 3) (jaC (jv 1) jaN)))))))
 (A5 (B0 Z0))
 C0)))
 (A5 (B0 Z0))),?_⟩
  refine⟨_,rfl,l,rfl,⟨_,SqL.of hl⟩,?_⟩;refine V9 (K:=K) (a:=l) (xs:=fs) (λi σ H'=>Ex1 λo=>An3 (σ=[some (.ref l),some (.ref y),some (.int j),o]) (Same H H') (Bar (fss.take i) ys j=false)) ⟨none,rfl,Same.refl H,rfl⟩ (λi σ H' _ ⟨_,_,s',_⟩=>SqL.of (s' _ _ hl)) ?_ ?_
  .rintro i x σ H' hx ⟨o,rfl,s',hB⟩;obtain⟨r,hr,hr2,hr3⟩:=hI.mem hx;obtain⟨xa,rfl,hxa⟩:=hr3.same s';have hrl:=hL r hr;have eB:Bar (fss.take (i+1)) ys j=(decide (r.getD j 0=ys.getD j 0) && Bel r ys):=by
    unfold Bar at hB⊢;rw[List.take_add_one,hr2,List.any_append,hB];simp
   have eall:(decide (r.getD j 0=ys.getD j 0) && Bel r ys)=true->Bar fss ys j=true:=λe=>by
    unfold Bar;rw[List.any_eq_true];exact⟨r,hr,e⟩
   dsimp only[A9];refine⟨_,rfl,_,rfl,xa,_,_,_,rfl,rfl,SqT.of hxa,W4 (by omega),_,rfl,_,rfl,y,_,_,_,rfl,rfl,SqT.of (s' _ _ hy),W4 hj,rfl,_,rfl,?_⟩;have ed:decide (V.int (r.getD j 0)=V.int (ys.getD j 0))=decide (r.getD j 0=ys.getD j 0):=by simp
   rw[ed];cases e:decide (r.getD j 0=ys.getD j 0)with
   |false =>
    rw[e]at eB;refine E5 (E5 ?_);exact⟨_,rfl,s',eB⟩
   |true =>
    rw[e]at eB eall;refine V6 ⟨_,rfl,_,rfl,_,_,r,ys,rfl,⟨xa,rfl,hxa⟩,⟨y,rfl,s' _ _ hy⟩,by omega,λH2 s2=>⟨_,rfl,?_⟩⟩;cases e2:Bel r ys with
    |false =>
     rw[e2]at eB;exact E5 ⟨_,rfl,s'.trans s2,eB⟩
    |true =>
     rw[e2]at eall;refine V6 ?_;have:=k H2 (s'.trans s2);rw[eall rfl]at this;exact this
  .rintro σ H' ⟨o,rfl,s',hB⟩;rw[hI.1,List.take_length]at hB;have:=k H' s';rw[hB]at this;exact this
end
def a0E(rss:LLI)(cs:List (Option Int))(F:LLI)(u v:List Int):Prop:=∃j,j∈StP rss cs u/\v=bump u j/\Bar F v j=false
theorem b3w{a b:List Int}(h:a.map (Sum.inl:Int->Key)=b.map Sum.inl):a=b:=by
 induction a generalizing b with
 |nil=>cases b with|nil=>rfl|cons _ _=>cases h
 |cons x a ih =>
  cases b with
  |nil=>cases h
  |cons y b =>
   injection h with h1 h2
   injection h1 with h1
   rw[h1,ih h2]
theorem a2q{kvs:List (List Key×V)}{mss:LLI}{r:List Int}(e:kvs.map (·.1)=IK mss):S5 kvs (r.map Sum.inl)=none↔r∉mss:=by
 constructor
 .intro h hm;refine a9q h ?_;rw[e];exact List.mem_map.mpr ⟨r,hm,rfl⟩
 .intro h;cases hv:S5 kvs (r.map Sum.inl)with
  |none=>rfl
  |some v =>
   have:=b2c hv;rw[e]at this;obtain⟨q,hq,e2⟩:=List.mem_map.mp this;exact absurd (b3w e2 ▸ hq) h
theorem b0T{kvs:List (List Key×V)}{mss:LLI}{r:List Int}(e:kvs.map (·.1)=IK mss):(S5 kvs (r.map Sum.inl)).isSome=decide (r∈mss):=by
 by_cases h:r∈mss
 .rw[decide_eq_true h];cases hv:S5 kvs (r.map Sum.inl)with
  |none=>exact absurd h ((a2q e).mp hv)
  |some v=>rfl
 .rw[decide_eq_false h,(a2q e).mpr h];rfl
theorem b0S(r:List Int):(r.map (Sum.inl:Int->Key)).map kV=r.map V.int:=by rw[List.map_map];rfl
theorem b3v{H H':Hp}{vs:List V}{rss:LLI}{d:Addr}{kvs:List (List Key×V)}(h:Its H vs rss)(hd:H d=some (.dT kvs))(o:Off [d] H H'):Its H' vs rss :=
 ⟨h.1,λi v e=>let ⟨r,e1,a,e2,q⟩:=h.2 i v e;⟨r,e1,a,e2,o _ _ (by simpa using L5 q hd (by intro z;cases z)) q⟩⟩
theorem a9M{H H1 H2:Hp}{a:Addr}(s:Same H H1)(ha:H a=none)(o:Off [a] H1 H2):Same H H2:=λb u e=>o b u (by simpa using A7 e ha) (s b u e)
structure NxPre(H:Hp)(a c f l:Addr)(us:List V)(rss:LLI)(cs:List (Option Int))(fs:List V)(F:LLI)(ls:List V)(L:LLI):Prop where
 ha:H a=some (.tup us)
 hI:Its H us rss
 hc:H c=some (.tup (cs.map cV))
 hf:H f=some (.lst fs)
 hF:Its H fs F
 hl:H l=some (.lst ls)
 hL:Its H ls L
 us1:us.length<=1000
 n1:1<=cs.length
 n2:cs.length<=100
 hR:Rs cs.length rss
 fw:∀v∈F,v.length=cs.length
 lw:∀v∈L,v.length=cs.length/\Sm v
 big:L.length*cs.length+100<=100000
section
variable {P:Program}{w:World}{K:PySem.W.Frag}{mg:Str->Option Value}{base:Heap}
inductive IspNext(vs:List V)(H:Hp)(Q:VK)(E:XK):Prop
 |mk (a c f l:Addr) (r:V) (us:List V) (rss:LLI) (cs:List (Option Int)) (fs:List V) (F:LLI) (ls:List V) (L:LLI) (_:vs=[.ref a,.ref c,.ref f,.ref l,r]) (_:NxPre H a c f l us rss cs fs F ls L) (_:(r=.non∨∃m:Int,r=.int m/\0<=m)) (_:∀p zs tss H',Same H H'->H p=none->H' p=some (.lst zs)->Its H' zs tss->G0 tss->tss.Nodup->(∀v∈tss,∃u∈L,a0E rss cs F u v)->((∀u∈L,∀v,a0E rss cs F u v->v∈tss)∨∃m:Int,r=.int m/\m<tss.length)->tss.length<=L.length*cs.length->(∀m:Int,r=.int m->(tss.length:Int)<=m+cs.length)->Q (.ref p) H'):IspNext  vs H Q E
def a9E:Sp:=λvs H Q E=>IspNext  vs H Q E
theorem sc_next_level:FnScope ["rows","caps","found","level","room","met","one","j","more"] ["rows","caps","found","level","room"] (A3 K4):=⟨rfl,rfl,rfl,by decide +kernel,rfl,by decide +kernel,by decide +kernel⟩
theorem a2Q(F':FunAt K mg "next_level" K4 ["rows","caps","found","level","room"])(T:Tx mg)(O_steps:Ok P w K mg base "steps" 4 ["rows","caps","one"] a6S)(O_is_barred:Ok P w K mg base "is_barred" 2 ["found","one","j"] a4N):Ok P w K mg base "next_level" 5 ["rows","caps","found","level","room"] a9E:=by
 refine F'.okJ sc_next_level (λvs H Q E h=>?_) (λcdv f A outer s H vs Q E hr h=>?_)
 .obtain⟨a,c,f,l,r,us,rss,cs,fs,F,ls,L,rfl,_⟩:=h;rfl
 .obtain⟨a,c,f,l,r,us,rss,cs,fs,F,ls,L,rfl,N,hroom,k⟩:=h;have hu:=hr.u60;have hz:(100000:Nat)<=sizeLine:=by rw[sizeLine_eq];decide
  have hbig:=N.big;refine⟨_,(A2 (B1 (i:=5) sc_next_level.nd rfl (Or.inl rfl) b3s)
 (A2 (Q6 (K9 K (jv 3)) (A8 (i:=6) sc_next_level.nd rfl (Or.inl rfl))
 (A2 (Q6 (K9 K (A6 O_steps (hr.mono (by omega)) rfl (jaC (jv 0) (jaC (jv 1) (jaC (jv 6) jaN))))) (V4 K 2 (B9 (A8 (i:=7) sc_next_level.nd rfl (Or.inl rfl)) (B9 (A8 (i:=8) sc_next_level.nd rfl (Or.inl rfl)) O1)))
 (A5 (D8 (a1w (V1 (a8I hu (jv 8) (jv 5) (by with_unfolding_all rfl)) (O0 (O7 (E8 K (A6 O_is_barred (hr.mono (by omega)) rfl (jaC (jv 2) (jaC (jv 8) (jaC (jv 7) jaN)))))))))
 (A5 (b3m hu (jv 5) (jv 8) Z0))
 C0)))
 (A5 (D8 (a1w (V1 (a7o (jv 4) a0v) (O0 (a5m (b3q rfl T.b_len (jaC (jv 5) jaN)) (jv 4)))))
 (A5 b1a)
 C0))))
 (A5 (B0 (b1d rfl T.b_sorted (jaC (jv 5) jaN)))))),?_⟩
  intro d hd;dsimp only[A9];have s0:=(Same.refl H).upd (o:=.dT []) hd;have e0:upd H d (.dT []) d=some (.dT []):=A0;generalize upd H d (.dT [])=H0 at s0 e0;have fin:∀(kvs:List (List Key×V)) (mss:LLI) (σ:L2.St) (H':Hp),σ[5]?=some (some (.ref d))->Same H H'->H' d=some (.dT kvs)->kvs.map (·.1)=IK mss->mss.Nodup->(∀v∈mss,∃u∈L,a0E rss cs F u v)->((∀u∈L,∀v,a0E rss cs F u v->v∈mss)∨∃m:Int,r=.int m/\m<mss.length)->mss.length<=L.length*cs.length->(∀m:Int,r=.int m->(mss.length:Int)<=m+cs.length) ->
    b4q (tCB a5X (a2Z (G2 5) a0H)) {nx:=λx H'=>Q V.non H',rt:=Q} σ H':=by
   intro kvs mss σ H' hσ s' hd' hk hn h1 h2 h3 h4;refine⟨_,hσ,d,kvs,mss,rfl,hd',hk,λv hv=>?_,λp zs tss hp hI hpm hri=>?_⟩
   .obtain⟨u,hu,j,_,rfl,_⟩:=h1 v hv;rw[E2,(N.lw u hu).1];exact N.n1
   refine k p zs tss _ (s'.upd hp) (s'.free hp) A0 (hI.same ((Same.refl H').upd hp)) hri (hpm.symm.nodup hn) (λv hv=>h1 v (hpm.mem_iff.mp hv)) ?_ (by rw[hpm.length_eq];exact h3) λm e=>by rw[hpm.length_eq];exact h4 m e
   rcases h2 with h2|⟨m,e,h2⟩
   .exact .inl λu hu v hv=>hpm.mem_iff.mpr (h2 u hu v hv)
   .exact .inr ⟨m,e,by rw[hpm.length_eq];exact h2⟩
  refine⟨_,rfl,l,rfl,⟨_,SqL.of (s0 _ _ N.hl)⟩,?_⟩;refine V9 (K:=K) (a:=l) (xs:=ls) (λi σ H'=>Ex5 λo6 o7 o8 kvs mss=>An9 (σ=[some (.ref a),some (.ref c),some (.ref f),some (.ref l),some r,some (.ref d),o6,o7,o8]) (Same H H') (H' d=some (.dT kvs)) (kvs.map (·.1)=IK mss) (mss.Nodup) ((∀v∈mss,∃u∈L,a0E rss cs F u v)) ((∀u∈L.take i,∀v,a0E rss cs F u v->v∈mss)) (mss.length<=i*cs.length) (∀m:Int,r=.int m->(mss.length:Int)<=m))
   ⟨none,none,none,[],[],rfl,s0,e0,rfl,List.nodup_nil,(λ_ z=>nomatch z),(λ_ z=>by simp at z),by simp,λm e=>?_⟩ (λi σ H' _ h=>by obtain⟨_,_,_,_,_,_,s',_⟩:=h;exact SqL.of (s' _ _ N.hl)) ?_ ?_
  .rcases hroom with e'|⟨m',e',hm'⟩
   .rw[e']at e;cases e
   .rw[e']at e;cases e;simpa using hm'
  .rintro i x σ H' hx ⟨o6,o7,o8,kvs,mss,rfl,s',hd',hk,hn,h1,h2,h3,h4⟩;obtain⟨ys,hy1,hy2,hy3⟩:=N.hL.mem hx;obtain⟨yw,ysm⟩:=N.lw ys hy1;have hil:i<L.length:=(List.getElem?_eq_some_iff.mp hy2).1;have him:(i+1)*cs.length<=L.length*cs.length:=Nat.mul_le_mul_right _ hil;have him2:(i+1)*cs.length=i*cs.length+cs.length:=by rw[Nat.add_mul,Nat.one_mul]
   dsimp only[A9];have hR':Rs ys.length rss:=by rw[yw];exact N.hR
   refine⟨_,rfl,_,rfl,_,rfl,a,c,x,us,rss,cs,ys,rfl,s' _ _ N.ha,N.hI.same s',s' _ _ N.hc,hy3.same s',N.us1,by rw[yw];exact N.n2,yw.symm,hR',ysm,λp1 ps H1 s1 hp1 hP1=>?_⟩;have hd1:=s1 _ _ hd';have s1':=s'.trans s1;refine⟨p1,rfl,⟨_,SqL.of hp1⟩,?_⟩;have hst:∀j∈StP rss cs ys,j<ys.length:=λj hj=>List.mem_range.mp (List.mem_filter.mp (List.mem_filter.mp hj).1).1;have hsl:(StP rss cs ys).length<=cs.length:=by rw[<-yw];exact Nat.le_trans (List.length_filter_le _ _) (Nat.le_trans (List.length_filter_le _ _) (by simp))
   have hdp:d≠p1:=L5 hd1 hp1 (by intro z;cases z);refine V9 (K:=K) (a:=p1) (xs:=ps) (λi2 σ H2=>Ex4 λo7 o8 kvs mss=>An10 (σ=[some (.ref a),some (.ref c),some (.ref f),some (.ref l),some r,some (.ref d),some x,o7,o8]) (Off [d] H1 H2) (H2 d=some (.dT kvs)) (kvs.map (·.1)=IK mss) (mss.Nodup) ((∀v∈mss,∃u∈L,a0E rss cs F u v)) ((∀u∈L.take i,∀v,a0E rss cs F u v->v∈mss)) ((∀j∈(StP rss cs ys).take i2,Bar F (bump ys j) j=false->bump ys j∈mss)) (mss.length<=i*cs.length+i2) (∀m:Int,r=.int m->(mss.length:Int)<=m+i2))
    ⟨o7,o8,kvs,mss,rfl,Off.refl _ _,hd1,hk,hn,h1,h2,(λ_ z=>by simp at z),h3,λm e=>by have:=h4 m e;omega⟩ (λi2 σ H2 _ h=>by obtain⟨_,_,_,_,_,o2,_⟩:=h;exact SqL.of (o2 _ _ (by simpa using hdp.symm) hp1)) ?_ ?_
   .rintro i2 q σ H2 hq ⟨o7,o8,kvs,mss,rfl,off2,hd2,hk,hn,h1,h2,h5,h3,h4⟩;obtain⟨j,b,v,ej,rfl,hb,hv⟩:=hP1.2 i2 q hq;obtain⟨va,rfl,hva⟩:=hv;have hjm:=List.mem_of_getElem? ej;have hj:=hst j hjm;have hb2:=off2 _ _ (by simpa using L5 hb hd1 (by intro z;cases z)) hb;have hva2:=off2 _ _ (by simpa using L5 hva hd1 (by intro z;cases z)) hva;have hf1:=s1' _ _ N.hf;have hf2:=off2 _ _ (by simpa using L5 hf1 hd1 (by intro z;cases z)) hf1;have hF2:=b3v (N.hF.same s1') hd1 off2;have hi2:i2<(StP rss cs ys).length:=(List.getElem?_eq_some_iff.mp ej).1;have hkl:kvs.length=mss.length:=by
     have:=congrArg List.length hk;simpa[IK]using this
    have h5n:∀mss':LLI,(∀v∈mss,v∈mss')->(Bar F (bump ys j) j=false->bump ys j∈mss')->∀j'∈(StP rss cs ys).take (i2+1),Bar F (bump ys j') j'=false->bump ys j'∈mss':=λmss' hsub hjj j' hj' hb'=>by
     rw[List.take_add_one,ej]at hj';rcases List.mem_append.mp hj' with z|z
     .exact hsub _ (h5 j' z hb')
     .have:j'=j:=by simpa using z
      subst this;exact hjj hb'
    refine⟨b,[.int j,.ref va],rfl,SqT.of hb2,rfl,.int j,[.ref va],rfl,.ref va,[],rfl,rfl,?_⟩;refine⟨_,rfl,_,rfl,d,_,rfl,DGet.t hd2 (by rw[b0S];exact hva2),_,rfl,?_⟩;rw[b0T hk];by_cases hm:bump ys j∈mss
    .rw[decide_eq_true hm];refine E5 (E5 ?_);exact⟨_,_,kvs,mss,rfl,off2,hd2,hk,hn,h1,h2,h5n mss (λ_ z=>z) (λ_=>hm),by omega,λm e=>by have:=h4 m e;omega⟩
    .rw[decide_eq_false hm];refine V6 ⟨_,rfl,_,rfl,_,rfl,f,.ref va,fs,F,bump ys j,j,rfl,hf2,hF2,⟨va,rfl,hva2⟩,by rw[E2];exact hj,by rw[E2,yw];have:=N.n2;omega,λv hv=>by rw[E2,yw];exact N.fw v hv,λH3 s3=>⟨_,rfl,?_⟩⟩;have hd3:=s3 _ _ hd2;cases e:Bar F (bump ys j) j with
     |true =>
      refine E5 ?_;exact⟨_,_,kvs,mss,rfl,off2.trans s3.off,hd3,hk,hn,h1,h2,h5n mss (λ_ z=>z) (λz=>by rw[e]at z;cases z),by omega,λm e=>by have:=h4 m e;omega⟩
     |false =>
      refine V6 ?_;refine⟨_,rfl,_,rfl,d,_,rfl,DPut.t hd3 (by rw[b0S];exact s3 _ _ hva2) (by omega),?_⟩;rw[b0d _ ((a2q hk).mpr hm)];refine⟨_,_,_,mss++[bump ys j],rfl,(off2.trans s3.off).set (by simp),A0,by rw[List.map_append,hk];simp[IK],a7j hn hm,λv hv=>?_,λu hu v hv=>List.mem_append_left _ (h2 u hu v hv),h5n _ (λv hv=>List.mem_append_left _ hv) (λ_=>by simp),by rw[List.length_append];simp;omega,λm e=>by have:=h4 m e;rw[List.length_append];simp;omega⟩;rcases List.mem_append.mp hv with z|z
      .exact h1 v z
      .rw[List.mem_singleton.mp z];exact⟨ys,hy1,j,hjm,rfl,e⟩
   .rintro σ H2 ⟨o7,o8,kvs,mss,rfl,off2,hd2,hk,hn,h1,h2,h5,h3,h4⟩;rw[hP1.1,List.take_length]at h5;have hkl:kvs.length=mss.length:=by
     have:=congrArg List.length hk;simpa[IK]using this
    have hpl:=hP1.1;have s2:Same H H2:=a9M s1' hd off2;have h2':∀u∈L.take (i+1),∀v,a0E rss cs F u v->v∈mss:=λu hu v hv=>by
     rw[List.take_add_one,hy2]at hu;rcases List.mem_append.mp hu with z|z
     .exact h2 u z v hv
     .have:u=ys:=by simpa using z
      subst this;obtain⟨j,hj,rfl,hb⟩:=hv;exact h5 j hj hb
    rcases hroom with rfl|⟨m,rfl,hm0⟩
    .refine⟨_,rfl,rfl,_,rfl,E5 (E5 ?_)⟩;exact⟨_,_,_,kvs,mss,rfl,s2,hd2,hk,hn,h1,h2',by omega,λm e=>by cases e⟩
    .refine⟨_,rfl,rfl,_,rfl,V6 ?_⟩;refine⟨_,rfl,d,kvs,rfl,hd2,_,rfl,_,_,rfl,rfl,_,rfl,T3 (λe=>?_) (λe=>?_)⟩
     .have e':m<(kvs.length:Int):=of_decide_eq_true e;have h4':=h4 m rfl;exact fin kvs mss _ H2 rfl s2 hd2 hk hn h1 (.inr ⟨m,rfl,by omega⟩) (by omega) λm' e2=>by cases e2;omega
     .have e':¬m<(kvs.length:Int):=λz=>e (decide_eq_true z);exact⟨_,_,_,kvs,mss,rfl,s2,hd2,hk,hn,h1,h2',by omega,λm' e2=>by cases e2;omega⟩
  .rintro σ H' ⟨o6,o7,o8,kvs,mss,rfl,s',hd',hk,hn,h1,h2,h3,h4⟩;rw[N.hL.1,List.take_length]at h2;exact fin kvs mss _ H' rfl s' hd' hk hn h1 (.inl h2) (by rw[N.hL.1]at h3;exact h3) λm e=>by have:=h4 m e;omega
end
noncomputable def ffl(ra ca:Addr)(b:Bool)(ah af aw:Addr):List (Str×V):=[("rows",.ref ra),("caps",.ref ca),("begun",.bl b),("here",.ref ah),("found",.ref af),("walked",.ref aw)]
section
variable (ra ca ah ah' af aw:Addr) (b b':Bool)
theorem a5r:(ffl ra ca b ah af aw).lookup ("rows" : Str)=some (.ref ra):=by with_unfolding_all rfl
theorem a5s:(ffl ra ca b ah af aw).lookup ("caps" : Str)=some (.ref ca):=by with_unfolding_all rfl
theorem a3s:(ffl ra ca b ah af aw).lookup ("begun" : Str)=some (.bl b):=by with_unfolding_all rfl
theorem W0:(ffl ra ca b ah af aw).lookup ("here" : Str)=some (.ref ah):=by with_unfolding_all rfl
theorem a0W:(ffl ra ca b ah af aw).lookup ("found" : Str)=some (.ref af):=by with_unfolding_all rfl
theorem a2F:(ffl ra ca b ah af aw).lookup ("walked" : Str)=some (.ref aw):=by with_unfolding_all rfl
theorem a4U:G6 "here" (.ref ah') (ffl ra ca b ah af aw)=ffl ra ca b ah' af aw:=by with_unfolding_all rfl
theorem a8m:G6 "begun" (.bl b') (ffl ra ca b ah af aw)=ffl ra ca b' ah af aw:=by with_unfolding_all rfl
theorem a4T:G6 "walked" (.ref aw) (G6 "found" (.ref af) (G6 "here" (.ref ah) (G6 "begun" (.bl b) (G6 "caps" (.ref ca) (G6 "rows" (.ref ra) [])))))=ffl ra ca b ah af aw:=by with_unfolding_all rfl
theorem b1y:(ffl ra ca b ah af aw).lookup ("told" : Str)=none:=by with_unfolding_all rfl
theorem a8R:(ffl ra ca b ah af aw).lookup ("paper" : Str)=none:=by with_unfolding_all rfl
theorem a8S:(ffl ra ca b ah af aw).lookup ("ended" : Str)=none:=by with_unfolding_all rfl
theorem a1y:(ffl ra ca b ah af aw).lookup ("step_within" : Str)=none:=by with_unfolding_all rfl
end
structure FiTx(K:PySem.W.Frag)(C:Addr):Prop where
 cl:Cls K C
 n1:NoAttr K C "rows"
 n2:NoAttr K C "caps"
 n3:NoAttr K C "begun"
 n4:NoAttr K C "here"
 n5:NoAttr K C "found"
 n6:NoAttr K C "walked"
structure FAt(C:Addr)(H:Hp)(p ra ca af aw:Addr)(b:Bool)(L F W:LLI):Prop where
 ob:∃dx ah hs,H p=some (.ins C dx (ffl ra ca b ah af aw))/\H ah=some (.lst hs)/\Its H hs L/\ah≠af/\ah≠aw
 hf:∃fs,H af=some (.lst fs)/\Its H fs F
 hw:∃ws,H aw=some (.lst ws)/\Its H ws W
 ne:af≠aw
theorem FAt.same{C:Addr}{H H':Hp}{p ra ca af aw:Addr}{b:Bool}{L F W:LLI}(h:FAt C H p ra ca af aw b L F W)(s:Same H H'):FAt C H' p ra ca af aw b L F W:=by
 obtain⟨⟨dx,ah,hs,h1,h2,h3,h4,h5⟩,⟨fs,f1,f2⟩,⟨ws,w1,w2⟩,ne⟩:=h;exact⟨⟨dx,ah,hs,s _ _ h1,s _ _ h2,h3.same s,h4,h5⟩,⟨fs,s _ _ f1,f2.same s⟩,⟨ws,s _ _ w1,w2.same s⟩,ne⟩
structure SyAt(H:Hp)(a c:Addr)(rss:LLI)(cs:List (Option Int)):Prop where
 ex:∃us,H a=some (.tup us)/\Its H us rss/\us.length<=1000
 hc:H c=some (.tup (cs.map cV))
 n1:1<=cs.length
 n2:cs.length<=100
 hR:Rs cs.length rss
theorem SyAt.same{H H':Hp}{a c:Addr}{rss:LLI}{cs:List (Option Int)}(h:SyAt H a c rss cs)(s:Same H H'):SyAt H' a c rss cs:=by
 obtain⟨⟨us,h1,h2,h3⟩,hc,n1,n2,hR⟩:=h;exact⟨⟨us,s _ _ h1,h2.same s,h3⟩,s _ _ hc,n1,n2,hR⟩
structure StR(rss:LLI)(cs:List (Option Int))(b:Bool)(L F:LLI)(r:V)(L':LLI):Prop where
 ri:G0 L'
 nd:L'.Nodup
 fst:b=false->∀v,v∈L'↔v∈a0f cs
 snd:b=true->∀v∈L',∃u∈L,a0E rss cs F u v
 all:b=true->(∀u∈L,∀v,a0E rss cs F u v->v∈L')∨∃m:Int,r=.int m/\m<L'.length
 len:L'.length<=cs.length+L.length*cs.length
 few:∀m:Int,r=.int m->(L'.length:Int)<=m+cs.length
theorem W8(n j i:Nat)(hi:i<n):(L3 n j).getD i 0=if i=j then 1 else 0:=by
 unfold L3;simp[List.getD_eq_getElem?_getD,hi]
theorem L0(n j:Nat):(L3 n j).length=n:=by simp[L3]
theorem a8Q(cs:List (Option Int)):(a0f cs).Nodup:=by
 unfold a0f;refine List.Nodup.sublist (List.filter_sublist) ?_;unfold List.Nodup;rw[List.pairwise_map];refine(List.nodup_range (n:=cs.length)).imp_of_mem λ{i j} hi hj hne e=>?_;have h1:(L3 cs.length i).getD i 0=(L3 cs.length j).getD i 0:=congrArg (λl:List Int=>l.getD i 0) e;rw[W8 _ _ _ (List.mem_range.mp hi),W8 _ _ _ (List.mem_range.mp hi),if_pos rfl,if_neg hne]at h1;omega
theorem lp{f:Str}{v:V}{fs:List (Str×V)}{k:Nat}(h:fs.length<=k):(G6 f v fs).length<=k+1:=by
 refine Nat.le_trans ?_ (Nat.succ_le_succ h);clear h;induction fs with
 |nil=>exact Nat.le_refl _
 |cons p r ih =>
  obtain⟨g,x⟩:=p;show(if g=f then(g,v)::r else(g,x)::G6 f v r).length<=_;split
  .simp
  .simpa using ih
section
variable {P:Program}{w:World}{K:PySem.W.Frag}{mg:Str->Option Value}{base:Heap}{C:Addr}
inductive IspFInit(C:Addr)(vs:List V)(H:Hp)(Q:VK)(E:XK):Prop
 |mk (p dx ra ca:Addr) (_:vs=[.ref p,.ref ra,.ref ca]) (_:H p=some (.ins C dx [])) (_:∀(af aw:Addr) (H':Hp),H af=none->H aw=none->FAt C H' p ra ca af aw false [] [] []->(∃dx ah,H' p=some (.ins C dx (ffl ra ca false ah af aw))/\H ah=none)->(∀b o,H b=some o->b≠p->H' b=some o)->Q .non H'):IspFInit C vs H Q E
def a6Y(C:Addr):Sp:=λvs H Q E=>IspFInit C vs H Q E
theorem Z9:FnScope ["self","rows","caps"] ["self","rows","caps"] (A3 D6):=⟨rfl,rfl,rfl,by decide +kernel,rfl,by decide +kernel,by decide +kernel⟩
theorem b0E(FM:MethAt K C "__init__" "Finder.__init__" D6 ["self","rows","caps"])(U:FiTx K C):MethOk P w K mg base C "__init__" 1 ["self","rows","caps"] (a6Y C):=by
 refine FM.fnJ Z9 (λvs H Q E h=>?_) (λcdv f A outer s H vs Q E hr h=>?_)
 .obtain⟨p,dx,ra,ca,rfl,_⟩:=h;rfl
 .obtain⟨p,dx,ra,ca,rfl,hp,k⟩:=h;refine⟨_,(A2 (Q7 K (jv 0) (jv 1))
 (A2 (Q7 K (jv 0) (jv 2))
 (A2 (Q7 K (jv 0) Z0)
 (A2 (Q7 K (jv 0) (O2 jaN))
 (A2 (Q7 K (jv 0) (O2 jaN))
 (A5 (Q7 K (jv 0) (O2 jaN)))))))),?_⟩
  have l0:([]:List (Str×V)).length<=0:=Nat.le_refl _;refine⟨_,rfl,_,rfl,p,C,dx,_,rfl,hp,U.cl,U.n1,Nat.lt_of_le_of_lt l0 (by decide),?_⟩;refine⟨_,rfl,_,rfl,p,C,dx,_,rfl,A0,U.cl,U.n2,Nat.lt_of_le_of_lt (lp l0) (by decide),?_⟩;rw[a3I];refine⟨_,rfl,p,C,dx,_,rfl,A0,U.cl,U.n3,Nat.lt_of_le_of_lt (lp (lp l0)) (by decide),?_⟩;rw[a3I];generalize hX:G6 "begun" (V.bl false) (G6 "caps" (.ref ca) (G6 "rows" (.ref ra) []))=X3;have l3:X3.length<=3:=by rw[<-hX];exact lp (lp (lp l0))
  have k1:∀b o,H b=some o->b≠p->upd H p (.ins C dx X3) b=some o:=λb o e hb=>by rw[A1 hb];exact e
  have e1:upd H p (.ins C dx X3) p=some (.ins C dx X3):=A0;have n1:∀b,upd H p (.ins C dx X3) b=none->H b=none:=λb e=>by
   by_cases hb:b=p
   .subst hb;rw[A0]at e;cases e
   .rwa[A1 hb]at e
  generalize upd H p (.ins C dx X3)=H1 at k1 e1 n1;refine⟨Nat.zero_le _,λah hah=>?_⟩;have pa:p≠ah:=A7 e1 hah;refine⟨_,rfl,p,C,dx,_,rfl,by rw[A1 pa];exact e1,U.cl,U.n4,by omega,?_⟩;refine⟨Nat.zero_le _,λaf haf=>?_⟩;have pf:p≠af:=λz=>by subst z;rw[A0]at haf;cases haf
  have haf1:upd H1 ah (.lst []) af=none:=by rwa[A1 pf.symm]at haf
  have ahf:ah≠af:=A7 (o:=.lst []) A0 haf1;have haf0:H1 af=none:=by rwa[A1 ahf.symm]at haf1
  refine⟨_,rfl,p,C,dx,_,rfl,by rw[A1 pf];exact A0,U.cl,U.n5,by have:=lp (f:="here") (v:=.ref ah) l3;omega,?_⟩;refine⟨Nat.zero_le _,λaw haw=>?_⟩;have pw:p≠aw:=λz=>by subst z;rw[A0]at haw;cases haw
  have haw1:=haw;rw[A1 pw.symm]at haw1;have afw:af≠aw:=A7 (o:=.lst []) A0 haw1;rw[A1 afw.symm,A1 pw.symm]at haw1;have ahw:ah≠aw:=A7 (o:=.lst []) A0 haw1;rw[A1 ahw.symm]at haw1;refine⟨_,rfl,p,C,dx,_,rfl,by rw[A1 pw];exact A0,U.cl,U.n6,by have:=lp (f:="found") (v:=.ref af) (lp (f:="here") (v:=.ref ah) l3);omega,?_⟩;refine k af aw _ (n1 _ haf0) (n1 _ haw1) ⟨⟨dx,ah,[],?_,?_,.nil,ahf,ahw⟩,⟨[],?_,.nil⟩,⟨[],?_,.nil⟩,afw⟩ ⟨dx,ah,by rw[A0,<-hX,<-a4T],n1 _ hah⟩ λb o e hb=>?_
  .rw[A0,<-hX,<-a4T]
  .rw[A1 pa.symm,A1 ahw,A1 pa.symm,A1 ahf,A1 pa.symm,A0]
  .rw[A1 pf.symm,A1 afw,A1 pf.symm,A0]
  .rw[A1 pw.symm,A0]
  .have e2:=k1 b o e hb;rw[A1 hb,A1 (A7 e2 haw1),A1 hb,A1 (A7 e2 haf0),A1 hb,A1 (A7 e2 hah)];exact e2
theorem a7u{H:Hp}:∀{vs ws:List V}{rss tss:LLI},Its H vs rss->Its H ws tss->Its H (vs++ws) (rss++tss):=by
 intro vs ws rss tss h g;refine⟨by rw[List.length_append,List.length_append,h.1,g.1],λi v e=>?_⟩;rcases Nat.lt_or_ge i vs.length with hi|hi
 .rw[List.getElem?_append_left hi]at e;obtain⟨r,e1,e2⟩:=h.2 i v e;exact⟨r,by rw[List.getElem?_append_left (by rw[<-h.1];exact hi)];exact e1,e2⟩
 .rw[List.getElem?_append_right hi]at e;obtain⟨r,e1,e2⟩:=g.2 _ v e;exact⟨r,by rw[List.getElem?_append_right (by rw[<-h.1];exact hi),<-h.1];exact e1,e2⟩
theorem O3{H:Hp}{vs:List V}{rss:LLI}{c:Addr}{o o':HO}(h:Its H vs rss)(hc:H c=some o)(hn:∀xs,HO.tup xs≠o):Its (upd H c o') vs rss :=
 ⟨h.1,λi v e=>let ⟨r,e1,a,e2,q⟩:=h.2 i v e;⟨r,e1,a,e2,by rw[A1 (L5 q hc (hn _))];exact q⟩⟩
theorem a2x{H H':Hp}{vs:List V}{rss:LLI}{c:Addr}{o:HO}(h:Its H vs rss)(hc:H c=some o)(hn:∀xs,HO.tup xs≠o)(off:Off [c] H H'):Its H' vs rss :=
 ⟨h.1,λi v e=>let ⟨r,e1,a,e2,q⟩:=h.2 i v e;⟨r,e1,a,e2,off _ _ (by simpa using L5 q hc (hn _)) q⟩⟩
theorem b2g{H H':Hp}{a c:Addr}{rss:LLI}{cs:List (Option Int)}{b:Addr}{o:HO}(h:SyAt H a c rss cs)(hb:H b=some o)(hn:∀xs,HO.tup xs≠o)(off:Off [b] H H'):SyAt H' a c rss cs:=by
 obtain⟨⟨us,h1,h2,h3⟩,hc,n1,n2,hR⟩:=h;exact⟨⟨us,off _ _ (by simpa using L5 h1 hb (hn _)) h1,a2x h2 hb hn off,h3⟩,off _ _ (by simpa using L5 hc hb (hn _)) hc,n1,n2,hR⟩
theorem b2k{u:List Int}{B:Int}{j:Nat}(h:∀x∈u,0<=x/\x<=B)(hB:B<=2 ^ 60):∀x∈bump u j,0<=x/\x<=2 ^ 60+1:=by
 intro x hx;unfold bump at hx;rcases List.mem_or_eq_of_mem_set hx with z|z
 .have:=h x z;omega
 .by_cases hj:j<u.length
  .have:=h _ (List.getElem_mem (h:=hj));rw[List.getD_eq_getElem?_getD,List.getElem?_eq_getElem hj]at z;simp at z;omega
  .rw[List.getD_eq_getElem?_getD,List.getElem?_eq_none (by omega)]at z;simp at z;omega
inductive IspStepW(C:Addr)(vs:List V)(H:Hp)(Q:VK)(E:XK):Prop
 |mk (p ra ca af aw:Addr) (b:Bool) (L F W rss:LLI) (cs:List (Option Int)) (r:V) (B:Int) (_:vs=[.ref p,r]) (_:FAt C H p ra ca af aw b L F W) (_:SyAt H ra ca rss cs) (_:(r=.non∨∃m:Int,r=.int m/\0<=m)) (_:(∀v∈L,v.length=cs.length/\∀x∈v,0<=x/\x<=B)) (_:B<=2 ^ 60) (_:(∀v∈F,v.length=cs.length)) (_:L.length*cs.length+100<=100000) (_:F.length<=100000) (_:W.length<=100000) (_:∀L' H',StR rss cs b L F r L'->FAt C H' p ra ca af aw true L' (F++L'.filter λv=>Ans rss v) (W++L')->(∃dx ah,H' p=some (.ins C dx (ffl ra ca true ah af aw))/\H ah=none)->Off [p,af,aw] H H'->Q (.int L'.length) H'):IspStepW C vs H Q E
def a3L(C:Addr):Sp:=λvs H Q E=>IspStepW C vs H Q E
theorem a9R{σ:L2.St}{i j:Nat}{C p ra ca af aw:Addr}{b:Bool}{L F W rss:LLI}{cs:List (Option Int)}{r:V}{B:Int}{H:Hp}{Q:VK}(hi:σ[i]?=some (some (.ref p)))(hj:σ[j]?=some (some r))(D:FAt C H p ra ca af aw b L F W)(Y:SyAt H ra ca rss cs)(h1:r=.non∨∃m:Int,r=.int m/\0<=m)(h2:∀v∈L,v.length=cs.length/\∀x∈v,0<=x/\x<=B)(h3:B<=2 ^ 60)(h4:∀v∈F,v.length=cs.length)(h5:L.length*cs.length+100<=100000)(h6:F.length<=100000)(h7:W.length<=100000)
  (k:∀L' H',StR rss cs b L F r L'->FAt C H' p ra ca af aw true L' (F++L'.filter λv=>Ans rss v) (W++L')->(∃dx ah,H' p=some (.ins C dx (ffl ra ca true ah af aw))/\H ah=none)->Off [p,af,aw] H H'->Q (.int L'.length) H'):a1h C "step_within" (a3L C) [] E0 (G2 i) (a2Z (G2 j) a0H) σ H Q:=by
 obtain⟨⟨dx,ah,hs,g1,_⟩,_,_,_⟩:=id D;exact⟨_,hi,p,dx,_,rfl,g1,a1y _ _ _ _ _ _,_,hj,p,ra,ca,af,aw,b,L,F,W,rss,cs,r,B,rfl,D,Y,h1,h2,h3,h4,h5,h6,h7,k⟩
theorem T0:FnScope ["self","room"] ["self","room"] (A3 C2):=⟨rfl,rfl,rfl,by decide +kernel,rfl,by decide +kernel,by decide +kernel⟩
theorem b0y(FM:MethAt K C "step_within" "Finder.step_within" C2 ["self","room"])(U:FiTx K C)(T:Tx mg)(O_next_level:Ok P w K mg base "next_level" 5 ["rows","caps","found","level","room"] a9E)(O_first_steps:Ok P w K mg base "first_steps" 2 ["caps"] a6W)(O_is_answer:Ok P w K mg base "is_answer" 3 ["rows","one"] a6V) :
  MethOk P w K mg base C "step_within" 6 ["self","room"] (a3L C):=by
 refine FM.fnJ T0 (λvs H Q E h=>?_) (λcdv f A outer s H vs Q E hr h=>?_)
 .obtain⟨p,ra,ca,af,aw,b,L,F,W,rss,cs,r,B,rfl,_⟩:=h;rfl
 .obtain⟨p,ra,ca,af,aw,b,L,F,W,rss,cs,r,B,rfl,D,Y,hroom,hL,hB,hF,hbig,hF1,hW1,k⟩:=h;have hz:(300000:Nat)<=sizeLine:=by rw[sizeLine_eq];decide
  obtain⟨⟨dx,ah,hs,h1,h2,h3,h4,h5⟩,⟨fs,f1,f2⟩,⟨ws,w1,w2⟩,ne⟩:=id D;have npf:p≠af:=L5 h1 f1 (by intro z;cases z);have npw:p≠aw:=L5 h1 w1 (by intro z;cases z);refine⟨_,(A2 (D8 (E8 K (J9 K (jv 0)))
 (A5 (Q7 K (jv 0) (A6 O_next_level (hr.mono (by omega)) rfl (jaC (J9 K (jv 0)) (jaC (J9 K (jv 0)) (jaC (J9 K (jv 0)) (jaC (J9 K (jv 0)) (jaC (jv 1) jaN))))))))
 (A2 (Q7 K (jv 0) (b3p K rfl T.b_list (jaC (A6 O_first_steps (hr.mono (by omega)) rfl (jaC (J9 K (jv 0)) jaN)) jaN)))
 (A5 (Q7 K (jv 0) Z0))))
 (A2 (Q8 (a3o K (J9 K (jv 0)) (jaC (B7 (N:=["one","self"]) (src:=[none,some 0]) (K9 K (J9 K (jv 0))) (by show B8 _ _=true;rfl) (by rfl) (by rfl)
 (λ_ _ _ _ _=>(A8 (i:=0) (show(["one","self"]:List Str).Nodup by decide +kernel) rfl (Or.inl rfl))) (λ_ _ _ _ _=>(a0b (E8 K (A6 O_is_answer (hr.mono (by omega)) rfl (jaC (J9 K (jv 1)) (jaC (jv 0) jaN)))))) (λ_ _ _ _ _=>(jv 0))) jaN)))
 (A2 (Q8 (a3o K (J9 K (jv 0)) (jaC (J9 K (jv 0)) jaN)))
 (A5 (B0 (V5 K rfl T.b_len (jaC (J9 K (jv 0)) jaN))))))),?_⟩
  refine K3 (λσ H'=>σ=[some (.ref p),some r]/\∃ah' hs' L',H' p=some (.ins C dx (ffl ra ca true ah' af aw))/\H' ah'=some (.lst hs')/\Its H' hs' L'/\H ah'=none/\StR rss cs b L F r L'/\Off [p] H H'/\∀v∈L',v.length=cs.length/\Sm v) ?fin λfin=>?_
  case fin =>
   rintro σ H1 ⟨rfl,ah',hs',L',p1,a1,i1,a0,R,off1,hL'⟩;have hn2:=Y.n2;have hlen:L'.length<=100000:=by have:=R.len;omega
   have f1':=off1 _ _ (by simpa using npf.symm) f1;have w1':=off1 _ _ (by simpa using npw.symm) w1;have f2':=a2x f2 h1 (λ_ z=>by cases z) off1;have w2':=a2x w2 h1 (λ_ z=>by cases z) off1;have Y1:=b2g Y h1 (λ_ z=>by cases z) off1;have haf:ah'≠af:=(A7 f1 a0).symm;have haw:ah'≠aw:=(A7 w1 a0).symm;have hpa:p≠ah':=A7 h1 a0;refine⟨_,rfl,p,C,dx,_,_,rfl,p1,U.cl,U.n5,a0W _ _ _ _ _ _,.inl ⟨rfl,_,SqL.of f1'⟩,?_⟩;refine⟨_,rfl,p,C,dx,_,_,rfl,p1,U.cl,U.n4,W0 _ _ _ _ _ _,ah',rfl,⟨_,SqL.of a1⟩,?_⟩;refine a2m (caps:=[some (.ref p)]) (λv=>Ans rss v) (by rw[i1.1];omega) (λH2 s2=>SqL.of (s2 _ _ a1)) i1 rfl (λv r' H2 Q2 hr' hv s2 q=>?_) λH2 p2 zs s2 hp2 hI2=>?_
   .obtain⟨⟨us,u1,u2,u3⟩,_,_,_,hR⟩:=Y1.same s2;refine⟨_,rfl,p,C,dx,_,_,rfl,s2 _ _ p1,U.cl,U.n1,a5r _ _ _ _ _ _,_,rfl,ra,v,us,rss,r',rfl,u1,u2,hv,u3,λr hr=>by rw[(hR r hr).1];omega,(hL' r' hr').2,λH3 s3=>⟨_,rfl,q H3 s3⟩⟩
   have hfl:(L'.filter λv=>Ans rss v).length<=L'.length:=List.length_filter_le _ _;have s3:=s2.upd (o:=.lst zs) hp2;have s3':=(Same.refl H2).upd (o:=.lst zs) hp2;have e3:upd H2 p2 (.lst zs) p2=some (.lst zs):=A0;have hI3:=hI2.same s3';generalize upd H2 p2 (.lst zs)=H3 at s3 e3 hI3;have f3:=s3 _ _ f1';refine⟨af,p2,fs,zs,rfl,rfl,f3,e3,by rw[f2.1,hI2.1];omega,?_⟩;have p4:upd H3 af (.lst (fs++zs)) p=some (.ins C dx (ffl ra ca true ah' af aw)):=by rw[A1 npf];exact s3 _ _ p1
   have w4:upd H3 af (.lst (fs++zs)) aw=some (.lst ws):=by rw[A1 ne.symm];exact s3 _ _ w1'
   have a4:upd H3 af (.lst (fs++zs)) ah'=some (.lst hs'):=by rw[A1 haf];exact s3 _ _ a1
   refine⟨_,rfl,p,C,dx,_,_,rfl,p4,U.cl,U.n6,a2F _ _ _ _ _ _,.inl ⟨rfl,_,SqL.of w4⟩,?_⟩;refine⟨_,rfl,p,C,dx,_,_,rfl,p4,U.cl,U.n4,W0 _ _ _ _ _ _,aw,ah',ws,hs',rfl,rfl,w4,a4,by rw[w2.1,i1.1];omega,?_⟩;have p5:upd (upd H3 af (.lst (fs++zs))) aw (.lst (ws++hs')) p=some (.ins C dx (ffl ra ca true ah' af aw)):=by rw[A1 npw];exact p4
   have a5:upd (upd H3 af (.lst (fs++zs))) aw (.lst (ws++hs')) ah'=some (.lst hs'):=by rw[A1 haw];exact a4
   refine⟨_,rfl,p,C,dx,_,_,rfl,p5,U.cl,U.n4,W0 _ _ _ _ _ _,ah',_,rfl,.inl (SqL.of a5),?_⟩;rw[i1.1];have put2:∀{vs:List V}{rss:LLI},Its H3 vs rss->Its (upd (upd H3 af (.lst (fs++zs))) aw (.lst (ws++hs'))) vs rss:=λh=>O3 (O3 h f3 (λ_ z=>by cases z)) w4 (λ_ z=>by cases z);refine k L' _ R ⟨⟨dx,ah',hs',p5,a5,put2 (i1.same s3),haf,haw⟩,⟨fs++zs,by rw[A1 ne];exact A0,put2 (a7u (f2'.same s3) hI3)⟩,⟨ws++hs',A0,put2 (a7u (w2'.same s3) (i1.same s3))⟩,ne⟩ ⟨dx,ah',p5,a0⟩ λb o hb e=>?_;have hb':b≠p/\b≠af/\b≠aw:=by simpa using hb
   rw[A1 hb'.2.2,A1 hb'.2.1];exact s3 _ _ (off1 _ _ (by simpa using hb'.1) e)
  refine⟨_,rfl,p,C,dx,_,_,rfl,h1,U.cl,U.n3,a3s _ _ _ _ _ _,b,rfl,?_⟩;obtain⟨us,u1,u2,u3⟩:=Y.ex;have hn2:=Y.n2;cases b with
  |true =>
   refine V6 ?_;refine⟨_,rfl,p,C,dx,_,_,rfl,h1,U.cl,U.n1,a5r _ _ _ _ _ _,_,rfl,p,C,dx,_,_,rfl,h1,U.cl,U.n2,a5s _ _ _ _ _ _,_,rfl,p,C,dx,_,_,rfl,h1,U.cl,U.n5,a0W _ _ _ _ _ _,_,rfl,p,C,dx,_,_,rfl,h1,U.cl,U.n4,W0 _ _ _ _ _ _,_,rfl,?_⟩;refine⟨ra,ca,af,ah,r,us,rss,cs,fs,F,hs,L,rfl,⟨u1,u2,Y.hc,f1,f2,h2,h3,u3,Y.n1,Y.n2,Y.hR,hF,λv hv=>⟨(hL v hv).1,λx hx=>by have:=(hL v hv).2 x hx;omega⟩,hbig⟩,hroom,λp9 zs tss H9 s9 hfr h9 hI9 hri hnd hsnd hall hlen hfew=>?_⟩;have p9e:=s9 _ _ h1;have hpp:p≠p9:=A7 h1 hfr;refine⟨_,rfl,p,C,dx,_,rfl,p9e,U.cl,U.n4,by show 6<1000;decide,?_⟩;rw[a4U];refine fin _ _ ⟨rfl,p9,zs,tss,A0,by rw[A1 hpp.symm];exact h9,O3 hI9 p9e (λ_ z=>by cases z),hfr,⟨hri,hnd,(λz=>by cases z),λ_=>hsnd,λ_=>hall,by omega,hfew⟩,s9.off.set (by simp),λv hv=>?_⟩;obtain⟨u,hu,j,_,rfl,_⟩:=hsnd v hv;have:=b2k (j:=j) (hL u hu).2 hB;exact⟨by rw[E2];exact(hL u hu).1,λx hx=>by have:=this x hx;omega⟩
  |false =>
   refine E5 ?_;refine⟨_,rfl,p,C,dx,_,_,rfl,h1,U.cl,U.n2,a5s _ _ _ _ _ _,ca,cs,rfl,Y.hc,Y.n1,Y.n2,λq zs tss H2 s2 hq hI2 hpm hri=>?_⟩;refine⟨q,zs,rfl,.inr (SqT.of hq),λl hl=>?_⟩;have p3:=T8 (o:=.lst zs) (s2 _ _ h1) hl;have s3:=s2.upd (o:=.lst zs) hl;have hI3:=hI2.same ((Same.refl H2).upd (o:=.lst zs) hl);have e3:upd H2 l (.lst zs) l=some (.lst zs):=A0;have hfr:=s2.free hl;generalize upd H2 l (.lst zs)=H3 at p3 s3 hI3 e3;refine⟨_,rfl,p,C,dx,_,rfl,p3,U.cl,U.n4,by show 6<1000;decide,?_⟩;rw[a4U];refine⟨_,rfl,p,C,dx,_,rfl,A0,U.cl,U.n3,by show 6<1000;decide,?_⟩;rw[a3I,a8m];have hpp:p≠l:=A7 h1 hfr;have hfl:(a0f cs).length<=cs.length:=Nat.le_trans (List.length_filter_le _ _) (by simp);have hpl:=hpm.length_eq;refine fin _ _ ⟨rfl,l,zs,tss,A0,by rw[A1 hpp.symm];exact e3,O3 hI3 p3 (λ_ z=>by cases z),hfr,⟨hri,hpm.symm.nodup (a8Q cs),λ_ v=>hpm.mem_iff,(λz=>by cases z),(λz=>by cases z),by omega,λm e=>?_⟩,s3.off.set (by simp),λv hv=>?_⟩
   .rcases hroom with z|⟨m',z,hm'⟩
    .rw[z]at e;cases e
    .rw[z]at e;cases e;omega
   .obtain⟨j,_,rfl⟩:=List.mem_map.mp (List.mem_filter.mp (hpm.mem_iff.mp hv)).1;refine⟨L0 _ _,λx hx=>?_⟩;unfold L3 at hx;obtain⟨i,_,rfl⟩:=List.mem_map.mp hx;split<;>omega
inductive IspEnded(C:Addr)(vs:List V)(H:Hp)(Q:VK)(E:XK):Prop
 |mk (p ra ca af aw:Addr) (b:Bool) (L F W:LLI) (_:vs=[.ref p]) (_:FAt C H p ra ca af aw b L F W) (_:Q (.bl (b && decide (L=[]))) H):IspEnded C vs H Q E
def a3P(C:Addr):Sp:=λvs H Q E=>IspEnded C vs H Q E
theorem a9T{σ:L2.St}{i:Nat}{C p ra ca af aw:Addr}{b:Bool}{L F W:LLI}{H:Hp}{Q:VK}(hi:σ[i]?=some (some (.ref p)))(D:FAt C H p ra ca af aw b L F W)(k:Q (.bl (b && decide (L=[]))) H):a1h C "ended" (a3P C) [] E0 (G2 i) a0H σ H Q:=by
 obtain⟨⟨dx,ah,hs,g1,_⟩,_,_,_⟩:=id D;exact⟨_,hi,p,dx,_,rfl,g1,a8S _ _ _ _ _ _,p,ra,ca,af,aw,b,L,F,W,rfl,D,k⟩
theorem a1t:FnScope ["self"] ["self"] (A3 G5):=⟨rfl,rfl,rfl,by decide +kernel,rfl,by decide +kernel,by decide +kernel⟩
theorem b0G(FM:MethAt K C "ended" "Finder.ended" G5 ["self"])(U:FiTx K C)(T:Tx mg):MethOk P w K mg base C "ended" 1 ["self"] (a3P C):=by
 refine FM.fnJ a1t (λvs H Q E h=>?_) (λcdv f A outer s H vs Q E hr h=>?_)
 .obtain⟨p,ra,ca,af,aw,b,L,F,W,rfl,_⟩:=h;rfl
 .obtain⟨p,ra,ca,af,aw,b,L,F,W,rfl,D,k⟩:=h;obtain⟨⟨dx,ah,hs,h1,h2,h3,h4,h5⟩,⟨fs,f1,f2⟩,⟨ws,w1,w2⟩,ne⟩:=id D;refine⟨_,(A5 (B0 (b1i (J9 K (jv 0)) (a7s (a3n (V5 K rfl T.b_len (jaC (J9 K (jv 0)) jaN)) A4))))),?_⟩;refine⟨_,rfl,p,C,dx,_,_,rfl,h1,U.cl,U.n3,a3s _ _ _ _ _ _,?_⟩;refine⟨b,rfl,?_⟩;cases b with
  |false=>exact E5 k
  |true =>
   refine V6 ⟨_,rfl,p,C,dx,_,_,rfl,h1,U.cl,U.n4,W0 _ _ _ _ _ _,ah,_,rfl,.inl (SqL.of h2),rfl,?_⟩;have e:decide (V.int (hs.length:Int)=V.int 0)=decide (L=[]):=by
    rw[h3.1];cases L with
    |nil=>simp
    |cons x L=>simp;omega
   rw[e];exact k
inductive IspTold(C:Addr)(vs:List V)(H:Hp)(Q:VK)(E:XK):Prop
 |mk (p ra ca af aw:Addr) (b:Bool) (L F W:LLI) (_:vs=[.ref p]) (_:FAt C H p ra ca af aw b L F W) (_:(∀v∈F,0<v.length)) (_:∀q zs tss H',Same H H'->H' q=some (.tup zs)->Its H' zs tss->tss.Perm F->G0 tss->Q (.ref q) H'):IspTold C vs H Q E
def a5K(C:Addr):Sp:=λvs H Q E=>IspTold C vs H Q E
theorem b2u{σ:L2.St}{i:Nat}{C p ra ca af aw:Addr}{b:Bool}{L F W:LLI}{H:Hp}{Q:VK}(hi:σ[i]?=some (some (.ref p)))(D:FAt C H p ra ca af aw b L F W)(h:∀v∈F,0<v.length)(k:∀q zs tss H',Same H H'->H' q=some (.tup zs)->Its H' zs tss->tss.Perm F->G0 tss->Q (.ref q) H'):a1h C "told" (a5K C) [] E0 (G2 i) a0H σ H Q:=by
 obtain⟨⟨dx,ah,hs,g1,_⟩,_,_,_⟩:=id D;exact⟨_,hi,p,dx,_,rfl,g1,b1y _ _ _ _ _ _,p,ra,ca,af,aw,b,L,F,W,rfl,D,h,k⟩
theorem a1Y:FnScope ["self"] ["self"] (A3 J4):=⟨rfl,rfl,rfl,by decide +kernel,rfl,by decide +kernel,by decide +kernel⟩
theorem b3d(FM:MethAt K C "told" "Finder.told" J4 ["self"])(U:FiTx K C)(T:Tx mg):MethOk P w K mg base C "told" 1 ["self"] (a5K C):=by
 refine FM.fnJ a1Y (λvs H Q E h=>?_) (λcdv f A outer s H vs Q E hr h=>?_)
 .obtain⟨p,ra,ca,af,aw,b,L,F,W,rfl,_⟩:=h;rfl
 .obtain⟨p,ra,ca,af,aw,b,L,F,W,rfl,D,hF,k⟩:=h;obtain⟨⟨dx,ah,hs,h1,h2,h3,h4,h5⟩,⟨fs,f1,f2⟩,⟨ws,w1,w2⟩,ne⟩:=id D;refine⟨_,(A5 (B0 (B5 K rfl T.b_tuple (jaC (a2t K rfl T.b_sorted (jaC (J9 K (jv 0)) jaN)) jaN)))),?_⟩;refine⟨_,rfl,p,C,dx,_,_,rfl,h1,U.cl,U.n5,a0W _ _ _ _ _ _,af,fs,F,rfl,.inl (SqL.of f1),f2,hF,λl zs tss hl hI hpm hri _=>?_⟩;refine⟨l,_,rfl,.inl ⟨SqL.of A0,λq hq=>?_⟩⟩;have s2:=((Same.refl H).upd (o:=.lst zs) hl).upd (o:=.tup zs) hq;exact k q zs tss _ s2 A0 (hI.same s2) hpm hri
inductive IspPaper(C:Addr)(vs:List V)(H:Hp)(Q:VK)(E:XK):Prop
 |mk (p ra ca af aw:Addr) (b:Bool) (L F W:LLI) (_:vs=[.ref p]) (_:FAt C H p ra ca af aw b L F W) (_:∀q zs H',Same H H'->H' q=some (.tup zs)->Its H' zs W->Q (.ref q) H'):IspPaper C vs H Q E
def a3N(C:Addr):Sp:=λvs H Q E=>IspPaper C vs H Q E
theorem a9S{σ:L2.St}{i:Nat}{C p ra ca af aw:Addr}{b:Bool}{L F W:LLI}{H:Hp}{Q:VK}(hi:σ[i]?=some (some (.ref p)))(D:FAt C H p ra ca af aw b L F W)(k:∀q zs H',Same H H'->H' q=some (.tup zs)->Its H' zs W->Q (.ref q) H'):a1h C "paper" (a3N C) [] E0 (G2 i) a0H σ H Q:=by
 obtain⟨⟨dx,ah,hs,g1,_⟩,_,_,_⟩:=id D;exact⟨_,hi,p,dx,_,rfl,g1,a8R _ _ _ _ _ _,p,ra,ca,af,aw,b,L,F,W,rfl,D,k⟩
theorem a1s:FnScope ["self"] ["self"] (A3 G4):=⟨rfl,rfl,rfl,by decide +kernel,rfl,by decide +kernel,by decide +kernel⟩
theorem b0B(FM:MethAt K C "paper" "Finder.paper" G4 ["self"])(U:FiTx K C)(T:Tx mg):MethOk P w K mg base C "paper" 1 ["self"] (a3N C):=by
 refine FM.fnJ a1s (λvs H Q E h=>?_) (λcdv f A outer s H vs Q E hr h=>?_)
 .obtain⟨p,ra,ca,af,aw,b,L,F,W,rfl,_⟩:=h;rfl
 .obtain⟨p,ra,ca,af,aw,b,L,F,W,rfl,D,k⟩:=h;obtain⟨⟨dx,ah,hs,h1,h2,h3,h4,h5⟩,⟨fs,f1,f2⟩,⟨ws,w1,w2⟩,ne⟩:=id D;refine⟨_,(A5 (B0 (B5 K rfl T.b_tuple (jaC (J9 K (jv 0)) jaN)))),?_⟩;refine⟨_,rfl,p,C,dx,_,_,rfl,h1,U.cl,U.n6,a2F _ _ _ _ _ _,aw,_,rfl,.inl ⟨SqL.of w1,λq hq=>?_⟩⟩;have s2:=(Same.refl H).upd (o:=.tup ws) hq;exact k q ws _ s2 A0 (w2.same s2)
end
inductive Wk(rss:LLI)(cs:List (Option Int)):LLI->LLI->LLI->Nat->Prop
 |one {L:LLI}(ri:G0 L) (nd:L.Nodup) (h:∀v,v∈L↔v∈a0f cs):Wk rss cs (L.filter λv=>Ans rss v) L L 1
 |more {F W L L':LLI}{k:Nat}(h:Wk rss cs F W L k) (ne:L≠[]) (ri:G0 L') (nd:L'.Nodup) (hm:∀v,v∈L'↔∃u∈L,a0E rss cs F u v):Wk rss cs (F++L'.filter λv=>Ans rss v) (W++L') L' (k+1)
def b6E(rss:LLI)(cs:List (Option Int))(most:Int):Prop:=∃F W L k,Wk rss cs F W L k/\(most<W.length∨(L≠[]/\∃L':LLI,L'.Nodup/\(∀v∈L',∃u∈L,a0E rss cs F u v)/\most<W.length+L'.length))
theorem b6r{v:List Int}(h:∀x∈v,0<=x):∀x∈v,x<=v.sum:=by
 induction v with
 |nil=>intro x hx;cases hx
 |cons y v ih =>
  intro x hx;have h1:=h y List.mem_cons_self;have h2:=a9B v λz hz=>h z (List.mem_cons_of_mem _ hz);rw[List.sum_cons];rcases List.mem_cons.mp hx with rfl|hx
  .omega
  .have:=ih (λz hz=>h z (List.mem_cons_of_mem _ hz)) x hx;omega
theorem b3E{u:List Int}{j:Nat}(h:∀x∈u,0<=x):∀x∈bump u j,0<=x:=by
 intro x hx;unfold bump at hx;rcases List.mem_or_eq_of_mem_set hx with z|z
 .exact h x z
 .by_cases hj:j<u.length
  .have:=h _ (List.getElem_mem (h:=hj));rw[List.getD_eq_getElem?_getD,List.getElem?_eq_getElem hj]at z;simp at z;omega
  .rw[List.getD_eq_getElem?_getD,List.getElem?_eq_none (by omega)]at z;simp at z;omega
theorem a9r(n j:Nat):∀x∈L3 n j,0<=x:=by
 intro x hx;unfold L3 at hx;obtain⟨i,_,rfl⟩:=List.mem_map.mp hx;split<;>omega
theorem a5E(n j:Nat)(hj:j<n):L3 n j=bump (List.replicate n 0) j:=by
 refine List.ext_getElem (by rw[L0,E2,List.length_replicate]) λi h1 h2=>?_;rw[L0]at h1;have e1:=W8 n j i h1;have e2:=a0A (List.replicate n 0) j i (by simpa using hj);rw[List.getD_eq_getElem?_getD,List.getElem?_eq_getElem (by rw[L0];exact h1)]at e1;rw[List.getD_eq_getElem?_getD,List.getElem?_eq_getElem h2]at e2;simp only[Option.getD_some]at e1 e2;rw[e1,e2];simp only[List.getD_eq_getElem?_getD,List.getElem?_replicate,hj,h1,if_true];by_cases e:i=j<;>simp[e]
theorem a9Q(n:Nat):(List.replicate n (0:Int)).sum=0:=by
 induction n with
 |zero=>rfl
 |succ n ih=>rw[List.replicate_succ,List.sum_cons,ih];rfl
theorem a7T(n j:Nat)(hj:j<n):(L3 n j).sum=1:=by
 rw[a5E n j hj,a5z _ _ (by simpa using hj),a9Q];rfl
theorem a5J{rss:LLI}{cs:List (Option Int)}{u:List Int}{j:Nat}(h:j∈StP rss cs u):j<u.length/\a1b rss u j<0/\a7K (cs.getD j none) (u.getD j 0)=true:=by
 unfold StP at h;rw[List.mem_filter,List.mem_filter,List.mem_range,decide_eq_true_eq]at h;exact⟨h.1.1,h.1.2,h.2⟩
structure LvF(n k:Nat)(v:List Int):Prop where
 len:v.length=n
 nn:∀x∈v,0<=x
 sum:v.sum=k
theorem a0V{cs:List (Option Int)}{v:List Int}(h:v∈a0f cs):LvF cs.length 1 v:=by
 obtain⟨j,hj,rfl⟩:=List.mem_map.mp (List.mem_filter.mp h).1;exact⟨L0 _ _,a9r _ _,a7T _ _ (List.mem_range.mp hj)⟩
theorem b0I{rss:LLI}{cs:List (Option Int)}{F:LLI}{u v:List Int}{n k:Nat}(hu:LvF n k u)(h:a0E rss cs F u v):LvF n (k+1) v:=by
 obtain⟨j,hj,rfl,_⟩:=h;have:=(a5J hj).1;exact⟨by rw[E2];exact hu.len,b3E hu.nn,by rw[a5z _ _ this,hu.sum];omega⟩
theorem Wk.lv{rss:LLI}{cs:List (Option Int)}{F W L:LLI}{k:Nat}(h:Wk rss cs F W L k):(∀v∈L,LvF cs.length k v)/\(∀v∈W,∃i,1<=i/\i<=k/\LvF cs.length i v)/\(∀v∈F,v∈W/\Ans rss v=true)/\F.length<=W.length/\L.length<=W.length/\1<=k/\k<=W.length+1/\(L≠[]->k<=W.length):=by
 induction h with
 |@one L ri nd h =>
  refine⟨λv hv=>a0V ((h v).mp hv),λv hv=>⟨1,by omega,by omega,a0V ((h v).mp hv)⟩,λv hv=>List.mem_filter.mp hv,List.length_filter_le _ _,Nat.le_refl _,by omega,by omega,λne=>?_⟩;cases L with
  |nil=>exact absurd rfl ne
  |cons x L=>simp
 |@more F W L L' k h ne ri nd hm ih =>
  obtain⟨i1,i2,i3,i4,i5,i6,i7,i8⟩:=ih;have hL':∀v∈L',LvF cs.length (k+1) v:=λv hv=>by
   obtain⟨u,hu,hx⟩:=(hm v).mp hv;exact b0I (i1 u hu) hx
  have:=List.length_filter_le (λv=>Ans rss v) L';have k8:=i8 ne;refine⟨hL',λv hv=>?_,λv hv=>?_,by rw[List.length_append,List.length_append];omega,by rw[List.length_append];omega,by omega,by rw[List.length_append];omega,λne'=>?_⟩
  .rcases List.mem_append.mp hv with z|z
   .obtain⟨i,q1,q2,q3⟩:=i2 v z;exact⟨i,q1,by omega,q3⟩
   .exact⟨k+1,by omega,by omega,hL' v z⟩
  .rcases List.mem_append.mp hv with z|z
   .exact⟨List.mem_append_left _ (i3 v z).1,(i3 v z).2⟩
   .exact⟨List.mem_append_right _ (List.mem_filter.mp z).1,(List.mem_filter.mp z).2⟩
  .rw[List.length_append];have:0<L'.length:=List.length_pos_iff.mpr ne';omega
section
variable {P:Program}{w:World}{K:PySem.W.Frag}{mg:Str->Option Value}{base:Heap}{C:Addr}
inductive IspLeast(D:Addr)(vs:List V)(H:Hp)(Q:VK)(E:XK):Prop
 |mk (ra ca:Addr) (rss:LLI) (cs:List (Option Int)) (most:Nat) (mi:Int) (_:vs=[.ref ra,.ref ca,.int mi]) (_:mi=most) (_:SyAt H ra ca rss cs) (_:(most+1)*cs.length+200<=100000) (_:(∀q t pp zs tss ws F W k H',Same H H'->H' q=some (.tup [.ref t,.ref pp])->H' t=some (.tup zs)->Its H' zs tss->tss.Perm F->G0 tss->H' pp=some (.tup ws)->Its H' ws W->Wk rss cs F W [] k->W.length<=most->Q (.ref q) H')) (_:(∀H',Same H H'->b6E rss cs most->E (.ref D) none H')):IspLeast D vs H Q E
def a6T(D:Addr):Sp:=λvs H Q E=>IspLeast D vs H Q E
theorem sc_least:FnScope ["rows","caps","most","finder","room"] ["rows","caps","most"] (A3 a1F):=⟨rfl,rfl,rfl,by decide +kernel,rfl,by decide +kernel,by decide +kernel⟩
theorem b0D{D_TooMany:Addr}(F':FunAt K mg "least" a1F ["rows","caps","most"])(T:Tx mg)(U:FiTx K C)(CL_Finder:Cls K C)(O_Finder:MakeOk P w K mg base "Finder" C 1 ["self","rows","caps"] (a6Y C))(O_Finder_step_within:MethOk P w K mg base C "step_within" 6 ["self","room"] (a3L C))(O_Finder_ended:MethOk P w K mg base C "ended" 1 ["self"] (a3P C))(O_Finder_told:MethOk P w K mg base C "told" 1 ["self"] (a5K C))(O_Finder_paper:MethOk P w K mg base C "paper" 1 ["self"] (a3N C))
  (OC_TooMany:OwnCls "TooMany" D_TooMany [.type "ValueError",.type "Exception",.type "BaseException",.type "object"] "ValueError.__new__" mg base):OkE P w K mg base "least" 7 ["rows","caps","most"] (a6T D_TooMany):=by
 refine F'.okE sc_least (λvs H Q E h=>?_) (λcdv f A outer s H vs Q E hr h=>?_)
 .obtain⟨ra,ca,rss,cs,most,mi,rfl,_⟩:=h;rfl
 .obtain⟨ra,ca,rss,cs,most,_,rfl,rfl,Y,hbig,kq,ke⟩:=h;refine⟨_,(A2 (B1 (i:=3) sc_least.nd rfl (Or.inl rfl) (b5r O_Finder (hr.mono (by omega)) rfl (jaC (jv 0) (jaC (jv 1) jaN))))
 (A2 (B1 (i:=4) sc_least.nd rfl (Or.inl rfl) (jv 2))
 (A2 (a5n (O7 (E8 K (a4j O_Finder_ended CL_Finder (hr.mono (by omega)) (jv 3))))
 (A2 (B1 (i:=4) sc_least.nd rfl (Or.inl rfl) (a5p (jv 4) (b5q O_Finder_step_within CL_Finder (hr.mono (by omega)) (jv 3) (jaC (jv 4) jaN))))
 (A5 (D8 (b0W (jv 4) A4)
 (A5 (b0Z OC_TooMany PySem.F.excBase_ValueError rfl PySem.F.excBase_ValueError rfl (jaC b6v jaN)))
 C0))) (hp:=PassesOwn.leaving))
 (A5 (B0 (Z4 (jaC (a4j O_Finder_told CL_Finder (hr.mono (by omega)) (jv 3)) (jaC (a4j O_Finder_paper CL_Finder (hr.mono (by omega)) (jv 3)) jaN)))))))),?_⟩
  refine⟨_,rfl,_,rfl,λx dx hx hdx hne=>?_⟩;have hx':upd H dx (.own x) x=none:=by rw[A1 hne.symm];exact hx
  have s0:Same H (upd (upd H dx (.own x)) x (.ins C dx [])):=((Same.refl H).upd hdx).upd hx';refine⟨x,dx,ra,ca,rfl,A0,λaf aw H1 haf haw D1 _ kp=>⟨rfl,?_⟩⟩;have haf':H af=none:=s0.free haf;have haw':H aw=none:=s0.free haw;have s1:Same H H1:=λb o e=>kp b o (s0 b o e) (A7 e hx);dsimp only[A9];refine⟨_,rfl,?_⟩;dsimp only[A9];have hz:(300000:Nat)<=sizeLine:=by rw[sizeLine_eq];decide
  refine K3 (λσ H'=>σ=[some (.ref ra),some (.ref ca),some (.int most),some (.ref x),σ.getD 4 none]/\Same H H'/\∃F W k,FAt C H' x ra ca af aw true [] F W/\Wk rss cs F W [] k/\W.length<=most) ?fin λfin=>?_
  case fin =>
   rintro σ H2 ⟨hσ,s2,F,W,k,D2,hW,hmost⟩;obtain⟨⟨dx2,ah,hs,h1,h2,h3,h4,h5⟩,_,_,_⟩:=id D2;have hlv:=hW.lv;rw[hσ];refine b2u rfl D2 (λv hv=>?_) λq1 zs tss H3 s3 hq1 hI1 hpm hri=>?_
   .obtain⟨i,_,_,lv⟩:=hlv.2.1 v (hlv.2.2.1 v hv).1;rw[lv.len];exact Y.n1
   have D3:=D2.same s3;obtain⟨⟨dx3,ah3,hs3,g1,_⟩,_,_,_⟩:=id D3;refine a9S rfl D3 λq2 ws H4 s4 hq2 hI2=>?_;refine⟨by show 2<=sizeLine;omega,λq hq=>?_⟩;have s5:=(Same.refl H4).upd (o:=.tup [.ref q1,.ref q2]) hq;exact kq q q1 q2 zs tss ws F W k _ (((s2.trans s3).trans s4).trans s5) A0 (s5 _ _ (s4 _ _ hq1)) ((hI1.same s4).same s5) hpm hri (s5 _ _ hq2) (hI2.same s5) hW hmost
  refine⟨λm σ H'=>∃(b:Bool) (L F W:LLI) (room:Int),σ=[some (.ref ra),some (.ref ca),some (.int most),some (.ref x),some (.int room)]/\Same H H'/\FAt C H' x ra ca af aw b L F W/\0<=room/\m=room.toNat+(if b=true/\L=[] then 0 else 1)/\((b=false/\L=[]/\F=[]/\W=[]/\room=most)∨(b=true/\∃k,Wk rss cs F W L k/\room=most-W.length)),
   ⟨_,false,[],[],[],_,rfl,s1,D1,by omega,rfl,.inl ⟨rfl,rfl,rfl,rfl,rfl⟩⟩,?_⟩
  rintro m σ H2 ⟨b,L,F,W,room,rfl,s2,D2,r0,rfl,hst⟩;obtain⟨⟨dx2,ah,hs,h1,h2,h3,h4,h5⟩,_,_,_⟩:=id D2;refine a9T rfl D2 ⟨_,rfl,?_⟩;have hn1:=Y.n1;have hm1:most+1<=(most+1)*cs.length:=Nat.le_mul_of_pos_right _ hn1;by_cases he:b=true/\L=[]
  .obtain⟨rfl,rfl⟩:=he;refine E5 ?_;rcases hst with⟨z,_⟩|⟨_,k,hW,hroom⟩
   .cases z
   .exact fin _ _ ⟨rfl,s2,F,W,k,D2,hW,by omega⟩
  .have hb:(b && decide (L=[]))=false:=by
    cases b with
    |false=>rfl
    |true =>
     have:L≠[]:=λz=>he ⟨rfl,z⟩;simpa using this
   rw[hb,if_neg he];refine V6 ⟨λσ' H'=>∃(L' F' W':LLI) (k:Nat) (room':Int),σ'=[some (.ref ra),some (.ref ca),some (.int most),some (.ref x),some (.int room')]/\Same H H'/\FAt C H' x ra ca af aw true L' F' W'/\0<=room'/\Wk rss cs F' W' L' k/\room'=most-W'.length/\room'.toNat+(if L'=[] then 0 else 1)<room.toNat+1,λσ' H' ⟨L',F',W',k,room',e1,e2,e3,e4,e5,e6,e7⟩=>⟨_,e7,true,L',F',W',room',e1,e2,e3,e4,by simp,.inr ⟨rfl,k,e5,e6⟩⟩,?_⟩;obtain⟨B,hB,hL,hF,hWl,hLl,hFl⟩:∃B:Int,B<=2 ^ 60/\(∀v∈L,v.length=cs.length/\∀y∈v,0<=y/\y<=B)/\(∀v∈F,v.length=cs.length)/\W.length<=most/\L.length<=most/\F.length<=most:=by
    rcases hst with⟨rfl,rfl,rfl,rfl,_⟩|⟨rfl,k,hW,hroom⟩
    .exact⟨0,by omega,(λ_ z=>nomatch z),(λ_ z=>nomatch z),by simp,by simp,by simp⟩
    .obtain⟨i1,i2,i3,i4,i5,i6,i7,i8⟩:=hW.lv;refine⟨k,by omega,λv hv=>⟨(i1 v hv).len,λy hy=>⟨(i1 v hv).nn y hy,?_⟩⟩,λv hv=>?_,by omega,by omega,by omega⟩
     .have:=b6r (i1 v hv).nn y hy;rw[(i1 v hv).sum]at this;exact this
     .obtain⟨i,_,_,lv⟩:=i2 v (i3 v hv).1;exact lv.len
   have hLb:L.length*cs.length<=most*cs.length:=Nat.mul_le_mul_right _ hLl;have hmm:(most+1)*cs.length=most*cs.length+cs.length:=by rw[Nat.add_mul,Nat.one_mul]
   refine⟨_,rfl,a9R rfl rfl D2 (Y.same s2) (.inr ⟨room,rfl,r0⟩) hL hB hF (by omega) (by omega) (by omega) λL' H3 R D3 _ off3=>?_⟩;refine⟨_,_,rfl,rfl,?_⟩;dsimp only[A9];have s3:Same H H3:=λc o e=>off3 c o (by simpa using⟨A7 e hx,A7 e haf',A7 e haw'⟩) (s2 c o e);have key:(∃k,Wk rss cs (F++L'.filter λv=>Ans rss v) (W++L') L' k/\room=most-W.length)∨(room<L'.length/\b6E rss cs most):=by
    rcases hst with⟨rfl,rfl,rfl,rfl,hroom⟩|⟨rfl,k,hW,hroom⟩
    .exact .inl ⟨1,by simpa using Wk.one R.ri R.nd (R.fst rfl),by simpa using hroom⟩
    .have hne:L≠[]:=λz=>he ⟨rfl,z⟩;rcases R.all rfl with ha|⟨m',e',hm'⟩
     .exact .inl ⟨k+1,.more hW hne R.ri R.nd λv=>⟨R.snd rfl v,λ⟨u,hu,hv⟩=>ha u hu v hv⟩,hroom⟩
     .cases e';exact .inr ⟨hm',F,W,L,k,hW,.inr ⟨hne,L',R.nd,R.snd rfl,by omega⟩⟩
   refine⟨_,rfl,_,_,rfl,rfl,_,rfl,T3 (λe=>?_) (λe=>?_)⟩
   .have e':room-(L'.length:Int)<0:=of_decide_eq_true e;refine⟨by rw[sizeLine_eq];decide,ke _ s3 ?_⟩;rcases key with⟨k,hW,hroom⟩|⟨_,ho⟩
    .exact⟨_,_,_,k,hW,.inl (by rw[List.length_append];omega)⟩
    .exact ho
   .have e':¬room-(L'.length:Int)<0:=λz=>e (decide_eq_true z);rcases key with⟨k,hW,hroom⟩|⟨hlt,_⟩
    .refine⟨L',_,_,k,_,rfl,s3,D3,by omega,hW,by rw[List.length_append];omega,?_⟩;cases L' with
     |nil=>simp
     |cons y L'=>simp only[List.length_cons]at e'⊢;rw[if_neg (by simp)];omega
    .exact absurd hlt (by omega)
end
structure Answer(rss:LLI)(n:Nat)(v:List Int):Prop where
 len:v.length=n
 nn:∀x∈v,0<=x
 ans:Ans rss v=true
 pos:0<v.sum
structure Least(rss:LLI)(cs:List (Option Int))(v:List Int):Prop where
 an:Answer rss cs.length v
 wi:Wi cs v=true
 min:∀u,Answer rss cs.length u->Under u v->u=v
theorem Under.refl(v:List Int):Under v v:=⟨rfl,λ_ _=>Int.le_refl _⟩
theorem Under.trans{a b c:List Int}(h:Under a b)(g:Under b c):Under a c :=
 ⟨h.1.trans g.1,λj hj=>Int.le_trans (h.2 j (by rw[g.1];exact hj)) (g.2 j hj)⟩
theorem Under.eq{a b:List Int}(h:Under a b)(hs:b.sum<=a.sum):a=b:=by
 refine Classical.byContradiction λne=>?_;have:=h.sum.2 ne;omega
theorem a1O{cs:List (Option Int)}{v:List Int}(h:v.length=cs.length):Wi cs v=true↔∀j,j<cs.length->a8W (cs.getD j none) (v.getD j 0)=true:=by
 unfold Wi;induction cs generalizing v with
 |nil=>simp
 |cons c cs ih =>
  cases v with
  |nil=>cases h
  |cons x v =>
   rw[List.zipWith_cons_cons,List.all_cons,Bool.and_eq_true,ih (by simpa using h)];constructor
   .rintro⟨h1,h2⟩ j hj;cases j with
    |zero=>exact h1
    |succ j=>exact h2 j (by simpa using hj)
   .intro h1;exact⟨h1 0 (by simp),λj hj=>h1 (j+1) (by simpa using hj)⟩
theorem a8V{c:Option Int}{x y:Int}(h:a8W c y=true)(hx:x<=y):a8W c x=true:=by
 cases c with
 |none=>rfl
 |some c =>
  have:y<=c:=of_decide_eq_true h;exact decide_eq_true (by omega)
theorem a3H{cs:List (Option Int)}{u v:List Int}(hv:v.length=cs.length)(h:Wi cs v=true)(hu:Under u v):Wi cs u=true:=by
 rw[a1O hv]at h;rw[a1O (by rw[hu.1];exact hv)];intro j hj;exact a8V (h j hj) (hu.2 j (by rw[hv];exact hj))
theorem b1U{rss:LLI}{v:List Int}(h:Ans rss v=true)(j:Nat):a1b rss v j=0:=by
 unfold a1b N0;unfold Ans at h;induction rss with
 |nil=>rfl
 |cons r rss ih =>
  rw[List.all_cons,Bool.and_eq_true,decide_eq_true_eq]at h;rw[List.map_cons,List.zipWith_cons_cons,List.sum_cons,ih h.2,h.1];omega
theorem a3D{f v:List Int}(hl:f.length=v.length):Bel f v=true↔Under f v:=by
 constructor
 .intro h;refine⟨hl,?_⟩;unfold Bel at h;induction f generalizing v with
  |nil =>
   intro j hj;rw[<-hl]at hj;simp at hj
  |cons x f ih =>
   cases v with
   |nil=>cases hl
   |cons y v =>
    rw[List.zipWith_cons_cons,List.all_cons,Bool.and_eq_true]at h;intro j hj;cases j with
    |zero=>exact of_decide_eq_true h.1
    |succ j=>exact ih (by simpa using hl) h.2 j (by simpa using hj)
 .intro h;unfold Bel;induction f generalizing v with
  |nil=>rfl
  |cons x f ih =>
   cases v with
   |nil=>cases hl
   |cons y v =>
    obtain⟨h1,h2⟩:=h.tail;rw[List.zipWith_cons_cons,List.all_cons,ih (by simpa using hl) h2,Bool.and_true];exact decide_eq_true h1
theorem a0y{rss:LLI}{cs:List (Option Int)}:∀(m:Nat) {u:List Int},u.sum<=m->Answer rss cs.length u->Wi cs u=true->∃a,Least rss cs a/\Under a u
 |0,u,hm,h,_=>absurd h.pos (by omega)
 |m+1,u,hm,h,hw=>by
  by_cases hx:∃t,Answer rss cs.length t/\Under t u/\t≠u
  .obtain⟨t,h1,h2,h3⟩:=hx;have:=h2.sum.2 h3;obtain⟨a,ha,hu⟩:=a0y m (u:=t) (by omega) h1 (a3H h.len hw h2);exact⟨a,ha,hu.trans h2⟩
  .exact⟨u,⟨h,hw,λt ht hu=>Classical.byContradiction λne=>hx ⟨t,ht,hu,ne⟩⟩,Under.refl u⟩
theorem b0l:∀{v:List Int},(∀x∈v,0<=x)->0<v.sum->∃j,j<v.length/\1<=v.getD j 0
 |[],_,h=>by simp at h
 |x::v,hn,h=>by
  by_cases hx:1<=x
  .exact⟨0,by simp,by simpa using hx⟩
  .have h0:=hn x List.mem_cons_self;rw[List.sum_cons]at h;obtain⟨j,h1,h2⟩:=b0l (v:=v) (λy hy=>hn y (List.mem_cons_of_mem _ hy)) (by omega);exact⟨j+1,by simpa using h1,by simpa using h2⟩
theorem b6s{v:List Int}(h:∀x∈v,0<=x)(j:Nat):0<=v.getD j 0:=by
 rw[List.getD_eq_getElem?_getD];cases e:v[j]? with
 |none=>simp
 |some x=>simpa using h x (List.mem_of_getElem? e)
structure WkOk(rss:LLI)(cs:List (Option Int))(F L:LLI)(k:Nat):Prop where
 wi:∀v∈L,Wi cs v=true
 bar:∀v∈L,∀f∈F,Under f v->f=v
 snd:∀f∈F,Least rss cs f
 all:∀a,Least rss cs a->a.sum<=k->a∈F
 up:∀a,Least rss cs a->k<=a.sum->∃v∈L,Under v a
theorem Wk.ok{rss:LLI}{cs:List (Option Int)}{F W L:LLI}{k:Nat}(hR:∀r∈rss,r.length=cs.length)(h:Wk rss cs F W L k):WkOk rss cs F L k:=by
 induction h with
 |@one L ri nd h =>
  have hlv:∀v∈L,LvF cs.length 1 v:=λv hv=>a0V ((h v).mp hv);have hwi:∀v∈L,Wi cs v=true:=λv hv=>(List.mem_filter.mp ((h v).mp hv)).2;have hup:∀a,Least rss cs a->((1:Nat):Int)<=a.sum->∃v∈L,Under v a:=λa ha _=>by
   obtain⟨j,h1,h2⟩:=b0l ha.an.nn ha.an.pos;rw[ha.an.len]at h1;have hU:Under (L3 cs.length j) a:=⟨by rw[L0,ha.an.len],λi hi=>by
    rw[ha.an.len]at hi;rw[W8 _ _ _ hi];by_cases e:i=j
    .rw[if_pos e,e];exact h2
    .rw[if_neg e];exact b6s ha.an.nn i⟩
   exact⟨_,(h _).mpr (List.mem_filter.mpr ⟨List.mem_map.mpr ⟨j,List.mem_range.mpr h1,rfl⟩,a3H ha.an.len ha.wi hU⟩),hU⟩
  refine⟨hwi,λv hv f hf hU=>?_,λf hf=>?_,λa ha hs=>?_,hup⟩
  .have h1:=(hlv v hv).sum;have h2:=(hlv f (List.mem_filter.mp hf).1).sum;exact hU.eq (by omega)
  .obtain⟨hf1,hf2⟩:=List.mem_filter.mp hf;have lv:=hlv f hf1;refine⟨⟨lv.len,lv.nn,hf2,by rw[lv.sum];decide⟩,hwi f hf1,λu hu hU=>hU.eq ?_⟩;have:=hu.pos;rw[lv.sum];omega
  .obtain⟨v,hv,hU⟩:=hup a ha (by have:=ha.an.pos;omega);have h1:=(hlv v hv).sum;have:v=a:=hU.eq (by omega);subst this;exact List.mem_filter.mpr ⟨hv,ha.an.ans⟩
 |@more F W L L' k h ne ri nd hm ih =>
  obtain⟨i1,i2,i3,i4,i5,i6,i7,i8⟩:=h.lv;have hlv:∀v∈L',LvF cs.length (k+1) v:=λv hv=>by
   obtain⟨u,hu,hx⟩:=(hm v).mp hv;exact b0I (i1 u hu) hx
  have hFs:∀f∈F,f.length=cs.length/\f.sum<=k:=λf hf=>by
   obtain⟨i,q1,q2,lv⟩:=i2 f (i3 f hf).1;exact⟨lv.len,by rw[lv.sum];omega⟩
  have hup:∀a,Least rss cs a->((k+1:Nat):Int)<=a.sum->∃v∈L',Under v a:=λa ha hs=>by
   obtain⟨v,hv,hU⟩:=ih.up a ha (by omega);have lv:=i1 v hv;have hva:v≠a:=λz=>by rw[<-z,lv.sum]at hs;omega
   have hnA:Ans rss v=false:=by
    cases e:Ans rss v with
    |false=>rfl
    |true=>exact absurd (ha.min v ⟨lv.len,lv.nn,e,by rw[lv.sum];omega⟩ hU) hva
   have hp:=b6g rss v a (λr hr=>by rw[hR r hr,ha.an.len]) hU hva ha.an.ans;obtain⟨j,hj⟩:=List.exists_mem_of_ne_nil _ hp;have hjl:=b0m hj;have hjp:a1b rss v j<0:=by
    unfold Pl at hj;rw[List.mem_filter,hnA,Bool.false_or,Bool.and_eq_true]at hj;exact of_decide_eq_true hj.2.2
   have hUb:Under (bump v j) a:=hU.bump hj;have hw:=(a1O ha.an.len).mp ha.wi j (by rw[<-ha.an.len];exact hjl.1);refine⟨bump v j,(hm _).mpr ⟨v,hv,j,?_,rfl,?_⟩,hUb⟩
   .unfold StP;rw[List.mem_filter,List.mem_filter,List.mem_range,decide_eq_true_eq];refine⟨⟨by rw[hU.1];exact hjl.1,hjp⟩,?_⟩;cases e:cs.getD j none with
    |none=>rfl
    |some c =>
     rw[e]at hw;have:a.getD j 0<=c:=of_decide_eq_true hw;exact decide_eq_true (by omega)
   .cases e:Bar F (bump v j) j with
    |false=>rfl
    |true =>
     unfold Bar at e;obtain⟨f,hf,hf2⟩:=List.any_eq_true.mp e;rw[Bool.and_eq_true]at hf2;have hfl:=(hFs f hf).1;have hfu:Under f a:=((a3D (by rw[hfl,E2,lv.len])).mp hf2.2).trans hUb;have:=ha.min f (ih.snd f hf).an hfu;have h2:=(hFs f hf).2;rw[this]at h2;omega
  have hwi:∀v∈L',Wi cs v=true:=λv hv=>by
   obtain⟨u,hu,j,hj,rfl,_⟩:=(hm v).mp hv;have hul:=(i1 u hu).len;have hj':=a5J hj;have hw:=ih.wi u hu;rw[a1O hul]at hw;rw[a1O (by rw[E2];exact hul)];intro i hi;rw[a0A _ _ _ hj'.1];by_cases e:i=j
   .rw[if_pos e,e];have h3:=hj'.2.2;cases ec:cs.getD j none with
    |none=>rfl
    |some c =>
     rw[ec]at h3;have:u.getD j 0<c:=of_decide_eq_true h3;exact decide_eq_true (by omega)
   .rw[if_neg e];exact hw i hi
  have hbar:∀v∈L',∀f∈F++L'.filter (λv=>Ans rss v),Under f v->f=v:=λv hv f hf hU=>by
   rcases List.mem_append.mp hf with z|z
   .obtain⟨u,hu,j,hj,rfl,hb⟩:=(hm v).mp hv;have hul:=(i1 u hu).len;have hj':=a5J hj;have hfl:=(hFs f z).1;exfalso;by_cases e:f.getD j 0=(bump u j).getD j 0
    .have:Bar F (bump u j) j=true:=by
      unfold Bar;exact List.any_eq_true.mpr ⟨f,z,by rw[Bool.and_eq_true];exact⟨decide_eq_true e,(a3D hU.1).mpr hU⟩⟩
     rw[this]at hb;cases hb
    .have hfu:Under f u:=⟨by rw[hfl,hul],λi hi=>by
      have h1:=hU.2 i (by rw[E2];exact hi);rw[a0A _ _ _ hj'.1]at h1;by_cases ei:i=j
      .subst ei;rw[a0A _ _ _ hj'.1,if_pos rfl]at e;rw[if_pos rfl]at h1;omega
      .rw[if_neg ei]at h1;exact h1⟩
     have h2:=ih.bar u hu f z hfu;have h3:=b1U (i3 f z).2 j;rw[h2]at h3;omega
   .have h1:=(hlv v hv).sum;have h2:=(hlv f (List.mem_filter.mp z).1).sum;exact hU.eq (by omega)
  have hall:∀a,Least rss cs a->a.sum<=((k+1:Nat):Int)->a∈F++L'.filter (λv=>Ans rss v):=λa ha hs=>by
   by_cases h1:a.sum<=(k:Int)
   .exact List.mem_append_left _ (ih.all a ha h1)
   .obtain⟨v,hv,hU⟩:=hup a ha (by omega);have h2:=(hlv v hv).sum;have:v=a:=hU.eq (by omega);subst this;exact List.mem_append_right _ (List.mem_filter.mpr ⟨hv,ha.an.ans⟩)
  refine⟨hwi,hbar,λf hf=>?_,hall,hup⟩;rcases List.mem_append.mp hf with z|z
  .exact ih.snd f z
  .obtain⟨hf1,hf2⟩:=List.mem_filter.mp z;have lv:=hlv f hf1;refine⟨⟨lv.len,lv.nn,hf2,by rw[lv.sum];omega⟩,hwi f hf1,λu hu hU=>?_⟩;refine Classical.byContradiction λhne=>?_;have hlt:=hU.sum.2 hne;rw[lv.sum]at hlt;obtain⟨a,ha,hau⟩:=a0y (rss:=rss) (cs:=cs) u.sum.toNat (by have:=hu.pos;omega) hu (a3H lv.len (hwi f hf1) hU);have hs:=hau.sum.1;have hin:=ih.all a ha (by omega);have:=hbar f hf1 a (List.mem_append_left _ hin) (hau.trans hU);rw[this,lv.sum]at hs;omega
theorem Wk.least{rss:LLI}{cs:List (Option Int)}{F W:LLI}{k:Nat}(hR:∀r∈rss,r.length=cs.length)(h:Wk rss cs F W [] k)(v:List Int):v∈F↔Least rss cs v:=by
 have o:=h.ok hR;refine⟨o.snd v,λhv=>?_⟩;by_cases hs:v.sum<=(k:Int)
 .exact o.all v hv hs
 .obtain⟨u,hu,_⟩:=o.up v hv (by omega);cases hu
theorem Wk.nd{rss:LLI}{cs:List (Option Int)}{F W L:LLI}{k:Nat}(h:Wk rss cs F W L k):W.Nodup/\F.Nodup:=by
 induction h with
 |@one L ri nd h=>exact⟨nd,nd.sublist List.filter_sublist⟩
 |@more F W L L' k h ne ri nd hm ih =>
  obtain⟨i1,i2,i3,i4,i5,i6,i7,i8⟩:=h.lv;have hdis:∀v∈W,∀u∈L',v≠u:=λv hv u hu e=>by
   obtain⟨i,q1,q2,lv⟩:=i2 v hv;obtain⟨t,ht,hx⟩:=(hm u).mp hu;have:=(b0I (i1 t ht) hx).sum;rw[<-e,lv.sum]at this;omega
  refine⟨List.nodup_append.mpr ⟨ih.1,nd,hdis⟩,List.nodup_append.mpr ⟨ih.2,nd.sublist List.filter_sublist,λv hv u hu=>hdis v (i3 v hv).1 u (List.mem_filter.mp hu).1⟩⟩
theorem N5{H:Hp}{a b:Addr}{n:Nat}(h:PotAt H a b n){c:Addr}(hc:H c=none):c∉[a,b]:=by
 obtain⟨_,cs,t,k,h1,h2,_⟩:=h;simp only[List.mem_cons,List.not_mem_nil,or_false,not_or];exact⟨(A7 h1 hc).symm,(A7 h2 hc).symm⟩
theorem X4{H:Hp}{a b:Addr}{n:Nat}(h:PotAt H a b n){c:Addr}{o:HO}(hc:c∉[a,b]):PotAt (upd H c o) a b n:=by
 simp only[List.mem_cons,List.not_mem_nil,or_false,not_or]at hc;obtain⟨ne,cs,t,kc,e1,e2,e3⟩:=h;exact⟨ne,cs,t,kc,by rw[A1 (Ne.symm hc.1)];exact e1,by rw[A1 (Ne.symm hc.2)];exact e2,e3⟩
section
variable {P:Program}{w:World}{K:PySem.W.Frag}{mg:Str->Option Value}{base:Heap}
theorem two_at(x y:Int)(c:Bool):∃m:Int,atI [V.int x,.int y] (if c=true then 1 else 0)=some (.int m)/\(m=x∨m=y):=by
 cases c
 .exact⟨x,rfl,.inl rfl⟩
 .exact⟨y,rfl,.inr rfl⟩
theorem b1m{n k:Nat}(h:k<n):ixN n (k:Int)=some k:=by
 unfold ixN;rw[if_pos (by omega),if_pos (by omega)];rfl
theorem a3h{src:List (Option Nat)}{σ caps:L2.St}{Q:VK}{n m0 c:Nat}{H:Hp}{a b:Addr}{te:TE}(R:Int->Prop)(hn:n<=1000)(hsrc:B2 src σ=none::caps)(hP:PotAt H a b m0)
  (hte:∀(i:Nat) (H':Hp) (N:VK),i<n->PotAt H' a b (m0+c*i)->(∀r H'',R r->PotAt H'' a b (m0+c*i+c)->Off [a,b] H' H''->N (.int r) H'')->te (some (.int i)::caps) H' N)
  (hd:∀H' p (xs:List Int),xs.length=n->(∀x∈xs,R x)->PotAt H' a b (m0+c*n)->Off [a,b] H H'->H' p=none->Q (.ref p) (upd H' p (.lst (xs.map V.int)))):E4 src (A9 0) M4 te σ Q (Itr 0 n) H:=by
 refine a0p hn hsrc (λi ys H'=>Ex1 λ(xs:List Int)=>An5 (ys=xs.map V.int) (xs.length=i) ((∀x∈xs,R x)) (PotAt H' a b (m0+c*i)) (Off [a,b] H H')) ⟨[],rfl,rfl,(λ_ z=>nomatch z),hP,Off.refl _ _⟩ (λi ys H' h=>by obtain⟨xs,e,e2,_⟩:=h;rw[e,List.length_map,e2];exact Nat.le_refl _) ?_ ?_
 .rintro i ys H' hi ⟨xs,rfl,e2,hR,hP',off⟩;refine hte i H' _ hi hP' λr H'' hr hP'' off'=>⟨xs++[r],by simp,by simp[e2],λx hx=>?_,?_,off.trans off'⟩
  .rcases List.mem_append.mp hx with q|q
   .exact hR x q
   .rw[List.mem_singleton.mp q];exact hr
  .have:m0+c*(i+1)=m0+c*i+c:=by rw[Nat.mul_add,Nat.mul_one,Nat.add_assoc]
   rw[this];exact hP''
 .rintro ys H' ⟨xs,rfl,e2,hR,hP',off⟩ p hp;exact hd H' p xs e2 hR hP' off hp
theorem U8{l:List Addr}{H H':Hp}{p:Addr}{o:HO}(s:Off l H H')(hp:H p=none):Off l H (upd H' p o):=λb u hb e=>by
 rw[A1 (A7 e hp)];exact s b u hb e
theorem a4X{H H':Hp}{a b:Addr}{n:Nat}{p:Addr}(o:Off [a,b] H H')(hP:PotAt H' a b n)(hp:H' p=none):H p=none:=by
 rcases e:H p with _|u
 .rfl
 .have:=o _ _ (N5 hP hp) e;rw[hp]at this;cases this
theorem a0w{H H':Hp}{vs:List V}{rss:LLI}{a b:Addr}{n:Nat}(h:Its H vs rss)(hP:PotAt H a b n)(o:Off [a,b] H H'):Its H' vs rss:=⟨h.1,λi v e=>let ⟨r,e1,e2⟩:=h.2 i v e;⟨r,e1,IT.off e2 hP o⟩⟩
end
def Bd(B:Int)(r:List Int):Prop:=∀z∈r,-B<=z/\z<=B
section
variable {P:Program}{w:World}{K:PySem.W.Frag}{mg:Str->Option Value}{base:Heap}
inductive IspNumber(vs:List V)(H:Hp)(Q:VK)(E:XK):Prop
 |mk (a b:Addr) (n:Nat) (far:Int) (_:vs=[.ref a,.int far]) (_:0<=far) (_:far<=1000000000000) (_:PotAt H a b n) (_:n+10<2 ^ 60) (_:∀r H',-(far+3)<=r->r<=far+3->PotAt H' a b (n+3)->Off [a,b] H H'->Q (.int r) H'):IspNumber  vs H Q E
def a4M:Sp:=λvs H Q E=>IspNumber  vs H Q E
theorem a1X:FnScope ["_law_pot_here","_law_far"] ["_law_pot_here","_law_far"] (A3 J3):=⟨rfl,rfl,rfl,by decide +kernel,rfl,by decide +kernel,by decide +kernel⟩
theorem a8A(F:FunAt K mg "_law_number" J3 ["_law_pot_here","_law_far"])(T:Tx mg)(O__law_take:Ok P w K mg base "_law_take" 1 ["_law_pot_here","_law_many"] U0):Ok P w K mg base "_law_number" 2 ["_law_pot_here","_law_far"] a4M:=by
 refine F.okJ a1X (λvs H Q E h=>?_) (λcdv f A outer s H vs Q E hr h=>?_)
 .obtain⟨a,b,n,far,rfl,_⟩:=h;rfl
 .obtain⟨a,b,n,far,rfl,hf0,hf1,hP,hn,k⟩:=h;refine⟨_,(A2 (D8 (a1w (V1 (a5m (jv 1) A4) (O0 (V2 (A6 O__law_take (hr.mono (by omega)) rfl (jaC (jv 0) (jaC A4 jaN))) A4))))
 (A5 (B0 (a5p (A6 O__law_take (hr.mono (by omega)) rfl (jaC (jv 0) (jaC (L9 (a2u A4 (jv 1)) A4) jaN))) (jv 1))))
 C0)
 (A5 (B0 (a5p (A6 O__law_take (hr.mono (by omega)) rfl (jaC (jv 0) (jaC A4 jaN))) A4)))),?_⟩
  refine⟨_,rfl,_,_,rfl,rfl,_,rfl,T3 (λe=>?_) (λe=>?_)⟩
  .have e':0<far:=of_decide_eq_true e;refine⟨_,rfl,a,b,_,4,rfl,hP,by omega,by decide,by decide,λr1 H1 h10 h11 hP1 off1=>?_⟩;refine⟨rfl,_,rfl,T3 (λe=>?_) (λe=>⟨_,rfl,a,b,_,7,rfl,hP1,by omega,by decide,by decide,λr H2 h0 h1 hP2 off2=>⟨_,_,rfl,rfl,k _ _ (by show _<=r-3;omega) (by show r-3<=_;omega) (hP2.mono (by omega)) (off1.trans off2)⟩⟩)⟩;refine⟨_,rfl,_,rfl,_,_,rfl,rfl,.inl ⟨by omega,by omega⟩,_,_,rfl,rfl,a,b,_,_,rfl,hP1,by omega,by omega,by omega,λr2 H2 h20 h21 hP2 off2=>?_⟩;exact⟨_,rfl,_,_,rfl,rfl,k _ _ (by show _<=r2-far;omega) (by show r2-far<=_;omega) (hP2.mono (by omega)) (off1.trans off2)⟩
  .exact E5 (⟨_,rfl,a,b,_,7,rfl,hP,by omega,by decide,by decide,λr H2 h0 h1 hP2 off2=>⟨_,_,rfl,rfl,k _ _ (by show _<=r-3;omega) (by show r-3<=_;omega) (hP2.mono (by omega)) ((Off.refl _ _).trans off2)⟩⟩)
inductive IspSys(vs:List V)(H:Hp)(Q:VK)(E:XK):Prop
 |mk (a b:Addr) (n:Nat) (wide far:Int) (_:vs=[.ref a,.int wide,.int far]) (_:1<=wide) (_:wide<=8) (_:0<=far) (_:far<=1000000000000) (_:PotAt H a b n) (_:n+1000<2 ^ 60) (_:∀q qr us rss (m:Nat) H',H' q=some (.tup [.ref qr,.int m])->H' qr=some (.tup us)->Its H' us rss->us.length<=6->(∀r∈rss,r.length=m/\Bd (far+3) r)->1<=m->m<=8->(m:Int)<=max 4 wide->PotAt H' a b (n+200)->Off [a,b] H H'->Q (.ref q) H'):IspSys  vs H Q E
def b3S:Sp:=λvs H Q E=>IspSys  vs H Q E
theorem sc__law_system:FnScope ["_law_pot_here","_law_wide","_law_far","_law_width","_law_many","_law_great","_law_rows","_law_k"] ["_law_pot_here","_law_wide","_law_far"] (A3 J2):=⟨rfl,rfl,rfl,by decide +kernel,rfl,by decide +kernel,by decide +kernel⟩
theorem b5g(F:FunAt K mg "_law_system" J2 ["_law_pot_here","_law_wide","_law_far"])(T:Tx mg)(O__law_take:Ok P w K mg base "_law_take" 1 ["_law_pot_here","_law_many"] U0)(O__law_number:Ok P w K mg base "_law_number" 2 ["_law_pot_here","_law_far"] a4M):Ok P w K mg base "_law_system" 3 ["_law_pot_here","_law_wide","_law_far"] b3S:=by
 refine F.okJ sc__law_system (λvs H Q E h=>?_) (λcdv f A outer s H vs Q E hr h=>?_)
 .obtain⟨a,b,n,wide,far,rfl,_⟩:=h;rfl
 .obtain⟨a,b,n,wide,far,rfl,hw1,hw8,hf0,hf1,hP,hn,k⟩:=h;have hz:(3000:Nat)<=sizeLine:=by rw[sizeLine_eq];decide
  refine⟨_,(A2 (B1 (i:=3) sc__law_system.nd rfl (Or.inl rfl) (L9 A4 (A6 O__law_take (hr.mono (by omega)) rfl (jaC (jv 0) (jaC A4 jaN)))))
 (A2 (D8 (V2 (A6 O__law_take (hr.mono (by omega)) rfl (jaC (jv 0) (jaC A4 jaN))) A4)
 (A5 (B1 (i:=3) sc__law_system.nd rfl (Or.inl rfl) (L9 A4 (A6 O__law_take (hr.mono (by omega)) rfl (jaC (jv 0) (jaC (jv 1) jaN))))))
 C0)
 (A2 (B1 (i:=4) sc__law_system.nd rfl (Or.inl rfl) (A6 O__law_take (hr.mono (by omega)) rfl (jaC (jv 0) (jaC A4 jaN))))
 (A2 (D8 (V2 (A6 O__law_take (hr.mono (by omega)) rfl (jaC (jv 0) (jaC A4 jaN))) A4)
 (A5 (B1 (i:=4) sc__law_system.nd rfl (Or.inl rfl) (A6 O__law_take (hr.mono (by omega)) rfl (jaC (jv 0) (jaC A4 jaN)))))
 C0)
 (A2 (B1 (i:=5) sc__law_system.nd rfl (Or.inr rfl) (a2u (jv 2) (a6g rfl T.b_int (jaC (a3n (A6 O__law_take (hr.mono (by omega)) rfl (jaC (jv 0) (jaC A4 jaN))) A4) jaN))))
 (A2 (B1 (i:=6) sc__law_system.nd rfl (Or.inl rfl) (O2 jaN))
 (A2 (Q6 (D5 rfl T.b_range (jaC (jv 4) jaN)) (A8 (i:=7) sc__law_system.nd rfl (Or.inl rfl))
 (A2 (Q8 (X7 K (jv 6) (jaC (B5 K rfl T.b_tuple (jaC (B7 (N:=["_law_j","_law_pot_here","_law_great"]) (src:=[none,some 0,some 5]) (D5 rfl T.b_range (jaC (jv 3) jaN)) (by show B8 _ _=true;rfl) (by rfl) (by rfl)
 (λ_ _ _ _ _=>(A8 (i:=0) (show(["_law_j","_law_pot_here","_law_great"]:List Str).Nodup by decide +kernel) rfl (Or.inl rfl))) (λ_ _ _ _ _=>C6) (λ_ _ _ _ _=>(A6 O__law_number (hr.mono (by omega)) rfl (jaC (jv 1) (jaC (jv 2) jaN))))) jaN)) jaN)))
 (A5 (D8 (a1w (V1 (a5m (jv 7) A4) (O0 (V2 (A6 O__law_take (hr.mono (by omega)) rfl (jaC (jv 0) (jaC A4 jaN))) A4))))
 (A5 (a0T (L8 K (jv 6) (a5p (jv 7) A4)) (a4h (jv 6) (jv 7))))
 C0))))
 (A5 (B0 (Z4 (jaC (B5 K rfl T.b_tuple (jaC (jv 6) jaN)) (jaC (jv 3) jaN)))))))))))),?_⟩
  refine⟨_,rfl,a,b,_,4,rfl,hP,by omega,by decide,by decide,λr1 H1 h10 h11 hP1 off1=>?_⟩;refine⟨_,_,rfl,rfl,?_⟩;dsimp only[A9];refine K3 (λσ H'=>Ex1 λ(m:Nat)=>An6 (σ=[some (.ref a),some (.int wide),some (.int far),some (.int m),none,none,none,none]) (1<=m) (m<=8) ((m:Int)<=max 4 wide) (PotAt H' a b (n+3)) (Off [a,b] H H')) ?fin λfin=>?_
  case fin =>
   rintro σ H3 ⟨m,rfl,hm1,hm8,hmw,hP3,off3⟩;clear h10 h11 hP1 off1 hP;refine⟨_,rfl,a,b,_,3,rfl,hP3,by omega,by decide,by decide,λr4 H4 h40 h41 hP4 off4=>?_⟩;dsimp only[A9];refine K3 (λσ H'=>Ex1 λ(N:Nat)=>An4 (σ=[some (.ref a),some (.int wide),some (.int far),some (.int m),some (.int N),none,none,none]) (N<=6) (PotAt H' a b (n+6)) (Off [a,b] H H')) ?fin2 λfin2=>?_
   case fin2 =>
    rintro σ H5 ⟨N,rfl,hN,hP5,off5⟩;clear h40 h41 hP4 off4 hP3 off3;refine⟨_,rfl,_,rfl,a,b,_,8,rfl,hP5,by omega,by decide,by decide,λr6 H6 _ _ hP6 off6=>?_⟩;refine⟨rfl,.inr ⟨_,rfl,?_⟩⟩;have off6:=off5.trans off6;generalize decide (V.int r6=V.int 0)=cb;refine⟨_,_,rfl,rfl,.inr ⟨by cases cb<;>decide,by cases cb<;>decide⟩,?_⟩;obtain⟨g,hg,hg0,hg1⟩:∃g:Int,far*(if cb=true then 1 else 0)=g/\0<=g/\g<=far:=by
     cases cb
     .exact⟨0,by simp,by omega,by omega⟩
     .exact⟨far,by simp,by omega,by omega⟩
    dsimp only[A9];rw[hg];refine⟨Nat.zero_le _,λpr hpr=>?_⟩;have hprP:=N5 hP6 hpr;have hfr:=a4X off6 hP6 hpr;have s7:=(Same.refl H6).upd (o:=.lst []) hpr;have e7:upd H6 pr (.lst []) pr=some (.lst []):=A0;have hP7:=hP6.same s7;have off7:=U8 (o:=.lst []) off6 hfr;generalize upd H6 pr (.lst [])=H7 at s7 e7 hP7 off7;dsimp only[A9];refine⟨_,rfl,_,rfl,by omega,by omega,?_⟩;rw[Int.toNat_natCast];refine X8 (lo:=0) (n:=N) (λi σ H'=>Ex3 λo7 us rss=>An7 (σ=[some (.ref a),some (.int wide),some (.int far),some (.int m),some (.int N),some (.int g),some (.ref pr),o7]) (PotAt H' a b (n+7+30*i)) (Off [a,b] H H') (H' pr=some (.lst us)) (Its H' us rss) (us.length=i) (∀r∈rss,r.length=m/\Bd (far+3) r)) ⟨none,[],[],rfl,hP7.mono (by omega),off7,e7,.nil,rfl,λ_ z=>nomatch z⟩ ?_ ?_
    .rintro i σ H8 hi ⟨o7,us,rss,rfl,hP8,off8,e8,hI8,hul,hR8⟩;obtain⟨nn,hnn⟩:∃nn,nn=n+7+30*i:=⟨_,rfl⟩;rw[<-hnn]at hP8;have hb:nn+100<2 ^ 60:=by omega
     have en:nn+30=n+7+30*(i+1):=by omega
     clear hnn hP5 off5 hP6 hP7 hn;dsimp only[A9];refine⟨_,rfl,.inl ⟨rfl,_,SqL.of e8⟩,?_⟩;refine⟨_,rfl,_,rfl,by omega,by omega,?_⟩;rw[Int.toNat_natCast];refine a3h (caps:=[some (.ref a),some (.int g)]) (c:=3) (λz => -(far+3)<=z/\z<=far+3) (by omega) rfl hP8 (λi' H' N' hi' hP' q=>⟨_,rfl,_,rfl,a,b,_,g,rfl,hg0,by omega,hP',by omega,λr H'' h0 h1 hP'' o''=>q r H'' ⟨by omega,by omega⟩ hP'' o''⟩) ?_;intro H9 pw xs hxl hxs hP9 off9 hpw;have e9:=off9 _ _ hprP e8;have hI9:=a0w hI8 hP8 off9;have off9':=off8.trans off9;have s10:=(Same.refl H9).upd (o:=.lst (xs.map V.int)) hpw;have ew10:upd H9 pw (.lst (xs.map V.int)) pw=some (.lst (xs.map V.int)):=A0;have e10:=s10 _ _ e9;have hI10:=hI9.same s10;have hP10:=hP9.same s10;have off10:=off9'.trans (s10.off (l:=[a,b]));generalize upd H9 pw (.lst (xs.map V.int))=H10 at s10 ew10 e10 hI10 hP10 off10;refine⟨pw,_,rfl,.inl ⟨SqL.of ew10,λq hq=>?_⟩⟩;have s12:=(Same.refl H10).upd (o:=.tup (xs.map V.int)) hq;have e12:=s12 _ _ e10;have eq12:upd H10 q (.tup (xs.map V.int)) q=some (.tup (xs.map V.int)):=A0;have hP12:=hP10.same s12;have hI12:=hI10.same s12;have off12:=off10.trans (s12.off (l:=[a,b]));generalize upd H10 q (.tup (xs.map V.int))=H12 at s12 e12 eq12 hP12 hI12 off12;refine⟨pr,_,_,rfl,rfl,e12,by omega,?_⟩;have hI13:Its (upd H12 pr (.lst (us++[.ref q]))) (us++[.ref q]) (rss++[xs]):=O3 (hI12.snoc ⟨q,rfl,eq12⟩) e12 (λ_ z=>by cases z);have e13:upd H12 pr (.lst (us++[.ref q])) pr=some (.lst (us++[.ref q])):=A0;have hP13:=X4 (o:=.lst (us++[.ref q])) hP12 hprP;have off13:=U8 (o:=.lst (us++[.ref q])) off12 hfr;generalize upd H12 pr (.lst (us++[.ref q]))=H13 at hI13 e13 hP13 off13;have hR13:∀r∈rss++[xs],r.length=m/\Bd (far+3) r:=λr hr=>by
      rcases List.mem_append.mp hr with z|z
      .exact hR8 r z
      .rw[List.mem_singleton.mp z];exact⟨hxl,hxs⟩
     have hl13:(us++[V.ref q]).length=i+1:=by simp[hul]
     refine⟨_,rfl,_,_,rfl,rfl,_,rfl,T3 (λe=>?_) (λe=>?_)⟩
     .have hi0:0<i:=by have:=of_decide_eq_true e;omega
      refine⟨_,rfl,a,b,_,8,rfl,hP13,by omega,by decide,by decide,λr14 H14 _ _ hP14 off14=>?_⟩;have e14:=off14 _ _ hprP e13;have hI14:=a0w hI13 hP13 off14;refine⟨rfl,_,rfl,T3 (λe=>?_) (λe=>?_)⟩
      .obtain⟨x,hx⟩:∃x,(us++[V.ref q])[i-1]?=some x:=⟨_,List.getElem?_eq_getElem (by omega)⟩;obtain⟨r,hr,hri,hxr⟩:=hI14.mem hx;refine⟨_,rfl,_,rfl,_,_,rfl,rfl,pr,_,_,x,rfl,rfl,SqL.of e14,?_,?_⟩
       .rw[show(0+(i:Int)-1)=((i-1:Nat):Int) by omega];exact Y8 hx
       refine⟨_,rfl,_,rfl,pr,_,_,i,rfl,rfl,e14,?_,?_⟩
       .rw[Int.zero_add];exact b1m (by omega)
       have hI15:Its H14 ((us++[V.ref q]).set i x) ((rss++[xs]).set i r):=by
        refine⟨by rw[List.length_set,List.length_set,hI14.1],λj v ej=>?_⟩;rw[List.getElem?_set]at ej;by_cases hji:i=j
        .subst hji;rw[if_pos rfl,if_pos (by omega)]at ej;cases ej;exact⟨r,by rw[List.getElem?_set,if_pos rfl,if_pos (by rw[<-hI14.1];omega)],hxr⟩
        .rw[if_neg hji]at ej;obtain⟨q,q1,q2⟩:=hI14.2 j v ej;exact⟨q,by rw[List.getElem?_set,if_neg hji];exact q1,q2⟩
       refine⟨_,_,_,rfl,en ▸ X4 (hP14.mono (by omega)) hprP,U8 (off13.trans off14) hfr,A0,O3 hI15 e14 (λ_ z=>by cases z),by rw[List.length_set];exact hl13,λq hq=>?_⟩;rcases List.mem_or_eq_of_mem_set hq with z|z
       .exact hR13 q z
       .rw[z];exact hR13 r hr
      .exact⟨_,_,_,rfl,en ▸ hP14.mono (by omega),off13.trans off14,e14,hI14,hl13,hR13⟩
     .exact⟨_,_,_,rfl,en ▸ hP13.mono (by omega),off13,e13,hI13,hl13,hR13⟩
    .rintro σ H8 ⟨o7,us,rss,rfl,hP8,off8,e8,hI8,hul,hR8⟩;refine⟨_,rfl,pr,_,rfl,.inl ⟨SqL.of e8,λq hq=>?_⟩⟩;have s9:=(Same.refl H8).upd (o:=.tup us) hq;have e9:upd H8 q (.tup us) q=some (.tup us):=A0;generalize upd H8 q (.tup us)=H9 at s9 e9;refine⟨_,rfl,by show 2<=sizeLine;omega,λq2 hq2=>?_⟩;have s10:=(Same.refl H9).upd (o:=.tup [.ref q,.int m]) hq2;have s11:=s9.trans s10;exact k q2 q us rss m _ A0 (s10 _ _ e9) (hI8.same s11) (by omega) hR8 hm1 hm8 hmw ((hP8.same s11).mono (by omega)) (off8.trans s11.off)
   obtain⟨N4,rfl⟩:∃t:Nat,r4=t:=⟨r4.toNat,by omega⟩;refine⟨_,rfl,a,b,_,8,rfl,hP4,by omega,by decide,by decide,λr5 H5 _ _ hP5 off5=>?_⟩;refine⟨rfl,_,rfl,T3 (λe=>?_) (λe=>fin2 _ _ ⟨N4,rfl,by omega,hP5.mono (by omega),(off3.trans off4).trans off5⟩)⟩;refine⟨_,rfl,a,b,_,7,rfl,hP5,by omega,by decide,by decide,λr6 H6 h60 h61 hP6 off6=>?_⟩;obtain⟨N6,rfl⟩:∃t:Nat,r6=t:=⟨r6.toNat,by omega⟩;exact fin2 _ _ ⟨N6,rfl,by omega,hP6.mono (by omega),((off3.trans off4).trans off5).trans off6⟩
  obtain⟨t1,rfl⟩:∃t:Nat,r1=t:=⟨r1.toNat,by omega⟩;refine⟨_,rfl,a,b,_,8,rfl,hP1,by omega,by decide,by decide,λr2 H2 _ _ hP2 off2=>?_⟩;refine⟨rfl,_,rfl,T3 (λe=>?_) (λe=>fin _ _ ⟨t1+1,?_,by omega,by omega,by omega,hP2.mono (by omega),off1.trans off2⟩)⟩
  .refine⟨_,rfl,_,rfl,a,b,_,_,rfl,hP2,by omega,by omega,by omega,λr3 H3 h30 h31 hP3 off3=>?_⟩;obtain⟨t3,rfl⟩:∃t:Nat,r3=t:=⟨r3.toNat,by omega⟩;refine⟨_,_,rfl,rfl,fin _ _ ⟨t3+1,?_,by omega,by omega,by omega,hP3.mono (by omega),(off1.trans off2).trans off3⟩⟩;rw[show((t3+1:Nat):Int)=1+(t3:Int) by omega];rfl
  .rw[show((t1+1:Nat):Int)=1+(t1:Int) by omega];rfl
theorem a8P(n:Nat)(v:V):(List.replicate n [v]).flatten=List.replicate n v:=by
 induction n with
 |zero=>rfl
 |succ n ih=>rw[List.replicate_succ,List.flatten_cons,ih,List.replicate_succ];rfl
end
end K37
namespace K37
open PySem PySem.Spec PyProof.Rows L2
def Tk(H H':Hp):Prop:=∀c xs,H c=some (HO.tup xs)->H' c=some (.tup xs)
theorem Tk.trans{H H' H'':Hp}(h:Tk H H')(g:Tk H' H''):Tk H H'':=λc xs e=>g c xs (h c xs e)
theorem Tk.pot{H H':Hp}{a b:Addr}{n:Nat}(hP:PotAt H a b n)(o:Off [a,b] H H'):Tk H H':=λc xs e=>o c _ (b4d hP e) e
theorem Tk.put{H:Hp}{c:Addr}{xs:List V}{o:HO}(e:H c=some (.lst xs)):Tk H (upd H c o):=λd ys q=>by rw[A1 (L5 q e (by intro z;cases z))];exact q
theorem Tk.it{H H':Hp}(h:Tk H H'){v:V}{r:List Int}(g:IT H v r):IT H' v r:=let ⟨a,e,q⟩:=g;⟨a,e,h _ _ q⟩
theorem Tk.its{H H':Hp}(h:Tk H H'){vs:List V}{rss:LLI}(g:Its H vs rss):Its H' vs rss:=⟨g.1,λi v e=>let ⟨r,e1,e2⟩:=g.2 i v e;⟨r,e1,h.it e2⟩⟩
section
variable {P:Program}{w:World}{K:PySem.W.Frag}{mg:Str->Option Value}{base:Heap}
inductive IspRisen(vs:List V)(H:Hp)(Q:VK)(E:XK):Prop
 |mk (p:Addr) (us:List V) (rss:LLI) (_:vs=[.ref p]) (_:H p=some (.lst us)) (_:Its H us rss) (_:us.length<=1000) (_:(∀r∈rss,0<r.length)) (_:∀q zs srt H',Same H H'->Srt rss srt->H' q=some (.tup zs)->Its H' zs srt->Q (.ref q) H'):IspRisen  vs H Q E
def a3M:Sp:=λvs H Q E=>IspRisen  vs H Q E
theorem a9K:FnScope ["some"] ["some"] (A3 a1E):=⟨rfl,rfl,rfl,by decide +kernel,rfl,by decide +kernel,by decide +kernel⟩
theorem b0A(F:FunAt K mg "risen" a1E ["some"])(T:Tx mg):Ok P w K mg base "risen" 1 ["some"] a3M:=by
 refine F.okJ a9K (λvs H Q E h=>?_) (λcdv f A outer s H vs Q E hr h=>?_)
 .obtain⟨p,us,rss,rfl,_⟩:=h;rfl
 .obtain⟨p,us,rss,rfl,hp,hI,hl,hR,k⟩:=h;have hu:=hr.u60;refine⟨_,(A5 (B0 (B5 K rfl T.b_tuple (jaC (b1c P w rfl T.b_sorted (jaC (b3n K P w hu rfl T.b_set (jaC (jv 0) jaN)) jaN)) jaN)))),?_⟩;refine⟨_,rfl,false,p,us,rss,rfl,SqL.of hp,hI,hl,λa xs ha hnd hmem hIT=>?_⟩;have s1:=(Same.refl H).upd (o:=a4P P w a xs) ha;have e1:upd H a (a4P P w a xs) a=some (a4P P w a xs):=A0;generalize upd H a (a4P P w a xs)=H1 at s1 e1;have hxl:xs.length<=1000:=by
   have:=Tab.nodup_le (xs.map (·.1)) rss hnd λr hr=>(hmem r).mp hr;rw[List.length_map,<-hI.1]at this;omega
  refine⟨a,xs,rfl,e1,λx hx=>(hIT x hx).same s1,λx hx=>hR x.1 ((hmem x.1).mp (List.mem_map.mpr ⟨x,hx,rfl⟩)),hxl,λl zs srt hl3 hI3 hpm hri=>?_⟩;have S:Srt rss srt:=⟨hri,hpm.symm.nodup hnd,λr=>(hpm.mem_iff).trans (hmem r)⟩;refine⟨l,zs,rfl,.inl ⟨SqL.of A0,λq hq=>?_⟩⟩;have s2:=((Same.refl H1).upd (o:=.lst zs) hl3).upd (o:=.tup zs) hq;exact k q zs srt _ (s1.trans s2) S A0 (hI3.same s2)
def era(j:Nat)(r:List Int):List Int:=r.take j++r.drop (j+1)
def drp(j:Nat)(tss:LLI):LLI:=(tss.filter λr=>decide (r.getD j 0=0)).map (era j)
theorem J7{j:Nat}{r:List Int}{n:Nat}(h:r.length=n)(hj:j<n):(era j r).length=n-1:=by
 unfold era;rw[List.length_append,List.length_take,List.length_drop];omega
theorem mem_drp{j:Nat}{tss:LLI}{v:List Int}:v∈drp j tss↔∃r,r∈tss/\r.getD j 0=0/\era j r=v:=by
 unfold drp;rw[List.mem_map];constructor
 .rintro⟨r,h,e⟩;obtain⟨h1,h2⟩:=List.mem_filter.mp h;exact⟨r,h1,of_decide_eq_true h2,e⟩
 .rintro⟨r,h1,h2,e⟩;exact⟨r,List.mem_filter.mpr ⟨h1,decide_eq_true h2⟩,e⟩
theorem a3u{src:List (Option Nat)}{σ:L2.St}{Q:VK}{a:Addr}{us:List V}{tss:LLI}{j n:Nat}{H:Hp}(hsrc:B2 src σ=[none,some (.int j)])(ha:H a=some (.tup us))(hI:Its H us tss)(hul:us.length<=1000)(hn:n<=100)(hj:j<n)(hl:∀v∈tss,v.length=n)(hd:∀H1 p ws,Same H H1->H1 p=none->Its H1 ws (drp j tss)->Q (.ref p) (upd H1 p (.lst ws))) :
  E4 src (A9 0) (T9 (tOp rEq (tOp (a8k K) (G2 0) (G2 1)) (tC (V.int 0)))) (tOp a0K (tSl (a3X K) (G2 0) K2 (a1g (G2 1))) (tSl (a3X K) (G2 0) (a1g (tOp (rI0 λi j=>V.int (i+j)) (G2 1) (tC (V.int 1)))) K2)) σ Q (Itt K a) H:=by
 have hz:(3000:Nat)<=sizeLine:=by rw[sizeLine_eq];decide
 refine W3 (xs:=us) (by omega) (λi ys H'=>Same H H'/\Its H' ys (drp j (tss.take i))/\ys.length<=i) ⟨Same.refl H,Its.nil,Nat.le_refl _⟩ (λi ys H' _ h=>⟨SqT.of (h.1 _ _ ha),h.2.2⟩) ?_ ?_
 .rintro i x ys H1 hx ⟨s1,hy,hyl⟩;obtain⟨r,hr',hri,xa,rfl,hxa⟩:=hI.mem hx;have hrl:=hl r hr';have hx1:=s1 _ _ hxa;have e:drp j (tss.take (i+1))=drp j (tss.take i)++(if r.getD j 0=0 then[era j r] else[]):=by
   unfold drp;rw[List.take_add_one,hri,List.filter_append,List.map_append];congr 1;by_cases e:r.getD j 0=0
   .rw[if_pos e];show List.map _ (List.filter _ [r])=_;rw[List.filter_cons_of_pos (by exact decide_eq_true e)];rfl
   .rw[if_neg e];show List.map _ (List.filter _ [r])=_;rw[List.filter_cons_of_neg (by simpa using e)];rfl
  rw[e];show Sub _ ((B2 src σ).set 0 (some (.ref xa)))/\_;rw[hsrc];refine⟨Sub.one,?_⟩;refine⟨_,rfl,_,rfl,xa,_,_,_,rfl,rfl,SqT.of hx1,W4 (by omega),rfl,_,rfl,T3 (λe=>?_) (λe=>?_)⟩
  .have e':r.getD j 0=0:=V.int.inj (of_decide_eq_true e);rw[if_pos e'];refine⟨_,rfl,_,rfl,(j:Int),rfl,xa,_,rfl,SqT.of hx1,?_,λp3 hp3=>?_⟩
   .rw[HT.sIx_none,HT.sIx_nat,List.length_map];omega
   rw[a6o r j (by omega)];have s3:=(Same.refl H1).upd (o:=.tup ((r.take j).map V.int)) hp3;have e3:upd H1 p3 (.tup ((r.take j).map V.int)) p3=some (.tup ((r.take j).map V.int)):=A0;generalize upd H1 p3 (.tup ((r.take j).map V.int))=H3 at s3 e3;have ej:((j:Int)+1)=((j+1:Nat):Int):=by push_cast;rfl
   refine⟨_,rfl,_,rfl,_,_,rfl,rfl,((j:Int)+1),rfl,xa,_,rfl,SqT.of (s3 _ _ hx1),?_,λp4 hp4=>?_⟩
   .rw[ej,HT.sIx_nat,List.length_map];omega
   rw[ej,a6p r (j+1) (by omega)];have s4:=(Same.refl H3).upd (o:=.tup ((r.drop (j+1)).map V.int)) hp4;refine⟨p3,p4,_,_,rfl,rfl,s4 _ _ e3,A0,by rw[List.length_map,List.length_map,List.length_take,List.length_drop];omega,λp5 H5 s5 e5=>?_⟩;have s15:=(s3.trans s4).trans s5;exact⟨s1.trans s15,(hy.same s15).snoc ⟨p5,rfl,by rw[e5,<-List.map_append];rfl⟩,by rw[List.length_append];show _+1<=_;omega⟩
  .have e':¬r.getD j 0=0:=λz=>e (decide_eq_true (by rw[z]));rw[if_neg e',List.append_nil];exact⟨s1,hy,by omega⟩
 .rintro ys H1 ⟨s1,hy,_⟩ p1 hp1;rw[hI.1,List.take_length]at hy;exact hd H1 p1 ys s1 hp1 hy
inductive IspDrop(vs:List V)(H:Hp)(Q:VK)(E:XK):Prop
 |mk (t:Addr) (zs:List V) (tss:LLI) (j n:Nat) (_:vs=[.ref t,.int j]) (_:H t=some (.tup zs)) (_:Its H zs tss) (_:zs.length<=1000) (_:2<=n) (_:n<=100) (_:j<n) (_:(∀r∈tss,r.length=n)) (_:∀q ws srt H',Same H H'->Srt (drp j tss) srt->H' q=some (.tup ws)->Its H' ws srt->Q (.ref q) H'):IspDrop  vs H Q E
def a5N:Sp:=λvs H Q E=>IspDrop  vs H Q E
theorem a5S:FnScope ["told","j"] ["told","j"] (A3 X2):=⟨rfl,rfl,rfl,by decide +kernel,rfl,by decide +kernel,by decide +kernel⟩
theorem a6c(F:FunAt K mg "dropped" X2 ["told","j"])(T:Tx mg)(O_risen:Ok P w K mg base "risen" 1 ["some"] a3M):Ok P w K mg base "dropped" 2 ["told","j"] a5N:=by
 refine F.okJ a5S (λvs H Q E h=>?_) (λcdv f A outer s H vs Q E hr h=>?_)
 .obtain⟨t,zs,tss,j,n,rfl,_⟩:=h;rfl
 .obtain⟨t,zs,tss,j,n,rfl,ht,hI,hzl,n2,n100,hj,hl,kk⟩:=h;refine⟨_,(A5 (B0 (A6 O_risen (hr.mono (by omega)) rfl (jaC (B7 (N:=["one","j"]) (src:=[none,some 1]) (J0 K (jv 0)) (by show B8 _ _=true;rfl) (by rfl) (by rfl)
 (λ_ _ _ _ _=>(A8 (i:=0) (show(["one","j"]:List Str).Nodup by decide +kernel) rfl (Or.inl rfl))) (λ_ _ _ _ _=>(a0b (V2 (P5 K (jv 0) (jv 1)) A4))) (λ_ _ _ _ _=>(a0u (a1o K (jv 0) I0 (G9 (jv 1))) (a1o K (jv 0) (G9 (L9 (jv 1) A4)) I0)))) jaN)))),?_⟩
  refine⟨_,rfl,t,rfl,⟨_,SqT.of ht⟩,?_⟩;refine a3u (K:=K) (n:=n) rfl ht hI hzl n100 hj hl λH1 p ws s1 hp hI1=>?_;have s2:=s1.upd (o:=.lst ws) hp;refine⟨p,ws,drp j tss,rfl,A0,hI1.same ((Same.refl H1).upd hp),?_,λr hr=>?_,λq zs' srt H' s' S hq hI'=>kk q zs' srt H' (s2.trans s') S hq hI'⟩
  .rw[hI1.1];unfold drp;rw[List.length_map];exact Nat.le_trans (List.length_filter_le _ _) (by rw[<-hI.1];exact hzl)
  .obtain⟨u,hu,_,rfl⟩:=mem_drp.mp hr;rw[J7 (hl u hu) hj];omega
def OT(H:Hp)(o:Addr)(os:List Nat):Prop:=H o=some (.tup ((os.map λk:Nat=>(k:Int)).map V.int))
def plc(os:List Nat)(xs:List Int):List Int:=os.map λk=>xs.getD k 0
inductive IspPlaced(vs:List V)(H:Hp)(Q:VK)(E:XK):Prop
 |mk (v:V) (xs:List Int) (o:Addr) (os:List Nat) (_:vs=[v,.ref o]) (_:IT H v xs) (_:OT H o os) (_:(∀k∈os,k<xs.length)) (_:os.length<=100) (_:∀u H',Same H H'->IT H' u (plc os xs)->Q u H'):IspPlaced  vs H Q E
def a4L:Sp:=λvs H Q E=>IspPlaced  vs H Q E
theorem a8g:FnScope ["one","order"] ["one","order"] (A3 a0o):=⟨rfl,rfl,rfl,by decide +kernel,rfl,by decide +kernel,by decide +kernel⟩
theorem a8z(F:FunAt K mg "placed" a0o ["one","order"])(T:Tx mg):Ok P w K mg base "placed" 1 ["one","order"] a4L:=by
 refine F.okJ a8g (λvs H Q E h=>?_) (λcdv f A outer s H vs Q E hr h=>?_)
 .obtain⟨v,xs,o,os,rfl,_⟩:=h;rfl
 .obtain⟨_,xs,o,os,rfl,⟨va,rfl,hva⟩,ho,hos,hol,kk⟩:=h;refine⟨_,(A5 (B0 (B5 K rfl T.b_tuple (jaC (B7 (N:=["j","one"]) (src:=[none,some 0]) (J0 K (jv 1)) (by show B8 _ _=true;rfl) (by rfl) (by rfl)
 (λ_ _ _ _ _=>(A8 (i:=0) (show(["j","one"]:List Str).Nodup by decide +kernel) rfl (Or.inl rfl))) (λ_ _ _ _ _=>C6) (λ_ _ _ _ _=>(P5 K (jv 1) (jv 0)))) jaN)))),?_⟩
  refine⟨_,rfl,o,rfl,⟨_,SqT.of ho⟩,?_⟩;refine a0i (caps:=[some (.ref va)]) (λz=>V.int (xs.getD z.toNat 0)) (by rw[List.length_map];omega) (λH' s=>SqT.of (s _ _ ho)) rfl (λx H1 Q1 hx s1 q=>?_) λH1 p s1 hp=>?_
  .obtain⟨k,hk,rfl⟩:=List.mem_map.mp hx;exact⟨_,rfl,_,rfl,va,_,_,_,rfl,rfl,SqT.of (s1 _ _ hva),W4 (hos k hk),q⟩
  .refine⟨p,_,rfl,.inl ⟨SqL.of A0,λp2 hp2=>?_⟩⟩;refine kk _ _ ((s1.upd hp).upd hp2) ⟨p2,rfl,?_⟩;rw[A0];unfold plc;rw[List.map_map,List.map_map];rfl
inductive IspTurned(vs:List V)(H:Hp)(Q:VK)(E:XK):Prop
 |mk (t o:Addr) (zs:List V) (tss:LLI) (os:List Nat) (_:vs=[.ref t,.ref o]) (_:H t=some (.tup zs)) (_:Its H zs tss) (_:zs.length<=1000) (_:OT H o os) (_:1<=os.length) (_:os.length<=100) (_:(∀r∈tss,∀k∈os,k<r.length)) (_:∀q ws srt H',Same H H'->Srt (tss.map (plc os)) srt->H' q=some (.tup ws)->Its H' ws srt->Q (.ref q) H'):IspTurned  vs H Q E
def a1V:Sp:=λvs H Q E=>IspTurned  vs H Q E
theorem a8e:FnScope ["told","order"] ["told","order"] (A3 a0m):=⟨rfl,rfl,rfl,by decide +kernel,rfl,by decide +kernel,by decide +kernel⟩
theorem a8w(F:FunAt K mg "turned" a0m ["told","order"])(T:Tx mg)(O_placed:Ok P w K mg base "placed" 1 ["one","order"] a4L)(O_risen:Ok P w K mg base "risen" 1 ["some"] a3M):Ok P w K mg base "turned" 2 ["told","order"] a1V:=by
 refine F.okJ a8e (λvs H Q E h=>?_) (λcdv f A outer s H vs Q E hr h=>?_)
 .obtain⟨t,o,zs,tss,os,rfl,_⟩:=h;rfl
 .obtain⟨t,o,zs,tss,os,rfl,ht,hI,hzl,ho,o1,o100,hl,kk⟩:=h;have hz:(3000:Nat)<=sizeLine:=by rw[sizeLine_eq];decide
  refine⟨_,(A5 (B0 (A6 O_risen (hr.mono (by omega)) rfl (jaC (B7 (N:=["one","order"]) (src:=[none,some 1]) (J0 K (jv 0)) (by show B8 _ _=true;rfl) (by rfl) (by rfl)
 (λ_ _ _ _ _=>(A8 (i:=0) (show(["one","order"]:List Str).Nodup by decide +kernel) rfl (Or.inl rfl))) (λ_ _ _ _ _=>C6) (λ_ _ _ _ _=>(A6 O_placed (hr.mono (by omega)) rfl (jaC (jv 0) (jaC (jv 1) jaN))))) jaN)))),?_⟩
  refine⟨_,rfl,t,rfl,⟨_,SqT.of ht⟩,?_⟩;refine a1R (caps:=[some (.ref o)]) (plc os) (by omega) (λH' s=>SqT.of (s _ _ ht)) hI rfl (λv r H1 Q1 hr hv s1 q=>?_) λH1 p ws s1 hp hI1=>?_
  .exact⟨_,rfl,_,rfl,v,r,o,os,rfl,hv,s1 _ _ ho,hl r hr,o100,λu H' s' hu=>q u H' s' hu⟩
  .have s2:=s1.upd (o:=.lst ws) hp;refine⟨p,ws,tss.map (plc os),rfl,A0,hI1.same ((Same.refl H1).upd hp),by rw[hI1.1,List.length_map,<-hI.1];exact hzl,λr hr=>?_,λq zs' srt H' s' S hq hI'=>kk q zs' srt H' (s2.trans s') S hq hI'⟩;obtain⟨u,hu,rfl⟩:=List.mem_map.mp hr;unfold plc;rw[List.length_map];exact o1
theorem b5x(xs:List V):M2 xs (some (-1)) none=xs.drop (xs.length-1):=by
 unfold M2;have e:HT.sIx xs.length 0 (some (-1))=xs.length-1:=by
  show(if (-1:Int)<0 then((-1:Int)+(xs.length:Int)).toNat else min (-1:Int).toNat xs.length)=_;rw[if_pos (by decide)];omega
 rw[e,HT.sIx_none,List.take_of_length_le (by rw[List.length_drop];omega)]
theorem a3l(dd:LLI)(r:List Int):dd.drop (dd.length-1)=[r]↔dd.getLast?=some r:=by
 rcases List.eq_nil_or_concat dd with rfl|⟨ds,x,rfl⟩
 .simp
 .rw[List.concat_eq_append,List.length_append,List.getLast?_append];show(ds++[x]).drop (ds.length+1-1)=[r]↔some x=some r;rw[Nat.add_sub_cancel,List.drop_left];simp
inductive IspOnce(vs:List V)(H:Hp)(Q:VK)(E:XK):Prop
 |mk (p:Addr) (us:List V) (rss:LLI) (_:vs=[.ref p]) (_:(H p=some (.lst us)∨H p=some (.tup us))) (_:Its H us rss) (_:us.length<=1000) (_:(∀r∈rss,0<r.length)) (_:∀q zs srt H',Same H H'->Srt rss srt->H' q=some (.tup zs)->Its H' zs srt->Q (.ref q) H'):IspOnce  vs H Q E
def a9D:Sp:=λvs H Q E=>IspOnce  vs H Q E
theorem sc__law_once:FnScope ["_law_some","_law_found","_law_one"] ["_law_some"] (A3 M9):=⟨rfl,rfl,rfl,by decide +kernel,rfl,by decide +kernel,by decide +kernel⟩
theorem b3g(F:FunAt K mg "_law_once" M9 ["_law_some"])(T:Tx mg):Ok P w K mg base "_law_once" 1 ["_law_some"] a9D:=by
 refine F.okJ sc__law_once (λvs H Q E h=>?_) (λcdv f A outer s H vs Q E hr h=>?_)
 .obtain⟨p,us,rss,rfl,_⟩:=h;rfl
 .obtain⟨p,us,rss,rfl,hp,hI,hul,hpos,kk⟩:=h;have hz:(3000:Nat)<=sizeLine:=by rw[sizeLine_eq];decide
  have hu:=hr.u60;refine⟨_,(A2 (B1 (i:=1) sc__law_once.nd rfl (Or.inl rfl) (O2 jaN))
 (A2 (Q6 (K9 K (a2t K rfl T.b_sorted (jaC (jv 0) jaN))) (A8 (i:=2) sc__law_once.nd rfl (Or.inl rfl))
 (A5 (D8 (a2r K hu (b1g K (jv 1) (G9 (b6y A4)) I0) (O2 (jaC (jv 2) jaN)))
 (A5 (Q8 (X7 K (jv 1) (jaC (jv 2) jaN))))
 C0)))
 (A5 (B0 (B5 K rfl T.b_tuple (jaC (jv 1) jaN)))))),?_⟩
  refine⟨Nat.zero_le _,λf1 hf1=>?_⟩;have s1:=(Same.refl H).upd (o:=.lst []) hf1;have e1:upd H f1 (.lst []) f1=some (.lst []):=A0;generalize upd H f1 (.lst [])=H1 at s1 e1;dsimp only[A9];refine⟨_,rfl,p,us,rss,rfl,hp.imp (λh=>SqL.of (s1 _ _ h)) (λh=>SqT.of (s1 _ _ h)),hI.same s1,hpos,λl zs srt hl hIz hpm hri _=>?_⟩;have hne:f1≠l:=A7 e1 hl;have s2:=s1.upd (o:=.lst zs) hl;have e2:upd H1 l (.lst zs) l=some (.lst zs):=A0;have ef2:=((Same.refl H1).upd (o:=.lst zs) hl) _ _ e1;have hIz2:=hIz.same ((Same.refl H1).upd (o:=.lst zs) hl);generalize upd H1 l (.lst zs)=H2 at s2 e2 ef2 hIz2;have hzl:zs.length<=1000:=by rw[hIz.1,hpm.length_eq,<-hI.1];exact hul
  refine⟨l,rfl,⟨_,SqL.of e2⟩,?_⟩;have hf0:H f1=none:=hf1;have upS:∀{H':Hp}{ob:HO},Same H H'->Same H (upd H' f1 ob):=λs b o e=>by rw[A1 (A7 e hf0)];exact s b o e
  have hsl:srt.length=zs.length:=hIz.1.symm;refine V9 (K:=K) (a:=l) (xs:=zs) (λi σ H'=>Ex3 λ(o2:Option V) (fs:List V) (dd:LLI)=>An11 (σ=[some (.ref p),some (.ref f1),o2]) (Same H H') (H' l=some (.lst zs)) (H' f1=some (.lst fs)) (Its H' zs srt) (Its H' fs dd) (fs.length<=i) (G0 dd) (dd.Nodup) ((∀r,r∈dd↔r∈srt.take i)) (dd.getLast?=(srt.take i).getLast?)) ⟨none,[],[],rfl,s2,e2,ef2,hIz2,Its.nil,Nat.le_refl _,List.Pairwise.nil,List.nodup_nil,λr=>by simp,rfl⟩ (λi σ H' _ h=>by obtain⟨_,_,_,_,_,e,_⟩:=h;exact SqL.of e) ?_ ?_
  .rintro i x σ H3 hx ⟨o2,fs,dd,rfl,s3,e3,ef3,hI3,hIf3,hfl,hri3,hnd3,hm3,hla3⟩;obtain⟨r,hr1,hr2,xa,rfl,hxa⟩:=hI3.mem hx;have hi:i<srt.length:=(List.getElem?_eq_some_iff.mp hr2).1;have hge:srt[i]=r:=(List.getElem?_eq_some_iff.mp hr2).2;have htk:srt.take (i+1)=srt.take i++[r]:=by rw[List.take_add_one,hr2];rfl
   have hpw:=List.pairwise_iff_getElem.mp hri;dsimp only[A9];refine⟨_,rfl,_,rfl,_,rfl,?_⟩;dsimp only[K2];refine⟨f1,fs,rfl,SqL.of ef3,λp4 hp4=>?_⟩;rw[b5x];have s4:=(Same.refl H3).upd (o:=.lst (fs.drop (fs.length-1))) hp4;have e4:upd H3 p4 (.lst (fs.drop (fs.length-1))) p4=some (.lst (fs.drop (fs.length-1))):=A0;generalize upd H3 p4 (.lst (fs.drop (fs.length-1)))=H4 at s4 e4;refine⟨_,rfl,by show 1<=sizeLine;omega,λp5 hp5=>?_⟩;have s5':=(Same.refl H4).upd (o:=.lst [.ref xa]) hp5;have e5:upd H4 p5 (.lst [.ref xa]) p5=some (.lst [.ref xa]):=A0;generalize upd H4 p5 (.lst [.ref xa])=H5 at s5' e5;have s35:=s4.trans s5';have hIf5:=hIf3.same s35;refine⟨2,_,by decide,EqV.its (k:=false) (SqL.of (s5' _ _ e4)) (SqL.of e5) (hIf5.drop (fs.length-1)) (Its.one (r:=r) ⟨xa,rfl,s35 _ _ hxa⟩),⟨_,_,rfl,rfl⟩,_,rfl,T3 (λew=>?_) (λew=>?_)⟩
   .have hne':¬dd.getLast?=some r:=by
     have:¬dd.drop (fs.length-1)=[r]:=by simpa using ew
     rw[hIf3.1]at this;exact λz=>this ((a3l dd r).mpr z)
    have hnot:r∉dd:=λhmem=>hne' (by
     have h1:=(hm3 r).mp hmem;have hi0:0<i:=by
      have:=List.length_pos_of_mem h1;rw[List.length_take]at this;omega
     obtain⟨t,ht,het⟩:=List.mem_iff_getElem.mp h1;rw[List.length_take]at ht;rw[List.getElem_take]at het;have hq:(srt.take i).getLast?=some srt[i-1]:=by
      rw[List.getLast?_eq_getElem?,List.length_take,Nat.min_eq_left (by omega),List.getElem?_take,if_pos (by omega),List.getElem?_eq_getElem (by omega)]
     rw[hla3,hq];have l1:HT.lexLt r srt[i-1]=false:=by
      have:=hpw (i-1) i (by omega) (by omega) (by omega);rw[hge]at this;exact this
     have l2:HT.lexLt srt[i-1] r=false:=by
      by_cases e:t=i-1
      .subst e;rw[<-het];exact L7 _
      .have:=hpw t (i-1) (by omega) (by omega) (by omega);rw[het]at this;exact this
     rw[P0 _ _ l2 l1])
    have ef5:=s35 _ _ ef3;refine⟨_,rfl,.inl ⟨rfl,_,SqL.of ef5⟩,_,rfl,f1,fs,_,rfl,rfl,ef5,by omega,?_⟩;have tk:Tk H5 (upd H5 f1 (.lst (fs++[.ref xa]))):=Tk.put ef5;refine⟨_,fs++[.ref xa],dd++[r],rfl,upS (s3.trans s35),by rw[A1 hne.symm];exact s35 _ _ e3,A0,tk.its (hI3.same s35),(tk.its hIf5).snoc ⟨xa,rfl,tk _ _ (s35 _ _ hxa)⟩,by rw[List.length_append];show _+1<=_;omega,?_,?_,λr'=>?_,?_⟩
    .refine List.pairwise_append.mpr ⟨hri3,List.pairwise_singleton _ _,λd hd u hu=>?_⟩;rw[List.mem_singleton.mp hu];obtain⟨t,ht,het⟩:=List.mem_iff_getElem.mp ((hm3 d).mp hd);rw[List.length_take]at ht;rw[List.getElem_take]at het;have:=hpw t i (by omega) (by omega) (by omega);rw[het,hge]at this;exact this
    .refine List.nodup_append.mpr ⟨hnd3,by simp,λd hd u hu e=>?_⟩;rw[List.mem_singleton.mp hu]at e;rw[e]at hd;exact hnot hd
    .rw[htk,List.mem_append,List.mem_append,hm3]
    .rw[htk,List.getLast?_append,List.getLast?_append];rfl
   .have heq:dd.getLast?=some r:=by
     have:dd.drop (fs.length-1)=[r]:=by simpa using ew
     rw[hIf3.1]at this;exact(a3l dd r).mp this
    refine⟨_,fs,dd,rfl,s3.trans s35,s35 _ _ e3,s35 _ _ ef3,hI3.same s35,hIf5,by omega,hri3,hnd3,λr'=>?_,by rw[htk,List.getLast?_append,heq];rfl⟩;rw[htk,List.mem_append,<-hm3,List.mem_singleton];refine⟨.inl,λh=>h.elim id λe=>?_⟩;rw[e];exact List.mem_of_getLast? heq
  .rintro σ H3 ⟨o2,fs,dd,rfl,s3,e3,ef3,hI3,hIf3,hfl,hri3,hnd3,hm3,hla3⟩;rw[<-hsl,List.take_length]at hm3;refine⟨_,rfl,f1,fs,rfl,.inl ⟨SqL.of ef3,λq hq=>?_⟩⟩;exact kk q fs dd _ (s3.upd hq) ⟨hri3,hnd3,λr=>(hm3 r).trans hpm.mem_iff⟩ A0 (hIf3.same ((Same.refl H3).upd hq))
end
end K37
namespace K37
open PySem PySem.Spec PyProof.Rows L2
section
variable {P:Program}{w:World}{K:PySem.W.Frag}{mg:Str->Option Value}{base:Heap}
theorem a3i{α β:Type}(f:α->β)(l:List α)(k:Nat):(l.map f).eraseIdx k=(l.eraseIdx k).map f:=by
 rw[List.eraseIdx_eq_take_drop_succ,List.eraseIdx_eq_take_drop_succ,List.map_append,List.map_take,List.map_drop]
inductive IspOrder(vs:List V)(H:Hp)(Q:VK)(E:XK):Prop
 |mk (a b:Addr) (m n:Nat) (wi:Int) (_:vs=[.ref a,.int wi]) (_:wi=n) (_:PotAt H a b m) (_:m+100<2 ^ 60) (_:1<=n) (_:n<=8) (_:∀o os H',OT H' o os->os.Perm (List.range n)->PotAt H' a b (m+10)->Off [a,b] H H'->Q (.ref o) H'):IspOrder  vs H Q E
def a3O:Sp:=λvs H Q E=>IspOrder  vs H Q E
theorem sc__law_order:FnScope ["_law_pot_here","_law_width","_law_left","_law_order_here"] ["_law_pot_here","_law_width"] (A3 K5):=⟨rfl,rfl,rfl,by decide +kernel,rfl,by decide +kernel,by decide +kernel⟩
theorem b0C(F:FunAt K mg "_law_order" K5 ["_law_pot_here","_law_width"])(T:Tx mg)(O__law_take:Ok P w K mg base "_law_take" 1 ["_law_pot_here","_law_many"] U0):Ok P w K mg base "_law_order" 2 ["_law_pot_here","_law_width"] a3O:=by
 refine F.okJ sc__law_order (λvs H Q E h=>?_) (λcdv f A outer s H vs Q E hr h=>?_)
 .obtain⟨a,b,m,n,wi,rfl,_⟩:=h;rfl
 .obtain⟨a,b,m,n,_,rfl,rfl,hP,hm,n1,n8,kk⟩:=h;have hu:=hr.u60;have hz:(3000:Nat)<=sizeLine:=by rw[sizeLine_eq];decide
  refine⟨_,(A2 (B1 (i:=2) sc__law_order.nd rfl (Or.inl rfl) (b1e rfl T.b_list (jaC (b3o rfl T.b_range (jaC (jv 1) jaN)) jaN)))
 (A2 (B1 (i:=3) sc__law_order.nd rfl (Or.inl rfl) (O2 jaN))
 (A2 (a5n (a2r K hu (jv 2) (O2 jaN))
 (A5 (Q8 (X7 K (jv 3) (jaC (a5o K (jv 2) (jaC (A6 O__law_take (hr.mono (by omega)) rfl (jaC (jv 0) (jaC (V5 K rfl T.b_len (jaC (jv 2) jaN)) jaN))) jaN)) jaN)))))
 (A5 (B0 (B5 K rfl T.b_tuple (jaC (jv 3) jaN))))))),?_⟩
  refine⟨_,rfl,n,rfl,by omega,λg1 hg1=>?_⟩;have s1:=(Same.refl H).upd (o:=.rng 0 n) hg1;have e1:upd H g1 (.rng 0 n) g1=some (.rng 0 n):=A0;generalize upd H g1 (.rng 0 n)=H1 at s1 e1;refine⟨g1,n,rfl,e1,by omega,by omega,λl hl=>?_⟩;have hlH:H l=none:=s1.free hl;have hlP:=N5 (hP.same s1) hl;have s2:=s1.upd (o:=.lst ((a1q n).map V.int)) hl;have e2:upd H1 l (.lst ((a1q n).map V.int)) l=some (.lst ((a1q n).map V.int)):=A0;generalize upd H1 l (.lst ((a1q n).map V.int))=H2 at s2 e2;dsimp only[A9];refine⟨Nat.zero_le _,λq hq=>?_⟩;have hqH:H q=none:=s2.free hq;have hqP:=N5 (hP.same s2) hq;have hne:l≠q:=A7 e2 hq;have s3:=s2.upd (o:=.lst []) hq;have e3:upd H2 q (.lst []) q=some (.lst []):=A0;have e23:=((Same.refl H2).upd (o:=.lst []) hq) _ _ e2;generalize upd H2 q (.lst [])=H3 at s3 e3 e23;dsimp only[A9];have hup:(a1q n)=(List.range n).map λk:Nat=>(k:Int):=rfl;refine⟨λmm σ H'=>∃(ls os:List Nat),mm=ls.length/\σ=[some (.ref a),some (.int n),some (.ref l),some (.ref q)]/\PotAt H' a b (m+os.length)/\Off [a,b] H H'/\H' l=some (.lst ((ls.map λk:Nat=>(k:Int)).map V.int))/\H' q=some (.lst ((os.map λk:Nat=>(k:Int)).map V.int))/\(os++ls).Perm (List.range n),⟨_,List.range n,[],rfl,rfl,(hP.same s3),s3.off,by rw[<-hup];exact e23,e3,List.Perm.refl _⟩,?_⟩;rintro mm σ H4 ⟨ls,os,rfl,rfl,hP4,off4,el4,eq4,hpm⟩;have hlen:=hpm.length_eq;rw[List.length_append,List.length_range]at hlen;refine⟨_,rfl,Nat.zero_le _,λp5 hp5=>?_⟩;have s5:=(Same.refl H4).upd (o:=.lst []) hp5;have e5:upd H4 p5 (.lst []) p5=some (.lst []):=A0;generalize upd H4 p5 (.lst [])=H5 at s5 e5;refine⟨1,_,by decide,EqV.ints (k:=false) (ms:=[]) (SqL.of (s5 _ _ el4)) (SqL.of e5),⟨_,_,rfl,rfl⟩,_,rfl,T3 (λew=>?_) (λew=>?_)⟩
  .have hne0:ls≠[]:=by simpa using ew
   have hpos:0<ls.length:=List.length_pos_iff.mpr hne0;refine⟨λσ H'=>∃(ls' os':List Nat),ls'.length<ls.length/\σ=[some (.ref a),some (.int n),some (.ref l),some (.ref q)]/\PotAt H' a b (m+os'.length)/\Off [a,b] H H'/\H' l=some (.lst ((ls'.map λk:Nat=>(k:Int)).map V.int))/\H' q=some (.lst ((os'.map λk:Nat=>(k:Int)).map V.int))/\(os'++ls').Perm (List.range n),λσ' H' h=>?_,?_⟩
   .obtain⟨ls',os',h1,h2,h3,h4,h5,h6,h7⟩:=h;exact⟨_,h1,ls',os',rfl,h2,h3,h4,h5,h6,h7⟩
   have el5:=s5 _ _ el4;have eq5:=s5 _ _ eq4;refine⟨_,rfl,.inl ⟨rfl,_,SqL.of eq5⟩,_,rfl,.inl ⟨rfl,_,SqL.of el5⟩,?_⟩;refine⟨_,rfl,_,rfl,l,_,rfl,.inl (SqL.of el5),a,b,_,_,rfl,hP4.same s5,by omega,by rw[List.length_map,List.length_map];omega,by rw[List.length_map,List.length_map];omega,λr6 H6 h60 h61 hP6 off6=>?_⟩;obtain⟨k,rfl⟩:∃k:Nat,r6=k:=⟨r6.toNat,by omega⟩;rw[List.length_map,List.length_map]at h61;have hk:k<ls.length:=by omega
   have el6:=off6 _ _ hlP el5;have eq6:=off6 _ _ hqP eq5;have hy:((ls.map λk:Nat=>(k:Int)).map V.int)[k]?=some (.int (ls[k]:Nat)):=by
    rw[List.getElem?_map,List.getElem?_map,List.getElem?_eq_getElem hk];rfl
   refine⟨l,_,(k:Int),k,_,rfl,rfl,el6,by omega,by omega,?_,hy,?_⟩
   .exact(a4l (by rw[List.length_map,List.length_map];exact b1m hk)).1
   have hH7:upd H6 l (.lst (((ls.map λk:Nat=>(k:Int)).map V.int).eraseIdx k)) q=some (.lst ((os.map λk:Nat=>(k:Int)).map V.int)):=by rw[A1 hne.symm];exact eq6
   refine⟨q,_,_,rfl,rfl,hH7,by rw[List.length_map,List.length_map];omega,?_⟩;refine⟨ls.eraseIdx k,os++[ls[k]],by rw[List.length_eraseIdx,if_pos hk];omega,rfl,?_,?_,?_,?_,?_⟩
   .have:=(X4 (o:=.lst ((os.map λk:Nat=>(k:Int)).map V.int++[.int (ls[k]:Nat)])) (X4 (o:=.lst (((ls.map λk:Nat=>(k:Int)).map V.int).eraseIdx k)) hP6 hlP) hqP);exact this.mono (by rw[List.length_append];show _<=m+(_+1);omega)
   .exact U8 (U8 ((off4.trans s5.off).trans off6) hlH) hqH
   .rw[A1 hne,A0,a3i,a3i]
   .rw[A0,List.map_append,List.map_append];rfl
   .refine List.Perm.trans ?_ hpm;rw[List.append_assoc];refine List.Perm.append_left os ?_;have:=List.eraseIdx_eq_take_drop_succ ls k;rw[this];refine(List.perm_middle (l₁:=ls.take k) (a:=ls[k]) (l₂:=ls.drop (k+1))).symm.trans ?_;rw[<-List.drop_eq_getElem_cons hk,List.take_append_drop]
  .have h0:ls=[]:=by simpa using ew
   subst h0;rw[List.append_nil]at hpm;refine⟨_,rfl,q,_,rfl,.inl ⟨SqL.of (s5 _ _ eq4),λo ho=>?_⟩⟩;exact kk o os _ A0 hpm (((hP4.same s5).same ((Same.refl H5).upd ho)).mono (by omega)) ((off4.trans s5.off).trans ((Same.refl H5).upd ho).off)
end
end K37
namespace K37
open PySem PySem.Spec PyProof.Rows L2
section
variable {P:Program}{w:World}{K:PySem.W.Frag}{mg:Str->Option Value}{base:Heap}
inductive IspVecs7(vs:List V)(H:Hp)(Q:VK)(E:XK):Prop
 |mk (a b:Addr) (n m:Nat) (wi:Int) (_:vs=[.ref a,.int wi]) (_:wi=m) (_:1<=m) (_:m<=8) (_:PotAt H a b n) (_:n+2000<2 ^ 60) (_:∀q us rss H',H' q=some (.tup us)->Its H' us rss->us.length<=41->(∀r∈rss,r.length=m/\∀x∈r,0<=x/\x<=1000000000000)->PotAt H' a b (n+1000)->Off [a,b] H H'->Q (.ref q) H'):IspVecs7  vs H Q E
def a6R:Sp:=λvs H Q E=>IspVecs7  vs H Q E
theorem sc__law_vectors:FnScope ["_law_pot_here","_law_width","_law_many","_law_far","_law_some","_law_k"] ["_law_pot_here","_law_width"] (A3 G3):=⟨rfl,rfl,rfl,by decide +kernel,rfl,by decide +kernel,by decide +kernel⟩
theorem b3b(F:FunAt K mg "_law_vectors" G3 ["_law_pot_here","_law_width"])(T:Tx mg)(O__law_take:Ok P w K mg base "_law_take" 1 ["_law_pot_here","_law_many"] U0):Ok P w K mg base "_law_vectors" 2 ["_law_pot_here","_law_width"] a6R:=by
 refine F.okJ sc__law_vectors (λvs H Q E h=>?_) (λcdv f A outer s H vs Q E hr h=>?_)
 .obtain⟨a,b,n,m,wi,rfl,_⟩:=h;rfl
 .obtain⟨a,b,n,m,_,rfl,rfl,hm1,hm8,hP,hn,kk⟩:=h;have hz:(3000:Nat)<=sizeLine:=by rw[sizeLine_eq];decide
  refine⟨_,(A2 (B1 (i:=2) sc__law_vectors.nd rfl (Or.inl rfl) (A6 O__law_take (hr.mono (by omega)) rfl (jaC (jv 0) (jaC A4 jaN))))
 (A2 (D8 (V2 (A6 O__law_take (hr.mono (by omega)) rfl (jaC (jv 0) (jaC A4 jaN))) A4)
 (A5 (B1 (i:=2) sc__law_vectors.nd rfl (Or.inl rfl) (A6 O__law_take (hr.mono (by omega)) rfl (jaC (jv 0) (jaC A4 jaN)))))
 C0)
 (A2 (B1 (i:=3) sc__law_vectors.nd rfl (Or.inr rfl) (L8 K (O2 (jaC A4 (jaC (a7r A4 A4) jaN))) (a6g rfl T.b_int (jaC (a3n (A6 O__law_take (hr.mono (by omega)) rfl (jaC (jv 0) (jaC A4 jaN))) A4) jaN))))
 (A2 (B1 (i:=4) sc__law_vectors.nd rfl (Or.inl rfl) (O2 jaN))
 (A2 (Q6 (D5 rfl T.b_range (jaC (jv 2) jaN)) (A8 (i:=5) sc__law_vectors.nd rfl (Or.inl rfl))
 (A2 (Q8 (X7 K (jv 4) (jaC (B5 K rfl T.b_tuple (jaC (B7 (N:=["_law_j","_law_pot_here","_law_far"]) (src:=[none,some 0,some 3]) (D5 rfl T.b_range (jaC (jv 1) jaN)) (by show B8 _ _=true;rfl) (by rfl) (by rfl)
 (λ_ _ _ _ _=>(A8 (i:=0) (show(["_law_j","_law_pot_here","_law_far"]:List Str).Nodup by decide +kernel) rfl (Or.inl rfl))) (λ_ _ _ _ _=>C6) (λ_ _ _ _ _=>(A6 O__law_take (hr.mono (by omega)) rfl (jaC (jv 1) (jaC (L8 K (O2 (jaC A4 (jaC A4 (jaC (L9 (jv 2) A4) jaN)))) (A6 O__law_take (hr.mono (by omega)) rfl (jaC (jv 1) (jaC A4 jaN)))) jaN))))) jaN)) jaN)))
 (A5 (D8 (a1w (V1 (a5m (jv 5) A4) (O0 (V2 (A6 O__law_take (hr.mono (by omega)) rfl (jaC (jv 0) (jaC A4 jaN))) A4))))
 (A5 (a0T (L8 K (jv 4) (A6 O__law_take (hr.mono (by omega)) rfl (jaC (jv 0) (jaC (jv 5) jaN)))) (a4h (jv 4) (jv 5))))
 C0))))
 (A5 (B0 (B5 K rfl T.b_tuple (jaC (jv 4) jaN))))))))),?_⟩
  refine⟨_,rfl,a,b,_,7,rfl,hP,by omega,by decide,by decide,λr1 H1 h10 h11 hP1 off1=>?_⟩;obtain⟨N1,rfl⟩:∃t:Nat,r1=t:=⟨r1.toNat,by omega⟩;dsimp only[A9];refine K3 (λσ H'=>Ex1 λ(N:Nat)=>An4 (σ=[some (.ref a),some (.int m),some (.int N),none,none,none]) (N<=40) (PotAt H' a b (n+3)) (Off [a,b] H H')) ?fin λfin=>?_
  case fin =>
   rintro σ H3 ⟨N,rfl,hN,hP3,off3⟩;clear h10 h11 hP1 off1;refine⟨_,_,rfl,rfl,⟨by decide,by decide,by decide⟩,by show 2<=sizeLine;omega,λp4 hp4=>?_⟩;have hab4:=N5 hP3 hp4;have s4:=(Same.refl H3).upd (o:=.lst [.int 3,.int ((10:Int) ^ Int.toNat 12)]) hp4;have e4:upd H3 p4 (.lst [.int 3,.int ((10:Int) ^ Int.toNat 12)]) p4=some (.lst [.int 3,.int ((10:Int) ^ Int.toNat 12)]):=A0;generalize upd H3 p4 (.lst [.int 3,.int ((10:Int) ^ Int.toNat 12)])=H4 at s4 e4;refine⟨_,rfl,a,b,_,8,rfl,hP3.same s4,by omega,by decide,by decide,λr5 H5 _ _ hP5 off5=>?_⟩;refine⟨rfl,.inr ⟨_,rfl,?_⟩⟩;obtain⟨far,hfar,hfar1⟩:=two_at 3 ((10:Int) ^ Int.toNat 12) (decide (V.int r5=V.int 0));have e12:(10:Int) ^ Int.toNat 12=1000000000000:=by decide
   rw[e12]at hfar1;refine⟨p4,_,_,.int far,rfl,rfl,SqL.of (off5 _ _ hab4 e4),hfar,?_⟩;have off35:=(off3.trans s4.off).trans off5;have hf0:0<=far:=by omega
   have hf1:far<=1000000000000:=by omega
   clear hfar hfar1 off5 e4 s4 hP3 off3 hab4 hp4;dsimp only[A9];refine⟨Nat.zero_le _,λpr hpr=>?_⟩;have hprP:=N5 hP5 hpr;have hfr:=a4X off35 hP5 hpr;have s7:=(Same.refl H5).upd (o:=.lst []) hpr;have e7:upd H5 pr (.lst []) pr=some (.lst []):=A0;have hP7:=hP5.same s7;have off7:=U8 (o:=.lst []) off35 hfr;generalize upd H5 pr (.lst [])=H7 at s7 e7 hP7 off7;dsimp only[A9];refine⟨_,rfl,_,rfl,by omega,by omega,?_⟩;rw[Int.toNat_natCast];refine X8 (lo:=0) (n:=N) (λi σ H'=>Ex3 λo5 us rss=>An7 (σ=[some (.ref a),some (.int m),some (.int N),some (.int far),some (.ref pr),o5]) (PotAt H' a b (n+7+20*i)) (Off [a,b] H H') (H' pr=some (.lst us)) (Its H' us rss) (us.length=i) (∀r∈rss,r.length=m/\∀x∈r,0<=x/\x<=1000000000000)) ⟨none,[],[],rfl,hP7.mono (by omega),off7,e7,.nil,rfl,λ_ z=>nomatch z⟩ ?_ ?_
   .rintro i σ H8 hi ⟨o5,us,rss,rfl,hP8,off8,e8,hI8,hul,hR8⟩;obtain⟨nn,hnn⟩:∃nn,nn=n+7+20*i:=⟨_,rfl⟩;rw[<-hnn]at hP8;have hb:nn+100<2 ^ 60:=by omega
    have en:nn+20=n+7+20*(i+1):=by omega
    clear hnn hP5 off35 hP7 hn;dsimp only[A9];refine⟨_,rfl,.inl ⟨rfl,_,SqL.of e8⟩,?_⟩;refine⟨_,rfl,_,rfl,by omega,by omega,?_⟩;rw[Int.toNat_natCast];refine a3h (caps:=[some (.ref a),some (.int far)]) (c:=2) (λz=>0<=z/\z<=1000000000000) (by omega) rfl hP8 (λi' H' N' hi' hP' q=>?_) ?_
    .refine⟨_,rfl,_,rfl,_,_,rfl,rfl,by show 3<=sizeLine;omega,λp9 hp9=>?_⟩;have hab9:=N5 hP' hp9;have s9:=(Same.refl H').upd (o:=.lst [.int 4,.int 1,.int (far+1)]) hp9;have e9:upd H' p9 (.lst [.int 4,.int 1,.int (far+1)]) p9=some (.lst [.int 4,.int 1,.int (far+1)]):=A0;refine⟨_,rfl,a,b,_,3,rfl,hP'.same s9,by omega,by decide,by decide,λr10 H10 h100 h101 hP10 off10=>?_⟩;obtain⟨md,hmd,md0,md1⟩:∃md:Int,atI [V.int 4,.int 1,.int (far+1)] r10=some (.int md)/\0<md/\md<=1000000000001:=by
      have hc:r10=0∨r10=1∨r10=2:=by omega
      rcases hc with rfl|rfl|rfl
      .exact⟨4,rfl,by decide,by decide⟩
      .exact⟨1,rfl,by decide,by decide⟩
      .exact⟨far+1,rfl,by omega,by omega⟩
     refine⟨p9,_,_,.int md,rfl,rfl,SqL.of (off10 _ _ hab9 e9),hmd,a,b,_,md,rfl,hP10,by omega,md0,by omega,λr11 H11 h110 h111 hP11 off11=>q r11 H11 ⟨h110,by omega⟩ hP11 ((s9.off.trans off10).trans off11)⟩
    intro H9 pw xs hxl hxs hP9 off9 hpw;have e9:=off9 _ _ hprP e8;have hI9:=a0w hI8 hP8 off9;have off9':=off8.trans off9;have s10:=(Same.refl H9).upd (o:=.lst (xs.map V.int)) hpw;have ew10:upd H9 pw (.lst (xs.map V.int)) pw=some (.lst (xs.map V.int)):=A0;have e10:=s10 _ _ e9;have hI10:=hI9.same s10;have hP10:=hP9.same s10;have off10:=off9'.trans (s10.off (l:=[a,b]));generalize upd H9 pw (.lst (xs.map V.int))=H10 at s10 ew10 e10 hI10 hP10 off10;refine⟨pw,_,rfl,.inl ⟨SqL.of ew10,λq hq=>?_⟩⟩;have s12:=(Same.refl H10).upd (o:=.tup (xs.map V.int)) hq;have e12:=s12 _ _ e10;have eq12:upd H10 q (.tup (xs.map V.int)) q=some (.tup (xs.map V.int)):=A0;have hP12:=hP10.same s12;have hI12:=hI10.same s12;have off12:=off10.trans (s12.off (l:=[a,b]));generalize upd H10 q (.tup (xs.map V.int))=H12 at s12 e12 eq12 hP12 hI12 off12;refine⟨pr,_,_,rfl,rfl,e12,by omega,?_⟩;have hI13:Its (upd H12 pr (.lst (us++[.ref q]))) (us++[.ref q]) (rss++[xs]):=O3 (hI12.snoc ⟨q,rfl,eq12⟩) e12 (λ_ z=>by cases z);have e13:upd H12 pr (.lst (us++[.ref q])) pr=some (.lst (us++[.ref q])):=A0;have hP13:=X4 (o:=.lst (us++[.ref q])) hP12 hprP;have off13:=U8 (o:=.lst (us++[.ref q])) off12 hfr;generalize upd H12 pr (.lst (us++[.ref q]))=H13 at hI13 e13 hP13 off13;have hR13:∀r∈rss++[xs],r.length=m/\∀x∈r,0<=x/\x<=1000000000000:=λr hr=>by
     rcases List.mem_append.mp hr with z|z
     .exact hR8 r z
     .rw[List.mem_singleton.mp z];exact⟨hxl,hxs⟩
    have hl13:(us++[V.ref q]).length=i+1:=by simp[hul]
    refine⟨_,rfl,_,_,rfl,rfl,_,rfl,T3 (λe=>?_) (λe=>?_)⟩
    .have hi0:0<i:=by have:=of_decide_eq_true e;omega
     refine⟨_,rfl,a,b,_,8,rfl,hP13,by omega,by decide,by decide,λr14 H14 _ _ hP14 off14=>?_⟩;have e14:=off14 _ _ hprP e13;have hI14:=a0w hI13 hP13 off14;refine⟨rfl,_,rfl,T3 (λe=>?_) (λe=>?_)⟩
     .refine⟨_,rfl,_,rfl,_,rfl,a,b,_,_,rfl,hP14,by omega,by omega,by omega,λr15 H15 h150 h151 hP15 off15=>?_⟩;have e15:=off15 _ _ hprP e14;have hI15:=a0w hI14 hP14 off15;obtain⟨x,hx⟩:∃x,(us++[V.ref q])[r15.toNat]?=some x:=⟨_,List.getElem?_eq_getElem (by omega)⟩;obtain⟨r,hr,hri,hxr⟩:=hI15.mem hx;refine⟨pr,_,_,x,rfl,rfl,SqL.of e15,by rw[show r15=((r15.toNat:Nat):Int) by omega];exact Y8 hx,?_⟩;refine⟨_,rfl,_,rfl,pr,_,_,i,rfl,rfl,e15,?_,?_⟩
      .rw[Int.zero_add];exact b1m (by omega)
      have hI16:Its H15 ((us++[V.ref q]).set i x) ((rss++[xs]).set i r):=by
       refine⟨by rw[List.length_set,List.length_set,hI15.1],λj v ej=>?_⟩;rw[List.getElem?_set]at ej;by_cases hji:i=j
       .subst hji;rw[if_pos rfl,if_pos (by omega)]at ej;cases ej;exact⟨r,by rw[List.getElem?_set,if_pos rfl,if_pos (by rw[<-hI15.1];omega)],hxr⟩
       .rw[if_neg hji]at ej;obtain⟨q,q1,q2⟩:=hI15.2 j v ej;exact⟨q,by rw[List.getElem?_set,if_neg hji];exact q1,q2⟩
      refine⟨_,_,_,rfl,en ▸ X4 (hP15.mono (by omega)) hprP,U8 ((off13.trans off14).trans off15) hfr,A0,O3 hI16 e15 (λ_ z=>by cases z),by rw[List.length_set];exact hl13,λq hq=>?_⟩;rcases List.mem_or_eq_of_mem_set hq with z|z
      .exact hR13 q z
      .rw[z];exact hR13 r hr
     .exact⟨_,_,_,rfl,en ▸ hP14.mono (by omega),off13.trans off14,e14,hI14,hl13,hR13⟩
    .exact E5 ⟨_,_,_,rfl,en ▸ hP13.mono (by omega),off13,e13,hI13,hl13,hR13⟩
   .rintro σ H8 ⟨o5,us,rss,rfl,hP8,off8,e8,hI8,hul,hR8⟩;refine⟨_,rfl,pr,_,rfl,.inl ⟨SqL.of e8,λq hq=>?_⟩⟩;have s9:=(Same.refl H8).upd (o:=.tup us) hq;exact kk q us rss _ A0 (hI8.same s9) (by omega) hR8 ((hP8.same s9).mono (by omega)) (off8.trans s9.off)
  refine⟨_,rfl,a,b,_,8,rfl,hP1,by omega,by decide,by decide,λr2 H2 _ _ hP2 off2=>?_⟩;refine⟨rfl,_,rfl,T3 (λe=>?_) (λe=>?_)⟩
  .refine⟨_,rfl,a,b,_,41,rfl,hP2,by omega,by decide,by decide,λr3 H3 h30 h31 hP3 off3=>?_⟩;obtain⟨N3,rfl⟩:∃t:Nat,r3=t:=⟨r3.toNat,by omega⟩;exact fin _ _ ⟨N3,rfl,by omega,hP3.mono (by omega),(off1.trans off2).trans off3⟩
  .exact fin _ _ ⟨N1,rfl,by omega,hP2.mono (by omega),off1.trans off2⟩
inductive IspLLo(vs:List V)(H:Hp)(Q:VK)(E:XK):Prop
 |mk (ra:Addr) (us:List V) (rss:LLI) (n:Nat) (wi:Int) (_:vs=[.ref ra,.int wi]) (_:wi=n) (_:H ra=some (.tup us)) (_:Its H us rss) (_:us.length<=6) (_:(∀r∈rss,r.length=n/\∀z∈r,-10000000000000<=z/\z<=10000000000000)) (_:1<=n) (_:n<=8) (_:(∀H',Same H H'->Q .non H')) (_:∀t zs tss H',Same H H'->H' t=some (.tup zs)->Its H' zs tss->tss.length<=100->G0 tss->tss.Nodup->(∀v,v∈tss↔Least rss (List.replicate n none) v)->Q (.ref t) H'):IspLLo  vs H Q E
def b3U:Sp:=λvs H Q E=>IspLLo  vs H Q E
theorem sc__law_least_of:FnScope ["_law_rows","_law_width","_law_told"] ["_law_rows","_law_width"] (A3 E6):=⟨rfl,rfl,rfl,by decide +kernel,rfl,by decide +kernel,by decide +kernel⟩
theorem b5i{D_TooMany:Addr}(F':FunAt K mg "_law_least_of" E6 ["_law_rows","_law_width"])(T:Tx mg)(OX_least:OkE P w K mg base "least" 7 ["rows","caps","most"] (a6T D_TooMany))(M_TooMany:mg "TooMany"=some (.ref D_TooMany))(X_TooMany:ClsX K D_TooMany []):Ok P w K mg base "_law_least_of" 8 ["_law_rows","_law_width"] b3U:=by
 refine F'.okJ sc__law_least_of (λvs H Q E h=>?_) (λcdv f A outer s H vs Q E hr h=>?_)
 .obtain⟨ra,us,rss,n,wi,rfl,_⟩:=h;rfl
 .obtain⟨ra,us,rss,n,_,rfl,rfl,hra,hI,hul,hR,n1,n8,kn,kq⟩:=h;have hz:(3000:Nat)<=sizeLine:=by rw[sizeLine_eq];decide
  refine⟨_,(A2 (B1 (i:=2) sc__law_least_of.nd rfl (Or.inl rfl) a0v)
 (A2 (b0Y K (b0U K (i:=2) OX_least (hr.mono (by omega)) rfl sc__law_least_of.nd rfl (Or.inl rfl) (jaC (jv 0) (jaC (b5p (Z4 (jaC a0v jaN)) (jv 1)) (jaC A4 jaN)))) rfl M_TooMany X_TooMany (λ_=>(A5 (B1 (i:=2) sc__law_least_of.nd rfl (Or.inl rfl) a0v))))
 (A5 (B0 (jv 2))))),?_⟩
  try dsimp only[A9,List.set]
  refine⟨_,rfl,by show 1<=sizeLine;omega,λp2 hp2=>⟨_,rfl,p2,[.non],_,rfl,rfl,A0,by simp,by omega,?_,λca H3 s3 e3=>?_⟩⟩
  .show(1:Int)*_<=_;omega
  rw[Int.toNat_natCast,a8P]at e3;have s3:=((Same.refl H).upd (o:=.tup [.non]) hp2).trans s3;have Y:SyAt H3 ra ca rss (List.replicate n none):=⟨⟨us,s3 _ _ hra,hI.same s3,by omega⟩,by rw[e3,List.map_replicate];rfl,by rw[List.length_replicate];omega,by rw[List.length_replicate];omega,λr' hr'=>by
   rw[List.length_replicate];exact⟨(hR r' hr').1,λz hz=>by have:=(hR r' hr').2 z hz;omega⟩⟩
  have hmul:(100+1)*(n+1)<=101*9:=Nat.mul_le_mul (by omega) (by omega);refine⟨ra,ca,_,List.replicate n none,100,_,rfl,rfl,Y,by rw[List.length_replicate];omega,λq t0 pp ys cts ws Fl W k H6 s6 hq ht0 hI6 hpm hri hpp hIW hW hlen=>?_,λH6 s6 ho=>⟨D_TooMany,rfl,rfl,λp hp=>?_⟩⟩
  .have hR':∀r'∈rss,r'.length=(List.replicate n (none:Option Int)).length:=λr' hr'=>(Y.hR r' hr').1;exact⟨q,_,0,_,rfl,rfl,SqT.of hq,rfl,_,rfl,kq t0 ys cts H6 (s3.trans s6) ht0 hI6 (by rw[hpm.length_eq];have:=hW.lv.2.2.2;omega) hri (hpm.symm.nodup hW.nd.2) λv=>hpm.mem_iff.trans (hW.least hR' v)⟩
  .exact⟨_,rfl,kn _ ((s3.trans s6).upd hp)⟩
end
end K37
namespace K37
open PySem PySem.Spec PyProof.Rows L2
def SD(H:Hp):Nat->V->V->Prop
 |0,_,_=>False
 |n+1,x,y=>(∃i,x=.int i/\y=.int i)∨∃a b xs ys,x=.ref a/\y=.ref b/\H a=some (.tup xs)/\H b=some (.tup ys)/\xs.length=ys.length/\xs.length<=1000/\∀(i:Nat) x' y',xs[i]?=some x'->ys[i]?=some y'->SD H n x' y'
theorem SD.same{H H':Hp}(s:Same H H'):∀{n:Nat}{x y:V},SD H n x y->SD H' n x y
 |0,_,_,h=>h
 |n+1,x,y,h=>by
  rcases h with h|⟨a,b,xs,ys,h1,h2,h3,h4,h5,h6,h7⟩
  .exact .inl h
  .exact .inr ⟨a,b,xs,ys,h1,h2,s _ _ h3,s _ _ h4,h5,h6,λi x' y' e e'=>SD.same s (h7 i x' y' e e')⟩
theorem SD.ints{H:Hp}{x y:V}{ns:List Int}(hx:IT H x ns)(hy:IT H y ns)(hl:ns.length<=1000):SD H 2 x y:=by
 obtain⟨a,rfl,ha⟩:=hx;obtain⟨b,rfl,hb⟩:=hy;refine .inr ⟨a,b,_,_,rfl,rfl,ha,hb,rfl,by rw[List.length_map];exact hl,λi x' y' e e'=>?_⟩;rw[e]at e';cases e';obtain⟨z,_,rfl⟩:=R5 e;exact .inl ⟨z,rfl,rfl⟩
section
variable {P:Program}{w:World}{K:PySem.W.Frag}{mg:Str->Option Value}{base:Heap}
inductive IspSame(n:Nat)(vs:List V)(H:Hp)(Q:VK)(E:XK):Prop
 |mk (x:_) (y:_) (_:vs=[x,y]) (_:SD H n x y) (_:∀H',Same H H'->Q (.bl true) H'):IspSame n vs H Q E
def a5M(n:Nat):Sp:=λvs H Q E=>IspSame n vs H Q E
theorem b3a{x:Str}{st:Stmt}{ps:List Str}{k:Nat}(F:FunAt K mg x st ps):Ok P w K mg base x k ps (λ_ _ _ _=>False):=by
 obtain⟨f,fd,h1,h2,h3⟩:=F.ex;exact⟨f,fd,h1,h2.kp,h3,⟨λ_ _ _ _ z=>z.elim,λ_ _ _ _ _ _ _ _ _ _ _ _ _ z=>z.elim⟩⟩
theorem a3S:FnScope ["_law_found","_law_due"] ["_law_found","_law_due"] (A3 M8):=⟨rfl,rfl,rfl,by decide +kernel,rfl,by decide +kernel,by decide +kernel⟩
theorem a7i(F:FunAt K mg "_law_same" M8 ["_law_found","_law_due"])(T:Tx mg):∀n:Nat,Ok P w K mg base "_law_same" (n+1) ["_law_found","_law_due"] (a5M n)
 |0=>(b3a F).imp λvs H Q E ⟨_,_,_,z,_⟩=>z
 |n+1=>by
  have O__law_same:=a7i F T n;refine F.okJ a3S (λvs H Q E h=>?_) (λcdv f A outer s H vs Q E hr h=>?_)
  .obtain⟨x,y,rfl,_⟩:=h;rfl
  .obtain⟨x,y,rfl,hS,kk⟩:=h;refine⟨_,(A2 (D8 (E8 K (J6 K rfl T.b_isinstance (jaC (jv 1) (jaC (a4k (v:=.ty "tuple") rfl T.b_tuple a2M rfl) jaN))))
 (A2 (D8 (a1w (a7n (O7 (E8 K (J6 K rfl T.b_isinstance (jaC (jv 0) (jaC (a4k (v:=.ty "tuple") rfl T.b_tuple a2M rfl) jaN))))) (a4g (b6t (V5 K rfl T.b_len (jaC (jv 0) jaN)) (V5 K rfl T.b_len (jaC (jv 1) jaN))))))
 (A5 (B0 Z0))
 C0)
 (A5 (B0 (a4i K rfl T.b_all (jaC (B7 (N:=["_law_one","_law_other"]) (src:=[none,none]) (a2s K rfl T.b_zip (jaC (jv 0) (jaC (jv 1) jaN))) (by show B8 _ _=true;rfl) (by rfl) (by rfl)
 (λ_ _ _ _ _=>(V4 K 2 (B9 (A8 (i:=0) (show(["_law_one","_law_other"]:List Str).Nodup by decide +kernel) rfl (Or.inl rfl)) (B9 (A8 (i:=1) (show(["_law_one","_law_other"]:List Str).Nodup by decide +kernel) rfl (Or.inl rfl)) O1)))) (λ_ _ _ _ _=>C6) (λ_ _ _ _ _=>(A6 O__law_same (hr.mono (by omega)) rfl (jaC (jv 0) (jaC (jv 1) jaN))))) jaN)))))
 C0)
 (A5 (B0 (b1i (J6 K rfl T.b_isinstance (jaC (jv 0) (jaC (a4k (v:=.ty "int") rfl T.b_int b1R rfl) jaN))) (b1i (b6x (J6 K rfl T.b_isinstance (jaC (jv 0) (jaC (a4k (v:=.ty "bool") rfl T.b_bool b3H rfl) jaN)))) (a7s (a3n (jv 0) (jv 1)))))))),?_⟩
   rcases hS with⟨i,rfl,rfl⟩|⟨a,b,xs,ys,rfl,rfl,ha,hb,hl,hlen,hi⟩
   .refine⟨_,rfl,_,_,_,false,rfl,.int i,rfl,_,rfl,E5 ?_⟩;refine⟨_,rfl,_,_,_,true,rfl,.int i,rfl,_,rfl,V6 ?_⟩;refine⟨_,rfl,_,_,_,false,rfl,.int i,rfl,_,rfl,_,rfl,V6 ?_⟩;refine⟨_,rfl,_,rfl,rfl,?_⟩;rw[show decide (V.int i=V.int i)=true from decide_eq_true rfl];exact kk H (Same.refl H)
   .refine⟨_,rfl,_,_,_,true,rfl,.tup hb,rfl,_,rfl,V6 ?_⟩;refine⟨_,rfl,_,_,_,true,rfl,.tup ha,rfl,_,rfl,E5 ?_⟩;refine⟨_,rfl,_,_,rfl,.inr (SqT.of ha),_,rfl,_,_,rfl,.inr (SqT.of hb),rfl,_,rfl,?_⟩;rw[show decide (V.int (xs.length:Int)=V.int (ys.length:Int))=true from decide_eq_true (by rw[hl])];refine E5 ?_;refine⟨_,rfl,_,rfl,true,true,a,b,rfl,⟨_,SqT.of ha⟩,⟨_,SqT.of hb⟩,?_⟩;have hz:(1000:Nat)<=sizeLine:=by rw[sizeLine_eq];decide
    refine W2 (K:=K) (k1:=true) (k2:=true) (a:=a) (b:=b) (xs:=xs) (zs:=ys) (by omega) (λi zs H'=>Same H H'/\zs=List.replicate i (.bl true)) ⟨Same.refl H,rfl⟩
     (λi zs H' _ _ h=>⟨SqT.of (h.1 _ _ ha),SqT.of (h.1 _ _ hb),by rw[h.2,List.length_replicate];exact Nat.le_refl _⟩) ?_ ?_
    .rintro i x z zs H' p hx hy ⟨s',rfl⟩ hp;have s2:Same H (upd H' p (.tup [x,z])):=s'.upd hp;refine⟨p,[x,z],rfl,SqT.of A0,rfl,x,[z],rfl,z,[],rfl,rfl,⟨rfl,λj v e=>?_⟩,?_⟩
     .match j,e with
      |0,e=>cases e
      |1,e=>cases e
     .refine⟨_,rfl,_,rfl,x,z,rfl,(hi i x z hx hy).same s2,λH3 s3=>⟨s2.trans s3,?_⟩⟩;rw[List.replicate_succ']
    .rintro zs H' ⟨s',rfl⟩ p hp;refine⟨false,p,_,rfl,SqL.of A0,?_,?_⟩
     .simp[b1x]
     .rw[show(List.replicate (min xs.length ys.length) (V.bl true)).all trV=true by simp[trV]];exact kk _ (s'.upd hp)
end
theorem SD.its{H:Hp}{a b:Addr}{us ws:List V}{A:LLI}(ha:H a=some (.tup us))(hb:H b=some (.tup ws))(hI:Its H us A)(hJ:Its H ws A)(hl:A.length<=1000)(hr:∀r∈A,r.length<=1000):SD H 3 (.ref a) (.ref b):=by
 refine .inr ⟨a,b,us,ws,rfl,rfl,ha,hb,by rw[hI.1,hJ.1],by rw[hI.1];exact hl,λi x' y' e e'=>?_⟩;obtain⟨r,e1,e2⟩:=hI.2 i x' e;obtain⟨r',f1,f2⟩:=hJ.2 i y' e';rw[e1]at f1;cases f1;exact SD.ints e2 f2 (hr r (List.mem_of_getElem? e1))
theorem D0(os:List Nat)(xs:List Int):(plc os xs).length=os.length:=List.length_map _
theorem N8{os:List Nat}{xs:List Int}{k:Nat}(hk:k<os.length):(plc os xs).getD k 0=xs.getD (os.getD k 0) 0:=by
 unfold plc;rw[List.getD_eq_getElem?_getD,List.getElem?_map,List.getElem?_eq_getElem hk,List.getD_eq_getElem?_getD (l:=os),List.getElem?_eq_getElem hk];rfl
theorem a7f{os ts:List Nat}{xs:List Int}(h:∀k∈ts,k<os.length):plc ts (plc os xs)=plc (ts.map λk=>os.getD k 0) xs:=by
 show ts.map _=_;unfold plc;rw[List.map_map];exact List.map_congr_left λk hk=>N8 (os:=os) (xs:=xs) (h k hk)
def bck(os:List Nat)(n:Nat):List Nat:=(List.range n).map λk=>os.idxOf k
theorem N7{os:List Nat}{n:Nat}(h:os.Perm (List.range n)):∀k∈os,k<n:=λk hk=>List.mem_range.mp (h.mem_iff.mp hk)
theorem J8{os:List Nat}{n:Nat}(h:os.Perm (List.range n)):os.length=n:=by rw[h.length_eq,List.length_range]
theorem a0N{os:List Nat}{n k:Nat}(h:os.Perm (List.range n))(hk:k<n):os.idxOf k<os.length:=List.idxOf_lt_length_of_mem (h.mem_iff.mpr (List.mem_range.mpr hk))
theorem a1K{os:List Nat}{k:Nat}(h:os.idxOf k<os.length):os.getD (os.idxOf k) 0=k:=by
 rw[List.getD_eq_getElem?_getD,List.getElem?_eq_getElem h];exact List.getElem_idxOf h
theorem a4n{a b:List Int}(h:a.length=b.length)(e:∀j,j<b.length->a.getD j 0=b.getD j 0):a=b:=by
 refine List.ext_getElem h λj h1 h2=>?_;have:=e j h2;rwa[List.getD_eq_getElem?_getD,List.getD_eq_getElem?_getD,List.getElem?_eq_getElem h1,List.getElem?_eq_getElem h2]at this
theorem a0C(os:List Nat)(n:Nat):(bck os n).length=n:=by unfold bck;rw[List.length_map,List.length_range]
theorem a7M{os:List Nat}{n k:Nat}(hk:k<n):(bck os n).getD k 0=os.idxOf k:=by
 unfold bck;rw[List.getD_eq_getElem?_getD,List.getElem?_map,List.getElem?_range hk];rfl
theorem a0r{os:List Nat}{n:Nat}{xs:List Int}(hp:os.Perm (List.range n))(hl:xs.length=n):plc (bck os n) (plc os xs)=xs:=by
 refine a4n (by rw[D0,a0C,hl]) λk hk=>?_;rw[hl]at hk;have h1:=a0N hp hk;rw[N8 (by rw[a0C];exact hk),a7M hk,N8 h1,a1K h1]
theorem a7L{os:List Nat}{n:Nat}{xs:List Int}(hp:os.Perm (List.range n))(hl:xs.length=n):plc os (plc (bck os n) xs)=xs:=by
 refine a4n (by rw[D0,J8 hp,hl]) λk hk=>?_;rw[hl]at hk;have hko:k<os.length:=by rw[J8 hp];exact hk
 have e0:os.getD k 0=os[k]:=by rw[List.getD_eq_getElem?_getD,List.getElem?_eq_getElem hko];rfl
 have h1:os.getD k 0<n:=by rw[e0];exact N7 hp _ (List.getElem_mem hko)
 have h2:os.idxOf os[k]=k:=List.Nodup.idxOf_getElem (hp.symm.nodup List.nodup_range) k hko;rw[N8 hko,N8 (by rw[a0C];exact h1),a7M h1,e0,h2]
section
variable {K:PySem.W.Frag}
theorem a5v{src:List (Option Nat)}{σ:L2.St}{Q:VK}{a o:Addr}{us:List V}{tss:LLI}{os:List Nat}{n:Nat}{H:Hp}(hsrc:B2 src σ=[none,some (.ref o)])(ha:H a=some (.tup us))(hI:Its H us tss)(hul:us.length<=1000)(ho:OT H o os)(hol:os.length<=100)(hos:∀k∈os,k<n)(hl:∀v∈tss,v.length=n)(hd:∀H1 p ws,Same H H1->H1 p=none->Its H1 ws (tss.map (plc os))->Q (.ref p) (upd H1 p (.lst ws))) :
  E4 src (A9 0) M4 (tCB (a5W K) (a2Z (a3a [none,some 0] (b3x K (G2 1)) (A9 0) M4 (tOp (a8k K) (G2 1) (G2 0))) a0H)) σ Q (Itt K a) H:=by
 have hz:(3000:Nat)<=sizeLine:=by rw[sizeLine_eq];decide
 refine a1R (caps:=[some (.ref o)]) (plc os) (by omega) (λH' s=>SqT.of (s _ _ ha)) hI hsrc (λv r H1 Q1 hr hv s1 q=>?_) hd;obtain⟨va,rfl,hva⟩:=hv;have ho1:=s1 _ _ ho;refine⟨_,rfl,o,rfl,⟨_,SqT.of ho1⟩,?_⟩;refine a0i (caps:=[some (.ref va)]) (λz=>V.int (r.getD z.toNat 0)) (by rw[List.length_map];omega) (λH' s=>SqT.of (s _ _ ho1)) rfl (λx H2 Q2 hx s2 q2=>?_) λH2 p s2 hp=>?_
 .obtain⟨k,hk,rfl⟩:=List.mem_map.mp hx;exact⟨_,rfl,_,rfl,va,_,_,_,rfl,rfl,SqT.of (s2 _ _ hva),W4 (by rw[hl r hr];exact hos k hk),q2⟩
 .refine⟨p,_,rfl,.inl ⟨SqL.of A0,λp2 hp2=>?_⟩⟩;refine q _ _ ((s2.upd hp).upd hp2) ⟨p2,rfl,?_⟩;rw[A0];unfold plc;rw[List.map_map,List.map_map];rfl
end
section
variable {P:Program}{w:World}{K:PySem.W.Frag}{mg:Str->Option Value}{base:Heap}
inductive IspVR(vs:List V)(H:Hp)(Q:VK)(E:XK):Prop
 |mk (a b sa:Addr) (us:List V) (rss:LLI) (m n:Nat) (wi:Int) (_:vs=[.ref a,.ref sa,.int wi]) (_:wi=n) (_:PotAt H a b m) (_:m+500<2 ^ 60) (_:H sa=some (.tup us)) (_:Its H us rss) (_:us.length<=41) (_:(∀r∈rss,r.length=n)) (_:2<=n) (_:n<=8) (_:∀H',PotAt H' a b (m+100)->Q (.bl true) H'):IspVR  vs H Q E
def b5X:Sp:=λvs H Q E=>IspVR  vs H Q E
theorem sc__law_vectors_right:FnScope ["_law_pot_here","_law_some","_law_width","_law_j","_law_due","_law_first","_law_second","_law_due_turned","_law_both","_law_back","_law_again"] ["_law_pot_here","_law_some","_law_width"] (A3 C1):=⟨rfl,rfl,rfl,by decide +kernel,rfl,by decide +kernel,by decide +kernel⟩
theorem a8v(F':FunAt K mg "_law_vectors_right" C1 ["_law_pot_here","_law_some","_law_width"])(T:Tx mg)(O__law_take:Ok P w K mg base "_law_take" 1 ["_law_pot_here","_law_many"] U0)(O__law_once:Ok P w K mg base "_law_once" 1 ["_law_some"] a9D)(O__law_order:Ok P w K mg base "_law_order" 2 ["_law_pot_here","_law_width"] a3O)(O_dropped:Ok P w K mg base "dropped" 2 ["told","j"] a5N)(O_turned:Ok P w K mg base "turned" 2 ["told","order"] a1V)(O__law_same:Ok P w K mg base "_law_same" 4 ["_law_found","_law_due"] (a5M 3)):Ok P w K mg base "_law_vectors_right" 5 ["_law_pot_here","_law_some","_law_width"] b5X:=by
 refine F'.okJ sc__law_vectors_right (λvs H Q E h=>?_) (λcdv f A outer s H vs Q E hr h=>?_)
 .obtain⟨a,b,sa,us,rss,m,n,wi,rfl,_⟩:=h;rfl
 .obtain⟨a,b,sa,us,rss,m,n,_,rfl,rfl,hP,hm,hsa,hI,hul,hR,n2,n8,kk⟩:=h;have hz:(3000:Nat)<=sizeLine:=by rw[sizeLine_eq];decide
  have hu:=hr.u60;refine⟨_,(A2 (B1 (i:=3) sc__law_vectors_right.nd rfl (Or.inr rfl) (A6 O__law_take (hr.mono (by omega)) rfl (jaC (jv 0) (jaC (jv 2) jaN))))
 (A2 (B1 (i:=4) sc__law_vectors_right.nd rfl (Or.inl rfl) (A6 O__law_once (hr.mono (by omega)) rfl (jaC (B7 (N:=["_law_one","_law_j"]) (src:=[none,some 3]) (J0 K (jv 1)) (by show B8 _ _=true;rfl) (by rfl) (by rfl)
 (λ_ _ _ _ _=>(A8 (i:=0) (show(["_law_one","_law_j"]:List Str).Nodup by decide +kernel) rfl (Or.inl rfl))) (λ_ _ _ _ _=>(a0b (V2 (P5 K (jv 0) (jv 1)) A4))) (λ_ _ _ _ _=>(a0u (a1o K (jv 0) I0 (G9 (jv 1))) (a1o K (jv 0) (G9 (L9 (jv 1) A4)) I0)))) jaN)))
 (A2 (a0T (Z4 (jaC (A6 O__law_order (hr.mono (by omega)) rfl (jaC (jv 0) (jaC (jv 2) jaN))) (jaC (A6 O__law_order (hr.mono (by omega)) rfl (jaC (jv 0) (jaC (jv 2) jaN))) jaN))) (V4 K 2 (B9 (A8 (i:=5) sc__law_vectors_right.nd rfl (Or.inr rfl)) (B9 (A8 (i:=6) sc__law_vectors_right.nd rfl (Or.inl rfl)) O1))))
 (A2 (B1 (i:=7) sc__law_vectors_right.nd rfl (Or.inl rfl) (A6 O__law_once (hr.mono (by omega)) rfl (jaC (B7 (N:=["_law_one","_law_first"]) (src:=[none,some 5]) (J0 K (jv 1)) (by show B8 _ _=true;rfl) (by rfl) (by rfl)
 (λ_ _ _ _ _=>(A8 (i:=0) (show(["_law_one","_law_first"]:List Str).Nodup by decide +kernel) rfl (Or.inr rfl))) (λ_ _ _ _ _=>C6) (λ_ _ _ _ _=>(B5 K rfl T.b_tuple (jaC (B7 (N:=["_law_place","_law_one"]) (src:=[none,some 0]) (J0 K (jv 1)) (by show B8 _ _=true;rfl) (by rfl) (by rfl)
 (λ_ _ _ _ _=>(A8 (i:=0) (show(["_law_place","_law_one"]:List Str).Nodup by decide +kernel) rfl (Or.inl rfl))) (λ_ _ _ _ _=>C6) (λ_ _ _ _ _=>(P5 K (jv 1) (jv 0)))) jaN)))) jaN)))
 (A2 (B1 (i:=8) sc__law_vectors_right.nd rfl (Or.inl rfl) (B5 K rfl T.b_tuple (jaC (B7 (N:=["_law_place","_law_first"]) (src:=[none,some 5]) (J0 K (jv 6)) (by show B8 _ _=true;rfl) (by rfl) (by rfl)
 (λ_ _ _ _ _=>(A8 (i:=0) (show(["_law_place","_law_first"]:List Str).Nodup by decide +kernel) rfl (Or.inl rfl))) (λ_ _ _ _ _=>C6) (λ_ _ _ _ _=>(P5 K (jv 1) (jv 0)))) jaN)))
 (A2 (B1 (i:=9) sc__law_vectors_right.nd rfl (Or.inl rfl) (B5 K rfl T.b_tuple (jaC (B7 (N:=["_law_place","_law_first"]) (src:=[none,some 5]) (D5 rfl T.b_range (jaC (jv 2) jaN)) (by show B8 _ _=true;rfl) (by rfl) (by rfl)
 (λ_ _ _ _ _=>(A8 (i:=0) (show(["_law_place","_law_first"]:List Str).Nodup by decide +kernel) rfl (Or.inl rfl))) (λ_ _ _ _ _=>C6) (λ_ _ _ _ _=>(a8J K hu (jv 1) (jaC (jv 0) jaN)))) jaN)))
 (A2 (Q6 (D5 rfl T.b_range (jaC A4 jaN)) (A8 (i:=10) sc__law_vectors_right.nd rfl (Or.inl rfl))
 (A2 (D8 (a1w (a7n (O7 (E8 K (A6 O__law_same (hr.mono (by omega)) rfl (jaC (A6 O_dropped (hr.mono (by omega)) rfl (jaC (jv 1) (jaC (jv 3) jaN))) (jaC (jv 4) jaN))))) (a4g (O7 (E8 K (A6 O__law_same (hr.mono (by omega)) rfl (jaC (A6 O_turned (hr.mono (by omega)) rfl (jaC (jv 1) (jaC (jv 5) jaN))) (jaC (jv 7) jaN))))))))
 (A5 (B0 Z0))
 C0)
 (A2 (D8 (O7 (E8 K (A6 O__law_same (hr.mono (by omega)) rfl (jaC (A6 O_turned (hr.mono (by omega)) rfl (jaC (jv 7) (jaC (jv 6) jaN))) (jaC (A6 O_turned (hr.mono (by omega)) rfl (jaC (jv 1) (jaC (jv 8) jaN))) jaN)))))
 (A5 (B0 Z0))
 C0)
 (A2 (D8 (O7 (E8 K (A6 O__law_same (hr.mono (by omega)) rfl (jaC (A6 O_turned (hr.mono (by omega)) rfl (jaC (jv 7) (jaC (jv 9) jaN))) (jaC (A6 O__law_once (hr.mono (by omega)) rfl (jaC (jv 1) jaN)) jaN)))))
 (A5 (B0 Z0))
 C0)
 (A5 (D8 (a1w (a7n (a2r K hu (A6 O_dropped (hr.mono (by omega)) rfl (jaC (Z4 jaN) (jaC (jv 3) jaN))) (Z4 jaN)) (a4g (a2r K hu (A6 O_turned (hr.mono (by omega)) rfl (jaC (Z4 jaN) (jaC (jv 5) jaN))) (Z4 jaN)))))
 (A5 (B0 Z0))
 C0))))))
 (A5 (B0 Z0))))))))),?_⟩
  refine⟨_,rfl,_,rfl,a,b,_,n,rfl,hP,by omega,by omega,by omega,λr1 H1 h10 h11 hP1 off1=>?_⟩;obtain⟨j,rfl⟩:∃t:Nat,r1=t:=⟨r1.toNat,by omega⟩;have tk1:Tk H H1:=Tk.pot hP off1;have hsa1:=tk1 _ _ hsa;have hI1:=tk1.its hI;clear tk1 off1 hP hsa hI;dsimp only[A9];refine⟨_,rfl,sa,rfl,⟨_,SqT.of hsa1⟩,?_⟩;refine a3u (K:=K) (n:=n) rfl hsa1 hI1 (by omega) (by omega) (by omega) hR λH2 p2 ws2 s2 hp2 hI2=>?_;have s2':=(Same.refl H2).upd (o:=.lst ws2) hp2;refine⟨p2,ws2,drp j rss,rfl,.inl A0,hI2.same s2',?_,λr hr=>?_,λq3 zs3 due H3 s3 S3 hq3 hI3=>?_⟩
  .rw[hI2.1];unfold drp;rw[List.length_map];exact Nat.le_trans (List.length_filter_le _ _) (by rw[<-hI1.1];omega)
  .obtain⟨u,hu,_,rfl⟩:=mem_drp.mp hr;rw[J7 (hR u hu) (by omega)];omega
  have s13:=(s2.trans s2').trans s3;have hsa3:=s13 _ _ hsa1;have hI3s:=hI1.same s13;have hP3:=hP1.same s13;clear s13 s3 s2' s2 hp2 hI2 hsa1 hI1 hP1;dsimp only[A9];refine⟨_,rfl,_,rfl,a,b,_,n,_,rfl,rfl,hP3,by omega,by omega,by omega,λo4 os H4 ho4 hpm4 hP4 off4=>?_⟩;have tk4:Tk H3 H4:=Tk.pot hP3 off4;refine⟨_,rfl,_,rfl,a,b,_,n,_,rfl,rfl,hP4,by omega,by omega,by omega,λo5 ts H5 ho5 hpm5 hP5 off5=>?_⟩;have tk5:Tk H4 H5:=Tk.pot hP4 off5;have tk35:=tk4.trans tk5;have hsa5:=tk35 _ _ hsa3;have hI5:=tk35.its hI3s;have hq5:=tk35 _ _ hq3;have hD5:=tk35.its hI3;have ho45:OT H5 o4 os:=tk5 _ _ ho4;clear tk35 tk5 tk4 off4 off5 hP3 hP4 hsa3 hI3s hq3 hI3 ho4;refine⟨by show 2<=sizeLine;omega,λp6 hp6=>?_⟩;have s6:=(Same.refl H5).upd (o:=.tup [.ref o4,.ref o5]) hp6;refine⟨p6,[.ref o4,.ref o5],rfl,SqT.of A0,rfl,.ref o4,[.ref o5],rfl,.ref o5,[],rfl,rfl,?_⟩;generalize upd H5 p6 (.tup [.ref o4,.ref o5])=H6 at s6;have hsa6:=s6 _ _ hsa5;have hI6:=hI5.same s6;have hq6:=s6 _ _ hq5;have hD6:=hD5.same s6;have ho46:OT H6 o4 os:=s6 _ _ ho45;have ho56:OT H6 o5 ts:=s6 _ _ ho5;have hP6:=hP5.same s6;clear s6 hsa5 hI5 hq5 hD5 ho45 ho5 hP5;have hol:=J8 hpm4;have htl:=J8 hpm5;dsimp only[A9,List.set];refine⟨_,rfl,sa,rfl,⟨_,SqT.of hsa6⟩,?_⟩;refine a5v (K:=K) (n:=n) rfl hsa6 hI6 (by omega) ho46 (by omega) (N7 hpm4) hR λH7 p7 ws7 s7 hp7 hI7=>?_;have s7':=(Same.refl H7).upd (o:=.lst ws7) hp7;refine⟨p7,ws7,rss.map (plc os),rfl,.inl A0,hI7.same s7',by rw[hI7.1,List.length_map,<-hI6.1];omega,λr hr=>?_,λq8 zs8 dt H8 s8 S8 hq8 hI8=>?_⟩
  .obtain⟨u,hu,rfl⟩:=List.mem_map.mp hr;rw[D0];omega
  have s68:=(s7.trans s7').trans s8;dsimp only[A9,List.set];refine⟨_,rfl,o5,rfl,⟨_,SqT.of (s68 _ _ ho56)⟩,?_⟩;refine a0i (caps:=[some (.ref o4)]) (λz=>V.int (os.getD z.toNat 0:Nat)) (by rw[List.length_map];omega) (λH' s=>SqT.of (s _ _ (s68 _ _ ho56))) rfl (λx H9 Q9 hx s9 q=>?_) λH9 p9 s9 hp9=>?_
  .obtain⟨k,hk,rfl⟩:=List.mem_map.mp hx;have hko:k<os.length:=by rw[hol];exact N7 hpm5 k hk
   refine⟨_,rfl,_,rfl,o4,_,_,_,rfl,rfl,SqT.of (s9 _ _ (s68 _ _ ho46)),?_,q⟩;have e:((os.map λk:Nat=>(k:Int)).map V.int)[k]?=some (.int (os.getD k 0:Nat)):=by
    rw[List.getElem?_map,List.getElem?_map,List.getElem?_eq_getElem hko,List.getD_eq_getElem?_getD,List.getElem?_eq_getElem hko];rfl
   exact Y8 e
  have e9:(((ts.map λk:Nat=>(k:Int)).map λz=>V.int (os.getD z.toNat 0:Nat)))=((ts.map λk=>os.getD k 0).map λk:Nat=>(k:Int)).map V.int:=by
   rw[List.map_map,List.map_map,List.map_map];rfl
  rw[e9];clear e9;refine⟨p9,_,rfl,.inl ⟨SqL.of A0,λp10 hp10=>?_⟩⟩;obtain⟨bs,hbs⟩:∃bs,bs=ts.map λk=>os.getD k 0:=⟨_,rfl⟩;rw[<-hbs]at hp10⊢;have s10:=(s9.upd (o:=.lst ((bs.map λk:Nat=>(k:Int)).map V.int)) hp9).upd (o:=.tup ((bs.map λk:Nat=>(k:Int)).map V.int)) hp10;have hb10:OT (upd (upd H9 p9 (.lst ((bs.map λk:Nat=>(k:Int)).map V.int))) p10 (.tup ((bs.map λk:Nat=>(k:Int)).map V.int))) p10 bs:=A0;generalize upd (upd H9 p9 (.lst ((bs.map λk:Nat=>(k:Int)).map V.int))) p10 (.tup ((bs.map λk:Nat=>(k:Int)).map V.int))=H10 at s10 hb10;clear hp10 hp9 s9 s8 s7' s7 hp7 hI7;have s6a:=s68.trans s10;have ho4a:OT H10 o4 os:=s6a _ _ ho46;dsimp only[A9,List.set];refine⟨_,rfl,_,rfl,by omega,by omega,?_⟩;rw[Int.toNat_natCast];refine a2c (caps:=[some (.ref o4)]) (λi=>V.int (os.idxOf i:Nat)) (by omega) rfl (λi H11 Q11 hi s11 q=>?_) λH11 p11 s11 hp11=>?_
  .have hk:=a0N hpm4 hi;refine⟨_,rfl,⟨o4,_,rfl,s11 _ _ ho4a⟩,_,rfl,o4,_,_,0,λt=>decide (os.getD t 0=i),os.idxOf i,rfl,rfl,s11 _ _ ho4a,by decide,λt z ez=>?_,by rw[List.length_map,List.length_map];exact hk,decide_eq_true (a1K hk),λt ht=>?_,q⟩
   .have ht:t<os.length:=by have:=(List.getElem?_eq_some_iff.mp ez).1;rwa[List.length_map,List.length_map]at this
    have e:((os.map λk:Nat=>(k:Int)).map V.int)[t]?=some (.int (os.getD t 0:Nat)):=by
     rw[List.getElem?_map,List.getElem?_map,List.getElem?_eq_getElem ht,List.getD_eq_getElem?_getD,List.getElem?_eq_getElem ht];rfl
    rw[e]at ez;cases ez;have:=EqV.flat (K:=K) (H:=H11) (n:=0) (x:=.int (os.getD t 0:Nat)) (y:=.int i) rfl rfl;rw[show eqV (.int (os.getD t 0:Nat)) (.int i)=decide (os.getD t 0=i) by
     show decide (((os.getD t 0:Nat):Int)=(i:Int))=_;exact decide_eq_decide.mpr ⟨λh=>by omega,λh=>by omega⟩]at this
    exact this
   .refine decide_eq_false λe=>?_;have ht':t<os.length:=Nat.lt_trans ht hk;rw[List.getD_eq_getElem?_getD,List.getElem?_eq_getElem ht']at e;have e:os[t]=i:=e;have h2:os.idxOf os[t]=t:=List.Nodup.idxOf_getElem (hpm4.symm.nodup List.nodup_range) t ht';rw[e]at h2;omega
  have e11:((List.range n).map λi=>V.int (os.idxOf i:Nat))=((bck os n).map λk:Nat=>(k:Int)).map V.int:=by
   unfold bck;rw[List.map_map,List.map_map];rfl
  rw[e11];clear e11;refine⟨p11,_,rfl,.inl ⟨SqL.of A0,λp12 hp12=>?_⟩⟩;have s12:=(s11.upd (o:=.lst (((bck os n).map λk:Nat=>(k:Int)).map V.int)) hp11).upd (o:=.tup (((bck os n).map λk:Nat=>(k:Int)).map V.int)) hp12;have hc12:OT (upd (upd H11 p11 (.lst (((bck os n).map λk:Nat=>(k:Int)).map V.int))) p12 (.tup (((bck os n).map λk:Nat=>(k:Int)).map V.int))) p12 (bck os n):=A0;generalize upd (upd H11 p11 (.lst (((bck os n).map λk:Nat=>(k:Int)).map V.int))) p12 (.tup (((bck os n).map λk:Nat=>(k:Int)).map V.int))=H12 at s12 hc12;have s6c:=s6a.trans s12;have s8c:=s10.trans s12;have hsaC:=s6c _ _ hsa6;have hIC:=hI6.same s6c;have hqC:=s6c _ _ hq6;have hDC:=hD6.same s6c;have hoC:OT H12 o4 os:=s6c _ _ ho46;have htC:OT H12 o5 ts:=s6c _ _ ho56;have hbC:OT H12 p10 bs:=s12 _ _ hb10;have hPC:=hP6.same s6c;have hq8C:=s8c _ _ hq8;have hI8C:=hI8.same s8c;clear s6c s8c s6a s10 s12 s68 hp11 hp12 s11 hsa6 hI6 hq6 hD6 ho46 ho56 hb10 hP6 hq8 hI8 ho4a;generalize H12=G at *;have hdl:due.length<=1000:=by have:=S3.len;unfold drp at this;rw[List.length_map]at this;have h2:=List.length_filter_le (λr:List Int=>decide (r.getD j 0=0)) rss;rw[<-hIC.1]at h2;omega
  have hdr:∀r∈due,r.length<=1000:=λr hr=>by
   obtain⟨u,hu,_,rfl⟩:=mem_drp.mp ((S3.mem r).mp hr);rw[J7 (hR u hu) (by omega)];omega
  have hdt:∀r∈dt,r.length=n:=λr hr=>by
   obtain⟨u,hu,rfl⟩:=List.mem_map.mp ((S8.mem r).mp hr);rw[D0,hol]
  have hdtl:dt.length<=1000:=by have:=S8.len;rw[List.length_map,<-hIC.1]at this;omega
  have hbl:bs.length=n:=by rw[hbs,List.length_map,htl]
  have hblt:∀k∈bs,k<n:=λk hk=>by
   rw[hbs]at hk;obtain⟨t,ht,rfl⟩:=List.mem_map.mp hk;have h1:t<os.length:=by rw[hol];exact N7 hpm5 t ht
   rw[List.getD_eq_getElem?_getD,List.getElem?_eq_getElem h1];exact N7 hpm4 _ (List.getElem_mem h1)
  have hclt:∀k∈bck os n,k<n:=λk hk=>by
   obtain⟨t,ht,rfl⟩:=List.mem_map.mp hk;rw[<-hol];exact a0N hpm4 (List.mem_range.mp ht)
  dsimp only[A9,List.set];refine⟨_,rfl,by decide,by decide,?_⟩;refine X8 (lo:=0) (n:=2) (λi σ H'=>Ex1 λo10=>An2 (σ=[some (.ref a),some (.ref sa),some (.int n),some (.int j),some (.ref q3),some (.ref o4),some (.ref o5),some (.ref q8),some (.ref p10),some (.ref p12),o10]) (Same G H')) ⟨none,rfl,Same.refl G⟩ ?_ ?_
  .rintro i σ H1 hi ⟨o10,rfl,s1⟩;clear kk;dsimp only[A9,List.set];refine⟨_,rfl,_,rfl,sa,us,rss,j,n,rfl,s1 _ _ hsaC,hIC.same s1,by omega,by omega,by omega,by omega,hR,λq2 ws2 srt2 H2 s2 S2 hq2 hI2=>?_⟩;cases S2.eq S3;have s2:=s1.trans s2;refine⟨_,rfl,_,_,rfl,SD.its hq2 (s2 _ _ hqC) hI2 (hDC.same s2) hdl hdr,λH3 s3=>?_⟩;have s3:=s2.trans s3;clear s2 hq2 hI2;refine⟨_,rfl,E5 ?_⟩;refine⟨_,rfl,_,rfl,sa,o4,us,rss,os,rfl,s3 _ _ hsaC,hIC.same s3,by omega,s3 _ _ hoC,by omega,by omega,λr hr k hk=>by rw[hR r hr];exact N7 hpm4 k hk,λq4 ws4 srt4 H4 s4 S4 hq4 hI4=>?_⟩;cases S4.eq S8;have s4:=s3.trans s4;refine⟨_,rfl,_,_,rfl,SD.its hq4 (s4 _ _ hq8C) hI4 (hI8C.same s4) hdtl (λr hr=>by rw[hdt r hr];omega),λH5 s5=>⟨_,rfl,E5 ?_⟩⟩;have s5:=s4.trans s5;clear s1 s3 s4 hq4 hI4;refine⟨_,rfl,_,rfl,q8,o5,zs8,dt,ts,rfl,s5 _ _ hq8C,hI8C.same s5,by rw[hI8C.1];exact hdtl,s5 _ _ htC,by omega,by omega,λr hr k hk=>by rw[hdt r hr];exact N7 hpm5 k hk,λq6 ws6 srt6 H6 s6 S6 hq6 hI6=>?_⟩;have s56:=s5.trans s6;refine⟨_,rfl,_,rfl,sa,p10,us,rss,bs,rfl,s56 _ _ hsaC,hIC.same s56,by omega,s56 _ _ hbC,by omega,by omega,λr hr k hk=>by rw[hR r hr];exact hblt k hk,λq7 ws7 srt7 H7 s7 S7 hq7 hI7=>?_⟩;have s57:=s56.trans s7;have hcong:∀r,r∈dt.map (plc ts)↔r∈rss.map (plc bs):=λr=>by
    constructor
    .intro h;obtain⟨u,hu,rfl⟩:=List.mem_map.mp h;obtain⟨x,hx,rfl⟩:=List.mem_map.mp ((S8.mem u).mp hu);rw[a7f (λk hk=>by rw[hol];exact N7 hpm5 k hk),<-hbs];exact List.mem_map.mpr ⟨x,hx,rfl⟩
    .intro h;obtain⟨x,hx,rfl⟩:=List.mem_map.mp h;rw[hbs,<-a7f (λk hk=>by rw[hol];exact N7 hpm5 k hk)];exact List.mem_map.mpr ⟨_,(S8.mem _).mpr (List.mem_map.mpr ⟨x,hx,rfl⟩),rfl⟩
   cases(S6.congr hcong).eq S7;refine⟨_,_,rfl,SD.its (s7 _ _ hq6) hq7 (hI6.same s7) hI7 (by have:=S7.len;rw[List.length_map,<-hIC.1]at this;omega) (λr hr=>?_),λH8 s8=>⟨_,rfl,E5 ?_⟩⟩
   .obtain⟨x,hx,rfl⟩:=List.mem_map.mp ((S7.mem r).mp hr);rw[D0];omega
   have s58:=s57.trans s8;clear s5 s6 s56 s7 s57 hq6 hI6 hq7 hI7 s8 hcong;refine⟨_,rfl,_,rfl,q8,p12,zs8,dt,bck os n,rfl,s58 _ _ hq8C,hI8C.same s58,by rw[hI8C.1];exact hdtl,s58 _ _ hc12,by rw[a0C];omega,by rw[a0C];omega,λr hr k hk=>by rw[hdt r hr];exact hclt k hk,λq9 ws9 srt9 H9 s9 S9 hq9 hI9=>?_⟩;have s59:=s58.trans s9;refine⟨_,rfl,sa,us,rss,rfl,.inr (s59 _ _ hsaC),hIC.same s59,by omega,λr hr=>by rw[hR r hr];omega,λq10 ws10 srt10 H10 s10 S10 hq10 hI10=>?_⟩;have hcong:∀r,r∈dt.map (plc (bck os n))↔r∈rss:=λr=>by
    constructor
    .intro h;obtain⟨u,hu,rfl⟩:=List.mem_map.mp h;obtain⟨x,hx,rfl⟩:=List.mem_map.mp ((S8.mem u).mp hu);rw[a0r hpm4 (hR x hx)];exact hx
    .intro h;exact List.mem_map.mpr ⟨plc os r,(S8.mem _).mpr (List.mem_map.mpr ⟨r,h,rfl⟩),a0r hpm4 (hR r h)⟩
   cases(S9.congr hcong).eq S10;refine⟨_,_,rfl,SD.its (s10 _ _ hq9) hq10 (hI9.same s10) hI10 (by have:=S10.len;rw[<-hIC.1]at this;omega) (λr hr=>by rw[hR r ((S10.mem r).mp hr)];omega),λH11 s11=>⟨_,rfl,E5 ?_⟩⟩;have s60:=(s59.trans s10).trans s11;clear s58 s9 s59 s10 hq9 hI9 hq10 hI10 hcong s11;refine⟨Nat.zero_le _,λp13 hp13=>?_⟩;have s13:=s60.upd (o:=.tup []) hp13;refine⟨_,rfl,p13,[],[],j,n,rfl,A0,Its.nil,Nat.zero_le _,by omega,by omega,by omega,(λ_ z=>nomatch z),λq14 ws14 srt14 H14 s14 S14 hq14 hI14=>?_⟩;cases S14.eq Srt.nil;have s14:=s13.trans s14;refine⟨Nat.zero_le _,λp15 hp15=>?_⟩;have s15':=(Same.refl H14).upd (o:=.tup []) hp15;have s15:=s14.trans s15';refine⟨2,_,by decide,EqV.its (k:=true) (SqT.of (s15' _ _ hq14)) (SqT.of A0) (hI14.same s15') Its.nil,⟨_,_,rfl,rfl⟩,_,rfl,E5 ?_⟩;generalize upd H14 p15 (.tup [])=H15 at s15 s15';clear s13 s14 s15' hq14 hI14;refine⟨Nat.zero_le _,λp16 hp16=>?_⟩;have s16:=s15.upd (o:=.tup []) hp16;refine⟨_,rfl,p16,o4,[],[],os,rfl,A0,Its.nil,Nat.zero_le _,s16 _ _ hoC,by omega,by omega,(λ_ z=>nomatch z),λq17 ws17 srt17 H17 s17 S17 hq17 hI17=>?_⟩;cases S17.eq Srt.nil;have s17:=s16.trans s17;refine⟨Nat.zero_le _,λp18 hp18=>?_⟩;have s18':=(Same.refl H17).upd (o:=.tup []) hp18;have s18:=s17.trans s18';refine⟨2,_,by decide,EqV.its (k:=true) (SqT.of (s18' _ _ hq17)) (SqT.of A0) (hI17.same s18') Its.nil,⟨_,_,rfl,rfl⟩,_,rfl,E5 ?_⟩;exact⟨_,rfl,s18⟩
  .rintro σ H1 ⟨o10,rfl,s1⟩;exact kk _ ((hPC.same s1).mono (by omega))
end
end K37
namespace K37
open PySem PySem.Spec PyProof.Rows L2
theorem a9A{a b:List Int}(h:a.Perm b):a.sum=b.sum:=by
 induction h with
 |nil=>rfl
 |cons x _ ih=>rw[List.sum_cons,List.sum_cons,ih]
 |swap x y l=>rw[List.sum_cons,List.sum_cons,List.sum_cons,List.sum_cons];omega
 |trans _ _ i1 i2=>exact i1.trans i2
theorem a3Y{n:Nat}{xs:List Int}(h:xs.length=n):plc (List.range n) xs=xs:=by
 refine a4n (by rw[D0,List.length_range,h]) λk hk=>?_;rw[h]at hk;rw[N8 (by rw[List.length_range];exact hk),List.getD_eq_getElem?_getD (l:=List.range n),List.getElem?_range hk];rfl
theorem a7B{os:List Nat}{a b:List Int}:dot (plc os a) (plc os b)=(os.map λk=>a.getD k 0*b.getD k 0).sum:=by
 unfold dot plc;induction os with
 |nil=>rfl
 |cons k os ih=>rw[List.map_cons,List.map_cons,List.map_cons,List.zipWith_cons_cons,List.sum_cons,List.sum_cons,ih]
theorem b1E{os:List Nat}{n:Nat}{a b:List Int}(h:os.Perm (List.range n))(ha:a.length=n)(hb:b.length=n):dot (plc os a) (plc os b)=dot a b:=by
 have e:dot a b=dot (plc (List.range n) a) (plc (List.range n) b):=by rw[a3Y ha,a3Y hb]
 rw[e,a7B,a7B];exact a9A (h.map _)
theorem b2i{os:List Nat}{n:Nat}{a:List Int}(h:os.Perm (List.range n))(ha:a.length=n):(plc os a).sum=a.sum:=by
 have e:a.sum=(plc (List.range n) a).sum:=by rw[a3Y ha]
 rw[e];exact a9A (h.map _)
theorem a6z{os:List Nat}{n:Nat}(h:os.Perm (List.range n)):(bck os n).Perm (List.range n):=by
 have h1:(bck os n).Nodup:=by
  unfold bck;refine List.pairwise_map.mpr (List.nodup_range.imp_of_mem λ{x y} hx hy ne e=>ne ?_);have h1:=a1K (a0N h (List.mem_range.mp hx));have h2:=a1K (a0N h (List.mem_range.mp hy));rw[<-h1,<-h2,e]
 refine(List.perm_ext_iff_of_nodup h1 List.nodup_range).mpr λk=>⟨λhk=>?_,λhk=>?_⟩
 .obtain⟨t,ht,rfl⟩:=List.mem_map.mp hk;have:=a0N h (List.mem_range.mp ht);rw[J8 h]at this;exact List.mem_range.mpr this
 .have hk:k<n:=List.mem_range.mp hk;have hko:k<os.length:=by rw[J8 h];exact hk
  exact List.mem_map.mpr ⟨os[k],h.mem_iff.mp (List.getElem_mem hko),List.Nodup.idxOf_getElem (h.symm.nodup List.nodup_range) k hko⟩
theorem b5E{os:List Nat}{n:Nat}{rss:LLI}{v:List Int}(h:os.Perm (List.range n))(hR:∀r∈rss,r.length=n)(hv:v.length=n):Ans (rss.map (plc os)) (plc os v)=Ans rss v:=by
 unfold Ans;rw[Bool.eq_iff_iff,List.all_eq_true,List.all_eq_true];constructor
 .intro q r hr;have:=q _ (List.mem_map.mpr ⟨r,hr,rfl⟩);rwa[b1E h (hR r hr) hv]at this
 .intro q r hr;obtain⟨u,hu,rfl⟩:=List.mem_map.mp hr;rw[b1E h (hR u hu) hv];exact q u hu
theorem a3E{os:List Nat}{n:Nat}{rss:LLI}{v:List Int}(h:os.Perm (List.range n))(hR:∀r∈rss,r.length=n)(g:Answer rss n v):Answer (rss.map (plc os)) n (plc os v):=by
 refine⟨by rw[D0,J8 h],λx hx=>?_,by rw[b5E h hR g.len];exact g.ans,by rw[b2i h g.len];exact g.pos⟩;obtain⟨k,hk,rfl⟩:=List.mem_map.mp hx;have hk:k<v.length:=by rw[g.len];exact N7 h k hk
 rw[List.getD_eq_getElem?_getD,List.getElem?_eq_getElem hk];exact g.nn _ (List.getElem_mem hk)
theorem a9s{os:List Nat}{n:Nat}{u v:List Int}(h:os.Perm (List.range n))(hv:v.length=n)(g:Under u v):Under (plc os u) (plc os v):=by
 refine⟨by rw[D0,D0],λj hj=>?_⟩;rw[D0]at hj;rw[N8 hj,N8 hj];refine g.2 _ ?_;rw[List.getD_eq_getElem?_getD,List.getElem?_eq_getElem hj,hv];exact N7 h _ (List.getElem_mem hj)
theorem a9o{n:Nat}{v:List Int}(hl:v.length=n):Wi (List.replicate n none) v=true:=by
 unfold Wi;rw[List.all_eq_true];intro x hx;obtain⟨i,hi,rfl⟩:=List.mem_iff_getElem.mp hx;rw[List.getElem_zipWith,List.getElem_replicate];rfl
theorem a3k{os:List Nat}{n:Nat}{rss:LLI}{v:List Int}(h:os.Perm (List.range n))(hR:∀r∈rss,r.length=n)(g:Least rss (List.replicate n none) v):Least (rss.map (plc os)) (List.replicate n none) (plc os v):=by
 have ga:=g.an;have gm:=g.min;rw[List.length_replicate]at ga gm;have e:∀x:LLI,(∀r∈x,r.length=n)->(x.map (plc os)).map (plc (bck os n))=x:=λx hx=>by
  rw[List.map_map]
  conv=>rhs;rw[<-List.map_id x]
  exact List.map_congr_left λr hr=>a0r h (hx r hr)
 refine⟨by rw[List.length_replicate];exact a3E h hR ga,a9o (by rw[D0,J8 h]),λu hu hU=>?_⟩;rw[List.length_replicate]at hu;have h1:=a3E (a6z h) (λr hr=>by obtain⟨x,hx,rfl⟩:=List.mem_map.mp hr;rw[D0,J8 h]) hu;rw[e rss hR]at h1;have h2:=a9s (a6z h) (by rw[D0,J8 h]) hU;rw[a0r h ga.len]at h2;rw[<-gm _ h1 h2,a7L h hu.len]
theorem b0Q{os:List Nat}{n:Nat}{rss:LLI}(h:os.Perm (List.range n))(hR:∀r∈rss,r.length=n)(v:List Int):Least (rss.map (plc os)) (List.replicate n none) v↔∃r,Least rss (List.replicate n none) r/\plc os r=v:=by
 constructor
 .intro g;have hl:v.length=n:=by have:=g.an.len;rwa[List.length_replicate]at this
  have g2:=a3k (a6z h) (λr hr=>by obtain⟨x,hx,rfl⟩:=List.mem_map.mp hr;rw[D0,J8 h]) g;rw[List.map_map,show rss.map (plc (bck os n) ∘ plc os)=rss by
   conv=>rhs;rw[<-List.map_id rss]
   exact List.map_congr_left λr hr=>a0r h (hR r hr)]at g2
  exact⟨_,g2,a7L h hl⟩
 .rintro⟨r,g,rfl⟩;exact a3k h hR g
def ins(j:Nat)(y:List Int):List Int:=y.take j++0::y.drop j
theorem a4q:∀(a b c d:List Int),a.length=c.length->dot (a++b) (c++d)=dot a c+dot b d
 |[],b,[],d,_=>by rw[b1F];simp
 |x::a,b,y::c,d,h=>by
  rw[List.cons_append,List.cons_append,a0z,a0z,a4q a b c d (by simpa using h)];omega
theorem P6{j n:Nat}{r:List Int}(hl:r.length=n)(hj:j<n):r=r.take j++r.getD j 0::r.drop (j+1):=by
 have h:j<r.length:=by omega
 rw[List.getD_eq_getElem?_getD,List.getElem?_eq_getElem h];show r=r.take j++r[j]::r.drop (j+1);rw[<-List.drop_eq_getElem_cons h,List.take_append_drop]
theorem a7C{j n:Nat}{r v:List Int}(hr:r.length=n)(hv:v.length=n)(hj:j<n)(h0:v.getD j 0=0):dot (era j r) (era j v)=dot r v:=by
 conv=>rhs;rw[P6 hr hj,P6 hv hj,h0]
 unfold era;rw[a4q _ _ _ _ (by rw[List.length_take,List.length_take,hr,hv]),a4q _ _ _ _ (by rw[List.length_take,List.length_take,hr,hv]),a0z];omega
theorem a6N{j n:Nat}{v:List Int}(hv:v.length=n)(hj:j<n)(h0:v.getD j 0=0):(era j v).sum=v.sum:=by
 conv=>rhs;rw[P6 hv hj,h0]
 unfold era;rw[List.sum_append,List.sum_append,List.sum_cons];omega
theorem a7v{j n:Nat}{y:List Int}(hy:y.length=n-1)(hj:j<n):(ins j y).length=n:=by
 unfold ins;rw[List.length_append,List.length_cons,List.length_take,List.length_drop];omega
theorem a6j{j n:Nat}{y:List Int}(hy:y.length=n-1)(hj:j<n):(ins j y).getD j 0=0:=by
 unfold ins;have e:(y.take j).length=j:=by rw[List.length_take];omega
 rw[List.getD_eq_getElem?_getD,List.getElem?_append_right (by omega),e,Nat.sub_self];rfl
theorem a4p{j n:Nat}{y:List Int}(hy:y.length=n-1)(hj:j<n):era j (ins j y)=y:=by
 unfold era ins;have e:(y.take j).length=j:=by rw[List.length_take];omega
 rw[List.take_append_of_le_length (by omega),List.take_take,Nat.min_self,List.drop_append,e,List.drop_of_length_le (by omega),List.nil_append,show j+1-j=1 by omega,List.drop_succ_cons,List.drop_zero,List.take_append_drop]
theorem a7w{j n:Nat}{v:List Int}(hv:v.length=n)(hj:j<n)(h0:v.getD j 0=0):ins j (era j v)=v:=by
 conv=>rhs;rw[P6 hv hj,h0]
 unfold era ins;have e:(v.take j).length=j:=by rw[List.length_take];omega
 rw[List.take_append_of_le_length (by omega),List.take_take,Nat.min_self,List.drop_append,e,List.drop_of_length_le (by omega),List.nil_append,Nat.sub_self,List.drop_zero]
theorem a7Q{j n:Nat}{rss:LLI}{v:List Int}(hR:∀r∈rss,r.length=n)(hv:v.length=n)(hj:j<n)(h0:v.getD j 0=0):Ans (rss.map (era j)) (era j v)=Ans rss v:=by
 unfold Ans;rw[Bool.eq_iff_iff,List.all_eq_true,List.all_eq_true];constructor
 .intro q r hr;have:=q _ (List.mem_map.mpr ⟨r,hr,rfl⟩);rwa[a7C (hR r hr) hv hj h0]at this
 .intro q r hr;obtain⟨u,hu,rfl⟩:=List.mem_map.mp hr;rw[a7C (hR u hu) hv hj h0];exact q u hu
theorem a7k{j n:Nat}{v:List Int}(hv:v.length=n)(hj:j<n)(x:Int):x∈v↔x∈era j v∨x=v.getD j 0:=by
 conv=>lhs;rw[P6 hv hj]
 unfold era;rw[List.mem_append,List.mem_append,List.mem_cons];exact⟨λh=>h.elim (λh=>.inl (.inl h)) λh=>h.elim .inr λh=>.inl (.inr h),λh=>h.elim (λh=>h.elim .inl λh=>.inr (.inr h)) λh=>.inr (.inl h)⟩
theorem R8{j n:Nat}{rss:LLI}{v:List Int}(hR:∀r∈rss,r.length=n)(hj:j<n)(hv:v.length=n)(h0:v.getD j 0=0):Answer (rss.map (era j)) (n-1) (era j v)↔Answer rss n v:=by
 constructor
 .intro g;exact⟨hv,λx hx=>((a7k hv hj x).mp hx).elim (g.nn x) λh=>by omega,by rw[<-a7Q hR hv hj h0];exact g.ans,by rw[<-a6N hv hj h0];exact g.pos⟩
 .intro g;exact⟨J7 hv hj,λx hx=>g.nn x ((a7k hv hj x).mpr (.inl hx)),by rw[a7Q hR hv hj h0];exact g.ans,by rw[a6N hv hj h0];exact g.pos⟩
theorem X9{j n:Nat}{v:List Int}(hv:v.length=n)(hj:j<n)(k:Nat):(era j v).getD k 0=if k<j then v.getD k 0 else v.getD (k+1) 0:=by
 unfold era;have e:(v.take j).length=j:=by rw[List.length_take];omega
 rw[List.getD_eq_getElem?_getD];by_cases h:k<j
 .rw[if_pos h,List.getElem?_append_left (by omega),List.getElem?_take,if_pos h,List.getD_eq_getElem?_getD]
 .rw[if_neg h,List.getElem?_append_right (by omega),e,List.getElem?_drop,List.getD_eq_getElem?_getD,show j+1+(k-j)=k+1 by omega]
theorem a2Y{j n:Nat}{u v:List Int}(hu:u.length=n)(hv:v.length=n)(hj:j<n)(h0:u.getD j 0=0)(h1:v.getD j 0=0):Under (era j u) (era j v)↔Under u v:=by
 constructor
 .intro g;refine⟨by omega,λk hk=>?_⟩;rw[hv]at hk;have hl:=J7 hv hj;by_cases e:k=j
  .rw[e,h0,h1];exact Int.le_refl _
  by_cases e2:k<j
  .have:=g.2 k (by omega);rwa[X9 hu hj,X9 hv hj,if_pos e2,if_pos e2]at this
  .have:=g.2 (k-1) (by omega);rwa[X9 hu hj,X9 hv hj,if_neg (by omega),if_neg (by omega),Nat.sub_add_cancel (by omega)]at this
 .intro g;refine⟨by rw[J7 hu hj,J7 hv hj],λk hk=>?_⟩;rw[J7 hv hj]at hk;rw[X9 hu hj,X9 hv hj];split
  .exact g.2 k (by omega)
  .exact g.2 (k+1) (by omega)
theorem a2o{j n:Nat}{rss:LLI}{v:List Int}(hR:∀r∈rss,r.length=n)(hj:j<n)(hv:v.length=n)(h0:v.getD j 0=0):Least (rss.map (era j)) (List.replicate (n-1) none) (era j v)↔Least rss (List.replicate n none) v:=by
 constructor
 .intro g;have ga:=g.an;have gm:=g.min;rw[List.length_replicate]at ga gm;refine⟨by rw[List.length_replicate];exact(R8 hR hj hv h0).mp ga,a9o hv,λu hu hU=>?_⟩;rw[List.length_replicate]at hu;have hu0:u.getD j 0=0:=by
   have h1:=hU.2 j (by omega);have hju:j<u.length:=by rw[hu.len];exact hj
   have h2:0<=u.getD j 0:=by rw[List.getD_eq_getElem?_getD,List.getElem?_eq_getElem hju];exact hu.nn _ (List.getElem_mem hju)
   omega
  have:=gm _ ((R8 hR hj hu.len hu0).mpr hu) ((a2Y hu.len hv hj hu0 h0).mpr hU);rw[<-a7w hu.len hj hu0,this,a7w hv hj h0]
 .intro g;have ga:=g.an;have gm:=g.min;rw[List.length_replicate]at ga gm;refine⟨by rw[List.length_replicate];exact(R8 hR hj hv h0).mpr ga,a9o (J7 hv hj),λy hy hU=>?_⟩;rw[List.length_replicate]at hy;have hl:=a7v hy.len hj;have ha:=a6j hy.len hj;have he:=a4p hy.len hj;rw[<-he]at hy hU;have:=gm _ ((R8 hR hj hl ha).mp hy) ((a2Y hl hv hj ha h0).mp hU);rw[<-this,he]
theorem a8F{j n:Nat}{rss:LLI}(hR:∀r∈rss,r.length=n)(hj:j<n)(v:List Int):Least (rss.map (era j)) (List.replicate (n-1) none) v↔∃r,Least rss (List.replicate n none) r/\r.getD j 0=0/\era j r=v:=by
 constructor
 .intro g;have hl:v.length=n-1:=by have:=g.an.len;rwa[List.length_replicate]at this
  refine⟨ins j v,?_,a6j hl hj,a4p hl hj⟩;refine(a2o hR hj (a7v hl hj) (a6j hl hj)).mp ?_;rw[a4p hl hj];exact g
 .rintro⟨r,g,h0,rfl⟩;exact(a2o hR hj (by have:=g.an.len;rwa[List.length_replicate]at this) h0).mpr g
section
variable {P:Program}{w:World}{K:PySem.W.Frag}{mg:Str->Option Value}{base:Heap}
theorem b1I{src:List (Option Nat)}{σ:L2.St}{Q:VK}{a:Addr}{us:List V}{tss:LLI}{j n:Nat}{H:Hp}(hsrc:B2 src σ=[none,some (.int j)])(ha:H a=some (.tup us))(hI:Its H us tss)(hul:us.length<=1000)(hn:n<=100)(hj:j<n)(hl:∀v∈tss,v.length=n)(hd:∀H1 p ws,Same H H1->H1 p=none->Its H1 ws (tss.map (era j))->Q (.ref p) (upd H1 p (.lst ws))) :
  E4 src (A9 0) M4 (tOp a0K (tSl (a3X K) (G2 0) K2 (a1g (G2 1))) (tSl (a3X K) (G2 0) (a1g (tOp (rI0 λi j=>V.int (i+j)) (G2 1) (tC (V.int 1)))) K2)) σ Q (Itt K a) H:=by
 have hz:(3000:Nat)<=sizeLine:=by rw[sizeLine_eq];decide
 refine a1R (caps:=[some (.int j)]) (era j) (by omega) (λH' s=>SqT.of (s _ _ ha)) hI hsrc (λv r H1 Q1 hr hv s1 q=>?_) hd;obtain⟨xa,rfl,hx1⟩:=hv;have hrl:=hl r hr;refine⟨_,rfl,_,rfl,(j:Int),rfl,xa,_,rfl,SqT.of hx1,?_,λp3 hp3=>?_⟩
 .rw[HT.sIx_none,HT.sIx_nat,List.length_map];omega
 rw[a6o r j (by omega)];have s3:=(Same.refl H1).upd (o:=.tup ((r.take j).map V.int)) hp3;have e3:upd H1 p3 (.tup ((r.take j).map V.int)) p3=some (.tup ((r.take j).map V.int)):=A0;generalize upd H1 p3 (.tup ((r.take j).map V.int))=H3 at s3 e3;have ej:((j:Int)+1)=((j+1:Nat):Int):=by push_cast;rfl
 refine⟨_,rfl,_,rfl,_,_,rfl,rfl,((j:Int)+1),rfl,xa,_,rfl,SqT.of (s3 _ _ hx1),?_,λp4 hp4=>?_⟩
 .rw[ej,HT.sIx_nat,List.length_map];omega
 rw[ej,a6p r (j+1) (by omega)];have s4:=(Same.refl H3).upd (o:=.tup ((r.drop (j+1)).map V.int)) hp4;refine⟨p3,p4,_,_,rfl,rfl,s4 _ _ e3,A0,by rw[List.length_map,List.length_map,List.length_take,List.length_drop];omega,λp5 H5 s5 e5=>?_⟩;exact q _ _ ((s3.trans s4).trans s5) ⟨p5,rfl,by rw[e5,<-List.map_append];rfl⟩
def LLv(H:Hp)(f:V)(rss:LLI)(n:Nat):Prop:=f=.non∨∃t zs tss,f=.ref t/\H t=some (.tup zs)/\Its H zs tss/\tss.length<=100/\G0 tss/\tss.Nodup/\∀v,v∈tss↔Least rss (List.replicate n none) v
theorem LLv.same{H H':Hp}{f:V}{rss:LLI}{n:Nat}(s:Same H H')(h:LLv H f rss n):LLv H' f rss n:=h.imp id λ⟨t,zs,tss,h1,h2,h3,h4⟩=>⟨t,zs,tss,h1,s _ _ h2,h3.same s,h4⟩
theorem b3A{j:Nat}{r:List Int}{z:Int}(h:z∈era j r):z∈r:=(List.mem_append.mp h).elim List.mem_of_mem_take List.mem_of_mem_drop
theorem b2G{os:List Nat}{r:List Int}{z:Int}(ho:∀k∈os,k<r.length)(h:z∈plc os r):z∈r:=by
 obtain⟨k,hk,rfl⟩:=List.mem_map.mp h;rw[List.getD_eq_getElem?_getD,List.getElem?_eq_getElem (ho k hk)];exact List.getElem_mem (ho k hk)
inductive IspSR(vs:List V)(H:Hp)(Q:VK)(E:XK):Prop
 |mk (a b ra:Addr) (us:List V) (rss:LLI) (m n:Nat) (wi:Int) (_:vs=[.ref a,.ref ra,.int wi]) (_:wi=n) (_:PotAt H a b m) (_:m+500<2 ^ 60) (_:H ra=some (.tup us)) (_:Its H us rss) (_:us.length<=6) (_:(∀r∈rss,r.length=n/\∀z∈r,-10000000000000<=z/\z<=10000000000000)) (_:2<=n) (_:n<=8) (_:∀H',Q (.bl true) H'):IspSR  vs H Q E
def b5Y:Sp:=λvs H Q E=>IspSR  vs H Q E
theorem sc__law_system_right:FnScope ["_law_pot_here","_law_rows","_law_width","_law_told","_law_j","_law_order_here","_law_fewer","_law_other"] ["_law_pot_here","_law_rows","_law_width"] (A3 C7):=⟨rfl,rfl,rfl,by decide +kernel,rfl,by decide +kernel,by decide +kernel⟩
theorem a8x(F':FunAt K mg "_law_system_right" C7 ["_law_pot_here","_law_rows","_law_width"])(T:Tx mg)(O__law_take:Ok P w K mg base "_law_take" 1 ["_law_pot_here","_law_many"] U0)(O__law_least_of:Ok P w K mg base "_law_least_of" 8 ["_law_rows","_law_width"] b3U)(O__law_order:Ok P w K mg base "_law_order" 2 ["_law_pot_here","_law_width"] a3O)(O_dropped:Ok P w K mg base "dropped" 2 ["told","j"] a5N)(O_turned:Ok P w K mg base "turned" 2 ["told","order"] a1V)(O__law_same:Ok P w K mg base "_law_same" 4 ["_law_found","_law_due"] (a5M 3)):Ok P w K mg base "_law_system_right" 9 ["_law_pot_here","_law_rows","_law_width"] b5Y:=by
 refine F'.okJ sc__law_system_right (λvs H Q E h=>?_) (λcdv f A outer s H vs Q E hr h=>?_)
 .obtain⟨a,b,ra,us,rss,m,n,wi,rfl,_⟩:=h;rfl
 .obtain⟨a,b,ra,us,rss,m,n,_,rfl,rfl,hP,hm,hra,hI,hul,hRB,n2,n8,kk⟩:=h;have hz:(3000:Nat)<=sizeLine:=by rw[sizeLine_eq];decide
  have hu:=hr.u60;have hR:∀r∈rss,r.length=n:=λr hr=>(hRB r hr).1;refine⟨_,(A2 (B1 (i:=3) sc__law_system_right.nd rfl (Or.inl rfl) (A6 O__law_least_of (hr.mono (by omega)) rfl (jaC (jv 1) (jaC (jv 2) jaN))))
 (A2 (D8 (b0X (jv 3) a0v)
 (A5 (B0 Z0))
 C0)
 (A2 (B1 (i:=4) sc__law_system_right.nd rfl (Or.inr rfl) (A6 O__law_take (hr.mono (by omega)) rfl (jaC (jv 0) (jaC (jv 2) jaN))))
 (A2 (B1 (i:=5) sc__law_system_right.nd rfl (Or.inr rfl) (A6 O__law_order (hr.mono (by omega)) rfl (jaC (jv 0) (jaC (jv 2) jaN))))
 (A2 (B1 (i:=6) sc__law_system_right.nd rfl (Or.inl rfl) (A6 O__law_least_of (hr.mono (by omega)) rfl (jaC (B5 K rfl T.b_tuple (jaC (B7 (N:=["_law_row","_law_j"]) (src:=[none,some 4]) (J0 K (jv 1)) (by show B8 _ _=true;rfl) (by rfl) (by rfl)
 (λ_ _ _ _ _=>(A8 (i:=0) (show(["_law_row","_law_j"]:List Str).Nodup by decide +kernel) rfl (Or.inl rfl))) (λ_ _ _ _ _=>C6) (λ_ _ _ _ _=>(a0u (a1o K (jv 0) I0 (G9 (jv 1))) (a1o K (jv 0) (G9 (L9 (jv 1) A4)) I0)))) jaN)) (jaC (a5p (jv 2) A4) jaN))))
 (A2 (B1 (i:=7) sc__law_system_right.nd rfl (Or.inl rfl) (A6 O__law_least_of (hr.mono (by omega)) rfl (jaC (B5 K rfl T.b_tuple (jaC (B7 (N:=["_law_row","_law_order_here"]) (src:=[none,some 5]) (J0 K (jv 1)) (by show B8 _ _=true;rfl) (by rfl) (by rfl)
 (λ_ _ _ _ _=>(A8 (i:=0) (show(["_law_row","_law_order_here"]:List Str).Nodup by decide +kernel) rfl (Or.inr rfl))) (λ_ _ _ _ _=>C6) (λ_ _ _ _ _=>(B5 K rfl T.b_tuple (jaC (B7 (N:=["_law_place","_law_row"]) (src:=[none,some 0]) (J0 K (jv 1)) (by show B8 _ _=true;rfl) (by rfl) (by rfl)
 (λ_ _ _ _ _=>(A8 (i:=0) (show(["_law_place","_law_row"]:List Str).Nodup by decide +kernel) rfl (Or.inl rfl))) (λ_ _ _ _ _=>C6) (λ_ _ _ _ _=>(P5 K (jv 1) (jv 0)))) jaN)))) jaN)) (jaC (jv 2) jaN))))
 (A2 (D8 (a1w (V1 (a7o (jv 6) a0v) (O0 (O7 (E8 K (A6 O__law_same (hr.mono (by omega)) rfl (jaC (A6 O_dropped (hr.mono (by omega)) rfl (jaC (jv 3) (jaC (jv 4) jaN))) (jaC (jv 6) jaN))))))))
 (A5 (B0 Z0))
 C0)
 (A5 (B0 (b6w (b0V (jv 7) a0v) (a7s (A6 O__law_same (hr.mono (by omega)) rfl (jaC (A6 O_turned (hr.mono (by omega)) rfl (jaC (jv 3) (jaC (jv 5) jaN))) (jaC (jv 7) jaN)))))))))))))),?_⟩
  refine⟨_,rfl,_,rfl,ra,us,rss,n,_,rfl,rfl,hra,hI,hul,hRB,by omega,n8,λH1 s1=>?_,λt zs tss H1 s1 ht hIt htl hri hnd hls=>?_⟩
  .exact⟨_,rfl,rfl,_,rfl,V6 (kk _)⟩
  refine⟨_,rfl,rfl,_,rfl,E5 ?_⟩;have hP1:=hP.same s1;have hra1:=s1 _ _ hra;have hI1:=hI.same s1;clear hP hra hI s1;dsimp only[A9,List.set];refine⟨_,rfl,_,rfl,a,b,_,n,rfl,hP1,by omega,by omega,by omega,λr2 H2 h20 h21 hP2 off2=>?_⟩;obtain⟨j,rfl⟩:∃t:Nat,r2=t:=⟨r2.toNat,by omega⟩;have hj:j<n:=by omega
  dsimp only[A9,List.set];refine⟨_,rfl,_,rfl,a,b,_,n,_,rfl,rfl,hP2,by omega,by omega,by omega,λo os H3 ho hpm hP3 off3=>?_⟩;have tk3:Tk H1 H3:=(Tk.pot hP1 off2).trans (Tk.pot hP2 off3);have hra3:=tk3 _ _ hra1;have hI3:=tk3.its hI1;have ht3:=tk3 _ _ ht;have hIt3:=tk3.its hIt;clear tk3 off2 off3 hP1 hP2 hra1 hI1 ht hIt h20 h21 hP3;have hol:=J8 hpm;have htn:∀r∈tss,r.length=n:=λr hr=>by have:=((hls r).mp hr).an.len;rwa[List.length_replicate]at this
  dsimp only[A9,List.set];refine K3 (λσ H'=>Ex1 λf=>An3 (σ=[some (.ref a),some (.ref ra),some (.int n),some (.ref t),some (.int j),some (.ref o),some f,none]) (Same H3 H') (LLv H' f (rss.map (era j)) (n-1))) ?fin λfin=>?_
  case fin =>
   rintro σ H4 ⟨fv,rfl,s4,hf⟩;refine K3 (λσ H'=>Ex1 λg=>An3 (σ=[some (.ref a),some (.ref ra),some (.int n),some (.ref t),some (.int j),some (.ref o),some fv,some g]) (Same H4 H') (LLv H' g (rss.map (plc os)) n)) ?fin λfin=>?_
   case fin =>
    rintro σ H5 ⟨gv,rfl,s5,hg⟩;have hf:=hf.same s5;have s35:=s4.trans s5;have hol2:os.length<=100:=by omega
    refine K3 (λσ H'=>σ=[some (.ref a),some (.ref ra),some (.int n),some (.ref t),some (.int j),some (.ref o),some fv,some gv]/\Same H5 H') ?fin λfin=>?_
    case fin =>
     rintro σ H6 ⟨rfl,s6⟩;have s36:=s35.trans s6;rcases hg.same s6 with rfl|⟨t9,zs9,tss9,rfl,ht9,hI9,hl9,hr9,hn9,hv9⟩
     .exact⟨_,rfl,rfl,_,rfl,V6 (kk _)⟩
     .refine⟨_,rfl,rfl,_,rfl,E5 ?_⟩;refine⟨_,rfl,_,rfl,t,o,zs,tss,os,rfl,s36 _ _ ht3,hIt3.same s36,by rw[hIt3.1];omega,s36 _ _ ho,by omega,by omega,λr hr k hk=>by rw[htn r hr];exact N7 hpm k hk,λq10 ws10 srt10 H10 s10 S10 hq10 hI10=>?_⟩;have S9:Srt (tss.map (plc os)) tss9:=⟨hr9,hn9,λr=>by
       rw[hv9,List.mem_map,b0Q hpm hR];exact⟨λ⟨x,hx,e⟩=>⟨x,(hls x).mpr hx,e⟩,λ⟨x,hx,e⟩=>⟨x,(hls x).mp hx,e⟩⟩⟩
      cases S10.eq S9;refine⟨_,rfl,_,_,rfl,SD.its hq10 (s10 _ _ ht9) hI10 (hI9.same s10) (by omega) (λr hr=>?_),λH11 s11=>kk _⟩;have:=((hv9 r).mp hr).an.len;rw[List.length_replicate]at this;omega
    rcases hf with rfl|⟨t9,zs9,tss9,rfl,ht9,hI9,hl9,hr9,hn9,hv9⟩
    .exact⟨_,rfl,rfl,_,rfl,E5 (fin _ _ ⟨rfl,Same.refl _⟩)⟩
    .refine⟨_,rfl,rfl,_,rfl,V6 ?_⟩;refine⟨_,rfl,_,rfl,t,zs,tss,j,n,rfl,s35 _ _ ht3,hIt3.same s35,by rw[hIt3.1];omega,by omega,by omega,hj,htn,λq10 ws10 srt10 H10 s10 S10 hq10 hI10=>?_⟩;have S9:Srt (drp j tss) tss9:=⟨hr9,hn9,λr=>by
      rw[hv9,mem_drp,a8F hR hj];exact⟨λ⟨x,hx,h0,e⟩=>⟨x,(hls x).mpr hx,h0,e⟩,λ⟨x,hx,h0,e⟩=>⟨x,(hls x).mp hx,h0,e⟩⟩⟩
     cases S10.eq S9;refine⟨_,rfl,_,_,rfl,SD.its hq10 (s10 _ _ ht9) hI10 (hI9.same s10) (by omega) (λr hr=>?_),λH11 s11=>⟨_,rfl,E5 (fin _ _ ⟨rfl,s10.trans s11⟩)⟩⟩;have:=((hv9 r).mp hr).an.len;rw[List.length_replicate]at this;omega
   have ho4:=s4 _ _ ho;have hra4:=s4 _ _ hra3;have hI4:=hI3.same s4;dsimp only[A9,List.set];refine⟨_,rfl,ra,rfl,⟨_,SqT.of hra4⟩,?_⟩;refine a5v (K:=K) (n:=n) rfl hra4 hI4 (by omega) ho4 (by omega) (N7 hpm) hR λH7 p7 ws7 s7 hp7 hI7=>?_;have s7':=(Same.refl H7).upd (o:=.lst ws7) hp7;refine⟨p7,_,rfl,.inl ⟨SqL.of A0,λp8 hp8=>?_⟩⟩;have s8:=s7'.upd (o:=.tup ws7) hp8;have e8:upd (upd H7 p7 (.lst ws7)) p8 (.tup ws7) p8=some (.tup ws7):=A0;generalize upd (upd H7 p7 (.lst ws7)) p8 (.tup ws7)=H8 at s8 e8;have s48:=s7.trans s8;refine⟨_,rfl,p8,ws7,rss.map (plc os),n,_,rfl,rfl,e8,hI7.same s8,by rw[hI7.1,List.length_map,<-hI4.1];omega,λr hr=>?_,by omega,n8,λH9 s9=>fin _ _ ⟨.non,rfl,s48.trans s9,.inl rfl⟩,λt9 zs9 tss9 H9 s9 ht9 hI9 hl9 hr9 hn9 hv9=>fin _ _ ⟨.ref t9,rfl,s48.trans s9,.inr ⟨t9,zs9,tss9,rfl,ht9,hI9,hl9,hr9,hn9,hv9⟩⟩⟩;obtain⟨u,hu,rfl⟩:=List.mem_map.mp hr;exact⟨by rw[D0,hol],λz hz=>(hRB u hu).2 z (b2G (λk hk=>by rw[hR u hu];exact N7 hpm k hk) hz)⟩
  refine⟨_,rfl,ra,rfl,⟨_,SqT.of hra3⟩,?_⟩;refine b1I (K:=K) (n:=n) rfl hra3 hI3 (by omega) (by omega) hj hR λH7 p7 ws7 s7 hp7 hI7=>?_;have s7':=(Same.refl H7).upd (o:=.lst ws7) hp7;refine⟨p7,_,rfl,.inl ⟨SqL.of A0,λp8 hp8=>?_⟩⟩;have s8:=s7'.upd (o:=.tup ws7) hp8;have e8:upd (upd H7 p7 (.lst ws7)) p8 (.tup ws7) p8=some (.tup ws7):=A0;generalize upd (upd H7 p7 (.lst ws7)) p8 (.tup ws7)=H8 at s8 e8;have s48:=s7.trans s8;refine⟨_,rfl,_,_,rfl,rfl,p8,ws7,rss.map (era j),n-1,_,rfl,by omega,e8,hI7.same s8,by rw[hI7.1,List.length_map,<-hI3.1];omega,λr hr=>?_,by omega,by omega,λH9 s9=>fin _ _ ⟨.non,rfl,s48.trans s9,.inl rfl⟩,λt9 zs9 tss9 H9 s9 ht9 hI9 hl9 hr9 hn9 hv9=>fin _ _ ⟨.ref t9,rfl,s48.trans s9,.inr ⟨t9,zs9,tss9,rfl,ht9,hI9,hl9,hr9,hn9,hv9⟩⟩⟩;obtain⟨u,hu,rfl⟩:=List.mem_map.mp hr;exact⟨by rw[J7 (hR u hu) hj],λz hz=>(hRB u hu).2 z (b3A hz)⟩
end
end K37
namespace K37
open PySem PySem.Spec PyProof.Rows L2
section
variable {P:Program}{w:World}{K:PySem.W.Frag}{mg:Str->Option Value}{base:Heap}
theorem sc_law:FnScope ["_law_script","_law_pot_here","_law_turn","_law_width","_law_rows"] ["_law_script"] (A3 a1Z):=⟨rfl,rfl,rfl,by decide +kernel,rfl,by decide +kernel,by decide +kernel⟩
theorem b5j{f:Addr}{fd:FuncData}(F':Fun K "law" "law" a1Z f fd)(T:Tx mg)(O__law_pot:Ok P w K mg base "_law_pot" 1 ["_law_script"] (b3T K))(O__law_take:Ok P w K mg base "_law_take" 1 ["_law_pot_here","_law_many"] U0)(O__law_system:Ok P w K mg base "_law_system" 3 ["_law_pot_here","_law_wide","_law_far"] b3S)(O__law_vectors:Ok P w K mg base "_law_vectors" 2 ["_law_pot_here","_law_width"] a6R)(O__law_vectors_right:Ok P w K mg base "_law_vectors_right" 5 ["_law_pot_here","_law_some","_law_width"] b5X)(O__law_system_right:Ok P w K mg base "_law_system_right" 9 ["_law_pot_here","_law_rows","_law_width"] b5Y) :
  FnOk P w K mg base CX0 10 f fd ["_law_script"] (a6U K):=by
 refine F'.okJ sc_law (λvs H Q E h=>?_) (λcdv A outer s H vs Q E hr h=>?_)
 .obtain⟨a,ns,rfl,_⟩:=h;rfl
 .obtain⟨c,ns,rfl,hS,hl,kk⟩:=h;have hu:=hr.u60;have hz:(3000:Nat)<=sizeLine:=by rw[sizeLine_eq];decide
  refine⟨_,(A2 (B1 (i:=1) sc_law.nd rfl (Or.inl rfl) (A6 O__law_pot (hr.mono (by omega)) rfl (jaC (jv 0) jaN)))
 (A2 (Q6 (D5 rfl T.b_range (jaC A4 jaN)) (A8 (i:=2) sc_law.nd rfl (Or.inl rfl))
 (A2 (B1 (i:=3) sc_law.nd rfl (Or.inl rfl) (L9 A4 (A6 O__law_take (hr.mono (by omega)) rfl (jaC (jv 1) (jaC (L8 K (O2 (jaC A4 (jaC A4 jaN))) (a6g rfl T.b_int (jaC (a3n (A6 O__law_take (hr.mono (by omega)) rfl (jaC (jv 1) (jaC A4 jaN))) A4) jaN))) jaN)))))
 (A5 (D8 (O7 (E8 K (A6 O__law_vectors_right (hr.mono (by omega)) rfl (jaC (jv 1) (jaC (A6 O__law_vectors (hr.mono (by omega)) rfl (jaC (jv 1) (jaC (jv 3) jaN))) (jaC (jv 3) jaN))))))
 (A5 (B0 Z0))
 C0))))
 (A2 (a0T (A6 O__law_system (hr.mono (by omega)) rfl (jaC (jv 1) (jaC A4 (jaC (a7r A4 A4) jaN)))) (V4 K 2 (B9 (A8 (i:=4) sc_law.nd rfl (Or.inl rfl)) (B9 (A8 (i:=3) sc_law.nd rfl (Or.inl rfl)) O1))))
 (A2 (D8 (a1w (V1 (a5m (jv 3) A4) (O0 (O7 (E8 K (A6 O__law_system_right (hr.mono (by omega)) rfl (jaC (jv 1) (jaC (jv 4) (jaC (jv 3) jaN)))))))))
 (A5 (B0 Z0))
 C0)
 (A5 (B0 Z0)))))),?_⟩
  refine⟨_,rfl,c,ns,rfl,hS,hl,λa b H1 _ _ hP1 _=>?_⟩;refine⟨_,rfl,by decide,by decide,?_⟩;refine X8 (lo:=0) (n:=2) (λi σ H'=>Ex3 λo2 o3 o4=>An2 (σ=[some (.ref c),some (.ref a),o2,o3,o4]) (PotAt H' a b (2000*i))) ⟨none,none,none,rfl,hP1⟩ ?_ ?_
  .rintro i σ H hi ⟨o2,o3,o4,rfl,hP⟩
   try dsimp only[A9,List.set]
   refine⟨_,rfl,by show 2<=sizeLine;omega,λp4 hp4=>?_⟩;have hab4:=N5 hP hp4;have s4:=(Same.refl H).upd (o:=.lst [.int 3,.int 7]) hp4;have e4:upd H p4 (.lst [.int 3,.int 7]) p4=some (.lst [.int 3,.int 7]):=A0;generalize upd H p4 (.lst [.int 3,.int 7])=H4 at s4 e4;refine⟨_,rfl,a,b,_,8,rfl,hP.same s4,by omega,by decide,by decide,λr5 H5 _ _ hP5 off5=>?_⟩;refine⟨rfl,.inr ⟨_,rfl,?_⟩⟩;obtain⟨far,hfar,hfar1⟩:=two_at 3 7 (decide (V.int r5=V.int 0));refine⟨p4,_,_,.int far,rfl,rfl,SqL.of (off5 _ _ hab4 e4),hfar,?_⟩;refine⟨a,b,_,far,rfl,hP5,by omega,by omega,by omega,λr6 H6 h60 h61 hP6 off6=>?_⟩;obtain⟨k,rfl⟩:∃t:Nat,r6=t:=⟨r6.toNat,by omega⟩;refine⟨_,_,rfl,rfl,?_⟩;obtain⟨n,hkn⟩:∃n:Nat,n=k+2:=⟨_,rfl⟩;have hn8:n<=8:=by omega
   try dsimp only[A9,List.set]
   refine⟨_,rfl,_,rfl,_,rfl,a,b,_,n,_,rfl,by omega,by omega,hn8,hP6,by omega,λq us rss H7 hq hI hul hR hP7 off7=>?_⟩;refine⟨_,rfl,a,b,q,us,rss,_,n,_,rfl,by omega,hP7,by omega,hq,hI,by omega,λr hr=>(hR r hr).1,by omega,hn8,λH8 hP8=>?_⟩;exact⟨_,rfl,E5 ⟨_,_,_,rfl,hP8.mono (by omega)⟩⟩
  .rintro σ H ⟨o2,o3,o4,rfl,hP⟩
   try dsimp only[A9,List.set]
   refine⟨_,rfl,_,_,rfl,rfl,⟨by decide,by decide,by decide⟩,a,b,_,7,_,rfl,by decide,by decide,by decide,by decide,hP,by omega,λq qr us rss m H2 hq hqr hI hul hR hm1 hm8 hmw hP2 off2=>?_⟩;have e12:(10:Int) ^ Int.toNat 12=1000000000000:=by decide
   rw[e12]at hR;refine⟨q,[.ref qr,.int m],rfl,SqT.of hq,rfl,.ref qr,[.int m],rfl,.int m,[],rfl,rfl,?_⟩
   try dsimp only[A9,List.set]
   refine⟨_,rfl,_,_,rfl,rfl,_,rfl,T3 (λe=>?_) (λ_=>E5 (kk _))⟩;have hm2:2<=m:=by have:=of_decide_eq_true e;omega
   refine⟨_,rfl,_,rfl,_,rfl,a,b,qr,us,rss,_,m,_,rfl,rfl,hP2,by omega,hqr,hI,hul,λr hr=>⟨(hR r hr).1,λz hz=>?_⟩,hm2,hm8,λH3=>⟨_,rfl,E5 (kk _)⟩⟩;have:=(hR r hr).2 z hz;omega
end
open PySem.W
theorem all_mk{l:PySem.W.OpenLaw}{w:World}{K:PySem.W.Frag}{h:Heap}{mg:Str->Option Value}{fa:Addr}(X:K.In h)(G:h.Ns mainGlobals mg)(hfa:mg "law"=some (.ref fa))
 (a1:nsIn K mainGlobals "below"=some (some (.ref f1))) (l1:FnL K f1 "below" "below" a1H o1 d1 s1 v1 x1 p1 n1 c1 t1) (c_1:codeIn K c1 "below"=true) (k1:keepIn K (.ref f1)=true)
 (a2:nsIn K mainGlobals "unit"=some (some (.ref f2))) (l2:FnL K f2 "unit" "unit" a3U o2 d2 s2 v2 x2 p2 n2 c2 t2) (c_2:codeIn K c2 "unit"=true) (k2:keepIn K (.ref f2)=true)
 (a3:nsIn K mainGlobals "risen"=some (some (.ref f3))) (l3:FnL K f3 "risen" "risen" a1E o3 d3 s3 v3 x3 p3 n3 c3 t3) (c_3:codeIn K c3 "risen"=true) (k3:keepIn K (.ref f3)=true)
 (a4:nsIn K mainGlobals "dropped"=some (some (.ref f4))) (l4:FnL K f4 "dropped" "dropped" X2 o4 d4 s4 v4 x4 p4 n4 c4 t4) (c_4:codeIn K c4 "dropped"=true) (k4:keepIn K (.ref f4)=true)
 (a5:nsIn K mainGlobals "placed"=some (some (.ref f5))) (l5:FnL K f5 "placed" "placed" a0o o5 d5 s5 v5 x5 p5 n5 c5 t5) (c_5:codeIn K c5 "placed"=true) (k5:keepIn K (.ref f5)=true)
 (a6:nsIn K mainGlobals "turned"=some (some (.ref f6))) (l6:FnL K f6 "turned" "turned" a0m o6 d6 s6 v6 x6 p6 n6 c6 t6) (c_6:codeIn K c6 "turned"=true) (k6:keepIn K (.ref f6)=true)
 (a7:nsIn K mainGlobals "within"=some (some (.ref f7))) (l7:FnL K f7 "within" "within" a0l o7 d7 s7 v7 x7 p7 n7 c7 t7) (c_7:codeIn K c7 "within"=true) (k7:keepIn K (.ref f7)=true)
 (a8:nsIn K mainGlobals "row_sum"=some (some (.ref f8))) (l8:FnL K f8 "row_sum" "row_sum" X0 o8 d8 s8 v8 x8 p8 n8 c8 t8) (c_8:codeIn K c8 "row_sum"=true) (k8:keepIn K (.ref f8)=true)
 (a9:nsIn K mainGlobals "sums"=some (some (.ref f9))) (l9:FnL K f9 "sums" "sums" a3V o9 d9 s9 v9 x9 p9 n9 c9 t9) (c_9:codeIn K c9 "sums"=true) (k9:keepIn K (.ref f9)=true)
 (a10:nsIn K mainGlobals "is_answer"=some (some (.ref f10))) (l10:FnL K f10 "is_answer" "is_answer" M6 o10 d10 s10 v10 x10 p10 n10 c10 t10) (c_10:codeIn K c10 "is_answer"=true) (k10:keepIn K (.ref f10)=true)
 (a11:nsIn K mainGlobals "pull_of"=some (some (.ref f11))) (l11:FnL K f11 "pull_of" "pull_of" X1 o11 d11 s11 v11 x11 p11 n11 c11 t11) (c_11:codeIn K c11 "pull_of"=true) (k11:keepIn K (.ref f11)=true)
 (a12:nsIn K mainGlobals "falls"=some (some (.ref f12))) (l12:FnL K f12 "falls" "falls" a1G o12 d12 s12 v12 x12 p12 n12 c12 t12) (c_12:codeIn K c12 "falls"=true) (k12:keepIn K (.ref f12)=true)
 (a13:nsIn K mainGlobals "first_steps"=some (some (.ref f13))) (l13:FnL K f13 "first_steps" "first_steps" J1 o13 d13 s13 v13 x13 p13 n13 c13 t13) (c_13:codeIn K c13 "first_steps"=true) (k13:keepIn K (.ref f13)=true)
 (a14:nsIn K mainGlobals "raised"=some (some (.ref f14))) (l14:FnL K f14 "raised" "raised" a0n o14 d14 s14 v14 x14 p14 n14 c14 t14) (c_14:codeIn K c14 "raised"=true) (k14:keepIn K (.ref f14)=true)
 (a15:nsIn K mainGlobals "steps"=some (some (.ref f15))) (l15:FnL K f15 "steps" "steps" a1D o15 d15 s15 v15 x15 p15 n15 c15 t15) (c_15:codeIn K c15 "steps"=true) (k15:keepIn K (.ref f15)=true)
 (a16:nsIn K mainGlobals "is_barred"=some (some (.ref f16))) (l16:FnL K f16 "is_barred" "is_barred" M5 o16 d16 s16 v16 x16 p16 n16 c16 t16) (c_16:codeIn K c16 "is_barred"=true) (k16:keepIn K (.ref f16)=true)
 (a17:nsIn K mainGlobals "next_level"=some (some (.ref f17))) (l17:FnL K f17 "next_level" "next_level" K4 o17 d17 s17 v17 x17 p17 n17 c17 t17) (c_17:codeIn K c17 "next_level"=true) (k17:keepIn K (.ref f17)=true)
 (a18:nsIn K mainGlobals "least"=some (some (.ref f18))) (l18:FnL K f18 "least" "least" a1F o18 d18 s18 v18 x18 p18 n18 c18 t18) (c_18:codeIn K c18 "least"=true) (k18:keepIn K (.ref f18)=true)
 (a19:nsIn K mainGlobals "_law_pot"=some (some (.ref f19))) (l19:FnL K f19 "_law_pot" "_law_pot" Q0 o19 d19 s19 v19 x19 p19 n19 c19 t19) (c_19:codeIn K c19 "_law_pot"=true) (k19:keepIn K (.ref f19)=true)
 (a20:nsIn K mainGlobals "_law_take"=some (some (.ref f20))) (l20:FnL K f20 "_law_take" "_law_take" M7 o20 d20 s20 v20 x20 p20 n20 c20 t20) (c_20:codeIn K c20 "_law_take"=true) (k20:keepIn K (.ref f20)=true)
 (a21:nsIn K mainGlobals "_law_number"=some (some (.ref f21))) (l21:FnL K f21 "_law_number" "_law_number" J3 o21 d21 s21 v21 x21 p21 n21 c21 t21) (c_21:codeIn K c21 "_law_number"=true) (k21:keepIn K (.ref f21)=true)
 (a22:nsIn K mainGlobals "_law_system"=some (some (.ref f22))) (l22:FnL K f22 "_law_system" "_law_system" J2 o22 d22 s22 v22 x22 p22 n22 c22 t22) (c_22:codeIn K c22 "_law_system"=true) (k22:keepIn K (.ref f22)=true)
 (a23:nsIn K mainGlobals "_law_vectors"=some (some (.ref f23))) (l23:FnL K f23 "_law_vectors" "_law_vectors" G3 o23 d23 s23 v23 x23 p23 n23 c23 t23) (c_23:codeIn K c23 "_law_vectors"=true) (k23:keepIn K (.ref f23)=true)
 (a24:nsIn K mainGlobals "_law_same"=some (some (.ref f24))) (l24:FnL K f24 "_law_same" "_law_same" M8 o24 d24 s24 v24 x24 p24 n24 c24 t24) (c_24:codeIn K c24 "_law_same"=true) (k24:keepIn K (.ref f24)=true)
 (a25:nsIn K mainGlobals "_law_once"=some (some (.ref f25))) (l25:FnL K f25 "_law_once" "_law_once" M9 o25 d25 s25 v25 x25 p25 n25 c25 t25) (c_25:codeIn K c25 "_law_once"=true) (k25:keepIn K (.ref f25)=true)
 (a26:nsIn K mainGlobals "_law_order"=some (some (.ref f26))) (l26:FnL K f26 "_law_order" "_law_order" K5 o26 d26 s26 v26 x26 p26 n26 c26 t26) (c_26:codeIn K c26 "_law_order"=true) (k26:keepIn K (.ref f26)=true)
 (a27:nsIn K mainGlobals "_law_least_of"=some (some (.ref f27))) (l27:FnL K f27 "_law_least_of" "_law_least_of" E6 o27 d27 s27 v27 x27 p27 n27 c27 t27) (c_27:codeIn K c27 "_law_least_of"=true) (k27:keepIn K (.ref f27)=true)
 (a28:nsIn K mainGlobals "_law_vectors_right"=some (some (.ref f28))) (l28:FnL K f28 "_law_vectors_right" "_law_vectors_right" C1 o28 d28 s28 v28 x28 p28 n28 c28 t28) (c_28:codeIn K c28 "_law_vectors_right"=true) (k28:keepIn K (.ref f28)=true)
 (a29:nsIn K mainGlobals "_law_system_right"=some (some (.ref f29))) (l29:FnL K f29 "_law_system_right" "_law_system_right" C7 o29 d29 s29 v29 x29 p29 n29 c29 t29) (c_29:codeIn K c29 "_law_system_right"=true) (k29:keepIn K (.ref f29)=true)
 (a30:nsIn K mainGlobals "law"=some (some (.ref f30))) (l30:FnL K f30 "law" "law" a1Z o30 d30 s30 v30 x30 p30 n30 c30 t30) (c_30:codeIn K c30 "law"=true) (k30:keepIn K (.ref f30)=true)
  (z1:PySem.W.nsIn K mainGlobals "ValueError"=some none) (z2:PySem.W.nsIn K mainGlobals "abs"=some none) (z3:PySem.W.nsIn K mainGlobals "all"=some none) (z4:PySem.W.nsIn K mainGlobals "bool"=some none) (z5:PySem.W.nsIn K mainGlobals "int"=some none) (z6:PySem.W.nsIn K mainGlobals "isinstance"=some none) (z7:PySem.W.nsIn K mainGlobals "len"=some none) (z8:PySem.W.nsIn K mainGlobals "list"=some none) (z9:PySem.W.nsIn K mainGlobals "range"=some none) (z10:PySem.W.nsIn K mainGlobals "set"=some none) (z11:PySem.W.nsIn K mainGlobals "sorted"=some none) (z12:PySem.W.nsIn K mainGlobals "sum"=some none) (z13:PySem.W.nsIn K mainGlobals "tuple"=some none) (z14:PySem.W.nsIn K mainGlobals "zip"=some none)
  {D_TooMany:Addr}(aD_TooMany:PySem.W.nsIn K mainGlobals "TooMany"=some (some (.ref D_TooMany))) {D_Finder:Addr}(aD_Finder:PySem.W.nsIn K mainGlobals "Finder"=some (some (.ref D_Finder))) (q1:a6r K D_TooMany []=true) {nm_TooMany qn_TooMany:Str}{N_TooMany:Addr}{bs_TooMany bm_TooMany sub_TooMany:List Value}{hd_TooMany ab_TooMany:Bool}{sn_TooMany:List Str}{col_TooMany:Option Bool}{dd_TooMany:Option Addr}{k0_TooMany k1_TooMany k2_TooMany k3_TooMany k5_TooMany:Option Value}(lx_TooMany:K.lookup D_TooMany=some (excClassObj nm_TooMany qn_TooMany D_TooMany N_TooMany bs_TooMany bm_TooMany hd_TooMany sn_TooMany sub_TooMany ab_TooMany col_TooMany dd_TooMany k0_TooMany k1_TooMany k2_TooMany k3_TooMany k5_TooMany "ValueError.__new__")) (tx_TooMany:PySem.W.tailIn K [.type "ValueError",.type "Exception",.type "BaseException",.type "object"] bm_TooMany=true) (ok_TooMany:PySem.W.nsOkIn K N_TooMany=true) (in_TooMany:PySem.W.nsIn K N_TooMany "__init__"=some none) (be_TooMany:bm_TooMany.contains (.type "BaseException")=true) (pg_Finder:PySem.W.plainGet K D_Finder Str.empty=true) (hd_Finder:PySem.W.hasDictIn K D_Finder=true) (po_Finder:PySem.W.plainOver K D_Finder=true) (sa_Finder:PySem.W.findIn K (.ref D_Finder) "__setattr__"=some (some (.builtin "object.__setattr__"))) (mk_Finder:PySem.W.makesIn K D_Finder=true) (kc_Finder:PySem.W.keepIn K (.ref D_Finder)=true) (n_Finder_rows:PySem.W.findIn K (.ref D_Finder) "rows"=some none) (n_Finder_caps:PySem.W.findIn K (.ref D_Finder) "caps"=some none) (n_Finder_begun:PySem.W.findIn K (.ref D_Finder) "begun"=some none) (n_Finder_here:PySem.W.findIn K (.ref D_Finder) "here"=some none) (n_Finder_found:PySem.W.findIn K (.ref D_Finder) "found"=some none) (n_Finder_walked:PySem.W.findIn K (.ref D_Finder) "walked"=some none) (a_Finder___init__:findIn K (.ref D_Finder) "__init__"=some (some (.ref f_Finder___init__))) (i_Finder___init__:isFn K (.ref f_Finder___init__)=true) (l_Finder___init__:FnL K f_Finder___init__ "__init__" "Finder.__init__" D6 o_Finder___init__ d_Finder___init__ s0_Finder___init__ v_Finder___init__ x_Finder___init__ p_Finder___init__ n0_Finder___init__ c0_Finder___init__ t_Finder___init__) (c_Finder___init__:codeIn K c0_Finder___init__ "Finder.__init__"=true) (k_Finder___init__:keepIn K (.ref f_Finder___init__)=true) (a_Finder_step:findIn K (.ref D_Finder) "step"=some (some (.ref f_Finder_step))) (i_Finder_step:isFn K (.ref f_Finder_step)=true) (l_Finder_step:FnL K f_Finder_step "step" "Finder.step" Z2 o_Finder_step d_Finder_step s0_Finder_step v_Finder_step x_Finder_step p_Finder_step n0_Finder_step c0_Finder_step t_Finder_step) (c_Finder_step:codeIn K c0_Finder_step "Finder.step"=true) (k_Finder_step:keepIn K (.ref f_Finder_step)=true) (a_Finder_step_within:findIn K (.ref D_Finder) "step_within"=some (some (.ref f_Finder_step_within))) (i_Finder_step_within:isFn K (.ref f_Finder_step_within)=true) (l_Finder_step_within:FnL K f_Finder_step_within "step_within" "Finder.step_within" C2 o_Finder_step_within d_Finder_step_within s0_Finder_step_within v_Finder_step_within x_Finder_step_within p_Finder_step_within n0_Finder_step_within c0_Finder_step_within t_Finder_step_within) (c_Finder_step_within:codeIn K c0_Finder_step_within "Finder.step_within"=true) (k_Finder_step_within:keepIn K (.ref f_Finder_step_within)=true) (a_Finder_level:findIn K (.ref D_Finder) "level"=some (some (.ref f_Finder_level))) (i_Finder_level:isFn K (.ref f_Finder_level)=true) (l_Finder_level:FnL K f_Finder_level "level" "Finder.level" U6 o_Finder_level d_Finder_level s0_Finder_level v_Finder_level x_Finder_level p_Finder_level n0_Finder_level c0_Finder_level t_Finder_level) (c_Finder_level:codeIn K c0_Finder_level "Finder.level"=true) (k_Finder_level:keepIn K (.ref f_Finder_level)=true) (a_Finder_told:findIn K (.ref D_Finder) "told"=some (some (.ref f_Finder_told))) (i_Finder_told:isFn K (.ref f_Finder_told)=true) (l_Finder_told:FnL K f_Finder_told "told" "Finder.told" J4 o_Finder_told d_Finder_told s0_Finder_told v_Finder_told x_Finder_told p_Finder_told n0_Finder_told c0_Finder_told t_Finder_told) (c_Finder_told:codeIn K c0_Finder_told "Finder.told"=true) (k_Finder_told:keepIn K (.ref f_Finder_told)=true) (a_Finder_paper:findIn K (.ref D_Finder) "paper"=some (some (.ref f_Finder_paper))) (i_Finder_paper:isFn K (.ref f_Finder_paper)=true) (l_Finder_paper:FnL K f_Finder_paper "paper" "Finder.paper" G4 o_Finder_paper d_Finder_paper s0_Finder_paper v_Finder_paper x_Finder_paper p_Finder_paper n0_Finder_paper c0_Finder_paper t_Finder_paper) (c_Finder_paper:codeIn K c0_Finder_paper "Finder.paper"=true) (k_Finder_paper:keepIn K (.ref f_Finder_paper)=true) (a_Finder_ended:findIn K (.ref D_Finder) "ended"=some (some (.ref f_Finder_ended))) (i_Finder_ended:isFn K (.ref f_Finder_ended)=true) (l_Finder_ended:FnL K f_Finder_ended "ended" "Finder.ended" G5 o_Finder_ended d_Finder_ended s0_Finder_ended v_Finder_ended x_Finder_ended p_Finder_ended n0_Finder_ended c0_Finder_ended t_Finder_ended) (c_Finder_ended:codeIn K c0_Finder_ended "Finder.ended"=true) (k_Finder_ended:keepIn K (.ref f_Finder_ended)=true) :
  ∃fd:FuncData,(∀(s:Shared) (v:Value),BindsTo s fd ⟨[v],[]⟩ [("_law_script",v)])/\∀base:Heap,K.In base->base.Ns mainGlobals mg->FnOk l.prog w K mg base CX0 10 fa fd ["_law_script"] (a6U K):=by
 have e:=hfa.symm.trans (PySem.W.mg_of X G a30);cases e;have T:Tx mg:=⟨PySem.W.mg_none_of X G z1,PySem.W.mg_none_of X G z2,PySem.W.mg_none_of X G z3,PySem.W.mg_none_of X G z4,PySem.W.mg_none_of X G z5,PySem.W.mg_none_of X G z6,PySem.W.mg_none_of X G z7,PySem.W.mg_none_of X G z8,PySem.W.mg_none_of X G z9,PySem.W.mg_none_of X G z10,PySem.W.mg_none_of X G z11,PySem.W.mg_none_of X G z12,PySem.W.mg_none_of X G z13,PySem.W.mg_none_of X G z14⟩;have F1:FunAt K mg "below" a1H ["one","other"]:=C4 X G a1 l1 c_1 k1 λ_ _ _ _ _ _ us hl=>by obtain⟨_,_,rfl⟩:=Q4 hl;rfl
 have F2:FunAt K mg "unit" a3U ["width","j"]:=C4 X G a2 l2 c_2 k2 λ_ _ _ _ _ _ us hl=>by obtain⟨_,_,rfl⟩:=Q4 hl;rfl
 have F3:FunAt K mg "risen" a1E ["some"]:=C4 X G a3 l3 c_3 k3 λ_ _ _ _ _ _ us hl=>by obtain⟨_,rfl⟩:=a2R hl;rfl
 have F4:FunAt K mg "dropped" X2 ["told","j"]:=C4 X G a4 l4 c_4 k4 λ_ _ _ _ _ _ us hl=>by obtain⟨_,_,rfl⟩:=Q4 hl;rfl
 have F5:FunAt K mg "placed" a0o ["one","order"]:=C4 X G a5 l5 c_5 k5 λ_ _ _ _ _ _ us hl=>by obtain⟨_,_,rfl⟩:=Q4 hl;rfl
 have F6:FunAt K mg "turned" a0m ["told","order"]:=C4 X G a6 l6 c_6 k6 λ_ _ _ _ _ _ us hl=>by obtain⟨_,_,rfl⟩:=Q4 hl;rfl
 have F7:FunAt K mg "within" a0l ["caps","one"]:=C4 X G a7 l7 c_7 k7 λ_ _ _ _ _ _ us hl=>by obtain⟨_,_,rfl⟩:=Q4 hl;rfl
 have F8:FunAt K mg "row_sum" X0 ["row","one"]:=C4 X G a8 l8 c_8 k8 λ_ _ _ _ _ _ us hl=>by obtain⟨_,_,rfl⟩:=Q4 hl;rfl
 have F9:FunAt K mg "sums" a3V ["rows","one"]:=C4 X G a9 l9 c_9 k9 λ_ _ _ _ _ _ us hl=>by obtain⟨_,_,rfl⟩:=Q4 hl;rfl
 have F10:FunAt K mg "is_answer" M6 ["rows","one"]:=C4 X G a10 l10 c_10 k10 λ_ _ _ _ _ _ us hl=>by obtain⟨_,_,rfl⟩:=Q4 hl;rfl
 have F11:FunAt K mg "pull_of" X1 ["rows","totals","j"]:=C4 X G a11 l11 c_11 k11 λ_ _ _ _ _ _ us hl=>by obtain⟨_,_,_,rfl⟩:=a4e hl;rfl
 have F12:FunAt K mg "falls" a1G ["rows","one"]:=C4 X G a12 l12 c_12 k12 λ_ _ _ _ _ _ us hl=>by obtain⟨_,_,rfl⟩:=Q4 hl;rfl
 have F13:FunAt K mg "first_steps" J1 ["caps"]:=C4 X G a13 l13 c_13 k13 λ_ _ _ _ _ _ us hl=>by obtain⟨_,rfl⟩:=a2R hl;rfl
 have F14:FunAt K mg "raised" a0n ["one","j"]:=C4 X G a14 l14 c_14 k14 λ_ _ _ _ _ _ us hl=>by obtain⟨_,_,rfl⟩:=Q4 hl;rfl
 have F15:FunAt K mg "steps" a1D ["rows","caps","one"]:=C4 X G a15 l15 c_15 k15 λ_ _ _ _ _ _ us hl=>by obtain⟨_,_,_,rfl⟩:=a4e hl;rfl
 have F16:FunAt K mg "is_barred" M5 ["found","one","j"]:=C4 X G a16 l16 c_16 k16 λ_ _ _ _ _ _ us hl=>by obtain⟨_,_,_,rfl⟩:=a4e hl;rfl
 have F17:FunAt K mg "next_level" K4 ["rows","caps","found","level","room"]:=C4 X G a17 l17 c_17 k17 λ_ _ _ _ _ _ us hl=>by obtain⟨_,_,_,_,_,rfl⟩:=b6J hl;rfl
 have F18:FunAt K mg "least" a1F ["rows","caps","most"]:=C4 X G a18 l18 c_18 k18 λ_ _ _ _ _ _ us hl=>by obtain⟨_,_,_,rfl⟩:=a4e hl;rfl
 have F19:FunAt K mg "_law_pot" Q0 ["_law_script"]:=C4 X G a19 l19 c_19 k19 λ_ _ _ _ _ _ us hl=>by obtain⟨_,rfl⟩:=a2R hl;rfl
 have F20:FunAt K mg "_law_take" M7 ["_law_pot_here","_law_many"]:=C4 X G a20 l20 c_20 k20 λ_ _ _ _ _ _ us hl=>by obtain⟨_,_,rfl⟩:=Q4 hl;rfl
 have F21:FunAt K mg "_law_number" J3 ["_law_pot_here","_law_far"]:=C4 X G a21 l21 c_21 k21 λ_ _ _ _ _ _ us hl=>by obtain⟨_,_,rfl⟩:=Q4 hl;rfl
 have F22:FunAt K mg "_law_system" J2 ["_law_pot_here","_law_wide","_law_far"]:=C4 X G a22 l22 c_22 k22 λ_ _ _ _ _ _ us hl=>by obtain⟨_,_,_,rfl⟩:=a4e hl;rfl
 have F23:FunAt K mg "_law_vectors" G3 ["_law_pot_here","_law_width"]:=C4 X G a23 l23 c_23 k23 λ_ _ _ _ _ _ us hl=>by obtain⟨_,_,rfl⟩:=Q4 hl;rfl
 have F24:FunAt K mg "_law_same" M8 ["_law_found","_law_due"]:=C4 X G a24 l24 c_24 k24 λ_ _ _ _ _ _ us hl=>by obtain⟨_,_,rfl⟩:=Q4 hl;rfl
 have F25:FunAt K mg "_law_once" M9 ["_law_some"]:=C4 X G a25 l25 c_25 k25 λ_ _ _ _ _ _ us hl=>by obtain⟨_,rfl⟩:=a2R hl;rfl
 have F26:FunAt K mg "_law_order" K5 ["_law_pot_here","_law_width"]:=C4 X G a26 l26 c_26 k26 λ_ _ _ _ _ _ us hl=>by obtain⟨_,_,rfl⟩:=Q4 hl;rfl
 have F27:FunAt K mg "_law_least_of" E6 ["_law_rows","_law_width"]:=C4 X G a27 l27 c_27 k27 λ_ _ _ _ _ _ us hl=>by obtain⟨_,_,rfl⟩:=Q4 hl;rfl
 have F28:FunAt K mg "_law_vectors_right" C1 ["_law_pot_here","_law_some","_law_width"]:=C4 X G a28 l28 c_28 k28 λ_ _ _ _ _ _ us hl=>by obtain⟨_,_,_,rfl⟩:=a4e hl;rfl
 have F29:FunAt K mg "_law_system_right" C7 ["_law_pot_here","_law_rows","_law_width"]:=C4 X G a29 l29 c_29 k29 λ_ _ _ _ _ _ us hl=>by obtain⟨_,_,_,rfl⟩:=a4e hl;rfl
 refine⟨fnOf "law" "law" (O5 a1Z) (D9 a1Z) (A3 a1Z) .none v30 x30 p30 n30 c30 t30,λs v=>.of_eq rfl,λbase XB GB=>?_⟩;have M_TooMany:=PySem.W.mg_of X G aD_TooMany;have M_Finder:=PySem.W.mg_of X G aD_Finder;have CL_Finder:Cls K D_Finder:=⟨pg_Finder,hd_Finder,po_Finder,sa_Finder⟩;have FM_Finder___init__:MethAt K D_Finder "__init__" "Finder.__init__" D6 ["self","rows","caps"]:=a2l a_Finder___init__ i_Finder___init__ l_Finder___init__ c_Finder___init__ k_Finder___init__ λ_ _ _ _ _ _ us hl=>by obtain⟨_,_,_,rfl⟩:=a4e hl;rfl
 have FM_Finder_step:MethAt K D_Finder "step" "Finder.step" Z2 ["self"]:=a2l a_Finder_step i_Finder_step l_Finder_step c_Finder_step k_Finder_step λ_ _ _ _ _ _ us hl=>by obtain⟨_,rfl⟩:=a2R hl;rfl
 have FM_Finder_step_within:MethAt K D_Finder "step_within" "Finder.step_within" C2 ["self","room"]:=a2l a_Finder_step_within i_Finder_step_within l_Finder_step_within c_Finder_step_within k_Finder_step_within λ_ _ _ _ _ _ us hl=>by obtain⟨_,_,rfl⟩:=Q4 hl;rfl
 have FM_Finder_level:MethAt K D_Finder "level" "Finder.level" U6 ["self"]:=a2l a_Finder_level i_Finder_level l_Finder_level c_Finder_level k_Finder_level λ_ _ _ _ _ _ us hl=>by obtain⟨_,rfl⟩:=a2R hl;rfl
 have FM_Finder_told:MethAt K D_Finder "told" "Finder.told" J4 ["self"]:=a2l a_Finder_told i_Finder_told l_Finder_told c_Finder_told k_Finder_told λ_ _ _ _ _ _ us hl=>by obtain⟨_,rfl⟩:=a2R hl;rfl
 have FM_Finder_paper:MethAt K D_Finder "paper" "Finder.paper" G4 ["self"]:=a2l a_Finder_paper i_Finder_paper l_Finder_paper c_Finder_paper k_Finder_paper λ_ _ _ _ _ _ us hl=>by obtain⟨_,rfl⟩:=a2R hl;rfl
 have FM_Finder_ended:MethAt K D_Finder "ended" "Finder.ended" G5 ["self"]:=a2l a_Finder_ended i_Finder_ended l_Finder_ended c_Finder_ended k_Finder_ended λ_ _ _ _ _ _ us hl=>by obtain⟨_,rfl⟩:=a2R hl;rfl
 have FL:=a2B (st:=a1Z) l30 c_30 k30;have RS:=a6a (base:=base) (P:=l.prog) (w:=w) F8 T;have SU:=b3f F9 T RS;have IA:=a4c F10 T SU;have FA:=b0F F12 T (a6b F11 T) SU;have BE:=b0H (base:=base) (P:=l.prog) (w:=w) F1 T;have ST:=b0z F15 T FA (a8y F14);have NX:=a2Q F17 T ST (a4b F16 T BE);have FS:=a2g (base:=base) (P:=l.prog) (w:=w) F13 T (b3c F2 T) (a8u F7 T);have UF:FiTx K D_Finder:=⟨CL_Finder,n_Finder_rows,n_Finder_caps,n_Finder_begun,n_Finder_here,n_Finder_found,n_Finder_walked⟩;have MI:=(b0E (base:=base) (P:=l.prog) (w:=w) (mg:=mg) FM_Finder___init__ UF).make M_Finder mk_Finder kc_Finder;have MS:=b0y FM_Finder_step_within UF T NX FS IA;have ME:=b0G (base:=base) (P:=l.prog) (w:=w) FM_Finder_ended UF T;have MT:=b3d (base:=base) (P:=l.prog) (w:=w) FM_Finder_told UF T;have MP:=b0B (base:=base) (P:=l.prog) (w:=w) FM_Finder_paper UF T;have LE:=b0D F18 T UF CL_Finder MI MS ME MT MP (b4Y XB M_TooMany lx_TooMany tx_TooMany ok_TooMany in_TooMany);have TK:=b3e (base:=base) (P:=l.prog) (w:=w) F20 T;have SY:=b5g F22 T TK (a8A F21 T TK);have SM:=a7i (base:=base) (P:=l.prog) (w:=w) F24 T 3;have RI:=b0A (base:=base) (P:=l.prog) (w:=w) F3 T;have DR:=a6c F4 T RI;have TU:=a8w F6 T (a8z F5 T) RI;have ON:=b3g (base:=base) (P:=l.prog) (w:=w) F25 T;have OR:=b0C F26 T TK;have LL:=b5i F27 T LE M_TooMany (b3D q1);exact b5j FL T (b5h F19 T) TK SY (b3b F23 T TK) (a8v F28 T TK ON OR DR TU SM) (a8x F29 T TK LL OR DR TU SM)
end K37
namespace PySem.W.Fast
theorem tw9098173345402266178:True:=⟨⟩
theorem tw3337168035121984594:True:=⟨⟩
theorem tw8807599122396447813:True:=⟨⟩
theorem tw6093309518450428647:True:=⟨⟩
theorem tw13707530293761904194:True:=⟨⟩
theorem tw15728056485521387650:True:=⟨⟩
theorem tw2235884753494485412:True:=⟨⟩
theorem tw16856696306645115243:True:=⟨⟩
theorem tw10070941771597042382:True:=⟨⟩
theorem tw17543963608749196616:True:=⟨⟩
theorem tw12437155137825252316:True:=⟨⟩
theorem tw9215538629563660103:True:=⟨⟩
theorem tw9344371587727652715:True:=⟨⟩
theorem tw17096504232173928155:True:=⟨⟩
theorem tw16579070053776296788:True:=⟨⟩
theorem tw14710452779215784747:True:=⟨⟩
theorem tw16368305704461900247:True:=⟨⟩
theorem tw13335361097488108399:True:=⟨⟩
theorem tw5459355795763401310:True:=⟨⟩
theorem tw14115390109750601045:True:=⟨⟩
theorem tw5437322601330835573:True:=⟨⟩
theorem tw1371180203502949149:True:=⟨⟩
theorem tw18190651445397205336:True:=⟨⟩
theorem tw204434515554171485:True:=⟨⟩
theorem tw9208710579319757279:True:=⟨⟩
theorem tw17742185973872126778:True:=⟨⟩
theorem tw549069983958187266:True:=⟨⟩
theorem tw9036419716833819473:True:=⟨⟩
theorem tw14057740173045313602:True:=⟨⟩
theorem tw16197680965654114359:True:=⟨⟩
theorem tw12396610670837300489:True:=⟨⟩
theorem tw11535398863565746227:True:=⟨⟩
theorem tw16179276072058240771:True:=⟨⟩
theorem tw8839445645354096769:True:=⟨⟩
theorem tw10690822771913570602:True:=⟨⟩
theorem tw9678578763343220446:True:=⟨⟩
theorem tw302410722624113134:True:=⟨⟩
theorem tw11256029444271048658:True:=⟨⟩
theorem tw9215240082464549199:True:=⟨⟩
theorem tw8153165904638834431:True:=⟨⟩
theorem tw15666978127604553349:True:=⟨⟩
theorem tw6454128580017197824:True:=⟨⟩
theorem tw15014560260826055411:True:=⟨⟩
theorem tw3999926651180335747:True:=⟨⟩
theorem tw1619903695274954379:True:=⟨⟩
theorem tw9696731199020471750:True:=⟨⟩
theorem tw15567782780964698962:True:=⟨⟩
theorem tw1343294891515914708:True:=⟨⟩
theorem tw8584323065459204919:True:=⟨⟩
theorem tw3524098235985778642:True:=⟨⟩
theorem tw10778257398007356356:True:=⟨⟩
theorem tw8215218899014158298:True:=⟨⟩
theorem tw11553227610951103703:True:=⟨⟩
theorem tw16700976206241899182:True:=⟨⟩
theorem tw14290808652681180822:True:=⟨⟩
theorem tw7431071483133343201:True:=⟨⟩
theorem tw9727898867629961025:True:=⟨⟩
theorem tw15683381266627073285:True:=⟨⟩
theorem tw8833076273941101093:True:=⟨⟩
theorem tw4196393423479577868:True:=⟨⟩
theorem tw6689189255507054870:True:=⟨⟩
theorem tw1568176583608327912:True:=⟨⟩
theorem tw6260661996255513050:True:=⟨⟩
theorem tw17751491522835617783:True:=⟨⟩
theorem tw9245997241538941793:True:=⟨⟩
theorem tw12490851004243334186:True:=⟨⟩
theorem tw10399269158836301419:True:=⟨⟩
theorem tw1832163103742902951:True:=⟨⟩
theorem tw11208514307342485993:True:=⟨⟩
theorem tw17572664232416432392:True:=⟨⟩
theorem tw1217982260421290178:True:=⟨⟩
theorem tw4579804295832358174:True:=⟨⟩
theorem tw1138196578578568720:True:=⟨⟩
theorem tw4681496673448468028:True:=⟨⟩
theorem tw6856556789207211398:True:=⟨⟩
theorem tw12226495949588239790:True:=⟨⟩
theorem tw13139269007399879841:True:=⟨⟩
theorem tw16750753947152855640:True:=⟨⟩
theorem tw8456249457324297795:True:=⟨⟩
theorem tw18248714447093799921:True:=⟨⟩
theorem tw16276780924806821140:True:=⟨⟩
theorem tw7189640633241058354:True:=⟨⟩
theorem tw4908161503943488928:True:=⟨⟩
theorem tw16355798657162417590:True:=⟨⟩
end PySem.W.Fast
open PySem PySem.W PyProof.Rows
set_option maxRecDepth 100000 in
set_option maxHeartbeats 0 in
theorem PySem.Challenge.cw_leastlays_k37_dropped_and_turned_holds : PySem.Challenge.rw_leastlays_k37_dropped_and_turned.Holds := by
 w_on;o_law;k_head;(case hw=>w_witness2)
 k_fill
 refine L2.law_walk (l:=PySem.Challenge.rw_leastlays_k37_dropped_and_turned) 10 rfl rfl ⟨rfl,by decide,by decide⟩ (λw h Y=>PySem.W.kIn_of Y) ?F
 case F =>
  intro w mg fa h KX G hmg
  refine' K37.all_mk KX G hmg ?a1 ?l1 ?c_1 ?k1 ?a2 ?l2 ?c_2 ?k2 ?a3 ?l3 ?c_3 ?k3 ?a4 ?l4 ?c_4 ?k4 ?a5 ?l5 ?c_5 ?k5 ?a6 ?l6 ?c_6 ?k6 ?a7 ?l7 ?c_7 ?k7 ?a8 ?l8 ?c_8 ?k8 ?a9 ?l9 ?c_9 ?k9 ?a10 ?l10 ?c_10 ?k10 ?a11 ?l11 ?c_11 ?k11 ?a12 ?l12 ?c_12 ?k12 ?a13 ?l13 ?c_13 ?k13 ?a14 ?l14 ?c_14 ?k14 ?a15 ?l15 ?c_15 ?k15 ?a16 ?l16 ?c_16 ?k16 ?a17 ?l17 ?c_17 ?k17 ?a18 ?l18 ?c_18 ?k18 ?a19 ?l19 ?c_19 ?k19 ?a20 ?l20 ?c_20 ?k20 ?a21 ?l21 ?c_21 ?k21 ?a22 ?l22 ?c_22 ?k22 ?a23 ?l23 ?c_23 ?k23 ?a24 ?l24 ?c_24 ?k24 ?a25 ?l25 ?c_25 ?k25 ?a26 ?l26 ?c_26 ?k26 ?a27 ?l27 ?c_27 ?k27 ?a28 ?l28 ?c_28 ?k28 ?a29 ?l29 ?c_29 ?k29 ?a30 ?l30 ?c_30 ?k30 ?z1 ?z2 ?z3 ?z4 ?z5 ?z6 ?z7 ?z8 ?z9 ?z10 ?z11 ?z12 ?z13 ?z14 ?aD_TooMany ?aD_Finder ?q1 ?lx_TooMany ?tx_TooMany ?ok_TooMany ?in_TooMany ?be_TooMany ?pg_Finder ?hd_Finder ?po_Finder ?sa_Finder ?mk_Finder ?kc_Finder ?n_Finder_rows ?n_Finder_caps ?n_Finder_begun ?n_Finder_here ?n_Finder_found ?n_Finder_walked ?a_Finder___init__ ?i_Finder___init__ ?l_Finder___init__ ?c_Finder___init__ ?k_Finder___init__ ?a_Finder_step ?i_Finder_step ?l_Finder_step ?c_Finder_step ?k_Finder_step ?a_Finder_step_within ?i_Finder_step_within ?l_Finder_step_within ?c_Finder_step_within ?k_Finder_step_within ?a_Finder_level ?i_Finder_level ?l_Finder_level ?c_Finder_level ?k_Finder_level ?a_Finder_told ?i_Finder_told ?l_Finder_told ?c_Finder_told ?k_Finder_told ?a_Finder_paper ?i_Finder_paper ?l_Finder_paper ?c_Finder_paper ?k_Finder_paper ?a_Finder_ended ?i_Finder_ended ?l_Finder_ended ?c_Finder_ended ?k_Finder_ended
  (case a1|l1|c_1|k1|a2|l2|c_2|k2|a3|l3|c_3|k3|a4|l4|c_4|k4|a5|l5|c_5|k5|a6|l6|c_6|k6|a7|l7|c_7|k7|a8|l8|c_8|k8|a9|l9|c_9|k9|a10|l10|c_10|k10|a11|l11|c_11|k11|a12|l12|c_12|k12|a13|l13|c_13|k13|a14|l14|c_14|k14|a15|l15|c_15|k15|a16|l16|c_16|k16|a17|l17|c_17|k17|a18|l18|c_18|k18|a19|l19|c_19|k19|a20|l20|c_20|k20|a21|l21|c_21|k21|a22|l22|c_22|k22|a23|l23|c_23|k23|a24|l24|c_24|k24|a25|l25|c_25|k25|a26|l26|c_26|k26|a27|l27|c_27|k27|a28|l28|c_28|k28|a29|l29|c_29|k29|a30|l30|c_30|k30|z1|z2|z3|z4|z5|z6|z7|z8|z9|z10|z11|z12|z13|z14|aD_TooMany|aD_Finder=>(try unfold L2.FnL);k_is)
  (case q1|lx_TooMany|tx_TooMany|ok_TooMany|in_TooMany|be_TooMany=>first|k_is|kernel_rfl|rfl)
  (case pg_Finder|hd_Finder|po_Finder|sa_Finder|mk_Finder|kc_Finder|n_Finder_rows|n_Finder_caps|n_Finder_begun|n_Finder_here|n_Finder_found|n_Finder_walked|a_Finder___init__|i_Finder___init__|l_Finder___init__|c_Finder___init__|k_Finder___init__|a_Finder_step|i_Finder_step|l_Finder_step|c_Finder_step|k_Finder_step|a_Finder_step_within|i_Finder_step_within|l_Finder_step_within|c_Finder_step_within|k_Finder_step_within|a_Finder_level|i_Finder_level|l_Finder_level|c_Finder_level|k_Finder_level|a_Finder_told|i_Finder_told|l_Finder_told|c_Finder_told|k_Finder_told|a_Finder_paper|i_Finder_paper|l_Finder_paper|c_Finder_paper|k_Finder_paper|a_Finder_ended|i_Finder_ended|l_Finder_ended|c_Finder_ended|k_Finder_ended=>(try unfold L2.FnL);k_is)
#print axioms PySem.Challenge.cw_leastlays_k37_dropped_and_turned_holds
