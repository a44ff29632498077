import PyProof.Rows.All
import Wide.All
import OpenK.AllK
import Wide.FinOn
import Lean
import PyProof.EqAt
import PyProof.EqKinds
import PyProof.TupleCall
import PyProof.ZipIter
import PyProof.ExcArgsOwn
import PyProof.ExcAttrAll.ValueError
import KE.KSortTup
import PySem.SetTable
import PyProof.SetNew
import PyProof.TupleKey
import PyProof.DictRoadsH
import PyProof.DictKinds
import PyProof.IsRules
import PyProof.Rows.SetFrom
import PyProof.WalksMore
import KE.KDictSum
import PyProof.Rows.CallKwBuiltin
import PyProof.MinMaxWalk
import KE.KDictOf
import PyProof.AttrMissHeap
import PyProof.AutoSeq1
import PyProof.TupleOfSeq
import PyProof.ListRange
import KE.KRevIter
import PySem.Challenge.RW_leastlays_k25_fewest
set_option compiler.extract_closed false
set_option bootstrap.genMatcherCode false
set_option genSizeOf false
set_option Elab.async false
set_option linter.all false
set_option maxRecDepth 2000000
set_option maxHeartbeats 4000000
abbrev LLI:=List (List Int)
namespace L2
open PySem PySem.Spec PyProof.Rows
abbrev Key:=Sum Int Str
noncomputable def a8j:Key->Value->Bool
 |.inl k,v=>Value.isInt k v
 |.inr x,v=>Value.isStrOf x v
noncomputable def b1m(w:World):Key->Int
 |.inl k=>hashInt k
 |.inr x=>hashStr w x
theorem C0:∀{k:Key}{v:Value},a8j k v=true->(∃i t,k=Sum.inl i/\v=Value.int i t)∨(∃x t,k=Sum.inr x/\v=Value.str x t)
 |.inl i,v,h=>by
  obtain⟨t,e⟩:=Value.isInt_shape (k:=i) (v:=v) h;exact .inl ⟨i,t,rfl,e⟩
 |.inr x,v,h=>by
  obtain⟨t,e⟩:=Value.isStrOf_shape (x:=x) (v:=v) h;exact .inr ⟨x,t,rfl,e⟩
theorem a9J(a b:Int):decide ((Sum.inl a:Key)=Sum.inl b)=(a==b):=by
 by_cases e:a=b
 .subst e;simp
 .have h:¬(Sum.inl a:Key)=Sum.inl b:=λq=>e (Sum.inl.inj q);rw[decide_eq_false h];exact(beq_eq_false_iff_ne.mpr e).symm
theorem a9G(a b:Str):decide ((Sum.inr a:Key)=Sum.inr b)=decide (a=b):=by
 by_cases e:a=b
 .subst e;simp
 .have h:¬(Sum.inr a:Key)=Sum.inr b:=λq=>e (Sum.inr.inj q);rw[decide_eq_false h,decide_eq_false e]
theorem a9I(a:Int)(b:Str):decide ((Sum.inl a:Key)=Sum.inr b)=false:=decide_eq_false (λq=>nomatch q)
theorem a9H(a:Str)(b:Int):decide ((Sum.inr a:Key)=Sum.inl b)=false:=decide_eq_false (λq=>nomatch q)
noncomputable def a0Q(prog:Program)(w:World):PySem.KeyKind prog w Key where
 is:=a8j
 hash:=b1m w
 inj:=λv a b ha hb=>by
  rcases C0 ha with⟨i,t,rfl,rfl⟩|⟨x,t,rfl,rfl⟩
  .rcases C0 hb with⟨j,u,rfl,e⟩|⟨y,u,rfl,e⟩
   .injection e with e1 _;rw[e1]
   .exact nomatch e
  .rcases C0 hb with⟨j,u,rfl,e⟩|⟨y,u,rfl,e⟩
   .exact nomatch e
   .injection e with e1 _;rw[e1]
 byValue:=λk v h=>by
  rcases C0 h with⟨i,t,rfl,rfl⟩|⟨x,t,rfl,rfl⟩<;>rfl
 pyHash:=λhv h=>by
  rcases C0 hv with⟨i,t,rfl,rfl⟩|⟨x,t,rfl,rfl⟩
  .exact wpAny_pyHash_int h
  .exact wpAny_pyHash_str h
 eqBool:=λhu hv h=>by
  rcases C0 hu with⟨i,t,rfl,rfl⟩|⟨x,t,rfl,rfl⟩
  .rcases C0 hv with⟨j,u,rfl,rfl⟩|⟨y,u,rfl,rfl⟩
   .rw[a9J]at h;exact wpAny_eqBool_int h
   .rw[a9I]at h;exact SeqAt.EqAt.int_str i t y u _ _ _ _ h
  .rcases C0 hv with⟨j,u,rfl,rfl⟩|⟨y,u,rfl,rfl⟩
   .rw[a9H]at h;exact SeqAt.EqAt.str_int x t j u _ _ _ _ h
   .rw[a9G]at h;exact wpAny_eqBool_str h
 «strs»:=λk x t v h=>by
  rcases C0 h with⟨i,u,rfl,e⟩|⟨y,u,rfl,e⟩
  .exact nomatch e
  .injection e with e1 _
   subst e1;cases v<;>rfl
inductive V where
 |non|bl (b:Bool)|int (i:Int)|str (x:Str)|byt (b:Array UInt8)|flt (b:UInt64)|ref (a:Addr)|ty (n:String)
 deriving DecidableEq
def RelV:V->Value->Prop
 |.non,u=>u=Value.none
 |.bl b,u=>u=Value.bool b
 |.int i,u=>∃t,u=Value.int i t
 |.str x,u=>∃t,u=Value.str x t
 |.byt b,u=>∃t,u=Value.bytes b t
 |.flt b,u=>∃t,u=Value.float b t
 |.ref a,u=>u=Value.ref a
 |.ty n,u=>u=Value.type n
abbrev Vals:List V->List Value->Prop:=Paired RelV
theorem Vals.length{xs:List V}{us:List Value}(r:Vals xs us):xs.length=us.length:=Paired.length r
theorem Vals.get:∀{xs:List V}{us:List Value}{i:Nat}{x:V},Vals xs us->xs[i]?=some x->∃u,us[i]?=some u/\RelV x u
 |_,_,_,_,.nil,e=>by simp at e
 |_,_,0,_,.cons r _,e=>by simp at e;subst e;exact⟨_,rfl,r⟩
 |_,_,i+1,x,.cons _ t,e=>by
  obtain⟨u,h1,h2⟩:=Vals.get (i:=i) (x:=x) t (by simpa using e);exact⟨u,by simpa using h1,h2⟩
theorem Vals.set{x:V}{u:Value}(r:RelV x u):∀{xs:List V}{us:List Value}(i:Nat),Vals xs us->Vals (xs.set i x) (us.set i u)
 |_,_,_,.nil=>.nil
 |_,_,0,.cons _ t=>.cons r t
 |_,_,i+1,.cons q t=>.cons q (Vals.set r i t)
theorem Vals.append:∀{xs ys:List V}{us ws:List Value},Vals xs us->Vals ys ws->Vals (xs++ys) (us++ws)
 |_,_,_,_,.nil,s=>s
 |_,_,_,_,.cons r t,s=>.cons r (Vals.append t s)
theorem Vals.take:∀{xs:List V}{us:List Value}(n:Nat),Vals xs us->Vals (xs.take n) (us.take n)
 |_,_,0,_=>.nil
 |_,_,_+1,.nil=>.nil
 |_,_,n+1,.cons r t=>.cons r (Vals.take n t)
theorem Vals.drop:∀{xs:List V}{us:List Value}(n:Nat),Vals xs us->Vals (xs.drop n) (us.drop n)
 |_,_,0,r=>r
 |_,_,_+1,.nil=>.nil
 |_,_,n+1,.cons _ t=>Vals.drop n t
def RelO:Option V->Option Value->Prop
 |some v,some u=>RelV v u
 |none,none=>True
 |_,_=>False
def KV{κ:Type}:List (κ×V)->List (κ×Value)->Prop:=Paired λ(p:κ×V) (q:κ×Value)=>p.1=q.1/\RelV p.2 q.2
noncomputable def kV:Key->V
 |.inl i=>.int i
 |.inr x=>.str x
inductive HO where
 |lst (xs:List V)
 |tup (xs:List V)
 |dK (kvs:List (Key×V))|dT (kvs:List (List Key×V))
 |set (S:Int->Bool) (n:Nat)
 |ins (C dx:Addr) (fs:List (Str×V))
 |own (x:Addr)
 |xd (fs:List (Str×V))
 |met (f x:Addr)
 |rng (lo hi:Int)
 |frz (o:Obj) (u:HO)
 |tbl (ps:Array Value)
 |ext (φ:Heap->Prop)
abbrev Hp:=Addr->Option HO
noncomputable def upd(H:Hp)(a:Addr)(o:HO):Hp:=λb=>if b=a then some o else H b
theorem A0{H:Hp}{a:Addr}{o:HO}:upd H a o a=some o:=by unfold upd;rw[if_pos rfl]
theorem A3{H:Hp}{a b:Addr}{o:HO}(h:b≠a):upd H a o b=H b:=by unfold upd;rw[if_neg h]
theorem R5{H:Hp}{a b:Addr}{o u:HO}(h:H a=some o)(h':H b=some u)(d:o≠u):a≠b:=by
 intro e;subst e;rw[h]at h';exact d (Option.some.inj h')
theorem A6{H:Hp}{a b:Addr}{o:HO}(h:H a=some o)(h':H b=none):a≠b:=by
 intro e;subst e;rw[h]at h';cases h'
section
variable (P:Program) (w:World)
def ObjOk(H:Hp)(h:Heap)(a:Addr):HO->Prop
 |.lst xs=>xs.length<=sizeLine/\∃(its:List Value) (n:Nat),Vals xs its/\h.get? a=some {cls:=.type "list",data:=.seq its.toArray n}
 |.tup xs=>xs.length<=sizeLine/\∃its:List Value,Vals xs its/\IsTup h a its.toArray
 |.dK kvs=>kvs.length<=sizeLine/\(a==sysModules)=false/\∃vs,KV kvs vs/\h.DictOf (a0Q P w) a vs
 |.dT kvs=>kvs.length<=sizeLine/\(a==sysModules)=false/\∃xs:List (List Key×Addr×Value),
   Paired (λ(p:List Key×V) (q:List Key×Addr×Value)=>p.1=q.1/\H q.2.1=some (.tup (p.1.map kV))/\RelV p.2 q.2.2) kvs xs /\
   ∃o es ep,h.get? a=some o/\o.ExactDict/\o.data=.dict es ep/\es.toList=xs.map (entryOfKey (tupleKind (a0Q P w)))/\(xs.map (·.1)).Nodup
 |.set S n=>h.SetOf (intKind P w) a S n
 |.ins C dx fs=>H dx=some (.own a)/\fs.length<=1000/\dx≠a/\h.get? a=some (PySem.W.instObj C dx) /\
   ∃mA,h.Ns1 dx mA/\(∀f,RelO (fs.lookup f) (mA f))/\PySem.Within mA (fs.map (·.1))
 |.own _=>∃o,h.get? a=some o
 |.xd fs=>∃mA,h.Ns1 a mA/\∀f,RelO (fs.lookup f) (mA f)
 |.rng lo hi=>∃t u v,h.get? a=some {cls:=.type "range",data:=.fields #[.int lo t,.int hi u,.int 1 v]}
 |.frz o u=>h.get? a=some o/\ObjOk H h a u
 |.tbl ps=>h.get? a=some {cls:=.none,data:=.fields ps}
 |.met f x=>h.get? a=some (PySem.W.methodObj (.ref f) (.ref x))
 |.ext φ=>φ h/\(∃o,h.get? a=some o)/\∀h1 h2:Heap,φ h1->(∀o,h1.get? a=some o->h2.get? a=some o)->φ h2
def HOk(H:Hp)(h:Heap):Prop:=∀a o,H a=some o->ObjOk P w H h a o
end
section
variable {P:Program}{w:World}{H H':Hp}{h h':Heap}{a:Addr}{o:HO}
theorem ObjOk.lt(x:ObjOk P w H h a o):a<h.objs.size:=by
 cases o with
 |lst xs=>obtain⟨_,_,_,_,e⟩:=x;exact Heap.lt_size e
 |tup xs=>obtain⟨_,_,_,p⟩:=x;exact p.lt
 |dK kvs=>obtain⟨_,_,_,_,o,_,_,e,_⟩:=x;exact Heap.lt_size e
 |dT kvs=>obtain⟨_,_,_,_,o,_,_,e,_⟩:=x;exact Heap.lt_size e
 |set S n=>obtain⟨o,_,_,_,e,_⟩:=x;exact Heap.lt_size e
 |ins C dx fs=>obtain⟨_,_,_,e,_⟩:=x;exact Heap.lt_size e
 |own y=>obtain⟨_,e⟩:=x;exact Heap.lt_size e
 |xd fs=>obtain⟨_,⟨_,_,_,e,_⟩,_⟩:=x;exact Heap.lt_size e
 |rng lo hi=>obtain⟨_,_,_,e⟩:=x;exact Heap.lt_size e
 |frz ob u=>obtain⟨e,_⟩:=x;exact Heap.lt_size e
 |tbl ps=>exact Heap.lt_size (show h.get? a=some _ from x)
 |met f y=>exact Heap.lt_size (show h.get? a=some _ from x)
 |ext φ=>obtain⟨_,⟨_,e⟩,_⟩:=x;exact Heap.lt_size e
theorem Paired.mapP{α β:Type}{F G:α->β->Prop}:∀{l₁:List α}{l₂:List β},Paired F l₁ l₂->(∀a b,F a b->G a b)->Paired G l₁ l₂
 |_,_,.nil,_=>.nil
 |_,_,.cons r t,f=>.cons (f _ _ r) (Paired.mapP t f)
theorem ObjOk.stay(x:ObjOk P w H h a o)(k:∀b u,(b=a∨H b=some (.own a))->h.get? b=some u->h'.get? b=some u)
  (ho:∀b,H b=some (.own a)->H' b=some (.own a)) (ht:∀b xs,H b=some (.tup xs)->H' b=some (.tup xs)):ObjOk P w H' h' a o:=by
 induction o with
 |lst xs=>obtain⟨z,its,n,r,e⟩:=x;exact⟨z,its,n,r,k _ _ (.inl rfl) e⟩
 |tup xs=>obtain⟨z,its,r,ob,e,c⟩:=x;exact⟨z,its,r,ob,k _ _ (.inl rfl) e,c⟩
 |dK kvs=>obtain⟨z,y,vs,r,ob,es,ep,e,c⟩:=x;exact⟨z,y,vs,r,ob,es,ep,k _ _ (.inl rfl) e,c⟩
 |dT kvs =>
  obtain⟨z,y,xs,r,ob,es,ep,e,c⟩:=x;exact⟨z,y,xs,Paired.mapP r λp q z=>⟨z.1,ht _ _ z.2.1,z.2.2⟩,ob,es,ep,k _ _ (.inl rfl) e,c⟩
 |set S n=>obtain⟨ob,es,ep,t,e,c⟩:=x;exact⟨ob,es,ep,t,k _ _ (.inl rfl) e,c⟩
 |ins C dx fs =>
  obtain⟨d,z,ne,e,mA,⟨od,es,ep,e2,c⟩,r⟩:=x;exact⟨ho _ d,z,ne,k _ _ (.inl rfl) e,mA,⟨od,es,ep,k _ _ (.inr d) e2,c⟩,r⟩
 |own y=>obtain⟨ob,e⟩:=x;exact⟨ob,k _ _ (.inl rfl) e⟩
 |xd fs=>obtain⟨mA,⟨od,es,ep,e,c⟩,r⟩:=x;exact⟨mA,⟨od,es,ep,k _ _ (.inl rfl) e,c⟩,r⟩
 |rng lo hi=>obtain⟨t,u,v,e⟩:=x;exact⟨t,u,v,k _ _ (.inl rfl) e⟩
 |frz ob u ih=>obtain⟨e,q⟩:=x;exact⟨k _ _ (.inl rfl) e,ih q⟩
 |tbl ps =>
  have e:h.get? a=some {cls:=.none,data:=.fields ps}:=x;show h'.get? a=some {cls:=.none,data:=.fields ps};exact k a _ (.inl rfl) e
 |met f y =>
  have e:h.get? a=some (PySem.W.methodObj (.ref f) (.ref y)):=x;show h'.get? a=some (PySem.W.methodObj (.ref f) (.ref y));exact k a _ (.inl rfl) e
 |ext φ=>obtain⟨p,⟨o,e⟩,st⟩:=x;exact⟨st _ _ p λo q=>k _ _ (.inl rfl) q,⟨o,k _ _ (.inl rfl) e⟩,st⟩
theorem HOk.lt(x:HOk P w H h)(e:H a=some o):a<h.objs.size:=(x a o e).lt
theorem HOk.fresh(x:HOk P w H h)(e:h.objs.size<=a):H a=none:=by
 cases q:H a with
 |none=>rfl
 |some u=>exact absurd (Nat.lt_of_lt_of_le (x.lt q) e) (Nat.lt_irrefl _)
theorem HOk.kept(x:HOk P w H h)(k:∀b u,h.get? b=some u->h'.get? b=some u):HOk P w H h':=λa o e =>
 (x a o e).stay (λb u _ q=>k b u q) (λ_ q=>q) λ_ _ q=>q
theorem HOk.laid(x:HOk P w H h)(k:∀b u,h.get? b=some u->h'.get? b=some u)(hp:h.objs.size<=a)(new:ObjOk P w (upd H a o) h' a o):HOk P w (upd H a o) h':=λb u e=>by
 have hn:=x.fresh hp;by_cases hb:b=a
 .subst hb;rw[A0]at e;cases e;exact new
 .rw[A3 hb]at e;exact(x b u e).stay (λc v _ q=>k c v q) (λc q=>by rw[A3 (A6 q hn)];exact q) λc xs q=>by rw[A3 (A6 q hn)];exact q
end
def Rd(H:Hp)(a:Addr)(u:HO):Prop:=H a=some u∨∃o,H a=some (.frz o u)
theorem Rd.ok{P:Program}{w:World}{H:Hp}{h:Heap}{a:Addr}{u:HO}(r:Rd H a u)(x:HOk P w H h):ObjOk P w H h a u:=by
 rcases r with r|⟨o,r⟩
 .exact x a u r
 .obtain⟨_,q⟩:=x a _ r;exact q
def Mut:Option HO->Prop
 |some (.lst _)=>True
 |some (.dK _)=>True
 |some (.dT _)=>True
 |some (.set _ _)=>True
 |some (.ins _ _ _)=>True
 |some (.ext _)=>True
 |_=>False
section
variable {P:Program}{w:World}{H:Hp}{h h':Heap}{x e:Addr}{o':HO}
theorem HOk.write(ok:HOk P w H h)(mu:Mut (H x))(he:e=x∨H e=some (.own x))(k:∀b u,b≠e->h.get? b=some u->h'.get? b=some u)(heo:∃u,h'.get? e=some u)
  (new:ObjOk P w (upd H x o') h' x o'):HOk P w (upd H x o') h':=λb u q=>by
 have nown:∀c y,H c=some (.own y)->c≠x:=λc y r z=>by subst z;rw[r]at mu;exact mu
 have ntup:∀c xs,H c=some (.tup xs)->c≠x:=λc xs r z=>by subst z;rw[r]at mu;exact mu
 by_cases hb:b=x
 .subst hb;rw[A0]at q;cases q;exact new
 .rw[A3 hb]at q;by_cases hbe:b=e
  .have q':H b=some (.own x):=by
    rcases he with z|z
    .exact absurd (hbe.trans z) hb
    .rw[hbe];exact z
   rw[q]at q';cases q';obtain⟨v,hv⟩:=heo;exact⟨v,by rw[hbe];exact hv⟩
  .refine(ok b u q).stay (λc v hc r=>k c v ?_ r) (λc r=>by rw[A3 (nown c b r)];exact r) λc xs r=>by rw[A3 (ntup c xs r)];exact r
   rcases hc with rfl|hc
   .exact hbe
   .rintro rfl;rcases he with z|z
    .exact nown c b hc z
    .rw[hc]at z;cases z;exact hb rfl
end
structure Un(fs ex:List Addr)(H H':Hp)(h h':Heap):Prop where
 keep:∀b o,h.get? b=some o->H b=none->b∉fs->b∉ex->h'.get? b=some o
 slot:∀b o,h.get? b=some o->H b=none->b∈fs->b∉ex->∃sl,h'.get? b=some {o with slots:=sl}
 free:∀b o,h.get? b=some o->H b=none->b∉ex->H' b=none
 there:∀b o,h.get? b=some o->b∉ex->∃o',h'.get? b=some o'
 tups:∀b xs,H b=some (.tup xs)->H' b=some (.tup xs)
 frzs:∀b o u,H b=some (.frz o u)->H' b=some (.frz o u)
 tbls:∀b ps,H b=some (.tbl ps)->∃more,H' b=some (.tbl (ps++more))
section
variable {fs fs' ex ex':List Addr}{H H1 H2:Hp}{h h1 h2 h':Heap}{a x e:Addr}{o:HO}
theorem Un.any(u:Un fs ex H H1 h h1){b:Addr}{ob:Obj}(q:h.get? b=some ob)(n:H b=none)(hx:b∉ex):∃sl,h1.get? b=some {ob with slots:=sl}:=by
 by_cases hb:b∈fs
 .exact u.slot b ob q n hb hx
 .exact⟨ob.slots,u.keep b ob q n hb hx⟩
theorem Un.kept(k:∀b u,h.get? b=some u->h'.get? b=some u):Un fs ex H H h h' :=
 ⟨λb ob q _ _ _=>k b ob q,λb ob q _ _ _=>⟨ob.slots,k b ob q⟩,λ_ _ _ n _=>n,λb ob q _=>⟨ob,k b ob q⟩,λ_ _ q=>q,λ_ _ _ q=>q,λ_ ps q=>⟨#[],by rw[q];simp⟩⟩
theorem Un.refl:Un fs ex H H h h:=Un.kept λ_ _ q=>q
theorem Un.laid(k:∀b u,h.get? b=some u->h'.get? b=some u)(hp:h.objs.size<=a)(hn:H a=none):Un fs ex H (upd H a o) h h' where
 keep:=λb u q _ _ _=>k b u q
 slot:=λb u q _ _ _=>⟨u.slots,k b u q⟩
 free:=λb u q n _=>by rw[A3 (Nat.ne_of_lt (Nat.lt_of_lt_of_le (Heap.lt_size q) hp))];exact n
 there:=λb u q _=>⟨u,k b u q⟩
 tups:=λb xs q=>by rw[A3 (A6 q hn)];exact q
 frzs:=λb u xs q=>by rw[A3 (A6 q hn)];exact q
 tbls:=λb ps q=>⟨#[],by rw[A3 (A6 q hn),q];simp⟩
theorem Un.write(mu:Mut (H x))(he:e=x∨H e=some (.own x))(k:∀b u,b≠e->h.get? b=some u->h'.get? b=some u)(heo:∃u,h'.get? e=some u):Un fs ex H (upd H x o) h h':=by
 have hx:∀b,H b=none->b≠x:=λb n z=>by subst z;rw[n]at mu;exact mu
 have hb:∀b,H b=none->b≠e:=λb n z=>by
  subst z;rcases he with r|r
  .exact hx b n r
  .rw[n]at r;cases r
 have hm:∀b u,H b=some u->¬Mut (some u)->b≠x:=λb u q nm z=>by subst z;rw[q]at mu;exact nm mu
 refine⟨λb u q n _ _=>k b u (hb b n) q,λb u q n _ _=>⟨u.slots,k b u (hb b n) q⟩,λb u q n _=>by rw[A3 (hx b n)];exact n,λb u q _=>?_,
  λb xs q=>by rw[A3 (hm b _ q λz=>z)];exact q,λb u xs q=>by rw[A3 (hm b _ q λz=>z)];exact q,λb ps q=>⟨#[],by rw[A3 (hm b _ q λz=>z),q];simp⟩⟩
 by_cases hbe:b=e
 .subst hbe;exact heo
 .exact⟨u,k b u hbe q⟩
end
noncomputable def trk(h:Heap)(H:Hp):List Addr:=(List.range h.objs.size).filter λa=>(H a).isSome
noncomputable def a1a(h:Heap)(H:Hp):Heap:=PySem.W.hideAll h (trk h H)
theorem a3Q(h:Heap)(H:Hp):(a1a h H).objs.size=h.objs.size:=PySem.W.hideAll_size _ _
theorem a5L{h:Heap}{H:Hp}{b:Addr}{o:Obj}(e:h.get? b=some o)(n:H b=none):(a1a h H).get? b=some o :=
 PySem.W.hideAll_get _ e λhm=>by
  have q:(H b).isSome=true:=(List.mem_filter.mp hm).2;rw[n]at q;simp at q
theorem a7i{h:Heap}{H:Hp}{b:Addr}{o:Obj}(e:(a1a h H).get? b=some o):h.get? b=some o/\H b=none:=by
 have e':h.get? b=some o:=PySem.W.of_hideAll (trk h H) e;refine⟨e',?_⟩;cases q:H b with
 |none=>rfl
 |some x =>
  have hm:b∈trk h H:=List.mem_filter.mpr ⟨List.mem_range.mpr (Heap.lt_size e'),by simp[q]⟩;have z:(a1a h H).get? b=none:=PySem.W.hideAll_none (trk h H) hm;rw[z]at e;cases e
noncomputable def a7L(g h:Heap)(L:Addr):List (Addr×Obj):=(List.range h.objs.size).filterMap λa=>if a=L∨(g.get? a).isSome=true then none else(h.get? a).map λo=>(a,o)
noncomputable def rest(g h:Heap)(L d:Addr):List (Addr×Obj):=(a7L g h L).filter λp=>decide (p.1≠d)
structure Mod(K:PySem.W.Frag)(mg:Str->Option Value)(base:Heap):Prop where
 kin:K.In base
 glob:base.Ns mainGlobals mg
 blt:∃mb,base.Ns builtinsNs mb/\∀x:Str,x≠"__name__"->mb x=bootBuiltins x
 nolimit:base.NoLimit
structure Cx where
 prog:Program
 w:World
 K:PySem.W.Frag
 mg:Str->Option Value
 base:Heap
 A:Around
 N:List Str
 s₀:Shared
 H₀:Hp
 env:Env
 outer:List Env
 stack:List Env
 ex:List Addr
 fn:Str->Bool
 calm:Bool
 pn:List (Addr×Obj)
 xe:Value->Shared->Prop
noncomputable def frs(l:List Env):List Addr:=l.filterMap (·.frame)
noncomputable abbrev Cx.fs(X:Cx):List Addr:=frs X.outer
def Vis(sc:Scope)(x:Str):Prop:=sc.names.lookup x=some .local∨sc.names.lookup x=some .cell∨sc.names.lookup x=some .free
def Loc(sc:Scope)(x:Str):Prop:=sc.names.lookup x=some .local∨sc.names.lookup x=some .cell
def b1w(env:Env)(h:Heap)(m:Str->Option Value)(x:Str)(u:Value):Prop :=
 (env.kindOf x=some .local/\m x=some u)∨((env.kindOf x=some .cell∨env.kindOf x=some .free)/\∃c,env.cells.lookup x=some c/\h.IsCell c (some u))
structure Cx.Ok(X:Cx):Prop where
 mod:Mod X.K X.mg X.base
 kind:X.env.scope.kind=.function
 glob:X.env.globals=mainGlobals
 blt:X.env.builtins=builtinsNs
 above:X.s₀.heap.objs.size<=X.env.locals
 inj:∀x y c,X.env.cells.lookup x=some c->X.env.cells.lookup y=some c->x=y
 has:∀x,(X.env.kindOf x=some .cell∨X.env.kindOf x=some .free)->∃c,X.env.cells.lookup x=some c
 cab:∀x c,X.fn x=true->X.env.cells.lookup x=some c->X.s₀.heap.objs.size<=c
 hd:X.calm=true->X.A.handled=none
 frames:X.A.frames=some X.stack
 stk:X.stack=X.outer∨(X.stack=X.env::X.outer/\X.env.frame=some X.env.locals)
 exf:∀b∈X.ex,b≠X.env.locals/\∀x c,X.env.cells.lookup x=some c->c≠b
 bs:∀b o,X.base.get? b=some o->X.s₀.heap.get? b=some o/\X.H₀ b=none
 bsz:X.base.objs.size<=X.s₀.heap.objs.size
 noex:∀b o,X.base.get? b=some o->b∉X.ex
 exfs:∀b∈X.ex,b∉X.fs
 funs:X.s₀.heap.FunFrames X.base X.outer
 frf:∀b∈X.fs,X.H₀ b=none
structure Inv(X:Cx)(pins:List (Addr×Obj))(σ:List (Option V))(H:Hp)(s:Shared):Prop where
 ok:X.Ok
 os:s.os=X.s₀.os
 bare:AllBare s.gens
 base:Un X.fs X.ex X.H₀ H X.s₀.heap s.heap
 loc:∃m,s.heap.Ns X.env.locals m/\∀(i:Nat) (x:Str) (v:V),X.N[i]?=some x->σ[i]?=some (some v)->Vis X.env.scope x->∃u,RelV v u/\b1w X.env s.heap m x u
 cell:∀x c,X.env.cells.lookup x=some c->∃v,s.heap.IsCell c v
 free:H X.env.locals=none
 freeC:∀x c,X.env.cells.lookup x=some c->H c=none
 pin:∀p∈X.pn++pins,s.heap.get? p.1=some p.2/\H p.1=none/\p.1≠X.env.locals/\p.1∉X.fs/\∀v,p.2.data≠.cell v
 hok:HOk X.prog X.w H s.heap
 len:σ.length=X.N.length
section
variable {X:Cx}{pins:List (Addr×Obj)}{σ:List (Option V)}{H H':Hp}{s:Shared}{h':Heap}
theorem Cx.Ok.nofr(ok:X.Ok){b:Addr}{o:Obj}(e:X.base.get? b=some o):b∉X.fs:=λhb=>by
 have:=(ok.funs.mem hb).1;rw[e]at this;cases this
theorem Inv.bs(I:Inv X pins σ H s):∀b o,X.base.get? b=some o->s.heap.get? b=some o/\H b=none:=λb o e =>
 ⟨I.base.keep b o (I.ok.bs b o e).1 (I.ok.bs b o e).2 (I.ok.nofr e) (I.ok.noex b o e),I.base.free b o (I.ok.bs b o e).1 (I.ok.bs b o e).2 (I.ok.noex b o e)⟩
theorem Inv.bk(I:Inv X pins σ H s):∀b o,X.base.get? b=some o->s.heap.get? b=some o:=λb o e=>(I.bs b o e).1
theorem Inv.mod(I:Inv X pins σ H s):Mod X.K X.mg X.base:=I.ok.mod
theorem Inv.kIn(I:Inv X pins σ H s):X.K.In s.heap:=I.ok.mod.kin.keeps I.bk
theorem Inv.lt(I:Inv X pins σ H s):X.env.locals<s.heap.objs.size:=let ⟨_,hn,_⟩:=I.loc;hn.lt
theorem Inv.sz(I:Inv X pins σ H s):X.s₀.heap.objs.size<=s.heap.objs.size:=Nat.le_trans I.ok.above (Nat.le_of_lt I.lt)
theorem Inv.nofs(I:Inv X pins σ H s){a:Addr}(h:s.heap.objs.size<=a):a∉X.fs:=λhb=>by
 obtain⟨_,o,ho,_⟩:=I.ok.funs.mem hb;exact absurd (Nat.lt_of_lt_of_le (Heap.lt_size ho) (Nat.le_trans I.sz h)) (Nat.lt_irrefl _)
theorem Inv.cne(I:Inv X pins σ H s):∀x c,X.env.cells.lookup x=some c->c≠X.env.locals:=λx c e z=>by
 obtain⟨v,o,ho,hd⟩:=I.cell x c e;obtain⟨m,⟨o',es,ep,ho',hd',_⟩,_⟩:=I.loc;rw[z,ho']at ho;cases ho;rw[hd']at hd;cases hd
theorem Inv.funs(I:Inv X pins σ H s):s.heap.FunFrames X.base X.outer:=by
 have all:∀(l:List Env),(∀b∈frs l,b∈X.fs)->X.s₀.heap.FunFrames X.base l->s.heap.FunFrames X.base l:=by
  intro l;induction l with
  |nil=>intro _ _;trivial
  |cons env r ih =>
   intro hs hl;obtain⟨hk,⟨L,o,hf,hn,ho,hd⟩,hr⟩:=hl;have hL:L∈X.fs:=hs L (by unfold frs;rw[List.filterMap_cons,hf];exact List.mem_cons_self);obtain⟨sl,e⟩:=I.base.slot L o ho (I.ok.frf L hL) hL λz=>I.ok.exfs L z hL;exact⟨hk,⟨L,_,hf,hn,e,hd⟩,ih (λb hb=>hs b (by unfold frs;rw[List.filterMap_cons,hf];exact List.mem_cons_of_mem _ hb)) hr⟩
 exact all X.outer (λ_ hb=>hb) I.ok.funs
theorem Inv.stack(I:Inv X pins σ H s):s.heap.FunFrames X.base X.stack:=by
 rcases I.ok.stk with e|⟨e,hf⟩
 .rw[e];exact I.funs
 .rw[e];obtain⟨m,hn,_⟩:=I.loc;refine .cons (by rw[I.ok.kind];decide) hf hn ?_ I.funs;exact Heap.get?_none_of_le (Nat.le_trans I.ok.bsz I.ok.above)
theorem Inv.stkSub(I:Inv X pins σ H s):∀b∈frs X.stack,b∈X.env.locals::X.fs:=λb hb=>by
 rcases I.ok.stk with e|⟨e,hf⟩
 .rw[e]at hb;exact List.mem_cons_of_mem _ hb
 .rw[e]at hb;unfold frs at hb;rw[List.filterMap_cons,hf]at hb;exact hb
theorem Inv.stkFree(I:Inv X pins σ H s):∀b∈frs X.stack,H b=none:=λb hb=>by
 rcases List.mem_cons.mp (I.stkSub b hb)with e|hb
 .rw[e];exact I.free
 .obtain⟨_,o,ho,_⟩:=I.ok.funs.mem hb;exact I.base.free b o ho (I.ok.frf b hb) λz=>I.ok.exfs b z hb
theorem Inv.step{g':Array GenState}{t':Nat}{d':Drawn}{ch:List Addr}(I:Inv X pins σ H s)
  (hch:∀b∈ch,(b∈X.ex∨X.s₀.heap.objs.size<=b)/\b≠X.env.locals/\(∀x c,X.env.cells.lookup x=some c->c≠b)/\∀p∈X.pn++pins,p.1≠b)
  (keep:∀b o,b≠X.env.locals->b∉X.fs->b∉ch->s.heap.get? b=some o->H b=none->h'.get? b=some o)
  (slot:∀b o,b≠X.env.locals->b∈X.fs->b∉ch->s.heap.get? b=some o->H b=none->∃sl,h'.get? b=some {o with slots:=sl}) (free:∀b o,b∉ch->s.heap.get? b=some o->H b=none->H' b=none)
  (there:∀b o,b∉ch->s.heap.get? b=some o->∃o',h'.get? b=some o')
  (tups:∀b xs,H b=some (.tup xs)->H' b=some (.tup xs)) (frzs:∀b o u,H b=some (.frz o u)->H' b=some (.frz o u)) (tbls:∀b ps,H b=some (.tbl ps)->∃more,H' b=some (.tbl (ps++more)))
  (ns:∀m,s.heap.Ns X.env.locals m->h'.Ns X.env.locals m) (hok:HOk X.prog X.w H' h') (hg:AllBare g') :
  Inv X pins σ H' {s with heap:=h',gens:=g',drawn:=d',toks:=t'}:=by
 have neL:∀b o,X.s₀.heap.get? b=some o->b≠X.env.locals:=λb o e=>Nat.ne_of_lt (Nat.lt_of_lt_of_le (Heap.lt_size e) I.ok.above);have neC:∀b o,X.s₀.heap.get? b=some o->b∉X.ex->b∉ch:=λb o e hx hb=>by
  rcases(hch b hb).1 with z|z
  .exact hx z
  .exact absurd (Nat.lt_of_lt_of_le (Heap.lt_size e) z) (Nat.lt_irrefl _)
 have cellK:∀x c,X.env.cells.lookup x=some c->∀v,s.heap.IsCell c v->h'.IsCell c v:=λx c e v ⟨o,ho,hd⟩=>by
  have nch:c∉ch:=λz=>(hch c z).2.2.1 x c e rfl;by_cases hc:c∈X.fs
  .obtain⟨sl,q⟩:=slot c o (I.cne x c e) hc nch ho (I.freeC x c e);exact⟨_,q,hd⟩
  .exact⟨o,keep c o (I.cne x c e) hc nch ho (I.freeC x c e),hd⟩
 refine⟨I.ok,I.os,hg,⟨λb o e n hb hx=>?_,λb o e n hb hx=>?_,λb o e n hx=>?_,λb o e hx=>?_,λb xs e=>tups b xs (I.base.tups b xs e),λb o xs e=>frzs b o xs (I.base.frzs b o xs e),λb ps e=>?_⟩,?_,λx c e=>?_,?_,λx c e=>?_,λp hp=>?_,hok,I.len⟩
 .exact keep b o (neL b o e) hb (neC b o e hx) (I.base.keep b o e n hb hx) (I.base.free b o e n hx)
 .obtain⟨sl,e1⟩:=I.base.slot b o e n hb hx;obtain⟨sl',e2⟩:=slot b _ (neL b o e) hb (neC b o e hx) e1 (I.base.free b o e n hx);exact⟨sl',e2⟩
 .obtain⟨o',e1⟩:=I.base.there b o e hx;exact free b o' (neC b o e hx) e1 (I.base.free b o e n hx)
 .obtain⟨o',e1⟩:=I.base.there b o e hx;exact there b o' (neC b o e hx) e1
 .obtain⟨m1,e1⟩:=I.base.tbls b ps e;obtain⟨m2,e2⟩:=tbls b _ e1;exact⟨m1++m2,by rw[e2,Array.append_assoc]⟩
 .obtain⟨m,hn,hl⟩:=I.loc;refine⟨m,ns m hn,λi x v e1 e2 e3=>?_⟩;obtain⟨u,r,l⟩:=hl i x v e1 e2 e3;refine⟨u,r,?_⟩;rcases l with l|⟨k,c,e,z⟩
  .exact .inl l
  .exact .inr ⟨k,c,e,cellK x c e _ z⟩
 .obtain⟨v,z⟩:=I.cell x c e;exact⟨v,cellK x c e v z⟩
 .obtain⟨m,⟨o,_,_,ho,_⟩,_⟩:=I.loc;exact free _ o (λz=>(hch _ z).2.1 rfl) ho I.free
 .obtain⟨v,o,ho,hd⟩:=I.cell x c e;exact free c o (λz=>(hch c z).2.2.1 x c e rfl) ho (I.freeC x c e)
 .obtain⟨e,n,ne,nf,d⟩:=I.pin p hp;have nch:p.1∉ch:=λz=>(hch p.1 z).2.2.2 p hp rfl;exact⟨keep p.1 p.2 ne nf nch e n,free p.1 p.2 nch e n,ne,nf,d⟩
theorem Inv.un{t':Nat}(I:Inv X pins σ H s)(u:Un X.fs [] H H' s.heap h')(hok:HOk X.prog X.w H' h'):Inv X pins σ H' {s with heap:=h',toks:=t'}:=by
 obtain⟨m,⟨o,es,ep,ho,r⟩,_⟩:=id I.loc;obtain⟨sl,hL⟩:=u.any ho I.free (by simp);exact I.step (g':=s.gens) (d':=s.drawn) (ch:=[]) (λ_ z=>nomatch z) (λb o _ hb _ e n=>u.keep b o e n hb (by simp)) (λb o _ hb _ e n=>u.slot b o e n hb (by simp)) (λb o _ e n=>u.free b o e n (by simp)) (λb o _ e=>u.there b o e (by simp)) u.tups u.frzs u.tbls (λm' hm=>by
  obtain⟨o',es',ep',ho',r'⟩:=hm;rw[ho]at ho';cases ho';exact⟨_,es',ep',hL,r'⟩) hok I.bare
theorem Inv.call{g':Array GenState}{t':Nat}{d':Drawn}{ch:List Addr}(I:Inv X pins σ H s)(u:Un (frs X.stack) ch H H' s.heap h')(hok:HOk X.prog X.w H' h')(hg:AllBare g')
  (hch:∀b∈ch,(b∈X.ex∨X.s₀.heap.objs.size<=b)/\b≠X.env.locals/\(∀x c,X.env.cells.lookup x=some c->c≠b)/\∀p∈X.pn++pins,p.1≠b) :
  Inv X pins σ H' {s with heap:=h',gens:=g',drawn:=d',toks:=t'}:=by
 obtain⟨m,⟨o,es,ep,ho,r⟩,_⟩:=id I.loc;obtain⟨sl,hL⟩:=u.any ho I.free λz=>(hch _ z).2.1 rfl;exact I.step (ch:=ch) hch (λb o hL hb hc e n=>u.keep b o e n (λz=>(List.mem_cons.mp (I.stkSub b z)).elim hL hb) hc) (λb o _ _ hc e n=>u.any e n hc) (λb o hc e n=>u.free b o e n hc) (λb o hc e=>u.there b o e hc) u.tups u.frzs u.tbls (λm' hm=>by
  obtain⟨o',es',ep',ho',r'⟩:=hm;rw[ho]at ho';cases ho';exact⟨_,es',ep',hL,r'⟩) hok hg
theorem Inv.turned{t':Nat}{it:Addr}(I:Inv X pins σ H s)(k:∀b o,b≠it->s.heap.get? b=some o->h'.get? b=some o)(hn:H it=none)(hL:it≠X.env.locals)
  (h1:it∈X.ex∨X.s₀.heap.objs.size<=it) (h2:∀x c,X.env.cells.lookup x=some c->c≠it) (h3:∀p∈X.pn++pins,p.1≠it):Inv X pins σ H {s with heap:=h',toks:=t'}:=by
 have nit:∀b u,H b=some u->b≠it:=λb u e z=>by rw[z,hn]at e;cases e
 refine I.step (g':=s.gens) (d':=s.drawn) (ch:=[it]) (λb hb=>?_) (λb o _ _ hc e _=>k b o (λz=>hc (by simp[z])) e) (λb o _ _ hc e _=>⟨o.slots,k b o (λz=>hc (by simp[z])) e⟩) (λ_ _ _ _ n=>n)
  (λb o hc e=>⟨o,k b o (λz=>hc (by simp[z])) e⟩) (λ_ _ e=>e) (λ_ _ _ e=>e) (λb ps e=>⟨#[],by rw[e];simp⟩) (λm hm=>?_) (λb u e=>?_) I.bare
 .have e:b=it:=by simpa using hb
  subst e;exact⟨h1,hL,h2,h3⟩
 .obtain⟨o,es,ep,ho,r⟩:=hm;exact⟨o,es,ep,k _ o (Ne.symm hL) ho,r⟩
 .refine(I.hok b u e).stay (λc v hc q=>k c v ?_ q) (λ_ q=>q) λ_ _ q=>q;rcases hc with z|z
  .rw[z];exact nit b u e
  .exact nit c _ z
theorem Inv.tok(I:Inv X pins σ H s)(t:Nat):Inv X pins σ H {s with toks:=t}:=I.un (h':=s.heap) (t':=t) Un.refl I.hok
theorem Inv.kept{t':Nat}(I:Inv X pins σ H s)(k:∀b u,s.heap.get? b=some u->h'.get? b=some u):Inv X pins σ H {s with heap:=h',toks:=t'}:=I.un (Un.kept k) (I.hok.kept k)
theorem Inv.laid{a:Addr}{o:HO}{t':Nat}(I:Inv X pins σ H s)(k:∀b u,s.heap.get? b=some u->h'.get? b=some u)(hp:s.heap.objs.size<=a)(new:ObjOk X.prog X.w (upd H a o) h' a o) :
  Inv X pins σ (upd H a o) {s with heap:=h',toks:=t'}:=I.un (Un.laid k hp (I.hok.fresh hp)) (I.hok.laid k hp new)
theorem Inv.write{x e:Addr}{o:HO}{t':Nat}(I:Inv X pins σ H s)(mu:Mut (H x))(he:e=x∨H e=some (.own x))(k:∀b u,b≠e->s.heap.get? b=some u->h'.get? b=some u)(heo:∃u,h'.get? e=some u)
  (new:ObjOk X.prog X.w (upd H x o) h' x o):Inv X pins σ (upd H x o) {s with heap:=h',toks:=t'}:=I.un (Un.write mu he k heo) (I.hok.write mu he k heo new)
theorem Inv.weak{σ':List (Option V)}(I:Inv X pins σ H s)(hl:σ'.length=σ.length)(w:∀(i:Nat) v,σ'[i]?=some (some v)->σ[i]?=some (some v)):Inv X pins σ' H s :=
 ⟨I.ok,I.os,I.bare,I.base,let ⟨m,hn,hl'⟩:=I.loc;⟨m,hn,λi x v e1 e2 e3=>hl' i x v e1 (w i v e2) e3⟩,I.cell,I.free,I.freeC,I.pin,I.hok,hl.trans I.len⟩
theorem Inv.pins_of{pins':List (Addr×Obj)}(I:Inv X pins σ H s)(h:∀p∈pins',s.heap.get? p.1=some p.2/\H p.1=none/\p.1≠X.env.locals/\p.1∉X.fs/\∀v,p.2.data≠.cell v):Inv X pins' σ H s :=
 ⟨I.ok,I.os,I.bare,I.base,I.loc,I.cell,I.free,I.freeC,λp hp=>(List.mem_append.mp hp).elim (λz=>I.pin p (List.mem_append_left _ z)) (h p),I.hok,I.len⟩
theorem X2{N:List Str}(hN:N.Nodup){i j:Nat}{x:Str}(a:N[i]?=some x)(b:N[j]?=some x):i=j:=by
 obtain⟨h1,e1⟩:=List.getElem?_eq_some_iff.mp a;obtain⟨h2,e2⟩:=List.getElem?_eq_some_iff.mp b;exact(List.getElem_inj hN).mp (e1.trans e2.symm)
theorem a0e{M:Model}{A:Around}{E:Value->Shared->Prop}{i:Nat}{x:Str}{v:V}{u:Value}{Q:Unit->Shared->Prop}(I:Inv X pins σ H s)(hN:X.N.Nodup)(hi:X.N[i]?=some x)(hx:Loc X.env.scope x)(r:RelV v u)
  (h:∀s',Inv X pins (σ.set i (some v)) H s'->(∃a,Heap.SameBut a s.heap s'.heap/\(a=X.env.locals∨X.env.cells.lookup x=some a))->Q () s') (hf:X.fn x=true∨X.env.scope.names.lookup x=some .local:=by first|exact .inl rfl|exact .inr rfl|assumption):wpAny M A (storeName X.env x u) Q E s:=by
 obtain⟨m,hn,hl⟩:=id I.loc;have hcls:(X.env.scope.kind==.class || (X.env.scope.kind==.module && X.env.locals != X.env.globals))=false:=by rw[I.ok.kind];rfl
 have hiσ:i<σ.length:=by rw[I.len];exact(List.getElem?_eq_some_iff.mp hi).1
 have cne:=I.cne;have tracked:∀{a:Addr}{h':Heap},(∃o,s.heap.get? a=some o/\H a=none)->Heap.SameBut a s.heap h'->HOk X.prog X.w H h':=λ{a h'} ha hs b ob e=>by
  obtain⟨_,_,hfree⟩:=ha;refine(I.hok b ob e).stay (λc w' hc q=>(hs.2 c ?_).trans q) (λ_ q=>q) λ_ _ q=>q;rintro rfl;rcases hc with rfl|hc
  .rw[hfree]at e;cases e
  .rw[hfree]at hc;cases hc
 rcases hx with hk|hk
 .refine wpAny_storeName_local hk hn (λh' hn' hs=>?_) hcls;obtain⟨oL,_,_,hoL,_⟩:=id hn;refine h _ ⟨I.ok,I.os,I.bare,⟨λb o e n hb hx=>?_,λb o e n hb hx=>?_,I.base.free,λb o e hx=>?_,I.base.tups,I.base.frzs,I.base.tbls⟩,⟨_,hn',λj y v' e1 e2 e3=>?_⟩,λy c e=>?_,I.free,I.freeC,λp hp=>?_,tracked ⟨oL,hoL,I.free⟩ hs,by simpa using I.len⟩ ⟨_,hs,.inl rfl⟩
  .exact(hs.2 b (Nat.ne_of_lt (Nat.lt_of_lt_of_le (Heap.lt_size e) I.ok.above))).trans (I.base.keep b o e n hb hx)
  .obtain⟨sl,e1⟩:=I.base.slot b o e n hb hx;exact⟨sl,(hs.2 b (Nat.ne_of_lt (Nat.lt_of_lt_of_le (Heap.lt_size e) I.ok.above))).trans e1⟩
  .obtain⟨o',e1⟩:=I.base.there b o e hx;exact⟨o',(hs.2 b (Nat.ne_of_lt (Nat.lt_of_lt_of_le (Heap.lt_size e) I.ok.above))).trans e1⟩
  .by_cases hj:j=i
   .subst hj;rw[hi]at e1;cases e1;rw[List.getElem?_set_self hiσ]at e2;cases e2;exact⟨u,r,.inl ⟨hk,by simp⟩⟩
   .rw[List.getElem?_set_ne (Ne.symm hj)]at e2;obtain⟨u',r',q⟩:=hl j y v' e1 e2 e3;refine⟨u',r',?_⟩;rcases q with⟨k,e⟩|⟨k,c,e,z⟩
    .refine .inl ⟨k,?_⟩;have:y≠x:=λe=>hj (X2 hN e1 (e ▸ hi));simp[this,e]
    .exact .inr ⟨k,c,e,z.sameBut hs (cne y c e)⟩
  .obtain⟨w',z⟩:=I.cell y c e;exact⟨w',z.sameBut hs (cne y c e)⟩
  .obtain⟨e,n,ne,nf,d⟩:=I.pin p hp;exact⟨(hs.2 p.1 ne).trans e,n,ne,nf,d⟩
 .have hfn:X.fn x=true:=by
   rcases hf with z|z
   .exact z
   .rw[z]at hk;cases hk
  obtain⟨c,hc⟩:=I.ok.has x (.inl hk);obtain⟨w',z⟩:=I.cell x c hc;refine wpAny_storeName_cell I.ok.kind hk hc z (λh' hc' hs=>?_);obtain⟨oc,hoc,hocd⟩:=id z;refine h {s with heap:=h'} ⟨I.ok,I.os,I.bare,⟨λb o e n hb hx=>?_,λb o e n hb hx=>?_,I.base.free,λb o e hx=>?_,I.base.tups,I.base.frzs,I.base.tbls⟩,⟨m,hn.sameBut hs (Ne.symm (cne x c hc)),λj y v' e1 e2 e3=>?_⟩,λy c' e=>?_,I.free,I.freeC,λp hp=>?_,tracked ⟨oc,hoc,I.freeC x c hc⟩ hs,by simpa using I.len⟩ ⟨c,hs,.inr hc⟩
  .exact(hs.2 b (Nat.ne_of_lt (Nat.lt_of_lt_of_le (Heap.lt_size e) (I.ok.cab x c hfn hc)))).trans (I.base.keep b o e n hb hx)
  .obtain⟨sl,e1⟩:=I.base.slot b o e n hb hx;exact⟨sl,(hs.2 b (Nat.ne_of_lt (Nat.lt_of_lt_of_le (Heap.lt_size e) (I.ok.cab x c hfn hc)))).trans e1⟩
  .obtain⟨o',e1⟩:=I.base.there b o e hx;exact⟨o',(hs.2 b (Nat.ne_of_lt (Nat.lt_of_lt_of_le (Heap.lt_size e) (I.ok.cab x c hfn hc)))).trans e1⟩
  .by_cases hj:j=i
   .subst hj;rw[hi]at e1;cases e1;rw[List.getElem?_set_self hiσ]at e2;cases e2;exact⟨u,r,.inr ⟨.inl hk,c,hc,hc'⟩⟩
   .rw[List.getElem?_set_ne (Ne.symm hj)]at e2;obtain⟨u',r',q⟩:=hl j y v' e1 e2 e3;refine⟨u',r',?_⟩;rcases q with q|⟨k,c',e,z'⟩
    .exact .inl q
    .refine .inr ⟨k,c',e,z'.sameBut hs ?_⟩;rintro rfl;exact hj (X2 hN e1 (I.ok.inj _ _ _ e hc ▸ hi))
  .by_cases hcc:c'=c
   .subst hcc;exact⟨_,hc'⟩
   .obtain⟨w2,z2⟩:=I.cell y c' e;exact⟨w2,z2.sameBut hs hcc⟩
  .obtain⟨e,n,ne,nf,d⟩:=I.pin p hp;refine⟨(hs.2 p.1 ?_).trans e,n,ne,nf,d⟩;intro q;rw[q,hoc]at e;have q':oc=p.2:=Option.some.inj e;exact d w' (by rw[<-q'];exact hocd)
theorem N2{M:Model}{A:Around}{E:Value->Shared->Prop}{i:Nat}{x:Str}{v:V}{u:Value}{Q:Unit->Shared->Prop}(I:Inv X pins σ H s)(hN:X.N.Nodup)(hi:X.N[i]?=some x)(hx:Loc X.env.scope x)(r:RelV v u)
  (h:∀s',Inv X pins (σ.set i (some v)) H s'->Q () s') (hf:X.fn x=true∨X.env.scope.names.lookup x=some .local:=by first|exact .inl rfl|exact .inr rfl|assumption):wpAny M A (storeName X.env x u) Q E s :=
 a0e I hN hi hx r (λs' I' _=>h s' I') hf
theorem Inv.call'{s':Shared}{ch:List Addr}(I:Inv X pins σ H s)(ho:s'.os=s.os)(u:Un (frs X.stack) ch H H' s.heap s'.heap)(hok:HOk X.prog X.w H' s'.heap)(hg:AllBare s'.gens)
  (hch:∀b∈ch,(b∈X.ex∨X.s₀.heap.objs.size<=b)/\b≠X.env.locals/\(∀x c,X.env.cells.lookup x=some c->c≠b)/\∀p∈X.pn++pins,p.1≠b):Inv X pins σ H' s':=by
 obtain⟨h',g',d',t',o'⟩:=s';have e:o'=s.os:=ho;subst e;exact I.call (g':=g') (t':=t') (d':=d') u hok hg hch
end
abbrev XK:=Value->Option Addr->Hp->Prop
abbrev St:=List (Option V)
abbrev VK:=V->Hp->Prop
abbrev TE:=St->Hp->VK->Prop
abbrev TT:=St->Hp->(Bool->Hp->Prop)->Prop
abbrev TA:=St->Hp->(List V->Hp->Prop)->Prop
structure Ends where
 nx:St->Hp->Prop
 rt:VK
 bk:St->Hp->Prop:=λ_ _=>False
 ct:St->Hp->Prop:=λ_ _=>False
abbrev TS:=Ends->St->Hp->Prop
def EP(X:Cx)(pins:List (Addr×Obj))(σ:St)(Q:VK)(u:Value)(s':Shared):Prop:=∃v H',Inv X pins σ H' s'/\RelV v u/\Q v H'
def TP(X:Cx)(pins:List (Addr×Obj))(σ:St)(Q:Bool->Hp->Prop)(b:Bool)(s':Shared):Prop:=∃H',Inv X pins σ H' s'/\Q b H'
def AP(X:Cx)(pins:List (Addr×Obj))(σ:St)(Q:List V->Hp->Prop)(us:List Value)(s':Shared):Prop:=∃vs H',Inv X pins σ H' s'/\Vals vs us/\Q vs H'
def SP(X:Cx)(pins:List (Addr×Obj))(D:Ends)(f:Flow)(s':Shared):Prop :=
 match f with
 |.next=>∃σ' H',Inv X pins σ' H' s'/\D.nx σ' H'
 |.brk=>∃σ' H',Inv X pins σ' H' s'/\D.bk σ' H'
 |.cont=>∃σ' H',Inv X pins σ' H' s'/\D.ct σ' H'
 |.ret u=>∃v σ' H',Inv X pins σ' H' s'/\RelV v u/\D.rt v H'
def PE(X:Cx)(e:Expr)(t:TE):Prop :=
 ∀(pins:List (Addr×Obj)) (s:Shared) (σ:St) (H:Hp) (Q:VK),Inv X pins σ H s->t σ H Q->wpAny (model X.prog X.w) X.A (eval e X.env) (EP X pins σ Q) X.xe s
def PT(X:Cx)(e:Expr)(t:TT):Prop :=
 ∀(pins:List (Addr×Obj)) (s:Shared) (σ:St) (H:Hp) (Q:Bool->Hp->Prop),Inv X pins σ H s->t σ H Q->wpAny (model X.prog X.w) X.A (isTrue e X.env (eval e X.env)) (TP X pins σ Q) X.xe s
def PW(X:Cx)(e:Expr)(t:TT):Prop :=
 ∀(whole:Sem Value) (pins:List (Addr×Obj)) (s:Shared) (σ:St) (H:Hp) (Q:Bool->Hp->Prop),Inv X pins σ H s->t σ H Q->wpAny (model X.prog X.w) X.A (isTrue e X.env whole) (TP X pins σ Q) X.xe s
theorem PW.pt{X:Cx}{e:Expr}{t:TT}(h:PW X e t):PT X e t:=h _
def PA(X:Cx)(es:List Expr)(t:TA):Prop :=
 ∀(pos:Pos) (pins:List (Addr×Obj)) (s:Shared) (σ:St) (H:Hp) (Q:List V->Hp->Prop),Inv X pins σ H s->t σ H Q->wpAny (model X.prog X.w) X.A (spliced (backTo pos (starEach es X.env))) (AP X pins σ Q) X.xe s
def PS(X:Cx)(st:Stmt)(t:TS):Prop :=
 ∀(pins:List (Addr×Obj)) (s:Shared) (σ:St) (H:Hp) (D:Ends),Inv X pins σ H s->t D σ H->wpAny (model X.prog X.w) X.A (exec st X.env) (SP X pins D) X.xe s
def PSs(X:Cx)(st:List Stmt)(t:TS):Prop :=
 ∀(pins:List (Addr×Obj)) (s:Shared) (σ:St) (H:Hp) (D:Ends),Inv X pins σ H s->t D σ H->wpAny (model X.prog X.w) X.A (execs st X.env) (SP X pins D) X.xe s
theorem thn{α:Type}{t:Sem α}{Q Q':α->Shared->Prop}{M:Model}{A:Around}{E:Value->Shared->Prop}{s:Shared}(h:wpAny M A t Q E s)(hQ:∀a s,Q a s->Q' a s):wpAny M A t Q' E s:=wpAny_mono h hQ λ_ _ x=>x
section
variable {X:Cx}
def a1q(i:Nat):TE:=λσ H Q=>∃v,σ[i]?=some (some v)/\Q v H
def tC(v:V):TE:=λ_ H Q=>Q v H
theorem a9d{i:Nat}{x:Str}{pos:Pos}(hN:X.N[i]?=some x)(hv:Vis X.env.scope x)(hd:(x==("__debug__" : Str))=false:=by decide)(hcd:(x==("__classdict__" : Str))=false:=by decide):PE X (.Name x pos) (a1q i):=by
 intro pins s σ H Q I h;obtain⟨v,e,h⟩:=h;obtain⟨m,hn,hl⟩:=I.loc;obtain⟨u,r,l⟩:=hl i x v hN e hv;have fin:EP X pins σ Q u s:=⟨v,H,I,r,h⟩;rcases l with⟨hk,hm⟩|⟨hk,c,hc,hcell⟩
 .exact wpAny_Name (wpAny_loadName_local I.ok.kind hk hn hm fin) hd
 .rcases hk with hk|hk
  .exact wpAny_Name (wpAny_loadName_cell I.ok.kind hk hc hcell fin) hd
  .exact wpAny_Name (wpAny_loadName_free I.ok.kind hk hc hcell fin hcd) hd
theorem a9k{i j pos}:PE X (.Constant (.int i) j pos) (tC (.int i)):=λ_ _ _ H _ I h=>wpAny_Constant_int ⟨.int i,H,I.tok _,⟨_,rfl⟩,h⟩
theorem b0I{b j pos}:PE X (.Constant (.bool b) j pos) (tC (.bl b)):=λ_ _ _ H _ I h=>Constant_bool ⟨.bl b,H,I,rfl,h⟩
theorem a9i{j pos}:PE X (.Constant .none j pos) (tC .non):=λ_ _ _ H _ I h=>Constant_none ⟨.non,H,I,rfl,h⟩
theorem a9f{x j pos}:PE X (.Constant (.str x) j pos) (tC (.str x)):=λ_ _ _ H _ I h=>Calls.Constant_str ⟨.str x,H,I.tok _,⟨_,rfl⟩,h⟩
def Gl(X:Cx)(x:Str):Prop:=X.env.kindOf x=some .globalImplicit
theorem O6{E:Value->Shared->Prop}{pins:List (Addr×Obj)}{s:Shared}{σ:St}{H:Hp}{x:Str}{u:Value}{pos:Pos}{Q:Value->Shared->Prop}(I:Inv X pins σ H s)(hg:Gl X x)(hm:X.mg x=some u)(h:Q u s)
  (hd:(x==("__debug__" : Str))=false:=by decide):wpAny (model X.prog X.w) X.A (eval (.Name x pos) X.env) Q E s :=
 Calls.Name_function_global I.ok.kind hg (Calls.loadGlobal_global (by rw[I.ok.glob];exact I.mod.glob.keeps I.bk) hm h) hd
theorem E5{E:Value->Shared->Prop}{pins:List (Addr×Obj)}{s:Shared}{σ:St}{H:Hp}{x:Str}{u:Value}{pos:Pos}{Q:Value->Shared->Prop}(I:Inv X pins σ H s)(hg:Gl X x)(hm:X.mg x=none)(hv:bootBuiltins x=some u)(h:Q u s)
  (hn:x≠"__name__":=by decide) (hd:(x==("__debug__" : Str))=false:=by decide):wpAny (model X.prog X.w) X.A (eval (.Name x pos) X.env) Q E s:=by
 obtain⟨mb,h1,h2⟩:=I.mod.blt;exact Calls.Name_function_global I.ok.kind hg (Calls.loadGlobal_builtin (by rw[I.ok.glob];exact I.mod.glob.keeps I.bk) hm (by rw[I.ok.blt];exact h1.keeps I.bk) ((h2 x hn).trans hv) h) hd
theorem a6S{x:Str}{v:V}{u:Value}{pos:Pos}(hg:Gl X x)(hm:X.mg x=some u)(r:RelV v u)(hd:(x==("__debug__" : Str))=false:=by decide):PE X (.Name x pos) (tC v) :=
 λ_ _ _ H _ I h=>O6 I hg hm ⟨v,H,I,r,h⟩ hd
theorem a6V{x:Str}{v:V}{u:Value}{pos:Pos}(hg:Gl X x)(hm:X.mg x=none)(hv:bootBuiltins x=some u)(r:RelV v u)(hn:x≠"__name__":=by decide)(hd:(x==("__debug__" : Str))=false:=by decide):PE X (.Name x pos) (tC v) :=
 λ_ _ _ H _ I h=>E5 I hg hm hv ⟨v,H,I,r,h⟩ hn hd
variable {a b:Expr}{ta tb:TE}{pos:Pos}
def tB(t:TE):TT:=λσ H Q=>t σ H λx H1=>∃c,x=.bl c/\Q c H1
variable {tA tB':TT}{rest:List Expr}
def b1g(t u:TT):TT:=λσ H Q=>t σ H λc H1=>if c=true then u σ H1 Q else Q false H1
def tOr(t u:TT):TT:=λσ H Q=>t σ H λc H1=>if c=true then Q true H1 else u σ H1 Q
def a8B(t:TT):TT:=λσ H Q=>t σ H λc H1=>Q (!c) H1
theorem pw_or1(ha:PT X a tA):PW X (.BoolOp .Or [a] pos) tA:=by
 intro wh pins s σ H Q I h;refine isTrue_or (thn (ha pins s σ H Q I h) λc s1 e=>?_);cases c with
 |false=>exact isTrue_or_nil e
 |true=>exact e
theorem pw_or(ha:PT X a tA)(hb:PW X (.BoolOp .Or (b::rest) pos) tB'):PW X (.BoolOp .Or (a::b::rest) pos) (tOr tA tB'):=by
 intro wh pins s σ H Q I h;refine isTrue_or (thn (ha pins s σ H _ I h) λc s1 ⟨H1,I1,q1⟩=>?_);cases c with
 |true=>exact⟨H1,I1,q1⟩
 |false=>exact hb wh pins s1 σ H1 Q I1 q1
theorem a8S(ha:PT X a tA):PT X (.UnaryOp .Not a pos) (a8B tA):=by
 intro pins s σ H Q I h;exact isTrue_not (ha pins s σ H (λc H1=>Q (!c) H1) I h)
def a4D(ta tb:TE):TE:=λσ H Q=>ta σ H λx H1=>∃c,x=.bl c/\if c=true then tb σ H1 Q else Q (.bl false) H1
def b1f(ta tb:TE):TE:=λσ H Q=>ta σ H λx H1=>∃c,x=.bl c/\if c=true then Q (.bl true) H1 else tb σ H1 Q
def a4z(ta:TE):TE:=λσ H Q=>ta σ H λx H1=>∃c,x=.bl c/\Q (.bl (!c)) H1
theorem a9g{op}{t:TE}(h:PE X a t):PE X (.BoolOp op [a] pos) t:=λpins s σ H Q I hw=>BoolOp_one (h pins s σ H Q I hw)
theorem a9n(ha:PE X a ta)(hb:PE X (.BoolOp .And (b::rest) pos) tb):PE X (.BoolOp .And (a::b::rest) pos) (a4D ta tb):=by
 intro pins s σ H Q I h;refine BoolOp_and (thn (ha pins s σ H _ I h) λv s1 ⟨x,H1,I1,r1,q1⟩=>?_);obtain⟨c,rfl,q1⟩:=q1;cases r1;refine wpAny_truthy_bool ?_;cases c with
 |true=>exact hb pins s1 σ H1 Q I1 q1
 |false=>exact⟨.bl false,H1,I1,rfl,q1⟩
theorem a9h(ha:PE X a ta):PE X (.UnaryOp .Not a pos) (a4z ta):=by
 intro pins s σ H Q I h;refine UnaryOp_ (thn (ha pins s σ H _ I h) λv s1 ⟨x,H1,I1,r1,q1⟩=>?_);obtain⟨c,rfl,q1⟩:=q1;cases r1;exact not_of (wpAny_truthy_bool ⟨.bl (!c),H1,I1,rfl,q1⟩)
def tIf(t:TT)(ta tb:TE):TE:=λσ H Q=>t σ H λc H1=>if c=true then ta σ H1 Q else tb σ H1 Q
end
def SqL(K:PySem.W.Frag)(H:Hp)(a:Addr)(xs:List V):Prop :=
 Rd H a (.lst xs) ∨
  ∃(o:Obj) (its:Array Value) (n:Nat),K.lookup a=some o/\o.cls=.type "list"/\o.dict=none/\o.data=.seq its n/\its.size<=sizeLine/\Vals xs its.toList
def SqT(K:PySem.W.Frag)(H:Hp)(a:Addr)(xs:List V):Prop :=
 Rd H a (.tup xs) ∨
  ∃(o:Obj) (its:Array Value) (n:Nat),K.lookup a=some o/\o.cls=.type "tuple"/\o.data=.seq its n/\its.size<=sizeLine/\Vals xs its.toList
noncomputable def b1n:Value->Option V
 |.none=>some .non
 |.bool b=>some (.bl b)
 |.int i _=>some (.int i)
 |.str x _=>some (.str x)
 |.bytes b _=>some (.byt b)
 |.float b _=>some (.flt b)
 |.ref a=>some (.ref a)
 |.type n=>some (.ty n)
 |_=>none
theorem RelV.abs{x:V}{u:Value}(r:RelV x u):b1n u=some x:=by
 cases x with
 |non=>cases r;rfl
 |bl _=>cases r;rfl
 |int _=>obtain⟨t,rfl⟩:=r;rfl
 |str _=>obtain⟨t,rfl⟩:=r;rfl
 |byt _=>obtain⟨t,rfl⟩:=r;rfl
 |flt _=>obtain⟨t,rfl⟩:=r;rfl
 |ref _=>cases r;rfl
 |ty _=>cases r;rfl
theorem RelV.inj{x y:V}{u:Value}(r:RelV x u)(q:RelV y u):x=y:=Option.some.inj (r.abs.symm.trans q.abs)
theorem Vals.inj:∀{xs ys:List V}{us:List Value},Vals xs us->Vals ys us->xs=ys
 |_,_,_,.nil,.nil=>rfl
 |_,_,_,.cons r t,.cons r' t'=>by rw[r.inj r',Vals.inj t t']
section
variable {X:Cx}{pins:List (Addr×Obj)}{σ:St}{H:Hp}{s:Shared}{a:Addr}{xs ys:List V}
theorem SqL.of{K:PySem.W.Frag}(h:H a=some (.lst xs)):SqL K H a xs:=.inl (.inl h)
theorem SqT.of{K:PySem.W.Frag}(h:H a=some (.tup xs)):SqT K H a xs:=.inl (.inl h)
theorem Inv.list(I:Inv X pins σ H s)(h:SqL X.K H a xs):∃its:List Value,Vals xs its/\PlainL s.heap a its.toArray/\xs.length<=sizeLine:=by
 rcases h with h|⟨o,its,n,hk,hc,hd,hs,hz,r⟩
 .obtain⟨z,its,n,r,e⟩:=h.ok I.hok;exact⟨its,r,⟨_,n,e,rfl,rfl,rfl⟩,z⟩
 .refine⟨its.toList,r,⟨o,n,I.kIn a o hk,hc,hd,by simpa using hs⟩,?_⟩;have e:=r.length;simp only[Array.length_toList]at e;omega
theorem Inv.tuple(I:Inv X pins σ H s)(h:SqT X.K H a xs):∃its:List Value,Vals xs its/\IsTup s.heap a its.toArray/\xs.length<=sizeLine:=by
 rcases h with h|⟨o,its,n,hk,hc,hs,hz,r⟩
 .obtain⟨z,its,r,p⟩:=h.ok I.hok;exact⟨its,r,p,z⟩
 .refine⟨its.toList,r,⟨o,I.kIn a o hk,hc,n,by simpa using hs⟩,?_⟩;have e:=r.length;simp only[Array.length_toList]at e;omega
theorem Inv.list_inj(I:Inv X pins σ H s)(h:SqL X.K H a xs)(h':SqL X.K H a ys):xs=ys:=by
 obtain⟨its,r,⟨o,n,e,_,_,d⟩,_⟩:=I.list h;obtain⟨its',r',⟨o',n',e',_,_,d'⟩,_⟩:=I.list h';rw[e]at e';cases e';rw[d]at d';injection d' with d1 _
 have:its=its':=by simpa using congrArg Array.toList d1
 subst this;exact r.inj r'
theorem Inv.tuple_inj(I:Inv X pins σ H s)(h:SqT X.K H a xs)(h':SqT X.K H a ys):xs=ys:=by
 obtain⟨its,r,⟨o,e,_,n,d⟩,_⟩:=I.tuple h;obtain⟨its',r',⟨o',e',_,n',d'⟩,_⟩:=I.tuple h';rw[e]at e';cases e';rw[d]at d';injection d' with d1 _
 have:its=its':=by simpa using congrArg Array.toList d1
 subst this;exact r.inj r'
end
noncomputable abbrev Cx.wish(X:Cx)(E:Value->Shared->Prop):Cx:={X with xe:=E}
noncomputable abbrev Cx.nox(X:Cx):Cx:=X.wish λ_ _=>False
theorem Cx.Ok.wish{X:Cx}(ok:X.Ok)(E:Value->Shared->Prop):(X.wish E).Ok :=
 ⟨ok.mod,ok.kind,ok.glob,ok.blt,ok.above,ok.inj,ok.has,ok.cab,ok.hd,ok.frames,ok.stk,ok.exf,ok.bs,ok.bsz,ok.noex,ok.exfs,ok.funs,ok.frf⟩
theorem Cx.Ok.unwish{X:Cx}{E:Value->Shared->Prop}(ok:(X.wish E).Ok):X.Ok :=
 ⟨ok.mod,ok.kind,ok.glob,ok.blt,ok.above,ok.inj,ok.has,ok.cab,ok.hd,ok.frames,ok.stk,ok.exf,ok.bs,ok.bsz,ok.noex,ok.exfs,ok.funs,ok.frf⟩
section
variable {X:Cx}{pins:List (Addr×Obj)}{σ:St}{H:Hp}{s:Shared}{E:Value->Shared->Prop}
theorem Inv.wish(I:Inv X pins σ H s)(E:Value->Shared->Prop):Inv (X.wish E) pins σ H s:=⟨I.ok.wish E,I.os,I.bare,I.base,I.loc,I.cell,I.free,I.freeC,I.pin,I.hok,I.len⟩
theorem Inv.unwish(I:Inv (X.wish E) pins σ H s):Inv X pins σ H s:=⟨I.ok.unwish,I.os,I.bare,I.base,I.loc,I.cell,I.free,I.freeC,I.pin,I.hok,I.len⟩
theorem SP.unwish{D:Ends}{f:Flow}{s':Shared}(h:SP (X.wish E) pins D f s'):SP X pins D f s':=by
 cases f with
 |next=>obtain⟨σ',H',I,q⟩:=h;exact⟨σ',H',I.unwish,q⟩
 |brk=>obtain⟨σ',H',I,q⟩:=h;exact⟨σ',H',I.unwish,q⟩
 |cont=>obtain⟨σ',H',I,q⟩:=h;exact⟨σ',H',I.unwish,q⟩
 |ret u=>obtain⟨v,σ',H',I,r,q⟩:=h;exact⟨v,σ',H',I.unwish,r,q⟩
theorem PSs.nox{st:List Stmt}{t:TS}(h:PSs X.nox st t):PSs X st t:=λpins s σ H D I hw =>
 wpAny_mono (h pins s σ H D (I.wish _) hw) (λ_ _ q=>q.unwish) λ_ _ z=>False.elim z
end
section
variable {X:Cx}{st:Stmt}{rest:List Stmt}{t u:TS}{e:Expr}{te:TE}{pos:Pos}
def a4A:TS:=λD σ H=>D.nx σ H
def a6m(t u:TS):TS:=λD σ H=>t {D with nx:=u D} σ H
theorem a6A:PSs X [] a4A:=λ_ _ σ H _ I h=>wpAny_execs_nil ⟨σ,H,I,h⟩
theorem a4V(h1:PS X st t)(h2:PSs X rest u):PSs X (st::rest) (a6m t u):=by
 intro pins s σ H D I h;refine wpAny_execs_cons (thn (h1 pins s σ H {D with nx:=u D} I h) λf s1 q=>?_);cases f with
 |next =>
  obtain⟨σ',H',I',q⟩:=q;exact h2 pins s1 σ' H' D I' q
 |ret v=>exact q
 |brk=>exact q
 |cont=>exact q
theorem a6z(h1:PS X st t):PSs X [st] t:=by
 intro pins s σ H D I h;refine wpAny_execs_cons (thn (h1 pins s σ H D I h) λf s1 q=>?_);cases f with
 |next=>exact wpAny_execs_nil q
 |ret v=>exact q
 |brk=>exact q
 |cont=>exact q
theorem Inv.quiet{pins:List (Addr×Obj)}{σ:St}{H:Hp}{s:Shared}(I:Inv X pins σ H s):interactive X.env=false:=by simp[interactive,I.ok.kind]
def a4C(te:TE):TS:=λD σ H=>te σ H λ_ H1=>D.nx σ H1
theorem a6D(he:PE X e te)(hs:swapsWith e none pos.line X.env=pure false:=by rfl):PS X (.Expr e pos) (a4C te):=by
 intro pins s σ H D I h;exact wpAny_Expr_any (thn (he pins s σ H _ I h) λv s1 ⟨x,H1,I1,r1,q1⟩=>⟨σ,H1,I1,q1⟩) I.quiet hs
def a8A(te:TE):TS:=λD σ H=>te σ H D.rt
theorem a8U(he:PE X e te):PS X (.Return (some e) pos) (a8A te):=by
 intro pins s σ H D I h;exact wpAny_Return_some (thn (he pins s σ H _ I h) λv s1 ⟨x,H1,I1,r1,q1⟩=>⟨x,σ,H1,I1,r1,q1⟩)
def b0t:TS:=λD _ H=>D.rt .non H
def a8D(c:TT)(t u:TS):TS:=λD σ H=>c σ H λb H1=>if b=true then t D σ H1 else u D σ H1
theorem b0F{c:Expr}{a b:List Stmt}{tc:TT}(hc:PT X c tc)(ha:PSs X a t)(hb:PSs X b u):PS X (.If c a b pos) (a8D tc t u):=by
 intro pins s σ H D I h;refine wpAny_If (thn (hc pins s σ H _ I h) λd s1 ⟨H1,I1,q1⟩=>?_);cases d with
 |true=>exact ha pins s1 σ H1 D I1 q1
 |false=>exact hb pins s1 σ H1 D I1 q1
end
abbrev TG:=V->St->Hp->(St->Hp->Prop)->Prop
abbrev TGs:=List V->St->Hp->(St->Hp->Prop)->Prop
def PG(X:Cx)(target:Expr)(t:TG):Prop :=
 ∀(pins:List (Addr×Obj)) (s:Shared) (σ:St) (H:Hp) (v:V) (u:Value) (Q:St->Hp->Prop),Inv X pins σ H s->RelV v u->t v σ H Q ->
  wpAny (model X.prog X.w) X.A (assign target X.env u) (λ_ s'=>∃σ' H',Inv X pins σ' H' s'/\Q σ' H') X.xe s
def PGs(X:Cx)(ts:List Expr)(t:TGs):Prop :=
 ∀(pins:List (Addr×Obj)) (s:Shared) (σ:St) (H:Hp) (vs:List V) (us:List Value) (Q:St->Hp->Prop),Inv X pins σ H s->Vals vs us->t vs σ H Q ->
  wpAny (model X.prog X.w) X.A (assignInOrder ((assignEach ts X.env).map (·.2)) us) (λ_ s'=>∃σ' H',Inv X pins σ' H' s'/\Q σ' H') X.xe s
abbrev b0l:=V->V->V->Hp->(Hp->Prop)->Prop
def b1b(X:Cx)(t:b0l):Prop :=
 ∀(pins:List (Addr×Obj)) (s:Shared) (σ:St) (H:Hp) (o i v:V) (ov iv u:Value) (Q:Hp->Prop),Inv X pins σ H s->RelV o ov->RelV i iv->RelV v u->t o i v H Q ->
  wpAny (model X.prog X.w) X.A (setItem ov iv u) (λ_ s'=>∃H',Inv X pins σ H' s'/\Q H') X.xe s
abbrev TIp:=V->V->Hp->VK->Prop
def PIp(X:Cx)(op:Operator)(t:TIp):Prop :=
 ∀(pins:List (Addr×Obj)) (s:Shared) (σ:St) (H:Hp) (x y:V) (v u:Value) (Q:VK),Inv X pins σ H s->RelV x v->RelV y u->t x y H Q ->
  wpAny (model X.prog X.w) X.A (inplaceOp op v u) (EP X pins σ Q) X.xe s
section
variable {X:Cx}{pos:Pos}
def A7(i:Nat):TG:=λv σ H Q=>Q (σ.set i (some v)) H
theorem a6O{i:Nat}{x:Str}(hN:X.N.Nodup)(hi:X.N[i]?=some x)(hx:Loc X.env.scope x)(hf:X.fn x=true∨X.env.scope.names.lookup x=some .local:=by first|exact .inl rfl|exact .inr rfl|assumption):PG X (.Name x pos) (A7 i):=by
 intro pins s σ H v u Q I r h;exact wpAny_assign_Name (N2 I hN hi hx r (λs' I'=>⟨_,H,I',h⟩) hf)
def a7z:TGs:=λvs σ H Q=>vs=[]/\Q σ H
def a0q(t:TG)(u:TGs):TGs:=λvs σ H Q=>∃v r,vs=v::r/\t v σ H λσ' H'=>u r σ' H' Q
theorem a6M:PGs X [] a7z:=by
 intro pins s σ H vs us Q I r h;obtain⟨e,h⟩:=h;subst e;cases r;exact assignInOrder_nil ⟨σ,H,I,h⟩
theorem a5e{e:Expr}{es:List Expr}{t:TG}{u:TGs}(h1:PG X e t)(h2:PGs X es u)
  (hs:(assignEach (e::es) X.env).map (·.2)=assign e X.env::(assignEach es X.env).map (·.2):=by rfl):PGs X (e::es) (a0q t u):=by
 intro pins s σ H vs us Q I r h;obtain⟨v,vr,e1,h⟩:=h;subst e1;cases r with
 |cons r rr =>
  rw[hs];refine assignInOrder_cons (thn (h1 pins s σ H _ _ _ I r h) λ_ s1 ⟨σ1,H1,I1,q1⟩=>?_);exact h2 pins s1 σ1 H1 _ _ Q I1 rr q1
def a5N(K:PySem.W.Frag)(n:Nat)(t:TGs):TG:=λv σ H Q=>∃a xs,v=.ref a/\SqT K H a xs/\xs.length=n/\t xs σ H Q
theorem a9b{es:List Expr}{k:Nat}{t:TGs}{n:Nat}(hc:X.calm=true)(h:PGs X es t)
  (hn:(assignEach es X.env).length=n:=by rfl) (hst:(assignEach es X.env).findIdx? (·.1)=none:=by rfl):PG X (.Tuple es k pos) (a5N X.K n t):=by
 intro pins s σ H v u Q I r hw;obtain⟨a,xs,e1,hq,hl,hw⟩:=hw;subst e1;cases r;obtain⟨its,rv,ht,hz⟩:=I.tuple hq;refine assign_Tuple_tuple (I.ok.hd hc) ht (by simp[hn,<-hl,rv.length]) hst λh' hx=>?_;have I1:Inv X pins σ H {s with heap:=h'}:=I.kept (t':=s.toks) λb o e=>hx b o (Nat.ne_of_lt (Heap.lt_size e)) e;exact h pins _ σ H xs _ Q I1 (by simpa using rv) hw
def b1a(to ti:TE)(t:b0l):TG:=λv σ H Q=>to σ H λo H1=>ti σ H1 λi H2=>t o i v H2 λH3=>Q σ H3
theorem a9c{o i:Expr}{to ti:TE}{t:b0l}(ho:PE X o to)(hi:PE X i ti)(hs:b1b X t)
  (ha:∀v,assign (.Subscript o i pos) X.env v=(do
   let ov <-holding [v] (eval o X.env)
   let iv <-holding [v,ov] (eval i X.env)
   standAt pos
   holding [v,ov,iv] (setItem ov iv v)
   release [v,ov,iv] []):=by intro _;rfl):PG X (.Subscript o i pos) (b1a to ti t):=by
 intro pins s σ H v u Q I r h;rw[ha];refine wpAny_bind (wpAny_holding (thn (ho pins s σ H _ I h) λov s1 ⟨x,H1,I1,r1,q1⟩=>?_));refine wpAny_bind (wpAny_holding (thn (hi pins s1 σ H1 _ I1 q1) λiv s2 ⟨y,H2,I2,r2,q2⟩=>?_));refine wpAny_bind (wpAny_standAt (wpAny_bind (wpAny_holding (thn (hs pins s2 σ H2 x y v ov iv u _ I2 r1 r2 r q2) λ_ s3 ⟨H3,I3,q3⟩=>?_))));exact wpAny_release ⟨σ,H3,I3,q3⟩
def a2b(te:TE)(g:TG):TS:=λD σ H=>te σ H λx H1=>g x σ H1 D.nx
theorem a8X{tg e:Expr}{te:TE}{g:TG}(he:PE X e te)(hg:PG X tg g)(hs:swapsWithSole [tg] e pos.line X.env=pure false:=by rfl)(hw:swappedStores [tg] e X.env=pure none:=by rfl)
  (h1:(assignEach [tg] X.env).map (·.2)=[assign tg X.env]:=by rfl):PS X (.Assign [tg] e pos) (a2b te g):=by
 intro pins s σ H D I h;refine wpAny_Assign_stores (thn (he pins s σ H _ I h) λv s1 ⟨x,H1,I1,r1,q1⟩=>?_) hs hw;rw[h1];exact thn (hg pins s1 σ H1 x v _ I1 r1 q1) λ_ s2 q=>q
theorem a8T{i:Nat}{x:Str}{e:Expr}{te:TE}{pos':Pos}(hN:X.N.Nodup)(hi:X.N[i]?=some x)(hx:Loc X.env.scope x)(he:PE X e te)(hs:swapsWith e (some (.Name x pos')) pos.line X.env=pure false:=by rfl)(hf:X.fn x=true∨X.env.scope.names.lookup x=some .local:=by first|exact .inl rfl|exact .inr rfl|assumption) :
  PS X (.Assign [.Name x pos'] e pos) (a2b te (A7 i)):=by
 intro pins s σ H D I h;refine wpAny_Assign_Name (thn (he pins s σ H _ I h) λv s1 ⟨y,H1,I1,r1,q1⟩=>?_) hs;exact N2 I1 hN hi hx r1 (λs2 I2=>⟨_,H1,I2,q1⟩) hf
def a8F(i:Nat)(te:TE)(ti:TIp):TS:=λD σ H=>∃x,σ[i]?=some (some x)/\te σ H λy H1=>ti x y H1 λz H2=>D.nx (σ.set i (some z)) H2
theorem a4Z{i:Nat}{x:Str}{e:Expr}{te:TE}{op:Operator}{ti:TIp}{pos':Pos}(hN:X.N.Nodup)(hi:X.N[i]?=some x)(hx:Loc X.env.scope x)(he:PE X e te)(ho:PIp X op ti)(hf:X.fn x=true∨X.env.scope.names.lookup x=some .local:=by first|exact .inl rfl|exact .inr rfl|assumption) :
  PS X (.AugAssign (.Name x pos') op e pos) (a8F i te ti):=by
 intro pins s σ H D I h;obtain⟨v,e1,h⟩:=h;obtain⟨m,hn,hl⟩:=I.loc;have vis:Vis X.env.scope x:=by rcases hx with k|k;exact .inl k;exact .inr (.inl k)
 obtain⟨u,r,l⟩:=hl i x v hi e1 vis;refine wpAny_AugAssign_Name ?_;have go:wpAny (model X.prog X.w) X.A (eval e X.env) (λw s₂=>wpAny (model X.prog X.w) X.A (inplaceOp op u w) (λr s₃=>wpAny (model X.prog X.w) X.A (storeName X.env x r) (λ_=>SP X pins D .next) X.xe s₃) X.xe s₂) X.xe s:=by
  refine thn (he pins s σ H _ I h) λw s1 ⟨y,H1,I1,r1,q1⟩=>?_;refine thn (ho pins s1 σ H1 v y u w _ I1 r r1 q1) λz s2 ⟨zv,H2,I2,r2,q2⟩=>?_;exact N2 I2 hN hi hx r2 (λs3 I3=>⟨_,H2,I3,q2⟩) hf
 rcases l with⟨hk,hm⟩|⟨hk,c,hc,hcell⟩
 .exact wpAny_loadName_local I.ok.kind hk hn hm go
 .rcases hk with hk|hk
  .exact wpAny_loadName_cell I.ok.kind hk hc hcell go
  .rcases hx with k|k
   .have:X.env.scope.names.lookup x=some .free:=hk;rw[k]at this;cases this
   .have:X.env.scope.names.lookup x=some .free:=hk;rw[k]at this;cases this
def ipI(f:Int->Int->Int):TIp:=λx y H Q=>∃i j,x=.int i/\y=.int j/\Q (.int (f i j)) H
theorem a9X:PIp X .Add (ipI λi j=>i+j):=by
 intro pins s σ H x y v u Q I r1 r2 h;obtain⟨i,j,e1,e2,q⟩:=h;subst e1;subst e2;obtain⟨t,rfl⟩:=r1;obtain⟨t',rfl⟩:=r2;exact iadd_int ⟨.int _,H,I.tok _,⟨_,rfl⟩,q⟩
theorem a9W:PIp X .Sub (ipI λi j=>i-j):=by
 intro pins s σ H x y v u Q I r1 r2 h;obtain⟨i,j,e1,e2,q⟩:=h;subst e1;subst e2;obtain⟨t,rfl⟩:=r1;obtain⟨t',rfl⟩:=r2;exact isub_int ⟨.int _,H,I.tok _,⟨_,rfl⟩,q⟩
def a4v(c:TT)(tb:TS):TS:=λD σ H=>∃W:Nat->St->Hp->Prop,(∃m,W m σ H)/\∀m σ H,W m σ H ->
 c σ H λb H1=>if b=true then ∃N:St->Hp->Prop,(∀σ' H',N σ' H'->∃m',m'<m/\W m' σ' H')/\tb {D with nx:=N,ct:=N,bk:=D.nx} σ H1 else D.nx σ H1
theorem a4W{c:Expr}{body:List Stmt}{tc:TT}{tb:TS}(hp:PassesOwn (model X.prog X.w) X.A X.env X.xe)(hc:PT X c tc)(hb:PSs X body tb):PS X (.While c body [] pos) (a4v tc tb):=by
 intro pins s σ H D I h;obtain⟨W,⟨m0,w0⟩,turn⟩:=h;refine wpAny_While (codeAny_whileLoop (λn s'=>∃σ' H',Inv X pins σ' H' s'/\W n σ' H') ?_ m0 ⟨σ,H,I,w0⟩);rintro n s1 ⟨σ1,H1,I1,w1⟩;refine wpAny_passesOwn hp (thn (hc pins s1 σ1 H1 _ I1 (turn n σ1 H1 w1)) λb s2 ⟨H2,I2,q2⟩=>?_);cases b with
 |true =>
  obtain⟨N,hN,q2⟩:=q2;rw[if_pos rfl];refine wpAny_passesOwn hp (thn (hb pins s2 σ1 H2 _ I2 q2) λf s3 q3=>?_);cases f with
  |next =>
   obtain⟨σ3,H3,I3,n3⟩:=q3;obtain⟨m',hm,w3⟩:=hN σ3 H3 n3;exact⟨m',hm,σ3,H3,I3,w3⟩
  |cont =>
   obtain⟨σ3,H3,I3,n3⟩:=q3;obtain⟨m',hm,w3⟩:=hN σ3 H3 n3;exact⟨m',hm,σ3,H3,I3,w3⟩
  |brk=>exact q3
  |ret v=>exact q3
 |false =>
  rw[if_neg Bool.false_ne_true];exact wpAny_execs_nil ⟨σ1,H2,I2,q2⟩
end
structure It where
 go:Nat->Hp->Prop
 yld:Nat->Hp->V->Hp->Prop
 stop:Nat->Hp->Prop
def T7(X:Cx)(pins:List (Addr×Obj))(H:Hp)(b:Addr):Prop :=
 H b=none/\b≠X.env.locals/\b∉X.fs/\(b∈X.ex∨X.s₀.heap.objs.size<=b)/\(∀x c,X.env.cells.lookup x=some c->c≠b)/\∀p∈X.pn++pins,p.1≠b
theorem Inv.fpOk{X:Cx}{pins:List (Addr×Obj)}{σ:St}{H H':Hp}{s:Shared}{b:Addr}(I:Inv X pins σ H s)(hb:s.heap.objs.size<=b)(hn:H' b=none):T7 X pins H' b:=by
 refine⟨hn,Nat.ne_of_gt (Nat.lt_of_lt_of_le I.lt hb),I.nofs hb,.inr (Nat.le_trans I.sz hb),λx c e z=>?_,λp hp z=>?_⟩
 .obtain⟨v,q⟩:=I.cell x c e;exact absurd (Nat.lt_of_lt_of_le q.lt (by rw[z];exact hb)) (Nat.lt_irrefl _)
 .exact absurd (Nat.lt_of_lt_of_le (Heap.lt_size (I.pin p hp).1) (by rw[z];exact hb)) (Nat.lt_irrefl _)
structure Turn(P:Program)(w:World)(K:PySem.W.Frag)(tg:Expr)(J:It)(fp:List Addr)(it:Addr)(tn:Nat->Heap->Prop):Prop where
 mem:it∈fp
 obj:∀i h,tn i h->∀b∈fp,∃o,h.get? b=some o/\∀v,o.data≠.cell v
 keep:∀i h h',tn i h->(∀b∈fp,∀o,h.get? b=some o->h'.get? b=some o)->tn i h'
 item:∀(X:Cx),X.prog=P->X.w=w->X.K=K->X.calm=true->∀(i:Nat) (pins:List (Addr×Obj)) (s:Shared) (σ:St) (H:Hp) (E:Value->Shared->Prop),Inv X pins σ H s->(∀b∈fp,T7 X pins H b)->tn i s.heap->J.go i H ->
  wpAny (model P w) X.A (pyNext (.ref it)) (λr s1=>∃u,r=some u /\
   wpAny (model P w) X.A (letOwnedTupleGo tg (.ref it) u) (λ_ s2=>∃x H',Inv X pins σ H' s2/\RelV x u/\J.yld i H x H'/\tn (i+1) s2.heap/\∀b∈fp,H' b=none) E s1) E s
 done:∀(X:Cx),X.prog=P->X.w=w->X.K=K->X.calm=true->∀(i:Nat) (pins:List (Addr×Obj)) (s:Shared) (σ:St) (H:Hp) (E:Value->Shared->Prop),Inv X pins σ H s->(∀b∈fp,T7 X pins H b)->tn i s.heap->J.stop i H ->
  wpAny (model P w) X.A (pyNext (.ref it)) (λr s1=>r=none/\Inv X pins σ H s1) E s
 self:∀(A:Around) (i:Nat) (s:Shared) (Q:Value->Shared->Prop) (E:Value->Shared->Prop),tn i s.heap->Q (.ref it) s->wpAny (model P w) A (pyIter (.ref it)) Q E s
abbrev TI:=St->Hp->(It->Hp->Prop)->Prop
def PIE(X:Cx)(pins:List (Addr×Obj))(σ:St)(tg:Expr)(R:It->Hp->Prop)(itv:Value)(s2:Shared):Prop :=
 ∃(it:Addr) (fp:List Addr) (tn:Nat->Heap->Prop) (J:It) (H':Hp),itv=.ref it/\Inv X pins σ H' s2/\Turn X.prog X.w X.K tg J fp it tn/\tn 0 s2.heap/\(∀b∈fp,T7 X pins H' b)/\R J H'
def PI(X:Cx)(tg iter:Expr)(wi:TI):Prop :=
 ∀(pins:List (Addr×Obj)) (s:Shared) (σ:St) (H:Hp) (R:It->Hp->Prop),Inv X pins σ H s->wi σ H R ->
  wpAny (model X.prog X.w) X.A (eval iter X.env) (λv s1=>wpAny (model X.prog X.w) X.A (pyIter v) (PIE X pins σ tg R) X.xe s1) X.xe s
theorem a2Y{M:Model}{A:Around}{E:Value->Shared->Prop}{s:Shared}{tg:Expr}{it:Addr}{u:Value}{o:Obj}{n:String}{vs:Array Value}{Q:Unit->Shared->Prop}(ho:s.heap.get? it=some o)(hc:o.cls=.type n)(hd:o.data=.fields vs)
  (hn:["enumerate","zip","dict_itemiterator","dict_reverseitemiterator","odict_iterator","itertools.zip_longest","itertools.pairwise"].contains n=false) (hQ:Q () s):wpAny M A (letOwnedTupleGo tg (.ref it) u) Q E s:=by
 unfold letOwnedTupleGo;cases tg<;>first
  |exact wpAny_pure hQ
  | (cases u <;> first
    |exact wpAny_pure hQ
    | (refine wpAny_bind (wpAny_load ho ?_)
       rw[hc,hd];show wpAny M A (if (["enumerate","zip","dict_itemiterator","dict_reverseitemiterator","odict_iterator","itertools.zip_longest","itertools.pairwise"].contains n && vs[0]? == some (rawInt _))=true then _ else _) Q E s;rw[if_neg (by intro h;rw[hn,Bool.false_and]at h;cases h)];exact wpAny_pure hQ))
noncomputable def Itl(K:PySem.W.Frag)(a:Addr):It :=
 ⟨λi H=>∃xs x,SqL K H a xs/\xs[i]?=some x,λi H x H'=>H'=H/\∀xs,SqL K H a xs->xs[i]?=some x,λi H=>∃xs,SqL K H a xs/\xs.length<=i⟩
noncomputable def Itt(K:PySem.W.Frag)(a:Addr):It :=
 ⟨λi H=>∃xs x,SqT K H a xs/\xs[i]?=some x,λi H x H'=>H'=H/\∀xs,SqT K H a xs->xs[i]?=some x,λi H=>∃xs,SqT K H a xs/\xs.length<=i⟩
noncomputable def Itr(lo:Int)(n:Nat):It:=⟨λi _=>i<n,λi H x H'=>H'=H/\x=.int (lo+i),λi _=>n<=i⟩
theorem a3i{P:Program}{w:World}{K:PySem.W.Frag}{tg:Expr}(a it:Addr):Turn P w K tg (Itl K a) [it] it (λi h=>h.IsListIter it a i) where
 mem:=by simp
 obj:=λi h st b hb=>by
  have e:b=it:=by simpa using hb
  subst e;obtain⟨o,e,c,d⟩:=st;exact⟨o,e,λv z=>by rw[d]at z;cases z⟩
 keep:=λi h h' st k=>st.at λo e=>k it (by simp) o e
 item:=by
  intro X hP hw hK hc i pins s σ H E I hf st hg;subst hP hw hK;obtain⟨xs,x,hq,hx⟩:=hg;obtain⟨its,rv,p,hz⟩:=I.list hq;obtain⟨u,hu,ru⟩:=rv.get hx;obtain⟨f0,f1,f2,f3,f4,f5⟩:=hf it (by simp);refine wpAny_pyNext_list_item st p.isList (x:=u) (by simpa using hu) λh' st' sb=>?_;have I1:Inv X pins σ H {s with heap:=h'}:=I.turned (t':=s.toks) (λb o hb e=>(sb.2 b hb).trans e) f0 f1 f3 f4 f5;obtain⟨o,e,c,d⟩:=id st';exact⟨u,rfl,a2Y (s:={s with heap:=h'}) e c d (by decide) ⟨x,H,I1,ru,⟨rfl,λys hy=>by rw[I.list_inj hy hq];exact hx⟩,st',λb hb=>(hf b hb).1⟩⟩
 done:=by
  intro X hP hw hK hc i pins s σ H E I hf st hg;subst hP hw hK;obtain⟨xs,hq,hx⟩:=hg;obtain⟨its,rv,p,hz⟩:=I.list hq;obtain⟨f0,f1,f2,f3,f4,f5⟩:=hf it (by simp);have hl:=rv.length;exact wpAny_pyNext_list_end (I.ok.hd hc) st p.isList (by simp;omega) λh' eb=>⟨rfl,I.turned (t':=s.toks) (λb o hb e=>eb b o hb e) f0 f1 f3 f4 f5⟩
 self:=λ_ _ _ _ _ st h=>wpAny_pyIter_listiter st h
theorem a1W{P:Program}{w:World}{K:PySem.W.Frag}{tg:Expr}(a it:Addr):Turn P w K tg (Itt K a) [it] it (λi h=>h.IsTupleIter it a i) where
 mem:=by simp
 obj:=λi h st b hb=>by
  have e:b=it:=by simpa using hb
  subst e;obtain⟨o,e,c,d⟩:=st;exact⟨o,e,λv z=>by rw[d]at z;cases z⟩
 keep:=λi h h' st k=>st.at λo e=>k it (by simp) o e
 item:=by
  intro X hP hw hK hc i pins s σ H E I hf st hg;subst hP hw hK;obtain⟨xs,x,hq,hx⟩:=hg;obtain⟨its,rv,p,hz⟩:=I.tuple hq;obtain⟨u,hu,ru⟩:=rv.get hx;obtain⟨f0,f1,f2,f3,f4,f5⟩:=hf it (by simp);refine wpAny_pyNext_tuple_item st (show s.heap.IsTuple a its.toArray from p) (x:=u) (by simpa using hu) λh' st' sb=>?_;have I1:Inv X pins σ H {s with heap:=h'}:=I.turned (t':=s.toks) (λb o hb e=>(sb.2 b hb).trans e) f0 f1 f3 f4 f5;obtain⟨o,e,c,d⟩:=id st';exact⟨u,rfl,a2Y (s:={s with heap:=h'}) e c d (by decide) ⟨x,H,I1,ru,⟨rfl,λys hy=>by rw[I.tuple_inj hy hq];exact hx⟩,st',λb hb=>(hf b hb).1⟩⟩
 done:=by
  intro X hP hw hK hc i pins s σ H E I hf st hg;subst hP hw hK;obtain⟨xs,hq,hx⟩:=hg;obtain⟨its,rv,p,hz⟩:=I.tuple hq;obtain⟨f0,f1,f2,f3,f4,f5⟩:=hf it (by simp);have hl:=rv.length;exact wpAny_pyNext_tuple_end (I.ok.hd hc) st (show s.heap.IsTuple a its.toArray from p) (by simp;omega) λh' eb=>⟨rfl,I.turned (t':=s.toks) (λb o hb e=>eb b o hb e) f0 f1 f3 f4 f5⟩
 self:=λ_ _ _ _ _ st h=>wpAny_pyIter_tupleiter st h
theorem a1X{P:Program}{w:World}{K:PySem.W.Frag}{tg:Expr}(it:Addr)(lo:Int)(n:Nat):Turn P w K tg (Itr lo n) [it] it (λi h=>IsRangeIter h it (lo+(i:Nat)*1) ((n:Int)-(i:Nat)) 1) where
 mem:=by simp
 obj:=λi h st b hb=>by
  have e:b=it:=by simpa using hb
  subst e;exact⟨_,st,λv z=>by
   have z':Data.fields _=Data.cell v:=z;cases z'⟩
 keep:=λi h h' st k=>k it (by simp) _ st
 item:=by
  intro X hP hw hK hc i pins s σ H E I hf st hg;subst hP hw hK;obtain⟨f0,f1,f2,f3,f4,f5⟩:=hf it (by simp);have W:=Walks.range (prog:=X.prog) (w:=X.w) (I.ok.hd hc) it lo 1 n;refine W.item i s _ _ hg st λv h' tk hv st' kk=>?_;obtain⟨t,rfl⟩:=hv;have I1:Inv X pins σ H {s with heap:=h',toks:=tk}:=I.turned (λb o hb e=>kk b o (by simpa using hb) e) f0 f1 f3 f4 f5;refine⟨_,rfl,a2Y (s:={s with heap:=h',toks:=tk}) (n:="range_iterator") st' rfl rfl (by decide) ⟨.int (lo+i),H,I1,⟨t,?_⟩,⟨rfl,rfl⟩,st',λb hb=>(hf b hb).1⟩⟩;rw[Int.mul_one]
 done:=by
  intro X hP hw hK hc i pins s σ H E I hf st hg;subst hP hw hK;obtain⟨f0,f1,f2,f3,f4,f5⟩:=hf it (by simp);exact wpAny_pyNext_range_end (I.ok.hd hc) st (by have:n<=i:=hg;omega) λh' eb=>⟨rfl,I.turned (t':=s.toks) (λb o hb e=>eb b o hb e) f0 f1 f3 f4 f5⟩
 self:=λ_ _ _ _ _ st h=>wpAny_pyIter_rangeiter st h
section
variable {X:Cx}{tg:Expr}
def a5K(K:PySem.W.Frag)(tl:TE):TI:=λσ H R=>tl σ H λx H1=>∃a,x=.ref a/\(∃xs,SqL K H1 a xs)/\R (Itl K a) H1
def a9Z(K:PySem.W.Frag)(tl:TE):TI:=λσ H R=>tl σ H λx H1=>∃a,x=.ref a/\(∃xs,SqT K H1 a xs)/\R (Itt K a) H1
theorem a6K{l:Expr}{tl:TE}(hl:PE X l tl):PI X tg l (a5K X.K tl):=by
 intro pins s σ H R I h;refine thn (hl pins s σ H _ I h) λv s1 ⟨x,H1,I1,r1,q1⟩=>?_;obtain⟨a,e,⟨xs,hq⟩,q⟩:=q1;subst e;cases r1;obtain⟨its,rv,p,hz⟩:=I1.list hq;refine wpAny_pyIter_list p.isList ?_;refine⟨s1.heap.objs.size,[s1.heap.objs.size],_,_,H1,rfl,I1.kept (t':=s1.toks) λb o e=>Heap.get?_push_of_some _ e,a3i a _,⟨_,Heap.get?_push_size _ rfl,rfl,rfl⟩,λb hb=>?_,q⟩;have e:b=s1.heap.objs.size:=by simpa using hb
 subst e;exact I1.fpOk (Nat.le_refl _) (I1.hok.fresh (Nat.le_refl _))
theorem a8Z{l:Expr}{tl:TE}(hl:PE X l tl):PI X tg l (a9Z X.K tl):=by
 intro pins s σ H R I h;refine thn (hl pins s σ H _ I h) λv s1 ⟨x,H1,I1,r1,q1⟩=>?_;obtain⟨a,e,⟨xs,hq⟩,q⟩:=q1;subst e;cases r1;obtain⟨its,rv,p,hz⟩:=I1.tuple hq;refine wpAny_pyIter_tuple (show s1.heap.IsTuple a its.toArray from p) ?_;refine⟨s1.heap.objs.size,[s1.heap.objs.size],_,_,H1,rfl,I1.kept (t':=s1.toks) λb o e=>Heap.get?_push_of_some _ e,a1W a _,⟨_,Heap.get?_push_size _ rfl,rfl,rfl⟩,λb hb=>?_,q⟩;have e:b=s1.heap.objs.size:=by simpa using hb
 subst e;exact I1.fpOk (Nat.le_refl _) (I1.hok.fresh (Nat.le_refl _))
theorem a1w{pins:List (Addr×Obj)}{σ:St}{H:Hp}{s:Shared}{R:It->Hp->Prop}{E:Value->Shared->Prop}{lo hi:Int}{t u v:Tok}{tk:Nat}(I:Inv X pins σ H s)(h1 : -(2 ^ 62)<=lo)(h2:lo<2 ^ 62)(h3 : -(2 ^ 62)<=hi)(h4:hi<2 ^ 62)
  (q:R (Itr lo (hi-lo).toNat) H):wpAny (model X.prog X.w) X.A (pyIter (.ref s.heap.objs.size)) (PIE X pins σ tg R) E {s with heap:=s.heap.push {cls:=.type "range",data:=.fields #[.int lo t,.int hi u,.int 1 v]},toks:=tk}:=by
 refine wpAny_pyIter_range (IsRange.new ..) (small_one h1 h2 h3 h4) ?_;have I1:Inv X pins σ H {s with heap:=s.heap.push {cls:=.type "range",data:=.fields #[.int lo t,.int hi u,.int 1 v]},toks:=tk}:=I.kept λb o e=>Heap.get?_push_of_some _ e;refine⟨(s.heap.push {cls:=.type "range",data:=.fields #[.int lo t,.int hi u,.int 1 v]}).objs.size,[(s.heap.push {cls:=.type "range",data:=.fields #[.int lo t,.int hi u,.int 1 v]}).objs.size],_,_,H,rfl,
  I1.kept (t':=tk) λb o e=>Heap.get?_push_of_some _ e,a1X _ lo (hi-lo).toNat,?_,λb hb=>?_,q⟩
 .have e1:lo+((0:Nat):Int)*1=lo:=by simp
  have e2:(((hi-lo).toNat:Nat):Int)-((0:Nat):Int)=Builtin.Range.rangeSize lo hi 1:=by rw[rangeSize_one];split<;>omega
  show IsRangeIter _ _ (lo+((0:Nat):Int)*1) ((((hi-lo).toNat:Nat):Int)-((0:Nat):Int)) 1;rw[e1,e2];exact Heap.get?_push_size _ rfl
 .have e:b=(s.heap.push {cls:=.type "range",data:=.fields #[.int lo t,.int hi u,.int 1 v]}).objs.size:=by simpa using hb
  subst e;exact I1.fpOk (Nat.le_refl _) (I1.hok.fresh (Nat.le_refl _))
def a5J(ta:TA):TI:=λσ H R=>ta σ H λvs H1=>∃j:Int,vs=[.int j] /\ -(2 ^ 62)<=j/\j<2 ^ 62/\R (Itr 0 j.toNat) H1
def a8o(ta:TA):TI:=λσ H R=>ta σ H λvs H1=>∃i j:Int,vs=[.int i,.int j]/\(-(2 ^ 62)<=i/\i<2 ^ 62 /\ -(2 ^ 62)<=j/\j<2 ^ 62)/\R (Itr i (j-i).toNat) H1
theorem a3s{a:Expr}{ta:TA}{p pos:Pos}(hg:Gl X "range")(hm:X.mg "range"=none)(ha:PA X [a] ta)(hs:starEach [a] X.env=[(false,eval a X.env)]:=by rfl):PI X tg (.Call (.Name "range" p) [a] [] pos) (a5J ta):=by
 intro pins s σ H R I h;refine Call_ (E5 I hg hm boot_range (PyProof.Rows.callWith_type1 (thn (ha pos pins s σ H _ I h) λus s1 ⟨vs,H1,I1,r1,q1⟩=>?_) hs rfl));obtain⟨j,e,q1,q2,q⟩:=q1;subst e;cases r1 with
 |cons r rr =>
  cases rr;obtain⟨t,rfl⟩:=r;exact call_range_1 (a1w I1 (by omega) (by omega) q1 q2 (by simpa using q))
theorem a3r{a b:Expr}{ta:TA}{p pos:Pos}(hg:Gl X "range")(hm:X.mg "range"=none)(ha:PA X [a,b] ta)(hs:starEach [a,b] X.env=[(false,eval a X.env),(false,eval b X.env)]:=by rfl)(hs2:starEach [b] X.env=[(false,eval b X.env)]:=by rfl) :
  PI X tg (.Call (.Name "range" p) [a,b] [] pos) (a8o ta):=by
 intro pins s σ H R I h;refine Call_ (E5 I hg hm boot_range (PyProof.Rows.callWith_type1 (thn (ha pos pins s σ H _ I h) λus s1 ⟨vs,H1,I1,r1,q1⟩=>?_) (by rw[hs,hs2]) (by rw[hs2];rfl)));obtain⟨i,j,e,⟨q1,q2,q3,q4⟩,q⟩:=q1;subst e;cases r1 with
 |cons r rr =>
  cases rr with
  |cons r' rr =>
   cases rr;obtain⟨t,rfl⟩:=r;obtain⟨t',rfl⟩:=r';exact call_range_2 (a1w I1 q1 q2 q3 q4 q)
def b0u(wi:TI)(g:TG)(tb:TS):TS:=λD σ H=>wi σ H λJ H1=>∃W:Nat->Nat->St->Hp->Prop,(∃m,W 0 m σ H1)/\∀i m σ H,W i m σ H ->
 (J.stop i H/\D.nx σ H)∨(J.go i H/\∃N:St->Hp->Prop,(∀σ' H',N σ' H'->∃m',m'<m/\W (i+1) m' σ' H')/\∀x H',J.yld i H x H'->g x σ H' λσ2 H2=>tb {D with nx:=N,ct:=N,bk:=D.nx} σ2 H2)
noncomputable def X1(fp:List Addr)(h:Heap):List (Addr×Obj):=fp.filterMap λb=>(h.get? b).map λo=>(b,o)
theorem L9{fp:List Addr}{h:Heap}{b:Addr}{o:Obj}(hb:b∈fp)(e:h.get? b=some o):(b,o)∈X1 fp h:=List.mem_filterMap.mpr ⟨b,hb,by rw[e];rfl⟩
theorem a3A{fp:List Addr}{h:Heap}{p:Addr×Obj}(hp:p∈X1 fp h):p.1∈fp/\h.get? p.1=some p.2:=by
 obtain⟨b,hb,e⟩:=List.mem_filterMap.mp hp;cases q:h.get? b with
 |none=>rw[q]at e;cases e
 |some o =>
  rw[q]at e;have e':(b,o)=p:=Option.some.inj e;subst e';exact⟨hb,q⟩
theorem Inv.pinned{pins:List (Addr×Obj)}{σ:St}{H:Hp}{s:Shared}{fp:List Addr}(I:Inv X pins σ H s)(hf:∀b∈fp,T7 X pins H b)(ho:∀b∈fp,∃o,s.heap.get? b=some o/\∀v,o.data≠.cell v):Inv X (pins++X1 fp s.heap) σ H s :=
 I.pins_of λp hp=>(List.mem_append.mp hp).elim (λz=>I.pin p (List.mem_append_right _ z)) λz=>by
  obtain⟨hb,e⟩:=a3A z;obtain⟨f0,f1,f2,_⟩:=hf p.1 hb;obtain⟨o,e',d⟩:=ho p.1 hb;rw[e]at e';cases e';exact⟨e,f0,f1,f2,d⟩
theorem Inv.unpinned{pins pl:List (Addr×Obj)}{σ:St}{H:Hp}{s:Shared}(I:Inv X (pins++pl) σ H s):Inv X pins σ H s:=I.pins_of λp hp=>I.pin p (List.mem_append_right _ (List.mem_append_left _ hp))
theorem a8V{iter:Expr}{body:List Stmt}{wi:TI}{g:TG}{tb:TS}{pos:Pos}(hp:PassesOwn (model X.prog X.w) X.A X.env X.xe)(hc:X.calm=true)(hi:PI X tg iter wi)(hg:PG X tg g)(hb:PSs X body tb)
  (hs:∀x,foldedSetIterable iter X.env x=pure x:=by intro _;rfl):PS X (.For tg iter body [] pos) (b0u wi g tb):=by
 intro pins s σ H D I h;refine wpAny_For (thn (hi pins s σ H _ I h) λv s1 h1=>thn h1 λitv s2 h2=>?_) hs;obtain⟨it,fp,tn,J,H2,e,I2,T,st2,f2,W,⟨m0,w0⟩,turn⟩:=h2;subst e;have stat:∀{H':Hp},(∀b∈fp,H' b=none)->∀b∈fp,T7 X pins H' b:=λhn b hb=>⟨hn b hb,(f2 b hb).2⟩;refine codeAny_forLoop_any (λn s'=>∃i σ' H',Inv X pins σ' H' s'/\tn i s'.heap/\(∀b∈fp,H' b=none)/\W i n σ' H') ?_ m0 ⟨0,σ,H2,I2,st2,λb hb=>(f2 b hb).1,w0⟩;rintro n s3 ⟨i,σ3,H3,I3,st3,fr3,w3⟩;rcases turn i n σ3 H3 w3 with⟨stop,qn⟩|⟨go,N,hN,step⟩
 .refine wpAny_passesOwn hp (thn (T.done X rfl rfl rfl hc i pins s3 σ3 H3 X.xe I3 (stat fr3) st3 stop) λr s4 ⟨hr,I4⟩=>?_);subst hr;exact wpAny_execs_nil ⟨σ3,H3,I4,qn⟩
 .refine wpAny_passesOwn hp (thn (T.item X rfl rfl rfl hc i pins s3 σ3 H3 X.xe I3 (stat fr3) st3 go) λr s4 ⟨u,hr,h4⟩=>?_);subst hr;refine wpAny_passesOwn hp (thn h4 λ_ s5 ⟨x,H5,I5,r5,y5,st5,fr5⟩=>?_);have I5':=I5.pinned (stat fr5) (T.obj _ _ st5);refine wpAny_passesOwn hp (thn (hg _ s5 σ3 H5 x u _ I5' r5 (step x H5 y5)) λ_ s6 ⟨σ6,H6,I6,q6⟩=>?_);refine wpAny_passesOwn hp (thn (hb _ s6 σ6 H6 _ I6 q6) λf s7 q7=>?_);have again:∀{σ7:St}{H7:Hp},Inv X (pins++X1 fp s5.heap) σ7 H7 s7->N σ7 H7->∃m,m<n/\∃i σ' H',Inv X pins σ' H' s7/\tn i s7.heap/\(∀b∈fp,H' b=none)/\W i m σ' H':=λ{σ7 H7} I7 n7=>by
   obtain⟨m',hm,w7⟩:=hN σ7 H7 n7;refine⟨m',hm,i+1,σ7,H7,I7.unpinned,T.keep _ _ _ st5 λb hb o e=>(I7.pin (b,o) (List.mem_append_right _ (List.mem_append_right _ (L9 hb e)))).1,λb hb=>?_,w7⟩;obtain⟨o,e,d⟩:=T.obj _ _ st5 b hb;exact(I7.pin (b,o) (List.mem_append_right _ (List.mem_append_right _ (L9 hb e)))).2.1
  cases f with
  |next=>obtain⟨σ7,H7,I7,n7⟩:=q7;exact again I7 n7
  |cont=>obtain⟨σ7,H7,I7,n7⟩:=q7;exact again I7 n7
  |brk=>obtain⟨σ7,H7,I7,q7⟩:=q7;exact⟨σ7,H7,I7.unpinned,q7⟩
  |ret v=>obtain⟨x7,σ7,H7,I7,r7,q7⟩:=q7;exact⟨x7,σ7,H7,I7.unpinned,r7,q7⟩
end
theorem a1J{K:PySem.W.Frag}{a:Addr}{xs:List V}{g:TG}{tb:TS}{D:Ends}{σ:St}{H:Hp}(Pv:Nat->St->Hp->Prop)(h0:Pv 0 σ H)(hl:∀i σ H,i<=xs.length->Pv i σ H->SqL K H a xs)
  (hs:∀i x σ H,xs[i]?=some x->Pv i σ H->g x σ H λσ2 H2=>tb {D with nx:=Pv (i+1),ct:=Pv (i+1),bk:=D.nx} σ2 H2) (hd:∀σ H,Pv xs.length σ H->D.nx σ H) :
  ∃W:Nat->Nat->St->Hp->Prop,(∃m,W 0 m σ H)/\∀i m σ H,W i m σ H ->
   ((Itl K a).stop i H/\D.nx σ H)∨((Itl K a).go i H/\∃N:St->Hp->Prop,(∀σ' H',N σ' H'->∃m',m'<m/\W (i+1) m' σ' H')/\∀x H',(Itl K a).yld i H x H'->g x σ H' λσ2 H2=>tb {D with nx:=N,ct:=N,bk:=D.nx} σ2 H2):=by
 refine⟨λi m σ H=>m=xs.length-i/\i<=xs.length/\Pv i σ H,⟨xs.length,by simp,Nat.zero_le _,h0⟩,?_⟩;rintro i m σ H ⟨rfl,hi,p⟩;have q:=hl i σ H hi p;by_cases hlt:i<xs.length
 .refine .inr ⟨⟨xs,xs[i],q,by simp[hlt]⟩,Pv (i+1),λσ' H' p'=>⟨xs.length-(i+1),by omega,rfl,hlt,p'⟩,λx H' y=>?_⟩;obtain⟨e,y⟩:=y;subst e;exact hs i x σ _ (y xs q) p
 .have e:i=xs.length:=by omega
  subst e;exact .inl ⟨⟨xs,q,Nat.le_refl _⟩,hd σ H p⟩
theorem a1d{K:PySem.W.Frag}{a:Addr}{xs:List V}{g:TG}{tb:TS}{D:Ends}{σ:St}{H:Hp}(Pv:Nat->St->Hp->Prop)(h0:Pv 0 σ H)(hl:∀i σ H,i<=xs.length->Pv i σ H->SqT K H a xs)
  (hs:∀i x σ H,xs[i]?=some x->Pv i σ H->g x σ H λσ2 H2=>tb {D with nx:=Pv (i+1),ct:=Pv (i+1),bk:=D.nx} σ2 H2) (hd:∀σ H,Pv xs.length σ H->D.nx σ H) :
  ∃W:Nat->Nat->St->Hp->Prop,(∃m,W 0 m σ H)/\∀i m σ H,W i m σ H ->
   ((Itt K a).stop i H/\D.nx σ H)∨((Itt K a).go i H/\∃N:St->Hp->Prop,(∀σ' H',N σ' H'->∃m',m'<m/\W (i+1) m' σ' H')/\∀x H',(Itt K a).yld i H x H'->g x σ H' λσ2 H2=>tb {D with nx:=N,ct:=N,bk:=D.nx} σ2 H2):=by
 refine⟨λi m σ H=>m=xs.length-i/\i<=xs.length/\Pv i σ H,⟨xs.length,by simp,Nat.zero_le _,h0⟩,?_⟩;rintro i m σ H ⟨rfl,hi,p⟩;have q:=hl i σ H hi p;by_cases hlt:i<xs.length
 .refine .inr ⟨⟨xs,xs[i],q,by simp[hlt]⟩,Pv (i+1),λσ' H' p'=>⟨xs.length-(i+1),by omega,rfl,hlt,p'⟩,λx H' y=>?_⟩;obtain⟨e,y⟩:=y;subst e;exact hs i x σ _ (y xs q) p
 .have e:i=xs.length:=by omega
  subst e;exact .inl ⟨⟨xs,q,Nat.le_refl _⟩,hd σ H p⟩
theorem O8{lo:Int}{n:Nat}{g:TG}{tb:TS}{D:Ends}{σ:St}{H:Hp}(Pv:Nat->St->Hp->Prop)(h0:Pv 0 σ H)
  (hs:∀i σ H,i<n->Pv i σ H->g (.int (lo+i)) σ H λσ2 H2=>tb {D with nx:=Pv (i+1),ct:=Pv (i+1),bk:=D.nx} σ2 H2) (hd:∀σ H,Pv n σ H->D.nx σ H) :
  ∃W:Nat->Nat->St->Hp->Prop,(∃m,W 0 m σ H)/\∀i m σ H,W i m σ H ->
   ((Itr lo n).stop i H/\D.nx σ H)∨((Itr lo n).go i H/\∃N:St->Hp->Prop,(∀σ' H',N σ' H'->∃m',m'<m/\W (i+1) m' σ' H')/\∀x H',(Itr lo n).yld i H x H'->g x σ H' λσ2 H2=>tb {D with nx:=N,ct:=N,bk:=D.nx} σ2 H2):=by
 refine⟨λi m σ H=>m=n-i/\i<=n/\Pv i σ H,⟨n,by simp,Nat.zero_le _,h0⟩,?_⟩;rintro i m σ H ⟨rfl,hi,p⟩;by_cases hlt:i<n
 .refine .inr ⟨hlt,Pv (i+1),λσ' H' p'=>⟨n-(i+1),by omega,rfl,hlt,p'⟩,λx H' y=>?_⟩;obtain⟨e,y⟩:=y;subst e y;exact hs i σ _ hlt p
 .have e:i=n:=by omega
  subst e;exact .inl ⟨Nat.le_refl _,hd σ H p⟩
abbrev R2:=V->V->Hp->VK->Prop
def OpR(X:Cx)(f:Value->Value->Sem Value)(r:R2):Prop :=
 ∀(pins:List (Addr×Obj)) (s:Shared) (σ:St) (H:Hp) (x y:V) (v u:Value) (Q:VK),Inv X pins σ H s->RelV x v->RelV y u->r x y H Q ->
  wpAny (model X.prog X.w) X.A (f v u) (EP X pins σ Q) X.xe s
def UnR(X:Cx)(f:Value->Sem Value)(r:V->Hp->VK->Prop):Prop :=
 ∀(pins:List (Addr×Obj)) (s:Shared) (σ:St) (H:Hp) (x:V) (v:Value) (Q:VK),Inv X pins σ H s->RelV x v->r x H Q ->
  wpAny (model X.prog X.w) X.A (f v) (EP X pins σ Q) X.xe s
def C6(X:Cx)(f:Value)(r:List V->Hp->VK->Prop):Prop :=
 ∀(pins:List (Addr×Obj)) (s:Shared) (σ:St) (H:Hp) (xs:List V) (us:List Value) (Q:VK),Inv X pins σ H s->Vals xs us->r xs H Q ->
  wpAny (model X.prog X.w) X.A (call f us) (EP X pins σ Q) X.xe s
def b1r(X:Cx)(r:V->Hp->(Bool->Hp->Prop)->Prop):Prop :=
 ∀(pins:List (Addr×Obj)) (s:Shared) (σ:St) (H:Hp) (x:V) (v:Value) (Q:Bool->Hp->Prop),Inv X pins σ H s->RelV x v->r x H Q ->
  wpAny (model X.prog X.w) X.A (truthy v) (TP X pins σ Q) X.xe s
def tOp(r:R2)(ta tb:TE):TE:=λσ H Q=>ta σ H λx H1=>tb σ H1 λy H2=>r x y H2 Q
def tUn(r:V->Hp->VK->Prop)(ta:TE):TE:=λσ H Q=>ta σ H λx H1=>r x H1 Q
def rI(C:Int->Int->Prop)(g:Int->Int->V):R2:=λx y H Q=>∃i j,x=.int i/\y=.int j/\C i j/\Q (g i j) H
def rI0(g:Int->Int->V):R2:=λx y H Q=>∃i j,x=.int i/\y=.int j/\Q (g i j) H
def rU(g:Int->V):V->Hp->VK->Prop:=λx H Q=>∃i,x=.int i/\Q (g i) H
section
variable {X:Cx}{a b c:Expr}{ta tb tc:TE}{pos:Pos}
theorem b0d(ha:PE X a ta)(hb:PE X b tb){pins:List (Addr×Obj)}{s:Shared}{σ:St}{H:Hp}{R:V->V->Hp->Prop}(I:Inv X pins σ H s)
  (h:ta σ H λx H1=>tb σ H1 λy H2=>R x y H2) {Q:Value->Shared->Prop}{f:Value->Value->Sem Value}
  (hf:∀v u s2 x y H2,Inv X pins σ H2 s2->RelV x v->RelV y u->R x y H2->wpAny (model X.prog X.w) X.A (f v u) Q X.xe s2) :
  wpAny (model X.prog X.w) X.A (eval a X.env) (λv s₁=>wpAny (model X.prog X.w) X.A (eval b X.env) (λu s₂=>wpAny (model X.prog X.w) X.A (f v u) Q X.xe s₂) X.xe s₁) X.xe s:=by
 refine thn (ha pins s σ H _ I h) λv s1 ⟨x,H1,I1,r1,q1⟩=>?_;refine thn (hb pins s1 σ H1 _ I1 q1) λu s2 ⟨y,H2,I2,r2,q2⟩=>?_;exact hf v u s2 x y H2 I2 r1 r2 q2
theorem R4{op:Operator}{r:R2}(ho:OpR X (binaryOp op) r)(ha:PE X a ta)(hb:PE X b tb):PE X (.BinOp a op b pos) (tOp r ta tb):=by
 intro pins s σ H Q I h;exact wpAny_BinOp (b0d ha hb I h λv u s2 x y H2 I2 rx ry q=>ho pins s2 σ H2 x y v u Q I2 rx ry q)
theorem b0G{op:UnaryOp}{r:V->Hp->VK->Prop}(ho:UnR X (unaryOp op) r)(ha:PE X a ta):PE X (.UnaryOp op a pos) (tUn r ta):=by
 intro pins s σ H Q I h;exact UnaryOp_ (thn (ha pins s σ H _ I h) λv s1 ⟨x,H1,I1,r1,q1⟩=>ho pins s1 σ H1 x v Q I1 r1 q1)
theorem opI{f:Value->Value->Sem Value}{C:Int->Int->Prop}{g:Int->Int->Int}
  (rule:∀(i j:Int) (t u:Tok) (s:Shared) (Q:Value->Shared->Prop) (E:Value->Shared->Prop),C i j->Q (.int (g i j) s.toks) {s with toks:=s.toks+1}->wpAny (model X.prog X.w) X.A (f (.int i t) (.int j u)) Q E s) :
  OpR X f (rI C λi j=>.int (g i j)):=by
 intro pins s σ H x y v u Q I rx ry h;obtain⟨i,j,rfl,rfl,hc,q⟩:=h;obtain⟨t,rfl⟩:=rx;obtain⟨t',rfl⟩:=ry;exact rule i j t t' s _ _ hc ⟨.int (g i j),H,I.tok _,⟨_,rfl⟩,q⟩
theorem b0L{f:Value->Value->Sem Value}{g:Int->Int->Int}
  (rule:∀(i j:Int) (t u:Tok) (s:Shared) (Q:Value->Shared->Prop) (E:Value->Shared->Prop),Q (.int (g i j) s.toks) {s with toks:=s.toks+1}->wpAny (model X.prog X.w) X.A (f (.int i t) (.int j u)) Q E s) :
  OpR X f (rI0 λi j=>.int (g i j)):=by
 intro pins s σ H x y v u Q I rx ry h;obtain⟨i,j,rfl,rfl,q⟩:=h;obtain⟨t,rfl⟩:=rx;obtain⟨t',rfl⟩:=ry;exact rule i j t t' s _ _ ⟨.int (g i j),H,I.tok _,⟨_,rfl⟩,q⟩
theorem a7b{f:Value->Value->Sem Value}{g:Int->Int->Bool}
  (rule:∀(i j:Int) (t u:Tok) (s:Shared) (Q:Value->Shared->Prop) (E:Value->Shared->Prop),Q (.bool (g i j)) s->wpAny (model X.prog X.w) X.A (f (.int i t) (.int j u)) Q E s) :
  OpR X f (rI0 λi j=>.bl (g i j)):=by
 intro pins s σ H x y v u Q I rx ry h;obtain⟨i,j,rfl,rfl,q⟩:=h;obtain⟨t,rfl⟩:=rx;obtain⟨t',rfl⟩:=ry;exact rule i j t t' s _ _ ⟨.bl (g i j),H,I,rfl,q⟩
def b0o(i j:Int):Prop:=0<j/\j<1073741824
def b1c(i j:Int):Prop:=0<=j/\j<=1000000/\i.natAbs<2 ^ 64
def CMul(i j:Int):Prop:=(-(2 ^ 64)<i/\i<2 ^ 64)∨(-(2 ^ 64)<j/\j<2 ^ 64)
theorem CMul.ok{i j:Int}(h:CMul i j):IntMulOk i j:=by
 rcases h with⟨h1,h2⟩|⟨h1,h2⟩
 .exact .of_left (intBits_le_64 h1 h2)
 .exact .of_right (intBits_le_64 h1 h2)
theorem a9y:OpR X (binaryOp .Add) (rI0 λi j=>.int (i+j)):=b0L λ_ _ _ _ _ _ _ q=>add_int q
theorem a9q:OpR X (binaryOp .Sub) (rI0 λi j=>.int (i-j)):=b0L λ_ _ _ _ _ _ _ q=>sub_int q
theorem a9t:OpR X (binaryOp .Mult) (rI CMul λi j=>.int (i*j)):=opI λ_ _ _ _ _ _ _ hc q=>mul_int q hc.ok
theorem a6Z:OpR X (binaryOp .FloorDiv) (rI b0o λi j=>.int (i / j)):=opI λi j _ _ _ _ _ hc q=>by
 have h1:(0:Int)<j:=hc.1;have h2:j<1073741824:=hc.2;exact floordiv_int (by omega) (by rw[Int.fdiv_eq_ediv_of_nonneg i (by omega)];exact q) (.inl (PyProof.noPylong_small (by omega)))
theorem a9u:OpR X (binaryOp .Mod) (rI (λ_ j=>0<j) λi j=>.int (i % j)):=opI λi j _ _ _ _ _ hc q=>by
 have h1:(0:Int)<j:=hc;exact mod_int' (by omega) (by rw[Int.fmod_eq_emod_of_nonneg i (by omega)];exact q)
theorem a9s:OpR X (binaryOp .Pow) (rI b1c λi j=>.int (i ^ j.toNat)):=opI λ_ _ _ _ _ _ _ hc q=>pow_int_small hc.1 hc.2.1 hc.2.2 q
theorem unI{f:Value->Sem Value}{g:Int->Int}
  (rule:∀(i:Int) (t:Tok) (s:Shared) (Q:Value->Shared->Prop) (E:Value->Shared->Prop),Q (.int (g i) s.toks) {s with toks:=s.toks+1}->wpAny (model X.prog X.w) X.A (f (.int i t)) Q E s) :
  UnR X f (rU λi=>.int (g i)):=by
 intro pins s σ H x v Q I rx h;obtain⟨i,rfl,q⟩:=h;obtain⟨t,rfl⟩:=rx;exact rule i t s _ _ ⟨.int (g i),H,I.tok _,⟨_,rfl⟩,q⟩
theorem a8v:UnR X (unaryOp .USub) (rU λi=>.int (-i)):=unI λ_ _ _ _ _ q=>neg_int q
end
noncomputable def a8I:V->V->Bool
 |.non,.non=>true | .non,.int _=>true | .int _,.non=>true | .non,.bl _=>true | .bl _,.non=>true | .non,.str _=>true | .str _,.non=>true
 |.int _,.int _=>true | .bl _,.bl _=>true | .str _,.str _=>true | .byt _,.byt _=>true
 |.int _,.str _=>true | .str _,.int _=>true | .bl _,.str _=>true | .str _,.bl _=>true
 |_,_=>false
theorem a6r(a b:Int):a8I (.int a) (.int b)=true:=rfl
def rEq:R2:=λx y H Q=>a8I x y=true/\Q (.bl (decide (x=y))) H
def rNe:R2:=λx y H Q=>a8I x y=true/\Q (.bl (!decide (x=y))) H
theorem a3b{i j:Int}:decide (V.int i=V.int j)=(i==j):=by
 rw[Bool.eq_iff_iff];simp
theorem a5T{i j:Bool}:decide (V.bl i=V.bl j)=(i==j):=by
 rw[Bool.eq_iff_iff];simp
theorem a3a{i j:Str}:decide (V.str i=V.str j)=(i==j):=by
 rw[Bool.eq_iff_iff];simp
theorem a3c{i j:Array UInt8}:decide (V.byt i=V.byt j)=(i.toList==j.toList):=by
 rw[Bool.eq_iff_iff];cases i;cases j;simp
section
variable {X:Cx}{a b c:Expr}{ta tb tc:TE}{pos:Pos}
theorem B4{pins:List (Addr×Obj)}{σ:St}{H:Hp}{s:Shared}{Q:VK}{k k':Bool}(I:Inv X pins σ H s)(q:Q (.bl k) H)(e:k=k'):EP X pins σ Q (.bool k') s:=by
 subst e;exact⟨.bl k,H,I,rfl,q⟩
theorem a8h:OpR X (compareOp .Eq) rEq:=by
 intro pins s σ H x y v u Q I rx ry h;obtain⟨hs,q⟩:=h;cases x with
 |non =>
  cases rx;cases y with
  |non=>cases ry;exact PySem.EqNone.eq_none_none (B4 I q (by simp))
  |bl j=>cases ry;exact PySem.EqNone.eq_none_bool (B4 I q (by simp))
  |int j=>obtain⟨t',rfl⟩:=ry;exact PySem.EqNone.eq_none_int (B4 I q (by simp))
  |str j=>obtain⟨t',rfl⟩:=ry;exact PySem.EqNone.eq_none_str (B4 I q (by simp))
  |_=>exact absurd (show false=true from hs) Bool.false_ne_true
 |bl i =>
  cases rx;cases y with
  |non=>cases ry;exact PySem.EqNone.eq_bool_none (B4 I q (by simp))
  |bl j=>cases ry;exact eq_bool (B4 I q a5T)
  |str j=>obtain⟨t',rfl⟩:=ry;exact PySem.EqMixed.eq_bool_str (B4 I q (by simp))
  |_=>exact absurd (show false=true from hs) Bool.false_ne_true
 |int i =>
  obtain⟨t,rfl⟩:=rx;cases y with
  |non=>cases ry;exact PySem.EqNone.eq_int_none (B4 I q (by simp))
  |int j=>obtain⟨t',rfl⟩:=ry;exact eq_int (B4 I q a3b)
  |str j=>obtain⟨t',rfl⟩:=ry;exact PySem.EqMixed.eq_int_str (B4 I q (by simp))
  |_=>exact absurd (show false=true from hs) Bool.false_ne_true
 |str i =>
  obtain⟨t,rfl⟩:=rx;cases y with
  |non=>cases ry;exact PySem.EqNone.eq_str_none (B4 I q (by simp))
  |bl j=>cases ry;exact PySem.EqMixed.eq_str_bool (B4 I q (by simp))
  |int j=>obtain⟨t',rfl⟩:=ry;exact PySem.EqMixed.eq_str_int (B4 I q (by simp))
  |str j=>obtain⟨t',rfl⟩:=ry;exact eq_str (B4 I q a3a)
  |_=>exact absurd (show false=true from hs) Bool.false_ne_true
 |byt i =>
  obtain⟨t,rfl⟩:=rx;cases y with
  |byt j=>obtain⟨t',rfl⟩:=ry;exact PySem.W.eq_bytes (B4 I q a3c)
  |_=>exact absurd (show false=true from hs) Bool.false_ne_true
 |_=>cases y<;>exact absurd (show false=true from hs) Bool.false_ne_true
theorem b0J:OpR X (compareOp .NotEq) rNe:=by
 intro pins s σ H x y v u Q I rx ry h;obtain⟨hs,q⟩:=h;cases x with
 |non =>
  cases rx;cases y with
  |non=>cases ry;exact PySem.EqNone.ne_none_none (B4 I q (by simp))
  |bl j=>cases ry;exact PySem.EqNone.ne_none_bool (B4 I q (by simp))
  |int j=>obtain⟨t',rfl⟩:=ry;exact PySem.EqNone.ne_none_int (B4 I q (by simp))
  |str j=>obtain⟨t',rfl⟩:=ry;exact PySem.EqNone.ne_none_str (B4 I q (by simp))
  |_=>exact absurd (show false=true from hs) Bool.false_ne_true
 |bl i =>
  cases rx;cases y with
  |non=>cases ry;exact PySem.EqNone.ne_bool_none (B4 I q (by simp))
  |bl j=>cases ry;exact ne_bool (B4 I q (congrArg not a5T))
  |str j=>obtain⟨t',rfl⟩:=ry;exact PySem.EqMixed.ne_bool_str (B4 I q (by simp))
  |_=>exact absurd (show false=true from hs) Bool.false_ne_true
 |int i =>
  obtain⟨t,rfl⟩:=rx;cases y with
  |non=>cases ry;exact PySem.EqNone.ne_int_none (B4 I q (by simp))
  |int j=>obtain⟨t',rfl⟩:=ry;exact ne_int (B4 I q (congrArg not a3b))
  |str j=>obtain⟨t',rfl⟩:=ry;exact PySem.EqMixed.ne_int_str (B4 I q (by simp))
  |_=>exact absurd (show false=true from hs) Bool.false_ne_true
 |str i =>
  obtain⟨t,rfl⟩:=rx;cases y with
  |non=>cases ry;exact PySem.EqNone.ne_str_none (B4 I q (by simp))
  |bl j=>cases ry;exact PySem.EqMixed.ne_str_bool (B4 I q (by simp))
  |int j=>obtain⟨t',rfl⟩:=ry;exact PySem.EqMixed.ne_str_int (B4 I q (by simp))
  |str j=>obtain⟨t',rfl⟩:=ry;exact ne_str (B4 I q (congrArg not a3a))
  |_=>exact absurd (show false=true from hs) Bool.false_ne_true
 |byt i =>
  obtain⟨t,rfl⟩:=rx;cases y with
  |byt j=>obtain⟨t',rfl⟩:=ry;exact PySem.W.ne_bytes (B4 I q (congrArg not a3c))
  |_=>exact absurd (show false=true from hs) Bool.false_ne_true
 |_=>cases y<;>exact absurd (show false=true from hs) Bool.false_ne_true
theorem a8e:OpR X (compareOp .Lt) (rI0 λi j=>.bl (decide (i<j))):=a7b λ_ _ _ _ _ _ _ q=>lt_int q
theorem b0K:OpR X (compareOp .LtE) (rI0 λi j=>.bl (decide (i<=j))):=a7b λ_ _ _ _ _ _ _ q=>le_int q
theorem a8f:OpR X (compareOp .Gt) (rI0 λi j=>.bl (decide (j<i))):=a7b λ_ _ _ _ _ _ _ q=>gt_int q
theorem a8g:OpR X (compareOp .GtE) (rI0 λi j=>.bl (decide (j<=i))):=a7b λ_ _ _ _ _ _ _ q=>ge_int q
theorem a9v:OpR X (compareOp .Is) (λx y H Q=>y=.non/\Q (.bl (decide (x=.non))) H):=by
 intro pins s σ H x y v u Q I rx ry h;obtain⟨rfl,q⟩:=h;cases ry;refine is_none_gen (B4 I q ?_);cases x<;>first
  |(cases rx;rfl)
  |(obtain⟨t,rfl⟩:=rx;rfl)
theorem a6Y:OpR X (compareOp .IsNot) (λx y H Q=>y=.non/\Q (.bl (!decide (x=.non))) H):=by
 intro pins s σ H x y v u Q I rx ry h;obtain⟨rfl,q⟩:=h;cases ry;refine isnot_none_gen (B4 I q ?_);cases x<;>first
  |(cases rx;rfl)
  |(obtain⟨t,rfl⟩:=rx;rfl)
theorem E3(b:Expr){op:CmpOp}(h:op≠.In:=by decide)(h2:op≠.NotIn:=by decide):behindInMarks op b=false:=by
 have e1:(op==CmpOp.In)=false:=by cases op<;>first|rfl|exact absurd rfl h
 have e2:(op==CmpOp.NotIn)=false:=by cases op<;>first|rfl|exact absurd rfl h2
 cases b with
 |Set elts k p=>show(k==0 && (op==CmpOp.In || op==CmpOp.NotIn) && elts.all (constantsAlone 8))=false;rw[e1,e2,Bool.or_false,Bool.and_false,Bool.false_and]
 |_=>rfl
theorem O2{op:CmpOp}{r:R2}(ho:OpR X (compareOp op) r)(ha:PE X a ta)(hb:PE X b tb)(hm:behindInMarks op b=false):PE X (.Compare a [op] [b] pos) (tOp r ta tb):=by
 intro pins s σ H Q I h;exact wpAny_Compare1 (b0d ha hb I h λv u s2 x y H2 I2 rx ry q=>ho pins s2 σ H2 x y v u Q I2 rx ry q) hm
def P2(t:TE):TT:=λσ H Q=>t σ H λx H'=>∃k,x=.bl k/\Q k H'
theorem J9{op:CmpOp}{r:R2}(ho:OpR X (compareOp op) r)(ha:PE X a ta)(hb:PE X b tb)(hm:behindInMarks op b=false):PT X (.Compare a [op] [b] pos) (P2 (tOp r ta tb)):=by
 intro pins s σ H Q I h;refine wpAny_isTrue_Compare1 (thn (ha pins s σ H _ I h) λv s1 ⟨x,H1,I1,r1,q1⟩=>thn (hb pins s1 σ H1 _ I1 q1) λu s2 ⟨y,H2,I2,r2,q2⟩ =>
  thn (ho pins s2 σ H2 x y v u _ I2 r1 r2 q2) λc s3 ⟨z,H3,I3,r3,k,e,q3⟩=>?_) hm
 subst e;cases r3;exact wpAny_truthy_bool ⟨H3,I3,q3⟩
def b0k(K:PySem.W.Frag)(x:V)(H:Hp)(k:Bool):Prop :=
 match x with
 |.non=>k=false
 |.bl b=>k=b
 |.int i=>k=(i != 0)
 |.str y=>y.length<=sizeLine/\k=((y.length:Int) != 0)
 |.byt y=>y.size<=sizeLine/\k=((y.size:Int) != 0)
 |.ref p=>(∃xs,SqL K H p xs/\k=!xs.isEmpty)∨(∃xs,SqT K H p xs/\k=!xs.isEmpty)∨∃kvs,H p=some (.dK kvs)/\k=!kvs.isEmpty
 |_=>False
theorem a2t{κ:Type}{kvs:List (κ×V)}{vs:List (κ×Value)}(r:KV kvs vs):(!vs.isEmpty)=!kvs.isEmpty:=by
 cases r<;>rfl
theorem Y5{xs:List V}{its:List Value}(r:Vals xs its):(!its.toArray.isEmpty)=!xs.isEmpty:=by
 cases r<;>simp
theorem Q0:(sizeLine:Nat)<2 ^ 63:=by rw[sizeLine_eq];decide
theorem a8x:b1r X (λx H Q=>∃k,b0k X.K x H k/\Q k H):=by
 intro pins s σ H x v Q I rx h;obtain⟨k,e,q⟩:=h;have hl:=Q0;have hs:sizeLine=16777216:=sizeLine_eq;cases x with
 |non =>
  cases rx;have e':k=false:=e;subst e';exact truthy_none ⟨H,I,q⟩
 |bl b =>
  cases rx;have e':k=b:=e;subst e';exact wpAny_truthy_bool ⟨H,I,q⟩
 |int i =>
  obtain⟨t,rfl⟩:=rx;have e':k=(i != 0):=e;subst e';exact PySem.P.truthy_int ⟨H,I,q⟩
 |str y =>
  obtain⟨t,rfl⟩:=rx;obtain⟨hy,e'⟩:y.length<=sizeLine/\k=((y.length:Int) != 0):=e;subst e';exact PySem.P.truthy_str (by omega) ⟨H,I.tok _,q⟩
 |byt y =>
  obtain⟨t,rfl⟩:=rx;obtain⟨hy,e'⟩:y.size<=sizeLine/\k=((y.size:Int) != 0):=e;subst e';exact PySem.W.truthy_bytes (by omega) ⟨H,I.tok _,q⟩
 |ref p =>
  cases rx;have e':(∃xs,SqL X.K H p xs/\k=!xs.isEmpty)∨(∃xs,SqT X.K H p xs/\k=!xs.isEmpty)∨∃kvs,H p=some (.dK kvs)/\k=!kvs.isEmpty:=e;rcases e' with⟨xs,hx,e'⟩|⟨xs,hx,e'⟩|⟨kvs,hx,e'⟩
  .subst e';obtain⟨its,r,pl,hz⟩:=I.list hx;have hlen:=r.length;exact wpAny_truthy_list pl.isList (by simp only[List.size_toArray];omega) ⟨H,I.tok _,by rw[Y5 r];exact q⟩
  .subst e';obtain⟨its,r,pl,hz⟩:=I.tuple hx;have hlen:=r.length;exact truthy_tuple pl (by simp only[List.size_toArray];omega) ⟨H,I.tok _,by rw[Y5 r];exact q⟩
  .subst e';obtain⟨hz,hS,vs,r,m⟩:kvs.length<=sizeLine/\(p==sysModules)=false/\∃vs,KV kvs vs/\s.heap.DictOf (a0Q X.prog X.w) p vs:=I.hok p _ hx;have hlen:kvs.length=vs.length:=Paired.length r;exact wpAny_truthy_dict hS m (by omega) ⟨H,I.tok _,by rw[a2t r];exact q⟩
 |_=>exact(show False from e).elim
theorem a4U(ha:PE X a ta)(he:∀whole,isTrue a X.env whole=(do let v <-whole;standAt a.pos;holding [v] (truthy v))) :
  PT X a (λσ H Q=>ta σ H λx H'=>∃k,b0k X.K x H' k/\Q k H'):=by
 intro pins s σ H Q I h;exact isTrue_plain (thn (ha pins s σ H _ I h) λv s1 ⟨x,H1,I1,r1,q1⟩=>a8x pins s1 σ H1 x v Q I1 r1 q1) (he _)
theorem a2E{x:V}{us:List Value}(r:Vals [x] us):∃u,us=[u]/\RelV x u:=by
 cases r with
 |cons r1 r2=>cases r2;exact⟨_,rfl,r1⟩
theorem a7P{x y:V}{us:List Value}(r:Vals [x,y] us):∃u w',us=[u,w']/\RelV x u/\RelV y w':=by
 cases r with
 |cons r1 r2 =>
  cases r2 with
  |cons r3 r4=>cases r4;exact⟨_,_,rfl,r1,r3⟩
theorem a4b(hc:X.calm=true):C6 X (.builtin "max") (λxs H Q=>∃i j,xs=[.int i,.int j]/\Q (.int (if j > i then j else i)) H):=by
 intro pins s σ H xs us Q I r h;obtain⟨i,j,rfl,q⟩:=h;obtain⟨u,w',rfl,⟨t,rfl⟩,⟨t',rfl⟩⟩:=a7P r;refine max_two_ints (I.ok.hd hc) λh' tk k=>⟨_,H,I.kept k,?_,q⟩;by_cases hj:j > i
 .rw[if_pos hj,if_pos hj];exact⟨_,rfl⟩
 .rw[if_neg hj,if_neg hj];exact⟨_,rfl⟩
theorem a3Y(hc:X.calm=true):C6 X (.builtin "min") (λxs H Q=>∃i j,xs=[.int i,.int j]/\Q (.int (if j<i then j else i)) H):=by
 intro pins s σ H xs us Q I r h;obtain⟨i,j,rfl,q⟩:=h;obtain⟨u,w',rfl,⟨t,rfl⟩,⟨t',rfl⟩⟩:=a7P r;refine min_two_ints (I.ok.hd hc) λh' tk k=>⟨_,H,I.kept k,?_,q⟩;by_cases hj:j<i
 .rw[if_pos hj,if_pos hj];exact⟨_,rfl⟩
 .rw[if_neg hj,if_neg hj];exact⟨_,rfl⟩
theorem a4f:C6 X (.type "int") (λxs H Q=>(∃i,xs=[.int i]/\Q (.int i) H)∨∃k,xs=[.bl k]/\Q (.int (if k then 1 else 0)) H):=by
 intro pins s σ H xs us Q I r h;rcases h with⟨i,rfl,q⟩|⟨k,rfl,q⟩
 .obtain⟨u,rfl,t,rfl⟩:=a2E r;exact call_int_int ⟨.int i,H,I,⟨_,rfl⟩,q⟩
 .obtain⟨u,rfl,r1⟩:=a2E r;cases r1;exact call_int_bool ⟨.int (if k then 1 else 0),H,I.tok _,⟨_,rfl⟩,q⟩
end
structure ObjM(h:Heap)(x dx C:Addr)(mA:Str->Option Value):Prop where
 obj:h.get? x=some (PySem.W.instObj C dx)
 ns:h.Ns1 dx mA
 ne:dx≠x
theorem a3H{h:Heap}{dx:Addr}{mA:Str->Option Value}(n:h.Ns1 dx mA):∃od,h.get? dx=some od/\∀name,PySem.W.lookIn name od=some (mA name):=by
 obtain⟨o,es,ep,ho,hd,hk,_,hm⟩:=n;refine⟨o,ho,λname=>?_⟩;have e:=hm name;unfold nsFind findBy at e;rw[<-Array.find?_toList]at e;unfold PySem.W.lookIn;rw[hd];dsimp only;split
 .rename_i y q;rw[q]at e;exact congrArg some e
 .rename_i q;rw[q]at e;have a:es.toList.any (·.refKey)=false:=by
   rw[List.any_eq_false];intro y hy;obtain⟨z,t,hkey⟩:=hk y (Array.mem_toList_iff.mp hy);simp[DictEntry.refKey,hkey]
  have a':¬es.toList.any (·.refKey)=true:=by rw[a];exact Bool.false_ne_true
  rw[if_neg a'];exact congrArg some e
theorem ObjM.look{h:Heap}{x dx C:Addr}{mA:Str->Option Value}(I:ObjM h x dx C mA):∃od,PySem.W.InstAt h x (PySem.W.instObj C dx) C (some od)/\∀name,PySem.W.lookIn name od=some (mA name) :=
 let ⟨od,ho,hl⟩:=a3H I.ns
 ⟨od,⟨I.obj,rfl,rfl,ho⟩,hl⟩
section
variable {prog:Program}{w:World}{A:Around}{E:Value->Shared->Prop}{s:Shared}{K:PySem.W.Frag}{x dx C f:Addr}{mA:Str->Option Value}{name:Str}{v:Value}
theorem a7y{expr:Bool}{Q:Value->Shared->Prop}(X:K.In s.heap)(I:ObjM s.heap x dx C mA)(hg:PySem.W.plainGet K C name=true)(hh:PySem.W.hasDictIn K C=true)
  (ha:PySem.W.findIn K (.ref C) name=some none) (hv:mA name=some v) (hv':PySem.W.handedIn v=true) (h:Q v {s with toks:=s.toks+1}) :
  wpAny (model prog w) A (getAttr (.ref x) name expr) Q E s:=by
 obtain⟨od,J,hl⟩:=I.look;exact PySem.W.get_value X J (PySem.W.plainGet_of hg).1 (PySem.W.findObj_own hh ha rfl (by rw[hl,hv])) hv' h
theorem a5M{pl:Sem Bool}{Q:Value×List Value->Shared->Prop}(X:K.In s.heap)(I:ObjM s.heap x dx C mA)(hg:PySem.W.plainGet K C name=true)
  (hf:PySem.W.findIn K (.ref C) name=some (some (.ref f))) (ht:PySem.W.isFn K (.ref f)=true) (hv:mA name=none) (h:Q (.ref f,[.ref x]) s) :
  wpAny (model prog w) A (getMethod (.ref x) name pl) Q E s:=by
 obtain⟨od,J,hl⟩:=I.look;exact PySem.W.method_fn X J (PySem.W.plainGet_of hg).1 (PySem.W.plainGet_of hg).2 hf (beq_iff_eq.mp ht) (by show(PySem.W.lookIn name od).map (·.isSome)=some false;rw[hl,hv];rfl) h
theorem a6q{ns:List Str}{Q:Unit->Shared->Prop}(X:K.In s.heap)(I:ObjM s.heap x dx C mA)
  (hs:PySem.W.findIn K (.ref C) "__setattr__"=some (some (.builtin "object.__setattr__"))) (hp:PySem.W.plainOver K C=true) (ht:PySem.W.takerIn K C name=some none) (hh:PySem.W.hasDictIn K C=true)
  (hw:PySem.Within mA ns) (hsz:ns.length<=sizeLine)
  (h:∀h',ObjM h' x dx C (λy=>if y=name then some v else mA y)->Heap.SameBut dx s.heap h'->Q () {s with heap:=h',toks:=s.toks+2}) :
  wpAny (model prog w) A (setAttr (.ref x) name v) Q E s:=by
 obtain⟨od,J,hl⟩:=I.look;refine PySem.W.set_plain X J hs (PySem.W.osa_open (s:={s with toks:=s.toks+1}) (r:=none) X J hp ht λb=>?_);obtain⟨cd,hc,hd'⟩:=PySem.W.any_some hh;have hx:s.heap.get? x=some ⟨.ref C,some dx,.plain,#[]⟩:=I.obj;refine wpAny_bind (wpAny_pure (wpAny_bind (wpAny_bind (wpAny_loadPart hx (wpAny_bind (PySem.W.Looks.here (s:={s with toks:=s.toks+1}) (PySem.W.looks_clsIn X hc) ?_))))));rw[hd'];refine wpAny_pure (a:=some dx) (wpAny_bind (wpAny_pure (wpAny_bind ?_)));refine wpAny_nsSet1 (s:={s with toks:=s.toks+1}) I.ns λh' hn2 hs2=>?_;obtain⟨oD,esD,epD,hoD,hdD,hcD⟩:=hn2.count (PySem.Within.cons name v hw);refine wpAny_bind (wpAny_lookBehind hoD (by rw[hdD];exact pastItsLine_dict (Nat.le_trans hcD (by rw[List.length_cons];omega))) ?_);exact wpAny_pure (h _ ⟨(hs2.2 _ (Ne.symm I.ne)).trans I.obj,hn2,I.ne⟩ hs2)
theorem a5w{R:Result->Shared->Prop}{vs:List Value}{kw:List (Str×Value)}(X:K.In s.heap)(hm:PySem.W.makesIn K C=true)
  (hi:PySem.W.findIn K (.ref C) "__init__"=some (some (.ref f))) (hf:PySem.W.typeIn K (.ref f)=some (.type "function"))
  (h:codeAny (model prog w) (A.under (.builtin "type.__call__" ⟨.ref C::vs,kw⟩)) (.call (.ref f) ⟨.ref (s.heap.objs.size+1)::vs,kw⟩) (PySem.W.InitBack (s.heap.objs.size+1) R)
   {s with heap:=(s.heap.push PySem.W.emptyDict).push (PySem.W.instObj C s.heap.objs.size)}) :
  codeAny (model prog w) A (.call (.ref C) ⟨vs,kw⟩) R s:=by
 obtain⟨hh,g,d,t,os⟩:=s;exact PySem.W.make_core (PySem.W.makes_of X hm) (PySem.W.looks_findIn X hi) (λself=>PySem.W.bind_fn X self hf) (.inl rfl) h
end
noncomputable def G1(f:Str)(v:V):List (Str×V)->List (Str×V)
 |[]=>[(f,v)]
 |(g,x)::r=>if g=f then(g,v)::r else(g,x)::G1 f v r
theorem T9(f g:Str)(v:V):∀fs:List (Str×V),(G1 f v fs).lookup g=if g=f then some v else fs.lookup g
 |[]=>by
  show List.lookup g [(f,v)]=_;by_cases h:g=f
  .have hb:(g==f)=true:=beq_iff_eq.mpr h;simp only[List.lookup,hb,if_pos h]
  .have hb:(g==f)=false:=beq_eq_false_iff_ne.mpr h;simp only[List.lookup,hb,if_neg h]
 |(k,x)::r=>by
  have ih:=T9 f g v r;rw[show G1 f v ((k,x)::r)=(if k=f then(k,v)::r else(k,x)::G1 f v r)from rfl];by_cases hk:k=f
  .rw[if_pos hk];by_cases h:g=k
   .have hb:(g==k)=true:=beq_iff_eq.mpr h;simp only[List.lookup,hb,if_pos (h.trans hk)]
   .have hb:(g==k)=false:=beq_eq_false_iff_ne.mpr h;simp only[List.lookup,hb,if_neg (λe:g=f=>h (e.trans hk.symm))]
  .rw[if_neg hk];by_cases h:g=k
   .have hb:(g==k)=true:=beq_iff_eq.mpr h;simp only[List.lookup,hb,if_neg (λe:g=f=>hk (h.symm.trans e))]
   .have hb:(g==k)=false:=beq_eq_false_iff_ne.mpr h;simp only[List.lookup,hb];exact ih
theorem T1(f:Str)(v:V):∀fs:List (Str×V),f∈(G1 f v fs).map (·.1)/\∀g,g∈fs.map (·.1)->g∈(G1 f v fs).map (·.1)
 |[]=>⟨by simp[G1],λg h=>by simp at h⟩
 |(k,x)::r=>by
  obtain⟨i1,i2⟩:=T1 f v r;rw[show G1 f v ((k,x)::r)=(if k=f then(k,v)::r else(k,x)::G1 f v r)from rfl];by_cases hk:k=f
  .rw[if_pos hk];subst hk;exact⟨by simp,λg h=>by simpa using h⟩
  .rw[if_neg hk];refine⟨?_,λg h=>?_⟩
   .rw[List.map_cons];exact List.mem_cons_of_mem _ i1
   .rw[List.map_cons]at h⊢;rcases List.mem_cons.mp h with e|e
    .exact List.mem_cons.mpr (.inl e)
    .exact List.mem_cons_of_mem _ (i2 g e)
theorem U1(f:Str)(v:V):∀fs:List (Str×V),(G1 f v fs).length<=fs.length+1
 |[]=>by simp[G1]
 |(k,x)::r=>by
  have ih:=U1 f v r;rw[show G1 f v ((k,x)::r)=(if k=f then(k,v)::r else(k,x)::G1 f v r)from rfl];by_cases hk:k=f
  .rw[if_pos hk,List.length_cons,List.length_cons];omega
  .rw[if_neg hk,List.length_cons,List.length_cons];omega
theorem RelO.some_of{v:V}{o:Option Value}(r:RelO (some v) o):∃u,o=some u/\RelV v u:=by
 cases o with
 |none=>exact(show False from r).elim
 |some u=>exact⟨u,rfl,r⟩
theorem RelO.none_of{o:Option Value}(r:RelO none o):o=none:=by
 cases o with
 |none=>rfl
 |some u=>exact(show False from r).elim
theorem a3R{v:V}{u:Value}(r:RelV v u):PySem.W.handedIn u=true:=by
 cases v with
 |non=>cases(show u=Value.none from r);rfl
 |bl b=>cases(show u=Value.bool b from r);rfl
 |int i=>obtain⟨t,e⟩:=(show ∃t,u=Value.int i t from r);cases e;rfl
 |str x=>obtain⟨t,e⟩:=(show ∃t,u=Value.str x t from r);cases e;rfl
 |byt b=>obtain⟨t,e⟩:=(show ∃t,u=Value.bytes b t from r);cases e;rfl
 |flt b=>obtain⟨t,e⟩:=(show ∃t,u=Value.float b t from r);cases e;rfl
 |ref a=>cases(show u=Value.ref a from r);rfl
 |ty n=>cases(show u=Value.type n from r);rfl
section
variable {P:Program}{w:World}{H H':Hp}{h h':Heap}{a C dx:Addr}{fs fs':List (Str×V)}
theorem V6(hok:HOk P w H h)(e:H a=some (.ins C dx fs)):∃mA,ObjM h a dx C mA/\(∀f,RelO (fs.lookup f) (mA f))/\PySem.Within mA (fs.map (·.1))/\fs.length<=1000/\H dx=some (.own a):=by
 obtain⟨d,z,ne,ob,mA,n,r,q⟩:=(show ObjOk P w H h a (.ins C dx fs)from hok a _ e);exact⟨mA,⟨ob,n,ne⟩,r,q,z,d⟩
end
structure Cls(K:PySem.W.Frag)(C:Addr):Prop where
 pg:PySem.W.plainGet K C Str.empty=true
 hd:PySem.W.hasDictIn K C=true
 po:PySem.W.plainOver K C=true
 sa:PySem.W.findIn K (.ref C) "__setattr__"=some (some (.builtin "object.__setattr__"))
theorem Cls.get{K:PySem.W.Frag}{C:Addr}(c:Cls K C)(f:Str):PySem.W.plainGet K C f=true:=c.pg
def NoAttr(K:PySem.W.Frag)(C:Addr)(f:Str):Prop:=PySem.W.findIn K (.ref C) f=some none
theorem NoAttr.taker{K:PySem.W.Frag}{C:Addr}{f:Str}(n:NoAttr K C f):PySem.W.takerIn K C f=some none:=by
 unfold PySem.W.takerIn;rw[show PySem.W.findIn K (.ref C) f=some none from n];rfl
structure Meth(K:PySem.W.Frag)(C:Addr)(m:Str)(f:Addr):Prop where
 at_:PySem.W.findIn K (.ref C) m=some (some (.ref f))
 fn:PySem.W.isFn K (.ref f)=true
 kp:PySem.W.keepIn K (.ref f)=true
section
variable {X:Cx}{pins:List (Addr×Obj)}{σ:St}{H:Hp}{s:Shared}{a C dx:Addr}{fs:List (Str×V)}{f:Str}{v:V}{A:Around}{E:Value->Shared->Prop}
theorem a2v{b:Bool}{Q:Value->Shared->Prop}(I:Inv X pins σ H s)(e:H a=some (.ins C dx fs))(c:Cls X.K C)(n:NoAttr X.K C f)(l:fs.lookup f=some v)
  (h:∀u s',Inv X pins σ H s'->RelV v u->Q u s'):wpAny (model X.prog X.w) A (getAttr (.ref a) f b) Q E s:=by
 obtain⟨mA,O,r,_,_,_⟩:=V6 I.hok e;obtain⟨u,hu,ru⟩:=RelO.some_of (v:=v) (o:=mA f) (by rw[<-l];exact r f);exact a7y I.kIn O (c.get f) c.hd n hu (a3R ru) (h u _ (I.tok _) ru)
theorem a2u{m:Str}{g:Addr}{pl:Sem Bool}{Q:Value×List Value->Shared->Prop}(I:Inv X pins σ H s)(e:H a=some (.ins C dx fs))(c:Cls X.K C)(k:Meth X.K C m g)(l:fs.lookup m=none)
  (h:Q (.ref g,[.ref a]) s):wpAny (model X.prog X.w) A (getMethod (.ref a) m pl) Q E s:=by
 obtain⟨mA,O,r,_,_,_⟩:=V6 I.hok e;have hn:mA m=none:=RelO.none_of (by rw[<-l];exact r m);exact a5M I.kIn O (c.get m) k.at_ k.fn hn h
theorem a2d{y:V}{u:Value}{Q:Unit->Shared->Prop}(I:Inv X pins σ H s)(e:H a=some (.ins C dx fs))(c:Cls X.K C)(n:NoAttr X.K C f)(hl:fs.length<1000)(ry:RelV y u)
  (h:∀s',Inv X pins σ (upd H a (.ins C dx (G1 f y fs))) s'->Q () s'):wpAny (model X.prog X.w) A (setAttr (.ref a) f u) Q E s:=by
 obtain⟨mA,O,r,wi,_,ho⟩:=V6 I.hok e;have hz:(fs.map (·.1)).length<=sizeLine:=by rw[List.length_map,sizeLine_eq];omega
 refine a6q I.kIn O c.sa c.po n.taker c.hd wi hz λh' O' sb=>h _ ?_;have hd:∃o,h'.get? dx=some o:=let ⟨o,_,_,e',_⟩:=O'.ns;⟨o,e'⟩
 refine I.write (x:=a) (e:=dx) (by rw[e];exact True.intro) (.inr ho) (λb q hb z=>(sb.2 b hb).trans z) hd ?_;refine⟨by rw[A3 O.ne];exact ho,?_,O.ne,O'.obj,_,O'.ns,λg=>?_,λg hg=>?_⟩
 .have:=U1 f y fs;omega
 .show RelO ((G1 f y fs).lookup g) (if g=f then some u else mA g);rw[T9];by_cases q:g=f
  .rw[if_pos q,if_pos q];exact ry
  .rw[if_neg q,if_neg q];exact r g
 .by_cases q:g=f
  .rw[q];exact(T1 f y fs).1
  .refine(T1 f y fs).2 g (wi g λz=>hg ?_);show(if g=f then some u else mA g)=none;rw[if_neg q];exact z
theorem Inv.made(I:Inv X pins σ H s):Inv X pins σ (upd (upd H s.heap.objs.size (.own (s.heap.objs.size+1))) (s.heap.objs.size+1) (.ins C s.heap.objs.size []))
  {s with heap:=(s.heap.push PySem.W.emptyDict).push (PySem.W.instObj C s.heap.objs.size)}:=by
 have e1:(s.heap.push PySem.W.emptyDict).get? s.heap.objs.size=some PySem.W.emptyDict:=Heap.get?_push_size s.heap rfl;have e2:((s.heap.push PySem.W.emptyDict).push (PySem.W.instObj C s.heap.objs.size)).get? (s.heap.objs.size+1)=some (PySem.W.instObj C s.heap.objs.size):=by
  have:=Heap.get?_push_size (s.heap.push PySem.W.emptyDict) (o:=PySem.W.instObj C s.heap.objs.size) rfl;rwa[Heap.size_push]at this
 have e3:(s.heap.push PySem.W.emptyDict).Ns s.heap.objs.size (λ_=>none):=⟨PySem.W.emptyDict,#[],_,e1,rfl,(λe he=>absurd he (by simp)),λ_=>rfl⟩;have I1:=I.laid (a:=s.heap.objs.size) (o:=.own (s.heap.objs.size+1)) (h':=s.heap.push PySem.W.emptyDict) (t':=s.toks) (λb u q=>Heap.get?_push_of_some _ q) (Nat.le_refl _) ⟨_,e1⟩;refine I1.laid (a:=s.heap.objs.size+1) (o:=.ins C s.heap.objs.size []) (t':=s.toks) (λb u q=>Heap.get?_push_of_some _ q) (Nat.le_of_eq (Heap.size_push _ _)) ?_;have ne:s.heap.objs.size≠s.heap.objs.size+1:=Nat.ne_of_lt (Nat.lt_succ_self _);refine⟨by rw[A3 ne,A0],Nat.zero_le _,ne,e2,λ_=>none,(Heap.Ns1.of_empty e3).at λo q=>Heap.get?_push_of_some _ q,λ_=>True.intro,λy hy=>absurd rfl hy⟩
theorem a7J{prog:Program}{w:World}{env:Env}{e:Expr}{f:Str}{pos:Pos}{s:Shared}{Q:Value->Shared->Prop}(hb:attributeBase e f env (eval e env)=eval e env)
  (h:wpAny (model prog w) A (eval e env) (λo s₁=>wpAny (model prog w) A (getAttr o f true) Q E s₁) E s):wpAny (model prog w) A (eval (.Attribute e f pos) env) Q E s :=
 Attribute_any_ h (by rw[arm_eval_Attribute,hb])
end
def b0v(K:PySem.W.Frag)(ta:TE)(f:Str):TE:=λσ H Q=>ta σ H λx H1=>∃a C dx fs v,x=.ref a/\H1 a=some (.ins C dx fs)/\Cls K C/\NoAttr K C f/\fs.lookup f=some v/\Q v H1
def b0w(K:PySem.W.Frag)(ta tv:TE)(f:Str):TS:=λD σ H=>tv σ H λy H1=>ta σ H1 λx H2=>∃a C dx fs,x=.ref a/\H2 a=some (.ins C dx fs)/\Cls K C/\NoAttr K C f/\fs.length<1000 /\
 D.nx σ (upd H2 a (.ins C dx (G1 f y fs)))
section
variable {X:Cx}{o e value:Expr}{f:Str}{pos pos' tpos:Pos}{ta tv:TE}
theorem a9l(he:PE X e ta)(hb:attributeBase e f X.env (eval e X.env)=eval e X.env):PE X (.Attribute e f pos) (b0v X.K ta f):=by
 intro pins s σ H Q I h;refine a7J hb (thn (he pins s σ H _ I h) λu s1 ⟨x,H1,I1,rx,a,C,dx,fs,v,ex,ea,c,n,l,q⟩=>?_);subst ex;obtain rfl:u=Value.ref a:=rx;exact a2v I1 ea c n l λu' s2 I2 ru=>⟨v,H1,I2,ru,q⟩
theorem a8W(ha:PE X o ta)(hv:PE X value tv)(hs:swapsWith value (some (.Attribute o f pos')) pos.line X.env=pure false):PS X (.Assign [.Attribute o f pos'] value pos) (b0w X.K ta tv f):=by
 intro pins s σ H D I h;refine plainObj_wpAny_Assign_Attribute (thn (hv pins s σ H _ I h) λu s1 ⟨y,H1,I1,ry,q⟩=>thn (ha pins s1 σ H1 _ I1 q) λov s2 ⟨x,H2,I2,rx,a,C,dx,fs,ex,ea,c,n,l,q2⟩=>?_) hs;subst ex;obtain rfl:ov=Value.ref a:=rx;exact a2d I2 ea c n l ry λs3 I3=>⟨σ,_,I3,q2⟩
end
section
variable {X:Cx}{pins:List (Addr×Obj)}{σ:St}{H:Hp}{s:Shared}{A:Around}{E:Value->Shared->Prop}{Q:Value->Shared->Prop}{c:Value}{b:Bool}
inductive TyOf(K:PySem.W.Frag)(H:Hp):V->Value->Prop where
 |non:TyOf K H .non (.type "NoneType")
 |bl (x:Bool):TyOf K H (.bl x) (.type "bool")
 |int (i:Int):TyOf K H (.int i) (.type "int")
 |str (x:Str):TyOf K H (.str x) (.type "str")
 |flt (x:UInt64):TyOf K H (.flt x) (.type "float")
 |lst {a:Addr}{xs:List V}(e:H a=some (.lst xs)):TyOf K H (.ref a) (.type "list")
 |frz {a:Addr}{o:Obj}{xs:List V}(e:H a=some (.frz o (.lst xs))):TyOf K H (.ref a) (.type "list")
 |tup {a:Addr}{xs:List V}(e:H a=some (.tup xs)):TyOf K H (.ref a) (.type "tuple")
 |dK {a:Addr}{kvs:List (Key×V)}(e:H a=some (.dK kvs)):TyOf K H (.ref a) (.type "dict")
 |dT {a:Addr}{kvs:List (List Key×V)}(e:H a=some (.dT kvs)):TyOf K H (.ref a) (.type "dict")
 |ins {a C dx:Addr}{fs:List (Str×V)}(e:H a=some (.ins C dx fs)) (cl:Cls K C) (ha:PySem.W.findIn K (.ref C) "__class__"=some (some (.builtin "object.__class__")))
   (hn:PySem.W.specialIn K (.builtin "object.__class__") "__get__"=some (some (.builtin "getset_descriptor.__get__"))) (htk:PySem.W.takesIn K (.builtin "object.__class__")=some true)
   (hm:PySem.W.mroIn K C (.type "object")=some true):TyOf K H (.ref a) (.ref C)
theorem a3O{x:V}{u t:Value}(I:Inv X pins σ H s)(rx:RelV x u)(ty:TyOf X.K H x t)(e:PySem.W.kitOne X.K t c=some b)(h:∀tk,Q (.bool b) {s with toks:=tk}) :
  wpAny (model X.prog X.w) A (call (.builtin "isinstance") [u,c]) Q E s:=by
 cases ty with
 |non=>cases(show u=Value.none from rx);exact PySem.W.kia_one PySem.W.kitx_none I.kIn True.intro e (λz=>nomatch z) h
 |bl y=>cases(show u=Value.bool y from rx);exact PySem.W.kia_one PySem.W.kitx_bool I.kIn True.intro e (λz=>nomatch z) h
 |int i=>obtain⟨t,q⟩:=(show ∃t,u=Value.int i t from rx);cases q;exact PySem.W.kia_one PySem.W.kitx_int I.kIn True.intro e (λz=>nomatch z) h
 |str y=>obtain⟨t,q⟩:=(show ∃t,u=Value.str y t from rx);cases q;exact PySem.W.kia_one PySem.W.kitx_str I.kIn True.intro e (λz=>nomatch z) h
 |flt y=>obtain⟨t,q⟩:=(show ∃t,u=Value.float y t from rx);cases q;exact PySem.W.kia_one PySem.W.kitx_float I.kIn True.intro e (λz=>nomatch z) h
 |@lst a xs ea =>
  cases(show u=Value.ref a from rx);obtain⟨_,_,n,_,h1⟩:=(show ObjOk X.prog X.w H s.heap a (.lst xs)from I.hok a _ ea);exact PySem.W.kia_one PySem.W.kitx_list I.kIn ⟨_,h1,rfl⟩ e (λz=>nomatch z) h
 |@frz a ob xs ea =>
  cases(show u=Value.ref a from rx);obtain⟨_,_,_,n,_,h1⟩:=(show ObjOk X.prog X.w H s.heap a (.frz ob (.lst xs))from I.hok a _ ea);exact PySem.W.kia_one PySem.W.kitx_list I.kIn ⟨_,h1,rfl⟩ e (λz=>nomatch z) h
 |@tup a xs ea =>
  cases(show u=Value.ref a from rx);obtain⟨_,_,_,p⟩:=(show ObjOk X.prog X.w H s.heap a (.tup xs)from I.hok a _ ea);obtain⟨o,h1,h2,_⟩:=p;exact PySem.W.kia_one PySem.W.kitx_tuple I.kIn ⟨o,h1,h2⟩ e (λz=>nomatch z) h
 |@dK a kvs ea =>
  cases(show u=Value.ref a from rx);obtain⟨_,_,vs,_,p⟩:=(show ObjOk X.prog X.w H s.heap a (.dK kvs)from I.hok a _ ea);obtain⟨o,es,ep,h1,h2,_⟩:=p;exact PySem.W.kia_one PySem.W.kitx_dict I.kIn ⟨o,h1,h2.1⟩ e (λz=>nomatch z) h
 |@dT a kvs ea =>
  cases(show u=Value.ref a from rx);obtain⟨_,_,xs,_,o,es,ep,h1,h2,_⟩:=(show ObjOk X.prog X.w H s.heap a (.dT kvs)from I.hok a _ ea);exact PySem.W.kia_one PySem.W.kitx_dict I.kIn ⟨o,h1,h2.1⟩ e (λz=>nomatch z) h
 |@ins a C dx fs ea cl ha hn htk hm =>
  cases(show u=Value.ref a from rx);obtain⟨mA,O,_⟩:=V6 I.hok ea;obtain⟨od,J,_⟩:=O.look;exact PySem.W.kia_one (PySem.W.kitx_own (cl.get _) cl.hd ha hn htk hm) I.kIn J e (λz=>nomatch z) h
end
structure Room(k:Nat)(A:Around):Prop where
 hd:A.handled=none
 dp:A.depth+3*k+5<recursionLimit
 un:A.units+16*k+200<cLine
theorem Room.mono{j k:Nat}{A:Around}(r:Room k A)(h:j<=k):Room j A:=⟨r.hd,by have:=r.dp;omega,by have:=r.un;omega⟩
theorem Room.deeper{k:Nat}{A:Around}(r:Room (k+1) A)(env:Env):Room k (A.deeper env) :=
 ⟨r.hd,by have:=r.dp;show A.depth+1+3*k+5<_;omega,by have:=r.un;show A.units+3+16*k+200<_;omega⟩
theorem a2m{A:Around}{C:Addr}{us:List Value}{kw:List (Str×Value)}:(A.under (.builtin "type.__call__" ⟨.ref C::us,kw⟩)).depth=A.depth+1:=by
 first|rfl|simp[Around.under,Code.weight,Code.isCreation,Code.isGuard,Code.isCaller,Code.frames,Code.isFrame,guardIds]
theorem a2l{A:Around}{C:Addr}{us:List Value}{kw:List (Str×Value)}:(A.under (.builtin "type.__call__" ⟨.ref C::us,kw⟩)).units=A.units+1:=by
 first|rfl|simp[Around.under,Code.cUnits,Code.frames,Code.isFrame]
theorem Room.make{k:Nat}{A:Around}(r:Room (k+1) A)(C:Addr)(us:List Value)(kw:List (Str×Value)):Room k (A.under (.builtin "type.__call__" ⟨.ref C::us,kw⟩)) :=
 ⟨r.hd,by have:=r.dp;rw[a2m];omega,by have:=r.un;rw[a2l];omega⟩
theorem Room.depth{k:Nat}{A:Around}(r:Room k A):A.depth<recursionLimit:=by have:=r.dp;omega
def a3l:TA:=λ_ H Q=>Q [] H
def a0d(ta:TE)(tr:TA):TA:=λσ H Q=>ta σ H λx H1=>tr σ H1 λxs H2=>Q (x::xs) H2
section
variable {X:Cx}{e:Expr}{es:List Expr}{te:TE}{t:TA}{pos:Pos}
theorem a9o:PA X [] a3l:=λ_ _ _ _ H Q I h=>Calls.spliced_nil ⟨[],H,I,.nil,h⟩
theorem a6W(ha:PE X e te)(hr:PA X es t)(hs:starEach (e::es) X.env=(false,eval e X.env)::starEach es X.env:=by rfl):PA X (e::es) (a0d te t):=by
 intro pos pins s σ H Q I h;rw[hs];show wpAny _ _ (spliced ((false,eval e X.env)::backTo pos (starEach es X.env))) _ _ s;refine Calls.spliced_cons (thn (ha pins s σ H _ I h) λu s1 ⟨x,H1,I1,r1,q1⟩=>?_);exact thn (hr pos pins s1 σ H1 _ I1 q1) λus s2 ⟨xs,H2,I2,r2,q2⟩=>⟨x::xs,H2,I2,.cons r1 r2,q2⟩
def a8y(t:TA):TE:=λσ H Q=>t σ H λxs H1=>xs.length<=sizeLine/\∀p,H1 p=none->Q (.ref p) (upd H1 p (.tup xs))
def a8C(t:TA):TE:=λσ H Q=>t σ H λxs H1=>xs.length<=sizeLine/\∀p,H1 p=none->Q (.ref p) (upd H1 p (.lst xs))
theorem a9e{x1}(h:PA X es t):PE X (.Tuple es x1 pos) (a8y t):=by
 intro pins s σ H Q I hq;refine wpAny_Tuple_spliced (thn (h pos pins s σ H _ I hq) λus s1 ⟨xs,H1,I1,r,z,q⟩=>⟨by rw[<-r.length];exact z,?_⟩);have hf:H1 s1.heap.objs.size=none:=I1.hok.fresh (Nat.le_refl _);refine⟨.ref s1.heap.objs.size,upd H1 s1.heap.objs.size (.tup xs),I1.laid (t':=s1.toks) (λb u e=>Heap.get?_push_of_some _ e) (Nat.le_refl _) ?_,rfl,q _ hf⟩;exact⟨z,us,r,⟨_,Heap.get?_push_size _ rfl,rfl,_,rfl⟩⟩
theorem a9j(h:PA X es t):PE X (.List es pos) (a8C t):=by
 intro pins s σ H Q I hq;refine wpAny_List_spliced (thn (h pos pins s σ H _ I hq) λus s1 ⟨xs,H1,I1,r,z,q⟩=>⟨by rw[<-r.length];exact z,?_⟩);have hf:H1 s1.heap.objs.size=none:=I1.hok.fresh (Nat.le_refl _);refine⟨.ref s1.heap.objs.size,upd H1 s1.heap.objs.size (.lst xs),I1.laid (t':=s1.toks) (λb u e=>Heap.get?_push_of_some _ e) (Nat.le_refl _) ?_,rfl,q _ hf⟩;exact⟨z,us,0,r,Heap.get?_push_size _ rfl⟩
end
abbrev Sp:=List V->Hp->VK->XK->Prop
abbrev CXT:=List Env->Hp->Shared->XK->Value->Shared->Prop
structure Env0(P:Program)(w:World)(K:PySem.W.Frag)(mg:Str->Option Value)(base:Heap)(A:Around)(outer:List Env)(s:Shared)(H:Hp):Prop where
 frames:A.frames=some outer
 mod:Mod K mg base
 bs:∀b o,base.get? b=some o->s.heap.get? b=some o/\H b=none
 bsz:base.objs.size<=s.heap.objs.size
 funs:s.heap.FunFrames base outer
 frf:∀b∈frs outer,H b=none
 hok:HOk P w H s.heap
 bare:AllBare s.gens
def CE(outer:List Env)(P:Program)(w:World)(H:Hp)(s:Shared)(Q:VK)(u:Value)(s':Shared):Prop :=
 ∃v H',s'.os=s.os/\AllBare s'.gens/\Un (frs outer) [] H H' s.heap s'.heap/\HOk P w H' s'.heap/\RelV v u/\Q v H'
def CR(CX:CXT)(outer:List Env)(P:Program)(w:World)(H:Hp)(s:Shared)(Q:VK)(E:XK)(r:Result)(s':Shared):Prop :=
 match r with
 |.ok (.ret u)=>CE outer P w H s Q u s'
 |.ok _=>False
 |.error e=>CX outer H s E e s'
structure FnOk(P:Program)(w:World)(K:PySem.W.Frag)(mg:Str->Option Value)(base:Heap)(CX:CXT)(k:Nat)(f:Addr)(fd:FuncData)(ps:List Str)(sp:Sp):Prop where
 len:∀vs H Q E,sp vs H Q E->vs.length=ps.length
 run:∀(A:Around) (outer:List Env) (s:Shared) (H:Hp) (args:Args) (us:List Value) (vs:List V) (Q:VK) (E:XK),Room k A->Env0 P w K mg base A outer s H->BindsTo s fd args (ps.zip us)->Vals vs us->sp vs H Q E ->
  codeAny (model P w) A (.call (.ref f) args) (CR CX outer P w H s Q E) s
theorem Env0.make{P:Program}{w:World}{K:PySem.W.Frag}{mg:Str->Option Value}{base:Heap}{A:Around}{outer:List Env}{s:Shared}{H:Hp}(e:Env0 P w K mg base A outer s H)(C:Addr)(us:List Value)(kw:List (Str×Value)) :
  Env0 P w K mg base (A.under (.builtin "type.__call__" ⟨.ref C::us,kw⟩)) outer s H:=⟨by first|exact e.frames | (simpa[Around.under,Code.envs,Code.isFrame,pushEnvs]using e.frames),e.mod,e.bs,e.bsz,e.funs,e.frf,e.hok,e.bare⟩
section
variable {X:Cx}{pins:List (Addr×Obj)}{σ:St}{H:Hp}{s s':Shared}
theorem Inv.env0(I:Inv X pins σ H s):Env0 X.prog X.w X.K X.mg X.base X.A X.stack s H :=
 ⟨I.ok.frames,I.ok.mod,I.bs,Nat.le_trans I.ok.bsz I.sz,I.stack,I.stkFree,I.hok,I.bare⟩
theorem Inv.after{Q:VK}{u:Value}(I:Inv X pins σ H s)(h:CE X.stack X.prog X.w H s Q u s'):EP X pins σ Q u s':=by
 obtain⟨v,H',os,bare,un,hok,r,q⟩:=h;obtain⟨hh,g,d,t,os'⟩:=s';obtain rfl:os'=s.os:=os;exact⟨v,H',I.call (h':=hh) (g':=g) (d':=d) (t':=t) (ch:=[]) un hok bare (λb z=>absurd z (by simp)),r,q⟩
end
def a1s(sp:Sp)(dvs:List V)(E:XK)(t:TA):TE:=λσ H Q=>t σ H λvs H1=>sp (vs++dvs) H1 Q E
def a7R(C:Addr)(m:Str)(sp:Sp)(dvs:List V)(E:XK)(ta:TE)(t:TA):TE:=λσ H Q=>ta σ H λx H1=>∃a dx fs,x=.ref a/\H1 a=some (.ins C dx fs)/\fs.lookup m=none /\
 t σ H1 λvs H2=>sp (x::(vs++dvs)) H2 Q E
def a7S(C:Addr)(sp:Sp)(dvs:List V)(E:XK)(t:TA):TE:=λσ H Q=>t σ H λvs H1=>∀x dx,H1 x=none->H1 dx=none->dx≠x ->
 sp (.ref x::(vs++dvs)) (upd (upd H1 dx (.own x)) x (.ins C dx [])) (λv H2=>v=.non/\Q (.ref x) H2) E
def Binds(K:PySem.W.Frag)(fd:FuncData)(ps:List Str)(ds:List Value):Prop :=
 ∀(s:Shared) (us:List Value),K.In s.heap->(us++ds).length=ps.length->BindsTo s fd ⟨us,[]⟩ (ps.zip (us++ds))
theorem Binds.all{K:PySem.W.Frag}{fd:FuncData}{ps:List Str}(h:∀us:List Value,us.length=ps.length->bindArgs fd ⟨us,[]⟩=pure (ps.zip us)):Binds K fd ps []:=λs us _ hl=>by
 rw[List.append_nil]at hl⊢;exact .of_eq (h us hl)
def T6(CX:CXT)(X:Cx)(E:XK):Prop:=∀(pins:List (Addr×Obj)) (σ:St) (H:Hp) (s:Shared) (e:Value) (s':Shared),Inv X pins σ H s->CX X.stack H s E e s'->X.xe e s'
section
variable {X:Cx}{CX:CXT}{k:Nat}{f C:Addr}{fd:FuncData}{ps:List Str}{sp:Sp}{dvs:List V}{ds:List Value}{E:XK}{x m:Str}{p pos apos:Pos}{e o:Expr}{es:List Expr}{ta:TE}{t:TA}
theorem a4P{pins:List (Addr×Obj)}{σ:St}{H:Hp}{s:Shared}{Q:VK}{us:List Value}{vs:List V}(F:FnOk X.prog X.w X.K X.mg X.base CX k f fd ps sp)(hr:Room k X.A)(hb:Binds X.K fd ps ds)(hd:Vals dvs ds)(hx:T6 CX X E)
  (I:Inv X pins σ H s) (r:Vals vs us) (h:sp (vs++dvs) H Q E):wpAny (model X.prog X.w) X.A (call (.ref f) us) (EP X pins σ Q) X.xe s:=by
 have r2:Vals (vs++dvs) (us++ds):=r.append hd;have hl:(us++ds).length=ps.length:=by rw[<-r2.length];exact F.len _ _ _ _ h
 refine wpAny_call (codeAny_mono (F.run X.A X.stack s H ⟨us,[]⟩ (us++ds) (vs++dvs) Q E hr I.env0 (hb s us I.kIn hl) r2 h) λr s' hq=>?_);cases r with
 |error e=>exact hx pins σ H s e s' I hq
 |ok fl =>
  cases fl with
  |ret u=>exact I.after hq
  |next=>exact False.elim hq
  |brk=>exact False.elim hq
  |cont=>exact False.elim hq
theorem a6U(F:FnOk X.prog X.w X.K X.mg X.base CX k f fd ps sp)(hr:Room k X.A)(hg:Gl X x)(hm:X.mg x=some (.ref f))(hk:PySem.W.keepIn X.K (.ref f)=true)(hb:Binds X.K fd ps ds)(hd:Vals dvs ds)(hx:T6 CX X E)
  (ha:PA X (e::es) t) (hdb:(x==("__debug__" : Str))=false:=by decide) (he:starEach (e::es) X.env=(false,eval e X.env)::starEach es X.env:=by rfl) (hpl:(backTo pos (starEach es X.env)).any (·.1)=false:=by rfl) :
  PE X (.Call (.Name x p) (e::es) [] pos) (a1s sp dvs E t):=by
 intro pins s σ H Q I h;refine wpAny_Call_Name_kw (O6 I hg hm ?_ hdb);refine PySem.W.callWith_K (h₀:=X.base) I.ok.mod.kin hk (thn (ha pos pins s σ H _ I h) λus s1 ⟨vs,H1,I1,r,q⟩=>⟨I1.kIn,?_⟩) he hpl;exact a4P F hr hb hd hx I1 r q
theorem a6P{pl:Sem Bool}(he:PE X o ta)(c:Cls X.K C)(hm:Meth X.K C m f)(F:FnOk X.prog X.w X.K X.mg X.base CX k f fd ps sp)(hr:Room k X.A)(hb:Binds X.K fd ps ds)(hd:Vals dvs ds)(hx:T6 CX X E)(ha:PA X (e::es) t)
  (hst:starEach (e::es) X.env=(false,eval e X.env)::starEach es X.env:=by rfl) (hpl:(backTo pos (starEach es X.env)).any (·.1)=false:=by rfl)
  (ht:eval (.Call (.Attribute o m apos) (e::es) [] pos) X.env=(do
   let ov <-eval o X.env
   standAt apos.atName
   let (f,first) <-holding [ov] (getMethod ov m pl)
   callWith pos f first (backTo pos (starEach (e::es) X.env)) (backToKw pos (keywordEach [] X.env))):=by rfl) :
  PE X (.Call (.Attribute o m apos) (e::es) [] pos) (a7R C m sp dvs E ta t):=by
 intro pins s σ H Q I h;refine PySem.W.methodCall_KW (pl:=pl) (thn (he pins s σ H _ I h) λu s1 ⟨x,H1,I1,rx,a,dx,fs,ex,ea,l,q⟩=>?_) ht;subst ex;obtain rfl:u=Value.ref a:=rx;refine a2u I1 ea c hm l ?_;refine PySem.W.callWith_K (first:=[.ref a]) (h₀:=X.base) I.ok.mod.kin hm.kp (thn (ha pos pins s1 σ H1 _ I1 q) λus s2 ⟨vs,H2,I2,r,q2⟩=>⟨I2.kIn,?_⟩) hst hpl;exact a4P (us:=.ref a::us) (vs:=.ref a::vs) F hr hb hd hx I2 (.cons rfl r) q2
structure Mk(K:PySem.W.Frag)(C f:Addr):Prop where
 makes:PySem.W.makesIn K C=true
 init:PySem.W.findIn K (.ref C) "__init__"=some (some (.ref f))
 fn:PySem.W.isFn K (.ref f)=true
 kp:PySem.W.keepIn K (.ref C)=true
theorem a4O{pins:List (Addr×Obj)}{σ:St}{H:Hp}{s:Shared}{Q:VK}{us:List Value}{vs:List V}(M:Mk X.K C f)(F:FnOk X.prog X.w X.K X.mg X.base CX k f fd ps sp)(hr:Room (k+1) X.A)(hb:Binds X.K fd ps ds)(hd:Vals dvs ds)
  (hx:T6 CX X E) (I:Inv X pins σ H s) (r:Vals vs us)
  (h:∀x dx,H x=none->H dx=none->dx≠x->sp (.ref x::(vs++dvs)) (upd (upd H dx (.own x)) x (.ins C dx [])) (λv H2=>v=.non/\Q (.ref x) H2) E) :
  wpAny (model X.prog X.w) X.A (call (.ref C) us) (EP X pins σ Q) X.xe s:=by
 have hq:=h (s.heap.objs.size+1) s.heap.objs.size (I.hok.fresh (Nat.le_succ _)) (I.hok.fresh (Nat.le_refl _)) (Nat.ne_of_lt (Nat.lt_succ_self _));have I2:=Inv.made (C:=C) I;have r2:Vals (V.ref (s.heap.objs.size+1)::(vs++dvs)) (Value.ref (s.heap.objs.size+1)::(us++ds)):=.cons rfl (r.append hd);have hl:(Value.ref (s.heap.objs.size+1)::us++ds).length=ps.length:=by
  have e:=r2.length;rw[F.len _ _ _ _ hq]at e;exact e.symm
 refine wpAny_call (a5w (f:=f) I.kIn M.makes M.init (beq_iff_eq.mp M.fn) (codeAny_mono (F.run _ X.stack _ _ ⟨Value.ref (s.heap.objs.size+1)::us,[]⟩ (Value.ref (s.heap.objs.size+1)::(us++ds)) _ _ E (hr.make C us [])
  (I2.env0.make C us []) (hb _ (Value.ref (s.heap.objs.size+1)::us) I2.kIn hl) r2 hq) λr s' hq'=>?_))
 cases r with
 |error e=>exact hx pins σ _ _ e s' I2 hq'
 |ok fl =>
  cases fl with
  |ret u =>
   obtain⟨v,H',I3,rv,ev,q3⟩:=I2.after hq';subst ev;exact⟨rv,⟨V.ref (s.heap.objs.size+1),H',I3,rfl,q3⟩⟩
  |next=>exact False.elim hq'
  |brk=>exact False.elim hq'
  |cont=>exact False.elim hq'
theorem a6Q(M:Mk X.K C f)(F:FnOk X.prog X.w X.K X.mg X.base CX k f fd ps sp)(hr:Room (k+1) X.A)(hg:Gl X x)(hm:X.mg x=some (.ref C))(hb:Binds X.K fd ps ds)(hd:Vals dvs ds)(hx:T6 CX X E)
  (ha:PA X (e::es) t) (hdb:(x==("__debug__" : Str))=false:=by decide) (he:starEach (e::es) X.env=(false,eval e X.env)::starEach es X.env:=by rfl) (hpl:(backTo pos (starEach es X.env)).any (·.1)=false:=by rfl) :
  PE X (.Call (.Name x p) (e::es) [] pos) (a7S C sp dvs E t):=by
 intro pins s σ H Q I h;refine wpAny_Call_Name_kw (O6 I hg hm ?_ hdb);refine PySem.W.callWith_K (h₀:=X.base) I.ok.mod.kin M.kp (thn (ha pos pins s σ H _ I h) λus s1 ⟨vs,H1,I1,r,q⟩=>⟨I1.kIn,?_⟩) he hpl;exact a4O M F hr hb hd hx I1 r q
end
section
variable {X:Cx}{CX:CXT}{k:Nat}{f C:Addr}{fd:FuncData}{ps ks:List Str}{sp:Sp}{E:XK}{x m:Str}{p pos apos kpos:Pos}{e o:Expr}{es:List Expr}{kws:List Keyword}{te ta:TE}{t tk:TA}{nm:Option Str}
variable {g:List Value->List Value->List Value}{gV:List V->List V->List V}
end
structure FnScope(N P:List Str)(sc:Scope):Prop where
 kind:sc.kind=.function
 co:sc.isCoroutine=false
 gen:sc.isGenerator=false
 nd:N.Nodup
 pre:N.take P.length=P
 par:∀x∈P,sc.names.lookup x=some .local∨sc.names.lookup x=some .cell
 nofree:∀y∈sc.names,y.2≠.free
theorem a0x{kindOf:Str->Option NameKind}{x:Str}:∀{binds:List (Str×Value)}{m:Str->Option Value},(∀v,(x,v)∉binds)->bindL kindOf binds m x=m x
 |[],_,_=>rfl
 |(n,v)::r,m,h=>by
  unfold bindL;rw[a0x λw hw=>h w (List.mem_cons_of_mem _ hw)];split
  .have:x≠n:=by rintro rfl;exact h v List.mem_cons_self
   simp[this]
  .rfl
theorem a0z{kindOf:Str->Option NameKind}{x:Str}:∀{binds:List (Str×Value)}{m:Str->Option Value},(∀v,(x,v)∉binds)->bindC kindOf binds m x=m x
 |[],_,_=>rfl
 |(n,v)::r,m,h=>by
  unfold bindC;rw[a0z λw hw=>h w (List.mem_cons_of_mem _ hw)];split
  .rfl
  .have:x≠n:=by rintro rfl;exact h v List.mem_cons_self
   simp[this]
theorem a0y{kindOf:Str->Option NameKind}{x:Str}{v:Value}:∀{P:List Str}{vs:List Value}{i:Nat}{m:Str->Option Value},P.Nodup->P[i]?=some x->vs[i]?=some v->kindOf x=some .local ->
  bindL kindOf (P.zip vs) m x=some v
 |[],_,_,_,_,h,_,_=>by simp at h
 |_::_,[],_,_,_,_,h,_=>by simp at h
 |p::P,w::vs,0,m,nd,h1,h2,hk=>by
  simp at h1 h2;subst h1;subst h2;show bindL kindOf ((p,w)::P.zip vs) m p=_;unfold bindL;rw[a0x λv hv=>(List.nodup_cons.mp nd).1 (List.of_mem_zip hv).1,if_pos hk];simp
 |p::P,w::vs,i+1,m,nd,h1,h2,hk=>by
  show bindL kindOf ((p,w)::P.zip vs) m x=_;unfold bindL;exact a0y (i:=i) (List.nodup_cons.mp nd).2 (by simpa using h1) (by simpa using h2) hk
theorem a0A{kindOf:Str->Option NameKind}{x:Str}{v:Value}:∀{P:List Str}{vs:List Value}{i:Nat}{m:Str->Option Value},P.Nodup->P[i]?=some x->vs[i]?=some v->kindOf x≠some .local ->
  bindC kindOf (P.zip vs) m x=some v
 |[],_,_,_,_,h,_,_=>by simp at h
 |_::_,[],_,_,_,_,h,_=>by simp at h
 |p::P,w::vs,0,m,nd,h1,h2,hk=>by
  simp at h1 h2;subst h1;subst h2;show bindC kindOf ((p,w)::P.zip vs) m p=_;unfold bindC;rw[a0z λv hv=>(List.nodup_cons.mp nd).1 (List.of_mem_zip hv).1,if_neg hk];simp
 |p::P,w::vs,i+1,m,nd,h1,h2,hk=>by
  show bindC kindOf ((p,w)::P.zip vs) m x=_;unfold bindC;exact a0A (i:=i) (List.nodup_cons.mp nd).2 (by simpa using h1) (by simpa using h2) hk
noncomputable def start(N:List Str)(vs:List V):St:=vs.map some++List.replicate (N.length-vs.length) none
noncomputable def N0(CX:CXT)(P:Program)(w:World)(K:PySem.W.Frag)(mg:Str->Option Value)(base:Heap)(N:List Str)(qual:Str)(scope:Scope)(f:Addr)(cd:Value)(A:Around)(outer:List Env)(s:Shared)(H:Hp)(E:XK):Cx where
 prog:=P
 w:=w
 K:=K
 mg:=mg
 base:=base
 A:=A.deeper (envOfC qual scope s.heap.objs.size f cd)
 N:=N
 s₀:=s
 H₀:=H
 env:=envOfC qual scope s.heap.objs.size f cd
 outer:=outer
 stack:=envOfC qual scope s.heap.objs.size f cd::outer
 ex:=[]
 calm:=true
 fn:=λ_=>true
 pn:=[]
 xe:=λe s'=>wpAny (model P w) (A.deeper (envOfC qual scope s.heap.objs.size f cd)) (leaving (envOfC qual scope s.heap.objs.size f cd) e) (λ_ s''=>CX outer H s E e s'') (λe' s''=>CX outer H s E e' s'') s'
theorem a1Q{sc:Scope}{n:Nat}{x:Str}(h:sc.names.lookup x=some .cell):∃c,(cellsFrom n sc.names []).lookup x=some c:=by
 have q:=PySem.W.cellsFrom_some sc.names n [] (.inl h);exact Option.isSome_iff_exists.mp q
theorem a3P{CX:CXT}{P:Program}{w:World}{K:PySem.W.Frag}{mg:Str->Option Value}{base:Heap}{N ps:List Str}{qual:Str}{scope:Scope}{f:Addr}{cd:Value}{A:Around}{outer:List Env}{s s1:Shared}{H:Hp}{E:XK}{us:List Value}{vs:List V}
  (S:FnScope N ps scope) (hd:A.handled=none) (e0:Env0 P w K mg base A outer s H) (hl:vs.length=ps.length) (r:Vals vs us)
  (x:InCallC s s.heap.objs.size (bindL (envOfC qual scope s.heap.objs.size f cd).kindOf (ps.zip us) λ_=>none) (cellsFrom (s.heap.objs.size+1) scope.names []) (bindC (envOfC qual scope s.heap.objs.size f cd).kindOf (ps.zip us) λ_=>none) s1) :
  Inv (N0 CX P w K mg base N qual scope f cd A outer s H E) [] (start N vs) H s1:=by
 have hpl:ps.length<=N.length:=by have:=congrArg List.length S.pre;rw[List.length_take]at this;omega
 obtain⟨h1,tk,rfl,hk⟩:=x.done;have noA:∀b:Addr,b∉(N0 CX P w K mg base N qual scope f cd A outer s H E).ex:=λb z=>absurd (show b∈([]:List Addr)from z) (by simp);refine⟨⟨e0.mod,S.kind,rfl,rfl,Nat.le_refl _,λy z c h1 h2=>?_,λy hy=>?_,λy c _ h=>?_,λ_=>hd,Around.frames_deeper e0.frames,.inr ⟨rfl,rfl⟩,λb z=>absurd z (noA b),e0.bs,e0.bsz,λb _ _=>noA b,λb z=>absurd z (noA b),e0.funs,e0.frf⟩,
  rfl,e0.bare,Un.kept hk,⟨_,x.toInCall.ns,λi y v h1 h2 h3=>?_⟩,λy c h=>⟨_,x.cell y c h⟩,e0.hok.fresh (Nat.le_refl _),λy c h=>?_,λp hp=>absurd (show p∈([]:List (Addr×Obj))from hp) (by simp),e0.hok.kept hk,?_⟩
 .exact name_of_addr x.apart (PySem.mem_of_lookup h1) (PySem.mem_of_lookup h2)
 .have hy:scope.names.lookup y=some .cell∨scope.names.lookup y=some .free:=hy;rcases hy with hy|hy
  .exact a1Q hy
  .exact absurd rfl (S.nofree _ (PySem.mem_of_lookup hy))
 .exact Nat.le_of_lt (x.above y c (PySem.mem_of_lookup h))
 .have hi:i<vs.length:=by
   unfold start at h2;by_cases hi:i<vs.length
   .exact hi
   .rw[List.getElem?_append_right (by simpa using hi)]at h2;rw[List.getElem?_replicate]at h2;split at h2<;>cases h2
  have ha:vs[i]?=some v:=by
   unfold start at h2;rw[List.getElem?_append_left (by simpa using hi),List.getElem?_map]at h2;cases e:vs[i]? with
   |none=>rw[e]at h2;cases h2
   |some a=>rw[e]at h2;cases h2;rfl
  obtain⟨u,hu,rv⟩:=r.get ha;have hp:ps[i]?=some y:=by
   rw[<-S.pre,List.getElem?_take_of_lt (by omega)];exact h1
  have ndP:ps.Nodup:=by rw[<-S.pre];exact S.nd.sublist (List.take_sublist _ _)
  refine⟨u,rv,?_⟩;rcases S.par y (List.mem_of_getElem? hp)with k|k
  .exact .inl ⟨k,a0y ndP hp hu k⟩
  .obtain⟨c,e⟩:=a1Q (n:=s.heap.objs.size+1) k;refine .inr ⟨.inl k,c,e,?_⟩;have q:=x.cell y c e;rw[a0A ndP hp hu (by show scope.names.lookup y≠_;rw[k];decide)]at q;exact q
 .exact e0.hok.fresh (Nat.le_of_lt (x.above y c (PySem.mem_of_lookup h)))
 .unfold start;show _=N.length;rw[List.length_append,List.length_map,List.length_replicate];omega
theorem a8q{CX:CXT}{P:Program}{w:World}{K:PySem.W.Frag}{mg:Str->Option Value}{base:Heap}{k:Nat}{f:Addr}{name qual:Str}{params:Arguments}{body:List Stmt}{scope:Scope}{dV kV doc pm cdv ct oc:Value}{an od:Option Addr}
  {osl:Array (Option Value)}{N ps:List Str}{sp:Sp}(lk:K.lookup f=some ⟨oc,od,.func (PySem.W.fnOf name qual params body scope dV kV doc pm an cdv ct),osl⟩) (hcd:PySem.W.codeIn K cdv qual=true) (S:FnScope N ps scope)
  (len:∀vs H Q E,sp vs H Q E->vs.length=ps.length)
  (hbody:∀(A:Around) (outer:List Env) (s:Shared) (H:Hp) (vs:List V) (Q:VK) (E:XK),Room k (A.deeper (envOfC qual scope s.heap.objs.size f cdv))->sp vs H Q E ->
   ∃t,PSs (N0 CX P w K mg base N qual scope f cdv A outer s H E) body t/\t {nx:=λ_ H'=>Q .non H',rt:=Q} (start N vs) H) :
  FnOk P w K mg base CX (k+1) f (PySem.W.fnOf name qual params body scope dV kV doc pm an cdv ct) ps sp:=by
 refine⟨len,λA outer s H args us vs Q E hr e0 hb r hsp=>?_⟩;have hl:=len _ _ _ _ hsp;have KX:K.In s.heap:=e0.mod.kin.keeps λb o e=>(e0.bs b o e).1;have lim:s.heap.NoLimit:=e0.mod.nolimit.keeps λb o e=>(e0.bs b o e).1;have hkind:∀y∈ps.zip us,scope.names.lookup y.1=some .local∨(scope.names.lookup y.1=some .cell/\((cellsFrom (s.heap.objs.size+1) scope.names []).lookup y.1).isSome=true):=λ⟨n,v⟩ hy=>by
  rcases S.par n (List.of_mem_zip hy).1 with q|q
  .exact .inl q
  .exact .inr ⟨q,PySem.W.cellsFrom_some _ _ _ (.inl q)⟩
 refine codeAny_call_function hr.depth (KX _ _ lk) rfl S.co S.gen rfl (PySem.W.codeRec_of KX hcd) (hb _ _ _ _ ?_);refine wpAny_newFunctionEnv_cells S.kind hkind λenv he s1 x=>?_;subst he;refine⟨lim.keeps x.toInCall.keep,codeAny_func ?_⟩;obtain⟨t,ht,hq⟩:=hbody A outer s H vs Q E (hr.deeper _) hsp;have I:Inv (N0 CX P w K mg base N qual scope f cdv A outer s H E) [] (start N vs) H s1:=a3P S hr.hd e0 hl r x;refine wpAny_mono (ht [] s1 (start N vs) H _ I hq) (λfl s' hs=>?_) λe s' hs=>hs;have fin:∀{σ':St}{H':Hp}{v:V}{u:Value},Inv (N0 CX P w K mg base N qual scope f cdv A outer s H E) [] σ' H' s'->RelV v u->Q v H'->CE outer P w H s Q u s' :=
  λ{σ' H' v u} J rv q=>⟨v,H',J.os,J.bare,J.base,J.hok,rv,q⟩
 cases fl with
 |ret u =>
  obtain⟨v,σ',H',J,rv,q⟩:=hs;exact fin J rv q
 |next =>
  obtain⟨σ',H',J,q⟩:=hs;exact fin (v:=V.non) (u:=Value.none) J rfl q
 |brk =>
  obtain⟨_,_,_,q⟩:=hs;exact False.elim q
 |cont =>
  obtain⟨_,_,_,q⟩:=hs;exact False.elim q
section
variable {X:Cx}{x:Str}{p pos:Pos}{e:Expr}{es:List Expr}{t:TA}{id T:String}{r:List V->Hp->VK->Prop}
def tCB(r:List V->Hp->VK->Prop)(t:TA):TE:=λσ H Q=>t σ H λvs H1=>r vs H1 Q
theorem D9(hc:C6 X (.builtin id) r)(hg:Gl X x)(hm:X.mg x=none)(hv:bootBuiltins x=some (.builtin id))(ha:PA X (e::es) t)(hn:x≠"__name__":=by decide)(hdb:(x==("__debug__" : Str))=false:=by decide)
  (he:starEach (e::es) X.env=(false,eval e X.env)::starEach es X.env:=by rfl) (hpl:(backTo pos (starEach es X.env)).any (·.1)=false:=by rfl):PE X (.Call (.Name x p) (e::es) [] pos) (tCB r t):=by
 intro pins s σ H Q I h;refine wpAny_Call_Name_kw (E5 I hg hm hv ?_ hn hdb);exact PyProof.Rows.callWith_builtin1 (thn (ha pos pins s σ H _ I h) λus s1 ⟨vs,H1,I1,r1,q1⟩=>hc pins s1 σ H1 vs us Q I1 r1 q1) he hpl
theorem O3(hc:C6 X (.type T) r)(hg:Gl X x)(hm:X.mg x=none)(hv:bootBuiltins x=some (.type T))(ha:PA X (e::es) t)(hn:x≠"__name__":=by decide)(hdb:(x==("__debug__" : Str))=false:=by decide)
  (he:starEach (e::es) X.env=(false,eval e X.env)::starEach es X.env:=by rfl) (hpl:(backTo pos (starEach es X.env)).any (·.1)=false:=by rfl):PE X (.Call (.Name x p) (e::es) [] pos) (tCB r t):=by
 intro pins s σ H Q I h;refine wpAny_Call_Name_kw (E5 I hg hm hv ?_ hn hdb);exact PyProof.Rows.callWith_type1 (thn (ha pos pins s σ H _ I h) λus s1 ⟨vs,H1,I1,r1,q1⟩=>hc pins s1 σ H1 vs us Q I1 r1 q1) he hpl
end
end L2
namespace HT
open PySem PyProof.Rows
noncomputable def lexLt:List Int->List Int->Bool
 |[],[]=>false
 |[],_::_=>true
 |_::_,[]=>false
 |x::xs,y::ys=>if x=y then lexLt xs ys else decide (x<y)
theorem lexLt_cons(x y:Int)(xs ys:List Int):lexLt (x::xs) (y::ys)=if x=y then lexLt xs ys else decide (x<y):=rfl
theorem rcLt_int(A:Around)(s:Shared)(a:Int)(t:Tok)(c:Int)(u:Tok)(prog:Program)(w:World)(E:Value->Shared->Prop)(Q:Value->Shared->Prop)(h:Q (.bool (decide (a<c))) s) :
  wpAny (model prog w) A (richCompare .Lt (.int a t) (.int c u)) Q E s :=
 (PyProof.Rows.lt_int h:wpAny (model prog w) A (compareOp .Lt (.int a t) (.int c u)) Q E s)
section
open PySem.SeqAt
open PySem.AutoSeq1 (wpAny_loadPart')
open PySem.MeetsSeq PySem.MeetsSeq2 PySem.MeetsSeq3
end
section
variable {prog:Program}{w:World}{A:Around}{E:Value->Shared->Prop}{s:Shared}
theorem cat_tup{t b:Addr}{vs ws:List Value}{Q:Value->Shared->Prop}(ht:IsTup s.heap t vs.toArray)(hb:IsTup s.heap b ws.toArray)(hv:vs≠[])
  (h1:ws=[]->Q (.ref t) s) (h2:ws≠[]->Q (.ref s.heap.objs.size) {s with heap:=s.heap.push {cls:=.type "tuple",data:=.seq (vs++ws).toArray}})
  (hsz:vs.length+ws.length<=sizeLine):wpAny (model prog w) A (binaryOp .Add (.ref t) (.ref b)) Q E s:=by
 obtain⟨⟨cls,dd,data,sl⟩,ho,hc,n,hd⟩:=id ht;obtain⟨⟨cls2,dd2,data2,sl2⟩,ho2,hc2,n2,hd2⟩:=id hb;simp only at hc hd hc2 hd2;subst hc hd hc2 hd2;have e:vs.toArray++ws.toArray=(vs++ws).toArray:=by simp
 by_cases hw:ws=[]
 .exact concat_meets ⟨_,ho,rfl⟩ ⟨_,ho2,rfl⟩ noFill_tuple_add seq_tuple_add PySem.F.slot_tuple_add PySem.F.entry_tuple_add (PySem.F.args_tuple_add_2 _ _)
   (tuple_addW1 t b vs.toArray ws.toArray n n2 dd dd2 sl sl2 (by simpa using hv) (by simp[hw])) ⟨ho,ho2,h1 hw⟩
 .refine concat_meets ⟨_,ho,rfl⟩ ⟨_,ho2,rfl⟩ noFill_tuple_add seq_tuple_add PySem.F.slot_tuple_add PySem.F.entry_tuple_add (PySem.F.args_tuple_add_2 _ _)
   (tuple_addW2 t b vs.toArray ws.toArray n n2 dd dd2 sl sl2 (by simpa using hv) (by simpa using hw) (by rw[List.size_toArray,List.size_toArray];exact hsz)) ⟨ho,ho2,?_⟩
  rw[e];exact h2 hw
noncomputable def sIx(n d:Nat):Option Int->Nat
 |none=>d
 |some v=>if v<0 then(v+(n:Int)).toNat else min v.toNat n
theorem sIx_none(n d:Nat):sIx n d none=d:=rfl
theorem sIx_nat(n d k:Nat):sIx n d (some (k:Int))=min k n:=by
 show(if (k:Int)<0 then((k:Int)+(n:Int)).toNat else min (k:Int).toNat n)=min k n;rw[if_neg (by omega),Int.toNat_natCast]
theorem a8J(n d:Nat)(hd:d<=n)(o:Option Int):sIx n d o<=n:=by
 cases o with
 |none=>exact hd
 |some v =>
  show(if v<0 then(v+(n:Int)).toNat else min v.toNat n)<=n;by_cases hv:v<0
  .rw[if_pos hv];omega
  .rw[if_neg hv];exact Nat.min_le_right _ _
theorem a3d(v:Int)(n d:Nat):(if v<0 then max (v+(n:Int)) 0 else min v (n:Int))=((sIx n d (some v):Nat):Int):=by
 show(if v<0 then max (v+(n:Int)) 0 else min v (n:Int))=(((if v<0 then(v+(n:Int)).toNat else min v.toNat n):Nat):Int);by_cases hv:v<0
 .simp only[if_pos hv];omega
 .simp only[if_neg hv];omega
theorem a2C(lo hi:Option Int)(n:Nat):Builtin.Slice.sliceAdjust lo hi 1 (n:Int)=(((sIx n 0 lo:Nat):Int),((sIx n n hi:Nat):Int)):=by
 have h1:¬((1:Int)<0):=by omega
 unfold Builtin.Slice.sliceAdjust;simp only[h1,if_false];refine Prod.ext ?_ ?_
 .cases lo with
  |none=>rfl
  |some v=>exact a3d v n 0
 .cases hi with
  |none=>rfl
  |some v=>exact a3d v n n
theorem a2i(i j:Nat):Builtin.Slice.slicePlaces (i:Int) (j:Int) 1=j-i:=by
 unfold Builtin.Slice.slicePlaces;have h1:(1:Int) > 0:=by omega
 simp only[h1,if_true,Int.ediv_one];split<;>omega
theorem W8{v:Value}{o:Option Int}{Q:Option Int->Shared->Prop}(p:IsPart v o)(h:Q o s):wpAny (model prog w) A (Builtin.Slice.slicePartIndex v) Q E s:=by
 cases p with
 |none=>exact slicePart_none h
 |int i t=>exact slicePart_int h
theorem S6{sl:Addr}{vl vu:Value}{lo hi:Option Int}{n:Nat}{Q:Int×Int×Nat->Shared->Prop}(hs:s.heap.IsSliceOf sl vl vu .none)(pl:IsPart vl lo)(pu:IsPart vu hi)
  (h:Q (((sIx n 0 lo:Nat):Int),1,sIx n n hi-sIx n 0 lo) s):wpAny (model prog w) A (Builtin.Slice.sliceApplied (.ref sl) (pure (n:Int))) Q E s:=by
 obtain⟨os,hos,hcs,hds⟩:=id hs;unfold Builtin.Slice.sliceApplied Builtin.Slice.sliceFields;refine wpAny_bind (wpAny_bind (wpAny_field hos hds (x:=vl) rfl (wpAny_bind (wpAny_field hos hds (x:=vu) rfl (wpAny_bind (wpAny_field hos hds (x:=.none) rfl (wpAny_pure ?_)))))));refine wpAny_bind (slicePart_none ?_);show wpAny _ _ (if ((1:Int)==0)=true then _ else _) _ _ s;rw[if_neg (by decide)];refine wpAny_bind (W8 pl (wpAny_bind (W8 pu (wpAny_bind (wpAny_pure ?_)))));show wpAny _ _ (match Builtin.Slice.sliceAdjust lo hi 1 (n:Int)with | (lo,hi)=>pure (lo,(1:Int),Builtin.Slice.slicePlaces lo hi 1)) _ _ s;rw[a2C lo hi n];show wpAny _ _ (pure (((sIx n 0 lo:Nat):Int),(1:Int),Builtin.Slice.slicePlaces ((sIx n 0 lo:Nat):Int) ((sIx n n hi:Nat):Int) 1)) _ _ s;rw[a2i];exact wpAny_pure h
theorem a5c(xs:Array Value)(i k:Nat):((List.range k).filterMap λ(m:Nat)=>xs[((i:Int)+(m:Int)*1).toNat]?).toArray=((xs.toList.drop i).take k).toArray:=by
 have e:(λ(m:Nat)=>xs[((i:Int)+(m:Int)*1).toNat]?)=λm=>xs[i+m]?:=by
  funext m;have:((i:Int)+(m:Int)*1).toNat=i+m:=by omega
  rw[this]
 rw[e];have:=pick_run xs i k;rw[List.filterMap_map]at this;have e2:((λx=>xs[x]?) ∘ λx=>i+x)=λm=>xs[i+m]?:=rfl;rw[e2]at this;rw[this]
theorem getItem_tuple_cut{t sl:Addr}{items:Array Value}{vl vu:Value}{lo hi:Option Int}{Q:Value->Shared->Prop}(ht:IsTup s.heap t items)(hs:s.heap.IsSliceOf sl vl vu .none)(pl:IsPart vl lo)(pu:IsPart vu hi)
  (hw:¬(sIx items.size 0 lo=0/\sIx items.size items.size hi=items.size))
  (h:Q (.ref s.heap.objs.size) {s with heap:=s.heap.push {cls:=.type "tuple",data:=.seq ((items.toList.drop (sIx items.size 0 lo)).take (sIx items.size items.size hi-sIx items.size 0 lo)).toArray}})
  (hsz:items.size<=sizeLine):wpAny (model prog w) A (getItem (.ref t) (.ref sl)) Q E s:=by
 have htake:sizeOk (.seq ((items.toList.drop (sIx items.size 0 lo)).take (sIx items.size items.size hi-sIx items.size 0 lo)).toArray):=by
  show((items.toList.drop (sIx items.size 0 lo)).take (sIx items.size items.size hi-sIx items.size 0 lo)).toArray.size<=sizeLine;rw[List.size_toArray,List.length_take,List.length_drop,Array.length_toList];omega
 have hj:sIx items.size items.size hi<=items.size:=a8J _ _ (Nat.le_refl _) hi;obtain⟨os,hos,hcs,hds⟩:=id hs;have hTs:s.TypeIs (.ref sl) "slice":=⟨os,hos,hcs⟩;unfold getItem
 try with_reducible refine wpAny_holding ?_
 first|refine wpAny_bind (wpAny_pure ?_)|skip
 refine wpAny_bind (wpAny_sequenceKey ht.typeIs (by decide) ?_);refine wpAny_bind (wpAny_callSpecial?_slot (name:=Str.ofString "__getitem__") ht.typeIs PyProof.Rows.slot_tuple_getitem
  (wpAny_call_entry PyProof.Rows.slot_tuple_getitem ht.typeIs entry_tuple_getitem ?_ (args_tuple_getitem _ _)))
 show wpAny _ _ (Builtin.Tuple.tupleItemsOf (.ref t)>>=_) _ _ s;refine wpAny_bind (tupleItemsOf_ ht ?_);refine wpAny_bind (wpAny_typeOf hTs ?_);rw[if_pos (by decide)];refine wpAny_bind (S6 hs pl pu ?_);have hno:¬((((sIx items.size 0 lo:Nat):Int)==0 && (1:Int)==1 && (sIx items.size items.size hi-sIx items.size 0 lo)==items.size)=true):=by
  intro q;rw[Bool.and_eq_true,Bool.and_eq_true]at q;have q1:((sIx items.size 0 lo:Nat):Int)=0:=eq_of_beq q.1.1;have q2:sIx items.size items.size hi-sIx items.size 0 lo=items.size:=eq_of_beq q.2;exact hw ⟨by omega,by omega⟩
 show wpAny _ _ (if (((sIx items.size 0 lo:Nat):Int)==0 && (1:Int)==1 && (sIx items.size items.size hi-sIx items.size 0 lo)==items.size)=true then _ else _) _ _ s;rw[if_neg hno,a5c]
 first
  |exact wpAny_bind (m:=Builtin.Tuple.tupleExact _) (wpAny_newObj_type (wpAny_pure ⟨_,rfl,wpAny_pure h⟩) htake)
  |exact wpAny_bind (m:=Builtin.Tuple.tupleExact _) (wpAny_newObj_type (wpAny_bind (wpAny_pure (wpAny_pure ⟨_,rfl,wpAny_pure h⟩))) htake)
  |exact wpAny_bind (wpAny_bind (m:=Builtin.Tuple.tupleExact _) (wpAny_newObj_type (wpAny_pure (wpAny_pure ⟨_,rfl,wpAny_pure h⟩)) htake))
  |exact wpAny_bind (wpAny_bind (m:=Builtin.Tuple.tupleExact _) (wpAny_newObj_type (wpAny_pure ⟨_,rfl,wpAny_pure h⟩) htake))
end
end HT
namespace L2
open PySem PySem.Spec PyProof.Rows
abbrev TO:=St->Hp->(Option Int->Hp->Prop)->Prop
def PO(X:Cx)(e:Option Expr)(t:TO):Prop :=
 ∀(pins:List (Addr×Obj)) (s:Shared) (σ:St) (H:Hp) (Q:Option Int->Hp->Prop),Inv X pins σ H s->t σ H Q ->
  wpAny (model X.prog X.w) X.A (evalPart e X.env) (λu s'=>∃o H',Inv X pins σ H' s'/\IsPart u o/\Q o H') X.xe s
def V0:TO:=λ_ H Q=>Q none H
def a4y(t:TE):TO:=λσ H Q=>t σ H λx H1=>∃i,x=.int i/\Q (some i) H1
section
variable {X:Cx}{e:Expr}{te:TE}{lo hi:Option Expr}{tl th:TO}{pos p2:Pos}
theorem a6F:PO X none V0:=by
 intro pins s σ H Q I h;rw[evalPart_none];exact wpAny_pure ⟨none,H,I,.none,h⟩
theorem a6E(h:PE X e te):PO X (some e) (a4y te):=by
 intro pins s σ H Q I hw;rw[evalPart_some];refine thn (h pins s σ H _ I hw) λu s1 ⟨x,H1,I1,r1,q1⟩=>?_;obtain⟨i,rfl,q⟩:=q1;obtain⟨t,rfl⟩:=r1;exact⟨some i,H1,I1,.int i t,q⟩
def SlR(X:Cx)(r:V->Option Int->Option Int->Hp->VK->Prop):Prop :=
 ∀(pins:List (Addr×Obj)) (s:Shared) (σ:St) (H:Hp) (x:V) (v vl vu:Value) (lo hi:Option Int) (sl:Addr) (Q:VK),Inv X pins σ H s->RelV x v->s.heap.IsSliceOf sl vl vu .none->IsPart vl lo->IsPart vu hi->r x lo hi H Q ->
  ∃T id,typeLookup (.type T) "__getitem__"=pure (some (.builtin id))/\s.TypeIs v T/\wpAny (model X.prog X.w) X.A (getItem v (.ref sl)) (EP X pins σ Q) X.xe s
def tSl(r:V->Option Int->Option Int->Hp->VK->Prop)(te:TE)(tl th:TO):TE:=λσ H Q=>te σ H λx H1=>tl σ H1 λl H2=>th σ H2 λu H3=>r x l u H3 Q
theorem a5f{r:V->Option Int->Option Int->Hp->VK->Prop}(hr:SlR X r)(he:PE X e te)(hl:PO X lo tl)(hu:PO X hi th):PE X (.Subscript e (.Slice lo hi none p2) pos) (tSl r te tl th):=by
 intro pins s σ H Q I h;refine Subscript_ (thn (he pins s σ H _ I h) λv s1 ⟨x,H1,I1,r1,q1⟩=>?_);refine wpAny_Slice (thn (hl pins s1 σ H1 _ I1 q1) λvl s2 ⟨l,H2,I2,pl,q2⟩=>thn (hu pins s2 σ H2 _ I2 q2) λvu s3 ⟨u,H3,I3,pu,q3⟩=>?_);rw[evalPart_none];refine wpAny_pure ?_;have I4:Inv X pins σ H3 {s3 with heap:=s3.heap.push {cls:=.type "slice",data:=.fields #[vl,vu,.none]}}:=I3.kept (t':=s3.toks) λb ob q=>Heap.get?_push_of_some _ q;obtain⟨T,id,hT,ht,hg⟩:=hr pins {s3 with heap:=s3.heap.push {cls:=.type "slice",data:=.fields #[vl,vu,.none]}} σ H3 x v vl vu l u s3.heap.objs.size Q I4 r1 (Heap.IsSliceOf.new ..) pl pu q3;show wpAny (model X.prog X.w) X.A (subscriptTail e (.Slice lo hi none p2) v (.ref s3.heap.objs.size)) (EP X pins σ Q) X.xe {s3 with heap:=s3.heap.push {cls:=.type "slice",data:=.fields #[vl,vu,.none]}};exact tail_any (ops:=[.ref s3.heap.objs.size,v]) ht hT hg (by with_unfolding_all rfl)
noncomputable def a1M(xs:List V)(lo hi:Option Int):List V:=(xs.drop (HT.sIx xs.length 0 lo)).take (HT.sIx xs.length xs.length hi-HT.sIx xs.length 0 lo)
theorem U5(xs:List V)(lo hi:Option Int):(a1M xs lo hi).length<=xs.length:=by
 unfold a1M;rw[List.length_take,List.length_drop];omega
def a6u(K:PySem.W.Frag):V->Option Int->Option Int->Hp->VK->Prop:=λx lo hi H Q=>∃a xs,x=.ref a/\SqT K H a xs /\
 ¬(HT.sIx xs.length 0 lo=0/\HT.sIx xs.length xs.length hi=xs.length)/\∀p,H p=none->Q (.ref p) (upd H p (.tup (a1M xs lo hi)))
theorem a8G:SlR X (a6u X.K):=by
 intro pins s σ H x v vl vu lo hi sl Q I rx hs pl pu h;obtain⟨a,xs,rfl,hx,hw,q⟩:=h;cases rx;obtain⟨its,r,ht,hz⟩:=I.tuple hx;have hlen:its.toArray.size=xs.length:=by rw[List.size_toArray];exact r.length.symm
 refine⟨"tuple",_,PyProof.Rows.slot_tuple_getitem.lookup,ht.typeIs,?_⟩;refine HT.getItem_tuple_cut ht hs pl pu (by rw[hlen];exact hw) ?_ (by rw[hlen];exact hz);rw[hlen];refine⟨.ref s.heap.objs.size,_,I.laid (t':=s.toks) (o:=.tup (a1M xs lo hi)) (λb ob q=>Heap.get?_push_of_some _ q) (Nat.le_refl _) ?_,rfl,q _ (I.hok.fresh (Nat.le_refl _))⟩;exact⟨Nat.le_trans (U5 xs lo hi) hz,_,(r.drop (HT.sIx xs.length 0 lo)).take (HT.sIx xs.length xs.length hi-HT.sIx xs.length 0 lo),IsTup.new _ _⟩
def b0E(K:PySem.W.Frag):R2:=λx y H Q=>∃a b xs ys,x=.ref a/\y=.ref b/\SqT K H a xs/\SqT K H b ys/\xs≠[]/\xs.length+ys.length<=sizeLine /\
 (ys=[]->Q (.ref a) H)/\(ys≠[]->∀p,H p=none->Q (.ref p) (upd H p (.tup (xs++ys))))
theorem Vals.nil_iff{xs:List V}{us:List Value}(r:Vals xs us):us=[]↔xs=[]:=by
 cases r with
 |nil=>simp
 |cons _ _=>simp
theorem a7a:OpR X (binaryOp .Add) (b0E X.K):=by
 intro pins s σ H x y v u Q I rx ry h;obtain⟨a,b,xs,ys,rfl,rfl,ha,hb,hx,hz,q1,q2⟩:=h;cases rx;cases ry;obtain⟨its,r1,p1,_⟩:=I.tuple ha;obtain⟨its2,r2,p2,_⟩:=I.tuple hb;refine HT.cat_tup p1 p2 (λz=>hx (r1.nil_iff.mp z)) (λz=>⟨.ref a,H,I,rfl,q1 (r2.nil_iff.mp z)⟩) (λz=>?_) (by rw[<-r1.length,<-r2.length];exact hz);refine⟨.ref s.heap.objs.size,_,I.laid (t':=s.toks) (o:=.tup (xs++ys)) (λb ob q=>Heap.get?_push_of_some _ q) (Nat.le_refl _) ?_,rfl,q2 (λw=>z (r2.nil_iff.mpr w)) _ (I.hok.fresh (Nat.le_refl _))⟩;exact⟨by rw[List.length_append];exact hz,_,r1.append r2,IsTup.new _ _⟩
end
noncomputable def ixN(n:Nat)(i:Int):Option Nat:=if 0<=i then(if i<n then some i.toNat else none)else if -(n:Int)<=i then some (i+n).toNat else none
noncomputable def atI{α:Type}(xs:List α)(i:Int):Option α:=(ixN xs.length i).bind λj=>xs[j]?
theorem a2X{n:Nat}{i:Int}{j:Nat}(h:ixN n i=some j):seqIndex? i n=some j/\j<n /\ -(n:Int)<=i/\i<n:=by
 unfold ixN at h;by_cases h0:0<=i
 .rw[if_pos h0]at h;by_cases h1:i<n
  .rw[if_pos h1]at h;have e:i.toNat=j:=Option.some.inj h;exact⟨by rw[seqIndex_of h0 h1,e],by omega,by omega,h1⟩
  .rw[if_neg h1]at h;cases h
 .rw[if_neg h0]at h;by_cases h1 : -(n:Int)<=i
  .rw[if_pos h1]at h;have e:(i+n).toNat=j:=Option.some.inj h;exact⟨by rw[seqIndex_neg (by omega) h1,e],by omega,h1,by omega⟩
  .rw[if_neg h1]at h;cases h
theorem a1k{α:Type}{xs:List α}{i:Int}{v:α}(h:atI xs i=some v):∃j,seqIndex? i xs.length=some j/\xs[j]?=some v/\j<xs.length /\ -(xs.length:Int)<=i/\i<xs.length:=by
 unfold atI at h;cases e:ixN xs.length i with
 |none=>rw[e]at h;cases h
 |some j =>
  rw[e]at h;obtain⟨h1,h2,h3,h4⟩:=a2X e;exact⟨j,h1,h,h2,h3,h4⟩
theorem P1{α:Type}{xs:List α}{j:Nat}{v:α}(h:xs[j]?=some v):atI xs (j:Int)=some v:=by
 have hj:j<xs.length:=(List.getElem?_eq_some_iff.mp h).1;have e:ixN xs.length (j:Int)=some j:=by
  unfold ixN;rw[if_pos (by omega),if_pos (by omega)];simp
 unfold atI;rw[e];exact h
def V9(b:Expr):Prop:=∀o i,subscripted b false o i=operate [o,i] (getItem o i)
def IxR(X:Cx)(r:R2):Prop :=
 ∀(value slice:Expr) (pins:List (Addr×Obj)) (s:Shared) (σ:St) (H:Hp) (x y:V) (v u:Value) (Q:VK),Inv X pins σ H s->RelV x v->RelV y u->r x y H Q ->
  subscripted slice false v u=operate [v,u] (getItem v u)->wpAny (model X.prog X.w) X.A (subscriptTail value slice v u) (EP X pins σ Q) X.xe s
def MtR(X:Cx)(id:String)(r:V->List V->Hp->VK->Prop):Prop :=
 ∀(pins:List (Addr×Obj)) (s:Shared) (σ:St) (H:Hp) (x:V) (xs:List V) (v:Value) (us:List Value) (Q:VK),Inv X pins σ H s->RelV x v->Vals xs us->r x xs H Q ->
  wpAny (model X.prog X.w) X.A (call (.builtin id) (v::us)) (EP X pins σ Q) X.xe s
section
variable {X:Cx}{a b:Expr}{ta tb:TE}{pos:Pos}
theorem IxR.or{r r':R2}(h:IxR X r)(h':IxR X r'):IxR X (λx y H Q=>r x y H Q∨r' x y H Q):=by
 intro value slice pins s σ H x y v u Q I rx ry q hs;rcases q with q|q
 .exact h value slice pins s σ H x y v u Q I rx ry q hs
 .exact h' value slice pins s σ H x y v u Q I rx ry q hs
theorem a5h{r:R2}(hr:IxR X r)(ha:PE X a ta)(hb:PE X b tb)(hs:V9 b):PE X (.Subscript a b pos) (tOp r ta tb):=by
 intro pins s σ H Q I h;exact Subscript_ (b0d ha hb I h λv u s2 x y H2 I2 rx ry q=>hr a b pins s2 σ H2 x y v u Q I2 rx ry q (hs _ _))
def a6w(K:PySem.W.Frag):R2:=λx y H Q=>∃p xs i v,x=.ref p/\y=.int i/\SqL K H p xs/\atI xs i=some v/\Q v H
def a6v(K:PySem.W.Frag):R2:=λx y H Q=>∃p xs i v,x=.ref p/\y=.int i/\SqT K H p xs/\atI xs i=some v/\Q v H
def b0B:R2:=λx y H Q=>∃z i c,x=.str z/\y=.int i/\z.length<=sizeLine/\atI z.cps.toList i=some c/\Q (.str ⟨#[c]⟩) H
theorem ix_list:IxR X (a6w X.K):=by
 intro value slice pins s σ H x y v u Q I rx ry h hs;obtain⟨p,xs,i,z,rfl,rfl,hq,he,q⟩:=h;cases rx;obtain⟨t,rfl⟩:=ry;obtain⟨its,r,pl,hz⟩:=I.list hq;obtain⟨j,h1,h2,h3,h4,h5⟩:=a1k he;obtain⟨w,ew,rw'⟩:=r.get h2;have hl:=r.length;have hn:=Q0;have fin:EP X pins σ Q w s:=⟨z,H,I,rw',q⟩;by_cases h0:0<=i
 .have hj:i.toNat=j:=by
   rw[seqIndex_of h0 h5]at h1;exact Option.some.inj h1
  exact item_listR pl.isList h0 (by omega) (by rw[hj];simpa using ew) fin hs
 .have hj:(i+(its.toArray.size:Int)).toNat=j:=by
   rw[seqIndex_neg (by omega) h4]at h1;rw[List.size_toArray,<-hl];exact Option.some.inj h1
  exact subscriptTail_builtinR (x:=w) pl.isList.typeIs slot_list_getitem.lookup
   (wpAny_getItem_list_neg (Q:=λr s'=>r=w/\EP X pins σ Q r s') pl.isList (by omega) (by rw[List.size_toArray]<;>omega) (by omega) (by rw[hj];simpa using ew) ⟨rfl,fin⟩) hs
theorem ix_tup:IxR X (a6v X.K):=by
 intro value slice pins s σ H x y v u Q I rx ry h hs;obtain⟨p,xs,i,z,rfl,rfl,hq,he,q⟩:=h;cases rx;obtain⟨t,rfl⟩:=ry;obtain⟨its,r,pl,hz⟩:=I.tuple hq;obtain⟨j,h1,h2,h3,h4,h5⟩:=a1k he;obtain⟨w,ew,rw'⟩:=r.get h2;have hl:=r.length;have hn:=Q0;have fin:EP X pins σ Q w s:=⟨z,H,I,rw',q⟩;exact subscriptTail_builtinR (x:=w) pl.typeIs slot_tuple_getitem.lookup
  (getItem_tuple (j:=j) (Q:=λr s'=>r=w/\EP X pins σ Q r s') pl (by omega) (by omega) (by rw[List.size_toArray,<-hl];exact h1) (by simpa using ew) ⟨rfl,fin⟩) hs
theorem a9T:IxR X b0B:=by
 intro value slice pins s σ H x y v u Q I rx ry h hs;obtain⟨z,i,c,rfl,rfl,hz,he,q⟩:=h;obtain⟨t,rfl⟩:=rx;obtain⟨t',rfl⟩:=ry;obtain⟨j,h1,h2,h3,h4,h5⟩:=a1k he;have hl:z.cps.toList.length=z.length:=by simp[Str.length]
 rw[hl]at h1 h4 h5;have hn:=Q0;exact tail_any (typeIs_str s z t) slot_str_getitem.lookup (getItem_str (c:=c) (by
  have e1:decide (i < -(2 ^ 63:Int))=false:=decide_eq_false (by omega);have e2:decide (i ≥ 2 ^ 63)=false:=decide_eq_false (by omega);rw[e1,e2,Bool.or_false]) (by rw[h1];simpa using h2) ⟨.str ⟨#[c]⟩,H,I.tok _,⟨_,rfl⟩,q⟩) hs
def rIx(K:PySem.W.Frag):R2:=λx y H Q=>a6w K x y H Q∨a6v K x y H Q∨b0B x y H Q
theorem a9U:IxR X (rIx X.K):=ix_list.or (ix_tup.or a9T)
theorem a2k(its:List Value)(n j:Nat)(u:Value):Obj.mapSeq (·.setIfInBounds j u) {cls:=.type "list",data:=.seq its.toArray n}={cls:=.type "list",data:=.seq (its.set j u).toArray n}:=by
 simp[Obj.mapSeq]
theorem Inv.lst{pins:List (Addr×Obj)}{σ:St}{H:Hp}{s:Shared}{p:Addr}{xs:List V}(I:Inv X pins σ H s)(h:H p=some (.lst xs)) :
  ∃(its:List Value) (n:Nat),Vals xs its/\s.heap.get? p=some {cls:=.type "list",data:=.seq its.toArray n}/\xs.length<=sizeLine:=by
 obtain⟨z,its,n,r,e⟩:=I.hok p _ h;exact⟨its,n,r,e,z⟩
theorem Inv.lstUpd{pins:List (Addr×Obj)}{σ:St}{H:Hp}{s:Shared}{p:Addr}{xs ys:List V}{its its':List Value}{n n':Nat}{f:Obj->Obj}(I:Inv X pins σ H s)(h:H p=some (.lst xs))
  (ho:s.heap.get? p=some {cls:=.type "list",data:=.seq its.toArray n}) (hf:f {cls:=.type "list",data:=.seq its.toArray n}={cls:=.type "list",data:=.seq its'.toArray n'}) (r:Vals ys its') (hz:ys.length<=sizeLine) (t:Nat) :
  Inv X pins σ (upd H p (.lst ys)) {s with heap:=s.heap.update p f,toks:=t}:=by
 have e:(s.heap.update p f).get? p=some {cls:=.type "list",data:=.seq its'.toArray n'}:=by
  rw[Heap.get?_update_self f ho (by rw[hf]<;>rfl),hf]
 refine I.write (x:=p) (e:=p) (by rw[h];trivial) (.inl rfl) (λb u hb q=>(Heap.get?_update_other _ _ (Ne.symm hb)).trans q) ⟨_,e⟩ ?_;exact⟨hz,its',n',r,e⟩
def a8a:V->V->V->Hp->(Hp->Prop)->Prop:=λo i v H Q=>∃p xs k j,o=.ref p/\i=.int k/\H p=some (.lst xs)/\ixN xs.length k=some j/\Q (upd H p (.lst (xs.set j v)))
theorem a4L:b1b X a8a:=by
 intro pins s σ H o i v ov iv u Q I ro ri rv h;obtain⟨p,xs,k,j,rfl,rfl,hp,hj,q⟩:=h;cases ro;obtain⟨t,rfl⟩:=ri;obtain⟨its,n,r,ho,hz⟩:=I.lst hp;obtain⟨h1,h2,h3,h4⟩:=a2X hj;have hl:=r.length;have hn:=Q0;have I':Inv X pins σ (upd H p (.lst (xs.set j v))) {s with heap:=s.heap.update p (Obj.mapSeq (·.setIfInBounds j u))} :=
  I.lstUpd hp ho (a2k its n j u) (r.set rv j) (by rw[List.length_set];exact hz) s.toks
 by_cases h0:0<=k
 .have hk:k.toNat=j:=by
   rw[seqIndex_of h0 h4]at h1;exact Option.some.inj h1
  exact PySem.W.ki_setAt ho h0 (by omega) (by rw[List.size_toArray,<-hl];exact h4) (by rw[hk];exact⟨_,I',q⟩)
 .have hk:(k+(its.toArray.size:Int)).toNat=j:=by
   rw[seqIndex_neg (by omega) h3]at h1;rw[List.size_toArray,<-hl];exact Option.some.inj h1
  exact PySem.W.ki_setBack ho (by omega) (by rw[List.size_toArray,<-hl];exact h3) (by omega) (by rw[hk];exact⟨_,I',q⟩)
theorem a0I(lo hi:Option Int)(n:Nat):(sliceBounds lo hi none n).1=((HT.sIx n 0 lo:Nat):Int)/\(sliceBounds lo hi none n).2.1=((HT.sIx n n hi:Nat):Int)/\(sliceBounds lo hi none n).2.2=1:=by
 refine⟨?_,?_,rfl⟩
 .cases lo with
  |none=>simp[sliceBounds,HT.sIx]
  |some i =>
   simp only[sliceBounds,HT.sIx,Option.getD_none,show(1:Int) > 0 by decide,if_true];by_cases h:i<0
   .simp only[h,if_true]<;>omega
   .simp only[h,if_false]<;>omega
 .cases hi with
  |none=>simp[sliceBounds,HT.sIx]
  |some i =>
   simp only[sliceBounds,HT.sIx,Option.getD_none,show(1:Int) > 0 by decide,if_true];by_cases h:i<0
   .simp only[h,if_true]<;>omega
   .simp only[h,if_false]<;>omega
theorem Z7(its:List Value)(lo hi:Option Int):slicePick its.toArray lo hi none=((its.drop (HT.sIx its.length 0 lo)).take (HT.sIx its.length its.length hi-HT.sIx its.length 0 lo)).toArray:=by
 obtain⟨h1,h2,h3⟩:=a0I lo hi its.toArray.size;unfold slicePick;rw[h1,h2,h3];simp only[sliceRange_one,pick_run,List.size_toArray]<;>rfl
def b1i(K:PySem.W.Frag):V->Option Int->Option Int->Hp->VK->Prop:=λx lo hi H Q=>∃a xs,x=.ref a/\SqL K H a xs/\∀p,H p=none->Q (.ref p) (upd H p (.lst (a1M xs lo hi)))
theorem b1e:SlR X (b1i X.K):=by
 intro pins s σ H x v vl vu lo hi sl Q I rx hs pl pu h;obtain⟨a,xs,rfl,hx,q⟩:=h;cases rx;obtain⟨its,r,ht,hz⟩:=I.list hx;have hlen:=r.length;refine⟨"list",_,slot_list_getitem.lookup,ht.isList.typeIs,?_⟩;refine wpAny_getItem_list_slice ht.isList hs pl pu .none (by simp) ?_ (by rw[List.size_toArray]<;>omega);rw[Z7,<-hlen];refine⟨.ref s.heap.objs.size,_,I.laid (t':=s.toks) (o:=.lst (a1M xs lo hi)) (λb ob q=>Heap.get?_push_of_some _ q) (Nat.le_refl _) ?_,rfl,q _ (I.hok.fresh (Nat.le_refl _))⟩;exact⟨Nat.le_trans (U5 xs lo hi) hz,_,0,(r.drop (HT.sIx xs.length 0 lo)).take (HT.sIx xs.length xs.length hi-HT.sIx xs.length 0 lo),Heap.get?_push_size _ rfl⟩
noncomputable def a1L:V->Bool
 |.non=>true
 |.bl _=>true
 |.int _=>true
 |.str _=>true
 |_=>false
noncomputable def eqV:V->V->Bool
 |.non,.non=>true
 |.bl a,.bl b=>a==b
 |.bl a,.int b=>(if a then 1 else 0)==b
 |.int a,.bl b=>a==(if b then 1 else 0)
 |.int a,.int b=>a==b
 |.str a,.str b=>a==b
 |_,_=>false
theorem b0b{A:Around}{s:Shared}{y x:V}{u v:Value}(ry:RelV y u)(rx:RelV x v)(fy:a1L y=true)(fx:a1L x=true):SeqAt.EqAt A s u v (eqV y x):=by
 cases y with
 |non =>
  cases ry;cases x with
  |non=>cases rx;exact SeqAt.EqAt.same _
  |bl b=>cases rx;exact SeqAt.EqAt.none_bool b
  |int b=>obtain⟨t,rfl⟩:=rx;exact SeqAt.EqAt.none_int b t
  |str b=>obtain⟨t,rfl⟩:=rx;exact SeqAt.EqAt.none_str b t
  |_=>exact absurd (show false=true from fx) Bool.false_ne_true
 |bl a =>
  cases ry;cases x with
  |non=>cases rx;exact SeqAt.EqAt.bool_none a
  |bl b=>cases rx;exact SeqAt.EqAt.bool_bool a b
  |int b=>obtain⟨t,rfl⟩:=rx;exact SeqAt.EqAt.bool_int a b t
  |str b=>obtain⟨t,rfl⟩:=rx;exact SeqAt.EqAt.bool_str a b t
  |_=>exact absurd (show false=true from fx) Bool.false_ne_true
 |int a =>
  obtain⟨t',rfl⟩:=ry;cases x with
  |non=>cases rx;exact SeqAt.EqAt.int_none a t'
  |bl b=>cases rx;exact SeqAt.EqAt.int_bool a t' b
  |int b=>obtain⟨t,rfl⟩:=rx;exact SeqAt.EqAt.int_int a t' b t
  |str b=>obtain⟨t,rfl⟩:=rx;exact SeqAt.EqAt.int_str a t' b t
  |_=>exact absurd (show false=true from fx) Bool.false_ne_true
 |str a =>
  obtain⟨t',rfl⟩:=ry;cases x with
  |non=>cases rx;exact SeqAt.EqAt.str_none a t'
  |bl b=>cases rx;exact SeqAt.EqAt.str_bool a t' b
  |int b=>obtain⟨t,rfl⟩:=rx;exact SeqAt.EqAt.str_int a t' b t
  |str b=>obtain⟨t,rfl⟩:=rx;exact SeqAt.EqAt.str_str a t' b t
  |_=>exact absurd (show false=true from fx) Bool.false_ne_true
 |_=>exact absurd (show false=true from fy) Bool.false_ne_true
theorem a1j:C6 X (.builtin "len") (λxs H Q=>∃p ys,xs=[.ref p]/\(SqL X.K H p ys∨SqT X.K H p ys)/\Q (.int ys.length) H):=by
 intro pins s σ H xs us Q I r h;obtain⟨p,ys,rfl,hq,q⟩:=h;obtain⟨u,rfl,rx⟩:=a2E r;cases rx;have hn:=Q0;rcases hq with hq|hq
 .obtain⟨its,r',pl,hz⟩:=I.list hq;have hlen:=r'.length;exact Calls.call_len_list pl.isList (by simp only[List.size_toArray]<;>omega) ⟨.int ys.length,H,I.tok _,⟨s.toks+1,by rw[List.size_toArray,hlen]⟩,q⟩
 .obtain⟨its,r',pl,hz⟩:=I.tuple hq;have hlen:=r'.length;exact len_tuple pl (by simp only[List.size_toArray]<;>omega) ⟨.int ys.length,H,I.tok _,⟨s.toks+1,by rw[List.size_toArray,hlen]⟩,q⟩
theorem Z9:C6 X (.type "tuple") (λxs H Q=>∃p ys,xs=[.ref p]/\((SqL X.K H p ys/\∀l,H l=none->Q (.ref l) (upd H l (.tup ys)))∨(SqT X.K H p ys/\Q (.ref p) H))):=by
 intro pins s σ H xs us Q I r h;obtain⟨p,ys,rfl,h⟩:=h;obtain⟨u,rfl,rx⟩:=a2E r;cases rx;rcases h with⟨hq,q⟩|⟨hq,q⟩
 .obtain⟨its,r',pl,hz⟩:=I.list hq;have hlen:=r'.length;refine call_tuple_list pl.isList (λh' kp=>?_) (by simp only[List.size_toArray]<;>omega);have I1:Inv X pins σ H {s with heap:=h'}:=I.kept (t':=s.toks) kp;have I2:Inv X pins σ (upd H h'.objs.size (.tup ys)) {s with heap:=h'.push {cls:=.type "tuple",data:=.seq its.toArray}} :=
   I1.laid (t':=s.toks) (λb o e=>Heap.get?_push_of_some _ e) (Nat.le_refl _) (show ObjOk X.prog X.w _ _ _ (.tup ys)from⟨hz,its,r',IsTup.new _ _⟩)
  exact⟨.ref h'.objs.size,_,I2,rfl,q _ (I1.hok.fresh (Nat.le_refl _))⟩
 .obtain⟨its,r',pl,hz⟩:=I.tuple hq;exact call_tuple_same pl ⟨.ref p,H,I,rfl,q⟩
def tyV(K:PySem.W.Frag)(T:String)(x:V)(H:Hp):Prop:=match x with
 |.str _=>T="str"
 |.int _=>T="int"
 |.ref p=>(T="list" /\ ∃xs,SqL K H p xs)∨(T="tuple" /\ ∃o,K.lookup p=some o/\o.cls=.type "tuple"/\o.dict=none) ∨
   (T="dict"/\((∃kvs,H p=some (.dK kvs))∨∃kvs,H p=some (.dT kvs)))∨(T="set" /\ ∃S n,H p=some (.set S n))
 |_=>False
theorem a8w{pins:List (Addr×Obj)}{σ:St}{H:Hp}{s:Shared}{T:String}{x:V}{v:Value}(I:Inv X pins σ H s)(r:RelV x v)(ty:tyV X.K T x H) :
  s.TypeIs v T/\∀a,v=.ref a->∃ob,s.heap.get? a=some ob/\ob.dict=none:=by
 cases x with
 |str z =>
  obtain⟨t,rfl⟩:=r;cases(show T="str" from ty);exact⟨typeIs_str s z t,λ_ e=>nomatch e⟩
 |int i =>
  obtain⟨t,rfl⟩:=r;cases(show T="int" from ty);exact⟨typeIs_int s i t,λ_ e=>nomatch e⟩
 |ref p =>
  cases r;rcases ty with⟨rfl,xs,hq⟩|⟨rfl,o,hk,hc,hd⟩|⟨rfl,hk⟩|⟨rfl,S,n,hk⟩
  .obtain⟨its,_,pl,_⟩:=I.list hq;refine⟨pl.isList.typeIs,λa e=>?_⟩;cases e;obtain⟨o,n,e,c,hd,_⟩:=pl;exact⟨o,e,hd⟩
  .refine⟨⟨o,I.kIn p o hk,hc⟩,λa e=>?_⟩;cases e;exact⟨o,I.kIn _ o hk,hd⟩
  .have z:∃o,s.heap.get? p=some o/\o.ExactDict:=by
    rcases hk with⟨kvs,hk⟩|⟨kvs,hk⟩
    .obtain⟨_,_,_,_,o,_,_,e,ex,_⟩:=I.hok p _ hk;exact⟨o,e,ex⟩
    .obtain⟨_,_,_,_,o,_,_,e,ex,_⟩:=I.hok p _ hk;exact⟨o,e,ex⟩
   obtain⟨o,e,ex⟩:=z;refine⟨⟨o,e,ex.1⟩,λa e2=>?_⟩;cases e2;exact⟨o,e,ex.2.1⟩
  .obtain⟨o,_,_,_,e,ex,_⟩:=I.hok p _ hk;refine⟨⟨o,e,ex.1⟩,λa e2=>?_⟩;cases e2;exact⟨o,e,ex.2.1⟩
 |_=>exact False.elim ty
def tBM(K:PySem.W.Frag)(T:String)(r:V->List V->Hp->VK->Prop)(to:TE)(t:TA):TE:=λσ H Q=>to σ H λx H1=>tyV K T x H1/\t σ H1 λxs H2=>r x xs H2 Q
variable {o e:Expr}{es:List Expr}{to:TE}{t:TA}{name:Str}{apos cpos:Pos}{T id:String}{r:V->List V->Hp->VK->Prop}
theorem b0H(pa:PlainAttrs T)(slot:Slot T name id)(hty:typeOf (.builtin id)=pure (.type "method_descriptor"))(hm:MtR X id r)(ho:PE X o to)(ha:PA X (e::es) t)
  (hbase:attributeBase o name X.env (eval o X.env)=eval o X.env:=by rfl)
  (hfew:((backTo cpos (starEach (e::es) X.env)).all (λx=>!x.1) && (backToKw cpos (keywordEach [] X.env)).all (λx=>x.1.isSome)
   && decide ((e::es).length+([]:List Keyword).length+(if ([]:List Keyword).isEmpty then 0 else 1)<30))=true:=by rfl)
  (hline:(apos.endLine==cpos.line)=true:=by rfl) (hs:starEach (e::es) X.env=(false,eval e X.env)::starEach es X.env:=by rfl) (hplain:(backTo cpos (starEach es X.env)).any (·.1)=false:=by rfl) :
  PE X (.Call (.Attribute o name apos) (e::es) [] cpos) (tBM X.K T r to t):=by
 intro pins s σ H Q I h;refine wpAny_Call_method_late hbase hfew hline rfl (thn (ho pins s σ H _ I h) λv s1 ⟨x,H1,I1,r1,ty,q1⟩=>?_);obtain⟨h1,h2⟩:=a8w I1 r1 ty;refine⟨T,id,pa,slot,hty,h1,h2,?_⟩;have hA:=ha cpos pins s1 σ H1 _ I1 q1;rw[hs]at hA⊢;refine Calls.callWith_builtin (by show(false || (backTo cpos (starEach es X.env)).any (·.1))=false;rw[hplain]<;>rfl) (Calls.evalArgs_plain ?_);exact thn hA λus s2 ⟨vs,H2,I2,r2,q2⟩=>hm pins s2 σ H2 x vs v us Q I2 r1 r2 q2
end
def MtM(X:Cx)(id:String)(r:V->List V->Hp->VK->Prop):Prop :=
 ∀(pins:List (Addr×Obj)) (s:Shared) (σ:St) (H:Hp) (x:V) (xs:List V) (v:Value) (us:List Value) (Q:VK),Inv X pins σ H s->RelV x v->Vals xs us->r x xs H Q ->
  wpAny (model X.prog X.w) X.A (call (.builtin id) (v::us)) (EP X pins σ Q) X.xe s
theorem Vals.one{x:V}{us:List Value}(h:Vals [x] us):∃u,us=[u]/\RelV x u:=by
 cases h with
 |cons r q=>cases q;exact⟨_,rfl,r⟩
theorem Vals.two{x y:V}{us:List Value}(h:Vals [x,y] us):∃u v,us=[u,v]/\RelV x u/\RelV y v:=by
 cases h with
 |cons r h=>obtain⟨v,rfl,q⟩:=Vals.one (x:=y) h;exact⟨_,_,rfl,r,q⟩
theorem Vals.reverse{xs:List V}{us:List Value}(h:Vals xs us):Vals xs.reverse us.reverse:=by
 induction h with
 |nil=>exact .nil
 |cons r t ih=>rw[List.reverse_cons,List.reverse_cons];exact Vals.append ih (.cons r .nil)
theorem Vals.rep{xs:List V}{us:List Value}(h:Vals xs us):∀k:Nat,Vals (List.replicate k xs).flatten (List.replicate k us).flatten
 |0=>.nil
 |k+1=>by
  rw[List.replicate_succ,List.replicate_succ,List.flatten_cons,List.flatten_cons];exact Vals.append h (Vals.rep h k)
theorem a0r(its:List Value):∀(k:Nat) (acc:List Value),
  List.foldl (λx1 x2=>x1++x2) acc.toArray (List.replicate k its.toArray)=(acc++(List.replicate k its).flatten).toArray
 |0,acc=>by simp
 |k+1,acc=>by
  have e:acc.toArray++its.toArray=(acc++its).toArray:=by simp
  have e2:(acc++its)++(List.replicate k its).flatten=acc++(List.replicate (k+1) its).flatten:=by
   rw[List.replicate_succ,List.flatten_cons,List.append_assoc]
  rw[<-e2,<-a0r its k (acc++its),<-e,List.replicate_succ,List.foldl_cons]
section
variable {X:Cx}{pins:List (Addr×Obj)}{σ:St}{H:Hp}{s:Shared}{l b:Addr}{xs ys zs:List V}
theorem Inv.lset{its its':List Value}{n:Nat}{f:Array Value->Array Value}{t':Nat}(I:Inv X pins σ H s)(hH:H l=some (.lst xs))
  (e:s.heap.get? l=some {cls:=.type "list",data:=.seq its.toArray n}) (hf:f its.toArray=its'.toArray) (hv:Vals ys its') (hz:ys.length<=sizeLine) :
  Inv X pins σ (upd H l (.lst ys)) {s with heap:=s.heap.update l (Obj.mapSeq f),toks:=t'}:=by
 have q:=PySem.IsL.update e f;rw[hf]at q;refine I.write (x:=l) (e:=l) (by rw[hH];exact trivial) (.inl rfl) (λb' u hb hu=>(Heap.get?_update_other s.heap (Obj.mapSeq f) (Ne.symm hb)).trans hu) ⟨_,q⟩ ?_;exact⟨hz,its',_,hv,q⟩
theorem Inv.lnew{its:List Value}{t':Nat}(I:Inv X pins σ H s)(hv:Vals ys its)(hz:ys.length<=sizeLine) :
  Inv X pins σ (upd H s.heap.objs.size (.lst ys)) {s with heap:=s.heap.push {cls:=.type "list",data:=.seq its.toArray},toks:=t'} :=
 I.laid (λ_ _ q=>Heap.get?_push_of_some _ q) (Nat.le_refl _) ⟨hz,its,0,hv,Heap.get?_push_size _ rfl⟩
theorem Inv.fresh(I:Inv X pins σ H s):H s.heap.objs.size=none:=I.hok.fresh (Nat.le_refl _)
theorem Inv.lstM(I:Inv X pins σ H s)(hH:H l=some (.lst xs)):xs.length<=sizeLine/\∃(its:List Value) (n:Nat),Vals xs its/\xs.length=its.length/\s.heap.get? l=some {cls:=.type "list",data:=.seq its.toArray n}:=by
 obtain⟨z,its,n,r,e⟩:=I.hok l _ hH;exact⟨z,its,n,r,r.length,e⟩
theorem a5u{n:Nat}(h:n<=sizeLine):Builtin.List.listTooLong n=false:=by
 unfold Builtin.List.listTooLong;exact decide_eq_false (by omega)
end
section
variable {X:Cx}
def a2P:V->List V->Hp->VK->Prop:=λx vs H Q=>∃l xs y,x=.ref l/\vs=[y]/\H l=some (.lst xs)/\xs.length<sizeLine/\Q .non (upd H l (.lst (xs++[y])))
theorem a3E:MtM X "list.append" a2P:=by
 intro pins s σ H x vs v us Q I rx rv h;obtain⟨l,xs,y,rfl,rfl,hH,hz,q⟩:=h;cases rx;obtain⟨u,rfl,ru⟩:=rv.one;obtain⟨z,its,n,r,hl,e⟩:=I.lstM hH;refine call_meets F.slot_list_append ⟨_,e,rfl⟩ F.entry_list_append (F.args_list_append_2 _ _) (PySem.list_append l its.toArray n u (by rw[List.size_toArray];omega)) ⟨e,?_⟩;refine⟨.non,_,I.lset (its':=its++[u]) hH e (by simp) (r.append (.cons ru .nil)) ?_,rfl,q⟩;rw[List.length_append,List.length_singleton];omega
def b0x:R2:=λx y H Q=>∃l k xs,x=.ref l/\y=.int k/\H l=some (.lst xs) /\ -(2 ^ 63)<=k/\k<2 ^ 63/\xs.length*k.toNat<=sizeLine /\
 ∀p,H p=none->Q (.ref p) (upd H p (.lst (List.replicate k.toNat xs).flatten))
theorem a0S{α:Type}(xs:List α)(k:Nat):(List.replicate k xs).flatten.length=k*xs.length:=by
 induction k with
 |zero=>simp
 |succ k ih=>rw[List.replicate_succ,List.flatten_cons,List.length_append,ih,Nat.succ_mul,Nat.add_comm]
theorem a9r:OpR X (binaryOp .Mult) b0x:=by
 intro pins s σ H x y v u Q I rx ry h;obtain⟨l,k,xs,rfl,rfl,hH,h1,h2,hz,q⟩:=h;cases rx;obtain⟨t,rfl⟩:=ry;obtain⟨z,its,n,r,hl,e⟩:=I.lstM hH;have hlen:its.toArray.size*k.toNat<=sizeLine:=by rw[List.size_toArray,<-hl];exact hz
 have hcap:¬its.toArray.size*k.toNat > (2 ^ 63-1) / 8:=by
  have:(sizeLine:Nat)<=(2 ^ 63-1) / 8:=by decide
  omega
 have hfit:¬(!Builtin.List.listFitsIndex k)=true:=by
  rw[fitsIndex_both h1 h2];exact Bool.false_ne_true
 have hlong:¬Builtin.List.listTooLong (its.toArray.size*k.toNat)=true:=by
  rw[a5u hlen];exact Bool.false_ne_true
 have hnew:List.foldl (λx1 x2=>x1++x2) #[] (List.replicate (if its.toArray.isEmpty=true then 0 else k.toNat) its.toArray)=(List.replicate k.toNat its).flatten.toArray:=by
  have f0:∀m:Nat,List.foldl (λx1 x2=>x1++x2) #[] (List.replicate m its.toArray)=(List.replicate m its).flatten.toArray:=λm=>by
   have:=a0r its m [];rw[List.nil_append]at this;exact this
  rw[f0];cases its with
  |nil=>simp
  |cons a r'=>rw[if_neg (by simp)]
 refine wpAny_binaryOp_repeat_ref (T:="list") (U:="int") (by decide) ⟨_,e,rfl⟩ (λs'=>typeIs_int s' k t) noFill_list_mul F.fills_int_mul F.slot_int_rmul repeat_list F.slot_int_index.lookup
  (call_meets F.slot_int_rmul (typeIs_int s k t) F.entry_int_rmul (F.args_int_rmul_2 _ _) (int___rmul___int_list k t l its.toArray n)
   ⟨e,rfl,⟨_,e,rfl⟩,call_meets F.slot_list_mul ⟨_,e,rfl⟩ F.entry_list_mul (F.args_list_mul_2 _ _) (AutoListH.list___mul___list_int_3 l its.toArray n k t hfit hcap hlong) ⟨e,?_⟩⟩)
 rw[hnew];exact⟨.ref _,_,I.lnew (t':=s.toks) (r.rep k.toNat) (by rw[a0S,Nat.mul_comm];exact hz),rfl,q _ I.fresh⟩
end
section
variable {prog:Program}{w:World}{A:Around}{E:Value->Shared->Prop}{s:Shared}
end
section
variable {X:Cx}
end
end L2
namespace Att
open PySem PySem.W PySem.Calls PyProof.Rows
theorem U7{P:Params}{h:Heap}:∀(ns:List Int) (vs:List Value),WellAll P h vs (ns.map WData.int)->IntsAre vs ns:=by
 intro ns;induction ns with
 |nil =>
  intro vs w;rw[List.map_nil]at w;cases w;exact .nil
 |cons n ns ih =>
  intro vs w;rw[List.map_cons]at w;cases w with
  |cons a b =>
   cases a;exact .cons _ _ (ih _ b)
theorem a3m{l:OpenLaw}{n:Nat}(hn:l.most=some n){P:Params}{h:Heap}{args:List WData}{vals:List Value}
  (hpre:l.row.toRowW.claim.pre args=true) (hwl:WellAll P h vals args) :
  ∃a vs ns,vals=[Value.ref a]/\args=[WData.list (ns.map WData.int)]/\h.get? a=some {cls:=.type "list",data:=.seq vs.toArray}/\IntsAre vs ns/\ns.length<=n:=by
 have hsh:WShape.hasAll [] args [.list .int]=true:=(pre_splitW hpre).1;have hc:l.pre.holds [] {args:=args}=true:=(pre_splitW hpre).2;obtain⟨d,r,rfl,h1,h2⟩:=hasAllW_cons hsh;obtain rfl:=hasAllW_nil h2;obtain⟨xs,rfl,h3⟩:=hasW_list h1;obtain⟨ns,rfl⟩:=items_int h3;have hlen:ns.length<=n:=by
  unfold OpenLaw.pre at hc;have h4:(WTm.not (.lt (.lit (.int (n:Int))) (.len (.arg 0)))).holds [] {args:=[.list (ns.map .int)]}=true:=by
   have h4:=(holds_andW hc).1;rw[hn]at h4;exact h4
  have h5:=condW_of h4 (w_not (w_lt w_lit (w_len_list (w_arg rfl))));rw[List.length_map]at h5;refine Nat.le_of_not_lt λq=>?_;have q':(n:Int)<((ns.length:Nat):Int):=by omega
  first
   |(rw[decide_eq_true q']at h5;exact absurd h5 (by decide))
   |(simp at h5;omega)
 cases hwl with
 |cons w1 w2 =>
  cases w2;cases w1 with
  |list ho hall=>exact⟨_,_,ns,rfl,rfl,ho,U7 ns _ hall,hlen⟩
theorem a3q(l:OpenLaw)(args:List WData):l.row.toRowW.claim.post args (.bool true) args=true :=
 postW_of (r:=l.row.toRowW) (X:=(true==true))
  (show WShape.has [] (.bool true) .bool=true by first|rfl|decide|simp[WShape.has,WShape.arms,WShape.armsAll])
  (show(WTm.eq .res (.lit (.bool true))).value [] {args:=args,res:=some (.bool true),after:=args}=some (.bool (true==true))from w_eq_bool (w_res rfl) w_lit) rfl
theorem attach_call{l:OpenLaw}{n:Nat}{q:Program}{loose:List Str}{XP:(Str->Option Value)->Heap->Prop}{YP:World->Heap->Prop}{d:DefRec}
  (hn:l.most=some n) (hdf:d.params.defaults=[])
  (call:∀(w:World) (s₀ s₁:Shared) (mg mb:Str->Option Value) (fa:Addr) (o:Obj) (pm cd doc:Value) (a:Addr) (vs:List Value) (ns:List Int),
   Ground q loose [] XP w s₀ mg mb s₁.heap->YP w s₁.heap ->
   s₁.heap.get? fa=some o->o.data=.func (docDef d.name d.params d.body d.scope pm cd doc)->s₁.heap.CodeRec cd d.name->mg d.name=some (.ref fa) ->
   s₁.heap.get? a=some {cls:=.type "list",data:=.seq vs.toArray}->IntsAre vs ns->ns.length<=n->s₁.gens=#[] ->
   codeAny (model l.prog w) callerA (.call (.ref fa) ⟨[.ref a],[]⟩) (λr s'=>r=.ok (.ret (.bool true))/\OldK s₁.heap s'.heap/\s'.os=s₁.os/\AllBare s'.gens) s₁) :
  WalkO q loose XP YP l.row.toRowW d [] (λf vs=>PySem.call f vs):=by
 intro w s₀ s₁ mg mb G Y fa o pm cd doc dV kV ho hd hcd hD hmg hg args vals as hpre hlay hrd hwl hlo;obtain rfl:dV=.none:=Dflts.none hD hdf;obtain rfl:kV=.none:=Dflts.noKw hD;obtain⟨a,vs,ns,rfl,rfl,hobj,hints,hlen⟩:=a3m hn hpre hwl;refine enter_call (codeAny_mono (call w s₀ s₁ mg mb fa o pm cd doc a vs ns G Y ho (fd_plain hd) hcd hmg hobj hints hlen hg) λr s' hq=>?_);obtain⟨rfl,h2,h3,h4⟩:=hq;exact⟨.inl ⟨.bool true,.bool true,[],rfl,λ_=>rfl,.bool true,a3q l _,λ_=>⟨List.Pairwise.nil,λ_ hm=>(nomatch hm)⟩⟩,h2,h3,h4⟩
section
variable {prog:Program}{w:World}{A:Around}{E:Value->Shared->Prop}{s:Shared}{K:Frag}
end
end Att
namespace L2
open PySem PySem.Spec PyProof.Rows
theorem a0c:∀{vs:List Value}{ns:List Int},IntsAre vs ns->Vals (ns.map V.int) vs
 |_,_,.nil=>.nil
 |_,_,.cons n t h=>.cons ⟨t,rfl⟩ (a0c h)
def b0m(H:Hp):Prop:=∀b,H b=none∨∃o xs,H b=some (.frz o (.lst xs))
theorem a5A{P:Program}{w:World}{K:PySem.W.Frag}{mg mb:Str->Option Value}{CX:CXT}{k:Nat}{fa a:Addr}{fd:FuncData}{x:Str}{sp:Sp}{s₁:Shared}{vs:List Value}{ns:List Int}
  (KX:K.In s₁.heap) (hns:s₁.heap.Ns mainGlobals mg) (hb:s₁.heap.Ns builtinsNs mb) (hbb:∀x:Str,x≠"__name__"->mb x=bootBuiltins x) (hlim:s₁.heap.NoLimit) (hg:s₁.gens=#[])
  (ha:s₁.heap.get? a=some {cls:=.type "list",data:=.seq vs.toArray}) (hi:IntsAre vs ns) (hl:ns.length<=sizeLine) (hr:Room k callerA)
  (F:∀base:Heap,K.In base->base.Ns mainGlobals mg->FnOk P w K mg base CX k fa fd [x] sp) (hbind:∀(s:Shared) (u:Value),BindsTo s fd ⟨[u],[]⟩ [(x,u)])
  (hsp:∀H:Hp,b0m H->SqL K H a (ns.map V.int)->sp [.ref a] H (λv _=>v=.bl true) λ_ _ _=>False)
  (hCX:∀H e s',CX [] H s₁ (λ_ _ _=>False) e s'->False) :
  codeAny (model P w) callerA (.call (.ref fa) ⟨[.ref a],[]⟩) (λr s'=>r=.ok (.ret (.bool true))/\OldK s₁.heap s'.heap/\s'.os=s₁.os/\AllBare s'.gens) s₁:=by
 have rv:=a0c hi;have lenV:=hi.length;have core:∀H:Hp,b0m H->SqL K H a (ns.map V.int)->HOk P w H s₁.heap->(∀b,H b≠none->b=a)->(H a≠none->K.lookup a=none) ->
   codeAny (model P w) callerA (.call (.ref fa) ⟨[.ref a],[]⟩) (λr s'=>r=.ok (.ret (.bool true))/\OldK s₁.heap s'.heap/\s'.os=s₁.os/\AllBare s'.gens) s₁:=by
  intro H hO hS hok hA hK;have base_of:∀{b:Addr}{o:Obj},s₁.heap.get? b=some o->H b=none->(a1a s₁.heap H).get? b=some o:=λe n=>a5L e n;have noA:∀{b:Addr}{o:Obj}{es:Array DictEntry}{ep:Nat},s₁.heap.get? b=some o->o.data=.dict es ep->H b=none:=λ{b o es ep} e d=>by
   cases q:H b with
   |none=>rfl
   |some u =>
    have e':b=a:=hA b (by rw[q];simp);subst e';rw[ha]at e;cases e;have d':Data.seq vs.toArray _=Data.dict es ep:=d;cases d'
  have nsK:∀{b:Addr}{m:Str->Option Value},s₁.heap.Ns b m->(a1a s₁.heap H).Ns b m:=λ{b m} ⟨o,es,ep,e,d,r⟩=>⟨o,es,ep,base_of e (noA e d),d,r⟩;have hKb:K.In (a1a s₁.heap H):=λb o e=>base_of (KX b o e) (by
   cases q:H b with
   |none=>rfl
   |some u =>
    have e':b=a:=hA b (by rw[q];simp);subst e';rw[hK (by rw[q];simp)]at e;cases e)
  have hM:Mod K mg (a1a s₁.heap H):=⟨hKb,nsK hns,⟨mb,nsK hb,hbb⟩,let ⟨mc,h1,h2⟩:=hlim;⟨mc,nsK h1,h2⟩⟩;have e0:Env0 P w K mg (a1a s₁.heap H) callerA [] s₁ H:=⟨rfl,hM,λb o e=>a7i e,Nat.le_of_eq (a3Q _ _),trivial,λb hb=>absurd (show b∈([]:List Addr)from hb) (by simp),hok,.of_eq hg⟩;refine codeAny_mono ((F _ hKb (nsK hns)).run callerA [] s₁ H ⟨[.ref a],[]⟩ [.ref a] [.ref a] _ _ hr e0 (hbind s₁ (.ref a)) (.cons rfl .nil) (hsp H hO hS)) λr s' h=>?_;cases r with
  |error e=>exact(hCX H e s' h).elim
  |ok fl =>
   cases fl with
   |next=>exact False.elim h
   |brk=>exact False.elim h
   |cont=>exact False.elim h
   |ret u =>
    obtain⟨v,H',os,bare,un,hok',r',q⟩:=h;have q':v=.bl true:=q;subst q';obtain rfl:u=Value.bool true:=r';refine⟨rfl,OldK.of_keep λb o e=>?_,os,bare⟩;cases q:H b with
    |none=>exact un.keep b o e q (by intro z;exact absurd (show b∈([]:List Addr)from z) (by simp)) (by simp)
    |some u =>
     rcases hO b with z|⟨ob,xs,z⟩
     .rw[q]at z;cases z
     .have z2:=un.frzs b ob _ z;obtain⟨e1,_⟩:=hok b _ z;obtain⟨e2,_⟩:=hok' b _ z2;rw[e]at e1;cases e1;exact e2
 cases hk:K.lookup a with
 |some o =>
  have e:=KX a o hk;rw[ha]at e;cases e;refine core (λ_=>none) (λ_=>.inl rfl) (.inr ⟨_,vs.toArray,_,hk,rfl,rfl,rfl,by rw[List.size_toArray,lenV];exact hl,by simpa using rv⟩) (λb u z=>by have z':(none:Option HO)=some u:=z;cases z') (λb z=>absurd rfl z) λz=>absurd rfl z
 |none =>
  refine core (λb=>if b=a then some (.frz {cls:=.type "list",data:=.seq vs.toArray} (.lst (ns.map V.int)))else none) (λb=>?_) (.inl (.inr ⟨{cls:=.type "list",data:=.seq vs.toArray},if_pos rfl⟩)) (λb u z=>?_) (λb z=>?_) λ_=>hk
  .by_cases hb:b=a
   .exact .inr ⟨_,_,if_pos hb⟩
   .exact .inl (if_neg hb)
  .by_cases hb:b=a
   .have z':=(if_pos hb).symm.trans z;cases z';subst hb;exact⟨ha,by rw[List.length_map];exact hl,vs,_,rv,ha⟩
   .have z':=(if_neg hb).symm.trans z;cases z'
  .by_cases hb:b=a
   .exact hb
   .exact absurd (if_neg hb) z
theorem walk_of{l:PySem.W.OpenLaw}{n k:Nat}{q:Program}{loose:List Str}{XP:(Str->Option Value)->Heap->Prop}{YP:World->Heap->Prop}{d:DefRec}{K:Params->PySem.W.Frag}{CX:World->CXT}{sp:World->Sp}{x:Str}
  (hn:l.most=some n) (hn2:n<=sizeLine) (hdf:d.params.defaults=[]) (hr:Room k callerA)
  (hY:∀(w:World) (h:Heap),YP w h->(K w.params).In h)
  (F:∀(w:World) (mg:Str->Option Value) (fa:Addr) (h:Heap),(K w.params).In h->h.Ns mainGlobals mg->mg d.name=some (.ref fa) ->
   ∃fd:FuncData,(∀(s:Shared) (u:Value),BindsTo s fd ⟨[u],[]⟩ [(x,u)]) /\
    ∀base:Heap,(K w.params).In base->base.Ns mainGlobals mg->FnOk l.prog w (K w.params) mg base (CX w) k fa fd [x] (sp w))
  (hsp:∀(w:World) (H:Hp) (a:Addr) (ns:List Int),ns.length<=n->b0m H->SqL (K w.params) H a (ns.map V.int)->sp w [.ref a] H (λv _=>v=.bl true) λ_ _ _=>False)
  (hCX:∀(w:World) (H:Hp) (s:Shared) (e:Value) (s':Shared),CX w [] H s (λ_ _ _=>False) e s'->False) :
  PySem.W.WalkO q loose XP YP l.row.toRowW d [] (λf vs=>PySem.call f vs):=by
 refine Att.attach_call hn hdf λw s₀ s₁ mg mb fa o pm cd doc a vs ns G Y ho hd hcd hmg hobj hints hlen hg=>?_;have KX:=hY w _ Y;obtain⟨fd,hb,hF⟩:=F w mg fa _ KX G.T.g hmg;exact a5A KX G.T.g G.T.b G.T.builtins G.T.nolimit hg hobj hints (Nat.le_trans hlen hn2) hr hF hb (λH hO hS=>hsp w H a ns hlen hO hS) λH e s'=>hCX w H s₁ e s'
end L2
namespace L2
open PySem PySem.Spec PyProof.Rows
noncomputable def M4(s:Stmt)(j:Nat):Stmt:=match s with
 |.ClassDef _ _ _ body _ _ _ _ _ _ _=>body.getD j (.Pass ⟨0,0,0,0⟩)
 |_=>.Pass ⟨0,0,0,0⟩
noncomputable def K0(s:Stmt):Arguments:=match s with
 |.FunctionDef _ a _ _ _ _ _ _ _ _=>a
 |_=>{posonlyargs:=[],args:=[],vararg:=none,kwonlyargs:=[],kw_defaults:=[],kwarg:=none,defaults:=[]}
noncomputable def C5(s:Stmt):List Stmt:=match s with
 |.FunctionDef _ _ b _ _ _ _ _ _ _=>b
 |_=>[]
noncomputable def A2(s:Stmt):Scope:=match s with
 |.FunctionDef _ _ _ _ _ _ sc _ _ _=>sc
 |_=>{kind:=.function,names:=[],isGenerator:=false,isCoroutine:=false}
abbrev CX0:CXT:=λ_ _ _ _ _ _=>False
abbrev E0:XK:=λ_ _ _=>False
theorem a5j{X:Cx}:T6 CX0 X E0:=λ_ _ _ _ _ _ _ h=>h.elim
structure Fun(K:PySem.W.Frag)(x qual:Str)(st:Stmt)(f:Addr)(fd:FuncData):Prop where
 ex:∃(oc:Value) (od:Option Addr) (kV doc pm:Value) (an:Option Addr) (cdv ct:Value) (osl:Array (Option Value)),
  fd=PySem.W.fnOf x qual (K0 st) (C5 st) (A2 st) .none kV doc pm an cdv ct/\K.lookup f=some ⟨oc,od,.func fd,osl⟩/\PySem.W.codeIn K cdv qual=true
 kp:PySem.W.keepIn K (.ref f)=true
section
variable {P:Program}{w:World}{K:PySem.W.Frag}{mg:Str->Option Value}{base:Heap}
theorem Fun.ok{x qual:Str}{st:Stmt}{f:Addr}{fd:FuncData}{N ps:List Str}{k:Nat}{sp:Sp}(F:Fun K x qual st f fd)(S:FnScope N ps (A2 st))(len:∀vs H Q E,sp vs H Q E->vs.length=ps.length)
  (hbody:∀(cdv:Value) (A:Around) (outer:List Env) (s:Shared) (H:Hp) (vs:List V) (Q:VK) (E:XK),Room k (A.deeper (envOfC qual (A2 st) s.heap.objs.size f cdv))->sp vs H Q E ->
   ∃t,PSs (N0 CX0 P w K mg base N qual (A2 st) f cdv A outer s H E).nox (C5 st) t/\t {nx:=λ_ H'=>Q .non H',rt:=Q} (start N vs) H):FnOk P w K mg base CX0 (k+1) f fd ps sp:=by
 obtain⟨oc,od,kV,doc,pm,an,cdv,ct,osl,rfl,lk,hcd⟩:=F.ex;refine a8q lk hcd S len λA outer s H vs Q E hr hsp=>?_;obtain⟨t,h,q⟩:=hbody cdv A outer s H vs Q E hr hsp;exact⟨t,h.nox,q⟩
theorem Fun.binds{x qual:Str}{st:Stmt}{f:Addr}{fd:FuncData}{ps:List Str}(F:Fun K x qual st f fd)
  (h:∀(kV doc pm:Value) (an:Option Addr) (cdv ct:Value) (us:List Value),us.length=ps.length->bindArgs (PySem.W.fnOf x qual (K0 st) (C5 st) (A2 st) .none kV doc pm an cdv ct) ⟨us,[]⟩=pure (ps.zip us)):Binds K fd ps []:=by
 obtain⟨oc,od,kV,doc,pm,an,cdv,ct,osl,rfl,lk,hcd⟩:=F.ex;exact .all (h kV doc pm an cdv ct)
theorem Y7{x qual:Str}{st:Stmt}{f:Addr}{oc:Value}{od an:Option Addr}{osl:Array (Option Value)}{kV doc pm cdv ct:Value}(l:K.lookup f=some ⟨oc,od,.func (PySem.W.fnOf x qual (K0 st) (C5 st) (A2 st) .none kV doc pm an cdv ct),osl⟩)
  (c:PySem.W.codeIn K cdv qual=true) (k:PySem.W.keepIn K (.ref f)=true):Fun K x qual st f (PySem.W.fnOf x qual (K0 st) (C5 st) (A2 st) .none kV doc pm an cdv ct):=⟨⟨oc,od,kV,doc,pm,an,cdv,ct,osl,rfl,l,c⟩,k⟩
end
section
variable {X:Cx}
end
theorem M8{A B:Prop}(h:B):if false=true then A else B:=by
 rw[if_neg Bool.false_ne_true];exact h
theorem a2r{A B:Prop}(h:A):if true=true then A else B:=by
 rw[if_pos rfl];exact h
theorem M9{c A B:Prop}[Decidable c](h1:c->A)(h2:¬c->B):if c then A else B:=by
 by_cases h:c
 .rw[if_pos h];exact h1 h
 .rw[if_neg h];exact h2 h
def Same(H H':Hp):Prop:=∀b o,H b=some o->H' b=some o
theorem Same.refl(H:Hp):Same H H:=λ_ _ h=>h
theorem Same.trans{H H1 H2:Hp}(a:Same H H1)(b:Same H1 H2):Same H H2:=λc o h=>b c o (a c o h)
theorem Same.free{H H':Hp}(e:Same H H'){l:Addr}(h:H' l=Option.none):H l=Option.none:=by
 cases q:H l with
 |none=>rfl
 |some o =>
  rw[e l o q]at h;cases h
theorem Same.seq{K:PySem.W.Frag}{H H':Hp}{a:Addr}{xs:List V}(e:Same H H')(h:SqL K H a xs):SqL K H' a xs:=by
 rcases h with(h|⟨o,h⟩)|h
 .exact .inl (.inl (e _ _ h))
 .exact .inl (.inr ⟨o,e _ _ h⟩)
 .exact .inr h
noncomputable def D6(env:Env)(cs:List (Str×Addr))(x:Str×NameKind):List (Str×Addr) :=
 if x.2==.free then(match env.cells.lookup x.1 with|some a=>(x.1,a)::cs|none=>cs)else cs
noncomputable def U8(scope:Scope)(env:Env):List (Str×Addr):=scope.names.foldl (D6 env) []
theorem Z5{env:Env}(f:Str×NameKind->List (Str×Addr)->Sem (ForInStep (List (Str×Addr))))
  (hf:∀n k r,f (n,k) r=if (k==NameKind.free)=true then(do let a <-cellOf env n;pure (ForInStep.yield ((n,a)::r)))else pure (ForInStep.yield r)) :
  ∀(names:List (Str×NameKind)) (cs:List (Str×Addr)),(∀x∈names,x.2=.free->∃a,env.cells.lookup x.1=some a)->forIn names cs f=pure (names.foldl (D6 env) cs)
 |[],cs,_=>rfl
 |(n,k)::r,cs,h=>by
  rw[List.forIn_cons,List.foldl_cons,hf];have hr:=λy hy=>h y (List.mem_cons_of_mem _ hy);by_cases hk:k=.free
  .subst hk;obtain⟨a,ha⟩:=h (n,NameKind.free) List.mem_cons_self rfl;have e1:cellOf env n=pure a:=by unfold cellOf;rw[ha]
   have e2:D6 env cs (n,NameKind.free)=(n,a)::cs:=by unfold D6;rw[ha];rfl
   rw[e2,<-Z5 f hf r _ hr,e1];rfl
  .have hb:(k==NameKind.free)=false:=by simpa using hk
   have e2:D6 env cs (n,k)=cs:=by unfold D6;rw[hb];rfl
   rw[e2,<-Z5 f hf r _ hr,hb];rfl
theorem a5U{scope:Scope}{env:Env}(h:∀x∈scope.names,x.2=.free->∃a,env.cells.lookup x.1=some a):closureFor scope env=pure (U8 scope env):=by
 simp only[closureFor];rw[Z5 (env:=env) _ (λn k r=>by cases hkc:k==NameKind.free<;>simp[hkc]) scope.names [] h];rfl
theorem a0u{env:Env}{x:Str}{c:Addr}:∀(names:List (Str×NameKind)) (cs:List (Str×Addr)),(names.foldl (D6 env) cs).lookup x=some c->env.cells.lookup x=some c∨cs.lookup x=some c
 |[],cs,h=>.inr h
 |y::r,cs,h=>by
  rw[List.foldl_cons]at h;rcases a0u r _ h with z|z
  .exact .inl z
  .unfold D6 at z;split at z
   .split at z
    .rename_i a ha;rw[List.lookup_cons]at z;cases hb:x==y.1 with
     |true =>
      rw[hb]at z;rw[beq_iff_eq.mp hb];exact .inl (ha.trans z)
     |false =>
      rw[hb]at z;exact .inr z
    .exact .inr z
   .exact .inr z
theorem P0{scope:Scope}{env:Env}{x:Str}{c:Addr}(h:(U8 scope env).lookup x=some c):env.cells.lookup x=some c :=
 (a0u scope.names [] h).elim id λz=>by cases z
theorem Q4{env:Env}{x:Str}{a:Addr}(ha:env.cells.lookup x=some a):∀(names:List (Str×NameKind)) (cs:List (Str×Addr)),((x,NameKind.free)∈names∨cs.lookup x=some a)->(∀c,cs.lookup x=some c->c=a)->(names.foldl (D6 env) cs).lookup x=some a
 |[],cs,h,_=>h.elim (λz=>by cases z) id
 |y::r,cs,h,hc=>by
  rw[List.foldl_cons];by_cases hy:y.2=.free/\y.1=x
  .have e2:D6 env cs y=(x,a)::cs:=by unfold D6;rw[hy.2,ha,hy.1];rfl
   rw[e2];have el:((x,a)::cs).lookup x=some a:=by rw[List.lookup_cons];simp
   exact Q4 ha r _ (.inr el) λc z=>by rw[el]at z;exact(Option.some.inj z).symm
  .have same:(D6 env cs y).lookup x=cs.lookup x:=by
    unfold D6;split
    .rename_i hk;split
     .have hne:(x==y.1)=false:=by
       cases hb:x==y.1 with
       |false=>rfl
       |true=>exact absurd ⟨by simpa using hk,(beq_iff_eq.mp hb).symm⟩ hy
      rw[List.lookup_cons,hne]
     .rfl
    .rfl
   refine Q4 ha r _ ?_ (by rw[same];exact hc);rw[same];rcases h with z|z
   .rcases List.mem_cons.mp z with e|z
    .exact absurd ⟨by rw[<-e],by rw[<-e]⟩ hy
    .exact .inl z
   .exact .inr z
theorem a1P{scope:Scope}{env:Env}{x:Str}{a:Addr}(ha:env.cells.lookup x=some a)(hx:(x,NameKind.free)∈scope.names):(U8 scope env).lookup x=some a :=
 Q4 ha _ _ (.inl hx) λc z=>by cases z
theorem K9{x:Str}{c:Addr}:∀(names:List (Str×NameKind)) (n:Nat) (acc:List (Str×Addr)),(cellsFrom n names acc).lookup x=some c->(n<=c/\(x,NameKind.cell)∈names)∨acc.lookup x=some c
 |[],_,_,h=>.inr h
 |(y,k)::r,n,acc,h=>by
  unfold cellsFrom at h;split at h
  .rename_i hk;have hk':k=.cell:=by simpa using hk
   rcases K9 r _ _ h with⟨z1,z2⟩|z
   .exact .inl ⟨by omega,List.mem_cons_of_mem _ z2⟩
   .rw[List.lookup_cons]at z;cases hb:x==y with
    |true =>
     rw[hb]at z;cases z;exact .inl ⟨Nat.le_refl _,by rw[hk',beq_iff_eq.mp hb];exact List.mem_cons_self⟩
    |false =>
     rw[hb]at z;exact .inr z
  .rcases K9 r _ _ h with⟨z1,z2⟩|z
   .exact .inl ⟨z1,List.mem_cons_of_mem _ z2⟩
   .exact .inr z
theorem a2y:∀(names:List (Str×NameKind)) (n:Nat) (acc:List (Str×Addr)),(∀x c,acc.lookup x=some c->c<n)->(∀x y c,acc.lookup x=some c->acc.lookup y=some c->x=y) ->
  ∀x y c,(cellsFrom n names acc).lookup x=some c->(cellsFrom n names acc).lookup y=some c->x=y
 |[],_,_,_,h2=>h2
 |(z,k)::r,n,acc,h1,h2=>by
  unfold cellsFrom;split
  .have lk:∀x c,List.lookup x ((z,n)::acc)=some c->(x=z/\c=n)∨acc.lookup x=some c:=λx c e=>by
    rw[List.lookup_cons]at e;cases hb:x==z with
    |true=>rw[hb]at e;cases e;exact .inl ⟨beq_iff_eq.mp hb,rfl⟩
    |false=>rw[hb]at e;exact .inr e
   refine a2y r (n+1) _ (λx c e=>?_) λx y c e e'=>?_
   .rcases lk x c e with⟨_,q⟩|q
    .rw[q];exact Nat.lt_succ_self _
    .exact Nat.lt_succ_of_lt (h1 x c q)
   .rcases lk x c e with⟨q1,q2⟩|q<;>rcases lk y c e' with⟨p1,p2⟩|p
    .rw[q1,p1]
    .exact absurd (h1 y c p) (by rw[q2];exact Nat.lt_irrefl _)
    .exact absurd (h1 x c q) (by rw[p2];exact Nat.lt_irrefl _)
    .exact h2 x y c q p
  .exact a2y r n acc h1 h2
theorem a1i{x:Str}:∀(names:List (Str×NameKind)) (n:Nat) (acc:List (Str×Addr)),((x,NameKind.cell)∈names∨∃c,acc.lookup x=some c)->∃c,(cellsFrom n names acc).lookup x=some c
 |[],_,_,h=>h.elim (λz=>by cases z) id
 |(y,k)::r,n,acc,h=>by
  unfold cellsFrom;split
  .rename_i hk;refine a1i r _ _ ?_;by_cases hx:x=y
   .exact .inr ⟨n,by rw[List.lookup_cons,hx];simp⟩
   .have hb:(x==y)=false:=beq_eq_false_iff_ne.mpr hx;rcases h with z|⟨c,z⟩
    .rcases List.mem_cons.mp z with e|z
     .exact absurd (Prod.mk.inj e).1 hx
     .exact .inl z
    .exact .inr ⟨c,by rw[List.lookup_cons,hb];exact z⟩
  .rename_i hk;refine a1i r _ _ ?_;rcases h with z|z
   .rcases List.mem_cons.mp z with e|z
    .exact absurd (by rw[<-(Prod.mk.inj e).2];rfl) hk
    .exact .inl z
   .exact .inr z
theorem a0P{x:Str}{c:Addr}:∀(names:List (Str×NameKind)) (h:Heap) (acc:List (Str×Addr)),(∀x c,acc.lookup x=some c->∃v,h.IsCell c v)->(cellsFrom h.objs.size names acc).lookup x=some c->∃v,(pushCells h names).IsCell c v
 |[],h,acc,ha,e=>ha x c e
 |(y,k)::r,h,acc,ha,e=>by
  unfold cellsFrom at e;unfold pushCells;split at e
  .rename_i hk;rw[if_pos hk];rw[show h.objs.size+1=(h.push {cls:=.type "cell",data:=.cell none}).objs.size from(Heap.size_push ..).symm]at e;refine a0P r _ _ (λx' c' e'=>?_) e;rw[List.lookup_cons]at e';cases hb:x'==y with
   |true=>rw[hb]at e';cases e';exact⟨_,_,Heap.get?_push_size _ rfl,rfl⟩
   |false =>
    rw[hb]at e';obtain⟨v,z⟩:=ha x' c' e';exact⟨v,z.keeps λb o q=>Heap.get?_push_of_some _ q⟩
  .rename_i hk;rw[if_neg hk];exact a0P r _ _ ha e
section
variable {M:Model}{A:Around}{E:Value->Shared->Prop}{s:Shared}
theorem a1V{scope:Scope}{globals:Addr}{closure:List (Str×Addr)}{qual:Str}{outer:Env}{Q:Env->Shared->Prop}
  (hQ:Q (newEnv scope s.heap.objs.size globals (cellsFrom (s.heap.objs.size+1) scope.names closure) qual none .none (some outer) builtinsNs) {s with heap:=pushCells (s.heap.push {cls:=.type "dict",data:=.dict #[]}) scope.names}) :
  wpAny M A (newFunctionEnv scope globals closure [] qual none .none (some outer)) Q E s:=by
 simp only[newFunctionEnv,Option.isSome_some,if_true];refine wpAny_bind (wpAny_alloc ?_);refine wpAny_bind (wpAny_layCells _ (λname kind cells=>by cases hkc:kind==NameKind.cell<;>simp[hkc]) _ _ _ _ ?_);rw[show({s with heap:=s.heap.push {cls:=.type "dict",data:=.dict #[]}}:Shared).heap.objs.size=s.heap.objs.size+1 from Heap.size_push ..];exact wpAny_bind (wpAny_pure (wpAny_pure hQ))
end
section
variable {prog:Program}{w:World}{A:Around}{s:Shared}
abbrev NoX:Value->Shared->Prop:=λ_ _=>False
theorem toE{α:Type}{M:Model}{A:Around}{t:Sem α}{Q Q':α->Shared->Prop}{E:Value->Shared->Prop}{s:Shared}(h:wpAny M A t Q NoX s)(hQ:∀a s,Q a s->Q' a s):wpAny M A t Q' E s :=
 wpAny_mono h hQ λ_ _ z=>z.elim
theorem a1g{elt target iter:Expr}{ifs:List Expr}{scope:Scope}{pos:Pos}{it acc:Value}{env:Env}{R:Result->Shared->Prop}(I:Nat->Shared->Prop)
  (turn:∀n s,I n s->wpAny (model prog w) A (pyNext it) (λr s₁=>match r with
   |none=>R (.ok .next) s₁
   |some v=>wpAny (model prog w) A (letOwnedTupleGo target it v) (λ_ s₂=>wpAny (model prog w) A (assign target env v) (λ_ s₃ =>
     wpAny (model prog w) A (forIn ifs true λc r=>if r=true then do let ok <-isTrue c env (eval c env);pure (ForInStep.yield ok)else pure (ForInStep.yield r)) (λok s₄ =>
      if ok=true then wpAny (model prog w) A (eval elt env) (λx s₅=>wpAny (model prog w) A (call (.builtin "list.append") [acc,x]) (λ_ s₆=>∃m,m<n/\I m s₆) NoX s₅) NoX s₄
      else ∃m,m<n/\I m s₄) NoX s₃) NoX s₂) NoX s₁) NoX s)
  (n:Nat) (h:I n s):codeAny (model prog w) A (.compLoop (.ListComp elt [⟨target,iter,ifs,0⟩] scope pos) 0 it acc env) R s:=by
 refine codeAny_loop rfl I (λn s hI=>?_) n h;show wpAny _ A ((compTurn (.ListComp elt [⟨target,iter,ifs,0⟩] scope pos) 0 it acc env).onRaise (λx=>do noteFrame x env;theTreesLotGoes x)) _ _ s;refine wpAny_noted ?_;rw[compTurn_list];refine wpAny_bind (wpAny_standAt (wpAny_bind (toE (turn n s hI) λr s₁ h₁=>?_)));cases r with
 |none=>exact wpAny_pure h₁
 |some v =>
  refine wpAny_bind (toE h₁ λ_ s₂ h₂=>wpAny_bind (toE h₂ λ_ s₃ h₃=>wpAny_bind (toE h₃ λok s₄ h₄=>?_)));cases ok with
  |false=>exact wpAny_pure ⟨rfl,h₄⟩
  |true=>exact wpAny_bind (wpAny_bind (toE h₄ λx s₅ h₅=>wpAny_bind (toE h₅ λ_ s₆ h₆=>wpAny_pure (wpAny_pure ⟨rfl,h₆⟩))))
end
noncomputable def Cx.blk(X:Cx)(N:List Str)(scope:Scope)(cells:List (Str×Addr))(C:Addr)(s:Shared)(H:Hp)(ex:List Addr):Cx :=
 {X with N:=N,s₀:=s,H₀:=H,env:=compEnvC scope cells C X.env,outer:=X.stack,stack:=X.stack,ex:=ex,fn:=λx=>scope.names.any λy=>y.1==x && y.2==.cell,pn:=[],xe:=NoX}
noncomputable def B7(src:List (Option Nat))(σ:St):St:=src.map λo=>o.bind λj=>(σ[j]?).join
noncomputable def D2(sc out:Scope):Bool:=sc.names.all λx=>x.2 != .free || (out.names.lookup x.1==some .cell || out.names.lookup x.1==some .free)
noncomputable def G6:List Str->List (Option Nat)->List Str->Scope->Bool
 |[],[],_,_=>true
 |x::N,o::src,M,sc=>(match o with|none=>true|some j=>M[j]? == some x && sc.names.lookup x==some .free) && G6 N src M sc
 |_,_,_,_=>false
noncomputable def a0L(sc:Scope):Bool:=sc.kind==.function && sc.names.all λx=>sc.names.lookup x.1==some x.2
theorem a0v:∀{N:List Str}{src:List (Option Nat)}{M:List Str}{sc:Scope},G6 N src M sc=true->src.length=N.length
 |[],[],_,_,_=>rfl
 |_::N,_::src,M,sc,h=>by
  unfold G6 at h;rw[Bool.and_eq_true]at h;rw[List.length_cons,List.length_cons,a0v h.2]
 |[],_::_,_,_,h=>by simp[G6]at h
 |_::_,[],_,_,h=>by simp[G6]at h
theorem a0w:∀{N:List Str}{src:List (Option Nat)}{M:List Str}{sc:Scope}{i:Nat}{x:Str}{j:Nat},G6 N src M sc=true->N[i]?=some x->src[i]?=some (some j)->M[j]?=some x/\sc.names.lookup x=some .free
 |[],[],_,_,_,_,_,_,h,_=>by simp at h
 |y::N,o::src,M,sc,0,x,j,h,h1,h2=>by
  unfold G6 at h;rw[Bool.and_eq_true]at h;simp at h1 h2;subst h1 h2;have q:=h.1;rw[Bool.and_eq_true]at q;exact⟨beq_iff_eq.mp q.1,beq_iff_eq.mp q.2⟩
 |y::N,o::src,M,sc,i+1,x,j,h,h1,h2=>by
  unfold G6 at h;rw[Bool.and_eq_true]at h;exact a0w h.2 (by simpa using h1) (by simpa using h2)
 |[],_::_,_,_,_,_,_,h,_,_=>by simp[G6]at h
 |_::_,[],_,_,_,_,_,h,_,_=>by simp[G6]at h
theorem a4i{src:List (Option Nat)}{σ:St}{i:Nat}{v:V}(h:(B7 src σ)[i]?=some (some v)):∃j,src[i]?=some (some j)/\σ[j]?=some (some v):=by
 unfold B7 at h;rw[List.getElem?_map]at h;cases e:src[i]? with
 |none=>rw[e]at h;cases h
 |some o =>
  rw[e]at h;cases o with
  |none=>cases h
  |some j =>
   refine⟨j,rfl,?_⟩;have h':(σ[j]?).join=some v:=Option.some.inj h;cases q:σ[j]? with
   |none=>rw[q]at h';cases h'
   |some z=>rw[q]at h';rw[show z=some v from h']
theorem N4{env:Env}:∀{names:List (Str×NameKind)}{x:Str}{k:NameKind},
  (names.map λ(n,k)=>if (k==NameKind.free && env.scope.kind==.function && env.kindOf n==some .cell)then(n,NameKind.cell)else(n,k)).lookup x=some k ->
  ∃k',names.lookup x=some k'/\(k=k'∨(k'=.free/\k=.cell))
 |[],_,_,h=>by cases h
 |(n,k0)::r,x,k,h=>by
  rw[List.map_cons,List.lookup_cons]at h;rw[List.lookup_cons];dsimp only at h;split at h
  .rename_i h0;have hb:x==n:=by
    split at h0<;>exact h0
   rw[hb];refine⟨k0,rfl,?_⟩;split at h
   .rename_i hc;cases h;simp only[Bool.and_eq_true]at hc;exact .inr ⟨by simpa using hc.1.1,rfl⟩
   .cases h;exact .inl rfl
  .rename_i h0;have hb:(x==n)=false:=by
    split at h0<;>exact h0
   rw[hb];exact N4 h
theorem E1{env:Env}:∀{names:List (Str×NameKind)}{x:Str}{k':NameKind},names.lookup x=some k' ->
  ∃k,(names.map λ(n,k)=>if (k==NameKind.free && env.scope.kind==.function && env.kindOf n==some .cell)then(n,NameKind.cell)else(n,k)).lookup x=some k/\(k=k'∨(k'=.free/\k=.cell))
 |[],_,_,h=>by cases h
 |(n,k0)::r,x,k',h=>by
  rw[List.lookup_cons]at h;rw[List.map_cons];by_cases hc:(k0==NameKind.free && env.scope.kind==.function && env.kindOf n==some .cell)=true
  .simp only[hc,if_true];rw[List.lookup_cons];cases hb:x==n with
   |true =>
    rw[hb]at h;cases h;simp only[Bool.and_eq_true]at hc;exact⟨_,rfl,.inr ⟨by simpa using hc.1.1,rfl⟩⟩
   |false=>rw[hb]at h;exact E1 h
  .simp only[if_neg hc];rw[List.lookup_cons];cases hb:x==n with
   |true=>rw[hb]at h;cases h;exact⟨_,rfl,.inl rfl⟩
   |false=>rw[hb]at h;exact E1 h
def PIf(X:Cx)(ifs:List Expr)(t:TT):Prop :=
 ∀(pins:List (Addr×Obj)) (s:Shared) (σ:St) (H:Hp) (Q:Bool->Hp->Prop),Inv X pins σ H s->t σ H Q ->
  wpAny (model X.prog X.w) X.A (forIn ifs true λc r=>if r=true then do let ok <-isTrue c X.env (eval c X.env);pure (ForInStep.yield ok)else pure (ForInStep.yield r)) (TP X pins σ Q) X.xe s
def W5:TT:=λ_ H Q=>Q true H
theorem a6H{X:Cx}:PIf X [] W5:=λpins s σ H Q I h=>wpAny_tests_nil ⟨H,I,h⟩
theorem a6G{X:Cx}{c:Expr}{t:TT}(h:PT X c t):PIf X [c] t:=λpins s σ H Q I q=>wpAny_tests_one (h pins s σ H Q I q)
def Sub(σ σ':St):Prop:=σ.length=σ'.length/\∀(i:Nat) (v:V),σ[i]?=some (some v)->σ'[i]?=some (some v)
def N9(src:List (Option Nat))(g:TG)(tt:TT)(te:TE)(σ:St)(Q:VK)(J:It)(H1:Hp):Prop :=
 ∃W:Nat->Nat->List V->Hp->Prop,(∃m,W 0 m [] H1)/\∀i m ys H,W i m ys H ->
  (J.stop i H/\ys.length<=sizeLine/\∀p,H p=none->Q (.ref p) (upd H p (.lst ys))) ∨
  (J.go i H/\ys.length<sizeLine/\∃N:List V->Hp->Prop,(∀zs H',N zs H'->∃m',m'<m/\W (i+1) m' zs H')/\∀x H',J.yld i H x H'->g x (B7 src σ) H' λσ2 H2=>Sub (B7 src σ) σ2/\tt σ2 H2 λb H3 =>
   if b=true then te σ2 H3 λv H4=>N (ys++[v]) H4 else N ys H3)
def a1r(src:List (Option Nat))(wi:TI)(g:TG)(tt:TT)(te:TE):TE:=λσ H Q=>wi σ H (N9 src g tt te σ Q)
section
variable {X:Cx}{pins:List (Addr×Obj)}{σ:St}{H:Hp}{s:Shared}
theorem Inv.block{N:List Str}{src:List (Option Nat)}{scope:Scope}{fp:List Addr}(I:Inv X pins σ H s)(hf:∀b∈fp,T7 X pins H b)(ho:∀b∈fp,∃o,s.heap.get? b=some o)
  (hcap:D2 scope X.env.scope=true) (hblk:G6 N src X.N scope=true) (hsc:a0L scope=true) {lo:Obj} :
  Inv (X.blk N scope (cellsFrom (s.heap.objs.size+2) scope.names (U8 scope X.env)) (s.heap.objs.size+1) s H fp) [] (B7 src σ) H
   {s with heap:=pushCells ((s.heap.push lo).push {cls:=.type "dict",data:=.dict #[]}) scope.names}:=by
 unfold a0L at hsc;rw[Bool.and_eq_true]at hsc;have hkind:scope.kind=.function:=by simpa using hsc.1
 have hnd:∀x∈scope.names,scope.names.lookup x.1=some x.2:=λx hx=>by simpa using List.all_eq_true.mp hsc.2 x hx
 have hfree:∀x∈scope.names,x.2=.free->X.env.kindOf x.1=some .cell∨X.env.kindOf x.1=some .free:=λx hx hk=>by
  have q:=List.all_eq_true.mp hcap x hx;rw[hk]at q;have q':(X.env.scope.names.lookup x.1==some .cell || X.env.scope.names.lookup x.1==some .free)=true:=by simpa using q
  rw[Bool.or_eq_true]at q';exact q'.imp (λz=>beq_iff_eq.mp z) λz=>beq_iff_eq.mp z
 have keep:∀b o,s.heap.get? b=some o->(pushCells ((s.heap.push lo).push {cls:=.type "dict",data:=.dict #[]}) scope.names).get? b=some o:=λb o e =>
  pushCells_keeps _ _ _ _ (Heap.get?_push_of_some _ (Heap.get?_push_of_some _ e))
 have clc:∀x c,(U8 scope X.env).lookup x=some c->c<s.heap.objs.size:=λx c e=>by
  obtain⟨v,z⟩:=I.cell x c (P0 e);exact z.lt
 have cases':∀x c,(cellsFrom (s.heap.objs.size+2) scope.names (U8 scope X.env)).lookup x=some c->(s.heap.objs.size+2<=c/\(x,NameKind.cell)∈scope.names)∨X.env.cells.lookup x=some c:=λx c e =>
  (K9 _ _ _ e).imp id P0
 have kof:∀x k,(compEnvC scope (cellsFrom (s.heap.objs.size+2) scope.names (U8 scope X.env)) (s.heap.objs.size+1) X.env).kindOf x=some k->∃k',scope.names.lookup x=some k'/\(k=k'∨(k'=.free/\k=.cell)):=λx k e =>
  N4 (env:=X.env) e
 have mem:∀{x k},scope.names.lookup x=some k->(x,k)∈scope.names:=λe=>mem_of_lookup e;refine⟨⟨I.ok.mod,?_,I.ok.glob,I.ok.blt,?_,?_,?_,?_,I.ok.hd,I.ok.frames,.inl rfl,?_,I.bs,Nat.le_trans I.ok.bsz I.sz,?_,?_,I.stack,I.stkFree⟩,rfl,I.bare,Un.kept keep,?_,?_,?_,?_,?_,I.hok.kept keep,?_⟩
 .exact hkind
 .exact Nat.le_succ _
 .-- inj
  refine a2y _ _ _ (λx c e=>?_) λx y c e e'=>I.ok.inj x y c (P0 e) (P0 e');exact Nat.lt_of_lt_of_le (clc x c e) (Nat.le_add_right _ 2)
 .-- has
  intro x hx;refine a1i _ _ _ ?_;have hk:∃k',scope.names.lookup x=some k'/\(k'=.cell∨k'=.free):=by
   rcases hx with hx|hx
   .obtain⟨k',e,z⟩:=kof x _ hx;exact⟨k',e,z.elim (λz=>.inl z.symm) λz=>.inr z.1⟩
   .obtain⟨k',e,z⟩:=kof x _ hx;exact⟨k',e,z.elim (λz=>.inr z.symm) λz=>by cases z.2⟩
  obtain⟨k',e,rfl|rfl⟩:=hk
  .exact .inl (mem e)
  .obtain⟨a,ha⟩:=I.ok.has x (hfree _ (mem e) rfl);exact .inr ⟨a,a1P ha (mem e)⟩
 .-- cab
  intro x c hx e;rcases cases' x c e with z|z
  .exact Nat.le_trans (Nat.le_add_right _ 2) z.1
  .-- x is the block's own cell, so it is not in the closure's part
   exfalso;obtain⟨y,hy,hyx⟩:=List.any_eq_true.mp hx;rw[Bool.and_eq_true]at hyx;have e1:y.1=x:=beq_iff_eq.mp hyx.1;have e2:y.2=.cell:=by simpa using hyx.2
   have l1:scope.names.lookup x=some .cell:=by rw[<-e1,<-e2];exact hnd y hy
   rcases K9 _ _ _ e with q|q
   .obtain⟨v,z'⟩:=I.cell x c z;exact absurd (Nat.lt_of_lt_of_le z'.lt (Nat.le_trans (Nat.le_add_right _ 2) q.1)) (Nat.lt_irrefl _)
   .-- the closure holds free names alone
    have fr:∀(names:List (Str×NameKind)) (cs:List (Str×Addr)),(names.foldl (D6 X.env) cs).lookup x=some c->(x,NameKind.free)∈names∨cs.lookup x=some c:=by
     intro names;induction names with
     |nil=>intro cs h;exact .inr h
     |cons n r ih =>
      intro cs h;rw[List.foldl_cons]at h;rcases ih _ h with w|w
      .exact .inl (List.mem_cons_of_mem _ w)
      .unfold D6 at w;split at w
       .rename_i hk;split at w
        .rw[List.lookup_cons]at w;cases hb:x==n.1 with
         |true =>
          have:n=(x,NameKind.free):=Prod.ext (beq_iff_eq.mp hb).symm (by simpa using hk);exact .inl (by rw[this];exact List.mem_cons_self)
         |false=>rw[hb]at w;exact .inr w
        .exact .inr w
       .exact .inr w
    rcases fr _ _ q with w|w
    .have:=hnd _ w;rw[l1]at this;cases this
    .cases w
 .-- exf
  intro b hb;obtain⟨o,e⟩:=ho b hb;have lt:=Heap.lt_size e;refine⟨Nat.ne_of_lt (Nat.lt_succ_of_lt lt),λx c hc=>?_⟩;rcases cases' x c hc with z|z
  .exact Nat.ne_of_gt (Nat.lt_of_lt_of_le lt (Nat.le_trans (Nat.le_add_right _ 2) z.1))
  .exact(hf b hb).2.2.2.2.1 x c z
 .-- noex
  intro b o e hb;rcases(hf b hb).2.2.2.1 with z|z
  .exact I.ok.noex b o e z
  .exact absurd (Nat.lt_of_lt_of_le (Heap.lt_size (I.ok.bs b o e).1) z) (Nat.lt_irrefl _)
 .-- exfs
  intro b hb z;rcases List.mem_cons.mp (I.stkSub b z)with q|q
  .exact(hf b hb).2.1 q
  .exact(hf b hb).2.2.1 q
 .-- loc
  refine⟨λ_=>none,?_,λi x v e1 e2 e3=>?_⟩
  .have:=(Heap.Ns.new (s.heap.push lo) (.type "dict")).keeps (pushCells_keeps scope.names _);rw[Heap.size_push]at this;exact this
  .obtain⟨j,e4,e5⟩:=a4i e2;obtain⟨e6,e7⟩:=a0w hblk e1 e4;obtain⟨m,_,hl⟩:=I.loc;have hk:=hfree _ (mem e7) rfl;have hv:Vis X.env.scope x:=.inr (hk.imp id id);obtain⟨u,r,l⟩:=hl j x v e6 e5 hv;refine⟨u,r,.inr ⟨?_,?_⟩⟩
   .obtain⟨k,q,z⟩:=E1 (env:=X.env) e7;rcases z with z|z
    .exact .inr (by rw[<-z];exact q)
    .exact .inl (by rw[<-z.2];exact q)
   .rcases l with l|⟨_,c,hc,z⟩
    .exfalso;rcases hk with hk|hk<;>rw[l.1]at hk<;>cases hk
    .refine⟨c,?_,z.keeps keep⟩;have own:¬(x,NameKind.cell)∈scope.names:=λw=>by
      have:=hnd _ w;rw[e7]at this;cases this
     obtain⟨c',q⟩:=a1i (x:=x) scope.names (s.heap.objs.size+2) (U8 scope X.env) (.inr ⟨c,a1P hc (mem e7)⟩);rcases cases' x c' q with w|w
     .exact absurd w.2 own
     .rw[hc]at w;cases w;exact q
 .-- cell
  intro x c e;have e':(cellsFrom ((s.heap.push lo).push {cls:=.type "dict",data:=.dict #[]}).objs.size scope.names (U8 scope X.env)).lookup x=some c:=by
   rw[Heap.size_push,Heap.size_push];exact e
  refine a0P _ _ _ (λx' c' q=>?_) e';obtain⟨v,z⟩:=I.cell x' c' (P0 q);exact⟨v,z.keeps λb o q=>Heap.get?_push_of_some _ (Heap.get?_push_of_some _ q)⟩
 .exact I.hok.fresh (Nat.le_succ _)
 .intro x c e;rcases cases' x c e with z|z
  .exact I.hok.fresh (Nat.le_trans (Nat.le_add_right _ 2) z.1)
  .exact I.freeC x c z
 .intro p hp;cases hp
 .show(B7 src σ).length=N.length;unfold B7;rw[List.length_map];exact a0v hblk
theorem Inv.unblock{N:List Str}{scope:Scope}{cells:List (Str×Addr)}{C acc:Addr}{fp:List Addr}{pins':List (Addr×Obj)}{σ':St}{H':Hp}{s':Shared}{h':Heap}{ys:List V}{us:List Value}{n:Nat}
  (I:Inv X pins σ H s) (hf:∀b∈fp,T7 X pins H b) (hC:s.heap.objs.size<=C) (ha:s.heap.objs.size<=acc) (hne:acc≠C) (J:Inv (X.blk N scope cells C s H fp) pins' σ' H' s')
  (hn:H' acc=none) (hl:s'.heap.get? acc=some {cls:=.type "list",data:=.seq us.toArray n}) (hv:Vals ys us) (hz:ys.length<=sizeLine) (hb:Heap.SameBut C s'.heap h') :
  Inv X pins σ (upd H' acc (.lst ys)) {s' with heap:=h'}:=by
 have base:Un (frs X.stack) fp H H' s.heap s'.heap:=J.base;have kp:∀b o,b≠C->s'.heap.get? b=some o->h'.get? b=some o:=λb o q e=>hb.extBut b o q e;have old:∀b o,s.heap.get? b=some o->b≠C/\b≠acc:=λb o e=>by
  have:=Heap.lt_size e;exact⟨Nat.ne_of_lt (Nat.lt_of_lt_of_le this hC),Nat.ne_of_lt (Nat.lt_of_lt_of_le this ha)⟩
 have frC:H' C=none:=J.free;have hacc:H acc=none:=I.hok.fresh ha;have hokh:HOk X.prog X.w H' s'.heap:=J.hok;have ok':HOk X.prog X.w (upd H' acc (.lst ys)) h':=by
  intro b o e;by_cases hba:b=acc
  .subst hba;rw[A0]at e;cases e;exact⟨hz,us,n,hv,kp _ _ hne hl⟩
  .rw[A3 hba]at e;refine(hokh b o e).stay (λc u hc q=>kp c u ?_ q) (λc q=>?_) λc xs q=>?_
   .rintro rfl;rcases hc with rfl|hc
    .rw[frC]at e;cases e
    .rw[frC]at hc;cases hc
   .rw[A3 (by rintro rfl;rw[hn]at q;cases q)];exact q
   .rw[A3 (by rintro rfl;rw[hn]at q;cases q)];exact q
 have neA:∀b u,H b=some u->b≠acc:=λb u e=>by rintro rfl;rw[hacc]at e;cases e
 refine I.call' (s':={s' with heap:=h'}) (ch:=fp) (J.os) ⟨λb o e q r t=>?_,λb o e q r t=>?_,λb o e q t=>?_,λb o e t=>?_,λb xs e=>?_,λb o u e=>?_,λb ps e=>?_⟩ ok' J.bare λb hb=>?_
 .exact kp b o (old b o e).1 (base.keep b o e q r t)
 .obtain⟨sl,z⟩:=base.slot b o e q r t;exact⟨sl,kp b _ (old b o e).1 z⟩
 .rw[A3 (old b o e).2];exact base.free b o e q t
 .obtain⟨o',z⟩:=base.there b o e t;exact⟨o',kp b _ (old b o e).1 z⟩
 .rw[A3 (neA b _ e)];exact base.tups b xs e
 .rw[A3 (neA b _ e)];exact base.frzs b o u e
 .rw[A3 (neA b _ e)];exact base.tbls b ps e
 .obtain⟨_,h1,_,h3,h4,h5⟩:=hf b hb;exact⟨h3,h1,h4,h5⟩
set_option maxHeartbeats 4000000 in
theorem a0t{tg iter elt:Expr}{ifs:List Expr}{scope:Scope}{pos:Pos}{N:List Str}{src:List (Option Nat)}{wi:TI}{g:TG}{tt:TT}{te:TE}{Q:VK}{RR:Value->Addr->Result->Shared->Prop}(hc:X.calm=true)(hi:PI X tg iter wi)
  (hcap:D2 scope X.env.scope=true) (hblk:G6 N src X.N scope=true) (hsc:a0L scope=true)
  (hg:∀cells C s H ex,PG (X.blk N scope cells C s H ex) tg g) (ht:∀cells C s H ex,PIf (X.blk N scope cells C s H ex) ifs tt) (he:∀cells C s H ex,PE (X.blk N scope cells C s H ex) elt te)
  (I:Inv X pins σ H s) (h:a1r src wi g tt te σ H Q)
  (hend:∀(s2 s4:Shared) (H2 H4:Hp) (fp:List Addr) (cells:List (Str×Addr)) (pl:List (Addr×Obj)) (σ4:St) (ys:List V) (us:List Value) (k:Nat),Inv X pins σ H2 s2->(∀b∈fp,T7 X pins H2 b) ->
   Inv (X.blk N scope cells (s2.heap.objs.size+1) s2 H2 fp) pl σ4 H4 s4->H4 s2.heap.objs.size=none->s4.heap.get? s2.heap.objs.size=some {cls:=.type "list",data:=.seq us.toArray k}->Vals ys us->ys.length<=sizeLine ->
   Q (.ref s2.heap.objs.size) (upd H4 s2.heap.objs.size (.lst ys))->RR (.ref s2.heap.objs.size) (s2.heap.objs.size+1) (.ok .next) s4) :
  wpAny (model X.prog X.w) X.A (eval iter X.env) (λx s₁=>wpAny (model X.prog X.w) X.A (pyIter x) (λit s₂=>wpAny (model X.prog X.w) X.A (newList []) (λacc s₃ =>
   wpAny (model X.prog X.w) X.A (newFunctionEnv scope X.env.globals (U8 scope X.env) [] X.env.qual none .none (some X.env)) (λcenv s₄ =>
    codeAny (model X.prog X.w) X.A (.compStart (.ListComp elt [⟨tg,iter,ifs,0⟩] scope pos) 0 it acc {cenv with scope:=relabel scope X.env}) (RR acc cenv.locals) s₄) X.xe s₃) X.xe s₂) X.xe s₁) X.xe s:=by
 refine thn (hi pins s σ H _ I h) λv s1 h1=>thn h1 λitv s2 h2=>?_;obtain⟨it,fp,tn,J,H2,e,I2,T,st2,f2,W,⟨m0,w0⟩,turn⟩:=h2;subst e;have ho2:∀b∈fp,∃o,s2.heap.get? b=some o:=λb hb=>(T.obj _ _ st2 b hb).imp λ_ q=>q.1;refine wpAny_newObj_type (a1V ?_);have hB:=I2.block (lo:={cls:=.type "list",dict:=none,data:=.seq ([]:List Value).toArray}) f2 ho2 hcap hblk hsc;rw[show({s2 with heap:=s2.heap.push {cls:=.type "list",dict:=none,data:=.seq ([]:List Value).toArray}}:Shared).heap.objs.size=s2.heap.objs.size+1 from Heap.size_push ..];generalize hcells:cellsFrom (s2.heap.objs.size+1+1) scope.names (U8 scope X.env)=cells at hB⊢;generalize hheap:pushCells ((s2.heap.push {cls:=.type "list",dict:=none,data:=.seq ([]:List Value).toArray}).push {cls:=.type "dict",data:=.dict #[]}) scope.names=h4 at hB⊢;have keep4:∀b o,s2.heap.get? b=some o->h4.get? b=some o:=λb o q=>by
  rw[<-hheap];exact pushCells_keeps _ _ _ _ (Heap.get?_push_of_some _ (Heap.get?_push_of_some _ q))
 have acc4:h4.get? s2.heap.objs.size=some {cls:=.type "list",data:=.seq ([]:List Value).toArray 0}:=by
  rw[<-hheap];exact pushCells_keeps _ _ _ _ (Heap.get?_push_of_some _ (Heap.get?_push_size _ rfl))
 have st4:tn 0 h4:=T.keep _ _ _ st2 λb _ o q=>keep4 b o q;generalize hXc:X.blk N scope cells (s2.heap.objs.size+1) s2 H2 fp=Xc at hB;have eA:Xc.A=X.A:=by rw[<-hXc];rfl
 have eP:Xc.prog=X.prog:=by rw[<-hXc];rfl
 have ew:Xc.w=X.w:=by rw[<-hXc];rfl
 have eK:Xc.K=X.K:=by rw[<-hXc];rfl
 have ec:Xc.calm=true:=by rw[<-hXc];exact hc
 have ee:Xc.env=compEnvC scope cells (s2.heap.objs.size+1) X.env:=by rw[<-hXc];rfl
 have ex:Xc.ex=fp:=by rw[<-hXc];rfl
 have epn:Xc.pn=[]:=by rw[<-hXc];rfl
 have es0:Xc.s₀=s2:=by rw[<-hXc];rfl
 have exe:Xc.xe=NoX:=by rw[<-hXc];rfl
 have eL:Xc.env.locals=s2.heap.objs.size+1:=by rw[ee];rfl
 have efs:Xc.fs=frs X.stack:=by rw[<-hXc];rfl
 have okB:=hB.ok;have cne:∀x c,Xc.env.cells.lookup x=some c->c≠s2.heap.objs.size:=λx c q=>by
  rw[ee]at q;have q':cells.lookup x=some c:=q;rw[<-hcells]at q';rcases K9 _ _ _ q' with z|z
  .exact Nat.ne_of_gt (Nat.lt_of_lt_of_le (Nat.lt_succ_self _) (Nat.le_trans (Nat.le_succ _) z.1))
  .obtain⟨v,z'⟩:=I2.cell x c (P0 z);exact Nat.ne_of_lt z'.lt
 have fpne:∀b∈fp,b≠s2.heap.objs.size:=λb hb=>by
  obtain⟨o,q⟩:=ho2 b hb;exact Nat.ne_of_lt (Heap.lt_size q)
 have accfs:s2.heap.objs.size∉Xc.fs:=by
  rw[efs];intro z;rcases List.mem_cons.mp (I2.stkSub _ z)with q|q
  .exact absurd I2.lt (by rw[<-q];exact Nat.lt_irrefl _)
  .exact I2.nofs (Nat.le_refl _) q
 have stat:∀{H':Hp}{pl:List (Addr×Obj)},(∀b∈fp,H' b=none)->(∀p∈pl,p.1=s2.heap.objs.size)->∀b∈fp,T7 Xc pl H' b:=λ{H' pl} hn hp b hb=>by
  obtain⟨x1,x2⟩:=okB.exf b (by rw[ex];exact hb);refine⟨hn b hb,x1,okB.exfs b (by rw[ex];exact hb),.inl (by rw[ex];exact hb),x2,λp hp'=>?_⟩;rw[epn,List.nil_append]at hp';rw[hp p hp'];exact(fpne b hb).symm
 have main:∀s5:Shared,s5={s2 with heap:=h4}->codeAny (model X.prog X.w) X.A (.compLoop (.ListComp elt [⟨tg,iter,ifs,0⟩] scope pos) 0 (.ref it) (.ref s2.heap.objs.size) Xc.env)
   (RR (.ref s2.heap.objs.size) (s2.heap.objs.size+1)) s5:=by
  rintro s5 rfl;refine a1g (λn s'=>∃i H' ys us k,Inv Xc [] (B7 src σ) H' s'/\tn i s'.heap/\(∀b∈fp,H' b=none)/\H' s2.heap.objs.size=none /\
   s'.heap.get? s2.heap.objs.size=some {cls:=.type "list",data:=.seq (us:List Value).toArray k}/\Vals ys us/\W i n ys H') ?_ m0
   ⟨0,H2,[],[],0,hB,st4,λb hb=>(f2 b hb).1,I2.hok.fresh (Nat.le_refl _),acc4,.nil,w0⟩
  rintro n s3 ⟨i,H3,ys,us,k,I3,st3,fr3,na3,ac3,r3,w3⟩;rcases turn i n ys H3 w3 with⟨stop,hz,qn⟩|⟨go,hz,Nn,hN,step⟩
  .have d:=T.done Xc eP ew eK ec i [] s3 (B7 src σ) H3 NoX I3 (stat fr3 (λ_ z=>by cases z)) st3 stop;rw[eA]at d;have I3':Inv Xc [(s2.heap.objs.size,{cls:=.type "list",data:=.seq us.toArray k})] (B7 src σ) H3 s3:=I3.pins_of λp hp=>by
    rw[List.mem_singleton.mp hp];exact⟨ac3,na3,by rw[eL];exact Nat.ne_of_lt (Nat.lt_succ_self _),accfs,λv z=>by cases z⟩
   have d:=T.done Xc eP ew eK ec i _ s3 (B7 src σ) H3 NoX I3' (stat fr3 (λp z=>by rw[List.mem_singleton.mp z])) st3 stop;rw[eA]at d;refine thn d λr s4 ⟨hr,I4⟩=>?_;subst hr;have ac4:=(I4.pin (s2.heap.objs.size,{cls:=.type "list",data:=.seq us.toArray k}) (List.mem_append_right _ List.mem_cons_self)).1;rw[<-hXc]at I4;exact hend s2 s4 H2 H3 fp cells _ _ ys us k I2 f2 I4 na3 ac4 r3 hz (qn _ na3)
  .have I3':Inv Xc [(s2.heap.objs.size,{cls:=.type "list",data:=.seq us.toArray k})] (B7 src σ) H3 s3:=I3.pins_of λp hp=>by
    rw[List.mem_singleton.mp hp];exact⟨ac3,na3,by rw[eL];exact Nat.ne_of_lt (Nat.lt_succ_self _),accfs,λv z=>by cases z⟩
   have d:=T.item Xc eP ew eK ec i _ s3 (B7 src σ) H3 NoX I3' (stat fr3 (λp z=>by rw[List.mem_singleton.mp z])) st3 go;rw[eA]at d;refine thn d λr s4 ⟨u,hr,h4'⟩=>?_;subst hr;refine thn h4' λ_ s5 ⟨x,H5,I5,r5,y5,st5,fr5⟩=>?_;have I5':=I5.pinned (stat fr5 (λp z=>by rw[List.mem_singleton.mp z])) (T.obj _ _ st5);have hgX:PG Xc tg g:=by rw[<-hXc];exact hg _ _ _ _ _
   have htX:PIf Xc ifs tt:=by rw[<-hXc];exact ht _ _ _ _ _
   have heX:PE Xc elt te:=by rw[<-hXc];exact he _ _ _ _ _
   have a1:=hgX _ s5 _ H5 x u _ I5' r5 (step x H5 y5);rw[eP,ew,eA,exe]at a1;refine thn a1 λ_ s6 ⟨σ6,H6,I6,sb,q6⟩=>?_;have a2:=htX _ s6 σ6 H6 _ I6 q6;rw[eP,ew,eA,exe]at a2;refine thn a2 λok s7 ⟨H7,I7,q7⟩=>?_;have back:∀{H8:Hp}{s8:Shared}{pl:List (Addr×Obj)},Inv Xc ([(s2.heap.objs.size,{cls:=.type "list",data:=.seq us.toArray k})]++X1 fp s5.heap) σ6 H8 s8 ->
     Inv Xc [] (B7 src σ) H8 s8/\tn (i+1) s8.heap/\(∀b∈fp,H8 b=none)/\H8 s2.heap.objs.size=none/\s8.heap.get? s2.heap.objs.size=some {cls:=.type "list",data:=.seq us.toArray k}:=λ{H8 s8 pl} I8=>by
    have p0:=I8.pin (s2.heap.objs.size,{cls:=.type "list",data:=.seq us.toArray k}) (List.mem_append_right _ (List.mem_append_left _ List.mem_cons_self));refine⟨(I8.pins_of (pins':=[]) λp hp=>by cases hp).weak sb.1 sb.2,T.keep _ _ _ st5 λb hb o e=>(I8.pin (b,o) (List.mem_append_right _ (List.mem_append_right _ (L9 hb e)))).1,λb hb=>?_,p0.2.1,p0.1⟩;obtain⟨o,e,_⟩:=T.obj _ _ st5 b hb;exact(I8.pin (b,o) (List.mem_append_right _ (List.mem_append_right _ (L9 hb e)))).2.1
   cases ok with
   |false =>
    obtain⟨m',hm,w7⟩:=hN _ _ q7;obtain⟨b1,b2,b3,b4,b5⟩:=back (pl:=[]) I7;exact⟨m',hm,i+1,H7,ys,us,k,b1,b2,b3,b4,b5,r3,w7⟩
   |true =>
    have a3:=heX _ s7 σ6 H7 _ I7 q7;rw[eP,ew,eA,exe]at a3;refine thn a3 λy s8 ⟨vy,H8,I8,ry,n8⟩=>?_;obtain⟨m',hm,w8⟩:=hN _ _ n8;obtain⟨b1,b2,b3,b4,b5⟩:=back (pl:=[]) I8;refine call_meets F.slot_list_append ⟨_,b5,rfl⟩ F.entry_list_append (F.args_list_append_2 _ _) (PySem.list_append s2.heap.objs.size us.toArray k y (by rw[List.size_toArray,<-r3.length];omega)) ⟨b5,?_⟩;have q:=PySem.IsL.update b5 (λxs=>xs.push y);rw[show us.toArray.push y=(us++[y]).toArray by simp]at q;have nb:∀b o,b≠s2.heap.objs.size->s8.heap.get? b=some o->(s8.heap.update s2.heap.objs.size (Obj.mapSeq λxs=>xs.push y)).get? b=some o:=λb o hb e =>
     (Heap.get?_update_other s8.heap _ (Ne.symm hb)).trans e
    refine⟨m',hm,i+1,H8,ys++[vy],us++[y],_,?_,?_,b3,b4,q,r3.append (.cons ry .nil),w8⟩
    .exact b1.turned nb b4 (by rw[eL];exact Nat.ne_of_lt (Nat.lt_succ_self _)) (.inr (by rw[es0];exact Nat.le_refl _)) cne λp hp=>by rw[epn]at hp;cases hp
    .exact T.keep _ _ _ b2 λb hb o e=>nb b o (fpne b hb) e
 have main':=main _ rfl;rw[ee]at main';exact codeAny_compStart_list main' (T.self _ 0 _ _ _ st4 main')
theorem a0g{scope:Scope}(hsc:a0L scope=true):scope.kind=.function/\∀x∈scope.names,scope.names.lookup x.1=some x.2:=by
 unfold a0L at hsc;rw[Bool.and_eq_true]at hsc;exact⟨by simpa using hsc.1,λx hx=>by simpa using List.all_eq_true.mp hsc.2 x hx⟩
theorem Inv.clos{scope:Scope}(I:Inv X pins σ H s)(hcap:D2 scope X.env.scope=true):closureFor scope X.env=pure (U8 scope X.env):=a5U λx hx hk=>by
 have q:=List.all_eq_true.mp hcap x hx;rw[hk]at q;have q':(X.env.scope.names.lookup x.1==some .cell || X.env.scope.names.lookup x.1==some .free)=true:=by simpa using q
 rw[Bool.or_eq_true]at q';exact I.ok.has x.1 (q'.imp (λz=>beq_iff_eq.mp z) λz=>beq_iff_eq.mp z)
theorem a6T{tg iter elt:Expr}{ifs:List Expr}{scope:Scope}{pos:Pos}{N:List Str}{src:List (Option Nat)}{wi:TI}{g:TG}{tt:TT}{te:TE}(hc:X.calm=true)(hi:PI X tg iter wi)
  (hcap:D2 scope X.env.scope=true) (hblk:G6 N src X.N scope=true) (hsc:a0L scope=true)
  (hg:∀cells C s H ex,PG (X.blk N scope cells C s H ex) tg g) (ht:∀cells C s H ex,PIf (X.blk N scope cells C s H ex) ifs tt) (he:∀cells C s H ex,PE (X.blk N scope cells C s H ex) elt te)
  (hs:∀x,foldedSetIterable iter X.env x=pure x:=by intro _;rfl):PE X (.ListComp elt [⟨tg,iter,ifs,0⟩] scope pos) (a1r src wi g tt te):=by
 intro pins s σ H Q I h;obtain⟨hkind,hnd⟩:=a0g hsc;rw[eval_ListComp];refine wpAny_comprehension_free (use:=none) rfl hs (I.clos hcap) hkind (λx hx hk=>by rw[<-hk];exact hnd x hx) (a0t (RR:=compPost (model X.prog X.w) X.A X.xe none (EP X pins σ Q)) hc hi hcap hblk hsc hg ht he I h ?_);intro s2 s4 H2 H4 fp cells pl σ4 ys us k I2 f2 I4 na4 ac4 r4 hz q;obtain⟨m,hns,_⟩:=I4.loc;exact⟨m,hns,λh' hb=>⟨.ref s2.heap.objs.size,_,Inv.unblock I2 f2 (Nat.le_succ _) (Nat.le_refl _) (Nat.ne_of_lt (Nat.lt_succ_self _)) I4 na4 ac4 r4 hz hb,rfl,q⟩⟩
theorem a6B{i:Nat}{y:Str}{py spos:Pos}{tg iter elt:Expr}{ifs:List Expr}{scope:Scope}{pos:Pos}{N:List Str}{src:List (Option Nat)}{wi:TI}{g:TG}{tt:TT}{te:TE}
  (hN:X.N.Nodup) (hy:X.N[i]?=some y) (hx:Loc X.env.scope y)
  (hc:X.calm=true) (hi:PI X tg iter wi) (hcap:D2 scope X.env.scope=true) (hblk:G6 N src X.N scope=true) (hsc:a0L scope=true)
  (hg:∀cells C s H ex,PG (X.blk N scope cells C s H ex) tg g) (ht:∀cells C s H ex,PIf (X.blk N scope cells C s H ex) ifs tt) (hel:∀cells C s H ex,PE (X.blk N scope cells C s H ex) elt te)
  (hsw:swapsWith (.ListComp elt [⟨tg,iter,ifs,0⟩] scope pos) (some (.Name y py)) spos.line X.env=pure true:=by rfl) (hs:∀x,foldedSetIterable iter X.env x=pure x:=by intro _;rfl)
  (hf:X.fn y=true∨X.env.scope.names.lookup y=some .local:=by first|exact .inl rfl|exact .inr rfl|assumption) :
  PS X (.Assign [.Name y py] (.ListComp elt [⟨tg,iter,ifs,0⟩] scope pos) spos) (a2b (a1r src wi g tt te) (A7 i)):=by
 intro pins s σ H D I h;obtain⟨hkind,hnd⟩:=a0g hsc;rw[exec_Assign_Name_used _ _ _ _ hsw];refine wpAny_bind (wpAny_standAt (wpAny_bind ?_));show wpAny _ X.A (do let _ <-comprehension (.ListComp elt [⟨tg,iter,ifs,0⟩] scope pos) scope X.env _ (newList []) false (eval iter X.env) (some (assign (.Name y py) X.env))) _ _ s;refine wpAny_bind (wpAny_mono (wpAny_comprehension_free (use:=some (assign (.Name y py) X.env)) (Q:=λ_ s'=>SP X pins D .next s') rfl hs (I.clos hcap) hkind (λx hx hk=>by rw[<-hk];exact hnd x hx)
  (a0t (RR:=compPost (model X.prog X.w) X.A X.xe (some (assign (.Name y py) X.env)) (λ_ s'=>SP X pins D .next s')) hc hi hcap hblk hsc hg ht hel I h ?_)) (λ_ s' hq=>wpAny_pure (wpAny_pure hq)) λ_ _ e=>e)
 intro s2 s4 H2 H4 fp cells pl σ4 ys us k I2 f2 I4 na4 ac4 r4 hz q;obtain⟨m,hns,_⟩:=I4.loc;have hns':s4.heap.Ns (s2.heap.objs.size+1) m:=hns;have frC:H4 (s2.heap.objs.size+1)=none:=I4.free;have J:=Inv.unblock I2 f2 (Nat.le_succ _) (Nat.le_refl _) (Nat.ne_of_lt (Nat.lt_succ_self _)) I4 na4 ac4 r4 hz (Heap.SameBut.refl _ _);have neL:s2.heap.objs.size+1≠X.env.locals:=Nat.ne_of_gt (Nat.lt_succ_of_lt I2.lt);have neC:∀x c,X.env.cells.lookup x=some c->c≠s2.heap.objs.size+1:=λx c e=>by
  obtain⟨v,z⟩:=I2.cell x c e;exact Nat.ne_of_lt (Nat.lt_succ_of_lt z.lt)
 show wpAny _ X.A (assign (.Name y py) X.env (.ref s2.heap.objs.size)) _ _ s4;refine wpAny_assign_Name (a0e (v:=.ref s2.heap.objs.size) J hN hy hx rfl (λs' I' hb=>?_) hf);obtain⟨a,sb,ha⟩:=hb;have hane:s2.heap.objs.size+1≠a:=by
  rcases ha with rfl|ha
  .exact neL
  .exact(neC _ _ ha).symm
 refine⟨m,hns'.sameBut sb hane,λh' hb'=>⟨_,_,I'.turned (t':=s'.toks) (it:=s2.heap.objs.size+1) (λb o hne e=>hb'.extBut b o hne e) ?_ neL (.inr (Nat.le_trans I2.sz (Nat.le_succ _))) neC λp hp=>?_,q⟩⟩
 .rw[A3 (Nat.ne_of_gt (Nat.lt_succ_self _))];exact frC
 .exact Nat.ne_of_lt (Nat.lt_succ_of_lt (Heap.lt_size (I2.pin p hp).1))
end
def SqAt(k:Bool)(h:Heap)(l:Addr)(xs:Array Value):Prop:=match k with|true=>h.IsTuple l xs|false=>h.IsList l xs
def ItAt(k:Bool)(h:Heap)(i l:Addr)(n:Nat):Prop:=match k with|true=>h.IsTupleIter i l n|false=>h.IsListIter i l n
noncomputable def a9V:Bool->String|true => "tuple_iterator" | false => "list_iterator"
noncomputable def J3(k:Bool)(l:Addr):Obj:={cls:=.type (a9V k),data:=.fields #[.ref l,.int 0 0]}
theorem ItAt.extBut{k:Bool}{h h':Heap}{i l b:Addr}{n:Nat}(x:ItAt k h i l n)(hs:Heap.ExtBut b h h')(hb:i≠b):ItAt k h' i l n:=by
 cases k
 .exact Heap.IsListIter.extBut x hs hb
 .exact Heap.IsTupleIter.extBut x hs hb
theorem ItAt.at{k:Bool}{h h':Heap}{i l:Addr}{n:Nat}(x:ItAt k h i l n)(e:∀o,h.get? i=some o->h'.get? i=some o):ItAt k h' i l n:=by
 cases k
 .exact Heap.IsListIter.at x e
 .exact Heap.IsTupleIter.at x e
theorem ItAt.get{k:Bool}{h:Heap}{i l:Addr}{n:Nat}(x:ItAt k h i l n):∃o,h.get? i=some o/\o.data=.fields #[.ref l,.int n 0]:=by
 cases k<;>obtain⟨o,e,c,d⟩:=x<;>exact⟨o,e,d⟩
theorem SqAt.extBut{k:Bool}{h h':Heap}{l b:Addr}{xs:Array Value}(x:SqAt k h l xs)(hs:Heap.ExtBut b h h')(hb:l≠b):SqAt k h' l xs:=by
 cases k
 .exact Heap.IsList.extBut x hs hb
 .exact Heap.IsTuple.extBut x hs hb
theorem SqAt.at{k:Bool}{h h':Heap}{l:Addr}{xs:Array Value}(x:SqAt k h l xs)(e:∀o,h.get? l=some o->h'.get? l=some o):SqAt k h' l xs:=by
 cases k<;>obtain⟨o,q,r⟩:=x<;>exact⟨o,e o q,r⟩
theorem SqAt.get{k:Bool}{h:Heap}{l:Addr}{xs:Array Value}(x:SqAt k h l xs):∃o,h.get? l=some o:=by
 cases k<;>obtain⟨o,q,r⟩:=x<;>exact⟨o,q⟩
section
variable {prog:Program}{w:World}{A:Around}{E:Value->Shared->Prop}{s:Shared}
theorem U6{it t:Addr}{i:Nat}{items:Array Value}{x:Value}{Q:Value->Shared->Prop}(hit:s.heap.IsTupleIter it t i)(ht:s.heap.IsTuple t items)(hx:items[i]?=some x)
  (hQ:∀h',h'.IsTupleIter it t (i+1)->Heap.SameBut it s.heap h'->Q x {s with heap:=h'}):wpAny (model prog w) A (Builtin.SmallTypes.nextOf (.ref it)) Q E s:=by
 obtain⟨o,ho,hc,hd⟩:=id hit;obtain⟨ol,hol,_,nl,hdl⟩:=ht;unfold Builtin.SmallTypes.nextOf;refine wpAny_bind (wpAny_callSpecial?_slot (name:=Str.ofString "__next__") hit.typeIs F.slot_tuple_iterator_next
  (wpAny_call_entry F.slot_tuple_iterator_next hit.typeIs F.entry_tuple_iterator_next ?_ (F.args_tuple_iterator_next_1 _)))
 show wpAny _ _ (field (.ref it) 0>>=_) _ _ s;refine wpAny_bind (wpAny_field ho hd (x:=.ref t) rfl ?_);show wpAny _ _ (if (Value.ref t==Value.none)=true then _ else _) _ _ s;rw[if_neg (show ¬((Value.ref t==Value.none)=true)from Bool.false_ne_true)];show wpAny _ _ (field (.ref it) 1>>=_) _ _ s;refine wpAny_bind (wpAny_field ho hd (x:=.int i 0) rfl ?_);show wpAny _ _ (seqItems? (.ref t)>>=_) _ _ s;refine wpAny_bind (wpAny_seqItems hol hdl ?_);simp only[Int.toNat_natCast,hx];refine wpAny_bind (wpAny_setField ho hd (by simp) (wpAny_pure ⟨x,rfl,wpAny_pure (hQ _ ?_ (Heap.SameBut.update ..))⟩));exact⟨_,Heap.get?_update_self _ ho (Obj.isFreed_of_fields (Obj.data_mapFields hd _)),(Obj.cls_mapFields ..).trans hc,by
  rw[Obj.data_mapFields hd];simp[rawInt]⟩
theorem X3{it t:Addr}{i:Nat}{items:Array Value}{Q:Value->Shared->Prop}(hh:A.handled=none)(hit:s.heap.IsTupleIter it t i)(ht:s.heap.IsTuple t items)(hx:items[i]?=none)
  (hE:∀h' e,Heap.ExtBut it s.heap h'->(∃o,h'.get? e=some o/\o.cls=.type "StopIteration")->E (.ref e) {s with heap:=h'}) :
  wpAny (model prog w) A (Builtin.SmallTypes.nextOf (.ref it)) Q E s:=by
 obtain⟨o,ho,hc,hd⟩:=id hit;obtain⟨ol,hol,_,nl,hdl⟩:=ht;unfold Builtin.SmallTypes.nextOf;refine wpAny_bind (wpAny_callSpecial?_slot (name:=Str.ofString "__next__") hit.typeIs F.slot_tuple_iterator_next
  (wpAny_call_entry F.slot_tuple_iterator_next hit.typeIs F.entry_tuple_iterator_next ?_ (F.args_tuple_iterator_next_1 _)))
 show wpAny _ _ (field (.ref it) 0>>=_) _ _ s;refine wpAny_bind (wpAny_field ho hd (x:=.ref t) rfl ?_);show wpAny _ _ (if (Value.ref t==Value.none)=true then _ else _) _ _ s;rw[if_neg (show ¬((Value.ref t==Value.none)=true)from Bool.false_ne_true)];show wpAny _ _ (field (.ref it) 1>>=_) _ _ s;refine wpAny_bind (wpAny_field ho hd (x:=.int i 0) rfl ?_);show wpAny _ _ (seqItems? (.ref t)>>=_) _ _ s;refine wpAny_bind (wpAny_seqItems hol hdl ?_);simp only[Int.toNat_natCast,hx];refine wpAny_bind (wpAny_rule (wpAny_bind (wpAny_setField ho hd (by simp) ?_)));show wpAny _ _ (newExc (.type "StopIteration") []>>=_) _ _ _;refine wpAny_bind ?_;simp only[newExc,newTuple];refine wpAny_bind (wpAny_newObj_type ?_ (by size_fits));refine wpAny_bind (m:=firstArgMember _ _) (wpAny_of_eq (a:=Value.none) (by first|rfl | (simp only[firstArgMember];rfl)) ?_);refine wpAny_newObj_type ?_ (by size_fits);simp only[raiseNew];refine wpAny_bind (wpAny_handled ?_)
 first|rw[show A.in1.handled=none from hh]|rw[hh]
 refine wpAny_bind (wpAny_pure (wpAny_throw ?_));exact hE _ _ (((Heap.SameBut.update ..).extBut.push _).push _) ⟨_,Heap.get?_push_size _ rfl,rfl⟩
theorem N3{k:Bool}{it l:Addr}{i:Nat}{items:Array Value}{x:Value}{Q:Value->Shared->Prop}(hit:ItAt k s.heap it l i)(ht:SqAt k s.heap l items)(hx:items[i]?=some x)
  (hQ:∀h',ItAt k h' it l (i+1)->Heap.SameBut it s.heap h'->Q x {s with heap:=h'}):wpAny (model prog w) A (Builtin.SmallTypes.nextOf (.ref it)) Q E s:=by
 cases k
 .exact wpAny_nextOf_list_item hit ht hx hQ
 .exact U6 hit ht hx hQ
theorem V1{k:Bool}{it l:Addr}{i:Nat}{items:Array Value}{Q:Value->Shared->Prop}(hh:A.handled=none)(hit:ItAt k s.heap it l i)(ht:SqAt k s.heap l items)(hx:items[i]?=none)
  (hE:∀h' e,Heap.ExtBut it s.heap h'->(∃o,h'.get? e=some o/\o.cls=.type "StopIteration")->E (.ref e) {s with heap:=h'}) :
  wpAny (model prog w) A (Builtin.SmallTypes.nextOf (.ref it)) Q E s:=by
 cases k
 .exact wpAny_nextOf_list_end hh hit ht hx hE
 .exact X3 hh hit ht hx hE
theorem G0{k:Bool}{l:Addr}{items:Array Value}{Q:Value->Shared->Prop}(ht:SqAt k s.heap l items)(hQ:Q (.ref s.heap.objs.size) {s with heap:=s.heap.push (J3 k l)}):wpAny (model prog w) A (pyIter (.ref l)) Q E s:=by
 cases k
 .exact wpAny_pyIter_list ht hQ
 .exact wpAny_pyIter_tuple ht hQ
end
section
variable {prog:Program}{w:World}{A:Around}{E:Value->Shared->Prop}{s:Shared}{k1 k2:Bool}
theorem a4k{z TI TO i1 i2 l1 l2:Addr}{n1 n2:Nat}{xs ys:Array Value}{x y a b:Value}{Q:Value->Shared->Prop}(D:ZipApart z TI TO i1 i2 l1 l2)
  (hz:IsZip s.heap z TI TO .none) (hTI:IsPair s.heap TI (.ref i1) (.ref i2)) (hTO:IsPair s.heap TO a b)
  (h1:ItAt k1 s.heap i1 l1 n1) (h2:ItAt k2 s.heap i2 l2 n2) (hl1:SqAt k1 s.heap l1 xs) (hl2:SqAt k2 s.heap l2 ys) (hx:xs[n1]?=some x) (hy:ys[n2]?=some y)
  (hQ:∀h',IsZip h' z TI TO (rawInt s.heap.objs.size)->IsPair h' TO x y->ItAt k1 h' i1 l1 (n1+1)->ItAt k2 h' i2 l2 (n2+1)->IsPair h' s.heap.objs.size x y->h'.objs.size=s.heap.objs.size+1 ->
   (∀c o,c≠z->c≠TO->c≠i1->c≠i2->s.heap.get? c=some o->h'.get? c=some o)->Q (.ref s.heap.objs.size) {s with heap:=h'}) :
  wpAny (model prog w) A (Builtin.«zip.__next__» ⟨[.ref z],[]⟩) (λfin s'=>∃v,fin=.done (.ret v)/\Q v s') E s:=by
 show wpAny _ _ (field (.ref z) 2>>=_) _ _ _;refine wpAny_bind (wpAny_field hz rfl (x:=.bool false) rfl ?_);show wpAny _ _ (field (.ref z) 3>>=_) _ _ _;refine wpAny_bind (wpAny_field hz rfl (x:=.ref TI) rfl ?_);refine wpAny_bind (wpAny_seqItems hTI rfl ?_);show wpAny _ _ (Builtin.SmallTypes.ownedTupleIsFree (.ref z)>>=_) _ _ _;refine wpAny_bind ?_;unfold Builtin.SmallTypes.ownedTupleIsFree;refine wpAny_bind (wpAny_field hz rfl (x:=.none) rfl (wpAny_pure ?_));simp only[if_true];refine wpAny_bind (wpAny_rule ?_);refine wpAny_bind (wpAny_field hz rfl (x:=.ref TO) rfl ?_);refine wpAny_bind (wpAny_setField_rec hz (by simp) λh₁ hz₁ hs₁=>?_);replace hz₁:IsZip h₁ z TI TO .ellipsis:=hz₁;refine wpAny_bind ?_;simp only[List.zipIdx_cons,List.zipIdx_nil,List.forIn_cons,List.forIn_nil];refine wpAny_bind (wpAny_bind (wpAny_onRaise ?_));show wpAny _ _ (Builtin.SmallTypes.nextOf (.ref i1)>>=_) _ _ _;refine wpAny_bind (N3 (h1.extBut hs₁.extBut D.i1z) (hl1.extBut hs₁.extBut D.l1z) hx λh₂ h1₂ hs₂=>wpAny_pure ?_);have hTO₂:IsPair h₂ TO a b:=hs₂.extBut _ _ D.TOi1 (hs₁.extBut _ _ D.TOz hTO);refine wpAny_bind (wpAny_seqItems hTO₂ rfl ?_);refine wpAny_bind (wpAny_updateSeq_pair hTO₂ λh₃ hTO₃ hs₃=>?_);replace hTO₃:IsPair h₃ TO x b:=hTO₃;refine wpAny_bind (wpAny_letGo (wpAny_pure ?_));refine wpAny_bind (wpAny_bind (wpAny_onRaise ?_));show wpAny _ _ (Builtin.SmallTypes.nextOf (.ref i2)>>=_) _ _ _;refine wpAny_bind (N3 (((h2.extBut hs₁.extBut D.i2z).extBut hs₂.extBut D.i12.symm).extBut hs₃.extBut D.TOi2.symm)
  (((hl2.extBut hs₁.extBut D.l2z).extBut hs₂.extBut D.l2i1).extBut hs₃.extBut D.l2TO) hy λh₄ h2₄ hs₄=>wpAny_pure ?_)
 have hTO₄:IsPair h₄ TO x b:=hs₄.extBut _ _ D.TOi2 hTO₃;refine wpAny_bind (wpAny_seqItems hTO₄ rfl ?_);refine wpAny_bind (wpAny_updateSeq_pair hTO₄ λh₅ hTO₅ hs₅=>?_);replace hTO₅:IsPair h₅ TO x y:=hTO₅;refine wpAny_bind (wpAny_letGo (wpAny_pure (wpAny_pure ?_)));refine wpAny_bind (wpAny_seqItems hTO₅ rfl ?_);refine wpAny_bind (wpAny_newTuple ?_);have hsz:h₅.objs.size=s.heap.objs.size:=by rw[hs₅.1,hs₄.1,hs₃.1,hs₂.1,hs₁.1]
 have hz₅:IsZip h₅ z TI TO .ellipsis:=hs₅.extBut _ _ D.TOz.symm (hs₄.extBut _ _ D.i2z.symm (hs₃.extBut _ _ D.TOz.symm (hs₂.extBut _ _ D.i1z.symm hz₁)));have hk₅:∀c o,c≠z->c≠TO->c≠i1->c≠i2->s.heap.get? c=some o->h₅.get? c=some o:=λc o c1 c2 c3 c4 e =>
  hs₅.extBut _ _ c2 (hs₄.extBut _ _ c4 (hs₃.extBut _ _ c2 (hs₂.extBut _ _ c3 (hs₁.extBut _ _ c1 e))))
 have h1₅:ItAt k1 h₅ i1 l1 (n1+1):=((h1₂.extBut hs₃.extBut D.TOi1.symm).extBut hs₄.extBut D.i12).extBut hs₅.extBut D.TOi1.symm;have h2₅:ItAt k2 h₅ i2 l2 (n2+1):=h2₄.extBut hs₅.extBut D.TOi2.symm;have hzlt:z<h₅.objs.size:=Heap.lt_size hz₅;show wpAny _ _ (Builtin.SmallTypes.ownedTupleHandOut (.ref z) (.ref h₅.objs.size)>>=_) _ _ _;refine wpAny_bind ?_;unfold Builtin.SmallTypes.ownedTupleHandOut;have hz₆:IsZip (h₅.push {cls:=.type "tuple",data:=.seq #[x,y]}) z TI TO .ellipsis:=Heap.get?_push_of_some _ hz₅;refine wpAny_bind (wpAny_setField_rec hz₆ (by simp) λh₇ hz₇ hs₇=>?_);replace hz₇:IsZip h₇ z TI TO (rawInt h₅.objs.size):=hz₇;refine wpAny_setField_rec hz₇ (by simp) λh₈ hz₈ hs₈=>?_;replace hz₈:IsZip h₈ z TI TO (rawInt h₅.objs.size):=hz₈;have up:∀c o,c≠z->h₅.get? c=some o->h₈.get? c=some o:=λc o c1 e=>hs₈.extBut _ _ c1 (hs₇.extBut _ _ c1 (Heap.get?_push_of_some _ e));have hT₈:IsPair h₈ h₅.objs.size x y:=hs₈.extBut _ _ (Nat.ne_of_gt hzlt) (hs₇.extBut _ _ (Nat.ne_of_gt hzlt) (Heap.get?_push_size _ rfl));have hz8:h₈.objs.size=h₅.objs.size+1:=by rw[hs₈.1,hs₇.1,Heap.size_push]
 rw[hsz]at hz₈ hT₈ hz8;refine wpAny_pure ⟨_,rfl,?_⟩;show Q (.ref h₅.objs.size) _;rw[hsz];exact hQ h₈ hz₈ (up _ _ D.TOz hTO₅) (h1₅.at λo e=>up _ o D.i1z e) (h2₅.at λo e=>up _ o D.i2z e) hT₈ hz8 λc o c1 c2 c3 c4 e=>up c o c1 (hk₅ c o c1 c2 c3 c4 e)
theorem a6i{z TI TO i1 i2 l1 l2:Addr}{n1 n2:Nat}{xs ys:Array Value}{a b:Value}{Q:Fin->Shared->Prop}(hh:A.handled=none)(D:ZipApart z TI TO i1 i2 l1 l2)
  (hz:IsZip s.heap z TI TO .none) (hTI:IsPair s.heap TI (.ref i1) (.ref i2)) (hTO:IsPair s.heap TO a b)
  (h1:ItAt k1 s.heap i1 l1 n1) (h2:ItAt k2 s.heap i2 l2 n2) (hl1:SqAt k1 s.heap l1 xs) (hl2:SqAt k2 s.heap l2 ys) (hend:xs[n1]?=none∨ys[n2]?=none)
  (hE:∀h' e,(∀c o,c≠z->c≠TO->c≠i1->c≠i2->s.heap.get? c=some o->h'.get? c=some o)->(∃o,h'.get? e=some o/\o.cls=.type "StopIteration")->E (.ref e) {s with heap:=h'}) :
  wpAny (model prog w) A (Builtin.«zip.__next__» ⟨[.ref z],[]⟩) Q E s:=by
 show wpAny _ _ (field (.ref z) 2>>=_) _ _ _;refine wpAny_bind (wpAny_field hz rfl (x:=.bool false) rfl ?_);show wpAny _ _ (field (.ref z) 3>>=_) _ _ _;refine wpAny_bind (wpAny_field hz rfl (x:=.ref TI) rfl ?_);refine wpAny_bind (wpAny_seqItems hTI rfl ?_);show wpAny _ _ (Builtin.SmallTypes.ownedTupleIsFree (.ref z)>>=_) _ _ _;refine wpAny_bind ?_;unfold Builtin.SmallTypes.ownedTupleIsFree;refine wpAny_bind (wpAny_field hz rfl (x:=.none) rfl (wpAny_pure ?_));simp only[if_true];refine wpAny_bind (wpAny_rule ?_);refine wpAny_bind (wpAny_field hz rfl (x:=.ref TO) rfl ?_);refine wpAny_bind (wpAny_setField_rec hz (by simp) λh₁ hz₁ hs₁=>?_);replace hz₁:IsZip h₁ z TI TO .ellipsis:=hz₁;refine wpAny_bind ?_;simp only[List.zipIdx_cons,List.zipIdx_nil,List.forIn_cons,List.forIn_nil];refine wpAny_bind (wpAny_bind (wpAny_onRaise ?_));show wpAny _ _ (Builtin.SmallTypes.nextOf (.ref i1)>>=_) _ _ _;cases hx:xs[n1]? with
 |none =>
  refine wpAny_bind (V1 hh (h1.extBut hs₁.extBut D.i1z) (hl1.extBut hs₁.extBut D.l1z) hx λh₂ e hs₂ he=>?_);obtain⟨oe,hoe,hce⟩:=he;have hz₂:IsZip h₂ z TI TO .ellipsis:=hs₂ _ _ D.i1z.symm hz₁;have hez:e≠z:=λx=>by subst x;rw[hz₂]at hoe;cases hoe;simp at hce
  refine wpAny_setField_rec hz₂ (by simp) λh₃ _ hs₃=>hE h₃ e (λc o c1 _ c3 _ x=>hs₃.extBut _ _ c1 (hs₂ _ _ c3 (hs₁.extBut _ _ c1 x))) ⟨oe,hs₃.extBut _ _ hez hoe,hce⟩
 |some x =>
  have hy:ys[n2]?=none:=by rcases hend with h|h;rw[hx]at h;cases h;exact h
  refine wpAny_bind (N3 (h1.extBut hs₁.extBut D.i1z) (hl1.extBut hs₁.extBut D.l1z) hx λh₂ h1₂ hs₂=>wpAny_pure ?_);have hTO₂:IsPair h₂ TO a b:=hs₂.extBut _ _ D.TOi1 (hs₁.extBut _ _ D.TOz hTO);refine wpAny_bind (wpAny_seqItems hTO₂ rfl ?_);refine wpAny_bind (wpAny_updateSeq_pair hTO₂ λh₃ hTO₃ hs₃=>?_);refine wpAny_bind (wpAny_letGo (wpAny_pure ?_));refine wpAny_bind (wpAny_bind (wpAny_onRaise ?_));show wpAny _ _ (Builtin.SmallTypes.nextOf (.ref i2)>>=_) _ _ _;refine wpAny_bind (V1 hh (((h2.extBut hs₁.extBut D.i2z).extBut hs₂.extBut D.i12.symm).extBut hs₃.extBut D.TOi2.symm)
   (((hl2.extBut hs₁.extBut D.l2z).extBut hs₂.extBut D.l2i1).extBut hs₃.extBut D.l2TO) hy λh₄ e hs₄ he=>?_)
  obtain⟨oe,hoe,hce⟩:=he;have hz₄:IsZip h₄ z TI TO .ellipsis:=hs₄ _ _ D.i2z.symm (hs₃.extBut _ _ D.TOz.symm (hs₂.extBut _ _ D.i1z.symm hz₁));have hez:e≠z:=λx=>by subst x;rw[hz₄]at hoe;cases hoe;simp at hce
  refine wpAny_setField_rec hz₄ (by simp) λh₅ _ hs₅=>hE h₅ e (λc o c1 c2 c3 c4 x=>hs₅.extBut _ _ c1 (hs₄ _ _ c4 (hs₃.extBut _ _ c2 (hs₂.extBut _ _ c3 (hs₁.extBut _ _ c1 x))))) ⟨oe,hs₅.extBut _ _ hez hoe,hce⟩
noncomputable abbrev zH1(k1:Bool)(h:Heap)(l1:Addr):Heap:=h.push (J3 k1 l1)
noncomputable abbrev zH2(k1 k2:Bool)(h:Heap)(l1 l2:Addr):Heap:=(zH1 k1 h l1).push (J3 k2 l2)
noncomputable abbrev zH3(k1 k2:Bool)(h:Heap)(l1 l2:Addr):Heap:=(zH2 k1 k2 h l1 l2).push {cls:=.type "tuple",data:=.seq #[.ref h.objs.size,.ref (zH1 k1 h l1).objs.size]}
noncomputable abbrev zH4(k1 k2:Bool)(h:Heap)(l1 l2:Addr):Heap:=(zH3 k1 k2 h l1 l2).push {cls:=.type "tuple",data:=.seq #[.none,.none]}
noncomputable abbrev zH5(k1 k2:Bool)(h:Heap)(l1 l2:Addr):Heap:=(zH4 k1 k2 h l1 l2).push {cls:=.type "zip",data:=.fields #[.none,.bool false,.bool false,.ref (zH2 k1 k2 h l1 l2).objs.size,.ref (zH3 k1 k2 h l1 l2).objs.size]}
theorem a6h(l1 l2:Addr)(xs ys:Array Value) :
  Meets (Builtin.«zip.__new__» ⟨[.type "zip",.ref l1,.ref l2],[]⟩) (λ_ R s=>SqAt k1 s.heap l1 xs/\SqAt k2 s.heap l2 ys /\
   R (.ok (.ret (.ref (zH4 k1 k2 s.heap l1 l2).objs.size))) {s with heap:=zH5 k1 k2 s.heap l1 l2}) :=
 .of_wp λprog w A R s h=>by
  obtain⟨hp,g,d,tk,os⟩:=s;obtain⟨hl1,hl2,h⟩:=h;have hsub:=sub_zip;have hL1:SqAt k1 (Shared.heap ⟨hp,g,d,tk,os⟩) l1 xs:=hl1;have hL2:SqAt k2 (Shared.heap ⟨hp.push (J3 k1 l1),g,d,tk,os⟩) l2 ys:=hl2.at λo e=>Heap.get?_push_of_some _ e
  wp_walk using G0 hL1,G0 hL2
  exact⟨_,rfl,h⟩
theorem a4l{l1 l2:Addr}{xs ys:Array Value}{Q:Value->Shared->Prop}(hl1:SqAt k1 s.heap l1 xs)(hl2:SqAt k2 s.heap l2 ys)
  (h:∀h',IsZip h' (s.heap.objs.size+4) (s.heap.objs.size+2) (s.heap.objs.size+3) .none->IsPair h' (s.heap.objs.size+2) (.ref s.heap.objs.size) (.ref (s.heap.objs.size+1)) ->
   IsPair h' (s.heap.objs.size+3) .none .none->ItAt k1 h' s.heap.objs.size l1 0->ItAt k2 h' (s.heap.objs.size+1) l2 0->h'.objs.size=s.heap.objs.size+5 ->
   (∀c o,s.heap.get? c=some o->h'.get? c=some o)->Q (.ref (s.heap.objs.size+4)) {s with heap:=h'}) :
  wpAny (model prog w) A (call (.type "zip") [.ref l1,.ref l2]) Q E s:=by
 refine callType_new F.called_zip (by decide) (F.typeCall_zip_2 _ _) (F.newCall_zip_2 _ _) (λobj=>F.args_object_init_3 obj _ _) F.entry_zip_new
  (a6h (k1:=k1) (k2:=k2) l1 l2 xs ys) ⟨hl1,hl2,?_⟩
 have z1:(zH1 k1 s.heap l1).objs.size=s.heap.objs.size+1:=Heap.size_push ..;have z2:(zH2 k1 k2 s.heap l1 l2).objs.size=s.heap.objs.size+2:=by rw[Heap.size_push,z1]
 have z3:(zH3 k1 k2 s.heap l1 l2).objs.size=s.heap.objs.size+3:=by rw[Heap.size_push,z2]
 have z4:(zH4 k1 k2 s.heap l1 l2).objs.size=s.heap.objs.size+4:=by rw[Heap.size_push,z3]
 have z5:(zH5 k1 k2 s.heap l1 l2).objs.size=s.heap.objs.size+5:=by rw[Heap.size_push,z4]
 have g5:(zH5 k1 k2 s.heap l1 l2).get? (zH4 k1 k2 s.heap l1 l2).objs.size=some _:=Heap.get?_push_size _ rfl;have g4:(zH5 k1 k2 s.heap l1 l2).get? (zH3 k1 k2 s.heap l1 l2).objs.size=some _:=Heap.get?_push_of_some _ (Heap.get?_push_size _ rfl);have g3:(zH5 k1 k2 s.heap l1 l2).get? (zH2 k1 k2 s.heap l1 l2).objs.size=some _:=Heap.get?_push_of_some _ (Heap.get?_push_of_some _ (Heap.get?_push_size _ rfl));have g2:(zH5 k1 k2 s.heap l1 l2).get? (zH1 k1 s.heap l1).objs.size=some (J3 k2 l2):=Heap.get?_push_of_some _ (Heap.get?_push_of_some _ (Heap.get?_push_of_some _ (Heap.get?_push_size _ rfl)));have g1:(zH5 k1 k2 s.heap l1 l2).get? s.heap.objs.size=some (J3 k1 l1):=Heap.get?_push_of_some _ (Heap.get?_push_of_some _ (Heap.get?_push_of_some _ (Heap.get?_push_of_some _ (Heap.get?_push_size _ rfl))));show _/\_;rw[z2,z3,z4]at g5;rw[z1,z2]at g3;rw[z3]at g4;rw[z1]at g2;rw[z4];refine⟨⟨_,g5,rfl⟩,h _ g5 g3 g4 ?_ ?_ z5 λc o x =>
  Heap.get?_push_of_some _ (Heap.get?_push_of_some _ (Heap.get?_push_of_some _ (Heap.get?_push_of_some _ (Heap.get?_push_of_some _ x))))⟩
 .cases k1<;>exact⟨_,g1,rfl,rfl⟩
 .cases k2<;>exact⟨_,g2,rfl,rfl⟩
end
def SqK(k:Bool)(K:PySem.W.Frag)(H:Hp)(a:Addr)(xs:List V):Prop:=match k with|true=>SqT K H a xs|false=>SqL K H a xs
theorem Inv.sqk{X:Cx}{pins:List (Addr×Obj)}{σ:St}{H:Hp}{s:Shared}{k:Bool}{a:Addr}{xs:List V}(I:Inv X pins σ H s)(h:SqK k X.K H a xs):∃its:List Value,Vals xs its/\SqAt k s.heap a its.toArray/\xs.length<=sizeLine:=by
 cases k
 .obtain⟨its,r,p,z⟩:=I.list h;exact⟨its,r,p.isList,z⟩
 .obtain⟨its,r,p,z⟩:=I.tuple h;exact⟨its,r,p,z⟩
theorem Inv.sqk_inj{X:Cx}{pins:List (Addr×Obj)}{σ:St}{H:Hp}{s:Shared}{k:Bool}{a:Addr}{xs ys:List V}(I:Inv X pins σ H s)(h:SqK k X.K H a xs)(h':SqK k X.K H a ys):xs=ys:=by
 cases k
 .exact I.list_inj h h'
 .exact I.tuple_inj h h'
noncomputable def Itz(K:PySem.W.Frag)(k1 k2:Bool)(a b:Addr):It :=
 ⟨λi H=>∃xs ys x y,SqK k1 K H a xs/\SqK k2 K H b ys/\xs[i]?=some x/\ys[i]?=some y,
  λi H v H'=>∃p x y,v=.ref p/\H p=none/\H'=upd H p (.tup [x,y])/\(∀xs,SqK k1 K H a xs->xs[i]?=some x)/\∀ys,SqK k2 K H b ys->ys[i]?=some y,
  λi H=>∃xs ys,SqK k1 K H a xs/\SqK k2 K H b ys/\(xs.length<=i∨ys.length<=i)⟩
structure ZTurn(k1 k2:Bool)(z TI TO i1 i2 a b:Addr)(i:Nat)(f0:Value)(h:Heap):Prop where
 zz:IsZip h z TI TO f0
 ti:IsPair h TI (.ref i1) (.ref i2)
 to:∃u v,IsPair h TO u v
 t1:ItAt k1 h i1 a i
 t2:ItAt k2 h i2 b i
structure ZNe(z TI TO i1 i2:Addr):Prop where
 TIz:TI≠z
 TOz:TO≠z
 i1z:i1≠z
 i2z:i2≠z
 TITO:TI≠TO
 TIi1:TI≠i1
 TIi2:TI≠i2
 TOi1:TO≠i1
 TOi2:TO≠i2
 i12:i1≠i2
section
variable {X:Cx}{pins:List (Addr×Obj)}{σ:St}{H:Hp}{s:Shared}
theorem Inv.turnedT{h':Heap}{ch:List Addr}{p:Addr}{o:HO}(I:Inv X pins σ H s)(hf:∀b∈ch,T7 X pins H b)(hp:s.heap.objs.size=p)(k:∀b o,b∉ch->s.heap.get? b=some o->h'.get? b=some o)
  (new:ObjOk X.prog X.w (upd H p o) h' p o):Inv X pins σ (upd H p o) {s with heap:=h'}:=by
 have hn:H p=none:=I.hok.fresh (Nat.le_of_eq hp);have nit:∀b u,H b=some u->b∉ch:=λb u e z=>by rw[(hf b z).1]at e;cases e
 have nep:∀b u,H b=some u->b≠p:=λb u e z=>by rw[z,hn]at e;cases e
 have nap:∀b u,s.heap.get? b=some u->b≠p:=λb u e=>by
  rw[<-hp];exact Nat.ne_of_lt (Heap.lt_size e)
 refine I.step (g':=s.gens) (d':=s.drawn) (t':=s.toks) (ch:=ch) (λb hb=>?_) (λb o _ _ hc e _=>k b o hc e) (λb o _ _ hc e _=>⟨o.slots,k b o hc e⟩) (λb u _ e n=>by rw[A3 (nap b u e)];exact n)
  (λb o hc e=>⟨o,k b o hc e⟩) (λb xs e=>by rw[A3 (nep b _ e)];exact e) (λb u v e=>by rw[A3 (nep b _ e)];exact e) (λb ps e=>⟨#[],by rw[A3 (nep b _ e),e];simp⟩) (λm hm=>?_) (λb u e=>?_) I.bare
 .obtain⟨_,h1,_,h3,h4,h5⟩:=hf b hb;exact⟨h3,h1,h4,h5⟩
 .obtain⟨o,es,ep,ho,r⟩:=hm;exact⟨o,es,ep,k _ o (λz=>(hf _ z).2.1 rfl) ho,r⟩
 .by_cases hb:b=p
  .subst hb;rw[A0]at e;cases e;exact new
  .rw[A3 hb]at e;refine(I.hok b u e).stay (λc v hc q=>k c v ?_ q) (λc q=>by rw[A3 (nep c _ q)];exact q) λc xs q=>by rw[A3 (nep c _ q)];exact q
   rcases hc with z|z
   .rw[z];exact nit b u e
   .exact nit c _ z
theorem Inv.turnedL{h':Heap}{ch:List Addr}(I:Inv X pins σ H s)(hf:∀b∈ch,T7 X pins H b)(k:∀b o,b∉ch->s.heap.get? b=some o->h'.get? b=some o):Inv X pins σ H {s with heap:=h'}:=by
 have nit:∀b u,H b=some u->b∉ch:=λb u e z=>by rw[(hf b z).1]at e;cases e
 refine I.step (g':=s.gens) (d':=s.drawn) (t':=s.toks) (ch:=ch) (λb hb=>?_) (λb o _ _ hc e _=>k b o hc e) (λb o _ _ hc e _=>⟨o.slots,k b o hc e⟩) (λb u _ e n=>n)
  (λb o hc e=>⟨o,k b o hc e⟩) (λb xs e=>e) (λb u v e=>e) (λb ps e=>⟨#[],by rw[e];simp⟩) (λm hm=>?_) (λb u e=>?_) I.bare
 .obtain⟨_,h1,_,h3,h4,h5⟩:=hf b hb;exact⟨h3,h1,h4,h5⟩
 .obtain⟨o,es,ep,ho,r⟩:=hm;exact⟨o,es,ep,k _ o (λz=>(hf _ z).2.1 rfl) ho,r⟩
 .refine(I.hok b u e).stay (λc v hc q=>k c v ?_ q) (λc q=>q) λc xs q=>q;rcases hc with z|z
  .rw[z];exact nit b u e
  .exact nit c _ z
theorem Inv.apart{k:Bool}{a:Addr}{xs:List V}{b:Addr}{o:Obj}(I:Inv X pins σ H s)(hs:SqK k X.K H a xs)(hf:T7 X pins H b):a≠b:=by
 rintro rfl;have inH:∀{u:HO},Rd H a u->False:=λr=>by
  rcases r with r|⟨o,r⟩<;>rw[hf.1]at r<;>cases r
 have inK:∀{ob:Obj},X.K.lookup a=some ob->False:=λe=>by
  have e0:=I.mod.kin a _ e;rcases hf.2.2.2.1 with z|z
  .exact I.ok.noex _ _ e0 z
  .exact absurd (Nat.lt_of_lt_of_le (Heap.lt_size (I.ok.bs _ _ e0).1) z) (Nat.lt_irrefl _)
 cases k
 .rcases hs with r|⟨ob,_,_,e,_⟩
  .exact inH r
  .exact inK e
 .rcases hs with r|⟨ob,_,_,e,_⟩
  .exact inH r
  .exact inK e
end
theorem a4q{P:Program}{w:World}{K:PySem.W.Frag}{es:List Expr}{kt:Nat}{tp:Pos}{k1 k2:Bool}{a b z TI TO i1 i2:Addr}(D:ZNe z TI TO i1 i2) :
  Turn P w K (.Tuple es kt tp) (Itz K k1 k2 a b) [z,TI,TO,i1,i2] z (λi h=>ZTurn k1 k2 z TI TO i1 i2 a b i .none h) where
 mem:=by simp
 obj:=λi h st c hc=>by
  simp only[List.mem_cons,List.not_mem_nil,or_false]at hc;rcases hc with rfl|rfl|rfl|rfl|rfl
  .exact⟨_,st.zz,λv z=>by cases z⟩
  .exact⟨_,st.ti,λv z=>by cases z⟩
  .obtain⟨u,v,q⟩:=st.to;exact⟨_,q,λv z=>by cases z⟩
  .obtain⟨o,e,d⟩:=st.t1.get;exact⟨o,e,λv z=>by rw[d]at z;cases z⟩
  .obtain⟨o,e,d⟩:=st.t2.get;exact⟨o,e,λv z=>by rw[d]at z;cases z⟩
 keep:=λi h h' st k=>⟨k z (by simp) _ st.zz,k TI (by simp) _ st.ti,let ⟨u,v,q⟩:=st.to;⟨u,v,k TO (by simp) _ q⟩,st.t1.at λo e=>k i1 (by simp) o e,st.t2.at λo e=>k i2 (by simp) o e⟩
 item:=by
  intro X hP hw hK hc i pins s σ H E I hf st hg;subst hP hw hK;obtain⟨xs,ys,x,y,hx1,hy1,hx,hy⟩:=hg;obtain⟨us,ru,pu,zu⟩:=I.sqk hx1;obtain⟨ws,rw',pw,zw⟩:=I.sqk hy1;obtain⟨u,hu,rux⟩:=ru.get hx;obtain⟨v,hv,rvy⟩:=rw'.get hy;have ap:∀c∈[z,TI,TO,i1,i2],a≠c/\b≠c:=λc hc=>⟨I.apart (o:=default) hx1 (hf c hc),I.apart (o:=default) hy1 (hf c hc)⟩;have D':ZipApart z TI TO i1 i2 a b:=⟨D.TIz,D.TOz,D.i1z,D.i2z,D.TITO,D.TIi1,D.TIi2,D.TOi1,D.TOi2,D.i12,(ap z (by simp)).1,(ap TO (by simp)).1,(ap i1 (by simp)).1,(ap i2 (by simp)).1,(ap z (by simp)).2,(ap TO (by simp)).2,(ap i1 (by simp)).2,(ap i2 (by simp)).2⟩;obtain⟨ua,ub,hTO⟩:=st.to;have hT:s.TypeIs (.ref z) "zip":=⟨_,st.zz,rfl⟩;unfold pyNext;refine wpAny_bind (wpAny_attempt (wpAny_callSpecial?_slot (name:=Str.ofString "__next__") hT F.slot_zip_next
   (wpAny_call_entry F.slot_zip_next hT F.entry_zip_next
    (a4k D' st.zz st.ti hTO st.t1 st.t2 pu pw (x:=u) (y:=v) (by simpa using hu) (by simpa using hv) λh' a1 a2 a3 a4 a5 a6 a7=>wpAny_pure ?_) (F.args_zip_next_1 _))))
  refine⟨_,rfl,?_⟩;refine wpAny_letOwnedTupleGo_zip (s:={s with heap:=h'}) a1 λh2 hz2 hs2=>?_;have ne:∀c∈[z,TI,TO,i1,i2],c≠s.heap.objs.size:=λc hc e=>by
   have:∃o,s.heap.get? c=some o:=by
    simp only[List.mem_cons,List.not_mem_nil,or_false]at hc;rcases hc with rfl|rfl|rfl|rfl|rfl
    .exact⟨_,st.zz⟩
    .exact⟨_,st.ti⟩
    .exact⟨_,hTO⟩
    .obtain⟨o,e,d⟩:=st.t1.get;exact⟨o,e⟩
    .obtain⟨o,e,d⟩:=st.t2.get;exact⟨o,e⟩
   obtain⟨o,q⟩:=this;exact absurd (Heap.lt_size q) (by rw[e];exact Nat.lt_irrefl _)
  have hfree:H s.heap.objs.size=none:=I.hok.fresh (Nat.le_refl _);have pr2:IsPair h2 s.heap.objs.size u v:=hs2.extBut _ _ (ne z (by simp)).symm a5;have kk:∀c o,c∉[z,TI,TO,i1,i2]->s.heap.get? c=some o->h2.get? c=some o:=λc o hc e=>by
   simp only[List.mem_cons,List.not_mem_nil,or_false,not_or]at hc;exact hs2.extBut _ _ hc.1 (a7 c o hc.1 hc.2.2.1 hc.2.2.2.1 hc.2.2.2.2 e)
  have I2:Inv X pins σ (upd H s.heap.objs.size (.tup [x,y])) {s with heap:=h2} :=
   I.turnedT (ch:=[z,TI,TO,i1,i2]) hf rfl kk ⟨by show 2<=sizeLine;decide,[u,v],.cons rux (.cons rvy .nil),⟨_,pr2,rfl,0,rfl⟩⟩
  refine⟨.ref s.heap.objs.size,_,I2,rfl,⟨_,x,y,rfl,hfree,rfl,λzs hz=>?_,λzs hz=>?_⟩,⟨hz2,hs2.extBut _ _ D.TIz (a7 _ _ D.TIz D.TITO D.TIi1 D.TIi2 st.ti),⟨u,v,hs2.extBut _ _ D.TOz a2⟩,a3.extBut hs2.extBut D.i1z,a4.extBut hs2.extBut D.i2z⟩,λc hc=>?_⟩
  .rw[I.sqk_inj hz hx1];exact hx
  .rw[I.sqk_inj hz hy1];exact hy
  .rw[A3 (ne c hc)];exact(hf c hc).1
 done:=by
  intro X hP hw hK hc i pins s σ H E I hf st hg;subst hP hw hK;obtain⟨xs,ys,hx1,hy1,hend⟩:=hg;obtain⟨us,ru,pu,zu⟩:=I.sqk hx1;obtain⟨ws,rw',pw,zw⟩:=I.sqk hy1;have l1:=ru.length;have l2:=rw'.length;have ap:∀c∈[z,TI,TO,i1,i2],a≠c/\b≠c:=λc hc=>⟨I.apart (o:=default) hx1 (hf c hc),I.apart (o:=default) hy1 (hf c hc)⟩;have D':ZipApart z TI TO i1 i2 a b:=⟨D.TIz,D.TOz,D.i1z,D.i2z,D.TITO,D.TIi1,D.TIi2,D.TOi1,D.TOi2,D.i12,(ap z (by simp)).1,(ap TO (by simp)).1,(ap i1 (by simp)).1,(ap i2 (by simp)).1,(ap z (by simp)).2,(ap TO (by simp)).2,(ap i1 (by simp)).2,(ap i2 (by simp)).2⟩;obtain⟨ua,ub,hTO⟩:=st.to;have hT:s.TypeIs (.ref z) "zip":=⟨_,st.zz,rfl⟩;unfold pyNext;refine wpAny_bind (wpAny_attempt (wpAny_callSpecial?_slot (name:=Str.ofString "__next__") hT F.slot_zip_next
   (wpAny_call_entry F.slot_zip_next hT F.entry_zip_next (a6i (I.ok.hd hc) D' st.zz st.ti hTO st.t1 st.t2 pu pw ?_ λh' e hk he=>?_) (F.args_zip_next_1 _))))
  .rcases hend with q|q
   .exact .inl (by simp;omega)
   .exact .inr (by simp;omega)
  .obtain⟨o,ho,hc⟩:=he;refine wpAny_bind (wpAny_isInstance (T:="StopIteration") (b:=true) ⟨o,ho,hc⟩ isSubtype_stop ?_);refine wpAny_pure ⟨rfl,I.turnedL (ch:=[z,TI,TO,i1,i2]) hf λc o hc e=>?_⟩;simp only[List.mem_cons,List.not_mem_nil,or_false,not_or]at hc;exact hk c o hc.1 hc.2.2.1 hc.2.2.2.1 hc.2.2.2.2 e
 self:=λA i s Q E st h=>wpAny_pyIter_zip st.zz h
theorem nne{a b:Nat}(h:a≠b):@Ne Addr a b:=h
theorem zne(n:Nat):ZNe (n+4) (n+2) (n+3) n (n+1) :=
 ⟨nne (by omega),nne (by omega),nne (by omega),nne (by omega),nne (by omega),nne (by omega),nne (by omega),nne (by omega),nne (by omega),nne (by omega)⟩
def a9Y(K:PySem.W.Frag)(ta:TA):TI:=λσ H R=>ta σ H λvs H1=>∃k1 k2 a b,vs=[.ref a,.ref b]/\(∃xs,SqK k1 K H1 a xs)/\(∃ys,SqK k2 K H1 b ys)/\R (Itz K k1 k2 a b) H1
section
variable {X:Cx}
theorem a8Y{es:List Expr}{kt:Nat}{tp:Pos}{a b:Expr}{ta:TA}{p pos:Pos}(hg:Gl X "zip")(hm:X.mg "zip"=none)(ha:PA X [a,b] ta)(hbz:bootBuiltins "zip"=some (.type "zip"))
  (hs:starEach [a,b] X.env=[(false,eval a X.env),(false,eval b X.env)]:=by rfl) (hs2:starEach [b] X.env=[(false,eval b X.env)]:=by rfl) :
  PI X (.Tuple es kt tp) (.Call (.Name "zip" p) [a,b] [] pos) (a9Y X.K ta):=by
 intro pins s σ H R I h;refine Call_ (E5 I hg hm hbz (PyProof.Rows.callWith_type1 (thn (ha pos pins s σ H _ I h) λus s1 ⟨vs,H1,I1,r1,q1⟩=>?_) (by rw[hs,hs2]) (by rw[hs2];rfl)));obtain⟨k1,k2,l1,l2,e,⟨xs,hx⟩,⟨ys,hy⟩,q⟩:=q1;subst e;cases r1 with
 |cons r rr =>
  cases rr with
  |cons r' rr =>
   cases rr;cases r;cases r';obtain⟨us,ru,pu,zu⟩:=I1.sqk hx;obtain⟨ws,rw',pw,zw⟩:=I1.sqk hy;refine a4l pu pw λh' z1 z2 z3 z4 z5 z6 z7=>?_;refine wpAny_pyIter_zip (s:={s1 with heap:=h'}) z1 ?_;refine⟨s1.heap.objs.size+4,[s1.heap.objs.size+4,s1.heap.objs.size+2,s1.heap.objs.size+3,s1.heap.objs.size,s1.heap.objs.size+1],_,_,H1,rfl,I1.kept (t':=s1.toks) z7,a4q (zne _),
    ⟨z1,z2,⟨_,_,z3⟩,z4,z5⟩,λc hc=>?_,q⟩
   have hle:s1.heap.objs.size<=c:=by
    simp only[List.mem_cons,List.not_mem_nil,or_false]at hc;rcases hc with rfl|rfl|rfl|rfl|rfl
    .exact Nat.le_add_right _ _
    .exact Nat.le_add_right _ _
    .exact Nat.le_add_right _ _
    .exact Nat.le_refl _
    .exact Nat.le_add_right _ _
   exact I1.fpOk hle (I1.hok.fresh hle)
end
theorem W2{prog:Program}{w:World}{A:Around}{k:Bool}{I l:Addr}{items:Array Value}(hh:A.handled=none)(hne:l≠I) :
  Walks prog w A I [I,l] [I] items.size (λi v=>items[i]?=some v) (λi h=>ItAt k h I l i/\SqAt k h l items):=by
 cases k
 .exact Walks.list hh I l hne items
 .exact Walks.tuple hh I l hne items
noncomputable def trV:V->Bool
 |.bl b=>b
 |.int i=>i != 0
 |.non=>false
 |_=>true
noncomputable def a2Z:V->Bool
 |.bl _=>true
 |.int _=>true
 |.non=>true
 |_=>false
theorem T8{prog:Program}{w:World}{A:Around}{E:Value->Shared->Prop}{s:Shared}{x:V}{v:Value}{Q:Bool->Shared->Prop}(r:RelV x v)(f:a2Z x=true)(h:Q (trV x) s):wpAny (model prog w) A (truthy v) Q E s:=by
 cases x with
 |non=>cases r;exact truthy_none h
 |bl b=>cases r;exact wpAny_truthy_bool h
 |int i=>obtain⟨t,rfl⟩:=r;exact PySem.P.truthy_int h
 |_=>cases f
theorem a0h{α:Type}(xs:List α)(p:α->Bool)(d:α):(List.range xs.length).all (λi=>p (xs.getD i d))=xs.all p:=by
 rw[Bool.eq_iff_iff,List.all_eq_true,List.all_eq_true];constructor
 .intro h x hx;obtain⟨i,hi,rfl⟩:=List.mem_iff_getElem.mp hx;have:=h i (List.mem_range.mpr hi);simpa[List.getD_eq_getElem?_getD,hi]using this
 .intro h i hi;have hi':=List.mem_range.mp hi;simpa[List.getD_eq_getElem?_getD,hi']using h xs[i] (List.getElem_mem hi')
theorem a3n{α:Type}(xs:List α)(p:α->Bool)(d:α):(List.range xs.length).any (λi=>p (xs.getD i d))=xs.any p:=by
 have:=a0h xs (λx=>!p x) d;rw[<-List.not_any_eq_all_not,<-List.not_any_eq_all_not]at this;simpa using this
theorem a2Q(xs:List Int):∀n,n<=xs.length->preSum (λi=>xs.getD i 0) n=(xs.take n).sum
 |0,_=>by simp[preSum]
 |n+1,h=>by
  have this:xs[n]?=some xs[n]:=List.getElem?_eq_getElem (by omega);have e:xs.take (n+1)=xs.take n++[xs[n]]:=by rw[List.take_add_one,this];rfl
  rw[preSum,a2Q xs n (by omega),e,List.sum_append];simp[List.getD_eq_getElem?_getD,this]
section
variable {X:Cx}
abbrev RL:=List V->Hp->VK->Prop
def a8R(K:PySem.W.Frag):RL:=λxs H Q=>∃(k:Bool) (p:Addr) (ys:List V),xs=[.ref p]/\SqK k K H p ys/\ys.all a2Z=true/\Q (.bl (ys.all trV)) H
def a8Q(K:PySem.W.Frag):RL:=λxs H Q=>∃(k:Bool) (p:Addr) (ys:List V),xs=[.ref p]/\SqK k K H p ys/\ys.all a2Z=true/\Q (.bl (ys.any trV)) H
def a8K(K:PySem.W.Frag):RL:=λxs H Q=>∃(k:Bool) (p:Addr) (ns:List Int),xs=[.ref p]/\SqK k K H p (ns.map V.int)/\Q (.int ns.sum) H
theorem a2s{k:Bool}{l:Addr}{items:Array Value}{s:Shared}(h:SqAt k s.heap l items):ItAt k (s.heap.push (J3 k l)) s.heap.objs.size l 0/\SqAt k (s.heap.push (J3 k l)) l items:=by
 refine⟨?_,h.at λo e=>Heap.get?_push_of_some _ e⟩;cases k<;>exact⟨_,Heap.get?_push_size _ rfl,rfl,rfl⟩
theorem X7{k:Bool}{l:Addr}{items:Array Value}{s:Shared}(h:SqAt k s.heap l items):l≠s.heap.objs.size:=by
 obtain⟨o,e⟩:=h.get;exact Nat.ne_of_lt (Heap.lt_size e)
theorem X9{s:Shared}{h':Heap}{o0:Obj}(hk:∀b o,b∉[s.heap.objs.size]->(s.heap.push o0).get? b=some o->h'.get? b=some o):∀b o,s.heap.get? b=some o->h'.get? b=some o:=λb o e =>
 hk b o (λz=>by have:=Heap.lt_size e;rw[List.mem_singleton.mp z]at this;exact Nat.lt_irrefl _ this) (Heap.get?_push_of_some _ e)
theorem a5Z(hc:X.calm=true):C6 X (.builtin "all") (a8R X.K):=by
 intro pins s σ H xs us Q I rv h;obtain⟨k,p,ys,rfl,hs,hf,q⟩:=h;obtain⟨u,rfl,ru⟩:=rv.one;cases ru;obtain⟨its,ri,sq,hz⟩:=I.sqk hs;have hh:X.A.in1.handled=none:=I.ok.hd hc;refine call_all_walk (G0 sq ?_);refine⟨s.heap.objs.size,_,_,_,_,_,λi=>trV (ys.getD i .non),rfl,W2 (k:=k) (l:=p) (items:=its.toArray) hh (X7 sq),a2s sq,?_,λh' tk hk=>?_⟩
 .intro i v s' Q' E' hv hq;have hv':its[i]?=some v:=by simpa using hv
  obtain⟨hi,_⟩:=List.getElem?_eq_some_iff.mp hv';have hi':i<ys.length:=by rw[ri.length];exact hi
  have hy:ys[i]?=some ys[i]:=List.getElem?_eq_getElem hi';obtain⟨v',e1,e2⟩:=ri.get hy;rw[hv']at e1;cases e1;refine T8 e2 (List.all_eq_true.mp hf _ (List.getElem_mem hi')) ?_;simpa[List.getD_eq_getElem?_getD,hy]using hq
 .have e:(List.range its.toArray.size).all (λi=>trV (ys.getD i .non))=ys.all trV:=by
   rw[List.size_toArray,<-ri.length];exact a0h ys trV .non
  rw[e];exact⟨.bl _,H,I.kept (X9 hk),rfl,q⟩
theorem a5Y(hc:X.calm=true):C6 X (.builtin "any") (a8Q X.K):=by
 intro pins s σ H xs us Q I rv h;obtain⟨k,p,ys,rfl,hs,hf,q⟩:=h;obtain⟨u,rfl,ru⟩:=rv.one;cases ru;obtain⟨its,ri,sq,hz⟩:=I.sqk hs;have hh:X.A.in1.handled=none:=I.ok.hd hc;refine call_any_walk (G0 sq ?_);refine⟨s.heap.objs.size,_,_,_,_,_,λi=>trV (ys.getD i .non),rfl,W2 (k:=k) (l:=p) (items:=its.toArray) hh (X7 sq),a2s sq,?_,λh' tk hk=>?_⟩
 .intro i v s' Q' E' hv hq;have hv':its[i]?=some v:=by simpa using hv
  obtain⟨hi,_⟩:=List.getElem?_eq_some_iff.mp hv';have hi':i<ys.length:=by rw[ri.length];exact hi
  have hy:ys[i]?=some ys[i]:=List.getElem?_eq_getElem hi';obtain⟨v',e1,e2⟩:=ri.get hy;rw[hv']at e1;cases e1;refine T8 e2 (List.all_eq_true.mp hf _ (List.getElem_mem hi')) ?_;simpa[List.getD_eq_getElem?_getD,hy]using hq
 .have e:(List.range its.toArray.size).any (λi=>trV (ys.getD i .non))=ys.any trV:=by
   rw[List.size_toArray,<-ri.length];exact a3n ys trV .non
  rw[e];exact⟨.bl _,H,I.kept (X9 hk),rfl,q⟩
theorem a5V(hc:X.calm=true):C6 X (.builtin "sum") (a8K X.K):=by
 intro pins s σ H xs us Q I rv h;obtain⟨k,p,ns,rfl,hs,q⟩:=h;obtain⟨u,rfl,ru⟩:=rv.one;cases ru;obtain⟨its,ri,sq,hz⟩:=I.sqk hs;have hl:=ri.length;rw[List.length_map]at hl;have hh:X.A.in1.handled=none:=I.ok.hd hc;refine call_sum_walkG (G0 sq ?_);refine⟨s.heap.objs.size,_,_,_,_,_,λi=>ns.getD i 0,rfl,W2 (k:=k) (l:=p) (items:=its.toArray) hh (X7 sq),a2s sq,λb hb=>?_,?_,λh' tk t' hk=>?_⟩
 .rw[Heap.size_push];obtain⟨o,e⟩:=sq.get;have hlt:=Heap.lt_size e;simp only[List.mem_cons,List.not_mem_nil,or_false]at hb;rcases hb with rfl|rfl
  .exact Nat.lt_succ_self _
  .exact Nat.lt_succ_of_lt hlt
 .intro i v hv;have hv':its[i]?=some v:=by simpa using hv
  obtain⟨hi,_⟩:=List.getElem?_eq_some_iff.mp hv';have hy:(ns.map V.int)[i]?=some (.int ns[i]):=by rw[List.getElem?_map,List.getElem?_eq_getElem (by omega)];rfl
  obtain⟨v',e1,t,e2⟩:=ri.get hy;rw[hv']at e1;cases e1;exact⟨t,by rw[e2];show _=Value.int (ns.getD i 0) t;rw[List.getD_eq_getElem?_getD,List.getElem?_eq_getElem (by omega)];rfl⟩
 .have e:preSum (λi=>ns.getD i 0) its.toArray.size=ns.sum:=by
   rw[List.size_toArray,<-hl,a2Q ns _ (Nat.le_refl _),List.take_length]
  rw[e];exact⟨.int ns.sum,H,I.kept (X9 hk),⟨t',rfl⟩,q⟩
def a8N(K:PySem.W.Frag):RL:=λxs H Q=>∃x n t b,xs=[x,.ty n]/\TyOf K H x t/\PySem.W.kitOne K t (.type n)=some b/\Q (.bl b) H
theorem a5W:C6 X (.builtin "isinstance") (a8N X.K):=by
 intro pins s σ H xs us Q I rv h;obtain⟨x,n,t,b,rfl,ty,e,q⟩:=h;obtain⟨u,v,rfl,ru,rv'⟩:=rv.two;cases rv';exact a3O I ru ty e λtk=>⟨.bl b,H,I.tok tk,rfl,q⟩
end
theorem a6b:bootBuiltins "len"=some (.builtin "len"):=boot_len
theorem b0e:bootBuiltins "zip"=some (.type "zip"):=by kernel_rfl
theorem b0h:bootBuiltins "all"=some (.builtin "all"):=by kernel_rfl
theorem b0g:bootBuiltins "any"=some (.builtin "any"):=by kernel_rfl
theorem b0f:bootBuiltins "sum"=some (.builtin "sum"):=by kernel_rfl
theorem a2A:bootBuiltins "min"=some (.builtin "min"):=by kernel_rfl
theorem a6a:bootBuiltins "max"=some (.builtin "max"):=by kernel_rfl
theorem P4:bootBuiltins "isinstance"=some (.builtin "isinstance"):=by kernel_rfl
theorem Z6:bootBuiltins "tuple"=some (.type "tuple"):=by kernel_rfl
theorem a7H:bootBuiltins "list"=some (.type "list"):=by kernel_rfl
theorem a6c:bootBuiltins "int"=some (.type "int"):=by kernel_rfl
theorem a7I:bootBuiltins "bool"=some (.type "bool"):=by kernel_rfl
theorem V7{src:List (Option Nat)}{g:TG}{tt:TT}{te:TE}{σ:St}{Q:VK}{J:It}{H1:Hp}(n:Nat)(Pv:Nat->List V->Hp->Prop)(h0:Pv 0 [] H1)
  (hs:∀i ys H,i<n->Pv i ys H->J.go i H/\ys.length<sizeLine/\∀x H',J.yld i H x H'->g x (B7 src σ) H' λσ2 H2=>Sub (B7 src σ) σ2/\tt σ2 H2 λb H3=>if b=true then te σ2 H3 λv H4=>Pv (i+1) (ys++[v]) H4 else Pv (i+1) ys H3)
  (hd:∀ys H,Pv n ys H->J.stop n H/\ys.length<=sizeLine/\∀p,H p=none->Q (.ref p) (upd H p (.lst ys))):N9 src g tt te σ Q J H1:=by
 refine⟨λi m ys H=>m=n-i/\i<=n/\Pv i ys H,⟨n,by omega,Nat.zero_le _,h0⟩,?_⟩;rintro i m ys H ⟨rfl,hi,p⟩;by_cases hlt:i<n
 .obtain⟨q1,q2,q3⟩:=hs i ys H hlt p;exact .inr ⟨q1,q2,Pv (i+1),λzs H' p'=>⟨n-(i+1),by omega,rfl,hlt,p'⟩,q3⟩
 .have e:i=n:=by omega
  subst e;exact .inl (hd ys H p)
theorem Z3{src:List (Option Nat)}{g:TG}{tt:TT}{te:TE}{σ:St}{Q:VK}{lo:Int}{n:Nat}{H1:Hp}(hn:n<=sizeLine)(Pv:Nat->List V->Hp->Prop)(h0:Pv 0 [] H1)
  (hl:∀i ys H,Pv i ys H->ys.length<=i)
  (hs:∀i ys H,i<n->Pv i ys H->g (.int (lo+i)) (B7 src σ) H λσ2 H2=>Sub (B7 src σ) σ2/\tt σ2 H2 λb H3=>if b=true then te σ2 H3 λv H4=>Pv (i+1) (ys++[v]) H4 else Pv (i+1) ys H3)
  (hd:∀ys H,Pv n ys H->∀p,H p=none->Q (.ref p) (upd H p (.lst ys))):N9 src g tt te σ Q (Itr lo n) H1 :=
 V7 n Pv h0 (λi ys H hi p=>⟨hi,by have:=hl i ys H p;omega,λx H' y=>by obtain⟨e,y⟩:=y;subst e y;exact hs i ys _ hi p⟩)
  λys H p=>⟨Nat.le_refl _,Nat.le_trans (hl n ys H p) hn,hd ys H p⟩
theorem T4{K:PySem.W.Frag}{src:List (Option Nat)}{g:TG}{tt:TT}{te:TE}{σ:St}{Q:VK}{a:Addr}{xs:List V}{H1:Hp}(hn:xs.length<=sizeLine)(Pv:Nat->List V->Hp->Prop)(h0:Pv 0 [] H1)
  (hq:∀i ys H,i<=xs.length->Pv i ys H->SqL K H a xs/\ys.length<=i)
  (hs:∀i x ys H,xs[i]?=some x->Pv i ys H->g x (B7 src σ) H λσ2 H2=>Sub (B7 src σ) σ2/\tt σ2 H2 λb H3=>if b=true then te σ2 H3 λv H4=>Pv (i+1) (ys++[v]) H4 else Pv (i+1) ys H3)
  (hd:∀ys H,Pv xs.length ys H->∀p,H p=none->Q (.ref p) (upd H p (.lst ys))):N9 src g tt te σ Q (Itl K a) H1 :=
 V7 xs.length Pv h0 (λi ys H hi p=>by
   obtain⟨q1,q2⟩:=hq i ys H (Nat.le_of_lt hi) p;refine⟨⟨xs,xs[i],q1,List.getElem?_eq_getElem hi⟩,by omega,λx H' y=>?_⟩;obtain⟨e,y⟩:=y;subst e;exact hs i x ys _ (y xs q1) p)
  λys H p=>by
   obtain⟨q1,q2⟩:=hq _ ys H (Nat.le_refl _) p;exact⟨⟨xs,q1,Nat.le_refl _⟩,by omega,hd ys H p⟩
theorem Z2{K:PySem.W.Frag}{src:List (Option Nat)}{g:TG}{tt:TT}{te:TE}{σ:St}{Q:VK}{a:Addr}{xs:List V}{H1:Hp}(hn:xs.length<=sizeLine)(Pv:Nat->List V->Hp->Prop)(h0:Pv 0 [] H1)
  (hq:∀i ys H,i<=xs.length->Pv i ys H->SqT K H a xs/\ys.length<=i)
  (hs:∀i x ys H,xs[i]?=some x->Pv i ys H->g x (B7 src σ) H λσ2 H2=>Sub (B7 src σ) σ2/\tt σ2 H2 λb H3=>if b=true then te σ2 H3 λv H4=>Pv (i+1) (ys++[v]) H4 else Pv (i+1) ys H3)
  (hd:∀ys H,Pv xs.length ys H->∀p,H p=none->Q (.ref p) (upd H p (.lst ys))):N9 src g tt te σ Q (Itt K a) H1 :=
 V7 xs.length Pv h0 (λi ys H hi p=>by
   obtain⟨q1,q2⟩:=hq i ys H (Nat.le_of_lt hi) p;refine⟨⟨xs,xs[i],q1,List.getElem?_eq_getElem hi⟩,by omega,λx H' y=>?_⟩;obtain⟨e,y⟩:=y;subst e;exact hs i x ys _ (y xs q1) p)
  λys H p=>by
   obtain⟨q1,q2⟩:=hq _ ys H (Nat.le_refl _) p;exact⟨⟨xs,q1,Nat.le_refl _⟩,by omega,hd ys H p⟩
theorem a1N{K:PySem.W.Frag}{src:List (Option Nat)}{g:TG}{tt:TT}{te:TE}{σ:St}{Q:VK}{k1 k2:Bool}{a b:Addr}{xs zs:List V}{H1:Hp}(hn:xs.length<=sizeLine)(Pv:Nat->List V->Hp->Prop)(h0:Pv 0 [] H1)
  (hq:∀i ys H,i<=xs.length->i<=zs.length->Pv i ys H->SqK k1 K H a xs/\SqK k2 K H b zs/\ys.length<=i)
  (hs:∀i x z ys H p,xs[i]?=some x->zs[i]?=some z->Pv i ys H->H p=none->g (.ref p) (B7 src σ) (upd H p (.tup [x,z])) λσ2 H2=>Sub (B7 src σ) σ2/\tt σ2 H2 λb H3=>if b=true then te σ2 H3 λv H4=>Pv (i+1) (ys++[v]) H4 else Pv (i+1) ys H3)
  (hd:∀ys H,Pv (min xs.length zs.length) ys H->∀p,H p=none->Q (.ref p) (upd H p (.lst ys))):N9 src g tt te σ Q (Itz K k1 k2 a b) H1 :=
 V7 (min xs.length zs.length) Pv h0 (λi ys H hi p=>by
   have hi1:i<xs.length:=by omega
   have hi2:i<zs.length:=by omega
   obtain⟨q1,q2,q3⟩:=hq i ys H (by omega) (by omega) p;refine⟨⟨xs,zs,xs[i],zs[i],q1,q2,List.getElem?_eq_getElem hi1,List.getElem?_eq_getElem hi2⟩,by omega,λx H' y=>?_⟩;obtain⟨pp,x',z',e,e2,e3,y1,y2⟩:=y;subst e e3;exact hs i x' z' ys _ pp (y1 xs q1) (y2 zs q2) p e2)
  λys H p=>by
   obtain⟨q1,q2,q3⟩:=hq _ ys H (by omega) (by omega) p;exact⟨⟨xs,zs,q1,q2,by omega⟩,by omega,hd ys H p⟩
theorem a7A{K:PySem.W.Frag}{k1 k2:Bool}{a b:Addr}{xs zs:List V}{g:TG}{tb:TS}{D:Ends}{σ:St}{H:Hp}(Pv:Nat->St->Hp->Prop)(h0:Pv 0 σ H)
  (hl:∀i σ H,i<=xs.length->i<=zs.length->Pv i σ H->SqK k1 K H a xs/\SqK k2 K H b zs)
  (hs:∀i x z σ H p,xs[i]?=some x->zs[i]?=some z->Pv i σ H->H p=none->g (.ref p) σ (upd H p (.tup [x,z])) λσ2 H2=>tb {D with nx:=Pv (i+1),ct:=Pv (i+1),bk:=D.nx} σ2 H2) (hd:∀σ H,Pv (min xs.length zs.length) σ H->D.nx σ H) :
  ∃W:Nat->Nat->St->Hp->Prop,(∃m,W 0 m σ H)/\∀i m σ H,W i m σ H ->
   ((Itz K k1 k2 a b).stop i H/\D.nx σ H)∨((Itz K k1 k2 a b).go i H/\∃N:St->Hp->Prop,(∀σ' H',N σ' H'->∃m',m'<m/\W (i+1) m' σ' H')/\∀x H',(Itz K k1 k2 a b).yld i H x H'->g x σ H' λσ2 H2=>tb {D with nx:=N,ct:=N,bk:=D.nx} σ2 H2):=by
 refine⟨λi m σ H=>m=min xs.length zs.length-i/\i<=min xs.length zs.length/\Pv i σ H,⟨_,rfl,Nat.zero_le _,h0⟩,?_⟩;rintro i m σ H ⟨rfl,hi,p⟩;obtain⟨q1,q2⟩:=hl i σ H (by omega) (by omega) p;by_cases hlt:i<min xs.length zs.length
 .have hi1:i<xs.length:=by omega
  have hi2:i<zs.length:=by omega
  refine .inr ⟨⟨xs,zs,xs[i],zs[i],q1,q2,List.getElem?_eq_getElem hi1,List.getElem?_eq_getElem hi2⟩,Pv (i+1),λσ' H' p'=>⟨_,by omega,rfl,hlt,p'⟩,λx H' y=>?_⟩;obtain⟨pp,x',z',e,e2,e3,y1,y2⟩:=y;subst e e3;exact hs i x' z' σ _ pp (y1 xs q1) (y2 zs q2) p e2
 .have e:i=min xs.length zs.length:=by omega
  subst e;exact .inl ⟨⟨xs,zs,q1,q2,by omega⟩,hd σ H p⟩
structure Ok(P:Program)(w:World)(K:PySem.W.Frag)(mg:Str->Option Value)(base:Heap)(x:Str)(k:Nat)(ps:List Str)(sp:Sp):Prop where
 ex:∃f fd,mg x=some (.ref f)/\PySem.W.keepIn K (.ref f)=true/\Binds K fd ps []/\FnOk P w K mg base CX0 k f fd ps sp
structure FunAt(K:PySem.W.Frag)(mg:Str->Option Value)(x:Str)(st:Stmt)(ps:List Str):Prop where
 ex:∃f fd,mg x=some (.ref f)/\Fun K x x st f fd/\Binds K fd ps []
section
variable {P:Program}{w:World}{K:PySem.W.Frag}{mg:Str->Option Value}{base:Heap}
theorem FunAt.ok{x:Str}{st:Stmt}{N ps:List Str}{k:Nat}{sp:Sp}(F:FunAt K mg x st ps)(S:FnScope N ps (A2 st))(len:∀vs H Q E,sp vs H Q E->vs.length=ps.length)
  (hbody:∀(cdv:Value) (f:Addr) (A:Around) (outer:List Env) (s:Shared) (H:Hp) (vs:List V) (Q:VK) (E:XK),Room k (A.deeper (envOfC x (A2 st) s.heap.objs.size f cdv))->sp vs H Q E ->
   ∃t,PSs (N0 CX0 P w K mg base N x (A2 st) f cdv A outer s H E).nox (C5 st) t/\t {nx:=λ_ H'=>Q .non H',rt:=Q} (start N vs) H):Ok P w K mg base x (k+1) ps sp:=by
 obtain⟨f,fd,h1,h2,h3⟩:=F.ex;exact⟨f,fd,h1,h2.kp,h3,h2.ok S len λcdv=>hbody cdv f⟩
end
section
variable {X:Cx}{k:Nat}{ps:List Str}{sp:Sp}{x:Str}{p pos:Pos}{e:Expr}{es:List Expr}{t:TA}
theorem a5i(O:Ok X.prog X.w X.K X.mg X.base x k ps sp)(hr:Room k X.A)(hg:Gl X x)(ha:PA X (e::es) t)(hdb:(x==("__debug__" : Str))=false:=by decide)
  (he:starEach (e::es) X.env=(false,eval e X.env)::starEach es X.env:=by rfl) (hpl:(backTo pos (starEach es X.env)).any (·.1)=false:=by rfl):PE X (.Call (.Name x p) (e::es) [] pos) (a1s sp [] E0 t):=by
 obtain⟨f,fd,h1,h2,h3,h4⟩:=O.ex;exact a6U h4 hr hg h1 h2 h3 .nil a5j ha hdb he hpl
end
inductive EqV(K:PySem.W.Frag)(H:Hp):Nat->V->V->Bool->Prop
 |flat {n:Nat}{x y:V}(fx:a1L x=true) (fy:a1L y=true):EqV K H n x y (eqV x y)
 |tup {n:Nat}{a b:Addr}{xs ys:List V}(e:Nat->Bool) (ha:SqT K H a xs) (hb:SqT K H b ys) (he:∀j x y,xs[j]?=some x->ys[j]?=some y->EqV K H n x y (e j)) :
   EqV K H (n+1) (.ref a) (.ref b) ((List.range (min xs.length ys.length)).all e && xs.length==ys.length)
 |lst {n:Nat}{a b:Addr}{xs ys:List V}(e:Nat->Bool) (ha:SqL K H a xs) (hb:SqL K H b ys) (he:∀j x y,xs[j]?=some x->ys[j]?=some y->EqV K H n x y (e j)) :
   EqV K H (n+1) (.ref a) (.ref b) ((List.range (min xs.length ys.length)).all e && xs.length==ys.length)
theorem a5Q:∀{x:V},a1L x=true->eqV x x=true
 |.non,_=>rfl
 |.bl b,_=>beq_self_eq_true b
 |.int i,_=>beq_self_eq_true i
 |.str y,_=>beq_self_eq_true y
 |.byt _,h=>by cases h
 |.flt _,h=>by cases h
 |.ref _,h=>by cases h
 |.ty _,h=>by cases h
section
variable {X:Cx}{pins:List (Addr×Obj)}{σ:St}{H:Hp}{s:Shared}
theorem EqV.same{n:Nat}{x y:V}{b:Bool}(I:Inv X pins σ H s)(h:EqV X.K H n x y b):x=y->b=true:=by
 induction h with
 |flat fx fy=>rintro rfl;exact a5Q fx
 |tup e ha hb he ih =>
  intro z;cases z;have q:=I.tuple_inj ha hb;subst q;simp only[Nat.min_self,Bool.and_eq_true,beq_self_eq_true,and_true,List.all_eq_true,List.mem_range];intro j hj;exact ih j _ _ (List.getElem?_eq_getElem hj) (List.getElem?_eq_getElem hj) rfl
 |lst e ha hb he ih =>
  intro z;cases z;have q:=I.list_inj ha hb;subst q;simp only[Nat.min_self,Bool.and_eq_true,beq_self_eq_true,and_true,List.all_eq_true,List.mem_range];intro j hj;exact ih j _ _ (List.getElem?_eq_getElem hj) (List.getElem?_eq_getElem hj) rfl
theorem E9{xs:List V}{us:List Value}{j:Nat}{u:Value}(r:Vals xs us)(h:us[j]?=some u):∃x,xs[j]?=some x/\RelV x u:=by
 obtain⟨hj,_⟩:=List.getElem?_eq_some_iff.mp h;have hj':j<xs.length:=by rw[r.length];exact hj
 have hx:xs[j]?=some xs[j]:=List.getElem?_eq_getElem hj';obtain⟨u',e,q⟩:=r.get hx;rw[h]at e;cases e;exact⟨_,hx,q⟩
theorem EqV.at{n:Nat}{x y:V}{b:Bool}(I:Inv X pins σ H s)(h:EqV X.K H n x y b):∀{A:Around}{u v:Value},A.units+n<cLine->RelV x u->RelV y v->SeqAt.EqAt A s u v b:=by
 induction h with
 |flat fx fy=>intro A u v _ ru rv;exact b0b ru rv fx fy
 |@tup n a b xs ys e ha hb he ih =>
  intro A u v hu ru rv;cases ru;cases rv;by_cases hab:a=b
  .have:=(EqV.tup e ha hb he).same I (by rw[hab]);rw[this,hab];exact SeqAt.EqAt.same _
  .obtain⟨us,r1,p1,_⟩:=I.tuple ha;obtain⟨ws,r2,p2,_⟩:=I.tuple hb;rw[r1.length,r2.length];refine SeqAt.EqAt.of_refs hab ?_;have:=SeqAt.RcAt.tuples (A:=A) (s:=s) (e:=e) (show s.heap.IsTuple a us.toArray from p1) (show s.heap.IsTuple b ws.toArray from p2) (by omega) (λj h1 h2=>?_)
   .simpa using this
   .have h1':us[j]?=some us.toArray[j]:=by simp at h1⊢
    have h2':ws[j]?=some ws.toArray[j]:=by simp at h2⊢
    obtain⟨x,ex,rx⟩:=E9 r1 h1';obtain⟨y,ey,ry⟩:=E9 r2 h2';exact ih j x y ex ey (by show A.units+1+n<cLine;omega) rx ry
 |@lst n a b xs ys e ha hb he ih =>
  intro A u v hu ru rv;cases ru;cases rv;by_cases hab:a=b
  .have:=(EqV.lst e ha hb he).same I (by rw[hab]);rw[this,hab];exact SeqAt.EqAt.same _
  .obtain⟨us,r1,p1,_⟩:=I.list ha;obtain⟨ws,r2,p2,_⟩:=I.list hb;rw[r1.length,r2.length];refine SeqAt.EqAt.of_refs hab ?_;by_cases hl:us.length=ws.length
   .have:=SeqAt.RcAt.lists (A:=A) (s:=s) (e:=e) p1.isList p2.isList (by simpa using hl) (by omega) (λj h1 h2=>?_)
    .simpa[hl]using this
    .have h1':us[j]?=some us.toArray[j]:=by simp at h1⊢
     have h2':ws[j]?=some ws.toArray[j]:=by simp at h2⊢
     obtain⟨x,ex,rx⟩:=E9 r1 h1';obtain⟨y,ey,ry⟩:=E9 r2 h2';exact ih j x y ex ey (by show A.units+1+n<cLine;omega) rx ry
   .have:=SeqAt.RcAt.lists_lengths (A:=A) (s:=s) p1.isList p2.isList (by simpa using hl) (by omega);have e0:(us.length==ws.length)=false:=by simpa using hl
    rw[e0,Bool.and_false];exact this
end
def a8P(K:PySem.W.Frag)(neg:Bool):R2:=λx y H Q=>∃n b,n<=50/\EqV K H n x y b/\(∃a c,x=.ref a/\y=.ref c)/\Q (.bl (if neg then !b else b)) H
section
variable {X:Cx}
theorem a9x(hu:X.A.units+60<cLine):OpR X (compareOp .Eq) (a8P X.K false):=by
 intro pins s σ H x y v u Q I rx ry h;obtain⟨n,b,hn,he,⟨a,c,rfl,rfl⟩,q⟩:=h;cases rx;cases ry;show wpAny _ _ (richCompare .Eq (.ref a) (.ref c)) _ _ s;have key:SeqAt.RcAt X.A s (.ref a) (.ref c) b:=by
  cases he with
  |flat fx fy=>cases fx
  |@tup n _ _ xs ys e ha hb he =>
   obtain⟨us,r1,p1,_⟩:=I.tuple ha;obtain⟨ws,r2,p2,_⟩:=I.tuple hb;rw[r1.length,r2.length];have:=SeqAt.RcAt.tuples (A:=X.A) (s:=s) (e:=e) (show s.heap.IsTuple a us.toArray from p1) (show s.heap.IsTuple c ws.toArray from p2) (by omega) (λj h1 h2=>?_)
   .simpa using this
   .have h1':us[j]?=some us.toArray[j]:=by simp at h1⊢
    have h2':ws[j]?=some ws.toArray[j]:=by simp at h2⊢
    obtain⟨x,ex,rx⟩:=E9 r1 h1';obtain⟨y,ey,ry⟩:=E9 r2 h2';exact(he j x y ex ey).at I (by show X.A.units+1+n<cLine;omega) rx ry
  |@lst n _ _ xs ys e ha hb he =>
   obtain⟨us,r1,p1,_⟩:=I.list ha;obtain⟨ws,r2,p2,_⟩:=I.list hb;rw[r1.length,r2.length];by_cases hl:us.length=ws.length
   .have:=SeqAt.RcAt.lists (A:=X.A) (s:=s) (e:=e) p1.isList p2.isList (by simpa using hl) (by omega) (λj h1 h2=>?_)
    .simpa[hl]using this
    .have h1':us[j]?=some us.toArray[j]:=by simp at h1⊢
     have h2':ws[j]?=some ws.toArray[j]:=by simp at h2⊢
     obtain⟨x,ex,rx⟩:=E9 r1 h1';obtain⟨y,ey,ry⟩:=E9 r2 h2';exact(he j x y ex ey).at I (by show X.A.units+1+n<cLine;omega) rx ry
   .have:=SeqAt.RcAt.lists_lengths (A:=X.A) (s:=s) p1.isList p2.isList (by simpa using hl) (by omega);have e0:(us.length==ws.length)=false:=by simpa using hl
    rw[e0,Bool.and_false];exact this
 exact key _ _ _ _ ⟨.bl _,H,I,rfl,q⟩
theorem a7K{ns ms:List Int}:((List.range (min ns.length ms.length)).all (λj=>decide (ns.getD j 0=ms.getD j 0)) && ns.length==ms.length)=decide (ns=ms):=by
 rw[Bool.eq_iff_iff];simp only[Bool.and_eq_true,List.all_eq_true,List.mem_range,decide_eq_true_eq,beq_iff_eq];constructor
 .rintro⟨h1,h2⟩;refine List.ext_getElem h2 λi a b=>?_;have:=h1 i (by omega);simpa[List.getD_eq_getElem?_getD,a,b]using this
 .rintro rfl;exact⟨λ_ _=>rfl,rfl⟩
theorem a5I{ns:List Int}{j:Nat}{x:V}(h:(ns.map V.int)[j]?=some x):x=.int (ns.getD j 0)/\j<ns.length:=by
 rw[List.getElem?_map]at h;cases e:ns[j]? with
 |none=>rw[e]at h;cases h
 |some z =>
  rw[e]at h;obtain⟨hj,_⟩:=List.getElem?_eq_some_iff.mp e;exact⟨by rw[List.getD_eq_getElem?_getD,e];exact(Option.some.inj h).symm,hj⟩
theorem EqV.ints{K:PySem.W.Frag}{H:Hp}{k:Bool}{a b:Addr}{ns ms:List Int}(ha:SqK k K H a (ns.map V.int))(hb:SqK k K H b (ms.map V.int)):EqV K H 1 (.ref a) (.ref b) (decide (ns=ms)):=by
 have step:∀j x y,(ns.map V.int)[j]?=some x->(ms.map V.int)[j]?=some y->EqV K H 0 x y (decide (ns.getD j 0=ms.getD j 0)):=λj x y hx hy=>by
  obtain⟨rfl,_⟩:=a5I hx;obtain⟨rfl,_⟩:=a5I hy;have:=EqV.flat (K:=K) (H:=H) (n:=0) (x:=.int (ns.getD j 0)) (y:=.int (ms.getD j 0)) rfl rfl;rw[show eqV (.int (ns.getD j 0)) (.int (ms.getD j 0))=decide (ns.getD j 0=ms.getD j 0)from rfl]at this;exact this
 rw[<-a7K];cases k
 .have:=EqV.lst (λj=>decide (ns.getD j 0=ms.getD j 0)) ha hb step;simpa using this
 .have:=EqV.tup (λj=>decide (ns.getD j 0=ms.getD j 0)) ha hb step;simpa using this
def a4S:R2:=λx y H Q=>∃a b xs ys,x=.ref a/\y=.ref b/\H a=some (.tup xs)/\H b=some (.tup ys)/\xs.length+ys.length<=sizeLine/\∀p H',Same H H'->H' p=some (.tup (xs++ys))->Q (.ref p) H'
theorem a5k:OpR X (binaryOp .Add) a4S:=by
 intro pins s σ H x y v u Q I rx ry h;obtain⟨a,b,xs,ys,rfl,rfl,ha,hb,hz,q⟩:=h;by_cases hx:xs=[]
 .subst hx;cases rx;cases ry;obtain⟨its,r1,p1,_⟩:=I.tuple (.inl (.inl ha));obtain⟨its2,r2,p2,_⟩:=I.tuple (.inl (.inl hb));cases r1;obtain⟨⟨cls,dd,data,sl⟩,ho,hc,n,hd⟩:=id p1;obtain⟨⟨cls2,dd2,data2,sl2⟩,ho2,hc2,n2,hd2⟩:=id p2;simp only at hc hd hc2 hd2;subst hc hd hc2 hd2;exact concat_meets ⟨_,ho,rfl⟩ ⟨_,ho2,rfl⟩ noFill_tuple_add seq_tuple_add PySem.F.slot_tuple_add PySem.F.entry_tuple_add (PySem.F.args_tuple_add_2 _ _)
   (tuple_addW0 a b _ _ n n2 dd dd2 sl sl2 (by simp)) ⟨ho,ho2,⟨.ref b,H,I,rfl,q b H (Same.refl H) hb⟩⟩
 .refine a7a pins s σ H _ _ v u Q I rx ry ⟨a,b,xs,ys,rfl,rfl,.inl (.inl ha),.inl (.inl hb),hx,hz,λe=>?_,λ_ p hp=>?_⟩
  .subst e;exact q a H (Same.refl H) (by rw[List.append_nil];exact ha)
  .exact q p _ (λc o e=>by rw[A3 (A6 e hp)];exact e) A0
end
open PySem.AutoSeq1 (wpAny_loadPart')
theorem S7:fillsNumberSlot (.type "tuple") "mul"=pure false :=
 PySem.fillsNumberSlot_seq (id:="tuple.__mul__") (r:=some (.builtin "tuple.__rmul__")) F.slot_tuple_mul.lookup (by decide +kernel) F.slot_tuple_rmul.lookup (by decide +kernel)
theorem a0N:seqRepeat? (.type "tuple")=pure (some (.builtin "tuple.__mul__")):=by
 unfold seqRepeat?;rw[PySem.seqSlot_of (T:="tuple") (name:="__mul__") (id:="tuple.__mul__") F.slot_tuple_mul.lookup (by decide +kernel),PySem.seqSlot_of (T:="tuple") (name:="__rmul__") (id:="tuple.__rmul__") F.slot_tuple_rmul.lookup (by decide +kernel)];rfl
theorem a2f(a:Int)(t:Tok)(l:Addr)(items:Array Value)(n:Nat)(dd:Option Addr)(sl:Array (Option Value)) :
  Meets (Builtin.«int.__rmul__» ⟨[.int a t,.ref l],[]⟩) (λ_ R s=>s.heap.get? l=some {cls:=.type "tuple",dict:=dd,data:=.seq items n,slots:=sl}/\R (.ok (.ret Value.notImplemented)) s) :=
 .of_wp λprog w A R s h=>by obtain⟨hp,g,d,tk,os⟩:=s;obtain⟨hl,h⟩:=h;wp_walk;exact⟨_,rfl,h⟩
theorem a1Z(l:Addr)(items:Array Value)(n:Nat)(dd:Option Addr)(sl:Array (Option Value))(u:Tok) :
  Meets (Builtin.«tuple.__mul__» ⟨[.ref l,.int 1 u],[]⟩) (λ_ R s=>s.heap.get? l=some {cls:=.type "tuple",dict:=dd,data:=.seq items n,slots:=sl}/\R (.ok (.ret (.ref l))) s) :=
 .of_wp λprog w A R s h=>by
  obtain⟨hp,g,d,tk,os⟩:=s;obtain⟨hl,h⟩:=h;have f1:=AutoSeq1.idx_int
  wp_walk using wpAny_loadPart' hl
  exact⟨_,rfl,h⟩
theorem a1Y(l:Addr)(items:Array Value)(n:Nat)(dd:Option Addr)(sl:Array (Option Value))(x:Int)(u:Tok)(he:items.isEmpty=false)(h1:1<x)(h2:¬(decide (x < -(2 ^ 63)) || decide (x ≥ 2 ^ 63))=true)
  (h3:¬((items.size:Int)*x > (2 ^ 63-1) / 8)) (h4:¬Builtin.Tuple.tupleTooMany ((items.size:Int)*x)=true) (hsz:(List.foldl (λx1 x2=>x1++x2) #[] (List.replicate x.toNat items)).size<=sizeLine) :
  Meets (Builtin.«tuple.__mul__» ⟨[.ref l,.int x u],[]⟩) (λ_ R s=>s.heap.get? l=some {cls:=.type "tuple",dict:=dd,data:=.seq items n,slots:=sl} /\
   R (.ok (.ret (.ref s.heap.objs.size))) {s with heap:=s.heap.push {cls:=.type "tuple",data:=.seq (List.foldl (λx1 x2=>x1++x2) #[] (List.replicate x.toNat items))}}) :=
 .of_wp λprog w A R s h=>by
  obtain⟨hp,g,d,tk,os⟩:=s;obtain⟨hl,h⟩:=h;have f1:=AutoSeq1.idx_int;have e1:(x==1)=false:=by simp;omega
  have e2:decide (x<=0)=false:=by simp;omega
  have e3:¬((items.isEmpty || x==1)=true):=by rw[he,e1];decide
  have e4:¬((decide (x<=0) || items.isEmpty)=true):=by rw[he,e2];decide
  wp_walk using wpAny_loadPart' hl
  rw[if_neg h2]
  wp_walk using wpAny_loadPart' hl
  rw[if_neg h3]
  wp_walk using wpAny_loadPart' hl
  first
   |exact⟨_,rfl,h⟩
   |(rw[if_neg h4];wp_walk using wpAny_loadPart' hl;exact⟨_,rfl,h⟩)
theorem Y8{α:Type}(its:List α):∀(k:Nat) (acc:List α),List.foldl (λx1 x2=>x1++x2) acc.toArray (List.replicate k its.toArray)=(acc++(List.replicate k its).flatten).toArray
 |0,acc=>by simp
 |k+1,acc=>by
  have e:acc.toArray++its.toArray=(acc++its).toArray:=by simp
  rw[List.replicate_succ,List.foldl_cons,e,Y8 its k,List.replicate_succ,List.flatten_cons,List.append_assoc]
section
variable {X:Cx}
def a8c:R2:=λx y H Q=>∃a xs n,x=.ref a/\y=.int n/\H a=some (.tup xs)/\xs≠[]/\1<=n/\(xs.length:Int)*n<=(sizeLine:Int)/\∀p H',Same H H'->H' p=some (.tup (List.replicate n.toNat xs).flatten)->Q (.ref p) H'
theorem a6X:OpR X (binaryOp .Mult) a8c:=by
 intro pins s σ H x y v u Q I rx ry h;obtain⟨a,xs,n,rfl,rfl,ha,hne,hn,hz,q⟩:=h;cases rx;obtain⟨t,rfl⟩:=ry;obtain⟨its,r,p1,hzl⟩:=I.tuple (.inl (.inl ha));obtain⟨⟨cls,dd,data,sl⟩,ho,hc,m,hd⟩:=id p1;simp only at hc hd;subst hc hd;have hlen:=r.length;have hpos:0<its.length:=by rw[<-hlen];exact List.length_pos_iff.mpr hne
 refine wpAny_binaryOp_repeat_ref (T:="tuple") (U:="int") (by decide) ⟨_,ho,rfl⟩ (λs'=>typeIs_int s' n t) S7 F.fills_int_mul F.slot_int_rmul a0N F.slot_int_index.lookup
  (call_meets F.slot_int_rmul (typeIs_int s n t) F.entry_int_rmul (F.args_int_rmul_2 _ _) (a2f n t a its.toArray m dd sl) ⟨ho,rfl,⟨_,ho,rfl⟩,?_⟩)
 by_cases h1:n=1
 .subst h1;refine call_meets F.slot_tuple_mul ⟨_,ho,rfl⟩ F.entry_tuple_mul (F.args_tuple_mul_2 _ _) (a1Z a its.toArray m dd sl t) ⟨ho,.ref a,H,I,rfl,q a H (Same.refl H) ?_⟩;rw[ha];simp
 .have e0:=Y8 its n.toNat [];rw[List.nil_append]at e0;have hl:((List.replicate n.toNat its).flatten).length=n.toNat*its.length:=a0S its n.toNat;have hb:n.toNat*its.length<=sizeLine:=by
   have e1:((n.toNat*its.length:Nat):Int)=(xs.length:Int)*n:=by
    rw[hlen];push_cast;rw[Int.toNat_of_nonneg (by omega),Int.mul_comm]
   omega
  have hs:sizeLine=16777216:=sizeLine_eq;have hsz:(its.toArray.size:Int)*n<=16777216:=by rw[List.size_toArray,<-hlen];omega
  have hnn:n<=(its.toArray.size:Int)*n:=by
   have h0:(1:Int)<=(its.toArray.size:Int):=by rw[List.size_toArray];omega
   have:=Int.mul_le_mul_of_nonneg_right h0 (show(0:Int)<=n by omega);omega
  refine call_meets F.slot_tuple_mul ⟨_,ho,rfl⟩ F.entry_tuple_mul (F.args_tuple_mul_2 _ _) (a1Y a its.toArray m dd sl n t (by simp;intro z;rw[z]at hpos;exact Nat.lt_irrefl _ hpos) (by omega) ?_ ?_ ?_ ?_) ⟨ho,?_⟩
  .simp only[Bool.or_eq_true,decide_eq_true_eq,not_or];omega
  .omega
  .simp only[Builtin.Tuple.tupleTooMany,decide_eq_true_eq];omega
  .have e0':List.foldl (λx1 x2=>x1++x2) #[] (List.replicate n.toNat its.toArray)=(List.replicate n.toNat its).flatten.toArray:=e0;rw[e0',List.size_toArray,hl];exact hb
  .have e0':List.foldl (λx1 x2=>x1++x2) #[] (List.replicate n.toNat its.toArray)=(List.replicate n.toNat its).flatten.toArray:=e0;rw[e0'];have hf:H s.heap.objs.size=none:=I.hok.fresh (Nat.le_refl _);refine⟨.ref s.heap.objs.size,_,I.laid (t':=s.toks) (o:=.tup (List.replicate n.toNat xs).flatten) (λb ob q=>Heap.get?_push_of_some _ q) (Nat.le_refl _) ?_,rfl,q _ _ (λc o e=>by rw[A3 (A6 e hf)];exact e) A0⟩;exact⟨by rw[a0S,hlen];exact hb,_,r.rep n.toNat,IsTup.new _ _⟩
end
end L2
namespace L2
open PySem PySem.Spec PyProof.Rows
section
variable {X:Cx}{pos:Pos}
theorem a6N(K:PySem.W.Frag){es:List Expr}{k:Nat}{t:TGs}{n:Nat}(hc:X.calm=true)(h:PGs X es t)(hK:X.K=K:=by rfl)
  (hn:(assignEach es X.env).length=n:=by rfl) (hst:(assignEach es X.env).findIdx? (·.1)=none:=by rfl):PG X (.Tuple es k pos) (a5N K n t):=by
 subst hK;exact a9b hc h hn hst
theorem a5d(K:PySem.W.Frag){tg l:Expr}{tl:TE}(hl:PE X l tl)(hK:X.K=K:=by rfl):PI X tg l (a5K K tl):=by subst hK;exact a6K hl
theorem a6J(K:PySem.W.Frag){tg l:Expr}{tl:TE}(hl:PE X l tl)(hK:X.K=K:=by rfl):PI X tg l (a9Z K tl):=by subst hK;exact a8Z hl
theorem a6I(K:PySem.W.Frag){es:List Expr}{kt:Nat}{tp:Pos}{a b:Expr}{ta:TA}{p pos:Pos}(hg:Gl X "zip")(hm:X.mg "zip"=none)(ha:PA X [a,b] ta)(hK:X.K=K:=by rfl)
  (hs:starEach [a,b] X.env=[(false,eval a X.env),(false,eval b X.env)]:=by rfl) (hs2:starEach [b] X.env=[(false,eval b X.env)]:=by rfl) :
  PI X (.Tuple es kt tp) (.Call (.Name "zip" p) [a,b] [] pos) (a9Y K ta):=by subst hK;exact a8Y hg hm ha b0e hs hs2
def a8z(K:PySem.W.Frag)(ta:TE):TT:=λσ H Q=>ta σ H λx H'=>∃k,b0k K x H' k/\Q k H'
theorem a3p(K:PySem.W.Frag){a:Expr}{ta:TE}(ha:PE X a ta)(he:∀whole,isTrue a X.env whole=(do let v <-whole;standAt a.pos;holding [v] (truthy v)))(hK:X.K=K:=by rfl):PT X a (a8z K ta):=by
 subst hK;exact a4U ha he
theorem a5H(K:PySem.W.Frag)(hK:X.K=K:=by rfl):IxR X (a6w K):=by subst hK;exact ix_list
theorem a7t(K:PySem.W.Frag)(hK:X.K=K:=by rfl):IxR X (a6v K):=by subst hK;exact ix_tup
theorem a7u(K:PySem.W.Frag)(hK:X.K=K:=by rfl):IxR X (rIx K):=by subst hK;exact a9U
theorem a6o(K:PySem.W.Frag)(hK:X.K=K:=by rfl):SlR X (a6u K):=by subst hK;exact a8G
theorem a9w(K:PySem.W.Frag)(hu:X.A.units+60<cLine)(hK:X.K=K:=by rfl):OpR X (compareOp .Eq) (a8P K false):=by subst hK;exact a9x hu
theorem a4h(K:PySem.W.Frag)(hc:X.calm=true)(hK:X.K=K:=by rfl):C6 X (.builtin "all") (a8R K):=by subst hK;exact a5Z hc
theorem a4g(K:PySem.W.Frag)(hc:X.calm=true)(hK:X.K=K:=by rfl):C6 X (.builtin "any") (a8Q K):=by subst hK;exact a5Y hc
theorem a3U(K:PySem.W.Frag)(hc:X.calm=true)(hK:X.K=K:=by rfl):C6 X (.builtin "sum") (a8K K):=by subst hK;exact a5V hc
theorem a4d(K:PySem.W.Frag)(hK:X.K=K:=by rfl):C6 X (.builtin "isinstance") (a8N K):=by subst hK;exact a5W
def b0A(K:PySem.W.Frag):RL:=λxs H Q=>∃p ys,xs=[.ref p]/\(SqL K H p ys∨SqT K H p ys)/\Q (.int ys.length) H
def a2g(K:PySem.W.Frag):RL:=λxs H Q=>∃p ys,xs=[.ref p]/\((SqL K H p ys/\∀l,H l=none->Q (.ref l) (upd H l (.tup ys)))∨(SqT K H p ys/\Q (.ref p) H))
theorem a4c(K:PySem.W.Frag)(hK:X.K=K:=by rfl):C6 X (.builtin "len") (b0A K):=by subst hK;exact a1j
theorem a1R(K:PySem.W.Frag)(hK:X.K=K:=by rfl):C6 X (.type "tuple") (a2g K):=by subst hK;exact Z9
def a8L:RL:=λxs H Q=>∃i j,xs=[.int i,.int j]/\Q (.int (if j<i then j else i)) H
def a8M:RL:=λxs H Q=>∃i j,xs=[.int i,.int j]/\Q (.int (if j > i then j else i)) H
def b0D:RL:=λxs H Q=>(∃i,xs=[.int i]/\Q (.int i) H)∨∃k,xs=[.bl k]/\Q (.int (if k then 1 else 0)) H
theorem a3X(hc:X.calm=true):C6 X (.builtin "min") a8L:=a3Y hc
theorem a3Z(hc:X.calm=true):C6 X (.builtin "max") a8M:=a4b hc
theorem a4e:C6 X (.type "int") b0D:=a4f
variable {o e:Expr}{es:List Expr}{to:TE}{t:TA}{name:Str}{apos cpos:Pos}{T id:String}{r:V->List V->Hp->VK->Prop}
theorem a9m(K:PySem.W.Frag)(pa:PlainAttrs T)(slot:Slot T name id)(hty:typeOf (.builtin id)=pure (.type "method_descriptor"))(hm:MtR X id r)(ho:PE X o to)(ha:PA X (e::es) t)(hK:X.K=K:=by rfl)
  (hbase:attributeBase o name X.env (eval o X.env)=eval o X.env:=by rfl)
  (hfew:((backTo cpos (starEach (e::es) X.env)).all (λx=>!x.1) && (backToKw cpos (keywordEach [] X.env)).all (λx=>x.1.isSome)
   && decide ((e::es).length+([]:List Keyword).length+(if ([]:List Keyword).isEmpty then 0 else 1)<30))=true:=by rfl)
  (hline:(apos.endLine==cpos.line)=true:=by rfl) (hs:starEach (e::es) X.env=(false,eval e X.env)::starEach es X.env:=by rfl) (hplain:(backTo cpos (starEach es X.env)).any (·.1)=false:=by rfl) :
  PE X (.Call (.Attribute o name apos) (e::es) [] cpos) (tBM K T r to t):=by subst hK;exact b0H pa slot hty hm ho ha hbase hfew hline hs hplain
end
def IT(H:Hp)(v:V)(ns:List Int):Prop:=∃a,v=.ref a/\H a=some (.tup (ns.map V.int))
theorem IT.same{H H':Hp}{v:V}{ns:List Int}(h:IT H v ns)(s:Same H H')   : IT H' v ns:=let ⟨a,e,q⟩:=h;⟨a,e,s a _ q⟩
theorem Same.upd{H H':Hp}{p:Addr}{o:HO}(s:Same H H')(hp:H' p=none):Same H (upd H' p o):=λb u e=>by
 rw[A3 (A6 (s b u e) hp)];exact s b u e
theorem K4{H:Hp}{p b:Addr}{o u:HO}(hb:H b=some u)(hp:H p=none):upd H p o b=some u:=by rw[A3 (A6 hb hp)];exact hb
def Off(l:List Addr)(H H':Hp):Prop:=∀b o,b∉l->H b=some o->H' b=some o
theorem Off.refl(l:List Addr)(H:Hp):Off l H H:=λ_ _ _ e=>e
theorem Off.trans{l:List Addr}{H H1 H2:Hp}(a:Off l H H1)(b:Off l H1 H2):Off l H H2:=λc o hc e=>b c o hc (a c o hc e)
theorem Same.off{l:List Addr}{H H':Hp}(s:Same H H'):Off l H H':=λb o _ e=>s b o e
theorem Off.set{l:List Addr}{H H':Hp}{p:Addr}{o:HO}(s:Off l H H')(hp:p∈l):Off l H (L2.upd H' p o):=λb u hb e=>by
 rw[A3 (by rintro rfl;exact hb hp)];exact s b u hb e
theorem a0T(ns:List Int):(ns.map V.int).length=ns.length:=List.length_map _
theorem M6{ns:List Int}{i:Nat}{x:V}(h:(ns.map V.int)[i]?=some x):∃z,ns[i]?=some z/\x=.int z:=by
 rw[List.getElem?_map]at h;cases e:ns[i]? with
 |none=>rw[e]at h;cases h
 |some z=>rw[e]at h;exact⟨z,rfl,(Option.some.inj h).symm⟩
theorem Q6{α β γ:Type}(f:α->β->γ){xs:List α}{ys:List β}{i:Nat}{x:α}{y:β}(hx:xs[i]?=some x)(hy:ys[i]?=some y):(List.zipWith f xs ys).take (i+1)=(List.zipWith f xs ys).take i++[f x y]:=by
 have:(List.zipWith f xs ys)[i]?=some (f x y):=by rw[List.getElem?_zipWith,hx,hy]
 rw[List.take_add_one,this];rfl
theorem W1{K:PySem.W.Frag}{src:List (Option Nat)}{σ caps:St}{Q:VK}{k1 k2:Bool}{a b:Addr}{xs ys:List Int}{H:Hp}{te:TE}(f:Int->Int->V)(ha:SqK k1 K H a (xs.map V.int))(hb:SqK k2 K H b (ys.map V.int))(hl:xs.length<=1000)
  (hmono:∀H',Same H H'->SqK k1 K H' a (xs.map V.int)/\SqK k2 K H' b (ys.map V.int))
  (hsrc:B7 src σ=none::none::caps) (hte:∀x y H1 Q1,Same H H1->Q1 (f x y) H1->te (some (.int x)::some (.int y)::caps) H1 Q1)
  (hd:∀H1 p,Same H H1->H1 p=none->Q (.ref p) (upd H1 p (.lst (List.zipWith f xs ys)))) :
  N9 src (a5N K 2 (a0q (A7 0) (a0q (A7 1) a7z))) W5 te σ Q (Itz K k1 k2 a b) H:=by
 have hz:(1000:Nat)<=sizeLine:=by rw[sizeLine_eq];decide
 refine a1N (xs:=xs.map V.int) (zs:=ys.map V.int) (by rw[a0T];omega) (λi zs H'=>Same H H'/\zs=(List.zipWith f xs ys).take i) ⟨Same.refl H,by simp⟩ (λi zs H' _ _ h=>⟨(hmono H' h.1).1,(hmono H' h.1).2,by rw[h.2];exact List.length_take_le _ _⟩) ?_ ?_
 .rintro i x z zs H' p hx hy ⟨s,rfl⟩ hp;obtain⟨x',hx',e1⟩:=M6 hx;obtain⟨z',hy',e2⟩:=M6 hy;subst e1 e2;clear hx hy;have s':Same H (upd H' p (.tup [.int x',.int z'])):=s.upd hp;refine⟨p,[.int x',.int z'],rfl,SqT.of A0,rfl,.int x',[.int z'],rfl,.int z',[],rfl,rfl,?_⟩;rw[hsrc];show Sub _ (some (.int x')::some (.int z')::caps)/\_;refine⟨⟨rfl,λj v e=>?_⟩,?_⟩
  .match j,e with
   |0,e=>cases e
   |1,e=>cases e
   |j+2,e=>exact e
  .exact hte x' z' _ _ s' ⟨s',(Q6 f hx' hy').symm⟩
 .rintro zs H' ⟨s,rfl⟩ p hp;have e:(List.zipWith f xs ys).take (min (xs.map V.int).length (ys.map V.int).length)=List.zipWith f xs ys:=by
   rw[a0T,a0T,List.take_of_length_le];rw[List.length_zipWith];exact Nat.le_refl _
  rw[e];exact hd H' p s hp
theorem Sub.one{caps:St}{v:V}:Sub (none::caps) (some v::caps):=⟨rfl,λj u e=>by
 match j,e with
 |0,e=>cases e
 |j+1,e=>exact e⟩
theorem Room.u60{k:Nat}{A:Around}(r:Room k A):A.units+60<cLine:=by have:=r.un;omega
theorem Q8{t u:TS}{D:Ends}{σ:St}{H:Hp}(Pe:St->Hp->Prop)(fin:∀σ H,Pe σ H->u D σ H)(h:(∀σ H,Pe σ H->u D σ H)->t {D with nx:=u D} σ H):a6m t u D σ H:=h fin
theorem b0c(xs:List Int)(k:Nat)(hk:k<=xs.length):a1M (xs.map V.int) (some (k:Int)) none=(xs.drop k).map V.int:=by
 unfold a1M;rw[HT.sIx_none,HT.sIx_nat,List.length_map,Nat.min_eq_left hk,List.take_of_length_le (by simp),List.map_drop]
structure JE(X:Cx)(e:Expr)(t:TE):Prop where
 h:PE X e t
structure JT(X:Cx)(e:Expr)(t:TT):Prop where
 h:PT X e t
structure JW(X:Cx)(e:Expr)(t:TT):Prop where
 h:PW X e t
structure JA(X:Cx)(es:List Expr)(t:TA):Prop where
 h:PA X es t
structure JS(X:Cx)(st:Stmt)(t:TS):Prop where
 h:PS X st t
structure JB(X:Cx)(st:List Stmt)(t:TS):Prop where
 h:PSs X st t
structure JG(X:Cx)(tg:Expr)(t:TG):Prop where
 h:PG X tg t
structure JGs(X:Cx)(ts:List Expr)(t:TGs):Prop where
 h:PGs X ts t
structure JI(X:Cx)(tg iter:Expr)(t:TI):Prop where
 h:PI X tg iter t
structure JF(X:Cx)(ifs:List Expr)(t:TT):Prop where
 h:PIf X ifs t
structure JO(X:Cx)(e:Option Expr)(t:TO):Prop where
 h:PO X e t
section
variable {X:Cx}{a b c e o:Expr}{es rest:List Expr}{ta tb tc te to:TE}{tA tB:TT}{t:TA}{pos p apos cpos p2:Pos}
theorem jv(i:Nat){x:Str}(hN:X.N[i]?=some x:=by rfl)(hv:Vis X.env.scope x:=by first|exact Or.inl rfl|exact Or.inr (Or.inl rfl)|exact Or.inr (Or.inr rfl))(hd:(x==("__debug__" : Str))=false:=by decide)
  (hcd:(x==("__classdict__" : Str))=false:=by decide):JE X (.Name x pos) (a1q i):=⟨a9d hN hv hd hcd⟩
theorem A5{i j}:JE X (.Constant (.int i) j pos) (tC (.int i)):=⟨a9k⟩
theorem Y3{i j}:JE X (.Constant (.bool i) j pos) (tC (.bl i)):=⟨b0I⟩
theorem R8{j}:JE X (.Constant .none j pos) (tC .non):=⟨a9i⟩
theorem b0R{x j}:JE X (.Constant (.str x) j pos) (tC (.str x)):=⟨a9f⟩
theorem a0Z{x:Str}{v:V}{u:Value}(hg:Gl X x)(hm:X.mg x=none)(hv:bootBuiltins x=some u)(r:RelV v u)(hn:x≠"__name__":=by decide)(hd:(x==("__debug__" : Str))=false:=by decide):JE X (.Name x pos) (tC v):=⟨a6V hg hm hv r hn hd⟩
theorem G2(ha:JE X a ta)(hb:JE X b tb):JE X (.BinOp a .Add b pos) (tOp (rI0 λi j=>.int (i+j)) ta tb):=⟨R4 a9y ha.h hb.h⟩
theorem a1G(ha:JE X a ta)(hb:JE X b tb):JE X (.BinOp a .Sub b pos) (tOp (rI0 λi j=>.int (i-j)) ta tb):=⟨R4 a9q ha.h hb.h⟩
theorem N7(ha:JE X a ta)(hb:JE X b tb):JE X (.BinOp a .Mult b pos) (tOp (rI CMul λi j=>.int (i*j)) ta tb):=⟨R4 a9t ha.h hb.h⟩
theorem a0o(ha:JE X a ta)(hb:JE X b tb):JE X (.BinOp a .Mod b pos) (tOp (rI (λ_ j=>0<j) λi j=>.int (i % j)) ta tb):=⟨R4 a9u ha.h hb.h⟩
theorem a0Y(ha:JE X a ta)(hb:JE X b tb):JE X (.BinOp a .FloorDiv b pos) (tOp (rI b0o λi j=>.int (i / j)) ta tb):=⟨R4 a6Z ha.h hb.h⟩
theorem b0U(ha:JE X a ta)(hb:JE X b tb):JE X (.BinOp a .Pow b pos) (tOp (rI b1c λi j=>.int (i ^ j.toNat)) ta tb):=⟨R4 a9s ha.h hb.h⟩
theorem a7r(ha:JE X a ta)(hb:JE X b tb):JE X (.BinOp a .Add b pos) (tOp (a4S) ta tb):=⟨R4 a5k ha.h hb.h⟩
theorem a2q(ha:JE X a ta)(hb:JE X b tb):JE X (.BinOp a .Mult b pos) (tOp (a8c) ta tb):=⟨R4 a6X ha.h hb.h⟩
theorem b0T(ha:JE X a ta)(hb:JE X b tb):JE X (.BinOp a .Mult b pos) (tOp (b0x) ta tb):=⟨R4 a9r ha.h hb.h⟩
theorem a2W(ha:JE X a ta):JE X (.UnaryOp .USub a pos) (tUn (rU λi=>.int (-i)) ta):=⟨b0G a8v ha.h⟩
theorem b0W(ha:JE X a ta):JE X (.UnaryOp .Not a pos) (a4z ta):=⟨a9h ha.h⟩
theorem b0V{op}(h:JE X a ta):JE X (.BoolOp op [a] pos) ta:=⟨a9g h.h⟩
theorem b0Y(ha:JE X a ta)(hb:JE X (.BoolOp .And (b::rest) pos) tb):JE X (.BoolOp .And (a::b::rest) pos) (a4D ta tb):=⟨a9n ha.h hb.h⟩
theorem a8k(ha:JE X a ta)(hb:JE X b tb):JE X (.Compare a [.Eq] [b] pos) (tOp (rEq) ta tb):=⟨O2 a8h ha.h hb.h (E3 _)⟩
theorem a2T(ha:JE X a ta)(hb:JE X b tb):JT X (.Compare a [.Eq] [b] pos) (P2 (tOp (rEq) ta tb)):=⟨J9 a8h ha.h hb.h (E3 _)⟩
theorem a8l(ha:JE X a ta)(hb:JE X b tb):JT X (.Compare a [.NotEq] [b] pos) (P2 (tOp (rNe) ta tb)):=⟨J9 b0J ha.h hb.h (E3 _)⟩
theorem b0N(ha:JE X a ta)(hb:JE X b tb):JE X (.Compare a [.Lt] [b] pos) (tOp (rI0 λi j=>.bl (decide (i<j))) ta tb):=⟨O2 a8e ha.h hb.h (E3 _)⟩
theorem a5C(ha:JE X a ta)(hb:JE X b tb):JT X (.Compare a [.Lt] [b] pos) (P2 (tOp (rI0 λi j=>.bl (decide (i<j))) ta tb)):=⟨J9 a8e ha.h hb.h (E3 _)⟩
theorem b0O(ha:JE X a ta)(hb:JE X b tb):JE X (.Compare a [.LtE] [b] pos) (tOp (rI0 λi j=>.bl (decide (i<=j))) ta tb):=⟨O2 b0K ha.h hb.h (E3 _)⟩
theorem b0P(ha:JE X a ta)(hb:JE X b tb):JE X (.Compare a [.Gt] [b] pos) (tOp (rI0 λi j=>.bl (decide (j<i))) ta tb):=⟨O2 a8f ha.h hb.h (E3 _)⟩
theorem a0n(ha:JE X a ta)(hb:JE X b tb):JT X (.Compare a [.Gt] [b] pos) (P2 (tOp (rI0 λi j=>.bl (decide (j<i))) ta tb)):=⟨J9 a8f ha.h hb.h (E3 _)⟩
theorem b0Q(ha:JE X a ta)(hb:JE X b tb):JE X (.Compare a [.GtE] [b] pos) (tOp (rI0 λi j=>.bl (decide (j<=i))) ta tb):=⟨O2 a8g ha.h hb.h (E3 _)⟩
theorem a8m(ha:JE X a ta)(hb:JE X b tb):JT X (.Compare a [.GtE] [b] pos) (P2 (tOp (rI0 λi j=>.bl (decide (j<=i))) ta tb)):=⟨J9 a8g ha.h hb.h (E3 _)⟩
theorem a5B(K:PySem.W.Frag)(hu:X.A.units+60<cLine)(ha:JE X a ta)(hb:JE X b tb)(hK:X.K=K:=by rfl):JE X (.Compare a [.Eq] [b] pos) (tOp (a8P K false) ta tb):=⟨O2 (a9w K hu hK) ha.h hb.h (E3 _)⟩
theorem a5D(ha:JE X a ta)(hb:JE X b tb):JT X (.Compare a [.Is] [b] pos) (P2 (tOp (λx y H Q=>y=.non/\Q (.bl (decide (x=.non))) H) ta tb)):=⟨J9 a9v ha.h hb.h (E3 _)⟩
theorem a2S(ha:JE X a ta)(hb:JE X b tb):JT X (.Compare a [.IsNot] [b] pos) (P2 (tOp (λx y H Q=>y=.non/\Q (.bl (!decide (x=.non))) H) ta tb)):=⟨J9 a6Y ha.h hb.h (E3 _)⟩
theorem a3J(h:JW X e tA):JT X e tA:=⟨h.h.pt⟩
theorem T2(ha:JT X a tA):JW X (.BoolOp .Or [a] pos) tA:=⟨pw_or1 ha.h⟩
theorem a0m(ha:JT X a tA)(hb:JW X (.BoolOp .Or (b::rest) pos) tB):JW X (.BoolOp .Or (a::b::rest) pos) (tOr tA tB):=⟨pw_or ha.h hb.h⟩
theorem K1(ha:JT X a tA):JT X (.UnaryOp .Not a pos) (a8B tA):=⟨a8S ha.h⟩
theorem D5(K:PySem.W.Frag)(ha:JE X a ta)(he:∀whole,isTrue a X.env whole=(do let v <-whole;standAt a.pos;holding [v] (truthy v)):=by intro _;rfl)(hK:X.K=K:=by rfl):JT X a (a8z K ta):=⟨a3p K ha.h he hK⟩
theorem jaN:JA X [] a3l:=⟨a9o⟩
theorem jaC(ha:JE X e te)(hr:JA X es t)(hs:starEach (e::es) X.env=(false,eval e X.env)::starEach es X.env:=by rfl):JA X (e::es) (a0d te t):=⟨a6W ha.h hr.h hs⟩
theorem K7{x1}(h:JA X es t):JE X (.Tuple es x1 pos) (a8y t):=⟨a9e h.h⟩
theorem K8(h:JA X es t):JE X (.List es pos) (a8C t):=⟨a9j h.h⟩
theorem J2(K:PySem.W.Frag)(ha:JE X a ta)(hb:JE X b tb)(hs:V9 b:=by intro _ _;rfl)(hK:X.K=K:=by rfl):JE X (.Subscript a b pos) (tOp (a6w K) ta tb):=⟨a5h (a5H K hK) ha.h hb.h hs⟩
theorem R9(K:PySem.W.Frag)(ha:JE X a ta)(hb:JE X b tb)(hs:V9 b:=by intro _ _;rfl)(hK:X.K=K:=by rfl):JE X (.Subscript a b pos) (tOp (a6v K) ta tb):=⟨a5h (a7t K hK) ha.h hb.h hs⟩
theorem b0X(K:PySem.W.Frag)(ha:JE X a ta)(hb:JE X b tb)(hs:V9 b:=by intro _ _;rfl)(hK:X.K=K:=by rfl):JE X (.Subscript a b pos) (tOp (rIx K) ta tb):=⟨a5h (a7u K hK) ha.h hb.h hs⟩
theorem a7l:JO X none V0:=⟨a6F⟩
theorem a7k(h:JE X e te):JO X (some e) (a4y te):=⟨a6E h.h⟩
theorem b0S(K:PySem.W.Frag){lo hi:Option Expr}{tl th:TO}(he:JE X e te)(hl:JO X lo tl)(hu:JO X hi th)(hK:X.K=K:=by rfl):JE X (.Subscript e (.Slice lo hi none p2) pos) (tSl (a6u K) te tl th):=⟨a5f (a6o K hK) he.h hl.h hu.h⟩
theorem B2{k:Nat}{ps:List Str}{sp:Sp}{x:Str}(O:Ok X.prog X.w X.K X.mg X.base x k ps sp)(hr:Room k X.A)(hg:Gl X x)(ha:JA X (e::es) t)(hdb:(x==("__debug__" : Str))=false:=by decide)
  (he:starEach (e::es) X.env=(false,eval e X.env)::starEach es X.env:=by rfl) (hpl:(backTo pos (starEach es X.env)).any (·.1)=false:=by rfl):JE X (.Call (.Name x p) (e::es) [] pos) (a1s sp [] E0 t):=⟨a5i O hr hg ha.h hdb he hpl⟩
theorem N6(K:PySem.W.Frag)(hg:Gl X "len")(hm:X.mg "len"=none)(ha:JA X (e::es) t)(hK:X.K=K:=by rfl)(he:starEach (e::es) X.env=(false,eval e X.env)::starEach es X.env:=by rfl)(hpl:(backTo pos (starEach es X.env)).any (·.1)=false:=by rfl):JE X (.Call (.Name "len" p) (e::es) [] pos) (tCB (b0A K) t):=⟨D9 (a4c K hK) hg hm a6b ha.h (by decide) (by decide) he hpl⟩
theorem T3(K:PySem.W.Frag)(hg:Gl X "sum")(hm:X.mg "sum"=none)(ha:JA X (e::es) t)(hc:X.calm=true:=by rfl)(hK:X.K=K:=by rfl)(he:starEach (e::es) X.env=(false,eval e X.env)::starEach es X.env:=by rfl)(hpl:(backTo pos (starEach es X.env)).any (·.1)=false:=by rfl):JE X (.Call (.Name "sum" p) (e::es) [] pos) (tCB (a8K K) t):=⟨D9 (a3U K hc hK) hg hm b0f ha.h (by decide) (by decide) he hpl⟩
theorem a9P(K:PySem.W.Frag)(hg:Gl X "all")(hm:X.mg "all"=none)(ha:JA X (e::es) t)(hc:X.calm=true:=by rfl)(hK:X.K=K:=by rfl)(he:starEach (e::es) X.env=(false,eval e X.env)::starEach es X.env:=by rfl)(hpl:(backTo pos (starEach es X.env)).any (·.1)=false:=by rfl):JE X (.Call (.Name "all" p) (e::es) [] pos) (tCB (a8R K) t):=⟨D9 (a4h K hc hK) hg hm b0h ha.h (by decide) (by decide) he hpl⟩
theorem a9O(K:PySem.W.Frag)(hg:Gl X "any")(hm:X.mg "any"=none)(ha:JA X (e::es) t)(hc:X.calm=true:=by rfl)(hK:X.K=K:=by rfl)(he:starEach (e::es) X.env=(false,eval e X.env)::starEach es X.env:=by rfl)(hpl:(backTo pos (starEach es X.env)).any (·.1)=false:=by rfl):JE X (.Call (.Name "any" p) (e::es) [] pos) (tCB (a8Q K) t):=⟨D9 (a4g K hc hK) hg hm b0g ha.h (by decide) (by decide) he hpl⟩
theorem K3(K:PySem.W.Frag)(hg:Gl X "isinstance")(hm:X.mg "isinstance"=none)(ha:JA X (e::es) t)(hK:X.K=K:=by rfl)(he:starEach (e::es) X.env=(false,eval e X.env)::starEach es X.env:=by rfl)(hpl:(backTo pos (starEach es X.env)).any (·.1)=false:=by rfl):JE X (.Call (.Name "isinstance" p) (e::es) [] pos) (tCB (a8N K) t):=⟨D9 (a4d K hK) hg hm P4 ha.h (by decide) (by decide) he hpl⟩
theorem a9M(hg:Gl X "min")(hm:X.mg "min"=none)(ha:JA X (e::es) t)(hc:X.calm=true:=by rfl)(he:starEach (e::es) X.env=(false,eval e X.env)::starEach es X.env:=by rfl)(hpl:(backTo pos (starEach es X.env)).any (·.1)=false:=by rfl):JE X (.Call (.Name "min" p) (e::es) [] pos) (tCB (a8L) t):=⟨D9 (a3X hc) hg hm a2A ha.h (by decide) (by decide) he hpl⟩
theorem a9N(hg:Gl X "max")(hm:X.mg "max"=none)(ha:JA X (e::es) t)(hc:X.calm=true:=by rfl)(he:starEach (e::es) X.env=(false,eval e X.env)::starEach es X.env:=by rfl)(hpl:(backTo pos (starEach es X.env)).any (·.1)=false:=by rfl):JE X (.Call (.Name "max" p) (e::es) [] pos) (tCB (a8M) t):=⟨D9 (a3Z hc) hg hm a6a ha.h (by decide) (by decide) he hpl⟩
theorem E2(K:PySem.W.Frag)(hg:Gl X "tuple")(hm:X.mg "tuple"=none)(ha:JA X (e::es) t)(hK:X.K=K:=by rfl)(he:starEach (e::es) X.env=(false,eval e X.env)::starEach es X.env:=by rfl)(hpl:(backTo pos (starEach es X.env)).any (·.1)=false:=by rfl):JE X (.Call (.Name "tuple" p) (e::es) [] pos) (tCB (a2g K) t):=⟨O3 (a1R K hK) hg hm Z6 ha.h (by decide) (by decide) he hpl⟩
theorem a0X(hg:Gl X "int")(hm:X.mg "int"=none)(ha:JA X (e::es) t)(he:starEach (e::es) X.env=(false,eval e X.env)::starEach es X.env:=by rfl)(hpl:(backTo pos (starEach es X.env)).any (·.1)=false:=by rfl):JE X (.Call (.Name "int" p) (e::es) [] pos) (tCB (b0D) t):=⟨O3 a4e hg hm a6c ha.h (by decide) (by decide) he hpl⟩
theorem K5(K:PySem.W.Frag)(ho:JE X o to)(ha:JA X (e::es) t)(hK:X.K=K:=by rfl)(hbase:attributeBase o "append" X.env (eval o X.env)=eval o X.env:=by rfl)
  (hfew:((backTo cpos (starEach (e::es) X.env)).all (λx=>!x.1) && (backToKw cpos (keywordEach [] X.env)).all (λx=>x.1.isSome) && decide ((e::es).length+([]:List Keyword).length+(if ([]:List Keyword).isEmpty then 0 else 1)<30))=true:=by rfl)
  (hline:(apos.endLine==cpos.line)=true:=by rfl) (hs:starEach (e::es) X.env=(false,eval e X.env)::starEach es X.env:=by rfl) (hplain:(backTo cpos (starEach es X.env)).any (·.1)=false:=by rfl) :
  JE X (.Call (.Attribute o "append" apos) (e::es) [] cpos) (tBM K "list" a2P to t):=⟨a9m K PySem.F.plainAttrs_list PySem.F.slot_list_append PySem.F.type_list_append a3E ho.h ha.h hK hbase hfew hline hs hplain⟩
theorem A9{i:Nat}{x:Str}(hN:X.N.Nodup)(hi:X.N[i]?=some x)(hx:Loc X.env.scope x)(hf:X.fn x=true∨X.env.scope.names.lookup x=some .local:=by first|exact .inl rfl|exact .inr rfl|assumption):JG X (.Name x pos) (A7 i):=⟨a6O hN hi hx hf⟩
theorem G9:JGs X [] a7z:=⟨a6M⟩
theorem B5{g:TG}{u:TGs}(h1:JG X e g)(h2:JGs X es u)(hs:(assignEach (e::es) X.env).map (·.2)=assign e X.env::(assignEach es X.env).map (·.2):=by rfl):JGs X (e::es) (a0q g u):=⟨a5e h1.h h2.h hs⟩
theorem M1(K:PySem.W.Frag)(n:Nat){k:Nat}{u:TGs}(h:JGs X es u)(hc:X.calm=true:=by rfl)(hK:X.K=K:=by rfl)(hn:(assignEach es X.env).length=n:=by rfl)(hst:(assignEach es X.env).findIdx? (·.1)=none:=by rfl):JG X (.Tuple es k pos) (a5N K n u):=⟨a6N K hc h.h hK hn hst⟩
theorem a0W{i:Expr}{ti:TE}(ho:JE X o to)(hi:JE X i ti)
  (ha:∀v,assign (.Subscript o i pos) X.env v=(do
   let ov <-holding [v] (eval o X.env)
   let iv <-holding [v,ov] (eval i X.env)
   standAt pos
   holding [v,ov,iv] (setItem ov iv v)
   release [v,ov,iv] []):=by intro _;rfl):JG X (.Subscript o i pos) (b1a to ti a8a):=⟨a9c ho.h hi.h a4L ha⟩
theorem O7(K:PySem.W.Frag){tg l:Expr}{tl:TE}(hl:JE X l tl)(hK:X.K=K:=by rfl):JI X tg l (a5K K tl):=⟨a5d K hl.h hK⟩
theorem N5(K:PySem.W.Frag){tg l:Expr}{tl:TE}(hl:JE X l tl)(hK:X.K=K:=by rfl):JI X tg l (a9Z K tl):=⟨a6J K hl.h hK⟩
theorem a0V(K:PySem.W.Frag){kt:Nat}{tp:Pos}(hg:Gl X "zip")(hm:X.mg "zip"=none)(ha:JA X [a,b] t)(hK:X.K=K:=by rfl)(hs:starEach [a,b] X.env=[(false,eval a X.env),(false,eval b X.env)]:=by rfl)(hs2:starEach [b] X.env=[(false,eval b X.env)]:=by rfl) :
  JI X (.Tuple es kt tp) (.Call (.Name "zip" p) [a,b] [] pos) (a9Y K t):=⟨a6I K hg hm ha.h hK hs hs2⟩
theorem K6{tg:Expr}(hg:Gl X "range")(hm:X.mg "range"=none)(ha:JA X [a] t)(hs:starEach [a] X.env=[(false,eval a X.env)]:=by rfl):JI X tg (.Call (.Name "range" p) [a] [] pos) (a5J t):=⟨a3s hg hm ha.h hs⟩
theorem a3N{tg:Expr}(hg:Gl X "range")(hm:X.mg "range"=none)(ha:JA X [a,b] t)(hs:starEach [a,b] X.env=[(false,eval a X.env),(false,eval b X.env)]:=by rfl)(hs2:starEach [b] X.env=[(false,eval b X.env)]:=by rfl):JI X tg (.Call (.Name "range" p) [a,b] [] pos) (a8o t):=⟨a3r hg hm ha.h hs hs2⟩
theorem M3:JF X [] W5:=⟨a6H⟩
theorem Y1(h:JT X c tA):JF X [c] tA:=⟨a6G h.h⟩
theorem G4{tg iter elt:Expr}{ifs:List Expr}{scope:Scope}{N:List Str}{src:List (Option Nat)}{wi:TI}{g:TG}{tt:TT}(hi:JI X tg iter wi)(hcap:D2 scope X.env.scope=true)(hblk:G6 N src X.N scope=true)(hsc:a0L scope=true)
  (hg:∀cells C s H ex,JG (X.blk N scope cells C s H ex) tg g) (ht:∀cells C s H ex,JF (X.blk N scope cells C s H ex) ifs tt) (he:∀cells C s H ex,JE (X.blk N scope cells C s H ex) elt te)
  (hc:X.calm=true:=by rfl) (hs:∀x,foldedSetIterable iter X.env x=pure x:=by intro _;rfl):JE X (.ListComp elt [⟨tg,iter,ifs,0⟩] scope pos) (a1r src wi g tt te) :=
 ⟨a6T hc hi.h hcap hblk hsc (λ_ _ _ _ _=>(hg _ _ _ _ _).h) (λ_ _ _ _ _=>(ht _ _ _ _ _).h) (λ_ _ _ _ _=>(he _ _ _ _ _).h) hs⟩
variable {st:Stmt}{sts:List Stmt}{u v:TS}
theorem B8:JB X [] a4A:=⟨a6A⟩
theorem A1(h1:JS X st u)(h2:JB X sts v):JB X (st::sts) (a6m u v):=⟨a4V h1.h h2.h⟩
theorem A4(h1:JS X st u):JB X [st] u:=⟨a6z h1.h⟩
theorem B1(he:JE X e te):JS X (.Return (some e) pos) (a8A te):=⟨a8U he.h⟩
theorem R7(he:JE X e te)(hs:swapsWith e none pos.line X.env=pure false:=by rfl):JS X (.Expr e pos) (a4C te):=⟨a6D he.h hs⟩
theorem D1{A B:List Stmt}(hc:JT X c tA)(ha:JB X A u)(hb:JB X B v):JS X (.If c A B pos) (a8D tA u v):=⟨b0F hc.h ha.h hb.h⟩
theorem R6{B:List Stmt}(hc:JT X c tA)(hb:JB X B v)(hp:PassesOwn (model X.prog X.w) X.A X.env X.xe:=by exact PassesOwn.never):JS X (.While c B [] pos) (a4v tA v):=⟨a4W hp hc.h hb.h⟩
theorem G3{tg iter:Expr}{B:List Stmt}{wi:TI}{g:TG}(hi:JI X tg iter wi)(hg:JG X tg g)(hb:JB X B v)(hp:PassesOwn (model X.prog X.w) X.A X.env X.xe:=by exact PassesOwn.never)(hc:X.calm=true:=by rfl)
  (hs:∀x,foldedSetIterable iter X.env x=pure x:=by intro _;rfl):JS X (.For tg iter B [] pos) (b0u wi g v):=⟨a8V hp hc hi.h hg.h hb.h hs⟩
theorem A8{i:Nat}{x:Str}{pos':Pos}(hN:X.N.Nodup)(hi:X.N[i]?=some x)(hx:Loc X.env.scope x)(he:JE X e te)(hs:swapsWith e (some (.Name x pos')) pos.line X.env=pure false:=by rfl)
  (hf:X.fn x=true∨X.env.scope.names.lookup x=some .local:=by first|exact .inl rfl|exact .inr rfl|assumption):JS X (.Assign [.Name x pos'] e pos) (a2b te (A7 i)):=⟨a8T hN hi hx he.h hs hf⟩
theorem a2U{i:Nat}{y:Str}{py spos:Pos}{tg iter elt:Expr}{ifs:List Expr}{scope:Scope}{N:List Str}{src:List (Option Nat)}{wi:TI}{g:TG}{tt:TT}
  (hN:X.N.Nodup) (hy:X.N[i]?=some y) (hx:Loc X.env.scope y) (hi:JI X tg iter wi) (hcap:D2 scope X.env.scope=true) (hblk:G6 N src X.N scope=true) (hsc:a0L scope=true)
  (hg:∀cells C s H ex,JG (X.blk N scope cells C s H ex) tg g) (ht:∀cells C s H ex,JF (X.blk N scope cells C s H ex) ifs tt) (hel:∀cells C s H ex,JE (X.blk N scope cells C s H ex) elt te)
  (hc:X.calm=true:=by rfl) (hsw:swapsWith (.ListComp elt [⟨tg,iter,ifs,0⟩] scope pos) (some (.Name y py)) spos.line X.env=pure true:=by rfl) (hs:∀x,foldedSetIterable iter X.env x=pure x:=by intro _;rfl)
  (hf:X.fn y=true∨X.env.scope.names.lookup y=some .local:=by first|exact .inl rfl|exact .inr rfl|assumption) :
  JS X (.Assign [.Name y py] (.ListComp elt [⟨tg,iter,ifs,0⟩] scope pos) spos) (a2b (a1r src wi g tt te) (A7 i)) :=
 ⟨a6B hN hy hx hc hi.h hcap hblk hsc (λ_ _ _ _ _=>(hg _ _ _ _ _).h) (λ_ _ _ _ _=>(ht _ _ _ _ _).h) (λ_ _ _ _ _=>(hel _ _ _ _ _).h) hsw hs hf⟩
theorem Y0{tg:Expr}{g:TG}(he:JE X e te)(hg:JG X tg g)(hs:swapsWithSole [tg] e pos.line X.env=pure false:=by rfl)(hw:swappedStores [tg] e X.env=pure none:=by rfl)
  (h1:(assignEach [tg] X.env).map (·.2)=[assign tg X.env]:=by rfl):JS X (.Assign [tg] e pos) (a2b te g):=⟨a8X he.h hg.h hs hw h1⟩
theorem a3M{i:Nat}{x:Str}{pos':Pos}(hN:X.N.Nodup)(hi:X.N[i]?=some x)(hx:Loc X.env.scope x)(he:JE X e te)(hf:X.fn x=true∨X.env.scope.names.lookup x=some .local:=by first|exact .inl rfl|exact .inr rfl|assumption) :
  JS X (.AugAssign (.Name x pos') .Add e pos) (a8F i te (ipI λi j=>i+j)):=⟨a4Z hN hi hx he.h a9X hf⟩
end
section
variable {P:Program}{w:World}{K:PySem.W.Frag}{mg:Str->Option Value}{base:Heap}
theorem FunAt.okJ{x:Str}{st:Stmt}{N ps:List Str}{k:Nat}{sp:Sp}(F:FunAt K mg x st ps)(S:FnScope N ps (A2 st))(len:∀vs H Q E,sp vs H Q E->vs.length=ps.length)
  (hbody:∀(cdv:Value) (f:Addr) (A:Around) (outer:List Env) (s:Shared) (H:Hp) (vs:List V) (Q:VK) (E:XK),Room k (A.deeper (envOfC x (A2 st) s.heap.objs.size f cdv))->sp vs H Q E ->
   ∃t,JB (N0 CX0 P w K mg base N x (A2 st) f cdv A outer s H E).nox (C5 st) t/\t {nx:=λ_ H'=>Q .non H',rt:=Q} (start N vs) H):Ok P w K mg base x (k+1) ps sp :=
 F.ok S len λcdv f A outer s H vs Q E hr h=>let ⟨t,d,r⟩:=hbody cdv f A outer s H vs Q E hr h;⟨t,d.h,r⟩
theorem Fun.okJ{x qual:Str}{st:Stmt}{f:Addr}{fd:FuncData}{N ps:List Str}{k:Nat}{sp:Sp}(F:Fun K x qual st f fd)(S:FnScope N ps (A2 st))(len:∀vs H Q E,sp vs H Q E->vs.length=ps.length)
  (hbody:∀(cdv:Value) (A:Around) (outer:List Env) (s:Shared) (H:Hp) (vs:List V) (Q:VK) (E:XK),Room k (A.deeper (envOfC qual (A2 st) s.heap.objs.size f cdv))->sp vs H Q E ->
   ∃t,JB (N0 CX0 P w K mg base N qual (A2 st) f cdv A outer s H E).nox (C5 st) t/\t {nx:=λ_ H'=>Q .non H',rt:=Q} (start N vs) H):FnOk P w K mg base CX0 (k+1) f fd ps sp :=
 F.ok S len λcdv A outer s H vs Q E hr h=>let ⟨t,d,r⟩:=hbody cdv A outer s H vs Q E hr h;⟨t,d.h,r⟩
end
def a2M(K:PySem.W.Frag):Sp:=λvs H Q _=>∃(a:Addr) (ns:List Int),vs=[.ref a]/\SqL K H a (ns.map V.int)/\ns.length<=63/\∀H',Q (.bl true) H'
theorem law_walk{l:PySem.W.OpenLaw}{q:Program}{loose:List Str}{XP:(Str->Option Value)->Heap->Prop}{YP:World->Heap->Prop}{d:DefRec}{K:Params->PySem.W.Frag}(k:Nat)(hn:l.most=some 63)(hdf:d.params.defaults=[])(hr:Room k callerA)
  (hY:∀(w:World) (h:Heap),YP w h->(K w.params).In h)
  (F:∀(w:World) (mg:Str->Option Value) (fa:Addr) (h:Heap),(K w.params).In h->h.Ns mainGlobals mg->mg d.name=some (.ref fa) ->
   ∃fd:FuncData,(∀(s:Shared) (u:Value),BindsTo s fd ⟨[u],[]⟩ [("_law_script",u)])/\∀base:Heap,(K w.params).In base->base.Ns mainGlobals mg->FnOk l.prog w (K w.params) mg base CX0 k fa fd ["_law_script"] (a2M (K w.params))) :
  PySem.W.WalkO q loose XP YP l.row.toRowW d [] (λf vs=>PySem.call f vs) :=
 L2.walk_of (n:=63) (k:=k) (x:="_law_script") (CX:=λ_=>CX0) (sp:=λw=>a2M (K w.params)) hn (by decide) hdf hr hY F (λ_ _ a ns hl _ hS=>⟨a,ns,rfl,hS,hl,λ_=>rfl⟩) λ_ _ _ _ _ z=>z
def Its(H:Hp)(vs:List V)(rss:LLI):Prop:=vs.length=rss.length/\∀(i:Nat) (v:V),vs[i]?=some v->∃r,rss[i]?=some r/\IT H v r
theorem Its.same{H H':Hp}{vs:List V}{rss:LLI}(h:Its H vs rss)(s:Same H H'):Its H' vs rss:=⟨h.1,λi v e=>let ⟨r,e1,e2⟩:=h.2 i v e;⟨r,e1,e2.same s⟩⟩
theorem Its.nil{H:Hp}:Its H [] []:=⟨rfl,λi v e=>by simp at e⟩
theorem Its.snoc{H:Hp}{vs:List V}{rss:LLI}{v:V}{r:List Int}(h:Its H vs rss)(hv:IT H v r):Its H (vs++[v]) (rss++[r]):=by
 refine⟨by simp[h.1],λi u e=>?_⟩;by_cases hi:i<vs.length
 .rw[List.getElem?_append_left hi]at e;obtain⟨q,e1,e2⟩:=h.2 i u e;exact⟨q,by rw[List.getElem?_append_left (by rw[<-h.1];exact hi)];exact e1,e2⟩
 .rw[List.getElem?_append_right (by omega)]at e;have hj:i-vs.length=0:=by
   have:=(List.getElem?_eq_some_iff.mp e).1;simp at this;omega
  rw[hj]at e;simp at e;subst e;refine⟨r,?_,hv⟩;rw[List.getElem?_append_right (by rw[<-h.1];omega),<-h.1,hj];rfl
theorem Its.mem{H:Hp}{vs:List V}{rss:LLI}{v:V}{i:Nat}(h:Its H vs rss)(e:vs[i]?=some v):∃r,r∈rss/\rss[i]?=some r/\IT H v r :=
 let ⟨r,e1,e2⟩:=h.2 i v e
 ⟨r,List.mem_of_getElem? e1,e1,e2⟩
end L2
namespace L2
open PySem PySem.Spec PyProof.Rows PySem.W
noncomputable def Z0(p C:Addr):HO:=.ext λh=>∃o,h.get? p=some o/\o.cls=.ref C
theorem ObjOk.there{P:Program}{w:World}{H:Hp}{h:Heap}{a:Addr}{o:HO}(x:ObjOk P w H h a o):∃u,h.get? a=some u:=by
 induction o with
 |lst xs=>obtain⟨_,_,_,_,e⟩:=x;exact⟨_,e⟩
 |tup xs=>obtain⟨_,_,_,ob,e,_⟩:=x;exact⟨_,e⟩
 |dK kvs=>obtain⟨_,_,_,_,o,_,_,e,_⟩:=x;exact⟨_,e⟩
 |dT kvs=>obtain⟨_,_,_,_,o,_,_,e,_⟩:=x;exact⟨_,e⟩
 |set S n=>obtain⟨o,_,_,_,e,_⟩:=x;exact⟨_,e⟩
 |ins C dx fs=>obtain⟨_,_,_,e,_⟩:=x;exact⟨_,e⟩
 |own y=>obtain⟨_,e⟩:=x;exact⟨_,e⟩
 |xd fs=>obtain⟨_,⟨_,_,_,e,_⟩,_⟩:=x;exact⟨_,e⟩
 |rng lo hi=>obtain⟨_,_,_,e⟩:=x;exact⟨_,e⟩
 |frz ob u ih=>obtain⟨e,_⟩:=x;exact⟨_,e⟩
 |tbl ps=>exact⟨_,x⟩
 |met f y=>exact⟨_,x⟩
 |ext φ=>exact x.2.1
def Cov(l:List Env)(H:Hp)(h0 h B:Heap):Prop:=∀b o,h.get? b=some o->b∉frs l->(H b≠none∨∃o',h0.get? b=some o')->B.get? b=some o
theorem Y9{P:Program}{w:World}{l:List Env}{H H':Hp}{h0 h1 h2 B base:Heap}(hU:Un (frs l) [] H H' h0 h1)(hok:HOk P w H' h1)(cov:Cov l H' h0 h1 B)(st:B.StaysIn h2)(up:h1.UpToSlots h2)(ff:h1.FunFrames base l)(hf:∀b∈frs l,H' b=none) :
  Un (frs l) [] H H' h0 h2/\HOk P w H' h2/\Cov l H' h0 h2 B:=by
 have tr:∀b,H' b≠none->b∉frs l:=λb n hb=>n (hf b hb);refine⟨⟨?_,?_,hU.free,?_,hU.tups,hU.frzs,hU.tbls⟩,?_,?_⟩
 .intro b o e n hb hx;exact st b o (cov b o (hU.keep b o e n hb hx) hb (.inr ⟨o,e⟩))
 .intro b o e n hb hx;obtain⟨sl,q⟩:=hU.slot b o e n hb hx;obtain⟨_,o2,e2,nf⟩:=ff.mem hb;rw[q]at e2;cases e2;obtain⟨sl2,q2⟩:=up b _ q nf;exact⟨sl2,q2⟩
 .intro b o e hx;obtain⟨o1,q⟩:=hU.there b o e hx;by_cases hb:b∈frs l
  .obtain⟨_,o2,e2,nf⟩:=ff.mem hb;rw[q]at e2;cases e2;obtain⟨sl2,q2⟩:=up b _ q nf;exact⟨_,q2⟩
  .exact⟨o1,st b o1 (cov b o1 q hb (.inr ⟨o,e⟩))⟩
 .intro a o e;refine(hok a o e).stay (λb u hb q=>?_) (λ_ q=>q) λ_ _ q=>q;have ht:H' b≠none:=by
   rcases hb with rfl|hb
   .rw[e];intro z;cases z
   .rw[hb];intro z;cases z
  exact st b u (cov b u q (tr b ht) (.inl ht))
 .intro b o e hb ho;have ex:∃o1,h1.get? b=some o1:=by
   rcases ho with ht|⟨o',q⟩
   .cases eq:H' b with
    |none=>exact absurd eq ht
    |some u=>exact(hok b u eq).there
   .exact hU.there b o' q (by simp)
  obtain⟨o1,q1⟩:=ex;have q2:=cov b o1 q1 hb ho;have q3:=st b o1 q2;rw[e]at q3;cases q3;exact q2
def CXE(P:Program)(w:World):CXT:=λouter H s E e s' =>
 ∃(p C:Addr) (H':Hp) (B:Heap) (a0:Value),e=.ref p/\s'.os=s.os/\AllBare s'.gens/\Un (frs outer) [] H H' s.heap s'.heap/\HOk P w H' s'.heap /\
  H' p=none/\Heap.FlyingW B outer p (.ref C) a0 s'.heap/\Cov outer H' s.heap s'.heap B/\E (.ref C) none H'
theorem a9p{K:PySem.W.Frag}{h:Heap}{mg:Str->Option Value}{x:Str}{C:Addr}{bmB:List Value}{newId:String}(X:K.In h)(hm:mg x=some (.ref C))(q:excIn K C bmB newId=true):OwnCls x C bmB newId mg h:=by
 refine⟨hm,?_⟩;unfold excIn at q;split at q
 .rename_i dd cd sl ho;split at q
  .rename_i C' bm k0 k1 k2 k3 n k5 hmro hs;simp only[Bool.and_eq_true,beq_iff_eq,Bool.not_eq_true']at q;obtain⟨⟨⟨⟨⟨rfl,rfl⟩,hdel⟩,ht⟩,hok⟩,hni⟩:=q;obtain⟨nm,bs,mro,ns,qn,hd,sn,sub,ab,col,del⟩:=cd;dsimp only at hmro hdel hok hni;subst hmro hdel;have hsl:sl=#[k0,k1,k2,k3,some (.builtin n),k5]:=by
    obtain⟨l⟩:=sl;simp only at hs;rw[hs]
   subst hsl;exact⟨bm,ns,nm,qn,bs,hd,sn,sub,ab,col,dd,k0,k1,k2,k3,k5,_,X _ _ ho,.of_isNs (isNs_of_in X hok),nsMap_none_of_in X hok hni,tail_of_in X ht⟩
  .cases q
 .cases q
def a4x(C:Addr)(E:XK)(t:TA):TS:=λ_ σ H=>t σ H λvs H1=>vs.length<=sizeLine/\E (.ref C) none H1
theorem a4Y{P:Program}{w:World}{K:PySem.W.Frag}{mg:Str->Option Value}{base:Heap}{N:List Str}{qual:Str}{scope:Scope}{f:Addr}{cd:Value}{A:Around}{outer:List Env}{s0:Shared}{H0:Hp}{E:XK}
  {x:Str}{C:Addr}{bmB bmN:List Value}{B Bn newId nid initId inN:String}{e:Expr}{es:List Expr}{t:TA}{np cpos pos:Pos}
  (O:OwnCls x C bmB newId mg base) (Fn:ExcBaseFacts Bn newId inN bmN) (hBn:bmB.contains (.type Bn)=true) (FB:ExcBaseFacts B nid initId bmB)
  (hg:Gl (N0 (CXE P w) P w K mg base N qual scope f cd A outer s0 H0 E) x)
  (ha:PA (N0 (CXE P w) P w K mg base N qual scope f cd A outer s0 H0 E) (e::es) t) (hd:(x==("__debug__" : Str))=false:=by decide)
  (he:starEach (e::es) (envOfC qual scope s0.heap.objs.size f cd)=(false,eval e (envOfC qual scope s0.heap.objs.size f cd))::starEach es (envOfC qual scope s0.heap.objs.size f cd):=by rfl)
  (hpl:(backTo cpos (starEach es (envOfC qual scope s0.heap.objs.size f cd))).any (·.1)=false:=by rfl) :
  PS (N0 (CXE P w) P w K mg base N qual scope f cd A outer s0 H0 E) (.Raise (some (.Call (.Name x np) (e::es) [] cpos)) none pos) (a4x C E t):=by
 intro pins s σ H D I h;obtain⟨tl,NC,nm,q,bs,hdct,sn,sub,ab,col,dd,k0,k1,k2,k3,k5,mN,hC,hN,hni,T⟩:=O.obj;refine wpAny_Raise_call_subU (C:=C) (nm:=nm) (q:=q) (N:=NC) (bs:=bs) (bm:=tl) (hdct:=hdct) (sn:=sn) (sub:=sub) (ab:=ab) (col:=col) (dd:=dd) (k0:=k0) (k1:=k1) (k2:=k2) (k3:=k3) (k5:=k5)
  Fn hBn FB (mN:=mN) (T.hasType FB.hasBase) (I.ok.hd rfl) (by show(backTo cpos (starEach (e::es) (envOfC qual scope s0.heap.objs.size f cd))).any _=false;rw[he];show(false || (backTo cpos (starEach es (envOfC qual scope s0.heap.objs.size f cd))).any (·.1))=false;rw[hpl];rfl) hni (O6 I hg O.bound ⟨rfl,?_⟩ hd)
 have ha':=ha cpos pins s σ H _ I h;have he':starEach (e::es) (N0 (CXE P w) P w K mg base N qual scope f cd A outer s0 H0 E).env=_:=he;rw[he']at ha'⊢;refine Calls.evalArgs_plain (wpAny_mono ha' (λus s2 ⟨vs,H1,I1,r,hl,q⟩=>⟨rfl,by rw[<-r.length];exact hl,I1.bk _ _ hC,hN.keeps I1.bk,T.keeps I1.bk,λh' p hm=>?_⟩) λ_ _ z=>z);have hin:∀env∈(envOfC qual scope s0.heap.objs.size f cd::outer),∀b,env.frame=some b->b∈frs (envOfC qual scope s0.heap.objs.size f cd::outer):=λenv he b hb=>List.mem_filterMap.mpr ⟨env,he,hb⟩;refine wpAny_leaves_madeW (base:=hideAll s2.heap (frs (envOfC qual scope s0.heap.objs.size f cd::outer))) (h:=s2.heap) I1.ok.frames rfl (λb o q=>of_hideAll _ q) (funFrames_hide I1.stack hin) hm λh2 t x1 x2 x3 x4=>?_;have hsub:∀b∈frs outer,b∈frs (envOfC qual scope s0.heap.objs.size f cd::outer):=λb hb=>by
  obtain⟨env,h1,h2⟩:=List.mem_filterMap.mp hb;exact List.mem_filterMap.mpr ⟨env,List.mem_cons_of_mem _ h1,h2⟩
 have hnot:∀b,b∉frs outer->b≠s0.heap.objs.size->b∉frs (envOfC qual scope s0.heap.objs.size f cd::outer):=λb h1 h2 h3=>by
  obtain⟨env,q1,q2⟩:=List.mem_filterMap.mp h3;rcases List.mem_cons.mp q1 with rfl|q1
  .exact h2 (Option.some.inj q2).symm
  .exact h1 (List.mem_filterMap.mpr ⟨env,q1,q2⟩)
 have cov:Cov outer H1 s0.heap s2.heap (hideAll s2.heap (frs (envOfC qual scope s0.heap.objs.size f cd::outer))):=λb o eb nb hb=>by
  refine hideAll_get _ eb (hnot b nb λz=>?_);subst z;rcases hb with hb|⟨o',hb⟩
  .exact hb I1.free
  .exact absurd (Heap.lt_size hb) (Nat.lt_irrefl _)
 have hp:H1 p=none:=by
  cases eq:H1 p with
  |none=>rfl
  |some u =>
   obtain⟨o,eo⟩:=(I1.hok p u eq).there;rw[hm.new]at eo;cases eo
 obtain⟨U2,ok2,cov2⟩:=Y9 (P:=P) (w:=w) (l:=outer) (H:=H0) (H':=H1) (h0:=s0.heap) (h1:=s2.heap) (h2:=h2) I1.base I1.hok cov x1.1 ((Heap.UpToSlots.of_keeps hm.keeps).trans x4) I1.funs λb hb=>I1.stkFree b (hsub b hb);exact⟨p,C,H1,_,.ref t,rfl,I1.os,I1.bare,U2,ok2,hp,x1,cov2,q⟩
def XP(X:Cx)(pins:List (Addr×Obj))(R:St->Addr->Hp->Prop)(e:Value)(s':Shared):Prop :=
 ∃(σ1:St) (H1:Hp) (s1:Shared) (p C:Addr) (H':Hp) (B:Heap) (a0:Value),e=.ref p/\Inv X pins σ1 H1 s1/\s'.os=s1.os/\AllBare s'.gens/\Un (frs X.stack) [] H1 H' s1.heap s'.heap/\HOk X.prog X.w H' s'.heap /\
  H' p=none/\Heap.FlyingW B X.stack p (.ref C) a0 s'.heap/\Cov X.stack H' s1.heap s'.heap B/\R σ1 C H'
abbrev TX:=Ends->(St->Addr->Hp->Prop)->St->Hp->Prop
def PSx(X:Cx)(sts:List Stmt)(t:TX):Prop :=
 ∀(pins:List (Addr×Obj)) (s:Shared) (σ:St) (H:Hp) (D:Ends) (R:St->Addr->Hp->Prop),Inv X pins σ H s->t D R σ H->wpAny (model X.prog X.w) X.A (execs sts X.env) (SP X pins D) (XP X pins R) s
structure OkE(P:Program)(w:World)(K:PySem.W.Frag)(mg:Str->Option Value)(base:Heap)(x:Str)(k:Nat)(ps:List Str)(sp:Sp):Prop where
 ex:∃f fd,mg x=some (.ref f)/\PySem.W.keepIn K (.ref f)=true/\Binds K fd ps []/\FnOk P w K mg base (CXE P w) k f fd ps sp
theorem FunAt.okE{P:Program}{w:World}{K:PySem.W.Frag}{mg:Str->Option Value}{base:Heap}{x:Str}{st:Stmt}{N ps:List Str}{k:Nat}{sp:Sp}(F:FunAt K mg x st ps)(S:FnScope N ps (A2 st))(len:∀vs H Q E,sp vs H Q E->vs.length=ps.length)
  (hbody:∀(cdv:Value) (f:Addr) (A:Around) (outer:List Env) (s:Shared) (H:Hp) (vs:List V) (Q:VK) (E:XK),Room k (A.deeper (envOfC x (A2 st) s.heap.objs.size f cdv))->sp vs H Q E ->
   ∃t,JB (N0 (CXE P w) P w K mg base N x (A2 st) f cdv A outer s H E) (C5 st) t/\t {nx:=λ_ H'=>Q .non H',rt:=Q} (start N vs) H):OkE P w K mg base x (k+1) ps sp:=by
 obtain⟨f,fd,h1,h2,h3⟩:=F.ex;refine⟨f,fd,h1,h2.kp,h3,?_⟩;obtain⟨oc,od,kV,doc,pm,an,cdv,ct,osl,rfl,lk,hcd⟩:=h2.ex;refine a8q lk hcd S len λA outer s H vs Q E hr hsp=>?_;obtain⟨t,h,q⟩:=hbody cdv f A outer s H vs Q E hr hsp;exact⟨t,h.h,q⟩
def a7Q(i:Nat)(sp:Sp)(t:TA):TX:=λD R σ H=>t σ H λvs H1=>sp vs H1 (λv H2=>D.nx (σ.set i (some v)) H2) λc _ H'=>∃C,c=.ref C/\R σ C H'
theorem a6y{X:Cx}{k:Nat}{ps:List Str}{sp:Sp}{x y:Str}{p pos cpos pos':Pos}{e:Expr}{es:List Expr}{t:TA}{i:Nat}(hx0:∀e s,¬X.xe e s)(O:OkE X.prog X.w X.K X.mg X.base x k ps sp)(hr:Room k X.A)(hg:Gl X x)
  (hN:X.N.Nodup) (hi:X.N[i]?=some y) (hy:Loc X.env.scope y) (ha:PA X (e::es) t) (hdb:(x==("__debug__" : Str))=false:=by decide)
  (he:starEach (e::es) X.env=(false,eval e X.env)::starEach es X.env:=by rfl) (hpl:(backTo cpos (starEach es X.env)).any (·.1)=false:=by rfl)
  (hs:swapsWith (.Call (.Name x p) (e::es) [] cpos) (some (.Name y pos')) pos.line X.env=pure false:=by rfl) (hf:X.fn y=true∨X.env.scope.names.lookup y=some .local:=by first|exact .inl rfl|exact .inr rfl|assumption) :
  PSx X [.Assign [.Name y pos'] (.Call (.Name x p) (e::es) [] cpos) pos] (a7Q i sp t):=by
 intro pins s σ H D R I h;obtain⟨f,fd,hm,hk,hb,F⟩:=O.ex;refine wpAny_execs_cons (wpAny_Assign_Name ?_ hs);refine wpAny_Call_Name_kw (O6 I hg hm ?_ hdb);refine PySem.W.callWith_K (h₀:=X.base) I.ok.mod.kin hk (wpAny_mono (ha cpos pins s σ H _ I h) (λus s1 ⟨vs,H1,I1,r,q⟩=>⟨I1.kIn,?_⟩) λe s z=>absurd z (hx0 e s)) he hpl;have hl:us.length=ps.length:=by rw[<-r.length];exact F.len _ _ _ _ q
 have hb':=hb s1 us I1.kIn (by rw[List.append_nil];exact hl);rw[List.append_nil]at hb';refine wpAny_call (codeAny_mono (F.run X.A X.stack s1 H1 ⟨us,[]⟩ us vs _ _ hr I1.env0 hb' r q) λr s' hq=>?_);cases r with
 |error e =>
  obtain⟨p,C,H',B,a0,h1,h2,h3,h4,h5,h6,h7,h8,C',h9,h10⟩:=hq;cases h9;exact⟨σ,H1,s1,p,C,H',B,a0,h1,I1,h2,h3,h4,h5,h6,h7,h8,h10⟩
 |ok fl =>
  cases fl with
  |ret u =>
   obtain⟨v,H2,I2,rv,q2⟩:=I1.after hq;exact N2 I2 hN hi hy rv (λs2 I3=>wpAny_execs_nil ⟨_,H2,I3,q2⟩) hf
  |next=>exact False.elim hq
  |brk=>exact False.elim hq
  |cont=>exact False.elim hq
section
variable {M:Model}{A:Around}{E:Value->Shared->Prop}
structure ClsX(K:PySem.W.Frag)(C:Addr)(above:List Value):Prop where
 ex:∃nm q N bs bm hdct sn sub ab col dd k0 k1 k2 k3 k5 newId,K.lookup C=some (excClassObj nm q C N bs bm hdct sn sub ab col dd k0 k1 k2 k3 k5 newId)/\bm.contains (.type "BaseException")=true/\∀v∈above,bm.contains v=true
theorem Z1{nm q nm' q':Str}{C N D N':Addr}{bs bm bs' bm':List Value}{hdct hdct':Bool}{sn sn':List Str}{sub sub':List Value}{ab ab':Bool}{col col':Option Bool}{dd dd':Option Addr}{k0 k1 k2 k3 k5 j0 j1 j2 j3 j5:Option Value}{newId newId':String}
  {h:Heap}{g:Array GenState}{d:Drawn}{t:Nat}{os:OsState}{e:Addr}{oe:Obj}{Q:Bool->Shared->Prop}
  (hC:h.get? C=some (excClassObj nm q C N bs bm hdct sn sub ab col dd k0 k1 k2 k3 k5 newId)) (hD:h.get? D=some (excClassObj nm' q' D N' bs' bm' hdct' sn' sub' ab' col' dd' j0 j1 j2 j3 j5 newId')) (he:h.get? e=some oe) (hcls:oe.cls=.ref C)
  (hbase:bm'.contains (.type "BaseException")=true) (hup:bm.contains (.ref D)=true) (hq:Q true ⟨h,g,d,t,os⟩):wpAny M A (excMatches (.ref e) (.ref D)) Q E ⟨h,g,d,t,os⟩:=by
 have hcB:(Value.ref D::bm').contains (.type "BaseException")=true:=by rw[List.contains_cons,hbase,Bool.or_true]
 have hcC:(Value.ref C::bm).contains (.ref D)=true:=by rw[List.contains_cons,hup,Bool.or_true]
 have f:=tc_notTuple;unfold excMatches
 repeat (first | (with_reducible refine wpAny_loadPart_at he ?_;rw[hcls])|with_reducible refine wpAny_loadPart_at hD ?_ | (with_reducible refine wpAny_isSubtype_exc hD ?_;rw[hcB]) | (with_reducible refine wpAny_isSubtype_exc hC ?_;rw[hcC])|wp_step)
 exact hq
end
section
variable {X:Cx}{pins:List (Addr×Obj)}{σ:St}{H1 H':Hp}{s1 s':Shared}{p C:Addr}{B:Heap}{a0:Value}{h2:Heap}
theorem Inv.land(I1:Inv X pins σ H1 s1)(hos:s'.os=s1.os)(hg:AllBare s'.gens)(hU:Un (frs X.stack) [] H1 H' s1.heap s'.heap)(hok:HOk X.prog X.w H' s'.heap)(ff:s'.heap.FunFrames B X.stack)(cov:Cov X.stack H' s1.heap s'.heap B)(st:B.StaysIn h2)(up:s'.heap.UpToSlots h2) :
  Inv X pins σ H' {s' with heap:=h2}:=by
 have hf:∀b∈frs X.stack,H' b=none:=λb hb=>by
  obtain⟨_,o,ho,_⟩:=I1.stack.mem hb;exact hU.free b o ho (I1.stkFree b hb) (by simp)
 obtain⟨U2,ok2,_⟩:=Y9 hU hok cov st up ff hf;exact I1.call' (ch:=[]) hos U2 ok2 hg (λb z=>absurd z (by simp))
theorem Inv.landX(I1:Inv X pins σ H1 s1)(hos:s'.os=s1.os)(hg:AllBare s'.gens)(hU:Un (frs X.stack) [] H1 H' s1.heap s'.heap)(hok:HOk X.prog X.w H' s'.heap)(hp:H' p=none)(ff:s'.heap.FunFrames B X.stack)(cov:Cov X.stack H' s1.heap s'.heap B)(fl2:Heap.FlyingW B X.stack p (.ref C) a0 h2)(up:s'.heap.UpToSlots h2) :
  Inv X pins σ (upd H' p (Z0 p C)) {s' with heap:=h2}:=by
 have hf:∀b∈frs X.stack,H' b=none:=λb hb=>by
  obtain⟨_,o,ho,_⟩:=I1.stack.mem hb;exact hU.free b o ho (I1.stkFree b hb) (by simp)
 obtain⟨U2,ok2,cov2⟩:=Y9 hU hok cov fl2.1 up ff hf;obtain⟨oe,heo,hcl⟩:=fl2.there;have hpf:p∉frs X.stack:=λhb=>by
  obtain⟨_,o,ho,nf⟩:=fl2.2.2.1.mem hb;obtain⟨oe',vs,_,_,_,he',_,hd',_⟩:=fl2.2.2.2;rw[ho]at he';cases he';exact nf vs hd'
 have hn1:∀o,s1.heap.get? p≠some o:=λo e=>by
  have:=cov2 p oe heo hpf (.inr ⟨o,e⟩);rw[fl2.2.1]at this;cases this
 have U3:Un (frs X.stack) [] H1 (upd H' p (Z0 p C)) s1.heap h2:=by
  refine⟨U2.keep,U2.slot,λb o e n hx=>?_,U2.there,λb xs e=>?_,λb o u e=>?_,λb ps e=>?_⟩
  .rw[A3 (by rintro rfl;exact hn1 o e)];exact U2.free b o e n hx
  .have q:=U2.tups b xs e;rw[A3 (by rintro rfl;rw[hp]at q;cases q)];exact q
  .have q:=U2.frzs b o u e;rw[A3 (by rintro rfl;rw[hp]at q;cases q)];exact q
  .obtain⟨more,q⟩:=U2.tbls b ps e;exact⟨more,by rw[A3 (by rintro rfl;rw[hp]at q;cases q)];exact q⟩
 have ok3:HOk X.prog X.w (upd H' p (Z0 p C)) h2:=λa o e=>by
  by_cases ha:a=p
  .subst ha;rw[A0]at e;cases e;exact⟨⟨oe,heo,hcl⟩,⟨oe,heo⟩,λg1 g2 ⟨o,q1,q2⟩ k=>⟨o,k o q1,q2⟩⟩
  .rw[A3 ha]at e;refine(ok2 a o e).stay (λb u _ q=>q) (λb q=>?_) λb xs q=>?_
   .rw[A3 (by rintro rfl;rw[hp]at q;cases q)];exact q
   .rw[A3 (by rintro rfl;rw[hp]at q;cases q)];exact q
 exact I1.call' (ch:=[]) hos U3 ok3 hg (λb z=>absurd z (by simp))
end
section
variable {X:Cx}{pins:List (Addr×Obj)}{σ:St}{H:Hp}{s:Shared}
theorem a3D{M:Model}{A:Around}{E:Value->Shared->Prop}{i:Nat}{n:Str}{pos:Pos}{Q:Unit->Shared->Prop}(I:Inv X pins σ H s)(hN:X.N.Nodup)(hi:X.N[i]?=some n)(hk:X.env.scope.names.lookup n=some .local)
  (h:∀s',Inv X pins (σ.set i none) H s'->Q () s'):wpAny M A (do bindName X.env n .none;unbindBehindTheSuite X.env n pos) Q E s:=by
 obtain⟨m,hn,hl⟩:=I.loc;have hcls:(X.env.scope.kind==.class || (X.env.scope.kind==.module && X.env.locals != X.env.globals))=false:=by rw[I.ok.kind];rfl
 have hiσ:i<σ.length:=by rw[I.len];exact(List.getElem?_eq_some_iff.mp hi).1
 have cne:=I.cne;refine wpAny_nameGoes_keeps hk hn hcls λh' v hn' hs=>?_;obtain⟨oL,_,_,hoL,_⟩:=id hn;have tracked:HOk X.prog X.w H h':=λb ob e=>by
  refine(I.hok b ob e).stay (λc w' hc q=>(hs.2 c ?_).trans q) (λ_ q=>q) λ_ _ q=>q;have hfree:=I.free;rintro rfl;rcases hc with z|hc
  .rw[<-z,hfree]at e;cases e
  .rw[hfree]at hc;cases hc
 refine h _ ⟨I.ok,I.os,I.bare,⟨λb o e n hb hx=>?_,λb o e n hb hx=>?_,I.base.free,λb o e hx=>?_,I.base.tups,I.base.frzs,I.base.tbls⟩,⟨_,hn',λj y v' e1 e2 e3=>?_⟩,λy c e=>?_,I.free,I.freeC,λp hp=>?_,tracked,by simpa using I.len⟩
 .exact(hs.2 b (Nat.ne_of_lt (Nat.lt_of_lt_of_le (Heap.lt_size e) I.ok.above))).trans (I.base.keep b o e n hb hx)
 .obtain⟨sl,e1⟩:=I.base.slot b o e n hb hx;exact⟨sl,(hs.2 b (Nat.ne_of_lt (Nat.lt_of_lt_of_le (Heap.lt_size e) I.ok.above))).trans e1⟩
 .obtain⟨o',e1⟩:=I.base.there b o e hx;exact⟨o',(hs.2 b (Nat.ne_of_lt (Nat.lt_of_lt_of_le (Heap.lt_size e) I.ok.above))).trans e1⟩
 .by_cases hj:j=i
  .subst hj;rw[List.getElem?_set_self hiσ]at e2;cases e2
  .rw[List.getElem?_set_ne (Ne.symm hj)]at e2;obtain⟨u',r',q⟩:=hl j y v' e1 e2 e3;refine⟨u',r',?_⟩;rcases q with⟨k,e⟩|⟨k,c,e,z⟩
   .refine .inl ⟨k,?_⟩;have:y≠n:=λe=>hj (X2 hN e1 (e ▸ hi));simp[this,e]
   .exact .inr ⟨k,c,e,z.sameBut hs (cne y c e)⟩
 .obtain⟨w',z⟩:=I.cell y c e;exact⟨w',z.sameBut hs (cne y c e)⟩
 .obtain⟨e,n,ne,nf,d⟩:=I.pin p hp;exact⟨(hs.2 p.1 ne).trans e,n,ne,nf,d⟩
noncomputable abbrev Cx.held(X:Cx)(p:Addr):Cx:={X with A:=X.A.mark (some (.ref p)),calm:=false,xe:=λ_ _=>False}
theorem Inv.held(I:Inv X pins σ H s)(p:Addr):Inv (X.held p) pins σ H s :=
 ⟨⟨I.ok.mod,I.ok.kind,I.ok.glob,I.ok.blt,I.ok.above,I.ok.inj,I.ok.has,I.ok.cab,(λz=>by cases z),I.ok.frames,I.ok.stk,I.ok.exf,I.ok.bs,I.ok.bsz,I.ok.noex,I.ok.exfs,I.ok.funs,I.ok.frf⟩,I.os,I.bare,I.base,I.loc,I.cell,I.free,I.freeC,I.pin,I.hok,I.len⟩
theorem Inv.unheld{p:Addr}(J:X.Ok)(I:Inv (X.held p) pins σ H s):Inv X pins σ H s :=
 ⟨J,I.os,I.bare,I.base,I.loc,I.cell,I.free,I.freeC,I.pin,I.hok,I.len⟩
end
def a4w(K:PySem.W.Frag)(D:Addr)(j:Nat)(tx:TX)(ts:TS):TS:=λDe σ H=>tx De (λσ1 C H'=>ClsX K C [.ref D]/\∀p,H' p=none->ts {nx:=λσ2 H2=>De.nx (σ2.set j none) H2,rt:=λ_ _=>False} (σ1.set j (some (.ref p))) (upd H' p (Z0 p C))) σ H
theorem a4X{X:Cx}{body:List Stmt}{tx:TX}{ts:TS}{cx n:Str}{np hpos pos:Pos}{b0:Stmt}{suite:List Stmt}{j:Nat}{D:Addr}(hst:X.stack=X.env::X.outer)(hfr:X.env.frame=some X.env.locals)(hx:PSx X body tx)
  (hg:Gl X cx) (hm:X.mg cx=some (.ref D)) (hD:ClsX X.K D []) (hN:X.N.Nodup) (hj:X.N[j]?=some n) (hk:X.env.scope.names.lookup n=some .local)
  (hsu:∀p,PSs (X.held p) (b0::suite) ts) (hd:(cx==("__debug__" : Str))=false:=by decide) :
  PS X (.Try body [.ExceptHandler (some (.Name cx np)) (some n) (b0::suite) hpos] [] [] pos) (a4w X.K D j tx ts):=by
 intro pins s σ H De I h;refine wpAny_Try_except (wpAny_mono (hx pins s σ H De _ I h) (λf s1 q=>?_) λe s' q=>?_)
 .cases f with
  |next=>exact wpAny_execs_nil q
  |brk=>exact q
  |cont=>exact q
  |ret v=>exact q
 .obtain⟨σ1,H1,s1,p,C,H',B,a0,rfl,I1,hos,hbare,hU,hok,hp,fl,cov,hC,k⟩:=q;have ff:=fl.2.2.1;have fl':=fl;rw[hst]at fl';refine wpAny_looks_onW (L:=X.env.locals) (by rw[<-hst];exact I1.ok.frames) hfr fl' λh4 held4 up4=>?_;refine wpAny_landsW held4 λh5 fl5 up5=>?_;rw[<-hst]at fl5;have up5:=up4.trans up5;have I5:Inv X pins σ1 H' {s' with heap:=h5}:=I1.land hos hbare hU hok ff cov fl5.1 up5;refine wpAny_handleBy_cons (codeAny_handlers_test ?_) (by intro q;cases q);refine O6 (X:=X.held p) (I5.held p) hg hm ?_ hd;obtain⟨oe,hoe,hcl⟩:=fl5.there;obtain⟨nm,q,NN,bs,bm,hdct,sn,sub,ab,col,dd,k0,k1,k2,k3,k5,newId,lkC,_,hup⟩:=hC.ex;obtain⟨nm',q',NN',bs',bm',hdct',sn',sub',ab',col',dd',j0,j1,j2,j3,j5,newId',lkD,hbD,_⟩:=hD.ex;refine Z1 (I5.kIn _ _ lkC) (I5.kIn _ _ lkD) hoe hcl hbD (hup _ (List.mem_cons_self ..)) ?_;refine codeAny_handlers_suite_as ?_;refine lands_againW fl5 λh6 fl6 up6=>?_;have I6:Inv X pins σ1 (upd H' p (Z0 p C)) {s' with heap:=h6}:=I1.landX hos hbare hU hok hp ff cov fl6 (up5.trans up6);refine N2 I6 hN hj (.inl hk) (v:=.ref p) rfl (λs7 I7=>?_) (.inr hk);refine wpAny_mono (hsu p pins s7 _ _ _ (I7.held p) (k p hp)) (λf s8 q8=>?_) λ_ _ z=>False.elim z;cases f with
  |next =>
   obtain⟨σ2,H2,I8,q8⟩:=q8;exact a3D (I8.unheld I.ok) hN hj hk λs9 I9=>⟨_,H2,I9,q8⟩
  |brk=>obtain⟨_,_,_,z⟩:=q8;exact False.elim z
  |cont=>obtain⟨_,_,_,z⟩:=q8;exact False.elim z
  |ret v=>obtain⟨_,_,_,_,_,z⟩:=q8;exact False.elim z
def Z4(K:PySem.W.Frag)(C:Addr)(above:List Value):Bool:=match K.lookup C with
 |some ⟨.type "type",_,.cls cd,sl⟩=>(match cd.mro,sl.toList with
  |.ref C'::bm,[_,_,_,_,some (.builtin _),_]=>C'==C && !cd.hasDel && bm.contains (.type "BaseException") && above.all λv=>bm.contains v
  |_,_=>false)
 |_=>false
theorem a1h{K:PySem.W.Frag}{C:Addr}{above:List Value}(q:Z4 K C above=true):ClsX K C above:=by
 unfold Z4 at q;split at q
 .rename_i dd cd sl ho;split at q
  .rename_i C' bm k0 k1 k2 k3 n k5 hmro hs;simp only[Bool.and_eq_true,beq_iff_eq,Bool.not_eq_true',List.all_eq_true]at q;obtain⟨⟨⟨rfl,hdel⟩,hb⟩,ha⟩:=q;obtain⟨nm,bs,mro,ns,qn,hd,sn,sub,ab,col,del⟩:=cd;dsimp only at hmro hdel;subst hmro hdel;have hsl:sl=#[k0,k1,k2,k3,some (.builtin n),k5]:=by
    obtain⟨l⟩:=sl;simp only at hs;rw[hs]
   subst hsl;exact⟨nm,qn,ns,bs,bm,hd,sn,sub,ab,col,dd,k0,k1,k2,k3,k5,n,ho,hb,λv hv=>ha v hv⟩
  .cases q
 .cases q
structure JX(X:Cx)(sts:List Stmt)(t:TX):Prop where
 h:PSx X sts t
section
variable {X:Cx}{k:Nat}{ps:List Str}{sp:Sp}{x y:Str}{p pos cpos pos':Pos}{e:Expr}{es:List Expr}{t:TA}{i:Nat}
theorem a9K(O:OkE X.prog X.w X.K X.mg X.base x k ps sp)(hr:Room k X.A)(hg:Gl X x)(hN:X.N.Nodup)(hi:X.N[i]?=some y)(hy:Loc X.env.scope y)(ha:JA X (e::es) t)(hx0:∀e s,¬X.xe e s:=by exact λ_ _ z=>z)(hdb:(x==("__debug__" : Str))=false:=by decide)
  (he:starEach (e::es) X.env=(false,eval e X.env)::starEach es X.env:=by rfl) (hpl:(backTo cpos (starEach es X.env)).any (·.1)=false:=by rfl)
  (hs:swapsWith (.Call (.Name x p) (e::es) [] cpos) (some (.Name y pos')) pos.line X.env=pure false:=by rfl) (hf:X.fn y=true∨X.env.scope.names.lookup y=some .local:=by first|exact .inl rfl|exact .inr rfl|assumption) :
  JX X [.Assign [.Name y pos'] (.Call (.Name x p) (e::es) [] cpos) pos] (a7Q i sp t):=⟨a6y hx0 O hr hg hN hi hy ha.h hdb he hpl hs hf⟩
theorem a5E(K:PySem.W.Frag){body:List Stmt}{tx:TX}{ts:TS}{cx n:Str}{np hpos pos:Pos}{b0:Stmt}{suite:List Stmt}{j:Nat}{D:Addr}(hx:JX X body tx)(hg:Gl X cx)(hm:X.mg cx=some (.ref D))(hD:ClsX K D [])(hN:X.N.Nodup)(hj:X.N[j]?=some n)
  (hk:X.env.scope.names.lookup n=some .local) (hsu:∀p,JB (X.held p) (b0::suite) ts) (hK:X.K=K:=by rfl) (hst:X.stack=X.env::X.outer:=by rfl) (hfr:X.env.frame=some X.env.locals:=by rfl) (hd:(cx==("__debug__" : Str))=false:=by decide) :
  JS X (.Try body [.ExceptHandler (some (.Name cx np)) (some n) (b0::suite) hpos] [] [] pos) (a4w K D j tx ts):=by
 subst hK;exact⟨a4X hst hfr hx.h hg hm hD hN hj hk (λp=>(hsu p).h) hd⟩
end
theorem a5F{P:Program}{w:World}{K:PySem.W.Frag}{mg:Str->Option Value}{base:Heap}{N:List Str}{qual:Str}{scope:Scope}{f:Addr}{cd:Value}{A:Around}{outer:List Env}{s0:Shared}{H0:Hp}{E:XK}
  {x:Str}{C:Addr}{bmB bmN:List Value}{B Bn newId nid initId inN:String}{e:Expr}{es:List Expr}{t:TA}{np cpos pos:Pos}
  (O:OwnCls x C bmB newId mg base) (Fn:ExcBaseFacts Bn newId inN bmN) (hBn:bmB.contains (.type Bn)=true) (FB:ExcBaseFacts B nid initId bmB)
  (hg:Gl (N0 (CXE P w) P w K mg base N qual scope f cd A outer s0 H0 E) x)
  (ha:JA (N0 (CXE P w) P w K mg base N qual scope f cd A outer s0 H0 E) (e::es) t) (hd:(x==("__debug__" : Str))=false:=by decide)
  (he:starEach (e::es) (envOfC qual scope s0.heap.objs.size f cd)=(false,eval e (envOfC qual scope s0.heap.objs.size f cd))::starEach es (envOfC qual scope s0.heap.objs.size f cd):=by rfl)
  (hpl:(backTo cpos (starEach es (envOfC qual scope s0.heap.objs.size f cd))).any (·.1)=false:=by rfl) :
  JS (N0 (CXE P w) P w K mg base N qual scope f cd A outer s0 H0 E) (.Raise (some (.Call (.Name x np) (e::es) [] cpos)) none pos) (a4x C E t):=⟨a4Y O Fn hBn FB hg ha.h hd he hpl⟩
end L2
namespace L2
open PySem PySem.Spec PyProof.Rows PySem.W Builtin Builtin.ObjectAttr Builtin.Getset_descriptor
section
variable {K:PySem.W.Frag}{prog:Program}{w:World}{A:Around}{E:Value->Shared->Prop}{h:Heap}{g:Array GenState}{d:Drawn}{t:Nat}{os:OsState}{a:Addr}{o:Obj}
 {nm q:Str}{C N:Addr}{bs bm:List Value}{hdct:Bool}{sn:List Str}{sub:List Value}{ab:Bool}{col:Option Bool}{dd:Option Addr}{k0 k1 k2 k3 k5:Option Value}{newId:String}
theorem a4n{M:Model}{nameV:Value}{Q:Unit->Shared->Prop}(hC:h.get? C=some (excClassObj nm q C N bs bm hdct sn sub ab col dd k0 k1 k2 k3 k5 newId))(hb:bm.contains (.type "BaseException")=true)
  (hx:h.get? a=some o) (hc:o.cls=.ref C) (hq:Q () ⟨h,g,d,t,os⟩):wpAny M A (checkBuiltinCall "BaseException.__getattribute__" ⟨[.ref a,nameV],[]⟩) Q E ⟨h,g,d,t,os⟩:=by
 have hk:builtinKind "BaseException.__getattribute__"=some .slot:=by decide +kernel
 have hsplit:splitId "BaseException.__getattribute__"=some ("BaseException","__getattribute__"):=by decide +kernel
 have hcB:(Value.ref C::bm).contains (.type "BaseException")=true:=by rw[List.contains_cons,hb];rfl
 have ha:=F.args_bexc_ga (.ref a) nameV;simp only[checkBuiltinCall,hk,hsplit];refine wpAny_bind ?_
 .unfold isInstance
  repeat (first | (with_reducible refine wpAny_loadPart_at hx ?_;rw[hc]) | (with_reducible refine wpAny_isSubtype_exc hC ?_;rw[hcB])|wp_step)
  exact hq
theorem a2D{M:Model}(hx:h.get? a=some o)(hc:o.cls=.ref C):Looks M h (typeOf (.ref a)) (.ref C):=hc ▸ (Looks.ld hx).andThen .now
theorem a8s{R:Result->Shared->Prop}{tp:Value}(X:K.In h)(hx:h.get? a=some o)(hc:o.cls=.ref C)(hm:mroIn K C (.type "object")=some true)(hq:R (.ok (.ret (.ref C))) ⟨h,g,d,t,os⟩) :
  codeAny (model prog w) A (.call (.builtin "getset_descriptor.__get__") ⟨[.builtin "object.__class__",.ref a,tp],[]⟩) R ⟨h,g,d,t,os⟩:=by
 have L0:=a2D (M:=model prog w) hx hc;have L1:=looks_mroIn (M:=model prog w) X hm;refine codeAny_call_builtin KF.slot_gs.plain KF.entry_gs (KF.slot_gs.check _ _ _ _ _ _ _ _ KF.type_class (KF.args_gs _ _ _) ?_);unfold Builtin.«getset_descriptor.__get__» descrGet;rw[dga_obj];refine wpAny_bind (wpAny_pure ?_);unfold descrGetter descrCheckInstance descrNameAndClass isInstance;simp only[KF.owner_class]
 repeat lk
 refine⟨Code.quiet_builtin _ (by decide +kernel),codeAny_builtin KF.entry_class ?_⟩;unfold Builtin.«object.__class__» shownTypeOf
 repeat lk
 exact hq
theorem a4m{tk:Tok}{Q:Fin->Shared->Prop}(X:K.In h)(hm:mroIn K C (.type "object")=some true)(hcl:findIn K (.ref C) "__class__"=some (some (.builtin "object.__class__")))(hx:h.get? a=some o)(hc:o.cls=.ref C)(hq:Q (.done (.ret (.ref C))) ⟨h,g,d,t,os⟩) :
  wpAny (model prog w) A (Builtin.«object.__getattribute__» ⟨[.ref a,.str "__class__" tk],[]⟩) Q E ⟨h,g,d,t,os⟩:=by
 have L:=looks_findIn (M:=model prog w) X hcl;have f6:=F.slot_gs_get.lookup;have f7:=F.slot_gs_set.lookup;have f5:=KF.type_class
 repeat (any_goals (first|assumption | (with_reducible refine wpAny_loadPart_at hx ?_;rw[hc])|with_reducible refine L.at ?_|wp_step))
 refine a8s X hx hc hm ?_
 repeat (any_goals (first|assumption|wp_step))
theorem a6j{Q:Option Value->Shared->Prop}(X:K.In h)(hC:h.get? C=some (excClassObj nm q C N bs bm hdct sn sub ab col dd k0 k1 k2 k3 k5 newId))(hb:bm.contains (.type "BaseException")=true)(hm:mroIn K C (.type "object")=some true)
  (hcl:findIn K (.ref C) "__class__"=some (some (.builtin "object.__class__"))) (hga:findIn K (.ref C) "__getattribute__"=some (some (.builtin "BaseException.__getattribute__"))) (hgr:findIn K (.ref C) "__getattr__"=some none)
  (hx:h.get? a=some o) (hc:o.cls=.ref C) (hq:Q (some (.ref C)) ⟨h,g,d,t+1,os⟩):wpAny (model prog w) A (getAttr? (.ref a) "__class__") Q E ⟨h,g,d,t,os⟩:=by
 have L1:=looks_findIn (M:=model prog w) X hga;have L2:=looks_findIn (M:=model prog w) X hgr;have FB:=PySem.F.attrBase_ValueError;have f3:=FB.ga.bind (.ref a);have hx2:(Value.builtin "BaseException.__getattribute__"==Value.builtin "object.__getattribute__")=false:=by decide +kernel
 have hx1:(onTheHeap (Value.ref C) && Value.builtin "BaseException.__getattribute__"==Value.builtin "object.__getattribute__")=false:=by rw[hx2];rfl
 unfold getAttr? getAttrBy? getAttrBy
 repeat (any_goals (first|assumption | (with_reducible refine wpAny_loadPart_at hx ?_;rw[hc])|with_reducible refine L1.at ?_|with_reducible refine L2.at ?_|wp_step))
 refine codeAny_call_builtin FB.ga.plain F.entry_bexc_ga (a4n hC hb hx hc (a4m X hm hcl hx hc ?_));exact handed_on rfl (wpAny_pure hq)
structure IsX(K:PySem.W.Frag)(C:Addr):Prop where
 cls:ClsX K C []
 mro:mroIn K C (.type "object")=some true
 cl:findIn K (.ref C) "__class__"=some (some (.builtin "object.__class__"))
 ga:findIn K (.ref C) "__getattribute__"=some (some (.builtin "BaseException.__getattribute__"))
 gr:findIn K (.ref C) "__getattr__"=some none
theorem X8(Z:IsX K C):KitX K (.ref a) (.ref C) (λh=>∃o,h.get? a=some o/\o.cls=.ref C) where
 ty:=λ_ _ _ ⟨o,hx,hc⟩=>a2D hx hc
 it:=λ_ _ X _=>by
  obtain⟨nm,q,N,bs,bm,hdct,sn,sub,ab,col,dd,k0,k1,k2,k3,k5,newId,lk,_⟩:=Z.cls.ex;intro A' Q' E' s' k q;unfold isType loadHead;exact wpAny_bind (wpAny_loadPart (k _ _ (X _ _ lk)) (wpAny_pure q))
 ne:=λh tp dd its n sl X htp=>by
  obtain⟨nm,q,N,bs,bm,hdct,sn,sub,ab,col,dd,k0,k1,k2,k3,k5,newId,lk,_⟩:=Z.cls.ex;refine Bool.eq_false_iff.mpr λq=>?_;have e:C=tp:=Value.ref.inj (beq_iff_eq.mp q);subst e;have z:=congrArg Obj.data (Option.some.inj ((X _ _ lk).symm.trans htp));unfold excClassObj at z;cases z
 ca:=λ{prog w A E Q s} X ⟨o,hx,hc⟩ hq=>by
  obtain⟨nm,q,N,bs,bm,hdct,sn,sub,ab,col,dd,k0,k1,k2,k3,k5,newId,lk,hb,_⟩:=Z.cls.ex;obtain⟨h,g,d,t,os⟩:=s;exact a6j X (X _ _ lk) hb Z.mro Z.cl Z.ga Z.gr hx hc hq
end
section
variable {X:Cx}{es:List Expr}{e:Expr}{t:TA}{pos p:Pos}
def b0C(K:PySem.W.Frag):RL:=λxs H Q=>∃(p C:Addr) (vc:V) (b:Bool),xs=[.ref p,vc]/\H p=some (Z0 p C)/\IsX K C /\
 ((∃n,vc=.ty n/\kitOne K (.ref C) (.type n)=some b)∨(∃D,vc=.ref D/\kitOne K (.ref C) (.ref D)=some b)∨∃(tp:Addr) (Ds:List Addr),vc=.ref tp/\H tp=some (.tup (Ds.map V.ref))/\kitAny K (.ref C) (Ds.map Value.ref)=some b)/\Q (.bl b) H
theorem a0b:∀{Ds:List Addr}{us:List Value},Vals (Ds.map V.ref) us->us=Ds.map Value.ref
 |[],_,.nil=>rfl
 |D::Ds,_,.cons r t=>by
  have:=a0b t;subst this;cases r;rfl
theorem a5X(K:PySem.W.Frag)(hK:X.K=K:=by rfl):C6 X (.builtin "isinstance") (b0C K):=by
 subst hK;intro pins s σ H xs us Q I rv h;obtain⟨p,C,vc,b,rfl,hp,Z,hc,q⟩:=h;obtain⟨u,v,rfl,ru,rv'⟩:=rv.two;cases ru;have hx:∃o,s.heap.get? p=some o/\o.cls=.ref C:=(I.hok p _ hp).1;rcases hc with⟨n,rfl,e⟩|⟨D,rfl,e⟩|⟨tp,Ds,rfl,htp,e⟩
 .cases rv';exact kia_one (X8 Z) I.kIn hx e (λz=>nomatch z) λtk=>⟨.bl b,H,I.tok tk,rfl,q⟩
 .cases rv';exact kia_one (X8 Z) I.kIn hx e (λz=>nomatch z) λtk=>⟨.bl b,H,I.tok tk,rfl,q⟩
 .cases rv';obtain⟨_,its,r,ob,e1,e2,e3⟩:=(show ObjOk X.prog X.w H s.heap tp (.tup (Ds.map V.ref))from I.hok tp _ htp);have:=a0b r;subst this;obtain⟨oc,od,oda,osl⟩:=ob;obtain⟨n,e3⟩:=e3;cases e2;cases e3;exact kia_tup (X8 Z) I.kIn hx e1 e (λz=>nomatch z) λtk=>⟨.bl b,H,I.tok tk,rfl,q⟩
theorem J1(K:PySem.W.Frag)(hg:Gl X "isinstance")(hm:X.mg "isinstance"=none)(ha:JA X (e::es) t)(hK:X.K=K:=by rfl)(he:starEach (e::es) X.env=(false,eval e X.env)::starEach es X.env:=by rfl)(hpl:(backTo pos (starEach es X.env)).any (·.1)=false:=by rfl) :
  JE X (.Call (.Name "isinstance" p) (e::es) [] pos) (tCB (b0C K) t):=⟨D9 (a5X K hK) hg hm P4 ha.h (by decide) (by decide) he hpl⟩
theorem Y2{x:Str}{v:V}{u:Value}(hg:Gl X x)(hm:X.mg x=some u)(r:RelV v u)(hd:(x==("__debug__" : Str))=false:=by decide):JE X (.Name x pos) (tC v):=⟨a6S hg hm r hd⟩
end
end L2
namespace L2
open PySem PySem.Spec PyProof.Rows
theorem Y6{α:Type}{ca:α->V}{xs:List α}{i:Nat}{x:V}(h:(xs.map ca)[i]?=some x):∃z,xs[i]?=some z/\x=ca z:=by
 rw[List.getElem?_map]at h;cases e:xs[i]? with
 |none=>rw[e]at h;cases h
 |some z=>rw[e]at h;exact⟨z,rfl,(Option.some.inj h).symm⟩
theorem b1d{α β:Type}{K:PySem.W.Frag}{src:List (Option Nat)}{σ caps:St}{Q:VK}{k1 k2:Bool}{a b:Addr}(ca:α->V)(cb:β->V){xs:List α}{ys:List β}{H:Hp}{te:TE}(f:α->β->V)(hl:xs.length<=1000)
  (hmono:∀H',Same H H'->SqK k1 K H' a (xs.map ca)/\SqK k2 K H' b (ys.map cb))
  (hsrc:B7 src σ=none::none::caps) (hte:∀x y H1 Q1,x∈xs->y∈ys->Same H H1->(∀H2,Same H1 H2->Q1 (f x y) H2)->te (some (ca x)::some (cb y)::caps) H1 Q1)
  (hd:∀H1 p,Same H H1->H1 p=none->Q (.ref p) (upd H1 p (.lst (List.zipWith f xs ys)))) :
  N9 src (a5N K 2 (a0q (A7 0) (a0q (A7 1) a7z))) W5 te σ Q (Itz K k1 k2 a b) H:=by
 have hz:(1000:Nat)<=sizeLine:=by rw[sizeLine_eq];decide
 refine a1N (xs:=xs.map ca) (zs:=ys.map cb) (by rw[List.length_map];omega) (λi zs H'=>Same H H'/\zs=(List.zipWith f xs ys).take i) ⟨Same.refl H,by simp⟩ (λi zs H' _ _ h=>⟨(hmono H' h.1).1,(hmono H' h.1).2,by rw[h.2];exact List.length_take_le _ _⟩) ?_ ?_
 .rintro i x z zs H' p hx hy ⟨s,rfl⟩ hp;obtain⟨x',hx',e1⟩:=Y6 hx;obtain⟨z',hy',e2⟩:=Y6 hy;subst e1 e2;clear hx hy;have s':Same H (upd H' p (.tup [ca x',cb z'])):=s.upd hp;refine⟨p,[ca x',cb z'],rfl,SqT.of A0,rfl,ca x',[cb z'],rfl,cb z',[],rfl,rfl,?_⟩;rw[hsrc];show Sub _ (some (ca x')::some (cb z')::caps)/\_;refine⟨⟨rfl,λj v e=>?_⟩,?_⟩
  .match j,e with
   |0,e=>cases e
   |1,e=>cases e
   |j+2,e=>exact e
  .exact hte x' z' _ _ (List.mem_of_getElem? hx') (List.mem_of_getElem? hy') s' λH2 s2=>⟨s'.trans s2,(Q6 f hx' hy').symm⟩
 .rintro zs H' ⟨s,rfl⟩ p hp;have e:(List.zipWith f xs ys).take (min (xs.map ca).length (ys.map cb).length)=List.zipWith f xs ys:=by
   rw[List.length_map,List.length_map,List.take_of_length_le];rw[List.length_zipWith];exact Nat.le_refl _
  rw[e];exact hd H' p s hp
theorem S4{α:Type}{K:PySem.W.Frag}{src:List (Option Nat)}{σ caps:St}{Q:VK}{a:Addr}(ca:α->V){xs:List α}{H:Hp}{tt:TT}(t:α->Bool)(hl:xs.length<=1000)(hmono:∀H',Same H H'->SqT K H' a (xs.map ca))(hsrc:B7 src σ=none::caps)
  (htt:∀x H1 (Q1:Bool->Hp->Prop),x∈xs->Same H H1->(∀H2,Same H1 H2->Q1 (t x) H2)->tt (some (ca x)::caps) H1 Q1) (hd:∀H1 p,Same H H1->H1 p=none->Q (.ref p) (upd H1 p (.lst ((xs.filter t).map ca)))):N9 src (A7 0) tt (a1q 0) σ Q (Itt K a) H:=by
 have hz:(1000:Nat)<=sizeLine:=by rw[sizeLine_eq];decide
 refine Z2 (xs:=xs.map ca) (by rw[List.length_map];omega) (λi ys H'=>Same H H'/\ys=((xs.take i).filter t).map ca) ⟨Same.refl H,by simp⟩ (λi ys H' _ h=>⟨hmono H' h.1,by rw[h.2,List.length_map];exact Nat.le_trans (List.length_filter_le _ _) (List.length_take_le _ _)⟩) ?_ ?_
 .rintro i x ys H' hx ⟨s,rfl⟩;obtain⟨z,hz',rfl⟩:=Y6 hx;show Sub _ ((B7 src σ).set 0 (some (ca z)))/\_;rw[hsrc];refine⟨Sub.one,htt z H' _ (List.mem_of_getElem? hz') s λH2 s2=>?_⟩;rw[List.take_add_one,hz'];cases e:t z with
  |true=>exact⟨_,rfl,s.trans s2,by simp[e]⟩
  |false=>exact⟨s.trans s2,by simp[e]⟩
 .rintro ys H' ⟨s,rfl⟩ p hp;rw[List.length_map,List.take_length];exact hd H' p s hp
theorem Its.put{H:Hp}{vs:List V}{rss:LLI}{c:Addr}{xs:List V}{o:HO}(h:Its H vs rss)(hc:H c=some (.lst xs)):Its (upd H c o) vs rss:=⟨h.1,λi v e=>let ⟨r,e1,a,e2,q⟩:=h.2 i v e;⟨r,e1,a,e2,by rw[A3 (R5 q hc (by intro z;cases z))];exact q⟩⟩
open _root_.HT
section
variable {prog:Program}{w:World}{A:Around}{E:Value->Shared->Prop}{s:Shared}
theorem a2B(n:Nat):Builtin.Slice.sliceAdjust none none (-1) (n:Int)=((n:Int)-1,-1):=by
 unfold Builtin.Slice.sliceAdjust;have h1:((-1:Int)<0):=by omega
 simp only[h1,if_true]
theorem a2h(n:Nat):Builtin.Slice.slicePlaces ((n:Int)-1) (-1) (-1)=n:=by
 unfold Builtin.Slice.slicePlaces;have h1:¬((-1:Int) > 0):=by omega
 simp only[h1,if_false,Int.neg_neg,Int.ediv_one];split<;>omega
theorem S5{sl:Addr}{t:Tok}{n:Nat}{Q:Int×Int×Nat->Shared->Prop}(hs:s.heap.IsSliceOf sl .none .none (.int (-1) t))
  (h:Q ((n:Int)-1,-1,n) s):wpAny (model prog w) A (Builtin.Slice.sliceApplied (.ref sl) (pure (n:Int))) Q E s:=by
 obtain⟨os,hos,hcs,hds⟩:=id hs;unfold Builtin.Slice.sliceApplied Builtin.Slice.sliceFields;refine wpAny_bind (wpAny_bind (wpAny_field hos hds (x:=.none) rfl (wpAny_bind (wpAny_field hos hds (x:=.none) rfl (wpAny_bind (wpAny_field hos hds (x:=.int (-1) t) rfl (wpAny_pure ?_)))))));refine wpAny_bind (slicePart_int ?_);show wpAny _ _ (if ((-1:Int)==0)=true then _ else _) _ _ s;rw[if_neg (by decide)];refine wpAny_bind (slicePart_none (wpAny_bind (slicePart_none (wpAny_bind (wpAny_pure ?_)))));show wpAny _ _ (match Builtin.Slice.sliceAdjust none none (-1) (n:Int)with | (lo,hi)=>pure (lo,(-1:Int),Builtin.Slice.slicePlaces lo hi (-1))) _ _ s;rw[a2B n];show wpAny _ _ (pure ((n:Int)-1,(-1:Int),Builtin.Slice.slicePlaces ((n:Int)-1) (-1) (-1))) _ _ s;rw[a2h];exact wpAny_pure h
theorem a1K{α β:Type}{f g:α->Option β}:∀(l:List α),(∀m∈l,f m=g m)->l.filterMap f=l.filterMap g
 |[],_=>rfl
 |a::l,h=>by
  rw[List.filterMap_cons,List.filterMap_cons,h a (List.mem_cons_self ..),a1K l λm hm=>h m (List.mem_cons_of_mem _ hm)]
theorem a5b(xs:Array Value):((List.range xs.size).filterMap λ(m:Nat)=>xs[(((xs.size:Int)-1)+(m:Int)*(-1)).toNat]?).toArray=xs.toList.reverse.toArray:=by
 congr 1;have e:∀m∈List.range xs.size,xs[(((xs.size:Int)-1)+(m:Int)*(-1)).toNat]?=some (xs.toList.reverse.getD m .none):=λm hm=>by
  have hm':m<xs.size:=List.mem_range.mp hm;have e1:(((xs.size:Int)-1)+(m:Int)*(-1)).toNat=xs.size-1-m:=by omega
  rw[e1,List.getD_eq_getElem?_getD,List.getElem?_reverse (by simpa using hm'),Array.length_toList,Array.getElem?_toList,Array.getElem?_eq_getElem (by omega)];rfl
 rw[a1K _ e];rw[show(List.range xs.size).filterMap (λm=>some (xs.toList.reverse.getD m .none))=(List.range xs.size).map (λm=>xs.toList.reverse.getD m .none)from congrFun (List.filterMap_eq_map (f:=λm=>xs.toList.reverse.getD m .none)) _];refine List.ext_getElem (by simp) λi h1 h2=>?_;simp only[List.getElem_map,List.getElem_range];rw[List.getD_eq_getElem?_getD,List.getElem?_eq_getElem h2];rfl
theorem S1{t sl:Addr}{items:Array Value}{tk:Tok}{Q:Value->Shared->Prop}(ht:IsTup s.heap t items)(hs:s.heap.IsSliceOf sl .none .none (.int (-1) tk))
  (h:Q (.ref s.heap.objs.size) {s with heap:=s.heap.push {cls:=.type "tuple",data:=.seq items.toList.reverse.toArray}})
  (hsz:items.size<=sizeLine):wpAny (model prog w) A (getItem (.ref t) (.ref sl)) Q E s:=by
 have htake:sizeOk (.seq items.toList.reverse.toArray):=by
  show items.toList.reverse.toArray.size<=sizeLine;rw[List.size_toArray,List.length_reverse,Array.length_toList];exact hsz
 obtain⟨os,hos,hcs,hds⟩:=id hs;have hTs:s.TypeIs (.ref sl) "slice":=⟨os,hos,hcs⟩;unfold getItem
 try with_reducible refine wpAny_holding ?_
 first|refine wpAny_bind (wpAny_pure ?_)|skip
 refine wpAny_bind (wpAny_sequenceKey ht.typeIs (by decide) ?_);refine wpAny_bind (wpAny_callSpecial?_slot (name:=Str.ofString "__getitem__") ht.typeIs PyProof.Rows.slot_tuple_getitem
  (wpAny_call_entry PyProof.Rows.slot_tuple_getitem ht.typeIs entry_tuple_getitem ?_ (args_tuple_getitem _ _)))
 show wpAny _ _ (Builtin.Tuple.tupleItemsOf (.ref t)>>=_) _ _ s;refine wpAny_bind (tupleItemsOf_ ht ?_);refine wpAny_bind (wpAny_typeOf hTs ?_);rw[if_pos (by decide)];refine wpAny_bind (S5 hs ?_);have hno:¬((((items.size:Int)-1)==0 && (-1:Int)==1 && items.size==items.size)=true):=by
  intro q;rw[Bool.and_eq_true,Bool.and_eq_true]at q;exact absurd q.1.2 (by decide)
 show wpAny _ _ (if ((((items.size:Int)-1)==0 && (-1:Int)==1 && items.size==items.size))=true then _ else _) _ _ s;rw[if_neg hno,a5b]
 first
  |exact wpAny_bind (m:=Builtin.Tuple.tupleExact _) (wpAny_newObj_type (wpAny_pure ⟨_,rfl,wpAny_pure h⟩) htake)
  |exact wpAny_bind (m:=Builtin.Tuple.tupleExact _) (wpAny_newObj_type (wpAny_bind (wpAny_pure (wpAny_pure ⟨_,rfl,wpAny_pure h⟩))) htake)
  |exact wpAny_bind (wpAny_bind (m:=Builtin.Tuple.tupleExact _) (wpAny_newObj_type (wpAny_pure (wpAny_pure ⟨_,rfl,wpAny_pure h⟩)) htake))
  |exact wpAny_bind (wpAny_bind (m:=Builtin.Tuple.tupleExact _) (wpAny_newObj_type (wpAny_pure ⟨_,rfl,wpAny_pure h⟩) htake))
end
section
variable {X:Cx}{e:Expr}{te:TE}{lo hi:Option Expr}{tl th:TO}{pos p2:Pos}
def b0s(K:PySem.W.Frag)(te ts:TE):TE:=λσ H Q=>te σ H λx H1=>ts σ H1 λy H2=>y=.int (-1)/\∃a xs,x=.ref a/\SqT K H2 a xs/\∀p,H2 p=none->Q (.ref p) (upd H2 p (.tup xs.reverse))
theorem a9Q(K:PySem.W.Frag){st:Expr}{ts:TE}(he:JE X e te)(hs:JE X st ts)(hK:X.K=K:=by rfl):JE X (.Subscript e (.Slice none none (some st) p2) pos) (b0s K te ts):=by
 subst hK;refine⟨λpins s σ H Q I h=>?_⟩;refine Subscript_ (thn (he.h pins s σ H _ I h) λv s1 ⟨x,H1,I1,r1,q1⟩=>?_);refine wpAny_Slice ?_;rw[evalPart_none];refine wpAny_pure ?_;refine wpAny_pure ?_;rw[evalPart_some];refine thn (hs.h pins s1 σ H1 _ I1 q1) λu s3 ⟨y,H3,I3,r3,q3⟩=>?_;obtain⟨rfl,a,xs,rfl,hx,q⟩:=q3;obtain⟨tk,rfl⟩:=r3;cases r1;have I4:Inv X pins σ H3 {s3 with heap:=s3.heap.push {cls:=.type "slice",data:=.fields #[.none,.none,.int (-1) tk]}}:=I3.kept (t':=s3.toks) λb ob q=>Heap.get?_push_of_some _ q;obtain⟨its,r,ht,hz⟩:=I4.tuple hx;have hlen:its.toArray.size=xs.length:=by rw[List.size_toArray];exact r.length.symm
 show wpAny (model X.prog X.w) X.A (subscriptTail e (.Slice none none (some st) p2) (.ref a) (.ref s3.heap.objs.size)) (EP X pins σ Q) X.xe {s3 with heap:=s3.heap.push {cls:=.type "slice",data:=.fields #[.none,.none,.int (-1) tk]}};refine tail_any (ops:=[.ref a,.ref s3.heap.objs.size]) ht.typeIs PyProof.Rows.slot_tuple_getitem.lookup ?_ (by with_unfolding_all rfl);refine S1 ht (Heap.IsSliceOf.new ..) ?_ (by rw[hlen];exact hz);refine⟨.ref _,_,I4.laid (t':=s3.toks) (o:=.tup xs.reverse) (λb ob q=>Heap.get?_push_of_some _ q) (Nat.le_refl _) ?_,rfl,q _ (I4.hok.fresh (Nat.le_refl _))⟩;exact⟨by rw[List.length_reverse];exact hz,_,r.reverse,IsTup.new _ _⟩
def a8O(K:PySem.W.Frag)(neg:Bool):R2:=λx y H Q=>∃(a p:Addr) (ns:List Int) (k:Bool) (vs:List V) (rss:LLI),x=.ref a/\H a=some (.tup (ns.map V.int))/\y=.ref p/\SqK k K H p vs/\Its H vs rss/\Q (.bl (if neg then !decide (ns∈rss)else decide (ns∈rss))) H
noncomputable def eqI(H:Hp)(ns:List Int):Value->Bool
 |.ref b=>match H b with|some (.tup xs)=>decide (xs=ns.map V.int)|_=>false
 |_=>false
theorem a1z{a b:List Int}:a.map V.int=b.map V.int↔a=b:=by
 constructor
 .intro h;induction a generalizing b with
  |nil=>cases b with
   |nil=>rfl
   |cons _ _=>cases h
  |cons x a ih=>cases b with
   |nil=>cases h
   |cons y b =>
    rw[List.map_cons,List.map_cons]at h;injection h with h1 h2
    injection h1 with h1
    rw[h1,ih h2]
 .rintro rfl;rfl
theorem a1e{H:Hp}{ns q:List Int}{b:Addr}(hb:H b=some (.tup (q.map V.int))):eqI H ns (.ref b)=decide (q=ns):=by
 show(match H b with|some (.tup xs)=>decide (xs=ns.map V.int)|_=>false)=_;rw[hb];exact decide_eq_decide.mpr a1z
theorem V8{H:Hp}{ns:List Int}{vs:List V}{rss:LLI}{us:List Value}(h:Its H vs rss)(r:Vals vs us):us.any (eqI H ns)=decide (ns∈rss):=by
 rw[Bool.eq_iff_iff,List.any_eq_true,decide_eq_true_eq];constructor
 .rintro⟨u,hu,e⟩;obtain⟨i,hi,rfl⟩:=List.mem_iff_getElem.mp hu;have hl:=r.length;obtain⟨y,hy⟩:∃y,vs[i]?=some y:=⟨vs[i],List.getElem?_eq_getElem (by omega)⟩;obtain⟨q,eq,b,rfl,hb⟩:=h.2 i y hy;obtain⟨u',e1,e2⟩:=r.get hy;rw[List.getElem?_eq_getElem hi]at e1;cases e1;have e2':us[i]=.ref b:=e2;rw[e2']at e;rw[a1e hb]at e;have:=of_decide_eq_true e;subst this;exact List.mem_of_getElem? eq
 .intro hm;obtain⟨i,hi,rfl⟩:=List.mem_iff_getElem.mp hm;obtain⟨y,hy⟩:∃y,vs[i]?=some y:=⟨vs[i]'(by rw[h.1];exact hi),List.getElem?_eq_getElem (by rw[h.1];exact hi)⟩;obtain⟨q,eq,b,rfl,hb⟩:=h.2 i y hy;rw[List.getElem?_eq_getElem hi]at eq;cases eq;obtain⟨u',e1,e2⟩:=r.get hy;have e2':u'=.ref b:=e2;subst e2';refine⟨_,List.mem_of_getElem? e1,?_⟩;rw[a1e hb];exact decide_eq_true rfl
theorem V5{A:Around}{H:Hp}{s:Shared}{pins:List (Addr×Obj)}{σ:St}{a:Addr}{ns:List Int}{vs:List V}{rss:LLI}{us:List Value}(hu:A.units+1<cLine)(I:Inv X pins σ H s)(ha:H a=some (.tup (ns.map V.int)))(h:Its H vs rss)(r:Vals vs us):∀u∈us,SeqAt.EqAt A s u (.ref a) (eqI H ns u):=by
 intro u hu';obtain⟨i,hi,rfl⟩:=List.mem_iff_getElem.mp hu';have hl:=r.length;obtain⟨y,hy⟩:∃y,vs[i]?=some y:=⟨vs[i],List.getElem?_eq_getElem (by omega)⟩;obtain⟨q,eq,b,rfl,hb⟩:=h.2 i y hy;obtain⟨u',e1,e2⟩:=r.get hy;rw[List.getElem?_eq_getElem hi]at e1;cases e1;have e2':us[i]=.ref b:=e2;rw[e2'];rw[a1e hb];exact(EqV.ints (K:=X.K) (k:=true) (SqT.of hb) (SqT.of ha)).at I hu rfl rfl
theorem b1j(K:PySem.W.Frag)(hu:X.A.units+60<cLine)(hK:X.K=K:=by rfl):OpR X (compareOp .In) (a8O K false):=by
 subst hK;intro pins s σ H x y v u Q I rx ry h;obtain⟨a,p,ns,k,vs,rss,rfl,ha,rfl,hq,hI,q⟩:=h;cases rx;cases ry;cases k
 .obtain⟨its,r,pl,hz⟩:=I.list hq;refine SeqAt.in_listAt (eqI H ns) pl.isList (λw hw=>V5 (by have:X.A.in1.units=X.A.units+1:=rfl;omega) I ha hI r w (by simpa using hw)) ⟨.bl _,H,I,rfl,?_⟩;rw[show its.toArray.any (eqI H ns)=its.any (eqI H ns) by simp,V8 hI r];exact q
 .obtain⟨its,r,pl,hz⟩:=I.tuple hq;refine SeqAt.in_tupleAt (eqI H ns) pl (λw hw=>V5 (by have:X.A.in1.units=X.A.units+1:=rfl;omega) I ha hI r w (by simpa using hw)) ⟨.bl _,H,I,rfl,?_⟩;rw[show its.toArray.any (eqI H ns)=its.any (eqI H ns) by simp,V8 hI r];exact q
theorem a3t(K:PySem.W.Frag)(hu:X.A.units+60<cLine)(hK:X.K=K:=by rfl):OpR X (compareOp .NotIn) (a8O K true):=by
 subst hK;intro pins s σ H x y v u Q I rx ry h;obtain⟨a,p,ns,k,vs,rss,rfl,ha,rfl,hq,hI,q⟩:=h;cases rx;cases ry;cases k
 .obtain⟨its,r,pl,hz⟩:=I.list hq;refine SeqAt.notIn_listAt (eqI H ns) pl.isList (λw hw=>V5 (by have:X.A.in1.units=X.A.units+1:=rfl;omega) I ha hI r w (by simpa using hw)) ⟨.bl _,H,I,rfl,?_⟩;rw[show its.toArray.any (eqI H ns)=its.any (eqI H ns) by simp,V8 hI r];exact q
 .obtain⟨its,r,pl,hz⟩:=I.tuple hq;refine SeqAt.notIn_tupleAt (eqI H ns) pl (λw hw=>V5 (by have:X.A.in1.units=X.A.units+1:=rfl;omega) I ha hI r w (by simpa using hw)) ⟨.bl _,H,I,rfl,?_⟩;rw[show its.toArray.any (eqI H ns)=its.any (eqI H ns) by simp,V8 hI r];exact q
theorem a3K(K:PySem.W.Frag){a b:Expr}{ta tb:TE}(hu:X.A.units+60<cLine)(ha:JE X a ta)(hb:JE X b tb)(hm:behindInMarks .NotIn b=false)(hK:X.K=K:=by rfl):JT X (.Compare a [.NotIn] [b] pos) (P2 (tOp (a8O K true) ta tb)):=⟨J9 (a3t K hu hK) ha.h hb.h hm⟩
end
end L2
namespace L2
open PySem PySem.Spec PyProof.Rows
section
variable {X:Cx}
end
section
variable {X:Cx}
end
section
variable {prog:Program}{w:World}{A:Around}{E:Value->Shared->Prop}{s:Shared}{k:Bool}
theorem a3S{e it l:Addr}{i:Nat}{items:Array Value}{x old:Value}{Q:Value->Shared->Prop}(he:IsEnum s.heap e it (i:Int) old)(hit:ItAt k s.heap it l i)(hl:SqAt k s.heap l items)(hx:items[i]?=some x)(ne:e≠it)
  (hQ:∀(h':Heap) (t:Tok) (tk:Nat),IsEnumOut h' e it ((i:Int)+1) x s.heap.objs.size->ItAt k h' it l (i+1)->h'.get? s.heap.objs.size=some {cls:=.type "tuple",data:=.seq #[.int i t,x]}->h'.objs.size=s.heap.objs.size+1 ->
   (∀b o,b≠e->b≠it->s.heap.get? b=some o->h'.get? b=some o)->Q (.ref s.heap.objs.size) {s with heap:=h',toks:=tk}) :
  wpAny (model prog w) A (Builtin.«enumerate.__next__» ⟨[.ref e],[]⟩) (λfin s'=>∃v,fin=.done (.ret v)/\Q v s') E s:=by
 show wpAny _ _ (field (.ref e) 2>>=_) _ _ _;refine wpAny_bind (wpAny_field he rfl (x:=.ref it) rfl ?_);refine wpAny_bind (N3 hit hl hx λh1 it1 hs1=>?_);have he1:IsEnum h1 e it (i:Int) old:=hs1.extBut _ _ ne he;show wpAny _ _ (field (.ref e) 3>>=_) _ _ _;refine wpAny_bind (wpAny_field he1 rfl (x:=rawInt i) rfl ?_);show wpAny _ _ (field (.ref e) 4>>=_) _ _ _;refine wpAny_bind (wpAny_field he1 rfl (x:=.none) rfl ?_);show wpAny _ _ (if (Value.none==Value.none)=true then _ else _) _ _ _;rw[if_pos (by decide)];refine wpAny_bind (wpAny_mkInt ?_);refine wpAny_bind (wpAny_setField_rec (s:={s with heap:=h1,toks:=s.toks+1}) he1 (by simp) λh2 he2 hs2=>?_);replace he2:IsEnum h2 e it ((i:Int)+1) old:=he2;refine wpAny_bind (wpAny_setField_rec (s:={s with heap:=h2,toks:=s.toks+1}) he2 (by simp) λh3 he3 hs3=>?_);replace he3:IsEnum h3 e it ((i:Int)+1) old:=he3;refine wpAny_bind (wpAny_newTuple ?_);have hsz:h3.objs.size=s.heap.objs.size:=by rw[hs3.1,hs2.1,hs1.1]
 have hlt:e<h3.objs.size:=Heap.lt_size he3;have he4:IsEnum (h3.push {cls:=.type "tuple",data:=.seq #[.int i s.toks,x]}) e it ((i:Int)+1) old:=Heap.get?_push_of_some _ he3;refine wpAny_bind ?_;unfold Builtin.SmallTypes.ownedTupleIsFree;refine wpAny_bind (wpAny_field he4 rfl (x:=.none) rfl (wpAny_pure ?_));show wpAny _ _ (if (Value.none==Value.none)=true then _ else _) _ _ _;rw[if_pos (by decide)];refine wpAny_bind (wpAny_rule ?_);refine wpAny_bind (wpAny_field he4 rfl (x:=old) rfl ?_);refine wpAny_bind (wpAny_setField_rec he4 (by simp) λh5 he5 hs5=>?_);replace he5:IsEnum h5 e it ((i:Int)+1) x:=he5;refine wpAny_bind ?_;unfold Builtin.SmallTypes.ownedTupleHandOut;refine wpAny_bind (wpAny_setField_rec he5 (by simp) λh6 he6 hs6=>?_);replace he6:IsEnumOut h6 e it ((i:Int)+1) x h3.objs.size:=he6;refine wpAny_setField_rec he6 (by simp) λh7 he7 hs7=>?_;replace he7:IsEnumOut h7 e it ((i:Int)+1) x h3.objs.size:=he7;refine wpAny_bind (wpAny_letGo ?_);have up:∀c o,c≠e->h3.get? c=some o->h7.get? c=some o:=λc o c1 q=>hs7.extBut _ _ c1 (hs6.extBut _ _ c1 (hs5.extBut _ _ c1 (Heap.get?_push_of_some _ q)));have hT:h7.get? h3.objs.size=some {cls:=.type "tuple",data:=.seq #[.int i s.toks,x]}:=hs7.extBut _ _ (Nat.ne_of_gt hlt) (hs6.extBut _ _ (Nat.ne_of_gt hlt) (hs5.extBut _ _ (Nat.ne_of_gt hlt) (Heap.get?_push_size _ rfl)));have hz:h7.objs.size=h3.objs.size+1:=by rw[hs7.1,hs6.1,hs5.1,Heap.size_push]
 refine wpAny_pure ⟨_,rfl,?_⟩;show Q (.ref h3.objs.size) _;rw[hsz]at hT hz he7⊢;refine hQ h7 s.toks (s.toks+1) he7 ((((it1.extBut hs2.extBut ne.symm).extBut hs3.extBut ne.symm)).at λo q=>up it o ne.symm q) hT hz λb o b1 b2 q=>up b o b1 (hs3.extBut _ _ b1 (hs2.extBut _ _ b1 (hs1.extBut _ _ b2 q)))
theorem a5S{e it l:Addr}{i:Nat}{items:Array Value}{old:Value}{Q:Fin->Shared->Prop}(hh:A.handled=none)(he:IsEnum s.heap e it (i:Int) old)(hit:ItAt k s.heap it l i)(hl:SqAt k s.heap l items)(hx:items[i]?=none)
  (hE:∀h' x,(∀c o,c≠e->c≠it->s.heap.get? c=some o->h'.get? c=some o)->(∃o,h'.get? x=some o/\o.cls=.type "StopIteration")->E (.ref x) {s with heap:=h'}) :
  wpAny (model prog w) A (Builtin.«enumerate.__next__» ⟨[.ref e],[]⟩) Q E s:=by
 show wpAny _ _ (field (.ref e) 2>>=_) _ _ _;refine wpAny_bind (wpAny_field he rfl (x:=.ref it) rfl ?_);exact wpAny_bind (V1 hh hit hl hx λh1 x hs1 hx1=>hE h1 x (λc o _ c2 q=>hs1 _ _ c2 q) hx1)
theorem a8t{α:Type}{M:Model}{A:Around}{c:Bool}{t u:Sem α}{Q:α->Shared->Prop}{E:Value->Shared->Prop}{s:Shared}(h1:wpAny M A t Q E s)(h2:wpAny M A u Q E s):wpAny M A (if c=true then t else u) Q E s:=by
 cases c
 .exact h2
 .exact h1
theorem a5R(l:Addr)(xs:Array Value) :
  Meets (Builtin.«enumerate.__new__» ⟨[.type "enumerate",.ref l],[]⟩) (λ_ R s=>SqAt k s.heap l xs /\
   R (.ok (.ret (.ref (s.heap.push (J3 k l)).objs.size))) {s with heap:=(s.heap.push (J3 k l)).push {cls:=.type "enumerate",data:=.fields #[.none,.bool false,.ref s.heap.objs.size,rawInt 0,.none,.none]}}) :=
 .of_wp λprog w A R s h=>by
  obtain⟨hp,g,d,tk,os⟩:=s;obtain⟨hl1,h⟩:=h;have hsub:=sub_enumerate;have hL1:SqAt k (Shared.heap ⟨hp,g,d,tk,os⟩) l xs:=hl1
  wp_walk using G0 hL1
  intro Γ p hg;change wpAny _ _ (pure (_:Bool)) _ _ _;refine wpAny_pure ?_;refine a8t ?_ ?_
  .wp_walk using G0 hL1
   exact⟨_,rfl,h⟩
  .wp_walk using G0 hL1
   exact⟨_,rfl,h⟩
theorem a0s{l:Addr}{xs:Array Value}{Q:Value->Shared->Prop}(hl1:SqAt k s.heap l xs)
  (h:∀h',IsEnum h' (s.heap.objs.size+1) s.heap.objs.size 0 .none->ItAt k h' s.heap.objs.size l 0->h'.objs.size=s.heap.objs.size+2->(∀c o,s.heap.get? c=some o->h'.get? c=some o)->Q (.ref (s.heap.objs.size+1)) {s with heap:=h'}) :
  wpAny (model prog w) A (call (.type "enumerate") [.ref l]) Q E s:=by
 refine callType_new F.called_enumerate (by decide) (F.typeCall_enumerate_1 _) (F.newCall_enumerate_1 _) (λobj=>F.args_object_init_2 obj _) F.entry_enumerate_new
  (a5R (k:=k) l xs) ⟨hl1,?_⟩
 have z1:(s.heap.push (J3 k l)).objs.size=s.heap.objs.size+1:=Heap.size_push ..;have g2:((s.heap.push (J3 k l)).push {cls:=.type "enumerate",data:=.fields #[.none,.bool false,.ref s.heap.objs.size,rawInt 0,.none,.none]}).get? (s.heap.push (J3 k l)).objs.size=some _:=Heap.get?_push_size _ rfl;have g1:((s.heap.push (J3 k l)).push {cls:=.type "enumerate",data:=.fields #[.none,.bool false,.ref s.heap.objs.size,rawInt 0,.none,.none]}).get? s.heap.objs.size=some (J3 k l):=Heap.get?_push_of_some _ (Heap.get?_push_size _ rfl);show _/\_;rw[z1]at g2;rw[z1];refine⟨⟨_,g2,rfl⟩,h _ g2 ?_ (by rw[Heap.size_push,z1]) λc o x=>Heap.get?_push_of_some _ (Heap.get?_push_of_some _ x)⟩;cases k<;>exact⟨_,g1,rfl,rfl⟩
end
def Ite(K:PySem.W.Frag)(k:Bool)(a:Addr):It :=
 ⟨λi H=>∃xs x,SqK k K H a xs/\xs[i]?=some x,
  λi H v H'=>∃p x,v=.ref p/\H p=none/\H'=upd H p (.tup [.int i,x])/\∀xs,SqK k K H a xs->xs[i]?=some x,
  λi H=>∃xs,SqK k K H a xs/\xs.length<=i⟩
structure ETurn(k:Bool)(e it a:Addr)(i:Nat)(h:Heap):Prop where
 en:∃old,IsEnum h e it (i:Int) old
 t1:ItAt k h it a i
theorem a3j{P:Program}{w:World}{K:PySem.W.Frag}{es:List Expr}{kt:Nat}{tp:Pos}{k:Bool}{a e it:Addr}(ne:e≠it) :
  Turn P w K (.Tuple es kt tp) (Ite K k a) [e,it] e (λi h=>ETurn k e it a i h) where
 mem:=by simp
 obj:=λi h st c hc=>by
  simp only[List.mem_cons,List.not_mem_nil,or_false]at hc;rcases hc with rfl|rfl
  .obtain⟨old,q⟩:=st.en;exact⟨_,q,λv z=>by cases z⟩
  .obtain⟨o,e,d⟩:=st.t1.get;exact⟨o,e,λv z=>by rw[d]at z;cases z⟩
 keep:=λi h h' st k=>⟨let ⟨old,q⟩:=st.en;⟨old,k e (by simp) _ q⟩,st.t1.at λo q=>k it (by simp) o q⟩
 item:=by
  intro X hP hw hK hc i pins s σ H E I hf st hg;subst hP hw hK;obtain⟨xs,x,hx1,hx⟩:=hg;obtain⟨us,ru,pu,zu⟩:=I.sqk hx1;obtain⟨u,hu,rux⟩:=ru.get hx;obtain⟨old,hen⟩:=st.en;have hT:s.TypeIs (.ref e) "enumerate":=⟨_,hen,rfl⟩;unfold pyNext;refine wpAny_bind (wpAny_attempt (wpAny_callSpecial?_slot (name:=Str.ofString "__next__") hT F.slot_enumerate_next
   (wpAny_call_entry F.slot_enumerate_next hT F.entry_enumerate_next
    (a3S hen st.t1 pu (x:=u) (by simpa using hu) ne λh' t tk a1 a2 a3 a4 a5=>wpAny_pure ?_) (F.args_enumerate_next_1 _))))
  refine⟨_,rfl,?_⟩;refine wpAny_letOwnedTupleGo_enum (s:={s with heap:=h',toks:=tk}) a1 λh2 he2 hs2=>?_;have nes:∀c∈[e,it],c≠s.heap.objs.size:=λc hc q=>by
   have:∃o,s.heap.get? c=some o:=by
    simp only[List.mem_cons,List.not_mem_nil,or_false]at hc;rcases hc with rfl|rfl
    .exact⟨_,hen⟩
    .obtain⟨o,e,d⟩:=st.t1.get;exact⟨o,e⟩
   obtain⟨o,z⟩:=this;exact absurd (Heap.lt_size z) (by rw[q];exact Nat.lt_irrefl _)
  have hfree:H s.heap.objs.size=none:=I.hok.fresh (Nat.le_refl _);have pr2:=hs2.extBut _ _ (nes e (by simp)).symm a3;have kk:∀c o,c∉[e,it]->s.heap.get? c=some o->h2.get? c=some o:=λc o hc q=>by
   simp only[List.mem_cons,List.not_mem_nil,or_false,not_or]at hc;exact hs2.extBut _ _ hc.1 (a5 c o hc.1 hc.2 q)
  have I2:Inv X pins σ (upd H s.heap.objs.size (.tup [.int i,x])) {s with heap:=h2} :=
   I.turnedT (ch:=[e,it]) hf rfl kk ⟨by show 2<=sizeLine;decide,[.int i t,u],.cons ⟨t,rfl⟩ (.cons rux .nil),⟨_,pr2,rfl,0,rfl⟩⟩
  have I3:=I2.tok tk;refine⟨.ref s.heap.objs.size,_,I3,rfl,⟨_,x,rfl,hfree,rfl,λzs hz=>?_⟩,⟨⟨_,he2⟩,a2.extBut hs2.extBut ne.symm⟩,λc hc=>?_⟩
  .rw[I.sqk_inj hz hx1];exact hx
  .rw[A3 (nes c hc)];exact(hf c hc).1
 done:=by
  intro X hP hw hK hc i pins s σ H E I hf st hg;subst hP hw hK;obtain⟨xs,hx1,hend⟩:=hg;obtain⟨us,ru,pu,zu⟩:=I.sqk hx1;have l1:=ru.length;obtain⟨old,hen⟩:=st.en;have hT:s.TypeIs (.ref e) "enumerate":=⟨_,hen,rfl⟩;unfold pyNext;refine wpAny_bind (wpAny_attempt (wpAny_callSpecial?_slot (name:=Str.ofString "__next__") hT F.slot_enumerate_next
   (wpAny_call_entry F.slot_enumerate_next hT F.entry_enumerate_next (a5S (I.ok.hd hc) hen st.t1 pu (by simp;omega) λh' x hk hx=>?_) (F.args_enumerate_next_1 _))))
  obtain⟨o,ho,hc⟩:=hx;refine wpAny_bind (wpAny_isInstance (T:="StopIteration") (b:=true) ⟨o,ho,hc⟩ isSubtype_stop ?_);refine wpAny_pure ⟨rfl,I.turnedL (ch:=[e,it]) hf λc o hc q=>?_⟩;simp only[List.mem_cons,List.not_mem_nil,or_false,not_or]at hc;exact hk c o hc.1 hc.2 q
 self:=λA i s Q E st h=>let ⟨_,q⟩:=st.en;wpAny_pyIter_enum q h
def a8p(K:PySem.W.Frag)(ta:TA):TI:=λσ H R=>ta σ H λvs H1=>∃k a,vs=[.ref a]/\(∃xs,SqK k K H1 a xs)/\R (Ite K k a) H1
section
variable {X:Cx}
theorem a6L{es:List Expr}{kt:Nat}{tp:Pos}{a:Expr}{ta:TA}{p pos:Pos}(hg:Gl X "enumerate")(hm:X.mg "enumerate"=none)(ha:PA X [a] ta)(hbz:bootBuiltins "enumerate"=some (.type "enumerate"))
  (hs:starEach [a] X.env=[(false,eval a X.env)]:=by rfl) :
  PI X (.Tuple es kt tp) (.Call (.Name "enumerate" p) [a] [] pos) (a8p X.K ta):=by
 intro pins s σ H R I h;refine Call_ (E5 I hg hm hbz (PyProof.Rows.callWith_type1 (thn (ha pos pins s σ H _ I h) λus s1 ⟨vs,H1,I1,r1,q1⟩=>?_) (by rw[hs];rfl) (by rfl)));obtain⟨k,l1,e,⟨xs,hx⟩,q⟩:=q1;subst e;cases r1 with
 |cons r rr =>
  cases rr;cases r;obtain⟨us,ru,pu,zu⟩:=I1.sqk hx;refine a0s pu λh' z1 z2 z3 z4=>?_;refine wpAny_pyIter_enum (s:={s1 with heap:=h'}) z1 ?_;refine⟨s1.heap.objs.size+1,[s1.heap.objs.size+1,s1.heap.objs.size],_,_,H1,rfl,I1.kept (t':=s1.toks) z4,a3j (nne (by omega)),
   ⟨⟨_,z1⟩,z2⟩,λc hc=>?_,q⟩
  have hle:s1.heap.objs.size<=c:=by
   simp only[List.mem_cons,List.not_mem_nil,or_false]at hc;rcases hc with rfl|rfl
   .exact Nat.le_add_right _ _
   .exact Nat.le_refl _
  exact I1.fpOk hle (I1.hok.fresh hle)
end
theorem S3:bootBuiltins "enumerate"=some (.type "enumerate"):=by kernel_rfl
theorem a5O{K:PySem.W.Frag}{k:Bool}{a:Addr}{xs:List V}{g:TG}{tb:TS}{D:Ends}{σ:St}{H:Hp}(Pv:Nat->St->Hp->Prop)(h0:Pv 0 σ H)
  (hl:∀i σ H,i<=xs.length->Pv i σ H->SqK k K H a xs)
  (hs:∀i x σ H p,xs[i]?=some x->Pv i σ H->H p=none->g (.ref p) σ (upd H p (.tup [.int i,x])) λσ2 H2=>tb {D with nx:=Pv (i+1),ct:=Pv (i+1),bk:=D.nx} σ2 H2) (hd:∀σ H,Pv xs.length σ H->D.nx σ H) :
  ∃W:Nat->Nat->St->Hp->Prop,(∃m,W 0 m σ H)/\∀i m σ H,W i m σ H ->
   ((Ite K k a).stop i H/\D.nx σ H)∨((Ite K k a).go i H/\∃N:St->Hp->Prop,(∀σ' H',N σ' H'->∃m',m'<m/\W (i+1) m' σ' H')/\∀x H',(Ite K k a).yld i H x H'->g x σ H' λσ2 H2=>tb {D with nx:=N,ct:=N,bk:=D.nx} σ2 H2):=by
 refine⟨λi m σ H=>m=xs.length-i/\i<=xs.length/\Pv i σ H,⟨_,rfl,Nat.zero_le _,h0⟩,?_⟩;rintro i m σ H ⟨rfl,hi,p⟩;have q1:=hl i σ H hi p;by_cases hlt:i<xs.length
 .refine .inr ⟨⟨xs,xs[i],q1,List.getElem?_eq_getElem hlt⟩,Pv (i+1),λσ' H' p'=>⟨_,by omega,rfl,hlt,p'⟩,λx H' y=>?_⟩;obtain⟨pp,x',e,e2,e3,y1⟩:=y;subst e e3;exact hs i x' σ _ pp (y1 xs q1) p e2
 .have e:i=xs.length:=by omega
  subst e;exact .inl ⟨⟨xs,q1,Nat.le_refl _⟩,hd σ H p⟩
section
variable {X:Cx}
theorem a7m(K:PySem.W.Frag){es:List Expr}{kt:Nat}{tp:Pos}{a:Expr}{t:TA}{p pos:Pos}(hg:Gl X "enumerate")(hm:X.mg "enumerate"=none)(ha:JA X [a] t)(hK:X.K=K:=by rfl)(hs:starEach [a] X.env=[(false,eval a X.env)]:=by rfl) :
  JI X (.Tuple es kt tp) (.Call (.Name "enumerate" p) [a] [] pos) (a8p K t):=by subst hK;exact⟨a6L hg hm ha.h S3 hs⟩
end
section
variable {M:Model}{A:Around}{E:Value->Shared->Prop}
end
section
variable {X:Cx}{k:Nat}{ps:List Str}{sp:Sp}{x:Str}{p pos cpos:Pos}{e:Expr}{es:List Expr}{t:TA}
end
section
variable (P:Program) (w:World)
end
section
variable {P:Program}{w:World}{H H':Hp}{h h':Heap}{a:Addr}{o:HO}
end
section
variable {P:Program}{w:World}{H:Hp}{h h':Heap}{x e:Addr}{o':HO}
end
section
variable {fs fs' ex ex':List Addr}{H H1 H2:Hp}{h h1 h2 h':Heap}{a x e:Addr}{o:HO}
end
section
variable {X:Cx}{pins:List (Addr×Obj)}{σ:List (Option V)}{H H':Hp}{s:Shared}{h':Heap}
end
section
variable {X:Cx}
variable {a b:Expr}{ta tb:TE}{pos:Pos}
variable {tA tB':TT}{rest:List Expr}
end
section
variable {X:Cx}{pins:List (Addr×Obj)}{σ:St}{H:Hp}{s:Shared}{a:Addr}{xs ys:List V}
end
section
variable {X:Cx}{pins:List (Addr×Obj)}{σ:St}{H:Hp}{s:Shared}{E:Value->Shared->Prop}
end
section
variable {X:Cx}{st:Stmt}{rest:List Stmt}{t u:TS}{e:Expr}{te:TE}{pos:Pos}
end
section
variable {X:Cx}{pos:Pos}
end
section
variable {X:Cx}{tg:Expr}
end
section
variable {X:Cx}{a b c:Expr}{ta tb tc:TE}{pos:Pos}
end
section
variable {prog:Program}{w:World}{A:Around}{E:Value->Shared->Prop}{s:Shared}{K:PySem.W.Frag}{x dx C f:Addr}{mA:Str->Option Value}{name:Str}{v:Value}
end
section
variable {P:Program}{w:World}{H H':Hp}{h h':Heap}{a C dx:Addr}{fs fs':List (Str×V)}
end
section
variable {X:Cx}{pins:List (Addr×Obj)}{σ:St}{H:Hp}{s:Shared}{a C dx:Addr}{fs:List (Str×V)}{f:Str}{v:V}{A:Around}{E:Value->Shared->Prop}
end
section
variable {X:Cx}{o e value:Expr}{f:Str}{pos pos' tpos:Pos}{ta tv:TE}
end
section
variable {X:Cx}{pins:List (Addr×Obj)}{σ:St}{H:Hp}{s:Shared}{A:Around}{E:Value->Shared->Prop}{Q:Value->Shared->Prop}{c:Value}{b:Bool}
end
section
variable {X:Cx}{e:Expr}{es:List Expr}{te:TE}{t:TA}{pos:Pos}
end
section
variable {X:Cx}{pins:List (Addr×Obj)}{σ:St}{H:Hp}{s s':Shared}
end
section
variable {X:Cx}{CX:CXT}{k:Nat}{f C:Addr}{fd:FuncData}{ps:List Str}{sp:Sp}{dvs:List V}{ds:List Value}{E:XK}{x m:Str}{p pos apos:Pos}{e o:Expr}{es:List Expr}{ta:TE}{t:TA}
end
section
variable {X:Cx}{CX:CXT}{k:Nat}{f C:Addr}{fd:FuncData}{ps ks:List Str}{sp:Sp}{E:XK}{x m:Str}{p pos apos kpos:Pos}{e o:Expr}{es:List Expr}{kws:List Keyword}{te ta:TE}{t tk:TA}{nm:Option Str}
variable {g:List Value->List Value->List Value}{gV:List V->List V->List V}
end
section
variable {X:Cx}{x:Str}{p pos:Pos}{e:Expr}{es:List Expr}{t:TA}{id T:String}{r:List V->Hp->VK->Prop}
end
section
variable {κ:Type} [DecidableEq κ]
noncomputable def W3(kvs:List (κ×V))(k:κ):Option V:=(kvs.find? λkv=>decide (kv.1=k)).map (·.2)
noncomputable def a1x(kvs:List (κ×V))(k:κ)(v:V):List (κ×V) :=
 if (kvs.any λkv=>decide (kv.1=k))=true then kvs.map (λkv=>if kv.1=k then(kv.1,v)else kv)else kvs++[(k,v)]
theorem a1n{p:κ×V}{r:List (κ×V)}{k:κ}(e:p.1=k):W3 (p::r) k=some p.2:=by simp[W3,List.find?_cons,e]
theorem a1o{p:κ×V}{r:List (κ×V)}{k:κ}(e:¬p.1=k):W3 (p::r) k=W3 r k:=by simp[W3,List.find?_cons,e]
theorem a1p(k:κ):∀kvs:List (κ×V),(kvs.any λkv=>decide (kv.1=k))=(W3 kvs k).isSome
 |[]=>rfl
 |p::r=>by
  rw[List.any_cons];by_cases e:p.1=k
  .simp only[a1n e,decide_eq_true e,Bool.true_or,Option.isSome_some]
  .rw[a1o e,decide_eq_false e,Bool.false_or];exact a1p k r
theorem U0(kvs:List (κ×V))(k:κ)(v:V):(a1x kvs k v).length<=kvs.length+1:=by
 unfold a1x;split
 .rw[List.length_map];omega
 .rw[List.length_append,List.length_cons,List.length_nil];omega
theorem RelO.isSome_eq{o:Option V}{u:Option Value}(r:RelO o u):o.isSome=u.isSome:=by
 cases o with
 |none=>cases u with
  |none=>rfl
  |some _=>exact(show False from r).elim
 |some _=>cases u with
  |none=>exact(show False from r).elim
  |some _=>rfl
theorem RelO.getD{o:Option V}{u:Option Value}{d:V}{d':Value}(r:RelO o u)(rd:RelV d d'):RelV (o.getD d) (u.getD d'):=by
 cases o with
 |none=>cases u with
  |none=>exact rd
  |some _=>exact(show False from r).elim
 |some _=>cases u with
  |none=>exact(show False from r).elim
  |some _=>exact r
end
section
variable {P:Program}{w:World}{H:Hp}{h:Heap}{a:Addr}
end
section
variable {X:Cx}{pins:List (Addr×Obj)}{σ:St}{H:Hp}{s:Shared}{a:Addr}{y v:V}{u r:Value}{o:Option V}{A:Around}{E:Value->Shared->Prop}
theorem Inv.big(I:Inv X pins σ H s):sysModules<s.heap.objs.size:=by
 have h:mainGlobals<s.heap.objs.size:=(I.mod.glob.keeps I.bk).lt;exact Nat.lt_trans (by decide) h
theorem a7G{h':Heap}{t':Nat}{ob:HO}(I:Inv X pins σ H s)(mu:Mut (H a))(hs:Heap.SameBut a s.heap h')(he:∃q,h'.get? a=some q)(new:ObjOk X.prog X.w (upd H a ob) h' a ob) :
  Inv X pins σ (upd H a ob) {s with heap:=h',toks:=t'} :=
 I.write (x:=a) (e:=a) mu (.inl rfl) (λb q hb z=>(hs.2 b hb).trans z) he new
end
section
variable {X:Cx}{pins:List (Addr×Obj)}{σ:St}{H:Hp}{s:Shared}{a:Addr}{kvs:List (Key×V)}{k:Key}{u:Value}{A:Around}{E:Value->Shared->Prop}
end
section
variable {X:Cx}{o i e value:Expr}{pos pos' tpos:Pos}{td ty tv:TE}
end
section
variable {X:Cx}{pos:Pos}
end
structure M2(X:Cx)(o:Expr)(m:Str)(apos:Pos)(e f:Expr)(cpos:Pos):Prop where
 base:attributeBase o m X.env (eval o X.env)=eval o X.env
 few:((backTo cpos (starEach [e,f] X.env)).all (λx=>!x.1) && (backToKw cpos (keywordEach [] X.env)).all (λx=>x.1.isSome)
  && decide (([e,f]:List Expr).length+([]:List Keyword).length+(if ([]:List Keyword).isEmpty then 0 else 1)<30))=true
 line:(apos.endLine==cpos.line)=true
 trees:backTo cpos (starEach [e,f] X.env)=[(false,eval e X.env),(false,eval f X.env)]
section
variable {X:Cx}{pins:List (Addr×Obj)}{σ:St}{H:Hp}{s:Shared}{a:Addr}{y d:V}{u r:Value}{o:Option V}{A:Around}{E:Value->Shared->Prop}
end
section
variable {X:Cx}{o e f:Expr}{apos cpos:Pos}{td ty tx:TE}
end
section
variable {X:Cx}{pins:List (Addr×Obj)}{σ:St}{H:Hp}{s:Shared}{a:Addr}{kvs:List (Key×V)}{A:Around}{E:Value->Shared->Prop}
end
section
variable {X:Cx}{pins:List (Addr×Obj)}{σ:St}{H:Hp}{s:Shared}{a:Addr}{y:V}{u:Value}{A:Around}{E:Value->Shared->Prop}
end
end L2
namespace Att
open PySem PySem.W PySem.Calls PyProof.Rows
section
variable {prog:Program}{w:World}{A:Around}{E:Value->Shared->Prop}{s:Shared}{K:Frag}
end
end Att
namespace L2
open PySem PySem.Spec PyProof.Rows
end L2
namespace L2
open PySem PySem.Spec PyProof.Rows
section
variable {P:Program}{w:World}{K:PySem.W.Frag}{mg:Str->Option Value}{base:Heap}
end
section
variable {X:Cx}
end
section
variable {κ:Type} [DecidableEq κ]
end
end L2
namespace L2
open PySem PySem.Spec PyProof.Rows PySem.W
section
variable {O:KeyOrd}{key:Nat->O.α}{N:Nat}{p:Array Nat}
noncomputable def kk(key:Nat->O.α)(p:Array Nat)(i:Nat):O.α:=key (p[i]?.getD 0)
end
theorem E4:∀a:List Int,HT.lexLt a a=false
 |[]=>rfl
 |x::xs=>by rw[HT.lexLt_cons,if_pos rfl];exact E4 xs
theorem S8:∀a b c:List Int,HT.lexLt a b=true->HT.lexLt b c=true->HT.lexLt a c=true
 |[],[],_,h,_=>by cases h
 |_::_,[],_,h,_=>by cases h
 |_,_::_,[],_,h=>by cases h
 |[],_::_,_::_,_,_=>rfl
 |x::xs,y::ys,z::zs,h1,h2=>by
  rw[HT.lexLt_cons]at h1 h2⊢;by_cases e1:x=y
  .rw[if_pos e1]at h1;by_cases e2:y=z
   .rw[if_pos e2]at h2;rw[if_pos (e1.trans e2)];exact S8 xs ys zs h1 h2
   .rw[if_neg e2]at h2;rw[if_neg (by rw[e1];exact e2),e1];exact h2
  .rw[if_neg e1]at h1;have h1:=of_decide_eq_true h1;by_cases e2:y=z
   .rw[if_neg (by rw[<-e2];exact e1),<-e2];exact decide_eq_true h1
   .rw[if_neg e2]at h2;have h2:=of_decide_eq_true h2;rw[if_neg (by omega)];exact decide_eq_true (by omega)
theorem S9:∀a b:List Int,HT.lexLt a b=false->HT.lexLt b a=false->a=b
 |[],[],_,_=>rfl
 |[],_::_,h,_=>by cases h
 |_::_,[],_,h=>by cases h
 |x::xs,y::ys,h1,h2=>by
  rw[HT.lexLt_cons]at h1 h2;by_cases e:x=y
  .subst e;rw[if_pos rfl]at h1 h2;rw[S9 xs ys h1 h2]
  .rw[if_neg e]at h1;rw[if_neg (Ne.symm e)]at h2;have h1:=of_decide_eq_false h1;have h2:=of_decide_eq_false h2;omega
def a3h(tss:LLI):Prop:=tss.Pairwise λa b=>HT.lexLt b a=false
section
variable {prog:Program}{w:World}{A:Around}{E:Value->Shared->Prop}{s:Shared}
end
section
variable {prog:Program}{w:World}{A:Around}{E:Value->Shared->Prop}{s:Shared}
end
section
variable {X:Cx}
end
section
variable {prog:Program}{w:World}{A:Around}{E:Value->Shared->Prop}{s:Shared}
variable {κ:SortKind}{D:Keyed->Prop}{lt:Keyed->Keyed->Bool}
end
section
variable {O:KeyOrd}{kf:Keyed->O.α}{la lb o:List Keyed}{ia ib:Nat}
def leK(kf:Keyed->O.α)(x y:Keyed):Prop:=O.kle (kf x) (kf y)
structure MS(kf:Keyed->O.α)(la lb o:List Keyed)(ia ib:Nat):Prop where
 perm:o.Perm (la.take ia++lb.take ib)
 sorted:o.Pairwise (leK kf)
 ra:∀x∈o,∀y∈la.drop ia,leK kf x y
 rb:∀x∈o,∀y∈lb.drop ib,leK kf x y
end
section
variable {prog:Program}{w:World}{A:Around}{E:Value->Shared->Prop}{s:Shared}{κ:SortKind}{D:Keyed->Prop}{O:KeyOrd}{kf:Keyed->O.α}{a b out:Array Keyed}{ia ib:Nat}{st:SortSt}
def MI(kf:Keyed->O.α)(a b out:Array Keyed)(ia ib:Nat):Prop:=MS kf a.toList b.toList out.toList ia ib/\ia+1<a.size/\ib<b.size
variable {c0 mg k k1 bc ac:Nat}{st':SortSt}
end
section
variable {O:KeyOrd}{kf:Keyed->O.α}{la lb o:List Keyed}{na nb:Nat}
end
abbrev U2:Type:=Option (Array Keyed)×Nat×Nat×Array Keyed×Nat×Nat×Nat
section
variable {prog:Program}{w:World}{A:Around}{E:Value->Shared->Prop}{s:Shared}{κ:SortKind}{D:Keyed->Prop}{O:KeyOrd}{kf:Keyed->O.α}{a b out:Array Keyed}{na nb:Nat}{st:SortSt}
variable {c0 mg k k1 bc ac:Nat}{st':SortSt}
end
section
variable {prog:Program}{w:World}{A:Around}{E:Value->Shared->Prop}{s:Shared}{κ:SortKind}{D:Keyed->Prop}{O:KeyOrd}{kf:Keyed->O.α}{st:SortSt}
variable {arr:Array Keyed}{P LA LB R:List Keyed}
end
section
variable {prog:Program}{w:World}{A:Around}{E:Value->Shared->Prop}{s:Shared}{κ:SortKind}{D:Keyed->Prop}{O:KeyOrd}{kf:Keyed->O.α}{st:SortSt}
section
variable {arr:Array Keyed}{lo k l i:Nat}(hs:lo+k<arr.size) (hd:l<=k)
include hs hd
end
end
section
variable {prog:Program}{w:World}{A:Around}{E:Value->Shared->Prop}{s:Shared}{κ:SortKind}{D:Keyed->Prop}{O:KeyOrd}{kf:Keyed->O.α}{st:SortSt}
end
noncomputable def b0M:Nat->List (List Keyed)->List (Nat×Nat)
 |_,[]=>[]
 |o,r::rs=>(o,r.length)::b0M (o+r.length) rs
noncomputable abbrev ent(e:Nat×Nat×Nat):Nat×Nat:=(e.1,e.2.1)
section
variable {prog:Program}{w:World}{A:Around}{E:Value->Shared->Prop}{s:Shared}{κ:SortKind}{D:Keyed->Prop}{O:KeyOrd}{kf:Keyed->O.α}{st:SortSt}{a0:Array Keyed}
structure RI(kf:Keyed->O.α)(κ:SortKind)(a0:Array Keyed)(st:SortSt)(runs:List (List Keyed))(rest:List Keyed):Prop where
 kind:kindOf st=κ
 failed:failedOf st=none
 perm:(arrOf st).Perm a0
 eq:(arrOf st).toList=runs.flatten++rest
 sorted:∀r∈runs,r.Pairwise (leK kf)
 ne:∀r∈runs,0<r.length
 pend:(pendingOf st).toList.map ent=b0M 0 runs
end
section
variable {prog:Program}{w:World}{A:Around}{E:Value->Shared->Prop}{s:Shared}{κ:SortKind}{D:Keyed->Prop}{O:KeyOrd}{kf:Keyed->O.α}{st:SortSt}{a0:Array Keyed}{runs:List (List Keyed)}{rest:List Keyed}
end
section
variable {prog:Program}{w:World}{A:Around}{E:Value->Shared->Prop}{s:Shared}{κ:SortKind}{D:Keyed->Prop}{O:KeyOrd}{kf:Keyed->O.α}{st:SortSt}{a0:Array Keyed}{runs:List (List Keyed)}{rest:List Keyed}
end
section
variable {prog:Program}{w:World}{A:Around}{E:Value->Shared->Prop}{s:Shared}
end
section
variable {X:Cx}
end
section
variable {prog:Program}{w:World}{A:Around}{E:Value->Shared->Prop}{s:Shared}{it d:Addr}{i ep:Nat}{es:Array DictEntry}
end
section
variable {prog:Program}{w:World}{A:Around}{E:Value->Shared->Prop}{s:Shared}
end
section
variable {X:Cx}
end
end L2
namespace L2
open PySem PySem.Spec PyProof.Rows
variable {X:Cx}
end L2
namespace L2
open PySem PySem.Spec PyProof.Rows PySem.W
section
variable {prog:Program}{w:World}{A:Around}{E:Value->Shared->Prop}{s:Shared}{d:Addr}{ep:Nat}{es:Array DictEntry}
end
section
variable {X:Cx}
variable {a b c e o i value:Expr}{es rest:List Expr}{ta tb tc te to td ty tv:TE}{t:TA}{pos p apos cpos p2 pos' tpos:Pos}
theorem a0p(K:PySem.W.Frag){f:Str}(he:JE X e ta)(hK:X.K=K:=by rfl)(hb:attributeBase e f X.env (eval e X.env)=eval e X.env:=by rfl):JE X (.Attribute e f pos) (b0v K ta f):=by
 subst hK;exact⟨a9l he.h hb⟩
theorem a2p(K:PySem.W.Frag){f:Str}(ha:JE X o ta)(hv:JE X value tv)(hK:X.K=K:=by rfl)(hs:swapsWith value (some (.Attribute o f pos')) pos.line X.env=pure false:=by rfl):JS X (.Assign [.Attribute o f pos'] value pos) (b0w K ta tv f):=by
 subst hK;exact⟨a8W ha.h hv.h hs⟩
end
structure MethOk(P:Program)(w:World)(K:PySem.W.Frag)(mg:Str->Option Value)(base:Heap)(C:Addr)(m:Str)(k:Nat)(ps:List Str)(sp:Sp):Prop where
 ex:∃f fd,Meth K C m f/\Binds K fd ps []/\FnOk P w K mg base CX0 k f fd ps sp
structure MethAt(K:PySem.W.Frag)(C:Addr)(m qual:Str)(st:Stmt)(ps:List Str):Prop where
 ex:∃f fd,Meth K C m f/\Fun K m qual st f fd/\Binds K fd ps []
structure MakeOk(P:Program)(w:World)(K:PySem.W.Frag)(mg:Str->Option Value)(base:Heap)(x:Str)(C:Addr)(k:Nat)(ps:List Str)(sp:Sp):Prop where
 ex:∃f fd,mg x=some (.ref C)/\Mk K C f/\Binds K fd ps []/\FnOk P w K mg base CX0 k f fd ps sp
section
variable {P:Program}{w:World}{K:PySem.W.Frag}{mg:Str->Option Value}{base:Heap}{C:Addr}{m qual:Str}{st:Stmt}{N ps:List Str}{k:Nat}{sp:Sp}
theorem MethAt.fnJ(F:MethAt K C m qual st ps)(S:FnScope N ps (A2 st))(len:∀vs H Q E,sp vs H Q E->vs.length=ps.length)
  (hbody:∀(cdv:Value) (f:Addr) (A:Around) (outer:List Env) (s:Shared) (H:Hp) (vs:List V) (Q:VK) (E:XK),Room k (A.deeper (envOfC qual (A2 st) s.heap.objs.size f cdv))->sp vs H Q E ->
   ∃t,JB (N0 CX0 P w K mg base N qual (A2 st) f cdv A outer s H E).nox (C5 st) t/\t {nx:=λ_ H'=>Q .non H',rt:=Q} (start N vs) H):MethOk P w K mg base C m (k+1) ps sp:=by
 obtain⟨f,fd,h1,h2,h3⟩:=F.ex;exact⟨f,fd,h1,h3,h2.okJ S len λcdv=>hbody cdv f⟩
theorem MethOk.make{x:Str}(O:MethOk P w K mg base C "__init__" k ps sp)(hx:mg x=some (.ref C))(hm:PySem.W.makesIn K C=true)(hk:PySem.W.keepIn K (.ref C)=true):MakeOk P w K mg base x C k ps sp:=by
 obtain⟨f,fd,h1,h2,h3⟩:=O.ex;exact⟨f,fd,hx,⟨hm,h1.at_,h1.fn,hk⟩,h2,h3⟩
end
section
variable {X:Cx}{C:Addr}{m x:Str}{k:Nat}{ps:List Str}{sp:Sp}{o e:Expr}{es:List Expr}{ta:TE}{t:TA}{pos apos p:Pos}
theorem N8{pl:Sem Bool}(O:MethOk X.prog X.w X.K X.mg X.base C m k ps sp)(c:Cls X.K C)(hr:Room k X.A)(he:JE X o ta)(ha:JA X (e::es) t)
  (hst:starEach (e::es) X.env=(false,eval e X.env)::starEach es X.env:=by rfl) (hpl:(backTo pos (starEach es X.env)).any (·.1)=false:=by rfl)
  (ht:eval (.Call (.Attribute o m apos) (e::es) [] pos) X.env=(eval o X.env>>=λov=>standAt apos.atName>>=λ_=>holding [ov] (getMethod ov m pl)>>=λp=>match p with | (f,first)=>callWith pos f first (backTo pos (starEach (e::es) X.env)) (backToKw pos (keywordEach [] X.env))):=by rfl) :
  JE X (.Call (.Attribute o m apos) (e::es) [] pos) (a7R C m sp [] E0 ta t):=by
 obtain⟨f,fd,h1,h2,h3⟩:=O.ex;exact⟨a6P (pl:=pl) he.h c h1 h3 hr h2 .nil a5j ha.h hst hpl ht⟩
theorem a9R(O:MakeOk X.prog X.w X.K X.mg X.base x C k ps sp)(hr:Room (k+1) X.A)(hg:Gl X x)(ha:JA X (e::es) t)(hdb:(x==("__debug__" : Str))=false:=by decide)
  (he:starEach (e::es) X.env=(false,eval e X.env)::starEach es X.env:=by rfl) (hpl:(backTo pos (starEach es X.env)).any (·.1)=false:=by rfl) :
  JE X (.Call (.Name x p) (e::es) [] pos) (a7S C sp [] E0 t):=by
 obtain⟨f,fd,h0,h1,h2,h3⟩:=O.ex;exact⟨a6Q h1 h3 hr hg h0 h2 .nil a5j ha.h hdb he hpl⟩
end
end L2
namespace L2
open PySem PySem.Spec PyProof.Rows
section
variable {X:Cx}{k:Nat}{ps:List Str}{sp:Sp}{x y:Str}{p pos cpos pos' ip sp':Pos}{e:Expr}{es:List Expr}{t:TA}{i:Nat}{z:Int}{jj:Nat}
end
end L2
section
open PySem PyProof.Rows
end
namespace L2
open PySem PySem.Spec PyProof.Rows
section
variable {X:Cx}
variable {o e:Expr}{es:List Expr}{to:TE}{t:TA}{pos apos cpos:Pos}
end
end L2
namespace L2
theorem b1l{α:Type}{us:List α}(h:us.length=0):us=[]:=List.length_eq_zero_iff.mp h
theorem a5x{α:Type}{us:List α}(h:us.length=1):∃a,us=[a]:=by
 cases us with
 |nil=>cases h
 |cons a us=>exact⟨a,by rw[b1l (us:=us) (Nat.succ.inj h)]⟩
theorem T0{α:Type}{us:List α}(h:us.length=2):∃a b,us=[a,b]:=by
 cases us with
 |nil=>cases h
 |cons a us=>obtain⟨b,e⟩:=a5x (us:=us) (Nat.succ.inj h);exact⟨a,b,by rw[e]⟩
theorem a0U{α:Type}{us:List α}(h:us.length=3):∃a b c,us=[a,b,c]:=by
 cases us with
 |nil=>cases h
 |cons a us=>obtain⟨b,c,e⟩:=T0 (us:=us) (Nat.succ.inj h);exact⟨a,b,c,by rw[e]⟩
theorem a9F{α:Type}{us:List α}(h:us.length=4):∃a b c d,us=[a,b,c,d]:=by
 cases us with
 |nil=>cases h
 |cons a us=>obtain⟨b,c,d,e⟩:=a0U (us:=us) (Nat.succ.inj h);exact⟨a,b,c,d,by rw[e]⟩
theorem b1k{α:Type}{us:List α}(h:us.length=5):∃a b c d e,us=[a,b,c,d,e]:=by
 cases us with
 |nil=>cases h
 |cons a us=>obtain⟨b,c,d,e,q⟩:=a9F (us:=us) (Nat.succ.inj h);exact⟨a,b,c,d,e,by rw[q]⟩
section
open PySem PySem.Spec PyProof.Rows PySem.W
abbrev FnL(K:PySem.W.Frag)(f:Addr)(nm qn:Str)(st:Stmt)(oc:Value)(od:Option Addr)(sl:Array (Option Value))(kV dc pm:Value)(an:Option Addr)(cd ct:Value):Prop:=K.lookup f=some ⟨oc,od,.func (PySem.W.fnOf nm qn (K0 st) (C5 st) (A2 st) .none kV dc pm an cd ct),sl⟩
variable {K:PySem.W.Frag}{h:Heap}{mg:Str->Option Value}{x qn:Str}{st:Stmt}{f:Addr}{od an:Option Addr}{sl:Array (Option Value)}{oc kV dc pm cd ct:Value}{C:Addr}{m:Str}
theorem D7(X:K.In h)(G:h.Ns mainGlobals mg)(a:nsIn K mainGlobals x=some (some (.ref f)))(l:FnL K f x x st oc od sl kV dc pm an cd ct)(c:codeIn K cd x=true)(k:keepIn K (.ref f)=true){ps:List Str}
  (hb:∀(kV doc pm:Value) (an:Option Addr) (cdv ct:Value) (us:List Value),us.length=ps.length->bindArgs (fnOf x x (K0 st) (C5 st) (A2 st) .none kV doc pm an cdv ct) ⟨us,[]⟩=pure (ps.zip us)):FunAt K mg x st ps:=⟨f,_,mg_of X G a,Y7 (st:=st) l c k,(Y7 (st:=st) l c k).binds hb⟩
theorem X4(a:findIn K (.ref C) m=some (some (.ref f)))(i:isFn K (.ref f)=true)(l:FnL K f m qn st oc od sl kV dc pm an cd ct)(c:codeIn K cd qn=true)(k:keepIn K (.ref f)=true){ps:List Str}
  (hb:∀(kV doc pm:Value) (an:Option Addr) (cdv ct:Value) (us:List Value),us.length=ps.length->bindArgs (fnOf m qn (K0 st) (C5 st) (A2 st) .none kV doc pm an cdv ct) ⟨us,[]⟩=pure (ps.zip us)):MethAt K C m qn st ps:=⟨f,_,⟨a,i,k⟩,Y7 (st:=st) l c k,(Y7 (st:=st) l c k).binds hb⟩
end
section
open PySem PySem.Spec PyProof.Rows PySem.W
variable {K:PySem.W.Frag}{h:Heap}{mg:Str->Option Value}{x nm qn:Str}{C N:Addr}{bs bm sub bmB above:List Value}{hd ab:Bool}{sn:List Str}{col:Option Bool}{dd:Option Addr}{k0 k1 k2 k3 k5:Option Value}{newId:String}
end
inductive Ex1{α0:Type}(p:α0->Prop):Prop
 |mk (a0:α0) (h:p a0):Ex1 p
inductive Ex2{α0 α1:Type}(p:α0->α1->Prop):Prop
 |mk (a0:α0) (a1:α1) (h:p a0 a1):Ex2 p
inductive Ex3{α0 α1 α2:Type}(p:α0->α1->α2->Prop):Prop
 |mk (a0:α0) (a1:α1) (a2:α2) (h:p a0 a1 a2):Ex3 p
inductive Ex4{α0 α1 α2 α3:Type}(p:α0->α1->α2->α3->Prop):Prop
 |mk (a0:α0) (a1:α1) (a2:α2) (a3:α3) (h:p a0 a1 a2 a3):Ex4 p
inductive Ex5{α0 α1 α2 α3 α4:Type}(p:α0->α1->α2->α3->α4->Prop):Prop
 |mk (a0:α0) (a1:α1) (a2:α2) (a3:α3) (a4:α4) (h:p a0 a1 a2 a3 a4):Ex5 p
inductive Ex7{α0 α1 α2 α3 α4 α5 α6:Type}(p:α0->α1->α2->α3->α4->α5->α6->Prop):Prop
 |mk (a0:α0) (a1:α1) (a2:α2) (a3:α3) (a4:α4) (a5:α5) (a6:α6) (h:p a0 a1 a2 a3 a4 a5 a6):Ex7 p
inductive Ex8{α0 α1 α2 α3 α4 α5 α6 α7:Type}(p:α0->α1->α2->α3->α4->α5->α6->α7->Prop):Prop
 |mk (a0:α0) (a1:α1) (a2:α2) (a3:α3) (a4:α4) (a5:α5) (a6:α6) (a7:α7) (h:p a0 a1 a2 a3 a4 a5 a6 a7):Ex8 p
inductive An2(a0 a1:Prop):Prop
 |mk (h0:a0) (h1:a1):An2 a0 a1
inductive An3(a0 a1 a2:Prop):Prop
 |mk (h0:a0) (h1:a1) (h2:a2):An3 a0 a1 a2
inductive An4(a0 a1 a2 a3:Prop):Prop
 |mk (h0:a0) (h1:a1) (h2:a2) (h3:a3):An4 a0 a1 a2 a3
inductive An5(a0 a1 a2 a3 a4:Prop):Prop
 |mk (h0:a0) (h1:a1) (h2:a2) (h3:a3) (h4:a4):An5 a0 a1 a2 a3 a4
inductive An6(a0 a1 a2 a3 a4 a5:Prop):Prop
 |mk (h0:a0) (h1:a1) (h2:a2) (h3:a3) (h4:a4) (h5:a5):An6 a0 a1 a2 a3 a4 a5
inductive An7(a0 a1 a2 a3 a4 a5 a6:Prop):Prop
 |mk (h0:a0) (h1:a1) (h2:a2) (h3:a3) (h4:a4) (h5:a5) (h6:a6):An7 a0 a1 a2 a3 a4 a5 a6
inductive An8(a0 a1 a2 a3 a4 a5 a6 a7:Prop):Prop
 |mk (h0:a0) (h1:a1) (h2:a2) (h3:a3) (h4:a4) (h5:a5) (h6:a6) (h7:a7):An8 a0 a1 a2 a3 a4 a5 a6 a7
inductive An9(a0 a1 a2 a3 a4 a5 a6 a7 a8:Prop):Prop
 |mk (h0:a0) (h1:a1) (h2:a2) (h3:a3) (h4:a4) (h5:a5) (h6:a6) (h7:a7) (h8:a8):An9 a0 a1 a2 a3 a4 a5 a6 a7 a8
end L2
namespace L2
namespace Tab
open PySem
def gI:Nat->Nat->Nat
 |0,x=>x
 |n+1,x=>5*gI n x+1
def gS:Nat->Nat
 |0=>0
 |n+1=>5*gS n+1
abbrev Pr:=SetTable.Probe
noncomputable def adv(mask:Nat)(p:Pr):Pr :=
 if p.more > 0 then {p with j:=p.j+1,more:=p.more-1} else
 {p with j:=(SetTable.leap mask p.i p.perturb).1,more:=SetTable.runEnd mask (SetTable.leap mask p.i p.perturb).1-(SetTable.leap mask p.i p.perturb).1,i:=(SetTable.leap mask p.i p.perturb).1,perturb:=(SetTable.leap mask p.i p.perturb).2}
noncomputable def b0q(mask:Nat)(p:Pr):Nat->Pr
 |0=>p
 |n+1=>adv mask (b0q mask p n)
noncomputable def b1h(mask i pt:Nat):Pr:={j:=i,more:=SetTable.runEnd mask i-i,i,perturb:=pt,dummy:=none}
noncomputable def st0(mask:Nat)(h:Int):Pr:=b1h mask (SetTable.bits h % (mask+1)) (SetTable.bits h)
noncomputable def pos(mask:Nat)(h:Int)(n:Nat):Nat:=(b0q mask (st0 mask h) n).j
noncomputable def fr(owner:Array (Option Nat))(j:Nat):Bool:=(owner.getD j (some 0)).isNone
structure Lay(mask:Nat)(owner:Array (Option Nat))(hs:List Int):Prop where
 size:owner.size=mask+1
 val:∀j q:Nat,owner[j]?=some (some q)->∃h,hs[q]?=some h/\∃n,pos mask h n=j/\∀m,m<n->fr owner (pos mask h m)=false
 ex:∀q,q<hs.length->∃j:Nat,owner[j]?=some (some q)
 uniq:∀j j' q:Nat,owner[j]?=some (some q)->owner[j']?=some (some q)->j=j'
end Tab
end L2
namespace L2
namespace Tab
open PySem
section
variable {prog:Program}{w:World}{A:Around}{E:Value->Shared->Prop}{s:Shared}
abbrev TK(prog:Program)(w:World)(h:Heap)(r:List Int)(a:Addr):Prop:=IsTupleKey (intKind prog w) h r a
theorem items_int{r:List Int}{vs:List Value}(h:ItemsAre (intKind prog w) r vs):∀v∈vs,∃i t,v=.int i t:=by
 induction h with
 |nil=>intro v hv;cases hv
 |@cons k v ks vs h1 _ ih =>
  intro u hu;rcases List.mem_cons.mp hu with e|hu
  .obtain⟨t,ht⟩:=Value.isInt_shape h1;exact⟨k,t,e.trans ht⟩
  .exact ih u hu
noncomputable def hsh(prog:Program)(w:World)(r:List Int):Int:=tupleKeyHash (intKind prog w) r
noncomputable def ent(prog:Program)(w:World)(x:List Int×Addr):Int×Value:=(hsh prog w x.1,Value.ref x.2)
end
end Tab
end L2
namespace L2
namespace Tab
open PySem
section
variable {prog:Program}{w:World}{A:Around}{R:Result->Shared->Prop}{I:Addr}{fp wr:List Addr}{G:Array GenState->Array GenState->Prop}{n:Nat}{P:Nat->Value->Prop}{St:Nat->Shared->Prop}
end
section
variable {prog:Program}{w:World}{A:Around}{E:Value->Shared->Prop}{s:Shared}
end
end Tab
end L2
namespace L2
namespace Tab
open PySem PySem.W
section
variable {prog:Program}{w:World}{A:Around}{E:Value->Shared->Prop}{s:Shared}{a it:Addr}{es:Array (Int×Value)}{ep i:Nat}{t:SetTable}
end
end Tab
end L2
namespace L2
open PySem PySem.Spec PyProof.Rows PySem.W Tab
section
variable {X:Cx}
variable {e:Expr}{es:List Expr}{t:TA}{p pos:Pos}
end
end L2
namespace L2
open PySem PySem.Spec PyProof.Rows
section
variable {X:Cx}{a b:Expr}{ta tb:TE}{pos:Pos}
end
theorem Its.app{H:Hp}{vs ws:List V}{rss qss:LLI}(h:Its H vs rss)(g:Its H ws qss):Its H (vs++ws) (rss++qss):=by
 refine⟨by rw[List.length_append,List.length_append,h.1,g.1],λi v e=>?_⟩;rcases Nat.lt_or_ge i vs.length with hi|hi
 .rw[List.getElem?_append_left hi]at e;rw[List.getElem?_append_left (by rw[<-h.1];exact hi)];exact h.2 i v e
 .rw[List.getElem?_append_right hi]at e;rw[List.getElem?_append_right (by rw[<-h.1];exact hi),<-h.1];exact g.2 _ v e
theorem Its.one{H:Hp}{v:V}{r:List Int}(h:IT H v r):Its H [v] [r]:=Its.nil.snoc h
section
open PySem.SeqAt
open PySem.AutoSeq1 (wpAny_loadPart')
open PySem.MeetsSeq PySem.MeetsSeq2 PySem.MeetsSeq3
end
section
variable {X:Cx}{pins:List (Addr×Obj)}{σ:St}{H:Hp}{s:Shared}
end
section
variable {prog:Program}{w:World}{A:Around}{I l S:Addr}{vs:List Value}{kw:List (Str×Value)}{R:Result->Shared->Prop}{h₀:Heap}{s:Shared}
def C1(h h':Heap):Prop:=∀b o,h.get? b=some o->h'.get? b=some o
end
section
variable {prog:Program}{w:World}{A:Around}{E:Value->Shared->Prop}{s:Shared}
theorem S2{id:String}{b:Builtin}{args:List Value}{kw:List (Str×Value)}{Q:Value->Shared->Prop}(hk:builtinKind id=none)(hp:plainId id=true)
  (hb:entryFor table id=some b) (ha:argsOk id ⟨args,kw⟩)
  (hc:wpAny (model prog w) A.in1 (b ⟨args,kw⟩) (λfin s'=>match fin with
   |.done f=>(match (Except.ok f:Result)with | .ok (.ret v)=>Q v s' | .ok _=>False | .error e=>E e s')
   |.again c'=>c'.quiet=true/\codeAny (model prog w) A c' (λr s'=>match r with | .ok (.ret v)=>Q v s' | .ok _=>False | .error e=>E e s') s') E s) :
  wpAny (model prog w) A (call (.builtin id) args kw) Q E s:=by
 refine wpAny_call (codeAny_call_builtin hp hb ?_);simp only[checkBuiltinCall,hk];cases hsig:Manifest.signature? id with
 |none=>exact wpAny_pure hc
 |some sig =>
  have ha':Bind.checkArgs id sig ⟨args,kw⟩=pure ():=by simpa only[argsOk,hsig]using ha
  simp only[ha'];exact wpAny_pure hc
end
section
variable {X:Cx}{e:Expr}{t:TA}{p pos kp np:Pos}{nk:Nat}
end
section
variable {X:Cx}{e:Expr}{te:TE}{pos p2:Pos}
end
section
variable {prog:Program}{w:World}{A:Around}{I l S:Addr}{vs:List Value}{kw:List (Str×Value)}{R:Result->Shared->Prop}{h₀:Heap}{s:Shared}
theorem a3G(bt:Nat->Nat->Bool)(hh:A.handled=none)(hlI:l≠I)(hSI:S≠I)(hIn:h₀.get? I=none)(hSn:h₀.get? S=none)(hl:h₀.IsList l vs.toArray)
  (hcmp:∀(h:Heap) (tk:Nat) (i j:Nat) (vi vj:Value) (Q E:Value->Shared->Prop),C1 h₀ h->vs[i]?=some vi->vs[j]?=some vj->Q (.bool (bt i j)) {s with heap:=h,toks:=tk}->wpAny (model prog w) A.in1 (richCompare .Gt vi vj) Q E {s with heap:=h,toks:=tk})
  (hR:∀v h' tk,vs[argBest bt (vs.length-1)]?=some v->C1 h₀ h'->R (.ok (.ret v)) {s with heap:=h',toks:=tk}) :
  ∀(k j:Nat) (h:Heap) (t:Nat) (vb:Value) (c:Nat),vs.length-(j+1)=k->j+1<=vs.length->h.IsListIter I l (j+1)->C1 h₀ h->vs[argBest bt j]?=some vb->h.get? S=some {cls:=.type "list",dict:=none,data:=.seq #[vb,vb] c,slots:=#[]} ->
   codeAny (model prog w) A (.builtin "max.loop" ⟨[.ref I,.none,.ref S],kw⟩) R {s with heap:=h,toks:=t}:=by
 have hname:(toString "max" ++ toString ".loop" : String)="max.loop":=by decide
 have W:=Walks.list (prog:=prog) (w:=w) (A:=A.in1) hh I l hlI vs.toArray;have hsz:vs.toArray.size=vs.length:=List.size_toArray ..;have gI:∀{h h':Heap},C1 h₀ h->(∀b o,b∉[I]->h.get? b=some o->h'.get? b=some o)->C1 h₀ h':=λg hk b o e=>hk b o (λz=>by rw[List.mem_singleton.mp z,hIn]at e;cases e) (g b o e);have gS:∀{h:Heap}{f:Obj->Obj},C1 h₀ h->C1 h₀ (h.update S f):=λg b o e=>(Heap.get?_update_other _ _ (λz=>by rw[<-z,hSn]at e;cases e)).trans (g b o e);have lst:∀{h:Heap},C1 h₀ h->h.IsList l vs.toArray:=λg=>by
  obtain⟨o,h1,h2⟩:=id hl;exact⟨o,g _ _ h1,h2⟩
 intro k;induction k with
 |zero =>
  intro j h t vb c hk hj hst g hPb hS;have hin:j+1=vs.length:=by omega
  refine codeAny_builtin PySem.F.entry_max_loop ?_;rw[Around.under_plainId PySem.F.plain_max_loop _];show wpAny _ A.in1 (seqItems? (.ref S)>>=_) _ _ _;refine wpAny_bind (wpAny_seqItems hS rfl ?_);show wpAny _ A.in1 (tryCatch (pyNext (.ref I)) _>>=_) _ _ _;refine wpAny_bind (wpAny_tryCatch (W.done _ _ _ ⟨by rw[hsz,<-hin];exact hst,lst g⟩ λh' tk hk'=>?_));have hS':=hk' S _ (by simpa using hSI) hS;show wpAny _ A.in1 (updateSeq S (λ_=>#[])>>=_) _ _ _;refine wpAny_bind ?_;refine wpAny_updateSeq hS' rfl (wpAny_bind (wpAny_letGo (wpAny_pure ?_)));exact hR vb _ tk (by rw[<-hin];exact hPb) (gS (gI g hk'))
 |succ k ih =>
  intro j h t vb c hk hj hst g hPb hS;have hlt:j+1<vs.length:=by omega
  refine codeAny_builtin PySem.F.entry_max_loop ?_;rw[Around.under_plainId PySem.F.plain_max_loop _];show wpAny _ A.in1 (seqItems? (.ref S)>>=_) _ _ _;refine wpAny_bind (wpAny_seqItems hS rfl ?_);show wpAny _ A.in1 (tryCatch (pyNext (.ref I)) _>>=_) _ _ _;refine wpAny_bind (wpAny_tryCatch (W.item (j+1) _ _ _ (by rw[hsz];exact hlt) ⟨hst,lst g⟩ λv h' tk hP hst' hk'=>?_));have hv:vs[j+1]?=some v:=by simpa using hP
  have hS':=hk' S _ (by simpa using hSI) hS;have g':=gI g hk';show wpAny _ A.in1 (tryCatch (holding [v,v] (richCompare .Gt v vb>>=_)) _>>=_) _ _ _;refine wpAny_bind (wpAny_tryCatch (wpAny_holding (wpAny_bind (hcmp _ _ (j+1) (argBest bt j) v vb _ _ g' hv hPb ?_))));refine wpAny_bind (wpAny_holding (wpAny_truthy_bool ?_));refine wpAny_bind (wpAny_letGo (wpAny_pure ?_));cases hb:bt (j+1) (argBest bt j)with
  |true =>
   simp only[if_true];refine wpAny_bind ?_;refine wpAny_updateSeq hS' rfl (wpAny_bind (wpAny_letGo ?_));rw[hname];obtain⟨oI,hoI,hoc,hod⟩:=id hst'.1;refine wpAny_pure ⟨plainId_quiet PySem.F.plain_max_loop _,ih (j+1) _ _ v _ (by omega) hlt ⟨oI,(Heap.get?_update_other _ _ hSI).trans hoI,hoc,hod⟩ (gS g') (by simp only[argBest,hb,if_true];exact hv) (Heap.get?_update_self _ hS' rfl)⟩
  |false =>
   simp only[Bool.false_eq_true,if_false];refine wpAny_bind (wpAny_letGo ?_);rw[hname];refine wpAny_pure ⟨plainId_quiet PySem.F.plain_max_loop _,ih (j+1) _ _ vb c (by omega) hlt hst'.1 g' (by simp only[argBest,hb,Bool.false_eq_true,if_false];exact hPb) hS'⟩
theorem a3F(L:Nat->Int)(hh:A.handled=none)(hlI:l≠I)(hSI:S≠I)(hIn:h₀.get? I=none)(hSn:h₀.get? S=none)(hl:h₀.IsList l vs.toArray)
  (hkey:∀(h:Heap) (tk:Nat) (i:Nat) (vi:Value) (Q E:Value->Shared->Prop),C1 h₀ h->vs[i]?=some vi->(∀t tk2,Q (.int (L i) t) {s with heap:=h,toks:=tk2})->wpAny (model prog w) A.in1 (call (.builtin "len") [vi]) Q E {s with heap:=h,toks:=tk})
  (hR:∀v h' tk,v∈vs->C1 h₀ h'->R (.ok (.ret v)) {s with heap:=h',toks:=tk}) :
  ∀(k j:Nat) (h:Heap) (t:Nat) (vb:Value) (nb:Int) (tb:Tok) (c:Nat),vs.length-(j+1)=k->j+1<=vs.length->h.IsListIter I l (j+1)->C1 h₀ h->vb∈vs->h.get? S=some {cls:=.type "list",dict:=none,data:=.seq #[vb,.int nb tb] c,slots:=#[]} ->
   codeAny (model prog w) A (.builtin "min.loop" ⟨[.ref I,.builtin "len",.ref S],kw⟩) R {s with heap:=h,toks:=t}:=by
 have hname:(toString "min" ++ toString ".loop" : String)="min.loop":=by decide
 have W:=Walks.list (prog:=prog) (w:=w) (A:=A.in1) hh I l hlI vs.toArray;have hsz:vs.toArray.size=vs.length:=List.size_toArray ..;have gI:∀{h h':Heap},C1 h₀ h->(∀b o,b∉[I]->h.get? b=some o->h'.get? b=some o)->C1 h₀ h':=λg hk b o e=>hk b o (λz=>by rw[List.mem_singleton.mp z,hIn]at e;cases e) (g b o e);have gS:∀{h:Heap}{f:Obj->Obj},C1 h₀ h->C1 h₀ (h.update S f):=λg b o e=>(Heap.get?_update_other _ _ (λz=>by rw[<-z,hSn]at e;cases e)).trans (g b o e);have lst:∀{h:Heap},C1 h₀ h->h.IsList l vs.toArray:=λg=>by
  obtain⟨o,h1,h2⟩:=id hl;exact⟨o,g _ _ h1,h2⟩
 intro k;induction k with
 |zero =>
  intro j h t vb nb tb c hk hj hst g hPb hS;have hin:j+1=vs.length:=by omega
  refine codeAny_builtin PySem.F.entry_min_loop ?_;rw[Around.under_plainId PySem.F.plain_min_loop _];show wpAny _ A.in1 (seqItems? (.ref S)>>=_) _ _ _;refine wpAny_bind (wpAny_seqItems hS rfl ?_);show wpAny _ A.in1 (tryCatch (pyNext (.ref I)) _>>=_) _ _ _;refine wpAny_bind (wpAny_tryCatch (W.done _ _ _ ⟨by rw[hsz,<-hin];exact hst,lst g⟩ λh' tk hk'=>?_));have hS':=hk' S _ (by simpa using hSI) hS;show wpAny _ A.in1 (updateSeq S (λ_=>#[])>>=_) _ _ _;refine wpAny_bind ?_;refine wpAny_updateSeq hS' rfl (wpAny_bind (wpAny_letGo (wpAny_pure ?_)));exact hR vb _ tk hPb (gS (gI g hk'))
 |succ k ih =>
  intro j h t vb nb tb c hk hj hst g hPb hS;have hlt:j+1<vs.length:=by omega
  refine codeAny_builtin PySem.F.entry_min_loop ?_;rw[Around.under_plainId PySem.F.plain_min_loop _];show wpAny _ A.in1 (seqItems? (.ref S)>>=_) _ _ _;refine wpAny_bind (wpAny_seqItems hS rfl ?_);show wpAny _ A.in1 (tryCatch (pyNext (.ref I)) _>>=_) _ _ _;refine wpAny_bind (wpAny_tryCatch (W.item (j+1) _ _ _ (by rw[hsz];exact hlt) ⟨hst,lst g⟩ λv h' tk hP hst' hk'=>?_));have hv:vs[j+1]?=some v:=by simpa using hP
  have hS':=hk' S _ (by simpa using hSI) hS;have g':=gI g hk';refine wpAny_bind (wpAny_tryCatch (wpAny_holding (hkey _ _ (j+1) v _ _ g' hv λtv tk2=>?_)));refine wpAny_bind (wpAny_tryCatch (wpAny_holding (wpAny_bind (HT.rcLt_int _ _ _ _ _ _ _ _ _ _ ?_))));refine wpAny_bind (wpAny_holding (wpAny_truthy_bool ?_));refine wpAny_bind (wpAny_letGo (wpAny_pure ?_));cases hb:decide (L (j+1)<nb)with
  |true =>
   simp only[if_true];refine wpAny_bind ?_;refine wpAny_updateSeq hS' rfl (wpAny_bind (wpAny_letGo ?_));rw[hname];obtain⟨oI,hoI,hoc,hod⟩:=id hst'.1;refine wpAny_pure ⟨plainId_quiet PySem.F.plain_min_loop _,ih (j+1) _ _ v _ _ _ (by omega) hlt ⟨oI,(Heap.get?_update_other _ _ hSI).trans hoI,hoc,hod⟩ (gS g') (List.mem_of_getElem? hv) (Heap.get?_update_self _ hS' rfl)⟩
  |false =>
   simp only[Bool.false_eq_true,if_false];refine wpAny_bind (wpAny_letGo ?_);rw[hname];refine wpAny_pure ⟨plainId_quiet PySem.F.plain_min_loop _,ih (j+1) _ _ vb nb tb c (by omega) hlt hst'.1 g' hPb hS'⟩
end
section
variable {prog:Program}{w:World}{A:Around}{E:Value->Shared->Prop}{s:Shared}
theorem T5(a v:Value):argsOk "max" ⟨[a],[(Str.ofString "default",v)]⟩:=by unfold argsOk;kernel_rfl
theorem a1l(a v:Value):argsOk "min" ⟨[a],[(Str.ofString "key",v)]⟩:=by unfold argsOk;kernel_rfl
theorem a4R(A:Around)(s:Shared)(a:Int)(t:Tok)(c:Int)(u:Tok)(prog:Program)(w:World)(E:Value->Shared->Prop)(Q:Value->Shared->Prop)(h:Q (.bool (decide (c<a))) s) :
  wpAny (model prog w) A (richCompare .Gt (.int a t) (.int c u)) Q E s :=
 (PyProof.Rows.gt_int h:wpAny (model prog w) A (compareOp .Gt (.int a t) (.int c u)) Q E s)
theorem a4a{l:Addr}{dv:Value}{vs:List Value}{Q:Value->Shared->Prop}(bt:Nat->Nat->Bool)(hh:A.handled=none)(hl:s.heap.IsList l vs.toArray)
  (hcmp:∀(h:Heap) (tk:Nat) (i j:Nat) (vi vj:Value) (Q E:Value->Shared->Prop),C1 s.heap h->vs[i]?=some vi->vs[j]?=some vj->Q (.bool (bt i j)) {s with heap:=h,toks:=tk}->wpAny (model prog w) A.in1 (richCompare .Gt vi vj) Q E {s with heap:=h,toks:=tk})
  (h0:vs=[]->∀h' tk,C1 s.heap h'->Q dv {s with heap:=h',toks:=tk}) (h1:∀v h' tk,vs[argBest bt (vs.length-1)]?=some v->C1 s.heap h'->Q v {s with heap:=h',toks:=tk}) :
  wpAny (model prog w) A (call (.builtin "max") [.ref l] [(Str.ofString "default",dv)]) Q E s:=by
 have hname:(toString "max" ++ toString ".loop" : String)="max.loop":=by decide
 obtain⟨ol,hol,_⟩:=id hl;have hll:l<s.heap.objs.size:=Heap.lt_size hol;refine S2 PySem.F.kind_max PySem.F.plain_max PySem.F.entry_max (T5 _ _) ?_;show wpAny _ A.in1 (Builtin.Builtins.bindParams "max" ["key","default"] 0 ⟨[],[(Str.ofString "default",dv)]⟩>>=_) _ _ s;refine wpAny_bind (wpAny_of_eq (show Builtin.Builtins.bindParams "max" ["key","default"] 0 ⟨[],[(Str.ofString "default",dv)]⟩=pure [none,some dv] from rfl) ?_);refine wpAny_bind (wpAny_pure ?_);refine wpAny_bind (wpAny_pyIter_list hl ?_);refine wpAny_bind (wpAny_newList ?_ (Nat.zero_le _));rw[hname];have hS:(s.heap.push {cls:=.type "list_iterator",data:=.fields #[.ref l,.int 0 0]}).objs.size=s.heap.objs.size+1:=size_push' ..;have hlI:l≠s.heap.objs.size:=Nat.ne_of_lt hll;have hSI:(s.heap.push {cls:=.type "list_iterator",data:=.fields #[.ref l,.int 0 0]}).objs.size≠s.heap.objs.size:=by rw[hS];exact Nat.ne_of_gt (Nat.lt_succ_self _)
 refine wpAny_pure ⟨plainId_quiet PySem.F.plain_max_loop _,?_⟩;have g0:C1 s.heap ((s.heap.push {cls:=.type "list_iterator",data:=.fields #[.ref l,.int 0 0]}).push (seqObj "list" #[] 0)):=λb x e=>Heap.get?_push_of_some _ (Heap.get?_push_of_some _ e);have gI:((s.heap.push {cls:=.type "list_iterator",data:=.fields #[.ref l,.int 0 0]}).push (seqObj "list" #[] 0)).get? s.heap.objs.size=some {cls:=.type "list_iterator",data:=.fields #[.ref l,.int 0 0]} :=
  Heap.get?_push_of_some _ (Heap.get?_push_size _ rfl)
 have gS:((s.heap.push {cls:=.type "list_iterator",data:=.fields #[.ref l,.int 0 0]}).push (seqObj "list" #[] 0)).get? (s.heap.push {cls:=.type "list_iterator",data:=.fields #[.ref l,.int 0 0]}).objs.size=some (seqObj "list" #[] 0):=Heap.get?_push_size _ rfl;have zI:s.heap.get? s.heap.objs.size=none:=Heap.get?_none_of_le (Nat.le_refl _);have zS:s.heap.get? (s.heap.push {cls:=.type "list_iterator",data:=.fields #[.ref l,.int 0 0]}).objs.size=none:=Heap.get?_none_of_le (by rw[hS];exact Nat.le_succ _);generalize (s.heap.push {cls:=.type "list_iterator",data:=.fields #[.ref l,.int 0 0]}).objs.size=S at hSI gS zS;have W:=Walks.list (prog:=prog) (w:=w) (A:=A.in1) hh s.heap.objs.size l hlI vs.toArray;have hsz:vs.toArray.size=vs.length:=List.size_toArray ..;have lst:∀{h:Heap},C1 s.heap h->h.IsList l vs.toArray:=λg=>by
  obtain⟨o,h1,h2⟩:=id hl;exact⟨o,g _ _ h1,h2⟩
 refine codeAny_builtin PySem.F.entry_max_loop ?_;rw[Around.under_plainId PySem.F.plain_max_loop _];show wpAny _ A.in1 (seqItems? (.ref _)>>=_) _ _ _;refine wpAny_bind (wpAny_seqItems gS rfl ?_);show wpAny _ A.in1 (tryCatch (pyNext (.ref s.heap.objs.size)) _>>=_) _ _ _;have gJ:∀{h h':Heap},C1 s.heap h->(∀b o,b∉[s.heap.objs.size]->h.get? b=some o->h'.get? b=some o)->C1 s.heap h':=λg hk b o e=>hk b o (λz=>by rw[List.mem_singleton.mp z,zI]at e;cases e) (g b o e);by_cases hne:vs=[]
 .subst hne;refine wpAny_bind (wpAny_tryCatch (W.done _ _ _ ⟨⟨_,gI,rfl,rfl⟩,lst g0⟩ λh' tk hk'=>?_));refine wpAny_bind (wpAny_rule (wpAny_pure ?_));exact h0 rfl h' tk (gJ g0 hk')
 .have hpos:0<vs.length:=List.length_pos_iff.mpr hne;refine wpAny_bind (wpAny_tryCatch (W.item 0 _ _ _ (by rw[hsz];exact hpos) ⟨⟨_,gI,rfl,rfl⟩,lst g0⟩ λv h' tk' hP hst' hk'=>?_));have hv:vs[0]?=some v:=by simpa using hP
  have hS':=hk' S _ (by simpa using hSI) gS;have g':=gJ g0 hk';show wpAny _ A.in1 (updateSeq S (λ_=>#[v,v])>>=_) _ _ _;refine wpAny_bind ?_;refine wpAny_updateSeq hS' rfl ?_;rw[hname];obtain⟨oI,hoI,hoc,hod⟩:=id hst'.1;exact wpAny_pure ⟨plainId_quiet PySem.F.plain_max_loop _,a3G (h₀:=s.heap) (s:=s) bt hh hlI hSI zI zS hl hcmp (λv' h'' tk'' hP' g''=>h1 v' h'' tk'' hP' g'') _ 0 _ _ v _ rfl hpos ⟨oI,(Heap.get?_update_other _ _ hSI).trans hoI,hoc,hod⟩ (λb o e=>(Heap.get?_update_other _ _ (λz=>by rw[<-z,zS]at e;cases e)).trans (g' b o e)) hv (Heap.get?_update_self _ hS' rfl)⟩
theorem a2z{l:Addr}{vs:List Value}{Q:Value->Shared->Prop}(L:Nat->Int)(hh:A.handled=none)(hl:s.heap.IsList l vs.toArray)
  (hkey:∀(h:Heap) (tk:Nat) (i:Nat) (vi:Value) (Q E:Value->Shared->Prop),C1 s.heap h->vs[i]?=some vi->(∀t tk2,Q (.int (L i) t) {s with heap:=h,toks:=tk2})->wpAny (model prog w) A.in1 (call (.builtin "len") [vi]) Q E {s with heap:=h,toks:=tk})
  (hpos:0<vs.length) (h1:∀v h' tk,v∈vs->C1 s.heap h'->Q v {s with heap:=h',toks:=tk}) :
  wpAny (model prog w) A (call (.builtin "min") [.ref l] [(Str.ofString "key",.builtin "len")]) Q E s:=by
 have hname:(toString "min" ++ toString ".loop" : String)="min.loop":=by decide
 obtain⟨ol,hol,_⟩:=id hl;have hll:l<s.heap.objs.size:=Heap.lt_size hol;refine S2 PySem.F.kind_min PySem.F.plain_min PySem.F.entry_min (a1l _ _) ?_;show wpAny _ A.in1 (Builtin.Builtins.bindParams "min" ["key","default"] 0 ⟨[],[(Str.ofString "key",.builtin "len")]⟩>>=_) _ _ s;refine wpAny_bind (wpAny_of_eq (show Builtin.Builtins.bindParams "min" ["key","default"] 0 ⟨[],[(Str.ofString "key",.builtin "len")]⟩=pure [some (.builtin "len"),none] from rfl) ?_);refine wpAny_bind (wpAny_pure ?_);refine wpAny_bind (wpAny_pyIter_list hl ?_);refine wpAny_bind (wpAny_newList ?_ (Nat.zero_le _));rw[hname];have hS:(s.heap.push {cls:=.type "list_iterator",data:=.fields #[.ref l,.int 0 0]}).objs.size=s.heap.objs.size+1:=size_push' ..;have hlI:l≠s.heap.objs.size:=Nat.ne_of_lt hll;have hSI:(s.heap.push {cls:=.type "list_iterator",data:=.fields #[.ref l,.int 0 0]}).objs.size≠s.heap.objs.size:=by rw[hS];exact Nat.ne_of_gt (Nat.lt_succ_self _)
 refine wpAny_pure ⟨plainId_quiet PySem.F.plain_min_loop _,?_⟩;have g0:C1 s.heap ((s.heap.push {cls:=.type "list_iterator",data:=.fields #[.ref l,.int 0 0]}).push (seqObj "list" #[] 0)):=λb x e=>Heap.get?_push_of_some _ (Heap.get?_push_of_some _ e);have gI:((s.heap.push {cls:=.type "list_iterator",data:=.fields #[.ref l,.int 0 0]}).push (seqObj "list" #[] 0)).get? s.heap.objs.size=some {cls:=.type "list_iterator",data:=.fields #[.ref l,.int 0 0]} :=
  Heap.get?_push_of_some _ (Heap.get?_push_size _ rfl)
 have gS:((s.heap.push {cls:=.type "list_iterator",data:=.fields #[.ref l,.int 0 0]}).push (seqObj "list" #[] 0)).get? (s.heap.push {cls:=.type "list_iterator",data:=.fields #[.ref l,.int 0 0]}).objs.size=some (seqObj "list" #[] 0):=Heap.get?_push_size _ rfl;have zI:s.heap.get? s.heap.objs.size=none:=Heap.get?_none_of_le (Nat.le_refl _);have zS:s.heap.get? (s.heap.push {cls:=.type "list_iterator",data:=.fields #[.ref l,.int 0 0]}).objs.size=none:=Heap.get?_none_of_le (by rw[hS];exact Nat.le_succ _);generalize (s.heap.push {cls:=.type "list_iterator",data:=.fields #[.ref l,.int 0 0]}).objs.size=S at hSI gS zS;have W:=Walks.list (prog:=prog) (w:=w) (A:=A.in1) hh s.heap.objs.size l hlI vs.toArray;have hsz:vs.toArray.size=vs.length:=List.size_toArray ..;have lst:∀{h:Heap},C1 s.heap h->h.IsList l vs.toArray:=λg=>by
  obtain⟨o,h1,h2⟩:=id hl;exact⟨o,g _ _ h1,h2⟩
 refine codeAny_builtin PySem.F.entry_min_loop ?_;rw[Around.under_plainId PySem.F.plain_min_loop _];show wpAny _ A.in1 (seqItems? (.ref _)>>=_) _ _ _;refine wpAny_bind (wpAny_seqItems gS rfl ?_);show wpAny _ A.in1 (tryCatch (pyNext (.ref s.heap.objs.size)) _>>=_) _ _ _;have gJ:∀{h h':Heap},C1 s.heap h->(∀b o,b∉[s.heap.objs.size]->h.get? b=some o->h'.get? b=some o)->C1 s.heap h':=λg hk b o e=>hk b o (λz=>by rw[List.mem_singleton.mp z,zI]at e;cases e) (g b o e);refine wpAny_bind (wpAny_tryCatch (W.item 0 _ _ _ (by rw[hsz];exact hpos) ⟨⟨_,gI,rfl,rfl⟩,lst g0⟩ λv h' tk' hP hst' hk'=>?_));have hv:vs[0]?=some v:=by simpa using hP
 have hS':=hk' S _ (by simpa using hSI) gS;have g':=gJ g0 hk';refine wpAny_bind (wpAny_tryCatch (wpAny_holding (hkey _ _ 0 v _ _ g' hv λtv tk2=>?_)));show wpAny _ A.in1 (updateSeq S (λ_=>#[v,_])>>=_) _ _ _;refine wpAny_bind ?_;refine wpAny_updateSeq hS' rfl ?_;rw[hname];obtain⟨oI,hoI,hoc,hod⟩:=id hst'.1;exact wpAny_pure ⟨plainId_quiet PySem.F.plain_min_loop _,a3F (h₀:=s.heap) (s:=s) L hh hlI hSI zI zS hl hkey (λv' h'' tk'' hP' g''=>h1 v' h'' tk'' hP' g'') _ 0 _ _ v _ _ _ rfl hpos ⟨oI,(Heap.get?_update_other _ _ hSI).trans hoI,hoc,hod⟩ (λb o e=>(Heap.get?_update_other _ _ (λz=>by rw[<-z,zS]at e;cases e)).trans (g' b o e)) (List.mem_of_getElem? hv) (Heap.get?_update_self _ hS' rfl)⟩
end
theorem a3e(f:Nat->Int):∀k,argBest (λi j=>decide (f j<f i)) k<=k/\∀j,j<=k->f j<=f (argBest (λi j=>decide (f j<f i)) k)
 |0=>⟨Nat.le_refl _,λj hj=>by rw[Nat.le_zero.mp hj];exact Int.le_refl _⟩
 |k+1=>by
  obtain⟨h1,h2⟩:=a3e f k;unfold argBest;split
  .rename_i hb;have hb:=of_decide_eq_true hb;refine⟨Nat.le_refl _,λj hj=>?_⟩;by_cases e:j=k+1
   .rw[e];exact Int.le_refl _
   .have:=h2 j (by omega);omega
  .rename_i hb;refine⟨by omega,λj hj=>?_⟩;by_cases e:j=k+1
   .rw[e];simp at hb;omega
   .exact h2 j (by omega)
def b0z(K:PySem.W.Frag)(d:Int):RL:=λxs H Q=>∃(p:Addr) (ns:List Int),xs=[.ref p]/\SqL K H p (ns.map V.int)/\(ns=[]->Q (.int d) H)/\∀M,M∈ns->(∀a∈ns,a<=M)->Q (.int M) H
def b0y(K:PySem.W.Frag):RL:=λxs H Q=>∃(p:Addr) (ys:List V),xs=[.ref p]/\SqL K H p ys/\0<ys.length/\(∀y∈ys,∃a zs,y=.ref a/\SqL K H a zs)/\∀y∈ys,Q y H
def a8d(K:PySem.W.Frag):RL:=λxs H Q=>∃(p:Addr) (ns:List Int),xs=[.ref p]/\SqT K H p (ns.map V.int)/\0<ns.length/\∀M,M∈ns->(∀a∈ns,M<=a)->Q (.int M) H
section
variable {X:Cx}{e:Expr}{t:TA}{p pos kp np:Pos}{nk:Nat}{d:Int}
theorem a2V(K:PySem.W.Frag)(hg:Gl X "max")(hm:X.mg "max"=none)(ha:JA X [e] t)(hc:X.calm=true:=by rfl)(hK:X.K=K:=by rfl)
  (he:backTo pos (starEach [e] X.env)=(false,eval e X.env)::backTo pos (starEach [] X.env):=by rfl) (hpl:(backTo pos (starEach [e] X.env)).any (·.1)=false:=by rfl) :
  JE X (.Call (.Name "max" p) [e] [⟨some "default",.Constant (.int d) nk np,kp⟩] pos) (tCB (b0z K d) t):=by
 subst hK;refine⟨λpins s σ H Q I h=>?_⟩;refine wpAny_Call_Name_kw (E5 I hg hm a6a ?_ (by decide) (by decide));refine callWith_kw (thn (ha.h pos pins s σ H _ I h) λus s1 ⟨vs,H1,I1,r1,q1⟩=>?_) he hpl;refine kws_cons (thn ((A5 (X:=X) (i:=d) (j:=nk) (pos:=np)).h pins s1 σ H1 (λv H'=>v=.int d/\H'=H1) I1 ⟨rfl,rfl⟩) λdv s2 ⟨v0,H0,I2,r0,e1,e2⟩=>kws_nil ?_);subst e1 e2;obtain⟨td,rfl⟩:=r0;obtain⟨l,ns,rfl,hs,q0,q1⟩:=q1;obtain⟨u,rfl,ru⟩:=r1.one;cases ru;obtain⟨its,ri,sq,hz⟩:=I2.list hs;have hlen:its.length=ns.length:=by rw[<-ri.length,List.length_map]
 have hat:∀(i:Nat) (vi:Value),its[i]?=some vi->∃t,vi=.int (ns.getD i 0) t/\i<ns.length:=λi vi hi=>by
  have hil:i<ns.length:=by rw[<-hlen];exact(List.getElem?_eq_some_iff.mp hi).1
  obtain⟨v',hv',rv⟩:=ri.get (i:=i) (x:=.int (ns[i])) (by rw[List.getElem?_map,List.getElem?_eq_getElem hil];rfl);rw[hi]at hv';cases hv';obtain⟨t,rfl⟩:=rv;exact⟨t,by rw[List.getD_eq_getElem?_getD,List.getElem?_eq_getElem hil];rfl,hil⟩
 refine a4a (λi j=>decide (ns.getD j 0<ns.getD i 0)) (I2.ok.hd hc) sq.isList (λh tk i j vi vj Q' E' g hi hj hq=>?_) (λe h' tk g=>?_) (λv h' tk hv g=>?_)
 .obtain⟨t1,rfl,_⟩:=hat i vi hi;obtain⟨t2,rfl,_⟩:=hat j vj hj;exact a4R _ _ _ _ _ _ _ _ _ _ hq
 .refine⟨.int d,H0,I2.kept (t':=tk) g,⟨_,rfl⟩,q0 ?_⟩;rw[e]at hlen;exact List.length_eq_zero_iff.mp hlen.symm
 .obtain⟨t1,rfl,hl⟩:=hat _ v hv;obtain⟨b1,b2⟩:=a3e (λi=>ns.getD i 0) (its.length-1);refine⟨.int _,H0,I2.kept (t':=tk) g,⟨_,rfl⟩,q1 _ ?_ λa ha=>?_⟩
  .rw[List.getD_eq_getElem?_getD,List.getElem?_eq_getElem hl];exact List.getElem_mem hl
  .obtain⟨j,hj⟩:=List.mem_iff_getElem?.mp ha;have hjl:=(List.getElem?_eq_some_iff.mp hj).1;have:=b2 j (by omega);simp only[List.getD_eq_getElem?_getD,hj,Option.getD_some]at this⊢;exact this
theorem a7n(K:PySem.W.Frag)(hg:Gl X "min")(hm:X.mg "min"=none)(hgl:Gl X "len")(hml:X.mg "len"=none)(ha:JA X [e] t)(hc:X.calm=true:=by rfl)(hK:X.K=K:=by rfl)
  (he:backTo pos (starEach [e] X.env)=(false,eval e X.env)::backTo pos (starEach [] X.env):=by rfl) (hpl:(backTo pos (starEach [e] X.env)).any (·.1)=false:=by rfl) :
  JE X (.Call (.Name "min" p) [e] [⟨some "key",.Name "len" np,kp⟩] pos) (tCB (b0y K) t):=by
 subst hK;refine⟨λpins s σ H Q I h=>?_⟩;refine wpAny_Call_Name_kw (E5 I hg hm a2A ?_ (by decide) (by decide));refine callWith_kw (thn (ha.h pos pins s σ H _ I h) λus s1 ⟨vs,H1,I1,r1,q1⟩=>?_) he hpl;refine kws_cons (E5 I1 hgl hml a6b (kws_nil ?_) (by decide) (by decide));obtain⟨l,ys,rfl,hs,hpos,hall,q1⟩:=q1;obtain⟨u,rfl,ru⟩:=r1.one;cases ru;obtain⟨its,ri,sq,hz⟩:=I1.list hs;have hlen:=ri.length;have hat:∀(i:Nat) (vi:Value),its[i]?=some vi->∃y,y∈ys/\ys[i]?=some y/\RelV y vi:=λi vi hi=>by
  have hil:i<ys.length:=by rw[hlen];exact(List.getElem?_eq_some_iff.mp hi).1
  obtain⟨v',hv',rv⟩:=ri.get (List.getElem?_eq_getElem hil);rw[hi]at hv';cases hv';exact⟨_,List.getElem_mem hil,List.getElem?_eq_getElem hil,rv⟩
 have hL:∃L:Nat->Int,∀i y,ys[i]?=some y->∃a zs,y=.ref a/\SqL X.K H1 a zs/\L i=zs.length:=by
  refine⟨λi=>if h:i<ys.length then((Classical.choose (Classical.choose_spec (hall (ys[i]) (List.getElem_mem h)))).length:Int)else 0,λi y hy=>?_⟩;have hil:=(List.getElem?_eq_some_iff.mp hy).1;rw[List.getElem?_eq_getElem hil]at hy;cases hy;have sp:=Classical.choose_spec (Classical.choose_spec (hall (ys[i]) (List.getElem_mem hil)));exact⟨_,_,sp.1,sp.2,by simp only[dif_pos hil]⟩
 obtain⟨L,hL⟩:=hL;refine a2z L (I1.ok.hd hc) sq.isList (λh tk i vi Q' E' g hi hq=>?_) (by rw[<-hlen];exact hpos) (λv h' tk hv g=>?_)
 .obtain⟨y,hy,hy2,ry⟩:=hat i vi hi;obtain⟨a,zs,rfl,hz,e1⟩:=hL i y hy2;cases ry;have I2:Inv X pins σ H1 {s1 with heap:=h,toks:=tk}:=I1.kept (t':=tk) g;obtain⟨its2,r2,sq2,hz2⟩:=I2.list hz;have hl2:=r2.length;have:=Q0;refine Calls.call_len_list sq2.isList (by simp only[List.size_toArray]<;>omega) ?_;rw[List.size_toArray,<-hl2,<-e1];exact hq _ _
 .obtain⟨i,hi⟩:=List.mem_iff_getElem?.mp hv;obtain⟨y,hy,_,ry⟩:=hat i v hi;exact⟨y,H1,I1.kept (t':=tk) g,ry,q1 y hy⟩
theorem a3W(K:PySem.W.Frag)(hc:X.calm=true)(hK:X.K=K:=by rfl):C6 X (.builtin "min") (a8d K):=by
 subst hK;intro pins s σ H xs us Q I rv h;obtain⟨p,ns,rfl,hs,hn,q⟩:=h;obtain⟨u,rfl,ru⟩:=rv.one;cases ru;obtain⟨its,ri,sq,hz⟩:=I.tuple hs;have hlen:its.length=ns.length:=by rw[<-ri.length,List.length_map]
 have hat:∀(i:Nat) (vi:Value),its.toArray[i]?=some vi->∃t,vi=.int (ns.getD i 0) t:=λi vi hi=>by
  have hi:its[i]?=some vi:=by simpa using hi
  have hil:i<ns.length:=by rw[<-hlen];exact(List.getElem?_eq_some_iff.mp hi).1
  obtain⟨v',hv',rv⟩:=ri.get (i:=i) (x:=.int (ns[i])) (by rw[List.getElem?_map,List.getElem?_eq_getElem hil];rfl);rw[hi]at hv';cases hv';obtain⟨t,rfl⟩:=rv;exact⟨t,by rw[List.getD_eq_getElem?_getD,List.getElem?_eq_getElem hil];rfl⟩
 have hlt:=sq.lt;refine call_min_walk (wpAny_pyIter_tuple sq ?_);refine⟨_,_,_,_,_,_,λi j=>decide (ns.getD i 0<ns.getD j 0),rfl,Walks.tuple (A:=X.A.in1) (I.ok.hd hc) _ p (Nat.ne_of_lt hlt) its.toArray,⟨⟨_,Heap.get?_push_size _ rfl,rfl,rfl⟩,?_⟩,?_,by rw[List.size_toArray,hlen];exact hn,?_,?_⟩
 .obtain⟨o,h1,h2⟩:=sq;exact⟨o,Heap.get?_push_of_some _ h1,h2⟩
 .intro b hb;rw[size_push'];rcases List.mem_cons.mp hb with rfl|hb
  .exact Nat.lt_succ_self _
  .rw[List.mem_singleton.mp hb];exact Nat.lt_succ_of_lt hlt
 .intro i j vi vj s' Q' E' hi hj hq;obtain⟨t1,rfl⟩:=hat i vi hi;obtain⟨t2,rfl⟩:=hat j vj hj;exact HT.rcLt_int _ _ _ _ _ _ _ _ _ _ hq
 .intro v h' tk hv hk;obtain⟨t1,rfl⟩:=hat _ v hv;obtain⟨b1,b2⟩:=argBest_lt (λi=>ns.getD i 0) (its.toArray.size-1);rw[List.size_toArray]at b1 b2;refine⟨.int _,H,I.kept (t':=tk) (λb o e=>hk b o (λz=>?_) (Heap.get?_push_of_some _ e)),⟨_,rfl⟩,q _ ?_ λa ha=>?_⟩
  .rw[List.mem_singleton.mp z]at e;exact absurd (Heap.lt_size e) (Nat.lt_irrefl _)
  .rw[List.size_toArray,List.getD_eq_getElem?_getD,List.getElem?_eq_getElem (by omega)];exact List.getElem_mem _
  .obtain⟨j,hj⟩:=List.mem_iff_getElem?.mp ha;have hjl:=(List.getElem?_eq_some_iff.mp hj).1;have:=b2 j (by omega);rw[List.size_toArray];simp only[List.getD_eq_getElem?_getD,hj,Option.getD_some]at this⊢;exact this
theorem a7q(K:PySem.W.Frag)(hg:Gl X "min")(hm:X.mg "min"=none)(ha:JA X [e] t)(hc:X.calm=true:=by rfl)(hK:X.K=K:=by rfl)(he:starEach [e] X.env=(false,eval e X.env)::starEach [] X.env:=by rfl)(hpl:(backTo pos (starEach [] X.env)).any (·.1)=false:=by rfl):JE X (.Call (.Name "min" p) [e] [] pos) (tCB (a8d K) t):=⟨D9 (a3W K hc hK) hg hm a2A ha.h (by decide) (by decide) he hpl⟩
end
section
variable {prog:Program}{w:World}{A:Around}{E:Value->Shared->Prop}{s:Shared}
end
section
variable {X:Cx}
variable {e:Expr}{es:List Expr}{t:TA}{p pos:Pos}
end
end L2
namespace L2
open PySem PySem.Spec PyProof.Rows PySem.W
section
variable {X:Cx}{tg:Expr}
end
section
variable {X:Cx}
end
section
variable {X:Cx}{o e:Expr}{es:List Expr}{to:TE}{t:TA}{apos cpos:Pos}
end
theorem a0l{K:PySem.W.Frag}{src:List (Option Nat)}{σ caps:St}{Q:VK}{a:Addr}{vs:List V}{rss:LLI}{H:Hp}{te:TE}(f:List Int->V)(hl:vs.length<=sizeLine)(hmono:∀H',Same H H'->SqL K H' a vs)(hI:Its H vs rss)(hsrc:B7 src σ=none::caps)
  (hte:∀v r H1 Q1,r∈rss->IT H1 v r->Same H H1->(∀H2,Same H1 H2->Q1 (f r) H2)->te (some v::caps) H1 Q1) (hd:∀H1 p,Same H H1->H1 p=none->Q (.ref p) (upd H1 p (.lst (rss.map f)))):N9 src (A7 0) W5 te σ Q (Itl K a) H:=by
 refine T4 (xs:=vs) (by omega) (λi ys H'=>Same H H'/\ys=(rss.take i).map f) ⟨Same.refl H,by simp⟩ (λi ys H' _ h=>⟨hmono H' h.1,by rw[h.2,List.length_map];exact List.length_take_le _ _⟩) ?_ ?_
 .rintro i x ys H' hx ⟨s,rfl⟩;obtain⟨r,hr,hr2,hr3⟩:=hI.mem hx;show Sub _ ((B7 src σ).set 0 (some x))/\_;rw[hsrc];refine⟨Sub.one,hte x r H' _ hr (hr3.same s) s λH2 s2=>⟨s.trans s2,?_⟩⟩;rw[List.take_add_one,hr2];simp
 .rintro ys H' ⟨s,rfl⟩ p hp;rw[hI.1,List.take_length];exact hd H' p s hp
section
variable {X:Cx}{k:Nat}{ps:List Str}{sp:Sp}{x:Str}{p pos cpos:Pos}{e:Expr}{es:List Expr}{t:TA}
end
end L2
namespace L2
open PySem PySem.Spec PyProof.Rows
section
variable {X:Cx}
variable {e:Expr}{es:List Expr}{t:TA}{p pos:Pos}
end
end L2
namespace L2
open PySem PySem.Spec PyProof.Rows PySem.W
section
variable {prog:Program}{w:World}{κ:Type} [DecidableEq κ] {knd:HeapKind prog w κ}{A:Around}{E:Value->Shared->Prop}{s:Shared}
end
section
variable {prog:Program}{w:World}{κ:Type} [DecidableEq κ] (knd:HeapKind prog w κ)
end
section
variable {X:Cx}{pins:List (Addr×Obj)}{σ:St}{H:Hp}{s:Shared}{a b:Addr}{z:V}{r:Value}{kvs:List (List Key×V)}{k:List Key}{A:Around}{E:Value->Shared->Prop}
end
section
variable {X:Cx}{o e f:Expr}{apos cpos:Pos}{td ty tx:TE}
end
section
variable {X:Cx}
variable {e:Expr}{es:List Expr}{t:TA}{p pos:Pos}
end
end L2
namespace L2
open PySem PySem.Spec PyProof.Rows
open PySem.AutoSeq1 (wpAny_loadPart')
section
variable {prog:Program}{w:World}{A:Around}{E:Value->Shared->Prop}{s:Shared}
theorem a1O{R:List Value->Shared->Prop}{r:Addr}{a b c:Int}{t u v:Tok}{n:Nat}(hh:A.handled=none)(hr:IsRange s.heap r a b c t u v)(hs:Builtin.Range.small a b c=true)(hn:Builtin.Range.rangeSize a b c=n)(hl:n<=2 ^ 24)
  (h:∀(h':Heap) (tk:Nat) (acc:Array Value),(∀b o,s.heap.get? b=some o->h'.get? b=some o)->ItemsOf (λi v=>∃t,v=.int (a+i*c) t) acc n->R acc.toList {s with heap:=h',toks:=tk}) :
  wpAny (model prog w) A (collect (.ref r)) R E s:=by
 unfold collect;refine wpAny_bind (wpAny_runValue (codeAny_builtin entry_proto_collect' ?_));rw[Around.under_plainId PySem.F.plain_proto_collect _];show wpAny _ A.in1 (newList []>>=λl=>again (.builtin "list.__iadd__" ⟨[l,.ref r],[]⟩)) _ _ s;refine wpAny_bind (wpAny_newObj_type ?_);refine wpAny_pure ⟨plainId_quiet PySem.F.plain_list_iadd _,codeAny_builtin entry_list_iadd' ?_⟩;rw[Around.under_plainId PySem.F.plain_list_iadd _];have hS₁:(s.heap.push {cls:=.type "list",data:=.seq ([]:List Value).toArray}).get? s.heap.objs.size=some {cls:=.type "list",data:=.seq #[]}:=Heap.get?_push_size _ rfl;show wpAny _ A.in1 (Builtin.List.listExtendWith (.ref s.heap.objs.size) (.ref r) (.ref s.heap.objs.size)) _ _ _;have key:=wpAny_extend_range (prog:=prog) (w:=w) (A:=A) (s:={s with heap:=s.heap.push {cls:=.type "list",data:=.seq ([]:List Value).toArray}})
  (R:=λ(q:Result) (s':Shared)=>∃(h':Heap) (tk:Nat) (acc':Array Value) (c':Nat),q=.ok (.ret (.ref s.heap.objs.size))/\s'={s with heap:=h',toks:=tk} /\
   (∀b o,s.heap.get? b=some o->h'.get? b=some o)/\h'.get? s.heap.objs.size=some {cls:=.type "list",dict:=none,data:=.seq acc' c',slots:=#[]}/\ItemsOf (λi v=>∃t,v=.int (a+i*c) t) acc' n)
  hh (Heap.get?_push_of_some _ hr) hs hn hl s.heap.objs.size (.ref s.heap.objs.size) 0 hS₁
  (λh' tk acc' c' hk hS' hacc=>⟨h',tk,acc',c',rfl,rfl,λb o e=>hk b o (Nat.ne_of_lt (Heap.lt_size e)) (Heap.get?_push_of_some _ e),hS',hacc⟩)
 refine wpAny_mono key (λfin s' x=>?_) λe s' x=>?_
 .cases fin with
  |done f =>
   obtain⟨h',tk,acc',c',e,rfl,hk,hS',hacc⟩:=x;cases e;show wpAny _ A (load s.heap.objs.size>>=_) _ _ _;refine wpAny_bind (wpAny_load hS' ?_);exact wpAny_pure (h h' tk acc' hk hacc)
  |again c₁ =>
   refine⟨x.1,codeAny_mono x.2 λq s₂ y=>?_⟩;obtain⟨h',tk,acc',c',rfl,rfl,hk,hS',hacc⟩:=y;show wpAny _ A (load s.heap.objs.size>>=_) _ _ _;refine wpAny_bind (wpAny_load hS' ?_);exact wpAny_pure (h h' tk acc' hk hacc)
 .obtain⟨h',tk,acc',c',e,_⟩:=x;cases e
theorem a4u{d:Addr}{a b c:Int}{t u v:Tok}{n:Nat}(hs:Builtin.Range.small a b c=true)(hn:Builtin.Range.rangeSize a b c=n)(hl:n<=2 ^ 24)(hz:n<=sizeLine) :
  MeetsIn prog w (Builtin.«tuple.__new__» ⟨[.type "tuple",.ref d],[]⟩) (λA R s=>A.handled=none/\IsRange s.heap d a b c t u v /\
   ∀(h':Heap) (tk:Nat) (acc:Array Value),(∀b o,s.heap.get? b=some o->h'.get? b=some o)->ItemsOf (λi v=>∃t,v=.int (a+i*c) t) acc n->R (.ok (.ret (.ref h'.objs.size))) {s with heap:=h'.push {cls:=.type "tuple",data:=.seq acc},toks:=tk}) :=
 .of_wp λA R s h=>by
  obtain⟨hp,g,dd,tk,os⟩:=s;obtain⟨hh,ho,h⟩:=h;have hsub:=sub_tuple_self;have hinit:=init_tuple_lookup;have hmh:=madeHere_tuple;have hT:Shared.TypeIs ⟨hp,g,dd,tk,os⟩ (.ref d) "range":=⟨_,ho,rfl⟩
  wp_walk using wpAny_loadPart' ho,wpAny_typeOf hT,a1O (show A.in1.handled=none from hh) ho hs hn hl
  intro h' tk' acc hk hit;show wpAny _ _ (Builtin.Tuple.tupleExact acc.toList.toArray>>=λv=>ret v) _ _ _;unfold Builtin.Tuple.tupleExact;have e:acc.toList.toArray=acc:=by simp
  rw[e];refine wpAny_bind (wpAny_newObj_type ?_ (by show acc.size<=sizeLine;rw[hit.1];exact hz));exact wpAny_pure ⟨_,rfl,h h' tk' acc hk hit⟩
end
theorem P9{α β:Type}{F:α->β->Prop}:∀{l₁:List α}{l₂:List β},l₁.length=l₂.length->(∀(i:Nat) x y,l₁[i]?=some x->l₂[i]?=some y->F x y)->Paired F l₁ l₂
 |[],[],_,_=>.nil
 |[],_::_,e,_=>nomatch e
 |_::_,[],e,_=>nomatch e
 |x::xs,y::ys,e,h=>.cons (h 0 x y rfl rfl) (P9 (by simpa using e) λi a b ha hb=>h (i+1) a b (by simpa using ha) (by simpa using hb))
def D8(n:Nat):List Int:=(List.range n).map λ(i:Nat)=>(i:Int)
theorem B3(n:Nat):(D8 n).length=n:=by simp[D8]
def a8b:RL:=λxs H Q=>∃j:Nat,xs=[.int j]/\j<2 ^ 62/\∀l,H l=none->Q (.ref l) (upd H l (.rng 0 j))
def a7Z:RL:=λxs H Q=>∃(a:Addr) (n:Nat),xs=[.ref a]/\H a=some (.rng 0 n)/\n<=2 ^ 24/\n<=sizeLine/\∀l,H l=none->Q (.ref l) (upd H l (.tup ((D8 n).map V.int)))
section
variable {X:Cx}{e:Expr}{es:List Expr}{t:TA}{p pos:Pos}
theorem a3V:C6 X (.type "range") a8b:=by
 intro pins s σ H xs us Q I rv h;obtain⟨j,rfl,hj,q⟩:=h;obtain⟨u,rfl,ru⟩:=rv.one;obtain⟨t,rfl⟩:=ru;refine call_range_1 ?_;exact⟨.ref s.heap.objs.size,_,I.laid (a:=s.heap.objs.size) (o:=.rng 0 j) (λb o e=>Heap.get?_push_of_some _ e) (Nat.le_refl _) ⟨_,_,_,Heap.get?_push_size _ rfl⟩,rfl,q _ (I.hok.fresh (Nat.le_refl _))⟩
theorem a7p(hg:Gl X "range")(hm:X.mg "range"=none)(ha:JA X (e::es) t)(he:starEach (e::es) X.env=(false,eval e X.env)::starEach es X.env:=by rfl)(hpl:(backTo pos (starEach es X.env)).any (·.1)=false:=by rfl):JE X (.Call (.Name "range" p) (e::es) [] pos) (tCB a8b t):=⟨O3 a3V hg hm boot_range ha.h (by decide) (by decide) he hpl⟩
theorem a3T(hc:X.calm=true):C6 X (.type "tuple") a7Z:=by
 intro pins s σ H xs us Q I rv h;obtain⟨d,n,rfl,hd,hn,hz,q⟩:=h;obtain⟨u,rfl,ru⟩:=rv.one;cases ru;obtain⟨t1,t2,t3,e1⟩:=(show ObjOk X.prog X.w H s.heap d (.rng 0 n)from I.hok _ _ hd);have hs:Builtin.Range.rangeSize 0 (n:Int) 1=n:=by rw[rangeSize_one];split<;>omega
 refine callType_newIn PySem.F.called_tuple (by decide) (PySem.F.typeCall_tuple_1 _) (PySem.F.newCall_tuple_1 _) (λobj=>PySem.F.args_object_init_2 obj _) PySem.F.entry_tuple_new (a4u (n:=n) (small_one (by omega) (by omega) (by omega) (by omega)) hs hn hz) ⟨show X.A.in1.handled=none from I.ok.hd hc,e1,λh' tk acc kp hit=>?_⟩;have I1:Inv X pins σ H {s with heap:=h',toks:=tk}:=I.kept (t':=tk) kp;have hv:Vals ((D8 n).map V.int) acc.toList:=by
  refine P9 ?_ λi x y hx hy=>?_
  .rw[List.length_map,B3,Array.length_toList,hit.1]
  .rw[Array.getElem?_toList]at hy;obtain⟨t,rfl⟩:=hit.2 i y hy;have hi:i<n:=by have:=(List.getElem?_eq_some_iff.mp hx).1;rw[List.length_map,B3]at this;exact this
   have:x=.int (i:Int):=by
    rw[List.getElem?_map,D8,List.getElem?_map,List.getElem?_range hi]at hx;simpa using hx.symm
   rw[this];exact⟨t,by simp⟩
 have I2:Inv X pins σ (upd H h'.objs.size (.tup ((D8 n).map V.int))) {s with heap:=h'.push {cls:=.type "tuple",data:=.seq acc},toks:=tk} :=
  I1.laid (t':=tk) (λb o e=>Heap.get?_push_of_some _ e) (Nat.le_refl _) (show ObjOk X.prog X.w _ _ _ (.tup ((D8 n).map V.int))from⟨by rw[List.length_map,B3];exact hz,acc.toList,hv,by rw[Array.toArray_toList];exact IsTup.new _ _⟩)
 exact⟨⟨_,Heap.get?_push_size _ rfl,rfl⟩,.ref h'.objs.size,_,I2,rfl,q _ (I1.hok.fresh (Nat.le_refl _))⟩
theorem a7o(hg:Gl X "tuple")(hm:X.mg "tuple"=none)(ha:JA X (e::es) t)(hc:X.calm=true:=by rfl)(he:starEach (e::es) X.env=(false,eval e X.env)::starEach es X.env:=by rfl)(hpl:(backTo pos (starEach es X.env)).any (·.1)=false:=by rfl):JE X (.Call (.Name "tuple" p) (e::es) [] pos) (tCB a7Z t):=⟨O3 (a3T hc) hg hm Z6 ha.h (by decide) (by decide) he hpl⟩
theorem a3L{te:TE}{i:Nat}{x:Str}{pos':Pos}(hN:X.N.Nodup)(hi:X.N[i]?=some x)(hx:Loc X.env.scope x)(he:JE X e te)(hf:X.fn x=true∨X.env.scope.names.lookup x=some .local:=by first|exact .inl rfl|exact .inr rfl|assumption) :
  JS X (.AugAssign (.Name x pos') .Sub e pos) (a8F i te (ipI λi j=>i-j)):=⟨a4Z hN hi hx he.h a9W hf⟩
end
end L2
namespace L2
open PySem PySem.Spec PyProof.Rows PySem.W
open Sem (wp)
section
variable {prog:Program}{w:World}{κ:Type} [DecidableEq κ] (kd:KeyKind prog w κ)
inductive Rfs(h:Heap):List (List κ)->List Value->Prop
 |nil:Rfs h [] []
 |cons {ks:List κ}{a:Addr}{kss:List (List κ)}{us:List Value}:IsTupleKey kd h ks a->Rfs h kss us->Rfs h (ks::kss) (.ref a::us)
def IsTT(h:Heap)(kss:List (List κ))(a:Addr):Prop:=∃ob its n,h.get? a=some ob/\ob.cls=.type "tuple"/\ob.data=.seq its n/\Rfs kd h kss its.toList
def a2a(kss:List (List κ)):Int:=reduceHash (Builtin.Tuple.tupleHashOf (kss.map (tupleKeyHash kd)))
def a0F(kss:List (List κ)):Nat:=(kss.map λks=>ks.length+1).sum+1
variable {kd}
theorem Rfs.inj{h:Heap}{x y:List (List κ)}{us:List Value}(hx:Rfs kd h x us)(hy:Rfs kd h y us):x=y:=by
 induction hx generalizing y with
 |nil=>cases hy;rfl
 |cons p _ ih=>cases hy with
  |cons q r=>rw[p.inj q,ih r]
theorem Rfs.keeps{h h':Heap}{x:List (List κ)}{us:List Value}{d:Addr}{ob:Obj}{es ep}(hx:Rfs kd h x us)(ho:h.get? d=some ob)(hd:ob.data=.dict es ep)(hs:Heap.SameBut d h h'):Rfs kd h' x us:=by
 induction hx with
 |nil=>exact .nil
 |cons p _ ih=>exact .cons (p.keeps ho hd hs) ih
theorem IsTT.typ{s:Shared}{kss:List (List κ)}{a:Addr}(x:IsTT kd s.heap kss a):s.TypeIs (.ref a) "tuple":=by
 obtain⟨ob,_,_,e1,e2,_⟩:=x;exact⟨ob,e1,e2⟩
theorem IsTT.inj{h:Heap}{a:Addr}{x y:List (List κ)}(hx:IsTT kd h x a)(hy:IsTT kd h y a):x=y:=by
 obtain⟨ob,its,n,e1,_,e3,e4⟩:=hx;obtain⟨ob',its',n',f1,_,f3,f4⟩:=hy;have e:=e1.symm.trans f1;injection e with e
 subst e;rw[e3]at f3;injection f3 with f3 _
 subst f3;exact e4.inj f4
theorem IsTT.keeps{h h':Heap}{kss:List (List κ)}{a d:Addr}{ob:Obj}{es ep}(x:IsTT kd h kss a)(ho:h.get? d=some ob)(hd:ob.data=.dict es ep)(hs:Heap.SameBut d h h'):IsTT kd h' kss a:=by
 obtain⟨ob',its,n,e1,e2,e3,e4⟩:=x;have hne:a≠d:=λe=>by
  subst e;have z:=e1.symm.trans ho;injection z with z
  subst z;rw[hd]at e3;exact nomatch e3
 exact⟨ob',its,n,(hs.2 a hne).trans e1,e2,e3,e4.keeps ho hd hs⟩
variable {A:Around}{E:Value->Shared->Prop}{s:Shared}
theorem a6l{kss:List (List κ)}{a:Addr}{Q:Int->Shared->Prop}(hu:A.units+8<cLine)(hk:IsTT kd s.heap kss a)(h:Q (a2a kd kss) {s with toks:=s.toks+a0F kss}) :
  wpAny (model prog w) A (pyHash (.ref a)) Q E s:=by
 have hT:=hk.typ;obtain⟨o,items,n,ho,_,hd,hi⟩:=hk;unfold pyHash
 first|unfold pyHashByItsType|skip
 first|refine wpAny_bind (wpAny_cRoomFor_or (.inr (by omega)) ?_)|skip
 refine wpAny_bind (wpAny_specialOf hT F.slot_tuple_hash.lookup ?_);show wpAny _ _ (if (some (Value.builtin "tuple.__hash__")==some Value.none)=true then _ else _) Q E s;rw[if_neg (by rw[beq_builtin_none];exact Bool.false_ne_true)];refine wpAny_bind (wpAny_specialOf hT F.slot_tuple_hash.lookup ?_);show wpAny _ _ (callSpecialIfBoundUnlessNone? (.ref a) "__hash__" _>>=_) Q E s;refine wpAny_bind (wpAny_callSpecialIfBoundUnlessNone?_slot hT F.slot_tuple_hash (wpAny_call_entry F.slot_tuple_hash hT F.entry_tuple_hash ?_ (F.args_tuple_hash_1 _)));show wpAny _ _ (Builtin.Tuple.tupleItemsOf (.ref a)>>=_) _ _ s;refine wpAny_bind (wpAny_tupleItemsOf ho hd ?_);refine wpAny_bind ?_;rw[<-Array.forIn_toList];refine wpAny_forIn_list _
  (λrest (b:Array Int) s'=>∃done left,kss=done++left/\Rfs kd s.heap left rest/\b.toList=done.map (tupleKeyHash kd)/\s'={s with toks:=s.toks+(done.map λks=>ks.length+1).sum})
  _ ?_ ?_ _ _ ⟨[],kss,rfl,hi,rfl,rfl⟩
 .rintro x rest b s' ⟨done,left,rfl,hl,hb,rfl⟩;cases hl with
  |@cons k a' ks' _ h1 hl' =>
   refine wpAny_bind (wpAny_pyHash_tuple (by first|exact(show A.units<cLine by omega)|exact(show A.units+1<cLine by omega)|exact(show A.units+2<cLine by omega)) (show IsTupleKey kd _ k a' from h1) ?_);have e1:((done++[k]).map λks=>ks.length+1).sum=(done.map λks=>ks.length+1).sum+(k.length+1):=by simp
   first
    |exact wpAny_pure ⟨done++[k],ks',by simp,hl',by simp[hb],by rw[e1];simp[Nat.add_assoc]⟩
    |exact wpAny_bind (wpAny_pure (wpAny_pure ⟨done++[k],ks',by simp,hl',by simp[hb],by rw[e1];simp[Nat.add_assoc]⟩))
 .rintro b s' ⟨done,left,rfl,hl,hb,rfl⟩;cases hl;rw[List.append_nil]at h;show wpAny _ _ (retInt (Builtin.Tuple.tupleHashOf b.toList)) _ _ _;rw[hb];refine wpAny_ret_mkInt ?_;show wpAny _ _ (if (decide (-(2:Int) ^ 63<=Builtin.Tuple.tupleHashOf (done.map (tupleKeyHash kd))) && decide (Builtin.Tuple.tupleHashOf (done.map (tupleKeyHash kd))<2 ^ 63))=true then _ else _) Q E _;unfold a2a a0F reduceHash at h;by_cases hr:(decide (-(2:Int) ^ 63<=Builtin.Tuple.tupleHashOf (done.map (tupleKeyHash kd))) && decide (Builtin.Tuple.tupleHashOf (done.map (tupleKeyHash kd))<2 ^ 63))=true
  .rw[if_pos hr];rw[if_pos hr]at h;exact wpAny_pure (by simpa[Nat.add_assoc]using h)
  .rw[if_neg hr];rw[if_neg hr]at h;exact wpAny_bind (wpAny_rule (wpAny_pure (by simpa[Nat.add_assoc]using h)))
theorem a3k{x y:List (List κ)}{a b:Addr}{P:Fin->Shared->Prop}(hu:A.units+4<cLine)(hx:IsTT kd s.heap x a)(hy:IsTT kd s.heap y b)(h:P (.done (.ret (.bool (decide (x=y))))) s) :
  wpAny (model prog w) A (Builtin.«tuple.__eq__» ⟨[.ref a,.ref b],[]⟩) P E s:=by
 have hTb:=hy.typ;obtain⟨oa,xs,na,hoa,_,hda,hia⟩:=hx;obtain⟨ob,ys,nb,hob,_,hdb,hib⟩:=hy;show wpAny _ _ (isInstance (.ref b) (.type "tuple")>>=_) _ _ s;refine wpAny_bind (wpAny_isInstance hTb isSubtype_tuple_tuple ?_);simp only[Bool.not_true,Bool.false_eq_true,if_false];refine wpAny_bind (wpAny_tupleItemsOf hoa hda ?_);refine wpAny_bind (wpAny_tupleItemsOf hob hdb ?_);refine wpAny_bind ?_;refine wpAny_forIn_list _
  (λrest r s'=>r.1=none/\s'=s/\∃x' y' xs' ys',rest=List.zip xs' ys'/\Rfs kd s.heap x' xs'/\Rfs kd s.heap y' ys'/\decide (x'=y')=decide (x=y)/\(xs'.length==ys'.length)=(xs.size==ys.size))
  _ ?_ ?_ _ _ ⟨rfl,rfl,x,y,xs.toList,ys.toList,rfl,hia,hib,rfl,by simp⟩
 .rintro⟨u,v⟩ rest r s' ⟨hr,rfl,x',y',xs',ys',hz,hx',hy',hdec,hlen⟩;cases hx' with
  |nil=>simp at hz
  |@cons k1 u' x'' xs'' h1 hx'' =>
   cases hy' with
   |nil=>simp at hz
   |@cons k2 v' y'' ys'' h2 hy'' =>
    simp only[List.zip_cons_cons,List.cons.injEq,Prod.mk.injEq]at hz;obtain⟨⟨rfl,rfl⟩,rfl⟩:=hz;refine wpAny_bind (wpAny_eqBool_tuple (x:=k1) (y:=k2) (by first|exact(show A.units<cLine by omega)|exact(show A.units+1<cLine by omega)|exact(show A.units+2<cLine by omega)) h1 h2 ?_);by_cases hk:k1=k2
    .subst hk;rw[decide_eq_true rfl];simp only[Bool.not_true,Bool.false_eq_true,if_false];refine wpAny_pure ⟨rfl,rfl,x'',y'',xs'',ys'',rfl,hx'',hy'',?_,by simpa using hlen⟩;rw[<-hdec];by_cases hxy:x''=y''
     .simp[hxy]
     .simp[hxy]
    .rw[decide_eq_false hk];simp only[Bool.not_false,if_true];have hf:decide (x=y)=false:=by rw[<-hdec];simp[hk]
     rw[hf]at h;exact wpAny_bind (wpAny_pure (wpAny_pure (wpAny_pure h)))
 .rintro⟨r1,r2⟩ s' ⟨hr,rfl,x',y',xs',ys',hz,hx',hy',hdec,hlen⟩;simp only at hr;subst hr;refine wpAny_pure ?_;have hfin:(xs.size==ys.size)=decide (x=y):=by
   rw[<-hdec,<-hlen];cases hx' with
   |nil=>cases hy' with
    |nil=>simp
    |cons _ _=>simp
   |cons _ _=>cases hy' with
    |nil=>simp
    |cons _ _=>simp at hz
  show P (.done (.ret (.bool (xs.size==ys.size)))) s';rw[hfin];exact h
theorem b0r{x y:List (List κ)}{a b:Addr}{Q:Bool->Shared->Prop}(hu:A.units+8<cLine)(hx:IsTT kd s.heap x a)(hy:IsTT kd s.heap y b)(h:Q (decide (x=y)) s) :
  wpAny (model prog w) A (eqBool (.ref a) (.ref b)) Q E s:=by
 unfold eqBool
 try with_reducible refine wpAny_holding ?_
 show wpAny _ _ (if (Value.ref a==Value.ref b)=true then _ else _) Q E s;by_cases hab:(Value.ref a==Value.ref b)=true
 .rw[if_pos hab];have e:a=b:=by have:=eq_of_beq hab;injection this
  subst e;obtain rfl:=hx.inj hy;exact wpAny_bind (wpAny_rule (wpAny_pure (by simpa using h)))
 .rw[if_neg hab];exact wpAny_bind (wpAny_richCompare_same_room (op:=.Eq) hx.typ hy.typ F.slot_tuple_eq
   (wpAny_call_entry F.slot_tuple_eq hx.typ F.entry_tuple_eq (a3k (by(try simp only[Around.in1_units]);omega) hx hy ⟨_,rfl,(λe=>nomatch e),wpAny_truthy_bool h⟩) (F.args_tuple_eq_2 _ _)) (by omega))
theorem a3o{m:Nat}{ks:List κ}{a:Addr}{Q:Bool->Shared->Prop}(hk:IsTupleKey kd s.heap ks a)(h:Q true s):wpAny (model prog w) A (eqIsQuiet (m+1) (.ref a)) Q E s:=by
 have hT:=hk.typeIs;obtain⟨o,items,n,ho,_,hd,hi⟩:=hk;unfold eqIsQuiet;refine wpAny_bind (wpAny_specialOf hT F.slot_tuple_eq.lookup ?_);show wpAny _ _ (isInstance (.ref a) (.type "tuple")>>=_) _ _ s;refine wpAny_bind (wpAny_isInstance hT isSubtype_tuple_tuple ?_);simp only[Bool.not_true,Bool.false_eq_true,if_false];refine wpAny_bind (wpAny_seqItems ho hd ?_);refine wpAny_bind ?_;show wpAny _ _ (forIn items _ _) _ _ s;rw[<-Array.forIn_toList];refine wpAny_forIn_list _ (λrest r s'=>r.1=none/\s'=s/\∀v∈rest,carriedByValue v=true) _ ?_ ?_ _ _ ⟨rfl,rfl,hi.byValue⟩
 .rintro v rest r s' ⟨hr,rfl,hall⟩;rw[eqIsQuiet_byValue _ (hall v List.mem_cons_self)];refine wpAny_bind (wpAny_pure ?_);simp only[Bool.not_true,Bool.false_eq_true,if_false];exact wpAny_pure ⟨rfl,rfl,λu hu'=>hall u (List.mem_cons_of_mem _ hu')⟩
 .rintro⟨r1,r2⟩ s' ⟨hr,rfl,_⟩;simp only at hr;subst hr;exact wpAny_pure h
theorem a4s{kss:List (List κ)}{a:Addr}{Q:Bool->Shared->Prop}(hk:IsTT kd s.heap kss a)(h:Q true s):wpAny (model prog w) A (eqIsQuiet 8 (.ref a)) Q E s:=by
 have hT:=hk.typ;obtain⟨o,items,n,ho,_,hd,hi⟩:=hk;unfold eqIsQuiet;refine wpAny_bind (wpAny_specialOf hT F.slot_tuple_eq.lookup ?_);show wpAny _ _ (isInstance (.ref a) (.type "tuple")>>=_) _ _ s;refine wpAny_bind (wpAny_isInstance hT isSubtype_tuple_tuple ?_);simp only[Bool.not_true,Bool.false_eq_true,if_false];refine wpAny_bind (wpAny_seqItems ho hd ?_);refine wpAny_bind ?_;show wpAny _ _ (forIn items _ _) _ _ s;rw[<-Array.forIn_toList];refine wpAny_forIn_list _ (λrest r s'=>r.1=none/\s'=s/\∃left,Rfs kd s.heap left rest) _ ?_ ?_ _ _ ⟨rfl,rfl,kss,hi⟩
 .rintro v rest r s' ⟨hr,rfl,left,hl⟩;cases hl with
  |cons h1 hl' =>
   refine wpAny_bind (a3o (m:=6) h1 ?_);simp only[Bool.not_true,Bool.false_eq_true,if_false];exact wpAny_pure ⟨rfl,rfl,_,hl'⟩
 .rintro⟨r1,r2⟩ s' ⟨hr,rfl,_⟩;simp only at hr;subst hr;exact wpAny_pure h
end
def W4{prog:Program}{w:World}{κ:Type}[DecidableEq κ](kd:KeyKind prog w κ):HeapKind prog w (List (List κ)) where
 is:=IsTT kd
 hash:=a2a kd
 draws:=a0F
 room:=λA=>A.units+8<cLine
 inj:=λhx hy=>hx.inj hy
 keeps:=λx ho hd hs=>x.keeps ho hd hs
 pyHash:=λhu hk h=>a6l hu hk h
 eqBool:=λhu hx hy h=>b0r hu hx hy h
 quiet:=λhk h=>a4s hk h
def h2(kss:LLI):Int:=reduceHash (Builtin.Tuple.tupleHashOf (kss.map λks=>reduceHash (Builtin.Tuple.tupleHashOf (ks.map hashInt))))
def LdO(d:Addr)(xs:List (LLI×Addr×Value)):HO:=.ext λh=>(d==sysModules)=false/\xs.length<=sizeLine /\
 ∃ob es ep,h.get? d=some ob/\ob.ExactDict/\ob.data=.dict es ep/\es.toList=xs.map (λx=>⟨h2 x.1,.ref x.2.1,x.2.2⟩)/\(xs.map (·.1)).Nodup
def Tq(H:Hp)(a:Addr)(kss:LLI):Prop:=∃vs,H a=some (.tup vs)/\Its H vs kss
abbrev K2(H:Hp):List (LLI×V)->List (LLI×Addr×Value)->Prop:=Paired λp q=>p.1=q.1/\Tq H q.2.1 p.1/\RelV p.2 q.2.2
def LD(H:Hp)(d:Addr)(kvs:List (LLI×V)):Prop:=∃xs,H d=some (LdO d xs)/\K2 H kvs xs
theorem Tq.same{H H':Hp}{a:Addr}{kss:LLI}(h:Tq H a kss)(s:Same H H'):Tq H' a kss:=by
 obtain⟨vs,e,r⟩:=h;exact⟨vs,s _ _ e,r.1,λi v q=>let ⟨x,h1,y,h2,h3⟩:=r.2 i v q;⟨x,h1,y,h2,s _ _ h3⟩⟩
theorem Tq.off{H H':Hp}{a:Addr}{kss:LLI}(h:Tq H a kss)(s:∀b ys,H b=some (.tup ys)->H' b=some (.tup ys)):Tq H' a kss:=by
 obtain⟨vs,e,r⟩:=h;exact⟨vs,s _ _ e,r.1,λi v q=>let ⟨x,h1,y,h2,h3⟩:=r.2 i v q;⟨x,h1,y,h2,s _ _ h3⟩⟩
theorem LD.off{H H':Hp}{d:Addr}{kvs:List (LLI×V)}(h:LD H d kvs)(s:∀b ys,H b=some (.tup ys)->H' b=some (.tup ys))(e:H' d=H d):LD H' d kvs:=by
 obtain⟨xs,e1,r⟩:=h;exact⟨xs,e.trans e1,Paired.mapP r λ_ _ z=>⟨z.1,z.2.1.off s,z.2.2⟩⟩
theorem LD.same{H H':Hp}{d:Addr}{kvs:List (LLI×V)}(h:LD H d kvs)(s:Same H H'):LD H' d kvs:=by
 obtain⟨xs,e1,r⟩:=h;exact⟨xs,s _ _ e1,Paired.mapP r λ_ _ z=>⟨z.1,z.2.1.same s,z.2.2⟩⟩
theorem K2.val{H:Hp}{kvs:List (LLI×V)}{xs:List (LLI×Addr×Value)}(r:K2 H kvs xs)(k:LLI):RelO (W3 kvs k) ((atKey xs k).map (·.2)):=by
 induction r with
 |nil=>exact True.intro
 |@cons p q ps qs h t ih =>
  obtain⟨h1,_,h2⟩:=h;by_cases e:p.1=k
  .have b:atKey (q::qs) k=some q.2:=by simp[atKey,List.find?_cons,h1.symm.trans e]
   rw[a1n e,b];exact h2
  .have e':¬q.1=k:=λz=>e (h1.trans z);have b:atKey (q::qs) k=atKey qs k:=by simp[atKey,List.find?_cons,e']
   rw[a1o e,b];exact ih
theorem K2.put{H:Hp}{kvs:List (LLI×V)}{xs:List (LLI×Addr×Value)}(r:K2 H kvs xs)(k:LLI){b:Addr}{y:V}{u:Value}(hb:Tq H b k)(ry:RelV y u) :
  K2 H (a1x kvs k y) (storedH xs k b u):=by
 have e:(kvs.any λkv=>decide (kv.1=k))=(atKey xs k).isSome:=by
  rw[a1p,(K2.val r k).isSome_eq,Option.isSome_map]
 unfold a1x storedH;rw[e];by_cases q:(atKey xs k).isSome=true
 .rw[if_pos q,if_pos q];clear e q;induction r with
  |nil=>exact .nil
  |@cons p q ps qs h t ih =>
   rw[List.map_cons,List.map_cons];refine .cons ?_ ih;obtain⟨h1,h2,h3⟩:=h;unfold putAt;by_cases e:p.1=k
   .rw[if_pos e,if_pos (h1.symm.trans e)];exact⟨h1,h2,ry⟩
   .rw[if_neg e,if_neg (λz=>e (h1.trans z))];exact⟨h1,h2,h3⟩
 .rw[if_neg q,if_neg q];exact Paired.snoc r ⟨rfl,hb,ry⟩
section
variable {P:Program}{w:World}{H:Hp}{h:Heap}{a:Addr}
theorem a1I:∀{ks:List Int}{us:List Value},Vals (ks.map V.int) us->ItemsAre (intKind P w) ks us
 |[],_,r=>by rw[List.map_nil]at r;cases r;exact .nil
 |k::ks,_,r=>by
  rw[List.map_cons]at r;cases r with
  |cons h t =>
   obtain⟨tk,e⟩:=(show ∃t,_=Value.int k t from h);subst e;exact .cons (by show Value.isInt k (.int k tk)=true;simp[Value.isInt]) (a1I t)
theorem a7w{ks:List Int}(ok:HOk P w H h)(e:H a=some (.tup (ks.map V.int))):IsTupleKey (intKind P w) h ks a:=by
 obtain⟨_,its,r,o,h1,h2,n,h3⟩:=(show ObjOk P w H h a (.tup (ks.map V.int))from ok a _ e);exact⟨o,its.toArray,n,h1,h2,h3,by simpa using a1I r⟩
theorem a4Q(ok:HOk P w H h):∀{kss:LLI}{vs:List V}{us:List Value},Its H vs kss->Vals vs us->Rfs (intKind P w) h kss us
 |[],vs,us,i,r=>by
  obtain rfl:=List.length_eq_zero_iff.mp i.1;cases r;exact .nil
 |ks::kss,[],us,i,r=>nomatch i.1
 |ks::kss,v::vs,us,i,r=>by
  cases r with
  |cons h t =>
   obtain⟨x,e1,y,e2,e3⟩:=i.2 0 v rfl;simp only[List.getElem?_cons_zero,Option.some.injEq]at e1;subst e1 e2;cases(show _=Value.ref y from h);exact .cons (a7w ok e3) (a4Q ok ⟨by have:=i.1;simp at this;exact this,λj u q=>i.2 (j+1) u (by simpa using q)⟩ t)
theorem a4t{kss:LLI}(ok:HOk P w H h)(e:Tq H a kss):IsTT (intKind P w) h kss a:=by
 obtain⟨vs,e,i⟩:=e;obtain⟨_,its,r,o,h1,h2,n,h3⟩:=(show ObjOk P w H h a (.tup vs)from ok a _ e);exact⟨o,its.toArray,n,h1,h2,h3,by simpa using a4Q ok i r⟩
theorem a5y{kvs:List (LLI×V)}(ok:HOk P w H h)(e:LD H a kvs):kvs.length<=sizeLine/\(a==sysModules)=false/\∃xs,H a=some (LdO a xs)/\K2 H kvs xs/\h.DictOfH (W4 (intKind P w)) a xs:=by
 obtain⟨xs,e,r⟩:=e;obtain⟨⟨hs,hz,ob,es,ep,e1,e2,e3,e4,e5⟩,_⟩:=(show ObjOk P w H h a (LdO a xs)from ok a _ e);refine⟨by rw[Paired.length r];exact hz,hs,xs,e,r,ob,es,ep,e1,e2,e3,e4,λx hx=>?_,e5⟩;have all:∀{l:List (LLI×V)}{m:List (LLI×Addr×Value)},K2 H l m->∀x∈m,IsTT (intKind P w) h x.1 x.2.1:=by
  intro l m q;induction q with
  |nil=>intro x hx;exact nomatch hx
  |@cons p q ps qs hq t ih =>
   intro x hx;rcases List.mem_cons.mp hx with e|hx
   .subst e;rw[<-hq.1];exact a4t ok hq.2.1
   .exact ih x hx
 exact all r x hx
theorem a5z{H':Hp}{h':Heap}{xs:List (LLI×Addr×Value)}(hz:xs.length<=sizeLine)(hs:(a==sysModules)=false)(dd:h'.DictOfH (W4 (intKind P w)) a xs):ObjOk P w H' h' a (LdO a xs):=by
 obtain⟨ob,es,ep,e1,e2,e3,e4,_,e5⟩:=dd;refine⟨⟨hs,hz,ob,es,ep,e1,e2,e3,e4,e5⟩,⟨ob,e1⟩,λh1 h2 ⟨g1,g2,ob',es',ep',f1,f⟩ k=>⟨g1,g2,ob',es',ep',k _ f1,f⟩⟩
end
def a8E:TE:=λ_ H Q=>∀p,H p=none->Q (.ref p) (upd H p (LdO p []))
def a7T(td ty tx:TE):TE:=λσ H Q=>td σ H λx H1=>∃a kvs,x=.ref a/\LD H1 a kvs/\ty σ H1 λy H2=>tx σ H2 λz H3=>∃b kss,y=.ref b/\LD H3 a kvs/\Tq H3 b kss/\Q ((W3 kvs kss).getD z) H3
def a7Y(td ty tv:TE):TS:=λD σ H=>tv σ H λv H1=>td σ H1 λx H2=>ty σ H2 λy H3=>∃a b kss kvs,x=.ref a/\y=.ref b/\LD H3 a kvs/\Tq H3 b kss/\kvs.length<sizeLine/\∀xs,LD (upd H3 a (LdO a xs)) a (a1x kvs kss v)->D.nx σ (upd H3 a (LdO a xs))
section
variable {X:Cx}{o i e f value:Expr}{pos pos' apos cpos:Pos}{td ty tv tx:TE}
theorem a6C(hu:X.A.units+60<cLine)(ho:PE X o td)(hi:PE X i ty)(hv:PE X value tv)(hs:swapsWith value (some (.Subscript o i pos')) pos.line X.env=pure false) :
  PS X (.Assign [.Subscript o i pos'] value pos) (a7Y td ty tv):=by
 intro pins s σ H D I h;refine wpAny_Assign_Subscript (thn (hv pins s σ H _ I h) λr s1 ⟨v,H1,I1,rv,q1⟩=>thn (ho pins s1 σ H1 _ I1 q1) λu s2 ⟨x,H2,I2,rx,q2⟩=>thn (hi pins s2 σ H2 _ I2 q2) λiv s3 ⟨y,H3,I3,ry,a,b,kss,kvs,ex,ey,hd,hk,hl,q3⟩=>?_) hs;subst ex ey;obtain rfl:u=Value.ref a:=rx;cases(show iv=Value.ref b from ry);obtain⟨z,hsys,xs,e,rel,dd⟩:=a5y I3.hok hd;have hz:xs.length<=sizeLine:=by rw[<-Paired.length rel];exact z
 refine wpAny_setItem_heap (hsz:=hz) (show(W4 (intKind X.prog X.w)).room X.A.in1 from by show X.A.in1.units+8<cLine;simp only[Around.in1_units];omega) (a4t I3.hok hk) dd λh' dd' hs=>?_;have rel':=K2.put rel kss hk rv;have hl':(storedH xs kss b r).length<=sizeLine:=by
  rw[<-Paired.length rel'];have:=U0 kvs kss v;omega
 obtain⟨q,_,_,hq,_⟩:=id dd';have keep:∀c ys,H3 c=some (.tup ys)->upd H3 a (LdO a (storedH xs kss b r)) c=some (.tup ys):=λc ys ec=>by
  rw[A3 (R5 ec e (λz=>nomatch z))];exact ec
 refine⟨σ,_,a7G I3 (by rw[e];exact True.intro) hs ⟨q,hq⟩ (a5z hl' hsys dd'),q3 _ ⟨_,A0,Paired.mapP rel' λ_ _ z=>⟨z.1,z.2.1.off keep,z.2.2⟩⟩⟩
theorem a7j(hu:X.A.units+60<cLine)(ho:JE X o td)(hi:JE X i ty)(hv:JE X value tv)(hs:swapsWith value (some (.Subscript o i pos')) pos.line X.env=pure false:=by rfl):JS X (.Assign [.Subscript o i pos'] value pos) (a7Y td ty tv):=⟨a6C hu ho.h hi.h hv.h hs⟩
theorem a7s:JE X (.Dict [] [] pos) a8E:=⟨λpins s σ H Q I h =>
 wpAny_Dict_empty ⟨.ref s.heap.objs.size,_,I.laid (a:=s.heap.objs.size) (o:=LdO s.heap.objs.size []) (t':=s.toks) (λ_ _ q=>Heap.get?_push_of_some _ q) (Nat.le_refl _) (a5z (Nat.zero_le _) (beq_eq_false_iff_ne.mpr (Ne.symm (Nat.ne_of_lt I.big))) (Heap.DictOfH.new s.heap)),rfl,h _ (I.hok.fresh (Nat.le_refl _))⟩⟩
theorem a6R(hu:X.A.units+60<cLine)(ho:PE X o td)(he:PE X e ty)(hf:PE X f tx)(m:M2 X o "get" apos e f cpos):PE X (.Call (.Attribute o "get" apos) [e,f] [] cpos) (a7T td ty tx):=by
 intro pins s σ H Q I h;refine wpAny_Call_method m.base m.few m.line PySem.F.plainAttrs_dict PySem.F.slot_dict_get PySem.F.type_dict_get (thn (ho pins s σ H _ I h) λu s1 ⟨x,H1,I1,rx,a,kvs,ex,d,q1⟩=>?_);subst ex;obtain rfl:u=Value.ref a:=rx;obtain⟨_,_,xs1,_,_,dd1⟩:=a5y I1.hok d;refine⟨dd1.typeIs,λb q=>?_,?_⟩
 .cases q;obtain⟨ob,_,_,h1,h2,_⟩:=dd1;exact⟨ob,h1,h2.2.1⟩
 rw[m.trees];refine Calls.callWith_builtin rfl (Calls.evalArgs_plain (Calls.spliced_cons (thn (he pins s1 σ H1 _ I1 q1) λiv s2 ⟨y,H2,I2,ry,q2⟩ =>
  Calls.spliced_cons (thn (hf pins s2 σ H2 _ I2 q2) λfv s3 ⟨z,H3,I3,rz,b,kss,ey,hd,hk,q3⟩=>Calls.spliced_nil ?_))))
 subst ey;cases(show iv=Value.ref b from ry);obtain⟨_,hsys,xs,_,rel,dd⟩:=a5y I3.hok hd;refine call_meetsIn PySem.F.slot_dict_get dd.typeIs PySem.F.entry_dict_get (PySem.F.args_dict_get_3 _ _ _) (meetsH_dict_get_default (W4 (intKind X.prog X.w)) a b hsys fv) ⟨(show(W4 (intKind X.prog X.w)).room X.A.in1 from by show X.A.in1.units+8<cLine;simp only[Around.in1_units];omega),kss,xs,a4t I3.hok hk,dd,?_⟩;exact⟨_,H3,I3.tok _,(K2.val rel kss).getD rz,q3⟩
theorem a9S(hu:X.A.units+60<cLine)(ho:JE X o td)(he:JE X e ty)(hf:JE X f tx)(base:attributeBase o "get" X.env (eval o X.env)=eval o X.env:=by rfl)
  (few:((backTo cpos (starEach [e,f] X.env)).all (λx=>!x.1) && (backToKw cpos (keywordEach [] X.env)).all (λx=>x.1.isSome) && decide (([e,f]:List Expr).length+([]:List Keyword).length+(if ([]:List Keyword).isEmpty then 0 else 1)<30))=true:=by rfl)
  (line:(apos.endLine==cpos.line)=true:=by rfl) (trees:backTo cpos (starEach [e,f] X.env)=[(false,eval e X.env),(false,eval f X.env)]:=by rfl) :
  JE X (.Call (.Attribute o "get" apos) [e,f] [] cpos) (a7T td ty tx):=⟨a6R hu ho.h he.h hf.h ⟨base,few,line,trees⟩⟩
end
end L2
namespace L2
open PySem PySem.Spec PyProof.Rows PySem.W
section
variable {prog:Program}{w:World}{A:Around}{E:Value->Shared->Prop}{s:Shared}
end
section
variable {X:Cx}
end
end L2
namespace L2
open PySem PySem.Spec PyProof.Rows
section
variable {prog:Program}{w:World}{A:Around}{E:Value->Shared->Prop}{s:Shared}
structure EnS(h:Heap)(e it:Addr)(i:Int):Prop where
 ex:∃f0 f1 old,h.get? e=some {cls:=.type "enumerate",dict:=none,data:=.fields #[f0,f1,.ref it,rawInt i,.none,old],slots:=#[]}/\(f0=.none∨∃(T:Addr) (o:Obj),f0=rawInt T/\h.get? T=some o/\T≠e/\T≠it)/\∃b,f1=.bool b
theorem a4o{a:Addr}{o:Obj}{Q:Option Obj->Shared->Prop}(ho:s.heap.get? a=some o)(h:Q (some o) s):wpAny (model prog w) A (loadIfAlive a) Q E s:=by
 intro Γ p hΓ;show Sem.wp _ _ (.loadIfAlive a .pure) _ _ _ _;simp only[Sem.wp_loadIfAlive,ho];exact h
theorem a7D{e it l:Addr}{i:Nat}{items:Array Value}{x:Value}{Q:Value->Shared->Prop}(he:EnS s.heap e it (i:Int))(hit:ItAt false s.heap it l i)(hl:SqAt false s.heap l items)(hx:items[i]?=some x)(ne:e≠it)
  (hQ:∀(h':Heap) (t:Tok) (tk:Nat),EnS h' e it ((i:Int)+1)->ItAt false h' it l (i+1)->h'.get? s.heap.objs.size=some {cls:=.type "tuple",data:=.seq #[.int i t,x]}->h'.objs.size=s.heap.objs.size+1 ->
   (∀b o,b≠e->b≠it->s.heap.get? b=some o->h'.get? b=some o)->Q (.ref s.heap.objs.size) {s with heap:=h',toks:=tk}) :
  wpAny (model prog w) A (Builtin.«enumerate.__next__» ⟨[.ref e],[]⟩) (λfin s'=>∃v,fin=.done (.ret v)/\Q v s') E s:=by
 obtain⟨f0,f1,old,he,hf0,b1,rfl⟩:=he;show wpAny _ _ (field (.ref e) 2>>=_) _ _ _;refine wpAny_bind (wpAny_field he rfl (x:=.ref it) rfl ?_);refine wpAny_bind (N3 hit hl hx λh1 it1 hs1=>?_);have he1:=hs1.extBut _ _ ne he;show wpAny _ _ (field (.ref e) 3>>=_) _ _ _;refine wpAny_bind (wpAny_field he1 rfl (x:=rawInt i) rfl ?_);show wpAny _ _ (field (.ref e) 4>>=_) _ _ _;refine wpAny_bind (wpAny_field he1 rfl (x:=.none) rfl ?_);show wpAny _ _ (if (Value.none==Value.none)=true then _ else _) _ _ _;rw[if_pos (by decide)];refine wpAny_bind (wpAny_mkInt ?_);refine wpAny_bind (wpAny_setField_rec (s:={s with heap:=h1,toks:=s.toks+1}) he1 (by simp) λh2 he2 hs2=>?_);replace he2:h2.get? e=some {cls:=.type "enumerate",dict:=none,data:=.fields #[f0,.bool b1,.ref it,rawInt ((i:Int)+1),.none,old],slots:=#[]}:=he2;refine wpAny_bind (wpAny_setField_rec (s:={s with heap:=h2,toks:=s.toks+1}) he2 (by simp) λh3 he3 hs3=>?_);replace he3:h3.get? e=some {cls:=.type "enumerate",dict:=none,data:=.fields #[f0,.bool b1,.ref it,rawInt ((i:Int)+1),.none,old],slots:=#[]}:=he3;refine wpAny_bind (wpAny_newTuple ?_);have hsz:h3.objs.size=s.heap.objs.size:=by rw[hs3.1,hs2.1,hs1.1]
 have hlt:e<h3.objs.size:=Heap.lt_size he3;have he4:(h3.push {cls:=.type "tuple",data:=.seq #[.int i s.toks,x]}).get? e=_:=Heap.get?_push_of_some _ he3;have up0:∀b o,b≠e->b≠it->s.heap.get? b=some o->h3.get? b=some o:=λb o b1 b2 q=>hs3.extBut _ _ b1 (hs2.extBut _ _ b1 (hs1.extBut _ _ b2 q));have itk:∀{h':Heap},(∀c o,c≠e->h3.get? c=some o->h'.get? c=some o)->ItAt false h' it l (i+1):=λup=>(((it1.extBut hs2.extBut ne.symm).extBut hs3.extBut ne.symm)).at λo q=>up it o ne.symm q;refine wpAny_bind ?_;unfold Builtin.SmallTypes.ownedTupleIsFree;rcases hf0 with rfl|⟨T,oT,rfl,hT0,hTe,hTi⟩
 .refine wpAny_bind (wpAny_field he4 rfl (x:=.none) rfl (wpAny_pure ?_));show wpAny _ _ (if (Value.none==Value.none)=true then _ else _) _ _ _;rw[if_pos (by decide)];refine wpAny_bind (wpAny_rule ?_);refine wpAny_bind (wpAny_field he4 rfl (x:=old) rfl ?_);refine wpAny_bind (wpAny_setField_rec he4 (by simp) λh5 he5 hs5=>?_);replace he5:h5.get? e=some {cls:=.type "enumerate",dict:=none,data:=.fields #[.none,.bool b1,.ref it,rawInt ((i:Int)+1),.none,x],slots:=#[]}:=he5;refine wpAny_bind ?_;unfold Builtin.SmallTypes.ownedTupleHandOut;refine wpAny_bind (wpAny_setField_rec he5 (by simp) λh6 he6 hs6=>?_);replace he6:h6.get? e=some {cls:=.type "enumerate",dict:=none,data:=.fields #[rawInt h3.objs.size,.bool b1,.ref it,rawInt ((i:Int)+1),.none,x],slots:=#[]}:=he6;refine wpAny_setField_rec he6 (by simp) λh7 he7 hs7=>?_;replace he7:h7.get? e=some {cls:=.type "enumerate",dict:=none,data:=.fields #[rawInt h3.objs.size,.bool false,.ref it,rawInt ((i:Int)+1),.none,x],slots:=#[]}:=he7;refine wpAny_bind (wpAny_letGo ?_);have up:∀c o,c≠e->h3.get? c=some o->h7.get? c=some o:=λc o c1 q=>hs7.extBut _ _ c1 (hs6.extBut _ _ c1 (hs5.extBut _ _ c1 (Heap.get?_push_of_some _ q)));have hT:h7.get? h3.objs.size=some {cls:=.type "tuple",data:=.seq #[.int i s.toks,x]}:=hs7.extBut _ _ (Nat.ne_of_gt hlt) (hs6.extBut _ _ (Nat.ne_of_gt hlt) (hs5.extBut _ _ (Nat.ne_of_gt hlt) (Heap.get?_push_size _ rfl)));have hz:h7.objs.size=h3.objs.size+1:=by rw[hs7.1,hs6.1,hs5.1,Heap.size_push]
  refine wpAny_pure ⟨_,rfl,?_⟩;show Q (.ref h3.objs.size) _;have hit3:it≠h3.objs.size:=by
   obtain⟨o,q,_⟩:=hit.get;exact λz=>absurd (Heap.lt_size q) (by rw[z,hsz];exact Nat.lt_irrefl _)
  rw[hsz]at hT hz he7 hit3⊢;exact hQ h7 s.toks (s.toks+1) ⟨_,_,_,he7,.inr ⟨_,_,rfl,hT,by rw[<-hsz];exact Nat.ne_of_gt hlt,hit3.symm⟩,_,rfl⟩ (itk up) hT hz λb o b1 b2 q=>up b o b1 (up0 b o b1 b2 q)
 .refine wpAny_bind (wpAny_field he4 rfl (x:=rawInt T) rfl ?_);have hT3:=up0 T oT hTe hTi hT0;have hT4:(h3.push {cls:=.type "tuple",data:=.seq #[.int i s.toks,x]}).get? T=some oT:=Heap.get?_push_of_some _ hT3;refine wpAny_bind (a4o (a:=((T:Nat):Int).toNat) (o:=oT) (by rw[Int.toNat_natCast];exact hT4) ?_);show wpAny _ _ (if (some oT).isNone=true then _ else _) _ _ _;rw[if_neg (by simp)];refine wpAny_bind (wpAny_field he4 rfl (x:=.bool b1) rfl ?_);have fin:∀h5,(∃b,h5.get? e=some {cls:=.type "enumerate",dict:=none,data:=.fields #[rawInt T,.bool b,.ref it,rawInt ((i:Int)+1),.none,old],slots:=#[]})->(∀c o,c≠e->(h3.push {cls:=.type "tuple",data:=.seq #[.int i s.toks,x]}).get? c=some o->h5.get? c=some o)->h5.objs.size=h3.objs.size+1->Q (.ref h3.objs.size) {s with heap:=h5,toks:=s.toks+1}:=λh5 he5 k5 z5=>by
   have up:∀c o,c≠e->h3.get? c=some o->h5.get? c=some o:=λc o c1 q=>k5 c o c1 (Heap.get?_push_of_some _ q);have hTT:=k5 h3.objs.size _ (Nat.ne_of_gt hlt) (Heap.get?_push_size _ rfl);obtain⟨b,he5⟩:=he5;rw[hsz]at z5 hTT⊢;exact hQ h5 s.toks (s.toks+1) ⟨_,_,_,he5,.inr ⟨T,oT,rfl,up T oT hTe hT3,hTe,hTi⟩,_,rfl⟩ (itk up) hTT z5 λb o b1 b2 q=>up b o b1 (up0 b o b1 b2 q)
  cases b1 with
  |true =>
   show wpAny _ _ (if (Value.bool true != Value.bool true)=true then _ else _) _ _ _;rw[if_neg (by decide)];refine wpAny_pure ?_;refine wpAny_pure ⟨_,rfl,fin _ ⟨_,he4⟩ (λc o _ q=>q) (Heap.size_push ..)⟩
  |false =>
   show wpAny _ _ (if (Value.bool false != Value.bool true)=true then _ else _) _ _ _;rw[if_pos (by decide)];refine wpAny_bind (wpAny_setField_rec he4 (by simp) λh5 he5 hs5=>?_);refine wpAny_pure ?_;refine wpAny_pure ⟨_,rfl,fin _ ⟨true,he5⟩ (λc o c1 q=>hs5.extBut _ _ c1 q) (by rw[hs5.1,Heap.size_push])⟩
end
section
variable {prog:Program}{w:World}{A:Around}{E:Value->Shared->Prop}
def PrA(h:Heap)(fp:List Addr)(n0:Nat)(items acc:Array Value)(i:Nat):Prop:=acc.size=i/\∀(j:Nat) (v:Value),acc[j]?=some v->∃(b:Addr) (t:Tok) (x:Value),v=.ref b/\items[j]?=some x/\h.get? b=some {cls:=.type "tuple",data:=.seq #[.int j t,x]}/\b∉fp/\n0<=b
theorem PrA.keep{h h':Heap}{fp:List Addr}{n0:Nat}{items acc:Array Value}{i:Nat}(p:PrA h fp n0 items acc i)(k:∀b o,b∉fp->h.get? b=some o->h'.get? b=some o):PrA h' fp n0 items acc i:=⟨p.1,λj v e=>let ⟨b,t,x,e1,e2,e3,e4,e5⟩:=p.2 j v e;⟨b,t,x,e1,e2,k _ _ e4 e3,e4,e5⟩⟩
theorem a7C{R:Result->Shared->Prop}{S e it l:Addr}{items:Array Value}{res:Value}{h₀:Heap}{n0:Nat}{s:Shared}(hh:A.handled=none)(ne:e≠it)(hSe:S≠e)(hSi:S≠it)(hle:l≠e)(hli:l≠it)(hlS:l≠S)(hz:items.size<=2000000)
  (hR:∀h' tk acc' c',(∀b o,b∉[S,e,it]->h₀.get? b=some o->h'.get? b=some o)->h'.get? S=some {cls:=.type "list",dict:=none,data:=.seq acc' c',slots:=#[]}->PrA h' [S,e,it] n0 items acc' items.size->R (.ok (.ret res)) {s with heap:=h',toks:=tk}) :
  ∀(k i:Nat) (h:Heap) (tk:Nat) (acc:Array Value) (c:Nat),items.size-i=k->i<=items.size->EnS h e it (i:Int)->ItAt false h it l i->SqAt false h l items->h.get? S=some {cls:=.type "list",dict:=none,data:=.seq acc c,slots:=#[]}->PrA h [S,e,it] n0 items acc i->n0<=h.objs.size->(∀b o,b∉[S,e,it]->h₀.get? b=some o->h.get? b=some o) ->
   codeAny (model prog w) A (.builtin "list.extend.loop" ⟨[.ref S,.ref e,res],[]⟩) R {s with heap:=h,toks:=tk}:=by
 have hzl:(2000000:Nat)+1<=sizeLine:=by rw[sizeLine_eq];decide
 intro k;induction k with
 |zero =>
  intro i h tk acc c hk hi hen hit hl hS hacc hn0 kp;have hin:i=items.size:=by omega
  subst hin;refine codeAny_builtin F.entry_extend_loop ?_;rw[Around.under_plainId F.plain_extend_loop _];show wpAny _ A.in1 (pyNext (.ref e)>>=_) _ _ _;refine wpAny_bind ?_;obtain⟨f0,f1,old,he,_⟩:=hen;have hT:Shared.TypeIs {s with heap:=h,toks:=tk} (.ref e) "enumerate":=⟨_,he,rfl⟩;unfold pyNext;refine wpAny_bind (wpAny_attempt (wpAny_callSpecial?_slot (name:=Str.ofString "__next__") hT F.slot_enumerate_next
   (wpAny_call_entry F.slot_enumerate_next hT F.entry_enumerate_next ?_ (F.args_enumerate_next_1 _))))
  show wpAny _ _ (field (.ref e) 2>>=_) _ _ _;refine wpAny_bind (wpAny_field he rfl (x:=.ref it) rfl ?_);refine wpAny_bind (V1 (s:={s with heap:=h,toks:=tk}) hh hit hl (by simp) λh1 x hs1 hx1=>?_);obtain⟨o,ho,hc⟩:=hx1;refine wpAny_bind (wpAny_isInstance (T:="StopIteration") (b:=true) ⟨o,ho,hc⟩ isSubtype_stop ?_);have k1:∀b o,b∉[S,e,it]->h.get? b=some o->h1.get? b=some o:=λb o hb q=>hs1 b o (λz=>hb (by rw[z];simp)) q;refine wpAny_pure ?_;refine wpAny_pure (hR h1 tk acc c (λb o hb q=>k1 b o hb (kp b o hb q)) (hs1 S _ hSi hS) (hacc.keep k1))
 |succ k ih =>
  intro i h tk acc c hk hi hen hit hl hS hacc hn0 kp;have hlt:i<items.size:=by omega
  refine codeAny_builtin F.entry_extend_loop ?_;rw[Around.under_plainId F.plain_extend_loop _];show wpAny _ A.in1 (pyNext (.ref e)>>=_) _ _ _;refine wpAny_bind ?_;have hen':=hen;obtain⟨f0,f1,old,he,_⟩:=hen;have hT:Shared.TypeIs {s with heap:=h,toks:=tk} (.ref e) "enumerate":=⟨_,he,rfl⟩;unfold pyNext;refine wpAny_bind (wpAny_attempt (wpAny_callSpecial?_slot (name:=Str.ofString "__next__") hT F.slot_enumerate_next
   (wpAny_call_entry F.slot_enumerate_next hT F.entry_enumerate_next
    (a7D (s:={s with heap:=h,toks:=tk}) hen' hit hl (x:=items[i]) (by simp[hlt]) ne λh1 t1 tk1 e1 i1 hT1 hz1 k1=>wpAny_pure ?_) (F.args_enumerate_next_1 _))))
  have nS:S≠h.objs.size:=λz=>absurd (Heap.lt_size hS) (by rw[z];exact Nat.lt_irrefl _);have nE:e≠h.objs.size:=λz=>absurd (Heap.lt_size he) (by rw[z];exact Nat.lt_irrefl _);have nI:it≠h.objs.size:=by
   obtain⟨o,q,_⟩:=hit.get;exact λz=>absurd (Heap.lt_size q) (by rw[z];exact Nat.lt_irrefl _)
  have hS1:=k1 S _ hSe hSi hS;show wpAny _ A.in1 (updateSeq S (·.push (.ref h.objs.size))>>=_) _ _ _;refine wpAny_bind ?_;have up:∀b o,b≠S->h1.get? b=some o->(h1.update S (Obj.mapSeq (·.push (Value.ref h.objs.size)))).get? b=some o:=λb o hb q=>(Heap.get?_update_other _ _ (Ne.symm hb)).trans q;refine wpAny_updateSeq (s:={s with heap:=h1,toks:=tk1}) hS1 rfl (wpAny_pure ⟨plainId_quiet F.plain_extend_loop _,ih (i+1) _ _ (acc.push (.ref h.objs.size)) _ (by omega) hlt ?_ ?_ ?_ (Heap.get?_update_self _ hS1 rfl) ?_ ?_ λb o hb q=>?_⟩) (by rw[hacc.1];omega) (by show(acc.push _).size<=sizeLine+1;rw[Array.size_push,hacc.1];omega)
  .obtain⟨g0,g1,og,q1,q2,q3⟩:=e1;refine⟨g0,g1,og,up e _ hSe.symm q1,?_,q3⟩;rcases q2 with z|⟨T,o,z1,z2,z3,z4⟩
   .exact .inl z
   .by_cases hTS:T=S
    .rw[hTS]at z2 z3 z4 z1;exact .inr ⟨S,_,z1,Heap.get?_update_self _ hS1 rfl,z3,z4⟩
    .exact .inr ⟨T,o,z1,up T o hTS z2,z3,z4⟩
  .exact i1.at λo q=>up it o hSi.symm q
  .exact(hl.at λo q=>k1 l o hle hli q).at λo q=>up l o hlS q
  .have base:PrA (h1.update S (Obj.mapSeq (·.push (Value.ref h.objs.size)))) [S,e,it] n0 items acc i:=hacc.keep λb o hb q=>by
    simp only[List.mem_cons,List.not_mem_nil,or_false,not_or]at hb;exact up b o hb.1 (k1 b o hb.2.1 hb.2.2 q)
   refine⟨by rw[Array.size_push,hacc.1],λj v ev=>?_⟩;by_cases hj:j<acc.size
   .rw[Array.getElem?_push_lt hj]at ev;exact base.2 j v (by rw[Array.getElem?_eq_getElem hj];exact ev)
   .have hj':j=acc.size:=by
     have:=(Array.getElem?_eq_some_iff.mp ev).1;rw[Array.size_push]at this;omega
    rw[hj',Array.getElem?_push_size]at ev;cases ev;refine⟨h.objs.size,t1,items[i],rfl,by rw[hj',hacc.1];simp[hlt],?_,by simp only[List.mem_cons,List.not_mem_nil,or_false,not_or];exact⟨nS.symm,nE.symm,nI.symm⟩,hn0⟩;rw[hj',hacc.1];exact up _ _ nS.symm hT1
  .rw[Heap.size_update];exact Nat.le_trans hn0 (by rw[hz1];exact Nat.le_succ _)
  .simp only[List.mem_cons,List.not_mem_nil,or_false,not_or]at hb;exact up b o hb.1 (k1 b o hb.2.1 hb.2.2 (kp b o (by simp only[List.mem_cons,List.not_mem_nil,or_false,not_or];exact hb) q))
theorem a5v:typeLookup (.type "enumerate") "__len__"=pure none:=by rw[typeLookup_type,builtinLookup_eq_fast];kernel_rfl
theorem a3B:typeLookup (.type "enumerate") "__length_hint__"=pure none:=by rw[typeLookup_type,builtinLookup_eq_fast];kernel_rfl
theorem a7x{s:Shared}{e:Addr}{Q:Bool->Shared->Prop}(hT:s.TypeIs (.ref e) "enumerate")(h:Q true s):wpAny (model prog w) A (Builtin.List.listLengthHint (.ref e)) Q E s:=by
 unfold Builtin.List.listLengthHint;refine wpAny_bind (wpAny_specialOf hT a5v ?_);show wpAny _ _ (specialOf (Value.ref e) (Str.ofString "__length_hint__")>>=_) _ _ _;exact wpAny_bind (wpAny_specialOf hT a3B (wpAny_pure h))
theorem a3I{s:Shared}{Q:Value->Shared->Prop}{e it l:Addr}{items:Array Value}{old:Value}(hh:A.handled=none)(he:IsEnum s.heap e it 0 old)(hit:ItAt false s.heap it l 0)(hl:SqAt false s.heap l items)(ne:e≠it)(hle:l≠e)(hli:l≠it)(hz:items.size<=2000000)
  (hQ:∀h' tk acc' c',(∀b o,b≠e->b≠it->s.heap.get? b=some o->h'.get? b=some o)->h'.get? s.heap.objs.size=some {cls:=.type "list",dict:=none,data:=.seq acc' c',slots:=#[]}->PrA h' [s.heap.objs.size,e,it] s.heap.objs.size items acc' items.size->Q (.ref s.heap.objs.size) {s with heap:=h',toks:=tk}) :
  wpAny (model prog w) A (call (.type "list") [.ref e]) Q E s:=by
 refine callType_codes (Q₁:=λobj s₁=>obj=.ref s.heap.objs.size/\s₁={s with heap:=s.heap.push {cls:=.type "list",data:=.seq #[]}}) F.called_list (F.typeCall_list_1 _) F.entry_list_init
  (code_list_new _ ⟨rfl,rfl⟩) λobj s₁ h₁=>?_
 obtain⟨rfl,rfl⟩:=h₁;have hS:(s.heap.push {cls:=.type "list",data:=.seq #[]}).get? s.heap.objs.size=some {cls:=.type "list",data:=.seq #[]}:=Heap.get?_push_size _ rfl;have lte:e<s.heap.objs.size:=Heap.lt_size he;have lti:it<s.heap.objs.size:=by obtain⟨o,q,_⟩:=hit.get;exact Heap.lt_size q
 have ltl:l<s.heap.objs.size:=by obtain⟨o,q,_⟩:=(show s.heap.IsList l items from hl);exact Heap.lt_size q
 have nSe:s.heap.objs.size≠e:=Nat.ne_of_gt lte;have nSi:s.heap.objs.size≠it:=Nat.ne_of_gt lti;have nlS:l≠s.heap.objs.size:=Nat.ne_of_lt ltl;refine⟨⟨_,hS,rfl⟩,F.args_list_init_2 _ _,?_⟩;show wpAny _ _ (do let old <-Builtin.List.listItems (.ref s.heap.objs.size);Builtin.List.listUpdate (.ref s.heap.objs.size) (λ_=>#[]);letGo old.toList.reverse;Builtin.List.listExtendWith (.ref s.heap.objs.size) (.ref e) .none) _ _ _;refine wpAny_bind ?_;unfold Builtin.List.listItems;refine wpAny_bind (wpAny_seqItems hS rfl (wpAny_pure ?_));show wpAny _ _ (updateSeq s.heap.objs.size (λ_=>#[])>>=λ_=>letGo (#[]:Array Value).toList.reverse>>=λ_=>Builtin.List.listExtendWith (.ref s.heap.objs.size) (.ref e) .none) _ _ _;refine wpAny_bind (wpAny_updateSeq hS rfl ?_);have hS2:=Heap.get?_update_self (Obj.mapSeq (λ_=>(#[]:Array Value))) hS rfl;have up2:∀b o,b≠s.heap.objs.size->s.heap.get? b=some o->((s.heap.push {cls:=.type "list",data:=.seq #[]}).update s.heap.objs.size (Obj.mapSeq (λ_=>(#[]:Array Value)))).get? b=some o:=λb o hb q=>(Heap.get?_update_other _ _ (Ne.symm hb)).trans (Heap.get?_push_of_some _ q);refine wpAny_bind (wpAny_letGo ?_);generalize hH2:(s.heap.push {cls:=.type "list",data:=.seq #[]}).update s.heap.objs.size (Obj.mapSeq (λ_=>(#[]:Array Value)))=H2 at hS2 up2;show wpAny _ _ _ _ _ {s with heap:=H2};have he2:IsEnum H2 e it 0 old:=up2 e _ nSe.symm he;unfold Builtin.List.listExtendWith;refine wpAny_bind (wpAny_typeOf (T:="enumerate") ⟨_,he2,rfl⟩ ?_);have h1:Builtin.List.listSameRef (.ref s.heap.objs.size) (.ref e)=false:=by simp[Builtin.List.listSameRef,nSe]
 have h2:(Value.type "enumerate"==Value.type "list")=false:=by decide
 have h3:(Value.type "enumerate"==Value.type "tuple")=false:=by decide
 simp only[h1,h2,h3,Bool.or_false,Bool.false_eq_true,if_false];refine wpAny_bind (wpAny_pyIter_enum (s:={s with heap:=H2}) he2 ?_);refine wpAny_bind (wpAny_holding (a7x (s:={s with heap:=H2}) ⟨_,he2,rfl⟩ ?_));refine wpAny_ite_split (λ_=>?_) (λhab=>absurd rfl hab);refine wpAny_bind (wpAny_rule ?_);refine wpAny_bind ?_;show wpAny _ _ (updateSeq s.heap.objs.size (·.push .none)>>=λ_=>updateSeq s.heap.objs.size (·.pop)) _ _ _;refine wpAny_bind (wpAny_updateSeq hS2 rfl ?_);have hS3:=Heap.get?_update_self (Obj.mapSeq (·.push Value.none)) hS2 rfl;refine wpAny_updateSeq (hz:=by seq_fits) hS3 rfl ?_;have hS4:=Heap.get?_update_self (Obj.mapSeq (·.pop)) hS3 rfl;have up4:∀b o,b≠s.heap.objs.size->s.heap.get? b=some o->((H2.update s.heap.objs.size (Obj.mapSeq (·.push Value.none))).update s.heap.objs.size (Obj.mapSeq (·.pop))).get? b=some o:=λb o hb q=>(Heap.get?_update_other _ _ (Ne.symm hb)).trans ((Heap.get?_update_other _ _ (Ne.symm hb)).trans (up2 b o hb q));refine wpAny_pure ⟨plainId_quiet F.plain_extend_loop _,a7C (A:=A.in1) (h₀:=s.heap) (n0:=s.heap.objs.size) (s:=s) (items:=items) (l:=l) (show A.in1.handled=none from hh) ne nSe nSi hle hli nlS hz (λh' tk acc' c' kp q1 q2=>?_) items.size 0 _ _ #[] _ rfl (Nat.zero_le _) ⟨_,_,_,up4 e _ nSe.symm he,.inl rfl,_,rfl⟩ (hit.at λo q=>up4 it o nSi.symm q) (hl.at λo q=>up4 l o nlS q) hS4 ⟨rfl,λj v z=>by simp at z⟩ ?_ λb o hb q=>?_⟩
 .refine⟨rfl,hQ h' tk acc' c' (λb o b1 b2 q=>?_) q1 q2⟩;refine kp b o ?_ q;simp only[List.mem_cons,List.not_mem_nil,or_false,not_or];exact⟨Nat.ne_of_lt (Heap.lt_size q),b1,b2⟩
 .rw[Heap.size_update,Heap.size_update,<-hH2,Heap.size_update,Heap.size_push];exact Nat.le_succ _
 .simp only[List.mem_cons,List.not_mem_nil,or_false,not_or]at hb;exact up4 b o hb.1 q
end
section
variable {X:Cx}{pins:List (Addr×Obj)}{σ:St}{H:Hp}{s:Shared}{h':Heap}
def M0(H:Hp)(N:Addr->Option HO):Hp:=λb=>match N b with|some o=>some o|none=>H b
theorem Q3{H:Hp}{N:Addr->Option HO}{b:Addr}{o:HO}(h:N b=some o):M0 H N b=some o:=by unfold M0;rw[h]
theorem Q2{H:Hp}{N:Addr->Option HO}{b:Addr}(h:N b=none):M0 H N b=H b:=by unfold M0;rw[h]
theorem Inv.laidAll{t':Nat}(I:Inv X pins σ H s)(k:∀b u,s.heap.get? b=some u->h'.get? b=some u)(N:Addr->Option HO)(hN:∀b o,N b=some o->s.heap.objs.size<=b)(new:∀b o,N b=some o->ObjOk X.prog X.w (M0 H N) h' b o):Inv X pins σ (M0 H N) {s with heap:=h',toks:=t'}:=by
 have old:∀b,b<s.heap.objs.size->M0 H N b=H b:=λb hb=>Q2 (by
  cases e:N b with
  |none=>rfl
  |some o=>exact absurd (hN b o e) (Nat.not_le.mpr hb))
 have ltH:∀b o,H b=some o->b<s.heap.objs.size:=λb o e=>(I.hok b o e).lt;refine I.un (H':=M0 H N) ⟨λb o q _ _ _=>k b o q,λb o q _ _ _=>⟨o.slots,k b o q⟩,λb o q n _=>by rw[old b (Heap.lt_size q)];exact n,λb o q _=>⟨o,k b o q⟩,λb xs q=>by rw[old b (ltH _ _ q)];exact q,λb o u q=>by rw[old b (ltH _ _ q)];exact q,λb ps q=>⟨#[],by rw[old b (ltH _ _ q),q];simp⟩⟩ λb u e=>?_;cases eN:N b with
 |some o=>rw[Q3 eN]at e;cases e;exact new b _ eN
 |none =>
  rw[Q2 eN]at e;exact(I.hok b u e).stay (λc v _ q=>k c v q) (λc q=>by rw[old c (ltH _ _ q)];exact q) λc xs q=>by rw[old c (ltH _ _ q)];exact q
theorem a1F(I:Inv X pins σ H s)(N:Addr->Option HO)(hN:∀b o,N b=some o->s.heap.objs.size<=b):Same H (M0 H N):=λb o e=>by
 rw[Q2 (by
  cases eN:N b with
  |none=>rfl
  |some o'=>exact absurd (hN b o' eN) (Nat.not_le.mpr (I.hok b o e).lt))]
 exact e
end
def a4B(K:PySem.W.Frag)(ta:TA):TE:=λσ H Q=>ta σ H λvs H1=>∃a xs,vs=[.ref a]/\SqL K H1 a xs/\xs.length<=2000000/\∀l ps H',Same H1 H'->H1 l=none->H' l=some (.lst ps)->ps.length=xs.length->(∀(i:Nat) (p:V),ps[i]?=some p->∃b x,p=.ref b/\xs[i]?=some x/\H' b=some (.tup [.int i,x]))->Q (.ref l) H'
section
variable {X:Cx}{a e:Expr}{ta:TA}{te:TE}{p p2 pos pos2:Pos}
theorem a5g(hc:X.calm=true)(hgl:Gl X "list")(hml:X.mg "list"=none)(hge:Gl X "enumerate")(hme:X.mg "enumerate"=none)(ha:PA X [a] ta)
  (hs:starEach [a] X.env=[(false,eval a X.env)]) (hs2:starEach [.Call (.Name "enumerate" p2) [a] [] pos2] X.env=[(false,eval (.Call (.Name "enumerate" p2) [a] [] pos2) X.env)]) :
  PE X (.Call (.Name "list" p) [.Call (.Name "enumerate" p2) [a] [] pos2] [] pos) (a4B X.K ta):=by
 intro pins s σ H Q I h;refine Call_ (E5 I hgl hml a7H (callWith_type1 ?_ (by rw[hs2];rfl) (by rfl)));rw[hs2];show wpAny _ _ (spliced ((false,eval (.Call (.Name "enumerate" p2) [a] [] pos2) X.env)::[])) _ _ s;refine Calls.spliced_cons ?_;refine Call_ (E5 I hge hme S3 (callWith_type1 (thn (ha pos2 pins s σ H _ I h) λus s1 ⟨vs,H1,I1,r1,q1⟩=>?_) (by rw[hs];rfl) (by rfl)));obtain⟨l,xs,rfl,hx,hxl,q⟩:=q1;obtain⟨u,rfl,ru⟩:=r1.one;cases ru;obtain⟨its,ri,pu,zu⟩:=I1.sqk (k:=false) hx;have hlen:=ri.length;refine a0s (k:=false) pu λh1 z1 z2 z3 z4=>?_;refine Calls.spliced_nil ?_;have ltl:l<s1.heap.objs.size:=by obtain⟨o,q,_⟩:=(show s1.heap.IsList l its.toArray from pu);exact Heap.lt_size q
 refine a3I (s:={s1 with heap:=h1}) (I1.ok.hd hc) z1 z2 (pu.at λo q=>z4 l o q) (nne (by omega)) (Nat.ne_of_lt (Nat.lt_succ_of_lt ltl)) (Nat.ne_of_lt ltl) (by rw[List.size_toArray];omega) λh2 tk acc c kp hS hP=>?_;dsimp only at kp hS hP;have k2:∀b o,s1.heap.get? b=some o->h2.get? b=some o:=λb o q=>kp b o (Nat.ne_of_lt (Nat.lt_succ_of_lt (Heap.lt_size q))) (Nat.ne_of_lt (Heap.lt_size q)) (z4 b o q);have hsz:acc.size=xs.length:=by rw[hP.1,List.size_toArray,hlen]
 have hSz:s1.heap.objs.size<=h1.objs.size:=by rw[z3];exact Nat.le_add_right _ _
 let N:Addr->Option HO:=λb=>if b=h1.objs.size then some (.lst (acc.toList.map λv=>match v with | .ref b=>V.ref b|_=>.non))else((List.range xs.length).find? λ(j:Nat)=>decide (acc[j]?=some (Value.ref b))).map λ(j:Nat)=>HO.tup [.int (j:Int),xs.getD j .non]
 have hat:∀(j:Nat) (v:Value),acc[j]?=some v->∃(b:Addr) (t:Tok) (x:Value) (y:V),v=.ref b/\xs[j]?=some y/\RelV y x/\h2.get? b=some {cls:=.type "tuple",data:=.seq #[.int j t,x]}/\b≠h1.objs.size/\h1.objs.size<=b:=λj v ev=>by
  obtain⟨b,t,x,e1,e2,e3,e4,e5⟩:=hP.2 j v ev;have hj:j<xs.length:=by rw[<-hsz];exact(Array.getElem?_eq_some_iff.mp ev).1
  obtain⟨x',hx',rx⟩:=ri.get (List.getElem?_eq_getElem hj);have e2:its[j]?=some x:=by simpa using e2
  rw[e2]at hx';cases hx';exact⟨b,t,x,_,e1,List.getElem?_eq_getElem hj,rx,e3,λz=>e4 (by rw[z];exact List.mem_cons_self),e5⟩
 have hfind:∀(j:Nat) (b:Addr),acc[j]?=some (.ref b)->∃y,xs[j]?=some y/\N b=some (.tup [.int j,y]):=λj b ev=>by
  obtain⟨b',t,x,y,e1,e2,e3,e4,e5,e6⟩:=hat j _ ev;cases e1;refine⟨y,e2,?_⟩;show(if b=h1.objs.size then _ else _)=_;rw[if_neg e5];cases ef:(List.range xs.length).find? λ(j:Nat)=>decide (acc[j]?=some (Value.ref b))with
  |none =>
   have:=List.find?_eq_none.mp ef j (List.mem_range.mpr (List.getElem?_eq_some_iff.mp e2).1);exact absurd (decide_eq_true ev) this
  |some j' =>
   have ej:acc[j']?=some (.ref b):=by simpa using List.find?_some ef
   obtain⟨b'',t',x',y',g1,g2,g3,g4,g5,g6⟩:=hat j' _ ej;cases g1;have e:=e4.symm.trans g4;injection e with e
   injection e with _ _ e _
   injection e with e _
   injection e with e
   injection e with e _
   injection e with e _
   have e:j=j':=by omega
   subst e;show some (HO.tup [.int j,xs.getD j .non])=_;rw[List.getD_eq_getElem?_getD,e2];rfl
 have hN:∀b o,N b=some o->s1.heap.objs.size<=b:=λb o e=>by
  have e:(if b=h1.objs.size then _ else _)=some o:=e;by_cases hb:b=h1.objs.size
  .rw[hb];exact hSz
  .rw[if_neg hb]at e;obtain⟨j,e1,e2⟩:=Option.map_eq_some_iff.mp e;have ej:acc[j]?=some (.ref b):=by simpa using List.find?_some e1
   obtain⟨b',t,x,y,g1,g2,g3,g4,g5,g6⟩:=hat j _ ej;cases g1;exact Nat.le_trans hSz g6
 have hz2:(2000000:Nat)<=sizeLine:=by rw[sizeLine_eq];decide
 have hvals:Vals (acc.toList.map λv=>match v with | .ref b=>V.ref b|_=>.non) acc.toList:=by
  refine P9 (by rw[List.length_map]) λj y v hy hv=>?_;rw[List.getElem?_map,hv]at hy;rw[Array.getElem?_toList]at hv;obtain⟨b,t,x,y',g1,_⟩:=hat j v hv;subst g1;cases hy;exact rfl
 have I2:=I1.laidAll (h':=h2) (t':=tk) k2 N hN λb o e=>by
  have e':(if b=h1.objs.size then _ else _)=some o:=e;by_cases hb:b=h1.objs.size
  .rw[if_pos hb]at e';cases e';subst hb;exact⟨by rw[List.length_map,Array.length_toList,hsz];omega,acc.toList,c,hvals,by rw[Array.toArray_toList];exact hS⟩
  .rw[if_neg hb]at e';obtain⟨j,e1,e2⟩:=Option.map_eq_some_iff.mp e';have ej:acc[j]?=some (.ref b):=by simpa using List.find?_some e1
   obtain⟨b',t,x,y,g1,g2,g3,g4,g5,g6⟩:=hat j _ ej;cases g1;subst e2;rw[List.getD_eq_getElem?_getD,g2];exact⟨by show 2<=sizeLine;omega,[.int j t,x],.cons ⟨t,rfl⟩ (.cons g3 .nil),⟨_,g4,rfl,0,rfl⟩⟩
 refine⟨.ref h1.objs.size,_,I2,rfl,q h1.objs.size _ _ (a1F I1 N hN) (I1.hok.fresh hSz) (Q3 (if_pos rfl)) (by rw[List.length_map,Array.length_toList,hsz]) λj v ev=>?_⟩;rw[List.getElem?_map]at ev;obtain⟨v',h3,h4⟩:=Option.map_eq_some_iff.mp ev;rw[Array.getElem?_toList]at h3;obtain⟨b,t,x,y,g1,g2,_⟩:=hat j v' h3;subst g1;obtain⟨y',e1,e2⟩:=hfind j b h3;exact⟨b,y',h4.symm,e1,Q3 e2⟩
theorem a5G(K:PySem.W.Frag)(hgl:Gl X "list")(hml:X.mg "list"=none)(hge:Gl X "enumerate")(hme:X.mg "enumerate"=none)(ha:JA X [a] ta)(hc:X.calm=true:=by rfl)(hK:X.K=K:=by rfl)
  (hs:starEach [a] X.env=[(false,eval a X.env)]:=by rfl) (hs2:starEach [.Call (.Name "enumerate" p2) [a] [] pos2] X.env=[(false,eval (.Call (.Name "enumerate" p2) [a] [] pos2) X.env)]:=by rfl) :
  JE X (.Call (.Name "list" p) [.Call (.Name "enumerate" p2) [a] [] pos2] [] pos) (a4B K ta):=by subst hK;exact⟨a5g hc hgl hml hge hme ha.h hs hs2⟩
end
def Itv(K:PySem.W.Frag)(a:Addr)(n:Nat):It :=
 ⟨λi H=>∃xs x,SqL K H a xs/\i<n/\xs[n-1-i]?=some x,λi H x H'=>H'=H/\∀xs,SqL K H a xs->xs[n-1-i]?=some x,λi _=>n=i⟩
theorem a4r{P:Program}{w:World}{K:PySem.W.Frag}{tg:Expr}(a it:Addr)(n:Nat):Turn P w K tg (Itv K a n) [it] it (λi h=>h.IsRevIter it a ((n:Int)-1-i)) where
 mem:=by simp
 obj:=λi h st b hb=>by
  have e:b=it:=by simpa using hb
  subst e;obtain⟨o,e,c,d⟩:=st;exact⟨o,e,λv z=>by rw[d]at z;cases z⟩
 keep:=λi h h' st k=>st.at λo e=>k it (by simp) o e
 item:=by
  intro X hP hw hK hc i pins s σ H E I hf st hg;subst hP hw hK;obtain⟨xs,x,hq,hin,hx⟩:=hg;obtain⟨its,rv,p,hz⟩:=I.list hq;obtain⟨u,hu,ru⟩:=rv.get hx;obtain⟨f0,f1,f2,f3,f4,f5⟩:=hf it (by simp);have e1:(n:Int)-1-i=((n-1-i:Nat):Int):=by omega
  rw[e1]at st;refine wpAny_pyNext_rev_item st p.isList (x:=u) (by simpa using hu) λh' st' sb=>?_;have I1:Inv X pins σ H {s with heap:=h'}:=I.turned (t':=s.toks) (λb o hb e=>(sb.2 b hb).trans e) f0 f1 f3 f4 f5;rw[show((n-1-i:Nat):Int)-1=(n:Int)-1-((i+1:Nat):Int) by omega]at st';obtain⟨o,e,c,d⟩:=id st';exact⟨u,rfl,a2Y (s:={s with heap:=h'}) e c d (by decide) ⟨x,H,I1,ru,⟨rfl,λys hy=>by rw[I.list_inj hy hq];exact hx⟩,st',λb hb=>(hf b hb).1⟩⟩
 done:=by
  intro X hP hw hK hc i pins s σ H E I hf st hg;subst hP hw hK;have hg:n=i:=hg;obtain⟨f0,f1,f2,f3,f4,f5⟩:=hf it (by simp);rw[show(n:Int)-1-i = -1 by omega]at st;exact wpAny_pyNext_rev_end (I.ok.hd hc) st λh' eb=>⟨rfl,I.turned (t':=s.toks) (λb o hb e=>eb b o hb e) f0 f1 f3 f4 f5⟩
 self:=λ_ _ _ _ _ st h=>wpAny_pyIter_revIter st h
def b0Z(K:PySem.W.Frag)(te:TE):TI:=λσ H R=>te σ H λv H1=>∃l ps,v=.ref l/\SqL K H1 l ps/\R (Itv K l ps.length) H1
theorem a1S:bootBuiltins "reversed"=some (.type "reversed"):=by kernel_rfl
section
variable {X:Cx}{e tg:Expr}{te:TE}{p pos:Pos}
theorem a9a(hg:Gl X "reversed")(hm:X.mg "reversed"=none)(he:PE X e te)(hs:starEach [e] X.env=[(false,eval e X.env)]):PI X tg (.Call (.Name "reversed" p) [e] [] pos) (b0Z X.K te):=by
 intro pins s σ H R I h;refine Call_ (E5 I hg hm a1S (callWith_type1 ?_ (by rw[hs];rfl) (by rfl)));rw[hs];show wpAny _ _ (spliced ((false,eval e X.env)::[])) _ _ s;refine Calls.spliced_cons (thn (he pins s σ H _ I h) λu s1 ⟨x,H1,I1,r1,l,ps,e1,hq,q⟩=>Calls.spliced_nil ?_);subst e1;cases(show u=Value.ref l from r1);obtain⟨its,ri,sq,hz⟩:=I1.list hq;have hlen:=ri.length;refine call_reversed_list sq.isList ?_;have hit:(s1.heap.push (revObj l ((its.toArray.size:Int)-1))).IsRevIter s1.heap.objs.size l ((ps.length:Int)-1-((0:Nat):Int)):=⟨_,Heap.get?_push_size _ rfl,rfl,by show Data.fields #[.ref l,rawInt ((its.toArray.size:Int)-1)]=_;rw[List.size_toArray,<-hlen];simp⟩;refine wpAny_pyIter_revIter hit ?_;refine⟨s1.heap.objs.size,[s1.heap.objs.size],_,_,H1,rfl,I1.kept (t':=s1.toks) λb o q=>Heap.get?_push_of_some _ q,a4r l s1.heap.objs.size ps.length,hit,λc hc=>?_,q⟩;rw[List.mem_singleton.mp hc];exact I1.fpOk (Nat.le_refl _) (I1.hok.fresh (Nat.le_refl _))
theorem a9L(K:PySem.W.Frag)(hg:Gl X "reversed")(hm:X.mg "reversed"=none)(he:JE X e te)(hK:X.K=K:=by rfl)(hs:starEach [e] X.env=[(false,eval e X.env)]:=by rfl):JI X tg (.Call (.Name "reversed" p) [e] [] pos) (b0Z K te):=by subst hK;exact⟨a9a hg hm he.h hs⟩
end
theorem a7B{K:PySem.W.Frag}{a:Addr}{ps:List V}{g:TG}{tb:TS}{D:Ends}{σ:St}{H:Hp}(Pv:Nat->St->Hp->Prop)(h0:Pv 0 σ H)(hl:∀i σ H,i<=ps.length->Pv i σ H->SqL K H a ps)
  (hs:∀i x σ H,i<ps.length->ps[ps.length-1-i]?=some x->Pv i σ H->g x σ H λσ2 H2=>tb {D with nx:=Pv (i+1),ct:=Pv (i+1),bk:=D.nx} σ2 H2) (hd:∀σ H,Pv ps.length σ H->D.nx σ H) :
  ∃W:Nat->Nat->St->Hp->Prop,(∃m,W 0 m σ H)/\∀i m σ H,W i m σ H ->
   ((Itv K a ps.length).stop i H/\D.nx σ H)∨((Itv K a ps.length).go i H/\∃N:St->Hp->Prop,(∀σ' H',N σ' H'->∃m',m'<m/\W (i+1) m' σ' H')/\∀x H',(Itv K a ps.length).yld i H x H'->g x σ H' λσ2 H2=>tb {D with nx:=N,ct:=N,bk:=D.nx} σ2 H2):=by
 refine⟨λi m σ H=>m=ps.length-i/\i<=ps.length/\Pv i σ H,⟨_,rfl,Nat.zero_le _,h0⟩,?_⟩;rintro i m σ H ⟨rfl,hi,p⟩;have q:=hl i σ H hi p;by_cases hlt:i<ps.length
 .refine .inr ⟨⟨ps,ps[ps.length-1-i]'(by omega),q,hlt,List.getElem?_eq_getElem (by omega)⟩,Pv (i+1),λσ' H' p'=>⟨_,by omega,rfl,hlt,p'⟩,λx H' y=>?_⟩;obtain⟨e,y⟩:=y;subst e;exact hs i x σ _ hlt (y ps q) p
 .have e:i=ps.length:=by omega
  subst e;exact .inl ⟨rfl,hd σ H p⟩
end L2
namespace K25
open PySem PySem.Spec PyProof.Rows L2
noncomputable def top(i:Nat):Stmt:=PySem.Challenge.pw_leastlays_k25_fewest.main.body.getD i (.Pass ⟨0,0,0,0⟩)
noncomputable abbrev a2O:Stmt:=top 0
noncomputable abbrev V4:Stmt:=top 9
noncomputable abbrev V3:Stmt:=top 10
noncomputable abbrev a0M:Stmt:=top 11
noncomputable abbrev V2:Stmt:=top 13
noncomputable abbrev O1:Stmt:=top 14
noncomputable abbrev L6:Stmt:=top 15
noncomputable abbrev J5:Stmt:=top 18
noncomputable abbrev R3:Stmt:=top 19
noncomputable abbrev J7:Stmt:=top 21
noncomputable abbrev L7:Stmt:=top 22
noncomputable abbrev J6:Stmt:=top 23
noncomputable abbrev E6:Stmt:=top 24
noncomputable abbrev D3:Stmt:=top 25
noncomputable abbrev G7:Stmt:=top 26
noncomputable abbrev E7:Stmt:=top 27
noncomputable abbrev L8:Stmt:=top 28
noncomputable abbrev C3:Stmt:=top 29
noncomputable abbrev E8:Stmt:=top 30
noncomputable abbrev G8:Stmt:=top 31
noncomputable abbrev X0:Stmt:=top 32
noncomputable abbrev C4:Stmt:=M4 (top 16) 0
noncomputable abbrev C9:Stmt:=M4 (top 16) 1
noncomputable abbrev D0:Stmt:=M4 (top 16) 2
noncomputable abbrev C2:Stmt:=M4 (top 16) 3
noncomputable abbrev C8:Stmt:=M4 (top 16) 4
noncomputable abbrev C7:Stmt:=M4 (top 16) 5
noncomputable abbrev P3:Stmt:=M4 (top 16) 6
structure Tx(mg:Str->Option Value):Prop where
 b_ValueError:mg "ValueError"=none
 b_all:mg "all"=none
 b_any:mg "any"=none
 b_bool:mg "bool"=none
 b_enumerate:mg "enumerate"=none
 b_int:mg "int"=none
 b_isinstance:mg "isinstance"=none
 b_len:mg "len"=none
 b_list:mg "list"=none
 b_max:mg "max"=none
 b_min:mg "min"=none
 b_range:mg "range"=none
 b_reversed:mg "reversed"=none
 b_sum:mg "sum"=none
 b_tuple:mg "tuple"=none
 b_zip:mg "zip"=none
structure PotAt(H:Hp)(a:Addr)(n:Nat):Prop where
 ex:∃c t k:Int,H a=some (.lst [.int c,.int t,.int k])/\0<=t/\t<2 ^ 63/\0<=k/\k<=n
theorem PotAt.same{H H':Hp}{a:Addr}{n:Nat}(h:PotAt H a n)(s:Same H H'):PotAt H' a n:=let ⟨c,t,k,e,q⟩:=h.ex;⟨c,t,k,s _ _ e,q⟩
theorem PotAt.mono{H:Hp}{a:Addr}{n m:Nat}(h:PotAt H a n)(hm:n<=m):PotAt H a m:=let ⟨c,t,k,e,q1,q2,q3,q4⟩:=h.ex;⟨c,t,k,e,q1,q2,q3,by omega⟩
theorem Q5{ns:List Int}{k:Nat}(h:k<ns.length):atI (ns.map V.int) (k:Int)=some (.int (ns.getD k 0)):=by
 refine P1 ?_;rw[List.getElem?_map,List.getElem?_eq_getElem h];simp[List.getD_eq_getElem?_getD,h]
theorem a5a{H:Hp}{a:Addr}{n:Nat}(h:PotAt H a n){c:Addr}{xs:List V}(hc:H c=some (.tup xs)):c∉[a]:=by
 obtain⟨_,t,k,h1,_⟩:=h.ex;simp only[List.mem_cons,List.not_mem_nil,or_false];exact R5 hc h1 (by intro z;cases z)
theorem a0O{H:Hp}{a:Addr}{n:Nat}(h:PotAt H a n){c:Addr}(hc:H c=none):c∉[a]:=by
 obtain⟨_,t,k,h1,_⟩:=h.ex;simp only[List.mem_cons,List.not_mem_nil,or_false];exact(A6 h1 hc).symm
theorem a2R{H:Hp}{a:Addr}{n:Nat}(h:PotAt H a n){c:Addr}{o:HO}(hc:c∉[a]):PotAt (upd H c o) a n:=by
 simp only[List.mem_cons,List.not_mem_nil,or_false]at hc;obtain⟨c',t,k,e,q⟩:=h.ex;exact⟨c',t,k,by rw[A3 (Ne.symm hc)];exact e,q⟩
theorem IT.off{H H':Hp}{v:V}{ns:List Int}{a:Addr}{n:Nat}(h:IT H v ns)(hP:PotAt H a n)(o:Off [a] H H'):IT H' v ns:=by
 obtain⟨c,e,q⟩:=h;exact⟨c,e,o c _ (a5a hP q) q⟩
theorem Its.off{H H':Hp}{vs:List V}{rss:LLI}{a:Addr}{n:Nat}(h:Its H vs rss)(hP:PotAt H a n)(o:Off [a] H H'):Its H' vs rss:=⟨h.1,λi v e=>let ⟨r,e1,e2⟩:=h.2 i v e;⟨r,e1,IT.off e2 hP o⟩⟩
theorem IT.put{H:Hp}{v:V}{ns:List Int}{c:Addr}{xs:List V}{o:HO}(h:IT H v ns)(hc:H c=some (.lst xs)):IT (upd H c o) v ns:=by
 obtain⟨a,e,q⟩:=h;exact⟨a,e,by rw[A3 (R5 q hc (by intro z;cases z))];exact q⟩
theorem Its.put{H:Hp}{vs:List V}{rss:LLI}{c:Addr}{xs:List V}{o:HO}(h:Its H vs rss)(hc:H c=some (.lst xs)):Its (upd H c o) vs rss:=⟨h.1,λi v e=>let ⟨r,e1,e2⟩:=h.2 i v e;⟨r,e1,IT.put e2 hc⟩⟩
theorem P7{H H1 H2:Hp}{a:Addr}(s:Same H H1)(ha:H a=none)(o:Off [a] H1 H2):Same H H2:=λb u e=>o b u (by simpa using A6 e ha) (s b u e)
theorem a0i{l:List Addr}{H H':Hp}{p:Addr}{o:HO}(s:Off l H H')(hp:H p=none):Off l H (upd H' p o):=λb u hb e=>by
 rw[A3 (A6 e hp)];exact s b u hb e
section
variable {P:Program}{w:World}{K:PySem.W.Frag}{mg:Str->Option Value}{base:Heap}
inductive IspCell(K:PySem.W.Frag)(vs:List V)(H:Hp)(Q:VK)(E:XK):Prop
 |mk (a:Addr) (ns:List Int) (ki:Int) (k:Nat) (_:vs=[.ref a,.int ki]) (_:ki=k) (_:SqL K H a (ns.map V.int)) (_:Q (.int (ns.getD k 0)) H):IspCell K vs H Q E
def a4J(K:PySem.W.Frag):Sp:=λvs H Q E=>IspCell K vs H Q E
theorem a0K:FnScope ["_law_script","_law_k"] ["_law_script","_law_k"] (A2 J7):=⟨rfl,rfl,rfl,by decide +kernel,rfl,by decide +kernel,by decide +kernel⟩
theorem a7h(F:FunAt K mg "_law_cell" J7 ["_law_script","_law_k"])(T:Tx mg):Ok P w K mg base "_law_cell" 1 ["_law_script","_law_k"] (a4J K):=by
 refine F.okJ a0K (λvs H Q E h=>?_) (λcdv f A outer s H vs Q E hr h=>?_)
 .obtain⟨a,ns,ki,k,rfl,_⟩:=h;rfl
 .obtain⟨a,ns,_,k,rfl,rfl,hS,q⟩:=h;refine⟨_,(A1 (D1 (a5C (jv 1) (N6 K rfl T.b_len (jaC (jv 0) jaN)))
 (A4 (B1 (J2 K (jv 0) (jv 1))))
 B8)
 (A4 (B1 A5))),?_⟩
  refine⟨_,rfl,_,rfl,a,_,rfl,.inl hS,_,_,rfl,rfl,_,rfl,M9 (λe=>?_) (λe=>?_)⟩
  .have e':k<ns.length:=by
    have:(k:Int)<((ns.map V.int).length:Int):=by simpa using e
    rw[List.length_map]at this;omega
   exact⟨_,rfl,_,rfl,a,_,_,_,rfl,rfl,hS,Q5 e',q⟩
  .have e':ns.length<=k:=by
    have:¬(k:Int)<((ns.map V.int).length:Int):=by simpa using e
    rw[List.length_map]at this;omega
   rw[show ns.getD k 0=0 by simp[List.getD_eq_getElem?_getD,e']]at q;exact q
inductive IspPot(K:PySem.W.Frag)(vs:List V)(H:Hp)(Q:VK)(E:XK):Prop
 |mk (a:Addr) (ns:List Int) (ki:Int) (k:Nat) (_:vs=[.ref a,.int ki]) (_:ki=k) (_:k<=1000) (_:SqL K H a (ns.map V.int)) (_:∀p H',H p=none->PotAt H' p 0->Same H H'->Q (.ref p) H'):IspPot K vs H Q E
def a4G(K:PySem.W.Frag):Sp:=λvs H Q E=>IspPot K vs H Q E
theorem sc__law_pot:FnScope ["_law_script","_law_k","_law_one"] ["_law_script","_law_k"] (A2 L7):=⟨rfl,rfl,rfl,by decide +kernel,rfl,by decide +kernel,by decide +kernel⟩
theorem a9z(F:FunAt K mg "_law_pot" L7 ["_law_script","_law_k"])(T:Tx mg)(O__law_cell:Ok P w K mg base "_law_cell" 1 ["_law_script","_law_k"] (a4J K)):Ok P w K mg base "_law_pot" 2 ["_law_script","_law_k"] (a4G K):=by
 refine F.okJ sc__law_pot (λvs H Q E h=>?_) (λcdv f A outer s H vs Q E hr h=>?_)
 .obtain⟨a,ns,ki,k,rfl,_⟩:=h;rfl
 .obtain⟨a,ns,_,k,rfl,rfl,hk,hS,kk⟩:=h;refine⟨_,(A1 (A8 (i:=2) sc__law_pot.nd rfl (Or.inl rfl) (B2 O__law_cell (hr.mono (by omega)) rfl (jaC (jv 0) (jaC (jv 1) jaN))))
 (A4 (B1 (K8 (jaC (N7 (jv 2) (a0X rfl T.b_int (jaC (b0Q (jv 2) (b0U A5 A5)) jaN))) (jaC (G2 (G2 (a0o (jv 2) A5) (N7 A5 (jv 1))) A5) (jaC A5 jaN))))))),?_⟩
  refine⟨_,rfl,_,rfl,a,ns,_,k,rfl,rfl,hS,?_⟩;generalize ns.getD k 0=c;dsimp only[A7];refine⟨_,rfl,_,rfl,_,_,rfl,rfl,⟨by decide,by decide,by decide⟩,_,_,rfl,rfl,.inr ⟨_,rfl,?_⟩⟩;generalize decide (c ≥ 10 ^ Int.toNat 18)=d;refine⟨_,_,rfl,rfl,.inr (by cases d<;>decide),?_⟩;refine⟨_,rfl,_,_,rfl,rfl,by show(0:Int)<2305843009213693951;decide,?_⟩;refine⟨_,rfl,_,_,rfl,rfl,.inl ⟨by decide,by decide⟩,_,_,rfl,rfl,_,_,rfl,rfl,by show 3<=sizeLine;rw[sizeLine_eq];decide,λp hp=>?_⟩;have h1:0<=c % 2305843009213693951:=Int.emod_nonneg _ (by decide);have h2:c % 2305843009213693951<2305843009213693951:=Int.emod_lt_of_pos _ (by decide);exact kk p _ hp ⟨_,_,_,A0,by omega,by omega,by omega,by omega⟩ ((Same.refl H).upd hp)
inductive IspTake(vs:List V)(H:Hp)(Q:VK)(E:XK):Prop
 |mk (a:Addr) (n:Nat) (m:Int) (_:vs=[.ref a,.int m]) (_:PotAt H a n) (_:n<2 ^ 60) (_:0<m) (_:m<2 ^ 30) (_:∀r H',0<=r->r<m->PotAt H' a (n+1)->Off [a] H H'->Q (.int r) H'):IspTake  vs H Q E
def W7:Sp:=λvs H Q E=>IspTake  vs H Q E
theorem sc__law_take:FnScope ["_law_pot_here","_law_many","_law_digit","_law_turn","_law_mixed"] ["_law_pot_here","_law_many"] (A2 J6):=⟨rfl,rfl,rfl,by decide +kernel,rfl,by decide +kernel,by decide +kernel⟩
theorem tk0{c t k:Int}:atI [V.int c,.int t,.int k] 0=some (.int c):=rfl
theorem tk1{c t k:Int}:atI [V.int c,.int t,.int k] 1=some (.int t):=rfl
theorem tk2{c t k:Int}:atI [V.int c,.int t,.int k] 2=some (.int k):=rfl
theorem a7d(F:FunAt K mg "_law_take" J6 ["_law_pot_here","_law_many"])(T:Tx mg):Ok P w K mg base "_law_take" 1 ["_law_pot_here","_law_many"] W7:=by
 refine F.okJ sc__law_take (λvs H Q E h=>?_) (λcdv f A outer s H vs Q E hr h=>?_)
 .obtain⟨a,n,m,rfl,_⟩:=h;rfl
 .obtain⟨a,n,m,rfl,⟨c,t,k,ha,t0,t1,k0,k1⟩,hn,hm0,hm1,kk⟩:=h;refine⟨_,(A1 (D1 (a0n (J2 K (jv 0) A5) A5)
 (A1 (A8 (i:=2) sc__law_take.nd rfl (Or.inl rfl) (a0o (J2 K (jv 0) A5) (jv 1)))
 (A1 (Y0 (a0Y (J2 K (jv 0) A5) (jv 1)) (a0W (jv 0) A5))
 (A4 (B1 (jv 2)))))
 B8)
 (A1 (Y0 (G2 (J2 K (jv 0) A5) A5) (a0W (jv 0) A5))
 (A1 (A8 (i:=3) sc__law_take.nd rfl (Or.inl rfl) (J2 K (jv 0) A5))
 (A1 (A8 (i:=4) sc__law_take.nd rfl (Or.inl rfl) (a0o (G2 (N7 (J2 K (jv 0) A5) (G2 A5 (N7 (N7 A5 (jv 3)) (jv 3)))) (N7 A5 (jv 3))) A5))
 (A1 (A8 (i:=4) sc__law_take.nd rfl (Or.inl rfl) (a0o (N7 (jv 4) (G2 (G2 (a0o (jv 4) A5) (N7 A5 (jv 3))) A5)) A5))
 (A4 (B1 (a0o (G2 (a0Y (jv 4) A5) (a0Y (jv 4) A5)) (jv 1))))))))),?_⟩
  refine⟨_,rfl,a,_,0,_,rfl,rfl,SqL.of ha,tk0,_,_,rfl,rfl,_,rfl,M9 (λe=>?_) (λe=>?_)⟩
  .refine⟨_,rfl,a,_,0,_,rfl,rfl,SqL.of ha,tk0,_,rfl,_,_,rfl,rfl,hm0,?_⟩;dsimp only[A7];refine⟨_,rfl,a,_,0,_,rfl,rfl,SqL.of ha,tk0,_,rfl,_,_,rfl,rfl,⟨hm0,hm1⟩,?_⟩;refine⟨_,rfl,a,_,0,0,rfl,rfl,ha,rfl,?_⟩;exact⟨_,rfl,kk _ _ (Int.emod_nonneg _ (by omega)) (Int.emod_lt_of_pos _ hm0) ⟨_,_,_,A0,t0,t1,k0,by omega⟩ ((Off.refl _ _).set (by simp))⟩
  .refine⟨_,rfl,a,_,2,_,rfl,rfl,SqL.of ha,tk2,_,_,rfl,rfl,?_⟩;refine⟨_,rfl,a,_,2,2,rfl,rfl,ha,rfl,?_⟩;refine⟨_,rfl,a,_,2,_,rfl,rfl,SqL.of A0,tk2,?_⟩;dsimp only[A7];refine⟨_,rfl,a,_,1,_,rfl,rfl,SqL.of A0,tk1,?_⟩;have hk:=λ(r:Int) h0 h1=>kk r (upd H a (.lst ([V.int c,.int t,.int k].set 2 (.int (k+1))))) h0 h1 ⟨_,t,k+1,A0,t0,t1,by omega,by omega⟩ ((Off.refl _ _).set (by simp));simp only[a6m,a2b,A7,tOp,tUn,a1q,tC,rI,rI0,rU,a8D,P2,a8A,b0t,a4A,a4C,a0d,a3l,a1s,tCB,a8y,a8C,tSl,V0,a4y,W5,tB,b1g,tOr,a8B,a4D,b1f,a4z,tIf,a8z,rEq,rNe,a6r,ipI,a8L,a8M,List.set_cons_zero,List.set_cons_succ,List.getElem?_cons_zero,List.getElem?_cons_succ,Option.some.injEq,V.int.injEq,V.bl.injEq,exists_eq_left',exists_eq_left,exists_and_left,true_and,and_true,B7,List.map_cons,List.map_nil,Option.bind_none,Option.bind_some,Option.join_some,L2.start,List.length_cons,List.length_nil,Nat.reduceAdd,Nat.reduceSub,List.replicate_succ,List.replicate_zero,List.cons_append,List.nil_append];generalize hx1:(t*(48271+2*(k+1)*(k+1))+65537*(k+1)) % 2305843009213693921=x1;have h1a:0<=x1:=by rw[<-hx1];exact Int.emod_nonneg _ (by decide)
   have h1b:x1<2305843009213693921:=by rw[<-hx1];exact Int.emod_lt_of_pos _ (by decide)
   exact⟨.inl ⟨by decide,by decide⟩,.inl ⟨by omega,by omega⟩,.inl ⟨by omega,by omega⟩,.inl ⟨by decide,by decide⟩,by decide,by decide,.inl ⟨by decide,by decide⟩,.inl ⟨by omega,by omega⟩,by decide,⟨by decide,by decide⟩,⟨by decide,by decide⟩,hm0,hk _ (Int.emod_nonneg _ (by omega)) (Int.emod_lt_of_pos _ hm0)⟩
end
theorem a8n{n k:Nat}(h:k<n):ixN n (k:Int)=some k:=by
 unfold ixN;rw[if_pos (by omega),if_pos (by omega)];rfl
theorem a9E{ns:List Int}{r:Int}(h0:0<=r)(h1:r<ns.length):∃z,atI (ns.map V.int) r=some (.int z)/\z∈ns:=by
 obtain⟨k,rfl⟩:∃k:Nat,r=k:=⟨r.toNat,by omega⟩;have hk:k<ns.length:=by omega
 refine⟨_,Q5 hk,?_⟩;rw[List.getD_eq_getElem?_getD,List.getElem?_eq_getElem hk];exact List.getElem_mem hk
theorem P5(l:List Int)(h:∀x∈l,0<=x):0<=l.sum:=by
 induction l with
 |nil=>exact Int.le_refl _
 |cons x l ih =>
  have:=ih λy hy=>h y (List.mem_cons_of_mem _ hy);have:=h x (List.mem_cons_self ..);rw[List.sum_cons];omega
theorem a6n(l:List Int)(h:∀x∈l,0<=x)(y:Int)(hy:y∈l)(hp:0<y):0<l.sum:=by
 induction l with
 |nil=>cases hy
 |cons x l ih =>
  have h0:=P5 l λy hy=>h y (List.mem_cons_of_mem _ hy);have h1:=h x (List.mem_cons_self ..);rw[List.sum_cons];rcases List.mem_cons.mp hy with rfl|q
  .omega
  .have:=ih (λy hy=>h y (List.mem_cons_of_mem _ hy)) q;omega
theorem gdx{a b:List Int}(h:a.length=b.length)(e:∀j,j<b.length->a.getD j 0=b.getD j 0):a=b:=by
 refine List.ext_getElem h λi h1 h2=>?_;have:=e i h2;rw[List.getD_eq_getElem?_getD,List.getD_eq_getElem?_getD,List.getElem?_eq_getElem h1,List.getElem?_eq_getElem h2]at this;exact this
theorem G5{xs:List Int}{j:Nat}(h:j<xs.length):xs.getD j 0∈xs:=by
 rw[List.getD_eq_getElem?_getD,List.getElem?_eq_getElem h];exact List.getElem_mem h
theorem a0J(xs:List Int)(k:Nat)(z:Int)(j:Nat)(hk:k<xs.length):(xs.set k z).getD j 0=if j=k then z else xs.getD j 0:=by
 rw[List.getD_eq_getElem?_getD,List.getElem?_set];by_cases e:j=k
 .subst e;rw[if_pos rfl,if_pos hk,if_pos rfl];rfl
 .rw[if_neg (Ne.symm e),if_neg e,List.getD_eq_getElem?_getD]
theorem a0G{K:PySem.W.Frag}{H:Hp}{p:Addr}{kb:Bool}{us:List V}(h:H p=some (if kb then .tup us else .lst us)):SqK kb K H p us:=by
 cases kb
 .exact SqL.of h
 .exact SqT.of h
def L4(a b:List Int):List Int:=List.zipWith (λa b=>a+b) a b
def M7(c:Int)(r:List Int):List Int:=r.map λz=>c*z
def TgA:List Int->LLI->List Int->List Int
 |acc,r::rss,c::cs=>TgA (L4 acc (M7 c r)) rss cs
 |acc,_,_=>acc
theorem I0(a b:List Int)(h:a.length=b.length):(L4 a b).length=b.length:=by unfold L4;rw[List.length_zipWith];omega
theorem B9(c:Int)(r:List Int):(M7 c r).length=r.length:=List.length_map ..
theorem L3(a b:List Int)(h:a.length=b.length)(j:Nat):(L4 a b).getD j 0=a.getD j 0+b.getD j 0:=by
 unfold L4;rw[List.getD_eq_getElem?_getD,List.getD_eq_getElem?_getD,List.getD_eq_getElem?_getD,List.getElem?_zipWith];by_cases hj:j<a.length
 .rw[List.getElem?_eq_getElem hj,List.getElem?_eq_getElem (by omega)];rfl
 .rw[List.getElem?_eq_none (by omega),List.getElem?_eq_none (by omega)];rfl
theorem U9(c:Int)(r:List Int)(j:Nat):(M7 c r).getD j 0=c*r.getD j 0:=by
 unfold M7;rw[List.getD_eq_getElem?_getD,List.getElem?_map,List.getD_eq_getElem?_getD];cases r[j]? with
 |none=>show(0:Int)=c*0;omega
 |some z=>rfl
theorem a3g{n:Nat}:∀(rss:LLI) (cs acc:List Int),(∀r∈rss,r.length=n)->acc.length=n->(TgA acc rss cs).length=n
 |[],cs,acc,_,h=>by cases cs<;>exact h
 |r::rss,[],acc,_,h=>h
 |r::rss,c::cs,acc,hr,h=>by
  have h1:=hr r (List.mem_cons_self ..);exact a3g rss cs _ (λq hq=>hr q (List.mem_cons_of_mem _ hq)) (by rw[I0 _ _ (by rw[B9];omega),B9,h1])
theorem O9{α:Type}{xs:List α}{i:Nat}{x:α}(h:xs[i]?=some x):xs.drop i=x::xs.drop (i+1):=by
 obtain⟨h1,h2⟩:=List.getElem?_eq_some_iff.mp h;rw[List.drop_eq_getElem_cons h1,h2]
theorem a5P(n:Nat):(List.replicate n [V.int 0]).flatten=(List.replicate n (0:Int)).map V.int:=by
 induction n with
 |zero=>rfl
 |succ n ih=>rw[List.replicate_succ,List.flatten_cons,ih,List.replicate_succ];rfl
section
variable {P:Program}{w:World}{K:PySem.W.Frag}{mg:Str->Option Value}{base:Heap}
theorem sqt{K:PySem.W.Frag}{H:Hp}{a:Addr}{xs:List V}(h:H a=some (.tup xs)):SqK true K H a xs:=SqT.of h
noncomputable def Bel(xs ys:List Int):Bool:=(List.zipWith (λa b=>decide (a<=b)) xs ys).all id
theorem b0p(xs ys:List Int):(List.zipWith (λa b=>V.bl (decide (a<=b))) xs ys).all trV=Bel xs ys:=by
 unfold Bel;induction xs generalizing ys with
 |nil=>rfl
 |cons x xs ih =>
  cases ys with
  |nil=>rfl
  |cons y ys=>simp only[List.zipWith_cons_cons,List.all_cons,ih ys];rfl
theorem a0D{γ:Type}(f:Int->Int->Int)(g:Int->γ):∀xs ys:List Int,List.zipWith (λa b=>g (f a b)) xs ys=(List.zipWith f xs ys).map g
 |[],_=>rfl
 |_::_,[]=>rfl
 |x::xs,y::ys=>by rw[List.zipWith_cons_cons,List.zipWith_cons_cons,List.map_cons,a0D f g xs ys]
section
variable {P:Program}{w:World}{K:PySem.W.Frag}{mg:Str->Option Value}{base:Heap}
inductive IspZip(g:Int->Int->Int)(vs:List V)(H:Hp)(Q:VK)(E:XK):Prop
 |mk (x:_) (y:_) (xs:_) (ys:_) (_:vs=[x,y]) (_:IT H x xs) (_:IT H y ys) (_:xs.length<=1000) (_:∀v H',Same H H'->IT H' v (List.zipWith g xs ys)->Q v H'):IspZip g vs H Q E
def a4E(g:Int->Int->Int):Sp:=λvs H Q E=>IspZip g vs H Q E
theorem a4M:FnScope ["one","other"] ["one","other"] (A2 V3):=⟨rfl,rfl,rfl,by decide +kernel,rfl,by decide +kernel,by decide +kernel⟩
theorem a1y(F:FunAt K mg "minus" V3 ["one","other"])(T:Tx mg):Ok P w K mg base "minus" 1 ["one","other"] (a4E λa b=>a-b):=by
 refine F.okJ a4M (λvs H Q E h=>?_) (λcdv f A outer s H vs Q E hr h=>?_)
 .obtain⟨x,y,xs,ys,rfl,_⟩:=h;rfl
 .obtain⟨_,_,xs,ys,rfl,⟨a,rfl,ha⟩,⟨b,rfl,hb⟩,hl,k⟩:=h;refine⟨_,(A4 (B1 (E2 K rfl T.b_tuple (jaC (G4 (N:=["a","b"]) (src:=[none,none]) (a0V K rfl T.b_zip (jaC (jv 0) (jaC (jv 1) jaN))) (by show D2 _ _=true;rfl) (by rfl) (by rfl)
 (λ_ _ _ _ _=>(M1 K 2 (B5 (A9 (i:=0) (show(["a","b"]:List Str).Nodup by decide +kernel) rfl (Or.inl rfl)) (B5 (A9 (i:=1) (show(["a","b"]:List Str).Nodup by decide +kernel) rfl (Or.inl rfl)) G9)))) (λ_ _ _ _ _=>M3) (λ_ _ _ _ _=>(a1G (jv 0) (jv 1)))) jaN)))),?_⟩
  refine⟨_,rfl,_,rfl,true,true,a,b,rfl,⟨_,SqT.of ha⟩,⟨_,SqT.of hb⟩,?_⟩;refine W1 (caps:=[]) (λx y=>V.int (x-y)) (sqt ha) (sqt hb) hl (λH' s=>⟨sqt (s _ _ ha),sqt (s _ _ hb)⟩) rfl (λx y H1 Q1 _ q=>⟨_,rfl,_,rfl,_,_,rfl,rfl,q⟩) λH1 p s hp=>?_;rw[a0D (λx y=>x-y) V.int];refine⟨p,_,rfl,.inl ⟨SqL.of A0,λl hl=>?_⟩⟩;exact k _ _ ((s.upd hp).upd hl) ⟨l,rfl,A0⟩
inductive IspBelow(vs:List V)(H:Hp)(Q:VK)(E:XK):Prop
 |mk (x:_) (y:_) (xs:_) (ys:_) (_:vs=[x,y]) (_:IT H x xs) (_:IT H y ys) (_:xs.length<=1000) (_:∀H',Same H H'->Q (.bl (Bel xs ys)) H'):IspBelow  vs H Q E
def a0H:Sp:=λvs H Q E=>IspBelow  vs H Q E
theorem a4N:FnScope ["one","other"] ["one","other"] (A2 V4):=⟨rfl,rfl,rfl,by decide +kernel,rfl,by decide +kernel,by decide +kernel⟩
theorem a5t(F:FunAt K mg "below" V4 ["one","other"])(T:Tx mg):Ok P w K mg base "below" 1 ["one","other"] a0H:=by
 refine F.okJ a4N (λvs H Q E h=>?_) (λcdv f A outer s H vs Q E hr h=>?_)
 .obtain⟨x,y,xs,ys,rfl,_⟩:=h;rfl
 .obtain⟨_,_,xs,ys,rfl,⟨a,rfl,ha⟩,⟨b,rfl,hb⟩,hl,k⟩:=h;refine⟨_,(A4 (B1 (a9P K rfl T.b_all (jaC (G4 (N:=["a","b"]) (src:=[none,none]) (a0V K rfl T.b_zip (jaC (jv 0) (jaC (jv 1) jaN))) (by show D2 _ _=true;rfl) (by rfl) (by rfl)
 (λ_ _ _ _ _=>(M1 K 2 (B5 (A9 (i:=0) (show(["a","b"]:List Str).Nodup by decide +kernel) rfl (Or.inl rfl)) (B5 (A9 (i:=1) (show(["a","b"]:List Str).Nodup by decide +kernel) rfl (Or.inl rfl)) G9)))) (λ_ _ _ _ _=>M3) (λ_ _ _ _ _=>(b0O (jv 0) (jv 1)))) jaN)))),?_⟩
  refine⟨_,rfl,_,rfl,true,true,a,b,rfl,⟨_,SqT.of ha⟩,⟨_,SqT.of hb⟩,?_⟩;refine W1 (caps:=[]) (λx y=>V.bl (decide (x<=y))) (sqt ha) (sqt hb) hl (λH' s=>⟨sqt (s _ _ ha),sqt (s _ _ hb)⟩) rfl (λx y H1 Q1 _ q=>⟨_,rfl,_,rfl,_,_,rfl,rfl,q⟩) λH1 p s hp=>?_;refine⟨false,p,_,rfl,SqL.of A0,?_,?_⟩
  .rw[List.all_eq_true];intro v hv;obtain⟨i,hi,rfl⟩:=List.mem_iff_getElem.mp hv;rw[List.getElem_zipWith];rfl
  .rw[b0p];exact k _ (s.upd hp)
inductive IspSize(vs:List V)(H:Hp)(Q:VK)(E:XK):Prop
 |mk (x:V) (xs:List Int) (_:vs=[x]) (_:IT H x xs) (_:∀H',Same H H'->Q (.int xs.sum) H'):IspSize  vs H Q E
def a2c:Sp:=λvs H Q E=>IspSize  vs H Q E
theorem a6s:FnScope ["one"] ["one"] (A2 a0M):=⟨rfl,rfl,rfl,by decide +kernel,rfl,by decide +kernel,by decide +kernel⟩
theorem a7e(F:FunAt K mg "size" a0M ["one"])(T:Tx mg):Ok P w K mg base "size" 1 ["one"] a2c:=by
 refine F.okJ a6s (λvs H Q E h=>?_) (λcdv f A outer s H vs Q E hr h=>?_)
 .obtain⟨x,xs,rfl,_⟩:=h;rfl
 .obtain⟨_,xs,rfl,⟨a,rfl,ha⟩,k⟩:=h;refine⟨_,(A4 (B1 (T3 K rfl T.b_sum (jaC (jv 0) jaN)))),?_⟩;exact⟨_,rfl,true,a,xs,rfl,SqT.of ha,k H (Same.refl H)⟩
end
end
def less(rest r:List Int)(m:Int):List Int:=List.zipWith (λa b=>a-b) rest (r.map λz=>m*z)
def a4j(n:Nat)(r:List Int):Prop:=r.length=n/\(∀x∈r,0<=x/\x<1073741824)/\0<r.sum
theorem P8{r:List Int}(h:∀x∈r,0<=x)(hs:0<r.sum):∃i,i<r.length/\0<r.getD i 0:=by
 by_cases q:∃y∈r,0<y
 .obtain⟨y,hy,hp⟩:=q;obtain⟨i,hi,rfl⟩:=List.mem_iff_getElem.mp hy;exact⟨i,hi,by rw[List.getD_eq_getElem?_getD,List.getElem?_eq_getElem hi];exact hp⟩
 .have hall:∀y∈r,y=0:=λy hy=>by
   have:=h y hy;have:¬0<y:=λz=>q ⟨y,hy,z⟩;omega
  rw[List.eq_replicate_iff.mpr ⟨rfl,hall⟩]at hs;simp at hs
theorem B6{rest r:List Int}{m:Int}(h:rest.length=r.length):(less rest r m).length=r.length:=by
 unfold less;rw[List.length_zipWith,List.length_map];omega
theorem D4{rest r:List Int}{m:Int}(h:rest.length=r.length)(j:Nat):(less rest r m).getD j 0=rest.getD j 0-m*r.getD j 0:=by
 unfold less;rw[List.getD_eq_getElem?_getD,List.getD_eq_getElem?_getD,List.getD_eq_getElem?_getD,List.getElem?_zipWith,List.getElem?_map];by_cases hj:j<rest.length
 .rw[List.getElem?_eq_getElem hj,List.getElem?_eq_getElem (by omega)];rfl
 .rw[List.getElem?_eq_none (by omega),List.getElem?_eq_none (by omega)];show(0:Int)=0-m*0;omega
def ws(f:List Int->Int):LLI->List Int->Int
 |r::rss,c::cs=>c*f r+ws f rss cs
 |_,_=>0
def cv(n:Nat):LLI->List Int->List Int
 |r::rss,c::cs=>L4 (M7 c r) (cv n rss cs)
 |_,_=>List.replicate n 0
theorem J4{n:Nat}:∀{rss:LLI}{d:List Int},(∀r∈rss,r.length=n)->(cv n rss d).length=n
 |[],[],_=>List.length_replicate
 |[],_::_,_=>List.length_replicate
 |_::_,[],_=>List.length_replicate
 |r::rss,c::cs,h=>by
  have ih:=J4 (rss:=rss) (d:=cs) λq hq=>h q (List.mem_cons_of_mem _ hq);have:=h r List.mem_cons_self;show(L4 (M7 c r) (cv n rss cs)).length=n;rw[I0 _ _ (by rw[B9,ih];exact this),ih]
theorem J0(n j:Nat):(List.replicate n (0:Int)).getD j 0=0:=by
 rw[List.getD_eq_getElem?_getD,List.getElem?_replicate];split<;>rfl
theorem U4{n:Nat}{j:Nat}:∀{rss:LLI}{d:List Int},(∀r∈rss,r.length=n)->(cv n rss d).getD j 0=ws (λr=>r.getD j 0) rss d
 |[],[],_=>J0 n j
 |[],_::_,_=>J0 n j
 |_::_,[],_=>J0 n j
 |r::rss,c::cs,h=>by
  have h':∀q∈rss,q.length=n:=λq hq=>h q (List.mem_cons_of_mem _ hq);have:=h r List.mem_cons_self;show(L4 (M7 c r) (cv n rss cs)).getD j 0=c*r.getD j 0+ws _ rss cs;rw[L3 _ _ (by rw[B9,J4 h'];exact this),U9,U4 h']
theorem Q7:∀(a b:List Int),a.length=b.length->(L4 a b).sum=a.sum+b.sum
 |[],[],_=>rfl
 |[],_::_,h=>nomatch h
 |_::_,[],h=>nomatch h
 |x::a,y::b,h=>by
  have ih:=Q7 a b (by simpa using h);unfold L4 at ih⊢;rw[List.zipWith_cons_cons,List.sum_cons,List.sum_cons,List.sum_cons,ih];omega
theorem W6(c:Int):∀(r:List Int),(M7 c r).sum=c*r.sum
 |[]=>by show(0:Int)=c*0;omega
 |x::r=>by
  have ih:=W6 c r;unfold M7 at ih⊢;rw[List.map_cons,List.sum_cons,List.sum_cons,ih,Int.mul_add]
theorem J8(n:Nat):(List.replicate n (0:Int)).sum=0:=by
 induction n with
 |zero=>rfl
 |succ n ih=>rw[List.replicate_succ,List.sum_cons,ih];rfl
theorem a2x{n:Nat}:∀{rss:LLI}{d:List Int},(∀r∈rss,r.length=n)->(cv n rss d).sum=ws List.sum rss d
 |[],[],_=>J8 n
 |[],_::_,_=>J8 n
 |_::_,[],_=>J8 n
 |r::rss,c::cs,h=>by
  have h':∀q∈rss,q.length=n:=λq hq=>h q (List.mem_cons_of_mem _ hq);have:=h r List.mem_cons_self;show(L4 (M7 c r) (cv n rss cs)).sum=c*r.sum+ws _ rss cs;rw[Q7 _ _ (by rw[B9,J4 h'];exact this),W6,a2x h']
section
variable {f:List Int->Int}
theorem a7M:∀{rss:LLI}{d:List Int},(∀r∈rss,0<=f r)->(∀c∈d,0<=c)->0<=ws f rss d
 |[],[],_,_=>Int.le_refl _
 |[],_::_,_,_=>Int.le_refl _
 |_::_,[],_,_=>Int.le_refl _
 |r::rss,c::cs,hf,hd=>by
  have ih:=a7M (rss:=rss) (d:=cs) (λq hq=>hf q (List.mem_cons_of_mem _ hq)) λq hq=>hd q (List.mem_cons_of_mem _ hq);have:=Int.mul_nonneg (hd c List.mem_cons_self) (hf r List.mem_cons_self);show 0<=c*f r+ws f rss cs;omega
theorem a7O:∀{rss:LLI}{d:List Int}{k:Nat},(∀r∈rss,0<=f r)->(∀c∈d,0<=c)->d.length=rss.length->k<rss.length->d.getD k 0*f (rss.getD k [])<=ws f rss d
 |[],_,k,_,_,_,hk=>absurd hk (Nat.not_lt_zero _)
 |_::_,[],k,_,_,h,_=>nomatch h
 |r::rss,c::cs,0,hf,hd,h,hk=>by
  have:=a7M (rss:=rss) (d:=cs) (λq hq=>hf q (List.mem_cons_of_mem _ hq)) λq hq=>hd q (List.mem_cons_of_mem _ hq);show c*f r<=c*f r+ws f rss cs;omega
 |r::rss,c::cs,k+1,hf,hd,h,hk=>by
  have ih:=a7O (rss:=rss) (d:=cs) (k:=k) (λq hq=>hf q (List.mem_cons_of_mem _ hq)) (λq hq=>hd q (List.mem_cons_of_mem _ hq)) (by simpa using h) (by simpa using hk);have:=Int.mul_nonneg (hd c List.mem_cons_self) (hf r List.mem_cons_self);show cs.getD k 0*f (rss.getD k [])<=c*f r+ws f rss cs;omega
theorem a1U:∀{rss:LLI}{d:List Int}{k:Nat}(m:Int),d.length=rss.length->k<rss.length->ws f rss (d.set k m)=ws f rss d+(m-d.getD k 0)*f (rss.getD k [])
 |[],_,k,_,_,hk=>absurd hk (Nat.not_lt_zero _)
 |_::_,[],k,_,h,_=>nomatch h
 |r::rss,c::cs,0,m,h,hk=>by
  show m*f r+ws f rss cs=c*f r+ws f rss cs+(m-c)*f r;rw[Int.sub_mul];omega
 |r::rss,c::cs,k+1,m,h,hk=>by
  have ih:=a1U (rss:=rss) (d:=cs) (k:=k) m (by simpa using h) (by simpa using hk);show c*f r+ws f rss (cs.set k m)=c*f r+ws f rss cs+(m-cs.getD k 0)*f (rss.getD k []);rw[ih];omega
theorem a7N{M:Int}:∀{rss:LLI}{d:List Int},(∀c∈d,0<=c)->d.length=rss.length->(∀k,k<rss.length->d.getD k 0=0∨f (rss.getD k [])<=M)->ws f rss d<=d.sum*M
 |[],[],_,_,_=>by show(0:Int)<=0*M;omega
 |[],_::_,_,h,_=>nomatch h
 |_::_,[],_,h,_=>nomatch h
 |r::rss,c::cs,hd,h,hk=>by
  have ih:=a7N (rss:=rss) (d:=cs) (λq hq=>hd q (List.mem_cons_of_mem _ hq)) (by simpa using h) λk hk'=>hk (k+1) (by simpa using hk');have h0:=hd c List.mem_cons_self;show c*f r+ws f rss cs<=(c::cs).sum*M;rw[List.sum_cons,Int.add_mul];rcases hk 0 (by simp)with q|q
  .have q:c=0:=q;rw[q];omega
  .have q:f r<=M:=q;have:=Int.mul_le_mul_of_nonneg_left q h0;omega
theorem a1T:∀{rss:LLI}{d:List Int},(∀r∈rss,1<=f r)->(∀c∈d,0<=c)->d.length=rss.length->d.sum<=ws f rss d
 |[],[],_,_,_=>Int.le_refl _
 |[],_::_,_,_,h=>nomatch h
 |_::_,[],_,_,h=>nomatch h
 |r::rss,c::cs,hf,hd,h=>by
  have ih:=a1T (rss:=rss) (d:=cs) (λq hq=>hf q (List.mem_cons_of_mem _ hq)) (λq hq=>hd q (List.mem_cons_of_mem _ hq)) (by simpa using h);have h1:=Int.mul_le_mul_of_nonneg_left (hf r List.mem_cons_self) (hd c List.mem_cons_self);show(c::cs).sum<=c*f r+ws f rss cs;rw[List.sum_cons];omega
theorem a6k{m:Nat}:∀{rss:LLI},ws f rss (List.replicate m 0)=0:=by
 induction m with
 |zero=>intro rss;cases rss<;>rfl
 |succ m ih =>
  intro rss;cases rss with
  |nil=>rfl
  |cons r rss =>
   show 0*f r+ws f rss (List.replicate m 0)=0;rw[ih];omega
end
structure LY(n:Nat)(rss:LLI)(lo rest d:List Int):Prop where
 len:d.length=rss.length
 nn:∀c∈d,0<=c
 off:∀k:Nat,(k:Int)∉lo->d.getD k 0=0
 eq:cv n rss d=rest
def Lo(m:Nat)(lo:List Int):Prop:=lo.Nodup/\∀k∈lo,0<=k/\k<m
def Pts(n:Nat)(rss:LLI):Prop:=∀r∈rss,a4j n r
theorem Pts.len{n:Nat}{rss:LLI}(h:Pts n rss):∀r∈rss,r.length=n:=λr hr=>(h r hr).1
theorem gdm{rss:LLI}{k:Nat}(h:k<rss.length):rss.getD k []∈rss:=by
 rw[List.getD_eq_getElem?_getD,List.getElem?_eq_getElem h];exact List.getElem_mem h
theorem Pts.at{n:Nat}{rss:LLI}(h:Pts n rss){k:Nat}(hk:k<rss.length):a4j n (rss.getD k []):=h _ (gdm hk)
theorem gd0{r:List Int}(h:∀x∈r,0<=x)(j:Nat):0<=r.getD j 0:=by
 by_cases hj:j<r.length
 .exact h _ (G5 hj)
 .rw[List.getD_eq_getElem?_getD,List.getElem?_eq_none (by omega)];exact Int.le_refl _
theorem Pts.nn{n:Nat}{rss:LLI}(h:Pts n rss)(j:Nat):∀r∈rss,0<=r.getD j 0:=λr hr=>gd0 (λx hx=>((h r hr).2.1 x hx).1) j
theorem Pts.sz{n:Nat}{rss:LLI}(h:Pts n rss):∀r∈rss,1<=r.sum:=λr hr=>(h r hr).2.2
theorem LY.at{n:Nat}{rss:LLI}{lo rest d:List Int}(h:LY n rss lo rest d)(hp:Pts n rss)(j:Nat):ws (λr=>r.getD j 0) rss d=rest.getD j 0:=by
 rw[<-h.eq,U4 hp.len]
theorem LY.sum{n:Nat}{rss:LLI}{lo rest d:List Int}(h:LY n rss lo rest d)(hp:Pts n rss):ws List.sum rss d=rest.sum:=by
 rw[<-h.eq,a2x hp.len]
theorem LY.few{n:Nat}{rss:LLI}{lo rest d:List Int}(h:LY n rss lo rest d)(hp:Pts n rss):d.sum<=rest.sum:=by
 rw[<-h.sum hp];exact a1T hp.sz h.nn h.len
theorem LY.le{n:Nat}{rss:LLI}{lo rest d:List Int}(h:LY n rss lo rest d)(hp:Pts n rss){k:Nat}(hk:k<rss.length)(j:Nat):d.getD k 0*(rss.getD k []).getD j 0<=rest.getD j 0:=by
 rw[<-h.at hp j];exact a7O (f:=λr=>r.getD j 0) (hp.nn j) h.nn h.len hk
theorem LY.zero{n:Nat}{rss:LLI}{lo rest d:List Int}(hp:Pts n rss)(hr:∀x∈rest,x=0)(hrl:rest.length=n):LY n rss lo rest d↔d=List.replicate rss.length 0:=by
 constructor
 .intro h;refine List.eq_replicate_iff.mpr ⟨h.len,λc hc=>?_⟩;obtain⟨k,hk,rfl⟩:=List.mem_iff_getElem.mp hc;have hk':k<rss.length:=by rw[<-h.len];exact hk
  obtain⟨j,hj,hpos⟩:=P8 (λx hx=>((hp.at hk').2.1 x hx).1) (hp.at hk').2.2;have h1:=h.le hp hk' j;have h2:rest.getD j 0=0:=by
   by_cases hj':j<rest.length
   .exact hr _ (G5 hj')
   .rw[List.getD_eq_getElem?_getD,List.getElem?_eq_none (by omega)];rfl
  have e:d.getD k 0=d[k]:=by rw[List.getD_eq_getElem?_getD,List.getElem?_eq_getElem hk];rfl
  rw[h2,e]at h1;have h3:=h.nn _ hc;rcases Int.lt_or_eq_of_le h3 with q|q
  .have:=Int.mul_pos q hpos;omega
  .exact q.symm
 .rintro rfl;refine⟨List.length_replicate,λc hc=>by rw[List.eq_of_mem_replicate hc];exact Int.le_refl _,λk _=>J0 _ _,gdx (by rw[J4 hp.len,hrl]) λj hj=>?_⟩;rw[U4 hp.len,a6k,hr _ (G5 hj)]
theorem W0:∀{xs ys:List Int},xs.length=ys.length->(Bel xs ys=true↔∀j,j<xs.length->xs.getD j 0<=ys.getD j 0)
 |[],[],_=>⟨λ_ j hj=>absurd hj (Nat.not_lt_zero _),λ_=>rfl⟩
 |[],_::_,h=>nomatch h
 |_::_,[],h=>nomatch h
 |x::xs,y::ys,h=>by
  have ih:=W0 (xs:=xs) (ys:=ys) (by simpa using h);have e:Bel (x::xs) (y::ys)=(decide (x<=y) && Bel xs ys):=rfl;rw[e,Bool.and_eq_true,decide_eq_true_eq,ih];constructor
  .rintro⟨h1,h2⟩ j hj;cases j with
   |zero=>exact h1
   |succ j=>exact h2 j (by simpa using hj)
  .exact λz=>⟨z 0 (by simp),λj hj=>z (j+1) (by simpa using hj)⟩
noncomputable def ft(rss:LLI)(lo rest:List Int):List Int:=lo.filter λk=>Bel (rss.getD k.toNat []) rest
theorem Lo.filter{m:Nat}{lo:List Int}(h:Lo m lo)(p:Int->Bool):Lo m (lo.filter p):=⟨h.1.filter _,λk hk=>h.2 k ((List.mem_filter.mp hk).1)⟩
theorem LY.ft{n:Nat}{rss:LLI}{lo rest d:List Int}(hp:Pts n rss)(hl:Lo rss.length lo)(hrl:rest.length=n):LY n rss (ft rss lo rest) rest d↔LY n rss lo rest d:=by
 constructor
 .exact λh=>⟨h.len,h.nn,λk hk=>h.off k λz=>hk ((List.mem_filter.mp z).1),h.eq⟩
 .intro h;refine⟨h.len,h.nn,λk hk=>?_,h.eq⟩;by_cases hm:(k:Int)∈lo
  .have hk':k<rss.length:=by have:=hl.2 _ hm;omega
   have hb:¬Bel (rss.getD k []) rest=true:=λz=>hk (List.mem_filter.mpr ⟨hm,by rw[Int.toNat_natCast];exact z⟩);have hb':∃j,j<n/\rest.getD j 0<(rss.getD k []).getD j 0:=by
    refine Classical.byContradiction λz=>hb ((W0 (by rw[(hp.at hk').1,hrl])).mpr λj hj=>?_);have:¬rest.getD j 0<(rss.getD k []).getD j 0:=λy=>z ⟨j,by rw[<-(hp.at hk').1];exact hj,y⟩;omega
   obtain⟨j,hj,hlt⟩:=hb';have h1:=h.le hp hk' j;by_cases hkd:k<d.length
   .have h2:=h.nn _ (G5 hkd);rcases Int.lt_or_eq_of_le h2 with q|q
    .have h3:1*(rss.getD k []).getD j 0<=d.getD k 0*(rss.getD k []).getD j 0:=Int.mul_le_mul_of_nonneg_right (by omega) (hp.nn j _ (gdm hk'));omega
    .exact q.symm
   .rw[List.getD_eq_getElem?_getD,List.getElem?_eq_none (by omega)];rfl
  .exact h.off k hm
def wo(lo:List Int)(k:Int):List Int:=lo.filter λx=>!decide (x=k)
theorem wo_mem{lo:List Int}{k x:Int}:x∈wo lo k↔x∈lo/\x≠k:=by
 unfold wo;rw[List.mem_filter];simp
theorem a8u{lo:List Int}{k:Int}(h:k∈lo):(wo lo k).length+1<=lo.length:=by
 induction lo with
 |nil=>cases h
 |cons x lo ih =>
  unfold wo at ih⊢;rw[List.filter_cons];by_cases e:x=k
  .have:=List.length_filter_le (λx=>!decide (x=k)) lo;rw[if_neg (by simp[e]),List.length_cons];omega
  .rw[if_pos (by simp[e]),List.length_cons,List.length_cons];rcases List.mem_cons.mp h with q|q
   .exact absurd q.symm e
   .have:=ih q;omega
theorem a2o{rest r:List Int}(h:rest.length=r.length):less rest r 0=rest:=gdx (by rw[B6 h,h]) λj _=>by rw[D4 h];omega
theorem a2n{rest r:List Int}(m:Int)(h:rest.length=r.length):List.zipWith (λa b=>a-b) (less rest r m) r=less rest r (m+1):=by
 refine gdx (by rw[List.length_zipWith,B6 h,B6 h];omega) λj hj=>?_;rw[B6 h]at hj;have e:(List.zipWith (λa b=>a-b) (less rest r m) r).getD j 0=(less rest r m).getD j 0-r.getD j 0:=by
  rw[List.getD_eq_getElem?_getD,List.getD_eq_getElem?_getD,List.getD_eq_getElem?_getD,List.getElem?_zipWith,List.getElem?_eq_getElem hj,List.getElem?_eq_getElem (by rw[B6 h];exact hj)];rfl
 rw[e,D4 h,D4 h,Int.add_mul];omega
theorem LY.down{n:Nat}{rss:LLI}{lo rest d:List Int}{k:Nat}(h:LY n rss lo rest d)(hp:Pts n rss)(hk:k<rss.length)(hrl:rest.length=n):LY n rss (wo lo k) (less rest (rss.getD k []) (d.getD k 0)) (d.set k 0):=by
 have hl:rest.length=(rss.getD k []).length:=by rw[hrl,(hp.at hk).1]
 refine⟨by rw[List.length_set];exact h.len,λc hc=>?_,λi hi=>?_,gdx (by rw[J4 hp.len,B6 hl,(hp.at hk).1]) λj hj=>?_⟩
 .rcases List.mem_or_eq_of_mem_set hc with q|q
  .exact h.nn c q
  .rw[q];exact Int.le_refl _
 .rw[a0J _ _ _ _ (by rw[h.len];exact hk)];split
  .rfl
  .rename_i e;exact h.off i λz=>hi (wo_mem.mpr ⟨z,by omega⟩)
 .rw[U4 hp.len,a1U (f:=λr=>r.getD j 0) 0 h.len hk,h.at hp j,D4 hl];rw[Int.sub_mul];omega
theorem LY.up{n:Nat}{rss:LLI}{lo rest d:List Int}{k:Nat}{m:Int}(h:LY n rss (wo lo k) (less rest (rss.getD k []) m) d)(hp:Pts n rss)(hk:k<rss.length)(hkl:(k:Int)∈lo)(hm:0<=m)(hrl:rest.length=n):LY n rss lo rest (d.set k m)/\d.getD k 0=0:=by
 have hl:rest.length=(rss.getD k []).length:=by rw[hrl,(hp.at hk).1]
 have h0:d.getD k 0=0:=h.off k λz=>(wo_mem.mp z).2 rfl;refine⟨⟨by rw[List.length_set];exact h.len,λc hc=>?_,λi hi=>?_,gdx (by rw[J4 hp.len,hrl]) λj hj=>?_⟩,h0⟩
 .rcases List.mem_or_eq_of_mem_set hc with q|q
  .exact h.nn c q
  .rw[q];exact hm
 .rw[a0J _ _ _ _ (by rw[h.len];exact hk)];split
  .rename_i e;exact absurd hkl (by rw[<-e];exact hi)
  .exact h.off i λz=>hi (wo_mem.mp z).1
 .rw[U4 hp.len,a1U (f:=λr=>r.getD j 0) m h.len hk,h.at hp j,D4 hl,h0,Int.sub_zero];omega
def Tb:Nat->Nat->Nat
 |0=>λ_=>0
 |l+1=>λs=>Nat.rec (motive:=λ_=>Nat) (1+Tb l 0) (λt x=>x+Tb l (t+1)) s
theorem b1s(l s:Nat):Tb l s<=Tb l (s+1):=by
 cases l with
 |zero=>exact Nat.le_refl _
 |succ l=>show Tb (l+1) s<=Tb (l+1) s+Tb l (s+1);omega
theorem a0B(l:Nat){s t:Nat}(h:s<=t):Tb l s<=Tb l t:=by
 induction h with
 |refl=>exact Nat.le_refl _
 |step _ ih=>exact Nat.le_trans ih (b1s l _)
theorem b1t(l s:Nat):Tb l s<=Tb (l+1) s:=by
 cases s with
 |zero=>show Tb l 0<=1+Tb l 0;omega
 |succ s=>show Tb l (s+1)<=Tb (l+1) s+Tb l (s+1);omega
theorem a0C{l k:Nat}(s:Nat)(h:l<=k):Tb l s<=Tb k s:=by
 induction h with
 |refl=>exact Nat.le_refl _
 |step _ ih=>exact Nat.le_trans ih (b1t _ s)
theorem b1u(l s:Nat):1<=Tb (l+1) s:=by
 induction s with
 |zero=>show 1<=1+Tb l 0;omega
 |succ s ih=>show 1<=Tb (l+1) s+Tb l (s+1);omega
def Tw(l s i:Nat):Nat:=if i<=s then Tb (l+1) (s-i)else 1
theorem b1q(l s:Nat):Tw l s 0=Tb (l+1) s:=by unfold Tw;rw[if_pos (Nat.zero_le _)];rfl
theorem b1p(l s i:Nat):1<=Tw l s i:=by unfold Tw;split;exact b1u _ _;exact Nat.le_refl _
theorem b1o{l s i:Nat}(h:i<=s):Tw l s (i+1)+Tb l (s-i)<=Tw l s i:=by
 unfold Tw;rw[if_pos h];by_cases h2:i+1<=s
 .rw[if_pos h2];obtain⟨t,ht⟩:∃t,s-i=t+1:=⟨s-i-1,by omega⟩;rw[ht,show s-(i+1)=t by omega];exact Nat.le_refl _
 .rw[if_neg h2,show s-i=0 by omega];exact Nat.le_refl _
theorem a3f{xs:List V}{v:V}:atI (xs++[v]) (-1)=some v:=by
 have e:ixN (xs++[v]).length (-1)=some xs.length:=by
  unfold ixN;rw[if_neg (by decide),if_pos (by rw[List.length_append];simp;omega)];rw[List.length_append];simp;omega
 unfold atI;rw[e];simp
def Rl(rest r:List Int)(q:Nat):LLI:=(List.range (q+1)).map λi=>less rest r (i:Nat)
theorem a1m(rest r:List Int)(q:Nat):Rl rest r (q+1)=Rl rest r q++[less rest r ((q+1:Nat):Int)]:=by
 unfold Rl;rw[List.range_succ,List.map_append];rfl
theorem a1H{H:Hp}{zs:List V}{rss:LLI}{r:List Int}(h:Its H zs (rss++[r])):∃ys v,zs=ys++[v]/\Its H ys rss/\IT H v r:=by
 have hl:zs.length=rss.length+1:=by rw[h.1,List.length_append];rfl
 have hlt:rss.length<zs.length:=by omega
 refine⟨zs.take rss.length,zs[rss.length],?_,⟨by rw[List.length_take];omega,λi v e=>?_⟩,?_⟩
 .have e:=O9 (List.getElem?_eq_getElem hlt);rw[List.drop_of_length_le (show zs.length<=rss.length+1 by omega)]at e;rw[<-e,List.take_append_drop]
 .have hi:i<rss.length:=by
   have:=(List.getElem?_eq_some_iff.mp e).1;rw[List.length_take]at this;omega
  rw[List.getElem?_take_of_lt hi]at e;obtain⟨x,e1,e2⟩:=h.2 i v e;rw[List.getElem?_append_left hi]at e1;exact⟨x,e1,e2⟩
 .obtain⟨x,e1,e2⟩:=h.2 rss.length _ (List.getElem?_eq_getElem hlt);rw[List.getElem?_append_right (Nat.le_refl _),Nat.sub_self]at e1;cases e1;exact e2
theorem N1{rest r:List Int}(h:rest.length=r.length)(m:Int):(less rest r m).sum=rest.sum-m*r.sum:=by
 have e:less rest r m=L4 rest (M7 (-m) r):=gdx (by rw[B6 h,I0 _ _ (by rw[B9,h]),B9]) λj hj=>by
  rw[D4 h,L3 _ _ (by rw[B9,h]),U9,Int.neg_mul];omega
 rw[e,Q7 _ _ (by rw[B9,h]),W6,Int.neg_mul];omega
theorem a0R{n:Nat}{rest r:List Int}{m:Int}(hr:rest.length=n)(hp:r.length=n)(h:∀j,j<n->m*r.getD j 0<=rest.getD j 0):∀x∈less rest r m,0<=x:=λx hx=>by
 obtain⟨i,hi,rfl⟩:=List.mem_iff_getElem.mp hx;have e:=D4 (rest:=rest) (r:=r) (m:=m) (by rw[hr,hp]) i;rw[List.getD_eq_getElem?_getD,List.getElem?_eq_getElem hi]at e;have e:(less rest r m)[i]=rest.getD i 0-m*r.getD i 0:=e;rw[B6 (by rw[hr,hp]),hp]at hi;have:=h i hi;omega
def Rs(n:Nat)(r:List Int):Prop:=r.length=n/\(∀x∈r,0<=x)/\r.sum<=1000000
theorem Rs.less{n:Nat}{rest r:List Int}{m:Int}(h:Rs n rest)(hp:a4j n r)(hm:0<=m)(hle:∀j,j<n->m*r.getD j 0<=rest.getD j 0):Rs n (less rest r m):=by
 have hl:rest.length=r.length:=by rw[h.1,hp.1]
 refine⟨by rw[B6 hl,hp.1],a0R h.1 hp.1 hle,?_⟩;rw[N1 hl];have:=Int.mul_nonneg hm (show 0<=r.sum by have:=hp.2.2;omega);have:=h.2.2;omega
theorem Rs.many{n:Nat}{rest r:List Int}{m:Int}(h:Rs n rest)(hp:a4j n r)(hm:0<=m)(hle:∀j,j<n->m*r.getD j 0<=rest.getD j 0):m<=rest.sum:=by
 have h1:=P5 _ (a0R h.1 hp.1 hle);rw[N1 (by rw[h.1,hp.1])]at h1;have h2:m*1<=m*r.sum:=Int.mul_le_mul_of_nonneg_left hp.2.2 hm;omega
section
variable {P:Program}{w:World}{K:PySem.W.Frag}{mg:Str->Option Value}{base:Heap}
inductive IspRests(vs:List V)(H:Hp)(Q:VK)(E:XK):Prop
 |mk (x y:V) (r rest:List Int) (n:Nat) (_:vs=[x,y]) (_:IT H x r) (_:IT H y rest) (_:n<=1000) (_:a4j n r) (_:Rs n rest) (_:∀(p:Addr) (zs:List V) (q:Nat) (H':Hp),H p=none->Same H H'->H' p=some (.lst zs)->Its H' zs (Rl rest r q)->(∀j,j<n->(q:Int)*r.getD j 0<=rest.getD j 0)->(∃j,j<n/\rest.getD j 0<((q:Int)+1)*r.getD j 0)->Q (.ref p) H'):IspRests  vs H Q E
def a2J:Sp:=λvs H Q E=>IspRests  vs H Q E
theorem sc_rests:FnScope ["one","rest","left"] ["one","rest"] (A2 V2):=⟨rfl,rfl,rfl,by decide +kernel,rfl,by decide +kernel,by decide +kernel⟩
theorem a5o(F:FunAt K mg "rests" V2 ["one","rest"])(T:Tx mg)(O_below:Ok P w K mg base "below" 1 ["one","other"] a0H)(O_minus:Ok P w K mg base "minus" 1 ["one","other"] (a4E λa b=>a-b)):Ok P w K mg base "rests" 2 ["one","rest"] a2J:=by
 refine F.okJ sc_rests (λvs H Q E h=>?_) (λcdv f A outer s H vs Q E hr h=>?_)
 .obtain⟨x,y,r,rest,n,rfl,_⟩:=h;rfl
 .obtain⟨x,y,r,rest,n,rfl,hx,hy,hn,hP,hR,k⟩:=h;have hz:(3000000:Nat)<=sizeLine:=by rw[sizeLine_eq];decide
  have hll:rest.length=r.length:=by rw[hR.1,hP.1]
  refine⟨_,(A1 (A8 (i:=2) sc_rests.nd rfl (Or.inl rfl) (K8 (jaC (jv 1) jaN)))
 (A1 (R6 (D5 K (B2 O_below (hr.mono (by omega)) rfl (jaC (jv 0) (jaC (J2 K (jv 2) (a2W A5)) jaN))))
 (A4 (R7 (K5 K (jv 2) (jaC (B2 O_minus (hr.mono (by omega)) rfl (jaC (J2 K (jv 2) (a2W A5)) (jaC (jv 0) jaN))) jaN)))))
 (A4 (B1 (jv 2))))),?_⟩
  refine⟨_,rfl,by show 1<=sizeLine;omega,λp hp=>?_⟩;have hfr:=hp;have s1:=(Same.refl H).upd (o:=.lst [y]) hp;have e1:upd H p (.lst [y]) p=some (.lst [y]):=A0;have hy1:=hy.same s1;generalize upd H p (.lst [y])=H1 at s1 e1 hy1;dsimp only[A7];refine⟨λm σ H'=>∃(i:Nat) (zs:List V),m=rest.sum.toNat+1-i/\σ=[some x,some y,some (.ref p)]/\Same H H'/\H' p=some (.lst zs)/\Its H' zs (Rl rest r i)/\∀j,j<n->(i:Int)*r.getD j 0<=rest.getD j 0,⟨_,0,[y],rfl,rfl,s1,e1,?_,λj hj=>?_⟩,?_⟩
  .rw[show Rl rest r 0=[rest] by show[less rest r ((0:Nat):Int)]=_;rw[show((0:Nat):Int)=0 from rfl,a2o hll]];exact Its.one hy1
  .have:=gd0 hR.2.1 j;show 0*_<=_;omega
  rintro m σ H' ⟨i,zs,rfl,rfl,s',hp',hI',hle⟩;have hmany:=hR.many hP (by omega) hle;obtain⟨ys,v,rfl,hy0,hv⟩:∃ys v,zs=ys++[v]/\(∃ts,Its H' ys ts/\Rl rest r i=ts++[less rest r (i:Int)])/\IT H' v (less rest r (i:Int)):=by
   cases i with
   |zero =>
    have e:Rl rest r 0=[]++[less rest r ((0:Nat):Int)]:=rfl;rw[e]at hI';obtain⟨ys,v,e1,e2,e3⟩:=a1H hI';exact⟨ys,v,e1,⟨[],e2,rfl⟩,e3⟩
   |succ i =>
    rw[a1m]at hI';obtain⟨ys,v,e1,e2,e3⟩:=a1H hI';exact⟨ys,v,e1,⟨_,e2,a1m _ _ _⟩,e3⟩
  have hlen:(ys++[v]).length=i+1:=by rw[hI'.1,Rl,List.length_map,List.length_range]
  refine⟨_,rfl,_,rfl,_,rfl,p,_,_,_,rfl,rfl,SqL.of hp',a3f,x,v,r,_,rfl,hx.same s',hv,by rw[hP.1];exact hn,λH2 s2=>?_⟩;refine⟨_,rfl,M9 (λe=>?_) (λe=>?_)⟩
  .have hb:=(W0 (by rw[B6 hll])).mp e;have hle':∀j,j<n->((i+1:Nat):Int)*r.getD j 0<=rest.getD j 0:=λj hj=>by
    have:=hb j (by rw[hP.1];exact hj);rw[D4 hll]at this;rw[Int.natCast_add,Int.add_mul];show(i:Int)*_+1*_<=_;omega
   have hmany':=hR.many hP (by omega) hle';refine⟨λσ H'=>∃zs:List V,σ=[some x,some y,some (.ref p)]/\Same H H'/\H' p=some (.lst zs)/\Its H' zs (Rl rest r (i+1)),λσ' H' ⟨zs,q1,q2,q3,q4⟩=>⟨_,by omega,i+1,zs,rfl,q1,q2,q3,q4,hle'⟩,?_⟩;have hp2:=s2 _ _ hp';refine⟨_,rfl,.inl ⟨rfl,_,SqL.of hp2⟩,_,rfl,_,rfl,p,_,_,_,rfl,rfl,SqL.of hp2,a3f,_,rfl,v,x,_,r,rfl,hv.same s2,(hx.same s').same s2,by rw[B6 hll,hP.1];exact hn,λv3 H3 s3 hv3=>?_⟩;have hp3:=s3 _ _ hp2;rw[a2n _ hll]at hv3;refine⟨p,_,_,rfl,rfl,hp3,by rw[hlen];have:=hR.2.2;omega,?_⟩;refine⟨_,rfl,λb u e=>by rw[A3 (A6 e hfr)];exact(s'.trans (s2.trans s3)) b u e,A0,?_⟩;rw[a1m];exact(((hI'.same s2).same s3).put hp3).app (Its.one (IT.put hv3 hp3))
  .have e':Bel r (less rest r (i:Int))=false:=by simpa using e
   refine⟨_,rfl,k p _ i _ hfr (s'.trans s2) (s2 _ _ hp') (hI'.same s2) hle ?_⟩;refine Classical.byContradiction λz=>e ((W0 (by rw[B6 hll])).mpr λj hj=>?_);rw[D4 hll];rw[hP.1]at hj;have:¬rest.getD j 0<((i:Int)+1)*r.getD j 0:=λy=>z ⟨j,hj,y⟩;rw[Int.add_mul]at this;omega
inductive IspWithout(vs:List V)(H:Hp)(Q:VK)(E:XK):Prop
 |mk (a:Addr) (lo:List Int) (k:Int) (_:vs=[.ref a,.int k]) (_:H a=some (.tup (lo.map V.int))) (_:lo.length<=1000) (_:∀(p:Addr) (H':Hp),Same H H'->H' p=some (.tup ((wo lo k).map V.int))->Q (.ref p) H'):IspWithout  vs H Q E
def a0f:Sp:=λvs H Q E=>IspWithout  vs H Q E
theorem a2e:FnScope ["numbers","k"] ["numbers","k"] (A2 O1):=⟨rfl,rfl,rfl,by decide +kernel,rfl,by decide +kernel,by decide +kernel⟩
theorem a2j(F:FunAt K mg "without" O1 ["numbers","k"])(T:Tx mg):Ok P w K mg base "without" 1 ["numbers","k"] a0f:=by
 refine F.okJ a2e (λvs H Q E h=>?_) (λcdv f A outer s H vs Q E hr h=>?_)
 .obtain⟨a,lo,k,rfl,_⟩:=h;rfl
 .obtain⟨a,lo,k0,rfl,ha,hl,k⟩:=h;refine⟨_,(A4 (B1 (E2 K rfl T.b_tuple (jaC (G4 (N:=["number","k"]) (src:=[none,some 1]) (N5 K (jv 0)) (by show D2 _ _=true;rfl) (by rfl) (by rfl)
 (λ_ _ _ _ _=>(A9 (i:=0) (show(["number","k"]:List Str).Nodup by decide +kernel) rfl (Or.inl rfl))) (λ_ _ _ _ _=>(Y1 (a8l (jv 0) (jv 1)))) (λ_ _ _ _ _=>(jv 0))) jaN)))),?_⟩
  refine⟨_,rfl,a,rfl,⟨_,SqT.of ha⟩,?_⟩;refine S4 (caps:=[some (.int k0)]) V.int (λx=>!decide (x=k0)) hl (λH' s=>SqT.of (s _ _ ha)) rfl (λx H1 Q1 _ _ q=>⟨_,rfl,_,rfl,rfl,_,?_,q H1 (Same.refl _)⟩) λH1 p s hp=>?_
  .simp
  .refine⟨p,_,rfl,.inl ⟨SqL.of A0,λl hl=>?_⟩⟩;exact k l _ ((s.upd hp).upd hl) A0
end
structure Shrt(n:Nat)(ps:LLI)(rest:List Int)(b:Int)(t:Bool):Prop where
 yes:t=true->∃(f:List Int->Int) (M:Int),(f=List.sum∨∃j:Nat,f=λr=>r.getD j 0)/\(∀p∈ps,f p<=M)/\0<=M/\b*M<f rest
 no:t=false->∀j,j<n->∃M,rest.getD j 0<=b*M/\(M=0∨∃p∈ps,p.getD j 0=M)
section
variable {P:Program}{w:World}{K:PySem.W.Frag}{mg:Str->Option Value}{base:Heap}
inductive IspShort(vs:List V)(H:Hp)(Q:VK)(E:XK):Prop
 |mk (a:Addr) (y:V) (b:Int) (us:List V) (ps:LLI) (rest:List Int) (n:Nat) (_:vs=[.ref a,y,.int b]) (_:H a=some (.lst us)) (_:Its H us ps) (_:IT H y rest) (_:us.length<=1000) (_:n<=1000) (_:Rs n rest) (_:(∀p∈ps,a4j n p)) (_:0<=b) (_:b<=1000000) (_:∀(t:Bool) (H':Hp),Same H H'->Shrt n ps rest b t->Q (.bl t) H'):IspShort  vs H Q E
def a2H:Sp:=λvs H Q E=>IspShort  vs H Q E
theorem sc_is_short:FnScope ["parts","rest","budget","j","number"] ["parts","rest","budget"] (A2 L6):=⟨rfl,rfl,rfl,by decide +kernel,rfl,by decide +kernel,by decide +kernel⟩
theorem a5m(F:FunAt K mg "is_short" L6 ["parts","rest","budget"])(T:Tx mg)(O_size:Ok P w K mg base "size" 1 ["one"] a2c):Ok P w K mg base "is_short" 2 ["parts","rest","budget"] a2H:=by
 refine F.okJ sc_is_short (λvs H Q E h=>?_) (λcdv f A outer s H vs Q E hr h=>?_)
 .obtain⟨a,y,b,us,ps,rest,n,rfl,_⟩:=h;rfl
 .obtain⟨a,y,b,us,ps,rest,n,rfl,ha,hI,hy,hl,hn,hR,hP,hb0,hb1,k⟩:=h;have hz:(3000000:Nat)<=sizeLine:=by rw[sizeLine_eq];decide
  refine⟨_,(A1 (D1 (a0n (B2 O_size (hr.mono (by omega)) rfl (jaC (jv 1) jaN)) (N7 (jv 2) (a2V K rfl T.b_max (jaC (G4 (N:=["part"]) (src:=[none]) (O7 K (jv 0)) (by show D2 _ _=true;rfl) (by rfl) (by rfl)
 (λ_ _ _ _ _=>(A9 (i:=0) (show(["part"]:List Str).Nodup by decide +kernel) rfl (Or.inl rfl))) (λ_ _ _ _ _=>M3) (λ_ _ _ _ _=>(B2 O_size (hr.mono (by omega)) rfl (jaC (jv 0) jaN)))) jaN))))
 (A4 (B1 Y3))
 B8)
 (A1 (G3 (a7m K rfl T.b_enumerate (jaC (jv 1) jaN)) (M1 K 2 (B5 (A9 (i:=3) sc_is_short.nd rfl (Or.inr rfl)) (B5 (A9 (i:=4) sc_is_short.nd rfl (Or.inl rfl)) G9)))
 (A4 (D1 (a0n (jv 4) (N7 (jv 2) (a2V K rfl T.b_max (jaC (G4 (N:=["part","j"]) (src:=[none,some 3]) (O7 K (jv 0)) (by show D2 _ _=true;rfl) (by rfl) (by rfl)
 (λ_ _ _ _ _=>(A9 (i:=0) (show(["part","j"]:List Str).Nodup by decide +kernel) rfl (Or.inl rfl))) (λ_ _ _ _ _=>M3) (λ_ _ _ _ _=>(R9 K (jv 0) (jv 1)))) jaN))))
 (A4 (B1 Y3))
 B8)))
 (A4 (B1 Y3)))),?_⟩
  refine Q8 (λσ H'=>σ=[some (.ref a),some y,some (.int b),none,none]/\Same H H') ?fin λfin=>?_
  case fin =>
   rintro σ H' ⟨rfl,s'⟩;obtain⟨va,rfl,hva⟩:=hy;refine⟨_,rfl,true,va,rfl,⟨_,SqT.of (s' _ _ hva)⟩,?_⟩;refine a5O (K:=K) (k:=true) (xs:=rest.map V.int) (λi σ H'=>Ex2 λo3 o4=>An3 (σ=[some (.ref a),some (.ref va),some (.int b),o3,o4]) (Same H H') (∀j,j<i->∃M,rest.getD j 0<=b*M/\(M=0∨∃p∈ps,p.getD j 0=M))) ⟨none,none,rfl,s',λj hj=>absurd hj (Nat.not_lt_zero _)⟩ (λi σ H' _ ⟨_,_,_,s',_⟩=>SqT.of (s' _ _ hva)) ?_ ?_
   .rintro i x σ H' p hx ⟨o3,o4,rfl,s',hj⟩ hp;obtain⟨x',hx',rfl⟩:=M6 hx;have hi:i<rest.length:=(List.getElem?_eq_some_iff.mp hx').1;have ex:rest.getD i 0=x':=by rw[List.getD_eq_getElem?_getD,hx'];rfl
    refine⟨p,[.int i,.int x'],rfl,SqT.of A0,rfl,.int i,[.int x'],rfl,.int x',[],rfl,rfl,?_⟩;have s3:=s'.upd (o:=.tup [.int i,.int x']) hp;generalize upd H' p (.tup [.int i,.int x'])=H4 at s3;dsimp only[A7];have ha4:=s3 _ _ ha;refine⟨_,rfl,_,rfl,_,rfl,a,rfl,⟨_,SqL.of ha4⟩,?_⟩;refine a0l (caps:=[some (.int i)]) (λr=>V.int (r.getD i 0)) (by omega) (λH' s5=>SqL.of (s5 _ _ ha4)) (hI.same s3) rfl (λv r H5 Q1 hr hv _ q=>?_) λH5 p5 s5 hp5=>?_
    .obtain⟨vb,rfl,hvb⟩:=hv;exact⟨_,rfl,_,rfl,vb,_,_,_,rfl,rfl,SqT.of hvb,Q5 (by rw[(hP r hr).1,<-hR.1];exact hi),q H5 (Same.refl _)⟩
    have s6:=s3.trans (s5.upd (o:=.lst (ps.map λr=>V.int (r.getD i 0))) hp5);have e6:upd H5 p5 (.lst (ps.map λr=>V.int (r.getD i 0))) p5=some (.lst ((ps.map λr=>r.getD i 0).map V.int)):=by rw[A0,List.map_map];rfl
    generalize upd H5 p5 (.lst (ps.map λr=>V.int (r.getD i 0)))=H6 at s6 e6;have goal:∀M:Int,(∀p∈ps,p.getD i 0<=M)->0<=M->(M=0∨∃p∈ps,p.getD i 0=M)->(b*M<x'->Q (.bl true) H6)/\(¬b*M<x'->∀j,j<i+1->∃M,rest.getD j 0<=b*M/\(M=0∨∃p∈ps,p.getD j 0=M)):=λM h1 h2 h3=>by
     refine⟨λe=>k true H6 s6 ⟨λ_=>⟨_,M,.inr ⟨i,rfl⟩,h1,h2,by rw[ex];exact e⟩,λz=>nomatch z⟩,λe j hj'=>?_⟩;by_cases hji:j<i
     .exact hj j hji
     .rw[show j=i by omega,ex];exact⟨M,by omega,h3⟩
    refine⟨p5,_,rfl,SqL.of e6,λz=>?_,λM hM hall=>?_⟩
    .have hps:ps=[]:=List.map_eq_nil_iff.mp z;obtain⟨g1,g2⟩:=goal 0 (λp hp=>by rw[hps]at hp;cases hp) (Int.le_refl _) (.inl rfl);refine⟨_,_,rfl,rfl,.inl ⟨by omega,by omega⟩,_,_,rfl,rfl,_,rfl,M9 (λe=>?_) (λe=>?_)⟩
     .exact g1 (of_decide_eq_true e)
     .exact⟨_,_,rfl,s6,g2 (λz=>e (decide_eq_true z))⟩
    .obtain⟨p0,hp0,e0⟩:=List.mem_map.mp hM;obtain⟨g1,g2⟩:=goal M (λp hp=>hall _ (List.mem_map.mpr ⟨p,hp,rfl⟩)) (by rw[<-e0];exact gd0 (λx hx=>((hP p0 hp0).2.1 x hx).1) i) (.inr ⟨p0,hp0,e0⟩);refine⟨_,_,rfl,rfl,.inl ⟨by omega,by omega⟩,_,_,rfl,rfl,_,rfl,M9 (λe=>?_) (λe=>?_)⟩
     .exact g1 (of_decide_eq_true e)
     .exact⟨_,_,rfl,s6,g2 (λz=>e (decide_eq_true z))⟩
   .rintro σ H' ⟨o3,o4,rfl,s',hj⟩;refine k false H' s' ⟨(λz=>nomatch z),λ_ j hj'=>hj j (by rw[List.length_map,hR.1];exact hj')⟩
  refine⟨_,rfl,y,rest,rfl,hy,λH1 s1=>?_⟩;refine⟨_,rfl,_,rfl,a,rfl,⟨_,SqL.of (s1 _ _ ha)⟩,?_⟩;refine a0l (caps:=[]) (λr=>V.int r.sum) (by omega) (λH' s'=>SqL.of (s' _ _ (s1 _ _ ha))) (hI.same s1) rfl (λv r H2 Q1 _ hv _ q=>⟨_,rfl,v,r,rfl,hv,λH3 s3=>q H3 s3⟩) λH2 p2 s2 hp2=>?_;have s12:=s1.trans (s2.upd (o:=.lst (ps.map λr=>V.int r.sum)) hp2);have e2:upd H2 p2 (.lst (ps.map λr=>V.int r.sum)) p2=some (.lst ((ps.map List.sum).map V.int)):=by rw[A0,List.map_map];rfl
  generalize upd H2 p2 (.lst (ps.map λr=>V.int r.sum))=H3 at s12 e2;have goal:∀M:Int,(∀p∈ps,p.sum<=M)->0<=M->b*M<rest.sum->Q (.bl true) H3:=λM h1 h2 e=>k true H3 s12 ⟨λ_=>⟨_,M,.inl rfl,h1,h2,e⟩,λz=>nomatch z⟩;refine⟨p2,_,rfl,SqL.of e2,λz=>?_,λM hM hall=>?_⟩
  .have hps:ps=[]:=List.map_eq_nil_iff.mp z;refine⟨_,_,rfl,rfl,.inl ⟨by omega,by omega⟩,_,_,rfl,rfl,_,rfl,M9 (λe=>?_) (λe=>fin _ _ ⟨rfl,s12⟩)⟩;exact goal 0 (λp hp=>by rw[hps]at hp;cases hp) (Int.le_refl _) (of_decide_eq_true e)
  .obtain⟨p0,hp0,e0⟩:=List.mem_map.mp hM;refine⟨_,_,rfl,rfl,.inl ⟨by omega,by omega⟩,_,_,rfl,rfl,_,rfl,M9 (λe=>?_) (λe=>fin _ _ ⟨rfl,s12⟩)⟩;exact goal M (λp hp=>hall _ (List.mem_map.mpr ⟨p,hp,rfl⟩)) (by rw[<-e0];exact P5 _ λx hx=>((hP p0 hp0).2.1 x hx).1) (of_decide_eq_true e)
end
def lfl(pa la ma:Addr):List (Str×V):=[("parts",.ref pa),("lost",.ref la),("met",.ref ma)]
section
variable (pa la ma:Addr)
theorem O5:(lfl pa la ma).lookup ("parts" : Str)=some (.ref pa):=by with_unfolding_all rfl
theorem a1A:(lfl pa la ma).lookup ("lost" : Str)=some (.ref la):=by with_unfolding_all rfl
theorem a1C:(lfl pa la ma).lookup ("fitting" : Str)=none:=by with_unfolding_all rfl
theorem a1D:(lfl pa la ma).lookup ("filling" : Str)=none:=by with_unfolding_all rfl
theorem Z8:(lfl pa la ma).lookup ("next_part" : Str)=none:=by with_unfolding_all rfl
theorem a1B:(lfl pa la ma).lookup ("is_lost" : Str)=none:=by with_unfolding_all rfl
theorem O4:(lfl pa la ma).lookup ("reach" : Str)=none:=by with_unfolding_all rfl
theorem a6x:G1 "met" (.ref ma) (G1 "lost" (.ref la) (G1 "parts" (.ref pa) []))=lfl pa la ma:=by with_unfolding_all rfl
end
theorem lp{f:Str}{v:V}{fs:List (Str×V)}{k:Nat}(h:fs.length<=k):(G1 f v fs).length<=k+1:=by
 refine Nat.le_trans ?_ (Nat.succ_le_succ h);clear h;induction fs with
 |nil=>exact Nat.le_refl _
 |cons p r ih =>
  obtain⟨g,x⟩:=p;show(if g=f then(g,v)::r else(g,x)::G1 f v r).length<=_;split
  .simp
  .simpa using ih
structure LTx(K:PySem.W.Frag)(C:Addr):Prop where
 cl:Cls K C
 n1:NoAttr K C "parts"
 n2:NoAttr K C "lost"
 n3:NoAttr K C "met"
structure LOb(C:Addr)(H:Hp)(p pa la ma:Addr)(rss:LLI):Prop where
 ob:∃dx,H p=some (.ins C dx (lfl pa la ma))
 hp:∃us,H pa=some (.tup us)/\Its H us rss/\us.length<=1000
theorem LOb.same{C:Addr}{H H':Hp}{p pa la ma:Addr}{rss:LLI}(h:LOb C H p pa la ma rss)(s:Same H H'):LOb C H' p pa la ma rss:=by
 obtain⟨⟨dx,h1⟩,⟨us,h2,h3,h4⟩⟩:=h;exact⟨⟨dx,s _ _ h1⟩,⟨us,s _ _ h2,h3.same s,h4⟩⟩
theorem Y4{H:Hp}{us:List V}{rss:LLI}(h:Its H us rss){k:Nat}(hk:k<rss.length):∃v,us[k]?=some v/\IT H v (rss.getD k []):=by
 have hk':k<us.length:=by rw[h.1];exact hk
 obtain⟨r,e1,e2⟩:=h.2 k _ (List.getElem?_eq_getElem hk');refine⟨_,List.getElem?_eq_getElem hk',?_⟩;rw[List.getD_eq_getElem?_getD,e1];exact e2
theorem b0i{us:List V}{v:V}{k:Int}(h0:0<=k)(h:us[k.toNat]?=some v):atI us k=some v:=by
 obtain⟨m,rfl⟩:∃m:Nat,k=m:=⟨k.toNat,by omega⟩;exact P1 h
section
variable {P:Program}{w:World}{K:PySem.W.Frag}{mg:Str->Option Value}{base:Heap}{C:Addr}
inductive IspLInit(C:Addr)(vs:List V)(H:Hp)(Q:VK)(E:XK):Prop
 |mk (p dx pa:Addr) (_:vs=[.ref p,.ref pa]) (_:H p=some (.ins C dx [])) (_:∀(la ma:Addr) (H':Hp),H la=none->H ma=none->H' p=some (.ins C dx (lfl pa la ma))->H' la=some (LdO la [])->H' ma=some (.lst [])->(∀b o,H b=some o->b≠p->H' b=some o)->Q .non H'):IspLInit C vs H Q E
def a2N(C:Addr):Sp:=λvs H Q E=>IspLInit C vs H Q E
theorem P6:FnScope ["self","told"] ["self","told"] (A2 C4):=⟨rfl,rfl,rfl,by decide +kernel,rfl,by decide +kernel,by decide +kernel⟩
theorem a5s(FM:MethAt K C "__init__" "Laying.__init__" C4 ["self","told"])(U:LTx K C):MethOk P w K mg base C "__init__" 1 ["self","told"] (a2N C):=by
 refine FM.fnJ P6 (λvs H Q E h=>?_) (λcdv f A outer s H vs Q E hr h=>?_)
 .obtain⟨p,dx,pa,rfl,_⟩:=h;rfl
 .obtain⟨p,dx,pa,rfl,hp,k⟩:=h;refine⟨_,(A1 (a2p K (jv 0) (jv 1))
 (A1 (a2p K (jv 0) a7s)
 (A4 (a2p K (jv 0) (K8 jaN))))),?_⟩
  refine⟨_,rfl,_,rfl,p,C,dx,_,rfl,hp,U.cl,U.n1,by decide,?_⟩;have k1:∀b o,H b=some o->b≠p->upd H p (.ins C dx (G1 "parts" (.ref pa) [])) b=some o:=λb o e hb=>by rw[A3 hb];exact e
  have e1:upd H p (.ins C dx (G1 "parts" (.ref pa) [])) p=some (.ins C dx (G1 "parts" (.ref pa) [])):=A0;have n1:∀b,upd H p (.ins C dx (G1 "parts" (.ref pa) [])) b=none->H b=none:=λb e=>by
   by_cases hb:b=p
   .subst hb;rw[A0]at e;cases e
   .rwa[A3 hb]at e
  generalize upd H p (.ins C dx (G1 "parts" (.ref pa) []))=H1 at k1 e1 n1;intro la hla;have pl:p≠la:=A6 e1 hla;refine⟨_,rfl,p,C,dx,_,rfl,by rw[A3 pl];exact e1,U.cl,U.n2,Nat.lt_of_le_of_lt (lp (Nat.le_refl 0)) (by decide),?_⟩;refine⟨Nat.zero_le _,λma hma=>?_⟩;have pm:p≠ma:=λz=>by subst z;rw[A0]at hma;cases hma
  have hma1:upd H1 la (LdO la []) ma=none:=by rwa[A3 pm.symm]at hma
  have lm:la≠ma:=A6 (o:=LdO la []) A0 hma1;have hma0:H1 ma=none:=by rwa[A3 lm.symm]at hma1
  refine⟨_,rfl,p,C,dx,_,rfl,by rw[A3 pm];exact A0,U.cl,U.n3,Nat.lt_of_le_of_lt (lp (lp (Nat.le_refl 0))) (by decide),?_⟩;refine k la ma _ (n1 _ hla) (n1 _ hma0) ?_ ?_ ?_ λb o e hb=>?_
  .rw[A0,a6x]
  .rw[A3 pl.symm,A3 lm,A3 pl.symm,A0]
  .rw[A3 pm.symm,A0]
  .have e2:=k1 b o e hb;rw[A3 hb,A3 (A6 e2 hma0),A3 hb,A3 (A6 e2 hla)];exact e2
inductive IspFit(C:Addr)(vs:List V)(H:Hp)(Q:VK)(E:XK):Prop
 |mk (p pa la ma a:Addr) (y:V) (rss:LLI) (lo rest:List Int) (n:Nat) (_:vs=[.ref p,.ref a,y]) (_:LOb C H p pa la ma rss) (_:H a=some (.tup (lo.map V.int))) (_:Lo rss.length lo) (_:lo.length<=1000) (_:IT H y rest) (_:rest.length=n) (_:Pts n rss) (_:n<=1000) (_:∀(q:Addr) (H':Hp),Same H H'->H' q=some (.tup ((ft rss lo rest).map V.int))->Q (.ref q) H'):IspFit C vs H Q E
def a7V(C:Addr):Sp:=λvs H Q E=>IspFit C vs H Q E
theorem R0:FnScope ["self","loose","rest"] ["self","loose","rest"] (A2 C9):=⟨rfl,rfl,rfl,by decide +kernel,rfl,by decide +kernel,by decide +kernel⟩
theorem a9B(FM:MethAt K C "fitting" "Laying.fitting" C9 ["self","loose","rest"])(T:Tx mg)(U:LTx K C)(O_below:Ok P w K mg base "below" 1 ["one","other"] a0H):MethOk P w K mg base C "fitting" 2 ["self","loose","rest"] (a7V C):=by
 refine FM.fnJ R0 (λvs H Q E h=>?_) (λcdv f A outer s H vs Q E hr h=>?_)
 .obtain⟨p,pa,la,ma,a,y,rss,lo,rest,n,rfl,_⟩:=h;rfl
 .obtain⟨p,pa,la,ma,a,y,rss,lo,rest,n,rfl,hO,ha,hL,hl,hy,hrl,hP,hn,k⟩:=h;obtain⟨⟨dx,ho⟩,⟨us,hu,hI,hul⟩⟩:=hO;refine⟨_,(A4 (B1 (E2 K rfl T.b_tuple (jaC (G4 (N:=["k","self","rest"]) (src:=[none,some 0,some 2]) (N5 K (jv 1)) (by show D2 _ _=true;rfl) (by rfl) (by rfl)
 (λ_ _ _ _ _=>(A9 (i:=0) (show(["k","self","rest"]:List Str).Nodup by decide +kernel) rfl (Or.inl rfl))) (λ_ _ _ _ _=>(Y1 (D5 K (B2 O_below (hr.mono (by omega)) rfl (jaC (R9 K (a0p K (jv 1)) (jv 0)) (jaC (jv 2) jaN)))))) (λ_ _ _ _ _=>(jv 0))) jaN)))),?_⟩
  refine⟨_,rfl,a,rfl,⟨_,SqT.of ha⟩,?_⟩;refine S4 (caps:=[some (.ref p),some y]) V.int (λx=>Bel (rss.getD x.toNat []) rest) hl (λH' s=>SqT.of (s _ _ ha)) rfl (λx H1 Q1 hx s1 q=>?_) λH1 q1 s1 hq1=>?_
  .have hk:=hL.2 x hx;obtain⟨v,hv1,hv2⟩:=Y4 (k:=x.toNat) hI (by omega);refine⟨_,rfl,p,C,dx,_,_,rfl,s1 _ _ ho,U.cl,U.n1,O5 pa la ma,_,rfl,pa,us,x,v,rfl,rfl,SqT.of (s1 _ _ hu),b0i hk.1 hv1,_,rfl,v,y,_,rest,rfl,hv2.same s1,hy.same s1,by rw[(hP.at (by omega)).1];exact hn,λH2 s2=>⟨_,rfl,q H2 s2⟩⟩
  .refine⟨q1,_,rfl,.inl ⟨SqL.of A0,λl hl=>?_⟩⟩;exact k l _ ((s1.upd hq1).upd hl) A0
def fl(rss:LLI)(lo:List Int)(j:Nat):List Int:=lo.filter λk=>decide (0<(rss.getD k.toNat []).getD j 0)
inductive IspFill(C:Addr)(vs:List V)(H:Hp)(Q:VK)(E:XK):Prop
 |mk (p pa la ma a:Addr) (j:Nat) (rss:LLI) (lo:List Int) (n:Nat) (_:vs=[.ref p,.ref a,.int j]) (_:LOb C H p pa la ma rss) (_:H a=some (.tup (lo.map V.int))) (_:Lo rss.length lo) (_:lo.length<=1000) (_:j<n) (_:Pts n rss) (_:n<=1000) (_:∀(q:Addr) (H':Hp),Same H H'->H' q=some (.lst ((fl rss lo j).map V.int))->Q (.ref q) H'):IspFill C vs H Q E
def a4I(C:Addr):Sp:=λvs H Q E=>IspFill C vs H Q E
theorem R1:FnScope ["self","loose","j"] ["self","loose","j"] (A2 D0):=⟨rfl,rfl,rfl,by decide +kernel,rfl,by decide +kernel,by decide +kernel⟩
theorem a7g(FM:MethAt K C "filling" "Laying.filling" D0 ["self","loose","j"])(T:Tx mg)(U:LTx K C):MethOk P w K mg base C "filling" 1 ["self","loose","j"] (a4I C):=by
 refine FM.fnJ R1 (λvs H Q E h=>?_) (λcdv f A outer s H vs Q E hr h=>?_)
 .obtain⟨p,pa,la,ma,a,j,rss,lo,n,rfl,_⟩:=h;rfl
 .obtain⟨p,pa,la,ma,a,j,rss,lo,n,rfl,hO,ha,hL,hl,hj,hP,hn,k⟩:=h;obtain⟨⟨dx,ho⟩,⟨us,hu,hI,hul⟩⟩:=hO;refine⟨_,(A4 (B1 (G4 (N:=["k","self","j"]) (src:=[none,some 0,some 2]) (N5 K (jv 1)) (by show D2 _ _=true;rfl) (by rfl) (by rfl)
 (λ_ _ _ _ _=>(A9 (i:=0) (show(["k","self","j"]:List Str).Nodup by decide +kernel) rfl (Or.inl rfl))) (λ_ _ _ _ _=>(Y1 (a0n (R9 K (R9 K (a0p K (jv 1)) (jv 0)) (jv 2)) A5))) (λ_ _ _ _ _=>(jv 0))))),?_⟩
  refine⟨_,rfl,a,rfl,⟨_,SqT.of ha⟩,?_⟩;refine S4 (caps:=[some (.ref p),some (.int j)]) V.int (λx=>decide (0<(rss.getD x.toNat []).getD j 0)) hl (λH' s=>SqT.of (s _ _ ha)) rfl (λx H1 Q1 hx s1 q=>?_) λH1 q1 s1 hq1=>?_
  .have hk:=hL.2 x hx;obtain⟨v,hv1,vb,rfl,hv2⟩:=Y4 (k:=x.toNat) hI (by omega);exact⟨_,rfl,p,C,dx,_,_,rfl,s1 _ _ ho,U.cl,U.n1,O5 pa la ma,_,rfl,pa,us,x,_,rfl,rfl,SqT.of (s1 _ _ hu),b0i hk.1 hv1,_,rfl,vb,_,_,_,rfl,rfl,SqT.of (s1 _ _ hv2),Q5 (by rw[(hP.at (by omega)).1];exact hj),_,_,rfl,rfl,_,rfl,q H1 (Same.refl _)⟩
  .exact k q1 _ (s1.upd hq1) A0
end
theorem a4p{kvs:List (LLI×V)}{k:LLI}{v:V}(h:W3 kvs k=some v):(k,v)∈kvs:=by
 unfold W3 at h;obtain⟨p,h1,h2⟩:=Option.map_eq_some_iff.mp h;have h3:=List.mem_of_find?_eq_some h1;have h4:p.1=k:=by simpa using List.find?_some h1
 rw[<-h4,<-h2];exact h3
theorem a4T{kvs:List (LLI×V)}{k:LLI}{v:V}{p:LLI×V}(h:p∈a1x kvs k v):p∈kvs∨p=(k,v):=by
 unfold a1x at h;split at h
 .obtain⟨q,hq,rfl⟩:=List.mem_map.mp h;by_cases e:q.1=k
  .rw[if_pos e];exact .inr (by rw[e])
  .rw[if_neg e];exact .inl hq
 .rcases List.mem_append.mp h with q|q
  .exact .inl q
  .exact .inr (List.mem_singleton.mp q)
def LsOk(n:Nat)(rss:LLI)(kvs:List (LLI×V)):Prop:=∀q∈kvs,∃(lo rest:List Int) (b:Int),q=([lo,rest],.int b)/\∀d,LY n rss lo rest d->b<d.sum
theorem LsOk.put{n:Nat}{rss:LLI}{kvs:List (LLI×V)}{lo rest:List Int}{b:Int}(h:LsOk n rss kvs)(hb:∀d,LY n rss lo rest d->b<d.sum):LsOk n rss (a1x kvs [lo,rest] (.int b)):=λq hq=>by
 rcases a4T hq with z|z
 .exact h q z
 .exact⟨lo,rest,b,z,hb⟩
def b0n(n:Nat)(rss:LLI)(lo rest:List Int):Prop:=∀j,j<n->0<rest.getD j 0->∃k∈lo,0<(rss.getD k.toNat []).getD j 0
theorem a4K{n:Nat}{rss:LLI}{lo rest:List Int}{b:Int}{t:Bool}(h:Shrt n (lo.map λk=>rss.getD k.toNat []) rest b t)(ht:t=true)(hp:Pts n rss)(hl:Lo rss.length lo)(hb:0<=b):∀d,LY n rss lo rest d->b<d.sum:=λd hd=>by
 obtain⟨f,M,hf,hM,hM0,hlt⟩:=h.yes ht;have e:ws f rss d=f rest:=by
  rcases hf with rfl|⟨j,rfl⟩
  .exact hd.sum hp
  .exact hd.at hp j
 have h1:ws f rss d<=d.sum*M:=a7N hd.nn hd.len λk hk=>by
  by_cases hm:(k:Int)∈lo
  .exact .inr (hM _ (List.mem_map.mpr ⟨(k:Int),hm,by rw[Int.toNat_natCast]⟩))
  .exact .inl (hd.off k hm)
 rw[e]at h1;refine Int.not_le.mp λz=>?_;have:=Int.mul_le_mul_of_nonneg_right z hM0;omega
theorem a6p{n:Nat}{rss:LLI}{lo rest:List Int}{b:Int}{t:Bool}(h:Shrt n (lo.map λk=>rss.getD k.toNat []) rest b t)(ht:t=false)(hp:Pts n rss)(hl:Lo rss.length lo)(hb:0<=b):b0n n rss lo rest:=λj hj hpos=>by
 obtain⟨M,h1,h2⟩:=h.no ht j hj;rcases h2 with rfl|⟨p,hp',rfl⟩
 .omega
 .obtain⟨k,hk,rfl⟩:=List.mem_map.mp hp';have hkk:=hl.2 k hk;have h0:=hp.nn j _ (gdm (k:=k.toNat) (by omega));refine⟨k,hk,?_⟩;rcases Int.lt_or_eq_of_le h0 with q|q
  .exact q
  .rw[<-q]at h1;omega
section
variable {P:Program}{w:World}{K:PySem.W.Frag}{mg:Str->Option Value}{base:Heap}{C:Addr}
inductive IspNextP(C:Addr)(vs:List V)(H:Hp)(Q:VK)(E:XK):Prop
 |mk (p pa la ma a:Addr) (y:V) (rss:LLI) (lo rest:List Int) (n:Nat) (_:vs=[.ref p,.ref a,y]) (_:LOb C H p pa la ma rss) (_:H a=some (.tup (lo.map V.int))) (_:Lo rss.length lo) (_:lo.length<=1000) (_:IT H y rest) (_:rest.length=n) (_:Pts n rss) (_:n<=1000) (_:(∃j,j<n/\0<rest.getD j 0)) (_:b0n n rss lo rest) (_:∀(k:Int) (H':Hp),k∈lo->Same H H'->Q (.int k) H'):IspNextP C vs H Q E
def a2L(C:Addr):Sp:=λvs H Q E=>IspNextP C vs H Q E
theorem sc_Laying_next_part:FnScope ["self","loose","rest","places"] ["self","loose","rest"] (A2 C2):=⟨rfl,rfl,rfl,by decide +kernel,rfl,by decide +kernel,by decide +kernel⟩
theorem a5r(FM:MethAt K C "next_part" "Laying.next_part" C2 ["self","loose","rest"])(T:Tx mg)(CL_Laying:Cls K C)(O_Laying_filling:MethOk P w K mg base C "filling" 1 ["self","loose","j"] (a4I C)):MethOk P w K mg base C "next_part" 2 ["self","loose","rest"] (a2L C):=by
 refine FM.fnJ sc_Laying_next_part (λvs H Q E h=>?_) (λcdv f A outer s H vs Q E hr h=>?_)
 .obtain⟨p,pa,la,ma,a,y,rss,lo,rest,n,rfl,_⟩:=h;rfl
 .obtain⟨p,pa,la,ma,a,y,rss,lo,rest,n,rfl,hO,ha,hL,hl,hy,hrl,hP,hn,⟨j0,hj0,hpos0⟩,hF,k⟩:=h;have hz:(3000000:Nat)<=sizeLine:=by rw[sizeLine_eq];decide
  obtain⟨va,rfl,hva⟩:=id hy;obtain⟨dx,ho⟩:=hO.ob;refine⟨_,(A1 (a2U (i:=3) sc_Laying_next_part.nd rfl (Or.inl rfl) (N:=["j","rest"]) (src:=[none,some 2]) (K6 rfl T.b_range (jaC (N6 K rfl T.b_len (jaC (jv 2) jaN)) jaN)) (by show D2 _ _=true;rfl) (by rfl) (by rfl)
 (λ_ _ _ _ _=>(A9 (i:=0) (show(["j","rest"]:List Str).Nodup by decide +kernel) rfl (Or.inl rfl))) (λ_ _ _ _ _=>(Y1 (a0n (R9 K (jv 1) (jv 0)) A5))) (λ_ _ _ _ _=>(jv 0)))
 (A4 (B1 (b0X K (a7n K rfl T.b_min rfl T.b_len (jaC (G4 (N:=["j","self","loose"]) (src:=[none,some 0,some 1]) (O7 K (jv 3)) (by show D2 _ _=true;rfl) (by rfl) (by rfl)
 (λ_ _ _ _ _=>(A9 (i:=0) (show(["j","self","loose"]:List Str).Nodup by decide +kernel) rfl (Or.inl rfl))) (λ_ _ _ _ _=>M3) (λ_ _ _ _ _=>(N8 O_Laying_filling CL_Laying (hr.mono (by omega)) (jv 1) (jaC (jv 2) (jaC (jv 0) jaN))))) jaN)) A5)))),?_⟩
  refine⟨_,rfl,va,_,rfl,.inr (SqT.of hva),_,rfl,by omega,by rw[List.length_map,hrl];omega,?_⟩;rw[List.length_map,hrl,Int.toNat_natCast];refine Z3 (lo:=0) (n:=n) (by omega) (λi ys H'=>H'=H/\ys=((List.range i).filter λj=>decide (0<rest.getD j 0)).map λ(j:Nat)=>V.int (j:Int)) ⟨rfl,rfl⟩ (λi ys H' h=>by rw[h.2,List.length_map];exact Nat.le_trans (List.length_filter_le _ _) (by rw[List.length_range];exact Nat.le_refl _)) ?_ ?_
  .rintro i ys H' hi ⟨rfl,rfl⟩;rw[Int.zero_add];refine⟨Sub.one,_,rfl,_,rfl,va,_,_,_,rfl,rfl,SqT.of hva,Q5 (by rw[hrl];exact hi),_,_,rfl,rfl,_,rfl,?_⟩;rw[List.range_succ,List.filter_append,List.map_append];refine M9 (λe=>?_) (λe=>?_)
   .refine⟨_,rfl,rfl,?_⟩;rw[show([i].filter λj=>decide (0<rest.getD j 0))=[i] by rw[List.filter_cons,if_pos e];rfl];rfl
   .refine⟨rfl,?_⟩;rw[show([i].filter λj=>decide (0<rest.getD j 0))=[] by rw[List.filter_cons,if_neg e];rfl];rw[List.map_nil,List.append_nil]
  .rintro ys H' ⟨rfl,rfl⟩ pl hpl;have s1:=(Same.refl H').upd (o:=.lst (((List.range n).filter λj=>decide (0<rest.getD j 0)).map λ(j:Nat)=>V.int (j:Int))) hpl;have e1:upd H' pl (.lst (((List.range n).filter λj=>decide (0<rest.getD j 0)).map λ(j:Nat)=>V.int (j:Int))) pl=some (.lst (((List.range n).filter λj=>decide (0<rest.getD j 0)).map λ(j:Nat)=>V.int (j:Int))):=A0;generalize upd H' pl (.lst (((List.range n).filter λj=>decide (0<rest.getD j 0)).map λ(j:Nat)=>V.int (j:Int)))=H1 at s1 e1;dsimp only[A7];have hjs:∀j∈(List.range n).filter λj=>decide (0<rest.getD j 0),j<n/\0<rest.getD j 0:=λj hj=>by
    obtain⟨h1,h2⟩:=List.mem_filter.mp hj;exact⟨List.mem_range.mp h1,of_decide_eq_true h2⟩
   have hj0m:j0∈(List.range n).filter λj=>decide (0<rest.getD j 0):=List.mem_filter.mpr ⟨List.mem_range.mpr hj0,decide_eq_true hpos0⟩;have hjl:((List.range n).filter λj=>decide (0<rest.getD j 0)).length<=1000:=Nat.le_trans (List.length_filter_le _ _) (by rw[List.length_range];exact hn);generalize (List.range n).filter (λj=>decide (0<rest.getD j 0))=js at e1 hjs hj0m hjl;refine⟨_,rfl,pl,rfl,⟨_,SqL.of e1⟩,?_⟩;refine T4 (xs:=js.map λ(j:Nat)=>V.int (j:Int)) (by rw[List.length_map];omega) (λi ys H'=>Same H1 H'/\ys.length=i/\∀v∈ys,∃(c:Addr) (j:Nat),j∈js/\v=.ref c/\H' c=some (.lst ((fl rss lo j).map V.int))) ⟨Same.refl _,rfl,λv hv=>nomatch hv⟩ (λi ys H' _ h=>⟨SqL.of (h.1 _ _ e1),by rw[h.2.1];exact Nat.le_refl _⟩) ?_ ?_
   .rintro i x ys H2 hx ⟨s2,hyl,hys⟩;obtain⟨j,hj,rfl⟩:∃j∈js,x=V.int ((j:Nat):Int):=by
     rw[List.getElem?_map]at hx;obtain⟨j,h1,h2⟩:=Option.map_eq_some_iff.mp hx;exact⟨j,List.mem_of_getElem? h1,h2.symm⟩
    have s02:=s1.trans s2;refine⟨Sub.one,_,rfl,p,dx,_,rfl,s02 _ _ ho,a1D pa la ma,_,rfl,_,rfl,?_⟩;refine⟨p,pa,la,ma,a,j,rss,lo,n,rfl,hO.same s02,s02 _ _ ha,hL,hl,(hjs j hj).1,hP,hn,λq H3 s3 hq=>⟨s2.trans s3,by rw[List.length_append,hyl];rfl,λv hv=>?_⟩⟩;rcases List.mem_append.mp hv with z|z
    .obtain⟨c,j',h1,h2,h3⟩:=hys v z;exact⟨c,j',h1,h2,s3 _ _ h3⟩
    .exact⟨q,j,hj,List.mem_singleton.mp z,hq⟩
   .rintro ys H2 ⟨s2,hyl,hys⟩ pm hpm;rw[List.length_map]at hyl;have s3:=(Same.refl H2).upd (o:=.lst ys) hpm;have e3:upd H2 pm (.lst ys) pm=some (.lst ys):=A0;generalize upd H2 pm (.lst ys)=H3 at s3 e3;refine⟨pm,ys,rfl,SqL.of e3,?_,λv hv=>?_,λv hv=>?_⟩
    .rw[hyl];exact List.length_pos_of_mem hj0m
    .obtain⟨c,j,h1,h2,h3⟩:=hys v hv;exact⟨c,_,h2,SqL.of (s3 _ _ h3)⟩
    .obtain⟨c,j,h1,rfl,h3⟩:=hys v hv;have hjj:=hjs j h1;obtain⟨k1,hk1,hk2⟩:=hF j hjj.1 hjj.2;have hne:fl rss lo j≠[]:=λz=>by
      have:k1∈fl rss lo j:=List.mem_filter.mpr ⟨hk1,decide_eq_true hk2⟩;rw[z]at this;cases this
     obtain⟨k0,ks,e0⟩:=List.exists_cons_of_ne_nil hne;have hk0:k0∈lo:=by
      have:k0∈fl rss lo j:=by rw[e0];exact List.mem_cons_self
      exact(List.mem_filter.mp this).1
     refine .inl ⟨c,_,0,.int k0,rfl,rfl,SqL.of (s3 _ _ h3),by rw[e0];exact P1 (j:=0) rfl,?_⟩;exact k k0 _ hk0 ((s1.trans s2).trans s3)
structure LSt(C:Addr)(H:Hp)(p pa la ma:Addr)(rss:LLI)(kvs:List (LLI×V))(ms:LLI):Prop where
 ob:LOb C H p pa la ma rss
 lo:LD H la kvs
 me:∃fs,H ma=some (.lst fs)/\Its H fs ms
theorem LSt.same{C:Addr}{H H':Hp}{p pa la ma:Addr}{rss:LLI}{kvs:List (LLI×V)}{ms:LLI}(h:LSt C H p pa la ma rss kvs ms)(s:Same H H'):LSt C H' p pa la ma rss kvs ms :=
 ⟨h.ob.same s,h.lo.same s,let ⟨fs,e,q⟩:=h.me;⟨fs,s _ _ e,q.same s⟩⟩
inductive IspIsLost(C:Addr)(vs:List V)(H:Hp)(Q:VK)(E:XK):Prop
 |mk (p pa la ma a:Addr) (y:V) (b:Int) (rss:LLI) (kvs:List (LLI×V)) (ms:LLI) (lo rest:List Int) (n:Nat) (_:vs=[.ref p,.ref a,y,.int b]) (_:LSt C H p pa la ma rss kvs ms) (_:LsOk n rss kvs) (_:H a=some (.tup (lo.map V.int))) (_:Lo rss.length lo) (_:lo.length<=1000) (_:IT H y rest) (_:Rs n rest) (_:Pts n rss) (_:n<=1000) (_:0<=b) (_:b<=1000000) (_:∀(t:Bool) (H':Hp),Same H H'->(t=true->∀d,LY n rss lo rest d->b<d.sum)->(t=false->b0n n rss lo rest)->Q (.bl t) H'):IspIsLost C vs H Q E
def a1u(C:Addr):Sp:=λvs H Q E=>IspIsLost C vs H Q E
theorem Q9:FnScope ["self","loose","rest","budget"] ["self","loose","rest","budget"] (A2 C8):=⟨rfl,rfl,rfl,by decide +kernel,rfl,by decide +kernel,by decide +kernel⟩
theorem a3x(FM:MethAt K C "is_lost" "Laying.is_lost" C8 ["self","loose","rest","budget"])(T:Tx mg)(U:LTx K C)(O_is_short:Ok P w K mg base "is_short" 2 ["parts","rest","budget"] a2H):MethOk P w K mg base C "is_lost" 3 ["self","loose","rest","budget"] (a1u C):=by
 refine FM.fnJ Q9 (λvs H Q E h=>?_) (λcdv f A outer s H vs Q E hr h=>?_)
 .obtain⟨p,pa,la,ma,a,y,b,rss,kvs,ms,lo,rest,n,rfl,_⟩:=h;rfl
 .obtain⟨p,pa,la,ma,a,y,b,rss,kvs,ms,lo,rest,n,rfl,hS,hK,ha,hL,hl,hy,hR,hP,hn,hb0,hb1,k⟩:=h;have hz:(3000000:Nat)<=sizeLine:=by rw[sizeLine_eq];decide
  have hu:=hr.u60;obtain⟨dx,ho⟩:=hS.ob.ob;refine⟨_,(A1 (D1 (a8m (a9S hu (a0p K (jv 0)) (K7 (jaC (jv 1) (jaC (jv 2) jaN))) (a2W A5)) (jv 3))
 (A4 (B1 Y3))
 B8)
 (A4 (B1 (B2 O_is_short (hr.mono (by omega)) rfl (jaC (G4 (N:=["k","self"]) (src:=[none,some 0]) (N5 K (jv 1)) (by show D2 _ _=true;rfl) (by rfl) (by rfl)
 (λ_ _ _ _ _=>(A9 (i:=0) (show(["k","self"]:List Str).Nodup by decide +kernel) rfl (Or.inl rfl))) (λ_ _ _ _ _=>M3) (λ_ _ _ _ _=>(R9 K (a0p K (jv 1)) (jv 0)))) (jaC (jv 2) (jaC (jv 3) jaN))))))),?_⟩
  refine Q8 (λσ H'=>σ=[some (.ref p),some (.ref a),some y,some (.int b)]/\Same H H') ?fin λfin=>?_
  case fin =>
   rintro σ H1 ⟨rfl,s1⟩;obtain⟨us,hu1,hI,hul⟩:=hS.ob.hp;refine⟨_,rfl,a,rfl,⟨_,SqT.of (s1 _ _ ha)⟩,?_⟩;have hlm:∀k∈lo,0<=k/\k<rss.length:=hL.2;refine Z2 (xs:=lo.map V.int) (by rw[List.length_map];omega) (λi ys H'=>Same H1 H'/\ys.length=i/\Its H' ys ((lo.take i).map λk=>rss.getD k.toNat [])) ⟨Same.refl _,rfl,.nil⟩ (λi ys H' _ h=>⟨SqT.of (h.1 _ _ (s1 _ _ ha)),by rw[h.2.1];exact Nat.le_refl _⟩) ?_ ?_
   .rintro i x ys H2 hx ⟨s2,hyl,hys⟩;obtain⟨k1,hk1,rfl⟩:=M6 hx;have hkk:=hlm k1 (List.mem_of_getElem? hk1);obtain⟨v,hv1,hv2⟩:=Y4 (k:=k1.toNat) hI (by omega);have s02:=s1.trans s2;refine⟨Sub.one,_,rfl,p,C,dx,_,_,rfl,s02 _ _ ho,U.cl,U.n1,O5 pa la ma,_,rfl,pa,us,k1,v,rfl,rfl,SqT.of (s02 _ _ hu1),b0i hkk.1 hv1,s2,by rw[List.length_append,hyl];rfl,?_⟩;rw[List.take_add_one,hk1,List.map_append];exact hys.app (Its.one (hv2.same s02))
   .rintro ys H2 ⟨s2,hyl,hys⟩ pm hpm;rw[List.length_map]at hyl hys;rw[List.take_length]at hys;have s3:=(Same.refl H2).upd (o:=.lst ys) hpm;have e3:upd H2 pm (.lst ys) pm=some (.lst ys):=A0;generalize upd H2 pm (.lst ys)=H3 at s3 e3;have s03:=(s1.trans s2).trans s3;refine⟨_,rfl,_,rfl,pm,y,b,ys,_,rest,n,rfl,e3,hys.same s3,hy.same s03,by rw[hyl];exact hl,hn,hR,λq hq=>?_,hb0,hb1,λt H4 s4 ht=>?_⟩
    .obtain⟨k1,hk1,rfl⟩:=List.mem_map.mp hq;have:=hlm k1 hk1;exact hP.at (by omega)
    .exact k t H4 (s03.trans s4) (λz=>a4K ht z hP hL hb0) (λz=>a6p ht z hP hL hb0)
  refine⟨_,rfl,p,C,dx,_,_,rfl,ho,U.cl,U.n2,a1A pa la ma,la,kvs,rfl,hS.lo,_,rfl,_,rfl,by show 2<=sizeLine;omega,λtp htp=>?_⟩;have s1:=(Same.refl H).upd (o:=.tup [.ref a,y]) htp;have e1:upd H tp (.tup [.ref a,y]) tp=some (.tup [.ref a,y]):=A0;generalize upd H tp (.tup [.ref a,y])=H1 at s1 e1;have hT:Tq H1 tp [lo,rest]:=⟨[.ref a,y],e1,rfl,λi v e=>by
   match i,e with
   |0,e=>cases e;exact⟨lo,rfl,a,rfl,s1 _ _ ha⟩
   |1,e=>cases e;exact⟨rest,rfl,hy.same s1⟩
   |i+2,e=>exact nomatch e⟩
  refine⟨_,rfl,tp,[lo,rest],rfl,hS.lo.same s1,hT,_,rfl,?_⟩;cases ev:W3 kvs [lo,rest]with
  |none =>
   refine⟨_,_,rfl,rfl,false,congrArg V.bl (decide_eq_false (by show ¬b <= -1;omega)),M8 ?_⟩;exact fin _ _ ⟨rfl,s1⟩
  |some v =>
   obtain⟨lo',rest',bv,e,hbv⟩:=hK _ (a4p ev);injection e with e2 e3
   injection e2 with e4 e5
   injection e5 with e5 _
   subst e3 e4 e5;refine⟨_,_,rfl,rfl,_,rfl,M9 (λe=>?_) (λe=>fin _ _ ⟨rfl,s1⟩)⟩;have e':b<=bv:=of_decide_eq_true e;exact k true _ s1 (λ_ d hd=>by have:=hbv d hd;omega) (λz=>nomatch z)
end
theorem a3C{α:Type}{a b:List α}(ha:a.Nodup)(hb:b.Nodup)(h:∀x∈a,x∉b):(a++b).Nodup:=List.nodup_append.mpr ⟨ha,hb,λx hx y hy e=>h x hx (by rw[e];exact hy)⟩
theorem a9D{α:Type}(a:α):[a].Nodup:=by simp
theorem b0j{n:Nat}{rs:List Int}(h:Rs n rs):(rs.map V.int).any trV=decide (0<rs.sum):=by
 rw[Bool.eq_iff_iff,List.any_eq_true,decide_eq_true_eq];constructor
 .rintro⟨v,hv,e⟩;obtain⟨z,hz,rfl⟩:=List.mem_map.mp hv;have hz0:=h.2.1 z hz;have:z≠0:=λq=>by subst q;cases e
  exact a6n rs h.2.1 z hz (by omega)
 .intro hs;obtain⟨i,hi,hp⟩:=P8 h.2.1 hs;refine⟨.int (rs.getD i 0),List.mem_map.mpr ⟨_,G5 hi,rfl⟩,?_⟩;show(rs.getD i 0 != 0)=true;exact bne_iff_ne.mpr (by omega)
theorem a2w(l:List Int):(l.map V.int).all a2Z=true:=by
 rw[List.all_eq_true];intro v hv;obtain⟨_,_,rfl⟩:=List.mem_map.mp hv;rfl
theorem a6t{n:Nat}{rs:List Int}(h:Rs n rs)(h0:¬0<rs.sum):∀x∈rs,x=0:=λx hx=>by
 have h1:=h.2.1 x hx;refine Classical.byContradiction λz=>h0 (a6n rs h.2.1 x hx (by omega))
theorem LSt.tk{C:Addr}{H H':Hp}{p pa la ma:Addr}{rss:LLI}{kvs:List (LLI×V)}{ms:LLI}(h:LSt C H p pa la ma rss kvs ms)(o:Off [la,ma] H H'):∀b ys,H b=some (.tup ys)->H' b=some (.tup ys):=λb ys e=>by
 obtain⟨xs,e1,_⟩:=h.lo;obtain⟨fs,e2,_⟩:=h.me;refine o b _ ?_ e;simp only[List.mem_cons,List.not_mem_nil,or_false,not_or];exact⟨R5 e e1 (λz=>nomatch z),R5 e e2 (λz=>nomatch z)⟩
theorem IT.tk{H H':Hp}{v:V}{r:List Int}(h:∀b ys,H b=some (.tup ys)->H' b=some (.tup ys))(g:IT H v r):IT H' v r:=let ⟨a,e,q⟩:=g;⟨a,e,h _ _ q⟩
theorem Its.tk{H H':Hp}{vs:List V}{rss:LLI}(h:∀b ys,H b=some (.tup ys)->H' b=some (.tup ys))(g:Its H vs rss):Its H' vs rss:=⟨g.1,λi v e=>let ⟨r,e1,e2⟩:=g.2 i v e;⟨r,e1,IT.tk h e2⟩⟩
def Sg(l s:Nat):Nat->Nat
 |0=>0
 |j+1=>Sg l s j+Tb l (s-j)
theorem a8r{l s:Nat}:∀{j:Nat},j<=s+1->Sg l s j+Tw l s j<=Tb (l+1) s
 |0,_=>by rw[b1q];show 0+_<=_;omega
 |j+1,h=>by
  have h1:=a8r (l:=l) (s:=s) (j:=j) (by omega);have h2:=b1o (l:=l) (s:=s) (i:=j) (by omega);show Sg l s j+Tb l (s-j)+Tw l s (j+1)<=_;omega
theorem b1v{l s j:Nat}(h:j<=s+1):Sg l s j+1<=Tb (l+1) s:=by
 have h1:=a8r (l:=l) h;have h2:=b1p l s j;omega
theorem O0:∀{d:List Int}{k:Nat}(m:Int),k<d.length->(d.set k m).sum=d.sum+(m-d.getD k 0)
 |[],k,_,h=>absurd h (Nat.not_lt_zero _)
 |x::d,0,m,_=>by show m+d.sum=x+d.sum+(m-x);omega
 |x::d,k+1,m,h=>by
  have:=O0 (d:=d) (k:=k) m (by simpa using h);show x+(d.set k m).sum=x+d.sum+(m-d.getD k 0);omega
def RR(n:Nat)(rss:LLI)(lo rest:List Int)(b:Int)(r:V):Prop:=(∃d,LY n rss lo rest d/\r=.int d.sum/\d.sum<=b)∨(r=.non/\∀d,LY n rss lo rest d->b<d.sum)
structure RPre(n:Nat)(rss:LLI)(lo rest:List Int)(kvs:List (LLI×V))(b:Int):Prop where
 ls:LsOk n rss kvs
 hl:Lo rss.length lo
 ll:lo.length<=1000
 rs:Rs n rest
 pt:Pts n rss
 n1:n<=1000
 rl:rss.length<=1000
 tb:kvs.length+Tb lo.length rest.sum.toNat<=10000000
 bb:b<=1000000
section
variable {P:Program}{w:World}{K:PySem.W.Frag}{mg:Str->Option Value}{base:Heap}{C:Addr}
inductive IspReach(m:Nat)(C:Addr)(vs:List V)(H:Hp)(Q:VK)(E:XK):Prop
 |mk (p pa la ma a:Addr) (y:V) (b:Int) (rss:LLI) (kvs:List (LLI×V)) (ms:LLI) (lo rest:List Int) (n:Nat) (_:vs=[.ref p,.ref a,y,.int b]) (_:lo.length<m) (_:LSt C H p pa la ma rss kvs ms) (_:H a=some (.tup (lo.map V.int))) (_:IT H y rest) (_:RPre n rss lo rest kvs b) (_:∀(r:V) (H':Hp) (kvs':List (LLI×V)),LSt C H' p pa la ma rss kvs' ms->LsOk n rss kvs'->kvs'.length<=kvs.length+Tb lo.length rest.sum.toNat->Off [la,ma] H H'->RR n rss lo rest b r->Q r H'):IspReach m C vs H Q E
def L5(m:Nat)(C:Addr):Sp:=λvs H Q E=>IspReach m C vs H Q E
theorem sc_Laying_reach:FnScope ["self","loose","rest","budget","k","many","left","found"] ["self","loose","rest","budget"] (A2 C7):=⟨rfl,rfl,rfl,by decide +kernel,rfl,by decide +kernel,by decide +kernel⟩
theorem a3v(FM:MethAt K C "reach" "Laying.reach" C7 ["self","loose","rest","budget"]):MethOk P w K mg base C "reach" 4 ["self","loose","rest","budget"] (L5 0 C):=by
 refine FM.fnJ sc_Laying_reach (λvs H Q E h=>?_) (λcdv f A outer s H vs Q E hr h=>?_)
 .obtain⟨_,_,_,_,_,_,_,_,_,_,_,_,_,_,h,_⟩:=h;exact absurd h (Nat.not_lt_zero _)
 .obtain⟨_,_,_,_,_,_,_,_,_,_,_,_,_,_,h,_⟩:=h;exact absurd h (Nat.not_lt_zero _)
theorem a5p{m:Nat}(FM:MethAt K C "reach" "Laying.reach" C7 ["self","loose","rest","budget"])(T:Tx mg)(U:LTx K C)(O_rests:Ok P w K mg base "rests" 2 ["one","rest"] a2J)(O_without:Ok P w K mg base "without" 1 ["numbers","k"] a0f)
  (O_Laying_fitting:MethOk P w K mg base C "fitting" 2 ["self","loose","rest"] (a7V C)) (O_Laying_next_part:MethOk P w K mg base C "next_part" 2 ["self","loose","rest"] (a2L C)) (O_Laying_is_lost:MethOk P w K mg base C "is_lost" 3 ["self","loose","rest","budget"] (a1u C)) (O_Laying_reach:MethOk P w K mg base C "reach" (m+4) ["self","loose","rest","budget"] (L5 m C)):MethOk P w K mg base C "reach" (m+1+4) ["self","loose","rest","budget"] (L5 (m+1) C):=by
 have CL_Laying:=U.cl;refine FM.fnJ sc_Laying_reach (λvs H Q E h=>?_) (λcdv f A outer s H vs Q E hr h=>?_)
 .obtain⟨_,_,_,_,_,_,_,_,_,_,_,_,_,rfl,_⟩:=h;rfl
 .obtain⟨p,pa,la,ma,a,y,b,rss,kvs,ms,lo,rest,n,rfl,hm,hS,ha,hy,hM,kk⟩:=h;have hz:(16000000:Nat)<=sizeLine:=by rw[sizeLine_eq];decide
  have hu:=hr.u60;obtain⟨dx,ho⟩:=hS.ob.ob;have hrl:=hM.rs.1;refine⟨_,(A1 (D1 (a5C (jv 3) A5)
 (A4 (B1 R8))
 B8)
 (A1 (D1 (K1 (D5 K (a9O K rfl T.b_any (jaC (jv 2) jaN))))
 (A4 (B1 A5))
 B8)
 (A1 (A8 (i:=1) sc_Laying_reach.nd rfl (Or.inl rfl) (N8 O_Laying_fitting CL_Laying (hr.mono (by omega)) (jv 0) (jaC (jv 1) (jaC (jv 2) jaN))))
 (A1 (D1 (D5 K (N8 O_Laying_is_lost CL_Laying (hr.mono (by omega)) (jv 0) (jaC (jv 1) (jaC (jv 2) (jaC (jv 3) jaN)))))
 (A4 (B1 R8))
 B8)
 (A1 (A8 (i:=4) sc_Laying_reach.nd rfl (Or.inl rfl) (N8 O_Laying_next_part CL_Laying (hr.mono (by omega)) (jv 0) (jaC (jv 1) (jaC (jv 2) jaN))))
 (A1 (G3 (a9L K rfl T.b_reversed (a5G K rfl T.b_list rfl T.b_enumerate (jaC (B2 O_rests (hr.mono (by omega)) rfl (jaC (R9 K (a0p K (jv 0)) (jv 4)) (jaC (jv 2) jaN))) jaN))) (M1 K 2 (B5 (A9 (i:=5) sc_Laying_reach.nd rfl (Or.inl rfl)) (B5 (A9 (i:=6) sc_Laying_reach.nd rfl (Or.inl rfl)) G9)))
 (A1 (A8 (i:=7) sc_Laying_reach.nd rfl (Or.inl rfl) (N8 O_Laying_reach CL_Laying (hr.mono (by omega)) (jv 0) (jaC (B2 O_without (hr.mono (by omega)) rfl (jaC (jv 1) (jaC (jv 4) jaN))) (jaC (jv 6) (jaC (a1G (jv 3) (jv 5)) jaN)))))
 (A4 (D1 (a2S (jv 7) R8)
 (A4 (B1 (G2 (jv 5) (jv 7))))
 B8))))
 (A1 (a7j hu (a0p K (jv 0)) (K7 (jaC (jv 1) (jaC (jv 2) jaN))) (jv 3))
 (A4 (B1 R8))))))))),?_⟩
  refine⟨_,rfl,_,_,rfl,rfl,_,rfl,M9 (λe=>?_) (λe=>?_)⟩
  .have e':b<0:=of_decide_eq_true e;exact kk .non H kvs hS hM.ls (Nat.le_add_right _ _) (λb o _ e=>e) (.inr ⟨rfl,λd hd=>by have:=P5 d hd.nn;omega⟩)
  have hb0:0<=b:=by have:¬b<0:=λz=>e (decide_eq_true z);omega
  obtain⟨va,rfl,hva⟩:=id hy;refine⟨_,rfl,true,va,_,rfl,SqT.of hva,a2w _,?_⟩;rw[b0j hM.rs];by_cases hpos:0<rest.sum
  case neg =>
   rw[decide_eq_false hpos];refine⟨false,rfl,a2r ?_⟩;have hz0:=a6t hM.rs hpos;refine kk (.int 0) H kvs hS hM.ls (Nat.le_add_right _ _) (λb o _ e=>e) (.inl ⟨_,(LY.zero hM.pt hz0 hrl).mpr rfl,?_,?_⟩)
   .rw[J8]
   .rw[J8];exact hb0
  case pos =>
   rw[decide_eq_true hpos];refine⟨true,rfl,M8 ?_⟩;refine⟨_,rfl,p,dx,_,rfl,ho,a1C pa la ma,_,rfl,_,rfl,?_⟩;refine⟨p,pa,la,ma,a,.ref va,rss,lo,rest,n,rfl,hS.ob,ha,hM.hl,hM.ll,hy,hrl,hM.pt,hM.n1,λa1 H1 s1 ha1=>?_⟩;dsimp only[A7];have hlo1:Lo rss.length (ft rss lo rest):=hM.hl.filter _;have hft:∀d,LY n rss (ft rss lo rest) rest d↔LY n rss lo rest d:=λd=>LY.ft hM.pt hM.hl hrl;have hlf:(ft rss lo rest).length<=lo.length:=List.length_filter_le _ _;have hsub:∀k∈ft rss lo rest,k∈lo:=λk hk=>(List.mem_filter.mp hk).1;generalize ft rss lo rest=lo1 at ha1 hlo1 hft hlf hsub;have hll:=hM.ll;have hbb:=hM.bb;have hS1:=hS.same s1;have hsm:=hM.rs.2.2;refine⟨_,rfl,p,dx,_,rfl,s1 _ _ ho,a1B pa la ma,_,rfl,_,rfl,_,rfl,?_⟩;refine⟨p,pa,la,ma,a1,.ref va,b,rss,kvs,ms,lo1,rest,n,rfl,hS1,hM.ls,ha1,hlo1,by omega,hy.same s1,hM.rs,hM.pt,hM.n1,hb0,hbb,λt H3 s3 ht1 ht2=>?_⟩;have s03:=s1.trans s3;refine⟨t,rfl,M9 (λe=>?_) (λe=>?_)⟩
   .exact kk .non H3 kvs (hS.same s03) hM.ls (Nat.le_add_right _ _) (s03.off) (.inr ⟨rfl,λd hd=>ht1 e d ((hft d).mpr hd)⟩)
   have hF:=ht2 (by simpa using e);have ha3:=s3 _ _ ha1;obtain⟨j0,hj0,hj0p⟩:=P8 hM.rs.2.1 hpos;refine⟨_,rfl,p,dx,_,rfl,s03 _ _ ho,Z8 pa la ma,_,rfl,_,rfl,?_⟩;refine⟨p,pa,la,ma,a1,.ref va,rss,lo1,rest,n,rfl,hS.ob.same s03,ha3,hlo1,by omega,hy.same s03,hrl,hM.pt,hM.n1,⟨j0,by rw[<-hrl];exact hj0,hj0p⟩,hF,λki H4 hki s4=>?_⟩;dsimp only[A7];have hkb:=hlo1.2 ki hki;obtain⟨k,rfl⟩:∃k:Nat,ki=k:=⟨ki.toNat,by omega⟩;have hk:k<rss.length:=by omega
   have hPk:=hM.pt.at hk;have s04:=s03.trans s4;obtain⟨us,hpa,hus,hul⟩:=hS.ob.hp;obtain⟨v,hv1,hv2⟩:=Y4 (k:=k) hus hk;refine⟨_,rfl,p,C,dx,_,_,rfl,s04 _ _ ho,U.cl,U.n1,O5 pa la ma,_,rfl,pa,us,_,v,rfl,rfl,SqT.of (s04 _ _ hpa),P1 hv1,_,rfl,?_⟩;refine⟨v,.ref va,_,rest,n,rfl,hv2.same s04,hy.same s04,hM.n1,hPk,hM.rs,λpr zs q H5 hprn s5 hpr hzs hle hgt=>?_⟩;have hqs:(q:Int)<=rest.sum:=hM.rs.many hPk (by omega) hle;have hzl:zs.length=q+1:=by rw[hzs.1,Rl,List.length_map,List.length_range]
   refine⟨pr,zs,rfl,SqL.of hpr,by omega,λpl ps H6 s6 hpln hpl hpsl hps=>⟨pl,ps,rfl,SqL.of hpl,?_⟩⟩;have s06:=(s04.trans s5).trans s6;have hS6:=hS.same s06;obtain⟨fs,hma,hfs⟩:=hS.me;have hma6:=s06 _ _ hma;have hplm:pl≠ma:=(A6 ((s04.trans s5) _ _ hma) hpln).symm;have hpll:pl≠la:=by
    obtain⟨xs,e1,_⟩:=hS6.lo;exact R5 hpl e1 (λz=>nomatch z)
   obtain⟨l,hl⟩:∃l,lo.length=l+1:=⟨lo.length-1,by have:=List.length_pos_of_mem (hsub _ hki);omega⟩;have hwl:(wo lo1 k).length<=l:=by have:=a8u hki;omega
   have hTb:=hM.tb;rw[hl]at hTb;rw[hl]at kk;have ha6:=((s4.trans s5).trans s6) _ _ ha3;have hSg:=b1v (l:=l) (s:=rest.sum.toNat) (j:=q+1) (by omega);refine a7B (K:=K) (a:=pl) (ps:=ps) (λi σ H'=>Ex4 λ(o5 o6 o7:Option V) (kvs':List (LLI×V))=>An6 (σ=[some (.ref p),some (.ref a1),some (.ref va),some (.int b),some (.int k),o5,o6,o7]) (LSt C H' p pa la ma rss kvs' ms) (LsOk n rss kvs') ((∀m',q+1-i<=m'->m'<q+1->∀d,LY n rss (wo lo1 k) (less rest (rss.getD k []) (m':Nat)) d->b-(m':Nat)<d.sum)) (kvs'.length+Sg l rest.sum.toNat (q+1-i)+1<=kvs.length+Tb (l+1) rest.sum.toNat) (Off [la,ma] H6 H'))
    ⟨none,none,none,kvs,rfl,hS6,hM.ls,λm' h1 h2=>by omega,by rw[Nat.sub_zero];omega,λb o _ e=>e⟩ (λi σ H' _ h=>by
     obtain⟨_,_,_,_,_,_,_,_,_,off⟩:=h;exact SqL.of (off pl _ (by simp only[List.mem_cons,List.not_mem_nil,or_false,not_or];exact⟨hpll,hplm⟩) hpl)) ?_ ?_
   .rintro i x σ H' hi hx ⟨o5,o6,o7,kvs',rfl,hS',hK',hno,hT,off⟩;rw[hpsl,hzl]at hi hx;have tk:=hS6.tk off;obtain⟨bp,x',rfl,hx',hbp⟩:=hps _ x hx;obtain⟨r,hr1,hr2⟩:=hzs.2 _ x' hx';obtain⟨mm,hmm⟩:∃mm,mm=q+1-1-i:=⟨_,rfl⟩;rw[<-hmm]at hx hx' hbp hr1;have hmq:mm<q+1:=by omega
    have er:r=less rest (rss.getD k []) (mm:Nat):=by
     rw[Rl,List.getElem?_map,List.getElem?_range hmq]at hr1;exact(Option.some.inj hr1).symm
    subst er;have hbp':=tk _ _ hbp;refine⟨bp,[.int mm,x'],rfl,SqT.of hbp',rfl,.int mm,[x'],rfl,x',[],rfl,rfl,?_⟩;dsimp only[A7];obtain⟨dx6,ho6⟩:=hS'.ob.ob;refine⟨_,rfl,p,dx6,_,rfl,ho6,O4 pa la ma,?_⟩;refine⟨_,rfl,_,rfl,a1,lo1,_,rfl,tk _ _ ha6,by omega,λa7 H7 s7 ha7=>?_⟩;refine⟨_,rfl,_,rfl,_,rfl,_,_,rfl,rfl,?_⟩;have hlei:∀j,j<n->(mm:Int)*(rss.getD k []).getD j 0<=rest.getD j 0:=λj hj=>by
     have h1:=hle j hj;have h2:(mm:Int)*(rss.getD k []).getD j 0<=(q:Int)*(rss.getD k []).getD j 0:=Int.mul_le_mul_of_nonneg_right (by omega) (hM.pt.nn j _ (gdm hk));omega
    have hRi:=hM.rs.less hPk (by omega) hlei;have hsi:(less rest (rss.getD k []) (mm:Nat)).sum.toNat<=rest.sum.toNat-mm:=by
     rw[N1 (by rw[hrl,hPk.1])];have:(mm:Int)*1<=(mm:Int)*(rss.getD k []).sum:=Int.mul_le_mul_of_nonneg_left hPk.2.2 (by omega);omega
    have hTi:Tb (wo lo1 k).length (less rest (rss.getD k []) (mm:Nat)).sum.toNat<=Tb l (rest.sum.toNat-mm):=Nat.le_trans (a0C _ hwl) (a0B l hsi);have hsg:Sg l rest.sum.toNat (q+1-i)=Sg l rest.sum.toNat mm+Tb l (rest.sum.toNat-mm):=by
     rw[show q+1-i=mm+1 by omega];rfl
    rw[hsg]at hT;refine⟨p,pa,la,ma,a7,x',b-(mm:Nat),rss,kvs',ms,wo lo1 k,less rest (rss.getD k []) (mm:Nat),n,rfl,by omega,hS'.same s7,ha7,(IT.tk tk (hr2.same s6)).same s7,⟨hK',hlo1.filter _,by omega,hRi,hM.pt,hM.n1,hM.rl,by omega,by omega⟩,λrv H9 kvs9 hS9 hK9 hT9 off9 hR=>?_⟩;dsimp only[A7];rcases hR with⟨d,hd,rfl,hdb⟩|⟨rfl,hnone⟩
    .refine⟨_,rfl,rfl,true,rfl,a2r ?_⟩;refine⟨_,rfl,_,rfl,_,_,rfl,rfl,?_⟩;obtain⟨h1,h2⟩:=hd.up hM.pt hk hki (by omega) hrl;have hsum:(d.set k (mm:Nat)).sum=(mm:Int)+d.sum:=by rw[O0 _ (by rw[hd.len];exact hk),h2];omega
     refine kk _ H9 kvs9 hS9 hK9 (by omega) (λb o hb e=>off9 b o hb (s7 _ _ (off b o hb (s06 _ _ e)))) (.inl ⟨_,(hft _).mp h1,by rw[hsum],by rw[hsum];omega⟩)
    .refine⟨_,rfl,rfl,false,rfl,M8 ?_⟩;refine⟨_,_,_,kvs9,rfl,hS9,hK9,λm' h1 h2 d hd=>?_,?_,λb o hb e=>off9 b o hb (s7 _ _ (off b o hb e))⟩
     .by_cases em:m'=mm
      .subst em;exact hnone d hd
      .exact hno m' (by omega) h2 d hd
     .rw[show q+1-(i+1)=mm by omega];omega
   .rintro σ H' ⟨o5,o6,o7,kvs',rfl,hS',hK',hno,hT,off⟩;rw[hpsl,hzl]at hno hT;rw[Nat.sub_self]at hno hT;have tk:=hS6.tk off;have off0:Off [la,ma] H H':=λb o hb e=>off b o hb (s06 _ _ e);obtain⟨dx',ho'⟩:=hS'.ob.ob;have hno1:∀d,LY n rss lo1 rest d->b<d.sum:=λd hd=>by
     have hkd:k<d.length:=by rw[hd.len];exact hk
     have h0:=hd.nn _ (G5 hkd);obtain⟨j,hj,hlt⟩:=hgt;have hle2:=hd.le hM.pt hk j;have hmm:d.getD k 0<(q:Int)+1:=by
      refine Int.not_le.mp λz=>?_;have:=Int.mul_le_mul_of_nonneg_right z (hM.pt.nn j _ (gdm hk));omega
     obtain⟨m,hm'⟩:∃m:Nat,d.getD k 0=m:=⟨(d.getD k 0).toNat,by omega⟩;have h1:=hd.down hM.pt hk hrl;rw[hm']at h1;have h2:=hno m (Nat.zero_le _) (by omega) _ h1;rw[O0 _ hkd,hm']at h2;omega
    refine⟨_,rfl,_,rfl,p,C,dx',_,_,rfl,ho',U.cl,U.n2,a1A pa la ma,_,rfl,_,rfl,by show 2<=sizeLine;omega,λtp htp=>?_⟩;have s7:=(Same.refl H').upd (o:=.tup [.ref a1,.ref va]) htp;have e7:upd H' tp (.tup [.ref a1,.ref va]) tp=some (.tup [.ref a1,.ref va]):=A0;generalize upd H' tp (.tup [.ref a1,.ref va])=H7 at s7 e7;have ha7:=s7 _ _ (tk _ _ ha6);have hva7:=s7 _ _ (tk _ _ (s06 _ _ hva));have hq:Tq H7 tp [lo1,rest]:=⟨[.ref a1,.ref va],e7,rfl,λi v e=>by
     match i,e with
     |0,e=>cases e;exact⟨lo1,rfl,a1,rfl,ha7⟩
     |1,e=>cases e;exact⟨rest,rfl,va,rfl,hva7⟩
     |i+2,e=>exact nomatch e⟩
    have hS7:=hS'.same s7;refine⟨la,tp,[lo1,rest],kvs',rfl,rfl,hS7.lo,hq,by omega,λxs hLD=>?_⟩;have off7:Off [la,ma] H7 (upd H7 la (LdO la xs)):=λb o hb e=>by
     simp only[List.mem_cons,List.not_mem_nil,or_false,not_or]at hb;rw[A3 hb.1];exact e
    have tk7:=hS7.tk off7;obtain⟨xs0,e0,_⟩:=hS7.lo;have nl:∀b o,H7 b=some o->(∀φ,o≠.ext φ)->upd H7 la (LdO la xs) b=some o:=λb o e hn=>by
     rw[A3 λz=>?_];exact e;rw[z,e0]at e;exact hn _ (Option.some.inj e).symm
    have hpl2:=U0 kvs' [lo1,rest] (.int b);obtain⟨fs',hma',hfs'⟩:=hS'.me;refine kk .non _ _ ⟨⟨?_,?_⟩,hLD,?_⟩ (hK'.put hno1) (by have:Sg l rest.sum.toNat 0=0:=rfl;omega) (λb o hb e=>off7 b o hb (s7 _ _ (off0 b o hb e))) (.inr ⟨rfl,λd hd=>hno1 d ((hft d).mpr hd)⟩)
    .exact⟨dx',nl _ _ (s7 _ _ ho') (λφ z=>nomatch z)⟩
    .obtain⟨us',h1,h2,h3⟩:=hS7.ob.hp;exact⟨us',tk7 _ _ h1,Its.tk tk7 h2,h3⟩
    .exact⟨fs',nl _ _ (s7 _ _ hma') (λφ z=>nomatch z),Its.tk tk7 (hfs'.same s7)⟩
end
theorem a8i{α:Type}[DecidableEq α]:∀(a b:List α),a.Nodup->(∀x∈a,x∈b)->a.length<=b.length
 |[],b,_,_=>Nat.zero_le _
 |x::a,b,hn,h=>by
  obtain⟨h1,h2⟩:=List.nodup_cons.mp hn;have hx:=h x List.mem_cons_self;have:=a8i a (b.erase x) h2 λy hy=>(List.mem_erase_of_ne (λz:y=x=>h1 (z ▸ hy))).mpr (h y (List.mem_cons_of_mem _ hy));rw[List.length_erase_of_mem hx]at this;have:=List.length_pos_of_mem hx;rw[List.length_cons];omega
def Ev:Nat->Nat->LLI
 |0,_=>[[]]
 |m+1,s=>(List.range (s+1)).flatMap λc=>(Ev m (s-c)).map λl=>((c:Nat):Int)::l
def cn:Nat->Nat->Nat
 |0,_=>1
 |m+1,s=>((List.range (s+1)).map λc=>cn m (s-c)).sum
theorem a6g:∀m s,(Ev m s).length=cn m s
 |0,_=>rfl
 |m+1,s=>by
  show((List.range (s+1)).flatMap λc=>(Ev m (s-c)).map λl=>((c:Nat):Int)::l).length=((List.range (s+1)).map λc=>cn m (s-c)).sum;rw[List.length_flatMap];congr 1;refine List.map_congr_left λc _=>?_;rw[List.length_map,a6g m]
theorem a6f:∀{m s:Nat}{d:List Int},d.length=m->(∀x∈d,0<=x)->d.sum<=s->d∈Ev m s
 |0,s,d,h,_,_=>by rw[List.length_eq_zero_iff.mp h];exact List.mem_singleton.mpr rfl
 |m+1,s,[],h,_,_=>nomatch h
 |m+1,s,c::d,h,h0,hs=>by
  have hc:=h0 c List.mem_cons_self;have hd0:=P5 d λx hx=>h0 x (List.mem_cons_of_mem _ hx);rw[List.sum_cons]at hs;obtain⟨k,rfl⟩:∃k:Nat,c=k:=⟨c.toNat,by omega⟩;refine List.mem_flatMap.mpr ⟨k,List.mem_range.mpr (by omega),List.mem_map.mpr ⟨d,?_,rfl⟩⟩;exact a6f (by simpa using h) (λx hx=>h0 x (List.mem_cons_of_mem _ hx)) (by omega)
theorem a0j{α β:Type}{f:α->β}:∀{l:List α},l.Nodup->(∀x∈l,∀y∈l,f x=f y->x=y)->(l.map f).Nodup
 |[],_,_=>List.nodup_nil
 |x::l,h,hi=>by
  obtain⟨h1,h2⟩:=List.nodup_cons.mp h;rw[List.map_cons,List.nodup_cons];refine⟨λz=>?_,a0j h2 λa ha b hb=>hi a (List.mem_cons_of_mem _ ha) b (List.mem_cons_of_mem _ hb)⟩;obtain⟨y,hy,e⟩:=List.mem_map.mp z;rw[hi y (List.mem_cons_of_mem _ hy) x List.mem_cons_self e]at hy;exact h1 hy
def Lay(n:Nat)(rss:LLI)(rest d:List Int):Prop:=LY n rss (D8 rss.length) rest d
theorem upto_mem{n:Nat}{k:Int}:k∈D8 n↔0<=k/\k<n:=by
 unfold D8;rw[List.mem_map];constructor
 .rintro⟨i,hi,rfl⟩;have:=List.mem_range.mp hi;omega
 .exact λh=>⟨k.toNat,List.mem_range.mpr (by omega),by omega⟩
theorem a2F(n:Nat):Lo n (D8 n):=by
 refine⟨?_,λk hk=>upto_mem.mp hk⟩;unfold D8;exact a0j List.nodup_range λx _ y _ e=>by omega
structure LPre(n:Nat)(rss:LLI)(rest:List Int):Prop where
 pt:Pts n rss
 nd:rss.Nodup
 m6:rss.length<=6
 n1:n<=1000
 rl:rest.length=n
 r0:∀x∈rest,0<=x
 s6:rest.sum<=60
 s1:3<=rss.length->rest.sum<=14
theorem LPre.rs{n:Nat}{rss:LLI}{rest:List Int}(h:LPre n rss rest):Rs n rest:=⟨h.rl,h.r0,by have:=h.s6;omega⟩
theorem LPre.tb{n:Nat}{rss:LLI}{rest:List Int}(h:LPre n rss rest):Tb rss.length rest.sum.toNat<=10000000:=by
 have h6:=h.m6;by_cases h3:3<=rss.length
 .have h1:=h.s1 h3;refine Nat.le_trans (Nat.le_trans (a0C (k:=6) _ h6) (a0B 6 (t:=14) (by omega))) ?_;decide +kernel
 .have h1:=h.s6;refine Nat.le_trans (Nat.le_trans (a0C (k:=2) _ (by omega)) (a0B 2 (t:=60) (by omega))) ?_;decide +kernel
theorem X6:∀{a b:List Int}{x y:Int},a.length=b.length->HT.lexLt a b=true->HT.lexLt (a++[x]) (b++[y])=true
 |[],[],_,_,_,h=>nomatch h
 |[],_::_,_,_,h,_=>nomatch h
 |_::_,[],_,_,h,_=>nomatch h
 |u::a,v::b,x,y,hl,h=>by
  rw[HT.lexLt_cons]at h;show HT.lexLt (u::(a++[x])) (v::(b++[y]))=true;rw[HT.lexLt_cons];by_cases e:u=v
  .rw[if_pos e]at h⊢;exact X6 (by simpa using hl) h
  .rw[if_neg e]at h⊢;exact h
theorem X5{x y:Int}(h:x<y):∀(a:List Int),HT.lexLt (a++[x]) (a++[y])=true
 |[]=>by
  show HT.lexLt [x] [y]=true;rw[HT.lexLt_cons,if_neg (by omega)];exact decide_eq_true h
 |u::a=>by
  show HT.lexLt (u::(a++[x])) (u::(a++[y]))=true;rw[HT.lexLt_cons,if_pos rfl];exact X5 h a
theorem LPre.tb2{n:Nat}{rss:LLI}{rest:List Int}(h:LPre n rss rest):Tb rss.length rest.sum.toNat<=60000:=by
 have h6:=h.m6;by_cases h3:3<=rss.length
 .have h1:=h.s1 h3;refine Nat.le_trans (Nat.le_trans (a0C (k:=6) _ h6) (a0B 6 (t:=14) (by omega))) ?_;decide +kernel
 .have h1:=h.s6;refine Nat.le_trans (Nat.le_trans (a0C (k:=2) _ (by omega)) (a0B 2 (t:=60) (by omega))) ?_;decide +kernel
theorem LY.congr{n:Nat}{rss:LLI}{lo lo' rest d:List Int}(h:∀k,k∈lo↔k∈lo'):LY n rss lo rest d↔LY n rss lo' rest d :=
 ⟨λg=>⟨g.len,g.nn,λk hk=>g.off k λz=>hk ((h _).mp z),g.eq⟩,λg=>⟨g.len,g.nn,λk hk=>g.off k λz=>hk ((h _).mpr z),g.eq⟩⟩
def frm(N i:Nat):List Int:=(D8 N).drop i
theorem frm_mem{N i:Nat}{k:Int}:k∈frm N i↔(i:Int)<=k/\k<N:=by
 unfold frm D8;rw[<-List.map_drop,List.mem_map];constructor
 .rintro⟨j,hj,rfl⟩;obtain⟨t,ht,e⟩:=List.mem_iff_getElem.mp hj;rw[List.getElem_drop,List.getElem_range]at e;rw[List.length_drop,List.length_range]at ht;omega
 .intro h;refine⟨k.toNat,?_,by omega⟩;rw[List.mem_iff_getElem];refine⟨k.toNat-i,by rw[List.length_drop,List.length_range];omega,?_⟩;rw[List.getElem_drop,List.getElem_range];omega
theorem b0a(N i:Nat):Lo N (frm N i):=⟨(a2F N).1.sublist (List.drop_sublist _ _),λk hk=>by have:=frm_mem.mp hk;omega⟩
theorem a1c(N i:Nat):(frm N i).length=N-i:=by unfold frm;rw[List.length_drop,B3]
theorem a1b{n N:Nat}{rss:LLI}{rest d:List Int}(i:Nat):LY n rss (wo (frm N i) i) rest d↔LY n rss (frm N (i+1)) rest d :=
 LY.congr λk=>by rw[wo_mem,frm_mem,frm_mem];omega
def RS(n:Nat)(rss:LLI)(one:List Int)(r:V):Prop:=(r=.non/\∀d,¬Lay n rss one d)∨∃d,Lay n rss one d/\r=.int d.sum/\∀e,Lay n rss one e->d.sum<=e.sum
section
variable {P:Program}{w:World}{K:PySem.W.Frag}{mg:Str->Option Value}{base:Heap}{C:Addr}
inductive IspLSum(C:Addr)(vs:List V)(H:Hp)(Q:VK)(E:XK):Prop
 |mk (p pa la ma a:Addr) (y:V) (rss:LLI) (kvs:List (LLI×V)) (ms:LLI) (one:List Int) (n:Nat) (_:vs=[.ref p,.ref a,y]) (_:LSt C H p pa la ma rss kvs ms) (_:LsOk n rss kvs) (_:kvs.length<=1000) (_:H a=some (.tup ((D8 rss.length).map V.int))) (_:IT H y one) (_:LPre n rss one) (_:∀(r:V) (H':Hp) (kvs':List (LLI×V)),LSt C H' p pa la ma rss kvs' ms->LsOk n rss kvs'->kvs'.length<=kvs.length+62*Tb rss.length one.sum.toNat->Off [la,ma] H H'->RS n rss one r->Q r H'):IspLSum C vs H Q E
def a4H(C:Addr):Sp:=λvs H Q E=>IspLSum C vs H Q E
theorem sc_least_sum:FnScope ["laying","loose","one","fewer","found"] ["laying","loose","one"] (A2 J5):=⟨rfl,rfl,rfl,by decide +kernel,rfl,by decide +kernel,by decide +kernel⟩
theorem a7f(F:FunAt K mg "least_sum" J5 ["laying","loose","one"])(T:Tx mg)(U:LTx K C)(O_size:Ok P w K mg base "size" 1 ["one"] a2c)(O_Laying_reach:MethOk P w K mg base C "reach" 11 ["self","loose","rest","budget"] (L5 7 C)):Ok P w K mg base "least_sum" 12 ["laying","loose","one"] (a4H C):=by
 have CL_Laying:=U.cl;refine F.okJ sc_least_sum (λvs H Q E h=>?_) (λcdv f A outer s H vs Q E hr h=>?_)
 .obtain⟨p,pa,la,ma,a,y,rss,kvs,ms,one,n,rfl,_⟩:=h;rfl
 .obtain⟨p,pa,la,ma,a,y,rss,kvs,ms,one,n,rfl,hS,hK,hk0,ha,hy,hL,kk⟩:=h;have h6:=hL.m6;have hs6:=hL.s6;have hs0:=P5 one hL.r0;have hTT:=hL.tb2;obtain⟨TT,hTe⟩:∃TT,Tb rss.length one.sum.toNat=TT:=⟨_,rfl⟩;rw[hTe]at hTT kk;have hpre:∀(kvs':List (LLI×V)) (b:Int),LsOk n rss kvs'->kvs'.length+TT<=10000000->b<=1000000->RPre n rss (D8 rss.length) one kvs' b:=λkvs' b h1 h2 h3=>⟨h1,a2F _,by rw[B3];omega,hL.rs,hL.pt,hL.n1,by omega,by rw[B3,hTe];exact h2,h3⟩;obtain⟨dx,ho⟩:=hS.ob.ob;refine⟨_,(A1 (A8 (i:=3) sc_least_sum.nd rfl (Or.inl rfl) (N8 O_Laying_reach CL_Laying (hr.mono (by omega)) (jv 0) (jaC (jv 1) (jaC (jv 2) (jaC (B2 O_size (hr.mono (by omega)) rfl (jaC (jv 2) jaN)) jaN)))))
 (A1 (A8 (i:=4) sc_least_sum.nd rfl (Or.inl rfl) (jv 3))
 (A1 (R6 (a2S (jv 3) R8)
 (A1 (A8 (i:=4) sc_least_sum.nd rfl (Or.inl rfl) (jv 3))
 (A4 (A8 (i:=3) sc_least_sum.nd rfl (Or.inl rfl) (N8 O_Laying_reach CL_Laying (hr.mono (by omega)) (jv 0) (jaC (jv 1) (jaC (jv 2) (jaC (a1G (jv 4) A5) jaN))))))))
 (A4 (B1 (jv 4)))))),?_⟩
  refine⟨_,rfl,p,dx,_,rfl,ho,O4 pa la ma,_,rfl,_,rfl,_,rfl,y,one,rfl,hy,λH1 s1=>?_⟩;refine⟨p,pa,la,ma,a,y,one.sum,rss,kvs,ms,D8 rss.length,one,n,rfl,by rw[B3];omega,hS.same s1,s1 _ _ ha,hy.same s1,hpre kvs _ hK (by omega) (by omega),λr1 H2 kvs1 hS1 hK1 hT1 off1 hR1=>?_⟩;rw[B3,hTe]at hT1;have off2:Off [la,ma] H H2:=λb o hb e=>off1 b o hb (s1 _ _ e);dsimp only[A7];refine⟨_,rfl,?_⟩;dsimp only[A7];refine⟨λm σ H'=>∃(fv fo:V) (kvs':List (LLI×V)),σ=[some (.ref p),some (.ref a),some y,some fv,some fo]/\LSt C H' p pa la ma rss kvs' ms/\LsOk n rss kvs'/\Off [la,ma] H H'/\((fv=.non/\RS n rss one fo/\kvs'.length<=kvs.length+62*TT/\m=0)∨∃d,Lay n rss one d/\fv=.int d.sum/\d.sum<=60/\kvs'.length+(d.sum.toNat+1)*TT<=kvs.length+62*TT/\m=d.sum.toNat+1),?_,?_⟩
  .rcases hR1 with⟨d,hd,rfl,hdb⟩|⟨rfl,hno⟩
   .refine⟨_,.int d.sum,.int d.sum,kvs1,rfl,hS1,hK1,off2,.inr ⟨d,hd,rfl,by omega,?_,rfl⟩⟩;have:(d.sum.toNat+1)*TT<=61*TT:=Nat.mul_le_mul_right _ (by omega);omega
   .refine⟨_,.non,.non,kvs1,rfl,hS1,hK1,off2,.inl ⟨rfl,.inl ⟨rfl,λd hd=>?_⟩,by omega,rfl⟩⟩;have h1:=hno d hd;have h2:=hd.few hL.pt;omega
  .rintro m σ H3 ⟨fv,fo,kvs',rfl,hS',hK',off',h⟩;rcases h with⟨rfl,hRS,hb,rfl⟩|⟨d,hd,rfl,hd60,hb,rfl⟩
   .refine⟨_,rfl,rfl,false,rfl,M8 ?_⟩;exact⟨_,rfl,kk fo H3 kvs' hS' hK' hb off' hRS⟩
   .refine⟨_,rfl,rfl,true,rfl,a2r ?_⟩;have hd0:=P5 d hd.nn;refine⟨λσ H'=>∃(fv fo:V) (kvs':List (LLI×V)),σ=[some (.ref p),some (.ref a),some y,some fv,some fo]/\LSt C H' p pa la ma rss kvs' ms/\LsOk n rss kvs'/\Off [la,ma] H H'/\((fv=.non/\RS n rss one fo/\kvs'.length<=kvs.length+62*TT)∨∃d',Lay n rss one d'/\fv=.int d'.sum/\d'.sum<d.sum/\kvs'.length+(d'.sum.toNat+1)*TT<=kvs.length+62*TT),λσ' H' h=>?_,?_⟩
    .obtain⟨fv,fo,kvs9,q1,q2,q3,q4,q5⟩:=h;rcases q5 with⟨z1,z2,z3⟩|⟨d',z1,z2,z3,z4⟩
     .exact⟨0,by omega,fv,fo,kvs9,q1,q2,q3,q4,.inl ⟨z1,z2,z3,rfl⟩⟩
     .have:=P5 d' z1.nn;exact⟨d'.sum.toNat+1,by omega,fv,fo,kvs9,q1,q2,q3,q4,.inr ⟨d',z1,z2,by omega,z4,rfl⟩⟩
    refine⟨_,rfl,?_⟩;dsimp only[A7];obtain⟨dx',ho'⟩:=hS'.ob.ob;have tk:=hS.tk off';refine⟨_,rfl,p,dx',_,rfl,ho',O4 pa la ma,_,rfl,_,rfl,_,rfl,_,_,rfl,rfl,?_⟩;have hm1:TT<=(d.sum.toNat+1)*TT:=by
     have:=Nat.mul_le_mul_right TT (show 1<=d.sum.toNat+1 by omega);omega
    refine⟨p,pa,la,ma,a,y,d.sum-1,rss,kvs',ms,D8 rss.length,one,n,rfl,by rw[B3];omega,hS',tk _ _ ha,IT.tk tk hy,hpre kvs' _ hK' (by omega) (by omega),λr4 H4 kvs4 hS4 hK4 hT4 off4 hR4=>?_⟩;rw[B3,hTe]at hT4;dsimp only[A7];have off5:Off [la,ma] H H4:=λb o hb e=>off4 b o hb (off' b o hb e);have hmul:(d.sum.toNat+1)*TT=d.sum.toNat*TT+TT:=by rw[Nat.add_mul,Nat.one_mul]
    rcases hR4 with⟨d',hd',rfl,hdb⟩|⟨rfl,hno⟩
    .have hd'0:=P5 d' hd'.nn;refine⟨_,_,kvs4,rfl,hS4,hK4,off5,.inr ⟨d',hd',rfl,by omega,?_⟩⟩;have:(d'.sum.toNat+1)*TT<=d.sum.toNat*TT:=Nat.mul_le_mul_right _ (by omega);omega
    .refine⟨_,_,kvs4,rfl,hS4,hK4,off5,.inl ⟨rfl,.inr ⟨d,hd,rfl,λe he=>?_⟩,by omega⟩⟩;have:=hno e he;omega
end
structure Few(n:Nat)(rss:LLI)(one ds:List Int):Prop where
 ly:Lay n rss one ds
 mn:∀e,Lay n rss one e->ds.sum<=e.sum
 lx:∀e,Lay n rss one e->e.sum=ds.sum->HT.lexLt e ds=false
theorem Few.one{n:Nat}{rss:LLI}{one a b:List Int}(h:Few n rss one a)(g:Few n rss one b):a=b:=by
 have h1:=h.mn b g.ly;have h2:=g.mn a h.ly;exact S9 a b (g.lx a h.ly (by omega)) (h.lx b g.ly (by omega))
def zr(i:Nat):List Int:=List.replicate i 0
theorem S0{e:List Int}{i:Nat}(hi:i<=e.length)(k:Nat):(zr i++e.drop i).getD k 0=if k<i then 0 else e.getD k 0:=by
 rw[List.getD_eq_getElem?_getD];by_cases h:k<i
 .rw[if_pos h,List.getElem?_append_left (by unfold zr;rw[List.length_replicate];exact h),<-List.getD_eq_getElem?_getD];exact J0 _ _
 .rw[if_neg h,List.getElem?_append_right (by unfold zr;rw[List.length_replicate];omega),List.getElem?_drop,List.getD_eq_getElem?_getD];unfold zr;rw[List.length_replicate,show i+(k-i)=k by omega]
structure FI(n:Nat)(rss:LLI)(one:List Int)(B0:Int)(i:Nat)(cs rest:List Int)(b:Int):Prop where
 cl:cs.length=i
 mn:∀d,LY n rss (frm rss.length i) rest d->b<=d.sum
 ex:∃d,LY n rss (frm rss.length i) rest d/\d.sum=b
 dn:∀d,LY n rss (frm rss.length i) rest d->Lay n rss one (cs++d.drop i)
 up:∀e,Lay n rss one e->e.take i=cs->LY n rss (frm rss.length i) rest (zr i++e.drop i)
 tot:cs.sum+b=B0
 lx:∀e,Lay n rss one e->e.sum=B0->HT.lexLt (e.take i) cs=false
 rs:Rs n rest
 le:rest.sum<=one.sum
section
variable {n:Nat}{rss:LLI}{one:List Int}{B0:Int}{i:Nat}{cs rest:List Int}{b:Int}
theorem lay_frm{d:List Int}:Lay n rss one d↔LY n rss (frm rss.length 0) one d:=LY.congr λk=>by rw[upto_mem,frm_mem];simp
theorem FI.first(hL:LPre n rss one){d:List Int}(hd:Lay n rss one d)(hm:∀e,Lay n rss one e->d.sum<=e.sum):FI n rss one d.sum 0 [] one d.sum:=by
 refine⟨rfl,λe he=>hm e (lay_frm.mpr he),⟨d,lay_frm.mp hd,rfl⟩,λe he=>lay_frm.mpr he,λe he _=>lay_frm.mp he,by show 0+_=_;omega,λe _ _=>rfl,hL.rs,Int.le_refl _⟩
theorem a1E{a b:List Int}(h:HT.lexLt a b=true):HT.lexLt b a=false:=by
 cases e:HT.lexLt b a with
 |false=>rfl
 |true=>have:=S8 _ _ _ h e;rw[E4]at this;cases this
theorem FI.next(hL:LPre n rss one)(h:FI n rss one B0 i cs rest b)(hi:i<rss.length){m:Nat}(hle:∀j,j<n->(m:Int)*(rss.getD i []).getD j 0<=rest.getD j 0){d':List Int}(hd':LY n rss (frm rss.length (i+1)) (less rest (rss.getD i []) m) d')(hdb:d'.sum<=b-m)
  (hno:∀m',m'<m->∀e,LY n rss (frm rss.length (i+1)) (less rest (rss.getD i []) (m':Nat)) e->b-(m':Nat)<e.sum):FI n rss one B0 (i+1) (cs++[(m:Int)]) (less rest (rss.getD i []) m) (b-m):=by
 have hrl:=h.rs.1;have hP:=hL.pt.at hi;have hif:(i:Int)∈frm rss.length i:=frm_mem.mpr ⟨Int.le_refl _,by omega⟩;have upL:∀e,LY n rss (frm rss.length (i+1)) (less rest (rss.getD i []) m) e->LY n rss (frm rss.length i) rest (e.set i m)/\(e.set i (m:Int)).sum=e.sum+m:=λe he=>by
  obtain⟨h1,h2⟩:=((a1b i).mpr he).up hL.pt hi hif (by omega) hrl;refine⟨h1,?_⟩;rw[O0 _ (by rw[he.len];exact hi),h2];omega
 have mn':∀e,LY n rss (frm rss.length (i+1)) (less rest (rss.getD i []) m) e->b-m<=e.sum:=λe he=>by
  obtain⟨h1,h2⟩:=upL e he;have:=h.mn _ h1;omega
 refine⟨by rw[List.length_append,h.cl];rfl,mn',⟨d',hd',by have:=mn' d' hd';omega⟩,λe he=>?_,λe he het=>?_,?_,λe he hes=>?_,h.rs.less hP (by omega) hle,?_⟩
 .obtain⟨h1,h2⟩:=upL e he;have h3:=h.dn _ h1;have e1:(e.set i (m:Int)).drop i=(m:Int)::e.drop (i+1):=by
   have hl:i<(e.set i (m:Int)).length:=by rw[List.length_set,he.len];exact hi
   rw[List.drop_eq_getElem_cons hl,List.getElem_set_self,List.drop_set_of_lt (by omega)]
  rw[e1]at h3;rw[List.append_assoc];exact h3
 .have hel:i<e.length:=by rw[he.len];exact hi
  have ht:e.take (i+1)=e.take i++[e.getD i 0]:=by
   rw[List.take_add_one,List.getElem?_eq_getElem hel,List.getD_eq_getElem?_getD,List.getElem?_eq_getElem hel];rfl
  rw[ht]at het;obtain⟨e1,e2⟩:=List.append_inj' het rfl;have e2:e.getD i 0=m:=by injection e2
  have h1:=h.up e he e1;have hil:i<=e.length:=by omega
  have h2:=h1.down hL.pt hi hrl;rw[S0 hil,if_neg (by omega),e2]at h2;have h3:=(a1b i).mp h2;have e3:(zr i++e.drop i).set i 0=zr (i+1)++e.drop (i+1):=by
   have hll:(zr i++e.drop i).length=e.length:=by unfold zr;rw[List.length_append,List.length_replicate,List.length_drop];omega
   refine gdx (by rw[List.length_set,hll];unfold zr;rw[List.length_append,List.length_replicate,List.length_drop];omega) λk _=>?_;rw[a0J _ _ _ _ (by rw[hll];exact hel),S0 hil,S0 (by omega)];by_cases ek:k=i
   .rw[if_pos ek,if_pos (by omega)]
   .rw[if_neg ek];by_cases hk:k<i
    .rw[if_pos hk,if_pos (by omega)]
    .rw[if_neg hk,if_neg (by omega)]
  rw[e3]at h3;exact h3
 .rw[List.sum_append];have:=h.tot;show cs.sum+((m:Int)+0)+_=_;omega
 .have hel:i<e.length:=by rw[he.len];exact hi
  have ht:e.take (i+1)=e.take i++[e.getD i 0]:=by
   rw[List.take_add_one,List.getElem?_eq_getElem hel,List.getD_eq_getElem?_getD,List.getElem?_eq_getElem hel];rfl
  have htl:(e.take i).length=cs.length:=by rw[List.length_take,h.cl];omega
  rw[ht];have h1:=h.lx e he hes;by_cases eq:e.take i=cs
  .rw[eq];have h2:=h.up e he eq;have hil:i<=e.length:=by omega
   have h3:=h2.down hL.pt hi hrl;rw[S0 hil,if_neg (by omega)]at h3;have h0:=he.nn _ (G5 hel);obtain⟨m',hm'⟩:∃m':Nat,e.getD i 0=m':=⟨(e.getD i 0).toNat,by omega⟩;rw[hm']at h3⊢;by_cases hlt:m'<m
   .exfalso;have h4:=hno m' hlt _ ((a1b i).mp h3);have hzl:i<(zr i++e.drop i).length:=by unfold zr;rw[List.length_append,List.length_replicate,List.length_drop];omega
    rw[O0 _ hzl,S0 hil,if_neg (by omega),hm']at h4;have h5:(zr i++e.drop i).sum=e.sum-cs.sum:=by
     have e6:e.sum=(e.take i).sum+(e.drop i).sum:=by rw[<-List.sum_append,List.take_append_drop]
     rw[List.sum_append,e6,eq];have:(zr i).sum=0:=J8 i;omega
    have:=h.tot;omega
   .by_cases hem:m'=m
    .rw[hem];exact E4 _
    .exact a1E (X5 (by omega) cs)
  .have h2:HT.lexLt cs (e.take i)=true:=by
    cases ex:HT.lexLt cs (e.take i)with
    |true=>rfl
    |false=>exact absurd (S9 _ _ h1 ex) eq
   exact a1E (X6 htl.symm h2)
 .rw[N1 (by rw[hrl,hP.1])];have h1:=Int.mul_nonneg (show 0<=(m:Int) by omega) (show 0<=(rss.getD i []).sum by have:=hP.2.2;omega);have:=h.le;omega
theorem FI.last(h:FI n rss one B0 rss.length cs rest b)(hm:∀e,Lay n rss one e->B0<=e.sum):Few n rss one cs:=by
 obtain⟨d,hd,hdb⟩:=h.ex;have h1:=h.dn d hd;rw[List.drop_of_length_le (by rw[hd.len];exact Nat.le_refl _),List.append_nil]at h1;have hz:d.sum=0:=by
  have e:d=List.replicate rss.length 0:=by
   refine gdx (by rw[hd.len,List.length_replicate]) λk hk=>?_;rw[J0];exact hd.off k λz=>by have:=frm_mem.mp z;omega
  rw[e];exact J8 _
 have ht:=h.tot;have hs:cs.sum=B0:=by omega
 refine⟨h1,λe he=>by rw[hs];exact hm e he,λe he hes=>?_⟩;have h2:=h.lx e he (by omega);rwa[List.take_of_length_le (by rw[he.len];exact Nat.le_refl _)]at h2
end
end K25
namespace K25
open PySem PySem.Spec PyProof.Rows L2
section
variable {P:Program}{w:World}{K:PySem.W.Frag}{mg:Str->Option Value}{base:Heap}{C:Addr}
theorem a8H{K:PySem.W.Frag}{H:Hp}{Q:VK}{t:Addr}{N k:Nat}(ht:H t=some (.tup ((D8 N).map V.int)))(hk:k<N)(q:∀p H',Same H H'->H' p=some (.tup ((frm N (k+1)).map V.int))->Q (.ref p) H'):a6u K (.ref t) (some ((k:Int)+1)) none H Q:=by
 have e:((k:Int)+1)=((k+1:Nat):Int):=by push_cast;rfl
 refine⟨t,_,rfl,SqT.of ht,?_,λp hp=>?_⟩
 .rw[e,HT.sIx_nat,List.length_map,B3];omega
 .refine q p _ ((Same.refl H).upd hp) ?_;rw[A0,e,b0c _ _ (by rw[B3];omega)];rfl
inductive IspFew(D:Addr)(vs:List V)(H:Hp)(Q:VK)(E:XK):Prop
 |mk (a:Addr) (y:V) (us:List V) (rss:LLI) (one:List Int) (n:Nat) (_:vs=[.ref a,y]) (_:H a=some (.tup us)) (_:Its H us rss) (_:IT H y one) (_:LPre n rss one) (_:(∀(l:Addr) (ds:List Int) (H':Hp),Same H H'->H' l=some (.tup (ds.map V.int))->Few n rss one ds->Q (.ref l) H')) (_:(∀H',Same H H'->(∀d,¬Lay n rss one d)->E (.ref D) none H')):IspFew D vs H Q E
def a7W(D:Addr):Sp:=λvs H Q E=>IspFew D vs H Q E
theorem sc_fewest:FnScope ["told","one","laying","loose","budget","rest","counts","k","many"] ["told","one"] (A2 R3):=⟨rfl,rfl,rfl,by decide +kernel,rfl,by decide +kernel,by decide +kernel⟩
theorem a3y{D_NoLay:Addr}(F:FunAt K mg "fewest" R3 ["told","one"])(T:Tx mg)(U:LTx K C)(O_Laying:MakeOk P w K mg base "Laying" C 1 ["self","told"] (a2N C))(O_minus:Ok P w K mg base "minus" 1 ["one","other"] (a4E λa b=>a-b))(O_least_sum:Ok P w K mg base "least_sum" 12 ["laying","loose","one"] (a4H C))(O_Laying_reach:MethOk P w K mg base C "reach" 11 ["self","loose","rest","budget"] (L5 7 C))
  (OC_NoLay:OwnCls "NoLay" D_NoLay [.type "ValueError",.type "Exception",.type "BaseException",.type "object"] "ValueError.__new__" mg base):OkE P w K mg base "fewest" 13 ["told","one"] (a7W D_NoLay):=by
 have CL_Laying:=U.cl;refine F.okE sc_fewest (λvs H Q E h=>?_) (λcdv f A outer s H vs Q E hr h=>?_)
 .obtain⟨a,y,us,rss,one,n,rfl,_⟩:=h;rfl
 .obtain⟨a,y,us,rss,one,n,rfl,ha,hI,hy,hL,kq,ke⟩:=h;have hz:(3000000:Nat)<=sizeLine:=by rw[sizeLine_eq];decide
  have h6:=hL.m6;have hs6:=hL.s6;have hul:us.length=rss.length:=hI.1;have hTT:=hL.tb2;obtain⟨TT,hTe⟩:∃TT,Tb rss.length one.sum.toNat=TT:=⟨_,rfl⟩;rw[hTe]at hTT;refine⟨_,(A1 (A8 (i:=2) sc_fewest.nd rfl (Or.inl rfl) (a9R O_Laying (hr.mono (by omega)) rfl (jaC (jv 0) jaN)))
 (A1 (A8 (i:=3) sc_fewest.nd rfl (Or.inl rfl) (a7o rfl T.b_tuple (jaC (a7p rfl T.b_range (jaC (N6 K rfl T.b_len (jaC (jv 0) jaN)) jaN)) jaN)))
 (A1 (A8 (i:=4) sc_fewest.nd rfl (Or.inl rfl) (B2 O_least_sum (hr.mono (by omega)) rfl (jaC (jv 2) (jaC (jv 3) (jaC (jv 1) jaN)))))
 (A1 (D1 (a5D (jv 4) R8)
 (A4 (a5F OC_NoLay PySem.F.excBase_ValueError rfl PySem.F.excBase_ValueError rfl (jaC b0R jaN)))
 B8)
 (A1 (A8 (i:=5) sc_fewest.nd rfl (Or.inl rfl) (jv 1))
 (A1 (A8 (i:=6) sc_fewest.nd rfl (Or.inl rfl) (K8 jaN))
 (A1 (G3 (N5 K (jv 3)) (A9 (i:=7) sc_fewest.nd rfl (Or.inl rfl))
 (A1 (A8 (i:=8) sc_fewest.nd rfl (Or.inl rfl) A5)
 (A1 (R6 (a5D (N8 O_Laying_reach CL_Laying (hr.mono (by omega)) (jv 2) (jaC (b0S K (jv 3) (a7k (G2 (jv 7) A5)) a7l) (jaC (jv 5) (jaC (a1G (jv 4) (jv 8)) jaN)))) R8)
 (A1 (A8 (i:=5) sc_fewest.nd rfl (Or.inl rfl) (B2 O_minus (hr.mono (by omega)) rfl (jaC (jv 5) (jaC (R9 K (jv 0) (jv 7)) jaN))))
 (A4 (a3M (i:=8) sc_fewest.nd rfl (Or.inl rfl) A5))) (hp:=PassesOwn.leaving))
 (A1 (a3L (i:=4) sc_fewest.nd rfl (Or.inl rfl) (jv 8))
 (A4 (R7 (K5 K (jv 6) (jaC (jv 8) jaN))))))) (hp:=PassesOwn.leaving))
 (A4 (B1 (E2 K rfl T.b_tuple (jaC (jv 6) jaN))))))))))),?_⟩
  refine⟨_,rfl,λp dx hp hdx hdp=>?_⟩;have s1:Same H (upd (upd H dx (.own p)) p (.ins C dx [])):=((Same.refl H).upd hdx).upd (by rw[A3 hdp.symm];exact hp);refine⟨p,dx,a,rfl,A0,λla ma H2 hla hma hp2 hla2 hma2 k2=>⟨rfl,?_⟩⟩;have s2:Same H H2:=λb o e=>k2 b o (s1 _ _ e) (A6 e hp);dsimp only[A7];have hO:LOb C H2 p a la ma rss:=⟨⟨dx,hp2⟩,⟨us,s2 _ _ ha,hI.same s2,by omega⟩⟩;refine⟨_,rfl,a,_,rfl,.inr (SqT.of (s2 _ _ ha)),us.length,rfl,by omega,λpr hpr=>?_⟩;have s3:=(Same.refl H2).upd (o:=.rng 0 us.length) hpr;have e3:upd H2 pr (.rng 0 us.length) pr=some (.rng 0 us.length):=A0;generalize upd H2 pr (.rng 0 us.length)=H3 at s3 e3;refine⟨pr,us.length,rfl,e3,by omega,by omega,λpt hpt=>?_⟩;have s4:=s3.upd (o:=.tup ((D8 us.length).map V.int)) hpt;have e4:upd H3 pt (.tup ((D8 us.length).map V.int)) pt=some (.tup ((D8 us.length).map V.int)):=A0;generalize upd H3 pt (.tup ((D8 us.length).map V.int))=H4 at s4 e4;rw[hul]at e4;dsimp only[A7];have hS4:LSt C H4 p a la ma rss [] []:=⟨hO.same s4,⟨[],s4 _ _ hla2,.nil⟩,⟨[],s4 _ _ hma2,.nil⟩⟩;have s04:=s2.trans s4;have hold:∀b o,H b=some o->b∉[la,ma]:=λb o e=>by
   simp only[List.mem_cons,List.not_mem_nil,or_false,not_or];exact⟨A6 (s1 _ _ e) hla,A6 (s1 _ _ e) hma⟩
  refine⟨_,rfl,_,rfl,_,rfl,p,a,la,ma,pt,y,rss,[],[],one,n,rfl,hS4,(λq hq=>nomatch hq),by decide,e4,hy.same s04,hL,λr5 H5 kvs5 hS5 hK5 hT5 off5 hR5=>?_⟩;rw[hTe]at hT5;have s05:Same H H5:=λb o e=>off5 b o (hold b o e) (s04 _ _ e);have tk5:=hS4.tk off5;dsimp only[A7];rcases hR5 with⟨rfl,hno⟩|⟨d0,hd0,rfl,hmin⟩
  .refine⟨_,rfl,rfl,true,rfl,a2r ?_⟩;exact⟨by rw[sizeLine_eq];decide,ke _ s05 hno⟩
  refine⟨_,rfl,rfl,false,rfl,M8 ?_⟩;refine⟨_,rfl,?_⟩;dsimp only[A7];refine⟨Nat.zero_le _,λpc hpc=>?_⟩;have hfrc:H pc=none:=s05.free hpc;have s6:=(Same.refl H5).upd (o:=.lst []) hpc;have e6:upd H5 pc (.lst []) pc=some (.lst []):=A0;generalize upd H5 pc (.lst [])=H6 at s6 e6;have hS6:=hS5.same s6;have hpcl:pc≠la:=by
   obtain⟨xs,q1,_⟩:=hS5.lo;exact(A6 q1 hpc).symm
  have hpcm:pc≠ma:=by
   obtain⟨fs,q1,_⟩:=hS5.me;exact(A6 q1 hpc).symm
  have hpcp:pc≠p:=by
   obtain⟨dx5,q1⟩:=hS5.ob.ob;exact(A6 q1 hpc).symm
  have hpt6:=s6 _ _ (tk5 _ _ e4);have s06:=s05.trans s6;have hd00:=P5 d0 hd0.nn;have hd0s:=hd0.few hL.pt;dsimp only[A7];refine⟨_,rfl,pt,rfl,⟨_,SqT.of hpt6⟩,?_⟩;refine a1d (K:=K) (a:=pt) (xs:=(D8 rss.length).map V.int) (λi σ H'=>Ex7 λ(o7 o8:Option V) (b:Nat) (vr:V) (cs rest:List Int) (kvs':List (LLI×V))=>An9 (σ=[some (.ref a),some y,some (.ref p),some (.ref pt),some (.int b),some vr,some (.ref pc),o7,o8]) (Same H H') (H' pt=some (.tup ((D8 rss.length).map V.int))) (LSt C H' p a la ma rss kvs' []) (LsOk n rss kvs') (H' pc=some (.lst (cs.map V.int))) (IT H' vr rest) (FI n rss one d0.sum i cs rest b) (kvs'.length+(b+(rss.length-i))*TT<=62*TT+(60+6)*TT))
   ⟨none,none,d0.sum.toNat,y,[],one,kvs5,by rw[Int.toNat_of_nonneg hd00];rfl,s06,hpt6,hS6,hK5,e6,hy.same s06,by rw[Int.toNat_of_nonneg hd00];exact FI.first hL hd0 hmin,?_⟩ (λi σ H' _ h=>by
    obtain⟨_,_,_,_,_,_,_,_,_,q,_⟩:=h;exact SqT.of q) ?_ ?_
  .have:(d0.sum.toNat+(rss.length-0))*TT<=(60+6)*TT:=Nat.mul_le_mul_right _ (by omega);have:([]:List (LLI×V)).length=0:=rfl;omega
  .rintro i x σ H7 hx ⟨o7,o8,b,vr,cs,rest,kvs7,rfl,s7,hpt7,hS7,hK7,hpc7,hvr7,hF,hb7⟩;obtain⟨k1,hk1,rfl⟩:=M6 hx;have hi:i<rss.length:=by
    have:=(List.getElem?_eq_some_iff.mp hk1).1;rwa[B3]at this
   have ek:k1=(i:Int):=by
    rw[D8,List.getElem?_map,List.getElem?_range hi]at hk1;exact(Option.some.inj hk1).symm
   subst ek;have hPi:=hL.pt.at hi;have hrl:=hF.rs.1;have hll:rest.length=(rss.getD i []).length:=by rw[hrl,hPi.1]
   obtain⟨dm,hdm,hdms⟩:=hF.ex;have hdl:i<dm.length:=by rw[hdm.len];exact hi
   have hb60:(b:Int)<=60:=by have h1:=hdm.few hL.pt;have h2:=hF.le;omega
   have hm0:=hdm.nn _ (G5 hdl);obtain⟨m0,hm0e⟩:∃m0:Nat,dm.getD i 0=m0:=⟨(dm.getD i 0).toNat,by omega⟩;have hm0le:∀j,j<n->(m0:Int)*(rss.getD i []).getD j 0<=rest.getD j 0:=λj _=>by rw[<-hm0e];exact hdm.le hL.pt hi j
   have hdmd:=(a1b i).mp (hdm.down hL.pt hi hrl);rw[hm0e]at hdmd;have hdmds:(dm.set i 0).sum=b-(m0:Int):=by rw[O0 _ hdl,hm0e,hdms];omega
   have hm0b:(m0:Int)<=b:=by
    have:=P5 _ hdmd.nn;omega
   have hles:∀mm:Nat,mm<=m0->∀j,j<n->(mm:Int)*(rss.getD i []).getD j 0<=rest.getD j 0:=λmm hmm j hj=>by
    have h1:=hm0le j hj;have h2:(mm:Int)*(rss.getD i []).getD j 0<=(m0:Int)*(rss.getD i []).getD j 0:=Int.mul_le_mul_of_nonneg_right (by omega) (hL.pt.nn j _ (gdm hi));omega
   have hTl:∀mm:Nat,mm<=m0->Tb (frm rss.length (i+1)).length (less rest (rss.getD i []) (mm:Nat)).sum.toNat<=TT:=λmm hmm=>by
    rw[<-hTe,a1c];refine Nat.le_trans (a0C _ (by omega)) (a0B _ ?_);rw[N1 hll];have h1:=Int.mul_nonneg (show 0<=(mm:Int) by omega) (show 0<=(rss.getD i []).sum by have:=hPi.2.2;omega);have:=hF.le;omega
   dsimp only[A7];refine⟨λmz σ H'=>∃(mm:Nat) (vr:V) (kvs':List (LLI×V)),mz=m0-mm/\mm<=m0/\σ=[some (.ref a),some y,some (.ref p),some (.ref pt),some (.int b),some vr,some (.ref pc),some (.int i),some (.int mm)]/\Same H H'/\H' pt=some (.tup ((D8 rss.length).map V.int))/\LSt C H' p a la ma rss kvs' []/\LsOk n rss kvs'/\H' pc=some (.lst (cs.map V.int))/\IT H' vr (less rest (rss.getD i []) (mm:Nat))/\kvs'.length+((b-mm)+(rss.length-i))*TT<=62*TT+(60+6)*TT/\(∀m',m'<mm->∀e,LY n rss (frm rss.length (i+1)) (less rest (rss.getD i []) (m':Nat)) e->(b:Int)-(m':Nat)<e.sum),⟨_,0,vr,kvs7,rfl,Nat.zero_le _,rfl,s7,hpt7,hS7,hK7,hpc7,?_,by rw[Nat.sub_zero];exact hb7,λm' h=>absurd h (Nat.not_lt_zero _)⟩,?_⟩
   .show IT H7 vr (less rest (rss.getD i []) ((0:Nat):Int));rw[show((0:Nat):Int)=0 from rfl,a2o hll];exact hvr7
   rintro mz σ H8 ⟨mm,vr8,kvs8,rfl,hmm,rfl,s8,hpt8,hS8,hK8,hpc8,hvr8,hb8,hno⟩;obtain⟨dx8,ho8⟩:=hS8.ob.ob;have hRm:=hF.rs.less hPi (by omega) (hles mm hmm);have hbk:TT<=((b-mm)+(rss.length-i))*TT:=by
    have:=Nat.mul_le_mul_right TT (show 1<=(b-mm)+(rss.length-i) by omega);omega
   refine⟨_,rfl,p,dx8,_,rfl,ho8,O4 a la ma,?_⟩;refine⟨_,rfl,_,rfl,_,_,rfl,rfl,_,rfl,?_⟩;dsimp only[V0];refine a8H hpt8 hi λp9 H9 s9 e9=>?_;refine⟨_,rfl,_,rfl,_,rfl,_,_,rfl,rfl,?_⟩;have hTm:=hTl mm hmm;refine⟨p,a,la,ma,p9,vr8,(b:Int)-mm,rss,kvs8,[],frm rss.length (i+1),less rest (rss.getD i []) (mm:Nat),n,rfl,by rw[a1c];omega,hS8.same s9,e9,hvr8.same s9,⟨hK8,b0a _ _,by rw[a1c];omega,hRm,hL.pt,hL.n1,by omega,by omega,by omega⟩,λr10 H10 kvs10 hS10 hK10 hT10 off10 hR10=>?_⟩;have s010:Same H H10:=λb o e=>off10 b o (hold b o e) (s9 _ _ (s8 _ _ e));have tk10:=(hS8.same s9).tk off10;have hpc10:H10 pc=some (.lst (cs.map V.int)):=off10 pc _ (by simp only[List.mem_cons,List.not_mem_nil,or_false,not_or];exact⟨hpcl,hpcm⟩) (s9 _ _ hpc8);have hpt10:=tk10 _ _ (s9 _ _ hpt8);have hvr10:=IT.tk tk10 (hvr8.same s9);refine⟨rfl,?_⟩;rcases hR10 with⟨d',hd',rfl,hdb⟩|⟨rfl,hnone⟩
   .refine⟨false,rfl,M8 ?_⟩;have hd'0:=P5 d' hd'.nn;refine⟨_,rfl,_,rfl,_,_,rfl,rfl,?_⟩;refine⟨_,rfl,.inl ⟨rfl,_,SqL.of hpc10⟩,_,rfl,pc,_,_,rfl,rfl,hpc10,by rw[List.length_map,hF.cl];omega,?_⟩;have hF':=hF.next hL hi (hles mm hmm) hd' hdb hno;have hne:∀bb o,H10 bb=some o->bb≠pc->upd H10 pc (.lst (cs.map V.int++[.int mm])) bb=some o:=λbb o e hb=>by rw[A3 hb];exact e
    have tkc:∀bb ys,H10 bb=some (.tup ys)->upd H10 pc (.lst (cs.map V.int++[.int mm])) bb=some (.tup ys):=λbb ys e=>hne bb _ e (R5 e hpc10 (λz=>nomatch z));obtain⟨dx10,ho10⟩:=hS10.ob.ob;obtain⟨us10,hu1,hu2,hu3⟩:=hS10.ob.hp;obtain⟨fs10,hf1,hf2⟩:=hS10.me;refine⟨some (.int i),some (.int mm),b-mm,vr8,cs++[(mm:Int)],_,kvs10,?_,λbb o e=>hne bb o (s010 _ _ e) (A6 e hfrc),tkc _ _ hpt10,⟨⟨⟨dx10,hne _ _ ho10 hpcp.symm⟩,⟨us10,tkc _ _ hu1,Its.tk tkc hu2,hu3⟩⟩,hS10.lo.off tkc (A3 hpcl.symm),⟨fs10,hne _ _ hf1 hpcm.symm,Its.tk tkc hf2⟩⟩,hK10,by rw[A0,List.map_append];rfl,IT.tk tkc hvr10,by rw[Int.ofNat_sub (by omega)];exact hF',?_⟩
    .rw[Int.ofNat_sub (by omega)];rfl
    .have hmul:((b-mm)+(rss.length-i))*TT=((b-mm)+(rss.length-(i+1)))*TT+TT:=by
      rw[show(b-mm)+(rss.length-i)=((b-mm)+(rss.length-(i+1)))+1 by omega,Nat.add_mul,Nat.one_mul]
     omega
   .refine⟨true,rfl,a2r ?_⟩;have hlt:mm<m0:=by
     refine Nat.lt_of_le_of_ne hmm λz=>?_;subst z;have:=hnone _ hdmd;omega
    refine⟨λσ H'=>∃(vr:V) (kvs':List (LLI×V)),σ=[some (.ref a),some y,some (.ref p),some (.ref pt),some (.int b),some vr,some (.ref pc),some (.int i),some (.int ((mm:Int)+1))]/\Same H H'/\H' pt=some (.tup ((D8 rss.length).map V.int))/\LSt C H' p a la ma rss kvs' []/\LsOk n rss kvs'/\H' pc=some (.lst (cs.map V.int))/\IT H' vr (less rest (rss.getD i []) ((mm+1:Nat):Int))/\kvs'.length+((b-(mm+1))+(rss.length-i))*TT<=62*TT+(60+6)*TT,λσ' H' h=>?_,?_⟩
    .obtain⟨vr,kvs',q1,q2,q3,q4,q5,q6,q7,q8⟩:=h;refine⟨_,by omega,mm+1,vr,kvs',rfl,hlt,q1,q2,q3,q4,q5,q6,q7,q8,λm' hm' e he=>?_⟩;by_cases em:m'=mm
     .subst em;exact hnone e he
     .exact hno m' (by omega) e he
    obtain⟨us10,hu1,hu2,hu3⟩:=hS10.ob.hp;obtain⟨v,hv1,hv2⟩:=Y4 (k:=i) hu2 hi;refine⟨_,rfl,_,rfl,_,rfl,a,us10,_,v,rfl,rfl,SqT.of hu1,P1 hv1,?_⟩;refine⟨vr8,v,_,_,rfl,hvr10,hv2,by rw[B6 hll,hPi.1];exact hL.n1,λv11 H11 s11 hv11=>?_⟩;rw[a2n _ hll]at hv11;dsimp only[A7];refine⟨_,rfl,_,_,rfl,rfl,?_⟩;refine⟨v11,kvs10,rfl,s010.trans s11,s11 _ _ hpt10,hS10.same s11,hK10,s11 _ _ hpc10,hv11,?_⟩;have hmul:((b-mm)+(rss.length-i))*TT=((b-(mm+1))+(rss.length-i))*TT+TT:=by
     rw[show(b-mm)+(rss.length-i)=((b-(mm+1))+(rss.length-i))+1 by omega,Nat.add_mul,Nat.one_mul]
    omega
  .rintro σ H7 ⟨o7,o8,b,vr,cs,rest,kvs7,rfl,s7,hpt7,hS7,hK7,hpc7,hvr7,hF,hb7⟩;rw[List.length_map,B3]at hF;refine⟨_,rfl,pc,_,rfl,.inl ⟨SqL.of hpc7,λq hq=>?_⟩⟩;exact kq q cs _ (s7.upd hq) A0 (hF.last hmin)
end
end K25
namespace K25
open PySem PySem.Spec PyProof.Rows L2
section
variable {P:Program}{w:World}{K:PySem.W.Frag}{mg:Str->Option Value}{base:Heap}
inductive IspVector(vs:List V)(H:Hp)(Q:VK)(E:XK):Prop
 |mk (a:Addr) (n:Nat) (mi:Int) (wd:Nat) (_:vs=[.ref a,.int wd,.int mi]) (_:1<=wd) (_:wd<=8) (_:0<=mi) (_:mi<=100000) (_:PotAt H a n) (_:n+100<2 ^ 60) (_:∀v xs H',xs.length=wd->(∀x∈xs,0<=x/\x<=mi+3)->0<xs.sum->IT H' v xs->PotAt H' a (n+30)->Off [a] H H'->Q v H'):IspVector  vs H Q E
def a1t:Sp:=λvs H Q E=>IspVector  vs H Q E
theorem sc__law_vector:FnScope ["_law_draw","_law_width","_law_most","_law_great","_law_found","_law_j","_law_number"] ["_law_draw","_law_width","_law_most"] (A2 E6):=⟨rfl,rfl,rfl,by decide +kernel,rfl,by decide +kernel,by decide +kernel⟩
theorem a3u(F:FunAt K mg "_law_vector" E6 ["_law_draw","_law_width","_law_most"])(T:Tx mg)(O__law_take:Ok P w K mg base "_law_take" 1 ["_law_pot_here","_law_many"] W7):Ok P w K mg base "_law_vector" 2 ["_law_draw","_law_width","_law_most"] a1t:=by
 refine F.okJ sc__law_vector (λvs H Q E h=>?_) (λcdv f A outer s H vs Q E hr h=>?_)
 .obtain⟨a,n,mi,wd,rfl,_⟩:=h;rfl
 .obtain⟨a,n,mi,wd,rfl,hw1,hw,hm0,hm,hP,hn,kk⟩:=h;have hz:(3000:Nat)<=sizeLine:=by rw[sizeLine_eq];decide
  refine⟨_,(A1 (A8 (i:=3) sc__law_vector.nd rfl (Or.inl rfl) (a8k (B2 O__law_take (hr.mono (by omega)) rfl (jaC (jv 0) (jaC A5 jaN))) A5))
 (A1 (A8 (i:=4) sc__law_vector.nd rfl (Or.inl rfl) (K8 jaN))
 (A1 (G3 (K6 rfl T.b_range (jaC (jv 1) jaN)) (A9 (i:=5) sc__law_vector.nd rfl (Or.inl rfl))
 (A1 (A8 (i:=6) sc__law_vector.nd rfl (Or.inl rfl) (J2 K (K8 (jaC A5 (jaC A5 (jaC A5 (jaC A5 (jaC A5 (jaC A5 jaN))))))) (B2 O__law_take (hr.mono (by omega)) rfl (jaC (jv 0) (jaC A5 jaN)))))
 (A1 (D1 (D5 K (jv 3))
 (A4 (A8 (i:=6) sc__law_vector.nd rfl (Or.inl rfl) (B2 O__law_take (hr.mono (by omega)) rfl (jaC (jv 0) (jaC (G2 (jv 2) A5) jaN)))))
 B8)
 (A4 (R7 (K5 K (jv 4) (jaC (jv 6) jaN)))))))
 (A1 (D1 (a2T (T3 K rfl T.b_sum (jaC (jv 4) jaN)) A5)
 (A4 (Y0 A5 (a0W (jv 4) (B2 O__law_take (hr.mono (by omega)) rfl (jaC (jv 0) (jaC (jv 1) jaN))))))
 B8)
 (A4 (B1 (E2 K rfl T.b_tuple (jaC (jv 4) jaN)))))))),?_⟩
  refine⟨_,rfl,a,n,8,rfl,hP,by omega,by decide,by decide,λr1 H1 h10 h11 hP1 off1=>?_⟩;refine⟨rfl,?_⟩;generalize decide (V.int r1=V.int 0)=gr;dsimp only[A7];refine⟨Nat.zero_le _,λpf hpf=>?_⟩;have hpf1:=a0O hP1 hpf;have s2:=(Same.refl H1).upd (o:=.lst []) hpf;have e2:upd H1 pf (.lst []) pf=some (.lst []):=A0;have off2:=off1.trans (s2.off (l:=[a]));have hP2:=hP1.same s2;have hfr:H pf=none:=by
   rcases e:H pf with _|o
   .rfl
   .have:=off1 _ _ hpf1 e;rw[hpf]at this;cases this
  generalize upd H1 pf (.lst [])=H2 at s2 e2 off2 hP2;dsimp only[A7];refine⟨_,rfl,_,rfl,by omega,by omega,?_⟩;rw[Int.toNat_natCast];refine O8 (lo:=0) (n:=wd) (λi σ H'=>Ex2 λo5 o6=>An4 (σ=[some (.ref a),some (.int wd),some (.int mi),some (.bl gr),some (.ref pf),o5,o6]) (PotAt H' a (n+1+2*i)) (Off [a] H H') (∃xs:List Int,H' pf=some (.lst (xs.map V.int))/\xs.length=i/\∀x∈xs,0<=x/\x<=mi+3)) ⟨none,none,rfl,hP2,off2,[],e2,rfl,(λ_ z=>nomatch z)⟩ ?_ ?_
  .rintro i σ H' hi ⟨o5,o6,rfl,hP',off',xs,hx',hxl,hxs⟩;dsimp only[A7];refine⟨by show 6<=sizeLine;omega,λp2 hp2=>?_⟩;have hp2P:=a0O hP' hp2;have s3:=(Same.refl H').upd (o:=.lst (([0,0,1,1,2,3]:List Int).map V.int)) hp2;have e3:upd H' p2 (.lst (([0,0,1,1,2,3]:List Int).map V.int)) p2=some (.lst (([0,0,1,1,2,3]:List Int).map V.int)):=A0;refine⟨_,rfl,a,_,6,rfl,hP'.same s3,by omega,by decide,by decide,λr3 H3 h30 h31 hP3 off3=>?_⟩;obtain⟨z0,hz1,hz2⟩:=a9E (ns:=[0,0,1,1,2,3]) h30 h31;have hz3:0<=z0/\z0<=3:=by
    simp only[List.mem_cons,List.not_mem_nil,or_false]at hz2;omega
   refine⟨p2,_,_,_,rfl,rfl,SqL.of (off3 _ _ hp2P e3),hz1,?_⟩;have hx3:=off3 _ _ hpf1 (s3 _ _ hx');have off3:=(off'.trans s3.off).trans off3;dsimp only[A7];refine Q8 (λσ H'=>Ex1 λz=>An6 (σ=[some (.ref a),some (.int wd),some (.int mi),some (.bl gr),some (.ref pf),some (.int (0+(i:Int))),some (.int z)]) (0<=z) (z<=mi+3) (PotAt H' a (n+1+2*(i+1))) (Off [a] H H') (H' pf=some (.lst (xs.map V.int)))) ?fin λfin=>?_
   case fin =>
    rintro σ H' ⟨z,rfl,z0,z1,hP',off',hx'⟩;refine⟨_,rfl,.inl ⟨rfl,_,SqL.of hx'⟩,_,rfl,pf,_,_,rfl,rfl,hx',by rw[List.length_map];omega,?_⟩;refine⟨_,_,rfl,a2R hP' hpf1,a0i off' hfr,xs++[z],by rw[A0,List.map_append];rfl,by simp[hxl],λx hx=>?_⟩;rcases List.mem_append.mp hx with q|q
    .exact hxs x q
    .rw[List.mem_singleton.mp q];exact⟨z0,z1⟩
   refine⟨_,rfl,gr,rfl,M9 (λe=>?_) (λe=>fin _ _ ⟨z0,rfl,hz3.1,by omega,hP3.mono (by omega),off3,hx3⟩)⟩;refine⟨_,rfl,_,rfl,_,_,rfl,rfl,a,_,_,rfl,hP3,by omega,by omega,by omega,λr4 H4 h40 h41 hP4 off4=>?_⟩;exact fin _ _ ⟨r4,rfl,h40,by omega,hP4.mono (by omega),off3.trans off4,off4 _ _ hpf1 hx3⟩
  .rintro σ H' ⟨o5,o6,rfl,hP',off',xs,hx',hxl,hxs⟩;dsimp only;refine Q8 (λσ H'=>Ex1 λ(ys:List Int)=>An7 (σ=[some (.ref a),some (.int wd),some (.int mi),some (.bl gr),some (.ref pf),o5,o6]) (ys.length=wd) ((∀x∈ys,0<=x/\x<=mi+3)) (0<ys.sum) (PotAt H' a (n+30)) (Off [a] H H') (H' pf=some (.lst (ys.map V.int)))) ?fin λfin=>?_
   case fin =>
    rintro σ H' ⟨ys,rfl,hyl,hys,hyp,hP',off',hx'⟩;refine⟨_,rfl,pf,_,rfl,.inl ⟨SqL.of hx',λq hq=>?_⟩⟩;have s5:=(Same.refl H').upd (o:=.tup (ys.map V.int)) hq;exact kk _ ys _ hyl hys hyp ⟨q,rfl,A0⟩ (hP'.same s5) (off'.trans s5.off)
   have hnn:∀x∈xs,0<=x:=λx hx=>(hxs x hx).1;have hs0:=P5 xs hnn;refine⟨_,rfl,false,pf,xs,rfl,SqL.of hx',rfl,_,rfl,M9 (λe=>?_) (λe=>?_)⟩
   .refine⟨_,rfl,_,rfl,_,rfl,a,_,_,rfl,hP',by omega,by omega,by omega,λr H3 r0 r1 hP3 off3=>?_⟩;obtain⟨k,rfl⟩:∃k:Nat,r=k:=⟨r.toNat,by omega⟩;have hk:k<xs.length:=by omega
    have hx3:=off3 _ _ hpf1 hx';refine⟨pf,_,_,k,rfl,rfl,hx3,a8n (by rw[List.length_map];exact hk),?_⟩;refine fin _ _ ⟨xs.set k 1,rfl,by simp[hxl],λx hx=>?_,a6n _ (λx hx=>?_) 1 ?_ (by decide),a2R (hP3.mono (by omega)) hpf1,a0i (off'.trans off3) hfr,by rw[A0,List.map_set]⟩
    .rcases List.mem_or_eq_of_mem_set hx with q|q
     .exact hxs x q
     .omega
    .rcases List.mem_or_eq_of_mem_set hx with q|q
     .exact hnn x q
     .omega
    .exact List.mem_set hk 1
   .refine fin _ _ ⟨xs,rfl,hxl,hxs,?_,hP'.mono (by omega),off',hx'⟩;have:¬xs.sum=0:=λz=>e (by rw[z];rfl);omega
inductive IspTogK(vs:List V)(H:Hp)(Q:VK)(E:XK):Prop
 |mk (p c:Addr) (kb kc:Bool) (us:List V) (rss:LLI) (cs:List Int) (n:Nat) (_:vs=[.ref p,.ref c,.int n]) (_:H p=some (if kb then .tup us else .lst us)) (_:Its H us rss) (_:H c=some (if kc then .tup (cs.map V.int)else .lst (cs.map V.int))) (_:1<=n) (_:n<=1000) (_:(∀r∈rss,r.length=n/\∀x∈r,0<=x/\x<2 ^ 60)) (_:∀v H',Same H H'->IT H' v (TgA (List.replicate n 0) rss cs)->Q v H'):IspTogK  vs H Q E
def a4F:Sp:=λvs H Q E=>IspTogK  vs H Q E
theorem sc__law_together:FnScope ["_law_parts","_law_counts","_law_width","_law_found","_law_part","_law_many","_law_j"] ["_law_parts","_law_counts","_law_width"] (A2 D3):=⟨rfl,rfl,rfl,by decide +kernel,rfl,by decide +kernel,by decide +kernel⟩
theorem a7c(F:FunAt K mg "_law_together" D3 ["_law_parts","_law_counts","_law_width"])(T:Tx mg):Ok P w K mg base "_law_together" 1 ["_law_parts","_law_counts","_law_width"] a4F:=by
 refine F.okJ sc__law_together (λvs H Q E h=>?_) (λcdv f A outer s H vs Q E hr h=>?_)
 .obtain⟨p,c,kb,kc,us,rss,cs,n,rfl,_⟩:=h;rfl
 .obtain⟨p,c,kb,kc,us,rss,cs,n,rfl,hp,hI,hc,hn1,hn,hR,kk⟩:=h;have hz:(3000:Nat)<=sizeLine:=by rw[sizeLine_eq];decide
  refine⟨_,(A1 (A8 (i:=3) sc__law_together.nd rfl (Or.inl rfl) (b0T (K8 (jaC A5 jaN)) (jv 2)))
 (A1 (G3 (a0V K rfl T.b_zip (jaC (jv 0) (jaC (jv 1) jaN))) (M1 K 2 (B5 (A9 (i:=4) sc__law_together.nd rfl (Or.inl rfl)) (B5 (A9 (i:=5) sc__law_together.nd rfl (Or.inl rfl)) G9)))
 (A4 (G3 (K6 rfl T.b_range (jaC (jv 2) jaN)) (A9 (i:=6) sc__law_together.nd rfl (Or.inl rfl))
 (A4 (Y0 (G2 (J2 K (jv 3) (jv 6)) (N7 (R9 K (jv 4) (jv 6)) (jv 5))) (a0W (jv 3) (jv 6)))))))
 (A4 (B1 (E2 K rfl T.b_tuple (jaC (jv 3) jaN)))))),?_⟩
  refine⟨by show 1<=sizeLine;omega,λp1 hp1=>⟨_,rfl,p1,_,_,rfl,rfl,A0,by omega,by omega,?_,λpf hpf=>?_⟩⟩
  .show 1*(n:Int).toNat<=_;omega
  rw[a5P,Int.toNat_natCast];have s2:=((Same.refl H).upd (o:=.lst [.int 0]) hp1).upd (o:=.lst ((List.replicate n (0:Int)).map V.int)) hpf;have hfr:H pf=none:=((Same.refl H).upd (o:=.lst [.int 0]) hp1).free hpf;have e2:upd (upd H p1 (.lst [.int 0])) pf (.lst ((List.replicate n (0:Int)).map V.int)) pf=some (.lst ((List.replicate n (0:Int)).map V.int)):=A0;generalize upd (upd H p1 (.lst [.int 0])) pf (.lst ((List.replicate n (0:Int)).map V.int))=H2 at s2 e2;dsimp only[A7];refine⟨_,rfl,_,rfl,kb,kc,p,c,rfl,⟨_,a0G (s2 _ _ hp)⟩,⟨_,a0G (s2 _ _ hc)⟩,?_⟩;refine a7A (xs:=us) (zs:=cs.map V.int) (λi σ H'=>Ex4 λo4 o5 o6 acc=>An5 (σ=[some (.ref p),some (.ref c),some (.int n),some (.ref pf),o4,o5,o6]) (Same H H') (H' pf=some (.lst (acc.map V.int))) (acc.length=n) (TgA acc (rss.drop i) (cs.drop i)=TgA (List.replicate n 0) rss cs))
   ⟨none,none,none,_,rfl,s2,e2,List.length_replicate,rfl⟩ (λi σ H' _ _ h=>by obtain⟨_,_,_,_,_,s',_⟩:=h;exact⟨a0G (s' _ _ hp),a0G (s' _ _ hc)⟩) ?_ ?_
  .rintro i x z σ H' q hx hz' ⟨o4,o5,o6,acc,rfl,s',hpf',hal,hT⟩ hq;obtain⟨cz,hcz,rfl⟩:=M6 hz';obtain⟨r,hr,hri,ra,rfl,hra⟩:=hI.mem hx;have hrr:=hR r hr;rw[O9 hri,O9 hcz]at hT;refine⟨q,[.ref ra,.int cz],rfl,SqT.of A0,rfl,.ref ra,[.int cz],rfl,.int cz,[],rfl,rfl,?_⟩;have s3:=s'.upd (o:=.tup [.ref ra,.int cz]) hq;have hpf3:=K4 (o:=.tup [.ref ra,.int cz]) hpf' hq;generalize upd H' q (.tup [.ref ra,.int cz])=H3 at s3 hpf3;dsimp only[A7];refine⟨_,rfl,_,rfl,by omega,by omega,?_⟩;rw[Int.toNat_natCast];refine O8 (lo:=0) (n:=n) (λj σ H'=>Ex2 λo6 ys=>An5 (σ=[some (.ref p),some (.ref c),some (.int n),some (.ref pf),some (.ref ra),some (.int cz),o6]) (Same H H') (H' pf=some (.lst (ys.map V.int))) (ys.length=n) (∀k,ys.getD k 0=if k<j then(L4 acc (M7 cz r)).getD k 0 else acc.getD k 0)) ⟨o6,acc,rfl,s3,hpf3,hal,λk=>by rw[if_neg (by omega)]⟩ ?_ ?_
   .rintro j σ H' hj ⟨o6,ys,rfl,s4,hpf4,hyl,hys⟩;have hra4:H' ra=some (.tup (r.map V.int)):=s4 _ _ hra;dsimp only[A7];rw[Int.zero_add];have hrj:=hrr.2 _ (G5 (xs:=r) (j:=j) (by omega));refine⟨_,rfl,_,rfl,pf,_,_,_,rfl,rfl,SqL.of hpf4,Q5 (by omega),_,rfl,_,rfl,ra,_,_,_,rfl,rfl,SqT.of hra4,Q5 (by omega),_,rfl,_,_,rfl,rfl,.inl ⟨by omega,by omega⟩,_,_,rfl,rfl,?_⟩;refine⟨_,rfl,_,rfl,pf,_,_,j,rfl,rfl,hpf4,a8n (by rw[List.length_map];omega),?_⟩;refine⟨_,ys.set j (ys.getD j 0+r.getD j 0*cz),rfl,λb u e=>by rw[A3 (A6 e hfr)];exact s4 b u e,by rw[A0,List.map_set],by simp[hyl],λk=>?_⟩;rw[a0J _ _ _ _ (by omega)];by_cases ek:k=j
    .subst ek;rw[if_pos rfl,if_pos (by omega),hys k,if_neg (by omega),L3 _ _ (by rw[B9];omega),U9,Int.mul_comm]
    .rw[if_neg ek,hys k];by_cases hk:k<j
     .rw[if_pos hk,if_pos (by omega)]
     .rw[if_neg hk,if_neg (by omega)]
   .rintro σ H' ⟨o6,ys,rfl,s4,hpf4,hyl,hys⟩;have hvl:(L4 acc (M7 cz r)).length=n:=by rw[I0 _ _ (by rw[B9];omega),B9];exact hrr.1
    have e:ys=L4 acc (M7 cz r):=gdx (by omega) λk hk=>by rw[hys k,if_pos (by omega)]
    subst e;exact⟨_,_,_,_,rfl,s4,hpf4,hvl,hT⟩
  .rintro σ H' ⟨o4,o5,o6,acc,rfl,s',hpf',hal,hT⟩;have e:acc=TgA (List.replicate n 0) rss cs:=by
    rw[<-hT,List.length_map,hI.1];by_cases h:rss.length<=cs.length
    .rw[Nat.min_eq_left h,List.drop_length];cases cs.drop rss.length<;>rfl
    .rw[Nat.min_eq_right (by omega),List.drop_length];cases rss.drop cs.length<;>rfl
   subst e;refine⟨_,rfl,pf,_,rfl,.inl ⟨SqL.of hpf',λq hq=>?_⟩⟩;exact kk _ _ (s'.upd hq) ⟨q,rfl,A0⟩
end
theorem two_at(x y:Int)(c:Bool):∃m:Int,atI [V.int x,.int y] (if c=true then 1 else 0)=some (.int m)/\m=(if c=true then y else x):=by
 cases c
 .exact⟨x,rfl,rfl⟩
 .exact⟨y,rfl,rfl⟩
theorem a6e{n:Nat}:∀(rss:LLI) (cs acc:List Int),(∀r∈rss,r.length=n/\∀x∈r,0<=x)->(∀c∈cs,0<=c)->acc.length=n->(∀x∈acc,0<=x)->∀x∈TgA acc rss cs,0<=x
 |[],cs,acc,_,_,_,h=>by
  intro x hx;have hx:x∈acc:=by cases cs<;>exact hx
  exact h x hx
 |r::rss,[],acc,_,_,_,h=>h
 |r::rss,c::cs,acc,hr,hc,hl,h=>by
  obtain⟨h1,h2⟩:=hr r (List.mem_cons_self ..);have hll:acc.length=(M7 c r).length:=by rw[B9,h1,hl]
  refine a6e rss cs (L4 acc (M7 c r)) (λq hq=>hr q (List.mem_cons_of_mem _ hq)) (λq hq=>hc q (List.mem_cons_of_mem _ hq)) (by rw[I0 _ _ hll,B9,h1]) λy hy=>?_;obtain⟨i,hi,rfl⟩:=List.mem_iff_getElem.mp hy;have e:=L3 acc (M7 c r) hll i;rw[U9,List.getD_eq_getElem?_getD,List.getElem?_eq_getElem hi]at e;have e:(L4 acc (M7 c r))[i]=acc.getD i 0+c*r.getD i 0:=e;rw[e];have q1:=gd0 h i;have q2:=gd0 h2 i;have:=Int.mul_nonneg (hc c (List.mem_cons_self ..)) q2;omega
structure Gd(n:Nat)(rss:LLI):Prop where
 pt:∀r∈rss,r.length=n/\(∀x∈r,0<=x/\x<=8)/\0<r.sum
 nd:rss.Nodup
 m6:rss.length<=6
 n1:1<=n
 n8:n<=8
theorem Gd.pts{n:Nat}{rss:LLI}(h:Gd n rss):Pts n rss:=λr hr=>let ⟨h1,h2,h3⟩:=h.pt r hr;⟨h1,λx hx=>⟨(h2 x hx).1,by have:=(h2 x hx).2;omega⟩,h3⟩
def mst(rss:LLI):Int:=if rss.length<3 then 60 else 14
theorem Gd.pre{n:Nat}{rss:LLI}{one:List Int}(h:Gd n rss)(hl:one.length=n)(h0:∀x∈one,0<=x)(hs:one.sum<=mst rss):LPre n rss one:=by
 unfold mst at hs;refine⟨h.pts,h.nd,h.m6,by have:=h.n8;omega,hl,h0,?_,λh3=>?_⟩
 .split at hs<;>omega
 .rw[if_neg (by omega)]at hs;exact hs
theorem Gd.nil{n:Nat}(h1:1<=n)(h8:n<=8):Gd n []:=⟨(λ_ z=>nomatch z),List.nodup_nil,Nat.zero_le _,h1,h8⟩
theorem Gd.rev{n:Nat}{rss:LLI}(h:Gd n rss):Gd n rss.reverse:=⟨λr hr=>h.pt r (List.mem_reverse.mp hr),(List.reverse_perm rss).nodup_iff.mpr h.nd,by rw[List.length_reverse];exact h.m6,h.n1,h.n8⟩
section
variable {P:Program}{w:World}{K:PySem.W.Frag}{mg:Str->Option Value}{base:Heap}
inductive IspSmall(K:PySem.W.Frag)(vs:List V)(H:Hp)(Q:VK)(E:XK):Prop
 |mk (a:Addr) (ns:List Int) (_:vs=[.ref a]) (_:SqL K H a (ns.map V.int)) (_:∀(q pa:Addr) (us:List V) (rss:LLI) (wd:Nat) (H':Hp),H' q=some (.tup [.ref pa,.int wd])->H' pa=some (.tup us)->Its H' us rss->Gd wd rss->Same H H'->Q (.ref q) H'):IspSmall K vs H Q E
def a2G(K:PySem.W.Frag):Sp:=λvs H Q E=>IspSmall K vs H Q E
theorem sc__law_small:FnScope ["_law_script","_law_head","_law_width","_law_many","_law_parts","_law_k","_law_part"] ["_law_script"] (A2 G7):=⟨rfl,rfl,rfl,by decide +kernel,rfl,by decide +kernel,by decide +kernel⟩
theorem a5l(F:FunAt K mg "_law_small" G7 ["_law_script"])(T:Tx mg)(O__law_take:Ok P w K mg base "_law_take" 1 ["_law_pot_here","_law_many"] W7)(O__law_pot:Ok P w K mg base "_law_pot" 2 ["_law_script","_law_k"] (a4G K))(O__law_vector:Ok P w K mg base "_law_vector" 2 ["_law_draw","_law_width","_law_most"] a1t):Ok P w K mg base "_law_small" 3 ["_law_script"] (a2G K):=by
 refine F.okJ sc__law_small (λvs H Q E h=>?_) (λcdv f A outer s H vs Q E hr h=>?_)
 .obtain⟨a,ns,rfl,_⟩:=h;rfl
 .obtain⟨a,ns,rfl,hS,kk⟩:=h;have hz:(3000:Nat)<=sizeLine:=by rw[sizeLine_eq];decide
  have hu:=hr.u60;refine⟨_,(A1 (A8 (i:=1) sc__law_small.nd rfl (Or.inl rfl) (B2 O__law_pot (hr.mono (by omega)) rfl (jaC (jv 0) (jaC A5 jaN))))
 (A1 (A8 (i:=2) sc__law_small.nd rfl (Or.inl rfl) (J2 K (K8 (jaC (G2 A5 (B2 O__law_take (hr.mono (by omega)) rfl (jaC (jv 1) (jaC A5 jaN)))) (jaC (G2 A5 (B2 O__law_take (hr.mono (by omega)) rfl (jaC (jv 1) (jaC A5 jaN)))) jaN))) (a0X rfl T.b_int (jaC (a8k (B2 O__law_take (hr.mono (by omega)) rfl (jaC (jv 1) (jaC A5 jaN))) A5) jaN))))
 (A1 (A8 (i:=3) sc__law_small.nd rfl (Or.inl rfl) (B2 O__law_take (hr.mono (by omega)) rfl (jaC (jv 1) (jaC A5 jaN))))
 (A1 (A8 (i:=4) sc__law_small.nd rfl (Or.inl rfl) (K8 jaN))
 (A1 (G3 (K6 rfl T.b_range (jaC (jv 3) jaN)) (A9 (i:=5) sc__law_small.nd rfl (Or.inl rfl))
 (A1 (A8 (i:=6) sc__law_small.nd rfl (Or.inl rfl) (B2 O__law_vector (hr.mono (by omega)) rfl (jaC (B2 O__law_pot (hr.mono (by omega)) rfl (jaC (jv 0) (jaC (G2 A5 (jv 5)) jaN))) (jaC (jv 2) (jaC A5 jaN)))))
 (A4 (D1 (a3K K hu (jv 6) (jv 4) (by with_unfolding_all rfl))
 (A4 (R7 (K5 K (jv 4) (jaC (jv 6) jaN))))
 B8))))
 (A4 (B1 (K7 (jaC (E2 K rfl T.b_tuple (jaC (jv 4) jaN)) (jaC (jv 2) jaN)))))))))),?_⟩
  refine⟨_,rfl,a,ns,_,0,rfl,rfl,by omega,hS,λp H1 hp hP1 s1=>?_⟩;dsimp only[A7];refine⟨_,rfl,p,_,3,rfl,hP1,by omega,by decide,by decide,λr2 H2 h20 h21 hP2 off2=>?_⟩;refine⟨_,_,rfl,rfl,_,rfl,p,_,8,rfl,hP2,by omega,by decide,by decide,λr3 H3 h30 h31 hP3 off3=>?_⟩;refine⟨_,_,rfl,rfl,by show 2<=sizeLine;omega,λp4 hp4=>?_⟩;dsimp only;have s4:=(Same.refl H3).upd (o:=.lst [V.int (1+r2),.int (1+r3)]) hp4;have hp41:=a0O hP3 hp4;refine⟨_,rfl,p,_,8,rfl,hP3.same s4,by omega,by decide,by decide,λr5 H5 h50 h51 hP5 off5=>?_⟩;refine⟨rfl,.inr ⟨_,rfl,?_⟩⟩;obtain⟨wi,hw1,hw2⟩:=two_at (1+r2) (1+r3) (decide (V.int r5=V.int 0));refine⟨p4,_,_,_,rfl,rfl,SqL.of (off5 _ _ hp41 A0),hw1,?_⟩;have off5:Off [p] H1 H5:=((off2.trans off3).trans s4.off).trans off5;have hwb:1<=wi/\wi<=8:=by rw[hw2];split<;>omega
  obtain⟨wd,rfl⟩:∃wd:Nat,wi=wd:=⟨wi.toNat,by omega⟩;have hwd:1<=wd/\wd<=8:=by omega
  clear hw1 hw2 off2 off3 s4 hp4 hp41 hP1 hP2 hP3;dsimp only[A7];refine⟨_,rfl,p,_,7,rfl,hP5,by omega,by decide,by decide,λr6 H6 h60 h61 hP6 off6=>?_⟩;obtain⟨mn,rfl⟩:∃mn:Nat,r6=mn:=⟨r6.toNat,by omega⟩;have hmn:mn<=6:=by omega
  have s10:Same H H6:=P7 s1 hp (off5.trans off6);clear off5 off6 hP5 hP6 s1;dsimp only[A7];refine⟨Nat.zero_le _,λpp hpp=>?_⟩;have hfr:H pp=none:=s10.free hpp;have s11:=s10.upd (o:=.lst []) hpp;have e11:upd H6 pp (.lst []) pp=some (.lst []):=A0;generalize upd H6 pp (.lst [])=H11 at s11 e11;dsimp only[A7];refine⟨_,rfl,_,rfl,by omega,by omega,?_⟩;rw[Int.toNat_natCast];refine O8 (lo:=0) (n:=mn) (λi σ H'=>Ex4 λ(o5 o6:Option V) (us:List V) (rss:LLI)=>An6 (σ=[some (.ref a),some (.ref p),some (.int wd),some (.int mn),some (.ref pp),o5,o6]) (Same H H') (H' pp=some (.lst us)) (Its H' us rss) (rss.length<=i) (Gd wd rss)) ⟨none,none,[],[],rfl,s11,e11,Its.nil,Nat.le_refl _,Gd.nil hwd.1 hwd.2⟩ ?_ ?_
  .rintro i σ H' hi ⟨o5,o6,us,rss,rfl,s',hpp',hI',hrl,hG⟩;dsimp only[A7];refine⟨_,rfl,_,rfl,_,_,rfl,rfl,a,ns,_,2+i,rfl,by omega,by omega,s'.seq hS,λp1 H1 hp1 hP1 s1=>?_⟩;refine⟨_,rfl,?_⟩;refine⟨p1,_,5,wd,rfl,hwd.1,hwd.2,by decide,by decide,hP1,by omega,λv2 xs H2 hxl hxs hxp hv2 _ off2=>?_⟩;have s2:Same H' H2:=P7 s1 hp1 off2;have sH2:=s'.trans s2;obtain⟨va,rfl,hva⟩:=hv2;dsimp only[A7];have hpp2:=s2 _ _ hpp';refine⟨_,rfl,_,rfl,va,pp,xs,false,us,rss,rfl,hva,rfl,SqL.of hpp2,hI'.same s2,_,rfl,M9 (λe=>?_) (λe=>?_)⟩
   .refine⟨_,rfl,.inl ⟨rfl,_,SqL.of hpp2⟩,_,rfl,pp,_,_,rfl,rfl,hpp2,by rw[hI'.1];omega,?_⟩;refine⟨_,_,us++[.ref va],rss++[xs],rfl,λb u e=>by rw[A3 (A6 e hfr)];exact sH2 b u e,A0,((hI'.same s2).snoc ⟨va,rfl,hva⟩).put hpp2,by rw[List.length_append];simp;omega,⟨λr hr=>?_,a3C hG.nd (a9D _) λr h1 h2=>?_,by rw[List.length_append];simp;omega,hwd.1,hwd.2⟩⟩
    .rcases List.mem_append.mp hr with z|z
     .exact hG.pt r z
     .rw[List.mem_singleton.mp z];exact⟨hxl,λx hx=>hxs x hx,hxp⟩
    .rw[List.mem_singleton.mp h2]at h1;simp[h1]at e
   .exact⟨_,_,us,rss,rfl,sH2,hpp2,hI'.same s2,by omega,hG⟩
  .rintro σ H' ⟨o5,o6,us,rss,rfl,s',hpp',hI',hrl,hG⟩;refine⟨_,rfl,pp,_,rfl,.inl ⟨SqL.of hpp',λpa hpa=>?_⟩⟩;have s2:=(Same.refl H').upd (o:=.tup us) hpa;have e2:upd H' pa (.tup us) pa=some (.tup us):=A0;generalize upd H' pa (.tup us)=H2 at s2 e2;refine⟨_,rfl,by show 2<=sizeLine;omega,λq hq=>?_⟩;have s3:=(Same.refl H2).upd (o:=.tup [.ref pa,.int wd]) hq;exact kk q pa us rss wd _ A0 (s3 _ _ e2) ((hI'.same s2).same s3) hG ((s'.trans s2).trans s3)
def OnQ(a pa pc:Addr)(wd:Nat)(m:Int)(rss:LLI)(H:Hp)(σ:L2.St)(H':Hp):Prop :=
 ∃(v:V) (one:List Int),σ=[some (.ref a),some (.ref pa),some (.int wd),some (.int m),some (.ref pc),some v]/\IT H' v one/\one.length=wd/\(∀x∈one,0<=x)/\one.sum<=mst rss/\Off [a] H H'
inductive IspOneOf(vs:List V)(H:Hp)(Q:VK)(E:XK):Prop
 |mk (a pa:Addr) (wd:Nat) (us:List V) (rss:LLI) (_:vs=[.ref a,.ref pa,.int wd]) (_:PotAt H a 0) (_:H pa=some (.tup us)) (_:Its H us rss) (_:Gd wd rss) (_:∀(v:V) (one:List Int) (H':Hp),IT H' v one->one.length=wd->(∀x∈one,0<=x)->one.sum<=mst rss->Off [a] H H'->Q v H'):IspOneOf  vs H Q E
def a2K:Sp:=λvs H Q E=>IspOneOf  vs H Q E
theorem sc__law_one_of:FnScope ["_law_draw","_law_parts","_law_width","_law_most","_law_counts","_law_one"] ["_law_draw","_law_parts","_law_width"] (A2 E7):=⟨rfl,rfl,rfl,by decide +kernel,rfl,by decide +kernel,by decide +kernel⟩
theorem a3w(F:FunAt K mg "_law_one_of" E7 ["_law_draw","_law_parts","_law_width"])(T:Tx mg)(O__law_take:Ok P w K mg base "_law_take" 1 ["_law_pot_here","_law_many"] W7)(O__law_together:Ok P w K mg base "_law_together" 1 ["_law_parts","_law_counts","_law_width"] a4F):Ok P w K mg base "_law_one_of" 2 ["_law_draw","_law_parts","_law_width"] a2K:=by
 refine F.okJ sc__law_one_of (λvs H Q E h=>?_) (λcdv f A outer s H vs Q E hr h=>?_)
 .obtain⟨a,pa,wd,us,rss,rfl,_⟩:=h;rfl
 .obtain⟨a,pa,wd,us,rss,rfl,hP,hpa,hI,hG,kk⟩:=h;have hz:(3000:Nat)<=sizeLine:=by rw[sizeLine_eq];decide
  have h6:=hG.m6;have h1:=hG.n1;have h8:=hG.n8;have hul:=hI.1;refine⟨_,(A1 (A8 (i:=3) sc__law_one_of.nd rfl (Or.inr rfl) (J2 K (K8 (jaC A5 (jaC A5 jaN))) (a0X rfl T.b_int (jaC (b0N (N6 K rfl T.b_len (jaC (jv 1) jaN)) A5) jaN))))
 (A1 (a2U (i:=4) sc__law_one_of.nd rfl (Or.inl rfl) (N:=["_law_part","_law_draw","_law_most"]) (src:=[none,some 0,some 3]) (N5 K (jv 1)) (by show D2 _ _=true;rfl) (by rfl) (by rfl)
 (λ_ _ _ _ _=>(A9 (i:=0) (show(["_law_part","_law_draw","_law_most"]:List Str).Nodup by decide +kernel) rfl (Or.inl rfl))) (λ_ _ _ _ _=>M3) (λ_ _ _ _ _=>(B2 O__law_take (hr.mono (by omega)) rfl (jaC (jv 1) (jaC (J2 K (K8 (jaC A5 (jaC A5 jaN))) (a0X rfl T.b_int (jaC (b0P (jv 2) A5) jaN))) jaN)))))
 (A1 (A8 (i:=5) sc__law_one_of.nd rfl (Or.inl rfl) (B2 O__law_together (hr.mono (by omega)) rfl (jaC (jv 1) (jaC (jv 4) (jaC (jv 2) jaN)))))
 (A1 (D1 (a3J (a0m (a2T (B2 O__law_take (hr.mono (by omega)) rfl (jaC (jv 0) (jaC A5 jaN))) A5) (T2 (a0n (T3 K rfl T.b_sum (jaC (jv 5) jaN)) (jv 3)))))
 (A4 (A8 (i:=5) sc__law_one_of.nd rfl (Or.inl rfl) (E2 K rfl T.b_tuple (jaC (G4 (N:=["_law_j","_law_draw","_law_most","_law_width"]) (src:=[none,some 0,some 3,some 2]) (K6 rfl T.b_range (jaC (jv 2) jaN)) (by show D2 _ _=true;rfl) (by rfl) (by rfl)
 (λ_ _ _ _ _=>(A9 (i:=0) (show(["_law_j","_law_draw","_law_most","_law_width"]:List Str).Nodup by decide +kernel) rfl (Or.inl rfl))) (λ_ _ _ _ _=>M3) (λ_ _ _ _ _=>(B2 O__law_take (hr.mono (by omega)) rfl (jaC (jv 1) (jaC (G2 A5 (a0Y (jv 2) (jv 3))) jaN))))) jaN))))
 B8)
 (A4 (B1 (jv 5))))))),?_⟩
  refine⟨by show 2<=sizeLine;omega,λp4 hp4=>?_⟩;have s4:=(Same.refl H).upd (o:=.lst [V.int 14,.int 60]) hp4;have e4:upd H p4 (.lst [V.int 14,.int 60]) p4=some (.lst [V.int 14,.int 60]):=A0;generalize upd H p4 (.lst [V.int 14,.int 60])=H4 at s4 e4;refine⟨_,rfl,pa,us,rfl,.inr (SqT.of (s4 _ _ hpa)),_,_,rfl,rfl,.inr ⟨_,rfl,?_⟩⟩;obtain⟨m,hm1,hm2⟩:=two_at 14 60 (decide ((us.length:Int)<3));refine⟨p4,_,_,_,rfl,rfl,SqL.of e4,hm1,?_⟩;have hm:m=mst rss:=by
   rw[hm2];unfold mst;by_cases e:rss.length<3
   .rw[if_pos (decide_eq_true (by omega)),if_pos e]
   .rw[if_neg (by simp;omega),if_neg e]
  have hmb:m=14∨m=60:=by rw[hm];unfold mst;split<;>simp
  dsimp only[A7];refine⟨_,rfl,pa,rfl,⟨_,SqT.of (s4 _ _ hpa)⟩,?_⟩;refine Z2 (xs:=us) (by omega) (λi ys H'=>PotAt H' a i/\Off [a] H H'/\∃cs:List Int,ys=cs.map V.int/\cs.length=i/\∀c∈cs,0<=c) ⟨hP.same s4,s4.off,[],rfl,rfl,λ_ z=>nomatch z⟩ (λi ys H' _ h=>?_) ?_ ?_
  .obtain⟨q1,q2,cs,rfl,hcl,_⟩:=h;exact⟨SqT.of (q2 _ _ (a5a hP hpa) hpa),by rw[List.length_map,hcl];exact Nat.le_refl _⟩
  .rintro i x ys H' hx ⟨hP',off',cs,rfl,hcl,hcs⟩;have hi:i<us.length:=(List.getElem?_eq_some_iff.mp hx).1;refine⟨Sub.one,_,rfl,by show 2<=sizeLine;omega,λp5 hp5=>?_⟩;have s5:=(Same.refl H').upd (o:=.lst [V.int 3,.int 12]) hp5;have e5:upd H' p5 (.lst [V.int 3,.int 12]) p5=some (.lst [V.int 3,.int 12]):=A0;generalize upd H' p5 (.lst [V.int 3,.int 12])=H5 at s5 e5;refine⟨_,rfl,_,_,rfl,rfl,.inr ⟨_,rfl,?_⟩⟩;obtain⟨b,hb1,hb2⟩:=two_at 3 12 (decide ((14:Int)<m));have hbb:b=3∨b=12:=by rw[hb2];split<;>simp
   refine⟨p5,_,_,_,rfl,rfl,SqL.of e5,hb1,?_⟩;refine⟨a,i,b,rfl,hP'.same s5,by omega,by omega,by omega,λr H6 r0 r1 hP6 off6=>?_⟩;refine⟨hP6,(off'.trans s5.off).trans off6,cs++[r],by simp,by simp[hcl],λc hc=>?_⟩;rcases List.mem_append.mp hc with z|z
   .exact hcs c z
   .rw[List.mem_singleton.mp z];exact r0
  .rintro ys H5 ⟨hP5,off5,cs,rfl,hcl,hcs⟩ pc hpc;have s6:=(Same.refl H5).upd (o:=.lst (cs.map V.int)) hpc;have e6:upd H5 pc (.lst (cs.map V.int)) pc=some (.lst (cs.map V.int)):=A0;generalize upd H5 pc (.lst (cs.map V.int))=H6 at s6 e6;have off6:=off5.trans s6.off;have hP6:=hP5.same s6;dsimp only[A7];have hpa6:=off6 _ _ (a5a hP hpa) hpa;have hI6:=Its.off hI hP off6;refine⟨_,rfl,_,rfl,_,rfl,pa,pc,true,false,us,rss,cs,wd,rfl,hpa6,hI6,e6,h1,by omega,λr hr=>⟨(hG.pt r hr).1,λx hx=>⟨((hG.pt r hr).2.1 x hx).1,by have:=((hG.pt r hr).2.1 x hx).2;omega⟩⟩,λv7 H7 s7 hv7=>?_⟩;have hP7:=hP6.same s7;have off7:=off6.trans s7.off;have hol:(TgA (List.replicate wd 0) rss cs).length=wd:=a3g rss cs _ (λr hr=>(hG.pt r hr).1) List.length_replicate;have hon:=a6e rss cs (List.replicate wd 0) (λr hr=>⟨(hG.pt r hr).1,λx hx=>((hG.pt r hr).2.1 x hx).1⟩) hcs List.length_replicate (λx hx=>by rw[List.eq_of_mem_replicate hx];exact Int.le_refl _);generalize TgA (List.replicate wd 0) rss cs=one at hv7 hol hon;dsimp only[A7];refine Q8 (λσ H'=>OnQ a pa pc wd m rss H σ H') ?fin λfin=>?_
   case fin =>
    rintro σ H' ⟨v,one,rfl,hv,q1,q2,q3,q4⟩;exact⟨_,rfl,kk v one H' hv q1 q2 q3 q4⟩
   have again:∀H8,PotAt H8 a (us.length+1)->Off [a] H H8->∀D:Ends,(∀σ H',OnQ a pa pc wd m rss H σ H'->D.nx σ H')->∀v0:V,a5J (a0d (a1q 2) a3l) [some (.ref a),some (.ref pa),some (.int wd),some (.int m),some (.ref pc),some v0] H8 (λJ H'=>N9 [none,some 0,some 3,some 2] (A7 0) W5 (a1s W7 [] E0 (a0d (a1q 1) (a0d (tOp (rI0 λi j=>V.int (i+j)) (tC (.int 1)) (tOp (rI b0o λi j=>V.int (i / j)) (a1q 2) (a1q 3))) a3l))) [some (.ref a),some (.ref pa),some (.int wd),some (.int m),some (.ref pc),some v0] (λv H'=>a3l [some (.ref a),some (.ref pa),some (.int wd),some (.int m),some (.ref pc),some v0] H' λvs H1=>a2g K (v::vs) H1 λu H2=>D.nx [some (.ref a),some (.ref pa),some (.int wd),some (.int m),some (.ref pc),some u] H2) J H'):=by
    intro H8 hP8 off8 D hD v0;refine⟨_,rfl,_,rfl,by omega,by omega,?_⟩;rw[Int.toNat_natCast];have hdiv:0<=m / (wd:Int)/\m / (wd:Int)<=60/\(wd:Int)*(m / (wd:Int))<=m:=by
     refine⟨Int.ediv_nonneg (by omega) (by omega),?_,Int.mul_ediv_self_le (by omega)⟩;have:=Int.ediv_le_self (wd:Int) (show 0<=m by omega);omega
    refine Z3 (lo:=0) (n:=wd) (by omega) (λi ys H'=>PotAt H' a (us.length+1+i)/\Off [a] H H'/\∃xs:List Int,ys=xs.map V.int/\xs.length=i/\(∀c∈xs,0<=c)/\xs.sum<=(i:Int)*(m / (wd:Int))) ⟨hP8,off8,[],rfl,rfl,(λ_ z=>nomatch z),by simp⟩ (λi ys H' h=>by
     obtain⟨_,_,xs,rfl,hxl,_⟩:=h;rw[List.length_map,hxl];exact Nat.le_refl _) ?_ ?_
    .rintro i ys H' hi ⟨hP',off',xs,rfl,hxl,hxs,hsum⟩;refine⟨Sub.one,_,rfl,_,rfl,_,rfl,_,_,rfl,rfl,⟨by omega,by omega⟩,_,_,rfl,rfl,?_⟩;refine⟨a,_,_,rfl,hP',by omega,by omega,by omega,λr H9 r0 r1 hP9 off9=>?_⟩;refine⟨hP9,off'.trans off9,xs++[r],by simp,by simp[hxl],λc hc=>?_,?_⟩
     .rcases List.mem_append.mp hc with z|z
      .exact hxs c z
      .rw[List.mem_singleton.mp z];exact r0
     .rw[List.sum_append];show xs.sum+(r+0)<=((i+1:Nat):Int)*_;rw[Int.natCast_add,Int.add_mul];show xs.sum+(r+0)<=_+1*_;omega
    .rintro ys H' ⟨hP',off',xs,rfl,hxl,hxs,hsum⟩ pl hpl;have s9:=(Same.refl H').upd (o:=.lst (xs.map V.int)) hpl;have e9:upd H' pl (.lst (xs.map V.int)) pl=some (.lst (xs.map V.int)):=A0;generalize upd H' pl (.lst (xs.map V.int))=H9 at s9 e9;refine⟨pl,_,rfl,.inl ⟨SqL.of e9,λq hq=>?_⟩⟩;have s10:=s9.upd (o:=.tup (xs.map V.int)) hq;exact hD _ _ ⟨.ref q,xs,rfl,⟨q,rfl,A0⟩,hxl,hxs,by rw[<-hm];omega,off'.trans s10.off⟩
   refine⟨_,rfl,a,_,3,rfl,hP7,by omega,by decide,by decide,λr8 H8 _ _ hP8 off8=>?_⟩;refine⟨rfl,_,rfl,?_⟩;have hv8:=IT.off hv7 hP7 off8;obtain⟨vb,rfl,hvb⟩:=id hv8;cases er:decide (V.int r8=V.int 0)with
   |true=>exact again H8 hP8 (off7.trans off8) _ fin _
   |false =>
    refine⟨_,rfl,true,vb,one,rfl,SqT.of hvb,_,rfl,_,_,rfl,rfl,_,rfl,M9 (λe=>again H8 hP8 (off7.trans off8) _ fin _) (λe=>fin _ _ ⟨_,one,rfl,hv8,hol,hon,?_,off7.trans off8⟩)⟩;rw[<-hm];have:¬m<one.sum:=λz=>e (decide_eq_true z);omega
end
theorem pw_take{α:Type}{R:α->α->Prop}{L:List α}{t:Nat}{x:α}(h:L.Pairwise R)(hx:L[t]?=some x):∀y∈L.take t,R y x:=λy hy=>by
 have e:L=L.take t++L.drop t:=(List.take_append_drop t L).symm;rw[e,List.pairwise_append]at h;exact h.2.2 y hy x (by rw[O9 hx];exact List.mem_cons_self)
abbrev Pr:=List Int×List Int
def ltP(a b:Pr):Prop:=HT.lexLt a.1 b.1=true
theorem a0k{L:List Pr}(h:L.Pairwise ltP):(L.map (·.1)).Nodup:=by
 unfold List.Nodup;rw[List.pairwise_map];refine h.imp λ{a b} hab e=>?_;unfold ltP at hab;rw[e,E4]at hab;cases hab
structure Al1(n:Nat)(rss:LLI)(one:List Int)(i:Nat)(x:Pr):Prop where
 cl:x.1.length=i
 cn:∀c∈x.1,0<=c
 ll:x.2.length=n
 ln:∀c∈x.2,0<=c
 eq:L4 x.2 (cv n (rss.take i) x.1)=one
structure AOk(n:Nat)(rss:LLI)(one:List Int)(i:Nat)(L:List Pr):Prop where
 snd:∀x∈L,Al1 n rss one i x
 cpl:∀cs:List Int,cs.length=i->(∀c∈cs,0<=c)->(∀j,j<n->ws (λr=>r.getD j 0) (rss.take i) cs<=one.getD j 0)->∃l,(cs,l)∈L
 srt:L.Pairwise ltP
def Bx(n:Nat)(r:List Int)(L:List Pr)(t:Nat)(x:Pr):Prop:=∃(cs l:List Int) (m:Nat),(cs,l)∈L.take t/\(∀j,j<n->(m:Int)*r.getD j 0<=l.getD j 0)/\x=(cs++[(m:Int)],less l r m)
theorem a0E{f:List Int->Int}:∀{rss:LLI}{cs:List Int}{r:List Int}{c:Int},cs.length=rss.length->ws f (rss++[r]) (cs++[c])=ws f rss cs+c*f r
 |[],[],r,c,_=>by show c*f r+0=0+c*f r;omega
 |[],_::_,_,_,h=>nomatch h
 |_::_,[],_,_,h=>nomatch h
 |q::rss,d::cs,r,c,h=>by
  show d*f q+ws f (rss++[r]) (cs++[c])=d*f q+ws f rss cs+c*f r;rw[a0E (by simpa using h)];omega
section
variable {n:Nat}{rss:LLI}{one:List Int}{i:Nat}{L:List Pr}
theorem F0(hp:Pts n rss)(i:Nat):Pts n (rss.take i):=λr hr=>hp r (List.mem_of_mem_take hr)
theorem Al1.at(hp:Pts n rss){x:Pr}(h:Al1 n rss one i x)(j:Nat):x.2.getD j 0+ws (λr=>r.getD j 0) (rss.take i) x.1=one.getD j 0:=by
 have:=L3 x.2 (cv n (rss.take i) x.1) (by rw[h.ll,J4 (F0 hp i).len]) j;rw[h.eq,U4 (F0 hp i).len]at this;exact this.symm
theorem Al1.sum(hp:Pts n rss){x:Pr}(h:Al1 n rss one i x)(hi:i<=rss.length):x.1.sum<=one.sum:=by
 have e:=Q7 x.2 (cv n (rss.take i) x.1) (by rw[h.ll,J4 (F0 hp i).len]);rw[h.eq,a2x (F0 hp i).len]at e;have h1:=a1T (f:=List.sum) (F0 hp i).sz h.cn (by rw[h.cl,List.length_take];omega);have h2:=P5 _ h.ln;omega
theorem Al1.next(hp:Pts n rss){r cs l:List Int}{m:Nat}(hr:rss[i]?=some r)(h:Al1 n rss one i (cs,l))(hol:one.length=n)(hm:∀j,j<n->(m:Int)*r.getD j 0<=l.getD j 0):Al1 n rss one (i+1) (cs++[(m:Int)],less l r m):=by
 have hP:=hp r (List.mem_of_getElem? hr);have hll:l.length=r.length:=by rw[h.ll,hP.1]
 have hi:i<rss.length:=(List.getElem?_eq_some_iff.mp hr).1;refine⟨by rw[List.length_append,h.cl];rfl,λc hc=>?_,by rw[B6 hll,hP.1],a0R h.ll hP.1 hm,?_⟩
 .rcases List.mem_append.mp hc with z|z
  .exact h.cn c z
  .rw[List.mem_singleton.mp z];omega
 .have hcl:(less l r (m:Int)).length=(cv n (rss.take (i+1)) (cs++[(m:Int)])).length:=by rw[J4 (F0 hp (i+1)).len,B6 hll,hP.1]
  refine gdx (by rw[I0 _ _ hcl,J4 (F0 hp (i+1)).len,hol]) λj _=>?_;have h1:=h.at hp j;rw[L3 _ _ hcl,U4 (F0 hp (i+1)).len,D4 hll,List.take_add_one,hr];rw[show(some r).toList=[r] from rfl,a0E (by rw[h.cl,List.length_take];omega)];show l.getD j 0-(m:Int)*r.getD j 0+(ws (λr=>r.getD j 0) (rss.take i) cs+(m:Int)*r.getD j 0)=one.getD j 0;have h1:l.getD j 0+ws (λr=>r.getD j 0) (rss.take i) cs=one.getD j 0:=h1;omega
theorem AOk.next(hp:Pts n rss){r:List Int}{M:List Pr}(hr:rss[i]?=some r)(h:AOk n rss one i L)(hol:one.length=n)(hM:∀x,x∈M↔Bx n r L L.length x)(hs:M.Pairwise ltP):AOk n rss one (i+1) M:=by
 have hP:=hp r (List.mem_of_getElem? hr);have hi:i<rss.length:=(List.getElem?_eq_some_iff.mp hr).1;refine⟨λx hx=>?_,λcs hcl hcn hle=>?_,hs⟩
 .obtain⟨cs,l,m,h1,h2,rfl⟩:=(hM x).mp hx;rw[List.take_length]at h1;exact(h.snd _ h1).next hp hr hol h2
 .obtain⟨ds,c,rfl⟩:∃ds c,cs=ds++[c]:=by
   have hne:cs≠[]:=λz=>by rw[z]at hcl;cases hcl
   exact⟨cs.dropLast,cs.getLast hne,(List.dropLast_concat_getLast hne).symm⟩
  have hdl:ds.length=i:=by rw[List.length_append]at hcl;simpa using hcl
  have hc:=hcn c (List.mem_append_right _ List.mem_cons_self);obtain⟨m,rfl⟩:∃m:Nat,c=m:=⟨c.toNat,by omega⟩;have e:∀j,ws (λr=>r.getD j 0) (rss.take (i+1)) (ds++[(m:Int)])=ws (λr=>r.getD j 0) (rss.take i) ds+(m:Int)*r.getD j 0:=λj=>by
   rw[List.take_add_one,hr];exact a0E (by rw[hdl,List.length_take];omega)
  have hr0:∀j,0<=(m:Int)*r.getD j 0:=λj=>Int.mul_nonneg (by omega) (gd0 (λx hx=>(hP.2.1 x hx).1) j);obtain⟨l,hl⟩:=h.cpl ds hdl (λc hc=>hcn c (List.mem_append_left _ hc)) λj hj=>by
   have:=hle j hj;have:=hr0 j;rw[e]at *;omega
  refine⟨less l r m,(hM _).mpr ⟨ds,l,m,by rw[List.take_length];exact hl,λj hj=>?_,rfl⟩⟩;have h1:=(h.snd _ hl).at hp j;have h2:=hle j hj;rw[e]at h2;have h1:l.getD j 0+ws (λr=>r.getD j 0) (rss.take i) ds=one.getD j 0:=h1;omega
theorem AOk.first(hol:one.length=n)(hon:∀x∈one,0<=x):AOk n rss one 0 [([],one)]:=by
 refine⟨λx hx=>?_,λcs hcl _ _=>?_,by simp⟩
 .rw[List.mem_singleton.mp hx];refine⟨rfl,(λc z=>nomatch z),hol,hon,?_⟩;show L4 one (List.replicate n 0)=one;refine gdx (by rw[I0 _ _ (by rw[hol,List.length_replicate]),List.length_replicate,hol]) λj _=>?_;rw[L3 _ _ (by rw[hol,List.length_replicate]),J0];omega
 .rw[List.length_eq_zero_iff.mp hcl];exact⟨one,List.mem_cons_self⟩
theorem a6d(hL:LPre n rss one){M:List Pr}{i:Nat}(hi:i<=rss.length)(hM:∀x∈M,Al1 n rss one i x)(hs:M.Pairwise ltP):M.length<=100000:=by
 have h6:=hL.m6;have key:∀s:Nat,one.sum<=s->M.length<=cn i s:=λs hs'=>by
  have:=a8i (M.map (·.1)) (Ev i s) (a0k hs) λx hx=>by
   obtain⟨y,hy,rfl⟩:=List.mem_map.mp hx;have h1:=hM y hy;exact a6f h1.cl h1.cn (by have:=h1.sum hL.pt hi;omega)
  rw[List.length_map,a6g]at this;exact this
 by_cases h3:3<=rss.length
 .refine Nat.le_trans (key 14 (by have:=hL.s1 h3;omega)) ?_;have:i=0∨i=1∨i=2∨i=3∨i=4∨i=5∨i=6:=by omega
  rcases this with e|e|e|e|e|e|e<;>rw[e]<;>decide +kernel
 .refine Nat.le_trans (key 60 (by have:=hL.s6;omega)) ?_;have:i=0∨i=1∨i=2:=by omega
  rcases this with e|e|e<;>rw[e]<;>decide +kernel
def a1f(L:List Pr):LLI:=(L.filter λx=>decide (x.2.sum=0)).map (·.1)
theorem a7E(h:L.Pairwise ltP):a3h (a1f L)/\(a1f L).Nodup:=by
 have h1:(L.filter λx=>decide (x.2.sum=0)).Pairwise ltP:=h.sublist List.filter_sublist;refine⟨?_,a0k h1⟩;unfold a3h a1f;rw[List.pairwise_map];refine h1.imp λ{a b} hab=>?_;unfold ltP at hab;cases e:HT.lexLt b.1 a.1 with
 |false=>rfl
 |true=>have:=S8 _ _ _ hab e;rw[E4]at this;cases this
theorem a7F(hL:LPre n rss one)(h:AOk n rss one rss.length L)(d:List Int):d∈a1f L↔Lay n rss one d:=by
 have off:∀d:List Int,d.length=rss.length->∀k:Nat,(k:Int)∉D8 rss.length->d.getD k 0=0:=λd hd k hk=>by
  have:¬k<rss.length:=λz=>hk (upto_mem.mpr ⟨by omega,by omega⟩);rw[List.getD_eq_getElem?_getD,List.getElem?_eq_none (by omega)];rfl
 unfold a1f;rw[List.mem_map];constructor
 .rintro⟨x,hx,rfl⟩;obtain⟨hx1,hx2⟩:=List.mem_filter.mp hx;have hx2:x.2.sum=0:=of_decide_eq_true hx2;have h1:=h.snd x hx1;refine⟨h1.cl,h1.cn,off _ h1.cl,gdx (by rw[J4 hL.pt.len,hL.rl]) λj hj=>?_⟩;have h2:=h1.at hL.pt j;rw[List.take_length]at h2;rw[U4 hL.pt.len];have h3:x.2.getD j 0=0:=by
   by_cases hjl:j<x.2.length
   .have h4:=h1.ln _ (G5 hjl);refine Classical.byContradiction λz=>?_;have:=a6n x.2 h1.ln _ (G5 hjl) (by omega);omega
   .rw[List.getD_eq_getElem?_getD,List.getElem?_eq_none (by omega)];rfl
  omega
 .intro hd;obtain⟨l,hl⟩:=h.cpl d hd.len hd.nn λj _=>by rw[List.take_length,hd.at hL.pt j];exact Int.le_refl _
  refine⟨(d,l),List.mem_filter.mpr ⟨hl,decide_eq_true ?_⟩,rfl⟩;have h1:=h.snd _ hl;have hz:∀x∈l,x=0:=λx hx=>by
   obtain⟨j,hj,rfl⟩:=List.mem_iff_getElem.mp hx;have h2:=h1.at hL.pt j;rw[List.take_length,hd.at hL.pt j]at h2;have h2:l.getD j 0+one.getD j 0=one.getD j 0:=h2;rw[List.getD_eq_getElem?_getD,List.getElem?_eq_getElem hj]at h2;have h2:l[j]+one.getD j 0=one.getD j 0:=h2;omega
  show l.sum=0;rw[List.eq_replicate_iff.mpr ⟨rfl,hz⟩];exact J8 _
end
def PrL(H:Hp)(vs:List V)(L:List Pr):Prop:=vs.length=L.length/\∀(i:Nat) (v:V),vs[i]?=some v->∃(x:Pr) (b:Addr) (p q:V),L[i]?=some x/\v=.ref b/\H b=some (.tup [p,q])/\IT H p x.1/\IT H q x.2
theorem PrL.same{H H':Hp}{vs:List V}{L:List Pr}(h:PrL H vs L)(s:Same H H'):PrL H' vs L:=⟨h.1,λi v e=>let ⟨x,b,p,q,e1,e2,e3,e4,e5⟩:=h.2 i v e;⟨x,b,p,q,e1,e2,s _ _ e3,e4.same s,e5.same s⟩⟩
theorem PrL.put{H:Hp}{vs:List V}{L:List Pr}{c:Addr}{xs:List V}{o:HO}(h:PrL H vs L)(hc:H c=some (.lst xs)):PrL (upd H c o) vs L:=⟨h.1,λi v e=>let ⟨x,b,p,q,e1,e2,e3,e4,e5⟩:=h.2 i v e;⟨x,b,p,q,e1,e2,by rw[A3 (R5 e3 hc (by intro z;cases z))];exact e3,IT.put e4 hc,IT.put e5 hc⟩⟩
theorem PrL.nil{H:Hp}:PrL H [] []:=⟨rfl,λi v e=>by simp at e⟩
theorem PrL.snoc{H:Hp}{vs:List V}{L:List Pr}{x:Pr}{b:Addr}{p q:V}(h:PrL H vs L)(hb:H b=some (.tup [p,q]))(hp:IT H p x.1)(hq:IT H q x.2):PrL H (vs++[.ref b]) (L++[x]):=by
 refine⟨by simp[h.1],λi v e=>?_⟩;by_cases hi:i<vs.length
 .rw[List.getElem?_append_left hi]at e;rw[List.getElem?_append_left (by rw[<-h.1];exact hi)];exact h.2 i v e
 .have hi':vs.length<=i:=by omega
  rw[List.getElem?_append_right hi']at e;have h0:i-vs.length=0:=by have:=(List.getElem?_eq_some_iff.mp e).1;simpa using this
  rw[h0]at e;cases e;rw[List.getElem?_append_right (by rw[<-h.1];exact hi'),<-h.1,h0];exact⟨x,b,p,q,rfl,rfl,hb,hp,hq⟩
section
variable {P:Program}{w:World}{K:PySem.W.Frag}{mg:Str->Option Value}{base:Heap}
inductive IspAll(vs:List V)(H:Hp)(Q:VK)(E:XK):Prop
 |mk (a:Addr) (y:V) (us:List V) (rss:LLI) (one:List Int) (n:Nat) (_:vs=[.ref a,y]) (_:H a=some (.tup us)) (_:Its H us rss) (_:IT H y one) (_:LPre n rss one) (_:1<=n) (_:∀(l:Addr) (zs:List V) (tss:LLI) (H':Hp),Same H H'->H' l=some (.lst zs)->Its H' zs tss->a3h tss->tss.Nodup->(∀d,d∈tss↔Lay n rss one d)->Q (.ref l) H'):IspAll  vs H Q E
def a7X:Sp:=λvs H Q E=>IspAll  vs H Q E
theorem sc__law_all:FnScope ["_law_parts","_law_one","_law_some","_law_part","_law_more","_law_counts","_law_left","_law_many"] ["_law_parts","_law_one"] (A2 L8):=⟨rfl,rfl,rfl,by decide +kernel,rfl,by decide +kernel,by decide +kernel⟩
theorem a9C(F:FunAt K mg "_law_all" L8 ["_law_parts","_law_one"])(T:Tx mg):Ok P w K mg base "_law_all" 1 ["_law_parts","_law_one"] a7X:=by
 refine F.okJ sc__law_all (λvs H Q E h=>?_) (λcdv f A outer s H vs Q E hr h=>?_)
 .obtain⟨a,y,us,rss,one,n,rfl,_⟩:=h;rfl
 .obtain⟨a,y,us,rss,one,n,rfl,ha,hI,hy,hL,hn1,kk⟩:=h;have hz:(3000000:Nat)<=sizeLine:=by rw[sizeLine_eq];decide
  have hn:=hL.n1;have hol:=hL.rl;refine⟨_,(A1 (A8 (i:=2) sc__law_all.nd rfl (Or.inl rfl) (K8 (jaC (K7 (jaC (K7 jaN) (jaC (jv 1) jaN))) jaN)))
 (A1 (G3 (N5 K (jv 0)) (A9 (i:=3) sc__law_all.nd rfl (Or.inl rfl))
 (A1 (A8 (i:=4) sc__law_all.nd rfl (Or.inl rfl) (K8 jaN))
 (A1 (G3 (O7 K (jv 2)) (M1 K 2 (B5 (A9 (i:=5) sc__law_all.nd rfl (Or.inl rfl)) (B5 (A9 (i:=6) sc__law_all.nd rfl (Or.inl rfl)) G9)))
 (A1 (A8 (i:=7) sc__law_all.nd rfl (Or.inl rfl) A5)
 (A4 (R6 (a8m (a7q K rfl T.b_min (jaC (jv 6) jaN)) A5)
 (A1 (R7 (K5 K (jv 4) (jaC (K7 (jaC (a7r (jv 5) (K7 (jaC (jv 7) jaN))) (jaC (jv 6) jaN))) jaN)))
 (A1 (A8 (i:=6) sc__law_all.nd rfl (Or.inl rfl) (E2 K rfl T.b_tuple (jaC (G4 (N:=["_law_have","_law_less"]) (src:=[none,none]) (a0V K rfl T.b_zip (jaC (jv 6) (jaC (jv 3) jaN))) (by show D2 _ _=true;rfl) (by rfl) (by rfl)
 (λ_ _ _ _ _=>(M1 K 2 (B5 (A9 (i:=0) (show(["_law_have","_law_less"]:List Str).Nodup by decide +kernel) rfl (Or.inl rfl)) (B5 (A9 (i:=1) (show(["_law_have","_law_less"]:List Str).Nodup by decide +kernel) rfl (Or.inl rfl)) G9)))) (λ_ _ _ _ _=>M3) (λ_ _ _ _ _=>(a1G (jv 0) (jv 1)))) jaN)))
 (A4 (A8 (i:=7) sc__law_all.nd rfl (Or.inl rfl) (G2 (jv 7) A5)))))))))
 (A4 (A8 (i:=2) sc__law_all.nd rfl (Or.inl rfl) (jv 4))))))
 (A4 (B1 (G4 (N:=["_law_counts","_law_left"]) (src:=[none,none]) (O7 K (jv 2)) (by show D2 _ _=true;rfl) (by rfl) (by rfl)
 (λ_ _ _ _ _=>(M1 K 2 (B5 (A9 (i:=0) (show(["_law_counts","_law_left"]:List Str).Nodup by decide +kernel) rfl (Or.inl rfl)) (B5 (A9 (i:=1) (show(["_law_counts","_law_left"]:List Str).Nodup by decide +kernel) rfl (Or.inl rfl)) G9)))) (λ_ _ _ _ _=>(Y1 (a2T (T3 K rfl T.b_sum (jaC (jv 1) jaN)) A5))) (λ_ _ _ _ _=>(jv 0))))))),?_⟩
  refine⟨Nat.zero_le _,λp0 hp0=>⟨_,rfl,by show 2<=sizeLine;omega,λp1 hp1=>⟨by show 1<=sizeLine;omega,λps hps=>?_⟩⟩⟩;have s1:=(((Same.refl H).upd (o:=.tup []) hp0).upd (o:=.tup [.ref p0,y]) hp1).upd (o:=.lst [.ref p1]) hps;have e0:upd (upd (upd H p0 (.tup [])) p1 (.tup [.ref p0,y])) ps (.lst [.ref p1]) p0=some (.tup []):=K4 (K4 A0 hp1) hps;have e1:upd (upd (upd H p0 (.tup [])) p1 (.tup [.ref p0,y])) ps (.lst [.ref p1]) p1=some (.tup [.ref p0,y]):=K4 A0 hps;have e2:upd (upd (upd H p0 (.tup [])) p1 (.tup [.ref p0,y])) ps (.lst [.ref p1]) ps=some (.lst [.ref p1]):=A0;generalize upd (upd (upd H p0 (.tup [])) p1 (.tup [.ref p0,y])) ps (.lst [.ref p1])=H1 at s1 e0 e1 e2;dsimp only[A7];refine⟨_,rfl,a,rfl,⟨_,SqT.of (s1 _ _ ha)⟩,?_⟩;refine a1d (K:=K) (a:=a) (xs:=us) (λi σ H'=>Ex8 λ(pl:Addr) (zs:List V) (L:List Pr) (o3 o4 o5 o6 o7:Option V)=>An5 (σ=[some (.ref a),some y,some (.ref pl),o3,o4,o5,o6,o7]) (Same H H') (H' pl=some (.lst zs)) (PrL H' zs L) (AOk n rss one i L))
   ⟨ps,[.ref p1],[([],one)],none,none,none,none,none,rfl,s1,e2,PrL.nil.snoc (x:=([],one)) e1 ⟨p0,rfl,e0⟩ (hy.same s1),AOk.first hol hL.r0⟩ (λi σ H' _ h=>by
    obtain⟨_,_,_,_,_,_,_,_,_,s',_⟩:=h;exact SqT.of (s' _ _ ha)) ?_ ?_
  .rintro i x σ H2 hx ⟨pl,zs,L,o3,o4,o5,o6,o7,rfl,s2,hpl,hzs,hA⟩;have hi:i<us.length:=(List.getElem?_eq_some_iff.mp hx).1;obtain⟨r,hr1,hri,ra,rfl,hra⟩:=hI.mem hx;have hP:=hL.pt r hr1;have hil:i<rss.length:=by rw[<-hI.1];exact hi
   dsimp only[A7];refine⟨Nat.zero_le _,λpm hpm=>?_⟩;have hfrm:=s2.free hpm;have s3:=s2.upd (o:=.lst []) hpm;have s23:=(Same.refl H2).upd (o:=.lst []) hpm;have e3:upd H2 pm (.lst []) pm=some (.lst []):=A0;generalize upd H2 pm (.lst [])=H3 at s3 e3 s23;have npl:pl≠pm:=A6 hpl hpm;dsimp only[A7];refine⟨_,rfl,pl,rfl,⟨_,SqL.of (s23 _ _ hpl)⟩,?_⟩;refine a1J (K:=K) (a:=pl) (xs:=zs) (λt σ H'=>Ex5 λ(ws':List V) (M:List Pr) (o5 o6 o7:Option V)=>An8 (σ=[some (.ref a),some y,some (.ref pl),some (.ref ra),some (.ref pm),o5,o6,o7]) (Same H H') (H' pl=some (.lst zs)) (PrL H' zs L) (H' pm=some (.lst ws')) (PrL H' ws' M) ((∀x,x∈M↔Bx n r L t x)) (M.Pairwise ltP))
    ⟨[],[],o5,o6,o7,rfl,s3,s23 _ _ hpl,hzs.same s23,e3,PrL.nil,λx=>⟨(λz=>nomatch z),λ⟨_,_,_,z,_⟩=>by rw[List.take_zero]at z;cases z⟩,List.Pairwise.nil⟩ (λt σ H' _ h=>by
     obtain⟨_,_,_,_,_,_,_,hpl',_⟩:=h;exact SqL.of hpl') ?_ ?_
   .rintro t v σ H4 hv ⟨ws',M,o5,o6,o7,rfl,s4,hpl4,hzs4,hpm4,hws4,hM,hMs⟩;obtain⟨⟨cs,l⟩,b,p,q,ex,rfl,hb,hp,hq⟩:=hzs4.2 t v hv;have hxl:(cs,l)∈L:=List.mem_of_getElem? ex;have h1:=hA.snd _ hxl;obtain⟨pc,rfl,hpc⟩:=hp;refine⟨b,[.ref pc,q],rfl,SqT.of hb,rfl,.ref pc,[q],rfl,q,[],rfl,rfl,?_⟩;dsimp only[A7];refine⟨λmm σ H'=>∃(m:Nat) (ws':List V) (M:List Pr) (v:V),mm=one.sum.toNat+1-m/\σ=[some (.ref a),some y,some (.ref pl),some (.ref ra),some (.ref pm),some (.ref pc),some v,some (.int m)]/\Same H H'/\H' pl=some (.lst zs)/\PrL H' zs L/\H' pm=some (.lst ws')/\PrL H' ws' M/\IT H' v (less l r m)/\IT H' (.ref pc) cs/\(∀x,x∈M↔(Bx n r L t x∨∃m',m'<m/\x=(cs++[((m':Nat):Int)],less l r m')))/\M.Pairwise ltP/\(∀m',m'<m->∀j,j<n->(m':Int)*r.getD j 0<=l.getD j 0)/\(∀x∈M,Al1 n rss one (i+1) x),⟨_,0,ws',M,q,rfl,rfl,s4,hpl4,hzs4,hpm4,hws4,?_,⟨pc,rfl,hpc⟩,λx=>?_,hMs,λm' h=>absurd h (Nat.not_lt_zero _),λx hx=>?_⟩,?_⟩
    .show IT H4 q (less l r ((0:Nat):Int));rw[show((0:Nat):Int)=0 from rfl,a2o (by rw[h1.ll,hP.1])];exact hq
    .rw[hM];exact⟨.inl,λz=>z.elim id λ⟨_,z,_⟩=>absurd z (Nat.not_lt_zero _)⟩
    .obtain⟨cs',l',m',z1,z2,rfl⟩:=(hM x).mp hx;exact(hA.snd _ (List.mem_of_mem_take z1)).next hL.pt hri hol z2
    .rintro mm σ H5 ⟨m,ws5,M5,v,rfl,rfl,s5,hpl5,hzs5,hpm5,hws5,hv5,hpc5,hM5,hMs5,hm5,hA5⟩;obtain⟨va,rfl,hva⟩:=id hv5;have hll:l.length=r.length:=by rw[h1.ll,hP.1]
     have hlen:(less l r (m:Int)).length=n:=by rw[B6 hll,hP.1]
     refine⟨_,rfl,va,_,rfl,SqT.of hva,by omega,λMn hMn hall=>?_⟩;refine⟨_,_,rfl,rfl,_,rfl,M9 (λe=>?_) (λe=>?_)⟩
     .have e':0<=Mn:=of_decide_eq_true e;have hle:∀j,j<n->(m:Int)*r.getD j 0<=l.getD j 0:=λj hj=>by
       have:=hall _ (G5 (xs:=less l r (m:Int)) (j:=j) (by omega));rw[D4 hll]at this;omega
      have hnx:=h1.next hL.pt hri hol hle;have hms:(m:Int)<=one.sum:=by
       have h2:=hnx.sum hL.pt (by omega);have h3:=P5 cs h1.cn;rw[List.sum_append]at h2;have h2:cs.sum+((m:Int)+0)<=one.sum:=h2;omega
      have hnew:∀x∈M5,ltP x (cs++[(m:Int)],less l r m):=λx hx=>by
       rcases(hM5 x).mp hx with⟨cs',l',m',z1,z2,rfl⟩|⟨m',z1,rfl⟩
       .have h2:=pw_take hA.srt ex _ z1;exact X6 (by rw[(hA.snd _ (List.mem_of_mem_take z1)).cl,h1.cl]) h2
       .exact X5 (by omega) cs
      have hM6:∀x∈M5++[(cs++[(m:Int)],less l r m)],Al1 n rss one (i+1) x:=λx hx=>by
       rcases List.mem_append.mp hx with z|z
       .exact hA5 x z
       .rw[List.mem_singleton.mp z];exact hnx
      have hMs6:(M5++[(cs++[(m:Int)],less l r m)]).Pairwise ltP:=by
       rw[List.pairwise_append];exact⟨hMs5,by simp,λx hx y hy=>by rw[List.mem_singleton.mp hy];exact hnew x hx⟩
      have hfew:=a6d hL (by omega) hM6 hMs6;rw[List.length_append,List.length_singleton]at hfew;refine⟨λσ H'=>∃(ws':List V) (v:V),σ=[some (.ref a),some y,some (.ref pl),some (.ref ra),some (.ref pm),some (.ref pc),some v,some (.int ((m:Int)+1))]/\Same H H'/\H' pl=some (.lst zs)/\PrL H' zs L/\H' pm=some (.lst ws')/\PrL H' ws' (M5++[(cs++[(m:Int)],less l r m)])/\IT H' v (less l r ((m+1:Nat):Int))/\IT H' (.ref pc) cs,λσ' H' h=>?_,?_⟩
      .obtain⟨ws',v,q1,q2,q3,q4,q5,q6,q7,q8⟩:=h;refine⟨_,by omega,m+1,ws',_,v,rfl,q1,q2,q3,q4,q5,q6,q7,q8,λx=>?_,hMs6,λm' hm'=>?_,hM6⟩
       .rw[List.mem_append,hM5,List.mem_singleton];constructor
        .rintro((z|⟨m',z1,z2⟩)|z)
         .exact .inl z
         .exact .inr ⟨m',by omega,z2⟩
         .exact .inr ⟨m,by omega,z⟩
        .rintro(z|⟨m',z1,z2⟩)
         .exact .inl (.inl z)
         .by_cases em:m'=m
          .subst em;exact .inr z2
          .exact .inl (.inr ⟨m',by omega,z2⟩)
       .by_cases em:m'=m
        .rw[em];exact hle
        .exact hm5 m' (by omega)
      obtain⟨pc',epc,hpc'⟩:=id hpc5;cases epc;refine⟨_,rfl,.inl ⟨rfl,_,SqL.of hpm5⟩,_,rfl,_,rfl,by show 1<=sizeLine;omega,λp6 hp6=>?_⟩;have s6:=(Same.refl H5).upd (o:=.tup [V.int m]) hp6;have e6:upd H5 p6 (.tup [V.int m]) p6=some (.tup [V.int m]):=A0;generalize upd H5 p6 (.tup [V.int m])=H6 at s6 e6;refine⟨pc,p6,_,_,rfl,rfl,s6 _ _ hpc',e6,by rw[List.length_map,h1.cl];show i+1<=_;have:=hL.m6;omega,λp7 H7 s7 e7=>?_⟩;have s57:=s6.trans s7;refine⟨_,rfl,by show 2<=sizeLine;omega,λp8 hp8=>?_⟩;have s8:=s57.upd (o:=.tup [.ref p7,.ref va]) hp8;have e8:upd H7 p8 (.tup [.ref p7,.ref va]) p8=some (.tup [.ref p7,.ref va]):=A0;have e7':=K4 (o:=.tup [.ref p7,.ref va]) e7 hp8;generalize upd H7 p8 (.tup [.ref p7,.ref va])=H8 at s8 e8 e7';have hpm8:=s8 _ _ hpm5;refine⟨pm,_,_,rfl,rfl,hpm8,by rw[hws5.1];omega,?_⟩;have hcm:IT H8 (.ref p7) (cs++[(m:Int)]):=⟨p7,rfl,by rw[e7',List.map_append];rfl⟩;have s58:Same H (upd H8 pm (.lst (ws5++[.ref p8]))):=λb u e=>by rw[A3 (A6 e hfrm)];exact(s5.trans s8) b u e
      have hpl9:upd H8 pm (.lst (ws5++[.ref p8])) pl=some (.lst zs):=by rw[A3 npl];exact s8 _ _ hpl5
      have hzs9:=(hzs5.same s8).put (o:=.lst (ws5++[.ref p8])) hpm8;have hpm9:upd H8 pm (.lst (ws5++[.ref p8])) pm=some (.lst (ws5++[.ref p8])):=A0;have hws9:=((hws5.same s8).snoc (x:=(cs++[(m:Int)],less l r m)) e8 hcm (hv5.same s8)).put (o:=.lst (ws5++[.ref p8])) hpm8;have hv9:=IT.put (o:=.lst (ws5++[.ref p8])) (hv5.same s8) hpm8;have hpc9:=IT.put (o:=.lst (ws5++[.ref p8])) (hpc5.same s8) hpm8;generalize upd H8 pm (.lst (ws5++[.ref p8]))=H9 at s58 hpl9 hzs9 hpm9 hws9 hv9 hpc9;obtain⟨va',eva,hva9⟩:=id hv9;cases eva;have hra9:=s58 _ _ hra;refine⟨_,rfl,_,rfl,true,true,va,ra,rfl,⟨_,SqT.of hva9⟩,⟨_,SqT.of hra9⟩,?_⟩;refine W1 (caps:=[]) (λx y=>V.int (x-y)) (sqt hva9) (sqt hra9) (by omega) (λH' s=>⟨sqt (s _ _ hva9),sqt (s _ _ hra9)⟩) rfl (λx y H1 Q1 _ q=>⟨_,rfl,_,rfl,_,_,rfl,rfl,q⟩) λH10 p10 s10 hp10=>?_;rw[a0D (λx y=>x-y) V.int,a2n _ hll];refine⟨p10,_,rfl,.inl ⟨SqL.of A0,λp11 hp11=>?_⟩⟩;have s11:=(s10.upd hp10).upd (o:=.tup ((less l r ((m:Int)+1)).map V.int)) hp11;have e11:upd (upd H10 p10 (.lst ((less l r ((m:Int)+1)).map V.int))) p11 (.tup ((less l r ((m:Int)+1)).map V.int)) p11=some (.tup ((less l r ((m:Int)+1)).map V.int)):=A0;generalize upd (upd H10 p10 (.lst ((less l r ((m:Int)+1)).map V.int))) p11 (.tup ((less l r ((m:Int)+1)).map V.int))=H11 at s11 e11;dsimp only[A7];refine⟨_,rfl,_,_,rfl,rfl,?_⟩;exact⟨_,.ref p11,rfl,s58.trans s11,s11 _ _ hpl9,hzs9.same s11,s11 _ _ hpm9,hws9.same s11,⟨p11,rfl,e11⟩,hpc9.same s11⟩
     .have e':¬0<=Mn:=λz=>e (decide_eq_true z);obtain⟨j,hj,hjn⟩:∃j,j<n/\l.getD j 0<(m:Int)*r.getD j 0:=by
       obtain⟨j,hj,rfl⟩:=List.mem_iff_getElem.mp hMn;refine⟨j,by omega,?_⟩;have h2:=D4 (m:=(m:Int)) hll j;rw[List.getD_eq_getElem?_getD,List.getElem?_eq_getElem hj]at h2;have h2:(less l r (m:Int))[j]=l.getD j 0-(m:Int)*r.getD j 0:=h2;omega
      refine⟨ws5,M5,_,_,_,rfl,s5,hpl5,hzs5,hpm5,hws5,λx=>?_,hMs5⟩;rw[hM5];constructor
      .rintro(⟨cs',l',m',z1,z2,z3⟩|⟨m',z1,z2⟩)
       .exact⟨cs',l',m',by rw[List.take_add_one];exact List.mem_append_left _ z1,z2,z3⟩
       .exact⟨cs,l,m',by rw[List.take_add_one,ex];exact List.mem_append_right _ List.mem_cons_self,hm5 m' z1,z2⟩
      .rintro⟨cs',l',m',z1,z2,z3⟩;rw[List.take_add_one,ex]at z1;rcases List.mem_append.mp z1 with z|z
       .exact .inl ⟨cs',l',m',z,z2,z3⟩
       .have z:(cs',l')=(cs,l):=List.mem_singleton.mp z;injection z with za zb
        subst za zb;refine .inr ⟨m',Classical.byContradiction λy=>?_,z3⟩;have h2:=z2 j hj;have h3:(m:Int)*r.getD j 0<=(m':Int)*r.getD j 0:=Int.mul_le_mul_of_nonneg_right (by omega) (gd0 (λx hx=>(hP.2.1 x hx).1) j);omega
   .rintro σ H4 ⟨ws',M,o5,o6,o7,rfl,s4,hpl4,hzs4,hpm4,hws4,hM,hMs⟩;refine⟨_,rfl,?_⟩;dsimp only[A7];exact⟨pm,ws',M,_,_,_,_,_,rfl,s4,hpm4,hws4,hA.next hL.pt hri hol (by rw[<-hzs4.1];exact hM) hMs⟩
  .rintro σ H2 ⟨pl,zs,L,o3,o4,o5,o6,o7,rfl,s2,hpl,hzs,hA⟩;rw[hI.1]at hA;refine⟨_,rfl,pl,rfl,⟨_,SqL.of hpl⟩,?_⟩;have hfew:=a6d hL (Nat.le_refl _) hA.snd hA.srt;have hzl:=hzs.1;refine T4 (xs:=zs) (by omega) (λi ys H'=>H'=H2/\ys.length<=i/\Its H' ys (a1f (L.take i))) ⟨rfl,Nat.le_refl _,Its.nil⟩ (λi ys H' _ h=>⟨by rw[h.1];exact SqL.of hpl,h.2.1⟩) ?_ ?_
   .rintro i v ys H' hv ⟨rfl,hyl,hys⟩;obtain⟨⟨cs,l⟩,b,p,q,ex,rfl,hb,hp,vb,rfl,hvb⟩:=hzs.2 i v hv;refine⟨b,[p,.ref vb],rfl,SqT.of hb,rfl,p,[.ref vb],rfl,.ref vb,[],rfl,rfl,?_⟩;refine⟨⟨rfl,λj v e=>?_⟩,?_⟩
    .match j,e with
     |0,e=>cases e
     |1,e=>cases e
     |j+2,e=>exact e
    refine⟨_,rfl,true,vb,l,rfl,SqT.of hvb,rfl,_,rfl,?_⟩;have ed:a1f (L.take (i+1))=a1f (L.take i)++(if l.sum=0 then[cs] else[]):=by
     unfold a1f;rw[List.take_add_one,ex,List.filter_append,List.map_append];congr 1;show(List.filter _ [(cs,l)]).map _=_;rw[List.filter_cons];by_cases e:l.sum=0
     .rw[if_pos (decide_eq_true e),if_pos e];rfl
     .rw[if_neg (λz=>e (of_decide_eq_true z)),if_neg e];rfl
    refine M9 (λe=>?_) (λe=>?_)
    .have e':l.sum=0:=by
      have:=of_decide_eq_true e;injection this
     refine⟨_,rfl,rfl,by rw[List.length_append];simp;omega,?_⟩;rw[ed,if_pos e'];exact hys.app (Its.one hp)
    .have e':¬l.sum=0:=λz=>e (decide_eq_true (congrArg V.int z));refine⟨rfl,by omega,?_⟩;rw[ed,if_neg e',List.append_nil];exact hys
   .rintro ys H' ⟨rfl,hyl,hys⟩ p hp;rw[hzl,List.take_length]at hys;obtain⟨d1,d2⟩:=a7E hA.srt;have s3:=(Same.refl H').upd (o:=.lst ys) hp;exact kk p ys _ _ (s2.trans s3) A0 (hys.same s3) d1 d2 (a7F hL hA)
inductive IspCounts(vs:List V)(H:Hp)(Q:VK)(E:XK):Prop
 |mk (p:Addr) (m:Int) (cs:List Int) (_:vs=[.ref p,.int m]) (_:H p=some (.tup (cs.map V.int))) (_:(cs.length:Int)=m) (_:∀H',Same H H'->Q (.bl true) H'):IspCounts  vs H Q E
def a1v:Sp:=λvs H Q E=>IspCounts  vs H Q E
theorem sc__law_are_counts:FnScope ["_law_found","_law_many","_law_number"] ["_law_found","_law_many"] (A2 C3):=⟨rfl,rfl,rfl,by decide +kernel,rfl,by decide +kernel,by decide +kernel⟩
theorem a3z(F:FunAt K mg "_law_are_counts" C3 ["_law_found","_law_many"])(T:Tx mg):Ok P w K mg base "_law_are_counts" 1 ["_law_found","_law_many"] a1v:=by
 refine F.okJ sc__law_are_counts (λvs H Q E h=>?_) (λcdv f A outer s H vs Q E hr h=>?_)
 .obtain⟨p,m,cs,rfl,_⟩:=h;rfl
 .obtain⟨p,m,cs,rfl,hp,hm,k⟩:=h;have hu:=hr.u60;refine⟨_,(A1 (D1 (a3J (a0m (K1 (D5 K (K3 K rfl T.b_isinstance (jaC (jv 0) (jaC (a0Z (v:=.ty "tuple") rfl T.b_tuple Z6 rfl) jaN))))) (T2 (a8l (N6 K rfl T.b_len (jaC (jv 0) jaN)) (jv 1)))))
 (A4 (B1 Y3))
 B8)
 (A1 (G3 (N5 K (jv 0)) (A9 (i:=2) sc__law_are_counts.nd rfl (Or.inl rfl))
 (A4 (D1 (a3J (a0m (K1 (D5 K (K3 K rfl T.b_isinstance (jaC (jv 2) (jaC (a0Z (v:=.ty "int") rfl T.b_int a6c rfl) jaN))))) (T2 (D5 K (K3 K rfl T.b_isinstance (jaC (jv 2) (jaC (a0Z (v:=.ty "bool") rfl T.b_bool a7I rfl) jaN)))))))
 (A4 (B1 Y3))
 B8)))
 (A4 (B1 Y3)))),?_⟩
  refine⟨_,rfl,.ref p,"tuple",_,true,rfl,.tup hp,rfl,true,rfl,M8 ?_⟩;refine⟨_,rfl,p,_,rfl,.inr (SqT.of hp),_,rfl,rfl,false,?_,M8 ?_⟩
  .rw[List.length_map,hm];show V.bl (!decide _)=_;rw[decide_eq_true rfl];rfl
  refine⟨_,rfl,p,rfl,⟨_,SqT.of hp⟩,?_⟩;refine a1d (K:=K) (a:=p) (xs:=cs.map V.int) (λi σ H'=>Ex1 λ(o2:Option V)=>An2 (σ=[some (.ref p),some (.int m),o2]) (H'=H)) ⟨none,rfl,rfl⟩ (λi σ H' _ h=>by obtain⟨_,_,e⟩:=h;rw[e];exact SqT.of hp) ?_ ?_
  .rintro i x σ H' hx ⟨o2,rfl,rfl⟩;obtain⟨c,_,rfl⟩:=M6 hx;dsimp only[A7];refine⟨_,rfl,.int c,"int",_,true,rfl,.int c,rfl,true,rfl,M8 ?_⟩;refine⟨_,rfl,.int c,"bool",_,false,rfl,.int c,(by with_unfolding_all rfl),false,rfl,M8 ?_⟩;exact⟨_,rfl,rfl⟩
  .rintro σ H' ⟨o2,rfl,rfl⟩;exact k H' (Same.refl _)
inductive IspRight(vs:List V)(H:Hp)(Q:VK)(E:XK):Prop
 |mk (a:Addr) (y:V) (us:List V) (rss:LLI) (one:List Int) (n:Nat) (_:vs=[.ref a,y]) (_:H a=some (.tup us)) (_:Its H us rss) (_:IT H y one) (_:LPre n rss one) (_:1<=n) (_:∀H',Same H H'->Q (.bl true) H'):IspRight  vs H Q E
def a2I:Sp:=λvs H Q E=>IspRight  vs H Q E
end
theorem a0a:bootBuiltins "ValueError"=some (.type "ValueError"):=by kernel_rfl
section
variable {P:Program}{w:World}{K:PySem.W.Frag}{mg:Str->Option Value}{base:Heap}
inductive IspRef(C:Addr)(vs:List V)(H:Hp)(Q:VK)(E:XK):Prop
 |mk (p:Addr) (_:vs=[.ref p]) (_:H p=some (Z0 p C)) (_:∀H',Same H H'->Q (.bl true) H'):IspRef C vs H Q E
def a7U(C:Addr):Sp:=λvs H Q E=>IspRef C vs H Q E
theorem W9:FnScope ["_law_caught"] ["_law_caught"] (A2 E8):=⟨rfl,rfl,rfl,by decide +kernel,rfl,by decide +kernel,by decide +kernel⟩
theorem a5q{D_NoAnswer D_NoLay D_NoLine D_NoText D_TooMany:Addr}(F:FunAt K mg "_law_no_lay" E8 ["_law_caught"])(T:Tx mg)(M_NoAnswer:mg "NoAnswer"=some (.ref D_NoAnswer))(M_NoLay:mg "NoLay"=some (.ref D_NoLay))(M_NoLine:mg "NoLine"=some (.ref D_NoLine))(M_NoText:mg "NoText"=some (.ref D_NoText))(M_TooMany:mg "TooMany"=some (.ref D_TooMany))
  (Z:IsX K D_NoLay) (h1:PySem.W.kitOne K (.ref D_NoLay) (.ref D_NoLay)=some true) (h2:PySem.W.kitOne K (.ref D_NoLay) (.type "ValueError")=some true) (h3:PySem.W.kitAny K (.ref D_NoLay) [.ref D_NoAnswer,.ref D_NoLine,.ref D_NoText,.ref D_TooMany]=some false) :
  Ok P w K mg base "_law_no_lay" 1 ["_law_caught"] (a7U D_NoLay):=by
 refine F.okJ W9 (λvs H Q E h=>?_) (λcdv f A outer s H vs Q E hr h=>?_)
 .obtain⟨p,rfl,_⟩:=h;rfl
 .obtain⟨p,rfl,hp,k⟩:=h;refine⟨_,(A1 (D1 (a3J (a0m (K1 (D5 K (J1 K rfl T.b_isinstance (jaC (jv 0) (jaC (Y2 (v:=.ref D_NoLay) rfl M_NoLay rfl) jaN))))) (T2 (K1 (D5 K (J1 K rfl T.b_isinstance (jaC (jv 0) (jaC (a0Z (v:=.ty "ValueError") rfl T.b_ValueError a0a rfl) jaN))))))))
 (A4 (B1 Y3))
 B8)
 (A4 (B1 (b0W (J1 K rfl T.b_isinstance (jaC (jv 0) (jaC (K7 (jaC (Y2 (v:=.ref D_NoAnswer) rfl M_NoAnswer rfl) (jaC (Y2 (v:=.ref D_NoLine) rfl M_NoLine rfl) (jaC (Y2 (v:=.ref D_NoText) rfl M_NoText rfl) (jaC (Y2 (v:=.ref D_TooMany) rfl M_TooMany rfl) jaN))))) jaN))))))),?_⟩
  refine⟨_,rfl,p,D_NoLay,_,true,rfl,hp,Z,.inr (.inl ⟨_,rfl,h1⟩),true,rfl,M8 ?_⟩;refine⟨_,rfl,p,D_NoLay,_,true,rfl,hp,Z,.inl ⟨_,rfl,h2⟩,true,rfl,M8 ?_⟩;refine⟨_,rfl,by show 4<=sizeLine;rw[sizeLine_eq];decide,λtp htp=>?_⟩;refine⟨p,D_NoLay,_,false,rfl,K4 hp htp,Z,.inr (.inr ⟨tp,[D_NoAnswer,D_NoLine,D_NoText,D_TooMany],rfl,A0,h3⟩),?_⟩;exact⟨false,rfl,k _ ((Same.refl H).upd htp)⟩
end
theorem OkE.no{P:Program}{w:World}{K:PySem.W.Frag}{mg:Str->Option Value}{base:Heap}{x:Str}{k:Nat}{ps:List Str}{sp:Sp}(O:OkE P w K mg base x k ps sp):Ok P w K mg base x k ps (λvs H Q _=>sp vs H Q λ_ _ _=>False):=by
 obtain⟨f,fd,h1,h2,h3,h4⟩:=O.ex;refine⟨f,fd,h1,h2,h3,⟨λvs H Q E h=>h4.len _ _ _ _ h,λA outer s H args us vs Q E hr he hb hv hs=>codeAny_mono (h4.run A outer s H args us vs Q (λ_ _ _=>False) hr he hb hv hs) λr s' h=>?_⟩⟩;cases r with
 |error e =>
  obtain⟨_,_,_,_,_,_,_,_,_,_,_,_,_,z⟩:=h;exact z.elim
 |ok fl=>cases fl<;>exact h
theorem a7v{H:Hp}{us:List V}{rss:LLI}(h:Its H us rss):Its H us.reverse rss.reverse:=by
 refine⟨by rw[List.length_reverse,List.length_reverse,h.1],λi v e=>?_⟩;have hi:i<us.length:=by
  have:=(List.getElem?_eq_some_iff.mp e).1;rwa[List.length_reverse]at this
 rw[List.getElem?_reverse hi]at e;obtain⟨r,e1,e2⟩:=h.2 _ v e;refine⟨r,?_,e2⟩;rw[List.getElem?_reverse (by rw[<-h.1];exact hi),<-h.1];exact e1
structure Fst(tss:LLI)(i:Nat)(e:List Int):Prop where
 ex:∃t:Nat,tss[t]?=some e/\(∀(u:Nat) (r:List Int),u<t->tss[u]?=some r->e.sum<r.sum)
 mn:∀(u:Nat) (r:List Int),u<i->tss[u]?=some r->e.sum<=r.sum
theorem Fst.next{tss:LLI}{i:Nat}{e x:List Int}(h:Fst tss i e)(hx:tss[i]?=some x)(hlt:x.sum<e.sum):Fst tss (i+1) x:=by
 refine⟨⟨i,hx,λu r hu hr=>?_⟩,λu r hu hr=>?_⟩
 .have:=h.mn u r hu hr;omega
 .by_cases eu:u=i
  .subst eu;rw[hx]at hr;cases hr;exact Int.le_refl _
  .have:=h.mn u r (by omega) hr;omega
theorem Fst.stay{tss:LLI}{i:Nat}{e x:List Int}(h:Fst tss i e)(hx:tss[i]?=some x)(hlt:¬x.sum<e.sum):Fst tss (i+1) e:=by
 refine⟨h.ex,λu r hu hr=>?_⟩;by_cases eu:u=i
 .subst eu;rw[hx]at hr;cases hr;omega
 .exact h.mn u r (by omega) hr
theorem Fst.few{n:Nat}{rss tss:LLI}{one e:List Int}(h:Fst tss tss.length e)(hr:a3h tss)(hm:∀d,d∈tss↔Lay n rss one d):Few n rss one e:=by
 obtain⟨t,ht,hb⟩:=h.ex;refine⟨(hm e).mp (List.mem_of_getElem? ht),λd hd=>?_,λd hd hs=>?_⟩
 .obtain⟨u,hu⟩:=List.mem_iff_getElem?.mp ((hm d).mpr hd);exact h.mn u d (List.getElem?_eq_some_iff.mp hu).1 hu
 .obtain⟨u,hu⟩:=List.mem_iff_getElem?.mp ((hm d).mpr hd);have hut:t<=u:=Nat.not_lt.mp λz=>by have:=hb u d z hu;omega
  by_cases eq:u=t
  .subst eq;rw[ht]at hu;cases hu;exact E4 _
  .have hp:=List.pairwise_iff_getElem.mp hr;obtain⟨h1,h2⟩:=List.getElem?_eq_some_iff.mp ht;obtain⟨h3,h4⟩:=List.getElem?_eq_some_iff.mp hu;have:=hp t u h1 h3 (by omega);rw[h2,h4]at this;exact this
section
variable {P:Program}{w:World}{K:PySem.W.Frag}{mg:Str->Option Value}{base:Heap}
theorem sc__law_right:FnScope ["_law_parts","_law_one","_law_found","_law_caught","e","_law_some","_law_due","_law_counts"] ["_law_parts","_law_one"] (A2 G8):=⟨rfl,rfl,rfl,by decide +kernel,rfl,by decide +kernel,by decide +kernel⟩
theorem a5n{C D:Addr}(F:FunAt K mg "_law_right" G8 ["_law_parts","_law_one"])(T:Tx mg)(OX_fewest:OkE P w K mg base "fewest" 13 ["told","one"] (a7W C))(O__law_all:Ok P w K mg base "_law_all" 1 ["_law_parts","_law_one"] a7X)(O__law_are_counts:Ok P w K mg base "_law_are_counts" 1 ["_law_found","_law_many"] a1v)(O__law_no_lay:Ok P w K mg base "_law_no_lay" 1 ["_law_caught"] (a7U C))
  (M_LayError:mg "LayError"=some (.ref D)) (X_LayError:ClsX K D []) (hCD:ClsX K C [.ref D]):Ok P w K mg base "_law_right" 14 ["_law_parts","_law_one"] a2I:=by
 have O_fewest:=OkE.no OX_fewest;refine F.okJ sc__law_right (λvs H Q E h=>?_) (λcdv f A outer s H vs Q E hr h=>?_)
 .obtain⟨a,y,us,rss,one,n,rfl,_⟩:=h;rfl
 .obtain⟨a,y,us,rss,one,n,rfl,ha,hI,hy,hL,hn1,kk⟩:=h;have hz:(3000:Nat)<=sizeLine:=by rw[sizeLine_eq];decide
  have hu:=hr.u60;have hul:=hI.1;refine⟨_,(A1 (A8 (i:=2) sc__law_right.nd rfl (Or.inl rfl) R8)
 (A1 (A8 (i:=3) sc__law_right.nd rfl (Or.inl rfl) R8)
 (A1 (a5E K (j:=4) (a9K (i:=2) OX_fewest (hr.mono (by omega)) rfl sc__law_right.nd rfl (Or.inl rfl) (jaC (jv 0) (jaC (jv 1) jaN))) rfl M_LayError X_LayError sc__law_right.nd rfl rfl (λ_=>(A4 (A8 (i:=3) sc__law_right.nd rfl (Or.inl rfl) (jv 4)))))
 (A1 (A8 (i:=5) sc__law_right.nd rfl (Or.inl rfl) (B2 O__law_all (hr.mono (by omega)) rfl (jaC (jv 0) (jaC (jv 1) jaN))))
 (A1 (D1 (a2T (N6 K rfl T.b_len (jaC (jv 5) jaN)) A5)
 (A4 (B1 (B2 O__law_no_lay (hr.mono (by omega)) rfl (jaC (jv 3) jaN))))
 B8)
 (A1 (A8 (i:=6) sc__law_right.nd rfl (Or.inl rfl) (J2 K (jv 5) A5))
 (A1 (G3 (O7 K (jv 5)) (A9 (i:=7) sc__law_right.nd rfl (Or.inl rfl))
 (A4 (D1 (a5C (T3 K rfl T.b_sum (jaC (jv 7) jaN)) (T3 K rfl T.b_sum (jaC (jv 6) jaN)))
 (A4 (A8 (i:=6) sc__law_right.nd rfl (Or.inl rfl) (jv 7)))
 B8)))
 (A1 (D1 (K1 (D5 K (B2 O__law_are_counts (hr.mono (by omega)) rfl (jaC (jv 2) (jaC (N6 K rfl T.b_len (jaC (jv 0) jaN)) jaN)))))
 (A4 (B1 Y3))
 B8)
 (A4 (B1 (b0Y (a5B K hu (jv 2) (jv 6)) (b0V (a5B K hu (B2 O_fewest (hr.mono (by omega)) rfl (jaC (jv 0) (jaC (jv 1) jaN))) (jv 6)))))))))))))),?_⟩
  refine⟨_,rfl,_,rfl,a,y,us,rss,one,n,rfl,ha,hI,hy,hL,λl1 ds H1 s1 hl1 hF=>?_,λH1 s1 hno=>⟨C,rfl,hCD,λpe hpe=>?_⟩⟩
  .refine⟨_,rfl,_,rfl,a,y,us,rss,one,n,rfl,s1 _ _ ha,hI.same s1,hy.same s1,hL,hn1,λl2 zs tss H2 s2 hl2 hzs hri hnd hmem=>?_⟩;dsimp only[A7];have hdm:ds∈tss:=(hmem ds).mpr hF.ly;have hpos:0<tss.length:=List.length_pos_of_mem hdm;have hzl:=hzs.1;refine⟨_,rfl,l2,_,rfl,.inl (SqL.of hl2),rfl,false,congrArg V.bl (decide_eq_false ?_),M8 ?_⟩
   .intro z;injection z with z;omega
   obtain⟨v0,hv0⟩:∃v,zs[0]?=some v:=⟨zs[0],List.getElem?_eq_getElem (by omega)⟩;obtain⟨r0,hr0,hv0'⟩:=hzs.2 0 v0 hv0;refine⟨_,rfl,l2,_,_,v0,rfl,rfl,SqL.of hl2,P1 (j:=0) hv0,?_⟩;dsimp only[A7];refine⟨_,rfl,l2,rfl,⟨_,SqL.of hl2⟩,?_⟩;refine a1J (K:=K) (a:=l2) (xs:=zs) (λi σ H'=>Ex3 λ(v:V) (e:List Int) (o7:Option V)=>An4 (σ=[some (.ref a),some y,some (.ref l1),some .non,none,some (.ref l2),some v,o7]) (H'=H2) (IT H2 v e) (Fst tss i e)) ⟨v0,r0,none,rfl,rfl,hv0',⟨⟨0,hr0,λu r hu=>absurd hu (Nat.not_lt_zero _)⟩,λu r hu=>absurd hu (Nat.not_lt_zero _)⟩⟩ (λi σ H' _ h=>by
    obtain⟨_,_,_,_,rfl,_⟩:=h;exact SqL.of hl2) ?_ ?_
   .rintro i x σ H' hx ⟨v,e,o7,rfl,rfl,hv,hFst⟩;obtain⟨r,hri',hxr⟩:=hzs.2 i x hx;obtain⟨va,rfl,hva⟩:=id hv;obtain⟨xa,rfl,hxa⟩:=id hxr;dsimp only[A7];refine⟨_,rfl,true,xa,r,rfl,SqT.of hxa,_,rfl,true,va,e,rfl,SqT.of hva,_,_,rfl,rfl,_,rfl,M9 (λc=>?_) (λc=>?_)⟩
    .refine⟨_,rfl,?_⟩;exact⟨_,r,_,rfl,rfl,hxr,hFst.next hri' (of_decide_eq_true c)⟩
    .exact⟨_,e,_,rfl,rfl,hv,hFst.stay hri' (λz=>c (decide_eq_true z))⟩
   .rintro σ H' ⟨v,e,o7,rfl,rfl,hv,hFst⟩;rw[hzl]at hFst;have hFe:=hFst.few hri hmem;have hde:ds=e:=hF.one hFe;subst hde;obtain⟨va,rfl,hva⟩:=id hv;have hl12:=s2 _ _ hl1;have s12:=s1.trans s2;refine⟨_,rfl,_,rfl,a,_,rfl,.inr (SqT.of (s12 _ _ ha)),l1,_,ds,rfl,hl12,by rw[hF.ly.len,hul],λH3 s3=>?_⟩;refine⟨true,rfl,M8 ?_⟩;refine⟨_,rfl,_,rfl,1,_,by decide,EqV.ints (k:=true) (SqT.of (s3 _ _ hl12)) (SqT.of (s3 _ _ hva)),⟨_,_,rfl,rfl⟩,?_⟩;rw[show(if false=true then !decide (ds=ds)else decide (ds=ds))=true by simp];refine⟨true,rfl,a2r ?_⟩;have s13:=s12.trans s3;refine⟨_,rfl,_,rfl,a,y,us,rss,one,n,rfl,s13 _ _ ha,hI.same s13,hy.same s13,hL,λl4 ds4 H4 s4 hl4 hF4=>?_,λH4 _ hno=>(hno _ hF.ly).elim⟩;have e4:ds4=ds:=hF4.one hF;subst e4;refine⟨_,rfl,1,_,by decide,EqV.ints (k:=true) (SqT.of hl4) (SqT.of (s4 _ _ (s3 _ _ hva))),⟨_,_,rfl,rfl⟩,?_⟩;rw[show(if false=true then !decide (ds4=ds4)else decide (ds4=ds4))=true by simp];exact kk H4 (s13.trans s4)
  .have s2:=s1.upd (o:=Z0 pe C) hpe;have e2:upd H1 pe (Z0 pe C) pe=some (Z0 pe C):=A0;generalize upd H1 pe (Z0 pe C)=H2 at s2 e2;refine⟨_,rfl,?_⟩;refine⟨_,rfl,_,rfl,a,y,us,rss,one,n,rfl,s2 _ _ ha,hI.same s2,hy.same s2,hL,hn1,λl3 zs tss H3 s3 hl3 hzs hri hnd hmem=>?_⟩;dsimp only[A7];have h0:tss=[]:=List.eq_nil_iff_forall_not_mem.mpr λd hd=>hno d ((hmem d).mp hd);have hzl:=hzs.1;rw[h0]at hzl;have hz0:zs=[]:=List.length_eq_zero_iff.mp hzl;subst hz0;refine⟨_,rfl,l3,_,rfl,.inl (SqL.of hl3),rfl,true,rfl,a2r ?_⟩;exact⟨_,rfl,pe,rfl,s3 _ _ e2,λH4 s4=>kk H4 ((s2.trans s3).trans s4)⟩
theorem sc_law:FnScope ["_law_script","_law_parts","_law_width","_law_k","_law_one"] ["_law_script"] (A2 X0):=⟨rfl,rfl,rfl,by decide +kernel,rfl,by decide +kernel,by decide +kernel⟩
theorem a9A{f:Addr}{fd:FuncData}(F:Fun K "law" "law" X0 f fd)(T:Tx mg)(O__law_pot:Ok P w K mg base "_law_pot" 2 ["_law_script","_law_k"] (a4G K))(O__law_small:Ok P w K mg base "_law_small" 3 ["_law_script"] (a2G K))(O__law_one_of:Ok P w K mg base "_law_one_of" 2 ["_law_draw","_law_parts","_law_width"] a2K)(O__law_right:Ok P w K mg base "_law_right" 14 ["_law_parts","_law_one"] a2I) :
  FnOk P w K mg base CX0 15 f fd ["_law_script"] (a2M K):=by
 refine F.okJ sc_law (λvs H Q E h=>?_) (λcdv A outer s H vs Q E hr h=>?_)
 .obtain⟨a,ns,rfl,_⟩:=h;rfl
 .obtain⟨a,ns,rfl,hS,hl,kk⟩:=h;have hz:(3000:Nat)<=sizeLine:=by rw[sizeLine_eq];decide
  refine⟨_,(A1 (Y0 (B2 O__law_small (hr.mono (by omega)) rfl (jaC (jv 0) jaN)) (M1 K 2 (B5 (A9 (i:=1) sc_law.nd rfl (Or.inl rfl)) (B5 (A9 (i:=2) sc_law.nd rfl (Or.inl rfl)) G9))))
 (A1 (G3 (a3N rfl T.b_range (jaC A5 (jaC (a9N rfl T.b_max (jaC A5 (jaC (a9M rfl T.b_min (jaC A5 (jaC (N6 K rfl T.b_len (jaC (jv 0) jaN)) jaN))) jaN))) jaN))) (A9 (i:=3) sc_law.nd rfl (Or.inl rfl))
 (A1 (A8 (i:=4) sc_law.nd rfl (Or.inl rfl) (B2 O__law_one_of (hr.mono (by omega)) rfl (jaC (B2 O__law_pot (hr.mono (by omega)) rfl (jaC (jv 0) (jaC (jv 3) jaN))) (jaC (jv 1) (jaC (jv 2) jaN)))))
 (A4 (D1 (a3J (a0m (K1 (D5 K (B2 O__law_right (hr.mono (by omega)) rfl (jaC (jv 1) (jaC (jv 4) jaN))))) (T2 (K1 (D5 K (B2 O__law_right (hr.mono (by omega)) rfl (jaC (a9Q K (jv 1) (a2W A5)) (jaC (jv 4) jaN))))))))
 (A4 (B1 Y3))
 B8))))
 (A1 (D1 (a3J (a0m (K1 (D5 K (B2 O__law_right (hr.mono (by omega)) rfl (jaC (K7 jaN) (jaC (a2q (K7 (jaC A5 jaN)) (jv 2)) jaN))))) (T2 (K1 (D5 K (B2 O__law_right (hr.mono (by omega)) rfl (jaC (K7 jaN) (jaC (a2q (K7 (jaC A5 jaN)) (jv 2)) jaN))))))))
 (A4 (B1 Y3))
 B8)
 (A4 (B1 (B2 O__law_right (hr.mono (by omega)) rfl (jaC (jv 1) (jaC (a2q (K7 (jaC A5 jaN)) (jv 2)) jaN)))))))),?_⟩
  refine⟨_,rfl,a,ns,rfl,hS,λq pa us rss wd H1 hq hpa hI hG s1=>?_⟩;refine⟨q,[.ref pa,.int wd],rfl,SqT.of hq,rfl,.ref pa,[.int wd],rfl,.int wd,[],rfl,rfl,?_⟩;dsimp only[A7];have h8:=hG.n8;have h1:=hG.n1;refine⟨_,rfl,a,_,rfl,.inl (s1.seq hS),_,_,rfl,_,_,rfl,_,_,rfl,?_,?_⟩
  .refine⟨by decide,by decide,?_,?_⟩
   .rw[List.length_map];split<;>split<;>omega
   .rw[List.length_map];split<;>split<;>omega
  refine O8 (lo:=8) (λi σ H'=>Ex2 λo3 o4=>An2 (σ=[some (.ref a),some (.ref pa),some (.int wd),o3,o4]) (Same H1 H')) ⟨none,none,rfl,Same.refl _⟩ ?_ ?_
  .rintro i σ H' hi ⟨o3,o4,rfl,s'⟩;have hi25:i<25:=by
    refine Nat.lt_of_lt_of_le hi ?_;rw[List.length_map];split<;>split<;>omega
   have sH:=s1.trans s';dsimp only[A7];refine⟨_,rfl,_,rfl,a,ns,_,8+i,rfl,by omega,by omega,sH.seq hS,λpm H2 hpm hPm s2=>?_⟩;refine⟨_,rfl,_,rfl,?_⟩;have s12:=s'.trans s2;refine⟨pm,pa,wd,us,rss,rfl,hPm,s12 _ _ hpa,hI.same s12,hG,λv one H3 hv hol hon hsum off3=>?_⟩;have s13:Same H' H3:=P7 s2 hpm off3;have s03:=s'.trans s13;dsimp only[A7];have hL:=hG.pre hol hon hsum;refine⟨_,rfl,_,rfl,pa,v,us,rss,one,wd,rfl,s03 _ _ hpa,hI.same s03,hv,hL,h1,λH4 s4=>?_⟩;refine⟨true,rfl,M8 ?_⟩;have s04:=s03.trans s4;refine⟨_,rfl,1,rfl,rfl,pa,_,rfl,SqT.of (s04 _ _ hpa),λp5 hp5=>?_⟩;have s5:=(Same.refl H4).upd (o:=.tup us.reverse) hp5;have e5:upd H4 p5 (.tup us.reverse) p5=some (.tup us.reverse):=A0;generalize upd H4 p5 (.tup us.reverse)=H5 at s5 e5;have hL2:=hG.rev.pre (one:=one) hol hon (by unfold mst at hsum⊢;rw[List.length_reverse];exact hsum);refine⟨_,rfl,p5,v,us.reverse,rss.reverse,one,wd,rfl,e5,(a7v hI).same (s04.trans s5),(hv.same s4).same s5,hL2,h1,λH6 s6=>?_⟩;refine⟨true,rfl,M8 ?_⟩;exact⟨_,_,rfl,(s04.trans s5).trans s6⟩
  .rintro σ H' ⟨o3,o4,rfl,s'⟩;have hL0:∀(c:Int) (rss':LLI),Gd wd rss'->0<=c->c*wd<=mst rss'->LPre wd rss' (List.replicate wd c):=λc rss' hG' hc0 hcs=>hG'.pre List.length_replicate (λx hx=>by rw[List.eq_of_mem_replicate hx];exact hc0) (by
    have:∀m:Nat,(List.replicate m c).sum=c*m:=λm=>by
     induction m with
     |zero=>simp
     |succ m ih=>rw[List.replicate_succ,List.sum_cons,ih,Int.natCast_add,Int.mul_add];simp;omega
    rw[this];exact hcs)
   have fr:∀(c:Int) (m:Nat),(List.replicate m [V.int c]).flatten=(List.replicate m c).map V.int:=λc m=>by
    induction m with
    |zero=>rfl
    |succ m ih=>rw[List.replicate_succ,List.flatten_cons,ih,List.replicate_succ];rfl
   have hm0:mst ([]:LLI)=60:=rfl;refine⟨Nat.zero_le _,λt4 ht4=>?_⟩;have s4:=s'.upd (o:=.tup []) ht4;have e4:upd H' t4 (.tup []) t4=some (.tup []):=A0;generalize upd H' t4 (.tup [])=H4 at s4 e4;refine⟨by show 1<=sizeLine;omega,λp5 hp5=>⟨_,rfl,p5,[.int 0],_,rfl,rfl,A0,by simp,by omega,?_,λt6 H6 s6 e6=>?_⟩⟩
   .show(1:Int)*_<=_;omega
   rw[Int.toNat_natCast,fr]at e6;have s46:=((Same.refl H4).upd (o:=.tup [.int 0]) hp5).trans s6;refine⟨t4,.ref t6,[],[],_,wd,rfl,s46 _ _ e4,Its.nil,⟨t6,rfl,e6⟩,hL0 0 [] (Gd.nil h1 h8) (by omega) (by rw[hm0];omega),h1,λH7 s7=>?_⟩;refine⟨true,rfl,M8 ?_⟩;have s07:=(s4.trans s46).trans s7;refine⟨Nat.zero_le _,λt8 ht8=>?_⟩;have s8:=(Same.refl H7).upd (o:=.tup []) ht8;have e8:upd H7 t8 (.tup []) t8=some (.tup []):=A0;generalize upd H7 t8 (.tup [])=H8 at s8 e8;refine⟨by show 1<=sizeLine;omega,λp9 hp9=>⟨_,rfl,p9,[.int 2],_,rfl,rfl,A0,by simp,by omega,?_,λt10 H10 s10 e10=>?_⟩⟩
   .show(1:Int)*_<=_;omega
   rw[Int.toNat_natCast,fr]at e10;have s810:=((Same.refl H8).upd (o:=.tup [.int 2]) hp9).trans s10;refine⟨t8,.ref t10,[],[],_,wd,rfl,s810 _ _ e8,Its.nil,⟨t10,rfl,e10⟩,hL0 2 [] (Gd.nil h1 h8) (by omega) (by rw[hm0];omega),h1,λH11 s11=>?_⟩;refine⟨true,rfl,M8 ?_⟩;have s011:=((s07.trans s8).trans s810).trans s11;refine⟨_,rfl,by show 1<=sizeLine;omega,λp12 hp12=>⟨_,rfl,p12,[.int 0],_,rfl,rfl,A0,by simp,by omega,?_,λt13 H13 s13 e13=>?_⟩⟩
   .show(1:Int)*_<=_;omega
   rw[Int.toNat_natCast,fr]at e13;have s013:=(s011.upd (o:=.tup [.int 0]) hp12).trans s13;exact⟨pa,.ref t13,us,rss,_,wd,rfl,s013 _ _ hpa,hI.same s013,⟨t13,rfl,e13⟩,hL0 0 rss hG (by omega) (by unfold mst;split<;>omega),h1,λH14 s14=>kk H14⟩
end
end K25
namespace K25
open PySem PySem.Spec PyProof.Rows L2
open PySem.W
theorem all_mk{l:PySem.W.OpenLaw}{w:World}{K:PySem.W.Frag}{h:Heap}{mg:Str->Option Value}{fa:Addr}(X:K.In h)(G:h.Ns mainGlobals mg)(hfa:mg "law"=some (.ref fa))
 (a1:nsIn K mainGlobals "_wall"=some (some (.ref f1))) (l1:FnL K f1 "_wall" "_wall" a2O o1 d1 s1 v1 x1 p1 n1 c1 t1) (c_1:codeIn K c1 "_wall"=true) (k1:keepIn K (.ref f1)=true)
 (a2:nsIn K mainGlobals "below"=some (some (.ref f2))) (l2:FnL K f2 "below" "below" V4 o2 d2 s2 v2 x2 p2 n2 c2 t2) (c_2:codeIn K c2 "below"=true) (k2:keepIn K (.ref f2)=true)
 (a3:nsIn K mainGlobals "minus"=some (some (.ref f3))) (l3:FnL K f3 "minus" "minus" V3 o3 d3 s3 v3 x3 p3 n3 c3 t3) (c_3:codeIn K c3 "minus"=true) (k3:keepIn K (.ref f3)=true)
 (a4:nsIn K mainGlobals "size"=some (some (.ref f4))) (l4:FnL K f4 "size" "size" a0M o4 d4 s4 v4 x4 p4 n4 c4 t4) (c_4:codeIn K c4 "size"=true) (k4:keepIn K (.ref f4)=true)
 (a5:nsIn K mainGlobals "rests"=some (some (.ref f5))) (l5:FnL K f5 "rests" "rests" V2 o5 d5 s5 v5 x5 p5 n5 c5 t5) (c_5:codeIn K c5 "rests"=true) (k5:keepIn K (.ref f5)=true)
 (a6:nsIn K mainGlobals "without"=some (some (.ref f6))) (l6:FnL K f6 "without" "without" O1 o6 d6 s6 v6 x6 p6 n6 c6 t6) (c_6:codeIn K c6 "without"=true) (k6:keepIn K (.ref f6)=true)
 (a7:nsIn K mainGlobals "is_short"=some (some (.ref f7))) (l7:FnL K f7 "is_short" "is_short" L6 o7 d7 s7 v7 x7 p7 n7 c7 t7) (c_7:codeIn K c7 "is_short"=true) (k7:keepIn K (.ref f7)=true)
 (a8:nsIn K mainGlobals "least_sum"=some (some (.ref f8))) (l8:FnL K f8 "least_sum" "least_sum" J5 o8 d8 s8 v8 x8 p8 n8 c8 t8) (c_8:codeIn K c8 "least_sum"=true) (k8:keepIn K (.ref f8)=true)
 (a9:nsIn K mainGlobals "fewest"=some (some (.ref f9))) (l9:FnL K f9 "fewest" "fewest" R3 o9 d9 s9 v9 x9 p9 n9 c9 t9) (c_9:codeIn K c9 "fewest"=true) (k9:keepIn K (.ref f9)=true)
 (a10:nsIn K mainGlobals "_law_cell"=some (some (.ref f10))) (l10:FnL K f10 "_law_cell" "_law_cell" J7 o10 d10 s10 v10 x10 p10 n10 c10 t10) (c_10:codeIn K c10 "_law_cell"=true) (k10:keepIn K (.ref f10)=true)
 (a11:nsIn K mainGlobals "_law_pot"=some (some (.ref f11))) (l11:FnL K f11 "_law_pot" "_law_pot" L7 o11 d11 s11 v11 x11 p11 n11 c11 t11) (c_11:codeIn K c11 "_law_pot"=true) (k11:keepIn K (.ref f11)=true)
 (a12:nsIn K mainGlobals "_law_take"=some (some (.ref f12))) (l12:FnL K f12 "_law_take" "_law_take" J6 o12 d12 s12 v12 x12 p12 n12 c12 t12) (c_12:codeIn K c12 "_law_take"=true) (k12:keepIn K (.ref f12)=true)
 (a13:nsIn K mainGlobals "_law_vector"=some (some (.ref f13))) (l13:FnL K f13 "_law_vector" "_law_vector" E6 o13 d13 s13 v13 x13 p13 n13 c13 t13) (c_13:codeIn K c13 "_law_vector"=true) (k13:keepIn K (.ref f13)=true)
 (a14:nsIn K mainGlobals "_law_together"=some (some (.ref f14))) (l14:FnL K f14 "_law_together" "_law_together" D3 o14 d14 s14 v14 x14 p14 n14 c14 t14) (c_14:codeIn K c14 "_law_together"=true) (k14:keepIn K (.ref f14)=true)
 (a15:nsIn K mainGlobals "_law_small"=some (some (.ref f15))) (l15:FnL K f15 "_law_small" "_law_small" G7 o15 d15 s15 v15 x15 p15 n15 c15 t15) (c_15:codeIn K c15 "_law_small"=true) (k15:keepIn K (.ref f15)=true)
 (a16:nsIn K mainGlobals "_law_one_of"=some (some (.ref f16))) (l16:FnL K f16 "_law_one_of" "_law_one_of" E7 o16 d16 s16 v16 x16 p16 n16 c16 t16) (c_16:codeIn K c16 "_law_one_of"=true) (k16:keepIn K (.ref f16)=true)
 (a17:nsIn K mainGlobals "_law_all"=some (some (.ref f17))) (l17:FnL K f17 "_law_all" "_law_all" L8 o17 d17 s17 v17 x17 p17 n17 c17 t17) (c_17:codeIn K c17 "_law_all"=true) (k17:keepIn K (.ref f17)=true)
 (a18:nsIn K mainGlobals "_law_are_counts"=some (some (.ref f18))) (l18:FnL K f18 "_law_are_counts" "_law_are_counts" C3 o18 d18 s18 v18 x18 p18 n18 c18 t18) (c_18:codeIn K c18 "_law_are_counts"=true) (k18:keepIn K (.ref f18)=true)
 (a19:nsIn K mainGlobals "_law_no_lay"=some (some (.ref f19))) (l19:FnL K f19 "_law_no_lay" "_law_no_lay" E8 o19 d19 s19 v19 x19 p19 n19 c19 t19) (c_19:codeIn K c19 "_law_no_lay"=true) (k19:keepIn K (.ref f19)=true)
 (a20:nsIn K mainGlobals "_law_right"=some (some (.ref f20))) (l20:FnL K f20 "_law_right" "_law_right" G8 o20 d20 s20 v20 x20 p20 n20 c20 t20) (c_20:codeIn K c20 "_law_right"=true) (k20:keepIn K (.ref f20)=true)
 (a21:nsIn K mainGlobals "law"=some (some (.ref f21))) (l21:FnL K f21 "law" "law" X0 o21 d21 s21 v21 x21 p21 n21 c21 t21) (c_21:codeIn K c21 "law"=true) (k21:keepIn K (.ref f21)=true)
  (z1:PySem.W.nsIn K mainGlobals "ValueError"=some none) (z2:PySem.W.nsIn K mainGlobals "all"=some none) (z3:PySem.W.nsIn K mainGlobals "any"=some none) (z4:PySem.W.nsIn K mainGlobals "bool"=some none) (z5:PySem.W.nsIn K mainGlobals "enumerate"=some none) (z6:PySem.W.nsIn K mainGlobals "int"=some none) (z7:PySem.W.nsIn K mainGlobals "isinstance"=some none) (z8:PySem.W.nsIn K mainGlobals "len"=some none) (z9:PySem.W.nsIn K mainGlobals "list"=some none) (z10:PySem.W.nsIn K mainGlobals "max"=some none) (z11:PySem.W.nsIn K mainGlobals "min"=some none) (z12:PySem.W.nsIn K mainGlobals "range"=some none) (z13:PySem.W.nsIn K mainGlobals "reversed"=some none) (z14:PySem.W.nsIn K mainGlobals "sum"=some none) (z15:PySem.W.nsIn K mainGlobals "tuple"=some none) (z16:PySem.W.nsIn K mainGlobals "zip"=some none)
  {D_NoAnswer:Addr}(aD_NoAnswer:PySem.W.nsIn K mainGlobals "NoAnswer"=some (some (.ref D_NoAnswer))) {D_LayError:Addr}(aD_LayError:PySem.W.nsIn K mainGlobals "LayError"=some (some (.ref D_LayError))) {D_NoLay:Addr}(aD_NoLay:PySem.W.nsIn K mainGlobals "NoLay"=some (some (.ref D_NoLay))) {D_NoLine:Addr}(aD_NoLine:PySem.W.nsIn K mainGlobals "NoLine"=some (some (.ref D_NoLine))) {D_NoText:Addr}(aD_NoText:PySem.W.nsIn K mainGlobals "NoText"=some (some (.ref D_NoText))) {D_TooMany:Addr}(aD_TooMany:PySem.W.nsIn K mainGlobals "TooMany"=some (some (.ref D_TooMany))) {D_Laying:Addr}(aD_Laying:PySem.W.nsIn K mainGlobals "Laying"=some (some (.ref D_Laying))) (qx:PySem.W.excIn K D_NoLay [.type "ValueError",.type "Exception",.type "BaseException",.type "object"] "ValueError.__new__"=true) (q1:Z4 K D_LayError []=true) (q2:Z4 K D_NoLay [.ref D_LayError]=true) (q3:Z4 K D_NoLay []=true) (q4:PySem.W.mroIn K D_NoLay (.type "object")=some true) (q5:PySem.W.findIn K (.ref D_NoLay) "__class__"=some (some (.builtin "object.__class__"))) (q6:PySem.W.findIn K (.ref D_NoLay) "__getattribute__"=some (some (.builtin "BaseException.__getattribute__"))) (q7:PySem.W.findIn K (.ref D_NoLay) "__getattr__"=some none) (q8:PySem.W.kitOne K (.ref D_NoLay) (.ref D_NoLay)=some true) (q9:PySem.W.kitOne K (.ref D_NoLay) (.type "ValueError")=some true) (q10:PySem.W.kitAny K (.ref D_NoLay) [.ref D_NoAnswer,.ref D_NoLine,.ref D_NoText,.ref D_TooMany]=some false) (pg_Laying:PySem.W.plainGet K D_Laying Str.empty=true) (hd_Laying:PySem.W.hasDictIn K D_Laying=true) (po_Laying:PySem.W.plainOver K D_Laying=true) (sa_Laying:PySem.W.findIn K (.ref D_Laying) "__setattr__"=some (some (.builtin "object.__setattr__"))) (mk_Laying:PySem.W.makesIn K D_Laying=true) (kc_Laying:PySem.W.keepIn K (.ref D_Laying)=true) (n_Laying_parts:PySem.W.findIn K (.ref D_Laying) "parts"=some none) (n_Laying_lost:PySem.W.findIn K (.ref D_Laying) "lost"=some none) (n_Laying_met:PySem.W.findIn K (.ref D_Laying) "met"=some none) (a_Laying___init__:findIn K (.ref D_Laying) "__init__"=some (some (.ref f_Laying___init__))) (i_Laying___init__:isFn K (.ref f_Laying___init__)=true) (l_Laying___init__:FnL K f_Laying___init__ "__init__" "Laying.__init__" C4 o_Laying___init__ d_Laying___init__ s0_Laying___init__ v_Laying___init__ x_Laying___init__ p_Laying___init__ n0_Laying___init__ c0_Laying___init__ t_Laying___init__) (c_Laying___init__:codeIn K c0_Laying___init__ "Laying.__init__"=true) (k_Laying___init__:keepIn K (.ref f_Laying___init__)=true) (a_Laying_fitting:findIn K (.ref D_Laying) "fitting"=some (some (.ref f_Laying_fitting))) (i_Laying_fitting:isFn K (.ref f_Laying_fitting)=true) (l_Laying_fitting:FnL K f_Laying_fitting "fitting" "Laying.fitting" C9 o_Laying_fitting d_Laying_fitting s0_Laying_fitting v_Laying_fitting x_Laying_fitting p_Laying_fitting n0_Laying_fitting c0_Laying_fitting t_Laying_fitting) (c_Laying_fitting:codeIn K c0_Laying_fitting "Laying.fitting"=true) (k_Laying_fitting:keepIn K (.ref f_Laying_fitting)=true) (a_Laying_filling:findIn K (.ref D_Laying) "filling"=some (some (.ref f_Laying_filling))) (i_Laying_filling:isFn K (.ref f_Laying_filling)=true) (l_Laying_filling:FnL K f_Laying_filling "filling" "Laying.filling" D0 o_Laying_filling d_Laying_filling s0_Laying_filling v_Laying_filling x_Laying_filling p_Laying_filling n0_Laying_filling c0_Laying_filling t_Laying_filling) (c_Laying_filling:codeIn K c0_Laying_filling "Laying.filling"=true) (k_Laying_filling:keepIn K (.ref f_Laying_filling)=true) (a_Laying_next_part:findIn K (.ref D_Laying) "next_part"=some (some (.ref f_Laying_next_part))) (i_Laying_next_part:isFn K (.ref f_Laying_next_part)=true) (l_Laying_next_part:FnL K f_Laying_next_part "next_part" "Laying.next_part" C2 o_Laying_next_part d_Laying_next_part s0_Laying_next_part v_Laying_next_part x_Laying_next_part p_Laying_next_part n0_Laying_next_part c0_Laying_next_part t_Laying_next_part) (c_Laying_next_part:codeIn K c0_Laying_next_part "Laying.next_part"=true) (k_Laying_next_part:keepIn K (.ref f_Laying_next_part)=true) (a_Laying_is_lost:findIn K (.ref D_Laying) "is_lost"=some (some (.ref f_Laying_is_lost))) (i_Laying_is_lost:isFn K (.ref f_Laying_is_lost)=true) (l_Laying_is_lost:FnL K f_Laying_is_lost "is_lost" "Laying.is_lost" C8 o_Laying_is_lost d_Laying_is_lost s0_Laying_is_lost v_Laying_is_lost x_Laying_is_lost p_Laying_is_lost n0_Laying_is_lost c0_Laying_is_lost t_Laying_is_lost) (c_Laying_is_lost:codeIn K c0_Laying_is_lost "Laying.is_lost"=true) (k_Laying_is_lost:keepIn K (.ref f_Laying_is_lost)=true) (a_Laying_reach:findIn K (.ref D_Laying) "reach"=some (some (.ref f_Laying_reach))) (i_Laying_reach:isFn K (.ref f_Laying_reach)=true) (l_Laying_reach:FnL K f_Laying_reach "reach" "Laying.reach" C7 o_Laying_reach d_Laying_reach s0_Laying_reach v_Laying_reach x_Laying_reach p_Laying_reach n0_Laying_reach c0_Laying_reach t_Laying_reach) (c_Laying_reach:codeIn K c0_Laying_reach "Laying.reach"=true) (k_Laying_reach:keepIn K (.ref f_Laying_reach)=true) (a_Laying_meet:findIn K (.ref D_Laying) "meet"=some (some (.ref f_Laying_meet))) (i_Laying_meet:isFn K (.ref f_Laying_meet)=true) (l_Laying_meet:FnL K f_Laying_meet "meet" "Laying.meet" P3 o_Laying_meet d_Laying_meet s0_Laying_meet v_Laying_meet x_Laying_meet p_Laying_meet n0_Laying_meet c0_Laying_meet t_Laying_meet) (c_Laying_meet:codeIn K c0_Laying_meet "Laying.meet"=true) (k_Laying_meet:keepIn K (.ref f_Laying_meet)=true) :
  ∃fd:FuncData,(∀(s:Shared) (v:Value),BindsTo s fd ⟨[v],[]⟩ [("_law_script",v)])/\∀base:Heap,K.In base->base.Ns mainGlobals mg->FnOk l.prog w K mg base CX0 15 fa fd ["_law_script"] (a2M K):=by
 have e:=hfa.symm.trans (PySem.W.mg_of X G a21);cases e;have T:Tx mg:=⟨PySem.W.mg_none_of X G z1,PySem.W.mg_none_of X G z2,PySem.W.mg_none_of X G z3,PySem.W.mg_none_of X G z4,PySem.W.mg_none_of X G z5,PySem.W.mg_none_of X G z6,PySem.W.mg_none_of X G z7,PySem.W.mg_none_of X G z8,PySem.W.mg_none_of X G z9,PySem.W.mg_none_of X G z10,PySem.W.mg_none_of X G z11,PySem.W.mg_none_of X G z12,PySem.W.mg_none_of X G z13,PySem.W.mg_none_of X G z14,PySem.W.mg_none_of X G z15,PySem.W.mg_none_of X G z16⟩;have F1:FunAt K mg "_wall" a2O ["k"]:=D7 X G a1 l1 c_1 k1 λ_ _ _ _ _ _ us hl=>by obtain⟨_,rfl⟩:=a5x hl;rfl
 have F2:FunAt K mg "below" V4 ["one","other"]:=D7 X G a2 l2 c_2 k2 λ_ _ _ _ _ _ us hl=>by obtain⟨_,_,rfl⟩:=T0 hl;rfl
 have F3:FunAt K mg "minus" V3 ["one","other"]:=D7 X G a3 l3 c_3 k3 λ_ _ _ _ _ _ us hl=>by obtain⟨_,_,rfl⟩:=T0 hl;rfl
 have F4:FunAt K mg "size" a0M ["one"]:=D7 X G a4 l4 c_4 k4 λ_ _ _ _ _ _ us hl=>by obtain⟨_,rfl⟩:=a5x hl;rfl
 have F5:FunAt K mg "rests" V2 ["one","rest"]:=D7 X G a5 l5 c_5 k5 λ_ _ _ _ _ _ us hl=>by obtain⟨_,_,rfl⟩:=T0 hl;rfl
 have F6:FunAt K mg "without" O1 ["numbers","k"]:=D7 X G a6 l6 c_6 k6 λ_ _ _ _ _ _ us hl=>by obtain⟨_,_,rfl⟩:=T0 hl;rfl
 have F7:FunAt K mg "is_short" L6 ["parts","rest","budget"]:=D7 X G a7 l7 c_7 k7 λ_ _ _ _ _ _ us hl=>by obtain⟨_,_,_,rfl⟩:=a0U hl;rfl
 have F8:FunAt K mg "least_sum" J5 ["laying","loose","one"]:=D7 X G a8 l8 c_8 k8 λ_ _ _ _ _ _ us hl=>by obtain⟨_,_,_,rfl⟩:=a0U hl;rfl
 have F9:FunAt K mg "fewest" R3 ["told","one"]:=D7 X G a9 l9 c_9 k9 λ_ _ _ _ _ _ us hl=>by obtain⟨_,_,rfl⟩:=T0 hl;rfl
 have F10:FunAt K mg "_law_cell" J7 ["_law_script","_law_k"]:=D7 X G a10 l10 c_10 k10 λ_ _ _ _ _ _ us hl=>by obtain⟨_,_,rfl⟩:=T0 hl;rfl
 have F11:FunAt K mg "_law_pot" L7 ["_law_script","_law_k"]:=D7 X G a11 l11 c_11 k11 λ_ _ _ _ _ _ us hl=>by obtain⟨_,_,rfl⟩:=T0 hl;rfl
 have F12:FunAt K mg "_law_take" J6 ["_law_pot_here","_law_many"]:=D7 X G a12 l12 c_12 k12 λ_ _ _ _ _ _ us hl=>by obtain⟨_,_,rfl⟩:=T0 hl;rfl
 have F13:FunAt K mg "_law_vector" E6 ["_law_draw","_law_width","_law_most"]:=D7 X G a13 l13 c_13 k13 λ_ _ _ _ _ _ us hl=>by obtain⟨_,_,_,rfl⟩:=a0U hl;rfl
 have F14:FunAt K mg "_law_together" D3 ["_law_parts","_law_counts","_law_width"]:=D7 X G a14 l14 c_14 k14 λ_ _ _ _ _ _ us hl=>by obtain⟨_,_,_,rfl⟩:=a0U hl;rfl
 have F15:FunAt K mg "_law_small" G7 ["_law_script"]:=D7 X G a15 l15 c_15 k15 λ_ _ _ _ _ _ us hl=>by obtain⟨_,rfl⟩:=a5x hl;rfl
 have F16:FunAt K mg "_law_one_of" E7 ["_law_draw","_law_parts","_law_width"]:=D7 X G a16 l16 c_16 k16 λ_ _ _ _ _ _ us hl=>by obtain⟨_,_,_,rfl⟩:=a0U hl;rfl
 have F17:FunAt K mg "_law_all" L8 ["_law_parts","_law_one"]:=D7 X G a17 l17 c_17 k17 λ_ _ _ _ _ _ us hl=>by obtain⟨_,_,rfl⟩:=T0 hl;rfl
 have F18:FunAt K mg "_law_are_counts" C3 ["_law_found","_law_many"]:=D7 X G a18 l18 c_18 k18 λ_ _ _ _ _ _ us hl=>by obtain⟨_,_,rfl⟩:=T0 hl;rfl
 have F19:FunAt K mg "_law_no_lay" E8 ["_law_caught"]:=D7 X G a19 l19 c_19 k19 λ_ _ _ _ _ _ us hl=>by obtain⟨_,rfl⟩:=a5x hl;rfl
 have F20:FunAt K mg "_law_right" G8 ["_law_parts","_law_one"]:=D7 X G a20 l20 c_20 k20 λ_ _ _ _ _ _ us hl=>by obtain⟨_,_,rfl⟩:=T0 hl;rfl
 refine⟨fnOf "law" "law" (K0 X0) (C5 X0) (A2 X0) .none v21 x21 p21 n21 c21 t21,λs v=>.of_eq rfl,λbase XB GB=>?_⟩;have M_NoAnswer:=PySem.W.mg_of X G aD_NoAnswer;have M_LayError:=PySem.W.mg_of X G aD_LayError;have M_NoLay:=PySem.W.mg_of X G aD_NoLay;have M_NoLine:=PySem.W.mg_of X G aD_NoLine;have M_NoText:=PySem.W.mg_of X G aD_NoText;have M_TooMany:=PySem.W.mg_of X G aD_TooMany;have M_Laying:=PySem.W.mg_of X G aD_Laying;have CL_Laying:Cls K D_Laying:=⟨pg_Laying,hd_Laying,po_Laying,sa_Laying⟩;have FM_Laying___init__:MethAt K D_Laying "__init__" "Laying.__init__" C4 ["self","told"]:=X4 a_Laying___init__ i_Laying___init__ l_Laying___init__ c_Laying___init__ k_Laying___init__ λ_ _ _ _ _ _ us hl=>by obtain⟨_,_,rfl⟩:=T0 hl;rfl
 have FM_Laying_fitting:MethAt K D_Laying "fitting" "Laying.fitting" C9 ["self","loose","rest"]:=X4 a_Laying_fitting i_Laying_fitting l_Laying_fitting c_Laying_fitting k_Laying_fitting λ_ _ _ _ _ _ us hl=>by obtain⟨_,_,_,rfl⟩:=a0U hl;rfl
 have FM_Laying_filling:MethAt K D_Laying "filling" "Laying.filling" D0 ["self","loose","j"]:=X4 a_Laying_filling i_Laying_filling l_Laying_filling c_Laying_filling k_Laying_filling λ_ _ _ _ _ _ us hl=>by obtain⟨_,_,_,rfl⟩:=a0U hl;rfl
 have FM_Laying_next_part:MethAt K D_Laying "next_part" "Laying.next_part" C2 ["self","loose","rest"]:=X4 a_Laying_next_part i_Laying_next_part l_Laying_next_part c_Laying_next_part k_Laying_next_part λ_ _ _ _ _ _ us hl=>by obtain⟨_,_,_,rfl⟩:=a0U hl;rfl
 have FM_Laying_is_lost:MethAt K D_Laying "is_lost" "Laying.is_lost" C8 ["self","loose","rest","budget"]:=X4 a_Laying_is_lost i_Laying_is_lost l_Laying_is_lost c_Laying_is_lost k_Laying_is_lost λ_ _ _ _ _ _ us hl=>by obtain⟨_,_,_,_,rfl⟩:=a9F hl;rfl
 have FM_Laying_reach:MethAt K D_Laying "reach" "Laying.reach" C7 ["self","loose","rest","budget"]:=X4 a_Laying_reach i_Laying_reach l_Laying_reach c_Laying_reach k_Laying_reach λ_ _ _ _ _ _ us hl=>by obtain⟨_,_,_,_,rfl⟩:=a9F hl;rfl
 have FM_Laying_meet:MethAt K D_Laying "meet" "Laying.meet" P3 ["self","loose","rest","counts","most"]:=X4 a_Laying_meet i_Laying_meet l_Laying_meet c_Laying_meet k_Laying_meet λ_ _ _ _ _ _ us hl=>by obtain⟨_,_,_,_,_,rfl⟩:=b1k hl;rfl
 have FL:=Y7 (st:=X0) l21 c_21 k21;have UL:LTx K D_Laying:=⟨CL_Laying,n_Laying_parts,n_Laying_lost,n_Laying_met⟩;have MI:=(a5s (base:=base) (P:=l.prog) (w:=w) (mg:=mg) FM_Laying___init__ UL).make M_Laying mk_Laying kc_Laying;have BE:=a5t (base:=base) (P:=l.prog) (w:=w) F2 T;have SZ:=a7e (base:=base) (P:=l.prog) (w:=w) F4 T;have RE:=a5o F5 T BE (a1y F3 T);have WT:=a2j (base:=base) (P:=l.prog) (w:=w) F6 T;have FI:=a9B FM_Laying_fitting T UL BE;have NP:=a5r FM_Laying_next_part T CL_Laying (a7g (base:=base) (P:=l.prog) (w:=w) (mg:=mg) FM_Laying_filling T UL);have IL:=a3x FM_Laying_is_lost T UL (a5m F7 T SZ);have RC:MethOk l.prog w K mg base D_Laying "reach" 11 ["self","loose","rest","budget"] (L5 7 D_Laying):=by
  have e:=a3v (base:=base) (P:=l.prog) (w:=w) (mg:=mg) (K:=K) FM_Laying_reach;have st:∀m,MethOk l.prog w K mg base D_Laying "reach" (m+4) ["self","loose","rest","budget"] (L5 m D_Laying):=λm=>by
   induction m with
   |zero=>exact e
   |succ m ih=>exact a5p FM_Laying_reach T UL RE WT FI NP IL ih
  exact st 7
 have TK:=a7d (base:=base) (P:=l.prog) (w:=w) F12 T;have PT:=a9z (base:=base) (P:=l.prog) (w:=w) F11 T (a7h F10 T);have FW:=a3y F9 T UL MI (a1y F3 T) (a7f F8 T UL SZ RC) RC (a9p XB M_NoLay qx);have NL:=a5q (base:=base) (P:=l.prog) (w:=w) F19 T M_NoAnswer M_NoLay M_NoLine M_NoText M_TooMany ⟨a1h q3,q4,q5,q6,q7⟩ q8 q9 q10;have RI:=a5n F20 T FW (a9C F17 T) (a3z F18 T) NL M_LayError (a1h q1) (a1h q2);exact a9A FL T PT (a5l F15 T TK PT (a3u F13 T TK)) (a3w F16 T TK (a7c F14 T)) RI
end K25
namespace PySem.W.Fast
theorem tw8107483981616912203:True:=⟨⟩
theorem tw1772181641611363280:True:=⟨⟩
theorem tw6744819681808719205:True:=⟨⟩
theorem tw4464074053858171836:True:=⟨⟩
theorem tw3496701272913557941:True:=⟨⟩
theorem tw15269452812704301496:True:=⟨⟩
theorem tw11686975001547058348:True:=⟨⟩
theorem tw16226316112267104156:True:=⟨⟩
theorem tw15931402538038619818:True:=⟨⟩
theorem tw3005460217989677319:True:=⟨⟩
theorem tw15542205402814521548:True:=⟨⟩
theorem tw9380307839970455232:True:=⟨⟩
theorem tw6735479694167138242:True:=⟨⟩
theorem tw15478906086596780381:True:=⟨⟩
theorem tw6333981314536695084:True:=⟨⟩
theorem tw15336628886013654400:True:=⟨⟩
theorem tw17979290140405291985:True:=⟨⟩
theorem tw5649663491737438766:True:=⟨⟩
theorem tw15525866704765878715:True:=⟨⟩
theorem tw14897913688771868237:True:=⟨⟩
theorem tw9458501554886890944:True:=⟨⟩
theorem tw15148983315040787845:True:=⟨⟩
theorem tw198135138470614911:True:=⟨⟩
theorem tw4684885182304984232:True:=⟨⟩
theorem tw8216013426889280002:True:=⟨⟩
theorem tw6995699084907289751:True:=⟨⟩
theorem tw10926188624511324494:True:=⟨⟩
theorem tw3113716201232537849:True:=⟨⟩
theorem tw5674488208390081583:True:=⟨⟩
theorem tw10187328752753017066:True:=⟨⟩
theorem tw13217853783290998846:True:=⟨⟩
theorem tw16172663787992357663:True:=⟨⟩
theorem tw10429729626636886812:True:=⟨⟩
theorem tw5645736472919104816:True:=⟨⟩
theorem tw10664950057261641580:True:=⟨⟩
theorem tw680628874514037507:True:=⟨⟩
theorem tw7920080147466806432:True:=⟨⟩
theorem tw5815905740961963193:True:=⟨⟩
theorem tw17692389332855629498:True:=⟨⟩
theorem tw6134837407701394275:True:=⟨⟩
theorem tw13870664570840054807:True:=⟨⟩
theorem tw10494883122118292875:True:=⟨⟩
theorem tw15112633629364590980:True:=⟨⟩
theorem tw8420325107430602587:True:=⟨⟩
theorem tw5195766543147697145:True:=⟨⟩
theorem tw5631431822642316909:True:=⟨⟩
theorem tw11176523770438740345:True:=⟨⟩
theorem tw80596948471786309:True:=⟨⟩
theorem tw10388870558388372804:True:=⟨⟩
theorem tw7386430383627075668:True:=⟨⟩
theorem tw8585350425049428978:True:=⟨⟩
theorem tw14443256859731598407:True:=⟨⟩
theorem tw9096493320860982552:True:=⟨⟩
theorem tw14162061142922788684:True:=⟨⟩
theorem tw8156700866178284142:True:=⟨⟩
theorem tw2738354518413631214:True:=⟨⟩
theorem tw2941230413001697590:True:=⟨⟩
theorem tw12073463679016670339:True:=⟨⟩
theorem tw6692320163832032609:True:=⟨⟩
theorem tw16880374708185433007:True:=⟨⟩
theorem tw875524659802696420:True:=⟨⟩
theorem tw11339393691957333187:True:=⟨⟩
theorem tw16669075829314078886:True:=⟨⟩
theorem tw11770120358977623653:True:=⟨⟩
theorem tw8813273036608113138:True:=⟨⟩
theorem tw14335826243647866520:True:=⟨⟩
theorem tw5345251634636349390:True:=⟨⟩
theorem tw13835785803891980433:True:=⟨⟩
theorem tw16166481920482420393:True:=⟨⟩
theorem tw8190975690092095468:True:=⟨⟩
theorem tw14869599511404773204:True:=⟨⟩
theorem tw6048943200352023305:True:=⟨⟩
theorem tw4772184288882407115:True:=⟨⟩
theorem tw6396626162177374536:True:=⟨⟩
theorem tw674044703010913732:True:=⟨⟩
theorem tw4225861561655332581:True:=⟨⟩
theorem tw2549867697717416703:True:=⟨⟩
theorem tw11434864736860480556:True:=⟨⟩
theorem tw14644133759875152950:True:=⟨⟩
theorem tw12074450018777552544:True:=⟨⟩
theorem tw7768248452775666999:True:=⟨⟩
theorem tw5983999661505163086:True:=⟨⟩
theorem tw6842788500041260330:True:=⟨⟩
end PySem.W.Fast
open PySem PySem.W PyProof.Rows
set_option maxRecDepth 100000 in
set_option maxHeartbeats 0 in
theorem PySem.Challenge.cw_leastlays_k25_fewest_holds : PySem.Challenge.rw_leastlays_k25_fewest.Holds := by
 w_on;o_law;k_head;(case hw=>w_witness2)
 k_fill
 refine L2.law_walk (l:=PySem.Challenge.rw_leastlays_k25_fewest) 15 rfl rfl ⟨rfl,by decide,by decide⟩ (λw h Y=>PySem.W.kIn_of Y) ?F
 case F =>
  intro w mg fa h KX G hmg
  refine' K25.all_mk KX G hmg ?a1 ?l1 ?c_1 ?k1 ?a2 ?l2 ?c_2 ?k2 ?a3 ?l3 ?c_3 ?k3 ?a4 ?l4 ?c_4 ?k4 ?a5 ?l5 ?c_5 ?k5 ?a6 ?l6 ?c_6 ?k6 ?a7 ?l7 ?c_7 ?k7 ?a8 ?l8 ?c_8 ?k8 ?a9 ?l9 ?c_9 ?k9 ?a10 ?l10 ?c_10 ?k10 ?a11 ?l11 ?c_11 ?k11 ?a12 ?l12 ?c_12 ?k12 ?a13 ?l13 ?c_13 ?k13 ?a14 ?l14 ?c_14 ?k14 ?a15 ?l15 ?c_15 ?k15 ?a16 ?l16 ?c_16 ?k16 ?a17 ?l17 ?c_17 ?k17 ?a18 ?l18 ?c_18 ?k18 ?a19 ?l19 ?c_19 ?k19 ?a20 ?l20 ?c_20 ?k20 ?a21 ?l21 ?c_21 ?k21 ?z1 ?z2 ?z3 ?z4 ?z5 ?z6 ?z7 ?z8 ?z9 ?z10 ?z11 ?z12 ?z13 ?z14 ?z15 ?z16 ?aD_NoAnswer ?aD_LayError ?aD_NoLay ?aD_NoLine ?aD_NoText ?aD_TooMany ?aD_Laying ?qx ?q1 ?q2 ?q3 ?q4 ?q5 ?q6 ?q7 ?q8 ?q9 ?q10 ?pg_Laying ?hd_Laying ?po_Laying ?sa_Laying ?mk_Laying ?kc_Laying ?n_Laying_parts ?n_Laying_lost ?n_Laying_met ?a_Laying___init__ ?i_Laying___init__ ?l_Laying___init__ ?c_Laying___init__ ?k_Laying___init__ ?a_Laying_fitting ?i_Laying_fitting ?l_Laying_fitting ?c_Laying_fitting ?k_Laying_fitting ?a_Laying_filling ?i_Laying_filling ?l_Laying_filling ?c_Laying_filling ?k_Laying_filling ?a_Laying_next_part ?i_Laying_next_part ?l_Laying_next_part ?c_Laying_next_part ?k_Laying_next_part ?a_Laying_is_lost ?i_Laying_is_lost ?l_Laying_is_lost ?c_Laying_is_lost ?k_Laying_is_lost ?a_Laying_reach ?i_Laying_reach ?l_Laying_reach ?c_Laying_reach ?k_Laying_reach ?a_Laying_meet ?i_Laying_meet ?l_Laying_meet ?c_Laying_meet ?k_Laying_meet
  (case a1|l1|c_1|k1|a2|l2|c_2|k2|a3|l3|c_3|k3|a4|l4|c_4|k4|a5|l5|c_5|k5|a6|l6|c_6|k6|a7|l7|c_7|k7|a8|l8|c_8|k8|a9|l9|c_9|k9|a10|l10|c_10|k10|a11|l11|c_11|k11|a12|l12|c_12|k12|a13|l13|c_13|k13|a14|l14|c_14|k14|a15|l15|c_15|k15|a16|l16|c_16|k16|a17|l17|c_17|k17|a18|l18|c_18|k18|a19|l19|c_19|k19|a20|l20|c_20|k20|a21|l21|c_21|k21|z1|z2|z3|z4|z5|z6|z7|z8|z9|z10|z11|z12|z13|z14|z15|z16|aD_NoAnswer|aD_LayError|aD_NoLay|aD_NoLine|aD_NoText|aD_TooMany|aD_Laying=>(try unfold L2.FnL);k_is)
  (case qx|q1|q2|q3|q4|q5|q6|q7|q8|q9|q10=>first|k_is|kernel_rfl|rfl)
  (case pg_Laying|hd_Laying|po_Laying|sa_Laying|mk_Laying|kc_Laying|n_Laying_parts|n_Laying_lost|n_Laying_met|a_Laying___init__|i_Laying___init__|l_Laying___init__|c_Laying___init__|k_Laying___init__|a_Laying_fitting|i_Laying_fitting|l_Laying_fitting|c_Laying_fitting|k_Laying_fitting|a_Laying_filling|i_Laying_filling|l_Laying_filling|c_Laying_filling|k_Laying_filling|a_Laying_next_part|i_Laying_next_part|l_Laying_next_part|c_Laying_next_part|k_Laying_next_part|a_Laying_is_lost|i_Laying_is_lost|l_Laying_is_lost|c_Laying_is_lost|k_Laying_is_lost|a_Laying_reach|i_Laying_reach|l_Laying_reach|c_Laying_reach|k_Laying_reach|a_Laying_meet|i_Laying_meet|l_Laying_meet|c_Laying_meet|k_Laying_meet=>(try unfold L2.FnL);k_is)
#print axioms PySem.Challenge.cw_leastlays_k25_fewest_holds
