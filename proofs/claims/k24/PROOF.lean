import PyProof.Rows.All
import Wide.All
import OpenK.AllK
import Wide.FinOn
import Lean
import PyProof.EqAt
import PyProof.EqKinds
import PyProof.TupleCall
import PyProof.ZipIter
import PyProof.ExcArgsOwn
import PyProof.ExcAttrAll.ValueError
import KE.KSortTup
import PySem.SetTable
import PyProof.SetNew
import PyProof.TupleKey
import PyProof.DictRoadsH
import PyProof.DictKinds
import PyProof.IsRules
import PyProof.Rows.SetFrom
import PyProof.WalksMore
import KE.KDictSum
import PyProof.Rows.CallKwBuiltin
import PyProof.MinMaxWalk
import KE.KDictOf
import PyProof.AttrMissHeap
import PyProof.AutoSeq1
import PyProof.TupleOfSeq
import PyProof.ListRange
import KE.KRevIter
import PySem.Challenge.RW_leastlays_k24_no_more_than_most
set_option compiler.extract_closed false
set_option bootstrap.genMatcherCode false
set_option genSizeOf false
set_option Elab.async false
set_option linter.all false
set_option maxRecDepth 2000000
set_option maxHeartbeats 4000000
abbrev LLI:=List (List Int)
namespace L2
open PySem PySem.Spec PyProof.Rows
abbrev Key:=Sum Int Str
noncomputable def a2t:Key->Value->Bool
 |.inl k,v=>Value.isInt k v
 |.inr x,v=>Value.isStrOf x v
noncomputable def b5O(w:World):Key->Int
 |.inl k=>hashInt k
 |.inr x=>hashStr w x
theorem C4:∀{k:Key}{v:Value},a2t k v=true->(∃i t,k=Sum.inl i/\v=Value.int i t)∨(∃x t,k=Sum.inr x/\v=Value.str x t)
 |.inl i,v,h=>by
  obtain⟨t,e⟩:=Value.isInt_shape (k:=i) (v:=v) h;exact .inl ⟨i,t,rfl,e⟩
 |.inr x,v,h=>by
  obtain⟨t,e⟩:=Value.isStrOf_shape (x:=x) (v:=v) h;exact .inr ⟨x,t,rfl,e⟩
theorem a7j(i:Int)(t:Tok):a2t (.inl i) (.int i t)=true:=by simp[a2t,Value.isInt]
theorem a7i(x:Str)(t:Tok):a2t (.inr x) (.str x t)=true:=by simp[a2t,Value.isStrOf]
theorem b4m(a b:Int):decide ((Sum.inl a:Key)=Sum.inl b)=(a==b):=by
 by_cases e:a=b
 .subst e;simp
 .have h:¬(Sum.inl a:Key)=Sum.inl b:=λq=>e (Sum.inl.inj q);rw[decide_eq_false h];exact(beq_eq_false_iff_ne.mpr e).symm
theorem b4j(a b:Str):decide ((Sum.inr a:Key)=Sum.inr b)=decide (a=b):=by
 by_cases e:a=b
 .subst e;simp
 .have h:¬(Sum.inr a:Key)=Sum.inr b:=λq=>e (Sum.inr.inj q);rw[decide_eq_false h,decide_eq_false e]
theorem b4l(a:Int)(b:Str):decide ((Sum.inl a:Key)=Sum.inr b)=false:=decide_eq_false (λq=>nomatch q)
theorem b4k(a:Str)(b:Int):decide ((Sum.inr a:Key)=Sum.inl b)=false:=decide_eq_false (λq=>nomatch q)
noncomputable def D8(prog:Program)(w:World):PySem.KeyKind prog w Key where
 is:=a2t
 hash:=b5O w
 inj:=λv a b ha hb=>by
  rcases C4 ha with⟨i,t,rfl,rfl⟩|⟨x,t,rfl,rfl⟩
  .rcases C4 hb with⟨j,u,rfl,e⟩|⟨y,u,rfl,e⟩
   .injection e with e1 _;rw[e1]
   .exact nomatch e
  .rcases C4 hb with⟨j,u,rfl,e⟩|⟨y,u,rfl,e⟩
   .exact nomatch e
   .injection e with e1 _;rw[e1]
 byValue:=λk v h=>by
  rcases C4 h with⟨i,t,rfl,rfl⟩|⟨x,t,rfl,rfl⟩<;>rfl
 pyHash:=λhv h=>by
  rcases C4 hv with⟨i,t,rfl,rfl⟩|⟨x,t,rfl,rfl⟩
  .exact wpAny_pyHash_int h
  .exact wpAny_pyHash_str h
 eqBool:=λhu hv h=>by
  rcases C4 hu with⟨i,t,rfl,rfl⟩|⟨x,t,rfl,rfl⟩
  .rcases C4 hv with⟨j,u,rfl,rfl⟩|⟨y,u,rfl,rfl⟩
   .rw[b4m]at h;exact wpAny_eqBool_int h
   .rw[b4l]at h;exact SeqAt.EqAt.int_str i t y u _ _ _ _ h
  .rcases C4 hv with⟨j,u,rfl,rfl⟩|⟨y,u,rfl,rfl⟩
   .rw[b4k]at h;exact SeqAt.EqAt.str_int x t j u _ _ _ _ h
   .rw[b4j]at h;exact wpAny_eqBool_str h
 «strs»:=λk x t v h=>by
  rcases C4 h with⟨i,u,rfl,e⟩|⟨y,u,rfl,e⟩
  .exact nomatch e
  .injection e with e1 _
   subst e1;cases v<;>rfl
theorem a3U(prog:Program)(w:World)(i:Int)(t:Tok):(D8 prog w).is (.inl i) (.int i t)=true:=a7j i t
theorem a3T(prog:Program)(w:World)(x:Str)(t:Tok):(D8 prog w).is (.inr x) (.str x t)=true:=a7i x t
inductive V where
 |non|bl (b:Bool)|int (i:Int)|str (x:Str)|byt (b:Array UInt8)|flt (b:UInt64)|ref (a:Addr)|ty (n:String)
 deriving DecidableEq
def RelV:V->Value->Prop
 |.non,u=>u=Value.none
 |.bl b,u=>u=Value.bool b
 |.int i,u=>∃t,u=Value.int i t
 |.str x,u=>∃t,u=Value.str x t
 |.byt b,u=>∃t,u=Value.bytes b t
 |.flt b,u=>∃t,u=Value.float b t
 |.ref a,u=>u=Value.ref a
 |.ty n,u=>u=Value.type n
abbrev Vals:List V->List Value->Prop:=Paired RelV
theorem Vals.length{xs:List V}{us:List Value}(r:Vals xs us):xs.length=us.length:=Paired.length r
theorem Vals.get:∀{xs:List V}{us:List Value}{i:Nat}{x:V},Vals xs us->xs[i]?=some x->∃u,us[i]?=some u/\RelV x u
 |_,_,_,_,.nil,e=>by simp at e
 |_,_,0,_,.cons r _,e=>by simp at e;subst e;exact⟨_,rfl,r⟩
 |_,_,i+1,x,.cons _ t,e=>by
  obtain⟨u,h1,h2⟩:=Vals.get (i:=i) (x:=x) t (by simpa using e);exact⟨u,by simpa using h1,h2⟩
theorem Vals.set{x:V}{u:Value}(r:RelV x u):∀{xs:List V}{us:List Value}(i:Nat),Vals xs us->Vals (xs.set i x) (us.set i u)
 |_,_,_,.nil=>.nil
 |_,_,0,.cons _ t=>.cons r t
 |_,_,i+1,.cons q t=>.cons q (Vals.set r i t)
theorem Vals.append:∀{xs ys:List V}{us ws:List Value},Vals xs us->Vals ys ws->Vals (xs++ys) (us++ws)
 |_,_,_,_,.nil,s=>s
 |_,_,_,_,.cons r t,s=>.cons r (Vals.append t s)
theorem Vals.take:∀{xs:List V}{us:List Value}(n:Nat),Vals xs us->Vals (xs.take n) (us.take n)
 |_,_,0,_=>.nil
 |_,_,_+1,.nil=>.nil
 |_,_,n+1,.cons r t=>.cons r (Vals.take n t)
theorem Vals.drop:∀{xs:List V}{us:List Value}(n:Nat),Vals xs us->Vals (xs.drop n) (us.drop n)
 |_,_,0,r=>r
 |_,_,_+1,.nil=>.nil
 |_,_,n+1,.cons _ t=>Vals.drop n t
def RelO:Option V->Option Value->Prop
 |some v,some u=>RelV v u
 |none,none=>True
 |_,_=>False
def KV{κ:Type}:List (κ×V)->List (κ×Value)->Prop:=Paired λ(p:κ×V) (q:κ×Value)=>p.1=q.1/\RelV p.2 q.2
noncomputable def kV:Key->V
 |.inl i=>.int i
 |.inr x=>.str x
inductive HO where
 |lst (xs:List V)
 |tup (xs:List V)
 |dK (kvs:List (Key×V))|dT (kvs:List (List Key×V))
 |set (S:Int->Bool) (n:Nat)
 |ins (C dx:Addr) (fs:List (Str×V))
 |own (x:Addr)
 |xd (fs:List (Str×V))
 |met (f x:Addr)
 |rng (lo hi:Int)
 |frz (o:Obj) (u:HO)
 |tbl (ps:Array Value)
 |ext (φ:Heap->Prop)
abbrev Hp:=Addr->Option HO
noncomputable def upd(H:Hp)(a:Addr)(o:HO):Hp:=λb=>if b=a then some o else H b
theorem A0{H:Hp}{a:Addr}{o:HO}:upd H a o a=some o:=by unfold upd;rw[if_pos rfl]
theorem A3{H:Hp}{a b:Addr}{o:HO}(h:b≠a):upd H a o b=H b:=by unfold upd;rw[if_neg h]
theorem L6{H:Hp}{a b:Addr}{o u:HO}(h:H a=some o)(h':H b=some u)(d:o≠u):a≠b:=by
 intro e;subst e;rw[h]at h';exact d (Option.some.inj h')
theorem A6{H:Hp}{a b:Addr}{o:HO}(h:H a=some o)(h':H b=none):a≠b:=by
 intro e;subst e;rw[h]at h';cases h'
section
variable (P:Program) (w:World)
def ObjOk(H:Hp)(h:Heap)(a:Addr):HO->Prop
 |.lst xs=>xs.length<=sizeLine/\∃(its:List Value) (n:Nat),Vals xs its/\h.get? a=some {cls:=.type "list",data:=.seq its.toArray n}
 |.tup xs=>xs.length<=sizeLine/\∃its:List Value,Vals xs its/\IsTup h a its.toArray
 |.dK kvs=>kvs.length<=sizeLine/\(a==sysModules)=false/\∃vs,KV kvs vs/\h.DictOf (D8 P w) a vs
 |.dT kvs=>kvs.length<=sizeLine/\(a==sysModules)=false/\∃xs:List (List Key×Addr×Value),
   Paired (λ(p:List Key×V) (q:List Key×Addr×Value)=>p.1=q.1/\H q.2.1=some (.tup (p.1.map kV))/\RelV p.2 q.2.2) kvs xs /\
   ∃o es ep,h.get? a=some o/\o.ExactDict/\o.data=.dict es ep/\es.toList=xs.map (entryOfKey (tupleKind (D8 P w)))/\(xs.map (·.1)).Nodup
 |.set S n=>h.SetOf (intKind P w) a S n
 |.ins C dx fs=>H dx=some (.own a)/\fs.length<=1000/\dx≠a/\h.get? a=some (PySem.W.instObj C dx) /\
   ∃mA,h.Ns1 dx mA/\(∀f,RelO (fs.lookup f) (mA f))/\PySem.Within mA (fs.map (·.1))
 |.own _=>∃o,h.get? a=some o
 |.xd fs=>∃mA,h.Ns1 a mA/\∀f,RelO (fs.lookup f) (mA f)
 |.rng lo hi=>∃t u v,h.get? a=some {cls:=.type "range",data:=.fields #[.int lo t,.int hi u,.int 1 v]}
 |.frz o u=>h.get? a=some o/\ObjOk H h a u
 |.tbl ps=>h.get? a=some {cls:=.none,data:=.fields ps}
 |.met f x=>h.get? a=some (PySem.W.methodObj (.ref f) (.ref x))
 |.ext φ=>φ h/\(∃o,h.get? a=some o)/\∀h1 h2:Heap,φ h1->(∀o,h1.get? a=some o->h2.get? a=some o)->φ h2
def HOk(H:Hp)(h:Heap):Prop:=∀a o,H a=some o->ObjOk P w H h a o
end
section
variable {P:Program}{w:World}{H H':Hp}{h h':Heap}{a:Addr}{o:HO}
theorem ObjOk.lt(x:ObjOk P w H h a o):a<h.objs.size:=by
 cases o with
 |lst xs=>obtain⟨_,_,_,_,e⟩:=x;exact Heap.lt_size e
 |tup xs=>obtain⟨_,_,_,p⟩:=x;exact p.lt
 |dK kvs=>obtain⟨_,_,_,_,o,_,_,e,_⟩:=x;exact Heap.lt_size e
 |dT kvs=>obtain⟨_,_,_,_,o,_,_,e,_⟩:=x;exact Heap.lt_size e
 |set S n=>obtain⟨o,_,_,_,e,_⟩:=x;exact Heap.lt_size e
 |ins C dx fs=>obtain⟨_,_,_,e,_⟩:=x;exact Heap.lt_size e
 |own y=>obtain⟨_,e⟩:=x;exact Heap.lt_size e
 |xd fs=>obtain⟨_,⟨_,_,_,e,_⟩,_⟩:=x;exact Heap.lt_size e
 |rng lo hi=>obtain⟨_,_,_,e⟩:=x;exact Heap.lt_size e
 |frz ob u=>obtain⟨e,_⟩:=x;exact Heap.lt_size e
 |tbl ps=>exact Heap.lt_size (show h.get? a=some _ from x)
 |met f y=>exact Heap.lt_size (show h.get? a=some _ from x)
 |ext φ=>obtain⟨_,⟨_,e⟩,_⟩:=x;exact Heap.lt_size e
theorem Paired.mapP{α β:Type}{F G:α->β->Prop}:∀{l₁:List α}{l₂:List β},Paired F l₁ l₂->(∀a b,F a b->G a b)->Paired G l₁ l₂
 |_,_,.nil,_=>.nil
 |_,_,.cons r t,f=>.cons (f _ _ r) (Paired.mapP t f)
theorem ObjOk.stay(x:ObjOk P w H h a o)(k:∀b u,(b=a∨H b=some (.own a))->h.get? b=some u->h'.get? b=some u)
  (ho:∀b,H b=some (.own a)->H' b=some (.own a)) (ht:∀b xs,H b=some (.tup xs)->H' b=some (.tup xs)):ObjOk P w H' h' a o:=by
 induction o with
 |lst xs=>obtain⟨z,its,n,r,e⟩:=x;exact⟨z,its,n,r,k _ _ (.inl rfl) e⟩
 |tup xs=>obtain⟨z,its,r,ob,e,c⟩:=x;exact⟨z,its,r,ob,k _ _ (.inl rfl) e,c⟩
 |dK kvs=>obtain⟨z,y,vs,r,ob,es,ep,e,c⟩:=x;exact⟨z,y,vs,r,ob,es,ep,k _ _ (.inl rfl) e,c⟩
 |dT kvs =>
  obtain⟨z,y,xs,r,ob,es,ep,e,c⟩:=x;exact⟨z,y,xs,Paired.mapP r λp q z=>⟨z.1,ht _ _ z.2.1,z.2.2⟩,ob,es,ep,k _ _ (.inl rfl) e,c⟩
 |set S n=>obtain⟨ob,es,ep,t,e,c⟩:=x;exact⟨ob,es,ep,t,k _ _ (.inl rfl) e,c⟩
 |ins C dx fs =>
  obtain⟨d,z,ne,e,mA,⟨od,es,ep,e2,c⟩,r⟩:=x;exact⟨ho _ d,z,ne,k _ _ (.inl rfl) e,mA,⟨od,es,ep,k _ _ (.inr d) e2,c⟩,r⟩
 |own y=>obtain⟨ob,e⟩:=x;exact⟨ob,k _ _ (.inl rfl) e⟩
 |xd fs=>obtain⟨mA,⟨od,es,ep,e,c⟩,r⟩:=x;exact⟨mA,⟨od,es,ep,k _ _ (.inl rfl) e,c⟩,r⟩
 |rng lo hi=>obtain⟨t,u,v,e⟩:=x;exact⟨t,u,v,k _ _ (.inl rfl) e⟩
 |frz ob u ih=>obtain⟨e,q⟩:=x;exact⟨k _ _ (.inl rfl) e,ih q⟩
 |tbl ps =>
  have e:h.get? a=some {cls:=.none,data:=.fields ps}:=x;show h'.get? a=some {cls:=.none,data:=.fields ps};exact k a _ (.inl rfl) e
 |met f y =>
  have e:h.get? a=some (PySem.W.methodObj (.ref f) (.ref y)):=x;show h'.get? a=some (PySem.W.methodObj (.ref f) (.ref y));exact k a _ (.inl rfl) e
 |ext φ=>obtain⟨p,⟨o,e⟩,st⟩:=x;exact⟨st _ _ p λo q=>k _ _ (.inl rfl) q,⟨o,k _ _ (.inl rfl) e⟩,st⟩
theorem HOk.lt(x:HOk P w H h)(e:H a=some o):a<h.objs.size:=(x a o e).lt
theorem HOk.fresh(x:HOk P w H h)(e:h.objs.size<=a):H a=none:=by
 cases q:H a with
 |none=>rfl
 |some u=>exact absurd (Nat.lt_of_lt_of_le (x.lt q) e) (Nat.lt_irrefl _)
theorem HOk.kept(x:HOk P w H h)(k:∀b u,h.get? b=some u->h'.get? b=some u):HOk P w H h':=λa o e =>
 (x a o e).stay (λb u _ q=>k b u q) (λ_ q=>q) λ_ _ q=>q
theorem HOk.laid(x:HOk P w H h)(k:∀b u,h.get? b=some u->h'.get? b=some u)(hp:h.objs.size<=a)(new:ObjOk P w (upd H a o) h' a o):HOk P w (upd H a o) h':=λb u e=>by
 have hn:=x.fresh hp;by_cases hb:b=a
 .subst hb;rw[A0]at e;cases e;exact new
 .rw[A3 hb]at e;exact(x b u e).stay (λc v _ q=>k c v q) (λc q=>by rw[A3 (A6 q hn)];exact q) λc xs q=>by rw[A3 (A6 q hn)];exact q
end
def Rd(H:Hp)(a:Addr)(u:HO):Prop:=H a=some u∨∃o,H a=some (.frz o u)
theorem Rd.ok{P:Program}{w:World}{H:Hp}{h:Heap}{a:Addr}{u:HO}(r:Rd H a u)(x:HOk P w H h):ObjOk P w H h a u:=by
 rcases r with r|⟨o,r⟩
 .exact x a u r
 .obtain⟨_,q⟩:=x a _ r;exact q
def Mut:Option HO->Prop
 |some (.lst _)=>True
 |some (.dK _)=>True
 |some (.dT _)=>True
 |some (.set _ _)=>True
 |some (.ins _ _ _)=>True
 |some (.ext _)=>True
 |_=>False
section
variable {P:Program}{w:World}{H:Hp}{h h':Heap}{x e:Addr}{o':HO}
theorem HOk.write(ok:HOk P w H h)(mu:Mut (H x))(he:e=x∨H e=some (.own x))(k:∀b u,b≠e->h.get? b=some u->h'.get? b=some u)(heo:∃u,h'.get? e=some u)
  (new:ObjOk P w (upd H x o') h' x o'):HOk P w (upd H x o') h':=λb u q=>by
 have nown:∀c y,H c=some (.own y)->c≠x:=λc y r z=>by subst z;rw[r]at mu;exact mu
 have ntup:∀c xs,H c=some (.tup xs)->c≠x:=λc xs r z=>by subst z;rw[r]at mu;exact mu
 by_cases hb:b=x
 .subst hb;rw[A0]at q;cases q;exact new
 .rw[A3 hb]at q;by_cases hbe:b=e
  .have q':H b=some (.own x):=by
    rcases he with z|z
    .exact absurd (hbe.trans z) hb
    .rw[hbe];exact z
   rw[q]at q';cases q';obtain⟨v,hv⟩:=heo;exact⟨v,by rw[hbe];exact hv⟩
  .refine(ok b u q).stay (λc v hc r=>k c v ?_ r) (λc r=>by rw[A3 (nown c b r)];exact r) λc xs r=>by rw[A3 (ntup c xs r)];exact r
   rcases hc with rfl|hc
   .exact hbe
   .rintro rfl;rcases he with z|z
    .exact nown c b hc z
    .rw[hc]at z;cases z;exact hb rfl
end
structure Un(fs ex:List Addr)(H H':Hp)(h h':Heap):Prop where
 keep:∀b o,h.get? b=some o->H b=none->b∉fs->b∉ex->h'.get? b=some o
 slot:∀b o,h.get? b=some o->H b=none->b∈fs->b∉ex->∃sl,h'.get? b=some {o with slots:=sl}
 free:∀b o,h.get? b=some o->H b=none->b∉ex->H' b=none
 there:∀b o,h.get? b=some o->b∉ex->∃o',h'.get? b=some o'
 tups:∀b xs,H b=some (.tup xs)->H' b=some (.tup xs)
 frzs:∀b o u,H b=some (.frz o u)->H' b=some (.frz o u)
 tbls:∀b ps,H b=some (.tbl ps)->∃more,H' b=some (.tbl (ps++more))
section
variable {fs fs' ex ex':List Addr}{H H1 H2:Hp}{h h1 h2 h':Heap}{a x e:Addr}{o:HO}
theorem Un.any(u:Un fs ex H H1 h h1){b:Addr}{ob:Obj}(q:h.get? b=some ob)(n:H b=none)(hx:b∉ex):∃sl,h1.get? b=some {ob with slots:=sl}:=by
 by_cases hb:b∈fs
 .exact u.slot b ob q n hb hx
 .exact⟨ob.slots,u.keep b ob q n hb hx⟩
theorem Un.kept(k:∀b u,h.get? b=some u->h'.get? b=some u):Un fs ex H H h h' :=
 ⟨λb ob q _ _ _=>k b ob q,λb ob q _ _ _=>⟨ob.slots,k b ob q⟩,λ_ _ _ n _=>n,λb ob q _=>⟨ob,k b ob q⟩,λ_ _ q=>q,λ_ _ _ q=>q,λ_ ps q=>⟨#[],by rw[q];simp⟩⟩
theorem Un.refl:Un fs ex H H h h:=Un.kept λ_ _ q=>q
theorem Un.laid(k:∀b u,h.get? b=some u->h'.get? b=some u)(hp:h.objs.size<=a)(hn:H a=none):Un fs ex H (upd H a o) h h' where
 keep:=λb u q _ _ _=>k b u q
 slot:=λb u q _ _ _=>⟨u.slots,k b u q⟩
 free:=λb u q n _=>by rw[A3 (Nat.ne_of_lt (Nat.lt_of_lt_of_le (Heap.lt_size q) hp))];exact n
 there:=λb u q _=>⟨u,k b u q⟩
 tups:=λb xs q=>by rw[A3 (A6 q hn)];exact q
 frzs:=λb u xs q=>by rw[A3 (A6 q hn)];exact q
 tbls:=λb ps q=>⟨#[],by rw[A3 (A6 q hn),q];simp⟩
theorem Un.write(mu:Mut (H x))(he:e=x∨H e=some (.own x))(k:∀b u,b≠e->h.get? b=some u->h'.get? b=some u)(heo:∃u,h'.get? e=some u):Un fs ex H (upd H x o) h h':=by
 have hx:∀b,H b=none->b≠x:=λb n z=>by subst z;rw[n]at mu;exact mu
 have hb:∀b,H b=none->b≠e:=λb n z=>by
  subst z;rcases he with r|r
  .exact hx b n r
  .rw[n]at r;cases r
 have hm:∀b u,H b=some u->¬Mut (some u)->b≠x:=λb u q nm z=>by subst z;rw[q]at mu;exact nm mu
 refine⟨λb u q n _ _=>k b u (hb b n) q,λb u q n _ _=>⟨u.slots,k b u (hb b n) q⟩,λb u q n _=>by rw[A3 (hx b n)];exact n,λb u q _=>?_,
  λb xs q=>by rw[A3 (hm b _ q λz=>z)];exact q,λb u xs q=>by rw[A3 (hm b _ q λz=>z)];exact q,λb ps q=>⟨#[],by rw[A3 (hm b _ q λz=>z),q];simp⟩⟩
 by_cases hbe:b=e
 .subst hbe;exact heo
 .exact⟨u,k b u hbe q⟩
end
noncomputable def trk(h:Heap)(H:Hp):List Addr:=(List.range h.objs.size).filter λa=>(H a).isSome
noncomputable def a3l(h:Heap)(H:Hp):Heap:=PySem.W.hideAll h (trk h H)
theorem a7o(h:Heap)(H:Hp):(a3l h H).objs.size=h.objs.size:=PySem.W.hideAll_size _ _
theorem a9N{h:Heap}{H:Hp}{b:Addr}{o:Obj}(e:h.get? b=some o)(n:H b=none):(a3l h H).get? b=some o :=
 PySem.W.hideAll_get _ e λhm=>by
  have q:(H b).isSome=true:=(List.mem_filter.mp hm).2;rw[n]at q;simp at q
theorem b1F{h:Heap}{H:Hp}{b:Addr}{o:Obj}(e:(a3l h H).get? b=some o):h.get? b=some o/\H b=none:=by
 have e':h.get? b=some o:=PySem.W.of_hideAll (trk h H) e;refine⟨e',?_⟩;cases q:H b with
 |none=>rfl
 |some x =>
  have hm:b∈trk h H:=List.mem_filter.mpr ⟨List.mem_range.mpr (Heap.lt_size e'),by simp[q]⟩;have z:(a3l h H).get? b=none:=PySem.W.hideAll_none (trk h H) hm;rw[z]at e;cases e
noncomputable def b2i(g h:Heap)(L:Addr):List (Addr×Obj):=(List.range h.objs.size).filterMap λa=>if a=L∨(g.get? a).isSome=true then none else(h.get? a).map λo=>(a,o)
noncomputable def rest(g h:Heap)(L d:Addr):List (Addr×Obj):=(b2i g h L).filter λp=>decide (p.1≠d)
structure Mod(K:PySem.W.Frag)(mg:Str->Option Value)(base:Heap):Prop where
 kin:K.In base
 glob:base.Ns mainGlobals mg
 blt:∃mb,base.Ns builtinsNs mb/\∀x:Str,x≠"__name__"->mb x=bootBuiltins x
 nolimit:base.NoLimit
structure Cx where
 prog:Program
 w:World
 K:PySem.W.Frag
 mg:Str->Option Value
 base:Heap
 A:Around
 N:List Str
 s₀:Shared
 H₀:Hp
 env:Env
 outer:List Env
 stack:List Env
 ex:List Addr
 fn:Str->Bool
 calm:Bool
 pn:List (Addr×Obj)
 xe:Value->Shared->Prop
noncomputable def frs(l:List Env):List Addr:=l.filterMap (·.frame)
noncomputable abbrev Cx.fs(X:Cx):List Addr:=frs X.outer
def Vis(sc:Scope)(x:Str):Prop:=sc.names.lookup x=some .local∨sc.names.lookup x=some .cell∨sc.names.lookup x=some .free
def Loc(sc:Scope)(x:Str):Prop:=sc.names.lookup x=some .local∨sc.names.lookup x=some .cell
def b6a(env:Env)(h:Heap)(m:Str->Option Value)(x:Str)(u:Value):Prop :=
 (env.kindOf x=some .local/\m x=some u)∨((env.kindOf x=some .cell∨env.kindOf x=some .free)/\∃c,env.cells.lookup x=some c/\h.IsCell c (some u))
structure Cx.Ok(X:Cx):Prop where
 mod:Mod X.K X.mg X.base
 kind:X.env.scope.kind=.function
 glob:X.env.globals=mainGlobals
 blt:X.env.builtins=builtinsNs
 above:X.s₀.heap.objs.size<=X.env.locals
 inj:∀x y c,X.env.cells.lookup x=some c->X.env.cells.lookup y=some c->x=y
 has:∀x,(X.env.kindOf x=some .cell∨X.env.kindOf x=some .free)->∃c,X.env.cells.lookup x=some c
 cab:∀x c,X.fn x=true->X.env.cells.lookup x=some c->X.s₀.heap.objs.size<=c
 hd:X.calm=true->X.A.handled=none
 frames:X.A.frames=some X.stack
 stk:X.stack=X.outer∨(X.stack=X.env::X.outer/\X.env.frame=some X.env.locals)
 exf:∀b∈X.ex,b≠X.env.locals/\∀x c,X.env.cells.lookup x=some c->c≠b
 bs:∀b o,X.base.get? b=some o->X.s₀.heap.get? b=some o/\X.H₀ b=none
 bsz:X.base.objs.size<=X.s₀.heap.objs.size
 noex:∀b o,X.base.get? b=some o->b∉X.ex
 exfs:∀b∈X.ex,b∉X.fs
 funs:X.s₀.heap.FunFrames X.base X.outer
 frf:∀b∈X.fs,X.H₀ b=none
structure Inv(X:Cx)(pins:List (Addr×Obj))(σ:List (Option V))(H:Hp)(s:Shared):Prop where
 ok:X.Ok
 os:s.os=X.s₀.os
 bare:AllBare s.gens
 base:Un X.fs X.ex X.H₀ H X.s₀.heap s.heap
 loc:∃m,s.heap.Ns X.env.locals m/\∀(i:Nat) (x:Str) (v:V),X.N[i]?=some x->σ[i]?=some (some v)->Vis X.env.scope x->∃u,RelV v u/\b6a X.env s.heap m x u
 cell:∀x c,X.env.cells.lookup x=some c->∃v,s.heap.IsCell c v
 free:H X.env.locals=none
 freeC:∀x c,X.env.cells.lookup x=some c->H c=none
 pin:∀p∈X.pn++pins,s.heap.get? p.1=some p.2/\H p.1=none/\p.1≠X.env.locals/\p.1∉X.fs/\∀v,p.2.data≠.cell v
 hok:HOk X.prog X.w H s.heap
 len:σ.length=X.N.length
section
variable {X:Cx}{pins:List (Addr×Obj)}{σ:List (Option V)}{H H':Hp}{s:Shared}{h':Heap}
theorem Cx.Ok.nofr(ok:X.Ok){b:Addr}{o:Obj}(e:X.base.get? b=some o):b∉X.fs:=λhb=>by
 have:=(ok.funs.mem hb).1;rw[e]at this;cases this
theorem Inv.bs(I:Inv X pins σ H s):∀b o,X.base.get? b=some o->s.heap.get? b=some o/\H b=none:=λb o e =>
 ⟨I.base.keep b o (I.ok.bs b o e).1 (I.ok.bs b o e).2 (I.ok.nofr e) (I.ok.noex b o e),I.base.free b o (I.ok.bs b o e).1 (I.ok.bs b o e).2 (I.ok.noex b o e)⟩
theorem Inv.bk(I:Inv X pins σ H s):∀b o,X.base.get? b=some o->s.heap.get? b=some o:=λb o e=>(I.bs b o e).1
theorem Inv.mod(I:Inv X pins σ H s):Mod X.K X.mg X.base:=I.ok.mod
theorem Inv.kIn(I:Inv X pins σ H s):X.K.In s.heap:=I.ok.mod.kin.keeps I.bk
theorem Inv.lt(I:Inv X pins σ H s):X.env.locals<s.heap.objs.size:=let ⟨_,hn,_⟩:=I.loc;hn.lt
theorem Inv.sz(I:Inv X pins σ H s):X.s₀.heap.objs.size<=s.heap.objs.size:=Nat.le_trans I.ok.above (Nat.le_of_lt I.lt)
theorem Inv.nofs(I:Inv X pins σ H s){a:Addr}(h:s.heap.objs.size<=a):a∉X.fs:=λhb=>by
 obtain⟨_,o,ho,_⟩:=I.ok.funs.mem hb;exact absurd (Nat.lt_of_lt_of_le (Heap.lt_size ho) (Nat.le_trans I.sz h)) (Nat.lt_irrefl _)
theorem Inv.cne(I:Inv X pins σ H s):∀x c,X.env.cells.lookup x=some c->c≠X.env.locals:=λx c e z=>by
 obtain⟨v,o,ho,hd⟩:=I.cell x c e;obtain⟨m,⟨o',es,ep,ho',hd',_⟩,_⟩:=I.loc;rw[z,ho']at ho;cases ho;rw[hd']at hd;cases hd
theorem Inv.funs(I:Inv X pins σ H s):s.heap.FunFrames X.base X.outer:=by
 have all:∀(l:List Env),(∀b∈frs l,b∈X.fs)->X.s₀.heap.FunFrames X.base l->s.heap.FunFrames X.base l:=by
  intro l;induction l with
  |nil=>intro _ _;trivial
  |cons env r ih =>
   intro hs hl;obtain⟨hk,⟨L,o,hf,hn,ho,hd⟩,hr⟩:=hl;have hL:L∈X.fs:=hs L (by unfold frs;rw[List.filterMap_cons,hf];exact List.mem_cons_self);obtain⟨sl,e⟩:=I.base.slot L o ho (I.ok.frf L hL) hL λz=>I.ok.exfs L z hL;exact⟨hk,⟨L,_,hf,hn,e,hd⟩,ih (λb hb=>hs b (by unfold frs;rw[List.filterMap_cons,hf];exact List.mem_cons_of_mem _ hb)) hr⟩
 exact all X.outer (λ_ hb=>hb) I.ok.funs
theorem Inv.stack(I:Inv X pins σ H s):s.heap.FunFrames X.base X.stack:=by
 rcases I.ok.stk with e|⟨e,hf⟩
 .rw[e];exact I.funs
 .rw[e];obtain⟨m,hn,_⟩:=I.loc;refine .cons (by rw[I.ok.kind];decide) hf hn ?_ I.funs;exact Heap.get?_none_of_le (Nat.le_trans I.ok.bsz I.ok.above)
theorem Inv.stkSub(I:Inv X pins σ H s):∀b∈frs X.stack,b∈X.env.locals::X.fs:=λb hb=>by
 rcases I.ok.stk with e|⟨e,hf⟩
 .rw[e]at hb;exact List.mem_cons_of_mem _ hb
 .rw[e]at hb;unfold frs at hb;rw[List.filterMap_cons,hf]at hb;exact hb
theorem Inv.stkFree(I:Inv X pins σ H s):∀b∈frs X.stack,H b=none:=λb hb=>by
 rcases List.mem_cons.mp (I.stkSub b hb)with e|hb
 .rw[e];exact I.free
 .obtain⟨_,o,ho,_⟩:=I.ok.funs.mem hb;exact I.base.free b o ho (I.ok.frf b hb) λz=>I.ok.exfs b z hb
theorem Inv.step{g':Array GenState}{t':Nat}{d':Drawn}{ch:List Addr}(I:Inv X pins σ H s)
  (hch:∀b∈ch,(b∈X.ex∨X.s₀.heap.objs.size<=b)/\b≠X.env.locals/\(∀x c,X.env.cells.lookup x=some c->c≠b)/\∀p∈X.pn++pins,p.1≠b)
  (keep:∀b o,b≠X.env.locals->b∉X.fs->b∉ch->s.heap.get? b=some o->H b=none->h'.get? b=some o)
  (slot:∀b o,b≠X.env.locals->b∈X.fs->b∉ch->s.heap.get? b=some o->H b=none->∃sl,h'.get? b=some {o with slots:=sl}) (free:∀b o,b∉ch->s.heap.get? b=some o->H b=none->H' b=none)
  (there:∀b o,b∉ch->s.heap.get? b=some o->∃o',h'.get? b=some o')
  (tups:∀b xs,H b=some (.tup xs)->H' b=some (.tup xs)) (frzs:∀b o u,H b=some (.frz o u)->H' b=some (.frz o u)) (tbls:∀b ps,H b=some (.tbl ps)->∃more,H' b=some (.tbl (ps++more)))
  (ns:∀m,s.heap.Ns X.env.locals m->h'.Ns X.env.locals m) (hok:HOk X.prog X.w H' h') (hg:AllBare g') :
  Inv X pins σ H' {s with heap:=h',gens:=g',drawn:=d',toks:=t'}:=by
 have neL:∀b o,X.s₀.heap.get? b=some o->b≠X.env.locals:=λb o e=>Nat.ne_of_lt (Nat.lt_of_lt_of_le (Heap.lt_size e) I.ok.above);have neC:∀b o,X.s₀.heap.get? b=some o->b∉X.ex->b∉ch:=λb o e hx hb=>by
  rcases(hch b hb).1 with z|z
  .exact hx z
  .exact absurd (Nat.lt_of_lt_of_le (Heap.lt_size e) z) (Nat.lt_irrefl _)
 have cellK:∀x c,X.env.cells.lookup x=some c->∀v,s.heap.IsCell c v->h'.IsCell c v:=λx c e v ⟨o,ho,hd⟩=>by
  have nch:c∉ch:=λz=>(hch c z).2.2.1 x c e rfl;by_cases hc:c∈X.fs
  .obtain⟨sl,q⟩:=slot c o (I.cne x c e) hc nch ho (I.freeC x c e);exact⟨_,q,hd⟩
  .exact⟨o,keep c o (I.cne x c e) hc nch ho (I.freeC x c e),hd⟩
 refine⟨I.ok,I.os,hg,⟨λb o e n hb hx=>?_,λb o e n hb hx=>?_,λb o e n hx=>?_,λb o e hx=>?_,λb xs e=>tups b xs (I.base.tups b xs e),λb o xs e=>frzs b o xs (I.base.frzs b o xs e),λb ps e=>?_⟩,?_,λx c e=>?_,?_,λx c e=>?_,λp hp=>?_,hok,I.len⟩
 .exact keep b o (neL b o e) hb (neC b o e hx) (I.base.keep b o e n hb hx) (I.base.free b o e n hx)
 .obtain⟨sl,e1⟩:=I.base.slot b o e n hb hx;obtain⟨sl',e2⟩:=slot b _ (neL b o e) hb (neC b o e hx) e1 (I.base.free b o e n hx);exact⟨sl',e2⟩
 .obtain⟨o',e1⟩:=I.base.there b o e hx;exact free b o' (neC b o e hx) e1 (I.base.free b o e n hx)
 .obtain⟨o',e1⟩:=I.base.there b o e hx;exact there b o' (neC b o e hx) e1
 .obtain⟨m1,e1⟩:=I.base.tbls b ps e;obtain⟨m2,e2⟩:=tbls b _ e1;exact⟨m1++m2,by rw[e2,Array.append_assoc]⟩
 .obtain⟨m,hn,hl⟩:=I.loc;refine⟨m,ns m hn,λi x v e1 e2 e3=>?_⟩;obtain⟨u,r,l⟩:=hl i x v e1 e2 e3;refine⟨u,r,?_⟩;rcases l with l|⟨k,c,e,z⟩
  .exact .inl l
  .exact .inr ⟨k,c,e,cellK x c e _ z⟩
 .obtain⟨v,z⟩:=I.cell x c e;exact⟨v,cellK x c e v z⟩
 .obtain⟨m,⟨o,_,_,ho,_⟩,_⟩:=I.loc;exact free _ o (λz=>(hch _ z).2.1 rfl) ho I.free
 .obtain⟨v,o,ho,hd⟩:=I.cell x c e;exact free c o (λz=>(hch c z).2.2.1 x c e rfl) ho (I.freeC x c e)
 .obtain⟨e,n,ne,nf,d⟩:=I.pin p hp;have nch:p.1∉ch:=λz=>(hch p.1 z).2.2.2 p hp rfl;exact⟨keep p.1 p.2 ne nf nch e n,free p.1 p.2 nch e n,ne,nf,d⟩
theorem Inv.un{t':Nat}(I:Inv X pins σ H s)(u:Un X.fs [] H H' s.heap h')(hok:HOk X.prog X.w H' h'):Inv X pins σ H' {s with heap:=h',toks:=t'}:=by
 obtain⟨m,⟨o,es,ep,ho,r⟩,_⟩:=id I.loc;obtain⟨sl,hL⟩:=u.any ho I.free (by simp);exact I.step (g':=s.gens) (d':=s.drawn) (ch:=[]) (λ_ z=>nomatch z) (λb o _ hb _ e n=>u.keep b o e n hb (by simp)) (λb o _ hb _ e n=>u.slot b o e n hb (by simp)) (λb o _ e n=>u.free b o e n (by simp)) (λb o _ e=>u.there b o e (by simp)) u.tups u.frzs u.tbls (λm' hm=>by
  obtain⟨o',es',ep',ho',r'⟩:=hm;rw[ho]at ho';cases ho';exact⟨_,es',ep',hL,r'⟩) hok I.bare
theorem Inv.call{g':Array GenState}{t':Nat}{d':Drawn}{ch:List Addr}(I:Inv X pins σ H s)(u:Un (frs X.stack) ch H H' s.heap h')(hok:HOk X.prog X.w H' h')(hg:AllBare g')
  (hch:∀b∈ch,(b∈X.ex∨X.s₀.heap.objs.size<=b)/\b≠X.env.locals/\(∀x c,X.env.cells.lookup x=some c->c≠b)/\∀p∈X.pn++pins,p.1≠b) :
  Inv X pins σ H' {s with heap:=h',gens:=g',drawn:=d',toks:=t'}:=by
 obtain⟨m,⟨o,es,ep,ho,r⟩,_⟩:=id I.loc;obtain⟨sl,hL⟩:=u.any ho I.free λz=>(hch _ z).2.1 rfl;exact I.step (ch:=ch) hch (λb o hL hb hc e n=>u.keep b o e n (λz=>(List.mem_cons.mp (I.stkSub b z)).elim hL hb) hc) (λb o _ _ hc e n=>u.any e n hc) (λb o hc e n=>u.free b o e n hc) (λb o hc e=>u.there b o e hc) u.tups u.frzs u.tbls (λm' hm=>by
  obtain⟨o',es',ep',ho',r'⟩:=hm;rw[ho]at ho';cases ho';exact⟨_,es',ep',hL,r'⟩) hok hg
theorem Inv.turned{t':Nat}{it:Addr}(I:Inv X pins σ H s)(k:∀b o,b≠it->s.heap.get? b=some o->h'.get? b=some o)(hn:H it=none)(hL:it≠X.env.locals)
  (h1:it∈X.ex∨X.s₀.heap.objs.size<=it) (h2:∀x c,X.env.cells.lookup x=some c->c≠it) (h3:∀p∈X.pn++pins,p.1≠it):Inv X pins σ H {s with heap:=h',toks:=t'}:=by
 have nit:∀b u,H b=some u->b≠it:=λb u e z=>by rw[z,hn]at e;cases e
 refine I.step (g':=s.gens) (d':=s.drawn) (ch:=[it]) (λb hb=>?_) (λb o _ _ hc e _=>k b o (λz=>hc (by simp[z])) e) (λb o _ _ hc e _=>⟨o.slots,k b o (λz=>hc (by simp[z])) e⟩) (λ_ _ _ _ n=>n)
  (λb o hc e=>⟨o,k b o (λz=>hc (by simp[z])) e⟩) (λ_ _ e=>e) (λ_ _ _ e=>e) (λb ps e=>⟨#[],by rw[e];simp⟩) (λm hm=>?_) (λb u e=>?_) I.bare
 .have e:b=it:=by simpa using hb
  subst e;exact⟨h1,hL,h2,h3⟩
 .obtain⟨o,es,ep,ho,r⟩:=hm;exact⟨o,es,ep,k _ o (Ne.symm hL) ho,r⟩
 .refine(I.hok b u e).stay (λc v hc q=>k c v ?_ q) (λ_ q=>q) λ_ _ q=>q;rcases hc with z|z
  .rw[z];exact nit b u e
  .exact nit c _ z
theorem Inv.tok(I:Inv X pins σ H s)(t:Nat):Inv X pins σ H {s with toks:=t}:=I.un (h':=s.heap) (t':=t) Un.refl I.hok
theorem Inv.kept{t':Nat}(I:Inv X pins σ H s)(k:∀b u,s.heap.get? b=some u->h'.get? b=some u):Inv X pins σ H {s with heap:=h',toks:=t'}:=I.un (Un.kept k) (I.hok.kept k)
theorem Inv.laid{a:Addr}{o:HO}{t':Nat}(I:Inv X pins σ H s)(k:∀b u,s.heap.get? b=some u->h'.get? b=some u)(hp:s.heap.objs.size<=a)(new:ObjOk X.prog X.w (upd H a o) h' a o) :
  Inv X pins σ (upd H a o) {s with heap:=h',toks:=t'}:=I.un (Un.laid k hp (I.hok.fresh hp)) (I.hok.laid k hp new)
theorem Inv.write{x e:Addr}{o:HO}{t':Nat}(I:Inv X pins σ H s)(mu:Mut (H x))(he:e=x∨H e=some (.own x))(k:∀b u,b≠e->s.heap.get? b=some u->h'.get? b=some u)(heo:∃u,h'.get? e=some u)
  (new:ObjOk X.prog X.w (upd H x o) h' x o):Inv X pins σ (upd H x o) {s with heap:=h',toks:=t'}:=I.un (Un.write mu he k heo) (I.hok.write mu he k heo new)
theorem Inv.weak{σ':List (Option V)}(I:Inv X pins σ H s)(hl:σ'.length=σ.length)(w:∀(i:Nat) v,σ'[i]?=some (some v)->σ[i]?=some (some v)):Inv X pins σ' H s :=
 ⟨I.ok,I.os,I.bare,I.base,let ⟨m,hn,hl'⟩:=I.loc;⟨m,hn,λi x v e1 e2 e3=>hl' i x v e1 (w i v e2) e3⟩,I.cell,I.free,I.freeC,I.pin,I.hok,hl.trans I.len⟩
theorem Inv.pins_of{pins':List (Addr×Obj)}(I:Inv X pins σ H s)(h:∀p∈pins',s.heap.get? p.1=some p.2/\H p.1=none/\p.1≠X.env.locals/\p.1∉X.fs/\∀v,p.2.data≠.cell v):Inv X pins' σ H s :=
 ⟨I.ok,I.os,I.bare,I.base,I.loc,I.cell,I.free,I.freeC,λp hp=>(List.mem_append.mp hp).elim (λz=>I.pin p (List.mem_append_left _ z)) (h p),I.hok,I.len⟩
theorem a1y{N:List Str}(hN:N.Nodup){i j:Nat}{x:Str}(a:N[i]?=some x)(b:N[j]?=some x):i=j:=by
 obtain⟨h1,e1⟩:=List.getElem?_eq_some_iff.mp a;obtain⟨h2,e2⟩:=List.getElem?_eq_some_iff.mp b;exact(List.getElem_inj hN).mp (e1.trans e2.symm)
theorem a2l{M:Model}{A:Around}{E:Value->Shared->Prop}{i:Nat}{x:Str}{v:V}{u:Value}{Q:Unit->Shared->Prop}(I:Inv X pins σ H s)(hN:X.N.Nodup)(hi:X.N[i]?=some x)(hx:Loc X.env.scope x)(r:RelV v u)
  (h:∀s',Inv X pins (σ.set i (some v)) H s'->(∃a,Heap.SameBut a s.heap s'.heap/\(a=X.env.locals∨X.env.cells.lookup x=some a))->Q () s') (hf:X.fn x=true∨X.env.scope.names.lookup x=some .local:=by first|exact .inl rfl|exact .inr rfl|assumption):wpAny M A (storeName X.env x u) Q E s:=by
 obtain⟨m,hn,hl⟩:=id I.loc;have hcls:(X.env.scope.kind==.class || (X.env.scope.kind==.module && X.env.locals != X.env.globals))=false:=by rw[I.ok.kind];rfl
 have hiσ:i<σ.length:=by rw[I.len];exact(List.getElem?_eq_some_iff.mp hi).1
 have cne:=I.cne;have tracked:∀{a:Addr}{h':Heap},(∃o,s.heap.get? a=some o/\H a=none)->Heap.SameBut a s.heap h'->HOk X.prog X.w H h':=λ{a h'} ha hs b ob e=>by
  obtain⟨_,_,hfree⟩:=ha;refine(I.hok b ob e).stay (λc w' hc q=>(hs.2 c ?_).trans q) (λ_ q=>q) λ_ _ q=>q;rintro rfl;rcases hc with rfl|hc
  .rw[hfree]at e;cases e
  .rw[hfree]at hc;cases hc
 rcases hx with hk|hk
 .refine wpAny_storeName_local hk hn (λh' hn' hs=>?_) hcls;obtain⟨oL,_,_,hoL,_⟩:=id hn;refine h _ ⟨I.ok,I.os,I.bare,⟨λb o e n hb hx=>?_,λb o e n hb hx=>?_,I.base.free,λb o e hx=>?_,I.base.tups,I.base.frzs,I.base.tbls⟩,⟨_,hn',λj y v' e1 e2 e3=>?_⟩,λy c e=>?_,I.free,I.freeC,λp hp=>?_,tracked ⟨oL,hoL,I.free⟩ hs,by simpa using I.len⟩ ⟨_,hs,.inl rfl⟩
  .exact(hs.2 b (Nat.ne_of_lt (Nat.lt_of_lt_of_le (Heap.lt_size e) I.ok.above))).trans (I.base.keep b o e n hb hx)
  .obtain⟨sl,e1⟩:=I.base.slot b o e n hb hx;exact⟨sl,(hs.2 b (Nat.ne_of_lt (Nat.lt_of_lt_of_le (Heap.lt_size e) I.ok.above))).trans e1⟩
  .obtain⟨o',e1⟩:=I.base.there b o e hx;exact⟨o',(hs.2 b (Nat.ne_of_lt (Nat.lt_of_lt_of_le (Heap.lt_size e) I.ok.above))).trans e1⟩
  .by_cases hj:j=i
   .subst hj;rw[hi]at e1;cases e1;rw[List.getElem?_set_self hiσ]at e2;cases e2;exact⟨u,r,.inl ⟨hk,by simp⟩⟩
   .rw[List.getElem?_set_ne (Ne.symm hj)]at e2;obtain⟨u',r',q⟩:=hl j y v' e1 e2 e3;refine⟨u',r',?_⟩;rcases q with⟨k,e⟩|⟨k,c,e,z⟩
    .refine .inl ⟨k,?_⟩;have:y≠x:=λe=>hj (a1y hN e1 (e ▸ hi));simp[this,e]
    .exact .inr ⟨k,c,e,z.sameBut hs (cne y c e)⟩
  .obtain⟨w',z⟩:=I.cell y c e;exact⟨w',z.sameBut hs (cne y c e)⟩
  .obtain⟨e,n,ne,nf,d⟩:=I.pin p hp;exact⟨(hs.2 p.1 ne).trans e,n,ne,nf,d⟩
 .have hfn:X.fn x=true:=by
   rcases hf with z|z
   .exact z
   .rw[z]at hk;cases hk
  obtain⟨c,hc⟩:=I.ok.has x (.inl hk);obtain⟨w',z⟩:=I.cell x c hc;refine wpAny_storeName_cell I.ok.kind hk hc z (λh' hc' hs=>?_);obtain⟨oc,hoc,hocd⟩:=id z;refine h {s with heap:=h'} ⟨I.ok,I.os,I.bare,⟨λb o e n hb hx=>?_,λb o e n hb hx=>?_,I.base.free,λb o e hx=>?_,I.base.tups,I.base.frzs,I.base.tbls⟩,⟨m,hn.sameBut hs (Ne.symm (cne x c hc)),λj y v' e1 e2 e3=>?_⟩,λy c' e=>?_,I.free,I.freeC,λp hp=>?_,tracked ⟨oc,hoc,I.freeC x c hc⟩ hs,by simpa using I.len⟩ ⟨c,hs,.inr hc⟩
  .exact(hs.2 b (Nat.ne_of_lt (Nat.lt_of_lt_of_le (Heap.lt_size e) (I.ok.cab x c hfn hc)))).trans (I.base.keep b o e n hb hx)
  .obtain⟨sl,e1⟩:=I.base.slot b o e n hb hx;exact⟨sl,(hs.2 b (Nat.ne_of_lt (Nat.lt_of_lt_of_le (Heap.lt_size e) (I.ok.cab x c hfn hc)))).trans e1⟩
  .obtain⟨o',e1⟩:=I.base.there b o e hx;exact⟨o',(hs.2 b (Nat.ne_of_lt (Nat.lt_of_lt_of_le (Heap.lt_size e) (I.ok.cab x c hfn hc)))).trans e1⟩
  .by_cases hj:j=i
   .subst hj;rw[hi]at e1;cases e1;rw[List.getElem?_set_self hiσ]at e2;cases e2;exact⟨u,r,.inr ⟨.inl hk,c,hc,hc'⟩⟩
   .rw[List.getElem?_set_ne (Ne.symm hj)]at e2;obtain⟨u',r',q⟩:=hl j y v' e1 e2 e3;refine⟨u',r',?_⟩;rcases q with q|⟨k,c',e,z'⟩
    .exact .inl q
    .refine .inr ⟨k,c',e,z'.sameBut hs ?_⟩;rintro rfl;exact hj (a1y hN e1 (I.ok.inj _ _ _ e hc ▸ hi))
  .by_cases hcc:c'=c
   .subst hcc;exact⟨_,hc'⟩
   .obtain⟨w2,z2⟩:=I.cell y c' e;exact⟨w2,z2.sameBut hs hcc⟩
  .obtain⟨e,n,ne,nf,d⟩:=I.pin p hp;refine⟨(hs.2 p.1 ?_).trans e,n,ne,nf,d⟩;intro q;rw[q,hoc]at e;have q':oc=p.2:=Option.some.inj e;exact d w' (by rw[<-q'];exact hocd)
theorem Y7{M:Model}{A:Around}{E:Value->Shared->Prop}{i:Nat}{x:Str}{v:V}{u:Value}{Q:Unit->Shared->Prop}(I:Inv X pins σ H s)(hN:X.N.Nodup)(hi:X.N[i]?=some x)(hx:Loc X.env.scope x)(r:RelV v u)
  (h:∀s',Inv X pins (σ.set i (some v)) H s'->Q () s') (hf:X.fn x=true∨X.env.scope.names.lookup x=some .local:=by first|exact .inl rfl|exact .inr rfl|assumption):wpAny M A (storeName X.env x u) Q E s :=
 a2l I hN hi hx r (λs' I' _=>h s' I') hf
theorem Inv.call'{s':Shared}{ch:List Addr}(I:Inv X pins σ H s)(ho:s'.os=s.os)(u:Un (frs X.stack) ch H H' s.heap s'.heap)(hok:HOk X.prog X.w H' s'.heap)(hg:AllBare s'.gens)
  (hch:∀b∈ch,(b∈X.ex∨X.s₀.heap.objs.size<=b)/\b≠X.env.locals/\(∀x c,X.env.cells.lookup x=some c->c≠b)/\∀p∈X.pn++pins,p.1≠b):Inv X pins σ H' s':=by
 obtain⟨h',g',d',t',o'⟩:=s';have e:o'=s.os:=ho;subst e;exact I.call (g':=g') (t':=t') (d':=d') u hok hg hch
end
abbrev XK:=Value->Option Addr->Hp->Prop
abbrev St:=List (Option V)
abbrev VK:=V->Hp->Prop
abbrev TE:=St->Hp->VK->Prop
abbrev TT:=St->Hp->(Bool->Hp->Prop)->Prop
abbrev TA:=St->Hp->(List V->Hp->Prop)->Prop
structure Ends where
 nx:St->Hp->Prop
 rt:VK
 bk:St->Hp->Prop:=λ_ _=>False
 ct:St->Hp->Prop:=λ_ _=>False
abbrev TS:=Ends->St->Hp->Prop
def EP(X:Cx)(pins:List (Addr×Obj))(σ:St)(Q:VK)(u:Value)(s':Shared):Prop:=∃v H',Inv X pins σ H' s'/\RelV v u/\Q v H'
def TP(X:Cx)(pins:List (Addr×Obj))(σ:St)(Q:Bool->Hp->Prop)(b:Bool)(s':Shared):Prop:=∃H',Inv X pins σ H' s'/\Q b H'
def AP(X:Cx)(pins:List (Addr×Obj))(σ:St)(Q:List V->Hp->Prop)(us:List Value)(s':Shared):Prop:=∃vs H',Inv X pins σ H' s'/\Vals vs us/\Q vs H'
def SP(X:Cx)(pins:List (Addr×Obj))(D:Ends)(f:Flow)(s':Shared):Prop :=
 match f with
 |.next=>∃σ' H',Inv X pins σ' H' s'/\D.nx σ' H'
 |.brk=>∃σ' H',Inv X pins σ' H' s'/\D.bk σ' H'
 |.cont=>∃σ' H',Inv X pins σ' H' s'/\D.ct σ' H'
 |.ret u=>∃v σ' H',Inv X pins σ' H' s'/\RelV v u/\D.rt v H'
def PE(X:Cx)(e:Expr)(t:TE):Prop :=
 ∀(pins:List (Addr×Obj)) (s:Shared) (σ:St) (H:Hp) (Q:VK),Inv X pins σ H s->t σ H Q->wpAny (model X.prog X.w) X.A (eval e X.env) (EP X pins σ Q) X.xe s
def PT(X:Cx)(e:Expr)(t:TT):Prop :=
 ∀(pins:List (Addr×Obj)) (s:Shared) (σ:St) (H:Hp) (Q:Bool->Hp->Prop),Inv X pins σ H s->t σ H Q->wpAny (model X.prog X.w) X.A (isTrue e X.env (eval e X.env)) (TP X pins σ Q) X.xe s
def PW(X:Cx)(e:Expr)(t:TT):Prop :=
 ∀(whole:Sem Value) (pins:List (Addr×Obj)) (s:Shared) (σ:St) (H:Hp) (Q:Bool->Hp->Prop),Inv X pins σ H s->t σ H Q->wpAny (model X.prog X.w) X.A (isTrue e X.env whole) (TP X pins σ Q) X.xe s
theorem PW.pt{X:Cx}{e:Expr}{t:TT}(h:PW X e t):PT X e t:=h _
def PA(X:Cx)(es:List Expr)(t:TA):Prop :=
 ∀(pos:Pos) (pins:List (Addr×Obj)) (s:Shared) (σ:St) (H:Hp) (Q:List V->Hp->Prop),Inv X pins σ H s->t σ H Q->wpAny (model X.prog X.w) X.A (spliced (backTo pos (starEach es X.env))) (AP X pins σ Q) X.xe s
def PS(X:Cx)(st:Stmt)(t:TS):Prop :=
 ∀(pins:List (Addr×Obj)) (s:Shared) (σ:St) (H:Hp) (D:Ends),Inv X pins σ H s->t D σ H->wpAny (model X.prog X.w) X.A (exec st X.env) (SP X pins D) X.xe s
def PSs(X:Cx)(st:List Stmt)(t:TS):Prop :=
 ∀(pins:List (Addr×Obj)) (s:Shared) (σ:St) (H:Hp) (D:Ends),Inv X pins σ H s->t D σ H->wpAny (model X.prog X.w) X.A (execs st X.env) (SP X pins D) X.xe s
theorem thn{α:Type}{t:Sem α}{Q Q':α->Shared->Prop}{M:Model}{A:Around}{E:Value->Shared->Prop}{s:Shared}(h:wpAny M A t Q E s)(hQ:∀a s,Q a s->Q' a s):wpAny M A t Q' E s:=wpAny_mono h hQ λ_ _ x=>x
section
variable {X:Cx}
def Y0(i:Nat):TE:=λσ H Q=>∃v,σ[i]?=some (some v)/\Q v H
def tC(v:V):TE:=λ_ H Q=>Q v H
theorem a8U{i:Nat}{x:Str}{pos:Pos}(hN:X.N[i]?=some x)(hv:Vis X.env.scope x)(hd:(x==("__debug__" : Str))=false:=by decide)(hcd:(x==("__classdict__" : Str))=false:=by decide):PE X (.Name x pos) (Y0 i):=by
 intro pins s σ H Q I h;obtain⟨v,e,h⟩:=h;obtain⟨m,hn,hl⟩:=I.loc;obtain⟨u,r,l⟩:=hl i x v hN e hv;have fin:EP X pins σ Q u s:=⟨v,H,I,r,h⟩;rcases l with⟨hk,hm⟩|⟨hk,c,hc,hcell⟩
 .exact wpAny_Name (wpAny_loadName_local I.ok.kind hk hn hm fin) hd
 .rcases hk with hk|hk
  .exact wpAny_Name (wpAny_loadName_cell I.ok.kind hk hc hcell fin) hd
  .exact wpAny_Name (wpAny_loadName_free I.ok.kind hk hc hcell fin hcd) hd
theorem b3M{i j pos}:PE X (.Constant (.int i) j pos) (tC (.int i)):=λ_ _ _ H _ I h=>wpAny_Constant_int ⟨.int i,H,I.tok _,⟨_,rfl⟩,h⟩
theorem b5n{b j pos}:PE X (.Constant (.bool b) j pos) (tC (.bl b)):=λ_ _ _ H _ I h=>Constant_bool ⟨.bl b,H,I,rfl,h⟩
theorem b3K{j pos}:PE X (.Constant .none j pos) (tC .non):=λ_ _ _ H _ I h=>Constant_none ⟨.non,H,I,rfl,h⟩
theorem b3H{x j pos}:PE X (.Constant (.str x) j pos) (tC (.str x)):=λ_ _ _ H _ I h=>Calls.Constant_str ⟨.str x,H,I.tok _,⟨_,rfl⟩,h⟩
def Gl(X:Cx)(x:Str):Prop:=X.env.kindOf x=some .globalImplicit
theorem V1{E:Value->Shared->Prop}{pins:List (Addr×Obj)}{s:Shared}{σ:St}{H:Hp}{x:Str}{u:Value}{pos:Pos}{Q:Value->Shared->Prop}(I:Inv X pins σ H s)(hg:Gl X x)(hm:X.mg x=some u)(h:Q u s)
  (hd:(x==("__debug__" : Str))=false:=by decide):wpAny (model X.prog X.w) X.A (eval (.Name x pos) X.env) Q E s :=
 Calls.Name_function_global I.ok.kind hg (Calls.loadGlobal_global (by rw[I.ok.glob];exact I.mod.glob.keeps I.bk) hm h) hd
theorem O7{E:Value->Shared->Prop}{pins:List (Addr×Obj)}{s:Shared}{σ:St}{H:Hp}{x:Str}{u:Value}{pos:Pos}{Q:Value->Shared->Prop}(I:Inv X pins σ H s)(hg:Gl X x)(hm:X.mg x=none)(hv:bootBuiltins x=some u)(h:Q u s)
  (hn:x≠"__name__":=by decide) (hd:(x==("__debug__" : Str))=false:=by decide):wpAny (model X.prog X.w) X.A (eval (.Name x pos) X.env) Q E s:=by
 obtain⟨mb,h1,h2⟩:=I.mod.blt;exact Calls.Name_function_global I.ok.kind hg (Calls.loadGlobal_builtin (by rw[I.ok.glob];exact I.mod.glob.keeps I.bk) hm (by rw[I.ok.blt];exact h1.keeps I.bk) ((h2 x hn).trans hv) h) hd
theorem b1m{x:Str}{v:V}{u:Value}{pos:Pos}(hg:Gl X x)(hm:X.mg x=some u)(r:RelV v u)(hd:(x==("__debug__" : Str))=false:=by decide):PE X (.Name x pos) (tC v) :=
 λ_ _ _ H _ I h=>V1 I hg hm ⟨v,H,I,r,h⟩ hd
theorem b1p{x:Str}{v:V}{u:Value}{pos:Pos}(hg:Gl X x)(hm:X.mg x=none)(hv:bootBuiltins x=some u)(r:RelV v u)(hn:x≠"__name__":=by decide)(hd:(x==("__debug__" : Str))=false:=by decide):PE X (.Name x pos) (tC v) :=
 λ_ _ _ H _ I h=>O7 I hg hm hv ⟨v,H,I,r,h⟩ hn hd
variable {a b:Expr}{ta tb:TE}{pos:Pos}
def PC(X:Cx)(op:CmpOp)(a b:Expr)(t:TE):Prop :=
 ∀(pins:List (Addr×Obj)) (s:Shared) (σ:St) (H:Hp) (Q:VK),Inv X pins σ H s->t σ H Q ->
  wpAny (model X.prog X.w) X.A (eval a X.env) (λv s₁=>wpAny (model X.prog X.w) X.A (eval b X.env) (λu s₂=>wpAny (model X.prog X.w) X.A (compareOp op v u) (EP X pins σ Q) X.xe s₂) X.xe s₁) X.xe s
def tB(t:TE):TT:=λσ H Q=>t σ H λx H1=>∃c,x=.bl c/\Q c H1
theorem b3O{op:CmpOp}{t:TE}(h:PC X op a b t)(h1:behindInMarks op b=false:=by first|exact nobehind _ (by decide) (by decide)|rfl):PE X (.Compare a [op] [b] pos) t:=λpins s σ H Q I hw=>wpAny_Compare1 (h pins s σ H Q I hw) h1
theorem b3w{op:CmpOp}{t:TE}(h:PC X op a b t)(h1:behindInMarks op b=false:=by first|exact nobehind _ (by decide) (by decide)|rfl):PT X (.Compare a [op] [b] pos) (tB t):=by
 intro pins s σ H Q I hw;refine wpAny_isTrue_Compare1 (thn (h pins s σ H _ I hw) λv s1 h1=>thn h1 λu s2 h2=>thn h2 λc s3 ⟨x,H1,I1,r1,q1⟩=>?_) h1;obtain⟨d,rfl,q⟩:=q1;cases r1;exact wpAny_truthy_bool ⟨H1,I1,q⟩
variable {tA tB':TT}{rest:List Expr}
def b3k(t u:TT):TT:=λσ H Q=>t σ H λc H1=>if c=true then u σ H1 Q else Q false H1
def tOr(t u:TT):TT:=λσ H Q=>t σ H λc H1=>if c=true then Q true H1 else u σ H1 Q
def b3g(t:TT):TT:=λσ H Q=>t σ H λc H1=>Q (!c) H1
theorem pw_and1(ha:PT X a tA):PW X (.BoolOp .And [a] pos) tA:=by
 intro wh pins s σ H Q I h;refine isTrue_and (thn (ha pins s σ H Q I h) λc s1 e=>?_);cases c with
 |true=>exact isTrue_and_nil e
 |false=>exact e
theorem pw_or1(ha:PT X a tA):PW X (.BoolOp .Or [a] pos) tA:=by
 intro wh pins s σ H Q I h;refine isTrue_or (thn (ha pins s σ H Q I h) λc s1 e=>?_);cases c with
 |false=>exact isTrue_or_nil e
 |true=>exact e
theorem pw_and(ha:PT X a tA)(hb:PW X (.BoolOp .And (b::rest) pos) tB'):PW X (.BoolOp .And (a::b::rest) pos) (b3k tA tB'):=by
 intro wh pins s σ H Q I h;refine isTrue_and (thn (ha pins s σ H _ I h) λc s1 ⟨H1,I1,q1⟩=>?_);cases c with
 |true=>exact hb wh pins s1 σ H1 Q I1 q1
 |false=>exact⟨H1,I1,q1⟩
theorem pw_or(ha:PT X a tA)(hb:PW X (.BoolOp .Or (b::rest) pos) tB'):PW X (.BoolOp .Or (a::b::rest) pos) (tOr tA tB'):=by
 intro wh pins s σ H Q I h;refine isTrue_or (thn (ha pins s σ H _ I h) λc s1 ⟨H1,I1,q1⟩=>?_);cases c with
 |true=>exact⟨H1,I1,q1⟩
 |false=>exact hb wh pins s1 σ H1 Q I1 q1
theorem b3v(ha:PT X a tA):PT X (.UnaryOp .Not a pos) (b3g tA):=by
 intro pins s σ H Q I h;exact isTrue_not (ha pins s σ H (λc H1=>Q (!c) H1) I h)
def a8l(ta tb:TE):TE:=λσ H Q=>ta σ H λx H1=>∃c,x=.bl c/\if c=true then tb σ H1 Q else Q (.bl false) H1
def b3f(ta tb:TE):TE:=λσ H Q=>ta σ H λx H1=>∃c,x=.bl c/\if c=true then Q (.bl true) H1 else tb σ H1 Q
def a8h(ta:TE):TE:=λσ H Q=>ta σ H λx H1=>∃c,x=.bl c/\Q (.bl (!c)) H1
theorem b3I{op}{t:TE}(h:PE X a t):PE X (.BoolOp op [a] pos) t:=λpins s σ H Q I hw=>BoolOp_one (h pins s σ H Q I hw)
theorem b3Q(ha:PE X a ta)(hb:PE X (.BoolOp .And (b::rest) pos) tb):PE X (.BoolOp .And (a::b::rest) pos) (a8l ta tb):=by
 intro pins s σ H Q I h;refine BoolOp_and (thn (ha pins s σ H _ I h) λv s1 ⟨x,H1,I1,r1,q1⟩=>?_);obtain⟨c,rfl,q1⟩:=q1;cases r1;refine wpAny_truthy_bool ?_;cases c with
 |true=>exact hb pins s1 σ H1 Q I1 q1
 |false=>exact⟨.bl false,H1,I1,rfl,q1⟩
theorem b5l(ha:PE X a ta)(hb:PE X (.BoolOp .Or (b::rest) pos) tb):PE X (.BoolOp .Or (a::b::rest) pos) (b3f ta tb):=by
 intro pins s σ H Q I h;refine BoolOp_or (thn (ha pins s σ H _ I h) λv s1 ⟨x,H1,I1,r1,q1⟩=>?_);obtain⟨c,rfl,q1⟩:=q1;cases r1;refine wpAny_truthy_bool ?_;cases c with
 |false=>exact hb pins s1 σ H1 Q I1 q1
 |true=>exact⟨.bl true,H1,I1,rfl,q1⟩
theorem b3J(ha:PE X a ta):PE X (.UnaryOp .Not a pos) (a8h ta):=by
 intro pins s σ H Q I h;refine UnaryOp_ (thn (ha pins s σ H _ I h) λv s1 ⟨x,H1,I1,r1,q1⟩=>?_);obtain⟨c,rfl,q1⟩:=q1;cases r1;exact not_of (wpAny_truthy_bool ⟨.bl (!c),H1,I1,rfl,q1⟩)
def tIf(t:TT)(ta tb:TE):TE:=λσ H Q=>t σ H λc H1=>if c=true then ta σ H1 Q else tb σ H1 Q
end
def SqL(K:PySem.W.Frag)(H:Hp)(a:Addr)(xs:List V):Prop :=
 Rd H a (.lst xs) ∨
  ∃(o:Obj) (its:Array Value) (n:Nat),K.lookup a=some o/\o.cls=.type "list"/\o.dict=none/\o.data=.seq its n/\its.size<=sizeLine/\Vals xs its.toList
def SqT(K:PySem.W.Frag)(H:Hp)(a:Addr)(xs:List V):Prop :=
 Rd H a (.tup xs) ∨
  ∃(o:Obj) (its:Array Value) (n:Nat),K.lookup a=some o/\o.cls=.type "tuple"/\o.data=.seq its n/\its.size<=sizeLine/\Vals xs its.toList
noncomputable def b5S:Value->Option V
 |.none=>some .non
 |.bool b=>some (.bl b)
 |.int i _=>some (.int i)
 |.str x _=>some (.str x)
 |.bytes b _=>some (.byt b)
 |.float b _=>some (.flt b)
 |.ref a=>some (.ref a)
 |.type n=>some (.ty n)
 |_=>none
theorem RelV.abs{x:V}{u:Value}(r:RelV x u):b5S u=some x:=by
 cases x with
 |non=>cases r;rfl
 |bl _=>cases r;rfl
 |int _=>obtain⟨t,rfl⟩:=r;rfl
 |str _=>obtain⟨t,rfl⟩:=r;rfl
 |byt _=>obtain⟨t,rfl⟩:=r;rfl
 |flt _=>obtain⟨t,rfl⟩:=r;rfl
 |ref _=>cases r;rfl
 |ty _=>cases r;rfl
theorem RelV.inj{x y:V}{u:Value}(r:RelV x u)(q:RelV y u):x=y:=Option.some.inj (r.abs.symm.trans q.abs)
theorem Vals.inj:∀{xs ys:List V}{us:List Value},Vals xs us->Vals ys us->xs=ys
 |_,_,_,.nil,.nil=>rfl
 |_,_,_,.cons r t,.cons r' t'=>by rw[r.inj r',Vals.inj t t']
section
variable {X:Cx}{pins:List (Addr×Obj)}{σ:St}{H:Hp}{s:Shared}{a:Addr}{xs ys:List V}
theorem SqL.of{K:PySem.W.Frag}(h:H a=some (.lst xs)):SqL K H a xs:=.inl (.inl h)
theorem SqT.of{K:PySem.W.Frag}(h:H a=some (.tup xs)):SqT K H a xs:=.inl (.inl h)
theorem Inv.list(I:Inv X pins σ H s)(h:SqL X.K H a xs):∃its:List Value,Vals xs its/\PlainL s.heap a its.toArray/\xs.length<=sizeLine:=by
 rcases h with h|⟨o,its,n,hk,hc,hd,hs,hz,r⟩
 .obtain⟨z,its,n,r,e⟩:=h.ok I.hok;exact⟨its,r,⟨_,n,e,rfl,rfl,rfl⟩,z⟩
 .refine⟨its.toList,r,⟨o,n,I.kIn a o hk,hc,hd,by simpa using hs⟩,?_⟩;have e:=r.length;simp only[Array.length_toList]at e;omega
theorem Inv.tuple(I:Inv X pins σ H s)(h:SqT X.K H a xs):∃its:List Value,Vals xs its/\IsTup s.heap a its.toArray/\xs.length<=sizeLine:=by
 rcases h with h|⟨o,its,n,hk,hc,hs,hz,r⟩
 .obtain⟨z,its,r,p⟩:=h.ok I.hok;exact⟨its,r,p,z⟩
 .refine⟨its.toList,r,⟨o,I.kIn a o hk,hc,n,by simpa using hs⟩,?_⟩;have e:=r.length;simp only[Array.length_toList]at e;omega
theorem Inv.list_inj(I:Inv X pins σ H s)(h:SqL X.K H a xs)(h':SqL X.K H a ys):xs=ys:=by
 obtain⟨its,r,⟨o,n,e,_,_,d⟩,_⟩:=I.list h;obtain⟨its',r',⟨o',n',e',_,_,d'⟩,_⟩:=I.list h';rw[e]at e';cases e';rw[d]at d';injection d' with d1 _
 have:its=its':=by simpa using congrArg Array.toList d1
 subst this;exact r.inj r'
theorem Inv.tuple_inj(I:Inv X pins σ H s)(h:SqT X.K H a xs)(h':SqT X.K H a ys):xs=ys:=by
 obtain⟨its,r,⟨o,e,_,n,d⟩,_⟩:=I.tuple h;obtain⟨its',r',⟨o',e',_,n',d'⟩,_⟩:=I.tuple h';rw[e]at e';cases e';rw[d]at d';injection d' with d1 _
 have:its=its':=by simpa using congrArg Array.toList d1
 subst this;exact r.inj r'
end
noncomputable abbrev Cx.wish(X:Cx)(E:Value->Shared->Prop):Cx:={X with xe:=E}
noncomputable abbrev Cx.nox(X:Cx):Cx:=X.wish λ_ _=>False
theorem Cx.Ok.wish{X:Cx}(ok:X.Ok)(E:Value->Shared->Prop):(X.wish E).Ok :=
 ⟨ok.mod,ok.kind,ok.glob,ok.blt,ok.above,ok.inj,ok.has,ok.cab,ok.hd,ok.frames,ok.stk,ok.exf,ok.bs,ok.bsz,ok.noex,ok.exfs,ok.funs,ok.frf⟩
theorem Cx.Ok.unwish{X:Cx}{E:Value->Shared->Prop}(ok:(X.wish E).Ok):X.Ok :=
 ⟨ok.mod,ok.kind,ok.glob,ok.blt,ok.above,ok.inj,ok.has,ok.cab,ok.hd,ok.frames,ok.stk,ok.exf,ok.bs,ok.bsz,ok.noex,ok.exfs,ok.funs,ok.frf⟩
section
variable {X:Cx}{pins:List (Addr×Obj)}{σ:St}{H:Hp}{s:Shared}{E:Value->Shared->Prop}
theorem Inv.wish(I:Inv X pins σ H s)(E:Value->Shared->Prop):Inv (X.wish E) pins σ H s:=⟨I.ok.wish E,I.os,I.bare,I.base,I.loc,I.cell,I.free,I.freeC,I.pin,I.hok,I.len⟩
theorem Inv.unwish(I:Inv (X.wish E) pins σ H s):Inv X pins σ H s:=⟨I.ok.unwish,I.os,I.bare,I.base,I.loc,I.cell,I.free,I.freeC,I.pin,I.hok,I.len⟩
theorem SP.unwish{D:Ends}{f:Flow}{s':Shared}(h:SP (X.wish E) pins D f s'):SP X pins D f s':=by
 cases f with
 |next=>obtain⟨σ',H',I,q⟩:=h;exact⟨σ',H',I.unwish,q⟩
 |brk=>obtain⟨σ',H',I,q⟩:=h;exact⟨σ',H',I.unwish,q⟩
 |cont=>obtain⟨σ',H',I,q⟩:=h;exact⟨σ',H',I.unwish,q⟩
 |ret u=>obtain⟨v,σ',H',I,r,q⟩:=h;exact⟨v,σ',H',I.unwish,r,q⟩
theorem PSs.nox{st:List Stmt}{t:TS}(h:PSs X.nox st t):PSs X st t:=λpins s σ H D I hw =>
 wpAny_mono (h pins s σ H D (I.wish _) hw) (λ_ _ q=>q.unwish) λ_ _ z=>False.elim z
end
section
variable {X:Cx}{st:Stmt}{rest:List Stmt}{t u:TS}{e:Expr}{te:TE}{pos:Pos}
def a8i:TS:=λD σ H=>D.nx σ H
def b0C(t u:TS):TS:=λD σ H=>t {D with nx:=u D} σ H
theorem b0T:PSs X [] a8i:=λ_ _ σ H _ I h=>wpAny_execs_nil ⟨σ,H,I,h⟩
theorem a8M(h1:PS X st t)(h2:PSs X rest u):PSs X (st::rest) (b0C t u):=by
 intro pins s σ H D I h;refine wpAny_execs_cons (thn (h1 pins s σ H {D with nx:=u D} I h) λf s1 q=>?_);cases f with
 |next =>
  obtain⟨σ',H',I',q⟩:=q;exact h2 pins s1 σ' H' D I' q
 |ret v=>exact q
 |brk=>exact q
 |cont=>exact q
theorem b0S(h1:PS X st t):PSs X [st] t:=by
 intro pins s σ H D I h;refine wpAny_execs_cons (thn (h1 pins s σ H D I h) λf s1 q=>?_);cases f with
 |next=>exact wpAny_execs_nil q
 |ret v=>exact q
 |brk=>exact q
 |cont=>exact q
theorem Inv.quiet{pins:List (Addr×Obj)}{σ:St}{H:Hp}{s:Shared}(I:Inv X pins σ H s):interactive X.env=false:=by simp[interactive,I.ok.kind]
def a8k(te:TE):TS:=λD σ H=>te σ H λ_ H1=>D.nx σ H1
theorem b0X(he:PE X e te)(hs:swapsWith e none pos.line X.env=pure false:=by rfl):PS X (.Expr e pos) (a8k te):=by
 intro pins s σ H D I h;exact wpAny_Expr_any (thn (he pins s σ H _ I h) λv s1 ⟨x,H1,I1,r1,q1⟩=>⟨σ,H1,I1,q1⟩) I.quiet hs
def b3e(te:TE):TS:=λD σ H=>te σ H D.rt
theorem b3y(he:PE X e te):PS X (.Return (some e) pos) (b3e te):=by
 intro pins s σ H D I h;exact wpAny_Return_some (thn (he pins s σ H _ I h) λv s1 ⟨x,H1,I1,r1,q1⟩=>⟨x,σ,H1,I1,r1,q1⟩)
def a8f:TS:=λD _ H=>D.rt .non H
theorem b0V:PS X (.Return none pos) a8f:=λ_ _ σ H _ I h=>wpAny_Return_none ⟨.non,σ,H,I,rfl,h⟩
def b3i(c:TT)(t u:TS):TS:=λD σ H=>c σ H λb H1=>if b=true then t D σ H1 else u D σ H1
theorem b5j{c:Expr}{a b:List Stmt}{tc:TT}(hc:PT X c tc)(ha:PSs X a t)(hb:PSs X b u):PS X (.If c a b pos) (b3i tc t u):=by
 intro pins s σ H D I h;refine wpAny_If (thn (hc pins s σ H _ I h) λd s1 ⟨H1,I1,q1⟩=>?_);cases d with
 |true=>exact ha pins s1 σ H1 D I1 q1
 |false=>exact hb pins s1 σ H1 D I1 q1
end
abbrev TG:=V->St->Hp->(St->Hp->Prop)->Prop
abbrev TGs:=List V->St->Hp->(St->Hp->Prop)->Prop
def PG(X:Cx)(target:Expr)(t:TG):Prop :=
 ∀(pins:List (Addr×Obj)) (s:Shared) (σ:St) (H:Hp) (v:V) (u:Value) (Q:St->Hp->Prop),Inv X pins σ H s->RelV v u->t v σ H Q ->
  wpAny (model X.prog X.w) X.A (assign target X.env u) (λ_ s'=>∃σ' H',Inv X pins σ' H' s'/\Q σ' H') X.xe s
def PGs(X:Cx)(ts:List Expr)(t:TGs):Prop :=
 ∀(pins:List (Addr×Obj)) (s:Shared) (σ:St) (H:Hp) (vs:List V) (us:List Value) (Q:St->Hp->Prop),Inv X pins σ H s->Vals vs us->t vs σ H Q ->
  wpAny (model X.prog X.w) X.A (assignInOrder ((assignEach ts X.env).map (·.2)) us) (λ_ s'=>∃σ' H',Inv X pins σ' H' s'/\Q σ' H') X.xe s
abbrev b4M:=V->V->V->Hp->(Hp->Prop)->Prop
def b5F(X:Cx)(t:b4M):Prop :=
 ∀(pins:List (Addr×Obj)) (s:Shared) (σ:St) (H:Hp) (o i v:V) (ov iv u:Value) (Q:Hp->Prop),Inv X pins σ H s->RelV o ov->RelV i iv->RelV v u->t o i v H Q ->
  wpAny (model X.prog X.w) X.A (setItem ov iv u) (λ_ s'=>∃H',Inv X pins σ H' s'/\Q H') X.xe s
abbrev TIp:=V->V->Hp->VK->Prop
section
variable {X:Cx}{pos:Pos}
def A8(i:Nat):TG:=λv σ H Q=>Q (σ.set i (some v)) H
theorem b1j{i:Nat}{x:Str}(hN:X.N.Nodup)(hi:X.N[i]?=some x)(hx:Loc X.env.scope x)(hf:X.fn x=true∨X.env.scope.names.lookup x=some .local:=by first|exact .inl rfl|exact .inr rfl|assumption):PG X (.Name x pos) (A8 i):=by
 intro pins s σ H v u Q I r h;exact wpAny_assign_Name (Y7 I hN hi hx r (λs' I'=>⟨_,H,I',h⟩) hf)
def b1V:TGs:=λvs σ H Q=>vs=[]/\Q σ H
def a2x(t:TG)(u:TGs):TGs:=λvs σ H Q=>∃v r,vs=v::r/\t v σ H λσ' H'=>u r σ' H' Q
theorem b1h:PGs X [] b1V:=by
 intro pins s σ H vs us Q I r h;obtain⟨e,h⟩:=h;subst e;cases r;exact assignInOrder_nil ⟨σ,H,I,h⟩
theorem a8T{e:Expr}{es:List Expr}{t:TG}{u:TGs}(h1:PG X e t)(h2:PGs X es u)
  (hs:(assignEach (e::es) X.env).map (·.2)=assign e X.env::(assignEach es X.env).map (·.2):=by rfl):PGs X (e::es) (a2x t u):=by
 intro pins s σ H vs us Q I r h;obtain⟨v,vr,e1,h⟩:=h;subst e1;cases r with
 |cons r rr =>
  rw[hs];refine assignInOrder_cons (thn (h1 pins s σ H _ _ _ I r h) λ_ s1 ⟨σ1,H1,I1,q1⟩=>?_);exact h2 pins s1 σ1 H1 _ _ Q I1 rr q1
def a9Q(K:PySem.W.Frag)(n:Nat)(t:TGs):TG:=λv σ H Q=>∃a xs,v=.ref a/\SqT K H a xs/\xs.length=n/\t xs σ H Q
theorem b3E{es:List Expr}{k:Nat}{t:TGs}{n:Nat}(hc:X.calm=true)(h:PGs X es t)
  (hn:(assignEach es X.env).length=n:=by rfl) (hst:(assignEach es X.env).findIdx? (·.1)=none:=by rfl):PG X (.Tuple es k pos) (a9Q X.K n t):=by
 intro pins s σ H v u Q I r hw;obtain⟨a,xs,e1,hq,hl,hw⟩:=hw;subst e1;cases r;obtain⟨its,rv,ht,hz⟩:=I.tuple hq;refine assign_Tuple_tuple (I.ok.hd hc) ht (by simp[hn,<-hl,rv.length]) hst λh' hx=>?_;have I1:Inv X pins σ H {s with heap:=h'}:=I.kept (t':=s.toks) λb o e=>hx b o (Nat.ne_of_lt (Heap.lt_size e)) e;exact h pins _ σ H xs _ Q I1 (by simpa using rv) hw
def b5C(to ti:TE)(t:b4M):TG:=λv σ H Q=>to σ H λo H1=>ti σ H1 λi H2=>t o i v H2 λH3=>Q σ H3
theorem b3F{o i:Expr}{to ti:TE}{t:b4M}(ho:PE X o to)(hi:PE X i ti)(hs:b5F X t)
  (ha:∀v,assign (.Subscript o i pos) X.env v=(do
   let ov <-holding [v] (eval o X.env)
   let iv <-holding [v,ov] (eval i X.env)
   standAt pos
   holding [v,ov,iv] (setItem ov iv v)
   release [v,ov,iv] []):=by intro _;rfl):PG X (.Subscript o i pos) (b5C to ti t):=by
 intro pins s σ H v u Q I r h;rw[ha];refine wpAny_bind (wpAny_holding (thn (ho pins s σ H _ I h) λov s1 ⟨x,H1,I1,r1,q1⟩=>?_));refine wpAny_bind (wpAny_holding (thn (hi pins s1 σ H1 _ I1 q1) λiv s2 ⟨y,H2,I2,r2,q2⟩=>?_));refine wpAny_bind (wpAny_standAt (wpAny_bind (wpAny_holding (thn (hs pins s2 σ H2 x y v ov iv u _ I2 r1 r2 r q2) λ_ s3 ⟨H3,I3,q3⟩=>?_))));exact wpAny_release ⟨σ,H3,I3,q3⟩
def a4L(te:TE)(g:TG):TS:=λD σ H=>te σ H λx H1=>g x σ H1 D.nx
theorem b3B{tg e:Expr}{te:TE}{g:TG}(he:PE X e te)(hg:PG X tg g)(hs:swapsWithSole [tg] e pos.line X.env=pure false:=by rfl)(hw:swappedStores [tg] e X.env=pure none:=by rfl)
  (h1:(assignEach [tg] X.env).map (·.2)=[assign tg X.env]:=by rfl):PS X (.Assign [tg] e pos) (a4L te g):=by
 intro pins s σ H D I h;refine wpAny_Assign_stores (thn (he pins s σ H _ I h) λv s1 ⟨x,H1,I1,r1,q1⟩=>?_) hs hw;rw[h1];exact thn (hg pins s1 σ H1 x v _ I1 r1 q1) λ_ s2 q=>q
theorem b3x{i:Nat}{x:Str}{e:Expr}{te:TE}{pos':Pos}(hN:X.N.Nodup)(hi:X.N[i]?=some x)(hx:Loc X.env.scope x)(he:PE X e te)(hs:swapsWith e (some (.Name x pos')) pos.line X.env=pure false:=by rfl)(hf:X.fn x=true∨X.env.scope.names.lookup x=some .local:=by first|exact .inl rfl|exact .inr rfl|assumption) :
  PS X (.Assign [.Name x pos'] e pos) (a4L te (A8 i)):=by
 intro pins s σ H D I h;refine wpAny_Assign_Name (thn (he pins s σ H _ I h) λv s1 ⟨y,H1,I1,r1,q1⟩=>?_) hs;exact Y7 I1 hN hi hx r1 (λs2 I2=>⟨_,H1,I2,q1⟩) hf
def ipI(f:Int->Int->Int):TIp:=λx y H Q=>∃i j,x=.int i/\y=.int j/\Q (.int (f i j)) H
def a8d(c:TT)(tb:TS):TS:=λD σ H=>∃W:Nat->St->Hp->Prop,(∃m,W m σ H)/\∀m σ H,W m σ H ->
 c σ H λb H1=>if b=true then ∃N:St->Hp->Prop,(∀σ' H',N σ' H'->∃m',m'<m/\W m' σ' H')/\tb {D with nx:=N,ct:=N,bk:=D.nx} σ H1 else D.nx σ H1
theorem a8N{c:Expr}{body:List Stmt}{tc:TT}{tb:TS}(hp:PassesOwn (model X.prog X.w) X.A X.env X.xe)(hc:PT X c tc)(hb:PSs X body tb):PS X (.While c body [] pos) (a8d tc tb):=by
 intro pins s σ H D I h;obtain⟨W,⟨m0,w0⟩,turn⟩:=h;refine wpAny_While (codeAny_whileLoop (λn s'=>∃σ' H',Inv X pins σ' H' s'/\W n σ' H') ?_ m0 ⟨σ,H,I,w0⟩);rintro n s1 ⟨σ1,H1,I1,w1⟩;refine wpAny_passesOwn hp (thn (hc pins s1 σ1 H1 _ I1 (turn n σ1 H1 w1)) λb s2 ⟨H2,I2,q2⟩=>?_);cases b with
 |true =>
  obtain⟨N,hN,q2⟩:=q2;rw[if_pos rfl];refine wpAny_passesOwn hp (thn (hb pins s2 σ1 H2 _ I2 q2) λf s3 q3=>?_);cases f with
  |next =>
   obtain⟨σ3,H3,I3,n3⟩:=q3;obtain⟨m',hm,w3⟩:=hN σ3 H3 n3;exact⟨m',hm,σ3,H3,I3,w3⟩
  |cont =>
   obtain⟨σ3,H3,I3,n3⟩:=q3;obtain⟨m',hm,w3⟩:=hN σ3 H3 n3;exact⟨m',hm,σ3,H3,I3,w3⟩
  |brk=>exact q3
  |ret v=>exact q3
 |false =>
  rw[if_neg Bool.false_ne_true];exact wpAny_execs_nil ⟨σ1,H2,I2,q2⟩
end
structure It where
 go:Nat->Hp->Prop
 yld:Nat->Hp->V->Hp->Prop
 stop:Nat->Hp->Prop
def a0x(X:Cx)(pins:List (Addr×Obj))(H:Hp)(b:Addr):Prop :=
 H b=none/\b≠X.env.locals/\b∉X.fs/\(b∈X.ex∨X.s₀.heap.objs.size<=b)/\(∀x c,X.env.cells.lookup x=some c->c≠b)/\∀p∈X.pn++pins,p.1≠b
theorem Inv.fpOk{X:Cx}{pins:List (Addr×Obj)}{σ:St}{H H':Hp}{s:Shared}{b:Addr}(I:Inv X pins σ H s)(hb:s.heap.objs.size<=b)(hn:H' b=none):a0x X pins H' b:=by
 refine⟨hn,Nat.ne_of_gt (Nat.lt_of_lt_of_le I.lt hb),I.nofs hb,.inr (Nat.le_trans I.sz hb),λx c e z=>?_,λp hp z=>?_⟩
 .obtain⟨v,q⟩:=I.cell x c e;exact absurd (Nat.lt_of_lt_of_le q.lt (by rw[z];exact hb)) (Nat.lt_irrefl _)
 .exact absurd (Nat.lt_of_lt_of_le (Heap.lt_size (I.pin p hp).1) (by rw[z];exact hb)) (Nat.lt_irrefl _)
structure Turn(P:Program)(w:World)(K:PySem.W.Frag)(tg:Expr)(J:It)(fp:List Addr)(it:Addr)(tn:Nat->Heap->Prop):Prop where
 mem:it∈fp
 obj:∀i h,tn i h->∀b∈fp,∃o,h.get? b=some o/\∀v,o.data≠.cell v
 keep:∀i h h',tn i h->(∀b∈fp,∀o,h.get? b=some o->h'.get? b=some o)->tn i h'
 item:∀(X:Cx),X.prog=P->X.w=w->X.K=K->X.calm=true->∀(i:Nat) (pins:List (Addr×Obj)) (s:Shared) (σ:St) (H:Hp) (E:Value->Shared->Prop),Inv X pins σ H s->(∀b∈fp,a0x X pins H b)->tn i s.heap->J.go i H ->
  wpAny (model P w) X.A (pyNext (.ref it)) (λr s1=>∃u,r=some u /\
   wpAny (model P w) X.A (letOwnedTupleGo tg (.ref it) u) (λ_ s2=>∃x H',Inv X pins σ H' s2/\RelV x u/\J.yld i H x H'/\tn (i+1) s2.heap/\∀b∈fp,H' b=none) E s1) E s
 done:∀(X:Cx),X.prog=P->X.w=w->X.K=K->X.calm=true->∀(i:Nat) (pins:List (Addr×Obj)) (s:Shared) (σ:St) (H:Hp) (E:Value->Shared->Prop),Inv X pins σ H s->(∀b∈fp,a0x X pins H b)->tn i s.heap->J.stop i H ->
  wpAny (model P w) X.A (pyNext (.ref it)) (λr s1=>r=none/\Inv X pins σ H s1) E s
 self:∀(A:Around) (i:Nat) (s:Shared) (Q:Value->Shared->Prop) (E:Value->Shared->Prop),tn i s.heap->Q (.ref it) s->wpAny (model P w) A (pyIter (.ref it)) Q E s
abbrev TI:=St->Hp->(It->Hp->Prop)->Prop
def PIE(X:Cx)(pins:List (Addr×Obj))(σ:St)(tg:Expr)(R:It->Hp->Prop)(itv:Value)(s2:Shared):Prop :=
 ∃(it:Addr) (fp:List Addr) (tn:Nat->Heap->Prop) (J:It) (H':Hp),itv=.ref it/\Inv X pins σ H' s2/\Turn X.prog X.w X.K tg J fp it tn/\tn 0 s2.heap/\(∀b∈fp,a0x X pins H' b)/\R J H'
def PI(X:Cx)(tg iter:Expr)(wi:TI):Prop :=
 ∀(pins:List (Addr×Obj)) (s:Shared) (σ:St) (H:Hp) (R:It->Hp->Prop),Inv X pins σ H s->wi σ H R ->
  wpAny (model X.prog X.w) X.A (eval iter X.env) (λv s1=>wpAny (model X.prog X.w) X.A (pyIter v) (PIE X pins σ tg R) X.xe s1) X.xe s
theorem a9O{M:Model}{A:Around}{E:Value->Shared->Prop}{s:Shared}{tg:Expr}{it:Addr}{u:Value}{o:Obj}{n:String}{vs:Array Value}{Q:Unit->Shared->Prop}(ho:s.heap.get? it=some o)(hc:o.cls=.type n)(hd:o.data=.fields vs)
  (hn:["enumerate","zip","dict_itemiterator","dict_reverseitemiterator","odict_iterator","itertools.zip_longest","itertools.pairwise"].contains n=false) (hQ:Q () s):wpAny M A (letOwnedTupleGo tg (.ref it) u) Q E s:=by
 unfold letOwnedTupleGo;cases tg<;>first
  |exact wpAny_pure hQ
  | (cases u <;> first
    |exact wpAny_pure hQ
    | (refine wpAny_bind (wpAny_load ho ?_)
       rw[hc,hd];show wpAny M A (if (["enumerate","zip","dict_itemiterator","dict_reverseitemiterator","odict_iterator","itertools.zip_longest","itertools.pairwise"].contains n && vs[0]? == some (rawInt _))=true then _ else _) Q E s;rw[if_neg (by intro h;rw[hn,Bool.false_and]at h;cases h)];exact wpAny_pure hQ))
noncomputable def Itl(K:PySem.W.Frag)(a:Addr):It :=
 ⟨λi H=>∃xs x,SqL K H a xs/\xs[i]?=some x,λi H x H'=>H'=H/\∀xs,SqL K H a xs->xs[i]?=some x,λi H=>∃xs,SqL K H a xs/\xs.length<=i⟩
noncomputable def Itt(K:PySem.W.Frag)(a:Addr):It :=
 ⟨λi H=>∃xs x,SqT K H a xs/\xs[i]?=some x,λi H x H'=>H'=H/\∀xs,SqT K H a xs->xs[i]?=some x,λi H=>∃xs,SqT K H a xs/\xs.length<=i⟩
noncomputable def Itr(lo:Int)(n:Nat):It:=⟨λi _=>i<n,λi H x H'=>H'=H/\x=.int (lo+i),λi _=>n<=i⟩
theorem a6F{P:Program}{w:World}{K:PySem.W.Frag}{tg:Expr}(a it:Addr):Turn P w K tg (Itl K a) [it] it (λi h=>h.IsListIter it a i) where
 mem:=by simp
 obj:=λi h st b hb=>by
  have e:b=it:=by simpa using hb
  subst e;obtain⟨o,e,c,d⟩:=st;exact⟨o,e,λv z=>by rw[d]at z;cases z⟩
 keep:=λi h h' st k=>st.at λo e=>k it (by simp) o e
 item:=by
  intro X hP hw hK hc i pins s σ H E I hf st hg;subst hP hw hK;obtain⟨xs,x,hq,hx⟩:=hg;obtain⟨its,rv,p,hz⟩:=I.list hq;obtain⟨u,hu,ru⟩:=rv.get hx;obtain⟨f0,f1,f2,f3,f4,f5⟩:=hf it (by simp);refine wpAny_pyNext_list_item st p.isList (x:=u) (by simpa using hu) λh' st' sb=>?_;have I1:Inv X pins σ H {s with heap:=h'}:=I.turned (t':=s.toks) (λb o hb e=>(sb.2 b hb).trans e) f0 f1 f3 f4 f5;obtain⟨o,e,c,d⟩:=id st';exact⟨u,rfl,a9O (s:={s with heap:=h'}) e c d (by decide) ⟨x,H,I1,ru,⟨rfl,λys hy=>by rw[I.list_inj hy hq];exact hx⟩,st',λb hb=>(hf b hb).1⟩⟩
 done:=by
  intro X hP hw hK hc i pins s σ H E I hf st hg;subst hP hw hK;obtain⟨xs,hq,hx⟩:=hg;obtain⟨its,rv,p,hz⟩:=I.list hq;obtain⟨f0,f1,f2,f3,f4,f5⟩:=hf it (by simp);have hl:=rv.length;exact wpAny_pyNext_list_end (I.ok.hd hc) st p.isList (by simp;omega) λh' eb=>⟨rfl,I.turned (t':=s.toks) (λb o hb e=>eb b o hb e) f0 f1 f3 f4 f5⟩
 self:=λ_ _ _ _ _ st h=>wpAny_pyIter_listiter st h
theorem a4E{P:Program}{w:World}{K:PySem.W.Frag}{tg:Expr}(a it:Addr):Turn P w K tg (Itt K a) [it] it (λi h=>h.IsTupleIter it a i) where
 mem:=by simp
 obj:=λi h st b hb=>by
  have e:b=it:=by simpa using hb
  subst e;obtain⟨o,e,c,d⟩:=st;exact⟨o,e,λv z=>by rw[d]at z;cases z⟩
 keep:=λi h h' st k=>st.at λo e=>k it (by simp) o e
 item:=by
  intro X hP hw hK hc i pins s σ H E I hf st hg;subst hP hw hK;obtain⟨xs,x,hq,hx⟩:=hg;obtain⟨its,rv,p,hz⟩:=I.tuple hq;obtain⟨u,hu,ru⟩:=rv.get hx;obtain⟨f0,f1,f2,f3,f4,f5⟩:=hf it (by simp);refine wpAny_pyNext_tuple_item st (show s.heap.IsTuple a its.toArray from p) (x:=u) (by simpa using hu) λh' st' sb=>?_;have I1:Inv X pins σ H {s with heap:=h'}:=I.turned (t':=s.toks) (λb o hb e=>(sb.2 b hb).trans e) f0 f1 f3 f4 f5;obtain⟨o,e,c,d⟩:=id st';exact⟨u,rfl,a9O (s:={s with heap:=h'}) e c d (by decide) ⟨x,H,I1,ru,⟨rfl,λys hy=>by rw[I.tuple_inj hy hq];exact hx⟩,st',λb hb=>(hf b hb).1⟩⟩
 done:=by
  intro X hP hw hK hc i pins s σ H E I hf st hg;subst hP hw hK;obtain⟨xs,hq,hx⟩:=hg;obtain⟨its,rv,p,hz⟩:=I.tuple hq;obtain⟨f0,f1,f2,f3,f4,f5⟩:=hf it (by simp);have hl:=rv.length;exact wpAny_pyNext_tuple_end (I.ok.hd hc) st (show s.heap.IsTuple a its.toArray from p) (by simp;omega) λh' eb=>⟨rfl,I.turned (t':=s.toks) (λb o hb e=>eb b o hb e) f0 f1 f3 f4 f5⟩
 self:=λ_ _ _ _ _ st h=>wpAny_pyIter_tupleiter st h
theorem a4F{P:Program}{w:World}{K:PySem.W.Frag}{tg:Expr}(it:Addr)(lo:Int)(n:Nat):Turn P w K tg (Itr lo n) [it] it (λi h=>IsRangeIter h it (lo+(i:Nat)*1) ((n:Int)-(i:Nat)) 1) where
 mem:=by simp
 obj:=λi h st b hb=>by
  have e:b=it:=by simpa using hb
  subst e;exact⟨_,st,λv z=>by
   have z':Data.fields _=Data.cell v:=z;cases z'⟩
 keep:=λi h h' st k=>k it (by simp) _ st
 item:=by
  intro X hP hw hK hc i pins s σ H E I hf st hg;subst hP hw hK;obtain⟨f0,f1,f2,f3,f4,f5⟩:=hf it (by simp);have W:=Walks.range (prog:=X.prog) (w:=X.w) (I.ok.hd hc) it lo 1 n;refine W.item i s _ _ hg st λv h' tk hv st' kk=>?_;obtain⟨t,rfl⟩:=hv;have I1:Inv X pins σ H {s with heap:=h',toks:=tk}:=I.turned (λb o hb e=>kk b o (by simpa using hb) e) f0 f1 f3 f4 f5;refine⟨_,rfl,a9O (s:={s with heap:=h',toks:=tk}) (n:="range_iterator") st' rfl rfl (by decide) ⟨.int (lo+i),H,I1,⟨t,?_⟩,⟨rfl,rfl⟩,st',λb hb=>(hf b hb).1⟩⟩;rw[Int.mul_one]
 done:=by
  intro X hP hw hK hc i pins s σ H E I hf st hg;subst hP hw hK;obtain⟨f0,f1,f2,f3,f4,f5⟩:=hf it (by simp);exact wpAny_pyNext_range_end (I.ok.hd hc) st (by have:n<=i:=hg;omega) λh' eb=>⟨rfl,I.turned (t':=s.toks) (λb o hb e=>eb b o hb e) f0 f1 f3 f4 f5⟩
 self:=λ_ _ _ _ _ st h=>wpAny_pyIter_rangeiter st h
section
variable {X:Cx}{tg:Expr}
def a9M(K:PySem.W.Frag)(tl:TE):TI:=λσ H R=>tl σ H λx H1=>∃a,x=.ref a/\(∃xs,SqL K H1 a xs)/\R (Itl K a) H1
def b4y(K:PySem.W.Frag)(tl:TE):TI:=λσ H R=>tl σ H λx H1=>∃a,x=.ref a/\(∃xs,SqT K H1 a xs)/\R (Itt K a) H1
theorem b1f{l:Expr}{tl:TE}(hl:PE X l tl):PI X tg l (a9M X.K tl):=by
 intro pins s σ H R I h;refine thn (hl pins s σ H _ I h) λv s1 ⟨x,H1,I1,r1,q1⟩=>?_;obtain⟨a,e,⟨xs,hq⟩,q⟩:=q1;subst e;cases r1;obtain⟨its,rv,p,hz⟩:=I1.list hq;refine wpAny_pyIter_list p.isList ?_;refine⟨s1.heap.objs.size,[s1.heap.objs.size],_,_,H1,rfl,I1.kept (t':=s1.toks) λb o e=>Heap.get?_push_of_some _ e,a6F a _,⟨_,Heap.get?_push_size _ rfl,rfl,rfl⟩,λb hb=>?_,q⟩;have e:b=s1.heap.objs.size:=by simpa using hb
 subst e;exact I1.fpOk (Nat.le_refl _) (I1.hok.fresh (Nat.le_refl _))
theorem b3D{l:Expr}{tl:TE}(hl:PE X l tl):PI X tg l (b4y X.K tl):=by
 intro pins s σ H R I h;refine thn (hl pins s σ H _ I h) λv s1 ⟨x,H1,I1,r1,q1⟩=>?_;obtain⟨a,e,⟨xs,hq⟩,q⟩:=q1;subst e;cases r1;obtain⟨its,rv,p,hz⟩:=I1.tuple hq;refine wpAny_pyIter_tuple (show s1.heap.IsTuple a its.toArray from p) ?_;refine⟨s1.heap.objs.size,[s1.heap.objs.size],_,_,H1,rfl,I1.kept (t':=s1.toks) λb o e=>Heap.get?_push_of_some _ e,a4E a _,⟨_,Heap.get?_push_size _ rfl,rfl,rfl⟩,λb hb=>?_,q⟩;have e:b=s1.heap.objs.size:=by simpa using hb
 subst e;exact I1.fpOk (Nat.le_refl _) (I1.hok.fresh (Nat.le_refl _))
theorem a3R{pins:List (Addr×Obj)}{σ:St}{H:Hp}{s:Shared}{R:It->Hp->Prop}{E:Value->Shared->Prop}{lo hi:Int}{t u v:Tok}{tk:Nat}(I:Inv X pins σ H s)(h1 : -(2 ^ 62)<=lo)(h2:lo<2 ^ 62)(h3 : -(2 ^ 62)<=hi)(h4:hi<2 ^ 62)
  (q:R (Itr lo (hi-lo).toNat) H):wpAny (model X.prog X.w) X.A (pyIter (.ref s.heap.objs.size)) (PIE X pins σ tg R) E {s with heap:=s.heap.push {cls:=.type "range",data:=.fields #[.int lo t,.int hi u,.int 1 v]},toks:=tk}:=by
 refine wpAny_pyIter_range (IsRange.new ..) (small_one h1 h2 h3 h4) ?_;have I1:Inv X pins σ H {s with heap:=s.heap.push {cls:=.type "range",data:=.fields #[.int lo t,.int hi u,.int 1 v]},toks:=tk}:=I.kept λb o e=>Heap.get?_push_of_some _ e;refine⟨(s.heap.push {cls:=.type "range",data:=.fields #[.int lo t,.int hi u,.int 1 v]}).objs.size,[(s.heap.push {cls:=.type "range",data:=.fields #[.int lo t,.int hi u,.int 1 v]}).objs.size],_,_,H,rfl,
  I1.kept (t':=tk) λb o e=>Heap.get?_push_of_some _ e,a4F _ lo (hi-lo).toNat,?_,λb hb=>?_,q⟩
 .have e1:lo+((0:Nat):Int)*1=lo:=by simp
  have e2:(((hi-lo).toNat:Nat):Int)-((0:Nat):Int)=Builtin.Range.rangeSize lo hi 1:=by rw[rangeSize_one];split<;>omega
  show IsRangeIter _ _ (lo+((0:Nat):Int)*1) ((((hi-lo).toNat:Nat):Int)-((0:Nat):Int)) 1;rw[e1,e2];exact Heap.get?_push_size _ rfl
 .have e:b=(s.heap.push {cls:=.type "range",data:=.fields #[.int lo t,.int hi u,.int 1 v]}).objs.size:=by simpa using hb
  subst e;exact I1.fpOk (Nat.le_refl _) (I1.hok.fresh (Nat.le_refl _))
def a9L(ta:TA):TI:=λσ H R=>ta σ H λvs H1=>∃j:Int,vs=[.int j] /\ -(2 ^ 62)<=j/\j<2 ^ 62/\R (Itr 0 j.toNat) H1
def b2T(ta:TA):TI:=λσ H R=>ta σ H λvs H1=>∃i j:Int,vs=[.int i,.int j]/\(-(2 ^ 62)<=i/\i<2 ^ 62 /\ -(2 ^ 62)<=j/\j<2 ^ 62)/\R (Itr i (j-i).toNat) H1
theorem a6R{a:Expr}{ta:TA}{p pos:Pos}(hg:Gl X "range")(hm:X.mg "range"=none)(ha:PA X [a] ta)(hs:starEach [a] X.env=[(false,eval a X.env)]:=by rfl):PI X tg (.Call (.Name "range" p) [a] [] pos) (a9L ta):=by
 intro pins s σ H R I h;refine Call_ (O7 I hg hm boot_range (PyProof.Rows.callWith_type1 (thn (ha pos pins s σ H _ I h) λus s1 ⟨vs,H1,I1,r1,q1⟩=>?_) hs rfl));obtain⟨j,e,q1,q2,q⟩:=q1;subst e;cases r1 with
 |cons r rr =>
  cases rr;obtain⟨t,rfl⟩:=r;exact call_range_1 (a3R I1 (by omega) (by omega) q1 q2 (by simpa using q))
theorem a6Q{a b:Expr}{ta:TA}{p pos:Pos}(hg:Gl X "range")(hm:X.mg "range"=none)(ha:PA X [a,b] ta)(hs:starEach [a,b] X.env=[(false,eval a X.env),(false,eval b X.env)]:=by rfl)(hs2:starEach [b] X.env=[(false,eval b X.env)]:=by rfl) :
  PI X tg (.Call (.Name "range" p) [a,b] [] pos) (b2T ta):=by
 intro pins s σ H R I h;refine Call_ (O7 I hg hm boot_range (PyProof.Rows.callWith_type1 (thn (ha pos pins s σ H _ I h) λus s1 ⟨vs,H1,I1,r1,q1⟩=>?_) (by rw[hs,hs2]) (by rw[hs2];rfl)));obtain⟨i,j,e,⟨q1,q2,q3,q4⟩,q⟩:=q1;subst e;cases r1 with
 |cons r rr =>
  cases rr with
  |cons r' rr =>
   cases rr;obtain⟨t,rfl⟩:=r;obtain⟨t',rfl⟩:=r';exact call_range_2 (a3R I1 q1 q2 q3 q4 q)
def b4X(wi:TI)(g:TG)(tb:TS):TS:=λD σ H=>wi σ H λJ H1=>∃W:Nat->Nat->St->Hp->Prop,(∃m,W 0 m σ H1)/\∀i m σ H,W i m σ H ->
 (J.stop i H/\D.nx σ H)∨(J.go i H/\∃N:St->Hp->Prop,(∀σ' H',N σ' H'->∃m',m'<m/\W (i+1) m' σ' H')/\∀x H',J.yld i H x H'->g x σ H' λσ2 H2=>tb {D with nx:=N,ct:=N,bk:=D.nx} σ2 H2)
noncomputable def a1v(fp:List Addr)(h:Heap):List (Addr×Obj):=fp.filterMap λb=>(h.get? b).map λo=>(b,o)
theorem R1{fp:List Addr}{h:Heap}{b:Addr}{o:Obj}(hb:b∈fp)(e:h.get? b=some o):(b,o)∈a1v fp h:=List.mem_filterMap.mpr ⟨b,hb,by rw[e];rfl⟩
theorem a7b{fp:List Addr}{h:Heap}{p:Addr×Obj}(hp:p∈a1v fp h):p.1∈fp/\h.get? p.1=some p.2:=by
 obtain⟨b,hb,e⟩:=List.mem_filterMap.mp hp;cases q:h.get? b with
 |none=>rw[q]at e;cases e
 |some o =>
  rw[q]at e;have e':(b,o)=p:=Option.some.inj e;subst e';exact⟨hb,q⟩
theorem Inv.pinned{pins:List (Addr×Obj)}{σ:St}{H:Hp}{s:Shared}{fp:List Addr}(I:Inv X pins σ H s)(hf:∀b∈fp,a0x X pins H b)(ho:∀b∈fp,∃o,s.heap.get? b=some o/\∀v,o.data≠.cell v):Inv X (pins++a1v fp s.heap) σ H s :=
 I.pins_of λp hp=>(List.mem_append.mp hp).elim (λz=>I.pin p (List.mem_append_right _ z)) λz=>by
  obtain⟨hb,e⟩:=a7b z;obtain⟨f0,f1,f2,_⟩:=hf p.1 hb;obtain⟨o,e',d⟩:=ho p.1 hb;rw[e]at e';cases e';exact⟨e,f0,f1,f2,d⟩
theorem Inv.unpinned{pins pl:List (Addr×Obj)}{σ:St}{H:Hp}{s:Shared}(I:Inv X (pins++pl) σ H s):Inv X pins σ H s:=I.pins_of λp hp=>I.pin p (List.mem_append_right _ (List.mem_append_left _ hp))
theorem b3z{iter:Expr}{body:List Stmt}{wi:TI}{g:TG}{tb:TS}{pos:Pos}(hp:PassesOwn (model X.prog X.w) X.A X.env X.xe)(hc:X.calm=true)(hi:PI X tg iter wi)(hg:PG X tg g)(hb:PSs X body tb)
  (hs:∀x,foldedSetIterable iter X.env x=pure x:=by intro _;rfl):PS X (.For tg iter body [] pos) (b4X wi g tb):=by
 intro pins s σ H D I h;refine wpAny_For (thn (hi pins s σ H _ I h) λv s1 h1=>thn h1 λitv s2 h2=>?_) hs;obtain⟨it,fp,tn,J,H2,e,I2,T,st2,f2,W,⟨m0,w0⟩,turn⟩:=h2;subst e;have stat:∀{H':Hp},(∀b∈fp,H' b=none)->∀b∈fp,a0x X pins H' b:=λhn b hb=>⟨hn b hb,(f2 b hb).2⟩;refine codeAny_forLoop_any (λn s'=>∃i σ' H',Inv X pins σ' H' s'/\tn i s'.heap/\(∀b∈fp,H' b=none)/\W i n σ' H') ?_ m0 ⟨0,σ,H2,I2,st2,λb hb=>(f2 b hb).1,w0⟩;rintro n s3 ⟨i,σ3,H3,I3,st3,fr3,w3⟩;rcases turn i n σ3 H3 w3 with⟨stop,qn⟩|⟨go,N,hN,step⟩
 .refine wpAny_passesOwn hp (thn (T.done X rfl rfl rfl hc i pins s3 σ3 H3 X.xe I3 (stat fr3) st3 stop) λr s4 ⟨hr,I4⟩=>?_);subst hr;exact wpAny_execs_nil ⟨σ3,H3,I4,qn⟩
 .refine wpAny_passesOwn hp (thn (T.item X rfl rfl rfl hc i pins s3 σ3 H3 X.xe I3 (stat fr3) st3 go) λr s4 ⟨u,hr,h4⟩=>?_);subst hr;refine wpAny_passesOwn hp (thn h4 λ_ s5 ⟨x,H5,I5,r5,y5,st5,fr5⟩=>?_);have I5':=I5.pinned (stat fr5) (T.obj _ _ st5);refine wpAny_passesOwn hp (thn (hg _ s5 σ3 H5 x u _ I5' r5 (step x H5 y5)) λ_ s6 ⟨σ6,H6,I6,q6⟩=>?_);refine wpAny_passesOwn hp (thn (hb _ s6 σ6 H6 _ I6 q6) λf s7 q7=>?_);have again:∀{σ7:St}{H7:Hp},Inv X (pins++a1v fp s5.heap) σ7 H7 s7->N σ7 H7->∃m,m<n/\∃i σ' H',Inv X pins σ' H' s7/\tn i s7.heap/\(∀b∈fp,H' b=none)/\W i m σ' H':=λ{σ7 H7} I7 n7=>by
   obtain⟨m',hm,w7⟩:=hN σ7 H7 n7;refine⟨m',hm,i+1,σ7,H7,I7.unpinned,T.keep _ _ _ st5 λb hb o e=>(I7.pin (b,o) (List.mem_append_right _ (List.mem_append_right _ (R1 hb e)))).1,λb hb=>?_,w7⟩;obtain⟨o,e,d⟩:=T.obj _ _ st5 b hb;exact(I7.pin (b,o) (List.mem_append_right _ (List.mem_append_right _ (R1 hb e)))).2.1
  cases f with
  |next=>obtain⟨σ7,H7,I7,n7⟩:=q7;exact again I7 n7
  |cont=>obtain⟨σ7,H7,I7,n7⟩:=q7;exact again I7 n7
  |brk=>obtain⟨σ7,H7,I7,q7⟩:=q7;exact⟨σ7,H7,I7.unpinned,q7⟩
  |ret v=>obtain⟨x7,σ7,H7,I7,r7,q7⟩:=q7;exact⟨x7,σ7,H7,I7.unpinned,r7,q7⟩
end
theorem a1S{K:PySem.W.Frag}{a:Addr}{xs:List V}{g:TG}{tb:TS}{D:Ends}{σ:St}{H:Hp}(Pv:Nat->St->Hp->Prop)(h0:Pv 0 σ H)(hl:∀i σ H,i<=xs.length->Pv i σ H->SqL K H a xs)
  (hs:∀i x σ H,xs[i]?=some x->Pv i σ H->g x σ H λσ2 H2=>tb {D with nx:=Pv (i+1),ct:=Pv (i+1),bk:=D.nx} σ2 H2) (hd:∀σ H,Pv xs.length σ H->D.nx σ H) :
  ∃W:Nat->Nat->St->Hp->Prop,(∃m,W 0 m σ H)/\∀i m σ H,W i m σ H ->
   ((Itl K a).stop i H/\D.nx σ H)∨((Itl K a).go i H/\∃N:St->Hp->Prop,(∀σ' H',N σ' H'->∃m',m'<m/\W (i+1) m' σ' H')/\∀x H',(Itl K a).yld i H x H'->g x σ H' λσ2 H2=>tb {D with nx:=N,ct:=N,bk:=D.nx} σ2 H2):=by
 refine⟨λi m σ H=>m=xs.length-i/\i<=xs.length/\Pv i σ H,⟨xs.length,by simp,Nat.zero_le _,h0⟩,?_⟩;rintro i m σ H ⟨rfl,hi,p⟩;have q:=hl i σ H hi p;by_cases hlt:i<xs.length
 .refine .inr ⟨⟨xs,xs[i],q,by simp[hlt]⟩,Pv (i+1),λσ' H' p'=>⟨xs.length-(i+1),by omega,rfl,hlt,p'⟩,λx H' y=>?_⟩;obtain⟨e,y⟩:=y;subst e;exact hs i x σ _ (y xs q) p
 .have e:i=xs.length:=by omega
  subst e;exact .inl ⟨⟨xs,q,Nat.le_refl _⟩,hd σ H p⟩
theorem a0Z{K:PySem.W.Frag}{a:Addr}{xs:List V}{g:TG}{tb:TS}{D:Ends}{σ:St}{H:Hp}(Pv:Nat->St->Hp->Prop)(h0:Pv 0 σ H)(hl:∀i σ H,i<=xs.length->Pv i σ H->SqT K H a xs)
  (hs:∀i x σ H,xs[i]?=some x->Pv i σ H->g x σ H λσ2 H2=>tb {D with nx:=Pv (i+1),ct:=Pv (i+1),bk:=D.nx} σ2 H2) (hd:∀σ H,Pv xs.length σ H->D.nx σ H) :
  ∃W:Nat->Nat->St->Hp->Prop,(∃m,W 0 m σ H)/\∀i m σ H,W i m σ H ->
   ((Itt K a).stop i H/\D.nx σ H)∨((Itt K a).go i H/\∃N:St->Hp->Prop,(∀σ' H',N σ' H'->∃m',m'<m/\W (i+1) m' σ' H')/\∀x H',(Itt K a).yld i H x H'->g x σ H' λσ2 H2=>tb {D with nx:=N,ct:=N,bk:=D.nx} σ2 H2):=by
 refine⟨λi m σ H=>m=xs.length-i/\i<=xs.length/\Pv i σ H,⟨xs.length,by simp,Nat.zero_le _,h0⟩,?_⟩;rintro i m σ H ⟨rfl,hi,p⟩;have q:=hl i σ H hi p;by_cases hlt:i<xs.length
 .refine .inr ⟨⟨xs,xs[i],q,by simp[hlt]⟩,Pv (i+1),λσ' H' p'=>⟨xs.length-(i+1),by omega,rfl,hlt,p'⟩,λx H' y=>?_⟩;obtain⟨e,y⟩:=y;subst e;exact hs i x σ _ (y xs q) p
 .have e:i=xs.length:=by omega
  subst e;exact .inl ⟨⟨xs,q,Nat.le_refl _⟩,hd σ H p⟩
theorem V3{lo:Int}{n:Nat}{g:TG}{tb:TS}{D:Ends}{σ:St}{H:Hp}(Pv:Nat->St->Hp->Prop)(h0:Pv 0 σ H)
  (hs:∀i σ H,i<n->Pv i σ H->g (.int (lo+i)) σ H λσ2 H2=>tb {D with nx:=Pv (i+1),ct:=Pv (i+1),bk:=D.nx} σ2 H2) (hd:∀σ H,Pv n σ H->D.nx σ H) :
  ∃W:Nat->Nat->St->Hp->Prop,(∃m,W 0 m σ H)/\∀i m σ H,W i m σ H ->
   ((Itr lo n).stop i H/\D.nx σ H)∨((Itr lo n).go i H/\∃N:St->Hp->Prop,(∀σ' H',N σ' H'->∃m',m'<m/\W (i+1) m' σ' H')/\∀x H',(Itr lo n).yld i H x H'->g x σ H' λσ2 H2=>tb {D with nx:=N,ct:=N,bk:=D.nx} σ2 H2):=by
 refine⟨λi m σ H=>m=n-i/\i<=n/\Pv i σ H,⟨n,by simp,Nat.zero_le _,h0⟩,?_⟩;rintro i m σ H ⟨rfl,hi,p⟩;by_cases hlt:i<n
 .refine .inr ⟨hlt,Pv (i+1),λσ' H' p'=>⟨n-(i+1),by omega,rfl,hlt,p'⟩,λx H' y=>?_⟩;obtain⟨e,y⟩:=y;subst e y;exact hs i σ _ hlt p
 .have e:i=n:=by omega
  subst e;exact .inl ⟨Nat.le_refl _,hd σ H p⟩
abbrev R2:=V->V->Hp->VK->Prop
def OpR(X:Cx)(f:Value->Value->Sem Value)(r:R2):Prop :=
 ∀(pins:List (Addr×Obj)) (s:Shared) (σ:St) (H:Hp) (x y:V) (v u:Value) (Q:VK),Inv X pins σ H s->RelV x v->RelV y u->r x y H Q ->
  wpAny (model X.prog X.w) X.A (f v u) (EP X pins σ Q) X.xe s
def UnR(X:Cx)(f:Value->Sem Value)(r:V->Hp->VK->Prop):Prop :=
 ∀(pins:List (Addr×Obj)) (s:Shared) (σ:St) (H:Hp) (x:V) (v:Value) (Q:VK),Inv X pins σ H s->RelV x v->r x H Q ->
  wpAny (model X.prog X.w) X.A (f v) (EP X pins σ Q) X.xe s
def C8(X:Cx)(f:Value)(r:List V->Hp->VK->Prop):Prop :=
 ∀(pins:List (Addr×Obj)) (s:Shared) (σ:St) (H:Hp) (xs:List V) (us:List Value) (Q:VK),Inv X pins σ H s->Vals xs us->r xs H Q ->
  wpAny (model X.prog X.w) X.A (call f us) (EP X pins σ Q) X.xe s
def b5W(X:Cx)(r:V->Hp->(Bool->Hp->Prop)->Prop):Prop :=
 ∀(pins:List (Addr×Obj)) (s:Shared) (σ:St) (H:Hp) (x:V) (v:Value) (Q:Bool->Hp->Prop),Inv X pins σ H s->RelV x v->r x H Q ->
  wpAny (model X.prog X.w) X.A (truthy v) (TP X pins σ Q) X.xe s
def tOp(r:R2)(ta tb:TE):TE:=λσ H Q=>ta σ H λx H1=>tb σ H1 λy H2=>r x y H2 Q
def tUn(r:V->Hp->VK->Prop)(ta:TE):TE:=λσ H Q=>ta σ H λx H1=>r x H1 Q
def rI(C:Int->Int->Prop)(g:Int->Int->V):R2:=λx y H Q=>∃i j,x=.int i/\y=.int j/\C i j/\Q (g i j) H
def rI0(g:Int->Int->V):R2:=λx y H Q=>∃i j,x=.int i/\y=.int j/\Q (g i j) H
def rU(g:Int->V):V->Hp->VK->Prop:=λx H Q=>∃i,x=.int i/\Q (g i) H
section
variable {X:Cx}{a b c:Expr}{ta tb tc:TE}{pos:Pos}
theorem b4E(ha:PE X a ta)(hb:PE X b tb){pins:List (Addr×Obj)}{s:Shared}{σ:St}{H:Hp}{R:V->V->Hp->Prop}(I:Inv X pins σ H s)
  (h:ta σ H λx H1=>tb σ H1 λy H2=>R x y H2) {Q:Value->Shared->Prop}{f:Value->Value->Sem Value}
  (hf:∀v u s2 x y H2,Inv X pins σ H2 s2->RelV x v->RelV y u->R x y H2->wpAny (model X.prog X.w) X.A (f v u) Q X.xe s2) :
  wpAny (model X.prog X.w) X.A (eval a X.env) (λv s₁=>wpAny (model X.prog X.w) X.A (eval b X.env) (λu s₂=>wpAny (model X.prog X.w) X.A (f v u) Q X.xe s₂) X.xe s₁) X.xe s:=by
 refine thn (ha pins s σ H _ I h) λv s1 ⟨x,H1,I1,r1,q1⟩=>?_;refine thn (hb pins s1 σ H1 _ I1 q1) λu s2 ⟨y,H2,I2,r2,q2⟩=>?_;exact hf v u s2 x y H2 I2 r1 r2 q2
theorem W1{op:Operator}{r:R2}(ho:OpR X (binaryOp op) r)(ha:PE X a ta)(hb:PE X b tb):PE X (.BinOp a op b pos) (tOp r ta tb):=by
 intro pins s σ H Q I h;exact wpAny_BinOp (b4E ha hb I h λv u s2 x y H2 I2 rx ry q=>ho pins s2 σ H2 x y v u Q I2 rx ry q)
theorem b5k{op:UnaryOp}{r:V->Hp->VK->Prop}(ho:UnR X (unaryOp op) r)(ha:PE X a ta):PE X (.UnaryOp op a pos) (tUn r ta):=by
 intro pins s σ H Q I h;exact UnaryOp_ (thn (ha pins s σ H _ I h) λv s1 ⟨x,H1,I1,r1,q1⟩=>ho pins s1 σ H1 x v Q I1 r1 q1)
theorem opI{f:Value->Value->Sem Value}{C:Int->Int->Prop}{g:Int->Int->Int}
  (rule:∀(i j:Int) (t u:Tok) (s:Shared) (Q:Value->Shared->Prop) (E:Value->Shared->Prop),C i j->Q (.int (g i j) s.toks) {s with toks:=s.toks+1}->wpAny (model X.prog X.w) X.A (f (.int i t) (.int j u)) Q E s) :
  OpR X f (rI C λi j=>.int (g i j)):=by
 intro pins s σ H x y v u Q I rx ry h;obtain⟨i,j,rfl,rfl,hc,q⟩:=h;obtain⟨t,rfl⟩:=rx;obtain⟨t',rfl⟩:=ry;exact rule i j t t' s _ _ hc ⟨.int (g i j),H,I.tok _,⟨_,rfl⟩,q⟩
theorem b5q{f:Value->Value->Sem Value}{g:Int->Int->Int}
  (rule:∀(i j:Int) (t u:Tok) (s:Shared) (Q:Value->Shared->Prop) (E:Value->Shared->Prop),Q (.int (g i j) s.toks) {s with toks:=s.toks+1}->wpAny (model X.prog X.w) X.A (f (.int i t) (.int j u)) Q E s) :
  OpR X f (rI0 λi j=>.int (g i j)):=by
 intro pins s σ H x y v u Q I rx ry h;obtain⟨i,j,rfl,rfl,q⟩:=h;obtain⟨t,rfl⟩:=rx;obtain⟨t',rfl⟩:=ry;exact rule i j t t' s _ _ ⟨.int (g i j),H,I.tok _,⟨_,rfl⟩,q⟩
theorem b1v{f:Value->Value->Sem Value}{g:Int->Int->Bool}
  (rule:∀(i j:Int) (t u:Tok) (s:Shared) (Q:Value->Shared->Prop) (E:Value->Shared->Prop),Q (.bool (g i j)) s->wpAny (model X.prog X.w) X.A (f (.int i t) (.int j u)) Q E s) :
  OpR X f (rI0 λi j=>.bl (g i j)):=by
 intro pins s σ H x y v u Q I rx ry h;obtain⟨i,j,rfl,rfl,q⟩:=h;obtain⟨t,rfl⟩:=rx;obtain⟨t',rfl⟩:=ry;exact rule i j t t' s _ _ ⟨.bl (g i j),H,I,rfl,q⟩
def b4Q(i j:Int):Prop:=0<j/\j<1073741824
def b5H(i j:Int):Prop:=0<=j/\j<=1000000/\i.natAbs<2 ^ 64
def CMul(i j:Int):Prop:=(-(2 ^ 64)<i/\i<2 ^ 64)∨(-(2 ^ 64)<j/\j<2 ^ 64)
theorem CMul.ok{i j:Int}(h:CMul i j):IntMulOk i j:=by
 rcases h with⟨h1,h2⟩|⟨h1,h2⟩
 .exact .of_left (intBits_le_64 h1 h2)
 .exact .of_right (intBits_le_64 h1 h2)
theorem b4c:OpR X (binaryOp .Add) (rI0 λi j=>.int (i+j)):=b5q λ_ _ _ _ _ _ _ q=>add_int q
theorem b3U:OpR X (binaryOp .Sub) (rI0 λi j=>.int (i-j)):=b5q λ_ _ _ _ _ _ _ q=>sub_int q
theorem b3Z:OpR X (binaryOp .Mult) (rI CMul λi j=>.int (i*j)):=opI λ_ _ _ _ _ _ _ hc q=>mul_int q hc.ok
theorem b1t:OpR X (binaryOp .FloorDiv) (rI b4Q λi j=>.int (i / j)):=opI λi j _ _ _ _ _ hc q=>by
 have h1:(0:Int)<j:=hc.1;have h2:j<1073741824:=hc.2;exact floordiv_int (by omega) (by rw[Int.fdiv_eq_ediv_of_nonneg i (by omega)];exact q) (.inl (PyProof.noPylong_small (by omega)))
theorem b4a:OpR X (binaryOp .Mod) (rI (λ_ j=>0<j) λi j=>.int (i % j)):=opI λi j _ _ _ _ _ hc q=>by
 have h1:(0:Int)<j:=hc;exact mod_int' (by omega) (by rw[Int.fmod_eq_emod_of_nonneg i (by omega)];exact q)
theorem b3W:OpR X (binaryOp .Pow) (rI b5H λi j=>.int (i ^ j.toNat)):=opI λ_ _ _ _ _ _ _ hc q=>pow_int_small hc.1 hc.2.1 hc.2.2 q
theorem unI{f:Value->Sem Value}{g:Int->Int}
  (rule:∀(i:Int) (t:Tok) (s:Shared) (Q:Value->Shared->Prop) (E:Value->Shared->Prop),Q (.int (g i) s.toks) {s with toks:=s.toks+1}->wpAny (model X.prog X.w) X.A (f (.int i t)) Q E s) :
  UnR X f (rU λi=>.int (g i)):=by
 intro pins s σ H x v Q I rx h;obtain⟨i,rfl,q⟩:=h;obtain⟨t,rfl⟩:=rx;exact rule i t s _ _ ⟨.int (g i),H,I.tok _,⟨_,rfl⟩,q⟩
theorem b3a:UnR X (unaryOp .USub) (rU λi=>.int (-i)):=unI λ_ _ _ _ _ q=>neg_int q
end
noncomputable def b3m:V->V->Bool
 |.non,.non=>true | .non,.int _=>true | .int _,.non=>true | .non,.bl _=>true | .bl _,.non=>true | .non,.str _=>true | .str _,.non=>true
 |.int _,.int _=>true | .bl _,.bl _=>true | .str _,.str _=>true | .byt _,.byt _=>true
 |.int _,.str _=>true | .str _,.int _=>true | .bl _,.str _=>true | .str _,.bl _=>true
 |_,_=>false
theorem b0H(a b:Int):b3m (.int a) (.int b)=true:=rfl
def rEq:R2:=λx y H Q=>b3m x y=true/\Q (.bl (decide (x=y))) H
def rNe:R2:=λx y H Q=>b3m x y=true/\Q (.bl (!decide (x=y))) H
theorem a6x{i j:Int}:decide (V.int i=V.int j)=(i==j):=by
 rw[Bool.eq_iff_iff];simp
theorem a9Z{i j:Bool}:decide (V.bl i=V.bl j)=(i==j):=by
 rw[Bool.eq_iff_iff];simp
theorem a6w{i j:Str}:decide (V.str i=V.str j)=(i==j):=by
 rw[Bool.eq_iff_iff];simp
theorem a6y{i j:Array UInt8}:decide (V.byt i=V.byt j)=(i.toList==j.toList):=by
 rw[Bool.eq_iff_iff];cases i;cases j;simp
section
variable {X:Cx}{a b c:Expr}{ta tb tc:TE}{pos:Pos}
theorem B4{pins:List (Addr×Obj)}{σ:St}{H:Hp}{s:Shared}{Q:VK}{k k':Bool}(I:Inv X pins σ H s)(q:Q (.bl k) H)(e:k=k'):EP X pins σ Q (.bool k') s:=by
 subst e;exact⟨.bl k,H,I,rfl,q⟩
theorem b2J:OpR X (compareOp .Eq) rEq:=by
 intro pins s σ H x y v u Q I rx ry h;obtain⟨hs,q⟩:=h;cases x with
 |non =>
  cases rx;cases y with
  |non=>cases ry;exact PySem.EqNone.eq_none_none (B4 I q (by simp))
  |bl j=>cases ry;exact PySem.EqNone.eq_none_bool (B4 I q (by simp))
  |int j=>obtain⟨t',rfl⟩:=ry;exact PySem.EqNone.eq_none_int (B4 I q (by simp))
  |str j=>obtain⟨t',rfl⟩:=ry;exact PySem.EqNone.eq_none_str (B4 I q (by simp))
  |_=>exact absurd (show false=true from hs) Bool.false_ne_true
 |bl i =>
  cases rx;cases y with
  |non=>cases ry;exact PySem.EqNone.eq_bool_none (B4 I q (by simp))
  |bl j=>cases ry;exact eq_bool (B4 I q a9Z)
  |str j=>obtain⟨t',rfl⟩:=ry;exact PySem.EqMixed.eq_bool_str (B4 I q (by simp))
  |_=>exact absurd (show false=true from hs) Bool.false_ne_true
 |int i =>
  obtain⟨t,rfl⟩:=rx;cases y with
  |non=>cases ry;exact PySem.EqNone.eq_int_none (B4 I q (by simp))
  |int j=>obtain⟨t',rfl⟩:=ry;exact eq_int (B4 I q a6x)
  |str j=>obtain⟨t',rfl⟩:=ry;exact PySem.EqMixed.eq_int_str (B4 I q (by simp))
  |_=>exact absurd (show false=true from hs) Bool.false_ne_true
 |str i =>
  obtain⟨t,rfl⟩:=rx;cases y with
  |non=>cases ry;exact PySem.EqNone.eq_str_none (B4 I q (by simp))
  |bl j=>cases ry;exact PySem.EqMixed.eq_str_bool (B4 I q (by simp))
  |int j=>obtain⟨t',rfl⟩:=ry;exact PySem.EqMixed.eq_str_int (B4 I q (by simp))
  |str j=>obtain⟨t',rfl⟩:=ry;exact eq_str (B4 I q a6w)
  |_=>exact absurd (show false=true from hs) Bool.false_ne_true
 |byt i =>
  obtain⟨t,rfl⟩:=rx;cases y with
  |byt j=>obtain⟨t',rfl⟩:=ry;exact PySem.W.eq_bytes (B4 I q a6y)
  |_=>exact absurd (show false=true from hs) Bool.false_ne_true
 |_=>cases y<;>exact absurd (show false=true from hs) Bool.false_ne_true
theorem b5p:OpR X (compareOp .NotEq) rNe:=by
 intro pins s σ H x y v u Q I rx ry h;obtain⟨hs,q⟩:=h;cases x with
 |non =>
  cases rx;cases y with
  |non=>cases ry;exact PySem.EqNone.ne_none_none (B4 I q (by simp))
  |bl j=>cases ry;exact PySem.EqNone.ne_none_bool (B4 I q (by simp))
  |int j=>obtain⟨t',rfl⟩:=ry;exact PySem.EqNone.ne_none_int (B4 I q (by simp))
  |str j=>obtain⟨t',rfl⟩:=ry;exact PySem.EqNone.ne_none_str (B4 I q (by simp))
  |_=>exact absurd (show false=true from hs) Bool.false_ne_true
 |bl i =>
  cases rx;cases y with
  |non=>cases ry;exact PySem.EqNone.ne_bool_none (B4 I q (by simp))
  |bl j=>cases ry;exact ne_bool (B4 I q (congrArg not a9Z))
  |str j=>obtain⟨t',rfl⟩:=ry;exact PySem.EqMixed.ne_bool_str (B4 I q (by simp))
  |_=>exact absurd (show false=true from hs) Bool.false_ne_true
 |int i =>
  obtain⟨t,rfl⟩:=rx;cases y with
  |non=>cases ry;exact PySem.EqNone.ne_int_none (B4 I q (by simp))
  |int j=>obtain⟨t',rfl⟩:=ry;exact ne_int (B4 I q (congrArg not a6x))
  |str j=>obtain⟨t',rfl⟩:=ry;exact PySem.EqMixed.ne_int_str (B4 I q (by simp))
  |_=>exact absurd (show false=true from hs) Bool.false_ne_true
 |str i =>
  obtain⟨t,rfl⟩:=rx;cases y with
  |non=>cases ry;exact PySem.EqNone.ne_str_none (B4 I q (by simp))
  |bl j=>cases ry;exact PySem.EqMixed.ne_str_bool (B4 I q (by simp))
  |int j=>obtain⟨t',rfl⟩:=ry;exact PySem.EqMixed.ne_str_int (B4 I q (by simp))
  |str j=>obtain⟨t',rfl⟩:=ry;exact ne_str (B4 I q (congrArg not a6w))
  |_=>exact absurd (show false=true from hs) Bool.false_ne_true
 |byt i =>
  obtain⟨t,rfl⟩:=rx;cases y with
  |byt j=>obtain⟨t',rfl⟩:=ry;exact PySem.W.ne_bytes (B4 I q (congrArg not a6y))
  |_=>exact absurd (show false=true from hs) Bool.false_ne_true
 |_=>cases y<;>exact absurd (show false=true from hs) Bool.false_ne_true
theorem b2F:OpR X (compareOp .Lt) (rI0 λi j=>.bl (decide (i<j))):=b1v λ_ _ _ _ _ _ _ q=>lt_int q
theorem b2G:OpR X (compareOp .LtE) (rI0 λi j=>.bl (decide (i<=j))):=b1v λ_ _ _ _ _ _ _ q=>le_int q
theorem b2H:OpR X (compareOp .Gt) (rI0 λi j=>.bl (decide (j<i))):=b1v λ_ _ _ _ _ _ _ q=>gt_int q
theorem b2I:OpR X (compareOp .GtE) (rI0 λi j=>.bl (decide (j<=i))):=b1v λ_ _ _ _ _ _ _ q=>ge_int q
theorem b4b:OpR X (compareOp .Is) (λx y H Q=>y=.non/\Q (.bl (decide (x=.non))) H):=by
 intro pins s σ H x y v u Q I rx ry h;obtain⟨rfl,q⟩:=h;cases ry;refine is_none_gen (B4 I q ?_);cases x<;>first
  |(cases rx;rfl)
  |(obtain⟨t,rfl⟩:=rx;rfl)
theorem b1s:OpR X (compareOp .IsNot) (λx y H Q=>y=.non/\Q (.bl (!decide (x=.non))) H):=by
 intro pins s σ H x y v u Q I rx ry h;obtain⟨rfl,q⟩:=h;cases ry;refine isnot_none_gen (B4 I q ?_);cases x<;>first
  |(cases rx;rfl)
  |(obtain⟨t,rfl⟩:=rx;rfl)
theorem J2(b:Expr){op:CmpOp}(h:op≠.In:=by decide)(h2:op≠.NotIn:=by decide):behindInMarks op b=false:=by
 have e1:(op==CmpOp.In)=false:=by cases op<;>first|rfl|exact absurd rfl h
 have e2:(op==CmpOp.NotIn)=false:=by cases op<;>first|rfl|exact absurd rfl h2
 cases b with
 |Set elts k p=>show(k==0 && (op==CmpOp.In || op==CmpOp.NotIn) && elts.all (constantsAlone 8))=false;rw[e1,e2,Bool.or_false,Bool.and_false,Bool.false_and]
 |_=>rfl
theorem U5{op:CmpOp}{r:R2}(ho:OpR X (compareOp op) r)(ha:PE X a ta)(hb:PE X b tb)(hm:behindInMarks op b=false):PE X (.Compare a [op] [b] pos) (tOp r ta tb):=by
 intro pins s σ H Q I h;exact wpAny_Compare1 (b4E ha hb I h λv u s2 x y H2 I2 rx ry q=>ho pins s2 σ H2 x y v u Q I2 rx ry q) hm
def S5(t:TE):TT:=λσ H Q=>t σ H λx H'=>∃k,x=.bl k/\Q k H'
theorem M3{op:CmpOp}{r:R2}(ho:OpR X (compareOp op) r)(ha:PE X a ta)(hb:PE X b tb)(hm:behindInMarks op b=false):PT X (.Compare a [op] [b] pos) (S5 (tOp r ta tb)):=by
 intro pins s σ H Q I h;refine wpAny_isTrue_Compare1 (thn (ha pins s σ H _ I h) λv s1 ⟨x,H1,I1,r1,q1⟩=>thn (hb pins s1 σ H1 _ I1 q1) λu s2 ⟨y,H2,I2,r2,q2⟩ =>
  thn (ho pins s2 σ H2 x y v u _ I2 r1 r2 q2) λc s3 ⟨z,H3,I3,r3,k,e,q3⟩=>?_) hm
 subst e;cases r3;exact wpAny_truthy_bool ⟨H3,I3,q3⟩
def b4L(K:PySem.W.Frag)(x:V)(H:Hp)(k:Bool):Prop :=
 match x with
 |.non=>k=false
 |.bl b=>k=b
 |.int i=>k=(i != 0)
 |.str y=>y.length<=sizeLine/\k=((y.length:Int) != 0)
 |.byt y=>y.size<=sizeLine/\k=((y.size:Int) != 0)
 |.ref p=>(∃xs,SqL K H p xs/\k=!xs.isEmpty)∨(∃xs,SqT K H p xs/\k=!xs.isEmpty)∨∃kvs,H p=some (.dK kvs)/\k=!kvs.isEmpty
 |_=>False
theorem a5h{κ:Type}{kvs:List (κ×V)}{vs:List (κ×Value)}(r:KV kvs vs):(!vs.isEmpty)=!kvs.isEmpty:=by
 cases r<;>rfl
theorem a1P{xs:List V}{its:List Value}(r:Vals xs its):(!its.toArray.isEmpty)=!xs.isEmpty:=by
 cases r<;>simp
theorem W8:(sizeLine:Nat)<2 ^ 63:=by rw[sizeLine_eq];decide
theorem b3c:b5W X (λx H Q=>∃k,b4L X.K x H k/\Q k H):=by
 intro pins s σ H x v Q I rx h;obtain⟨k,e,q⟩:=h;have hl:=W8;have hs:sizeLine=16777216:=sizeLine_eq;cases x with
 |non =>
  cases rx;have e':k=false:=e;subst e';exact truthy_none ⟨H,I,q⟩
 |bl b =>
  cases rx;have e':k=b:=e;subst e';exact wpAny_truthy_bool ⟨H,I,q⟩
 |int i =>
  obtain⟨t,rfl⟩:=rx;have e':k=(i != 0):=e;subst e';exact PySem.P.truthy_int ⟨H,I,q⟩
 |str y =>
  obtain⟨t,rfl⟩:=rx;obtain⟨hy,e'⟩:y.length<=sizeLine/\k=((y.length:Int) != 0):=e;subst e';exact PySem.P.truthy_str (by omega) ⟨H,I.tok _,q⟩
 |byt y =>
  obtain⟨t,rfl⟩:=rx;obtain⟨hy,e'⟩:y.size<=sizeLine/\k=((y.size:Int) != 0):=e;subst e';exact PySem.W.truthy_bytes (by omega) ⟨H,I.tok _,q⟩
 |ref p =>
  cases rx;have e':(∃xs,SqL X.K H p xs/\k=!xs.isEmpty)∨(∃xs,SqT X.K H p xs/\k=!xs.isEmpty)∨∃kvs,H p=some (.dK kvs)/\k=!kvs.isEmpty:=e;rcases e' with⟨xs,hx,e'⟩|⟨xs,hx,e'⟩|⟨kvs,hx,e'⟩
  .subst e';obtain⟨its,r,pl,hz⟩:=I.list hx;have hlen:=r.length;exact wpAny_truthy_list pl.isList (by simp only[List.size_toArray];omega) ⟨H,I.tok _,by rw[a1P r];exact q⟩
  .subst e';obtain⟨its,r,pl,hz⟩:=I.tuple hx;have hlen:=r.length;exact truthy_tuple pl (by simp only[List.size_toArray];omega) ⟨H,I.tok _,by rw[a1P r];exact q⟩
  .subst e';obtain⟨hz,hS,vs,r,m⟩:kvs.length<=sizeLine/\(p==sysModules)=false/\∃vs,KV kvs vs/\s.heap.DictOf (D8 X.prog X.w) p vs:=I.hok p _ hx;have hlen:kvs.length=vs.length:=Paired.length r;exact wpAny_truthy_dict hS m (by omega) ⟨H,I.tok _,by rw[a5h r];exact q⟩
 |_=>exact(show False from e).elim
theorem a8L(ha:PE X a ta)(he:∀whole,isTrue a X.env whole=(do let v <-whole;standAt a.pos;holding [v] (truthy v))) :
  PT X a (λσ H Q=>ta σ H λx H'=>∃k,b4L X.K x H' k/\Q k H'):=by
 intro pins s σ H Q I h;exact isTrue_plain (thn (ha pins s σ H _ I h) λv s1 ⟨x,H1,I1,r1,q1⟩=>b3c pins s1 σ H1 x v Q I1 r1 q1) (he _)
theorem a5J{x:V}{us:List Value}(r:Vals [x] us):∃u,us=[u]/\RelV x u:=by
 cases r with
 |cons r1 r2=>cases r2;exact⟨_,rfl,r1⟩
theorem b2m{x y:V}{us:List Value}(r:Vals [x,y] us):∃u w',us=[u,w']/\RelV x u/\RelV y w':=by
 cases r with
 |cons r1 r2 =>
  cases r2 with
  |cons r3 r4=>cases r4;exact⟨_,_,rfl,r1,r3⟩
theorem a7D(hc:X.calm=true):C8 X (.builtin "max") (λxs H Q=>∃i j,xs=[.int i,.int j]/\Q (.int (if j > i then j else i)) H):=by
 intro pins s σ H xs us Q I r h;obtain⟨i,j,rfl,q⟩:=h;obtain⟨u,w',rfl,⟨t,rfl⟩,⟨t',rfl⟩⟩:=b2m r;refine max_two_ints (I.ok.hd hc) λh' tk k=>⟨_,H,I.kept k,?_,q⟩;by_cases hj:j > i
 .rw[if_pos hj,if_pos hj];exact⟨_,rfl⟩
 .rw[if_neg hj,if_neg hj];exact⟨_,rfl⟩
theorem a7A(hc:X.calm=true):C8 X (.builtin "min") (λxs H Q=>∃i j,xs=[.int i,.int j]/\Q (.int (if j<i then j else i)) H):=by
 intro pins s σ H xs us Q I r h;obtain⟨i,j,rfl,q⟩:=h;obtain⟨u,w',rfl,⟨t,rfl⟩,⟨t',rfl⟩⟩:=b2m r;refine min_two_ints (I.ok.hd hc) λh' tk k=>⟨_,H,I.kept k,?_,q⟩;by_cases hj:j<i
 .rw[if_pos hj,if_pos hj];exact⟨_,rfl⟩
 .rw[if_neg hj,if_neg hj];exact⟨_,rfl⟩
theorem a7I:C8 X (.type "int") (λxs H Q=>(∃i,xs=[.int i]/\Q (.int i) H)∨∃k,xs=[.bl k]/\Q (.int (if k then 1 else 0)) H):=by
 intro pins s σ H xs us Q I r h;rcases h with⟨i,rfl,q⟩|⟨k,rfl,q⟩
 .obtain⟨u,rfl,t,rfl⟩:=a5J r;exact call_int_int ⟨.int i,H,I,⟨_,rfl⟩,q⟩
 .obtain⟨u,rfl,r1⟩:=a5J r;cases r1;exact call_int_bool ⟨.int (if k then 1 else 0),H,I.tok _,⟨_,rfl⟩,q⟩
end
structure ObjM(h:Heap)(x dx C:Addr)(mA:Str->Option Value):Prop where
 obj:h.get? x=some (PySem.W.instObj C dx)
 ns:h.Ns1 dx mA
 ne:dx≠x
theorem a7g{h:Heap}{dx:Addr}{mA:Str->Option Value}(n:h.Ns1 dx mA):∃od,h.get? dx=some od/\∀name,PySem.W.lookIn name od=some (mA name):=by
 obtain⟨o,es,ep,ho,hd,hk,_,hm⟩:=n;refine⟨o,ho,λname=>?_⟩;have e:=hm name;unfold nsFind findBy at e;rw[<-Array.find?_toList]at e;unfold PySem.W.lookIn;rw[hd];dsimp only;split
 .rename_i y q;rw[q]at e;exact congrArg some e
 .rename_i q;rw[q]at e;have a:es.toList.any (·.refKey)=false:=by
   rw[List.any_eq_false];intro y hy;obtain⟨z,t,hkey⟩:=hk y (Array.mem_toList_iff.mp hy);simp[DictEntry.refKey,hkey]
  have a':¬es.toList.any (·.refKey)=true:=by rw[a];exact Bool.false_ne_true
  rw[if_neg a'];exact congrArg some e
theorem ObjM.look{h:Heap}{x dx C:Addr}{mA:Str->Option Value}(I:ObjM h x dx C mA):∃od,PySem.W.InstAt h x (PySem.W.instObj C dx) C (some od)/\∀name,PySem.W.lookIn name od=some (mA name) :=
 let ⟨od,ho,hl⟩:=a7g I.ns
 ⟨od,⟨I.obj,rfl,rfl,ho⟩,hl⟩
section
variable {prog:Program}{w:World}{A:Around}{E:Value->Shared->Prop}{s:Shared}{K:PySem.W.Frag}{x dx C f:Addr}{mA:Str->Option Value}{name:Str}{v:Value}
theorem b1U{expr:Bool}{Q:Value->Shared->Prop}(X:K.In s.heap)(I:ObjM s.heap x dx C mA)(hg:PySem.W.plainGet K C name=true)(hh:PySem.W.hasDictIn K C=true)
  (ha:PySem.W.findIn K (.ref C) name=some none) (hv:mA name=some v) (hv':PySem.W.handedIn v=true) (h:Q v {s with toks:=s.toks+1}) :
  wpAny (model prog w) A (getAttr (.ref x) name expr) Q E s:=by
 obtain⟨od,J,hl⟩:=I.look;exact PySem.W.get_value X J (PySem.W.plainGet_of hg).1 (PySem.W.findObj_own hh ha rfl (by rw[hl,hv])) hv' h
theorem a9P{pl:Sem Bool}{Q:Value×List Value->Shared->Prop}(X:K.In s.heap)(I:ObjM s.heap x dx C mA)(hg:PySem.W.plainGet K C name=true)
  (hf:PySem.W.findIn K (.ref C) name=some (some (.ref f))) (ht:PySem.W.isFn K (.ref f)=true) (hv:mA name=none) (h:Q (.ref f,[.ref x]) s) :
  wpAny (model prog w) A (getMethod (.ref x) name pl) Q E s:=by
 obtain⟨od,J,hl⟩:=I.look;exact PySem.W.method_fn X J (PySem.W.plainGet_of hg).1 (PySem.W.plainGet_of hg).2 hf (beq_iff_eq.mp ht) (by show(PySem.W.lookIn name od).map (·.isSome)=some false;rw[hl,hv];rfl) h
theorem b0G{ns:List Str}{Q:Unit->Shared->Prop}(X:K.In s.heap)(I:ObjM s.heap x dx C mA)
  (hs:PySem.W.findIn K (.ref C) "__setattr__"=some (some (.builtin "object.__setattr__"))) (hp:PySem.W.plainOver K C=true) (ht:PySem.W.takerIn K C name=some none) (hh:PySem.W.hasDictIn K C=true)
  (hw:PySem.Within mA ns) (hsz:ns.length<=sizeLine)
  (h:∀h',ObjM h' x dx C (λy=>if y=name then some v else mA y)->Heap.SameBut dx s.heap h'->Q () {s with heap:=h',toks:=s.toks+2}) :
  wpAny (model prog w) A (setAttr (.ref x) name v) Q E s:=by
 obtain⟨od,J,hl⟩:=I.look;refine PySem.W.set_plain X J hs (PySem.W.osa_open (s:={s with toks:=s.toks+1}) (r:=none) X J hp ht λb=>?_);obtain⟨cd,hc,hd'⟩:=PySem.W.any_some hh;have hx:s.heap.get? x=some ⟨.ref C,some dx,.plain,#[]⟩:=I.obj;refine wpAny_bind (wpAny_pure (wpAny_bind (wpAny_bind (wpAny_loadPart hx (wpAny_bind (PySem.W.Looks.here (s:={s with toks:=s.toks+1}) (PySem.W.looks_clsIn X hc) ?_))))));rw[hd'];refine wpAny_pure (a:=some dx) (wpAny_bind (wpAny_pure (wpAny_bind ?_)));refine wpAny_nsSet1 (s:={s with toks:=s.toks+1}) I.ns λh' hn2 hs2=>?_;obtain⟨oD,esD,epD,hoD,hdD,hcD⟩:=hn2.count (PySem.Within.cons name v hw);refine wpAny_bind (wpAny_lookBehind hoD (by rw[hdD];exact pastItsLine_dict (Nat.le_trans hcD (by rw[List.length_cons];omega))) ?_);exact wpAny_pure (h _ ⟨(hs2.2 _ (Ne.symm I.ne)).trans I.obj,hn2,I.ne⟩ hs2)
theorem a9n{R:Result->Shared->Prop}{vs:List Value}{kw:List (Str×Value)}(X:K.In s.heap)(hm:PySem.W.makesIn K C=true)
  (hi:PySem.W.findIn K (.ref C) "__init__"=some (some (.ref f))) (hf:PySem.W.typeIn K (.ref f)=some (.type "function"))
  (h:codeAny (model prog w) (A.under (.builtin "type.__call__" ⟨.ref C::vs,kw⟩)) (.call (.ref f) ⟨.ref (s.heap.objs.size+1)::vs,kw⟩) (PySem.W.InitBack (s.heap.objs.size+1) R)
   {s with heap:=(s.heap.push PySem.W.emptyDict).push (PySem.W.instObj C s.heap.objs.size)}) :
  codeAny (model prog w) A (.call (.ref C) ⟨vs,kw⟩) R s:=by
 obtain⟨hh,g,d,t,os⟩:=s;exact PySem.W.make_core (PySem.W.makes_of X hm) (PySem.W.looks_findIn X hi) (λself=>PySem.W.bind_fn X self hf) (.inl rfl) h
end
noncomputable def K6(f:Str)(v:V):List (Str×V)->List (Str×V)
 |[]=>[(f,v)]
 |(g,x)::r=>if g=f then(g,v)::r else(g,x)::K6 f v r
theorem a0E(f g:Str)(v:V):∀fs:List (Str×V),(K6 f v fs).lookup g=if g=f then some v else fs.lookup g
 |[]=>by
  show List.lookup g [(f,v)]=_;by_cases h:g=f
  .have hb:(g==f)=true:=beq_iff_eq.mpr h;simp only[List.lookup,hb,if_pos h]
  .have hb:(g==f)=false:=beq_eq_false_iff_ne.mpr h;simp only[List.lookup,hb,if_neg h]
 |(k,x)::r=>by
  have ih:=a0E f g v r;rw[show K6 f v ((k,x)::r)=(if k=f then(k,v)::r else(k,x)::K6 f v r)from rfl];by_cases hk:k=f
  .rw[if_pos hk];by_cases h:g=k
   .have hb:(g==k)=true:=beq_iff_eq.mpr h;simp only[List.lookup,hb,if_pos (h.trans hk)]
   .have hb:(g==k)=false:=beq_eq_false_iff_ne.mpr h;simp only[List.lookup,hb,if_neg (λe:g=f=>h (e.trans hk.symm))]
  .rw[if_neg hk];by_cases h:g=k
   .have hb:(g==k)=true:=beq_iff_eq.mpr h;simp only[List.lookup,hb,if_neg (λe:g=f=>hk (h.symm.trans e))]
   .have hb:(g==k)=false:=beq_eq_false_iff_ne.mpr h;simp only[List.lookup,hb];exact ih
theorem a0p(f:Str)(v:V):∀fs:List (Str×V),f∈(K6 f v fs).map (·.1)/\∀g,g∈fs.map (·.1)->g∈(K6 f v fs).map (·.1)
 |[]=>⟨by simp[K6],λg h=>by simp at h⟩
 |(k,x)::r=>by
  obtain⟨i1,i2⟩:=a0p f v r;rw[show K6 f v ((k,x)::r)=(if k=f then(k,v)::r else(k,x)::K6 f v r)from rfl];by_cases hk:k=f
  .rw[if_pos hk];subst hk;exact⟨by simp,λg h=>by simpa using h⟩
  .rw[if_neg hk];refine⟨?_,λg h=>?_⟩
   .rw[List.map_cons];exact List.mem_cons_of_mem _ i1
   .rw[List.map_cons]at h⊢;rcases List.mem_cons.mp h with e|e
    .exact List.mem_cons.mpr (.inl e)
    .exact List.mem_cons_of_mem _ (i2 g e)
theorem a0F(f:Str)(v:V):∀fs:List (Str×V),(K6 f v fs).length<=fs.length+1
 |[]=>by simp[K6]
 |(k,x)::r=>by
  have ih:=a0F f v r;rw[show K6 f v ((k,x)::r)=(if k=f then(k,v)::r else(k,x)::K6 f v r)from rfl];by_cases hk:k=f
  .rw[if_pos hk,List.length_cons,List.length_cons];omega
  .rw[if_neg hk,List.length_cons,List.length_cons];omega
theorem RelO.some_of{v:V}{o:Option Value}(r:RelO (some v) o):∃u,o=some u/\RelV v u:=by
 cases o with
 |none=>exact(show False from r).elim
 |some u=>exact⟨u,rfl,r⟩
theorem RelO.none_of{o:Option Value}(r:RelO none o):o=none:=by
 cases o with
 |none=>rfl
 |some u=>exact(show False from r).elim
theorem a7p{v:V}{u:Value}(r:RelV v u):PySem.W.handedIn u=true:=by
 cases v with
 |non=>cases(show u=Value.none from r);rfl
 |bl b=>cases(show u=Value.bool b from r);rfl
 |int i=>obtain⟨t,e⟩:=(show ∃t,u=Value.int i t from r);cases e;rfl
 |str x=>obtain⟨t,e⟩:=(show ∃t,u=Value.str x t from r);cases e;rfl
 |byt b=>obtain⟨t,e⟩:=(show ∃t,u=Value.bytes b t from r);cases e;rfl
 |flt b=>obtain⟨t,e⟩:=(show ∃t,u=Value.float b t from r);cases e;rfl
 |ref a=>cases(show u=Value.ref a from r);rfl
 |ty n=>cases(show u=Value.type n from r);rfl
section
variable {P:Program}{w:World}{H H':Hp}{h h':Heap}{a C dx:Addr}{fs fs':List (Str×V)}
theorem a0Y(hok:HOk P w H h)(e:H a=some (.ins C dx fs)):∃mA,ObjM h a dx C mA/\(∀f,RelO (fs.lookup f) (mA f))/\PySem.Within mA (fs.map (·.1))/\fs.length<=1000/\H dx=some (.own a):=by
 obtain⟨d,z,ne,ob,mA,n,r,q⟩:=(show ObjOk P w H h a (.ins C dx fs)from hok a _ e);exact⟨mA,⟨ob,n,ne⟩,r,q,z,d⟩
end
structure Cls(K:PySem.W.Frag)(C:Addr):Prop where
 pg:PySem.W.plainGet K C Str.empty=true
 hd:PySem.W.hasDictIn K C=true
 po:PySem.W.plainOver K C=true
 sa:PySem.W.findIn K (.ref C) "__setattr__"=some (some (.builtin "object.__setattr__"))
theorem Cls.get{K:PySem.W.Frag}{C:Addr}(c:Cls K C)(f:Str):PySem.W.plainGet K C f=true:=c.pg
def NoAttr(K:PySem.W.Frag)(C:Addr)(f:Str):Prop:=PySem.W.findIn K (.ref C) f=some none
theorem NoAttr.taker{K:PySem.W.Frag}{C:Addr}{f:Str}(n:NoAttr K C f):PySem.W.takerIn K C f=some none:=by
 unfold PySem.W.takerIn;rw[show PySem.W.findIn K (.ref C) f=some none from n];rfl
structure Meth(K:PySem.W.Frag)(C:Addr)(m:Str)(f:Addr):Prop where
 at_:PySem.W.findIn K (.ref C) m=some (some (.ref f))
 fn:PySem.W.isFn K (.ref f)=true
 kp:PySem.W.keepIn K (.ref f)=true
section
variable {X:Cx}{pins:List (Addr×Obj)}{σ:St}{H:Hp}{s:Shared}{a C dx:Addr}{fs:List (Str×V)}{f:Str}{v:V}{A:Around}{E:Value->Shared->Prop}
theorem a5k{b:Bool}{Q:Value->Shared->Prop}(I:Inv X pins σ H s)(e:H a=some (.ins C dx fs))(c:Cls X.K C)(n:NoAttr X.K C f)(l:fs.lookup f=some v)
  (h:∀u s',Inv X pins σ H s'->RelV v u->Q u s'):wpAny (model X.prog X.w) A (getAttr (.ref a) f b) Q E s:=by
 obtain⟨mA,O,r,_,_,_⟩:=a0Y I.hok e;obtain⟨u,hu,ru⟩:=RelO.some_of (v:=v) (o:=mA f) (by rw[<-l];exact r f);exact b1U I.kIn O (c.get f) c.hd n hu (a7p ru) (h u _ (I.tok _) ru)
theorem a5j{m:Str}{g:Addr}{pl:Sem Bool}{Q:Value×List Value->Shared->Prop}(I:Inv X pins σ H s)(e:H a=some (.ins C dx fs))(c:Cls X.K C)(k:Meth X.K C m g)(l:fs.lookup m=none)
  (h:Q (.ref g,[.ref a]) s):wpAny (model X.prog X.w) A (getMethod (.ref a) m pl) Q E s:=by
 obtain⟨mA,O,r,_,_,_⟩:=a0Y I.hok e;have hn:mA m=none:=RelO.none_of (by rw[<-l];exact r m);exact a9P I.kIn O (c.get m) k.at_ k.fn hn h
theorem a4O{y:V}{u:Value}{Q:Unit->Shared->Prop}(I:Inv X pins σ H s)(e:H a=some (.ins C dx fs))(c:Cls X.K C)(n:NoAttr X.K C f)(hl:fs.length<1000)(ry:RelV y u)
  (h:∀s',Inv X pins σ (upd H a (.ins C dx (K6 f y fs))) s'->Q () s'):wpAny (model X.prog X.w) A (setAttr (.ref a) f u) Q E s:=by
 obtain⟨mA,O,r,wi,_,ho⟩:=a0Y I.hok e;have hz:(fs.map (·.1)).length<=sizeLine:=by rw[List.length_map,sizeLine_eq];omega
 refine b0G I.kIn O c.sa c.po n.taker c.hd wi hz λh' O' sb=>h _ ?_;have hd:∃o,h'.get? dx=some o:=let ⟨o,_,_,e',_⟩:=O'.ns;⟨o,e'⟩
 refine I.write (x:=a) (e:=dx) (by rw[e];exact True.intro) (.inr ho) (λb q hb z=>(sb.2 b hb).trans z) hd ?_;refine⟨by rw[A3 O.ne];exact ho,?_,O.ne,O'.obj,_,O'.ns,λg=>?_,λg hg=>?_⟩
 .have:=a0F f y fs;omega
 .show RelO ((K6 f y fs).lookup g) (if g=f then some u else mA g);rw[a0E];by_cases q:g=f
  .rw[if_pos q,if_pos q];exact ry
  .rw[if_neg q,if_neg q];exact r g
 .by_cases q:g=f
  .rw[q];exact(a0p f y fs).1
  .refine(a0p f y fs).2 g (wi g λz=>hg ?_);show(if g=f then some u else mA g)=none;rw[if_neg q];exact z
theorem Inv.made(I:Inv X pins σ H s):Inv X pins σ (upd (upd H s.heap.objs.size (.own (s.heap.objs.size+1))) (s.heap.objs.size+1) (.ins C s.heap.objs.size []))
  {s with heap:=(s.heap.push PySem.W.emptyDict).push (PySem.W.instObj C s.heap.objs.size)}:=by
 have e1:(s.heap.push PySem.W.emptyDict).get? s.heap.objs.size=some PySem.W.emptyDict:=Heap.get?_push_size s.heap rfl;have e2:((s.heap.push PySem.W.emptyDict).push (PySem.W.instObj C s.heap.objs.size)).get? (s.heap.objs.size+1)=some (PySem.W.instObj C s.heap.objs.size):=by
  have:=Heap.get?_push_size (s.heap.push PySem.W.emptyDict) (o:=PySem.W.instObj C s.heap.objs.size) rfl;rwa[Heap.size_push]at this
 have e3:(s.heap.push PySem.W.emptyDict).Ns s.heap.objs.size (λ_=>none):=⟨PySem.W.emptyDict,#[],_,e1,rfl,(λe he=>absurd he (by simp)),λ_=>rfl⟩;have I1:=I.laid (a:=s.heap.objs.size) (o:=.own (s.heap.objs.size+1)) (h':=s.heap.push PySem.W.emptyDict) (t':=s.toks) (λb u q=>Heap.get?_push_of_some _ q) (Nat.le_refl _) ⟨_,e1⟩;refine I1.laid (a:=s.heap.objs.size+1) (o:=.ins C s.heap.objs.size []) (t':=s.toks) (λb u q=>Heap.get?_push_of_some _ q) (Nat.le_of_eq (Heap.size_push _ _)) ?_;have ne:s.heap.objs.size≠s.heap.objs.size+1:=Nat.ne_of_lt (Nat.lt_succ_self _);refine⟨by rw[A3 ne,A0],Nat.zero_le _,ne,e2,λ_=>none,(Heap.Ns1.of_empty e3).at λo q=>Heap.get?_push_of_some _ q,λ_=>True.intro,λy hy=>absurd rfl hy⟩
theorem b2f{prog:Program}{w:World}{env:Env}{e:Expr}{f:Str}{pos:Pos}{s:Shared}{Q:Value->Shared->Prop}(hb:attributeBase e f env (eval e env)=eval e env)
  (h:wpAny (model prog w) A (eval e env) (λo s₁=>wpAny (model prog w) A (getAttr o f true) Q E s₁) E s):wpAny (model prog w) A (eval (.Attribute e f pos) env) Q E s :=
 Attribute_any_ h (by rw[arm_eval_Attribute,hb])
end
def b4Y(K:PySem.W.Frag)(ta:TE)(f:Str):TE:=λσ H Q=>ta σ H λx H1=>∃a C dx fs v,x=.ref a/\H1 a=some (.ins C dx fs)/\Cls K C/\NoAttr K C f/\fs.lookup f=some v/\Q v H1
def b5a(K:PySem.W.Frag)(ta tv:TE)(f:Str):TS:=λD σ H=>tv σ H λy H1=>ta σ H1 λx H2=>∃a C dx fs,x=.ref a/\H2 a=some (.ins C dx fs)/\Cls K C/\NoAttr K C f/\fs.length<1000 /\
 D.nx σ (upd H2 a (.ins C dx (K6 f y fs)))
section
variable {X:Cx}{o e value:Expr}{f:Str}{pos pos' tpos:Pos}{ta tv:TE}
theorem b3N(he:PE X e ta)(hb:attributeBase e f X.env (eval e X.env)=eval e X.env):PE X (.Attribute e f pos) (b4Y X.K ta f):=by
 intro pins s σ H Q I h;refine b2f hb (thn (he pins s σ H _ I h) λu s1 ⟨x,H1,I1,rx,a,C,dx,fs,v,ex,ea,c,n,l,q⟩=>?_);subst ex;obtain rfl:u=Value.ref a:=rx;exact a5k I1 ea c n l λu' s2 I2 ru=>⟨v,H1,I2,ru,q⟩
theorem b3A(ha:PE X o ta)(hv:PE X value tv)(hs:swapsWith value (some (.Attribute o f pos')) pos.line X.env=pure false):PS X (.Assign [.Attribute o f pos'] value pos) (b5a X.K ta tv f):=by
 intro pins s σ H D I h;refine plainObj_wpAny_Assign_Attribute (thn (hv pins s σ H _ I h) λu s1 ⟨y,H1,I1,ry,q⟩=>thn (ha pins s1 σ H1 _ I1 q) λov s2 ⟨x,H2,I2,rx,a,C,dx,fs,ex,ea,c,n,l,q2⟩=>?_) hs;subst ex;obtain rfl:ov=Value.ref a:=rx;exact a4O I2 ea c n l ry λs3 I3=>⟨σ,_,I3,q2⟩
end
section
variable {X:Cx}{pins:List (Addr×Obj)}{σ:St}{H:Hp}{s:Shared}{A:Around}{E:Value->Shared->Prop}{Q:Value->Shared->Prop}{c:Value}{b:Bool}
inductive TyOf(K:PySem.W.Frag)(H:Hp):V->Value->Prop where
 |non:TyOf K H .non (.type "NoneType")
 |bl (x:Bool):TyOf K H (.bl x) (.type "bool")
 |int (i:Int):TyOf K H (.int i) (.type "int")
 |str (x:Str):TyOf K H (.str x) (.type "str")
 |flt (x:UInt64):TyOf K H (.flt x) (.type "float")
 |lst {a:Addr}{xs:List V}(e:H a=some (.lst xs)):TyOf K H (.ref a) (.type "list")
 |frz {a:Addr}{o:Obj}{xs:List V}(e:H a=some (.frz o (.lst xs))):TyOf K H (.ref a) (.type "list")
 |tup {a:Addr}{xs:List V}(e:H a=some (.tup xs)):TyOf K H (.ref a) (.type "tuple")
 |dK {a:Addr}{kvs:List (Key×V)}(e:H a=some (.dK kvs)):TyOf K H (.ref a) (.type "dict")
 |dT {a:Addr}{kvs:List (List Key×V)}(e:H a=some (.dT kvs)):TyOf K H (.ref a) (.type "dict")
 |ins {a C dx:Addr}{fs:List (Str×V)}(e:H a=some (.ins C dx fs)) (cl:Cls K C) (ha:PySem.W.findIn K (.ref C) "__class__"=some (some (.builtin "object.__class__")))
   (hn:PySem.W.specialIn K (.builtin "object.__class__") "__get__"=some (some (.builtin "getset_descriptor.__get__"))) (htk:PySem.W.takesIn K (.builtin "object.__class__")=some true)
   (hm:PySem.W.mroIn K C (.type "object")=some true):TyOf K H (.ref a) (.ref C)
theorem a7m{x:V}{u t:Value}(I:Inv X pins σ H s)(rx:RelV x u)(ty:TyOf X.K H x t)(e:PySem.W.kitOne X.K t c=some b)(h:∀tk,Q (.bool b) {s with toks:=tk}) :
  wpAny (model X.prog X.w) A (call (.builtin "isinstance") [u,c]) Q E s:=by
 cases ty with
 |non=>cases(show u=Value.none from rx);exact PySem.W.kia_one PySem.W.kitx_none I.kIn True.intro e (λz=>nomatch z) h
 |bl y=>cases(show u=Value.bool y from rx);exact PySem.W.kia_one PySem.W.kitx_bool I.kIn True.intro e (λz=>nomatch z) h
 |int i=>obtain⟨t,q⟩:=(show ∃t,u=Value.int i t from rx);cases q;exact PySem.W.kia_one PySem.W.kitx_int I.kIn True.intro e (λz=>nomatch z) h
 |str y=>obtain⟨t,q⟩:=(show ∃t,u=Value.str y t from rx);cases q;exact PySem.W.kia_one PySem.W.kitx_str I.kIn True.intro e (λz=>nomatch z) h
 |flt y=>obtain⟨t,q⟩:=(show ∃t,u=Value.float y t from rx);cases q;exact PySem.W.kia_one PySem.W.kitx_float I.kIn True.intro e (λz=>nomatch z) h
 |@lst a xs ea =>
  cases(show u=Value.ref a from rx);obtain⟨_,_,n,_,h1⟩:=(show ObjOk X.prog X.w H s.heap a (.lst xs)from I.hok a _ ea);exact PySem.W.kia_one PySem.W.kitx_list I.kIn ⟨_,h1,rfl⟩ e (λz=>nomatch z) h
 |@frz a ob xs ea =>
  cases(show u=Value.ref a from rx);obtain⟨_,_,_,n,_,h1⟩:=(show ObjOk X.prog X.w H s.heap a (.frz ob (.lst xs))from I.hok a _ ea);exact PySem.W.kia_one PySem.W.kitx_list I.kIn ⟨_,h1,rfl⟩ e (λz=>nomatch z) h
 |@tup a xs ea =>
  cases(show u=Value.ref a from rx);obtain⟨_,_,_,p⟩:=(show ObjOk X.prog X.w H s.heap a (.tup xs)from I.hok a _ ea);obtain⟨o,h1,h2,_⟩:=p;exact PySem.W.kia_one PySem.W.kitx_tuple I.kIn ⟨o,h1,h2⟩ e (λz=>nomatch z) h
 |@dK a kvs ea =>
  cases(show u=Value.ref a from rx);obtain⟨_,_,vs,_,p⟩:=(show ObjOk X.prog X.w H s.heap a (.dK kvs)from I.hok a _ ea);obtain⟨o,es,ep,h1,h2,_⟩:=p;exact PySem.W.kia_one PySem.W.kitx_dict I.kIn ⟨o,h1,h2.1⟩ e (λz=>nomatch z) h
 |@dT a kvs ea =>
  cases(show u=Value.ref a from rx);obtain⟨_,_,xs,_,o,es,ep,h1,h2,_⟩:=(show ObjOk X.prog X.w H s.heap a (.dT kvs)from I.hok a _ ea);exact PySem.W.kia_one PySem.W.kitx_dict I.kIn ⟨o,h1,h2.1⟩ e (λz=>nomatch z) h
 |@ins a C dx fs ea cl ha hn htk hm =>
  cases(show u=Value.ref a from rx);obtain⟨mA,O,_⟩:=a0Y I.hok ea;obtain⟨od,J,_⟩:=O.look;exact PySem.W.kia_one (PySem.W.kitx_own (cl.get _) cl.hd ha hn htk hm) I.kIn J e (λz=>nomatch z) h
end
structure Room(k:Nat)(A:Around):Prop where
 hd:A.handled=none
 dp:A.depth+3*k+5<recursionLimit
 un:A.units+16*k+200<cLine
theorem Room.mono{j k:Nat}{A:Around}(r:Room k A)(h:j<=k):Room j A:=⟨r.hd,by have:=r.dp;omega,by have:=r.un;omega⟩
theorem Room.deeper{k:Nat}{A:Around}(r:Room (k+1) A)(env:Env):Room k (A.deeper env) :=
 ⟨r.hd,by have:=r.dp;show A.depth+1+3*k+5<_;omega,by have:=r.un;show A.units+3+16*k+200<_;omega⟩
theorem a5a{A:Around}{C:Addr}{us:List Value}{kw:List (Str×Value)}:(A.under (.builtin "type.__call__" ⟨.ref C::us,kw⟩)).depth=A.depth+1:=by
 first|rfl|simp[Around.under,Code.weight,Code.isCreation,Code.isGuard,Code.isCaller,Code.frames,Code.isFrame,guardIds]
theorem a4Z{A:Around}{C:Addr}{us:List Value}{kw:List (Str×Value)}:(A.under (.builtin "type.__call__" ⟨.ref C::us,kw⟩)).units=A.units+1:=by
 first|rfl|simp[Around.under,Code.cUnits,Code.frames,Code.isFrame]
theorem Room.make{k:Nat}{A:Around}(r:Room (k+1) A)(C:Addr)(us:List Value)(kw:List (Str×Value)):Room k (A.under (.builtin "type.__call__" ⟨.ref C::us,kw⟩)) :=
 ⟨r.hd,by have:=r.dp;rw[a5a];omega,by have:=r.un;rw[a4Z];omega⟩
theorem Room.depth{k:Nat}{A:Around}(r:Room k A):A.depth<recursionLimit:=by have:=r.dp;omega
def a4K:TA:=λ_ H Q=>Q [] H
def a1n(ta:TE)(tr:TA):TA:=λσ H Q=>ta σ H λx H1=>tr σ H1 λxs H2=>Q (x::xs) H2
section
variable {X:Cx}{e:Expr}{es:List Expr}{te:TE}{t:TA}{pos:Pos}
theorem b3S:PA X [] a4K:=λ_ _ _ _ H Q I h=>Calls.spliced_nil ⟨[],H,I,.nil,h⟩
theorem b1q(ha:PE X e te)(hr:PA X es t)(hs:starEach (e::es) X.env=(false,eval e X.env)::starEach es X.env:=by rfl):PA X (e::es) (a1n te t):=by
 intro pos pins s σ H Q I h;rw[hs];show wpAny _ _ (spliced ((false,eval e X.env)::backTo pos (starEach es X.env))) _ _ s;refine Calls.spliced_cons (thn (ha pins s σ H _ I h) λu s1 ⟨x,H1,I1,r1,q1⟩=>?_);exact thn (hr pos pins s1 σ H1 _ I1 q1) λus s2 ⟨xs,H2,I2,r2,q2⟩=>⟨x::xs,H2,I2,.cons r1 r2,q2⟩
def b0B(t:TA):TE:=λσ H Q=>t σ H λxs H1=>xs.length<=sizeLine/\∀p,H1 p=none->Q (.ref p) (upd H1 p (.tup xs))
def b3h(t:TA):TE:=λσ H Q=>t σ H λxs H1=>xs.length<=sizeLine/\∀p,H1 p=none->Q (.ref p) (upd H1 p (.lst xs))
theorem b3G{x1}(h:PA X es t):PE X (.Tuple es x1 pos) (b0B t):=by
 intro pins s σ H Q I hq;refine wpAny_Tuple_spliced (thn (h pos pins s σ H _ I hq) λus s1 ⟨xs,H1,I1,r,z,q⟩=>⟨by rw[<-r.length];exact z,?_⟩);have hf:H1 s1.heap.objs.size=none:=I1.hok.fresh (Nat.le_refl _);refine⟨.ref s1.heap.objs.size,upd H1 s1.heap.objs.size (.tup xs),I1.laid (t':=s1.toks) (λb u e=>Heap.get?_push_of_some _ e) (Nat.le_refl _) ?_,rfl,q _ hf⟩;exact⟨z,us,r,⟨_,Heap.get?_push_size _ rfl,rfl,_,rfl⟩⟩
theorem b3L(h:PA X es t):PE X (.List es pos) (b3h t):=by
 intro pins s σ H Q I hq;refine wpAny_List_spliced (thn (h pos pins s σ H _ I hq) λus s1 ⟨xs,H1,I1,r,z,q⟩=>⟨by rw[<-r.length];exact z,?_⟩);have hf:H1 s1.heap.objs.size=none:=I1.hok.fresh (Nat.le_refl _);refine⟨.ref s1.heap.objs.size,upd H1 s1.heap.objs.size (.lst xs),I1.laid (t':=s1.toks) (λb u e=>Heap.get?_push_of_some _ e) (Nat.le_refl _) ?_,rfl,q _ hf⟩;exact⟨z,us,0,r,Heap.get?_push_size _ rfl⟩
end
abbrev Sp:=List V->Hp->VK->XK->Prop
abbrev CXT:=List Env->Hp->Shared->XK->Value->Shared->Prop
structure Env0(P:Program)(w:World)(K:PySem.W.Frag)(mg:Str->Option Value)(base:Heap)(A:Around)(outer:List Env)(s:Shared)(H:Hp):Prop where
 frames:A.frames=some outer
 mod:Mod K mg base
 bs:∀b o,base.get? b=some o->s.heap.get? b=some o/\H b=none
 bsz:base.objs.size<=s.heap.objs.size
 funs:s.heap.FunFrames base outer
 frf:∀b∈frs outer,H b=none
 hok:HOk P w H s.heap
 bare:AllBare s.gens
def CE(outer:List Env)(P:Program)(w:World)(H:Hp)(s:Shared)(Q:VK)(u:Value)(s':Shared):Prop :=
 ∃v H',s'.os=s.os/\AllBare s'.gens/\Un (frs outer) [] H H' s.heap s'.heap/\HOk P w H' s'.heap/\RelV v u/\Q v H'
def CR(CX:CXT)(outer:List Env)(P:Program)(w:World)(H:Hp)(s:Shared)(Q:VK)(E:XK)(r:Result)(s':Shared):Prop :=
 match r with
 |.ok (.ret u)=>CE outer P w H s Q u s'
 |.ok _=>False
 |.error e=>CX outer H s E e s'
structure FnOk(P:Program)(w:World)(K:PySem.W.Frag)(mg:Str->Option Value)(base:Heap)(CX:CXT)(k:Nat)(f:Addr)(fd:FuncData)(ps:List Str)(sp:Sp):Prop where
 len:∀vs H Q E,sp vs H Q E->vs.length=ps.length
 run:∀(A:Around) (outer:List Env) (s:Shared) (H:Hp) (args:Args) (us:List Value) (vs:List V) (Q:VK) (E:XK),Room k A->Env0 P w K mg base A outer s H->BindsTo s fd args (ps.zip us)->Vals vs us->sp vs H Q E ->
  codeAny (model P w) A (.call (.ref f) args) (CR CX outer P w H s Q E) s
theorem Env0.make{P:Program}{w:World}{K:PySem.W.Frag}{mg:Str->Option Value}{base:Heap}{A:Around}{outer:List Env}{s:Shared}{H:Hp}(e:Env0 P w K mg base A outer s H)(C:Addr)(us:List Value)(kw:List (Str×Value)) :
  Env0 P w K mg base (A.under (.builtin "type.__call__" ⟨.ref C::us,kw⟩)) outer s H:=⟨by first|exact e.frames | (simpa[Around.under,Code.envs,Code.isFrame,pushEnvs]using e.frames),e.mod,e.bs,e.bsz,e.funs,e.frf,e.hok,e.bare⟩
section
variable {X:Cx}{pins:List (Addr×Obj)}{σ:St}{H:Hp}{s s':Shared}
theorem Inv.env0(I:Inv X pins σ H s):Env0 X.prog X.w X.K X.mg X.base X.A X.stack s H :=
 ⟨I.ok.frames,I.ok.mod,I.bs,Nat.le_trans I.ok.bsz I.sz,I.stack,I.stkFree,I.hok,I.bare⟩
theorem Inv.after{Q:VK}{u:Value}(I:Inv X pins σ H s)(h:CE X.stack X.prog X.w H s Q u s'):EP X pins σ Q u s':=by
 obtain⟨v,H',os,bare,un,hok,r,q⟩:=h;obtain⟨hh,g,d,t,os'⟩:=s';obtain rfl:os'=s.os:=os;exact⟨v,H',I.call (h':=hh) (g':=g) (d':=d) (t':=t) (ch:=[]) un hok bare (λb z=>absurd z (by simp)),r,q⟩
end
def a3J(sp:Sp)(dvs:List V)(E:XK)(t:TA):TE:=λσ H Q=>t σ H λvs H1=>sp (vs++dvs) H1 Q E
def a8j(C:Addr)(m:Str)(sp:Sp)(dvs:List V)(E:XK)(ta:TE)(t:TA):TE:=λσ H Q=>ta σ H λx H1=>∃a dx fs,x=.ref a/\H1 a=some (.ins C dx fs)/\fs.lookup m=none /\
 t σ H1 λvs H2=>sp (x::(vs++dvs)) H2 Q E
def b2o(C:Addr)(sp:Sp)(dvs:List V)(E:XK)(t:TA):TE:=λσ H Q=>t σ H λvs H1=>∀x dx,H1 x=none->H1 dx=none->dx≠x ->
 sp (.ref x::(vs++dvs)) (upd (upd H1 dx (.own x)) x (.ins C dx [])) (λv H2=>v=.non/\Q (.ref x) H2) E
def Binds(K:PySem.W.Frag)(fd:FuncData)(ps:List Str)(ds:List Value):Prop :=
 ∀(s:Shared) (us:List Value),K.In s.heap->(us++ds).length=ps.length->BindsTo s fd ⟨us,[]⟩ (ps.zip (us++ds))
theorem Binds.all{K:PySem.W.Frag}{fd:FuncData}{ps:List Str}(h:∀us:List Value,us.length=ps.length->bindArgs fd ⟨us,[]⟩=pure (ps.zip us)):Binds K fd ps []:=λs us _ hl=>by
 rw[List.append_nil]at hl⊢;exact .of_eq (h us hl)
def X4(CX:CXT)(X:Cx)(E:XK):Prop:=∀(pins:List (Addr×Obj)) (σ:St) (H:Hp) (s:Shared) (e:Value) (s':Shared),Inv X pins σ H s->CX X.stack H s E e s'->X.xe e s'
section
variable {X:Cx}{CX:CXT}{k:Nat}{f C:Addr}{fd:FuncData}{ps:List Str}{sp:Sp}{dvs:List V}{ds:List Value}{E:XK}{x m:Str}{p pos apos:Pos}{e o:Expr}{es:List Expr}{ta:TE}{t:TA}
theorem a8z{pins:List (Addr×Obj)}{σ:St}{H:Hp}{s:Shared}{Q:VK}{us:List Value}{vs:List V}(F:FnOk X.prog X.w X.K X.mg X.base CX k f fd ps sp)(hr:Room k X.A)(hb:Binds X.K fd ps ds)(hd:Vals dvs ds)(hx:X4 CX X E)
  (I:Inv X pins σ H s) (r:Vals vs us) (h:sp (vs++dvs) H Q E):wpAny (model X.prog X.w) X.A (call (.ref f) us) (EP X pins σ Q) X.xe s:=by
 have r2:Vals (vs++dvs) (us++ds):=r.append hd;have hl:(us++ds).length=ps.length:=by rw[<-r2.length];exact F.len _ _ _ _ h
 refine wpAny_call (codeAny_mono (F.run X.A X.stack s H ⟨us,[]⟩ (us++ds) (vs++dvs) Q E hr I.env0 (hb s us I.kIn hl) r2 h) λr s' hq=>?_);cases r with
 |error e=>exact hx pins σ H s e s' I hq
 |ok fl =>
  cases fl with
  |ret u=>exact I.after hq
  |next=>exact False.elim hq
  |brk=>exact False.elim hq
  |cont=>exact False.elim hq
theorem b1o(F:FnOk X.prog X.w X.K X.mg X.base CX k f fd ps sp)(hr:Room k X.A)(hg:Gl X x)(hm:X.mg x=some (.ref f))(hk:PySem.W.keepIn X.K (.ref f)=true)(hb:Binds X.K fd ps ds)(hd:Vals dvs ds)(hx:X4 CX X E)
  (ha:PA X (e::es) t) (hdb:(x==("__debug__" : Str))=false:=by decide) (he:starEach (e::es) X.env=(false,eval e X.env)::starEach es X.env:=by rfl) (hpl:(backTo pos (starEach es X.env)).any (·.1)=false:=by rfl) :
  PE X (.Call (.Name x p) (e::es) [] pos) (a3J sp dvs E t):=by
 intro pins s σ H Q I h;refine wpAny_Call_Name_kw (V1 I hg hm ?_ hdb);refine PySem.W.callWith_K (h₀:=X.base) I.ok.mod.kin hk (thn (ha pos pins s σ H _ I h) λus s1 ⟨vs,H1,I1,r,q⟩=>⟨I1.kIn,?_⟩) he hpl;exact a8z F hr hb hd hx I1 r q
theorem a6a{pl:Sem Bool}(he:PE X o ta)(c:Cls X.K C)(hm:Meth X.K C m f)(F:FnOk X.prog X.w X.K X.mg X.base CX k f fd ps sp)(hr:Room k X.A)(hb:Binds X.K fd ps ds)(hd:Vals dvs ds)(hx:X4 CX X E)(ha:PA X (e::es) t)
  (hst:starEach (e::es) X.env=(false,eval e X.env)::starEach es X.env:=by rfl) (hpl:(backTo pos (starEach es X.env)).any (·.1)=false:=by rfl)
  (ht:eval (.Call (.Attribute o m apos) (e::es) [] pos) X.env=(do
   let ov <-eval o X.env
   standAt apos.atName
   let (f,first) <-holding [ov] (getMethod ov m pl)
   callWith pos f first (backTo pos (starEach (e::es) X.env)) (backToKw pos (keywordEach [] X.env))):=by rfl) :
  PE X (.Call (.Attribute o m apos) (e::es) [] pos) (a8j C m sp dvs E ta t):=by
 intro pins s σ H Q I h;refine PySem.W.methodCall_KW (pl:=pl) (thn (he pins s σ H _ I h) λu s1 ⟨x,H1,I1,rx,a,dx,fs,ex,ea,l,q⟩=>?_) ht;subst ex;obtain rfl:u=Value.ref a:=rx;refine a5j I1 ea c hm l ?_;refine PySem.W.callWith_K (first:=[.ref a]) (h₀:=X.base) I.ok.mod.kin hm.kp (thn (ha pos pins s1 σ H1 _ I1 q) λus s2 ⟨vs,H2,I2,r,q2⟩=>⟨I2.kIn,?_⟩) hst hpl;exact a8z (us:=.ref a::us) (vs:=.ref a::vs) F hr hb hd hx I2 (.cons rfl r) q2
structure Mk(K:PySem.W.Frag)(C f:Addr):Prop where
 makes:PySem.W.makesIn K C=true
 init:PySem.W.findIn K (.ref C) "__init__"=some (some (.ref f))
 fn:PySem.W.isFn K (.ref f)=true
 kp:PySem.W.keepIn K (.ref C)=true
theorem a8y{pins:List (Addr×Obj)}{σ:St}{H:Hp}{s:Shared}{Q:VK}{us:List Value}{vs:List V}(M:Mk X.K C f)(F:FnOk X.prog X.w X.K X.mg X.base CX k f fd ps sp)(hr:Room (k+1) X.A)(hb:Binds X.K fd ps ds)(hd:Vals dvs ds)
  (hx:X4 CX X E) (I:Inv X pins σ H s) (r:Vals vs us)
  (h:∀x dx,H x=none->H dx=none->dx≠x->sp (.ref x::(vs++dvs)) (upd (upd H dx (.own x)) x (.ins C dx [])) (λv H2=>v=.non/\Q (.ref x) H2) E) :
  wpAny (model X.prog X.w) X.A (call (.ref C) us) (EP X pins σ Q) X.xe s:=by
 have hq:=h (s.heap.objs.size+1) s.heap.objs.size (I.hok.fresh (Nat.le_succ _)) (I.hok.fresh (Nat.le_refl _)) (Nat.ne_of_lt (Nat.lt_succ_self _));have I2:=Inv.made (C:=C) I;have r2:Vals (V.ref (s.heap.objs.size+1)::(vs++dvs)) (Value.ref (s.heap.objs.size+1)::(us++ds)):=.cons rfl (r.append hd);have hl:(Value.ref (s.heap.objs.size+1)::us++ds).length=ps.length:=by
  have e:=r2.length;rw[F.len _ _ _ _ hq]at e;exact e.symm
 refine wpAny_call (a9n (f:=f) I.kIn M.makes M.init (beq_iff_eq.mp M.fn) (codeAny_mono (F.run _ X.stack _ _ ⟨Value.ref (s.heap.objs.size+1)::us,[]⟩ (Value.ref (s.heap.objs.size+1)::(us++ds)) _ _ E (hr.make C us [])
  (I2.env0.make C us []) (hb _ (Value.ref (s.heap.objs.size+1)::us) I2.kIn hl) r2 hq) λr s' hq'=>?_))
 cases r with
 |error e=>exact hx pins σ _ _ e s' I2 hq'
 |ok fl =>
  cases fl with
  |ret u =>
   obtain⟨v,H',I3,rv,ev,q3⟩:=I2.after hq';subst ev;exact⟨rv,⟨V.ref (s.heap.objs.size+1),H',I3,rfl,q3⟩⟩
  |next=>exact False.elim hq'
  |brk=>exact False.elim hq'
  |cont=>exact False.elim hq'
theorem b1k(M:Mk X.K C f)(F:FnOk X.prog X.w X.K X.mg X.base CX k f fd ps sp)(hr:Room (k+1) X.A)(hg:Gl X x)(hm:X.mg x=some (.ref C))(hb:Binds X.K fd ps ds)(hd:Vals dvs ds)(hx:X4 CX X E)
  (ha:PA X (e::es) t) (hdb:(x==("__debug__" : Str))=false:=by decide) (he:starEach (e::es) X.env=(false,eval e X.env)::starEach es X.env:=by rfl) (hpl:(backTo pos (starEach es X.env)).any (·.1)=false:=by rfl) :
  PE X (.Call (.Name x p) (e::es) [] pos) (b2o C sp dvs E t):=by
 intro pins s σ H Q I h;refine wpAny_Call_Name_kw (V1 I hg hm ?_ hdb);refine PySem.W.callWith_K (h₀:=X.base) I.ok.mod.kin M.kp (thn (ha pos pins s σ H _ I h) λus s1 ⟨vs,H1,I1,r,q⟩=>⟨I1.kIn,?_⟩) he hpl;exact a8y M F hr hb hd hx I1 r q
end
section
variable {X:Cx}{CX:CXT}{k:Nat}{f C:Addr}{fd:FuncData}{ps ks:List Str}{sp:Sp}{E:XK}{x m:Str}{p pos apos kpos:Pos}{e o:Expr}{es:List Expr}{kws:List Keyword}{te ta:TE}{t tk:TA}{nm:Option Str}
variable {g:List Value->List Value->List Value}{gV:List V->List V->List V}
end
structure FnScope(N P:List Str)(sc:Scope):Prop where
 kind:sc.kind=.function
 co:sc.isCoroutine=false
 gen:sc.isGenerator=false
 nd:N.Nodup
 pre:N.take P.length=P
 par:∀x∈P,sc.names.lookup x=some .local∨sc.names.lookup x=some .cell
 nofree:∀y∈sc.names,y.2≠.free
theorem a2E{kindOf:Str->Option NameKind}{x:Str}:∀{binds:List (Str×Value)}{m:Str->Option Value},(∀v,(x,v)∉binds)->bindL kindOf binds m x=m x
 |[],_,_=>rfl
 |(n,v)::r,m,h=>by
  unfold bindL;rw[a2E λw hw=>h w (List.mem_cons_of_mem _ hw)];split
  .have:x≠n:=by rintro rfl;exact h v List.mem_cons_self
   simp[this]
  .rfl
theorem a2G{kindOf:Str->Option NameKind}{x:Str}:∀{binds:List (Str×Value)}{m:Str->Option Value},(∀v,(x,v)∉binds)->bindC kindOf binds m x=m x
 |[],_,_=>rfl
 |(n,v)::r,m,h=>by
  unfold bindC;rw[a2G λw hw=>h w (List.mem_cons_of_mem _ hw)];split
  .rfl
  .have:x≠n:=by rintro rfl;exact h v List.mem_cons_self
   simp[this]
theorem a2F{kindOf:Str->Option NameKind}{x:Str}{v:Value}:∀{P:List Str}{vs:List Value}{i:Nat}{m:Str->Option Value},P.Nodup->P[i]?=some x->vs[i]?=some v->kindOf x=some .local ->
  bindL kindOf (P.zip vs) m x=some v
 |[],_,_,_,_,h,_,_=>by simp at h
 |_::_,[],_,_,_,_,h,_=>by simp at h
 |p::P,w::vs,0,m,nd,h1,h2,hk=>by
  simp at h1 h2;subst h1;subst h2;show bindL kindOf ((p,w)::P.zip vs) m p=_;unfold bindL;rw[a2E λv hv=>(List.nodup_cons.mp nd).1 (List.of_mem_zip hv).1,if_pos hk];simp
 |p::P,w::vs,i+1,m,nd,h1,h2,hk=>by
  show bindL kindOf ((p,w)::P.zip vs) m x=_;unfold bindL;exact a2F (i:=i) (List.nodup_cons.mp nd).2 (by simpa using h1) (by simpa using h2) hk
theorem a2H{kindOf:Str->Option NameKind}{x:Str}{v:Value}:∀{P:List Str}{vs:List Value}{i:Nat}{m:Str->Option Value},P.Nodup->P[i]?=some x->vs[i]?=some v->kindOf x≠some .local ->
  bindC kindOf (P.zip vs) m x=some v
 |[],_,_,_,_,h,_,_=>by simp at h
 |_::_,[],_,_,_,_,h,_=>by simp at h
 |p::P,w::vs,0,m,nd,h1,h2,hk=>by
  simp at h1 h2;subst h1;subst h2;show bindC kindOf ((p,w)::P.zip vs) m p=_;unfold bindC;rw[a2G λv hv=>(List.nodup_cons.mp nd).1 (List.of_mem_zip hv).1,if_neg hk];simp
 |p::P,w::vs,i+1,m,nd,h1,h2,hk=>by
  show bindC kindOf ((p,w)::P.zip vs) m x=_;unfold bindC;exact a2H (i:=i) (List.nodup_cons.mp nd).2 (by simpa using h1) (by simpa using h2) hk
noncomputable def start(N:List Str)(vs:List V):St:=vs.map some++List.replicate (N.length-vs.length) none
noncomputable def G2(CX:CXT)(P:Program)(w:World)(K:PySem.W.Frag)(mg:Str->Option Value)(base:Heap)(N:List Str)(qual:Str)(scope:Scope)(f:Addr)(cd:Value)(A:Around)(outer:List Env)(s:Shared)(H:Hp)(E:XK):Cx where
 prog:=P
 w:=w
 K:=K
 mg:=mg
 base:=base
 A:=A.deeper (envOfC qual scope s.heap.objs.size f cd)
 N:=N
 s₀:=s
 H₀:=H
 env:=envOfC qual scope s.heap.objs.size f cd
 outer:=outer
 stack:=envOfC qual scope s.heap.objs.size f cd::outer
 ex:=[]
 calm:=true
 fn:=λ_=>true
 pn:=[]
 xe:=λe s'=>wpAny (model P w) (A.deeper (envOfC qual scope s.heap.objs.size f cd)) (leaving (envOfC qual scope s.heap.objs.size f cd) e) (λ_ s''=>CX outer H s E e s'') (λe' s''=>CX outer H s E e' s'') s'
theorem a4w{sc:Scope}{n:Nat}{x:Str}(h:sc.names.lookup x=some .cell):∃c,(cellsFrom n sc.names []).lookup x=some c:=by
 have q:=PySem.W.cellsFrom_some sc.names n [] (.inl h);exact Option.isSome_iff_exists.mp q
theorem a7n{CX:CXT}{P:Program}{w:World}{K:PySem.W.Frag}{mg:Str->Option Value}{base:Heap}{N ps:List Str}{qual:Str}{scope:Scope}{f:Addr}{cd:Value}{A:Around}{outer:List Env}{s s1:Shared}{H:Hp}{E:XK}{us:List Value}{vs:List V}
  (S:FnScope N ps scope) (hd:A.handled=none) (e0:Env0 P w K mg base A outer s H) (hl:vs.length=ps.length) (r:Vals vs us)
  (x:InCallC s s.heap.objs.size (bindL (envOfC qual scope s.heap.objs.size f cd).kindOf (ps.zip us) λ_=>none) (cellsFrom (s.heap.objs.size+1) scope.names []) (bindC (envOfC qual scope s.heap.objs.size f cd).kindOf (ps.zip us) λ_=>none) s1) :
  Inv (G2 CX P w K mg base N qual scope f cd A outer s H E) [] (start N vs) H s1:=by
 have hpl:ps.length<=N.length:=by have:=congrArg List.length S.pre;rw[List.length_take]at this;omega
 obtain⟨h1,tk,rfl,hk⟩:=x.done;have noA:∀b:Addr,b∉(G2 CX P w K mg base N qual scope f cd A outer s H E).ex:=λb z=>absurd (show b∈([]:List Addr)from z) (by simp);refine⟨⟨e0.mod,S.kind,rfl,rfl,Nat.le_refl _,λy z c h1 h2=>?_,λy hy=>?_,λy c _ h=>?_,λ_=>hd,Around.frames_deeper e0.frames,.inr ⟨rfl,rfl⟩,λb z=>absurd z (noA b),e0.bs,e0.bsz,λb _ _=>noA b,λb z=>absurd z (noA b),e0.funs,e0.frf⟩,
  rfl,e0.bare,Un.kept hk,⟨_,x.toInCall.ns,λi y v h1 h2 h3=>?_⟩,λy c h=>⟨_,x.cell y c h⟩,e0.hok.fresh (Nat.le_refl _),λy c h=>?_,λp hp=>absurd (show p∈([]:List (Addr×Obj))from hp) (by simp),e0.hok.kept hk,?_⟩
 .exact name_of_addr x.apart (PySem.mem_of_lookup h1) (PySem.mem_of_lookup h2)
 .have hy:scope.names.lookup y=some .cell∨scope.names.lookup y=some .free:=hy;rcases hy with hy|hy
  .exact a4w hy
  .exact absurd rfl (S.nofree _ (PySem.mem_of_lookup hy))
 .exact Nat.le_of_lt (x.above y c (PySem.mem_of_lookup h))
 .have hi:i<vs.length:=by
   unfold start at h2;by_cases hi:i<vs.length
   .exact hi
   .rw[List.getElem?_append_right (by simpa using hi)]at h2;rw[List.getElem?_replicate]at h2;split at h2<;>cases h2
  have ha:vs[i]?=some v:=by
   unfold start at h2;rw[List.getElem?_append_left (by simpa using hi),List.getElem?_map]at h2;cases e:vs[i]? with
   |none=>rw[e]at h2;cases h2
   |some a=>rw[e]at h2;cases h2;rfl
  obtain⟨u,hu,rv⟩:=r.get ha;have hp:ps[i]?=some y:=by
   rw[<-S.pre,List.getElem?_take_of_lt (by omega)];exact h1
  have ndP:ps.Nodup:=by rw[<-S.pre];exact S.nd.sublist (List.take_sublist _ _)
  refine⟨u,rv,?_⟩;rcases S.par y (List.mem_of_getElem? hp)with k|k
  .exact .inl ⟨k,a2F ndP hp hu k⟩
  .obtain⟨c,e⟩:=a4w (n:=s.heap.objs.size+1) k;refine .inr ⟨.inl k,c,e,?_⟩;have q:=x.cell y c e;rw[a2H ndP hp hu (by show scope.names.lookup y≠_;rw[k];decide)]at q;exact q
 .exact e0.hok.fresh (Nat.le_of_lt (x.above y c (PySem.mem_of_lookup h)))
 .unfold start;show _=N.length;rw[List.length_append,List.length_map,List.length_replicate];omega
theorem a9R{CX:CXT}{P:Program}{w:World}{K:PySem.W.Frag}{mg:Str->Option Value}{base:Heap}{k:Nat}{f:Addr}{name qual:Str}{params:Arguments}{body:List Stmt}{scope:Scope}{dV kV doc pm cdv ct oc:Value}{an od:Option Addr}
  {osl:Array (Option Value)}{N ps:List Str}{sp:Sp}(lk:K.lookup f=some ⟨oc,od,.func (PySem.W.fnOf name qual params body scope dV kV doc pm an cdv ct),osl⟩) (hcd:PySem.W.codeIn K cdv qual=true) (S:FnScope N ps scope)
  (len:∀vs H Q E,sp vs H Q E->vs.length=ps.length)
  (hbody:∀(A:Around) (outer:List Env) (s:Shared) (H:Hp) (vs:List V) (Q:VK) (E:XK),Room k (A.deeper (envOfC qual scope s.heap.objs.size f cdv))->sp vs H Q E ->
   ∃t,PSs (G2 CX P w K mg base N qual scope f cdv A outer s H E) body t/\t {nx:=λ_ H'=>Q .non H',rt:=Q} (start N vs) H) :
  FnOk P w K mg base CX (k+1) f (PySem.W.fnOf name qual params body scope dV kV doc pm an cdv ct) ps sp:=by
 refine⟨len,λA outer s H args us vs Q E hr e0 hb r hsp=>?_⟩;have hl:=len _ _ _ _ hsp;have KX:K.In s.heap:=e0.mod.kin.keeps λb o e=>(e0.bs b o e).1;have lim:s.heap.NoLimit:=e0.mod.nolimit.keeps λb o e=>(e0.bs b o e).1;have hkind:∀y∈ps.zip us,scope.names.lookup y.1=some .local∨(scope.names.lookup y.1=some .cell/\((cellsFrom (s.heap.objs.size+1) scope.names []).lookup y.1).isSome=true):=λ⟨n,v⟩ hy=>by
  rcases S.par n (List.of_mem_zip hy).1 with q|q
  .exact .inl q
  .exact .inr ⟨q,PySem.W.cellsFrom_some _ _ _ (.inl q)⟩
 refine codeAny_call_function hr.depth (KX _ _ lk) rfl S.co S.gen rfl (PySem.W.codeRec_of KX hcd) (hb _ _ _ _ ?_);refine wpAny_newFunctionEnv_cells S.kind hkind λenv he s1 x=>?_;subst he;refine⟨lim.keeps x.toInCall.keep,codeAny_func ?_⟩;obtain⟨t,ht,hq⟩:=hbody A outer s H vs Q E (hr.deeper _) hsp;have I:Inv (G2 CX P w K mg base N qual scope f cdv A outer s H E) [] (start N vs) H s1:=a7n S hr.hd e0 hl r x;refine wpAny_mono (ht [] s1 (start N vs) H _ I hq) (λfl s' hs=>?_) λe s' hs=>hs;have fin:∀{σ':St}{H':Hp}{v:V}{u:Value},Inv (G2 CX P w K mg base N qual scope f cdv A outer s H E) [] σ' H' s'->RelV v u->Q v H'->CE outer P w H s Q u s' :=
  λ{σ' H' v u} J rv q=>⟨v,H',J.os,J.bare,J.base,J.hok,rv,q⟩
 cases fl with
 |ret u =>
  obtain⟨v,σ',H',J,rv,q⟩:=hs;exact fin J rv q
 |next =>
  obtain⟨σ',H',J,q⟩:=hs;exact fin (v:=V.non) (u:=Value.none) J rfl q
 |brk =>
  obtain⟨_,_,_,q⟩:=hs;exact False.elim q
 |cont =>
  obtain⟨_,_,_,q⟩:=hs;exact False.elim q
section
variable {X:Cx}{x:Str}{p pos:Pos}{e:Expr}{es:List Expr}{t:TA}{id T:String}{r:List V->Hp->VK->Prop}
def tCB(r:List V->Hp->VK->Prop)(t:TA):TE:=λσ H Q=>t σ H λvs H1=>r vs H1 Q
theorem C9(hc:C8 X (.builtin id) r)(hg:Gl X x)(hm:X.mg x=none)(hv:bootBuiltins x=some (.builtin id))(ha:PA X (e::es) t)(hn:x≠"__name__":=by decide)(hdb:(x==("__debug__" : Str))=false:=by decide)
  (he:starEach (e::es) X.env=(false,eval e X.env)::starEach es X.env:=by rfl) (hpl:(backTo pos (starEach es X.env)).any (·.1)=false:=by rfl):PE X (.Call (.Name x p) (e::es) [] pos) (tCB r t):=by
 intro pins s σ H Q I h;refine wpAny_Call_Name_kw (O7 I hg hm hv ?_ hn hdb);exact PyProof.Rows.callWith_builtin1 (thn (ha pos pins s σ H _ I h) λus s1 ⟨vs,H1,I1,r1,q1⟩=>hc pins s1 σ H1 vs us Q I1 r1 q1) he hpl
theorem P8(hc:C8 X (.type T) r)(hg:Gl X x)(hm:X.mg x=none)(hv:bootBuiltins x=some (.type T))(ha:PA X (e::es) t)(hn:x≠"__name__":=by decide)(hdb:(x==("__debug__" : Str))=false:=by decide)
  (he:starEach (e::es) X.env=(false,eval e X.env)::starEach es X.env:=by rfl) (hpl:(backTo pos (starEach es X.env)).any (·.1)=false:=by rfl):PE X (.Call (.Name x p) (e::es) [] pos) (tCB r t):=by
 intro pins s σ H Q I h;refine wpAny_Call_Name_kw (O7 I hg hm hv ?_ hn hdb);exact PyProof.Rows.callWith_type1 (thn (ha pos pins s σ H _ I h) λus s1 ⟨vs,H1,I1,r1,q1⟩=>hc pins s1 σ H1 vs us Q I1 r1 q1) he hpl
end
end L2
namespace HT
open PySem PyProof.Rows
noncomputable def lexLt:List Int->List Int->Bool
 |[],[]=>false
 |[],_::_=>true
 |_::_,[]=>false
 |x::xs,y::ys=>if x=y then lexLt xs ys else decide (x<y)
theorem lexLt_cons(x y:Int)(xs ys:List Int):lexLt (x::xs) (y::ys)=if x=y then lexLt xs ys else decide (x<y):=rfl
theorem rcLt_int(A:Around)(s:Shared)(a:Int)(t:Tok)(c:Int)(u:Tok)(prog:Program)(w:World)(E:Value->Shared->Prop)(Q:Value->Shared->Prop)(h:Q (.bool (decide (a<c))) s) :
  wpAny (model prog w) A (richCompare .Lt (.int a t) (.int c u)) Q E s :=
 (PyProof.Rows.lt_int h:wpAny (model prog w) A (compareOp .Lt (.int a t) (.int c u)) Q E s)
section
open PySem.SeqAt
open PySem.AutoSeq1 (wpAny_loadPart')
open PySem.MeetsSeq PySem.MeetsSeq2 PySem.MeetsSeq3
end
section
variable {prog:Program}{w:World}{A:Around}{E:Value->Shared->Prop}{s:Shared}
theorem cat_tup{t b:Addr}{vs ws:List Value}{Q:Value->Shared->Prop}(ht:IsTup s.heap t vs.toArray)(hb:IsTup s.heap b ws.toArray)(hv:vs≠[])
  (h1:ws=[]->Q (.ref t) s) (h2:ws≠[]->Q (.ref s.heap.objs.size) {s with heap:=s.heap.push {cls:=.type "tuple",data:=.seq (vs++ws).toArray}})
  (hsz:vs.length+ws.length<=sizeLine):wpAny (model prog w) A (binaryOp .Add (.ref t) (.ref b)) Q E s:=by
 obtain⟨⟨cls,dd,data,sl⟩,ho,hc,n,hd⟩:=id ht;obtain⟨⟨cls2,dd2,data2,sl2⟩,ho2,hc2,n2,hd2⟩:=id hb;simp only at hc hd hc2 hd2;subst hc hd hc2 hd2;have e:vs.toArray++ws.toArray=(vs++ws).toArray:=by simp
 by_cases hw:ws=[]
 .exact concat_meets ⟨_,ho,rfl⟩ ⟨_,ho2,rfl⟩ noFill_tuple_add seq_tuple_add PySem.F.slot_tuple_add PySem.F.entry_tuple_add (PySem.F.args_tuple_add_2 _ _)
   (tuple_addW1 t b vs.toArray ws.toArray n n2 dd dd2 sl sl2 (by simpa using hv) (by simp[hw])) ⟨ho,ho2,h1 hw⟩
 .refine concat_meets ⟨_,ho,rfl⟩ ⟨_,ho2,rfl⟩ noFill_tuple_add seq_tuple_add PySem.F.slot_tuple_add PySem.F.entry_tuple_add (PySem.F.args_tuple_add_2 _ _)
   (tuple_addW2 t b vs.toArray ws.toArray n n2 dd dd2 sl sl2 (by simpa using hv) (by simpa using hw) (by rw[List.size_toArray,List.size_toArray];exact hsz)) ⟨ho,ho2,?_⟩
  rw[e];exact h2 hw
noncomputable def sIx(n d:Nat):Option Int->Nat
 |none=>d
 |some v=>if v<0 then(v+(n:Int)).toNat else min v.toNat n
theorem sIx_none(n d:Nat):sIx n d none=d:=rfl
theorem sIx_nat(n d k:Nat):sIx n d (some (k:Int))=min k n:=by
 show(if (k:Int)<0 then((k:Int)+(n:Int)).toNat else min (k:Int).toNat n)=min k n;rw[if_neg (by omega),Int.toNat_natCast]
theorem b3n(n d:Nat)(hd:d<=n)(o:Option Int):sIx n d o<=n:=by
 cases o with
 |none=>exact hd
 |some v =>
  show(if v<0 then(v+(n:Int)).toNat else min v.toNat n)<=n;by_cases hv:v<0
  .rw[if_pos hv];omega
  .rw[if_neg hv];exact Nat.min_le_right _ _
theorem a6z(v:Int)(n d:Nat):(if v<0 then max (v+(n:Int)) 0 else min v (n:Int))=((sIx n d (some v):Nat):Int):=by
 show(if v<0 then max (v+(n:Int)) 0 else min v (n:Int))=(((if v<0 then(v+(n:Int)).toNat else min v.toNat n):Nat):Int);by_cases hv:v<0
 .simp only[if_pos hv];omega
 .simp only[if_neg hv];omega
theorem a5z(lo hi:Option Int)(n:Nat):Builtin.Slice.sliceAdjust lo hi 1 (n:Int)=(((sIx n 0 lo:Nat):Int),((sIx n n hi:Nat):Int)):=by
 have h1:¬((1:Int)<0):=by omega
 unfold Builtin.Slice.sliceAdjust;simp only[h1,if_false];refine Prod.ext ?_ ?_
 .cases lo with
  |none=>rfl
  |some v=>exact a6z v n 0
 .cases hi with
  |none=>rfl
  |some v=>exact a6z v n n
theorem a4S(i j:Nat):Builtin.Slice.slicePlaces (i:Int) (j:Int) 1=j-i:=by
 unfold Builtin.Slice.slicePlaces;have h1:(1:Int) > 0:=by omega
 simp only[h1,if_true,Int.ediv_one];split<;>omega
theorem a1q{v:Value}{o:Option Int}{Q:Option Int->Shared->Prop}(p:IsPart v o)(h:Q o s):wpAny (model prog w) A (Builtin.Slice.slicePartIndex v) Q E s:=by
 cases p with
 |none=>exact slicePart_none h
 |int i t=>exact slicePart_int h
theorem a0k{sl:Addr}{vl vu:Value}{lo hi:Option Int}{n:Nat}{Q:Int×Int×Nat->Shared->Prop}(hs:s.heap.IsSliceOf sl vl vu .none)(pl:IsPart vl lo)(pu:IsPart vu hi)
  (h:Q (((sIx n 0 lo:Nat):Int),1,sIx n n hi-sIx n 0 lo) s):wpAny (model prog w) A (Builtin.Slice.sliceApplied (.ref sl) (pure (n:Int))) Q E s:=by
 obtain⟨os,hos,hcs,hds⟩:=id hs;unfold Builtin.Slice.sliceApplied Builtin.Slice.sliceFields;refine wpAny_bind (wpAny_bind (wpAny_field hos hds (x:=vl) rfl (wpAny_bind (wpAny_field hos hds (x:=vu) rfl (wpAny_bind (wpAny_field hos hds (x:=.none) rfl (wpAny_pure ?_)))))));refine wpAny_bind (slicePart_none ?_);show wpAny _ _ (if ((1:Int)==0)=true then _ else _) _ _ s;rw[if_neg (by decide)];refine wpAny_bind (a1q pl (wpAny_bind (a1q pu (wpAny_bind (wpAny_pure ?_)))));show wpAny _ _ (match Builtin.Slice.sliceAdjust lo hi 1 (n:Int)with | (lo,hi)=>pure (lo,(1:Int),Builtin.Slice.slicePlaces lo hi 1)) _ _ s;rw[a5z lo hi n];show wpAny _ _ (pure (((sIx n 0 lo:Nat):Int),(1:Int),Builtin.Slice.slicePlaces ((sIx n 0 lo:Nat):Int) ((sIx n n hi:Nat):Int) 1)) _ _ s;rw[a4S];exact wpAny_pure h
theorem a8R(xs:Array Value)(i k:Nat):((List.range k).filterMap λ(m:Nat)=>xs[((i:Int)+(m:Int)*1).toNat]?).toArray=((xs.toList.drop i).take k).toArray:=by
 have e:(λ(m:Nat)=>xs[((i:Int)+(m:Int)*1).toNat]?)=λm=>xs[i+m]?:=by
  funext m;have:((i:Int)+(m:Int)*1).toNat=i+m:=by omega
  rw[this]
 rw[e];have:=pick_run xs i k;rw[List.filterMap_map]at this;have e2:((λx=>xs[x]?) ∘ λx=>i+x)=λm=>xs[i+m]?:=rfl;rw[e2]at this;rw[this]
theorem getItem_tuple_cut{t sl:Addr}{items:Array Value}{vl vu:Value}{lo hi:Option Int}{Q:Value->Shared->Prop}(ht:IsTup s.heap t items)(hs:s.heap.IsSliceOf sl vl vu .none)(pl:IsPart vl lo)(pu:IsPart vu hi)
  (hw:¬(sIx items.size 0 lo=0/\sIx items.size items.size hi=items.size))
  (h:Q (.ref s.heap.objs.size) {s with heap:=s.heap.push {cls:=.type "tuple",data:=.seq ((items.toList.drop (sIx items.size 0 lo)).take (sIx items.size items.size hi-sIx items.size 0 lo)).toArray}})
  (hsz:items.size<=sizeLine):wpAny (model prog w) A (getItem (.ref t) (.ref sl)) Q E s:=by
 have htake:sizeOk (.seq ((items.toList.drop (sIx items.size 0 lo)).take (sIx items.size items.size hi-sIx items.size 0 lo)).toArray):=by
  show((items.toList.drop (sIx items.size 0 lo)).take (sIx items.size items.size hi-sIx items.size 0 lo)).toArray.size<=sizeLine;rw[List.size_toArray,List.length_take,List.length_drop,Array.length_toList];omega
 have hj:sIx items.size items.size hi<=items.size:=b3n _ _ (Nat.le_refl _) hi;obtain⟨os,hos,hcs,hds⟩:=id hs;have hTs:s.TypeIs (.ref sl) "slice":=⟨os,hos,hcs⟩;unfold getItem
 try with_reducible refine wpAny_holding ?_
 first|refine wpAny_bind (wpAny_pure ?_)|skip
 refine wpAny_bind (wpAny_sequenceKey ht.typeIs (by decide) ?_);refine wpAny_bind (wpAny_callSpecial?_slot (name:=Str.ofString "__getitem__") ht.typeIs PyProof.Rows.slot_tuple_getitem
  (wpAny_call_entry PyProof.Rows.slot_tuple_getitem ht.typeIs entry_tuple_getitem ?_ (args_tuple_getitem _ _)))
 show wpAny _ _ (Builtin.Tuple.tupleItemsOf (.ref t)>>=_) _ _ s;refine wpAny_bind (tupleItemsOf_ ht ?_);refine wpAny_bind (wpAny_typeOf hTs ?_);rw[if_pos (by decide)];refine wpAny_bind (a0k hs pl pu ?_);have hno:¬((((sIx items.size 0 lo:Nat):Int)==0 && (1:Int)==1 && (sIx items.size items.size hi-sIx items.size 0 lo)==items.size)=true):=by
  intro q;rw[Bool.and_eq_true,Bool.and_eq_true]at q;have q1:((sIx items.size 0 lo:Nat):Int)=0:=eq_of_beq q.1.1;have q2:sIx items.size items.size hi-sIx items.size 0 lo=items.size:=eq_of_beq q.2;exact hw ⟨by omega,by omega⟩
 show wpAny _ _ (if (((sIx items.size 0 lo:Nat):Int)==0 && (1:Int)==1 && (sIx items.size items.size hi-sIx items.size 0 lo)==items.size)=true then _ else _) _ _ s;rw[if_neg hno,a8R]
 first
  |exact wpAny_bind (m:=Builtin.Tuple.tupleExact _) (wpAny_newObj_type (wpAny_pure ⟨_,rfl,wpAny_pure h⟩) htake)
  |exact wpAny_bind (m:=Builtin.Tuple.tupleExact _) (wpAny_newObj_type (wpAny_bind (wpAny_pure (wpAny_pure ⟨_,rfl,wpAny_pure h⟩))) htake)
  |exact wpAny_bind (wpAny_bind (m:=Builtin.Tuple.tupleExact _) (wpAny_newObj_type (wpAny_pure (wpAny_pure ⟨_,rfl,wpAny_pure h⟩)) htake))
  |exact wpAny_bind (wpAny_bind (m:=Builtin.Tuple.tupleExact _) (wpAny_newObj_type (wpAny_pure ⟨_,rfl,wpAny_pure h⟩) htake))
end
end HT
namespace L2
open PySem PySem.Spec PyProof.Rows
abbrev TO:=St->Hp->(Option Int->Hp->Prop)->Prop
def PO(X:Cx)(e:Option Expr)(t:TO):Prop :=
 ∀(pins:List (Addr×Obj)) (s:Shared) (σ:St) (H:Hp) (Q:Option Int->Hp->Prop),Inv X pins σ H s->t σ H Q ->
  wpAny (model X.prog X.w) X.A (evalPart e X.env) (λu s'=>∃o H',Inv X pins σ H' s'/\IsPart u o/\Q o H') X.xe s
def Y5:TO:=λ_ H Q=>Q none H
def a3H(t:TE):TO:=λσ H Q=>t σ H λx H1=>∃i,x=.int i/\Q (some i) H1
theorem a5i{ns:List Int}:∀{us:List Value},Vals (ns.map V.int) us->IntsAre us ns:=by
 induction ns with
 |nil=>intro us r;rw[List.map_nil]at r;cases r;exact .nil
 |cons n ns ih =>
  intro us r;rw[List.map_cons]at r;cases r with
  |cons r1 r2 =>
   obtain⟨t,e⟩:=r1;subst e;exact .cons n t (ih r2)
section
variable {X:Cx}{e:Expr}{te:TE}{lo hi:Option Expr}{tl th:TO}{pos p2:Pos}
theorem b1a:PO X none Y5:=by
 intro pins s σ H Q I h;rw[evalPart_none];exact wpAny_pure ⟨none,H,I,.none,h⟩
theorem b0Z(h:PE X e te):PO X (some e) (a3H te):=by
 intro pins s σ H Q I hw;rw[evalPart_some];refine thn (h pins s σ H _ I hw) λu s1 ⟨x,H1,I1,r1,q1⟩=>?_;obtain⟨i,rfl,q⟩:=q1;obtain⟨t,rfl⟩:=r1;exact⟨some i,H1,I1,.int i t,q⟩
def SlR(X:Cx)(r:V->Option Int->Option Int->Hp->VK->Prop):Prop :=
 ∀(pins:List (Addr×Obj)) (s:Shared) (σ:St) (H:Hp) (x:V) (v vl vu:Value) (lo hi:Option Int) (sl:Addr) (Q:VK),Inv X pins σ H s->RelV x v->s.heap.IsSliceOf sl vl vu .none->IsPart vl lo->IsPart vu hi->r x lo hi H Q ->
  ∃T id,typeLookup (.type T) "__getitem__"=pure (some (.builtin id))/\s.TypeIs v T/\wpAny (model X.prog X.w) X.A (getItem v (.ref sl)) (EP X pins σ Q) X.xe s
def tSl(r:V->Option Int->Option Int->Hp->VK->Prop)(te:TE)(tl th:TO):TE:=λσ H Q=>te σ H λx H1=>tl σ H1 λl H2=>th σ H2 λu H3=>r x l u H3 Q
theorem a8V{r:V->Option Int->Option Int->Hp->VK->Prop}(hr:SlR X r)(he:PE X e te)(hl:PO X lo tl)(hu:PO X hi th):PE X (.Subscript e (.Slice lo hi none p2) pos) (tSl r te tl th):=by
 intro pins s σ H Q I h;refine Subscript_ (thn (he pins s σ H _ I h) λv s1 ⟨x,H1,I1,r1,q1⟩=>?_);refine wpAny_Slice (thn (hl pins s1 σ H1 _ I1 q1) λvl s2 ⟨l,H2,I2,pl,q2⟩=>thn (hu pins s2 σ H2 _ I2 q2) λvu s3 ⟨u,H3,I3,pu,q3⟩=>?_);rw[evalPart_none];refine wpAny_pure ?_;have I4:Inv X pins σ H3 {s3 with heap:=s3.heap.push {cls:=.type "slice",data:=.fields #[vl,vu,.none]}}:=I3.kept (t':=s3.toks) λb ob q=>Heap.get?_push_of_some _ q;obtain⟨T,id,hT,ht,hg⟩:=hr pins {s3 with heap:=s3.heap.push {cls:=.type "slice",data:=.fields #[vl,vu,.none]}} σ H3 x v vl vu l u s3.heap.objs.size Q I4 r1 (Heap.IsSliceOf.new ..) pl pu q3;show wpAny (model X.prog X.w) X.A (subscriptTail e (.Slice lo hi none p2) v (.ref s3.heap.objs.size)) (EP X pins σ Q) X.xe {s3 with heap:=s3.heap.push {cls:=.type "slice",data:=.fields #[vl,vu,.none]}};exact tail_any (ops:=[.ref s3.heap.objs.size,v]) ht hT hg (by with_unfolding_all rfl)
noncomputable def a2e(xs:List V)(lo hi:Option Int):List V:=(xs.drop (HT.sIx xs.length 0 lo)).take (HT.sIx xs.length xs.length hi-HT.sIx xs.length 0 lo)
theorem a0K(xs:List V)(lo hi:Option Int):(a2e xs lo hi).length<=xs.length:=by
 unfold a2e;rw[List.length_take,List.length_drop];omega
def a8H(K:PySem.W.Frag):V->Option Int->Option Int->Hp->VK->Prop:=λx lo hi H Q=>∃a xs,x=.ref a/\SqT K H a xs /\
 ¬(HT.sIx xs.length 0 lo=0/\HT.sIx xs.length xs.length hi=xs.length)/\∀p,H p=none->Q (.ref p) (upd H p (.tup (a2e xs lo hi)))
theorem b3l:SlR X (a8H X.K):=by
 intro pins s σ H x v vl vu lo hi sl Q I rx hs pl pu h;obtain⟨a,xs,rfl,hx,hw,q⟩:=h;cases rx;obtain⟨its,r,ht,hz⟩:=I.tuple hx;have hlen:its.toArray.size=xs.length:=by rw[List.size_toArray];exact r.length.symm
 refine⟨"tuple",_,PyProof.Rows.slot_tuple_getitem.lookup,ht.typeIs,?_⟩;refine HT.getItem_tuple_cut ht hs pl pu (by rw[hlen];exact hw) ?_ (by rw[hlen];exact hz);rw[hlen];refine⟨.ref s.heap.objs.size,_,I.laid (t':=s.toks) (o:=.tup (a2e xs lo hi)) (λb ob q=>Heap.get?_push_of_some _ q) (Nat.le_refl _) ?_,rfl,q _ (I.hok.fresh (Nat.le_refl _))⟩;exact⟨Nat.le_trans (a0K xs lo hi) hz,_,(r.drop (HT.sIx xs.length 0 lo)).take (HT.sIx xs.length xs.length hi-HT.sIx xs.length 0 lo),IsTup.new _ _⟩
def b5i(K:PySem.W.Frag):R2:=λx y H Q=>∃a b xs ys,x=.ref a/\y=.ref b/\SqT K H a xs/\SqT K H b ys/\xs≠[]/\xs.length+ys.length<=sizeLine /\
 (ys=[]->Q (.ref a) H)/\(ys≠[]->∀p,H p=none->Q (.ref p) (upd H p (.tup (xs++ys))))
theorem Vals.nil_iff{xs:List V}{us:List Value}(r:Vals xs us):us=[]↔xs=[]:=by
 cases r with
 |nil=>simp
 |cons _ _=>simp
theorem b1u:OpR X (binaryOp .Add) (b5i X.K):=by
 intro pins s σ H x y v u Q I rx ry h;obtain⟨a,b,xs,ys,rfl,rfl,ha,hb,hx,hz,q1,q2⟩:=h;cases rx;cases ry;obtain⟨its,r1,p1,_⟩:=I.tuple ha;obtain⟨its2,r2,p2,_⟩:=I.tuple hb;refine HT.cat_tup p1 p2 (λz=>hx (r1.nil_iff.mp z)) (λz=>⟨.ref a,H,I,rfl,q1 (r2.nil_iff.mp z)⟩) (λz=>?_) (by rw[<-r1.length,<-r2.length];exact hz);refine⟨.ref s.heap.objs.size,_,I.laid (t':=s.toks) (o:=.tup (xs++ys)) (λb ob q=>Heap.get?_push_of_some _ q) (Nat.le_refl _) ?_,rfl,q2 (λw=>z (r2.nil_iff.mpr w)) _ (I.hok.fresh (Nat.le_refl _))⟩;exact⟨by rw[List.length_append];exact hz,_,r1.append r2,IsTup.new _ _⟩
end
noncomputable def ixN(n:Nat)(i:Int):Option Nat:=if 0<=i then(if i<n then some i.toNat else none)else if -(n:Int)<=i then some (i+n).toNat else none
noncomputable def atI{α:Type}(xs:List α)(i:Int):Option α:=(ixN xs.length i).bind λj=>xs[j]?
theorem a6r{n:Nat}{i:Int}{j:Nat}(h:ixN n i=some j):seqIndex? i n=some j/\j<n /\ -(n:Int)<=i/\i<n:=by
 unfold ixN at h;by_cases h0:0<=i
 .rw[if_pos h0]at h;by_cases h1:i<n
  .rw[if_pos h1]at h;have e:i.toNat=j:=Option.some.inj h;exact⟨by rw[seqIndex_of h0 h1,e],by omega,by omega,h1⟩
  .rw[if_neg h1]at h;cases h
 .rw[if_neg h0]at h;by_cases h1 : -(n:Int)<=i
  .rw[if_pos h1]at h;have e:(i+n).toNat=j:=Option.some.inj h;exact⟨by rw[seqIndex_neg (by omega) h1,e],by omega,h1,by omega⟩
  .rw[if_neg h1]at h;cases h
theorem a3w{α:Type}{xs:List α}{i:Int}{v:α}(h:atI xs i=some v):∃j,seqIndex? i xs.length=some j/\xs[j]?=some v/\j<xs.length /\ -(xs.length:Int)<=i/\i<xs.length:=by
 unfold atI at h;cases e:ixN xs.length i with
 |none=>rw[e]at h;cases h
 |some j =>
  rw[e]at h;obtain⟨h1,h2,h3,h4⟩:=a6r e;exact⟨j,h1,h,h2,h3,h4⟩
theorem a0e{α:Type}{xs:List α}{j:Nat}{v:α}(h:xs[j]?=some v):atI xs (j:Int)=some v:=by
 have hj:j<xs.length:=(List.getElem?_eq_some_iff.mp h).1;have e:ixN xs.length (j:Int)=some j:=by
  unfold ixN;rw[if_pos (by omega),if_pos (by omega)];simp
 unfold atI;rw[e];exact h
def a1f(b:Expr):Prop:=∀o i,subscripted b false o i=operate [o,i] (getItem o i)
def IxR(X:Cx)(r:R2):Prop :=
 ∀(value slice:Expr) (pins:List (Addr×Obj)) (s:Shared) (σ:St) (H:Hp) (x y:V) (v u:Value) (Q:VK),Inv X pins σ H s->RelV x v->RelV y u->r x y H Q ->
  subscripted slice false v u=operate [v,u] (getItem v u)->wpAny (model X.prog X.w) X.A (subscriptTail value slice v u) (EP X pins σ Q) X.xe s
def MtR(X:Cx)(id:String)(r:V->List V->Hp->VK->Prop):Prop :=
 ∀(pins:List (Addr×Obj)) (s:Shared) (σ:St) (H:Hp) (x:V) (xs:List V) (v:Value) (us:List Value) (Q:VK),Inv X pins σ H s->RelV x v->Vals xs us->r x xs H Q ->
  wpAny (model X.prog X.w) X.A (call (.builtin id) (v::us)) (EP X pins σ Q) X.xe s
section
variable {X:Cx}{a b:Expr}{ta tb:TE}{pos:Pos}
theorem IxR.or{r r':R2}(h:IxR X r)(h':IxR X r'):IxR X (λx y H Q=>r x y H Q∨r' x y H Q):=by
 intro value slice pins s σ H x y v u Q I rx ry q hs;rcases q with q|q
 .exact h value slice pins s σ H x y v u Q I rx ry q hs
 .exact h' value slice pins s σ H x y v u Q I rx ry q hs
theorem a8W{r:R2}(hr:IxR X r)(ha:PE X a ta)(hb:PE X b tb)(hs:a1f b):PE X (.Subscript a b pos) (tOp r ta tb):=by
 intro pins s σ H Q I h;exact Subscript_ (b4E ha hb I h λv u s2 x y H2 I2 rx ry q=>hr a b pins s2 σ H2 x y v u Q I2 rx ry q (hs _ _))
def b0O(K:PySem.W.Frag):R2:=λx y H Q=>∃p xs i v,x=.ref p/\y=.int i/\SqL K H p xs/\atI xs i=some v/\Q v H
def b0N(K:PySem.W.Frag):R2:=λx y H Q=>∃p xs i v,x=.ref p/\y=.int i/\SqT K H p xs/\atI xs i=some v/\Q v H
def b5f:R2:=λx y H Q=>∃z i c,x=.str z/\y=.int i/\z.length<=sizeLine/\atI z.cps.toList i=some c/\Q (.str ⟨#[c]⟩) H
theorem ix_list:IxR X (b0O X.K):=by
 intro value slice pins s σ H x y v u Q I rx ry h hs;obtain⟨p,xs,i,z,rfl,rfl,hq,he,q⟩:=h;cases rx;obtain⟨t,rfl⟩:=ry;obtain⟨its,r,pl,hz⟩:=I.list hq;obtain⟨j,h1,h2,h3,h4,h5⟩:=a3w he;obtain⟨w,ew,rw'⟩:=r.get h2;have hl:=r.length;have hn:=W8;have fin:EP X pins σ Q w s:=⟨z,H,I,rw',q⟩;by_cases h0:0<=i
 .have hj:i.toNat=j:=by
   rw[seqIndex_of h0 h5]at h1;exact Option.some.inj h1
  exact item_listR pl.isList h0 (by omega) (by rw[hj];simpa using ew) fin hs
 .have hj:(i+(its.toArray.size:Int)).toNat=j:=by
   rw[seqIndex_neg (by omega) h4]at h1;rw[List.size_toArray,<-hl];exact Option.some.inj h1
  exact subscriptTail_builtinR (x:=w) pl.isList.typeIs slot_list_getitem.lookup
   (wpAny_getItem_list_neg (Q:=λr s'=>r=w/\EP X pins σ Q r s') pl.isList (by omega) (by rw[List.size_toArray]<;>omega) (by omega) (by rw[hj];simpa using ew) ⟨rfl,fin⟩) hs
theorem ix_tup:IxR X (b0N X.K):=by
 intro value slice pins s σ H x y v u Q I rx ry h hs;obtain⟨p,xs,i,z,rfl,rfl,hq,he,q⟩:=h;cases rx;obtain⟨t,rfl⟩:=ry;obtain⟨its,r,pl,hz⟩:=I.tuple hq;obtain⟨j,h1,h2,h3,h4,h5⟩:=a3w he;obtain⟨w,ew,rw'⟩:=r.get h2;have hl:=r.length;have hn:=W8;have fin:EP X pins σ Q w s:=⟨z,H,I,rw',q⟩;exact subscriptTail_builtinR (x:=w) pl.typeIs slot_tuple_getitem.lookup
  (getItem_tuple (j:=j) (Q:=λr s'=>r=w/\EP X pins σ Q r s') pl (by omega) (by omega) (by rw[List.size_toArray,<-hl];exact h1) (by simpa using ew) ⟨rfl,fin⟩) hs
theorem b4u:IxR X b5f:=by
 intro value slice pins s σ H x y v u Q I rx ry h hs;obtain⟨z,i,c,rfl,rfl,hz,he,q⟩:=h;obtain⟨t,rfl⟩:=rx;obtain⟨t',rfl⟩:=ry;obtain⟨j,h1,h2,h3,h4,h5⟩:=a3w he;have hl:z.cps.toList.length=z.length:=by simp[Str.length]
 rw[hl]at h1 h4 h5;have hn:=W8;exact tail_any (typeIs_str s z t) slot_str_getitem.lookup (getItem_str (c:=c) (by
  have e1:decide (i < -(2 ^ 63:Int))=false:=decide_eq_false (by omega);have e2:decide (i ≥ 2 ^ 63)=false:=decide_eq_false (by omega);rw[e1,e2,Bool.or_false]) (by rw[h1];simpa using h2) ⟨.str ⟨#[c]⟩,H,I.tok _,⟨_,rfl⟩,q⟩) hs
def rIx(K:PySem.W.Frag):R2:=λx y H Q=>b0O K x y H Q∨b0N K x y H Q∨b5f x y H Q
theorem b4v:IxR X (rIx X.K):=ix_list.or (ix_tup.or b4u)
theorem a4Y(its:List Value)(n j:Nat)(u:Value):Obj.mapSeq (·.setIfInBounds j u) {cls:=.type "list",data:=.seq its.toArray n}={cls:=.type "list",data:=.seq (its.set j u).toArray n}:=by
 simp[Obj.mapSeq]
theorem Inv.lst{pins:List (Addr×Obj)}{σ:St}{H:Hp}{s:Shared}{p:Addr}{xs:List V}(I:Inv X pins σ H s)(h:H p=some (.lst xs)) :
  ∃(its:List Value) (n:Nat),Vals xs its/\s.heap.get? p=some {cls:=.type "list",data:=.seq its.toArray n}/\xs.length<=sizeLine:=by
 obtain⟨z,its,n,r,e⟩:=I.hok p _ h;exact⟨its,n,r,e,z⟩
theorem Inv.lstUpd{pins:List (Addr×Obj)}{σ:St}{H:Hp}{s:Shared}{p:Addr}{xs ys:List V}{its its':List Value}{n n':Nat}{f:Obj->Obj}(I:Inv X pins σ H s)(h:H p=some (.lst xs))
  (ho:s.heap.get? p=some {cls:=.type "list",data:=.seq its.toArray n}) (hf:f {cls:=.type "list",data:=.seq its.toArray n}={cls:=.type "list",data:=.seq its'.toArray n'}) (r:Vals ys its') (hz:ys.length<=sizeLine) (t:Nat) :
  Inv X pins σ (upd H p (.lst ys)) {s with heap:=s.heap.update p f,toks:=t}:=by
 have e:(s.heap.update p f).get? p=some {cls:=.type "list",data:=.seq its'.toArray n'}:=by
  rw[Heap.get?_update_self f ho (by rw[hf]<;>rfl),hf]
 refine I.write (x:=p) (e:=p) (by rw[h];trivial) (.inl rfl) (λb u hb q=>(Heap.get?_update_other _ _ (Ne.symm hb)).trans q) ⟨_,e⟩ ?_;exact⟨hz,its',n',r,e⟩
def b2z:V->V->V->Hp->(Hp->Prop)->Prop:=λo i v H Q=>∃p xs k j,o=.ref p/\i=.int k/\H p=some (.lst xs)/\ixN xs.length k=some j/\Q (upd H p (.lst (xs.set j v)))
theorem a8u:b5F X b2z:=by
 intro pins s σ H o i v ov iv u Q I ro ri rv h;obtain⟨p,xs,k,j,rfl,rfl,hp,hj,q⟩:=h;cases ro;obtain⟨t,rfl⟩:=ri;obtain⟨its,n,r,ho,hz⟩:=I.lst hp;obtain⟨h1,h2,h3,h4⟩:=a6r hj;have hl:=r.length;have hn:=W8;have I':Inv X pins σ (upd H p (.lst (xs.set j v))) {s with heap:=s.heap.update p (Obj.mapSeq (·.setIfInBounds j u))} :=
  I.lstUpd hp ho (a4Y its n j u) (r.set rv j) (by rw[List.length_set];exact hz) s.toks
 by_cases h0:0<=k
 .have hk:k.toNat=j:=by
   rw[seqIndex_of h0 h4]at h1;exact Option.some.inj h1
  exact PySem.W.ki_setAt ho h0 (by omega) (by rw[List.size_toArray,<-hl];exact h4) (by rw[hk];exact⟨_,I',q⟩)
 .have hk:(k+(its.toArray.size:Int)).toNat=j:=by
   rw[seqIndex_neg (by omega) h3]at h1;rw[List.size_toArray,<-hl];exact Option.some.inj h1
  exact PySem.W.ki_setBack ho (by omega) (by rw[List.size_toArray,<-hl];exact h3) (by omega) (by rw[hk];exact⟨_,I',q⟩)
theorem a2Q(lo hi:Option Int)(n:Nat):(sliceBounds lo hi none n).1=((HT.sIx n 0 lo:Nat):Int)/\(sliceBounds lo hi none n).2.1=((HT.sIx n n hi:Nat):Int)/\(sliceBounds lo hi none n).2.2=1:=by
 refine⟨?_,?_,rfl⟩
 .cases lo with
  |none=>simp[sliceBounds,HT.sIx]
  |some i =>
   simp only[sliceBounds,HT.sIx,Option.getD_none,show(1:Int) > 0 by decide,if_true];by_cases h:i<0
   .simp only[h,if_true]<;>omega
   .simp only[h,if_false]<;>omega
 .cases hi with
  |none=>simp[sliceBounds,HT.sIx]
  |some i =>
   simp only[sliceBounds,HT.sIx,Option.getD_none,show(1:Int) > 0 by decide,if_true];by_cases h:i<0
   .simp only[h,if_true]<;>omega
   .simp only[h,if_false]<;>omega
theorem a2a(its:List Value)(lo hi:Option Int):slicePick its.toArray lo hi none=((its.drop (HT.sIx its.length 0 lo)).take (HT.sIx its.length its.length hi-HT.sIx its.length 0 lo)).toArray:=by
 obtain⟨h1,h2,h3⟩:=a2Q lo hi its.toArray.size;unfold slicePick;rw[h1,h2,h3];simp only[sliceRange_one,pick_run,List.size_toArray]<;>rfl
def b5K(K:PySem.W.Frag):V->Option Int->Option Int->Hp->VK->Prop:=λx lo hi H Q=>∃a xs,x=.ref a/\SqL K H a xs/\∀p,H p=none->Q (.ref p) (upd H p (.lst (a2e xs lo hi)))
theorem b5I:SlR X (b5K X.K):=by
 intro pins s σ H x v vl vu lo hi sl Q I rx hs pl pu h;obtain⟨a,xs,rfl,hx,q⟩:=h;cases rx;obtain⟨its,r,ht,hz⟩:=I.list hx;have hlen:=r.length;refine⟨"list",_,slot_list_getitem.lookup,ht.isList.typeIs,?_⟩;refine wpAny_getItem_list_slice ht.isList hs pl pu .none (by simp) ?_ (by rw[List.size_toArray]<;>omega);rw[a2a,<-hlen];refine⟨.ref s.heap.objs.size,_,I.laid (t':=s.toks) (o:=.lst (a2e xs lo hi)) (λb ob q=>Heap.get?_push_of_some _ q) (Nat.le_refl _) ?_,rfl,q _ (I.hok.fresh (Nat.le_refl _))⟩;exact⟨Nat.le_trans (a0K xs lo hi) hz,_,0,(r.drop (HT.sIx xs.length 0 lo)).take (HT.sIx xs.length xs.length hi-HT.sIx xs.length 0 lo),Heap.get?_push_size _ rfl⟩
noncomputable def a4o:V->Bool
 |.non=>true
 |.bl _=>true
 |.int _=>true
 |.str _=>true
 |_=>false
noncomputable def eqV:V->V->Bool
 |.non,.non=>true
 |.bl a,.bl b=>a==b
 |.bl a,.int b=>(if a then 1 else 0)==b
 |.int a,.bl b=>a==(if b then 1 else 0)
 |.int a,.int b=>a==b
 |.str a,.str b=>a==b
 |_,_=>false
theorem b4z{A:Around}{s:Shared}{y x:V}{u v:Value}(ry:RelV y u)(rx:RelV x v)(fy:a4o y=true)(fx:a4o x=true):SeqAt.EqAt A s u v (eqV y x):=by
 cases y with
 |non =>
  cases ry;cases x with
  |non=>cases rx;exact SeqAt.EqAt.same _
  |bl b=>cases rx;exact SeqAt.EqAt.none_bool b
  |int b=>obtain⟨t,rfl⟩:=rx;exact SeqAt.EqAt.none_int b t
  |str b=>obtain⟨t,rfl⟩:=rx;exact SeqAt.EqAt.none_str b t
  |_=>exact absurd (show false=true from fx) Bool.false_ne_true
 |bl a =>
  cases ry;cases x with
  |non=>cases rx;exact SeqAt.EqAt.bool_none a
  |bl b=>cases rx;exact SeqAt.EqAt.bool_bool a b
  |int b=>obtain⟨t,rfl⟩:=rx;exact SeqAt.EqAt.bool_int a b t
  |str b=>obtain⟨t,rfl⟩:=rx;exact SeqAt.EqAt.bool_str a b t
  |_=>exact absurd (show false=true from fx) Bool.false_ne_true
 |int a =>
  obtain⟨t',rfl⟩:=ry;cases x with
  |non=>cases rx;exact SeqAt.EqAt.int_none a t'
  |bl b=>cases rx;exact SeqAt.EqAt.int_bool a t' b
  |int b=>obtain⟨t,rfl⟩:=rx;exact SeqAt.EqAt.int_int a t' b t
  |str b=>obtain⟨t,rfl⟩:=rx;exact SeqAt.EqAt.int_str a t' b t
  |_=>exact absurd (show false=true from fx) Bool.false_ne_true
 |str a =>
  obtain⟨t',rfl⟩:=ry;cases x with
  |non=>cases rx;exact SeqAt.EqAt.str_none a t'
  |bl b=>cases rx;exact SeqAt.EqAt.str_bool a t' b
  |int b=>obtain⟨t,rfl⟩:=rx;exact SeqAt.EqAt.str_int a t' b t
  |str b=>obtain⟨t,rfl⟩:=rx;exact SeqAt.EqAt.str_str a t' b t
  |_=>exact absurd (show false=true from fx) Bool.false_ne_true
 |_=>exact absurd (show false=true from fy) Bool.false_ne_true
theorem a3t:C8 X (.builtin "len") (λxs H Q=>∃p ys,xs=[.ref p]/\(SqL X.K H p ys∨SqT X.K H p ys)/\Q (.int ys.length) H):=by
 intro pins s σ H xs us Q I r h;obtain⟨p,ys,rfl,hq,q⟩:=h;obtain⟨u,rfl,rx⟩:=a5J r;cases rx;have hn:=W8;rcases hq with hq|hq
 .obtain⟨its,r',pl,hz⟩:=I.list hq;have hlen:=r'.length;exact Calls.call_len_list pl.isList (by simp only[List.size_toArray]<;>omega) ⟨.int ys.length,H,I.tok _,⟨s.toks+1,by rw[List.size_toArray,hlen]⟩,q⟩
 .obtain⟨its,r',pl,hz⟩:=I.tuple hq;have hlen:=r'.length;exact len_tuple pl (by simp only[List.size_toArray]<;>omega) ⟨.int ys.length,H,I.tok _,⟨s.toks+1,by rw[List.size_toArray,hlen]⟩,q⟩
theorem a2f:C8 X (.type "tuple") (λxs H Q=>∃p ys,xs=[.ref p]/\((SqL X.K H p ys/\∀l,H l=none->Q (.ref l) (upd H l (.tup ys)))∨(SqT X.K H p ys/\Q (.ref p) H))):=by
 intro pins s σ H xs us Q I r h;obtain⟨p,ys,rfl,h⟩:=h;obtain⟨u,rfl,rx⟩:=a5J r;cases rx;rcases h with⟨hq,q⟩|⟨hq,q⟩
 .obtain⟨its,r',pl,hz⟩:=I.list hq;have hlen:=r'.length;refine call_tuple_list pl.isList (λh' kp=>?_) (by simp only[List.size_toArray]<;>omega);have I1:Inv X pins σ H {s with heap:=h'}:=I.kept (t':=s.toks) kp;have I2:Inv X pins σ (upd H h'.objs.size (.tup ys)) {s with heap:=h'.push {cls:=.type "tuple",data:=.seq its.toArray}} :=
   I1.laid (t':=s.toks) (λb o e=>Heap.get?_push_of_some _ e) (Nat.le_refl _) (show ObjOk X.prog X.w _ _ _ (.tup ys)from⟨hz,its,r',IsTup.new _ _⟩)
  exact⟨.ref h'.objs.size,_,I2,rfl,q _ (I1.hok.fresh (Nat.le_refl _))⟩
 .obtain⟨its,r',pl,hz⟩:=I.tuple hq;exact call_tuple_same pl ⟨.ref p,H,I,rfl,q⟩
def tyV(K:PySem.W.Frag)(T:String)(x:V)(H:Hp):Prop:=match x with
 |.str _=>T="str"
 |.int _=>T="int"
 |.ref p=>(T="list" /\ ∃xs,SqL K H p xs)∨(T="tuple" /\ ∃o,K.lookup p=some o/\o.cls=.type "tuple"/\o.dict=none) ∨
   (T="dict"/\((∃kvs,H p=some (.dK kvs))∨∃kvs,H p=some (.dT kvs)))∨(T="set" /\ ∃S n,H p=some (.set S n))
 |_=>False
theorem b3b{pins:List (Addr×Obj)}{σ:St}{H:Hp}{s:Shared}{T:String}{x:V}{v:Value}(I:Inv X pins σ H s)(r:RelV x v)(ty:tyV X.K T x H) :
  s.TypeIs v T/\∀a,v=.ref a->∃ob,s.heap.get? a=some ob/\ob.dict=none:=by
 cases x with
 |str z =>
  obtain⟨t,rfl⟩:=r;cases(show T="str" from ty);exact⟨typeIs_str s z t,λ_ e=>nomatch e⟩
 |int i =>
  obtain⟨t,rfl⟩:=r;cases(show T="int" from ty);exact⟨typeIs_int s i t,λ_ e=>nomatch e⟩
 |ref p =>
  cases r;rcases ty with⟨rfl,xs,hq⟩|⟨rfl,o,hk,hc,hd⟩|⟨rfl,hk⟩|⟨rfl,S,n,hk⟩
  .obtain⟨its,_,pl,_⟩:=I.list hq;refine⟨pl.isList.typeIs,λa e=>?_⟩;cases e;obtain⟨o,n,e,c,hd,_⟩:=pl;exact⟨o,e,hd⟩
  .refine⟨⟨o,I.kIn p o hk,hc⟩,λa e=>?_⟩;cases e;exact⟨o,I.kIn _ o hk,hd⟩
  .have z:∃o,s.heap.get? p=some o/\o.ExactDict:=by
    rcases hk with⟨kvs,hk⟩|⟨kvs,hk⟩
    .obtain⟨_,_,_,_,o,_,_,e,ex,_⟩:=I.hok p _ hk;exact⟨o,e,ex⟩
    .obtain⟨_,_,_,_,o,_,_,e,ex,_⟩:=I.hok p _ hk;exact⟨o,e,ex⟩
   obtain⟨o,e,ex⟩:=z;refine⟨⟨o,e,ex.1⟩,λa e2=>?_⟩;cases e2;exact⟨o,e,ex.2.1⟩
  .obtain⟨o,_,_,_,e,ex,_⟩:=I.hok p _ hk;refine⟨⟨o,e,ex.1⟩,λa e2=>?_⟩;cases e2;exact⟨o,e,ex.2.1⟩
 |_=>exact False.elim ty
def tBM(K:PySem.W.Frag)(T:String)(r:V->List V->Hp->VK->Prop)(to:TE)(t:TA):TE:=λσ H Q=>to σ H λx H1=>tyV K T x H1/\t σ H1 λxs H2=>r x xs H2 Q
variable {o e:Expr}{es:List Expr}{to:TE}{t:TA}{name:Str}{apos cpos:Pos}{T id:String}{r:V->List V->Hp->VK->Prop}
theorem b5m(pa:PlainAttrs T)(slot:Slot T name id)(hty:typeOf (.builtin id)=pure (.type "method_descriptor"))(hm:MtR X id r)(ho:PE X o to)(ha:PA X (e::es) t)
  (hbase:attributeBase o name X.env (eval o X.env)=eval o X.env:=by rfl)
  (hfew:((backTo cpos (starEach (e::es) X.env)).all (λx=>!x.1) && (backToKw cpos (keywordEach [] X.env)).all (λx=>x.1.isSome)
   && decide ((e::es).length+([]:List Keyword).length+(if ([]:List Keyword).isEmpty then 0 else 1)<30))=true:=by rfl)
  (hline:(apos.endLine==cpos.line)=true:=by rfl) (hs:starEach (e::es) X.env=(false,eval e X.env)::starEach es X.env:=by rfl) (hplain:(backTo cpos (starEach es X.env)).any (·.1)=false:=by rfl) :
  PE X (.Call (.Attribute o name apos) (e::es) [] cpos) (tBM X.K T r to t):=by
 intro pins s σ H Q I h;refine wpAny_Call_method_late hbase hfew hline rfl (thn (ho pins s σ H _ I h) λv s1 ⟨x,H1,I1,r1,ty,q1⟩=>?_);obtain⟨h1,h2⟩:=b3b I1 r1 ty;refine⟨T,id,pa,slot,hty,h1,h2,?_⟩;have hA:=ha cpos pins s1 σ H1 _ I1 q1;rw[hs]at hA⊢;refine Calls.callWith_builtin (by show(false || (backTo cpos (starEach es X.env)).any (·.1))=false;rw[hplain]<;>rfl) (Calls.evalArgs_plain ?_);exact thn hA λus s2 ⟨vs,H2,I2,r2,q2⟩=>hm pins s2 σ H2 x vs v us Q I2 r1 r2 q2
end
def MtM(X:Cx)(id:String)(r:V->List V->Hp->VK->Prop):Prop :=
 ∀(pins:List (Addr×Obj)) (s:Shared) (σ:St) (H:Hp) (x:V) (xs:List V) (v:Value) (us:List Value) (Q:VK),Inv X pins σ H s->RelV x v->Vals xs us->r x xs H Q ->
  wpAny (model X.prog X.w) X.A (call (.builtin id) (v::us)) (EP X pins σ Q) X.xe s
theorem Vals.one{x:V}{us:List Value}(h:Vals [x] us):∃u,us=[u]/\RelV x u:=by
 cases h with
 |cons r q=>cases q;exact⟨_,rfl,r⟩
theorem Vals.two{x y:V}{us:List Value}(h:Vals [x,y] us):∃u v,us=[u,v]/\RelV x u/\RelV y v:=by
 cases h with
 |cons r h=>obtain⟨v,rfl,q⟩:=Vals.one (x:=y) h;exact⟨_,_,rfl,r,q⟩
theorem Vals.rep{xs:List V}{us:List Value}(h:Vals xs us):∀k:Nat,Vals (List.replicate k xs).flatten (List.replicate k us).flatten
 |0=>.nil
 |k+1=>by
  rw[List.replicate_succ,List.replicate_succ,List.flatten_cons,List.flatten_cons];exact Vals.append h (Vals.rep h k)
theorem a2z(its:List Value):∀(k:Nat) (acc:List Value),
  List.foldl (λx1 x2=>x1++x2) acc.toArray (List.replicate k its.toArray)=(acc++(List.replicate k its).flatten).toArray
 |0,acc=>by simp
 |k+1,acc=>by
  have e:acc.toArray++its.toArray=(acc++its).toArray:=by simp
  have e2:(acc++its)++(List.replicate k its).flatten=acc++(List.replicate (k+1) its).flatten:=by
   rw[List.replicate_succ,List.flatten_cons,List.append_assoc]
  rw[<-e2,<-a2z its k (acc++its),<-e,List.replicate_succ,List.foldl_cons]
section
variable {X:Cx}{pins:List (Addr×Obj)}{σ:St}{H:Hp}{s:Shared}{l b:Addr}{xs ys zs:List V}
theorem Inv.lset{its its':List Value}{n:Nat}{f:Array Value->Array Value}{t':Nat}(I:Inv X pins σ H s)(hH:H l=some (.lst xs))
  (e:s.heap.get? l=some {cls:=.type "list",data:=.seq its.toArray n}) (hf:f its.toArray=its'.toArray) (hv:Vals ys its') (hz:ys.length<=sizeLine) :
  Inv X pins σ (upd H l (.lst ys)) {s with heap:=s.heap.update l (Obj.mapSeq f),toks:=t'}:=by
 have q:=PySem.IsL.update e f;rw[hf]at q;refine I.write (x:=l) (e:=l) (by rw[hH];exact trivial) (.inl rfl) (λb' u hb hu=>(Heap.get?_update_other s.heap (Obj.mapSeq f) (Ne.symm hb)).trans hu) ⟨_,q⟩ ?_;exact⟨hz,its',_,hv,q⟩
theorem Inv.lnew{its:List Value}{t':Nat}(I:Inv X pins σ H s)(hv:Vals ys its)(hz:ys.length<=sizeLine) :
  Inv X pins σ (upd H s.heap.objs.size (.lst ys)) {s with heap:=s.heap.push {cls:=.type "list",data:=.seq its.toArray},toks:=t'} :=
 I.laid (λ_ _ q=>Heap.get?_push_of_some _ q) (Nat.le_refl _) ⟨hz,its,0,hv,Heap.get?_push_size _ rfl⟩
theorem Inv.fresh(I:Inv X pins σ H s):H s.heap.objs.size=none:=I.hok.fresh (Nat.le_refl _)
theorem Inv.lstM(I:Inv X pins σ H s)(hH:H l=some (.lst xs)):xs.length<=sizeLine/\∃(its:List Value) (n:Nat),Vals xs its/\xs.length=its.length/\s.heap.get? l=some {cls:=.type "list",data:=.seq its.toArray n}:=by
 obtain⟨z,its,n,r,e⟩:=I.hok l _ hH;exact⟨z,its,n,r,r.length,e⟩
theorem a9k{n:Nat}(h:n<=sizeLine):Builtin.List.listTooLong n=false:=by
 unfold Builtin.List.listTooLong;exact decide_eq_false (by omega)
end
section
variable {X:Cx}
def a5X:V->List V->Hp->VK->Prop:=λx vs H Q=>∃l xs y,x=.ref l/\vs=[y]/\H l=some (.lst xs)/\xs.length<sizeLine/\Q .non (upd H l (.lst (xs++[y])))
theorem a7d:MtM X "list.append" a5X:=by
 intro pins s σ H x vs v us Q I rx rv h;obtain⟨l,xs,y,rfl,rfl,hH,hz,q⟩:=h;cases rx;obtain⟨u,rfl,ru⟩:=rv.one;obtain⟨z,its,n,r,hl,e⟩:=I.lstM hH;refine call_meets F.slot_list_append ⟨_,e,rfl⟩ F.entry_list_append (F.args_list_append_2 _ _) (PySem.list_append l its.toArray n u (by rw[List.size_toArray];omega)) ⟨e,?_⟩;refine⟨.non,_,I.lset (its':=its++[u]) hH e (by simp) (r.append (.cons ru .nil)) ?_,rfl,q⟩;rw[List.length_append,List.length_singleton];omega
def b5b:R2:=λx y H Q=>∃l k xs,x=.ref l/\y=.int k/\H l=some (.lst xs) /\ -(2 ^ 63)<=k/\k<2 ^ 63/\xs.length*k.toNat<=sizeLine /\
 ∀p,H p=none->Q (.ref p) (upd H p (.lst (List.replicate k.toNat xs).flatten))
theorem a3c{α:Type}(xs:List α)(k:Nat):(List.replicate k xs).flatten.length=k*xs.length:=by
 induction k with
 |zero=>simp
 |succ k ih=>rw[List.replicate_succ,List.flatten_cons,List.length_append,ih,Nat.succ_mul,Nat.add_comm]
theorem b3V:OpR X (binaryOp .Mult) b5b:=by
 intro pins s σ H x y v u Q I rx ry h;obtain⟨l,k,xs,rfl,rfl,hH,h1,h2,hz,q⟩:=h;cases rx;obtain⟨t,rfl⟩:=ry;obtain⟨z,its,n,r,hl,e⟩:=I.lstM hH;have hlen:its.toArray.size*k.toNat<=sizeLine:=by rw[List.size_toArray,<-hl];exact hz
 have hcap:¬its.toArray.size*k.toNat > (2 ^ 63-1) / 8:=by
  have:(sizeLine:Nat)<=(2 ^ 63-1) / 8:=by decide
  omega
 have hfit:¬(!Builtin.List.listFitsIndex k)=true:=by
  rw[fitsIndex_both h1 h2];exact Bool.false_ne_true
 have hlong:¬Builtin.List.listTooLong (its.toArray.size*k.toNat)=true:=by
  rw[a9k hlen];exact Bool.false_ne_true
 have hnew:List.foldl (λx1 x2=>x1++x2) #[] (List.replicate (if its.toArray.isEmpty=true then 0 else k.toNat) its.toArray)=(List.replicate k.toNat its).flatten.toArray:=by
  have f0:∀m:Nat,List.foldl (λx1 x2=>x1++x2) #[] (List.replicate m its.toArray)=(List.replicate m its).flatten.toArray:=λm=>by
   have:=a2z its m [];rw[List.nil_append]at this;exact this
  rw[f0];cases its with
  |nil=>simp
  |cons a r'=>rw[if_neg (by simp)]
 refine wpAny_binaryOp_repeat_ref (T:="list") (U:="int") (by decide) ⟨_,e,rfl⟩ (λs'=>typeIs_int s' k t) noFill_list_mul F.fills_int_mul F.slot_int_rmul repeat_list F.slot_int_index.lookup
  (call_meets F.slot_int_rmul (typeIs_int s k t) F.entry_int_rmul (F.args_int_rmul_2 _ _) (int___rmul___int_list k t l its.toArray n)
   ⟨e,rfl,⟨_,e,rfl⟩,call_meets F.slot_list_mul ⟨_,e,rfl⟩ F.entry_list_mul (F.args_list_mul_2 _ _) (AutoListH.list___mul___list_int_3 l its.toArray n k t hfit hcap hlong) ⟨e,?_⟩⟩)
 rw[hnew];exact⟨.ref _,_,I.lnew (t':=s.toks) (r.rep k.toNat) (by rw[a3c,Nat.mul_comm];exact hz),rfl,q _ I.fresh⟩
end
section
variable {prog:Program}{w:World}{A:Around}{E:Value->Shared->Prop}{s:Shared}
end
section
variable {X:Cx}
end
end L2
namespace Att
open PySem PySem.W PySem.Calls PyProof.Rows
theorem a0N{P:Params}{h:Heap}:∀(ns:List Int) (vs:List Value),WellAll P h vs (ns.map WData.int)->IntsAre vs ns:=by
 intro ns;induction ns with
 |nil =>
  intro vs w;rw[List.map_nil]at w;cases w;exact .nil
 |cons n ns ih =>
  intro vs w;rw[List.map_cons]at w;cases w with
  |cons a b =>
   cases a;exact .cons _ _ (ih _ b)
theorem a6I{l:OpenLaw}{n:Nat}(hn:l.most=some n){P:Params}{h:Heap}{args:List WData}{vals:List Value}
  (hpre:l.row.toRowW.claim.pre args=true) (hwl:WellAll P h vals args) :
  ∃a vs ns,vals=[Value.ref a]/\args=[WData.list (ns.map WData.int)]/\h.get? a=some {cls:=.type "list",data:=.seq vs.toArray}/\IntsAre vs ns/\ns.length<=n:=by
 have hsh:WShape.hasAll [] args [.list .int]=true:=(pre_splitW hpre).1;have hc:l.pre.holds [] {args:=args}=true:=(pre_splitW hpre).2;obtain⟨d,r,rfl,h1,h2⟩:=hasAllW_cons hsh;obtain rfl:=hasAllW_nil h2;obtain⟨xs,rfl,h3⟩:=hasW_list h1;obtain⟨ns,rfl⟩:=items_int h3;have hlen:ns.length<=n:=by
  unfold OpenLaw.pre at hc;have h4:(WTm.not (.lt (.lit (.int (n:Int))) (.len (.arg 0)))).holds [] {args:=[.list (ns.map .int)]}=true:=by
   have h4:=(holds_andW hc).1;rw[hn]at h4;exact h4
  have h5:=condW_of h4 (w_not (w_lt w_lit (w_len_list (w_arg rfl))));rw[List.length_map]at h5;refine Nat.le_of_not_lt λq=>?_;have q':(n:Int)<((ns.length:Nat):Int):=by omega
  first
   |(rw[decide_eq_true q']at h5;exact absurd h5 (by decide))
   |(simp at h5;omega)
 cases hwl with
 |cons w1 w2 =>
  cases w2;cases w1 with
  |list ho hall=>exact⟨_,_,ns,rfl,rfl,ho,a0N ns _ hall,hlen⟩
theorem a6P(l:OpenLaw)(args:List WData):l.row.toRowW.claim.post args (.bool true) args=true :=
 postW_of (r:=l.row.toRowW) (X:=(true==true))
  (show WShape.has [] (.bool true) .bool=true by first|rfl|decide|simp[WShape.has,WShape.arms,WShape.armsAll])
  (show(WTm.eq .res (.lit (.bool true))).value [] {args:=args,res:=some (.bool true),after:=args}=some (.bool (true==true))from w_eq_bool (w_res rfl) w_lit) rfl
theorem attach_call{l:OpenLaw}{n:Nat}{q:Program}{loose:List Str}{XP:(Str->Option Value)->Heap->Prop}{YP:World->Heap->Prop}{d:DefRec}
  (hn:l.most=some n) (hdf:d.params.defaults=[])
  (call:∀(w:World) (s₀ s₁:Shared) (mg mb:Str->Option Value) (fa:Addr) (o:Obj) (pm cd doc:Value) (a:Addr) (vs:List Value) (ns:List Int),
   Ground q loose [] XP w s₀ mg mb s₁.heap->YP w s₁.heap ->
   s₁.heap.get? fa=some o->o.data=.func (docDef d.name d.params d.body d.scope pm cd doc)->s₁.heap.CodeRec cd d.name->mg d.name=some (.ref fa) ->
   s₁.heap.get? a=some {cls:=.type "list",data:=.seq vs.toArray}->IntsAre vs ns->ns.length<=n->s₁.gens=#[] ->
   codeAny (model l.prog w) callerA (.call (.ref fa) ⟨[.ref a],[]⟩) (λr s'=>r=.ok (.ret (.bool true))/\OldK s₁.heap s'.heap/\s'.os=s₁.os/\AllBare s'.gens) s₁) :
  WalkO q loose XP YP l.row.toRowW d [] (λf vs=>PySem.call f vs):=by
 intro w s₀ s₁ mg mb G Y fa o pm cd doc dV kV ho hd hcd hD hmg hg args vals as hpre hlay hrd hwl hlo;obtain rfl:dV=.none:=Dflts.none hD hdf;obtain rfl:kV=.none:=Dflts.noKw hD;obtain⟨a,vs,ns,rfl,rfl,hobj,hints,hlen⟩:=a6I hn hpre hwl;refine enter_call (codeAny_mono (call w s₀ s₁ mg mb fa o pm cd doc a vs ns G Y ho (fd_plain hd) hcd hmg hobj hints hlen hg) λr s' hq=>?_);obtain⟨rfl,h2,h3,h4⟩:=hq;exact⟨.inl ⟨.bool true,.bool true,[],rfl,λ_=>rfl,.bool true,a6P l _,λ_=>⟨List.Pairwise.nil,λ_ hm=>(nomatch hm)⟩⟩,h2,h3,h4⟩
section
variable {prog:Program}{w:World}{A:Around}{E:Value->Shared->Prop}{s:Shared}{K:Frag}
end
end Att
namespace L2
open PySem PySem.Spec PyProof.Rows
theorem a2j:∀{vs:List Value}{ns:List Int},IntsAre vs ns->Vals (ns.map V.int) vs
 |_,_,.nil=>.nil
 |_,_,.cons n t h=>.cons ⟨t,rfl⟩ (a2j h)
def b4N(H:Hp):Prop:=∀b,H b=none∨∃o xs,H b=some (.frz o (.lst xs))
theorem a9u{P:Program}{w:World}{K:PySem.W.Frag}{mg mb:Str->Option Value}{CX:CXT}{k:Nat}{fa a:Addr}{fd:FuncData}{x:Str}{sp:Sp}{s₁:Shared}{vs:List Value}{ns:List Int}
  (KX:K.In s₁.heap) (hns:s₁.heap.Ns mainGlobals mg) (hb:s₁.heap.Ns builtinsNs mb) (hbb:∀x:Str,x≠"__name__"->mb x=bootBuiltins x) (hlim:s₁.heap.NoLimit) (hg:s₁.gens=#[])
  (ha:s₁.heap.get? a=some {cls:=.type "list",data:=.seq vs.toArray}) (hi:IntsAre vs ns) (hl:ns.length<=sizeLine) (hr:Room k callerA)
  (F:∀base:Heap,K.In base->base.Ns mainGlobals mg->FnOk P w K mg base CX k fa fd [x] sp) (hbind:∀(s:Shared) (u:Value),BindsTo s fd ⟨[u],[]⟩ [(x,u)])
  (hsp:∀H:Hp,b4N H->SqL K H a (ns.map V.int)->sp [.ref a] H (λv _=>v=.bl true) λ_ _ _=>False)
  (hCX:∀H e s',CX [] H s₁ (λ_ _ _=>False) e s'->False) :
  codeAny (model P w) callerA (.call (.ref fa) ⟨[.ref a],[]⟩) (λr s'=>r=.ok (.ret (.bool true))/\OldK s₁.heap s'.heap/\s'.os=s₁.os/\AllBare s'.gens) s₁:=by
 have rv:=a2j hi;have lenV:=hi.length;have core:∀H:Hp,b4N H->SqL K H a (ns.map V.int)->HOk P w H s₁.heap->(∀b,H b≠none->b=a)->(H a≠none->K.lookup a=none) ->
   codeAny (model P w) callerA (.call (.ref fa) ⟨[.ref a],[]⟩) (λr s'=>r=.ok (.ret (.bool true))/\OldK s₁.heap s'.heap/\s'.os=s₁.os/\AllBare s'.gens) s₁:=by
  intro H hO hS hok hA hK;have base_of:∀{b:Addr}{o:Obj},s₁.heap.get? b=some o->H b=none->(a3l s₁.heap H).get? b=some o:=λe n=>a9N e n;have noA:∀{b:Addr}{o:Obj}{es:Array DictEntry}{ep:Nat},s₁.heap.get? b=some o->o.data=.dict es ep->H b=none:=λ{b o es ep} e d=>by
   cases q:H b with
   |none=>rfl
   |some u =>
    have e':b=a:=hA b (by rw[q];simp);subst e';rw[ha]at e;cases e;have d':Data.seq vs.toArray _=Data.dict es ep:=d;cases d'
  have nsK:∀{b:Addr}{m:Str->Option Value},s₁.heap.Ns b m->(a3l s₁.heap H).Ns b m:=λ{b m} ⟨o,es,ep,e,d,r⟩=>⟨o,es,ep,base_of e (noA e d),d,r⟩;have hKb:K.In (a3l s₁.heap H):=λb o e=>base_of (KX b o e) (by
   cases q:H b with
   |none=>rfl
   |some u =>
    have e':b=a:=hA b (by rw[q];simp);subst e';rw[hK (by rw[q];simp)]at e;cases e)
  have hM:Mod K mg (a3l s₁.heap H):=⟨hKb,nsK hns,⟨mb,nsK hb,hbb⟩,let ⟨mc,h1,h2⟩:=hlim;⟨mc,nsK h1,h2⟩⟩;have e0:Env0 P w K mg (a3l s₁.heap H) callerA [] s₁ H:=⟨rfl,hM,λb o e=>b1F e,Nat.le_of_eq (a7o _ _),trivial,λb hb=>absurd (show b∈([]:List Addr)from hb) (by simp),hok,.of_eq hg⟩;refine codeAny_mono ((F _ hKb (nsK hns)).run callerA [] s₁ H ⟨[.ref a],[]⟩ [.ref a] [.ref a] _ _ hr e0 (hbind s₁ (.ref a)) (.cons rfl .nil) (hsp H hO hS)) λr s' h=>?_;cases r with
  |error e=>exact(hCX H e s' h).elim
  |ok fl =>
   cases fl with
   |next=>exact False.elim h
   |brk=>exact False.elim h
   |cont=>exact False.elim h
   |ret u =>
    obtain⟨v,H',os,bare,un,hok',r',q⟩:=h;have q':v=.bl true:=q;subst q';obtain rfl:u=Value.bool true:=r';refine⟨rfl,OldK.of_keep λb o e=>?_,os,bare⟩;cases q:H b with
    |none=>exact un.keep b o e q (by intro z;exact absurd (show b∈([]:List Addr)from z) (by simp)) (by simp)
    |some u =>
     rcases hO b with z|⟨ob,xs,z⟩
     .rw[q]at z;cases z
     .have z2:=un.frzs b ob _ z;obtain⟨e1,_⟩:=hok b _ z;obtain⟨e2,_⟩:=hok' b _ z2;rw[e]at e1;cases e1;exact e2
 cases hk:K.lookup a with
 |some o =>
  have e:=KX a o hk;rw[ha]at e;cases e;refine core (λ_=>none) (λ_=>.inl rfl) (.inr ⟨_,vs.toArray,_,hk,rfl,rfl,rfl,by rw[List.size_toArray,lenV];exact hl,by simpa using rv⟩) (λb u z=>by have z':(none:Option HO)=some u:=z;cases z') (λb z=>absurd rfl z) λz=>absurd rfl z
 |none =>
  refine core (λb=>if b=a then some (.frz {cls:=.type "list",data:=.seq vs.toArray} (.lst (ns.map V.int)))else none) (λb=>?_) (.inl (.inr ⟨{cls:=.type "list",data:=.seq vs.toArray},if_pos rfl⟩)) (λb u z=>?_) (λb z=>?_) λ_=>hk
  .by_cases hb:b=a
   .exact .inr ⟨_,_,if_pos hb⟩
   .exact .inl (if_neg hb)
  .by_cases hb:b=a
   .have z':=(if_pos hb).symm.trans z;cases z';subst hb;exact⟨ha,by rw[List.length_map];exact hl,vs,_,rv,ha⟩
   .have z':=(if_neg hb).symm.trans z;cases z'
  .by_cases hb:b=a
   .exact hb
   .exact absurd (if_neg hb) z
theorem walk_of{l:PySem.W.OpenLaw}{n k:Nat}{q:Program}{loose:List Str}{XP:(Str->Option Value)->Heap->Prop}{YP:World->Heap->Prop}{d:DefRec}{K:Params->PySem.W.Frag}{CX:World->CXT}{sp:World->Sp}{x:Str}
  (hn:l.most=some n) (hn2:n<=sizeLine) (hdf:d.params.defaults=[]) (hr:Room k callerA)
  (hY:∀(w:World) (h:Heap),YP w h->(K w.params).In h)
  (F:∀(w:World) (mg:Str->Option Value) (fa:Addr) (h:Heap),(K w.params).In h->h.Ns mainGlobals mg->mg d.name=some (.ref fa) ->
   ∃fd:FuncData,(∀(s:Shared) (u:Value),BindsTo s fd ⟨[u],[]⟩ [(x,u)]) /\
    ∀base:Heap,(K w.params).In base->base.Ns mainGlobals mg->FnOk l.prog w (K w.params) mg base (CX w) k fa fd [x] (sp w))
  (hsp:∀(w:World) (H:Hp) (a:Addr) (ns:List Int),ns.length<=n->b4N H->SqL (K w.params) H a (ns.map V.int)->sp w [.ref a] H (λv _=>v=.bl true) λ_ _ _=>False)
  (hCX:∀(w:World) (H:Hp) (s:Shared) (e:Value) (s':Shared),CX w [] H s (λ_ _ _=>False) e s'->False) :
  PySem.W.WalkO q loose XP YP l.row.toRowW d [] (λf vs=>PySem.call f vs):=by
 refine Att.attach_call hn hdf λw s₀ s₁ mg mb fa o pm cd doc a vs ns G Y ho hd hcd hmg hobj hints hlen hg=>?_;have KX:=hY w _ Y;obtain⟨fd,hb,hF⟩:=F w mg fa _ KX G.T.g hmg;exact a9u KX G.T.g G.T.b G.T.builtins G.T.nolimit hg hobj hints (Nat.le_trans hlen hn2) hr hF hb (λH hO hS=>hsp w H a ns hlen hO hS) λH e s'=>hCX w H s₁ e s'
end L2
namespace L2
open PySem PySem.Spec PyProof.Rows
noncomputable def R8(s:Stmt)(j:Nat):Stmt:=match s with
 |.ClassDef _ _ _ body _ _ _ _ _ _ _=>body.getD j (.Pass ⟨0,0,0,0⟩)
 |_=>.Pass ⟨0,0,0,0⟩
noncomputable def O4(s:Stmt):Arguments:=match s with
 |.FunctionDef _ a _ _ _ _ _ _ _ _=>a
 |_=>{posonlyargs:=[],args:=[],vararg:=none,kwonlyargs:=[],kw_defaults:=[],kwarg:=none,defaults:=[]}
noncomputable def D9(s:Stmt):List Stmt:=match s with
 |.FunctionDef _ _ b _ _ _ _ _ _ _=>b
 |_=>[]
noncomputable def A2(s:Stmt):Scope:=match s with
 |.FunctionDef _ _ _ _ _ _ sc _ _ _=>sc
 |_=>{kind:=.function,names:=[],isGenerator:=false,isCoroutine:=false}
abbrev CX0:CXT:=λ_ _ _ _ _ _=>False
abbrev E0:XK:=λ_ _ _=>False
theorem a8Y{X:Cx}:X4 CX0 X E0:=λ_ _ _ _ _ _ _ h=>h.elim
structure Fun(K:PySem.W.Frag)(x qual:Str)(st:Stmt)(f:Addr)(fd:FuncData):Prop where
 ex:∃(oc:Value) (od:Option Addr) (kV doc pm:Value) (an:Option Addr) (cdv ct:Value) (osl:Array (Option Value)),
  fd=PySem.W.fnOf x qual (O4 st) (D9 st) (A2 st) .none kV doc pm an cdv ct/\K.lookup f=some ⟨oc,od,.func fd,osl⟩/\PySem.W.codeIn K cdv qual=true
 kp:PySem.W.keepIn K (.ref f)=true
section
variable {P:Program}{w:World}{K:PySem.W.Frag}{mg:Str->Option Value}{base:Heap}
theorem Fun.ok{x qual:Str}{st:Stmt}{f:Addr}{fd:FuncData}{N ps:List Str}{k:Nat}{sp:Sp}(F:Fun K x qual st f fd)(S:FnScope N ps (A2 st))(len:∀vs H Q E,sp vs H Q E->vs.length=ps.length)
  (hbody:∀(cdv:Value) (A:Around) (outer:List Env) (s:Shared) (H:Hp) (vs:List V) (Q:VK) (E:XK),Room k (A.deeper (envOfC qual (A2 st) s.heap.objs.size f cdv))->sp vs H Q E ->
   ∃t,PSs (G2 CX0 P w K mg base N qual (A2 st) f cdv A outer s H E).nox (D9 st) t/\t {nx:=λ_ H'=>Q .non H',rt:=Q} (start N vs) H):FnOk P w K mg base CX0 (k+1) f fd ps sp:=by
 obtain⟨oc,od,kV,doc,pm,an,cdv,ct,osl,rfl,lk,hcd⟩:=F.ex;refine a9R lk hcd S len λA outer s H vs Q E hr hsp=>?_;obtain⟨t,h,q⟩:=hbody cdv A outer s H vs Q E hr hsp;exact⟨t,h.nox,q⟩
theorem Fun.binds{x qual:Str}{st:Stmt}{f:Addr}{fd:FuncData}{ps:List Str}(F:Fun K x qual st f fd)
  (h:∀(kV doc pm:Value) (an:Option Addr) (cdv ct:Value) (us:List Value),us.length=ps.length->bindArgs (PySem.W.fnOf x qual (O4 st) (D9 st) (A2 st) .none kV doc pm an cdv ct) ⟨us,[]⟩=pure (ps.zip us)):Binds K fd ps []:=by
 obtain⟨oc,od,kV,doc,pm,an,cdv,ct,osl,rfl,lk,hcd⟩:=F.ex;exact .all (h kV doc pm an cdv ct)
theorem a1R{x qual:Str}{st:Stmt}{f:Addr}{oc:Value}{od an:Option Addr}{osl:Array (Option Value)}{kV doc pm cdv ct:Value}(l:K.lookup f=some ⟨oc,od,.func (PySem.W.fnOf x qual (O4 st) (D9 st) (A2 st) .none kV doc pm an cdv ct),osl⟩)
  (c:PySem.W.codeIn K cdv qual=true) (k:PySem.W.keepIn K (.ref f)=true):Fun K x qual st f (PySem.W.fnOf x qual (O4 st) (D9 st) (A2 st) .none kV doc pm an cdv ct):=⟨⟨oc,od,kV,doc,pm,an,cdv,ct,osl,rfl,l,c⟩,k⟩
end
section
variable {X:Cx}
theorem pv(i:Nat){x:Str}{pos:Pos}(hN:X.N[i]?=some x:=by rfl)(hv:Vis X.env.scope x:=by first|exact Or.inl rfl|exact Or.inr (Or.inl rfl)|exact Or.inr (Or.inr rfl))(hd:(x==("__debug__" : Str))=false:=by decide)
  (hcd:(x==("__classdict__" : Str))=false:=by decide):PE X (.Name x pos) (Y0 i):=a8U hN hv hd hcd
end
theorem L4{A B:Prop}(h:B):if false=true then A else B:=by
 rw[if_neg Bool.false_ne_true];exact h
theorem a2d{A B:Prop}(h:A):if true=true then A else B:=by
 rw[if_pos rfl];exact h
theorem Q0{c A B:Prop}[Decidable c](h1:c->A)(h2:¬c->B):if c then A else B:=by
 by_cases h:c
 .rw[if_pos h];exact h1 h
 .rw[if_neg h];exact h2 h
def Same(H H':Hp):Prop:=∀b o,H b=some o->H' b=some o
theorem Same.refl(H:Hp):Same H H:=λ_ _ h=>h
theorem Same.trans{H H1 H2:Hp}(a:Same H H1)(b:Same H1 H2):Same H H2:=λc o h=>b c o (a c o h)
theorem Same.free{H H':Hp}(e:Same H H'){l:Addr}(h:H' l=Option.none):H l=Option.none:=by
 cases q:H l with
 |none=>rfl
 |some o =>
  rw[e l o q]at h;cases h
theorem Same.seq{K:PySem.W.Frag}{H H':Hp}{a:Addr}{xs:List V}(e:Same H H')(h:SqL K H a xs):SqL K H' a xs:=by
 rcases h with(h|⟨o,h⟩)|h
 .exact .inl (.inl (e _ _ h))
 .exact .inl (.inr ⟨o,e _ _ h⟩)
 .exact .inr h
noncomputable def G9(env:Env)(cs:List (Str×Addr))(x:Str×NameKind):List (Str×Addr) :=
 if x.2==.free then(match env.cells.lookup x.1 with|some a=>(x.1,a)::cs|none=>cs)else cs
noncomputable def a0O(scope:Scope)(env:Env):List (Str×Addr):=scope.names.foldl (G9 env) []
theorem a1Y{env:Env}(f:Str×NameKind->List (Str×Addr)->Sem (ForInStep (List (Str×Addr))))
  (hf:∀n k r,f (n,k) r=if (k==NameKind.free)=true then(do let a <-cellOf env n;pure (ForInStep.yield ((n,a)::r)))else pure (ForInStep.yield r)) :
  ∀(names:List (Str×NameKind)) (cs:List (Str×Addr)),(∀x∈names,x.2=.free->∃a,env.cells.lookup x.1=some a)->forIn names cs f=pure (names.foldl (G9 env) cs)
 |[],cs,_=>rfl
 |(n,k)::r,cs,h=>by
  rw[List.forIn_cons,List.foldl_cons,hf];have hr:=λy hy=>h y (List.mem_cons_of_mem _ hy);by_cases hk:k=.free
  .subst hk;obtain⟨a,ha⟩:=h (n,NameKind.free) List.mem_cons_self rfl;have e1:cellOf env n=pure a:=by unfold cellOf;rw[ha]
   have e2:G9 env cs (n,NameKind.free)=(n,a)::cs:=by unfold G9;rw[ha];rfl
   rw[e2,<-a1Y f hf r _ hr,e1];rfl
  .have hb:(k==NameKind.free)=false:=by simpa using hk
   have e2:G9 env cs (n,k)=cs:=by unfold G9;rw[hb];rfl
   rw[e2,<-a1Y f hf r _ hr,hb];rfl
theorem b0a{scope:Scope}{env:Env}(h:∀x∈scope.names,x.2=.free->∃a,env.cells.lookup x.1=some a):closureFor scope env=pure (a0O scope env):=by
 simp only[closureFor];rw[a1Y (env:=env) _ (λn k r=>by cases hkc:k==NameKind.free<;>simp[hkc]) scope.names [] h];rfl
theorem a2B{env:Env}{x:Str}{c:Addr}:∀(names:List (Str×NameKind)) (cs:List (Str×Addr)),(names.foldl (G9 env) cs).lookup x=some c->env.cells.lookup x=some c∨cs.lookup x=some c
 |[],cs,h=>.inr h
 |y::r,cs,h=>by
  rw[List.foldl_cons]at h;rcases a2B r _ h with z|z
  .exact .inl z
  .unfold G9 at z;split at z
   .split at z
    .rename_i a ha;rw[List.lookup_cons]at z;cases hb:x==y.1 with
     |true =>
      rw[hb]at z;rw[beq_iff_eq.mp hb];exact .inl (ha.trans z)
     |false =>
      rw[hb]at z;exact .inr z
    .exact .inr z
   .exact .inr z
theorem V8{scope:Scope}{env:Env}{x:Str}{c:Addr}(h:(a0O scope env).lookup x=some c):env.cells.lookup x=some c :=
 (a2B scope.names [] h).elim id λz=>by cases z
theorem X1{env:Env}{x:Str}{a:Addr}(ha:env.cells.lookup x=some a):∀(names:List (Str×NameKind)) (cs:List (Str×Addr)),((x,NameKind.free)∈names∨cs.lookup x=some a)->(∀c,cs.lookup x=some c->c=a)->(names.foldl (G9 env) cs).lookup x=some a
 |[],cs,h,_=>h.elim (λz=>by cases z) id
 |y::r,cs,h,hc=>by
  rw[List.foldl_cons];by_cases hy:y.2=.free/\y.1=x
  .have e2:G9 env cs y=(x,a)::cs:=by unfold G9;rw[hy.2,ha,hy.1];rfl
   rw[e2];have el:((x,a)::cs).lookup x=some a:=by rw[List.lookup_cons];simp
   exact X1 ha r _ (.inr el) λc z=>by rw[el]at z;exact(Option.some.inj z).symm
  .have same:(G9 env cs y).lookup x=cs.lookup x:=by
    unfold G9;split
    .rename_i hk;split
     .have hne:(x==y.1)=false:=by
       cases hb:x==y.1 with
       |false=>rfl
       |true=>exact absurd ⟨by simpa using hk,(beq_iff_eq.mp hb).symm⟩ hy
      rw[List.lookup_cons,hne]
     .rfl
    .rfl
   refine X1 ha r _ ?_ (by rw[same];exact hc);rw[same];rcases h with z|z
   .rcases List.mem_cons.mp z with e|z
    .exact absurd ⟨by rw[<-e],by rw[<-e]⟩ hy
    .exact .inl z
   .exact .inr z
theorem a4v{scope:Scope}{env:Env}{x:Str}{a:Addr}(ha:env.cells.lookup x=some a)(hx:(x,NameKind.free)∈scope.names):(a0O scope env).lookup x=some a :=
 X1 ha _ _ (.inl hx) λc z=>by cases z
theorem Q2{x:Str}{c:Addr}:∀(names:List (Str×NameKind)) (n:Nat) (acc:List (Str×Addr)),(cellsFrom n names acc).lookup x=some c->(n<=c/\(x,NameKind.cell)∈names)∨acc.lookup x=some c
 |[],_,_,h=>.inr h
 |(y,k)::r,n,acc,h=>by
  unfold cellsFrom at h;split at h
  .rename_i hk;have hk':k=.cell:=by simpa using hk
   rcases Q2 r _ _ h with⟨z1,z2⟩|z
   .exact .inl ⟨by omega,List.mem_cons_of_mem _ z2⟩
   .rw[List.lookup_cons]at z;cases hb:x==y with
    |true =>
     rw[hb]at z;cases z;exact .inl ⟨Nat.le_refl _,by rw[hk',beq_iff_eq.mp hb];exact List.mem_cons_self⟩
    |false =>
     rw[hb]at z;exact .inr z
  .rcases Q2 r _ _ h with⟨z1,z2⟩|z
   .exact .inl ⟨z1,List.mem_cons_of_mem _ z2⟩
   .exact .inr z
theorem a5q:∀(names:List (Str×NameKind)) (n:Nat) (acc:List (Str×Addr)),(∀x c,acc.lookup x=some c->c<n)->(∀x y c,acc.lookup x=some c->acc.lookup y=some c->x=y) ->
  ∀x y c,(cellsFrom n names acc).lookup x=some c->(cellsFrom n names acc).lookup y=some c->x=y
 |[],_,_,_,h2=>h2
 |(z,k)::r,n,acc,h1,h2=>by
  unfold cellsFrom;split
  .have lk:∀x c,List.lookup x ((z,n)::acc)=some c->(x=z/\c=n)∨acc.lookup x=some c:=λx c e=>by
    rw[List.lookup_cons]at e;cases hb:x==z with
    |true=>rw[hb]at e;cases e;exact .inl ⟨beq_iff_eq.mp hb,rfl⟩
    |false=>rw[hb]at e;exact .inr e
   refine a5q r (n+1) _ (λx c e=>?_) λx y c e e'=>?_
   .rcases lk x c e with⟨_,q⟩|q
    .rw[q];exact Nat.lt_succ_self _
    .exact Nat.lt_succ_of_lt (h1 x c q)
   .rcases lk x c e with⟨q1,q2⟩|q<;>rcases lk y c e' with⟨p1,p2⟩|p
    .rw[q1,p1]
    .exact absurd (h1 y c p) (by rw[q2];exact Nat.lt_irrefl _)
    .exact absurd (h1 x c q) (by rw[p2];exact Nat.lt_irrefl _)
    .exact h2 x y c q p
  .exact a5q r n acc h1 h2
theorem a3r{x:Str}:∀(names:List (Str×NameKind)) (n:Nat) (acc:List (Str×Addr)),((x,NameKind.cell)∈names∨∃c,acc.lookup x=some c)->∃c,(cellsFrom n names acc).lookup x=some c
 |[],_,_,h=>h.elim (λz=>by cases z) id
 |(y,k)::r,n,acc,h=>by
  unfold cellsFrom;split
  .rename_i hk;refine a3r r _ _ ?_;by_cases hx:x=y
   .exact .inr ⟨n,by rw[List.lookup_cons,hx];simp⟩
   .have hb:(x==y)=false:=beq_eq_false_iff_ne.mpr hx;rcases h with z|⟨c,z⟩
    .rcases List.mem_cons.mp z with e|z
     .exact absurd (Prod.mk.inj e).1 hx
     .exact .inl z
    .exact .inr ⟨c,by rw[List.lookup_cons,hb];exact z⟩
  .rename_i hk;refine a3r r _ _ ?_;rcases h with z|z
   .rcases List.mem_cons.mp z with e|z
    .exact absurd (by rw[<-(Prod.mk.inj e).2];rfl) hk
    .exact .inl z
   .exact .inr z
theorem a2Z{x:Str}{c:Addr}:∀(names:List (Str×NameKind)) (h:Heap) (acc:List (Str×Addr)),(∀x c,acc.lookup x=some c->∃v,h.IsCell c v)->(cellsFrom h.objs.size names acc).lookup x=some c->∃v,(pushCells h names).IsCell c v
 |[],h,acc,ha,e=>ha x c e
 |(y,k)::r,h,acc,ha,e=>by
  unfold cellsFrom at e;unfold pushCells;split at e
  .rename_i hk;rw[if_pos hk];rw[show h.objs.size+1=(h.push {cls:=.type "cell",data:=.cell none}).objs.size from(Heap.size_push ..).symm]at e;refine a2Z r _ _ (λx' c' e'=>?_) e;rw[List.lookup_cons]at e';cases hb:x'==y with
   |true=>rw[hb]at e';cases e';exact⟨_,_,Heap.get?_push_size _ rfl,rfl⟩
   |false =>
    rw[hb]at e';obtain⟨v,z⟩:=ha x' c' e';exact⟨v,z.keeps λb o q=>Heap.get?_push_of_some _ q⟩
  .rename_i hk;rw[if_neg hk];exact a2Z r _ _ ha e
section
variable {M:Model}{A:Around}{E:Value->Shared->Prop}{s:Shared}
theorem a4A{scope:Scope}{globals:Addr}{closure:List (Str×Addr)}{qual:Str}{outer:Env}{Q:Env->Shared->Prop}
  (hQ:Q (newEnv scope s.heap.objs.size globals (cellsFrom (s.heap.objs.size+1) scope.names closure) qual none .none (some outer) builtinsNs) {s with heap:=pushCells (s.heap.push {cls:=.type "dict",data:=.dict #[]}) scope.names}) :
  wpAny M A (newFunctionEnv scope globals closure [] qual none .none (some outer)) Q E s:=by
 simp only[newFunctionEnv,Option.isSome_some,if_true];refine wpAny_bind (wpAny_alloc ?_);refine wpAny_bind (wpAny_layCells _ (λname kind cells=>by cases hkc:kind==NameKind.cell<;>simp[hkc]) _ _ _ _ ?_);rw[show({s with heap:=s.heap.push {cls:=.type "dict",data:=.dict #[]}}:Shared).heap.objs.size=s.heap.objs.size+1 from Heap.size_push ..];exact wpAny_bind (wpAny_pure (wpAny_pure hQ))
end
section
variable {prog:Program}{w:World}{A:Around}{s:Shared}
abbrev NoX:Value->Shared->Prop:=λ_ _=>False
theorem toE{α:Type}{M:Model}{A:Around}{t:Sem α}{Q Q':α->Shared->Prop}{E:Value->Shared->Prop}{s:Shared}(h:wpAny M A t Q NoX s)(hQ:∀a s,Q a s->Q' a s):wpAny M A t Q' E s :=
 wpAny_mono h hQ λ_ _ z=>z.elim
theorem a3p{elt target iter:Expr}{ifs:List Expr}{scope:Scope}{pos:Pos}{it acc:Value}{env:Env}{R:Result->Shared->Prop}(I:Nat->Shared->Prop)
  (turn:∀n s,I n s->wpAny (model prog w) A (pyNext it) (λr s₁=>match r with
   |none=>R (.ok .next) s₁
   |some v=>wpAny (model prog w) A (letOwnedTupleGo target it v) (λ_ s₂=>wpAny (model prog w) A (assign target env v) (λ_ s₃ =>
     wpAny (model prog w) A (forIn ifs true λc r=>if r=true then do let ok <-isTrue c env (eval c env);pure (ForInStep.yield ok)else pure (ForInStep.yield r)) (λok s₄ =>
      if ok=true then wpAny (model prog w) A (eval elt env) (λx s₅=>wpAny (model prog w) A (call (.builtin "list.append") [acc,x]) (λ_ s₆=>∃m,m<n/\I m s₆) NoX s₅) NoX s₄
      else ∃m,m<n/\I m s₄) NoX s₃) NoX s₂) NoX s₁) NoX s)
  (n:Nat) (h:I n s):codeAny (model prog w) A (.compLoop (.ListComp elt [⟨target,iter,ifs,0⟩] scope pos) 0 it acc env) R s:=by
 refine codeAny_loop rfl I (λn s hI=>?_) n h;show wpAny _ A ((compTurn (.ListComp elt [⟨target,iter,ifs,0⟩] scope pos) 0 it acc env).onRaise (λx=>do noteFrame x env;theTreesLotGoes x)) _ _ s;refine wpAny_noted ?_;rw[compTurn_list];refine wpAny_bind (wpAny_standAt (wpAny_bind (toE (turn n s hI) λr s₁ h₁=>?_)));cases r with
 |none=>exact wpAny_pure h₁
 |some v =>
  refine wpAny_bind (toE h₁ λ_ s₂ h₂=>wpAny_bind (toE h₂ λ_ s₃ h₃=>wpAny_bind (toE h₃ λok s₄ h₄=>?_)));cases ok with
  |false=>exact wpAny_pure ⟨rfl,h₄⟩
  |true=>exact wpAny_bind (wpAny_bind (toE h₄ λx s₅ h₅=>wpAny_bind (toE h₅ λ_ s₆ h₆=>wpAny_pure (wpAny_pure ⟨rfl,h₆⟩))))
end
noncomputable def Cx.blk(X:Cx)(N:List Str)(scope:Scope)(cells:List (Str×Addr))(C:Addr)(s:Shared)(H:Hp)(ex:List Addr):Cx :=
 {X with N:=N,s₀:=s,H₀:=H,env:=compEnvC scope cells C X.env,outer:=X.stack,stack:=X.stack,ex:=ex,fn:=λx=>scope.names.any λy=>y.1==x && y.2==.cell,pn:=[],xe:=NoX}
noncomputable def C1(src:List (Option Nat))(σ:St):St:=src.map λo=>o.bind λj=>(σ[j]?).join
noncomputable def D0(sc out:Scope):Bool:=sc.names.all λx=>x.2 != .free || (out.names.lookup x.1==some .cell || out.names.lookup x.1==some .free)
noncomputable def L9:List Str->List (Option Nat)->List Str->Scope->Bool
 |[],[],_,_=>true
 |x::N,o::src,M,sc=>(match o with|none=>true|some j=>M[j]? == some x && sc.names.lookup x==some .free) && L9 N src M sc
 |_,_,_,_=>false
noncomputable def a2S(sc:Scope):Bool:=sc.kind==.function && sc.names.all λx=>sc.names.lookup x.1==some x.2
theorem a2C:∀{N:List Str}{src:List (Option Nat)}{M:List Str}{sc:Scope},L9 N src M sc=true->src.length=N.length
 |[],[],_,_,_=>rfl
 |_::N,_::src,M,sc,h=>by
  unfold L9 at h;rw[Bool.and_eq_true]at h;rw[List.length_cons,List.length_cons,a2C h.2]
 |[],_::_,_,_,h=>by simp[L9]at h
 |_::_,[],_,_,h=>by simp[L9]at h
theorem a2D:∀{N:List Str}{src:List (Option Nat)}{M:List Str}{sc:Scope}{i:Nat}{x:Str}{j:Nat},L9 N src M sc=true->N[i]?=some x->src[i]?=some (some j)->M[j]?=some x/\sc.names.lookup x=some .free
 |[],[],_,_,_,_,_,_,h,_=>by simp at h
 |y::N,o::src,M,sc,0,x,j,h,h1,h2=>by
  unfold L9 at h;rw[Bool.and_eq_true]at h;simp at h1 h2;subst h1 h2;have q:=h.1;rw[Bool.and_eq_true]at q;exact⟨beq_iff_eq.mp q.1,beq_iff_eq.mp q.2⟩
 |y::N,o::src,M,sc,i+1,x,j,h,h1,h2=>by
  unfold L9 at h;rw[Bool.and_eq_true]at h;exact a2D h.2 (by simpa using h1) (by simpa using h2)
 |[],_::_,_,_,_,_,_,h,_,_=>by simp[L9]at h
 |_::_,[],_,_,_,_,_,h,_,_=>by simp[L9]at h
theorem a7L{src:List (Option Nat)}{σ:St}{i:Nat}{v:V}(h:(C1 src σ)[i]?=some (some v)):∃j,src[i]?=some (some j)/\σ[j]?=some (some v):=by
 unfold C1 at h;rw[List.getElem?_map]at h;cases e:src[i]? with
 |none=>rw[e]at h;cases h
 |some o =>
  rw[e]at h;cases o with
  |none=>cases h
  |some j =>
   refine⟨j,rfl,?_⟩;have h':(σ[j]?).join=some v:=Option.some.inj h;cases q:σ[j]? with
   |none=>rw[q]at h';cases h'
   |some z=>rw[q]at h';rw[show z=some v from h']
theorem S8{env:Env}:∀{names:List (Str×NameKind)}{x:Str}{k:NameKind},
  (names.map λ(n,k)=>if (k==NameKind.free && env.scope.kind==.function && env.kindOf n==some .cell)then(n,NameKind.cell)else(n,k)).lookup x=some k ->
  ∃k',names.lookup x=some k'/\(k=k'∨(k'=.free/\k=.cell))
 |[],_,_,h=>by cases h
 |(n,k0)::r,x,k,h=>by
  rw[List.map_cons,List.lookup_cons]at h;rw[List.lookup_cons];dsimp only at h;split at h
  .rename_i h0;have hb:x==n:=by
    split at h0<;>exact h0
   rw[hb];refine⟨k0,rfl,?_⟩;split at h
   .rename_i hc;cases h;simp only[Bool.and_eq_true]at hc;exact .inr ⟨by simpa using hc.1.1,rfl⟩
   .cases h;exact .inl rfl
  .rename_i h0;have hb:(x==n)=false:=by
    split at h0<;>exact h0
   rw[hb];exact S8 h
theorem J3{env:Env}:∀{names:List (Str×NameKind)}{x:Str}{k':NameKind},names.lookup x=some k' ->
  ∃k,(names.map λ(n,k)=>if (k==NameKind.free && env.scope.kind==.function && env.kindOf n==some .cell)then(n,NameKind.cell)else(n,k)).lookup x=some k/\(k=k'∨(k'=.free/\k=.cell))
 |[],_,_,h=>by cases h
 |(n,k0)::r,x,k',h=>by
  rw[List.lookup_cons]at h;rw[List.map_cons];by_cases hc:(k0==NameKind.free && env.scope.kind==.function && env.kindOf n==some .cell)=true
  .simp only[hc,if_true];rw[List.lookup_cons];cases hb:x==n with
   |true =>
    rw[hb]at h;cases h;simp only[Bool.and_eq_true]at hc;exact⟨_,rfl,.inr ⟨by simpa using hc.1.1,rfl⟩⟩
   |false=>rw[hb]at h;exact J3 h
  .simp only[if_neg hc];rw[List.lookup_cons];cases hb:x==n with
   |true=>rw[hb]at h;cases h;exact⟨_,rfl,.inl rfl⟩
   |false=>rw[hb]at h;exact J3 h
def PIf(X:Cx)(ifs:List Expr)(t:TT):Prop :=
 ∀(pins:List (Addr×Obj)) (s:Shared) (σ:St) (H:Hp) (Q:Bool->Hp->Prop),Inv X pins σ H s->t σ H Q ->
  wpAny (model X.prog X.w) X.A (forIn ifs true λc r=>if r=true then do let ok <-isTrue c X.env (eval c X.env);pure (ForInStep.yield ok)else pure (ForInStep.yield r)) (TP X pins σ Q) X.xe s
def a1m:TT:=λ_ H Q=>Q true H
theorem b1c{X:Cx}:PIf X [] a1m:=λpins s σ H Q I h=>wpAny_tests_nil ⟨H,I,h⟩
theorem b1b{X:Cx}{c:Expr}{t:TT}(h:PT X c t):PIf X [c] t:=λpins s σ H Q I q=>wpAny_tests_one (h pins s σ H Q I q)
def Sub(σ σ':St):Prop:=σ.length=σ'.length/\∀(i:Nat) (v:V),σ[i]?=some (some v)->σ'[i]?=some (some v)
def T7(src:List (Option Nat))(g:TG)(tt:TT)(te:TE)(σ:St)(Q:VK)(J:It)(H1:Hp):Prop :=
 ∃W:Nat->Nat->List V->Hp->Prop,(∃m,W 0 m [] H1)/\∀i m ys H,W i m ys H ->
  (J.stop i H/\ys.length<=sizeLine/\∀p,H p=none->Q (.ref p) (upd H p (.lst ys))) ∨
  (J.go i H/\ys.length<sizeLine/\∃N:List V->Hp->Prop,(∀zs H',N zs H'->∃m',m'<m/\W (i+1) m' zs H')/\∀x H',J.yld i H x H'->g x (C1 src σ) H' λσ2 H2=>Sub (C1 src σ) σ2/\tt σ2 H2 λb H3 =>
   if b=true then te σ2 H3 λv H4=>N (ys++[v]) H4 else N ys H3)
def a3I(src:List (Option Nat))(wi:TI)(g:TG)(tt:TT)(te:TE):TE:=λσ H Q=>wi σ H (T7 src g tt te σ Q)
section
variable {X:Cx}{pins:List (Addr×Obj)}{σ:St}{H:Hp}{s:Shared}
theorem Inv.block{N:List Str}{src:List (Option Nat)}{scope:Scope}{fp:List Addr}(I:Inv X pins σ H s)(hf:∀b∈fp,a0x X pins H b)(ho:∀b∈fp,∃o,s.heap.get? b=some o)
  (hcap:D0 scope X.env.scope=true) (hblk:L9 N src X.N scope=true) (hsc:a2S scope=true) {lo:Obj} :
  Inv (X.blk N scope (cellsFrom (s.heap.objs.size+2) scope.names (a0O scope X.env)) (s.heap.objs.size+1) s H fp) [] (C1 src σ) H
   {s with heap:=pushCells ((s.heap.push lo).push {cls:=.type "dict",data:=.dict #[]}) scope.names}:=by
 unfold a2S at hsc;rw[Bool.and_eq_true]at hsc;have hkind:scope.kind=.function:=by simpa using hsc.1
 have hnd:∀x∈scope.names,scope.names.lookup x.1=some x.2:=λx hx=>by simpa using List.all_eq_true.mp hsc.2 x hx
 have hfree:∀x∈scope.names,x.2=.free->X.env.kindOf x.1=some .cell∨X.env.kindOf x.1=some .free:=λx hx hk=>by
  have q:=List.all_eq_true.mp hcap x hx;rw[hk]at q;have q':(X.env.scope.names.lookup x.1==some .cell || X.env.scope.names.lookup x.1==some .free)=true:=by simpa using q
  rw[Bool.or_eq_true]at q';exact q'.imp (λz=>beq_iff_eq.mp z) λz=>beq_iff_eq.mp z
 have keep:∀b o,s.heap.get? b=some o->(pushCells ((s.heap.push lo).push {cls:=.type "dict",data:=.dict #[]}) scope.names).get? b=some o:=λb o e =>
  pushCells_keeps _ _ _ _ (Heap.get?_push_of_some _ (Heap.get?_push_of_some _ e))
 have clc:∀x c,(a0O scope X.env).lookup x=some c->c<s.heap.objs.size:=λx c e=>by
  obtain⟨v,z⟩:=I.cell x c (V8 e);exact z.lt
 have cases':∀x c,(cellsFrom (s.heap.objs.size+2) scope.names (a0O scope X.env)).lookup x=some c->(s.heap.objs.size+2<=c/\(x,NameKind.cell)∈scope.names)∨X.env.cells.lookup x=some c:=λx c e =>
  (Q2 _ _ _ e).imp id V8
 have kof:∀x k,(compEnvC scope (cellsFrom (s.heap.objs.size+2) scope.names (a0O scope X.env)) (s.heap.objs.size+1) X.env).kindOf x=some k->∃k',scope.names.lookup x=some k'/\(k=k'∨(k'=.free/\k=.cell)):=λx k e =>
  S8 (env:=X.env) e
 have mem:∀{x k},scope.names.lookup x=some k->(x,k)∈scope.names:=λe=>mem_of_lookup e;refine⟨⟨I.ok.mod,?_,I.ok.glob,I.ok.blt,?_,?_,?_,?_,I.ok.hd,I.ok.frames,.inl rfl,?_,I.bs,Nat.le_trans I.ok.bsz I.sz,?_,?_,I.stack,I.stkFree⟩,rfl,I.bare,Un.kept keep,?_,?_,?_,?_,?_,I.hok.kept keep,?_⟩
 .exact hkind
 .exact Nat.le_succ _
 .-- inj
  refine a5q _ _ _ (λx c e=>?_) λx y c e e'=>I.ok.inj x y c (V8 e) (V8 e');exact Nat.lt_of_lt_of_le (clc x c e) (Nat.le_add_right _ 2)
 .-- has
  intro x hx;refine a3r _ _ _ ?_;have hk:∃k',scope.names.lookup x=some k'/\(k'=.cell∨k'=.free):=by
   rcases hx with hx|hx
   .obtain⟨k',e,z⟩:=kof x _ hx;exact⟨k',e,z.elim (λz=>.inl z.symm) λz=>.inr z.1⟩
   .obtain⟨k',e,z⟩:=kof x _ hx;exact⟨k',e,z.elim (λz=>.inr z.symm) λz=>by cases z.2⟩
  obtain⟨k',e,rfl|rfl⟩:=hk
  .exact .inl (mem e)
  .obtain⟨a,ha⟩:=I.ok.has x (hfree _ (mem e) rfl);exact .inr ⟨a,a4v ha (mem e)⟩
 .-- cab
  intro x c hx e;rcases cases' x c e with z|z
  .exact Nat.le_trans (Nat.le_add_right _ 2) z.1
  .-- x is the block's own cell, so it is not in the closure's part
   exfalso;obtain⟨y,hy,hyx⟩:=List.any_eq_true.mp hx;rw[Bool.and_eq_true]at hyx;have e1:y.1=x:=beq_iff_eq.mp hyx.1;have e2:y.2=.cell:=by simpa using hyx.2
   have l1:scope.names.lookup x=some .cell:=by rw[<-e1,<-e2];exact hnd y hy
   rcases Q2 _ _ _ e with q|q
   .obtain⟨v,z'⟩:=I.cell x c z;exact absurd (Nat.lt_of_lt_of_le z'.lt (Nat.le_trans (Nat.le_add_right _ 2) q.1)) (Nat.lt_irrefl _)
   .-- the closure holds free names alone
    have fr:∀(names:List (Str×NameKind)) (cs:List (Str×Addr)),(names.foldl (G9 X.env) cs).lookup x=some c->(x,NameKind.free)∈names∨cs.lookup x=some c:=by
     intro names;induction names with
     |nil=>intro cs h;exact .inr h
     |cons n r ih =>
      intro cs h;rw[List.foldl_cons]at h;rcases ih _ h with w|w
      .exact .inl (List.mem_cons_of_mem _ w)
      .unfold G9 at w;split at w
       .rename_i hk;split at w
        .rw[List.lookup_cons]at w;cases hb:x==n.1 with
         |true =>
          have:n=(x,NameKind.free):=Prod.ext (beq_iff_eq.mp hb).symm (by simpa using hk);exact .inl (by rw[this];exact List.mem_cons_self)
         |false=>rw[hb]at w;exact .inr w
        .exact .inr w
       .exact .inr w
    rcases fr _ _ q with w|w
    .have:=hnd _ w;rw[l1]at this;cases this
    .cases w
 .-- exf
  intro b hb;obtain⟨o,e⟩:=ho b hb;have lt:=Heap.lt_size e;refine⟨Nat.ne_of_lt (Nat.lt_succ_of_lt lt),λx c hc=>?_⟩;rcases cases' x c hc with z|z
  .exact Nat.ne_of_gt (Nat.lt_of_lt_of_le lt (Nat.le_trans (Nat.le_add_right _ 2) z.1))
  .exact(hf b hb).2.2.2.2.1 x c z
 .-- noex
  intro b o e hb;rcases(hf b hb).2.2.2.1 with z|z
  .exact I.ok.noex b o e z
  .exact absurd (Nat.lt_of_lt_of_le (Heap.lt_size (I.ok.bs b o e).1) z) (Nat.lt_irrefl _)
 .-- exfs
  intro b hb z;rcases List.mem_cons.mp (I.stkSub b z)with q|q
  .exact(hf b hb).2.1 q
  .exact(hf b hb).2.2.1 q
 .-- loc
  refine⟨λ_=>none,?_,λi x v e1 e2 e3=>?_⟩
  .have:=(Heap.Ns.new (s.heap.push lo) (.type "dict")).keeps (pushCells_keeps scope.names _);rw[Heap.size_push]at this;exact this
  .obtain⟨j,e4,e5⟩:=a7L e2;obtain⟨e6,e7⟩:=a2D hblk e1 e4;obtain⟨m,_,hl⟩:=I.loc;have hk:=hfree _ (mem e7) rfl;have hv:Vis X.env.scope x:=.inr (hk.imp id id);obtain⟨u,r,l⟩:=hl j x v e6 e5 hv;refine⟨u,r,.inr ⟨?_,?_⟩⟩
   .obtain⟨k,q,z⟩:=J3 (env:=X.env) e7;rcases z with z|z
    .exact .inr (by rw[<-z];exact q)
    .exact .inl (by rw[<-z.2];exact q)
   .rcases l with l|⟨_,c,hc,z⟩
    .exfalso;rcases hk with hk|hk<;>rw[l.1]at hk<;>cases hk
    .refine⟨c,?_,z.keeps keep⟩;have own:¬(x,NameKind.cell)∈scope.names:=λw=>by
      have:=hnd _ w;rw[e7]at this;cases this
     obtain⟨c',q⟩:=a3r (x:=x) scope.names (s.heap.objs.size+2) (a0O scope X.env) (.inr ⟨c,a4v hc (mem e7)⟩);rcases cases' x c' q with w|w
     .exact absurd w.2 own
     .rw[hc]at w;cases w;exact q
 .-- cell
  intro x c e;have e':(cellsFrom ((s.heap.push lo).push {cls:=.type "dict",data:=.dict #[]}).objs.size scope.names (a0O scope X.env)).lookup x=some c:=by
   rw[Heap.size_push,Heap.size_push];exact e
  refine a2Z _ _ _ (λx' c' q=>?_) e';obtain⟨v,z⟩:=I.cell x' c' (V8 q);exact⟨v,z.keeps λb o q=>Heap.get?_push_of_some _ (Heap.get?_push_of_some _ q)⟩
 .exact I.hok.fresh (Nat.le_succ _)
 .intro x c e;rcases cases' x c e with z|z
  .exact I.hok.fresh (Nat.le_trans (Nat.le_add_right _ 2) z.1)
  .exact I.freeC x c z
 .intro p hp;cases hp
 .show(C1 src σ).length=N.length;unfold C1;rw[List.length_map];exact a2C hblk
theorem Inv.unblock{N:List Str}{scope:Scope}{cells:List (Str×Addr)}{C acc:Addr}{fp:List Addr}{pins':List (Addr×Obj)}{σ':St}{H':Hp}{s':Shared}{h':Heap}{ys:List V}{us:List Value}{n:Nat}
  (I:Inv X pins σ H s) (hf:∀b∈fp,a0x X pins H b) (hC:s.heap.objs.size<=C) (ha:s.heap.objs.size<=acc) (hne:acc≠C) (J:Inv (X.blk N scope cells C s H fp) pins' σ' H' s')
  (hn:H' acc=none) (hl:s'.heap.get? acc=some {cls:=.type "list",data:=.seq us.toArray n}) (hv:Vals ys us) (hz:ys.length<=sizeLine) (hb:Heap.SameBut C s'.heap h') :
  Inv X pins σ (upd H' acc (.lst ys)) {s' with heap:=h'}:=by
 have base:Un (frs X.stack) fp H H' s.heap s'.heap:=J.base;have kp:∀b o,b≠C->s'.heap.get? b=some o->h'.get? b=some o:=λb o q e=>hb.extBut b o q e;have old:∀b o,s.heap.get? b=some o->b≠C/\b≠acc:=λb o e=>by
  have:=Heap.lt_size e;exact⟨Nat.ne_of_lt (Nat.lt_of_lt_of_le this hC),Nat.ne_of_lt (Nat.lt_of_lt_of_le this ha)⟩
 have frC:H' C=none:=J.free;have hacc:H acc=none:=I.hok.fresh ha;have hokh:HOk X.prog X.w H' s'.heap:=J.hok;have ok':HOk X.prog X.w (upd H' acc (.lst ys)) h':=by
  intro b o e;by_cases hba:b=acc
  .subst hba;rw[A0]at e;cases e;exact⟨hz,us,n,hv,kp _ _ hne hl⟩
  .rw[A3 hba]at e;refine(hokh b o e).stay (λc u hc q=>kp c u ?_ q) (λc q=>?_) λc xs q=>?_
   .rintro rfl;rcases hc with rfl|hc
    .rw[frC]at e;cases e
    .rw[frC]at hc;cases hc
   .rw[A3 (by rintro rfl;rw[hn]at q;cases q)];exact q
   .rw[A3 (by rintro rfl;rw[hn]at q;cases q)];exact q
 have neA:∀b u,H b=some u->b≠acc:=λb u e=>by rintro rfl;rw[hacc]at e;cases e
 refine I.call' (s':={s' with heap:=h'}) (ch:=fp) (J.os) ⟨λb o e q r t=>?_,λb o e q r t=>?_,λb o e q t=>?_,λb o e t=>?_,λb xs e=>?_,λb o u e=>?_,λb ps e=>?_⟩ ok' J.bare λb hb=>?_
 .exact kp b o (old b o e).1 (base.keep b o e q r t)
 .obtain⟨sl,z⟩:=base.slot b o e q r t;exact⟨sl,kp b _ (old b o e).1 z⟩
 .rw[A3 (old b o e).2];exact base.free b o e q t
 .obtain⟨o',z⟩:=base.there b o e t;exact⟨o',kp b _ (old b o e).1 z⟩
 .rw[A3 (neA b _ e)];exact base.tups b xs e
 .rw[A3 (neA b _ e)];exact base.frzs b o u e
 .rw[A3 (neA b _ e)];exact base.tbls b ps e
 .obtain⟨_,h1,_,h3,h4,h5⟩:=hf b hb;exact⟨h3,h1,h4,h5⟩
set_option maxHeartbeats 4000000 in
theorem a2A{tg iter elt:Expr}{ifs:List Expr}{scope:Scope}{pos:Pos}{N:List Str}{src:List (Option Nat)}{wi:TI}{g:TG}{tt:TT}{te:TE}{Q:VK}{RR:Value->Addr->Result->Shared->Prop}(hc:X.calm=true)(hi:PI X tg iter wi)
  (hcap:D0 scope X.env.scope=true) (hblk:L9 N src X.N scope=true) (hsc:a2S scope=true)
  (hg:∀cells C s H ex,PG (X.blk N scope cells C s H ex) tg g) (ht:∀cells C s H ex,PIf (X.blk N scope cells C s H ex) ifs tt) (he:∀cells C s H ex,PE (X.blk N scope cells C s H ex) elt te)
  (I:Inv X pins σ H s) (h:a3I src wi g tt te σ H Q)
  (hend:∀(s2 s4:Shared) (H2 H4:Hp) (fp:List Addr) (cells:List (Str×Addr)) (pl:List (Addr×Obj)) (σ4:St) (ys:List V) (us:List Value) (k:Nat),Inv X pins σ H2 s2->(∀b∈fp,a0x X pins H2 b) ->
   Inv (X.blk N scope cells (s2.heap.objs.size+1) s2 H2 fp) pl σ4 H4 s4->H4 s2.heap.objs.size=none->s4.heap.get? s2.heap.objs.size=some {cls:=.type "list",data:=.seq us.toArray k}->Vals ys us->ys.length<=sizeLine ->
   Q (.ref s2.heap.objs.size) (upd H4 s2.heap.objs.size (.lst ys))->RR (.ref s2.heap.objs.size) (s2.heap.objs.size+1) (.ok .next) s4) :
  wpAny (model X.prog X.w) X.A (eval iter X.env) (λx s₁=>wpAny (model X.prog X.w) X.A (pyIter x) (λit s₂=>wpAny (model X.prog X.w) X.A (newList []) (λacc s₃ =>
   wpAny (model X.prog X.w) X.A (newFunctionEnv scope X.env.globals (a0O scope X.env) [] X.env.qual none .none (some X.env)) (λcenv s₄ =>
    codeAny (model X.prog X.w) X.A (.compStart (.ListComp elt [⟨tg,iter,ifs,0⟩] scope pos) 0 it acc {cenv with scope:=relabel scope X.env}) (RR acc cenv.locals) s₄) X.xe s₃) X.xe s₂) X.xe s₁) X.xe s:=by
 refine thn (hi pins s σ H _ I h) λv s1 h1=>thn h1 λitv s2 h2=>?_;obtain⟨it,fp,tn,J,H2,e,I2,T,st2,f2,W,⟨m0,w0⟩,turn⟩:=h2;subst e;have ho2:∀b∈fp,∃o,s2.heap.get? b=some o:=λb hb=>(T.obj _ _ st2 b hb).imp λ_ q=>q.1;refine wpAny_newObj_type (a4A ?_);have hB:=I2.block (lo:={cls:=.type "list",dict:=none,data:=.seq ([]:List Value).toArray}) f2 ho2 hcap hblk hsc;rw[show({s2 with heap:=s2.heap.push {cls:=.type "list",dict:=none,data:=.seq ([]:List Value).toArray}}:Shared).heap.objs.size=s2.heap.objs.size+1 from Heap.size_push ..];generalize hcells:cellsFrom (s2.heap.objs.size+1+1) scope.names (a0O scope X.env)=cells at hB⊢;generalize hheap:pushCells ((s2.heap.push {cls:=.type "list",dict:=none,data:=.seq ([]:List Value).toArray}).push {cls:=.type "dict",data:=.dict #[]}) scope.names=h4 at hB⊢;have keep4:∀b o,s2.heap.get? b=some o->h4.get? b=some o:=λb o q=>by
  rw[<-hheap];exact pushCells_keeps _ _ _ _ (Heap.get?_push_of_some _ (Heap.get?_push_of_some _ q))
 have acc4:h4.get? s2.heap.objs.size=some {cls:=.type "list",data:=.seq ([]:List Value).toArray 0}:=by
  rw[<-hheap];exact pushCells_keeps _ _ _ _ (Heap.get?_push_of_some _ (Heap.get?_push_size _ rfl))
 have st4:tn 0 h4:=T.keep _ _ _ st2 λb _ o q=>keep4 b o q;generalize hXc:X.blk N scope cells (s2.heap.objs.size+1) s2 H2 fp=Xc at hB;have eA:Xc.A=X.A:=by rw[<-hXc];rfl
 have eP:Xc.prog=X.prog:=by rw[<-hXc];rfl
 have ew:Xc.w=X.w:=by rw[<-hXc];rfl
 have eK:Xc.K=X.K:=by rw[<-hXc];rfl
 have ec:Xc.calm=true:=by rw[<-hXc];exact hc
 have ee:Xc.env=compEnvC scope cells (s2.heap.objs.size+1) X.env:=by rw[<-hXc];rfl
 have ex:Xc.ex=fp:=by rw[<-hXc];rfl
 have epn:Xc.pn=[]:=by rw[<-hXc];rfl
 have es0:Xc.s₀=s2:=by rw[<-hXc];rfl
 have exe:Xc.xe=NoX:=by rw[<-hXc];rfl
 have eL:Xc.env.locals=s2.heap.objs.size+1:=by rw[ee];rfl
 have efs:Xc.fs=frs X.stack:=by rw[<-hXc];rfl
 have okB:=hB.ok;have cne:∀x c,Xc.env.cells.lookup x=some c->c≠s2.heap.objs.size:=λx c q=>by
  rw[ee]at q;have q':cells.lookup x=some c:=q;rw[<-hcells]at q';rcases Q2 _ _ _ q' with z|z
  .exact Nat.ne_of_gt (Nat.lt_of_lt_of_le (Nat.lt_succ_self _) (Nat.le_trans (Nat.le_succ _) z.1))
  .obtain⟨v,z'⟩:=I2.cell x c (V8 z);exact Nat.ne_of_lt z'.lt
 have fpne:∀b∈fp,b≠s2.heap.objs.size:=λb hb=>by
  obtain⟨o,q⟩:=ho2 b hb;exact Nat.ne_of_lt (Heap.lt_size q)
 have accfs:s2.heap.objs.size∉Xc.fs:=by
  rw[efs];intro z;rcases List.mem_cons.mp (I2.stkSub _ z)with q|q
  .exact absurd I2.lt (by rw[<-q];exact Nat.lt_irrefl _)
  .exact I2.nofs (Nat.le_refl _) q
 have stat:∀{H':Hp}{pl:List (Addr×Obj)},(∀b∈fp,H' b=none)->(∀p∈pl,p.1=s2.heap.objs.size)->∀b∈fp,a0x Xc pl H' b:=λ{H' pl} hn hp b hb=>by
  obtain⟨x1,x2⟩:=okB.exf b (by rw[ex];exact hb);refine⟨hn b hb,x1,okB.exfs b (by rw[ex];exact hb),.inl (by rw[ex];exact hb),x2,λp hp'=>?_⟩;rw[epn,List.nil_append]at hp';rw[hp p hp'];exact(fpne b hb).symm
 have main:∀s5:Shared,s5={s2 with heap:=h4}->codeAny (model X.prog X.w) X.A (.compLoop (.ListComp elt [⟨tg,iter,ifs,0⟩] scope pos) 0 (.ref it) (.ref s2.heap.objs.size) Xc.env)
   (RR (.ref s2.heap.objs.size) (s2.heap.objs.size+1)) s5:=by
  rintro s5 rfl;refine a3p (λn s'=>∃i H' ys us k,Inv Xc [] (C1 src σ) H' s'/\tn i s'.heap/\(∀b∈fp,H' b=none)/\H' s2.heap.objs.size=none /\
   s'.heap.get? s2.heap.objs.size=some {cls:=.type "list",data:=.seq (us:List Value).toArray k}/\Vals ys us/\W i n ys H') ?_ m0
   ⟨0,H2,[],[],0,hB,st4,λb hb=>(f2 b hb).1,I2.hok.fresh (Nat.le_refl _),acc4,.nil,w0⟩
  rintro n s3 ⟨i,H3,ys,us,k,I3,st3,fr3,na3,ac3,r3,w3⟩;rcases turn i n ys H3 w3 with⟨stop,hz,qn⟩|⟨go,hz,Nn,hN,step⟩
  .have d:=T.done Xc eP ew eK ec i [] s3 (C1 src σ) H3 NoX I3 (stat fr3 (λ_ z=>by cases z)) st3 stop;rw[eA]at d;have I3':Inv Xc [(s2.heap.objs.size,{cls:=.type "list",data:=.seq us.toArray k})] (C1 src σ) H3 s3:=I3.pins_of λp hp=>by
    rw[List.mem_singleton.mp hp];exact⟨ac3,na3,by rw[eL];exact Nat.ne_of_lt (Nat.lt_succ_self _),accfs,λv z=>by cases z⟩
   have d:=T.done Xc eP ew eK ec i _ s3 (C1 src σ) H3 NoX I3' (stat fr3 (λp z=>by rw[List.mem_singleton.mp z])) st3 stop;rw[eA]at d;refine thn d λr s4 ⟨hr,I4⟩=>?_;subst hr;have ac4:=(I4.pin (s2.heap.objs.size,{cls:=.type "list",data:=.seq us.toArray k}) (List.mem_append_right _ List.mem_cons_self)).1;rw[<-hXc]at I4;exact hend s2 s4 H2 H3 fp cells _ _ ys us k I2 f2 I4 na3 ac4 r3 hz (qn _ na3)
  .have I3':Inv Xc [(s2.heap.objs.size,{cls:=.type "list",data:=.seq us.toArray k})] (C1 src σ) H3 s3:=I3.pins_of λp hp=>by
    rw[List.mem_singleton.mp hp];exact⟨ac3,na3,by rw[eL];exact Nat.ne_of_lt (Nat.lt_succ_self _),accfs,λv z=>by cases z⟩
   have d:=T.item Xc eP ew eK ec i _ s3 (C1 src σ) H3 NoX I3' (stat fr3 (λp z=>by rw[List.mem_singleton.mp z])) st3 go;rw[eA]at d;refine thn d λr s4 ⟨u,hr,h4'⟩=>?_;subst hr;refine thn h4' λ_ s5 ⟨x,H5,I5,r5,y5,st5,fr5⟩=>?_;have I5':=I5.pinned (stat fr5 (λp z=>by rw[List.mem_singleton.mp z])) (T.obj _ _ st5);have hgX:PG Xc tg g:=by rw[<-hXc];exact hg _ _ _ _ _
   have htX:PIf Xc ifs tt:=by rw[<-hXc];exact ht _ _ _ _ _
   have heX:PE Xc elt te:=by rw[<-hXc];exact he _ _ _ _ _
   have a1:=hgX _ s5 _ H5 x u _ I5' r5 (step x H5 y5);rw[eP,ew,eA,exe]at a1;refine thn a1 λ_ s6 ⟨σ6,H6,I6,sb,q6⟩=>?_;have a2:=htX _ s6 σ6 H6 _ I6 q6;rw[eP,ew,eA,exe]at a2;refine thn a2 λok s7 ⟨H7,I7,q7⟩=>?_;have back:∀{H8:Hp}{s8:Shared}{pl:List (Addr×Obj)},Inv Xc ([(s2.heap.objs.size,{cls:=.type "list",data:=.seq us.toArray k})]++a1v fp s5.heap) σ6 H8 s8 ->
     Inv Xc [] (C1 src σ) H8 s8/\tn (i+1) s8.heap/\(∀b∈fp,H8 b=none)/\H8 s2.heap.objs.size=none/\s8.heap.get? s2.heap.objs.size=some {cls:=.type "list",data:=.seq us.toArray k}:=λ{H8 s8 pl} I8=>by
    have p0:=I8.pin (s2.heap.objs.size,{cls:=.type "list",data:=.seq us.toArray k}) (List.mem_append_right _ (List.mem_append_left _ List.mem_cons_self));refine⟨(I8.pins_of (pins':=[]) λp hp=>by cases hp).weak sb.1 sb.2,T.keep _ _ _ st5 λb hb o e=>(I8.pin (b,o) (List.mem_append_right _ (List.mem_append_right _ (R1 hb e)))).1,λb hb=>?_,p0.2.1,p0.1⟩;obtain⟨o,e,_⟩:=T.obj _ _ st5 b hb;exact(I8.pin (b,o) (List.mem_append_right _ (List.mem_append_right _ (R1 hb e)))).2.1
   cases ok with
   |false =>
    obtain⟨m',hm,w7⟩:=hN _ _ q7;obtain⟨b1,b2,b3,b4,b5⟩:=back (pl:=[]) I7;exact⟨m',hm,i+1,H7,ys,us,k,b1,b2,b3,b4,b5,r3,w7⟩
   |true =>
    have a3:=heX _ s7 σ6 H7 _ I7 q7;rw[eP,ew,eA,exe]at a3;refine thn a3 λy s8 ⟨vy,H8,I8,ry,n8⟩=>?_;obtain⟨m',hm,w8⟩:=hN _ _ n8;obtain⟨b1,b2,b3,b4,b5⟩:=back (pl:=[]) I8;refine call_meets F.slot_list_append ⟨_,b5,rfl⟩ F.entry_list_append (F.args_list_append_2 _ _) (PySem.list_append s2.heap.objs.size us.toArray k y (by rw[List.size_toArray,<-r3.length];omega)) ⟨b5,?_⟩;have q:=PySem.IsL.update b5 (λxs=>xs.push y);rw[show us.toArray.push y=(us++[y]).toArray by simp]at q;have nb:∀b o,b≠s2.heap.objs.size->s8.heap.get? b=some o->(s8.heap.update s2.heap.objs.size (Obj.mapSeq λxs=>xs.push y)).get? b=some o:=λb o hb e =>
     (Heap.get?_update_other s8.heap _ (Ne.symm hb)).trans e
    refine⟨m',hm,i+1,H8,ys++[vy],us++[y],_,?_,?_,b3,b4,q,r3.append (.cons ry .nil),w8⟩
    .exact b1.turned nb b4 (by rw[eL];exact Nat.ne_of_lt (Nat.lt_succ_self _)) (.inr (by rw[es0];exact Nat.le_refl _)) cne λp hp=>by rw[epn]at hp;cases hp
    .exact T.keep _ _ _ b2 λb hb o e=>nb b o (fpne b hb) e
 have main':=main _ rfl;rw[ee]at main';exact codeAny_compStart_list main' (T.self _ 0 _ _ _ st4 main')
theorem a2o{scope:Scope}(hsc:a2S scope=true):scope.kind=.function/\∀x∈scope.names,scope.names.lookup x.1=some x.2:=by
 unfold a2S at hsc;rw[Bool.and_eq_true]at hsc;exact⟨by simpa using hsc.1,λx hx=>by simpa using List.all_eq_true.mp hsc.2 x hx⟩
theorem Inv.clos{scope:Scope}(I:Inv X pins σ H s)(hcap:D0 scope X.env.scope=true):closureFor scope X.env=pure (a0O scope X.env):=b0a λx hx hk=>by
 have q:=List.all_eq_true.mp hcap x hx;rw[hk]at q;have q':(X.env.scope.names.lookup x.1==some .cell || X.env.scope.names.lookup x.1==some .free)=true:=by simpa using q
 rw[Bool.or_eq_true]at q';exact I.ok.has x.1 (q'.imp (λz=>beq_iff_eq.mp z) λz=>beq_iff_eq.mp z)
theorem b1n{tg iter elt:Expr}{ifs:List Expr}{scope:Scope}{pos:Pos}{N:List Str}{src:List (Option Nat)}{wi:TI}{g:TG}{tt:TT}{te:TE}(hc:X.calm=true)(hi:PI X tg iter wi)
  (hcap:D0 scope X.env.scope=true) (hblk:L9 N src X.N scope=true) (hsc:a2S scope=true)
  (hg:∀cells C s H ex,PG (X.blk N scope cells C s H ex) tg g) (ht:∀cells C s H ex,PIf (X.blk N scope cells C s H ex) ifs tt) (he:∀cells C s H ex,PE (X.blk N scope cells C s H ex) elt te)
  (hs:∀x,foldedSetIterable iter X.env x=pure x:=by intro _;rfl):PE X (.ListComp elt [⟨tg,iter,ifs,0⟩] scope pos) (a3I src wi g tt te):=by
 intro pins s σ H Q I h;obtain⟨hkind,hnd⟩:=a2o hsc;rw[eval_ListComp];refine wpAny_comprehension_free (use:=none) rfl hs (I.clos hcap) hkind (λx hx hk=>by rw[<-hk];exact hnd x hx) (a2A (RR:=compPost (model X.prog X.w) X.A X.xe none (EP X pins σ Q)) hc hi hcap hblk hsc hg ht he I h ?_);intro s2 s4 H2 H4 fp cells pl σ4 ys us k I2 f2 I4 na4 ac4 r4 hz q;obtain⟨m,hns,_⟩:=I4.loc;exact⟨m,hns,λh' hb=>⟨.ref s2.heap.objs.size,_,Inv.unblock I2 f2 (Nat.le_succ _) (Nat.le_refl _) (Nat.ne_of_lt (Nat.lt_succ_self _)) I4 na4 ac4 r4 hz hb,rfl,q⟩⟩
theorem b0U{i:Nat}{y:Str}{py spos:Pos}{tg iter elt:Expr}{ifs:List Expr}{scope:Scope}{pos:Pos}{N:List Str}{src:List (Option Nat)}{wi:TI}{g:TG}{tt:TT}{te:TE}
  (hN:X.N.Nodup) (hy:X.N[i]?=some y) (hx:Loc X.env.scope y)
  (hc:X.calm=true) (hi:PI X tg iter wi) (hcap:D0 scope X.env.scope=true) (hblk:L9 N src X.N scope=true) (hsc:a2S scope=true)
  (hg:∀cells C s H ex,PG (X.blk N scope cells C s H ex) tg g) (ht:∀cells C s H ex,PIf (X.blk N scope cells C s H ex) ifs tt) (hel:∀cells C s H ex,PE (X.blk N scope cells C s H ex) elt te)
  (hsw:swapsWith (.ListComp elt [⟨tg,iter,ifs,0⟩] scope pos) (some (.Name y py)) spos.line X.env=pure true:=by rfl) (hs:∀x,foldedSetIterable iter X.env x=pure x:=by intro _;rfl)
  (hf:X.fn y=true∨X.env.scope.names.lookup y=some .local:=by first|exact .inl rfl|exact .inr rfl|assumption) :
  PS X (.Assign [.Name y py] (.ListComp elt [⟨tg,iter,ifs,0⟩] scope pos) spos) (a4L (a3I src wi g tt te) (A8 i)):=by
 intro pins s σ H D I h;obtain⟨hkind,hnd⟩:=a2o hsc;rw[exec_Assign_Name_used _ _ _ _ hsw];refine wpAny_bind (wpAny_standAt (wpAny_bind ?_));show wpAny _ X.A (do let _ <-comprehension (.ListComp elt [⟨tg,iter,ifs,0⟩] scope pos) scope X.env _ (newList []) false (eval iter X.env) (some (assign (.Name y py) X.env))) _ _ s;refine wpAny_bind (wpAny_mono (wpAny_comprehension_free (use:=some (assign (.Name y py) X.env)) (Q:=λ_ s'=>SP X pins D .next s') rfl hs (I.clos hcap) hkind (λx hx hk=>by rw[<-hk];exact hnd x hx)
  (a2A (RR:=compPost (model X.prog X.w) X.A X.xe (some (assign (.Name y py) X.env)) (λ_ s'=>SP X pins D .next s')) hc hi hcap hblk hsc hg ht hel I h ?_)) (λ_ s' hq=>wpAny_pure (wpAny_pure hq)) λ_ _ e=>e)
 intro s2 s4 H2 H4 fp cells pl σ4 ys us k I2 f2 I4 na4 ac4 r4 hz q;obtain⟨m,hns,_⟩:=I4.loc;have hns':s4.heap.Ns (s2.heap.objs.size+1) m:=hns;have frC:H4 (s2.heap.objs.size+1)=none:=I4.free;have J:=Inv.unblock I2 f2 (Nat.le_succ _) (Nat.le_refl _) (Nat.ne_of_lt (Nat.lt_succ_self _)) I4 na4 ac4 r4 hz (Heap.SameBut.refl _ _);have neL:s2.heap.objs.size+1≠X.env.locals:=Nat.ne_of_gt (Nat.lt_succ_of_lt I2.lt);have neC:∀x c,X.env.cells.lookup x=some c->c≠s2.heap.objs.size+1:=λx c e=>by
  obtain⟨v,z⟩:=I2.cell x c e;exact Nat.ne_of_lt (Nat.lt_succ_of_lt z.lt)
 show wpAny _ X.A (assign (.Name y py) X.env (.ref s2.heap.objs.size)) _ _ s4;refine wpAny_assign_Name (a2l (v:=.ref s2.heap.objs.size) J hN hy hx rfl (λs' I' hb=>?_) hf);obtain⟨a,sb,ha⟩:=hb;have hane:s2.heap.objs.size+1≠a:=by
  rcases ha with rfl|ha
  .exact neL
  .exact(neC _ _ ha).symm
 refine⟨m,hns'.sameBut sb hane,λh' hb'=>⟨_,_,I'.turned (t':=s'.toks) (it:=s2.heap.objs.size+1) (λb o hne e=>hb'.extBut b o hne e) ?_ neL (.inr (Nat.le_trans I2.sz (Nat.le_succ _))) neC λp hp=>?_,q⟩⟩
 .rw[A3 (Nat.ne_of_gt (Nat.lt_succ_self _))];exact frC
 .exact Nat.ne_of_lt (Nat.lt_succ_of_lt (Heap.lt_size (I2.pin p hp).1))
end
def SqAt(k:Bool)(h:Heap)(l:Addr)(xs:Array Value):Prop:=match k with|true=>h.IsTuple l xs|false=>h.IsList l xs
def ItAt(k:Bool)(h:Heap)(i l:Addr)(n:Nat):Prop:=match k with|true=>h.IsTupleIter i l n|false=>h.IsListIter i l n
noncomputable def b4w:Bool->String|true => "tuple_iterator" | false => "list_iterator"
noncomputable def N2(k:Bool)(l:Addr):Obj:={cls:=.type (b4w k),data:=.fields #[.ref l,.int 0 0]}
theorem ItAt.extBut{k:Bool}{h h':Heap}{i l b:Addr}{n:Nat}(x:ItAt k h i l n)(hs:Heap.ExtBut b h h')(hb:i≠b):ItAt k h' i l n:=by
 cases k
 .exact Heap.IsListIter.extBut x hs hb
 .exact Heap.IsTupleIter.extBut x hs hb
theorem ItAt.at{k:Bool}{h h':Heap}{i l:Addr}{n:Nat}(x:ItAt k h i l n)(e:∀o,h.get? i=some o->h'.get? i=some o):ItAt k h' i l n:=by
 cases k
 .exact Heap.IsListIter.at x e
 .exact Heap.IsTupleIter.at x e
theorem ItAt.get{k:Bool}{h:Heap}{i l:Addr}{n:Nat}(x:ItAt k h i l n):∃o,h.get? i=some o/\o.data=.fields #[.ref l,.int n 0]:=by
 cases k<;>obtain⟨o,e,c,d⟩:=x<;>exact⟨o,e,d⟩
theorem SqAt.extBut{k:Bool}{h h':Heap}{l b:Addr}{xs:Array Value}(x:SqAt k h l xs)(hs:Heap.ExtBut b h h')(hb:l≠b):SqAt k h' l xs:=by
 cases k
 .exact Heap.IsList.extBut x hs hb
 .exact Heap.IsTuple.extBut x hs hb
theorem SqAt.at{k:Bool}{h h':Heap}{l:Addr}{xs:Array Value}(x:SqAt k h l xs)(e:∀o,h.get? l=some o->h'.get? l=some o):SqAt k h' l xs:=by
 cases k<;>obtain⟨o,q,r⟩:=x<;>exact⟨o,e o q,r⟩
theorem SqAt.get{k:Bool}{h:Heap}{l:Addr}{xs:Array Value}(x:SqAt k h l xs):∃o,h.get? l=some o:=by
 cases k<;>obtain⟨o,q,r⟩:=x<;>exact⟨o,q⟩
section
variable {prog:Program}{w:World}{A:Around}{E:Value->Shared->Prop}{s:Shared}
theorem a0M{it t:Addr}{i:Nat}{items:Array Value}{x:Value}{Q:Value->Shared->Prop}(hit:s.heap.IsTupleIter it t i)(ht:s.heap.IsTuple t items)(hx:items[i]?=some x)
  (hQ:∀h',h'.IsTupleIter it t (i+1)->Heap.SameBut it s.heap h'->Q x {s with heap:=h'}):wpAny (model prog w) A (Builtin.SmallTypes.nextOf (.ref it)) Q E s:=by
 obtain⟨o,ho,hc,hd⟩:=id hit;obtain⟨ol,hol,_,nl,hdl⟩:=ht;unfold Builtin.SmallTypes.nextOf;refine wpAny_bind (wpAny_callSpecial?_slot (name:=Str.ofString "__next__") hit.typeIs F.slot_tuple_iterator_next
  (wpAny_call_entry F.slot_tuple_iterator_next hit.typeIs F.entry_tuple_iterator_next ?_ (F.args_tuple_iterator_next_1 _)))
 show wpAny _ _ (field (.ref it) 0>>=_) _ _ s;refine wpAny_bind (wpAny_field ho hd (x:=.ref t) rfl ?_);show wpAny _ _ (if (Value.ref t==Value.none)=true then _ else _) _ _ s;rw[if_neg (show ¬((Value.ref t==Value.none)=true)from Bool.false_ne_true)];show wpAny _ _ (field (.ref it) 1>>=_) _ _ s;refine wpAny_bind (wpAny_field ho hd (x:=.int i 0) rfl ?_);show wpAny _ _ (seqItems? (.ref t)>>=_) _ _ s;refine wpAny_bind (wpAny_seqItems hol hdl ?_);simp only[Int.toNat_natCast,hx];refine wpAny_bind (wpAny_setField ho hd (by simp) (wpAny_pure ⟨x,rfl,wpAny_pure (hQ _ ?_ (Heap.SameBut.update ..))⟩));exact⟨_,Heap.get?_update_self _ ho (Obj.isFreed_of_fields (Obj.data_mapFields hd _)),(Obj.cls_mapFields ..).trans hc,by
  rw[Obj.data_mapFields hd];simp[rawInt]⟩
theorem a1z{it t:Addr}{i:Nat}{items:Array Value}{Q:Value->Shared->Prop}(hh:A.handled=none)(hit:s.heap.IsTupleIter it t i)(ht:s.heap.IsTuple t items)(hx:items[i]?=none)
  (hE:∀h' e,Heap.ExtBut it s.heap h'->(∃o,h'.get? e=some o/\o.cls=.type "StopIteration")->E (.ref e) {s with heap:=h'}) :
  wpAny (model prog w) A (Builtin.SmallTypes.nextOf (.ref it)) Q E s:=by
 obtain⟨o,ho,hc,hd⟩:=id hit;obtain⟨ol,hol,_,nl,hdl⟩:=ht;unfold Builtin.SmallTypes.nextOf;refine wpAny_bind (wpAny_callSpecial?_slot (name:=Str.ofString "__next__") hit.typeIs F.slot_tuple_iterator_next
  (wpAny_call_entry F.slot_tuple_iterator_next hit.typeIs F.entry_tuple_iterator_next ?_ (F.args_tuple_iterator_next_1 _)))
 show wpAny _ _ (field (.ref it) 0>>=_) _ _ s;refine wpAny_bind (wpAny_field ho hd (x:=.ref t) rfl ?_);show wpAny _ _ (if (Value.ref t==Value.none)=true then _ else _) _ _ s;rw[if_neg (show ¬((Value.ref t==Value.none)=true)from Bool.false_ne_true)];show wpAny _ _ (field (.ref it) 1>>=_) _ _ s;refine wpAny_bind (wpAny_field ho hd (x:=.int i 0) rfl ?_);show wpAny _ _ (seqItems? (.ref t)>>=_) _ _ s;refine wpAny_bind (wpAny_seqItems hol hdl ?_);simp only[Int.toNat_natCast,hx];refine wpAny_bind (wpAny_rule (wpAny_bind (wpAny_setField ho hd (by simp) ?_)));show wpAny _ _ (newExc (.type "StopIteration") []>>=_) _ _ _;refine wpAny_bind ?_;simp only[newExc,newTuple];refine wpAny_bind (wpAny_newObj_type ?_ (by size_fits));refine wpAny_bind (m:=firstArgMember _ _) (wpAny_of_eq (a:=Value.none) (by first|rfl | (simp only[firstArgMember];rfl)) ?_);refine wpAny_newObj_type ?_ (by size_fits);simp only[raiseNew];refine wpAny_bind (wpAny_handled ?_)
 first|rw[show A.in1.handled=none from hh]|rw[hh]
 refine wpAny_bind (wpAny_pure (wpAny_throw ?_));exact hE _ _ (((Heap.SameBut.update ..).extBut.push _).push _) ⟨_,Heap.get?_push_size _ rfl,rfl⟩
theorem Y8{k:Bool}{it l:Addr}{i:Nat}{items:Array Value}{x:Value}{Q:Value->Shared->Prop}(hit:ItAt k s.heap it l i)(ht:SqAt k s.heap l items)(hx:items[i]?=some x)
  (hQ:∀h',ItAt k h' it l (i+1)->Heap.SameBut it s.heap h'->Q x {s with heap:=h'}):wpAny (model prog w) A (Builtin.SmallTypes.nextOf (.ref it)) Q E s:=by
 cases k
 .exact wpAny_nextOf_list_item hit ht hx hQ
 .exact a0M hit ht hx hQ
theorem a2N{k:Bool}{it l:Addr}{i:Nat}{items:Array Value}{Q:Value->Shared->Prop}(hh:A.handled=none)(hit:ItAt k s.heap it l i)(ht:SqAt k s.heap l items)(hx:items[i]?=none)
  (hE:∀h' e,Heap.ExtBut it s.heap h'->(∃o,h'.get? e=some o/\o.cls=.type "StopIteration")->E (.ref e) {s with heap:=h'}) :
  wpAny (model prog w) A (Builtin.SmallTypes.nextOf (.ref it)) Q E s:=by
 cases k
 .exact wpAny_nextOf_list_end hh hit ht hx hE
 .exact a1z hh hit ht hx hE
theorem K4{k:Bool}{l:Addr}{items:Array Value}{Q:Value->Shared->Prop}(ht:SqAt k s.heap l items)(hQ:Q (.ref s.heap.objs.size) {s with heap:=s.heap.push (N2 k l)}):wpAny (model prog w) A (pyIter (.ref l)) Q E s:=by
 cases k
 .exact wpAny_pyIter_list ht hQ
 .exact wpAny_pyIter_tuple ht hQ
end
section
variable {prog:Program}{w:World}{A:Around}{E:Value->Shared->Prop}{s:Shared}{k1 k2:Bool}
theorem a7N{z TI TO i1 i2 l1 l2:Addr}{n1 n2:Nat}{xs ys:Array Value}{x y a b:Value}{Q:Value->Shared->Prop}(D:ZipApart z TI TO i1 i2 l1 l2)
  (hz:IsZip s.heap z TI TO .none) (hTI:IsPair s.heap TI (.ref i1) (.ref i2)) (hTO:IsPair s.heap TO a b)
  (h1:ItAt k1 s.heap i1 l1 n1) (h2:ItAt k2 s.heap i2 l2 n2) (hl1:SqAt k1 s.heap l1 xs) (hl2:SqAt k2 s.heap l2 ys) (hx:xs[n1]?=some x) (hy:ys[n2]?=some y)
  (hQ:∀h',IsZip h' z TI TO (rawInt s.heap.objs.size)->IsPair h' TO x y->ItAt k1 h' i1 l1 (n1+1)->ItAt k2 h' i2 l2 (n2+1)->IsPair h' s.heap.objs.size x y->h'.objs.size=s.heap.objs.size+1 ->
   (∀c o,c≠z->c≠TO->c≠i1->c≠i2->s.heap.get? c=some o->h'.get? c=some o)->Q (.ref s.heap.objs.size) {s with heap:=h'}) :
  wpAny (model prog w) A (Builtin.«zip.__next__» ⟨[.ref z],[]⟩) (λfin s'=>∃v,fin=.done (.ret v)/\Q v s') E s:=by
 show wpAny _ _ (field (.ref z) 2>>=_) _ _ _;refine wpAny_bind (wpAny_field hz rfl (x:=.bool false) rfl ?_);show wpAny _ _ (field (.ref z) 3>>=_) _ _ _;refine wpAny_bind (wpAny_field hz rfl (x:=.ref TI) rfl ?_);refine wpAny_bind (wpAny_seqItems hTI rfl ?_);show wpAny _ _ (Builtin.SmallTypes.ownedTupleIsFree (.ref z)>>=_) _ _ _;refine wpAny_bind ?_;unfold Builtin.SmallTypes.ownedTupleIsFree;refine wpAny_bind (wpAny_field hz rfl (x:=.none) rfl (wpAny_pure ?_));simp only[if_true];refine wpAny_bind (wpAny_rule ?_);refine wpAny_bind (wpAny_field hz rfl (x:=.ref TO) rfl ?_);refine wpAny_bind (wpAny_setField_rec hz (by simp) λh₁ hz₁ hs₁=>?_);replace hz₁:IsZip h₁ z TI TO .ellipsis:=hz₁;refine wpAny_bind ?_;simp only[List.zipIdx_cons,List.zipIdx_nil,List.forIn_cons,List.forIn_nil];refine wpAny_bind (wpAny_bind (wpAny_onRaise ?_));show wpAny _ _ (Builtin.SmallTypes.nextOf (.ref i1)>>=_) _ _ _;refine wpAny_bind (Y8 (h1.extBut hs₁.extBut D.i1z) (hl1.extBut hs₁.extBut D.l1z) hx λh₂ h1₂ hs₂=>wpAny_pure ?_);have hTO₂:IsPair h₂ TO a b:=hs₂.extBut _ _ D.TOi1 (hs₁.extBut _ _ D.TOz hTO);refine wpAny_bind (wpAny_seqItems hTO₂ rfl ?_);refine wpAny_bind (wpAny_updateSeq_pair hTO₂ λh₃ hTO₃ hs₃=>?_);replace hTO₃:IsPair h₃ TO x b:=hTO₃;refine wpAny_bind (wpAny_letGo (wpAny_pure ?_));refine wpAny_bind (wpAny_bind (wpAny_onRaise ?_));show wpAny _ _ (Builtin.SmallTypes.nextOf (.ref i2)>>=_) _ _ _;refine wpAny_bind (Y8 (((h2.extBut hs₁.extBut D.i2z).extBut hs₂.extBut D.i12.symm).extBut hs₃.extBut D.TOi2.symm)
  (((hl2.extBut hs₁.extBut D.l2z).extBut hs₂.extBut D.l2i1).extBut hs₃.extBut D.l2TO) hy λh₄ h2₄ hs₄=>wpAny_pure ?_)
 have hTO₄:IsPair h₄ TO x b:=hs₄.extBut _ _ D.TOi2 hTO₃;refine wpAny_bind (wpAny_seqItems hTO₄ rfl ?_);refine wpAny_bind (wpAny_updateSeq_pair hTO₄ λh₅ hTO₅ hs₅=>?_);replace hTO₅:IsPair h₅ TO x y:=hTO₅;refine wpAny_bind (wpAny_letGo (wpAny_pure (wpAny_pure ?_)));refine wpAny_bind (wpAny_seqItems hTO₅ rfl ?_);refine wpAny_bind (wpAny_newTuple ?_);have hsz:h₅.objs.size=s.heap.objs.size:=by rw[hs₅.1,hs₄.1,hs₃.1,hs₂.1,hs₁.1]
 have hz₅:IsZip h₅ z TI TO .ellipsis:=hs₅.extBut _ _ D.TOz.symm (hs₄.extBut _ _ D.i2z.symm (hs₃.extBut _ _ D.TOz.symm (hs₂.extBut _ _ D.i1z.symm hz₁)));have hk₅:∀c o,c≠z->c≠TO->c≠i1->c≠i2->s.heap.get? c=some o->h₅.get? c=some o:=λc o c1 c2 c3 c4 e =>
  hs₅.extBut _ _ c2 (hs₄.extBut _ _ c4 (hs₃.extBut _ _ c2 (hs₂.extBut _ _ c3 (hs₁.extBut _ _ c1 e))))
 have h1₅:ItAt k1 h₅ i1 l1 (n1+1):=((h1₂.extBut hs₃.extBut D.TOi1.symm).extBut hs₄.extBut D.i12).extBut hs₅.extBut D.TOi1.symm;have h2₅:ItAt k2 h₅ i2 l2 (n2+1):=h2₄.extBut hs₅.extBut D.TOi2.symm;have hzlt:z<h₅.objs.size:=Heap.lt_size hz₅;show wpAny _ _ (Builtin.SmallTypes.ownedTupleHandOut (.ref z) (.ref h₅.objs.size)>>=_) _ _ _;refine wpAny_bind ?_;unfold Builtin.SmallTypes.ownedTupleHandOut;have hz₆:IsZip (h₅.push {cls:=.type "tuple",data:=.seq #[x,y]}) z TI TO .ellipsis:=Heap.get?_push_of_some _ hz₅;refine wpAny_bind (wpAny_setField_rec hz₆ (by simp) λh₇ hz₇ hs₇=>?_);replace hz₇:IsZip h₇ z TI TO (rawInt h₅.objs.size):=hz₇;refine wpAny_setField_rec hz₇ (by simp) λh₈ hz₈ hs₈=>?_;replace hz₈:IsZip h₈ z TI TO (rawInt h₅.objs.size):=hz₈;have up:∀c o,c≠z->h₅.get? c=some o->h₈.get? c=some o:=λc o c1 e=>hs₈.extBut _ _ c1 (hs₇.extBut _ _ c1 (Heap.get?_push_of_some _ e));have hT₈:IsPair h₈ h₅.objs.size x y:=hs₈.extBut _ _ (Nat.ne_of_gt hzlt) (hs₇.extBut _ _ (Nat.ne_of_gt hzlt) (Heap.get?_push_size _ rfl));have hz8:h₈.objs.size=h₅.objs.size+1:=by rw[hs₈.1,hs₇.1,Heap.size_push]
 rw[hsz]at hz₈ hT₈ hz8;refine wpAny_pure ⟨_,rfl,?_⟩;show Q (.ref h₅.objs.size) _;rw[hsz];exact hQ h₈ hz₈ (up _ _ D.TOz hTO₅) (h1₅.at λo e=>up _ o D.i1z e) (h2₅.at λo e=>up _ o D.i2z e) hT₈ hz8 λc o c1 c2 c3 c4 e=>up c o c1 (hk₅ c o c1 c2 c3 c4 e)
theorem b0r{z TI TO i1 i2 l1 l2:Addr}{n1 n2:Nat}{xs ys:Array Value}{a b:Value}{Q:Fin->Shared->Prop}(hh:A.handled=none)(D:ZipApart z TI TO i1 i2 l1 l2)
  (hz:IsZip s.heap z TI TO .none) (hTI:IsPair s.heap TI (.ref i1) (.ref i2)) (hTO:IsPair s.heap TO a b)
  (h1:ItAt k1 s.heap i1 l1 n1) (h2:ItAt k2 s.heap i2 l2 n2) (hl1:SqAt k1 s.heap l1 xs) (hl2:SqAt k2 s.heap l2 ys) (hend:xs[n1]?=none∨ys[n2]?=none)
  (hE:∀h' e,(∀c o,c≠z->c≠TO->c≠i1->c≠i2->s.heap.get? c=some o->h'.get? c=some o)->(∃o,h'.get? e=some o/\o.cls=.type "StopIteration")->E (.ref e) {s with heap:=h'}) :
  wpAny (model prog w) A (Builtin.«zip.__next__» ⟨[.ref z],[]⟩) Q E s:=by
 show wpAny _ _ (field (.ref z) 2>>=_) _ _ _;refine wpAny_bind (wpAny_field hz rfl (x:=.bool false) rfl ?_);show wpAny _ _ (field (.ref z) 3>>=_) _ _ _;refine wpAny_bind (wpAny_field hz rfl (x:=.ref TI) rfl ?_);refine wpAny_bind (wpAny_seqItems hTI rfl ?_);show wpAny _ _ (Builtin.SmallTypes.ownedTupleIsFree (.ref z)>>=_) _ _ _;refine wpAny_bind ?_;unfold Builtin.SmallTypes.ownedTupleIsFree;refine wpAny_bind (wpAny_field hz rfl (x:=.none) rfl (wpAny_pure ?_));simp only[if_true];refine wpAny_bind (wpAny_rule ?_);refine wpAny_bind (wpAny_field hz rfl (x:=.ref TO) rfl ?_);refine wpAny_bind (wpAny_setField_rec hz (by simp) λh₁ hz₁ hs₁=>?_);replace hz₁:IsZip h₁ z TI TO .ellipsis:=hz₁;refine wpAny_bind ?_;simp only[List.zipIdx_cons,List.zipIdx_nil,List.forIn_cons,List.forIn_nil];refine wpAny_bind (wpAny_bind (wpAny_onRaise ?_));show wpAny _ _ (Builtin.SmallTypes.nextOf (.ref i1)>>=_) _ _ _;cases hx:xs[n1]? with
 |none =>
  refine wpAny_bind (a2N hh (h1.extBut hs₁.extBut D.i1z) (hl1.extBut hs₁.extBut D.l1z) hx λh₂ e hs₂ he=>?_);obtain⟨oe,hoe,hce⟩:=he;have hz₂:IsZip h₂ z TI TO .ellipsis:=hs₂ _ _ D.i1z.symm hz₁;have hez:e≠z:=λx=>by subst x;rw[hz₂]at hoe;cases hoe;simp at hce
  refine wpAny_setField_rec hz₂ (by simp) λh₃ _ hs₃=>hE h₃ e (λc o c1 _ c3 _ x=>hs₃.extBut _ _ c1 (hs₂ _ _ c3 (hs₁.extBut _ _ c1 x))) ⟨oe,hs₃.extBut _ _ hez hoe,hce⟩
 |some x =>
  have hy:ys[n2]?=none:=by rcases hend with h|h;rw[hx]at h;cases h;exact h
  refine wpAny_bind (Y8 (h1.extBut hs₁.extBut D.i1z) (hl1.extBut hs₁.extBut D.l1z) hx λh₂ h1₂ hs₂=>wpAny_pure ?_);have hTO₂:IsPair h₂ TO a b:=hs₂.extBut _ _ D.TOi1 (hs₁.extBut _ _ D.TOz hTO);refine wpAny_bind (wpAny_seqItems hTO₂ rfl ?_);refine wpAny_bind (wpAny_updateSeq_pair hTO₂ λh₃ hTO₃ hs₃=>?_);refine wpAny_bind (wpAny_letGo (wpAny_pure ?_));refine wpAny_bind (wpAny_bind (wpAny_onRaise ?_));show wpAny _ _ (Builtin.SmallTypes.nextOf (.ref i2)>>=_) _ _ _;refine wpAny_bind (a2N hh (((h2.extBut hs₁.extBut D.i2z).extBut hs₂.extBut D.i12.symm).extBut hs₃.extBut D.TOi2.symm)
   (((hl2.extBut hs₁.extBut D.l2z).extBut hs₂.extBut D.l2i1).extBut hs₃.extBut D.l2TO) hy λh₄ e hs₄ he=>?_)
  obtain⟨oe,hoe,hce⟩:=he;have hz₄:IsZip h₄ z TI TO .ellipsis:=hs₄ _ _ D.i2z.symm (hs₃.extBut _ _ D.TOz.symm (hs₂.extBut _ _ D.i1z.symm hz₁));have hez:e≠z:=λx=>by subst x;rw[hz₄]at hoe;cases hoe;simp at hce
  refine wpAny_setField_rec hz₄ (by simp) λh₅ _ hs₅=>hE h₅ e (λc o c1 c2 c3 c4 x=>hs₅.extBut _ _ c1 (hs₄ _ _ c4 (hs₃.extBut _ _ c2 (hs₂.extBut _ _ c3 (hs₁.extBut _ _ c1 x))))) ⟨oe,hs₅.extBut _ _ hez hoe,hce⟩
noncomputable abbrev zH1(k1:Bool)(h:Heap)(l1:Addr):Heap:=h.push (N2 k1 l1)
noncomputable abbrev zH2(k1 k2:Bool)(h:Heap)(l1 l2:Addr):Heap:=(zH1 k1 h l1).push (N2 k2 l2)
noncomputable abbrev zH3(k1 k2:Bool)(h:Heap)(l1 l2:Addr):Heap:=(zH2 k1 k2 h l1 l2).push {cls:=.type "tuple",data:=.seq #[.ref h.objs.size,.ref (zH1 k1 h l1).objs.size]}
noncomputable abbrev zH4(k1 k2:Bool)(h:Heap)(l1 l2:Addr):Heap:=(zH3 k1 k2 h l1 l2).push {cls:=.type "tuple",data:=.seq #[.none,.none]}
noncomputable abbrev zH5(k1 k2:Bool)(h:Heap)(l1 l2:Addr):Heap:=(zH4 k1 k2 h l1 l2).push {cls:=.type "zip",data:=.fields #[.none,.bool false,.bool false,.ref (zH2 k1 k2 h l1 l2).objs.size,.ref (zH3 k1 k2 h l1 l2).objs.size]}
theorem b0p(l1 l2:Addr)(xs ys:Array Value) :
  Meets (Builtin.«zip.__new__» ⟨[.type "zip",.ref l1,.ref l2],[]⟩) (λ_ R s=>SqAt k1 s.heap l1 xs/\SqAt k2 s.heap l2 ys /\
   R (.ok (.ret (.ref (zH4 k1 k2 s.heap l1 l2).objs.size))) {s with heap:=zH5 k1 k2 s.heap l1 l2}) :=
 .of_wp λprog w A R s h=>by
  obtain⟨hp,g,d,tk,os⟩:=s;obtain⟨hl1,hl2,h⟩:=h;have hsub:=sub_zip;have hL1:SqAt k1 (Shared.heap ⟨hp,g,d,tk,os⟩) l1 xs:=hl1;have hL2:SqAt k2 (Shared.heap ⟨hp.push (N2 k1 l1),g,d,tk,os⟩) l2 ys:=hl2.at λo e=>Heap.get?_push_of_some _ e
  wp_walk using K4 hL1,K4 hL2
  exact⟨_,rfl,h⟩
theorem a7O{l1 l2:Addr}{xs ys:Array Value}{Q:Value->Shared->Prop}(hl1:SqAt k1 s.heap l1 xs)(hl2:SqAt k2 s.heap l2 ys)
  (h:∀h',IsZip h' (s.heap.objs.size+4) (s.heap.objs.size+2) (s.heap.objs.size+3) .none->IsPair h' (s.heap.objs.size+2) (.ref s.heap.objs.size) (.ref (s.heap.objs.size+1)) ->
   IsPair h' (s.heap.objs.size+3) .none .none->ItAt k1 h' s.heap.objs.size l1 0->ItAt k2 h' (s.heap.objs.size+1) l2 0->h'.objs.size=s.heap.objs.size+5 ->
   (∀c o,s.heap.get? c=some o->h'.get? c=some o)->Q (.ref (s.heap.objs.size+4)) {s with heap:=h'}) :
  wpAny (model prog w) A (call (.type "zip") [.ref l1,.ref l2]) Q E s:=by
 refine callType_new F.called_zip (by decide) (F.typeCall_zip_2 _ _) (F.newCall_zip_2 _ _) (λobj=>F.args_object_init_3 obj _ _) F.entry_zip_new
  (b0p (k1:=k1) (k2:=k2) l1 l2 xs ys) ⟨hl1,hl2,?_⟩
 have z1:(zH1 k1 s.heap l1).objs.size=s.heap.objs.size+1:=Heap.size_push ..;have z2:(zH2 k1 k2 s.heap l1 l2).objs.size=s.heap.objs.size+2:=by rw[Heap.size_push,z1]
 have z3:(zH3 k1 k2 s.heap l1 l2).objs.size=s.heap.objs.size+3:=by rw[Heap.size_push,z2]
 have z4:(zH4 k1 k2 s.heap l1 l2).objs.size=s.heap.objs.size+4:=by rw[Heap.size_push,z3]
 have z5:(zH5 k1 k2 s.heap l1 l2).objs.size=s.heap.objs.size+5:=by rw[Heap.size_push,z4]
 have g5:(zH5 k1 k2 s.heap l1 l2).get? (zH4 k1 k2 s.heap l1 l2).objs.size=some _:=Heap.get?_push_size _ rfl;have g4:(zH5 k1 k2 s.heap l1 l2).get? (zH3 k1 k2 s.heap l1 l2).objs.size=some _:=Heap.get?_push_of_some _ (Heap.get?_push_size _ rfl);have g3:(zH5 k1 k2 s.heap l1 l2).get? (zH2 k1 k2 s.heap l1 l2).objs.size=some _:=Heap.get?_push_of_some _ (Heap.get?_push_of_some _ (Heap.get?_push_size _ rfl));have g2:(zH5 k1 k2 s.heap l1 l2).get? (zH1 k1 s.heap l1).objs.size=some (N2 k2 l2):=Heap.get?_push_of_some _ (Heap.get?_push_of_some _ (Heap.get?_push_of_some _ (Heap.get?_push_size _ rfl)));have g1:(zH5 k1 k2 s.heap l1 l2).get? s.heap.objs.size=some (N2 k1 l1):=Heap.get?_push_of_some _ (Heap.get?_push_of_some _ (Heap.get?_push_of_some _ (Heap.get?_push_of_some _ (Heap.get?_push_size _ rfl))));show _/\_;rw[z2,z3,z4]at g5;rw[z1,z2]at g3;rw[z3]at g4;rw[z1]at g2;rw[z4];refine⟨⟨_,g5,rfl⟩,h _ g5 g3 g4 ?_ ?_ z5 λc o x =>
  Heap.get?_push_of_some _ (Heap.get?_push_of_some _ (Heap.get?_push_of_some _ (Heap.get?_push_of_some _ (Heap.get?_push_of_some _ x))))⟩
 .cases k1<;>exact⟨_,g1,rfl,rfl⟩
 .cases k2<;>exact⟨_,g2,rfl,rfl⟩
end
def SqK(k:Bool)(K:PySem.W.Frag)(H:Hp)(a:Addr)(xs:List V):Prop:=match k with|true=>SqT K H a xs|false=>SqL K H a xs
theorem Inv.sqk{X:Cx}{pins:List (Addr×Obj)}{σ:St}{H:Hp}{s:Shared}{k:Bool}{a:Addr}{xs:List V}(I:Inv X pins σ H s)(h:SqK k X.K H a xs):∃its:List Value,Vals xs its/\SqAt k s.heap a its.toArray/\xs.length<=sizeLine:=by
 cases k
 .obtain⟨its,r,p,z⟩:=I.list h;exact⟨its,r,p.isList,z⟩
 .obtain⟨its,r,p,z⟩:=I.tuple h;exact⟨its,r,p,z⟩
theorem Inv.sqk_inj{X:Cx}{pins:List (Addr×Obj)}{σ:St}{H:Hp}{s:Shared}{k:Bool}{a:Addr}{xs ys:List V}(I:Inv X pins σ H s)(h:SqK k X.K H a xs)(h':SqK k X.K H a ys):xs=ys:=by
 cases k
 .exact I.list_inj h h'
 .exact I.tuple_inj h h'
noncomputable def Itz(K:PySem.W.Frag)(k1 k2:Bool)(a b:Addr):It :=
 ⟨λi H=>∃xs ys x y,SqK k1 K H a xs/\SqK k2 K H b ys/\xs[i]?=some x/\ys[i]?=some y,
  λi H v H'=>∃p x y,v=.ref p/\H p=none/\H'=upd H p (.tup [x,y])/\(∀xs,SqK k1 K H a xs->xs[i]?=some x)/\∀ys,SqK k2 K H b ys->ys[i]?=some y,
  λi H=>∃xs ys,SqK k1 K H a xs/\SqK k2 K H b ys/\(xs.length<=i∨ys.length<=i)⟩
structure ZTurn(k1 k2:Bool)(z TI TO i1 i2 a b:Addr)(i:Nat)(f0:Value)(h:Heap):Prop where
 zz:IsZip h z TI TO f0
 ti:IsPair h TI (.ref i1) (.ref i2)
 to:∃u v,IsPair h TO u v
 t1:ItAt k1 h i1 a i
 t2:ItAt k2 h i2 b i
structure ZNe(z TI TO i1 i2:Addr):Prop where
 TIz:TI≠z
 TOz:TO≠z
 i1z:i1≠z
 i2z:i2≠z
 TITO:TI≠TO
 TIi1:TI≠i1
 TIi2:TI≠i2
 TOi1:TO≠i1
 TOi2:TO≠i2
 i12:i1≠i2
section
variable {X:Cx}{pins:List (Addr×Obj)}{σ:St}{H:Hp}{s:Shared}
theorem Inv.turnedT{h':Heap}{ch:List Addr}{p:Addr}{o:HO}(I:Inv X pins σ H s)(hf:∀b∈ch,a0x X pins H b)(hp:s.heap.objs.size=p)(k:∀b o,b∉ch->s.heap.get? b=some o->h'.get? b=some o)
  (new:ObjOk X.prog X.w (upd H p o) h' p o):Inv X pins σ (upd H p o) {s with heap:=h'}:=by
 have hn:H p=none:=I.hok.fresh (Nat.le_of_eq hp);have nit:∀b u,H b=some u->b∉ch:=λb u e z=>by rw[(hf b z).1]at e;cases e
 have nep:∀b u,H b=some u->b≠p:=λb u e z=>by rw[z,hn]at e;cases e
 have nap:∀b u,s.heap.get? b=some u->b≠p:=λb u e=>by
  rw[<-hp];exact Nat.ne_of_lt (Heap.lt_size e)
 refine I.step (g':=s.gens) (d':=s.drawn) (t':=s.toks) (ch:=ch) (λb hb=>?_) (λb o _ _ hc e _=>k b o hc e) (λb o _ _ hc e _=>⟨o.slots,k b o hc e⟩) (λb u _ e n=>by rw[A3 (nap b u e)];exact n)
  (λb o hc e=>⟨o,k b o hc e⟩) (λb xs e=>by rw[A3 (nep b _ e)];exact e) (λb u v e=>by rw[A3 (nep b _ e)];exact e) (λb ps e=>⟨#[],by rw[A3 (nep b _ e),e];simp⟩) (λm hm=>?_) (λb u e=>?_) I.bare
 .obtain⟨_,h1,_,h3,h4,h5⟩:=hf b hb;exact⟨h3,h1,h4,h5⟩
 .obtain⟨o,es,ep,ho,r⟩:=hm;exact⟨o,es,ep,k _ o (λz=>(hf _ z).2.1 rfl) ho,r⟩
 .by_cases hb:b=p
  .subst hb;rw[A0]at e;cases e;exact new
  .rw[A3 hb]at e;refine(I.hok b u e).stay (λc v hc q=>k c v ?_ q) (λc q=>by rw[A3 (nep c _ q)];exact q) λc xs q=>by rw[A3 (nep c _ q)];exact q
   rcases hc with z|z
   .rw[z];exact nit b u e
   .exact nit c _ z
theorem Inv.turnedL{h':Heap}{ch:List Addr}(I:Inv X pins σ H s)(hf:∀b∈ch,a0x X pins H b)(k:∀b o,b∉ch->s.heap.get? b=some o->h'.get? b=some o):Inv X pins σ H {s with heap:=h'}:=by
 have nit:∀b u,H b=some u->b∉ch:=λb u e z=>by rw[(hf b z).1]at e;cases e
 refine I.step (g':=s.gens) (d':=s.drawn) (t':=s.toks) (ch:=ch) (λb hb=>?_) (λb o _ _ hc e _=>k b o hc e) (λb o _ _ hc e _=>⟨o.slots,k b o hc e⟩) (λb u _ e n=>n)
  (λb o hc e=>⟨o,k b o hc e⟩) (λb xs e=>e) (λb u v e=>e) (λb ps e=>⟨#[],by rw[e];simp⟩) (λm hm=>?_) (λb u e=>?_) I.bare
 .obtain⟨_,h1,_,h3,h4,h5⟩:=hf b hb;exact⟨h3,h1,h4,h5⟩
 .obtain⟨o,es,ep,ho,r⟩:=hm;exact⟨o,es,ep,k _ o (λz=>(hf _ z).2.1 rfl) ho,r⟩
 .refine(I.hok b u e).stay (λc v hc q=>k c v ?_ q) (λc q=>q) λc xs q=>q;rcases hc with z|z
  .rw[z];exact nit b u e
  .exact nit c _ z
theorem Inv.apart{k:Bool}{a:Addr}{xs:List V}{b:Addr}{o:Obj}(I:Inv X pins σ H s)(hs:SqK k X.K H a xs)(hf:a0x X pins H b):a≠b:=by
 rintro rfl;have inH:∀{u:HO},Rd H a u->False:=λr=>by
  rcases r with r|⟨o,r⟩<;>rw[hf.1]at r<;>cases r
 have inK:∀{ob:Obj},X.K.lookup a=some ob->False:=λe=>by
  have e0:=I.mod.kin a _ e;rcases hf.2.2.2.1 with z|z
  .exact I.ok.noex _ _ e0 z
  .exact absurd (Nat.lt_of_lt_of_le (Heap.lt_size (I.ok.bs _ _ e0).1) z) (Nat.lt_irrefl _)
 cases k
 .rcases hs with r|⟨ob,_,_,e,_⟩
  .exact inH r
  .exact inK e
 .rcases hs with r|⟨ob,_,_,e,_⟩
  .exact inH r
  .exact inK e
end
theorem a7Z{P:Program}{w:World}{K:PySem.W.Frag}{es:List Expr}{kt:Nat}{tp:Pos}{k1 k2:Bool}{a b z TI TO i1 i2:Addr}(D:ZNe z TI TO i1 i2) :
  Turn P w K (.Tuple es kt tp) (Itz K k1 k2 a b) [z,TI,TO,i1,i2] z (λi h=>ZTurn k1 k2 z TI TO i1 i2 a b i .none h) where
 mem:=by simp
 obj:=λi h st c hc=>by
  simp only[List.mem_cons,List.not_mem_nil,or_false]at hc;rcases hc with rfl|rfl|rfl|rfl|rfl
  .exact⟨_,st.zz,λv z=>by cases z⟩
  .exact⟨_,st.ti,λv z=>by cases z⟩
  .obtain⟨u,v,q⟩:=st.to;exact⟨_,q,λv z=>by cases z⟩
  .obtain⟨o,e,d⟩:=st.t1.get;exact⟨o,e,λv z=>by rw[d]at z;cases z⟩
  .obtain⟨o,e,d⟩:=st.t2.get;exact⟨o,e,λv z=>by rw[d]at z;cases z⟩
 keep:=λi h h' st k=>⟨k z (by simp) _ st.zz,k TI (by simp) _ st.ti,let ⟨u,v,q⟩:=st.to;⟨u,v,k TO (by simp) _ q⟩,st.t1.at λo e=>k i1 (by simp) o e,st.t2.at λo e=>k i2 (by simp) o e⟩
 item:=by
  intro X hP hw hK hc i pins s σ H E I hf st hg;subst hP hw hK;obtain⟨xs,ys,x,y,hx1,hy1,hx,hy⟩:=hg;obtain⟨us,ru,pu,zu⟩:=I.sqk hx1;obtain⟨ws,rw',pw,zw⟩:=I.sqk hy1;obtain⟨u,hu,rux⟩:=ru.get hx;obtain⟨v,hv,rvy⟩:=rw'.get hy;have ap:∀c∈[z,TI,TO,i1,i2],a≠c/\b≠c:=λc hc=>⟨I.apart (o:=default) hx1 (hf c hc),I.apart (o:=default) hy1 (hf c hc)⟩;have D':ZipApart z TI TO i1 i2 a b:=⟨D.TIz,D.TOz,D.i1z,D.i2z,D.TITO,D.TIi1,D.TIi2,D.TOi1,D.TOi2,D.i12,(ap z (by simp)).1,(ap TO (by simp)).1,(ap i1 (by simp)).1,(ap i2 (by simp)).1,(ap z (by simp)).2,(ap TO (by simp)).2,(ap i1 (by simp)).2,(ap i2 (by simp)).2⟩;obtain⟨ua,ub,hTO⟩:=st.to;have hT:s.TypeIs (.ref z) "zip":=⟨_,st.zz,rfl⟩;unfold pyNext;refine wpAny_bind (wpAny_attempt (wpAny_callSpecial?_slot (name:=Str.ofString "__next__") hT F.slot_zip_next
   (wpAny_call_entry F.slot_zip_next hT F.entry_zip_next
    (a7N D' st.zz st.ti hTO st.t1 st.t2 pu pw (x:=u) (y:=v) (by simpa using hu) (by simpa using hv) λh' a1 a2 a3 a4 a5 a6 a7=>wpAny_pure ?_) (F.args_zip_next_1 _))))
  refine⟨_,rfl,?_⟩;refine wpAny_letOwnedTupleGo_zip (s:={s with heap:=h'}) a1 λh2 hz2 hs2=>?_;have ne:∀c∈[z,TI,TO,i1,i2],c≠s.heap.objs.size:=λc hc e=>by
   have:∃o,s.heap.get? c=some o:=by
    simp only[List.mem_cons,List.not_mem_nil,or_false]at hc;rcases hc with rfl|rfl|rfl|rfl|rfl
    .exact⟨_,st.zz⟩
    .exact⟨_,st.ti⟩
    .exact⟨_,hTO⟩
    .obtain⟨o,e,d⟩:=st.t1.get;exact⟨o,e⟩
    .obtain⟨o,e,d⟩:=st.t2.get;exact⟨o,e⟩
   obtain⟨o,q⟩:=this;exact absurd (Heap.lt_size q) (by rw[e];exact Nat.lt_irrefl _)
  have hfree:H s.heap.objs.size=none:=I.hok.fresh (Nat.le_refl _);have pr2:IsPair h2 s.heap.objs.size u v:=hs2.extBut _ _ (ne z (by simp)).symm a5;have kk:∀c o,c∉[z,TI,TO,i1,i2]->s.heap.get? c=some o->h2.get? c=some o:=λc o hc e=>by
   simp only[List.mem_cons,List.not_mem_nil,or_false,not_or]at hc;exact hs2.extBut _ _ hc.1 (a7 c o hc.1 hc.2.2.1 hc.2.2.2.1 hc.2.2.2.2 e)
  have I2:Inv X pins σ (upd H s.heap.objs.size (.tup [x,y])) {s with heap:=h2} :=
   I.turnedT (ch:=[z,TI,TO,i1,i2]) hf rfl kk ⟨by show 2<=sizeLine;decide,[u,v],.cons rux (.cons rvy .nil),⟨_,pr2,rfl,0,rfl⟩⟩
  refine⟨.ref s.heap.objs.size,_,I2,rfl,⟨_,x,y,rfl,hfree,rfl,λzs hz=>?_,λzs hz=>?_⟩,⟨hz2,hs2.extBut _ _ D.TIz (a7 _ _ D.TIz D.TITO D.TIi1 D.TIi2 st.ti),⟨u,v,hs2.extBut _ _ D.TOz a2⟩,a3.extBut hs2.extBut D.i1z,a4.extBut hs2.extBut D.i2z⟩,λc hc=>?_⟩
  .rw[I.sqk_inj hz hx1];exact hx
  .rw[I.sqk_inj hz hy1];exact hy
  .rw[A3 (ne c hc)];exact(hf c hc).1
 done:=by
  intro X hP hw hK hc i pins s σ H E I hf st hg;subst hP hw hK;obtain⟨xs,ys,hx1,hy1,hend⟩:=hg;obtain⟨us,ru,pu,zu⟩:=I.sqk hx1;obtain⟨ws,rw',pw,zw⟩:=I.sqk hy1;have l1:=ru.length;have l2:=rw'.length;have ap:∀c∈[z,TI,TO,i1,i2],a≠c/\b≠c:=λc hc=>⟨I.apart (o:=default) hx1 (hf c hc),I.apart (o:=default) hy1 (hf c hc)⟩;have D':ZipApart z TI TO i1 i2 a b:=⟨D.TIz,D.TOz,D.i1z,D.i2z,D.TITO,D.TIi1,D.TIi2,D.TOi1,D.TOi2,D.i12,(ap z (by simp)).1,(ap TO (by simp)).1,(ap i1 (by simp)).1,(ap i2 (by simp)).1,(ap z (by simp)).2,(ap TO (by simp)).2,(ap i1 (by simp)).2,(ap i2 (by simp)).2⟩;obtain⟨ua,ub,hTO⟩:=st.to;have hT:s.TypeIs (.ref z) "zip":=⟨_,st.zz,rfl⟩;unfold pyNext;refine wpAny_bind (wpAny_attempt (wpAny_callSpecial?_slot (name:=Str.ofString "__next__") hT F.slot_zip_next
   (wpAny_call_entry F.slot_zip_next hT F.entry_zip_next (b0r (I.ok.hd hc) D' st.zz st.ti hTO st.t1 st.t2 pu pw ?_ λh' e hk he=>?_) (F.args_zip_next_1 _))))
  .rcases hend with q|q
   .exact .inl (by simp;omega)
   .exact .inr (by simp;omega)
  .obtain⟨o,ho,hc⟩:=he;refine wpAny_bind (wpAny_isInstance (T:="StopIteration") (b:=true) ⟨o,ho,hc⟩ isSubtype_stop ?_);refine wpAny_pure ⟨rfl,I.turnedL (ch:=[z,TI,TO,i1,i2]) hf λc o hc e=>?_⟩;simp only[List.mem_cons,List.not_mem_nil,or_false,not_or]at hc;exact hk c o hc.1 hc.2.2.1 hc.2.2.2.1 hc.2.2.2.2 e
 self:=λA i s Q E st h=>wpAny_pyIter_zip st.zz h
theorem nne{a b:Nat}(h:a≠b):@Ne Addr a b:=h
theorem zne(n:Nat):ZNe (n+4) (n+2) (n+3) n (n+1) :=
 ⟨nne (by omega),nne (by omega),nne (by omega),nne (by omega),nne (by omega),nne (by omega),nne (by omega),nne (by omega),nne (by omega),nne (by omega)⟩
def b4x(K:PySem.W.Frag)(ta:TA):TI:=λσ H R=>ta σ H λvs H1=>∃k1 k2 a b,vs=[.ref a,.ref b]/\(∃xs,SqK k1 K H1 a xs)/\(∃ys,SqK k2 K H1 b ys)/\R (Itz K k1 k2 a b) H1
section
variable {X:Cx}
theorem b3C{es:List Expr}{kt:Nat}{tp:Pos}{a b:Expr}{ta:TA}{p pos:Pos}(hg:Gl X "zip")(hm:X.mg "zip"=none)(ha:PA X [a,b] ta)(hbz:bootBuiltins "zip"=some (.type "zip"))
  (hs:starEach [a,b] X.env=[(false,eval a X.env),(false,eval b X.env)]:=by rfl) (hs2:starEach [b] X.env=[(false,eval b X.env)]:=by rfl) :
  PI X (.Tuple es kt tp) (.Call (.Name "zip" p) [a,b] [] pos) (b4x X.K ta):=by
 intro pins s σ H R I h;refine Call_ (O7 I hg hm hbz (PyProof.Rows.callWith_type1 (thn (ha pos pins s σ H _ I h) λus s1 ⟨vs,H1,I1,r1,q1⟩=>?_) (by rw[hs,hs2]) (by rw[hs2];rfl)));obtain⟨k1,k2,l1,l2,e,⟨xs,hx⟩,⟨ys,hy⟩,q⟩:=q1;subst e;cases r1 with
 |cons r rr =>
  cases rr with
  |cons r' rr =>
   cases rr;cases r;cases r';obtain⟨us,ru,pu,zu⟩:=I1.sqk hx;obtain⟨ws,rw',pw,zw⟩:=I1.sqk hy;refine a7O pu pw λh' z1 z2 z3 z4 z5 z6 z7=>?_;refine wpAny_pyIter_zip (s:={s1 with heap:=h'}) z1 ?_;refine⟨s1.heap.objs.size+4,[s1.heap.objs.size+4,s1.heap.objs.size+2,s1.heap.objs.size+3,s1.heap.objs.size,s1.heap.objs.size+1],_,_,H1,rfl,I1.kept (t':=s1.toks) z7,a7Z (zne _),
    ⟨z1,z2,⟨_,_,z3⟩,z4,z5⟩,λc hc=>?_,q⟩
   have hle:s1.heap.objs.size<=c:=by
    simp only[List.mem_cons,List.not_mem_nil,or_false]at hc;rcases hc with rfl|rfl|rfl|rfl|rfl
    .exact Nat.le_add_right _ _
    .exact Nat.le_add_right _ _
    .exact Nat.le_add_right _ _
    .exact Nat.le_refl _
    .exact Nat.le_add_right _ _
   exact I1.fpOk hle (I1.hok.fresh hle)
end
theorem a1i{prog:Program}{w:World}{A:Around}{k:Bool}{I l:Addr}{items:Array Value}(hh:A.handled=none)(hne:l≠I) :
  Walks prog w A I [I,l] [I] items.size (λi v=>items[i]?=some v) (λi h=>ItAt k h I l i/\SqAt k h l items):=by
 cases k
 .exact Walks.list hh I l hne items
 .exact Walks.tuple hh I l hne items
noncomputable def trV:V->Bool
 |.bl b=>b
 |.int i=>i != 0
 |.non=>false
 |_=>true
noncomputable def a4p:V->Bool
 |.bl _=>true
 |.int _=>true
 |.non=>true
 |_=>false
theorem a0B{prog:Program}{w:World}{A:Around}{E:Value->Shared->Prop}{s:Shared}{x:V}{v:Value}{Q:Bool->Shared->Prop}(r:RelV x v)(f:a4p x=true)(h:Q (trV x) s):wpAny (model prog w) A (truthy v) Q E s:=by
 cases x with
 |non=>cases r;exact truthy_none h
 |bl b=>cases r;exact wpAny_truthy_bool h
 |int i=>obtain⟨t,rfl⟩:=r;exact PySem.P.truthy_int h
 |_=>cases f
theorem a2p{α:Type}(xs:List α)(p:α->Bool)(d:α):(List.range xs.length).all (λi=>p (xs.getD i d))=xs.all p:=by
 rw[Bool.eq_iff_iff,List.all_eq_true,List.all_eq_true];constructor
 .intro h x hx;obtain⟨i,hi,rfl⟩:=List.mem_iff_getElem.mp hx;have:=h i (List.mem_range.mpr hi);simpa[List.getD_eq_getElem?_getD,hi]using this
 .intro h i hi;have hi':=List.mem_range.mp hi;simpa[List.getD_eq_getElem?_getD,hi']using h xs[i] (List.getElem_mem hi')
theorem a6M{α:Type}(xs:List α)(p:α->Bool)(d:α):(List.range xs.length).any (λi=>p (xs.getD i d))=xs.any p:=by
 have:=a2p xs (λx=>!p x) d;rw[<-List.not_any_eq_all_not,<-List.not_any_eq_all_not]at this;simpa using this
theorem a5Y(xs:List Int):∀n,n<=xs.length->preSum (λi=>xs.getD i 0) n=(xs.take n).sum
 |0,_=>by simp[preSum]
 |n+1,h=>by
  have this:xs[n]?=some xs[n]:=List.getElem?_eq_getElem (by omega);have e:xs.take (n+1)=xs.take n++[xs[n]]:=by rw[List.take_add_one,this];rfl
  rw[preSum,a5Y xs n (by omega),e,List.sum_append];simp[List.getD_eq_getElem?_getD,this]
section
variable {X:Cx}
abbrev RL:=List V->Hp->VK->Prop
def b3u(K:PySem.W.Frag):RL:=λxs H Q=>∃(k:Bool) (p:Addr) (ys:List V),xs=[.ref p]/\SqK k K H p ys/\ys.all a4p=true/\Q (.bl (ys.all trV)) H
def b3t(K:PySem.W.Frag):RL:=λxs H Q=>∃(k:Bool) (p:Addr) (ys:List V),xs=[.ref p]/\SqK k K H p ys/\ys.all a4p=true/\Q (.bl (ys.any trV)) H
def b3o(K:PySem.W.Frag):RL:=λxs H Q=>∃(k:Bool) (p:Addr) (ns:List Int),xs=[.ref p]/\SqK k K H p (ns.map V.int)/\Q (.int ns.sum) H
theorem a5g{k:Bool}{l:Addr}{items:Array Value}{s:Shared}(h:SqAt k s.heap l items):ItAt k (s.heap.push (N2 k l)) s.heap.objs.size l 0/\SqAt k (s.heap.push (N2 k l)) l items:=by
 refine⟨?_,h.at λo e=>Heap.get?_push_of_some _ e⟩;cases k<;>exact⟨_,Heap.get?_push_size _ rfl,rfl,rfl⟩
theorem a1E{k:Bool}{l:Addr}{items:Array Value}{s:Shared}(h:SqAt k s.heap l items):l≠s.heap.objs.size:=by
 obtain⟨o,e⟩:=h.get;exact Nat.ne_of_lt (Heap.lt_size e)
theorem a1I{s:Shared}{h':Heap}{o0:Obj}(hk:∀b o,b∉[s.heap.objs.size]->(s.heap.push o0).get? b=some o->h'.get? b=some o):∀b o,s.heap.get? b=some o->h'.get? b=some o:=λb o e =>
 hk b o (λz=>by have:=Heap.lt_size e;rw[List.mem_singleton.mp z]at this;exact Nat.lt_irrefl _ this) (Heap.get?_push_of_some _ e)
theorem b0f(hc:X.calm=true):C8 X (.builtin "all") (b3u X.K):=by
 intro pins s σ H xs us Q I rv h;obtain⟨k,p,ys,rfl,hs,hf,q⟩:=h;obtain⟨u,rfl,ru⟩:=rv.one;cases ru;obtain⟨its,ri,sq,hz⟩:=I.sqk hs;have hh:X.A.in1.handled=none:=I.ok.hd hc;refine call_all_walk (K4 sq ?_);refine⟨s.heap.objs.size,_,_,_,_,_,λi=>trV (ys.getD i .non),rfl,a1i (k:=k) (l:=p) (items:=its.toArray) hh (a1E sq),a5g sq,?_,λh' tk hk=>?_⟩
 .intro i v s' Q' E' hv hq;have hv':its[i]?=some v:=by simpa using hv
  obtain⟨hi,_⟩:=List.getElem?_eq_some_iff.mp hv';have hi':i<ys.length:=by rw[ri.length];exact hi
  have hy:ys[i]?=some ys[i]:=List.getElem?_eq_getElem hi';obtain⟨v',e1,e2⟩:=ri.get hy;rw[hv']at e1;cases e1;refine a0B e2 (List.all_eq_true.mp hf _ (List.getElem_mem hi')) ?_;simpa[List.getD_eq_getElem?_getD,hy]using hq
 .have e:(List.range its.toArray.size).all (λi=>trV (ys.getD i .non))=ys.all trV:=by
   rw[List.size_toArray,<-ri.length];exact a2p ys trV .non
  rw[e];exact⟨.bl _,H,I.kept (a1I hk),rfl,q⟩
theorem b0e(hc:X.calm=true):C8 X (.builtin "any") (b3t X.K):=by
 intro pins s σ H xs us Q I rv h;obtain⟨k,p,ys,rfl,hs,hf,q⟩:=h;obtain⟨u,rfl,ru⟩:=rv.one;cases ru;obtain⟨its,ri,sq,hz⟩:=I.sqk hs;have hh:X.A.in1.handled=none:=I.ok.hd hc;refine call_any_walk (K4 sq ?_);refine⟨s.heap.objs.size,_,_,_,_,_,λi=>trV (ys.getD i .non),rfl,a1i (k:=k) (l:=p) (items:=its.toArray) hh (a1E sq),a5g sq,?_,λh' tk hk=>?_⟩
 .intro i v s' Q' E' hv hq;have hv':its[i]?=some v:=by simpa using hv
  obtain⟨hi,_⟩:=List.getElem?_eq_some_iff.mp hv';have hi':i<ys.length:=by rw[ri.length];exact hi
  have hy:ys[i]?=some ys[i]:=List.getElem?_eq_getElem hi';obtain⟨v',e1,e2⟩:=ri.get hy;rw[hv']at e1;cases e1;refine a0B e2 (List.all_eq_true.mp hf _ (List.getElem_mem hi')) ?_;simpa[List.getD_eq_getElem?_getD,hy]using hq
 .have e:(List.range its.toArray.size).any (λi=>trV (ys.getD i .non))=ys.any trV:=by
   rw[List.size_toArray,<-ri.length];exact a6M ys trV .non
  rw[e];exact⟨.bl _,H,I.kept (a1I hk),rfl,q⟩
theorem b0b(hc:X.calm=true):C8 X (.builtin "sum") (b3o X.K):=by
 intro pins s σ H xs us Q I rv h;obtain⟨k,p,ns,rfl,hs,q⟩:=h;obtain⟨u,rfl,ru⟩:=rv.one;cases ru;obtain⟨its,ri,sq,hz⟩:=I.sqk hs;have hl:=ri.length;rw[List.length_map]at hl;have hh:X.A.in1.handled=none:=I.ok.hd hc;refine call_sum_walkG (K4 sq ?_);refine⟨s.heap.objs.size,_,_,_,_,_,λi=>ns.getD i 0,rfl,a1i (k:=k) (l:=p) (items:=its.toArray) hh (a1E sq),a5g sq,λb hb=>?_,?_,λh' tk t' hk=>?_⟩
 .rw[Heap.size_push];obtain⟨o,e⟩:=sq.get;have hlt:=Heap.lt_size e;simp only[List.mem_cons,List.not_mem_nil,or_false]at hb;rcases hb with rfl|rfl
  .exact Nat.lt_succ_self _
  .exact Nat.lt_succ_of_lt hlt
 .intro i v hv;have hv':its[i]?=some v:=by simpa using hv
  obtain⟨hi,_⟩:=List.getElem?_eq_some_iff.mp hv';have hy:(ns.map V.int)[i]?=some (.int ns[i]):=by rw[List.getElem?_map,List.getElem?_eq_getElem (by omega)];rfl
  obtain⟨v',e1,t,e2⟩:=ri.get hy;rw[hv']at e1;cases e1;exact⟨t,by rw[e2];show _=Value.int (ns.getD i 0) t;rw[List.getD_eq_getElem?_getD,List.getElem?_eq_getElem (by omega)];rfl⟩
 .have e:preSum (λi=>ns.getD i 0) its.toArray.size=ns.sum:=by
   rw[List.size_toArray,<-hl,a5Y ns _ (Nat.le_refl _),List.take_length]
  rw[e];exact⟨.int ns.sum,H,I.kept (a1I hk),⟨t',rfl⟩,q⟩
def b3r(K:PySem.W.Frag):RL:=λxs H Q=>∃x n t b,xs=[x,.ty n]/\TyOf K H x t/\PySem.W.kitOne K t (.type n)=some b/\Q (.bl b) H
theorem b0c:C8 X (.builtin "isinstance") (b3r X.K):=by
 intro pins s σ H xs us Q I rv h;obtain⟨x,n,t,b,rfl,ty,e,q⟩:=h;obtain⟨u,v,rfl,ru,rv'⟩:=rv.two;cases rv';exact a7m I ru ty e λtk=>⟨.bl b,H,I.tok tk,rfl,q⟩
end
theorem a5y:bootBuiltins "len"=some (.builtin "len"):=boot_len
theorem b4F:bootBuiltins "zip"=some (.type "zip"):=by kernel_rfl
theorem b4I:bootBuiltins "all"=some (.builtin "all"):=by kernel_rfl
theorem b4H:bootBuiltins "any"=some (.builtin "any"):=by kernel_rfl
theorem b4G:bootBuiltins "sum"=some (.builtin "sum"):=by kernel_rfl
theorem a5x:bootBuiltins "min"=some (.builtin "min"):=by kernel_rfl
theorem b0h:bootBuiltins "max"=some (.builtin "max"):=by kernel_rfl
theorem W3:bootBuiltins "isinstance"=some (.builtin "isinstance"):=by kernel_rfl
theorem a0u:bootBuiltins "sorted"=some (.builtin "sorted"):=by kernel_rfl
theorem a1Z:bootBuiltins "tuple"=some (.type "tuple"):=by kernel_rfl
theorem b2d:bootBuiltins "list"=some (.type "list"):=by kernel_rfl
theorem b0i:bootBuiltins "int"=some (.type "int"):=by kernel_rfl
theorem b2e:bootBuiltins "bool"=some (.type "bool"):=by kernel_rfl
theorem a1c{src:List (Option Nat)}{g:TG}{tt:TT}{te:TE}{σ:St}{Q:VK}{J:It}{H1:Hp}(n:Nat)(Pv:Nat->List V->Hp->Prop)(h0:Pv 0 [] H1)
  (hs:∀i ys H,i<n->Pv i ys H->J.go i H/\ys.length<sizeLine/\∀x H',J.yld i H x H'->g x (C1 src σ) H' λσ2 H2=>Sub (C1 src σ) σ2/\tt σ2 H2 λb H3=>if b=true then te σ2 H3 λv H4=>Pv (i+1) (ys++[v]) H4 else Pv (i+1) ys H3)
  (hd:∀ys H,Pv n ys H->J.stop n H/\ys.length<=sizeLine/\∀p,H p=none->Q (.ref p) (upd H p (.lst ys))):T7 src g tt te σ Q J H1:=by
 refine⟨λi m ys H=>m=n-i/\i<=n/\Pv i ys H,⟨n,by omega,Nat.zero_le _,h0⟩,?_⟩;rintro i m ys H ⟨rfl,hi,p⟩;by_cases hlt:i<n
 .obtain⟨q1,q2,q3⟩:=hs i ys H hlt p;exact .inr ⟨q1,q2,Pv (i+1),λzs H' p'=>⟨n-(i+1),by omega,rfl,hlt,p'⟩,q3⟩
 .have e:i=n:=by omega
  subst e;exact .inl (hd ys H p)
theorem X0{src:List (Option Nat)}{g:TG}{tt:TT}{te:TE}{σ:St}{Q:VK}{lo:Int}{n:Nat}{H1:Hp}(hn:n<=sizeLine)(Pv:Nat->List V->Hp->Prop)(h0:Pv 0 [] H1)
  (hl:∀i ys H,Pv i ys H->ys.length<=i)
  (hs:∀i ys H,i<n->Pv i ys H->g (.int (lo+i)) (C1 src σ) H λσ2 H2=>Sub (C1 src σ) σ2/\tt σ2 H2 λb H3=>if b=true then te σ2 H3 λv H4=>Pv (i+1) (ys++[v]) H4 else Pv (i+1) ys H3)
  (hd:∀ys H,Pv n ys H->∀p,H p=none->Q (.ref p) (upd H p (.lst ys))):T7 src g tt te σ Q (Itr lo n) H1 :=
 a1c n Pv h0 (λi ys H hi p=>⟨hi,by have:=hl i ys H p;omega,λx H' y=>by obtain⟨e,y⟩:=y;subst e y;exact hs i ys _ hi p⟩)
  λys H p=>⟨Nat.le_refl _,Nat.le_trans (hl n ys H p) hn,hd ys H p⟩
theorem a0s{K:PySem.W.Frag}{src:List (Option Nat)}{g:TG}{tt:TT}{te:TE}{σ:St}{Q:VK}{a:Addr}{xs:List V}{H1:Hp}(hn:xs.length<=sizeLine)(Pv:Nat->List V->Hp->Prop)(h0:Pv 0 [] H1)
  (hq:∀i ys H,i<=xs.length->Pv i ys H->SqL K H a xs/\ys.length<=i)
  (hs:∀i x ys H,xs[i]?=some x->Pv i ys H->g x (C1 src σ) H λσ2 H2=>Sub (C1 src σ) σ2/\tt σ2 H2 λb H3=>if b=true then te σ2 H3 λv H4=>Pv (i+1) (ys++[v]) H4 else Pv (i+1) ys H3)
  (hd:∀ys H,Pv xs.length ys H->∀p,H p=none->Q (.ref p) (upd H p (.lst ys))):T7 src g tt te σ Q (Itl K a) H1 :=
 a1c xs.length Pv h0 (λi ys H hi p=>by
   obtain⟨q1,q2⟩:=hq i ys H (Nat.le_of_lt hi) p;refine⟨⟨xs,xs[i],q1,List.getElem?_eq_getElem hi⟩,by omega,λx H' y=>?_⟩;obtain⟨e,y⟩:=y;subst e;exact hs i x ys _ (y xs q1) p)
  λys H p=>by
   obtain⟨q1,q2⟩:=hq _ ys H (Nat.le_refl _) p;exact⟨⟨xs,q1,Nat.le_refl _⟩,by omega,hd ys H p⟩
theorem a0c{K:PySem.W.Frag}{src:List (Option Nat)}{g:TG}{tt:TT}{te:TE}{σ:St}{Q:VK}{a:Addr}{xs:List V}{H1:Hp}(hn:xs.length<=sizeLine)(Pv:Nat->List V->Hp->Prop)(h0:Pv 0 [] H1)
  (hq:∀i ys H,i<=xs.length->Pv i ys H->SqT K H a xs/\ys.length<=i)
  (hs:∀i x ys H,xs[i]?=some x->Pv i ys H->g x (C1 src σ) H λσ2 H2=>Sub (C1 src σ) σ2/\tt σ2 H2 λb H3=>if b=true then te σ2 H3 λv H4=>Pv (i+1) (ys++[v]) H4 else Pv (i+1) ys H3)
  (hd:∀ys H,Pv xs.length ys H->∀p,H p=none->Q (.ref p) (upd H p (.lst ys))):T7 src g tt te σ Q (Itt K a) H1 :=
 a1c xs.length Pv h0 (λi ys H hi p=>by
   obtain⟨q1,q2⟩:=hq i ys H (Nat.le_of_lt hi) p;refine⟨⟨xs,xs[i],q1,List.getElem?_eq_getElem hi⟩,by omega,λx H' y=>?_⟩;obtain⟨e,y⟩:=y;subst e;exact hs i x ys _ (y xs q1) p)
  λys H p=>by
   obtain⟨q1,q2⟩:=hq _ ys H (Nat.le_refl _) p;exact⟨⟨xs,q1,Nat.le_refl _⟩,by omega,hd ys H p⟩
theorem a4t{K:PySem.W.Frag}{src:List (Option Nat)}{g:TG}{tt:TT}{te:TE}{σ:St}{Q:VK}{k1 k2:Bool}{a b:Addr}{xs zs:List V}{H1:Hp}(hn:xs.length<=sizeLine)(Pv:Nat->List V->Hp->Prop)(h0:Pv 0 [] H1)
  (hq:∀i ys H,i<=xs.length->i<=zs.length->Pv i ys H->SqK k1 K H a xs/\SqK k2 K H b zs/\ys.length<=i)
  (hs:∀i x z ys H p,xs[i]?=some x->zs[i]?=some z->Pv i ys H->H p=none->g (.ref p) (C1 src σ) (upd H p (.tup [x,z])) λσ2 H2=>Sub (C1 src σ) σ2/\tt σ2 H2 λb H3=>if b=true then te σ2 H3 λv H4=>Pv (i+1) (ys++[v]) H4 else Pv (i+1) ys H3)
  (hd:∀ys H,Pv (min xs.length zs.length) ys H->∀p,H p=none->Q (.ref p) (upd H p (.lst ys))):T7 src g tt te σ Q (Itz K k1 k2 a b) H1 :=
 a1c (min xs.length zs.length) Pv h0 (λi ys H hi p=>by
   have hi1:i<xs.length:=by omega
   have hi2:i<zs.length:=by omega
   obtain⟨q1,q2,q3⟩:=hq i ys H (by omega) (by omega) p;refine⟨⟨xs,zs,xs[i],zs[i],q1,q2,List.getElem?_eq_getElem hi1,List.getElem?_eq_getElem hi2⟩,by omega,λx H' y=>?_⟩;obtain⟨pp,x',z',e,e2,e3,y1,y2⟩:=y;subst e e3;exact hs i x' z' ys _ pp (y1 xs q1) (y2 zs q2) p e2)
  λys H p=>by
   obtain⟨q1,q2,q3⟩:=hq _ ys H (by omega) (by omega) p;exact⟨⟨xs,zs,q1,q2,by omega⟩,by omega,hd ys H p⟩
theorem b1W{K:PySem.W.Frag}{k1 k2:Bool}{a b:Addr}{xs zs:List V}{g:TG}{tb:TS}{D:Ends}{σ:St}{H:Hp}(Pv:Nat->St->Hp->Prop)(h0:Pv 0 σ H)
  (hl:∀i σ H,i<=xs.length->i<=zs.length->Pv i σ H->SqK k1 K H a xs/\SqK k2 K H b zs)
  (hs:∀i x z σ H p,xs[i]?=some x->zs[i]?=some z->Pv i σ H->H p=none->g (.ref p) σ (upd H p (.tup [x,z])) λσ2 H2=>tb {D with nx:=Pv (i+1),ct:=Pv (i+1),bk:=D.nx} σ2 H2) (hd:∀σ H,Pv (min xs.length zs.length) σ H->D.nx σ H) :
  ∃W:Nat->Nat->St->Hp->Prop,(∃m,W 0 m σ H)/\∀i m σ H,W i m σ H ->
   ((Itz K k1 k2 a b).stop i H/\D.nx σ H)∨((Itz K k1 k2 a b).go i H/\∃N:St->Hp->Prop,(∀σ' H',N σ' H'->∃m',m'<m/\W (i+1) m' σ' H')/\∀x H',(Itz K k1 k2 a b).yld i H x H'->g x σ H' λσ2 H2=>tb {D with nx:=N,ct:=N,bk:=D.nx} σ2 H2):=by
 refine⟨λi m σ H=>m=min xs.length zs.length-i/\i<=min xs.length zs.length/\Pv i σ H,⟨_,rfl,Nat.zero_le _,h0⟩,?_⟩;rintro i m σ H ⟨rfl,hi,p⟩;obtain⟨q1,q2⟩:=hl i σ H (by omega) (by omega) p;by_cases hlt:i<min xs.length zs.length
 .have hi1:i<xs.length:=by omega
  have hi2:i<zs.length:=by omega
  refine .inr ⟨⟨xs,zs,xs[i],zs[i],q1,q2,List.getElem?_eq_getElem hi1,List.getElem?_eq_getElem hi2⟩,Pv (i+1),λσ' H' p'=>⟨_,by omega,rfl,hlt,p'⟩,λx H' y=>?_⟩;obtain⟨pp,x',z',e,e2,e3,y1,y2⟩:=y;subst e e3;exact hs i x' z' σ _ pp (y1 xs q1) (y2 zs q2) p e2
 .have e:i=min xs.length zs.length:=by omega
  subst e;exact .inl ⟨⟨xs,zs,q1,q2,by omega⟩,hd σ H p⟩
structure Ok(P:Program)(w:World)(K:PySem.W.Frag)(mg:Str->Option Value)(base:Heap)(x:Str)(k:Nat)(ps:List Str)(sp:Sp):Prop where
 ex:∃f fd,mg x=some (.ref f)/\PySem.W.keepIn K (.ref f)=true/\Binds K fd ps []/\FnOk P w K mg base CX0 k f fd ps sp
structure FunAt(K:PySem.W.Frag)(mg:Str->Option Value)(x:Str)(st:Stmt)(ps:List Str):Prop where
 ex:∃f fd,mg x=some (.ref f)/\Fun K x x st f fd/\Binds K fd ps []
section
variable {P:Program}{w:World}{K:PySem.W.Frag}{mg:Str->Option Value}{base:Heap}
theorem FunAt.ok{x:Str}{st:Stmt}{N ps:List Str}{k:Nat}{sp:Sp}(F:FunAt K mg x st ps)(S:FnScope N ps (A2 st))(len:∀vs H Q E,sp vs H Q E->vs.length=ps.length)
  (hbody:∀(cdv:Value) (f:Addr) (A:Around) (outer:List Env) (s:Shared) (H:Hp) (vs:List V) (Q:VK) (E:XK),Room k (A.deeper (envOfC x (A2 st) s.heap.objs.size f cdv))->sp vs H Q E ->
   ∃t,PSs (G2 CX0 P w K mg base N x (A2 st) f cdv A outer s H E).nox (D9 st) t/\t {nx:=λ_ H'=>Q .non H',rt:=Q} (start N vs) H):Ok P w K mg base x (k+1) ps sp:=by
 obtain⟨f,fd,h1,h2,h3⟩:=F.ex;exact⟨f,fd,h1,h2.kp,h3,h2.ok S len λcdv=>hbody cdv f⟩
end
section
variable {X:Cx}{k:Nat}{ps:List Str}{sp:Sp}{x:Str}{p pos:Pos}{e:Expr}{es:List Expr}{t:TA}
theorem a8X(O:Ok X.prog X.w X.K X.mg X.base x k ps sp)(hr:Room k X.A)(hg:Gl X x)(ha:PA X (e::es) t)(hdb:(x==("__debug__" : Str))=false:=by decide)
  (he:starEach (e::es) X.env=(false,eval e X.env)::starEach es X.env:=by rfl) (hpl:(backTo pos (starEach es X.env)).any (·.1)=false:=by rfl):PE X (.Call (.Name x p) (e::es) [] pos) (a3J sp [] E0 t):=by
 obtain⟨f,fd,h1,h2,h3,h4⟩:=O.ex;exact b1o h4 hr hg h1 h2 h3 .nil a8Y ha hdb he hpl
end
inductive EqV(K:PySem.W.Frag)(H:Hp):Nat->V->V->Bool->Prop
 |flat {n:Nat}{x y:V}(fx:a4o x=true) (fy:a4o y=true):EqV K H n x y (eqV x y)
 |tup {n:Nat}{a b:Addr}{xs ys:List V}(e:Nat->Bool) (ha:SqT K H a xs) (hb:SqT K H b ys) (he:∀j x y,xs[j]?=some x->ys[j]?=some y->EqV K H n x y (e j)) :
   EqV K H (n+1) (.ref a) (.ref b) ((List.range (min xs.length ys.length)).all e && xs.length==ys.length)
 |lst {n:Nat}{a b:Addr}{xs ys:List V}(e:Nat->Bool) (ha:SqL K H a xs) (hb:SqL K H b ys) (he:∀j x y,xs[j]?=some x->ys[j]?=some y->EqV K H n x y (e j)) :
   EqV K H (n+1) (.ref a) (.ref b) ((List.range (min xs.length ys.length)).all e && xs.length==ys.length)
theorem a9T:∀{x:V},a4o x=true->eqV x x=true
 |.non,_=>rfl
 |.bl b,_=>beq_self_eq_true b
 |.int i,_=>beq_self_eq_true i
 |.str y,_=>beq_self_eq_true y
 |.byt _,h=>by cases h
 |.flt _,h=>by cases h
 |.ref _,h=>by cases h
 |.ty _,h=>by cases h
section
variable {X:Cx}{pins:List (Addr×Obj)}{σ:St}{H:Hp}{s:Shared}
theorem EqV.same{n:Nat}{x y:V}{b:Bool}(I:Inv X pins σ H s)(h:EqV X.K H n x y b):x=y->b=true:=by
 induction h with
 |flat fx fy=>rintro rfl;exact a9T fx
 |tup e ha hb he ih =>
  intro z;cases z;have q:=I.tuple_inj ha hb;subst q;simp only[Nat.min_self,Bool.and_eq_true,beq_self_eq_true,and_true,List.all_eq_true,List.mem_range];intro j hj;exact ih j _ _ (List.getElem?_eq_getElem hj) (List.getElem?_eq_getElem hj) rfl
 |lst e ha hb he ih =>
  intro z;cases z;have q:=I.list_inj ha hb;subst q;simp only[Nat.min_self,Bool.and_eq_true,beq_self_eq_true,and_true,List.all_eq_true,List.mem_range];intro j hj;exact ih j _ _ (List.getElem?_eq_getElem hj) (List.getElem?_eq_getElem hj) rfl
theorem E1{xs:List V}{us:List Value}{j:Nat}{u:Value}(r:Vals xs us)(h:us[j]?=some u):∃x,xs[j]?=some x/\RelV x u:=by
 obtain⟨hj,_⟩:=List.getElem?_eq_some_iff.mp h;have hj':j<xs.length:=by rw[r.length];exact hj
 have hx:xs[j]?=some xs[j]:=List.getElem?_eq_getElem hj';obtain⟨u',e,q⟩:=r.get hx;rw[h]at e;cases e;exact⟨_,hx,q⟩
theorem EqV.at{n:Nat}{x y:V}{b:Bool}(I:Inv X pins σ H s)(h:EqV X.K H n x y b):∀{A:Around}{u v:Value},A.units+n<cLine->RelV x u->RelV y v->SeqAt.EqAt A s u v b:=by
 induction h with
 |flat fx fy=>intro A u v _ ru rv;exact b4z ru rv fx fy
 |@tup n a b xs ys e ha hb he ih =>
  intro A u v hu ru rv;cases ru;cases rv;by_cases hab:a=b
  .have:=(EqV.tup e ha hb he).same I (by rw[hab]);rw[this,hab];exact SeqAt.EqAt.same _
  .obtain⟨us,r1,p1,_⟩:=I.tuple ha;obtain⟨ws,r2,p2,_⟩:=I.tuple hb;rw[r1.length,r2.length];refine SeqAt.EqAt.of_refs hab ?_;have:=SeqAt.RcAt.tuples (A:=A) (s:=s) (e:=e) (show s.heap.IsTuple a us.toArray from p1) (show s.heap.IsTuple b ws.toArray from p2) (by omega) (λj h1 h2=>?_)
   .simpa using this
   .have h1':us[j]?=some us.toArray[j]:=by simp at h1⊢
    have h2':ws[j]?=some ws.toArray[j]:=by simp at h2⊢
    obtain⟨x,ex,rx⟩:=E1 r1 h1';obtain⟨y,ey,ry⟩:=E1 r2 h2';exact ih j x y ex ey (by show A.units+1+n<cLine;omega) rx ry
 |@lst n a b xs ys e ha hb he ih =>
  intro A u v hu ru rv;cases ru;cases rv;by_cases hab:a=b
  .have:=(EqV.lst e ha hb he).same I (by rw[hab]);rw[this,hab];exact SeqAt.EqAt.same _
  .obtain⟨us,r1,p1,_⟩:=I.list ha;obtain⟨ws,r2,p2,_⟩:=I.list hb;rw[r1.length,r2.length];refine SeqAt.EqAt.of_refs hab ?_;by_cases hl:us.length=ws.length
   .have:=SeqAt.RcAt.lists (A:=A) (s:=s) (e:=e) p1.isList p2.isList (by simpa using hl) (by omega) (λj h1 h2=>?_)
    .simpa[hl]using this
    .have h1':us[j]?=some us.toArray[j]:=by simp at h1⊢
     have h2':ws[j]?=some ws.toArray[j]:=by simp at h2⊢
     obtain⟨x,ex,rx⟩:=E1 r1 h1';obtain⟨y,ey,ry⟩:=E1 r2 h2';exact ih j x y ex ey (by show A.units+1+n<cLine;omega) rx ry
   .have:=SeqAt.RcAt.lists_lengths (A:=A) (s:=s) p1.isList p2.isList (by simpa using hl) (by omega);have e0:(us.length==ws.length)=false:=by simpa using hl
    rw[e0,Bool.and_false];exact this
end
def b0P(K:PySem.W.Frag)(neg:Bool):R2:=λx y H Q=>∃n b,n<=50/\EqV K H n x y b/\(∃a c,x=.ref a/\y=.ref c)/\Q (.bl (if neg then !b else b)) H
section
variable {X:Cx}
theorem b5M(hu:X.A.units+60<cLine):OpR X (compareOp .Eq) (b0P X.K false):=by
 intro pins s σ H x y v u Q I rx ry h;obtain⟨n,b,hn,he,⟨a,c,rfl,rfl⟩,q⟩:=h;cases rx;cases ry;show wpAny _ _ (richCompare .Eq (.ref a) (.ref c)) _ _ s;have key:SeqAt.RcAt X.A s (.ref a) (.ref c) b:=by
  cases he with
  |flat fx fy=>cases fx
  |@tup n _ _ xs ys e ha hb he =>
   obtain⟨us,r1,p1,_⟩:=I.tuple ha;obtain⟨ws,r2,p2,_⟩:=I.tuple hb;rw[r1.length,r2.length];have:=SeqAt.RcAt.tuples (A:=X.A) (s:=s) (e:=e) (show s.heap.IsTuple a us.toArray from p1) (show s.heap.IsTuple c ws.toArray from p2) (by omega) (λj h1 h2=>?_)
   .simpa using this
   .have h1':us[j]?=some us.toArray[j]:=by simp at h1⊢
    have h2':ws[j]?=some ws.toArray[j]:=by simp at h2⊢
    obtain⟨x,ex,rx⟩:=E1 r1 h1';obtain⟨y,ey,ry⟩:=E1 r2 h2';exact(he j x y ex ey).at I (by show X.A.units+1+n<cLine;omega) rx ry
  |@lst n _ _ xs ys e ha hb he =>
   obtain⟨us,r1,p1,_⟩:=I.list ha;obtain⟨ws,r2,p2,_⟩:=I.list hb;rw[r1.length,r2.length];by_cases hl:us.length=ws.length
   .have:=SeqAt.RcAt.lists (A:=X.A) (s:=s) (e:=e) p1.isList p2.isList (by simpa using hl) (by omega) (λj h1 h2=>?_)
    .simpa[hl]using this
    .have h1':us[j]?=some us.toArray[j]:=by simp at h1⊢
     have h2':ws[j]?=some ws.toArray[j]:=by simp at h2⊢
     obtain⟨x,ex,rx⟩:=E1 r1 h1';obtain⟨y,ey,ry⟩:=E1 r2 h2';exact(he j x y ex ey).at I (by show X.A.units+1+n<cLine;omega) rx ry
   .have:=SeqAt.RcAt.lists_lengths (A:=X.A) (s:=s) p1.isList p2.isList (by simpa using hl) (by omega);have e0:(us.length==ws.length)=false:=by simpa using hl
    rw[e0,Bool.and_false];exact this
 exact key _ _ _ _ ⟨.bl _,H,I,rfl,q⟩
theorem b3Y(hu:X.A.units+60<cLine):OpR X (compareOp .NotEq) (b0P X.K true):=by
 intro pins s σ H x y v u Q I rx ry h;obtain⟨n,b,hn,he,⟨a,c,rfl,rfl⟩,q⟩:=h;cases rx;cases ry;show wpAny _ _ (richCompare .NotEq (.ref a) (.ref c)) _ _ s;have key:SeqAt.RcNeAt X.A s (.ref a) (.ref c) (!b):=by
  cases he with
  |flat fx fy=>cases fx
  |@tup n _ _ xs ys e ha hb he =>
   obtain⟨us,r1,p1,_⟩:=I.tuple ha;obtain⟨ws,r2,p2,_⟩:=I.tuple hb;rw[r1.length,r2.length];have:=SeqAt.RcNeAt.tuples (A:=X.A) (s:=s) (e:=e) (show s.heap.IsTuple a us.toArray from p1) (show s.heap.IsTuple c ws.toArray from p2) (by omega) (λj h1 h2=>?_)
   .simpa using this
   .have h1':us[j]?=some us.toArray[j]:=by simp at h1⊢
    have h2':ws[j]?=some ws.toArray[j]:=by simp at h2⊢
    obtain⟨x,ex,rx⟩:=E1 r1 h1';obtain⟨y,ey,ry⟩:=E1 r2 h2';exact(he j x y ex ey).at I (by show X.A.units+1+n<cLine;omega) rx ry
  |@lst n _ _ xs ys e ha hb he =>
   obtain⟨us,r1,p1,_⟩:=I.list ha;obtain⟨ws,r2,p2,_⟩:=I.list hb;rw[r1.length,r2.length];by_cases hl:us.length=ws.length
   .have:=SeqAt.RcNeAt.lists (A:=X.A) (s:=s) (e:=e) p1.isList p2.isList (by simpa using hl) (by omega) (λj h1 h2=>?_)
    .simpa[hl]using this
    .have h1':us[j]?=some us.toArray[j]:=by simp at h1⊢
     have h2':ws[j]?=some ws.toArray[j]:=by simp at h2⊢
     obtain⟨x,ex,rx⟩:=E1 r1 h1';obtain⟨y,ey,ry⟩:=E1 r2 h2';exact(he j x y ex ey).at I (by show X.A.units+1+n<cLine;omega) rx ry
   .have:=SeqAt.RcNeAt.lists_lengths (A:=X.A) (s:=s) p1.isList p2.isList (by simpa using hl) (by omega);have e0:(us.length==ws.length)=false:=by simpa using hl
    rw[e0,Bool.and_false];exact this
 exact key _ _ _ _ ⟨.bl _,H,I,rfl,q⟩
theorem b2h{ns ms:List Int}:((List.range (min ns.length ms.length)).all (λj=>decide (ns.getD j 0=ms.getD j 0)) && ns.length==ms.length)=decide (ns=ms):=by
 rw[Bool.eq_iff_iff];simp only[Bool.and_eq_true,List.all_eq_true,List.mem_range,decide_eq_true_eq,beq_iff_eq];constructor
 .rintro⟨h1,h2⟩;refine List.ext_getElem h2 λi a b=>?_;have:=h1 i (by omega);simpa[List.getD_eq_getElem?_getD,a,b]using this
 .rintro rfl;exact⟨λ_ _=>rfl,rfl⟩
theorem a9J{ns:List Int}{j:Nat}{x:V}(h:(ns.map V.int)[j]?=some x):x=.int (ns.getD j 0)/\j<ns.length:=by
 rw[List.getElem?_map]at h;cases e:ns[j]? with
 |none=>rw[e]at h;cases h
 |some z =>
  rw[e]at h;obtain⟨hj,_⟩:=List.getElem?_eq_some_iff.mp e;exact⟨by rw[List.getD_eq_getElem?_getD,e];exact(Option.some.inj h).symm,hj⟩
theorem EqV.ints{K:PySem.W.Frag}{H:Hp}{k:Bool}{a b:Addr}{ns ms:List Int}(ha:SqK k K H a (ns.map V.int))(hb:SqK k K H b (ms.map V.int)):EqV K H 1 (.ref a) (.ref b) (decide (ns=ms)):=by
 have step:∀j x y,(ns.map V.int)[j]?=some x->(ms.map V.int)[j]?=some y->EqV K H 0 x y (decide (ns.getD j 0=ms.getD j 0)):=λj x y hx hy=>by
  obtain⟨rfl,_⟩:=a9J hx;obtain⟨rfl,_⟩:=a9J hy;have:=EqV.flat (K:=K) (H:=H) (n:=0) (x:=.int (ns.getD j 0)) (y:=.int (ms.getD j 0)) rfl rfl;rw[show eqV (.int (ns.getD j 0)) (.int (ms.getD j 0))=decide (ns.getD j 0=ms.getD j 0)from rfl]at this;exact this
 rw[<-b2h];cases k
 .have:=EqV.lst (λj=>decide (ns.getD j 0=ms.getD j 0)) ha hb step;simpa using this
 .have:=EqV.tup (λj=>decide (ns.getD j 0=ms.getD j 0)) ha hb step;simpa using this
def a2X:R2:=λx y H Q=>∃a b xs ys,x=.ref a/\y=.ref b/\H a=some (.tup xs)/\H b=some (.tup ys)/\xs.length+ys.length<=sizeLine/\∀p H',Same H H'->H' p=some (.tup (xs++ys))->Q (.ref p) H'
theorem a8Z:OpR X (binaryOp .Add) a2X:=by
 intro pins s σ H x y v u Q I rx ry h;obtain⟨a,b,xs,ys,rfl,rfl,ha,hb,hz,q⟩:=h;by_cases hx:xs=[]
 .subst hx;cases rx;cases ry;obtain⟨its,r1,p1,_⟩:=I.tuple (.inl (.inl ha));obtain⟨its2,r2,p2,_⟩:=I.tuple (.inl (.inl hb));cases r1;obtain⟨⟨cls,dd,data,sl⟩,ho,hc,n,hd⟩:=id p1;obtain⟨⟨cls2,dd2,data2,sl2⟩,ho2,hc2,n2,hd2⟩:=id p2;simp only at hc hd hc2 hd2;subst hc hd hc2 hd2;exact concat_meets ⟨_,ho,rfl⟩ ⟨_,ho2,rfl⟩ noFill_tuple_add seq_tuple_add PySem.F.slot_tuple_add PySem.F.entry_tuple_add (PySem.F.args_tuple_add_2 _ _)
   (tuple_addW0 a b _ _ n n2 dd dd2 sl sl2 (by simp)) ⟨ho,ho2,⟨.ref b,H,I,rfl,q b H (Same.refl H) hb⟩⟩
 .refine b1u pins s σ H _ _ v u Q I rx ry ⟨a,b,xs,ys,rfl,rfl,.inl (.inl ha),.inl (.inl hb),hx,hz,λe=>?_,λ_ p hp=>?_⟩
  .subst e;exact q a H (Same.refl H) (by rw[List.append_nil];exact ha)
  .exact q p _ (λc o e=>by rw[A3 (A6 e hp)];exact e) A0
end
open PySem.AutoSeq1 (wpAny_loadPart')
theorem P9:fillsNumberSlot (.type "tuple") "mul"=pure false :=
 PySem.fillsNumberSlot_seq (id:="tuple.__mul__") (r:=some (.builtin "tuple.__rmul__")) F.slot_tuple_mul.lookup (by decide +kernel) F.slot_tuple_rmul.lookup (by decide +kernel)
theorem Z5:seqRepeat? (.type "tuple")=pure (some (.builtin "tuple.__mul__")):=by
 unfold seqRepeat?;rw[PySem.seqSlot_of (T:="tuple") (name:="__mul__") (id:="tuple.__mul__") F.slot_tuple_mul.lookup (by decide +kernel),PySem.seqSlot_of (T:="tuple") (name:="__rmul__") (id:="tuple.__rmul__") F.slot_tuple_rmul.lookup (by decide +kernel)];rfl
theorem a1t(a:Int)(t:Tok)(l:Addr)(items:Array Value)(n:Nat)(dd:Option Addr)(sl:Array (Option Value)) :
  Meets (Builtin.«int.__rmul__» ⟨[.int a t,.ref l],[]⟩) (λ_ R s=>s.heap.get? l=some {cls:=.type "tuple",dict:=dd,data:=.seq items n,slots:=sl}/\R (.ok (.ret Value.notImplemented)) s) :=
 .of_wp λprog w A R s h=>by obtain⟨hp,g,d,tk,os⟩:=s;obtain⟨hl,h⟩:=h;wp_walk;exact⟨_,rfl,h⟩
theorem a4H(l:Addr)(items:Array Value)(n:Nat)(dd:Option Addr)(sl:Array (Option Value))(u:Tok) :
  Meets (Builtin.«tuple.__mul__» ⟨[.ref l,.int 1 u],[]⟩) (λ_ R s=>s.heap.get? l=some {cls:=.type "tuple",dict:=dd,data:=.seq items n,slots:=sl}/\R (.ok (.ret (.ref l))) s) :=
 .of_wp λprog w A R s h=>by
  obtain⟨hp,g,d,tk,os⟩:=s;obtain⟨hl,h⟩:=h;have f1:=AutoSeq1.idx_int
  wp_walk using wpAny_loadPart' hl
  exact⟨_,rfl,h⟩
theorem a4G(l:Addr)(items:Array Value)(n:Nat)(dd:Option Addr)(sl:Array (Option Value))(x:Int)(u:Tok)(he:items.isEmpty=false)(h1:1<x)(h2:¬(decide (x < -(2 ^ 63)) || decide (x ≥ 2 ^ 63))=true)
  (h3:¬((items.size:Int)*x > (2 ^ 63-1) / 8)) (h4:¬Builtin.Tuple.tupleTooMany ((items.size:Int)*x)=true) (hsz:(List.foldl (λx1 x2=>x1++x2) #[] (List.replicate x.toNat items)).size<=sizeLine) :
  Meets (Builtin.«tuple.__mul__» ⟨[.ref l,.int x u],[]⟩) (λ_ R s=>s.heap.get? l=some {cls:=.type "tuple",dict:=dd,data:=.seq items n,slots:=sl} /\
   R (.ok (.ret (.ref s.heap.objs.size))) {s with heap:=s.heap.push {cls:=.type "tuple",data:=.seq (List.foldl (λx1 x2=>x1++x2) #[] (List.replicate x.toNat items))}}) :=
 .of_wp λprog w A R s h=>by
  obtain⟨hp,g,d,tk,os⟩:=s;obtain⟨hl,h⟩:=h;have f1:=AutoSeq1.idx_int;have e1:(x==1)=false:=by simp;omega
  have e2:decide (x<=0)=false:=by simp;omega
  have e3:¬((items.isEmpty || x==1)=true):=by rw[he,e1];decide
  have e4:¬((decide (x<=0) || items.isEmpty)=true):=by rw[he,e2];decide
  wp_walk using wpAny_loadPart' hl
  rw[if_neg h2]
  wp_walk using wpAny_loadPart' hl
  rw[if_neg h3]
  wp_walk using wpAny_loadPart' hl
  first
   |exact⟨_,rfl,h⟩
   |(rw[if_neg h4];wp_walk using wpAny_loadPart' hl;exact⟨_,rfl,h⟩)
theorem a1T{α:Type}(its:List α):∀(k:Nat) (acc:List α),List.foldl (λx1 x2=>x1++x2) acc.toArray (List.replicate k its.toArray)=(acc++(List.replicate k its).flatten).toArray
 |0,acc=>by simp
 |k+1,acc=>by
  have e:acc.toArray++its.toArray=(acc++its).toArray:=by simp
  rw[List.replicate_succ,List.foldl_cons,e,a1T its k,List.replicate_succ,List.flatten_cons,List.append_assoc]
section
variable {X:Cx}
def b2B:R2:=λx y H Q=>∃a xs n,x=.ref a/\y=.int n/\H a=some (.tup xs)/\xs≠[]/\1<=n/\(xs.length:Int)*n<=(sizeLine:Int)/\∀p H',Same H H'->H' p=some (.tup (List.replicate n.toNat xs).flatten)->Q (.ref p) H'
theorem a6b:OpR X (binaryOp .Mult) b2B:=by
 intro pins s σ H x y v u Q I rx ry h;obtain⟨a,xs,n,rfl,rfl,ha,hne,hn,hz,q⟩:=h;cases rx;obtain⟨t,rfl⟩:=ry;obtain⟨its,r,p1,hzl⟩:=I.tuple (.inl (.inl ha));obtain⟨⟨cls,dd,data,sl⟩,ho,hc,m,hd⟩:=id p1;simp only at hc hd;subst hc hd;have hlen:=r.length;have hpos:0<its.length:=by rw[<-hlen];exact List.length_pos_iff.mpr hne
 refine wpAny_binaryOp_repeat_ref (T:="tuple") (U:="int") (by decide) ⟨_,ho,rfl⟩ (λs'=>typeIs_int s' n t) P9 F.fills_int_mul F.slot_int_rmul Z5 F.slot_int_index.lookup
  (call_meets F.slot_int_rmul (typeIs_int s n t) F.entry_int_rmul (F.args_int_rmul_2 _ _) (a1t n t a its.toArray m dd sl) ⟨ho,rfl,⟨_,ho,rfl⟩,?_⟩)
 by_cases h1:n=1
 .subst h1;refine call_meets F.slot_tuple_mul ⟨_,ho,rfl⟩ F.entry_tuple_mul (F.args_tuple_mul_2 _ _) (a4H a its.toArray m dd sl t) ⟨ho,.ref a,H,I,rfl,q a H (Same.refl H) ?_⟩;rw[ha];simp
 .have e0:=a1T its n.toNat [];rw[List.nil_append]at e0;have hl:((List.replicate n.toNat its).flatten).length=n.toNat*its.length:=a3c its n.toNat;have hb:n.toNat*its.length<=sizeLine:=by
   have e1:((n.toNat*its.length:Nat):Int)=(xs.length:Int)*n:=by
    rw[hlen];push_cast;rw[Int.toNat_of_nonneg (by omega),Int.mul_comm]
   omega
  have hs:sizeLine=16777216:=sizeLine_eq;have hsz:(its.toArray.size:Int)*n<=16777216:=by rw[List.size_toArray,<-hlen];omega
  have hnn:n<=(its.toArray.size:Int)*n:=by
   have h0:(1:Int)<=(its.toArray.size:Int):=by rw[List.size_toArray];omega
   have:=Int.mul_le_mul_of_nonneg_right h0 (show(0:Int)<=n by omega);omega
  refine call_meets F.slot_tuple_mul ⟨_,ho,rfl⟩ F.entry_tuple_mul (F.args_tuple_mul_2 _ _) (a4G a its.toArray m dd sl n t (by simp;intro z;rw[z]at hpos;exact Nat.lt_irrefl _ hpos) (by omega) ?_ ?_ ?_ ?_) ⟨ho,?_⟩
  .simp only[Bool.or_eq_true,decide_eq_true_eq,not_or];omega
  .omega
  .simp only[Builtin.Tuple.tupleTooMany,decide_eq_true_eq];omega
  .have e0':List.foldl (λx1 x2=>x1++x2) #[] (List.replicate n.toNat its.toArray)=(List.replicate n.toNat its).flatten.toArray:=e0;rw[e0',List.size_toArray,hl];exact hb
  .have e0':List.foldl (λx1 x2=>x1++x2) #[] (List.replicate n.toNat its.toArray)=(List.replicate n.toNat its).flatten.toArray:=e0;rw[e0'];have hf:H s.heap.objs.size=none:=I.hok.fresh (Nat.le_refl _);refine⟨.ref s.heap.objs.size,_,I.laid (t':=s.toks) (o:=.tup (List.replicate n.toNat xs).flatten) (λb ob q=>Heap.get?_push_of_some _ q) (Nat.le_refl _) ?_,rfl,q _ _ (λc o e=>by rw[A3 (A6 e hf)];exact e) A0⟩;exact⟨by rw[a3c,hlen];exact hb,_,r.rep n.toNat,IsTup.new _ _⟩
end
end L2
namespace L2
open PySem PySem.Spec PyProof.Rows
section
variable {X:Cx}{pos:Pos}
theorem b1i(K:PySem.W.Frag){es:List Expr}{k:Nat}{t:TGs}{n:Nat}(hc:X.calm=true)(h:PGs X es t)(hK:X.K=K:=by rfl)
  (hn:(assignEach es X.env).length=n:=by rfl) (hst:(assignEach es X.env).findIdx? (·.1)=none:=by rfl):PG X (.Tuple es k pos) (a9Q K n t):=by
 subst hK;exact b3E hc h hn hst
theorem a8S(K:PySem.W.Frag){tg l:Expr}{tl:TE}(hl:PE X l tl)(hK:X.K=K:=by rfl):PI X tg l (a9M K tl):=by subst hK;exact b1f hl
theorem b1e(K:PySem.W.Frag){tg l:Expr}{tl:TE}(hl:PE X l tl)(hK:X.K=K:=by rfl):PI X tg l (b4y K tl):=by subst hK;exact b3D hl
theorem b1d(K:PySem.W.Frag){es:List Expr}{kt:Nat}{tp:Pos}{a b:Expr}{ta:TA}{p pos:Pos}(hg:Gl X "zip")(hm:X.mg "zip"=none)(ha:PA X [a,b] ta)(hK:X.K=K:=by rfl)
  (hs:starEach [a,b] X.env=[(false,eval a X.env),(false,eval b X.env)]:=by rfl) (hs2:starEach [b] X.env=[(false,eval b X.env)]:=by rfl) :
  PI X (.Tuple es kt tp) (.Call (.Name "zip" p) [a,b] [] pos) (b4x K ta):=by subst hK;exact b3C hg hm ha b4F hs hs2
def b3d(K:PySem.W.Frag)(ta:TE):TT:=λσ H Q=>ta σ H λx H'=>∃k,b4L K x H' k/\Q k H'
theorem a6O(K:PySem.W.Frag){a:Expr}{ta:TE}(ha:PE X a ta)(he:∀whole,isTrue a X.env whole=(do let v <-whole;standAt a.pos;holding [v] (truthy v)))(hK:X.K=K:=by rfl):PT X a (b3d K ta):=by
 subst hK;exact a8L ha he
theorem a9I(K:PySem.W.Frag)(hK:X.K=K:=by rfl):IxR X (b0O K):=by subst hK;exact ix_list
theorem b1Q(K:PySem.W.Frag)(hK:X.K=K:=by rfl):IxR X (b0N K):=by subst hK;exact ix_tup
theorem b1R(K:PySem.W.Frag)(hK:X.K=K:=by rfl):IxR X (rIx K):=by subst hK;exact b4v
theorem b0E(K:PySem.W.Frag)(hK:X.K=K:=by rfl):SlR X (a8H K):=by subst hK;exact b3l
theorem b3X(K:PySem.W.Frag)(hu:X.A.units+60<cLine)(hK:X.K=K:=by rfl):OpR X (compareOp .NotEq) (b0P K true):=by subst hK;exact b3Y hu
theorem a7K(K:PySem.W.Frag)(hc:X.calm=true)(hK:X.K=K:=by rfl):C8 X (.builtin "all") (b3u K):=by subst hK;exact b0f hc
theorem a7J(K:PySem.W.Frag)(hc:X.calm=true)(hK:X.K=K:=by rfl):C8 X (.builtin "any") (b3t K):=by subst hK;exact b0e hc
theorem a7w(K:PySem.W.Frag)(hc:X.calm=true)(hK:X.K=K:=by rfl):C8 X (.builtin "sum") (b3o K):=by subst hK;exact b0b hc
theorem a7G(K:PySem.W.Frag)(hK:X.K=K:=by rfl):C8 X (.builtin "isinstance") (b3r K):=by subst hK;exact b0c
def b5e(K:PySem.W.Frag):RL:=λxs H Q=>∃p ys,xs=[.ref p]/\(SqL K H p ys∨SqT K H p ys)/\Q (.int ys.length) H
def a4R(K:PySem.W.Frag):RL:=λxs H Q=>∃p ys,xs=[.ref p]/\((SqL K H p ys/\∀l,H l=none->Q (.ref l) (upd H l (.tup ys)))∨(SqT K H p ys/\Q (.ref p) H))
theorem a7F(K:PySem.W.Frag)(hK:X.K=K:=by rfl):C8 X (.builtin "len") (b5e K):=by subst hK;exact a3t
theorem a4x(K:PySem.W.Frag)(hK:X.K=K:=by rfl):C8 X (.type "tuple") (a4R K):=by subst hK;exact a2f
def b3p:RL:=λxs H Q=>∃i j,xs=[.int i,.int j]/\Q (.int (if j<i then j else i)) H
def b3q:RL:=λxs H Q=>∃i j,xs=[.int i,.int j]/\Q (.int (if j > i then j else i)) H
def b5h:RL:=λxs H Q=>(∃i,xs=[.int i]/\Q (.int i) H)∨∃k,xs=[.bl k]/\Q (.int (if k then 1 else 0)) H
theorem a7z(hc:X.calm=true):C8 X (.builtin "min") b3p:=a7A hc
theorem a7B(hc:X.calm=true):C8 X (.builtin "max") b3q:=a7D hc
theorem a7H:C8 X (.type "int") b5h:=a7I
variable {o e:Expr}{es:List Expr}{to:TE}{t:TA}{name:Str}{apos cpos:Pos}{T id:String}{r:V->List V->Hp->VK->Prop}
theorem b3P(K:PySem.W.Frag)(pa:PlainAttrs T)(slot:Slot T name id)(hty:typeOf (.builtin id)=pure (.type "method_descriptor"))(hm:MtR X id r)(ho:PE X o to)(ha:PA X (e::es) t)(hK:X.K=K:=by rfl)
  (hbase:attributeBase o name X.env (eval o X.env)=eval o X.env:=by rfl)
  (hfew:((backTo cpos (starEach (e::es) X.env)).all (λx=>!x.1) && (backToKw cpos (keywordEach [] X.env)).all (λx=>x.1.isSome)
   && decide ((e::es).length+([]:List Keyword).length+(if ([]:List Keyword).isEmpty then 0 else 1)<30))=true:=by rfl)
  (hline:(apos.endLine==cpos.line)=true:=by rfl) (hs:starEach (e::es) X.env=(false,eval e X.env)::starEach es X.env:=by rfl) (hplain:(backTo cpos (starEach es X.env)).any (·.1)=false:=by rfl) :
  PE X (.Call (.Attribute o name apos) (e::es) [] cpos) (tBM K T r to t):=by subst hK;exact b5m pa slot hty hm ho ha hbase hfew hline hs hplain
end
def IT(H:Hp)(v:V)(ns:List Int):Prop:=∃a,v=.ref a/\H a=some (.tup (ns.map V.int))
theorem IT.same{H H':Hp}{v:V}{ns:List Int}(h:IT H v ns)(s:Same H H')   : IT H' v ns:=let ⟨a,e,q⟩:=h;⟨a,e,s a _ q⟩
theorem Same.upd{H H':Hp}{p:Addr}{o:HO}(s:Same H H')(hp:H' p=none):Same H (upd H' p o):=λb u e=>by
 rw[A3 (A6 (s b u e) hp)];exact s b u e
theorem B8{H:Hp}{p b:Addr}{o u:HO}(hb:H b=some u)(hp:H p=none):upd H p o b=some u:=by rw[A3 (A6 hb hp)];exact hb
def Off(l:List Addr)(H H':Hp):Prop:=∀b o,b∉l->H b=some o->H' b=some o
theorem Off.refl(l:List Addr)(H:Hp):Off l H H:=λ_ _ _ e=>e
theorem Off.trans{l:List Addr}{H H1 H2:Hp}(a:Off l H H1)(b:Off l H1 H2):Off l H H2:=λc o hc e=>b c o hc (a c o hc e)
theorem Same.off{l:List Addr}{H H':Hp}(s:Same H H'):Off l H H':=λb o _ e=>s b o e
theorem Off.set{l:List Addr}{H H':Hp}{p:Addr}{o:HO}(s:Off l H H')(hp:p∈l):Off l H (L2.upd H' p o):=λb u hb e=>by
 rw[A3 (by rintro rfl;exact hb hp)];exact s b u hb e
theorem a3d(ns:List Int):(ns.map V.int).length=ns.length:=List.length_map _
theorem S0{ns:List Int}{i:Nat}{x:V}(h:(ns.map V.int)[i]?=some x):∃z,ns[i]?=some z/\x=.int z:=by
 rw[List.getElem?_map]at h;cases e:ns[i]? with
 |none=>rw[e]at h;cases h
 |some z=>rw[e]at h;exact⟨z,rfl,(Option.some.inj h).symm⟩
theorem X9{α β γ:Type}(f:α->β->γ){xs:List α}{ys:List β}{i:Nat}{x:α}{y:β}(hx:xs[i]?=some x)(hy:ys[i]?=some y):(List.zipWith f xs ys).take (i+1)=(List.zipWith f xs ys).take i++[f x y]:=by
 have:(List.zipWith f xs ys)[i]?=some (f x y):=by rw[List.getElem?_zipWith,hx,hy]
 rw[List.take_add_one,this];rfl
theorem P0{K:PySem.W.Frag}{src:List (Option Nat)}{σ caps:St}{Q:VK}{k1 k2:Bool}{a b:Addr}{xs ys:List Int}{H:Hp}{te:TE}(f:Int->Int->V)(ha:SqK k1 K H a (xs.map V.int))(hb:SqK k2 K H b (ys.map V.int))(hl:xs.length<=1000)
  (hmono:∀H',Same H H'->SqK k1 K H' a (xs.map V.int)/\SqK k2 K H' b (ys.map V.int))
  (hsrc:C1 src σ=none::none::caps) (hte:∀x y H1 Q1,Same H H1->Q1 (f x y) H1->te (some (.int x)::some (.int y)::caps) H1 Q1)
  (hd:∀H1 p,Same H H1->H1 p=none->Q (.ref p) (upd H1 p (.lst (List.zipWith f xs ys)))) :
  T7 src (a9Q K 2 (a2x (A8 0) (a2x (A8 1) b1V))) a1m te σ Q (Itz K k1 k2 a b) H:=by
 have hz:(1000:Nat)<=sizeLine:=by rw[sizeLine_eq];decide
 refine a4t (xs:=xs.map V.int) (zs:=ys.map V.int) (by rw[a3d];omega) (λi zs H'=>Same H H'/\zs=(List.zipWith f xs ys).take i) ⟨Same.refl H,by simp⟩ (λi zs H' _ _ h=>⟨(hmono H' h.1).1,(hmono H' h.1).2,by rw[h.2];exact List.length_take_le _ _⟩) ?_ ?_
 .rintro i x z zs H' p hx hy ⟨s,rfl⟩ hp;obtain⟨x',hx',e1⟩:=S0 hx;obtain⟨z',hy',e2⟩:=S0 hy;subst e1 e2;clear hx hy;have s':Same H (upd H' p (.tup [.int x',.int z'])):=s.upd hp;refine⟨p,[.int x',.int z'],rfl,SqT.of A0,rfl,.int x',[.int z'],rfl,.int z',[],rfl,rfl,?_⟩;rw[hsrc];show Sub _ (some (.int x')::some (.int z')::caps)/\_;refine⟨⟨rfl,λj v e=>?_⟩,?_⟩
  .match j,e with
   |0,e=>cases e
   |1,e=>cases e
   |j+2,e=>exact e
  .exact hte x' z' _ _ s' ⟨s',(X9 f hx' hy').symm⟩
 .rintro zs H' ⟨s,rfl⟩ p hp;have e:(List.zipWith f xs ys).take (min (xs.map V.int).length (ys.map V.int).length)=List.zipWith f xs ys:=by
   rw[a3d,a3d,List.take_of_length_le];rw[List.length_zipWith];exact Nat.le_refl _
  rw[e];exact hd H' p s hp
theorem Sub.one{caps:St}{v:V}:Sub (none::caps) (some v::caps):=⟨rfl,λj u e=>by
 match j,e with
 |0,e=>cases e
 |j+1,e=>exact e⟩
theorem Room.u60{k:Nat}{A:Around}(r:Room k A):A.units+60<cLine:=by have:=r.un;omega
theorem Y9{t u:TS}{D:Ends}{σ:St}{H:Hp}(Pe:St->Hp->Prop)(fin:∀σ H,Pe σ H->u D σ H)(h:(∀σ H,Pe σ H->u D σ H)->t {D with nx:=u D} σ H):b0C t u D σ H:=h fin
theorem b4B(xs:List Int)(k:Nat)(hk:k<=xs.length):a2e (xs.map V.int) none (some (k:Int))=(xs.take k).map V.int:=by
 unfold a2e;rw[HT.sIx_none,HT.sIx_nat,List.length_map,Nat.min_eq_left hk,List.drop_zero,Nat.sub_zero,List.map_take]
theorem b4C(xs:List Int)(k:Nat)(hk:k<=xs.length):a2e (xs.map V.int) (some (k:Int)) none=(xs.drop k).map V.int:=by
 unfold a2e;rw[HT.sIx_none,HT.sIx_nat,List.length_map,Nat.min_eq_left hk,List.take_of_length_le (by simp),List.map_drop]
structure JE(X:Cx)(e:Expr)(t:TE):Prop where
 h:PE X e t
structure JT(X:Cx)(e:Expr)(t:TT):Prop where
 h:PT X e t
structure JW(X:Cx)(e:Expr)(t:TT):Prop where
 h:PW X e t
structure JA(X:Cx)(es:List Expr)(t:TA):Prop where
 h:PA X es t
structure JS(X:Cx)(st:Stmt)(t:TS):Prop where
 h:PS X st t
structure JB(X:Cx)(st:List Stmt)(t:TS):Prop where
 h:PSs X st t
structure JG(X:Cx)(tg:Expr)(t:TG):Prop where
 h:PG X tg t
structure JGs(X:Cx)(ts:List Expr)(t:TGs):Prop where
 h:PGs X ts t
structure JI(X:Cx)(tg iter:Expr)(t:TI):Prop where
 h:PI X tg iter t
structure JF(X:Cx)(ifs:List Expr)(t:TT):Prop where
 h:PIf X ifs t
structure JO(X:Cx)(e:Option Expr)(t:TO):Prop where
 h:PO X e t
section
variable {X:Cx}{a b c e o:Expr}{es rest:List Expr}{ta tb tc te to:TE}{tA tB:TT}{t:TA}{pos p apos cpos p2:Pos}
theorem jv(i:Nat){x:Str}(hN:X.N[i]?=some x:=by rfl)(hv:Vis X.env.scope x:=by first|exact Or.inl rfl|exact Or.inr (Or.inl rfl)|exact Or.inr (Or.inr rfl))(hd:(x==("__debug__" : Str))=false:=by decide)
  (hcd:(x==("__classdict__" : Str))=false:=by decide):JE X (.Name x pos) (Y0 i):=⟨a8U hN hv hd hcd⟩
theorem A5{i j}:JE X (.Constant (.int i) j pos) (tC (.int i)):=⟨b3M⟩
theorem W0{i j}:JE X (.Constant (.bool i) j pos) (tC (.bl i)):=⟨b5n⟩
theorem a6p{j}:JE X (.Constant .none j pos) (tC .non):=⟨b3K⟩
theorem b2P{x j}:JE X (.Constant (.str x) j pos) (tC (.str x)):=⟨b3H⟩
theorem a3j{x:Str}{v:V}{u:Value}(hg:Gl X x)(hm:X.mg x=none)(hv:bootBuiltins x=some u)(r:RelV v u)(hn:x≠"__name__":=by decide)(hd:(x==("__debug__" : Str))=false:=by decide):JE X (.Name x pos) (tC v):=⟨b1p hg hm hv r hn hd⟩
theorem J0(ha:JE X a ta)(hb:JE X b tb):JE X (.BinOp a .Add b pos) (tOp (rI0 λi j=>.int (i+j)) ta tb):=⟨W1 b4c ha.h hb.h⟩
theorem a9E(ha:JE X a ta)(hb:JE X b tb):JE X (.BinOp a .Sub b pos) (tOp (rI0 λi j=>.int (i-j)) ta tb):=⟨W1 b3U ha.h hb.h⟩
theorem T4(ha:JE X a ta)(hb:JE X b tb):JE X (.BinOp a .Mult b pos) (tOp (rI CMul λi j=>.int (i*j)) ta tb):=⟨W1 b3Z ha.h hb.h⟩
theorem a2v(ha:JE X a ta)(hb:JE X b tb):JE X (.BinOp a .Mod b pos) (tOp (rI (λ_ j=>0<j) λi j=>.int (i % j)) ta tb):=⟨W1 b4a ha.h hb.h⟩
theorem a1N(ha:JE X a ta)(hb:JE X b tb):JE X (.BinOp a .FloorDiv b pos) (tOp (rI b4Q λi j=>.int (i / j)) ta tb):=⟨W1 b1t ha.h hb.h⟩
theorem b5y(ha:JE X a ta)(hb:JE X b tb):JE X (.BinOp a .Pow b pos) (tOp (rI b5H λi j=>.int (i ^ j.toNat)) ta tb):=⟨W1 b3W ha.h hb.h⟩
theorem a3h(ha:JE X a ta)(hb:JE X b tb):JE X (.BinOp a .Add b pos) (tOp (a2X) ta tb):=⟨W1 a8Z ha.h hb.h⟩
theorem b4r(ha:JE X a ta)(hb:JE X b tb):JE X (.BinOp a .Mult b pos) (tOp (b2B) ta tb):=⟨W1 a6b ha.h hb.h⟩
theorem b5x(ha:JE X a ta)(hb:JE X b tb):JE X (.BinOp a .Mult b pos) (tOp (b5b) ta tb):=⟨W1 b3V ha.h hb.h⟩
theorem a9G(ha:JE X a ta):JE X (.UnaryOp .USub a pos) (tUn (rU λi=>.int (-i)) ta):=⟨b5k b3a ha.h⟩
theorem b5z(ha:JE X a ta):JE X (.UnaryOp .Not a pos) (a8h ta):=⟨b3J ha.h⟩
theorem b2R{op}(h:JE X a ta):JE X (.BoolOp op [a] pos) ta:=⟨b3I h.h⟩
theorem b5B(ha:JE X a ta)(hb:JE X (.BoolOp .And (b::rest) pos) tb):JE X (.BoolOp .And (a::b::rest) pos) (a8l ta tb):=⟨b3Q ha.h hb.h⟩
theorem b5Q(ha:JE X a ta)(hb:JE X (.BoolOp .Or (b::rest) pos) tb):JE X (.BoolOp .Or (a::b::rest) pos) (b3f ta tb):=⟨b5l ha.h hb.h⟩
theorem b2M(ha:JE X a ta)(hb:JE X b tb):JE X (.Compare a [.Eq] [b] pos) (tOp (rEq) ta tb):=⟨U5 b2J ha.h hb.h (J2 _)⟩
theorem a4j(ha:JE X a ta)(hb:JE X b tb):JT X (.Compare a [.Eq] [b] pos) (S5 (tOp (rEq) ta tb)):=⟨M3 b2J ha.h hb.h (J2 _)⟩
theorem b2N(ha:JE X a ta)(hb:JE X b tb):JT X (.Compare a [.NotEq] [b] pos) (S5 (tOp (rNe) ta tb)):=⟨M3 b5p ha.h hb.h (J2 _)⟩
theorem b5u(ha:JE X a ta)(hb:JE X b tb):JE X (.Compare a [.Lt] [b] pos) (tOp (rI0 λi j=>.bl (decide (i<j))) ta tb):=⟨U5 b2F ha.h hb.h (J2 _)⟩
theorem a9y(ha:JE X a ta)(hb:JE X b tb):JT X (.Compare a [.Lt] [b] pos) (S5 (tOp (rI0 λi j=>.bl (decide (i<j))) ta tb)):=⟨M3 b2F ha.h hb.h (J2 _)⟩
theorem a9x(ha:JE X a ta)(hb:JE X b tb):JE X (.Compare a [.LtE] [b] pos) (tOp (rI0 λi j=>.bl (decide (i<=j))) ta tb):=⟨U5 b2G ha.h hb.h (J2 _)⟩
theorem b5w(ha:JE X a ta)(hb:JE X b tb):JT X (.Compare a [.LtE] [b] pos) (S5 (tOp (rI0 λi j=>.bl (decide (i<=j))) ta tb)):=⟨M3 b2G ha.h hb.h (J2 _)⟩
theorem b2L(ha:JE X a ta)(hb:JE X b tb):JE X (.Compare a [.Gt] [b] pos) (tOp (rI0 λi j=>.bl (decide (j<i))) ta tb):=⟨U5 b2H ha.h hb.h (J2 _)⟩
theorem a0H(ha:JE X a ta)(hb:JE X b tb):JT X (.Compare a [.Gt] [b] pos) (S5 (tOp (rI0 λi j=>.bl (decide (j<i))) ta tb)):=⟨M3 b2H ha.h hb.h (J2 _)⟩
theorem b5v(ha:JE X a ta)(hb:JE X b tb):JE X (.Compare a [.GtE] [b] pos) (tOp (rI0 λi j=>.bl (decide (j<=i))) ta tb):=⟨U5 b2I ha.h hb.h (J2 _)⟩
theorem b2O(ha:JE X a ta)(hb:JE X b tb):JT X (.Compare a [.GtE] [b] pos) (S5 (tOp (rI0 λi j=>.bl (decide (j<=i))) ta tb)):=⟨M3 b2I ha.h hb.h (J2 _)⟩
theorem b4o(K:PySem.W.Frag)(hu:X.A.units+60<cLine)(ha:JE X a ta)(hb:JE X b tb)(hK:X.K=K:=by rfl):JT X (.Compare a [.NotEq] [b] pos) (S5 (tOp (b0P K true) ta tb)):=⟨M3 (b3X K hu hK) ha.h hb.h (J2 _)⟩
theorem b4n(ha:JE X a ta)(hb:JE X b tb):JE X (.Compare a [.Is] [b] pos) (tOp (λx y H Q=>y=.non/\Q (.bl (decide (x=.non))) H) ta tb):=⟨U5 b4b ha.h hb.h (J2 _)⟩
theorem b1I(ha:JE X a ta)(hb:JE X b tb):JT X (.Compare a [.IsNot] [b] pos) (S5 (tOp (λx y H Q=>y=.non/\Q (.bl (!decide (x=.non))) H) ta tb)):=⟨M3 b1s ha.h hb.h (J2 _)⟩
theorem a5d(h:JW X e tA):JT X e tA:=⟨h.h.pt⟩
theorem a6g(ha:JT X a tA):JW X (.BoolOp .And [a] pos) tA:=⟨pw_and1 ha.h⟩
theorem a1J(ha:JT X a tA):JW X (.BoolOp .Or [a] pos) tA:=⟨pw_or1 ha.h⟩
theorem a5c(ha:JT X a tA)(hb:JW X (.BoolOp .And (b::rest) pos) tB):JW X (.BoolOp .And (a::b::rest) pos) (b3k tA tB):=⟨pw_and ha.h hb.h⟩
theorem a4i(ha:JT X a tA)(hb:JW X (.BoolOp .Or (b::rest) pos) tB):JW X (.BoolOp .Or (a::b::rest) pos) (tOr tA tB):=⟨pw_or ha.h hb.h⟩
theorem R6(ha:JT X a tA):JT X (.UnaryOp .Not a pos) (b3g tA):=⟨b3v ha.h⟩
theorem G0(K:PySem.W.Frag)(ha:JE X a ta)(he:∀whole,isTrue a X.env whole=(do let v <-whole;standAt a.pos;holding [v] (truthy v)):=by intro _;rfl)(hK:X.K=K:=by rfl):JT X a (b3d K ta):=⟨a6O K ha.h he hK⟩
theorem jaN:JA X [] a4K:=⟨b3S⟩
theorem jaC(ha:JE X e te)(hr:JA X es t)(hs:starEach (e::es) X.env=(false,eval e X.env)::starEach es X.env:=by rfl):JA X (e::es) (a1n te t):=⟨b1q ha.h hr.h hs⟩
theorem L7{x1}(h:JA X es t):JE X (.Tuple es x1 pos) (b0B t):=⟨b3G h.h⟩
theorem K7(h:JA X es t):JE X (.List es pos) (b3h t):=⟨b3L h.h⟩
theorem L8(K:PySem.W.Frag)(ha:JE X a ta)(hb:JE X b tb)(hs:a1f b:=by intro _ _;rfl)(hK:X.K=K:=by rfl):JE X (.Subscript a b pos) (tOp (b0O K) ta tb):=⟨a8W (a9I K hK) ha.h hb.h hs⟩
theorem a0I(K:PySem.W.Frag)(ha:JE X a ta)(hb:JE X b tb)(hs:a1f b:=by intro _ _;rfl)(hK:X.K=K:=by rfl):JE X (.Subscript a b pos) (tOp (b0N K) ta tb):=⟨a8W (b1Q K hK) ha.h hb.h hs⟩
theorem b5A(K:PySem.W.Frag)(ha:JE X a ta)(hb:JE X b tb)(hs:a1f b:=by intro _ _;rfl)(hK:X.K=K:=by rfl):JE X (.Subscript a b pos) (tOp (rIx K) ta tb):=⟨a8W (b1R K hK) ha.h hb.h hs⟩
theorem a6l:JO X none Y5:=⟨b1a⟩
theorem a6k(h:JE X e te):JO X (some e) (a3H te):=⟨b0Z h.h⟩
theorem b2Q(K:PySem.W.Frag){lo hi:Option Expr}{tl th:TO}(he:JE X e te)(hl:JO X lo tl)(hu:JO X hi th)(hK:X.K=K:=by rfl):JE X (.Subscript e (.Slice lo hi none p2) pos) (tSl (a8H K) te tl th):=⟨a8V (b0E K hK) he.h hl.h hu.h⟩
theorem B0{k:Nat}{ps:List Str}{sp:Sp}{x:Str}(O:Ok X.prog X.w X.K X.mg X.base x k ps sp)(hr:Room k X.A)(hg:Gl X x)(ha:JA X (e::es) t)(hdb:(x==("__debug__" : Str))=false:=by decide)
  (he:starEach (e::es) X.env=(false,eval e X.env)::starEach es X.env:=by rfl) (hpl:(backTo pos (starEach es X.env)).any (·.1)=false:=by rfl):JE X (.Call (.Name x p) (e::es) [] pos) (a3J sp [] E0 t):=⟨a8X O hr hg ha.h hdb he hpl⟩
theorem G8(K:PySem.W.Frag)(hg:Gl X "len")(hm:X.mg "len"=none)(ha:JA X (e::es) t)(hK:X.K=K:=by rfl)(he:starEach (e::es) X.env=(false,eval e X.env)::starEach es X.env:=by rfl)(hpl:(backTo pos (starEach es X.env)).any (·.1)=false:=by rfl):JE X (.Call (.Name "len" p) (e::es) [] pos) (tCB (b5e K) t):=⟨C9 (a7F K hK) hg hm a5y ha.h (by decide) (by decide) he hpl⟩
theorem a3f(K:PySem.W.Frag)(hg:Gl X "sum")(hm:X.mg "sum"=none)(ha:JA X (e::es) t)(hc:X.calm=true:=by rfl)(hK:X.K=K:=by rfl)(he:starEach (e::es) X.env=(false,eval e X.env)::starEach es X.env:=by rfl)(hpl:(backTo pos (starEach es X.env)).any (·.1)=false:=by rfl):JE X (.Call (.Name "sum" p) (e::es) [] pos) (tCB (b3o K) t):=⟨C9 (a7w K hc hK) hg hm b4G ha.h (by decide) (by decide) he hpl⟩
theorem a3g(K:PySem.W.Frag)(hg:Gl X "all")(hm:X.mg "all"=none)(ha:JA X (e::es) t)(hc:X.calm=true:=by rfl)(hK:X.K=K:=by rfl)(he:starEach (e::es) X.env=(false,eval e X.env)::starEach es X.env:=by rfl)(hpl:(backTo pos (starEach es X.env)).any (·.1)=false:=by rfl):JE X (.Call (.Name "all" p) (e::es) [] pos) (tCB (b3u K) t):=⟨C9 (a7K K hc hK) hg hm b4I ha.h (by decide) (by decide) he hpl⟩
theorem b4q(K:PySem.W.Frag)(hg:Gl X "any")(hm:X.mg "any"=none)(ha:JA X (e::es) t)(hc:X.calm=true:=by rfl)(hK:X.K=K:=by rfl)(he:starEach (e::es) X.env=(false,eval e X.env)::starEach es X.env:=by rfl)(hpl:(backTo pos (starEach es X.env)).any (·.1)=false:=by rfl):JE X (.Call (.Name "any" p) (e::es) [] pos) (tCB (b3t K) t):=⟨C9 (a7J K hc hK) hg hm b4H ha.h (by decide) (by decide) he hpl⟩
theorem O9(K:PySem.W.Frag)(hg:Gl X "isinstance")(hm:X.mg "isinstance"=none)(ha:JA X (e::es) t)(hK:X.K=K:=by rfl)(he:starEach (e::es) X.env=(false,eval e X.env)::starEach es X.env:=by rfl)(hpl:(backTo pos (starEach es X.env)).any (·.1)=false:=by rfl):JE X (.Call (.Name "isinstance" p) (e::es) [] pos) (tCB (b3r K) t):=⟨C9 (a7G K hK) hg hm W3 ha.h (by decide) (by decide) he hpl⟩
theorem b4p(hg:Gl X "min")(hm:X.mg "min"=none)(ha:JA X (e::es) t)(hc:X.calm=true:=by rfl)(he:starEach (e::es) X.env=(false,eval e X.env)::starEach es X.env:=by rfl)(hpl:(backTo pos (starEach es X.env)).any (·.1)=false:=by rfl):JE X (.Call (.Name "min" p) (e::es) [] pos) (tCB (b3p) t):=⟨C9 (a7z hc) hg hm a5x ha.h (by decide) (by decide) he hpl⟩
theorem a5f(hg:Gl X "max")(hm:X.mg "max"=none)(ha:JA X (e::es) t)(hc:X.calm=true:=by rfl)(he:starEach (e::es) X.env=(false,eval e X.env)::starEach es X.env:=by rfl)(hpl:(backTo pos (starEach es X.env)).any (·.1)=false:=by rfl):JE X (.Call (.Name "max" p) (e::es) [] pos) (tCB (b3q) t):=⟨C9 (a7B hc) hg hm b0h ha.h (by decide) (by decide) he hpl⟩
theorem C5(K:PySem.W.Frag)(hg:Gl X "tuple")(hm:X.mg "tuple"=none)(ha:JA X (e::es) t)(hK:X.K=K:=by rfl)(he:starEach (e::es) X.env=(false,eval e X.env)::starEach es X.env:=by rfl)(hpl:(backTo pos (starEach es X.env)).any (·.1)=false:=by rfl):JE X (.Call (.Name "tuple" p) (e::es) [] pos) (tCB (a4R K) t):=⟨P8 (a4x K hK) hg hm a1Z ha.h (by decide) (by decide) he hpl⟩
theorem a1L(hg:Gl X "int")(hm:X.mg "int"=none)(ha:JA X (e::es) t)(he:starEach (e::es) X.env=(false,eval e X.env)::starEach es X.env:=by rfl)(hpl:(backTo pos (starEach es X.env)).any (·.1)=false:=by rfl):JE X (.Call (.Name "int" p) (e::es) [] pos) (tCB (b5h) t):=⟨P8 a7H hg hm b0i ha.h (by decide) (by decide) he hpl⟩
theorem M7(K:PySem.W.Frag)(ho:JE X o to)(ha:JA X (e::es) t)(hK:X.K=K:=by rfl)(hbase:attributeBase o "append" X.env (eval o X.env)=eval o X.env:=by rfl)
  (hfew:((backTo cpos (starEach (e::es) X.env)).all (λx=>!x.1) && (backToKw cpos (keywordEach [] X.env)).all (λx=>x.1.isSome) && decide ((e::es).length+([]:List Keyword).length+(if ([]:List Keyword).isEmpty then 0 else 1)<30))=true:=by rfl)
  (hline:(apos.endLine==cpos.line)=true:=by rfl) (hs:starEach (e::es) X.env=(false,eval e X.env)::starEach es X.env:=by rfl) (hplain:(backTo cpos (starEach es X.env)).any (·.1)=false:=by rfl) :
  JE X (.Call (.Attribute o "append" apos) (e::es) [] cpos) (tBM K "list" a5X to t):=⟨b3P K PySem.F.plainAttrs_list PySem.F.slot_list_append PySem.F.type_list_append a7d ho.h ha.h hK hbase hfew hline hs hplain⟩
theorem A7{i:Nat}{x:Str}(hN:X.N.Nodup)(hi:X.N[i]?=some x)(hx:Loc X.env.scope x)(hf:X.fn x=true∨X.env.scope.names.lookup x=some .local:=by first|exact .inl rfl|exact .inr rfl|assumption):JG X (.Name x pos) (A8 i):=⟨b1j hN hi hx hf⟩
theorem E6:JGs X [] b1V:=⟨b1h⟩
theorem B1{g:TG}{u:TGs}(h1:JG X e g)(h2:JGs X es u)(hs:(assignEach (e::es) X.env).map (·.2)=assign e X.env::(assignEach es X.env).map (·.2):=by rfl):JGs X (e::es) (a2x g u):=⟨a8T h1.h h2.h hs⟩
theorem J5(K:PySem.W.Frag)(n:Nat){k:Nat}{u:TGs}(h:JGs X es u)(hc:X.calm=true:=by rfl)(hK:X.K=K:=by rfl)(hn:(assignEach es X.env).length=n:=by rfl)(hst:(assignEach es X.env).findIdx? (·.1)=none:=by rfl):JG X (.Tuple es k pos) (a9Q K n u):=⟨b1i K hc h.h hK hn hst⟩
theorem a3e{i:Expr}{ti:TE}(ho:JE X o to)(hi:JE X i ti)
  (ha:∀v,assign (.Subscript o i pos) X.env v=(do
   let ov <-holding [v] (eval o X.env)
   let iv <-holding [v,ov] (eval i X.env)
   standAt pos
   holding [v,ov,iv] (setItem ov iv v)
   release [v,ov,iv] []):=by intro _;rfl):JG X (.Subscript o i pos) (b5C to ti b2z):=⟨b3F ho.h hi.h a8u ha⟩
theorem R7(K:PySem.W.Frag){tg l:Expr}{tl:TE}(hl:JE X l tl)(hK:X.K=K:=by rfl):JI X tg l (a9M K tl):=⟨a8S K hl.h hK⟩
theorem O8(K:PySem.W.Frag){tg l:Expr}{tl:TE}(hl:JE X l tl)(hK:X.K=K:=by rfl):JI X tg l (b4y K tl):=⟨b1e K hl.h hK⟩
theorem T3(K:PySem.W.Frag){kt:Nat}{tp:Pos}(hg:Gl X "zip")(hm:X.mg "zip"=none)(ha:JA X [a,b] t)(hK:X.K=K:=by rfl)(hs:starEach [a,b] X.env=[(false,eval a X.env),(false,eval b X.env)]:=by rfl)(hs2:starEach [b] X.env=[(false,eval b X.env)]:=by rfl) :
  JI X (.Tuple es kt tp) (.Call (.Name "zip" p) [a,b] [] pos) (b4x K t):=⟨b1d K hg hm ha.h hK hs hs2⟩
theorem M8{tg:Expr}(hg:Gl X "range")(hm:X.mg "range"=none)(ha:JA X [a] t)(hs:starEach [a] X.env=[(false,eval a X.env)]:=by rfl):JI X tg (.Call (.Name "range" p) [a] [] pos) (a9L t):=⟨a6R hg hm ha.h hs⟩
theorem a7l{tg:Expr}(hg:Gl X "range")(hm:X.mg "range"=none)(ha:JA X [a,b] t)(hs:starEach [a,b] X.env=[(false,eval a X.env),(false,eval b X.env)]:=by rfl)(hs2:starEach [b] X.env=[(false,eval b X.env)]:=by rfl):JI X tg (.Call (.Name "range" p) [a,b] [] pos) (b2T t):=⟨a6Q hg hm ha.h hs hs2⟩
theorem G7:JF X [] a1m:=⟨b1c⟩
theorem a1K(h:JT X c tA):JF X [c] tA:=⟨b1b h.h⟩
theorem E2{tg iter elt:Expr}{ifs:List Expr}{scope:Scope}{N:List Str}{src:List (Option Nat)}{wi:TI}{g:TG}{tt:TT}(hi:JI X tg iter wi)(hcap:D0 scope X.env.scope=true)(hblk:L9 N src X.N scope=true)(hsc:a2S scope=true)
  (hg:∀cells C s H ex,JG (X.blk N scope cells C s H ex) tg g) (ht:∀cells C s H ex,JF (X.blk N scope cells C s H ex) ifs tt) (he:∀cells C s H ex,JE (X.blk N scope cells C s H ex) elt te)
  (hc:X.calm=true:=by rfl) (hs:∀x,foldedSetIterable iter X.env x=pure x:=by intro _;rfl):JE X (.ListComp elt [⟨tg,iter,ifs,0⟩] scope pos) (a3I src wi g tt te) :=
 ⟨b1n hc hi.h hcap hblk hsc (λ_ _ _ _ _=>(hg _ _ _ _ _).h) (λ_ _ _ _ _=>(ht _ _ _ _ _).h) (λ_ _ _ _ _=>(he _ _ _ _ _).h) hs⟩
variable {st:Stmt}{sts:List Stmt}{u v:TS}
theorem C2:JB X [] a8i:=⟨b0T⟩
theorem A1(h1:JS X st u)(h2:JB X sts v):JB X (st::sts) (b0C u v):=⟨a8M h1.h h2.h⟩
theorem A4(h1:JS X st u):JB X [st] u:=⟨b0S h1.h⟩
theorem B2(he:JE X e te):JS X (.Return (some e) pos) (b3e te):=⟨b3y he.h⟩
theorem a6i:JS X (.Return none pos) a8f:=⟨b0V⟩
theorem M6(he:JE X e te)(hs:swapsWith e none pos.line X.env=pure false:=by rfl):JS X (.Expr e pos) (a8k te):=⟨b0X he.h hs⟩
theorem E5{A B:List Stmt}(hc:JT X c tA)(ha:JB X A u)(hb:JB X B v):JS X (.If c A B pos) (b3i tA u v):=⟨b5j hc.h ha.h hb.h⟩
theorem a0a{B:List Stmt}(hc:JT X c tA)(hb:JB X B v)(hp:PassesOwn (model X.prog X.w) X.A X.env X.xe:=by exact PassesOwn.never):JS X (.While c B [] pos) (a8d tA v):=⟨a8N hp hc.h hb.h⟩
theorem J4{tg iter:Expr}{B:List Stmt}{wi:TI}{g:TG}(hi:JI X tg iter wi)(hg:JG X tg g)(hb:JB X B v)(hp:PassesOwn (model X.prog X.w) X.A X.env X.xe:=by exact PassesOwn.never)(hc:X.calm=true:=by rfl)
  (hs:∀x,foldedSetIterable iter X.env x=pure x:=by intro _;rfl):JS X (.For tg iter B [] pos) (b4X wi g v):=⟨b3z hp hc hi.h hg.h hb.h hs⟩
theorem A9{i:Nat}{x:Str}{pos':Pos}(hN:X.N.Nodup)(hi:X.N[i]?=some x)(hx:Loc X.env.scope x)(he:JE X e te)(hs:swapsWith e (some (.Name x pos')) pos.line X.env=pure false:=by rfl)
  (hf:X.fn x=true∨X.env.scope.names.lookup x=some .local:=by first|exact .inl rfl|exact .inr rfl|assumption):JS X (.Assign [.Name x pos'] e pos) (a4L te (A8 i)):=⟨b3x hN hi hx he.h hs hf⟩
theorem a6h{i:Nat}{y:Str}{py spos:Pos}{tg iter elt:Expr}{ifs:List Expr}{scope:Scope}{N:List Str}{src:List (Option Nat)}{wi:TI}{g:TG}{tt:TT}
  (hN:X.N.Nodup) (hy:X.N[i]?=some y) (hx:Loc X.env.scope y) (hi:JI X tg iter wi) (hcap:D0 scope X.env.scope=true) (hblk:L9 N src X.N scope=true) (hsc:a2S scope=true)
  (hg:∀cells C s H ex,JG (X.blk N scope cells C s H ex) tg g) (ht:∀cells C s H ex,JF (X.blk N scope cells C s H ex) ifs tt) (hel:∀cells C s H ex,JE (X.blk N scope cells C s H ex) elt te)
  (hc:X.calm=true:=by rfl) (hsw:swapsWith (.ListComp elt [⟨tg,iter,ifs,0⟩] scope pos) (some (.Name y py)) spos.line X.env=pure true:=by rfl) (hs:∀x,foldedSetIterable iter X.env x=pure x:=by intro _;rfl)
  (hf:X.fn y=true∨X.env.scope.names.lookup y=some .local:=by first|exact .inl rfl|exact .inr rfl|assumption) :
  JS X (.Assign [.Name y py] (.ListComp elt [⟨tg,iter,ifs,0⟩] scope pos) spos) (a4L (a3I src wi g tt te) (A8 i)) :=
 ⟨b0U hN hy hx hc hi.h hcap hblk hsc (λ_ _ _ _ _=>(hg _ _ _ _ _).h) (λ_ _ _ _ _=>(ht _ _ _ _ _).h) (λ_ _ _ _ _=>(hel _ _ _ _ _).h) hsw hs hf⟩
theorem a0q{tg:Expr}{g:TG}(he:JE X e te)(hg:JG X tg g)(hs:swapsWithSole [tg] e pos.line X.env=pure false:=by rfl)(hw:swappedStores [tg] e X.env=pure none:=by rfl)
  (h1:(assignEach [tg] X.env).map (·.2)=[assign tg X.env]:=by rfl):JS X (.Assign [tg] e pos) (a4L te g):=⟨b3B he.h hg.h hs hw h1⟩
end
section
variable {P:Program}{w:World}{K:PySem.W.Frag}{mg:Str->Option Value}{base:Heap}
theorem FunAt.okJ{x:Str}{st:Stmt}{N ps:List Str}{k:Nat}{sp:Sp}(F:FunAt K mg x st ps)(S:FnScope N ps (A2 st))(len:∀vs H Q E,sp vs H Q E->vs.length=ps.length)
  (hbody:∀(cdv:Value) (f:Addr) (A:Around) (outer:List Env) (s:Shared) (H:Hp) (vs:List V) (Q:VK) (E:XK),Room k (A.deeper (envOfC x (A2 st) s.heap.objs.size f cdv))->sp vs H Q E ->
   ∃t,JB (G2 CX0 P w K mg base N x (A2 st) f cdv A outer s H E).nox (D9 st) t/\t {nx:=λ_ H'=>Q .non H',rt:=Q} (start N vs) H):Ok P w K mg base x (k+1) ps sp :=
 F.ok S len λcdv f A outer s H vs Q E hr h=>let ⟨t,d,r⟩:=hbody cdv f A outer s H vs Q E hr h;⟨t,d.h,r⟩
theorem Fun.okJ{x qual:Str}{st:Stmt}{f:Addr}{fd:FuncData}{N ps:List Str}{k:Nat}{sp:Sp}(F:Fun K x qual st f fd)(S:FnScope N ps (A2 st))(len:∀vs H Q E,sp vs H Q E->vs.length=ps.length)
  (hbody:∀(cdv:Value) (A:Around) (outer:List Env) (s:Shared) (H:Hp) (vs:List V) (Q:VK) (E:XK),Room k (A.deeper (envOfC qual (A2 st) s.heap.objs.size f cdv))->sp vs H Q E ->
   ∃t,JB (G2 CX0 P w K mg base N qual (A2 st) f cdv A outer s H E).nox (D9 st) t/\t {nx:=λ_ H'=>Q .non H',rt:=Q} (start N vs) H):FnOk P w K mg base CX0 (k+1) f fd ps sp :=
 F.ok S len λcdv A outer s H vs Q E hr h=>let ⟨t,d,r⟩:=hbody cdv A outer s H vs Q E hr h;⟨t,d.h,r⟩
end
def a5S(K:PySem.W.Frag):Sp:=λvs H Q _=>∃(a:Addr) (ns:List Int),vs=[.ref a]/\SqL K H a (ns.map V.int)/\ns.length<=63/\∀H',Q (.bl true) H'
theorem law_walk{l:PySem.W.OpenLaw}{q:Program}{loose:List Str}{XP:(Str->Option Value)->Heap->Prop}{YP:World->Heap->Prop}{d:DefRec}{K:Params->PySem.W.Frag}(k:Nat)(hn:l.most=some 63)(hdf:d.params.defaults=[])(hr:Room k callerA)
  (hY:∀(w:World) (h:Heap),YP w h->(K w.params).In h)
  (F:∀(w:World) (mg:Str->Option Value) (fa:Addr) (h:Heap),(K w.params).In h->h.Ns mainGlobals mg->mg d.name=some (.ref fa) ->
   ∃fd:FuncData,(∀(s:Shared) (u:Value),BindsTo s fd ⟨[u],[]⟩ [("_law_script",u)])/\∀base:Heap,(K w.params).In base->base.Ns mainGlobals mg->FnOk l.prog w (K w.params) mg base CX0 k fa fd ["_law_script"] (a5S (K w.params))) :
  PySem.W.WalkO q loose XP YP l.row.toRowW d [] (λf vs=>PySem.call f vs) :=
 L2.walk_of (n:=63) (k:=k) (x:="_law_script") (CX:=λ_=>CX0) (sp:=λw=>a5S (K w.params)) hn (by decide) hdf hr hY F (λ_ _ a ns hl _ hS=>⟨a,ns,rfl,hS,hl,λ_=>rfl⟩) λ_ _ _ _ _ z=>z
def Its(H:Hp)(vs:List V)(rss:LLI):Prop:=vs.length=rss.length/\∀(i:Nat) (v:V),vs[i]?=some v->∃r,rss[i]?=some r/\IT H v r
theorem Its.same{H H':Hp}{vs:List V}{rss:LLI}(h:Its H vs rss)(s:Same H H'):Its H' vs rss:=⟨h.1,λi v e=>let ⟨r,e1,e2⟩:=h.2 i v e;⟨r,e1,e2.same s⟩⟩
theorem Its.nil{H:Hp}:Its H [] []:=⟨rfl,λi v e=>by simp at e⟩
theorem Its.snoc{H:Hp}{vs:List V}{rss:LLI}{v:V}{r:List Int}(h:Its H vs rss)(hv:IT H v r):Its H (vs++[v]) (rss++[r]):=by
 refine⟨by simp[h.1],λi u e=>?_⟩;by_cases hi:i<vs.length
 .rw[List.getElem?_append_left hi]at e;obtain⟨q,e1,e2⟩:=h.2 i u e;exact⟨q,by rw[List.getElem?_append_left (by rw[<-h.1];exact hi)];exact e1,e2⟩
 .rw[List.getElem?_append_right (by omega)]at e;have hj:i-vs.length=0:=by
   have:=(List.getElem?_eq_some_iff.mp e).1;simp at this;omega
  rw[hj]at e;simp at e;subst e;refine⟨r,?_,hv⟩;rw[List.getElem?_append_right (by rw[<-h.1];omega),<-h.1,hj];rfl
theorem Its.mem{H:Hp}{vs:List V}{rss:LLI}{v:V}{i:Nat}(h:Its H vs rss)(e:vs[i]?=some v):∃r,r∈rss/\rss[i]?=some r/\IT H v r :=
 let ⟨r,e1,e2⟩:=h.2 i v e
 ⟨r,List.mem_of_getElem? e1,e1,e2⟩
end L2
namespace L2
open PySem PySem.Spec PyProof.Rows PySem.W
noncomputable def a4q(p C:Addr):HO:=.ext λh=>∃o,h.get? p=some o/\o.cls=.ref C
theorem ObjOk.there{P:Program}{w:World}{H:Hp}{h:Heap}{a:Addr}{o:HO}(x:ObjOk P w H h a o):∃u,h.get? a=some u:=by
 induction o with
 |lst xs=>obtain⟨_,_,_,_,e⟩:=x;exact⟨_,e⟩
 |tup xs=>obtain⟨_,_,_,ob,e,_⟩:=x;exact⟨_,e⟩
 |dK kvs=>obtain⟨_,_,_,_,o,_,_,e,_⟩:=x;exact⟨_,e⟩
 |dT kvs=>obtain⟨_,_,_,_,o,_,_,e,_⟩:=x;exact⟨_,e⟩
 |set S n=>obtain⟨o,_,_,_,e,_⟩:=x;exact⟨_,e⟩
 |ins C dx fs=>obtain⟨_,_,_,e,_⟩:=x;exact⟨_,e⟩
 |own y=>obtain⟨_,e⟩:=x;exact⟨_,e⟩
 |xd fs=>obtain⟨_,⟨_,_,_,e,_⟩,_⟩:=x;exact⟨_,e⟩
 |rng lo hi=>obtain⟨_,_,_,e⟩:=x;exact⟨_,e⟩
 |frz ob u ih=>obtain⟨e,_⟩:=x;exact⟨_,e⟩
 |tbl ps=>exact⟨_,x⟩
 |met f y=>exact⟨_,x⟩
 |ext φ=>exact x.2.1
def Cov(l:List Env)(H:Hp)(h0 h B:Heap):Prop:=∀b o,h.get? b=some o->b∉frs l->(H b≠none∨∃o',h0.get? b=some o')->B.get? b=some o
theorem a0b{P:Program}{w:World}{l:List Env}{H H':Hp}{h0 h1 h2 B base:Heap}(hU:Un (frs l) [] H H' h0 h1)(hok:HOk P w H' h1)(cov:Cov l H' h0 h1 B)(st:B.StaysIn h2)(up:h1.UpToSlots h2)(ff:h1.FunFrames base l)(hf:∀b∈frs l,H' b=none) :
  Un (frs l) [] H H' h0 h2/\HOk P w H' h2/\Cov l H' h0 h2 B:=by
 have tr:∀b,H' b≠none->b∉frs l:=λb n hb=>n (hf b hb);refine⟨⟨?_,?_,hU.free,?_,hU.tups,hU.frzs,hU.tbls⟩,?_,?_⟩
 .intro b o e n hb hx;exact st b o (cov b o (hU.keep b o e n hb hx) hb (.inr ⟨o,e⟩))
 .intro b o e n hb hx;obtain⟨sl,q⟩:=hU.slot b o e n hb hx;obtain⟨_,o2,e2,nf⟩:=ff.mem hb;rw[q]at e2;cases e2;obtain⟨sl2,q2⟩:=up b _ q nf;exact⟨sl2,q2⟩
 .intro b o e hx;obtain⟨o1,q⟩:=hU.there b o e hx;by_cases hb:b∈frs l
  .obtain⟨_,o2,e2,nf⟩:=ff.mem hb;rw[q]at e2;cases e2;obtain⟨sl2,q2⟩:=up b _ q nf;exact⟨_,q2⟩
  .exact⟨o1,st b o1 (cov b o1 q hb (.inr ⟨o,e⟩))⟩
 .intro a o e;refine(hok a o e).stay (λb u hb q=>?_) (λ_ q=>q) λ_ _ q=>q;have ht:H' b≠none:=by
   rcases hb with rfl|hb
   .rw[e];intro z;cases z
   .rw[hb];intro z;cases z
  exact st b u (cov b u q (tr b ht) (.inl ht))
 .intro b o e hb ho;have ex:∃o1,h1.get? b=some o1:=by
   rcases ho with ht|⟨o',q⟩
   .cases eq:H' b with
    |none=>exact absurd eq ht
    |some u=>exact(hok b u eq).there
   .exact hU.there b o' q (by simp)
  obtain⟨o1,q1⟩:=ex;have q2:=cov b o1 q1 hb ho;have q3:=st b o1 q2;rw[e]at q3;cases q3;exact q2
def CXE(P:Program)(w:World):CXT:=λouter H s E e s' =>
 ∃(p C:Addr) (H':Hp) (B:Heap) (a0:Value),e=.ref p/\s'.os=s.os/\AllBare s'.gens/\Un (frs outer) [] H H' s.heap s'.heap/\HOk P w H' s'.heap /\
  H' p=none/\Heap.FlyingW B outer p (.ref C) a0 s'.heap/\Cov outer H' s.heap s'.heap B/\E (.ref C) none H'
theorem b3T{K:PySem.W.Frag}{h:Heap}{mg:Str->Option Value}{x:Str}{C:Addr}{bmB:List Value}{newId:String}(X:K.In h)(hm:mg x=some (.ref C))(q:excIn K C bmB newId=true):OwnCls x C bmB newId mg h:=by
 refine⟨hm,?_⟩;unfold excIn at q;split at q
 .rename_i dd cd sl ho;split at q
  .rename_i C' bm k0 k1 k2 k3 n k5 hmro hs;simp only[Bool.and_eq_true,beq_iff_eq,Bool.not_eq_true']at q;obtain⟨⟨⟨⟨⟨rfl,rfl⟩,hdel⟩,ht⟩,hok⟩,hni⟩:=q;obtain⟨nm,bs,mro,ns,qn,hd,sn,sub,ab,col,del⟩:=cd;dsimp only at hmro hdel hok hni;subst hmro hdel;have hsl:sl=#[k0,k1,k2,k3,some (.builtin n),k5]:=by
    obtain⟨l⟩:=sl;simp only at hs;rw[hs]
   subst hsl;exact⟨bm,ns,nm,qn,bs,hd,sn,sub,ab,col,dd,k0,k1,k2,k3,k5,_,X _ _ ho,.of_isNs (isNs_of_in X hok),nsMap_none_of_in X hok hni,tail_of_in X ht⟩
  .cases q
 .cases q
def a8g(C:Addr)(E:XK)(t:TA):TS:=λ_ σ H=>t σ H λvs H1=>vs.length<=sizeLine/\E (.ref C) none H1
theorem a8P{P:Program}{w:World}{K:PySem.W.Frag}{mg:Str->Option Value}{base:Heap}{N:List Str}{qual:Str}{scope:Scope}{f:Addr}{cd:Value}{A:Around}{outer:List Env}{s0:Shared}{H0:Hp}{E:XK}
  {x:Str}{C:Addr}{bmB bmN:List Value}{B Bn newId nid initId inN:String}{e:Expr}{es:List Expr}{t:TA}{np cpos pos:Pos}
  (O:OwnCls x C bmB newId mg base) (Fn:ExcBaseFacts Bn newId inN bmN) (hBn:bmB.contains (.type Bn)=true) (FB:ExcBaseFacts B nid initId bmB)
  (hg:Gl (G2 (CXE P w) P w K mg base N qual scope f cd A outer s0 H0 E) x)
  (ha:PA (G2 (CXE P w) P w K mg base N qual scope f cd A outer s0 H0 E) (e::es) t) (hd:(x==("__debug__" : Str))=false:=by decide)
  (he:starEach (e::es) (envOfC qual scope s0.heap.objs.size f cd)=(false,eval e (envOfC qual scope s0.heap.objs.size f cd))::starEach es (envOfC qual scope s0.heap.objs.size f cd):=by rfl)
  (hpl:(backTo cpos (starEach es (envOfC qual scope s0.heap.objs.size f cd))).any (·.1)=false:=by rfl) :
  PS (G2 (CXE P w) P w K mg base N qual scope f cd A outer s0 H0 E) (.Raise (some (.Call (.Name x np) (e::es) [] cpos)) none pos) (a8g C E t):=by
 intro pins s σ H D I h;obtain⟨tl,NC,nm,q,bs,hdct,sn,sub,ab,col,dd,k0,k1,k2,k3,k5,mN,hC,hN,hni,T⟩:=O.obj;refine wpAny_Raise_call_subU (C:=C) (nm:=nm) (q:=q) (N:=NC) (bs:=bs) (bm:=tl) (hdct:=hdct) (sn:=sn) (sub:=sub) (ab:=ab) (col:=col) (dd:=dd) (k0:=k0) (k1:=k1) (k2:=k2) (k3:=k3) (k5:=k5)
  Fn hBn FB (mN:=mN) (T.hasType FB.hasBase) (I.ok.hd rfl) (by show(backTo cpos (starEach (e::es) (envOfC qual scope s0.heap.objs.size f cd))).any _=false;rw[he];show(false || (backTo cpos (starEach es (envOfC qual scope s0.heap.objs.size f cd))).any (·.1))=false;rw[hpl];rfl) hni (V1 I hg O.bound ⟨rfl,?_⟩ hd)
 have ha':=ha cpos pins s σ H _ I h;have he':starEach (e::es) (G2 (CXE P w) P w K mg base N qual scope f cd A outer s0 H0 E).env=_:=he;rw[he']at ha'⊢;refine Calls.evalArgs_plain (wpAny_mono ha' (λus s2 ⟨vs,H1,I1,r,hl,q⟩=>⟨rfl,by rw[<-r.length];exact hl,I1.bk _ _ hC,hN.keeps I1.bk,T.keeps I1.bk,λh' p hm=>?_⟩) λ_ _ z=>z);have hin:∀env∈(envOfC qual scope s0.heap.objs.size f cd::outer),∀b,env.frame=some b->b∈frs (envOfC qual scope s0.heap.objs.size f cd::outer):=λenv he b hb=>List.mem_filterMap.mpr ⟨env,he,hb⟩;refine wpAny_leaves_madeW (base:=hideAll s2.heap (frs (envOfC qual scope s0.heap.objs.size f cd::outer))) (h:=s2.heap) I1.ok.frames rfl (λb o q=>of_hideAll _ q) (funFrames_hide I1.stack hin) hm λh2 t x1 x2 x3 x4=>?_;have hsub:∀b∈frs outer,b∈frs (envOfC qual scope s0.heap.objs.size f cd::outer):=λb hb=>by
  obtain⟨env,h1,h2⟩:=List.mem_filterMap.mp hb;exact List.mem_filterMap.mpr ⟨env,List.mem_cons_of_mem _ h1,h2⟩
 have hnot:∀b,b∉frs outer->b≠s0.heap.objs.size->b∉frs (envOfC qual scope s0.heap.objs.size f cd::outer):=λb h1 h2 h3=>by
  obtain⟨env,q1,q2⟩:=List.mem_filterMap.mp h3;rcases List.mem_cons.mp q1 with rfl|q1
  .exact h2 (Option.some.inj q2).symm
  .exact h1 (List.mem_filterMap.mpr ⟨env,q1,q2⟩)
 have cov:Cov outer H1 s0.heap s2.heap (hideAll s2.heap (frs (envOfC qual scope s0.heap.objs.size f cd::outer))):=λb o eb nb hb=>by
  refine hideAll_get _ eb (hnot b nb λz=>?_);subst z;rcases hb with hb|⟨o',hb⟩
  .exact hb I1.free
  .exact absurd (Heap.lt_size hb) (Nat.lt_irrefl _)
 have hp:H1 p=none:=by
  cases eq:H1 p with
  |none=>rfl
  |some u =>
   obtain⟨o,eo⟩:=(I1.hok p u eq).there;rw[hm.new]at eo;cases eo
 obtain⟨U2,ok2,cov2⟩:=a0b (P:=P) (w:=w) (l:=outer) (H:=H0) (H':=H1) (h0:=s0.heap) (h1:=s2.heap) (h2:=h2) I1.base I1.hok cov x1.1 ((Heap.UpToSlots.of_keeps hm.keeps).trans x4) I1.funs λb hb=>I1.stkFree b (hsub b hb);exact⟨p,C,H1,_,.ref t,rfl,I1.os,I1.bare,U2,ok2,hp,x1,cov2,q⟩
def XP(X:Cx)(pins:List (Addr×Obj))(R:St->Addr->Hp->Prop)(e:Value)(s':Shared):Prop :=
 ∃(σ1:St) (H1:Hp) (s1:Shared) (p C:Addr) (H':Hp) (B:Heap) (a0:Value),e=.ref p/\Inv X pins σ1 H1 s1/\s'.os=s1.os/\AllBare s'.gens/\Un (frs X.stack) [] H1 H' s1.heap s'.heap/\HOk X.prog X.w H' s'.heap /\
  H' p=none/\Heap.FlyingW B X.stack p (.ref C) a0 s'.heap/\Cov X.stack H' s1.heap s'.heap B/\R σ1 C H'
abbrev TX:=Ends->(St->Addr->Hp->Prop)->St->Hp->Prop
def PSx(X:Cx)(sts:List Stmt)(t:TX):Prop :=
 ∀(pins:List (Addr×Obj)) (s:Shared) (σ:St) (H:Hp) (D:Ends) (R:St->Addr->Hp->Prop),Inv X pins σ H s->t D R σ H->wpAny (model X.prog X.w) X.A (execs sts X.env) (SP X pins D) (XP X pins R) s
structure OkE(P:Program)(w:World)(K:PySem.W.Frag)(mg:Str->Option Value)(base:Heap)(x:Str)(k:Nat)(ps:List Str)(sp:Sp):Prop where
 ex:∃f fd,mg x=some (.ref f)/\PySem.W.keepIn K (.ref f)=true/\Binds K fd ps []/\FnOk P w K mg base (CXE P w) k f fd ps sp
theorem FunAt.okE{P:Program}{w:World}{K:PySem.W.Frag}{mg:Str->Option Value}{base:Heap}{x:Str}{st:Stmt}{N ps:List Str}{k:Nat}{sp:Sp}(F:FunAt K mg x st ps)(S:FnScope N ps (A2 st))(len:∀vs H Q E,sp vs H Q E->vs.length=ps.length)
  (hbody:∀(cdv:Value) (f:Addr) (A:Around) (outer:List Env) (s:Shared) (H:Hp) (vs:List V) (Q:VK) (E:XK),Room k (A.deeper (envOfC x (A2 st) s.heap.objs.size f cdv))->sp vs H Q E ->
   ∃t,JB (G2 (CXE P w) P w K mg base N x (A2 st) f cdv A outer s H E) (D9 st) t/\t {nx:=λ_ H'=>Q .non H',rt:=Q} (start N vs) H):OkE P w K mg base x (k+1) ps sp:=by
 obtain⟨f,fd,h1,h2,h3⟩:=F.ex;refine⟨f,fd,h1,h2.kp,h3,?_⟩;obtain⟨oc,od,kV,doc,pm,an,cdv,ct,osl,rfl,lk,hcd⟩:=h2.ex;refine a9R lk hcd S len λA outer s H vs Q E hr hsp=>?_;obtain⟨t,h,q⟩:=hbody cdv f A outer s H vs Q E hr hsp;exact⟨t,h.h,q⟩
def b2n(i:Nat)(sp:Sp)(t:TA):TX:=λD R σ H=>t σ H λvs H1=>sp vs H1 (λv H2=>D.nx (σ.set i (some v)) H2) λc _ H'=>∃C,c=.ref C/\R σ C H'
theorem b0R{X:Cx}{k:Nat}{ps:List Str}{sp:Sp}{x y:Str}{p pos cpos pos':Pos}{e:Expr}{es:List Expr}{t:TA}{i:Nat}(hx0:∀e s,¬X.xe e s)(O:OkE X.prog X.w X.K X.mg X.base x k ps sp)(hr:Room k X.A)(hg:Gl X x)
  (hN:X.N.Nodup) (hi:X.N[i]?=some y) (hy:Loc X.env.scope y) (ha:PA X (e::es) t) (hdb:(x==("__debug__" : Str))=false:=by decide)
  (he:starEach (e::es) X.env=(false,eval e X.env)::starEach es X.env:=by rfl) (hpl:(backTo cpos (starEach es X.env)).any (·.1)=false:=by rfl)
  (hs:swapsWith (.Call (.Name x p) (e::es) [] cpos) (some (.Name y pos')) pos.line X.env=pure false:=by rfl) (hf:X.fn y=true∨X.env.scope.names.lookup y=some .local:=by first|exact .inl rfl|exact .inr rfl|assumption) :
  PSx X [.Assign [.Name y pos'] (.Call (.Name x p) (e::es) [] cpos) pos] (b2n i sp t):=by
 intro pins s σ H D R I h;obtain⟨f,fd,hm,hk,hb,F⟩:=O.ex;refine wpAny_execs_cons (wpAny_Assign_Name ?_ hs);refine wpAny_Call_Name_kw (V1 I hg hm ?_ hdb);refine PySem.W.callWith_K (h₀:=X.base) I.ok.mod.kin hk (wpAny_mono (ha cpos pins s σ H _ I h) (λus s1 ⟨vs,H1,I1,r,q⟩=>⟨I1.kIn,?_⟩) λe s z=>absurd z (hx0 e s)) he hpl;have hl:us.length=ps.length:=by rw[<-r.length];exact F.len _ _ _ _ q
 have hb':=hb s1 us I1.kIn (by rw[List.append_nil];exact hl);rw[List.append_nil]at hb';refine wpAny_call (codeAny_mono (F.run X.A X.stack s1 H1 ⟨us,[]⟩ us vs _ _ hr I1.env0 hb' r q) λr s' hq=>?_);cases r with
 |error e =>
  obtain⟨p,C,H',B,a0,h1,h2,h3,h4,h5,h6,h7,h8,C',h9,h10⟩:=hq;cases h9;exact⟨σ,H1,s1,p,C,H',B,a0,h1,I1,h2,h3,h4,h5,h6,h7,h8,h10⟩
 |ok fl =>
  cases fl with
  |ret u =>
   obtain⟨v,H2,I2,rv,q2⟩:=I1.after hq;exact Y7 I2 hN hi hy rv (λs2 I3=>wpAny_execs_nil ⟨_,H2,I3,q2⟩) hf
  |next=>exact False.elim hq
  |brk=>exact False.elim hq
  |cont=>exact False.elim hq
section
variable {M:Model}{A:Around}{E:Value->Shared->Prop}
structure ClsX(K:PySem.W.Frag)(C:Addr)(above:List Value):Prop where
 ex:∃nm q N bs bm hdct sn sub ab col dd k0 k1 k2 k3 k5 newId,K.lookup C=some (excClassObj nm q C N bs bm hdct sn sub ab col dd k0 k1 k2 k3 k5 newId)/\bm.contains (.type "BaseException")=true/\∀v∈above,bm.contains v=true
theorem a1W{nm q nm' q':Str}{C N D N':Addr}{bs bm bs' bm':List Value}{hdct hdct':Bool}{sn sn':List Str}{sub sub':List Value}{ab ab':Bool}{col col':Option Bool}{dd dd':Option Addr}{k0 k1 k2 k3 k5 j0 j1 j2 j3 j5:Option Value}{newId newId':String}
  {h:Heap}{g:Array GenState}{d:Drawn}{t:Nat}{os:OsState}{e:Addr}{oe:Obj}{Q:Bool->Shared->Prop}
  (hC:h.get? C=some (excClassObj nm q C N bs bm hdct sn sub ab col dd k0 k1 k2 k3 k5 newId)) (hD:h.get? D=some (excClassObj nm' q' D N' bs' bm' hdct' sn' sub' ab' col' dd' j0 j1 j2 j3 j5 newId')) (he:h.get? e=some oe) (hcls:oe.cls=.ref C)
  (hbase:bm'.contains (.type "BaseException")=true) (hup:bm.contains (.ref D)=true) (hq:Q true ⟨h,g,d,t,os⟩):wpAny M A (excMatches (.ref e) (.ref D)) Q E ⟨h,g,d,t,os⟩:=by
 have hcB:(Value.ref D::bm').contains (.type "BaseException")=true:=by rw[List.contains_cons,hbase,Bool.or_true]
 have hcC:(Value.ref C::bm).contains (.ref D)=true:=by rw[List.contains_cons,hup,Bool.or_true]
 have f:=tc_notTuple;unfold excMatches
 repeat (first | (with_reducible refine wpAny_loadPart_at he ?_;rw[hcls])|with_reducible refine wpAny_loadPart_at hD ?_ | (with_reducible refine wpAny_isSubtype_exc hD ?_;rw[hcB]) | (with_reducible refine wpAny_isSubtype_exc hC ?_;rw[hcC])|wp_step)
 exact hq
end
section
variable {X:Cx}{pins:List (Addr×Obj)}{σ:St}{H1 H':Hp}{s1 s':Shared}{p C:Addr}{B:Heap}{a0:Value}{h2:Heap}
theorem Inv.land(I1:Inv X pins σ H1 s1)(hos:s'.os=s1.os)(hg:AllBare s'.gens)(hU:Un (frs X.stack) [] H1 H' s1.heap s'.heap)(hok:HOk X.prog X.w H' s'.heap)(ff:s'.heap.FunFrames B X.stack)(cov:Cov X.stack H' s1.heap s'.heap B)(st:B.StaysIn h2)(up:s'.heap.UpToSlots h2) :
  Inv X pins σ H' {s' with heap:=h2}:=by
 have hf:∀b∈frs X.stack,H' b=none:=λb hb=>by
  obtain⟨_,o,ho,_⟩:=I1.stack.mem hb;exact hU.free b o ho (I1.stkFree b hb) (by simp)
 obtain⟨U2,ok2,_⟩:=a0b hU hok cov st up ff hf;exact I1.call' (ch:=[]) hos U2 ok2 hg (λb z=>absurd z (by simp))
theorem Inv.landX(I1:Inv X pins σ H1 s1)(hos:s'.os=s1.os)(hg:AllBare s'.gens)(hU:Un (frs X.stack) [] H1 H' s1.heap s'.heap)(hok:HOk X.prog X.w H' s'.heap)(hp:H' p=none)(ff:s'.heap.FunFrames B X.stack)(cov:Cov X.stack H' s1.heap s'.heap B)(fl2:Heap.FlyingW B X.stack p (.ref C) a0 h2)(up:s'.heap.UpToSlots h2) :
  Inv X pins σ (upd H' p (a4q p C)) {s' with heap:=h2}:=by
 have hf:∀b∈frs X.stack,H' b=none:=λb hb=>by
  obtain⟨_,o,ho,_⟩:=I1.stack.mem hb;exact hU.free b o ho (I1.stkFree b hb) (by simp)
 obtain⟨U2,ok2,cov2⟩:=a0b hU hok cov fl2.1 up ff hf;obtain⟨oe,heo,hcl⟩:=fl2.there;have hpf:p∉frs X.stack:=λhb=>by
  obtain⟨_,o,ho,nf⟩:=fl2.2.2.1.mem hb;obtain⟨oe',vs,_,_,_,he',_,hd',_⟩:=fl2.2.2.2;rw[ho]at he';cases he';exact nf vs hd'
 have hn1:∀o,s1.heap.get? p≠some o:=λo e=>by
  have:=cov2 p oe heo hpf (.inr ⟨o,e⟩);rw[fl2.2.1]at this;cases this
 have U3:Un (frs X.stack) [] H1 (upd H' p (a4q p C)) s1.heap h2:=by
  refine⟨U2.keep,U2.slot,λb o e n hx=>?_,U2.there,λb xs e=>?_,λb o u e=>?_,λb ps e=>?_⟩
  .rw[A3 (by rintro rfl;exact hn1 o e)];exact U2.free b o e n hx
  .have q:=U2.tups b xs e;rw[A3 (by rintro rfl;rw[hp]at q;cases q)];exact q
  .have q:=U2.frzs b o u e;rw[A3 (by rintro rfl;rw[hp]at q;cases q)];exact q
  .obtain⟨more,q⟩:=U2.tbls b ps e;exact⟨more,by rw[A3 (by rintro rfl;rw[hp]at q;cases q)];exact q⟩
 have ok3:HOk X.prog X.w (upd H' p (a4q p C)) h2:=λa o e=>by
  by_cases ha:a=p
  .subst ha;rw[A0]at e;cases e;exact⟨⟨oe,heo,hcl⟩,⟨oe,heo⟩,λg1 g2 ⟨o,q1,q2⟩ k=>⟨o,k o q1,q2⟩⟩
  .rw[A3 ha]at e;refine(ok2 a o e).stay (λb u _ q=>q) (λb q=>?_) λb xs q=>?_
   .rw[A3 (by rintro rfl;rw[hp]at q;cases q)];exact q
   .rw[A3 (by rintro rfl;rw[hp]at q;cases q)];exact q
 exact I1.call' (ch:=[]) hos U3 ok3 hg (λb z=>absurd z (by simp))
end
section
variable {X:Cx}{pins:List (Addr×Obj)}{σ:St}{H:Hp}{s:Shared}
theorem a7c{M:Model}{A:Around}{E:Value->Shared->Prop}{i:Nat}{n:Str}{pos:Pos}{Q:Unit->Shared->Prop}(I:Inv X pins σ H s)(hN:X.N.Nodup)(hi:X.N[i]?=some n)(hk:X.env.scope.names.lookup n=some .local)
  (h:∀s',Inv X pins (σ.set i none) H s'->Q () s'):wpAny M A (do bindName X.env n .none;unbindBehindTheSuite X.env n pos) Q E s:=by
 obtain⟨m,hn,hl⟩:=I.loc;have hcls:(X.env.scope.kind==.class || (X.env.scope.kind==.module && X.env.locals != X.env.globals))=false:=by rw[I.ok.kind];rfl
 have hiσ:i<σ.length:=by rw[I.len];exact(List.getElem?_eq_some_iff.mp hi).1
 have cne:=I.cne;refine wpAny_nameGoes_keeps hk hn hcls λh' v hn' hs=>?_;obtain⟨oL,_,_,hoL,_⟩:=id hn;have tracked:HOk X.prog X.w H h':=λb ob e=>by
  refine(I.hok b ob e).stay (λc w' hc q=>(hs.2 c ?_).trans q) (λ_ q=>q) λ_ _ q=>q;have hfree:=I.free;rintro rfl;rcases hc with z|hc
  .rw[<-z,hfree]at e;cases e
  .rw[hfree]at hc;cases hc
 refine h _ ⟨I.ok,I.os,I.bare,⟨λb o e n hb hx=>?_,λb o e n hb hx=>?_,I.base.free,λb o e hx=>?_,I.base.tups,I.base.frzs,I.base.tbls⟩,⟨_,hn',λj y v' e1 e2 e3=>?_⟩,λy c e=>?_,I.free,I.freeC,λp hp=>?_,tracked,by simpa using I.len⟩
 .exact(hs.2 b (Nat.ne_of_lt (Nat.lt_of_lt_of_le (Heap.lt_size e) I.ok.above))).trans (I.base.keep b o e n hb hx)
 .obtain⟨sl,e1⟩:=I.base.slot b o e n hb hx;exact⟨sl,(hs.2 b (Nat.ne_of_lt (Nat.lt_of_lt_of_le (Heap.lt_size e) I.ok.above))).trans e1⟩
 .obtain⟨o',e1⟩:=I.base.there b o e hx;exact⟨o',(hs.2 b (Nat.ne_of_lt (Nat.lt_of_lt_of_le (Heap.lt_size e) I.ok.above))).trans e1⟩
 .by_cases hj:j=i
  .subst hj;rw[List.getElem?_set_self hiσ]at e2;cases e2
  .rw[List.getElem?_set_ne (Ne.symm hj)]at e2;obtain⟨u',r',q⟩:=hl j y v' e1 e2 e3;refine⟨u',r',?_⟩;rcases q with⟨k,e⟩|⟨k,c,e,z⟩
   .refine .inl ⟨k,?_⟩;have:y≠n:=λe=>hj (a1y hN e1 (e ▸ hi));simp[this,e]
   .exact .inr ⟨k,c,e,z.sameBut hs (cne y c e)⟩
 .obtain⟨w',z⟩:=I.cell y c e;exact⟨w',z.sameBut hs (cne y c e)⟩
 .obtain⟨e,n,ne,nf,d⟩:=I.pin p hp;exact⟨(hs.2 p.1 ne).trans e,n,ne,nf,d⟩
noncomputable abbrev Cx.held(X:Cx)(p:Addr):Cx:={X with A:=X.A.mark (some (.ref p)),calm:=false,xe:=λ_ _=>False}
theorem Inv.held(I:Inv X pins σ H s)(p:Addr):Inv (X.held p) pins σ H s :=
 ⟨⟨I.ok.mod,I.ok.kind,I.ok.glob,I.ok.blt,I.ok.above,I.ok.inj,I.ok.has,I.ok.cab,(λz=>by cases z),I.ok.frames,I.ok.stk,I.ok.exf,I.ok.bs,I.ok.bsz,I.ok.noex,I.ok.exfs,I.ok.funs,I.ok.frf⟩,I.os,I.bare,I.base,I.loc,I.cell,I.free,I.freeC,I.pin,I.hok,I.len⟩
theorem Inv.unheld{p:Addr}(J:X.Ok)(I:Inv (X.held p) pins σ H s):Inv X pins σ H s :=
 ⟨J,I.os,I.bare,I.base,I.loc,I.cell,I.free,I.freeC,I.pin,I.hok,I.len⟩
end
def a8e(K:PySem.W.Frag)(D:Addr)(j:Nat)(tx:TX)(ts:TS):TS:=λDe σ H=>tx De (λσ1 C H'=>ClsX K C [.ref D]/\∀p,H' p=none->ts {nx:=λσ2 H2=>De.nx (σ2.set j none) H2,rt:=λ_ _=>False} (σ1.set j (some (.ref p))) (upd H' p (a4q p C))) σ H
theorem a8O{X:Cx}{body:List Stmt}{tx:TX}{ts:TS}{cx n:Str}{np hpos pos:Pos}{b0:Stmt}{suite:List Stmt}{j:Nat}{D:Addr}(hst:X.stack=X.env::X.outer)(hfr:X.env.frame=some X.env.locals)(hx:PSx X body tx)
  (hg:Gl X cx) (hm:X.mg cx=some (.ref D)) (hD:ClsX X.K D []) (hN:X.N.Nodup) (hj:X.N[j]?=some n) (hk:X.env.scope.names.lookup n=some .local)
  (hsu:∀p,PSs (X.held p) (b0::suite) ts) (hd:(cx==("__debug__" : Str))=false:=by decide) :
  PS X (.Try body [.ExceptHandler (some (.Name cx np)) (some n) (b0::suite) hpos] [] [] pos) (a8e X.K D j tx ts):=by
 intro pins s σ H De I h;refine wpAny_Try_except (wpAny_mono (hx pins s σ H De _ I h) (λf s1 q=>?_) λe s' q=>?_)
 .cases f with
  |next=>exact wpAny_execs_nil q
  |brk=>exact q
  |cont=>exact q
  |ret v=>exact q
 .obtain⟨σ1,H1,s1,p,C,H',B,a0,rfl,I1,hos,hbare,hU,hok,hp,fl,cov,hC,k⟩:=q;have ff:=fl.2.2.1;have fl':=fl;rw[hst]at fl';refine wpAny_looks_onW (L:=X.env.locals) (by rw[<-hst];exact I1.ok.frames) hfr fl' λh4 held4 up4=>?_;refine wpAny_landsW held4 λh5 fl5 up5=>?_;rw[<-hst]at fl5;have up5:=up4.trans up5;have I5:Inv X pins σ1 H' {s' with heap:=h5}:=I1.land hos hbare hU hok ff cov fl5.1 up5;refine wpAny_handleBy_cons (codeAny_handlers_test ?_) (by intro q;cases q);refine V1 (X:=X.held p) (I5.held p) hg hm ?_ hd;obtain⟨oe,hoe,hcl⟩:=fl5.there;obtain⟨nm,q,NN,bs,bm,hdct,sn,sub,ab,col,dd,k0,k1,k2,k3,k5,newId,lkC,_,hup⟩:=hC.ex;obtain⟨nm',q',NN',bs',bm',hdct',sn',sub',ab',col',dd',j0,j1,j2,j3,j5,newId',lkD,hbD,_⟩:=hD.ex;refine a1W (I5.kIn _ _ lkC) (I5.kIn _ _ lkD) hoe hcl hbD (hup _ (List.mem_cons_self ..)) ?_;refine codeAny_handlers_suite_as ?_;refine lands_againW fl5 λh6 fl6 up6=>?_;have I6:Inv X pins σ1 (upd H' p (a4q p C)) {s' with heap:=h6}:=I1.landX hos hbare hU hok hp ff cov fl6 (up5.trans up6);refine Y7 I6 hN hj (.inl hk) (v:=.ref p) rfl (λs7 I7=>?_) (.inr hk);refine wpAny_mono (hsu p pins s7 _ _ _ (I7.held p) (k p hp)) (λf s8 q8=>?_) λ_ _ z=>False.elim z;cases f with
  |next =>
   obtain⟨σ2,H2,I8,q8⟩:=q8;exact a7c (I8.unheld I.ok) hN hj hk λs9 I9=>⟨_,H2,I9,q8⟩
  |brk=>obtain⟨_,_,_,z⟩:=q8;exact False.elim z
  |cont=>obtain⟨_,_,_,z⟩:=q8;exact False.elim z
  |ret v=>obtain⟨_,_,_,_,_,z⟩:=q8;exact False.elim z
def a1X(K:PySem.W.Frag)(C:Addr)(above:List Value):Bool:=match K.lookup C with
 |some ⟨.type "type",_,.cls cd,sl⟩=>(match cd.mro,sl.toList with
  |.ref C'::bm,[_,_,_,_,some (.builtin _),_]=>C'==C && !cd.hasDel && bm.contains (.type "BaseException") && above.all λv=>bm.contains v
  |_,_=>false)
 |_=>false
theorem a3q{K:PySem.W.Frag}{C:Addr}{above:List Value}(q:a1X K C above=true):ClsX K C above:=by
 unfold a1X at q;split at q
 .rename_i dd cd sl ho;split at q
  .rename_i C' bm k0 k1 k2 k3 n k5 hmro hs;simp only[Bool.and_eq_true,beq_iff_eq,Bool.not_eq_true',List.all_eq_true]at q;obtain⟨⟨⟨rfl,hdel⟩,hb⟩,ha⟩:=q;obtain⟨nm,bs,mro,ns,qn,hd,sn,sub,ab,col,del⟩:=cd;dsimp only at hmro hdel;subst hmro hdel;have hsl:sl=#[k0,k1,k2,k3,some (.builtin n),k5]:=by
    obtain⟨l⟩:=sl;simp only at hs;rw[hs]
   subst hsl;exact⟨nm,qn,ns,bs,bm,hd,sn,sub,ab,col,dd,k0,k1,k2,k3,k5,n,ho,hb,λv hv=>ha v hv⟩
  .cases q
 .cases q
structure JX(X:Cx)(sts:List Stmt)(t:TX):Prop where
 h:PSx X sts t
section
variable {X:Cx}{k:Nat}{ps:List Str}{sp:Sp}{x y:Str}{p pos cpos pos':Pos}{e:Expr}{es:List Expr}{t:TA}{i:Nat}
theorem a9w(O:OkE X.prog X.w X.K X.mg X.base x k ps sp)(hr:Room k X.A)(hg:Gl X x)(hN:X.N.Nodup)(hi:X.N[i]?=some y)(hy:Loc X.env.scope y)(ha:JA X (e::es) t)(hx0:∀e s,¬X.xe e s:=by exact λ_ _ z=>z)(hdb:(x==("__debug__" : Str))=false:=by decide)
  (he:starEach (e::es) X.env=(false,eval e X.env)::starEach es X.env:=by rfl) (hpl:(backTo cpos (starEach es X.env)).any (·.1)=false:=by rfl)
  (hs:swapsWith (.Call (.Name x p) (e::es) [] cpos) (some (.Name y pos')) pos.line X.env=pure false:=by rfl) (hf:X.fn y=true∨X.env.scope.names.lookup y=some .local:=by first|exact .inl rfl|exact .inr rfl|assumption) :
  JX X [.Assign [.Name y pos'] (.Call (.Name x p) (e::es) [] cpos) pos] (b2n i sp t):=⟨b0R hx0 O hr hg hN hi hy ha.h hdb he hpl hs hf⟩
theorem a9z(K:PySem.W.Frag){body:List Stmt}{tx:TX}{ts:TS}{cx n:Str}{np hpos pos:Pos}{b0:Stmt}{suite:List Stmt}{j:Nat}{D:Addr}(hx:JX X body tx)(hg:Gl X cx)(hm:X.mg cx=some (.ref D))(hD:ClsX K D [])(hN:X.N.Nodup)(hj:X.N[j]?=some n)
  (hk:X.env.scope.names.lookup n=some .local) (hsu:∀p,JB (X.held p) (b0::suite) ts) (hK:X.K=K:=by rfl) (hst:X.stack=X.env::X.outer:=by rfl) (hfr:X.env.frame=some X.env.locals:=by rfl) (hd:(cx==("__debug__" : Str))=false:=by decide) :
  JS X (.Try body [.ExceptHandler (some (.Name cx np)) (some n) (b0::suite) hpos] [] [] pos) (a8e K D j tx ts):=by
 subst hK;exact⟨a8O hst hfr hx.h hg hm hD hN hj hk (λp=>(hsu p).h) hd⟩
end
theorem a4k{P:Program}{w:World}{K:PySem.W.Frag}{mg:Str->Option Value}{base:Heap}{N:List Str}{qual:Str}{scope:Scope}{f:Addr}{cd:Value}{A:Around}{outer:List Env}{s0:Shared}{H0:Hp}{E:XK}
  {x:Str}{C:Addr}{bmB bmN:List Value}{B Bn newId nid initId inN:String}{e:Expr}{es:List Expr}{t:TA}{np cpos pos:Pos}
  (O:OwnCls x C bmB newId mg base) (Fn:ExcBaseFacts Bn newId inN bmN) (hBn:bmB.contains (.type Bn)=true) (FB:ExcBaseFacts B nid initId bmB)
  (hg:Gl (G2 (CXE P w) P w K mg base N qual scope f cd A outer s0 H0 E) x)
  (ha:JA (G2 (CXE P w) P w K mg base N qual scope f cd A outer s0 H0 E) (e::es) t) (hd:(x==("__debug__" : Str))=false:=by decide)
  (he:starEach (e::es) (envOfC qual scope s0.heap.objs.size f cd)=(false,eval e (envOfC qual scope s0.heap.objs.size f cd))::starEach es (envOfC qual scope s0.heap.objs.size f cd):=by rfl)
  (hpl:(backTo cpos (starEach es (envOfC qual scope s0.heap.objs.size f cd))).any (·.1)=false:=by rfl) :
  JS (G2 (CXE P w) P w K mg base N qual scope f cd A outer s0 H0 E) (.Raise (some (.Call (.Name x np) (e::es) [] cpos)) none pos) (a8g C E t):=⟨a8P O Fn hBn FB hg ha.h hd he hpl⟩
end L2
namespace L2
open PySem PySem.Spec PyProof.Rows PySem.W Builtin Builtin.ObjectAttr Builtin.Getset_descriptor
section
variable {K:PySem.W.Frag}{prog:Program}{w:World}{A:Around}{E:Value->Shared->Prop}{h:Heap}{g:Array GenState}{d:Drawn}{t:Nat}{os:OsState}{a:Addr}{o:Obj}
 {nm q:Str}{C N:Addr}{bs bm:List Value}{hdct:Bool}{sn:List Str}{sub:List Value}{ab:Bool}{col:Option Bool}{dd:Option Addr}{k0 k1 k2 k3 k5:Option Value}{newId:String}
theorem a7R{M:Model}{nameV:Value}{Q:Unit->Shared->Prop}(hC:h.get? C=some (excClassObj nm q C N bs bm hdct sn sub ab col dd k0 k1 k2 k3 k5 newId))(hb:bm.contains (.type "BaseException")=true)
  (hx:h.get? a=some o) (hc:o.cls=.ref C) (hq:Q () ⟨h,g,d,t,os⟩):wpAny M A (checkBuiltinCall "BaseException.__getattribute__" ⟨[.ref a,nameV],[]⟩) Q E ⟨h,g,d,t,os⟩:=by
 have hk:builtinKind "BaseException.__getattribute__"=some .slot:=by decide +kernel
 have hsplit:splitId "BaseException.__getattribute__"=some ("BaseException","__getattribute__"):=by decide +kernel
 have hcB:(Value.ref C::bm).contains (.type "BaseException")=true:=by rw[List.contains_cons,hb];rfl
 have ha:=F.args_bexc_ga (.ref a) nameV;simp only[checkBuiltinCall,hk,hsplit];refine wpAny_bind ?_
 .unfold isInstance
  repeat (first | (with_reducible refine wpAny_loadPart_at hx ?_;rw[hc]) | (with_reducible refine wpAny_isSubtype_exc hC ?_;rw[hcB])|wp_step)
  exact hq
theorem a5A{M:Model}(hx:h.get? a=some o)(hc:o.cls=.ref C):Looks M h (typeOf (.ref a)) (.ref C):=hc ▸ (Looks.ld hx).andThen .now
theorem b2X{R:Result->Shared->Prop}{tp:Value}(X:K.In h)(hx:h.get? a=some o)(hc:o.cls=.ref C)(hm:mroIn K C (.type "object")=some true)(hq:R (.ok (.ret (.ref C))) ⟨h,g,d,t,os⟩) :
  codeAny (model prog w) A (.call (.builtin "getset_descriptor.__get__") ⟨[.builtin "object.__class__",.ref a,tp],[]⟩) R ⟨h,g,d,t,os⟩:=by
 have L0:=a5A (M:=model prog w) hx hc;have L1:=looks_mroIn (M:=model prog w) X hm;refine codeAny_call_builtin KF.slot_gs.plain KF.entry_gs (KF.slot_gs.check _ _ _ _ _ _ _ _ KF.type_class (KF.args_gs _ _ _) ?_);unfold Builtin.«getset_descriptor.__get__» descrGet;rw[dga_obj];refine wpAny_bind (wpAny_pure ?_);unfold descrGetter descrCheckInstance descrNameAndClass isInstance;simp only[KF.owner_class]
 repeat lk
 refine⟨Code.quiet_builtin _ (by decide +kernel),codeAny_builtin KF.entry_class ?_⟩;unfold Builtin.«object.__class__» shownTypeOf
 repeat lk
 exact hq
theorem a7Q{tk:Tok}{Q:Fin->Shared->Prop}(X:K.In h)(hm:mroIn K C (.type "object")=some true)(hcl:findIn K (.ref C) "__class__"=some (some (.builtin "object.__class__")))(hx:h.get? a=some o)(hc:o.cls=.ref C)(hq:Q (.done (.ret (.ref C))) ⟨h,g,d,t,os⟩) :
  wpAny (model prog w) A (Builtin.«object.__getattribute__» ⟨[.ref a,.str "__class__" tk],[]⟩) Q E ⟨h,g,d,t,os⟩:=by
 have L:=looks_findIn (M:=model prog w) X hcl;have f6:=F.slot_gs_get.lookup;have f7:=F.slot_gs_set.lookup;have f5:=KF.type_class
 repeat (any_goals (first|assumption | (with_reducible refine wpAny_loadPart_at hx ?_;rw[hc])|with_reducible refine L.at ?_|wp_step))
 refine b2X X hx hc hm ?_
 repeat (any_goals (first|assumption|wp_step))
theorem b0s{Q:Option Value->Shared->Prop}(X:K.In h)(hC:h.get? C=some (excClassObj nm q C N bs bm hdct sn sub ab col dd k0 k1 k2 k3 k5 newId))(hb:bm.contains (.type "BaseException")=true)(hm:mroIn K C (.type "object")=some true)
  (hcl:findIn K (.ref C) "__class__"=some (some (.builtin "object.__class__"))) (hga:findIn K (.ref C) "__getattribute__"=some (some (.builtin "BaseException.__getattribute__"))) (hgr:findIn K (.ref C) "__getattr__"=some none)
  (hx:h.get? a=some o) (hc:o.cls=.ref C) (hq:Q (some (.ref C)) ⟨h,g,d,t+1,os⟩):wpAny (model prog w) A (getAttr? (.ref a) "__class__") Q E ⟨h,g,d,t,os⟩:=by
 have L1:=looks_findIn (M:=model prog w) X hga;have L2:=looks_findIn (M:=model prog w) X hgr;have FB:=PySem.F.attrBase_ValueError;have f3:=FB.ga.bind (.ref a);have hx2:(Value.builtin "BaseException.__getattribute__"==Value.builtin "object.__getattribute__")=false:=by decide +kernel
 have hx1:(onTheHeap (Value.ref C) && Value.builtin "BaseException.__getattribute__"==Value.builtin "object.__getattribute__")=false:=by rw[hx2];rfl
 unfold getAttr? getAttrBy? getAttrBy
 repeat (any_goals (first|assumption | (with_reducible refine wpAny_loadPart_at hx ?_;rw[hc])|with_reducible refine L1.at ?_|with_reducible refine L2.at ?_|wp_step))
 refine codeAny_call_builtin FB.ga.plain F.entry_bexc_ga (a7R hC hb hx hc (a7Q X hm hcl hx hc ?_));exact handed_on rfl (wpAny_pure hq)
structure IsX(K:PySem.W.Frag)(C:Addr):Prop where
 cls:ClsX K C []
 mro:mroIn K C (.type "object")=some true
 cl:findIn K (.ref C) "__class__"=some (some (.builtin "object.__class__"))
 ga:findIn K (.ref C) "__getattribute__"=some (some (.builtin "BaseException.__getattribute__"))
 gr:findIn K (.ref C) "__getattr__"=some none
theorem a1F(Z:IsX K C):KitX K (.ref a) (.ref C) (λh=>∃o,h.get? a=some o/\o.cls=.ref C) where
 ty:=λ_ _ _ ⟨o,hx,hc⟩=>a5A hx hc
 it:=λ_ _ X _=>by
  obtain⟨nm,q,N,bs,bm,hdct,sn,sub,ab,col,dd,k0,k1,k2,k3,k5,newId,lk,_⟩:=Z.cls.ex;intro A' Q' E' s' k q;unfold isType loadHead;exact wpAny_bind (wpAny_loadPart (k _ _ (X _ _ lk)) (wpAny_pure q))
 ne:=λh tp dd its n sl X htp=>by
  obtain⟨nm,q,N,bs,bm,hdct,sn,sub,ab,col,dd,k0,k1,k2,k3,k5,newId,lk,_⟩:=Z.cls.ex;refine Bool.eq_false_iff.mpr λq=>?_;have e:C=tp:=Value.ref.inj (beq_iff_eq.mp q);subst e;have z:=congrArg Obj.data (Option.some.inj ((X _ _ lk).symm.trans htp));unfold excClassObj at z;cases z
 ca:=λ{prog w A E Q s} X ⟨o,hx,hc⟩ hq=>by
  obtain⟨nm,q,N,bs,bm,hdct,sn,sub,ab,col,dd,k0,k1,k2,k3,k5,newId,lk,hb,_⟩:=Z.cls.ex;obtain⟨h,g,d,t,os⟩:=s;exact b0s X (X _ _ lk) hb Z.mro Z.cl Z.ga Z.gr hx hc hq
end
section
variable {X:Cx}{es:List Expr}{e:Expr}{t:TA}{pos p:Pos}
def b5g(K:PySem.W.Frag):RL:=λxs H Q=>∃(p C:Addr) (vc:V) (b:Bool),xs=[.ref p,vc]/\H p=some (a4q p C)/\IsX K C /\
 ((∃n,vc=.ty n/\kitOne K (.ref C) (.type n)=some b)∨(∃D,vc=.ref D/\kitOne K (.ref C) (.ref D)=some b)∨∃(tp:Addr) (Ds:List Addr),vc=.ref tp/\H tp=some (.tup (Ds.map V.ref))/\kitAny K (.ref C) (Ds.map Value.ref)=some b)/\Q (.bl b) H
theorem a2i:∀{Ds:List Addr}{us:List Value},Vals (Ds.map V.ref) us->us=Ds.map Value.ref
 |[],_,.nil=>rfl
 |D::Ds,_,.cons r t=>by
  have:=a2i t;subst this;cases r;rfl
theorem b0d(K:PySem.W.Frag)(hK:X.K=K:=by rfl):C8 X (.builtin "isinstance") (b5g K):=by
 subst hK;intro pins s σ H xs us Q I rv h;obtain⟨p,C,vc,b,rfl,hp,Z,hc,q⟩:=h;obtain⟨u,v,rfl,ru,rv'⟩:=rv.two;cases ru;have hx:∃o,s.heap.get? p=some o/\o.cls=.ref C:=(I.hok p _ hp).1;rcases hc with⟨n,rfl,e⟩|⟨D,rfl,e⟩|⟨tp,Ds,rfl,htp,e⟩
 .cases rv';exact kia_one (a1F Z) I.kIn hx e (λz=>nomatch z) λtk=>⟨.bl b,H,I.tok tk,rfl,q⟩
 .cases rv';exact kia_one (a1F Z) I.kIn hx e (λz=>nomatch z) λtk=>⟨.bl b,H,I.tok tk,rfl,q⟩
 .cases rv';obtain⟨_,its,r,ob,e1,e2,e3⟩:=(show ObjOk X.prog X.w H s.heap tp (.tup (Ds.map V.ref))from I.hok tp _ htp);have:=a2i r;subst this;obtain⟨oc,od,oda,osl⟩:=ob;obtain⟨n,e3⟩:=e3;cases e2;cases e3;exact kia_tup (a1F Z) I.kIn hx e1 e (λz=>nomatch z) λtk=>⟨.bl b,H,I.tok tk,rfl,q⟩
theorem N1(K:PySem.W.Frag)(hg:Gl X "isinstance")(hm:X.mg "isinstance"=none)(ha:JA X (e::es) t)(hK:X.K=K:=by rfl)(he:starEach (e::es) X.env=(false,eval e X.env)::starEach es X.env:=by rfl)(hpl:(backTo pos (starEach es X.env)).any (·.1)=false:=by rfl) :
  JE X (.Call (.Name "isinstance" p) (e::es) [] pos) (tCB (b5g K) t):=⟨C9 (b0d K hK) hg hm W3 ha.h (by decide) (by decide) he hpl⟩
theorem a1M{x:Str}{v:V}{u:Value}(hg:Gl X x)(hm:X.mg x=some u)(r:RelV v u)(hd:(x==("__debug__" : Str))=false:=by decide):JE X (.Name x pos) (tC v):=⟨b1m hg hm r hd⟩
end
end L2
namespace L2
open PySem PySem.Spec PyProof.Rows
theorem a1Q{α:Type}{ca:α->V}{xs:List α}{i:Nat}{x:V}(h:(xs.map ca)[i]?=some x):∃z,xs[i]?=some z/\x=ca z:=by
 rw[List.getElem?_map]at h;cases e:xs[i]? with
 |none=>rw[e]at h;cases h
 |some z=>rw[e]at h;exact⟨z,rfl,(Option.some.inj h).symm⟩
theorem b0q{α β:Type}{K:PySem.W.Frag}{src:List (Option Nat)}{σ caps:St}{Q:VK}{k1 k2:Bool}{a b:Addr}(ca:α->V)(cb:β->V){xs:List α}{ys:List β}{H:Hp}{te:TE}(f:α->β->V)(hl:xs.length<=1000)
  (hmono:∀H',Same H H'->SqK k1 K H' a (xs.map ca)/\SqK k2 K H' b (ys.map cb))
  (hsrc:C1 src σ=none::none::caps) (hte:∀x y H1 Q1,x∈xs->y∈ys->Same H H1->(∀H2,Same H1 H2->Q1 (f x y) H2)->te (some (ca x)::some (cb y)::caps) H1 Q1)
  (hd:∀H1 p,Same H H1->H1 p=none->Q (.ref p) (upd H1 p (.lst (List.zipWith f xs ys)))) :
  T7 src (a9Q K 2 (a2x (A8 0) (a2x (A8 1) b1V))) a1m te σ Q (Itz K k1 k2 a b) H:=by
 have hz:(1000:Nat)<=sizeLine:=by rw[sizeLine_eq];decide
 refine a4t (xs:=xs.map ca) (zs:=ys.map cb) (by rw[List.length_map];omega) (λi zs H'=>Same H H'/\zs=(List.zipWith f xs ys).take i) ⟨Same.refl H,by simp⟩ (λi zs H' _ _ h=>⟨(hmono H' h.1).1,(hmono H' h.1).2,by rw[h.2];exact List.length_take_le _ _⟩) ?_ ?_
 .rintro i x z zs H' p hx hy ⟨s,rfl⟩ hp;obtain⟨x',hx',e1⟩:=a1Q hx;obtain⟨z',hy',e2⟩:=a1Q hy;subst e1 e2;clear hx hy;have s':Same H (upd H' p (.tup [ca x',cb z'])):=s.upd hp;refine⟨p,[ca x',cb z'],rfl,SqT.of A0,rfl,ca x',[cb z'],rfl,cb z',[],rfl,rfl,?_⟩;rw[hsrc];show Sub _ (some (ca x')::some (cb z')::caps)/\_;refine⟨⟨rfl,λj v e=>?_⟩,?_⟩
  .match j,e with
   |0,e=>cases e
   |1,e=>cases e
   |j+2,e=>exact e
  .exact hte x' z' _ _ (List.mem_of_getElem? hx') (List.mem_of_getElem? hy') s' λH2 s2=>⟨s'.trans s2,(X9 f hx' hy').symm⟩
 .rintro zs H' ⟨s,rfl⟩ p hp;have e:(List.zipWith f xs ys).take (min (xs.map ca).length (ys.map cb).length)=List.zipWith f xs ys:=by
   rw[List.length_map,List.length_map,List.take_of_length_le];rw[List.length_zipWith];exact Nat.le_refl _
  rw[e];exact hd H' p s hp
theorem a0g{α:Type}{K:PySem.W.Frag}{src:List (Option Nat)}{σ caps:St}{Q:VK}{a:Addr}(ca:α->V){xs:List α}{H:Hp}{tt:TT}(t:α->Bool)(hl:xs.length<=1000)(hmono:∀H',Same H H'->SqT K H' a (xs.map ca))(hsrc:C1 src σ=none::caps)
  (htt:∀x H1 (Q1:Bool->Hp->Prop),x∈xs->Same H H1->(∀H2,Same H1 H2->Q1 (t x) H2)->tt (some (ca x)::caps) H1 Q1) (hd:∀H1 p,Same H H1->H1 p=none->Q (.ref p) (upd H1 p (.lst ((xs.filter t).map ca)))):T7 src (A8 0) tt (Y0 0) σ Q (Itt K a) H:=by
 have hz:(1000:Nat)<=sizeLine:=by rw[sizeLine_eq];decide
 refine a0c (xs:=xs.map ca) (by rw[List.length_map];omega) (λi ys H'=>Same H H'/\ys=((xs.take i).filter t).map ca) ⟨Same.refl H,by simp⟩ (λi ys H' _ h=>⟨hmono H' h.1,by rw[h.2,List.length_map];exact Nat.le_trans (List.length_filter_le _ _) (List.length_take_le _ _)⟩) ?_ ?_
 .rintro i x ys H' hx ⟨s,rfl⟩;obtain⟨z,hz',rfl⟩:=a1Q hx;show Sub _ ((C1 src σ).set 0 (some (ca z)))/\_;rw[hsrc];refine⟨Sub.one,htt z H' _ (List.mem_of_getElem? hz') s λH2 s2=>?_⟩;rw[List.take_add_one,hz'];cases e:t z with
  |true=>exact⟨_,rfl,s.trans s2,by simp[e]⟩
  |false=>exact⟨s.trans s2,by simp[e]⟩
 .rintro ys H' ⟨s,rfl⟩ p hp;rw[List.length_map,List.take_length];exact hd H' p s hp
theorem b5o{P:Program}{w:World}{K:PySem.W.Frag}{mg:Str->Option Value}{base:Heap}{N:List Str}{qual:Str}{scope:Scope}{f:Addr}{cd:Value}{A:Around}{outer:List Env}{s0:Shared}{H0:Hp}{E:XK} :
  X4 (CXE P w) (G2 (CXE P w) P w K mg base N qual scope f cd A outer s0 H0 E) E:=by
 intro pins σ H1 s1 e s' I h;obtain⟨p,C,H',B,a0,rfl,hos,hg,hU,hok,hp,fly,cov,q⟩:=h;have I2:=I.land hos hg hU hok fly.2.2.1 cov fly.1 (λb o e _=>⟨o.slots,e⟩);refine wpAny_leaves_onW (base:=B) I.ok.frames rfl fly λh' x1 x4=>?_;have hsub:∀b∈frs outer,b∈frs (envOfC qual scope s0.heap.objs.size f cd::outer):=λb hb=>by
  obtain⟨env,h1,h2⟩:=List.mem_filterMap.mp hb;exact List.mem_filterMap.mpr ⟨env,List.mem_cons_of_mem _ h1,h2⟩
 have hnot:∀b,b∉frs outer->b≠s0.heap.objs.size->b∉frs (envOfC qual scope s0.heap.objs.size f cd::outer):=λb h1 h2 h3=>by
  obtain⟨env,q1,q2⟩:=List.mem_filterMap.mp h3;rcases List.mem_cons.mp q1 with rfl|q1
  .exact h2 (Option.some.inj q2).symm
  .exact h1 (List.mem_filterMap.mpr ⟨env,q1,q2⟩)
 have cov1:Cov outer H' s0.heap s'.heap B:=λb o eb nb hb=>by
  refine cov b o eb (hnot b nb λz=>?_) ?_
  .subst z;rcases hb with hb|⟨o',hb⟩
   .exact hb I2.free
   .exact absurd (Heap.lt_size hb) (Nat.lt_irrefl _)
  .rcases hb with hb|⟨o',hb⟩
   .exact .inl hb
   .exact .inr (I.base.there b o' hb (λz=>nomatch z))
 obtain⟨U2,ok2,cov2⟩:=a0b (P:=P) (w:=w) (l:=outer) (H:=H0) (H':=H') (h0:=s0.heap) (h1:=s'.heap) (h2:=h') I2.base hok cov1 x1.1 x4 I2.funs λb hb=>I2.stkFree b (hsub b hb);exact⟨p,C,H',B,a0,rfl,I2.os,hg,U2,ok2,hp,x1,cov2,q⟩
theorem b2g{rss qss:LLI}:((List.range (min rss.length qss.length)).all (λj=>decide (rss.getD j []=qss.getD j [])) && rss.length==qss.length)=decide (rss=qss):=by
 rw[Bool.eq_iff_iff];simp only[Bool.and_eq_true,List.all_eq_true,List.mem_range,decide_eq_true_eq,beq_iff_eq];constructor
 .rintro⟨h1,h2⟩;refine List.ext_getElem h2 λi a b=>?_;have:=h1 i (by omega);simpa[List.getD_eq_getElem?_getD,a,b]using this
 .rintro rfl;exact⟨λ_ _=>rfl,rfl⟩
theorem EqV.its{K:PySem.W.Frag}{H:Hp}{k:Bool}{a b:Addr}{vs ws:List V}{rss qss:LLI}(ha:SqK k K H a vs)(hb:SqK k K H b ws)(h1:Its H vs rss)(h2:Its H ws qss):EqV K H 2 (.ref a) (.ref b) (decide (rss=qss)):=by
 have step:∀j x y,vs[j]?=some x->ws[j]?=some y->EqV K H 1 x y (decide (rss.getD j []=qss.getD j [])):=λj x y hx hy=>by
  obtain⟨r,er,ra,rfl,hr⟩:=h1.2 j x hx;obtain⟨q,eq,qa,rfl,hq⟩:=h2.2 j y hy;rw[List.getD_eq_getElem?_getD,List.getD_eq_getElem?_getD,er,eq];exact EqV.ints (k:=true) (SqT.of hr) (SqT.of hq)
 rw[<-b2g,<-h1.1,<-h2.1];cases k
 .exact EqV.lst (λj=>decide (rss.getD j []=qss.getD j [])) ha hb step
 .exact EqV.tup (λj=>decide (rss.getD j []=qss.getD j [])) ha hb step
theorem Its.put{H:Hp}{vs:List V}{rss:LLI}{c:Addr}{xs:List V}{o:HO}(h:Its H vs rss)(hc:H c=some (.lst xs)):Its (upd H c o) vs rss:=⟨h.1,λi v e=>let ⟨r,e1,a,e2,q⟩:=h.2 i v e;⟨r,e1,a,e2,by rw[A3 (L6 q hc (by intro z;cases z))];exact q⟩⟩
open _root_.HT
section
variable {prog:Program}{w:World}{A:Around}{E:Value->Shared->Prop}{s:Shared}
end
section
variable {X:Cx}{e:Expr}{te:TE}{lo hi:Option Expr}{tl th:TO}{pos p2:Pos}
theorem a4I(l:Addr)(items:Array Value)(n:Nat)(dd:Option Addr)(sl:Array (Option Value))(u:Tok)(he:items.isEmpty=false) :
  Meets (Builtin.«tuple.__mul__» ⟨[.ref l,.int 0 u],[]⟩) (λ_ R s=>s.heap.get? l=some {cls:=.type "tuple",dict:=dd,data:=.seq items n,slots:=sl}/\R (.ok (.ret (.ref s.heap.objs.size))) {s with heap:=s.heap.push {cls:=.type "tuple",data:=.seq #[]}}) :=
 .of_wp λprog w A R s h=>by
  obtain⟨hp,g,d,tk,os⟩:=s;obtain⟨hl,h⟩:=h;have f1:=AutoSeq1.idx_int;have e3:¬((items.isEmpty || (0:Int)==1)=true):=by rw[he];decide
  wp_walk using PySem.AutoSeq1.wpAny_loadPart' hl
  exact⟨_,rfl,h⟩
def b2C:R2:=λx y H Q=>∃a xs n,x=.ref a/\y=.int n/\H a=some (.tup xs)/\xs≠[]/\0<=n/\(xs.length:Int)*n<=(sizeLine:Int)/\∀p H',Same H H'->H' p=some (.tup (List.replicate n.toNat xs).flatten)->Q (.ref p) H'
theorem b1r:OpR X (binaryOp .Mult) b2C:=by
 intro pins s σ H x y v u Q I rx ry h;obtain⟨a,xs,n,rfl,rfl,ha,hne,hn,hz,q⟩:=h;by_cases h0:n=0
 .subst h0;cases rx;obtain⟨t,rfl⟩:=ry;obtain⟨its,r,p1,hzl⟩:=I.tuple (.inl (.inl ha));obtain⟨⟨cls,dd,data,sl⟩,ho,hc,m,hd⟩:=id p1;simp only at hc hd;subst hc hd;have hlen:=r.length;have hpos:0<its.length:=by rw[<-hlen];exact List.length_pos_iff.mpr hne
  refine wpAny_binaryOp_repeat_ref (T:="tuple") (U:="int") (by decide) ⟨_,ho,rfl⟩ (λs'=>typeIs_int s' 0 t) P9 F.fills_int_mul F.slot_int_rmul Z5 F.slot_int_index.lookup
   (call_meets F.slot_int_rmul (typeIs_int s 0 t) F.entry_int_rmul (F.args_int_rmul_2 _ _) (a1t 0 t a its.toArray m dd sl) ⟨ho,rfl,⟨_,ho,rfl⟩,?_⟩)
  refine call_meets F.slot_tuple_mul ⟨_,ho,rfl⟩ F.entry_tuple_mul (F.args_tuple_mul_2 _ _) (a4I a its.toArray m dd sl t (by simp;intro z;rw[z]at hpos;exact Nat.lt_irrefl _ hpos)) ⟨ho,?_⟩;have hf:H s.heap.objs.size=none:=I.hok.fresh (Nat.le_refl _);refine⟨.ref s.heap.objs.size,_,I.laid (t':=s.toks) (o:=.tup []) (λb ob q=>Heap.get?_push_of_some _ q) (Nat.le_refl _) ?_,rfl,q _ _ (λc o e=>by rw[A3 (A6 e hf)];exact e) A0⟩;exact⟨Nat.zero_le _,[],.nil,IsTup.new _ _⟩
 .exact a6b pins s σ H (.ref a) (.int n) v u Q I rx ry ⟨a,xs,n,rfl,rfl,ha,hne,by omega,hz,q⟩
theorem a9F{a b:Expr}{ta tb:TE}(ha:JE X a ta)(hb:JE X b tb):JE X (.BinOp a .Mult b pos) (tOp b2C ta tb):=⟨W1 b1r ha.h hb.h⟩
def b3s(K:PySem.W.Frag)(neg:Bool):R2:=λx y H Q=>∃(a p:Addr) (ns:List Int) (k:Bool) (vs:List V) (rss:LLI),x=.ref a/\H a=some (.tup (ns.map V.int))/\y=.ref p/\SqK k K H p vs/\Its H vs rss/\Q (.bl (if neg then !decide (ns∈rss)else decide (ns∈rss))) H
noncomputable def eqI(H:Hp)(ns:List Int):Value->Bool
 |.ref b=>match H b with|some (.tup xs)=>decide (xs=ns.map V.int)|_=>false
 |_=>false
theorem a3Y{a b:List Int}:a.map V.int=b.map V.int↔a=b:=by
 constructor
 .intro h;induction a generalizing b with
  |nil=>cases b with
   |nil=>rfl
   |cons _ _=>cases h
  |cons x a ih=>cases b with
   |nil=>cases h
   |cons y b =>
    rw[List.map_cons,List.map_cons]at h;injection h with h1 h2
    injection h1 with h1
    rw[h1,ih h2]
 .rintro rfl;rfl
theorem a3n{H:Hp}{ns q:List Int}{b:Addr}(hb:H b=some (.tup (q.map V.int))):eqI H ns (.ref b)=decide (q=ns):=by
 show(match H b with|some (.tup xs)=>decide (xs=ns.map V.int)|_=>false)=_;rw[hb];exact decide_eq_decide.mpr a3Y
theorem a1d{H:Hp}{ns:List Int}{vs:List V}{rss:LLI}{us:List Value}(h:Its H vs rss)(r:Vals vs us):us.any (eqI H ns)=decide (ns∈rss):=by
 rw[Bool.eq_iff_iff,List.any_eq_true,decide_eq_true_eq];constructor
 .rintro⟨u,hu,e⟩;obtain⟨i,hi,rfl⟩:=List.mem_iff_getElem.mp hu;have hl:=r.length;obtain⟨y,hy⟩:∃y,vs[i]?=some y:=⟨vs[i],List.getElem?_eq_getElem (by omega)⟩;obtain⟨q,eq,b,rfl,hb⟩:=h.2 i y hy;obtain⟨u',e1,e2⟩:=r.get hy;rw[List.getElem?_eq_getElem hi]at e1;cases e1;have e2':us[i]=.ref b:=e2;rw[e2']at e;rw[a3n hb]at e;have:=of_decide_eq_true e;subst this;exact List.mem_of_getElem? eq
 .intro hm;obtain⟨i,hi,rfl⟩:=List.mem_iff_getElem.mp hm;obtain⟨y,hy⟩:∃y,vs[i]?=some y:=⟨vs[i]'(by rw[h.1];exact hi),List.getElem?_eq_getElem (by rw[h.1];exact hi)⟩;obtain⟨q,eq,b,rfl,hb⟩:=h.2 i y hy;rw[List.getElem?_eq_getElem hi]at eq;cases eq;obtain⟨u',e1,e2⟩:=r.get hy;have e2':u'=.ref b:=e2;subst e2';refine⟨_,List.mem_of_getElem? e1,?_⟩;rw[a3n hb];exact decide_eq_true rfl
theorem a0X{A:Around}{H:Hp}{s:Shared}{pins:List (Addr×Obj)}{σ:St}{a:Addr}{ns:List Int}{vs:List V}{rss:LLI}{us:List Value}(hu:A.units+1<cLine)(I:Inv X pins σ H s)(ha:H a=some (.tup (ns.map V.int)))(h:Its H vs rss)(r:Vals vs us):∀u∈us,SeqAt.EqAt A s u (.ref a) (eqI H ns u):=by
 intro u hu';obtain⟨i,hi,rfl⟩:=List.mem_iff_getElem.mp hu';have hl:=r.length;obtain⟨y,hy⟩:∃y,vs[i]?=some y:=⟨vs[i],List.getElem?_eq_getElem (by omega)⟩;obtain⟨q,eq,b,rfl,hb⟩:=h.2 i y hy;obtain⟨u',e1,e2⟩:=r.get hy;rw[List.getElem?_eq_getElem hi]at e1;cases e1;have e2':us[i]=.ref b:=e2;rw[e2'];rw[a3n hb];exact(EqV.ints (K:=X.K) (k:=true) (SqT.of hb) (SqT.of ha)).at I hu rfl rfl
theorem b5L(K:PySem.W.Frag)(hu:X.A.units+60<cLine)(hK:X.K=K:=by rfl):OpR X (compareOp .In) (b3s K false):=by
 subst hK;intro pins s σ H x y v u Q I rx ry h;obtain⟨a,p,ns,k,vs,rss,rfl,ha,rfl,hq,hI,q⟩:=h;cases rx;cases ry;cases k
 .obtain⟨its,r,pl,hz⟩:=I.list hq;refine SeqAt.in_listAt (eqI H ns) pl.isList (λw hw=>a0X (by have:X.A.in1.units=X.A.units+1:=rfl;omega) I ha hI r w (by simpa using hw)) ⟨.bl _,H,I,rfl,?_⟩;rw[show its.toArray.any (eqI H ns)=its.any (eqI H ns) by simp,a1d hI r];exact q
 .obtain⟨its,r,pl,hz⟩:=I.tuple hq;refine SeqAt.in_tupleAt (eqI H ns) pl (λw hw=>a0X (by have:X.A.in1.units=X.A.units+1:=rfl;omega) I ha hI r w (by simpa using hw)) ⟨.bl _,H,I,rfl,?_⟩;rw[show its.toArray.any (eqI H ns)=its.any (eqI H ns) by simp,a1d hI r];exact q
theorem a6U(K:PySem.W.Frag)(hu:X.A.units+60<cLine)(hK:X.K=K:=by rfl):OpR X (compareOp .NotIn) (b3s K true):=by
 subst hK;intro pins s σ H x y v u Q I rx ry h;obtain⟨a,p,ns,k,vs,rss,rfl,ha,rfl,hq,hI,q⟩:=h;cases rx;cases ry;cases k
 .obtain⟨its,r,pl,hz⟩:=I.list hq;refine SeqAt.notIn_listAt (eqI H ns) pl.isList (λw hw=>a0X (by have:X.A.in1.units=X.A.units+1:=rfl;omega) I ha hI r w (by simpa using hw)) ⟨.bl _,H,I,rfl,?_⟩;rw[show its.toArray.any (eqI H ns)=its.any (eqI H ns) by simp,a1d hI r];exact q
 .obtain⟨its,r,pl,hz⟩:=I.tuple hq;refine SeqAt.notIn_tupleAt (eqI H ns) pl (λw hw=>a0X (by have:X.A.in1.units=X.A.units+1:=rfl;omega) I ha hI r w (by simpa using hw)) ⟨.bl _,H,I,rfl,?_⟩;rw[show its.toArray.any (eqI H ns)=its.any (eqI H ns) by simp,a1d hI r];exact q
theorem a2u(K:PySem.W.Frag){a b:Expr}{ta tb:TE}(hu:X.A.units+60<cLine)(ha:JE X a ta)(hb:JE X b tb)(hm:behindInMarks .NotIn b=false)(hK:X.K=K:=by rfl):JT X (.Compare a [.NotIn] [b] pos) (S5 (tOp (b3s K true) ta tb)):=⟨M3 (a6U K hu hK) ha.h hb.h hm⟩
end
end L2
namespace L2
open PySem PySem.Spec PyProof.Rows
section
variable {X:Cx}
end
section
variable {X:Cx}
end
section
variable {prog:Program}{w:World}{A:Around}{E:Value->Shared->Prop}{s:Shared}{k:Bool}
theorem a7q{e it l:Addr}{i:Nat}{items:Array Value}{x old:Value}{Q:Value->Shared->Prop}(he:IsEnum s.heap e it (i:Int) old)(hit:ItAt k s.heap it l i)(hl:SqAt k s.heap l items)(hx:items[i]?=some x)(ne:e≠it)
  (hQ:∀(h':Heap) (t:Tok) (tk:Nat),IsEnumOut h' e it ((i:Int)+1) x s.heap.objs.size->ItAt k h' it l (i+1)->h'.get? s.heap.objs.size=some {cls:=.type "tuple",data:=.seq #[.int i t,x]}->h'.objs.size=s.heap.objs.size+1 ->
   (∀b o,b≠e->b≠it->s.heap.get? b=some o->h'.get? b=some o)->Q (.ref s.heap.objs.size) {s with heap:=h',toks:=tk}) :
  wpAny (model prog w) A (Builtin.«enumerate.__next__» ⟨[.ref e],[]⟩) (λfin s'=>∃v,fin=.done (.ret v)/\Q v s') E s:=by
 show wpAny _ _ (field (.ref e) 2>>=_) _ _ _;refine wpAny_bind (wpAny_field he rfl (x:=.ref it) rfl ?_);refine wpAny_bind (Y8 hit hl hx λh1 it1 hs1=>?_);have he1:IsEnum h1 e it (i:Int) old:=hs1.extBut _ _ ne he;show wpAny _ _ (field (.ref e) 3>>=_) _ _ _;refine wpAny_bind (wpAny_field he1 rfl (x:=rawInt i) rfl ?_);show wpAny _ _ (field (.ref e) 4>>=_) _ _ _;refine wpAny_bind (wpAny_field he1 rfl (x:=.none) rfl ?_);show wpAny _ _ (if (Value.none==Value.none)=true then _ else _) _ _ _;rw[if_pos (by decide)];refine wpAny_bind (wpAny_mkInt ?_);refine wpAny_bind (wpAny_setField_rec (s:={s with heap:=h1,toks:=s.toks+1}) he1 (by simp) λh2 he2 hs2=>?_);replace he2:IsEnum h2 e it ((i:Int)+1) old:=he2;refine wpAny_bind (wpAny_setField_rec (s:={s with heap:=h2,toks:=s.toks+1}) he2 (by simp) λh3 he3 hs3=>?_);replace he3:IsEnum h3 e it ((i:Int)+1) old:=he3;refine wpAny_bind (wpAny_newTuple ?_);have hsz:h3.objs.size=s.heap.objs.size:=by rw[hs3.1,hs2.1,hs1.1]
 have hlt:e<h3.objs.size:=Heap.lt_size he3;have he4:IsEnum (h3.push {cls:=.type "tuple",data:=.seq #[.int i s.toks,x]}) e it ((i:Int)+1) old:=Heap.get?_push_of_some _ he3;refine wpAny_bind ?_;unfold Builtin.SmallTypes.ownedTupleIsFree;refine wpAny_bind (wpAny_field he4 rfl (x:=.none) rfl (wpAny_pure ?_));show wpAny _ _ (if (Value.none==Value.none)=true then _ else _) _ _ _;rw[if_pos (by decide)];refine wpAny_bind (wpAny_rule ?_);refine wpAny_bind (wpAny_field he4 rfl (x:=old) rfl ?_);refine wpAny_bind (wpAny_setField_rec he4 (by simp) λh5 he5 hs5=>?_);replace he5:IsEnum h5 e it ((i:Int)+1) x:=he5;refine wpAny_bind ?_;unfold Builtin.SmallTypes.ownedTupleHandOut;refine wpAny_bind (wpAny_setField_rec he5 (by simp) λh6 he6 hs6=>?_);replace he6:IsEnumOut h6 e it ((i:Int)+1) x h3.objs.size:=he6;refine wpAny_setField_rec he6 (by simp) λh7 he7 hs7=>?_;replace he7:IsEnumOut h7 e it ((i:Int)+1) x h3.objs.size:=he7;refine wpAny_bind (wpAny_letGo ?_);have up:∀c o,c≠e->h3.get? c=some o->h7.get? c=some o:=λc o c1 q=>hs7.extBut _ _ c1 (hs6.extBut _ _ c1 (hs5.extBut _ _ c1 (Heap.get?_push_of_some _ q)));have hT:h7.get? h3.objs.size=some {cls:=.type "tuple",data:=.seq #[.int i s.toks,x]}:=hs7.extBut _ _ (Nat.ne_of_gt hlt) (hs6.extBut _ _ (Nat.ne_of_gt hlt) (hs5.extBut _ _ (Nat.ne_of_gt hlt) (Heap.get?_push_size _ rfl)));have hz:h7.objs.size=h3.objs.size+1:=by rw[hs7.1,hs6.1,hs5.1,Heap.size_push]
 refine wpAny_pure ⟨_,rfl,?_⟩;show Q (.ref h3.objs.size) _;rw[hsz]at hT hz he7⊢;refine hQ h7 s.toks (s.toks+1) he7 ((((it1.extBut hs2.extBut ne.symm).extBut hs3.extBut ne.symm)).at λo q=>up it o ne.symm q) hT hz λb o b1 b2 q=>up b o b1 (hs3.extBut _ _ b1 (hs2.extBut _ _ b1 (hs1.extBut _ _ b2 q)))
theorem a9V{e it l:Addr}{i:Nat}{items:Array Value}{old:Value}{Q:Fin->Shared->Prop}(hh:A.handled=none)(he:IsEnum s.heap e it (i:Int) old)(hit:ItAt k s.heap it l i)(hl:SqAt k s.heap l items)(hx:items[i]?=none)
  (hE:∀h' x,(∀c o,c≠e->c≠it->s.heap.get? c=some o->h'.get? c=some o)->(∃o,h'.get? x=some o/\o.cls=.type "StopIteration")->E (.ref x) {s with heap:=h'}) :
  wpAny (model prog w) A (Builtin.«enumerate.__next__» ⟨[.ref e],[]⟩) Q E s:=by
 show wpAny _ _ (field (.ref e) 2>>=_) _ _ _;refine wpAny_bind (wpAny_field he rfl (x:=.ref it) rfl ?_);exact wpAny_bind (a2N hh hit hl hx λh1 x hs1 hx1=>hE h1 x (λc o _ c2 q=>hs1 _ _ c2 q) hx1)
theorem b2Y{α:Type}{M:Model}{A:Around}{c:Bool}{t u:Sem α}{Q:α->Shared->Prop}{E:Value->Shared->Prop}{s:Shared}(h1:wpAny M A t Q E s)(h2:wpAny M A u Q E s):wpAny M A (if c=true then t else u) Q E s:=by
 cases c
 .exact h2
 .exact h1
theorem a9U(l:Addr)(xs:Array Value) :
  Meets (Builtin.«enumerate.__new__» ⟨[.type "enumerate",.ref l],[]⟩) (λ_ R s=>SqAt k s.heap l xs /\
   R (.ok (.ret (.ref (s.heap.push (N2 k l)).objs.size))) {s with heap:=(s.heap.push (N2 k l)).push {cls:=.type "enumerate",data:=.fields #[.none,.bool false,.ref s.heap.objs.size,rawInt 0,.none,.none]}}) :=
 .of_wp λprog w A R s h=>by
  obtain⟨hp,g,d,tk,os⟩:=s;obtain⟨hl1,h⟩:=h;have hsub:=sub_enumerate;have hL1:SqAt k (Shared.heap ⟨hp,g,d,tk,os⟩) l xs:=hl1
  wp_walk using K4 hL1
  intro Γ p hg;change wpAny _ _ (pure (_:Bool)) _ _ _;refine wpAny_pure ?_;refine b2Y ?_ ?_
  .wp_walk using K4 hL1
   exact⟨_,rfl,h⟩
  .wp_walk using K4 hL1
   exact⟨_,rfl,h⟩
theorem a7r{l:Addr}{xs:Array Value}{Q:Value->Shared->Prop}(hl1:SqAt k s.heap l xs)
  (h:∀h',IsEnum h' (s.heap.objs.size+1) s.heap.objs.size 0 .none->ItAt k h' s.heap.objs.size l 0->h'.objs.size=s.heap.objs.size+2->(∀c o,s.heap.get? c=some o->h'.get? c=some o)->Q (.ref (s.heap.objs.size+1)) {s with heap:=h'}) :
  wpAny (model prog w) A (call (.type "enumerate") [.ref l]) Q E s:=by
 refine callType_new F.called_enumerate (by decide) (F.typeCall_enumerate_1 _) (F.newCall_enumerate_1 _) (λobj=>F.args_object_init_2 obj _) F.entry_enumerate_new
  (a9U (k:=k) l xs) ⟨hl1,?_⟩
 have z1:(s.heap.push (N2 k l)).objs.size=s.heap.objs.size+1:=Heap.size_push ..;have g2:((s.heap.push (N2 k l)).push {cls:=.type "enumerate",data:=.fields #[.none,.bool false,.ref s.heap.objs.size,rawInt 0,.none,.none]}).get? (s.heap.push (N2 k l)).objs.size=some _:=Heap.get?_push_size _ rfl;have g1:((s.heap.push (N2 k l)).push {cls:=.type "enumerate",data:=.fields #[.none,.bool false,.ref s.heap.objs.size,rawInt 0,.none,.none]}).get? s.heap.objs.size=some (N2 k l):=Heap.get?_push_of_some _ (Heap.get?_push_size _ rfl);show _/\_;rw[z1]at g2;rw[z1];refine⟨⟨_,g2,rfl⟩,h _ g2 ?_ (by rw[Heap.size_push,z1]) λc o x=>Heap.get?_push_of_some _ (Heap.get?_push_of_some _ x)⟩;cases k<;>exact⟨_,g1,rfl,rfl⟩
end
def Ite(K:PySem.W.Frag)(k:Bool)(a:Addr):It :=
 ⟨λi H=>∃xs x,SqK k K H a xs/\xs[i]?=some x,
  λi H v H'=>∃p x,v=.ref p/\H p=none/\H'=upd H p (.tup [.int i,x])/\∀xs,SqK k K H a xs->xs[i]?=some x,
  λi H=>∃xs,SqK k K H a xs/\xs.length<=i⟩
structure ETurn(k:Bool)(e it a:Addr)(i:Nat)(h:Heap):Prop where
 en:∃old,IsEnum h e it (i:Int) old
 t1:ItAt k h it a i
theorem a6G{P:Program}{w:World}{K:PySem.W.Frag}{es:List Expr}{kt:Nat}{tp:Pos}{k:Bool}{a e it:Addr}(ne:e≠it) :
  Turn P w K (.Tuple es kt tp) (Ite K k a) [e,it] e (λi h=>ETurn k e it a i h) where
 mem:=by simp
 obj:=λi h st c hc=>by
  simp only[List.mem_cons,List.not_mem_nil,or_false]at hc;rcases hc with rfl|rfl
  .obtain⟨old,q⟩:=st.en;exact⟨_,q,λv z=>by cases z⟩
  .obtain⟨o,e,d⟩:=st.t1.get;exact⟨o,e,λv z=>by rw[d]at z;cases z⟩
 keep:=λi h h' st k=>⟨let ⟨old,q⟩:=st.en;⟨old,k e (by simp) _ q⟩,st.t1.at λo q=>k it (by simp) o q⟩
 item:=by
  intro X hP hw hK hc i pins s σ H E I hf st hg;subst hP hw hK;obtain⟨xs,x,hx1,hx⟩:=hg;obtain⟨us,ru,pu,zu⟩:=I.sqk hx1;obtain⟨u,hu,rux⟩:=ru.get hx;obtain⟨old,hen⟩:=st.en;have hT:s.TypeIs (.ref e) "enumerate":=⟨_,hen,rfl⟩;unfold pyNext;refine wpAny_bind (wpAny_attempt (wpAny_callSpecial?_slot (name:=Str.ofString "__next__") hT F.slot_enumerate_next
   (wpAny_call_entry F.slot_enumerate_next hT F.entry_enumerate_next
    (a7q hen st.t1 pu (x:=u) (by simpa using hu) ne λh' t tk a1 a2 a3 a4 a5=>wpAny_pure ?_) (F.args_enumerate_next_1 _))))
  refine⟨_,rfl,?_⟩;refine wpAny_letOwnedTupleGo_enum (s:={s with heap:=h',toks:=tk}) a1 λh2 he2 hs2=>?_;have nes:∀c∈[e,it],c≠s.heap.objs.size:=λc hc q=>by
   have:∃o,s.heap.get? c=some o:=by
    simp only[List.mem_cons,List.not_mem_nil,or_false]at hc;rcases hc with rfl|rfl
    .exact⟨_,hen⟩
    .obtain⟨o,e,d⟩:=st.t1.get;exact⟨o,e⟩
   obtain⟨o,z⟩:=this;exact absurd (Heap.lt_size z) (by rw[q];exact Nat.lt_irrefl _)
  have hfree:H s.heap.objs.size=none:=I.hok.fresh (Nat.le_refl _);have pr2:=hs2.extBut _ _ (nes e (by simp)).symm a3;have kk:∀c o,c∉[e,it]->s.heap.get? c=some o->h2.get? c=some o:=λc o hc q=>by
   simp only[List.mem_cons,List.not_mem_nil,or_false,not_or]at hc;exact hs2.extBut _ _ hc.1 (a5 c o hc.1 hc.2 q)
  have I2:Inv X pins σ (upd H s.heap.objs.size (.tup [.int i,x])) {s with heap:=h2} :=
   I.turnedT (ch:=[e,it]) hf rfl kk ⟨by show 2<=sizeLine;decide,[.int i t,u],.cons ⟨t,rfl⟩ (.cons rux .nil),⟨_,pr2,rfl,0,rfl⟩⟩
  have I3:=I2.tok tk;refine⟨.ref s.heap.objs.size,_,I3,rfl,⟨_,x,rfl,hfree,rfl,λzs hz=>?_⟩,⟨⟨_,he2⟩,a2.extBut hs2.extBut ne.symm⟩,λc hc=>?_⟩
  .rw[I.sqk_inj hz hx1];exact hx
  .rw[A3 (nes c hc)];exact(hf c hc).1
 done:=by
  intro X hP hw hK hc i pins s σ H E I hf st hg;subst hP hw hK;obtain⟨xs,hx1,hend⟩:=hg;obtain⟨us,ru,pu,zu⟩:=I.sqk hx1;have l1:=ru.length;obtain⟨old,hen⟩:=st.en;have hT:s.TypeIs (.ref e) "enumerate":=⟨_,hen,rfl⟩;unfold pyNext;refine wpAny_bind (wpAny_attempt (wpAny_callSpecial?_slot (name:=Str.ofString "__next__") hT F.slot_enumerate_next
   (wpAny_call_entry F.slot_enumerate_next hT F.entry_enumerate_next (a9V (I.ok.hd hc) hen st.t1 pu (by simp;omega) λh' x hk hx=>?_) (F.args_enumerate_next_1 _))))
  obtain⟨o,ho,hc⟩:=hx;refine wpAny_bind (wpAny_isInstance (T:="StopIteration") (b:=true) ⟨o,ho,hc⟩ isSubtype_stop ?_);refine wpAny_pure ⟨rfl,I.turnedL (ch:=[e,it]) hf λc o hc q=>?_⟩;simp only[List.mem_cons,List.not_mem_nil,or_false,not_or]at hc;exact hk c o hc.1 hc.2 q
 self:=λA i s Q E st h=>let ⟨_,q⟩:=st.en;wpAny_pyIter_enum q h
def b2U(K:PySem.W.Frag)(ta:TA):TI:=λσ H R=>ta σ H λvs H1=>∃k a,vs=[.ref a]/\(∃xs,SqK k K H1 a xs)/\R (Ite K k a) H1
section
variable {X:Cx}
theorem b1g{es:List Expr}{kt:Nat}{tp:Pos}{a:Expr}{ta:TA}{p pos:Pos}(hg:Gl X "enumerate")(hm:X.mg "enumerate"=none)(ha:PA X [a] ta)(hbz:bootBuiltins "enumerate"=some (.type "enumerate"))
  (hs:starEach [a] X.env=[(false,eval a X.env)]:=by rfl) :
  PI X (.Tuple es kt tp) (.Call (.Name "enumerate" p) [a] [] pos) (b2U X.K ta):=by
 intro pins s σ H R I h;refine Call_ (O7 I hg hm hbz (PyProof.Rows.callWith_type1 (thn (ha pos pins s σ H _ I h) λus s1 ⟨vs,H1,I1,r1,q1⟩=>?_) (by rw[hs];rfl) (by rfl)));obtain⟨k,l1,e,⟨xs,hx⟩,q⟩:=q1;subst e;cases r1 with
 |cons r rr =>
  cases rr;cases r;obtain⟨us,ru,pu,zu⟩:=I1.sqk hx;refine a7r pu λh' z1 z2 z3 z4=>?_;refine wpAny_pyIter_enum (s:={s1 with heap:=h'}) z1 ?_;refine⟨s1.heap.objs.size+1,[s1.heap.objs.size+1,s1.heap.objs.size],_,_,H1,rfl,I1.kept (t':=s1.toks) z4,a6G (nne (by omega)),
   ⟨⟨_,z1⟩,z2⟩,λc hc=>?_,q⟩
  have hle:s1.heap.objs.size<=c:=by
   simp only[List.mem_cons,List.not_mem_nil,or_false]at hc;rcases hc with rfl|rfl
   .exact Nat.le_add_right _ _
   .exact Nat.le_refl _
  exact I1.fpOk hle (I1.hok.fresh hle)
end
theorem a3v:bootBuiltins "enumerate"=some (.type "enumerate"):=by kernel_rfl
theorem a4n{K:PySem.W.Frag}{k:Bool}{a:Addr}{xs:List V}{g:TG}{tb:TS}{D:Ends}{σ:St}{H:Hp}(Pv:Nat->St->Hp->Prop)(h0:Pv 0 σ H)
  (hl:∀i σ H,i<=xs.length->Pv i σ H->SqK k K H a xs)
  (hs:∀i x σ H p,xs[i]?=some x->Pv i σ H->H p=none->g (.ref p) σ (upd H p (.tup [.int i,x])) λσ2 H2=>tb {D with nx:=Pv (i+1),ct:=Pv (i+1),bk:=D.nx} σ2 H2) (hd:∀σ H,Pv xs.length σ H->D.nx σ H) :
  ∃W:Nat->Nat->St->Hp->Prop,(∃m,W 0 m σ H)/\∀i m σ H,W i m σ H ->
   ((Ite K k a).stop i H/\D.nx σ H)∨((Ite K k a).go i H/\∃N:St->Hp->Prop,(∀σ' H',N σ' H'->∃m',m'<m/\W (i+1) m' σ' H')/\∀x H',(Ite K k a).yld i H x H'->g x σ H' λσ2 H2=>tb {D with nx:=N,ct:=N,bk:=D.nx} σ2 H2):=by
 refine⟨λi m σ H=>m=xs.length-i/\i<=xs.length/\Pv i σ H,⟨_,rfl,Nat.zero_le _,h0⟩,?_⟩;rintro i m σ H ⟨rfl,hi,p⟩;have q1:=hl i σ H hi p;by_cases hlt:i<xs.length
 .refine .inr ⟨⟨xs,xs[i],q1,List.getElem?_eq_getElem hlt⟩,Pv (i+1),λσ' H' p'=>⟨_,by omega,rfl,hlt,p'⟩,λx H' y=>?_⟩;obtain⟨pp,x',e,e2,e3,y1⟩:=y;subst e e3;exact hs i x' σ _ pp (y1 xs q1) p e2
 .have e:i=xs.length:=by omega
  subst e;exact .inl ⟨⟨xs,q1,Nat.le_refl _⟩,hd σ H p⟩
section
variable {X:Cx}
theorem a6m(K:PySem.W.Frag){es:List Expr}{kt:Nat}{tp:Pos}{a:Expr}{t:TA}{p pos:Pos}(hg:Gl X "enumerate")(hm:X.mg "enumerate"=none)(ha:JA X [a] t)(hK:X.K=K:=by rfl)(hs:starEach [a] X.env=[(false,eval a X.env)]:=by rfl) :
  JI X (.Tuple es kt tp) (.Call (.Name "enumerate" p) [a] [] pos) (b2U K t):=by subst hK;exact⟨b1g hg hm ha.h a3v hs⟩
end
section
variable {M:Model}{A:Around}{E:Value->Shared->Prop}
end
section
variable {X:Cx}{k:Nat}{ps:List Str}{sp:Sp}{x:Str}{p pos cpos:Pos}{e:Expr}{es:List Expr}{t:TA}
end
section
variable (P:Program) (w:World)
end
section
variable {P:Program}{w:World}{H H':Hp}{h h':Heap}{a:Addr}{o:HO}
end
section
variable {P:Program}{w:World}{H:Hp}{h h':Heap}{x e:Addr}{o':HO}
end
section
variable {fs fs' ex ex':List Addr}{H H1 H2:Hp}{h h1 h2 h':Heap}{a x e:Addr}{o:HO}
end
section
variable {X:Cx}{pins:List (Addr×Obj)}{σ:List (Option V)}{H H':Hp}{s:Shared}{h':Heap}
end
section
variable {X:Cx}
variable {a b:Expr}{ta tb:TE}{pos:Pos}
variable {tA tB':TT}{rest:List Expr}
end
section
variable {X:Cx}{pins:List (Addr×Obj)}{σ:St}{H:Hp}{s:Shared}{a:Addr}{xs ys:List V}
end
section
variable {X:Cx}{pins:List (Addr×Obj)}{σ:St}{H:Hp}{s:Shared}{E:Value->Shared->Prop}
end
section
variable {X:Cx}{st:Stmt}{rest:List Stmt}{t u:TS}{e:Expr}{te:TE}{pos:Pos}
end
section
variable {X:Cx}{pos:Pos}
end
section
variable {X:Cx}{tg:Expr}
end
section
variable {X:Cx}{a b c:Expr}{ta tb tc:TE}{pos:Pos}
end
section
variable {prog:Program}{w:World}{A:Around}{E:Value->Shared->Prop}{s:Shared}{K:PySem.W.Frag}{x dx C f:Addr}{mA:Str->Option Value}{name:Str}{v:Value}
end
section
variable {P:Program}{w:World}{H H':Hp}{h h':Heap}{a C dx:Addr}{fs fs':List (Str×V)}
end
section
variable {X:Cx}{pins:List (Addr×Obj)}{σ:St}{H:Hp}{s:Shared}{a C dx:Addr}{fs:List (Str×V)}{f:Str}{v:V}{A:Around}{E:Value->Shared->Prop}
end
section
variable {X:Cx}{o e value:Expr}{f:Str}{pos pos' tpos:Pos}{ta tv:TE}
end
section
variable {X:Cx}{pins:List (Addr×Obj)}{σ:St}{H:Hp}{s:Shared}{A:Around}{E:Value->Shared->Prop}{Q:Value->Shared->Prop}{c:Value}{b:Bool}
end
section
variable {X:Cx}{e:Expr}{es:List Expr}{te:TE}{t:TA}{pos:Pos}
end
section
variable {X:Cx}{pins:List (Addr×Obj)}{σ:St}{H:Hp}{s s':Shared}
end
section
variable {X:Cx}{CX:CXT}{k:Nat}{f C:Addr}{fd:FuncData}{ps:List Str}{sp:Sp}{dvs:List V}{ds:List Value}{E:XK}{x m:Str}{p pos apos:Pos}{e o:Expr}{es:List Expr}{ta:TE}{t:TA}
end
section
variable {X:Cx}{CX:CXT}{k:Nat}{f C:Addr}{fd:FuncData}{ps ks:List Str}{sp:Sp}{E:XK}{x m:Str}{p pos apos kpos:Pos}{e o:Expr}{es:List Expr}{kws:List Keyword}{te ta:TE}{t tk:TA}{nm:Option Str}
variable {g:List Value->List Value->List Value}{gV:List V->List V->List V}
end
section
variable {X:Cx}{x:Str}{p pos:Pos}{e:Expr}{es:List Expr}{t:TA}{id T:String}{r:List V->Hp->VK->Prop}
end
section
variable {κ:Type} [DecidableEq κ]
noncomputable def N0(kvs:List (κ×V))(k:κ):Option V:=(kvs.find? λkv=>decide (kv.1=k)).map (·.2)
noncomputable def Q9(kvs:List (κ×V))(k:κ)(v:V):List (κ×V) :=
 if (kvs.any λkv=>decide (kv.1=k))=true then kvs.map (λkv=>if kv.1=k then(kv.1,v)else kv)else kvs++[(k,v)]
theorem X7{p:κ×V}{r:List (κ×V)}{k:κ}(e:p.1=k):N0 (p::r) k=some p.2:=by simp[N0,List.find?_cons,e]
theorem X8{p:κ×V}{r:List (κ×V)}{k:κ}(e:¬p.1=k):N0 (p::r) k=N0 r k:=by simp[N0,List.find?_cons,e]
theorem P7(k:κ):∀kvs:List (κ×V),(kvs.any λkv=>decide (kv.1=k))=(N0 kvs k).isSome
 |[]=>rfl
 |p::r=>by
  rw[List.any_cons];by_cases e:p.1=k
  .simp only[X7 e,decide_eq_true e,Bool.true_or,Option.isSome_some]
  .rw[X8 e,decide_eq_false e,Bool.false_or];exact P7 k r
theorem O2(kvs:List (κ×V))(k:κ)(v:V):(Q9 kvs k v).length<=kvs.length+1:=by
 unfold Q9;split
 .rw[List.length_map];omega
 .rw[List.length_append,List.length_cons,List.length_nil];omega
theorem a8J{kvs:List (κ×V)}{k:κ}(v:V)(h:N0 kvs k=none):Q9 kvs k v=kvs++[(k,v)]:=by
 unfold Q9;rw[P7,h];exact if_neg (by decide)
theorem RelO.isSome_eq{o:Option V}{u:Option Value}(r:RelO o u):o.isSome=u.isSome:=by
 cases o with
 |none=>cases u with
  |none=>rfl
  |some _=>exact(show False from r).elim
 |some _=>cases u with
  |none=>exact(show False from r).elim
  |some _=>rfl
theorem RelO.getD{o:Option V}{u:Option Value}{d:V}{d':Value}(r:RelO o u)(rd:RelV d d'):RelV (o.getD d) (u.getD d'):=by
 cases o with
 |none=>cases u with
  |none=>exact rd
  |some _=>exact(show False from r).elim
 |some _=>cases u with
  |none=>exact(show False from r).elim
  |some _=>exact r
theorem KV.val{kvs:List (κ×V)}{vs:List (κ×Value)}(r:KV kvs vs)(k:κ):RelO (N0 kvs k) (valueAt vs k):=by
 unfold KV at r;induction r with
 |nil=>exact True.intro
 |@cons p q ps qs h t ih =>
  obtain⟨h1,h2⟩:=h;by_cases e:p.1=k
  .have e':q.1=k:=h1.symm.trans e;have b:valueAt (q::qs) k=some q.2:=by simp[valueAt,List.find?_cons,e']
   rw[X7 e,b];exact h2
  .have e':¬q.1=k:=λz=>e (h1.trans z);have b:valueAt (q::qs) k=valueAt qs k:=by simp[valueAt,List.find?_cons,e']
   rw[X8 e,b];exact ih
theorem KV.any{kvs:List (κ×V)}{vs:List (κ×Value)}(r:KV kvs vs)(k:κ):(kvs.any λkv=>decide (kv.1=k))=vs.any λkv=>decide (kv.1=k):=by
 unfold KV at r;induction r with
 |nil=>rfl
 |cons h t ih=>rw[List.any_cons,List.any_cons,ih,h.1]
theorem KV.repl{kvs:List (κ×V)}{vs:List (κ×Value)}(r:KV kvs vs)(k:κ){y:V}{u:Value}(ry:RelV y u) :
  KV (kvs.map λkv=>if kv.1=k then(kv.1,y)else kv) (vs.map λkv=>if kv.1=k then(kv.1,u)else kv):=by
 unfold KV at r⊢;induction r with
 |nil=>exact .nil
 |@cons p q ps qs h t ih =>
  rw[List.map_cons,List.map_cons];refine .cons ?_ ih;obtain⟨h1,h2⟩:=h;by_cases e:p.1=k
  .rw[if_pos e,if_pos (h1.symm.trans e)];exact⟨h1,ry⟩
  .rw[if_neg e,if_neg (λz=>e (h1.trans z))];exact⟨h1,h2⟩
theorem KV.put{kvs:List (κ×V)}{vs:List (κ×Value)}(r:KV kvs vs)(k:κ){y:V}{u:Value}(ry:RelV y u):KV (Q9 kvs k y) (stored vs k u):=by
 unfold Q9 stored;rw[r.any k];by_cases e:(vs.any λkv=>decide (kv.1=k))=true
 .rw[if_pos e,if_pos e];exact r.repl k ry
 .rw[if_neg e,if_neg e];exact Paired.snoc r ⟨rfl,ry⟩
theorem KV.length{kvs:List (κ×V)}{vs:List (κ×Value)}(r:KV kvs vs):kvs.length=vs.length:=Paired.length r
end
theorem a6f{P:Program}{w:World}{k:Key}{u:Value}(r:RelV (kV k) u):(D8 P w).is k u=true:=by
 cases k with
 |inl i=>obtain⟨t,e⟩:=(show ∃t,u=Value.int i t from r);subst e;exact a3U P w i t
 |inr x=>obtain⟨t,e⟩:=(show ∃t,u=Value.str x t from r);subst e;exact a3T P w x t
theorem a2w{P:Program}{w:World}:∀{ks:List Key}{us:List Value},Vals (ks.map kV) us->ItemsAre (D8 P w) ks us
 |[],_,r=>by rw[List.map_nil]at r;cases r;exact .nil
 |k::ks,_,r=>by
  rw[List.map_cons]at r;cases r with
  |cons h t=>exact .cons (a6f h) (a2w t)
abbrev KT(H:Hp):List (List Key×V)->List (List Key×Addr×Value)->Prop:=Paired λp q=>p.1=q.1/\H q.2.1=some (.tup (p.1.map kV))/\RelV p.2 q.2.2
theorem KT.val{H:Hp}{kvs:List (List Key×V)}{xs:List (List Key×Addr×Value)}(r:KT H kvs xs)(k:List Key):RelO (N0 kvs k) ((atKey xs k).map (·.2)):=by
 induction r with
 |nil=>exact True.intro
 |@cons p q ps qs h t ih =>
  obtain⟨h1,_,h2⟩:=h;by_cases e:p.1=k
  .have e':q.1=k:=h1.symm.trans e;have b:atKey (q::qs) k=some q.2:=by simp[atKey,List.find?_cons,e']
   rw[X7 e,b];exact h2
  .have e':¬q.1=k:=λz=>e (h1.trans z);have b:atKey (q::qs) k=atKey qs k:=by simp[atKey,List.find?_cons,e']
   rw[X8 e,b];exact ih
theorem KT.repl{H:Hp}{kvs:List (List Key×V)}{xs:List (List Key×Addr×Value)}(r:KT H kvs xs)(k:List Key){y:V}{u:Value}(ry:RelV y u) :
  KT H (kvs.map λkv=>if kv.1=k then(kv.1,y)else kv) (xs.map (putAt k u)):=by
 induction r with
 |nil=>exact .nil
 |@cons p q ps qs h t ih =>
  rw[List.map_cons,List.map_cons];refine .cons ?_ ih;obtain⟨h1,h2,h3⟩:=h;unfold putAt;by_cases e:p.1=k
  .rw[if_pos e,if_pos (h1.symm.trans e)];exact⟨h1,h2,ry⟩
  .rw[if_neg e,if_neg (λz=>e (h1.trans z))];exact⟨h1,h2,h3⟩
theorem KT.put{H:Hp}{kvs:List (List Key×V)}{xs:List (List Key×Addr×Value)}(r:KT H kvs xs)(k:List Key){b:Addr}{y:V}{u:Value}(hb:H b=some (.tup (k.map kV)))(ry:RelV y u) :
  KT H (Q9 kvs k y) (storedH xs k b u):=by
 have e:(kvs.any λkv=>decide (kv.1=k))=(atKey xs k).isSome:=by
  rw[P7,(r.val k).isSome_eq,Option.isSome_map]
 unfold Q9 storedH;rw[e];by_cases q:(atKey xs k).isSome=true
 .rw[if_pos q,if_pos q];exact r.repl k ry
 .rw[if_neg q,if_neg q];exact Paired.snoc r ⟨rfl,hb,ry⟩
theorem KT.keeps{H H':Hp}{kvs:List (List Key×V)}{xs:List (List Key×Addr×Value)}(r:KT H kvs xs)(ht:∀b ys,H b=some (.tup ys)->H' b=some (.tup ys)):KT H' kvs xs :=
 Paired.mapP r λ_ _ z=>⟨z.1,ht _ _ z.2.1,z.2.2⟩
section
variable {P:Program}{w:World}{H:Hp}{h:Heap}{a:Addr}
theorem b2x{u:HO}(ok:HOk P w H h)(e:Rd H a u):ObjOk P w H h a u:=e.ok ok
theorem a9Y{kvs:List (Key×V)}(ok:HOk P w H h)(e:Rd H a (.dK kvs)):kvs.length<=sizeLine/\(a==sysModules)=false/\∃vs,KV kvs vs/\h.DictOf (D8 P w) a vs :=
 show ObjOk P w H h a (.dK kvs)from b2x ok e
theorem b5D{kvs:List (Key×V)}(ok:HOk P w H h)(e:H a=some (.dK kvs)):kvs.length<=sizeLine/\(a==sysModules)=false/\∃vs,KV kvs vs/\h.DictOf (D8 P w) a vs:=a9Y ok (.inl e)
theorem a1G{ks:List Key}(ok:HOk P w H h)(e:H a=some (.tup (ks.map kV))):(tupleKind (D8 P w)).is h ks a:=by
 obtain⟨_,its,r,o,h1,h2,n,h3⟩:=(show ObjOk P w H h a (.tup (ks.map kV))from ok a _ e);exact⟨o,its.toArray,n,h1,h2,h3,by simpa using a2w r⟩
theorem a9W{kvs:List (List Key×V)}(ok:HOk P w H h)(e:Rd H a (.dT kvs)):kvs.length<=sizeLine/\(a==sysModules)=false /\
  ∃xs,KT H kvs xs/\h.DictOfH (tupleKind (D8 P w)) a xs:=by
 obtain⟨z,y,xs,r,o,es,ep,h1,h2,h3,h4,h5⟩:=(show ObjOk P w H h a (.dT kvs)from b2x ok e);refine⟨z,y,xs,r,o,es,ep,h1,h2,h3,h4,λx hx=>?_,h5⟩;have all:∀{l:List (List Key×V)}{m:List (List Key×Addr×Value)},KT H l m->∀x∈m,(tupleKind (D8 P w)).is h x.1 x.2.1:=by
  intro l m q;induction q with
  |nil=>intro x hx;exact nomatch hx
  |@cons p q ps qs hq t ih =>
   intro x hx;rcases List.mem_cons.mp hx with e|hx
   .subst e;exact a1G ok (by rw[<-hq.1];exact hq.2.1)
   .exact ih x hx
 exact all r x hx
theorem b2V{kvs:List (List Key×V)}(ok:HOk P w H h)(e:H a=some (.dT kvs)):kvs.length<=sizeLine/\(a==sysModules)=false /\
  ∃xs,KT H kvs xs/\h.DictOfH (tupleKind (D8 P w)) a xs:=a9W ok (.inl e)
end
def DGet(H:Hp)(a:Addr)(y:V)(r:Option V):Prop :=
 (∃kvs k,Rd H a (.dK kvs)/\y=kV k/\r=N0 kvs k)∨∃kvs k b,Rd H a (.dT kvs)/\y=.ref b/\H b=some (.tup (k.map kV))/\r=N0 kvs k
def DPut(H:Hp)(a:Addr)(y v:V)(H':Hp):Prop :=
 (∃kvs k,H a=some (.dK kvs)/\y=kV k/\kvs.length<sizeLine/\H'=upd H a (.dK (Q9 kvs k v))) ∨
 ∃kvs k b,H a=some (.dT kvs)/\y=.ref b/\H b=some (.tup (k.map kV))/\kvs.length<sizeLine/\H'=upd H a (.dT (Q9 kvs k v))
theorem DGet.t{H:Hp}{a b:Addr}{kvs:List (List Key×V)}{k:List Key}(e:H a=some (.dT kvs))(eb:H b=some (.tup (k.map kV))):DGet H a (.ref b) (N0 kvs k):=.inr ⟨kvs,k,b,.inl e,rfl,eb,rfl⟩
theorem DPut.t{H:Hp}{a b:Addr}{kvs:List (List Key×V)}{k:List Key}{v:V}(e:H a=some (.dT kvs))(eb:H b=some (.tup (k.map kV)))(hl:kvs.length<sizeLine) :
  DPut H a (.ref b) v (upd H a (.dT (Q9 kvs k v))):=.inr ⟨kvs,k,b,e,rfl,eb,hl,rfl⟩
section
variable {X:Cx}{pins:List (Addr×Obj)}{σ:St}{H:Hp}{s:Shared}{a:Addr}{y v:V}{u r:Value}{o:Option V}{A:Around}{E:Value->Shared->Prop}
theorem Inv.big(I:Inv X pins σ H s):sysModules<s.heap.objs.size:=by
 have h:mainGlobals<s.heap.objs.size:=(I.mod.glob.keeps I.bk).lt;exact Nat.lt_trans (by decide) h
theorem b5R{Q:Value->Shared->Prop}(hu:A.units+1<cLine)(I:Inv X pins σ H s)(g:DGet H a y o)(ry:RelV y u)(h:∀s',Inv X pins σ H s'->Q (.bool o.isSome) s') :
  wpAny (model X.prog X.w) A (compareOp .In u (.ref a)) Q E s:=by
 rcases g with⟨kvs,k,e,ey,l⟩|⟨kvs,k,b,e,ey,eb,l⟩
 .subst ey;obtain⟨z,hd,vs,rel,dd⟩:=a9Y I.hok e;refine wpAny_in_of (a6f ry) hd dd.mapOf ?_;rw[<-(rel.val k).isSome_eq,<-l];exact h _ (I.tok _)
 .subst ey;cases(show u=Value.ref b from ry);obtain⟨z,hd,xs,rel,dd⟩:=a9W I.hok e;refine wpAny_in_heap (tupleKind_room_in1 hu) (a1G I.hok eb) hd dd ?_;have q:=(rel.val k).isSome_eq;rw[Option.isSome_map]at q;rw[<-q,<-l];exact h _ (I.tok _)
theorem b2a{Q:Value->Shared->Prop}(hu:A.units+1<cLine)(I:Inv X pins σ H s)(g:DGet H a y o)(ry:RelV y u)(h:∀s',Inv X pins σ H s'->Q (.bool (!o.isSome)) s') :
  wpAny (model X.prog X.w) A (compareOp .NotIn u (.ref a)) Q E s:=by
 rcases g with⟨kvs,k,e,ey,l⟩|⟨kvs,k,b,e,ey,eb,l⟩
 .subst ey;obtain⟨z,hd,vs,rel,dd⟩:=a9Y I.hok e;refine wpAny_notIn_of (a6f ry) hd dd.mapOf ?_;rw[<-(rel.val k).isSome_eq,<-l];exact h _ (I.tok _)
 .subst ey;cases(show u=Value.ref b from ry);obtain⟨z,hd,xs,rel,dd⟩:=a9W I.hok e;refine wpAny_notIn_heap (tupleKind_room_in1 hu) (a1G I.hok eb) hd dd ?_;have q:=(rel.val k).isSome_eq;rw[Option.isSome_map]at q;rw[<-q,<-l];exact h _ (I.tok _)
theorem a1b{h':Heap}{t':Nat}{ob:HO}(I:Inv X pins σ H s)(mu:Mut (H a))(hs:Heap.SameBut a s.heap h')(he:∃q,h'.get? a=some q)(new:ObjOk X.prog X.w (upd H a ob) h' a ob) :
  Inv X pins σ (upd H a ob) {s with heap:=h',toks:=t'} :=
 I.write (x:=a) (e:=a) mu (.inl rfl) (λb q hb z=>(hs.2 b hb).trans z) he new
theorem b4A{P:Program}{w:World}{H':Hp}{h':Heap}{kvs:List (Key×V)}{vs:List (Key×Value)}(z:kvs.length<=sizeLine)(hd:(a==sysModules)=false)(rel:KV kvs vs)(dd:h'.DictOf (D8 P w) a vs) :
  ObjOk P w H' h' a (.dK kvs):=⟨z,hd,vs,rel,dd⟩
theorem a7s{H':Hp}{Q:Unit->Shared->Prop}(hu:A.units+1<cLine)(I:Inv X pins σ H s)(g:DPut H a y v H')(ry:RelV y u)(rv:RelV v r)(h:∀s',Inv X pins σ H' s'->Q () s') :
  wpAny (model X.prog X.w) A (setItem (.ref a) u r) Q E s:=by
 rcases g with⟨kvs,k,e,ey,l,eH⟩|⟨kvs,k,b,e,ey,eb,l,eH⟩
 .subst ey eH;obtain⟨z,hd,vs,rel,dd⟩:=b5D I.hok e;have hz:vs.length<=sizeLine:=by rw[<-rel.length];exact z
  have hl:(Q9 kvs k v).length<=sizeLine:=by have:=O2 kvs k v;omega
  refine wpAny_setItem_pairs (hsz:=hz) (a6f ry) dd λh' dd' hs=>h _ ?_;have he:∃q,h'.get? a=some q:=let ⟨q,_,_,hq,_⟩:=dd';⟨q,hq⟩
  exact a1b I (by rw[e];exact True.intro) hs he (b4A hl hd (rel.put k rv) dd')
 .subst ey eH;cases(show u=Value.ref b from ry);obtain⟨z,hd,xs,rel,dd⟩:=b2V I.hok e;have hz:xs.length<=sizeLine:=by rw[<-Paired.length rel];exact z
  have hl:(Q9 kvs k v).length<=sizeLine:=by have:=O2 kvs k v;omega
  refine wpAny_setItem_heap (hsz:=hz) (tupleKind_room_in1 hu) (a1G I.hok eb) dd λh' dd' hs=>h _ ?_;obtain⟨q,es,ep,hq,h2,h3,h4,_,h5⟩:=dd';refine a1b I (by rw[e];exact True.intro) hs ⟨q,hq⟩ ⟨hl,hd,_,(rel.put k eb rv).keeps λc ys ec=>?_,q,es,ep,hq,h2,h3,h4,h5⟩;rw[A3 (L6 ec e (λz=>nomatch z))];exact ec
end
section
variable {X:Cx}{pins:List (Addr×Obj)}{σ:St}{H:Hp}{s:Shared}{a:Addr}{kvs:List (Key×V)}{k:Key}{u:Value}{A:Around}{E:Value->Shared->Prop}
end
def b4Z(ty td:TE):TE:=λσ H Q=>ty σ H λy H1=>td σ H1 λx H2=>∃a o,x=.ref a/\DGet H2 a y o/\Q (.bl o.isSome) H2
def a5L(ty td:TE):TE:=λσ H Q=>ty σ H λy H1=>td σ H1 λx H2=>∃a o,x=.ref a/\DGet H2 a y o/\Q (.bl (!o.isSome)) H2
def b2w(td ty tv:TE):TS:=λD σ H=>tv σ H λv H1=>td σ H1 λx H2=>ty σ H2 λy H3=>∃a H4,x=.ref a/\DPut H3 a y v H4/\D.nx σ H4
section
variable {X:Cx}{o i e value:Expr}{pos pos' tpos:Pos}{td ty tv:TE}
theorem b3R(hu:X.A.units+1<cLine)(hi:PE X i ty)(ho:PE X o td):PC X .In i o (b4Z ty td):=by
 intro pins s σ H Q I h;refine thn (hi pins s σ H _ I h) λiv s1 ⟨y,H1,I1,ry,q1⟩=>thn (ho pins s1 σ H1 _ I1 q1) λu s2 ⟨x,H2,I2,rx,a,ov,ex,g,q2⟩=>?_;subst ex;obtain rfl:u=Value.ref a:=rx;exact b5R hu I2 g ry λs3 I3=>⟨.bl ov.isSome,H2,I3,rfl,q2⟩
theorem a6T(hu:X.A.units+1<cLine)(hi:PE X i ty)(ho:PE X o td):PC X .NotIn i o (a5L ty td):=by
 intro pins s σ H Q I h;refine thn (hi pins s σ H _ I h) λiv s1 ⟨y,H1,I1,ry,q1⟩=>thn (ho pins s1 σ H1 _ I1 q1) λu s2 ⟨x,H2,I2,rx,a,ov,ex,g,q2⟩=>?_;subst ex;obtain rfl:u=Value.ref a:=rx;exact b2a hu I2 g ry λs3 I3=>⟨.bl (!ov.isSome),H2,I3,rfl,q2⟩
theorem b0Y(hu:X.A.units+1<cLine)(ho:PE X o td)(hi:PE X i ty)(hv:PE X value tv)(hs:swapsWith value (some (.Subscript o i pos')) pos.line X.env=pure false) :
  PS X (.Assign [.Subscript o i pos'] value pos) (b2w td ty tv):=by
 intro pins s σ H D I h;refine wpAny_Assign_Subscript (thn (hv pins s σ H _ I h) λr s1 ⟨v,H1,I1,rv,q1⟩=>thn (ho pins s1 σ H1 _ I1 q1) λu s2 ⟨x,H2,I2,rx,q2⟩=>thn (hi pins s2 σ H2 _ I2 q2) λiv s3 ⟨y,H3,I3,ry,a,H4,ex,g,q3⟩=>?_) hs;subst ex;obtain rfl:u=Value.ref a:=rx;exact a7s hu I3 g ry rv λs4 I4=>⟨σ,H4,I4,q3⟩
end
theorem a9X{P:Program}{w:World}{H:Hp}(h:Heap)(hb:sysModules<h.objs.size):ObjOk P w H (h.push {cls:=.type "dict",data:=.dict #[]}) h.objs.size (.dT []) :=
 ⟨Nat.zero_le _,beq_eq_false_iff_ne.mpr (Ne.symm (Nat.ne_of_lt hb)),[],.nil,_,#[],0,Heap.get?_push_size _ rfl,⟨rfl,rfl,rfl⟩,rfl,rfl,List.nodup_nil⟩
section
variable {X:Cx}{pos:Pos}
end
structure M2(X:Cx)(o:Expr)(m:Str)(apos:Pos)(e f:Expr)(cpos:Pos):Prop where
 base:attributeBase o m X.env (eval o X.env)=eval o X.env
 few:((backTo cpos (starEach [e,f] X.env)).all (λx=>!x.1) && (backToKw cpos (keywordEach [] X.env)).all (λx=>x.1.isSome)
  && decide (([e,f]:List Expr).length+([]:List Keyword).length+(if ([]:List Keyword).isEmpty then 0 else 1)<30))=true
 line:(apos.endLine==cpos.line)=true
 trees:backTo cpos (starEach [e,f] X.env)=[(false,eval e X.env),(false,eval f X.env)]
section
variable {X:Cx}{pins:List (Addr×Obj)}{σ:St}{H:Hp}{s:Shared}{a:Addr}{y d:V}{u r:Value}{o:Option V}{A:Around}{E:Value->Shared->Prop}
end
section
variable {X:Cx}{o e f:Expr}{apos cpos:Pos}{td ty tx:TE}
end
section
variable {X:Cx}{pins:List (Addr×Obj)}{σ:St}{H:Hp}{s:Shared}{a:Addr}{kvs:List (Key×V)}{A:Around}{E:Value->Shared->Prop}
end
section
variable {X:Cx}{pins:List (Addr×Obj)}{σ:St}{H:Hp}{s:Shared}{a:Addr}{y:V}{u:Value}{A:Around}{E:Value->Shared->Prop}
end
end L2
namespace Att
open PySem PySem.W PySem.Calls PyProof.Rows
section
variable {prog:Program}{w:World}{A:Around}{E:Value->Shared->Prop}{s:Shared}{K:Frag}
end
end Att
namespace L2
open PySem PySem.Spec PyProof.Rows
end L2
namespace L2
open PySem PySem.Spec PyProof.Rows
section
variable {P:Program}{w:World}{K:PySem.W.Frag}{mg:Str->Option Value}{base:Heap}
end
section
variable {X:Cx}
end
section
variable {κ:Type} [DecidableEq κ]
theorem a7X{kvs:List (κ×V)}{k:κ}(h:N0 kvs k=none):¬k∈kvs.map (·.1):=by
 intro m;obtain⟨p,hp,e⟩:=List.mem_map.mp m;have q:(kvs.any λkv=>decide (kv.1=k))=true:=List.any_eq_true.mpr ⟨p,hp,decide_eq_true e⟩;rw[P7,h]at q;exact absurd q (by simp)
theorem b0y{kvs:List (κ×V)}{k:κ}{v:V}(h:N0 kvs k=some v):k∈kvs.map (·.1):=by
 have q:(kvs.any λkv=>decide (kv.1=k))=true:=by
  rw[P7,h]
  all_goals rfl
 obtain⟨p,hp,e⟩:=List.any_eq_true.mp q;exact List.mem_map.mpr ⟨p,hp,of_decide_eq_true e⟩
theorem a6d:∀{l:List κ}{k:κ},l.Nodup->¬k∈l->(l++[k]).Nodup
 |[],k,_,_=>by simp
 |a::r,k,h,hk=>by
  obtain⟨h1,h2⟩:=List.nodup_cons.mp h;show(a::(r++[k])).Nodup;refine List.nodup_cons.mpr ⟨λm=>?_,a6d h2 λm=>hk (List.mem_cons.mpr (Or.inr m))⟩;rcases List.mem_append.mp m with q|q
  .exact h1 q
  .exact hk (List.mem_cons.mpr (Or.inl (List.mem_singleton.mp q).symm))
end
end L2
namespace L2
open PySem PySem.Spec PyProof.Rows PySem.W
section
variable {O:KeyOrd}{key:Nat->O.α}{N:Nat}{p:Array Nat}
noncomputable def kk(key:Nat->O.α)(p:Array Nat)(i:Nat):O.α:=key (p[i]?.getD 0)
end
theorem J9:∀a:List Int,HT.lexLt a a=false
 |[]=>rfl
 |x::xs=>by rw[HT.lexLt_cons,if_pos rfl];exact J9 xs
theorem U9:∀a b c:List Int,HT.lexLt a b=true->HT.lexLt b c=true->HT.lexLt a c=true
 |[],[],_,h,_=>by cases h
 |_::_,[],_,h,_=>by cases h
 |_,_::_,[],_,h=>by cases h
 |[],_::_,_::_,_,_=>rfl
 |x::xs,y::ys,z::zs,h1,h2=>by
  rw[HT.lexLt_cons]at h1 h2⊢;by_cases e1:x=y
  .rw[if_pos e1]at h1;by_cases e2:y=z
   .rw[if_pos e2]at h2;rw[if_pos (e1.trans e2)];exact U9 xs ys zs h1 h2
   .rw[if_neg e2]at h2;rw[if_neg (by rw[e1];exact e2),e1];exact h2
  .rw[if_neg e1]at h1;have h1:=of_decide_eq_true h1;by_cases e2:y=z
   .rw[if_neg (by rw[<-e2];exact e1),<-e2];exact decide_eq_true h1
   .rw[if_neg e2]at h2;have h2:=of_decide_eq_true h2;rw[if_neg (by omega)];exact decide_eq_true (by omega)
theorem V0:∀a b:List Int,HT.lexLt a b=false->HT.lexLt b a=false->a=b
 |[],[],_,_=>rfl
 |[],_::_,h,_=>by cases h
 |_::_,[],_,h=>by cases h
 |x::xs,y::ys,h1,h2=>by
  rw[HT.lexLt_cons]at h1 h2;by_cases e:x=y
  .subst e;rw[if_pos rfl]at h1 h2;rw[V0 xs ys h1 h2]
  .rw[if_neg e]at h1;rw[if_neg (Ne.symm e)]at h2;have h1:=of_decide_eq_false h1;have h2:=of_decide_eq_false h2;omega
theorem b1G(a b c:List Int)(h:HT.lexLt a c=true):HT.lexLt a b=true∨HT.lexLt b c=true:=by
 cases h1:HT.lexLt a b with
 |true=>exact .inl rfl
 |false =>
  refine .inr ?_;cases h2:HT.lexLt b a with
  |true=>exact U9 b a c h2 h
  |false=>rw[<-V0 a b h1 h2];exact h
noncomputable def OL:KeyOrd:=⟨List Int,HT.lexLt,J9,U9,b1G,V0⟩
def J7(tss:LLI):Prop:=tss.Pairwise λa b=>HT.lexLt b a=false
section
variable {prog:Program}{w:World}{A:Around}{E:Value->Shared->Prop}{s:Shared}
noncomputable def b1H(fin:Bool):List Int->List Int->Bool
 |[],_=>fin
 |_::_,[]=>fin
 |x::xs,y::ys=>if x=y then b1H fin xs ys else decide (x<y)
theorem a4g:∀(xs ys:List Int),b1H (decide (xs.length<ys.length)) xs ys=HT.lexLt xs ys
 |[],[]=>rfl
 |[],y::ys=>by
  show decide (0<ys.length+1)=true;exact decide_eq_true (by omega)
 |x::xs,[]=>by
  show decide (xs.length+1<0)=false;exact decide_eq_false (by omega)
 |x::xs,y::ys=>by
  rw[HT.lexLt_cons];show(if x=y then _ else _)=_;split
  .rw[<-a4g xs ys];congr 1;simp only[List.length_cons];exact decide_eq_decide.mpr (by omega)
  .rfl
theorem a6V{flag:Bool}{a b:Int}{t u:Tok}{Q:Bool->Shared->Prop}(h:Q (decide (a<b)) s):wpAny (model prog w) A (oneLt' flag (.int a t) (.int b u)) Q E s:=by
 cases flag with
 |true=>exact oneLt_int h
 |false=>exact kat_one _ _ (lt_int h)
theorem a0G{b fin:Bool}{Q:Bool->Shared->Prop}:∀{vs ws:List Value}{ns ms:List Int}(i:Nat),IntsAre vs ns->IntsAre ws ms->Q (b1H fin ns ms) s->KatLex prog w A b fin Q (vs.zip ws) i s
 |_,_,_,_,i,.nil,_,h=>h
 |_,_,_,_,i,.cons _ _ _,.nil,h=>h
 |_,_,_,_,i,.cons x t hx,.cons y u hy,h=>by
  rw[List.zip_cons_cons];refine kat_cons (wpAny_eqBool_int ?_);have h:Q (if x=y then b1H fin _ _ else decide (x<y)) s:=h;by_cases e:x=y
  .rw[if_pos e]at h;rw[show(x==y)=true from beq_iff_eq.mpr e];exact kat_yes (a0G (i+1) hx hy h)
  .rw[if_neg e]at h;rw[show(x==y)=false from beq_eq_false_iff_ne.mpr e];exact kat_no (a6V h)
def TupsAre(h:Heap)(vs:List Value)(rss:LLI):Prop:=vs.length=rss.length/\∀(i:Nat) (v:Value),vs[i]?=some v->∃(r:List Int) (b:Addr) (its:Array Value),rss[i]?=some r/\v=Value.ref b/\IsTup h b its/\IntsAre its.toList r
theorem TupsAre.keeps{h h':Heap}{vs:List Value}{rss:LLI}(t:TupsAre h vs rss)(k:∀b its,IsTup h b its->IsTup h' b its):TupsAre h' vs rss :=
 ⟨t.1,λi v e=>let ⟨r,b,its,e1,e2,e3,e4⟩:=t.2 i v e;⟨r,b,its,e1,e2,k _ _ e3,e4⟩⟩
theorem a3G{h:Heap}:∀{vs:List Value}{rss:LLI},TupsAre h vs rss->(∀r∈rss,0<r.length)->∃fs,KatTups h vs fs/\fs.length=vs.length/\∀f∈fs,∃n t,f=Value.int n t
 |[],_,_,_=>⟨[],trivial,rfl,λ_ z=>nomatch z⟩
 |v::vs,[],T,_=>by cases T.1
 |v::vs,r::rss,T,hw=>by
  obtain⟨fs,h1,h2,h3⟩:=a3G (vs:=vs) (rss:=rss) ⟨by have:=T.1;simpa using this,λi u e=>T.2 (i+1) u e⟩ λr hr=>hw r (List.mem_cons_of_mem _ hr);obtain⟨r',b,its,e1,e2,⟨o,q1,q2,n,q3⟩,e4⟩:=T.2 0 v rfl;cases e1;have hr:=hw r List.mem_cons_self;obtain⟨x,t,us,e5⟩:∃x t us,its.toList=Value.int x t::us:=by
   generalize its.toList=l at e4;cases e4 with
   |nil=>simp at hr
   |cons x t h=>exact⟨x,t,_,rfl⟩
  refine⟨.int x t::fs,⟨⟨b,o,its,n,e2,q1,q2,q3,?_⟩,h1⟩,by simp[h2],λf hf=>?_⟩
  .rw[<-Array.getElem?_toList,e5];rfl
  .rcases List.mem_cons.mp hf with rfl|hf
   .exact⟨x,t,rfl⟩
   .exact h3 f hf
theorem a2k{vs:List Value}{rss:LLI}{Q:SortKind->Shared->Prop}(T:TupsAre s.heap vs rss)(hw:∀r∈rss,0<r.length)(hv:0<vs.length)(h:Q (tuples' true) s):wpAny (model prog w) A (keyKind' vs.toArray) Q E s:=by
 obtain⟨fs,h1,h2,h3⟩:=a3G T hw;refine kat_kind (T:=.type "int") h1 (by omega) (λv hv=>?_) rfl ?_
 .obtain⟨n,t,rfl⟩:=h3 v hv;exact .now
 .rw[show(Value.type "int" != Value.type "tuple")=true from rfl];exact h
end
section
variable {prog:Program}{w:World}{A:Around}{E:Value->Shared->Prop}{s:Shared}
theorem L3{h:Heap}{a:Addr}{vs:List Value}{out:Array Value}:∀b o,b≠a->h.get? b=some o->(sortedHeap h a vs out).get? b=some o:=λb o hb e=>by
 unfold sortedHeap;rw[Heap.get?_update_ne _ _ _ _ hb];exact Heap.get?_push_of_some _ (Heap.get?_push_of_some _ (by rw[Heap.get?_update_ne _ _ _ _ hb];exact e))
theorem O6{h:Heap}{a:Addr}{vs:List Value}{out:Array Value}{n:Nat}(ho:h.get? a=some (seqObj "list" vs.toArray n)):∃c,(sortedHeap h a vs out).get? a=some (seqObj "list" out c):=by
 unfold sortedHeap;have ha:a<h.objs.size:=Heap.lt_size ho;obtain⟨e1,ho1⟩:∃e1,(h.update a (Obj.mapSeq λ_=>#[])).get? a=some (seqObj "list" #[] e1):=⟨_,get?_update_seq ho (λ_=>#[])⟩;have ho6:(((h.update a (Obj.mapSeq λ_=>#[])).push (seqObj "tuple" vs.toArray 0)).push (seqObj "list" #[] 0)).get? a=some (seqObj "list" #[] e1):=Heap.get?_push_of_some _ (Heap.get?_push_of_some _ ho1);exact⟨_,get?_update_seq ho6 (λ_=>out)⟩
end
section
variable {X:Cx}
theorem a1O{pins:List (Addr×Obj)}{σ:St}{H:Hp}{s:Shared}(I:Inv X pins σ H s){ys:List V}{rss:LLI}{us:List Value}(h:Its H ys rss)(r:Vals ys us):TupsAre s.heap us rss:=by
 refine⟨by rw[<-r.length];exact h.1,λi v e=>?_⟩;have hi:i<ys.length:=by rw[r.length];exact(List.getElem?_eq_some_iff.mp e).1
 obtain⟨u,e1,e2⟩:=r.get (List.getElem?_eq_getElem hi);rw[e]at e1;cases e1;obtain⟨row,q1,a,q2,q3⟩:=h.2 i _ (List.getElem?_eq_getElem hi);rw[q2]at e2;cases e2;obtain⟨its,rv,tp,_⟩:=I.tuple (SqT.of (K:=X.K) q3);exact⟨row,a,its.toArray,q1,rfl,tp,by simpa using a5i rv⟩
end
noncomputable def O3:Bool->Keyed->Array Keyed->Nat->Nat->Nat->StateT SortSt Sem (Option Nat):=sortPriv% PySem.Builtin.gallop
noncomputable def O5(left:Bool)(key:Keyed)(arr:Array Keyed)(base:Nat)(i:Nat):StateT SortSt Sem (Option Bool):=do
 let x <-elem' arr (base+i)
 if left then lt' x key else return (<-lt' key x).map (!·)
noncomputable def b2c(left:Bool)(key:Keyed)(arr:Array Keyed)(base n lo₀ hi₀:Nat):StateT SortSt Sem (Option Nat):=do
 let mut lo:=lo₀
 let mut hi:=hi₀
 for _ in [0:n] do
  if lo ≥ hi then break
  let m:=lo+(hi-lo) / 2
  let some more <-O5 left key arr base m|return none
  if more then lo:=m+1 else hi:=m
 return some hi
theorem a5l(left:Bool)(key:Keyed)(arr:Array Keyed)(base n hint:Nat):O3 left key arr base n hint=(O5 left key arr base hint>>=λr=>match r with
 |some right=>(if right=true then
   (forIn [:n] ((none,0,1):Option (Option Nat)×Nat×Nat) (λ_ c=>if c.2.2 ≥ n-hint then pure (.done (none,c.2.1,c.2.2))else O5 left key arr base (hint+c.2.2)>>=λr=>match r with
     |some more=>(if (!more)=true then pure (.done (none,c.2.1,c.2.2))else pure (.yield (none,c.2.2,2*c.2.2+1)))
     |_=>pure (.done (some none,c.2.1,c.2.2)))>>=λc=>match c.1 with
    |some r=>pure r
    |none=>b2c left key arr base n (hint+c.2.1+1) (hint+min c.2.2 (n-hint)))
  else
   (forIn [:n] ((none,0,1):Option (Option Nat)×Nat×Nat) (λ_ c=>if c.2.2 ≥ hint+1 then pure (.done (none,c.2.1,c.2.2))else O5 left key arr base (hint-c.2.2)>>=λr=>match r with
     |some found=>(if found=true then pure (.done (none,c.2.1,c.2.2))else pure (.yield (none,c.2.2,2*c.2.2+1)))
     |_=>pure (.done (some none,c.2.1,c.2.2)))>>=λc=>match c.1 with
    |some r=>pure r
    |none=>b2c left key arr base n (hint+1-min c.2.2 (hint+1)) (hint-c.2.1)))
 |_=>pure none):=by
 show(_>>=_)=(_>>=_);refine congrArg _ (funext λr=>?_);cases r with
 |none=>rfl
 |some right =>
  dsimp only;refine ite_congr rfl (λ_=>?_) (λ_=>?_)
  .refine congr (congrArg _ (congrArg _ (funext λ_=>funext λc=>?_))) (funext λc=>?_)
   .rfl
   .rcases c with⟨_|q,c⟩<;>rfl
  .refine congr (congrArg _ (congrArg _ (funext λ_=>funext λc=>?_))) (funext λc=>?_)
   .rfl
   .rcases c with⟨_|q,c⟩<;>rfl
section
variable {prog:Program}{w:World}{A:Around}{E:Value->Shared->Prop}{s:Shared}
def Cmp(prog:Program)(w:World)(A:Around)(s:Shared)(κ:SortKind)(D:Keyed->Prop)(lt:Keyed->Keyed->Bool):Prop :=
 ∀x y (C:Bool->Shared->Prop),D x->D y->C (lt x y) s->wpAny (model prog w) A (keyLt' κ x.1 y.1) C (λ_ _=>False) s
variable {κ:SortKind}{D:Keyed->Prop}{lt:Keyed->Keyed->Bool}
theorem X6{st:SortSt}{x y:Keyed}{Q:Option Bool->SortSt->Prop}(hc:Cmp prog w A s κ D lt)(hk:kindOf st=κ)(hx:D x)(hy:D y)(h:Q (some (lt x y)) st):wpS (model prog w) A E s (lt' x y) Q st:=by
 rw[lt'_eq];refine wpS_bind (wpS_get ?_);rw[hk];refine wpS_bind (wpS_lift (wpAny_attempt (wpAny_mono (hc x y (λb s'=>s'=s/\b=lt x y) hx hy ⟨rfl,rfl⟩) (λb s' ⟨e1,e2⟩=>?_) λ_ _ z=>z.elim)));rw[e1,e2];exact⟨rfl,wpS_pure h⟩
noncomputable def ahead(lt:Keyed->Keyed->Bool)(left:Bool)(key x:Keyed):Bool:=if left then lt x key else !(lt key x)
theorem a4C{st:SortSt}{left:Bool}{key x:Keyed}{arr:Array Keyed}{base i:Nat}{Q:Option Bool->SortSt->Prop}(hc:Cmp prog w A s κ D lt)(hk:kindOf st=κ)(hkey:D key)(hx:D x)(he:arr[base+i]?=some x)(h:Q (some (ahead lt left key x)) st) :
  wpS (model prog w) A E s (O5 left key arr base i) Q st:=by
 unfold O5;rw[elem'_eq,he];refine wpS_bind (wpS_pure ?_);unfold ahead at h;cases left with
 |true=>exact X6 hc hk hx hkey h
 |false=>exact wpS_bind (X6 hc hk hkey hx (wpS_pure h))
theorem a5I{st:SortSt}{left:Bool}{key:Keyed}{arr:Array Keyed}{base n lo hi:Nat}{Q:Option Nat->SortSt->Prop}(bb:Nat->Bool)
  (ask:∀i,i<n->∀{R:Option Bool->SortSt->Prop},R (some (bb i)) st->wpS (model prog w) A E s (O5 left key arr base i) R st) (mono:∀i j,i<=j->j<n->bb j=true->bb i=true) (neg:∀i j,i<=j->j<n->bb i=false->bb j=false)
  (h1:lo<=hi) (h2:hi<=n) (h3:∀i,i<lo->bb i=true) (h4:∀i,hi<=i->i<n->bb i=false)
  (h:∀k,k<=n->(∀i,i<k->bb i=true)->(∀i,k<=i->i<n->bb i=false)->Q (some k) st):wpS (model prog w) A E s (b2c left key arr base n lo hi) Q st:=by
 unfold b2c;dsimp only;refine wpS_bind (wpS_mono (wpS_forRange (I:=λx c st'=>st'=st/\∃l r,c=(none,l,r)/\l<=r/\r<=n/\r-l<=n-x/\(∀i,i<l->bb i=true)/\(∀i,r<=i->i<n->bb i=false))
  (Q:=λc st'=>st'=st/\∃l,c=(none,l,l)/\l<=n/\(∀i,i<l->bb i=true)/\(∀i,l<=i->i<n->bb i=false)) ?step ?fin ⟨rfl,lo,hi,rfl,h1,h2,by omega,h3,h4⟩) ?post)
 case fin =>
  rintro c st' ⟨rfl,l,r,rfl,a1,a2,a3,a4,a5⟩;have e:l=r:=by omega
  subst e;exact⟨rfl,l,rfl,a2,a4,a5⟩
 case step =>
  rintro x c st' _ hx ⟨rfl,l,r,rfl,a1,a2,a3,a4,a5⟩;dsimp only;by_cases hge:l ≥ r
  .rw[if_pos hge];have e:l=r:=by omega
   subst e;exact wpS_pure ⟨rfl,l,rfl,a2,a4,a5⟩
  .rw[if_neg hge];have hm:l+(r-l) / 2<n:=by omega
   refine wpS_bind (ask _ hm ?_);dsimp only;cases hb:bb (l+(r-l) / 2)with
   |true =>
    rw[if_pos rfl];exact wpS_pure ⟨rfl,_,r,rfl,by omega,a2,by omega,λi hi=>mono i _ (by omega) hm hb,a5⟩
   |false =>
    rw[if_neg (by simp)];exact wpS_pure ⟨rfl,l,_,rfl,by omega,by omega,by omega,a4,λi h1 h2=>neg _ i h1 h2 hb⟩
 case post =>
  rintro c st' ⟨rfl,l,rfl,a2,a4,a5⟩;exact wpS_pure (h l a2 a4 a5)
theorem J8{st:SortSt}{left:Bool}{key:Keyed}{arr:Array Keyed}{base n hint:Nat}{Q:Option Nat->SortSt->Prop}(hc:Cmp prog w A s κ D lt)(hk:kindOf st=κ)(hkey:D key)(bb:Nat->Bool)
  (hb:∀i,i<n->∃x,arr[base+i]?=some x/\D x/\ahead lt left key x=bb i) (mono:∀i j,i<=j->j<n->bb j=true->bb i=true) (hh:hint<n)
  (h:∀k,k<=n->(∀i,i<k->bb i=true)->(∀i,k<=i->i<n->bb i=false)->Q (some k) st):wpS (model prog w) A E s (O3 left key arr base n hint) Q st:=by
 have ask:∀i,i<n->∀{R:Option Bool->SortSt->Prop},R (some (bb i)) st->wpS (model prog w) A E s (O5 left key arr base i) R st:=λi hi R hR=>by
  obtain⟨x,e1,e2,e3⟩:=hb i hi;exact a4C hc hk hkey e2 e1 (by rw[e3];exact hR)
 have neg:∀i j,i<=j->j<n->bb i=false->bb j=false:=λi j hij hj e=>by
  cases e2:bb j with
  |false=>rfl
  |true=>rw[mono i j hij hj e2]at e;cases e
 rw[a5l];refine wpS_bind (ask hint hh ?_);dsimp only;cases hb0:bb hint with
 |true =>
  rw[if_pos rfl];refine wpS_bind (wpS_mono (wpS_forRange (I:=λx c st'=>st'=st/\∃l o,c=(none,l,o)/\l<o/\x+1<=o/\hint+l<n/\bb (hint+l)=true)
   (Q:=λc st'=>st'=st/\∃l o,c=(none,l,o)/\l<o/\hint+l<n/\bb (hint+l)=true/\(o ≥ n-hint∨bb (hint+o)=false)) ?step ?fin ⟨rfl,0,1,rfl,by omega,by omega,by omega,hb0⟩) ?post)
  case fin =>
   rintro c st' ⟨rfl,l,o,rfl,a1,a2,a3,a4⟩;exact⟨rfl,l,o,rfl,a1,a3,a4,.inl (by omega)⟩
  case step =>
   rintro x c st' _ hx ⟨rfl,l,o,rfl,a1,a2,a3,a4⟩;dsimp only;by_cases hge:o ≥ n-hint
   .rw[if_pos hge];exact wpS_pure ⟨rfl,l,o,rfl,a1,a3,a4,.inl hge⟩
   .rw[if_neg hge];refine wpS_bind (ask _ (by omega) ?_);dsimp only;cases hb:bb (hint+o)with
    |true =>
     rw[if_neg (by simp)];exact wpS_pure ⟨rfl,o,2*o+1,rfl,by omega,by omega,by omega,hb⟩
    |false =>
     rw[if_pos (by rfl)];exact wpS_pure ⟨rfl,l,o,rfl,a1,a3,a4,.inr hb⟩
  case post =>
   rintro c st' ⟨rfl,l,o,rfl,a1,a3,a4,a5⟩;dsimp only;refine a5I (lo:=hint+l+1) (hi:=hint+min o (n-hint)) bb ask mono neg (by omega) (by omega) (λi hi=>mono i (hint+l) (by omega) a3 a4) (λi h1 h2=>?_) h;rcases a5 with a5|a5
   .omega
   .exact neg (hint+o) i (by omega) h2 a5
 |false =>
  rw[if_neg (by simp)];refine wpS_bind (wpS_mono (wpS_forRange (I:=λx c st'=>st'=st/\∃l o,c=(none,l,o)/\l<o/\x+1<=o/\l<=hint/\bb (hint-l)=false)
   (Q:=λc st'=>st'=st/\∃l o,c=(none,l,o)/\l<o/\l<=hint/\bb (hint-l)=false/\(o ≥ hint+1∨bb (hint-o)=true)) ?step ?fin ⟨rfl,0,1,rfl,by omega,by omega,by omega,hb0⟩) ?post)
  case fin =>
   rintro c st' ⟨rfl,l,o,rfl,a1,a2,a3,a4⟩;exact⟨rfl,l,o,rfl,a1,a3,a4,.inl (by omega)⟩
  case step =>
   rintro x c st' _ hx ⟨rfl,l,o,rfl,a1,a2,a3,a4⟩;dsimp only;by_cases hge:o ≥ hint+1
   .rw[if_pos hge];exact wpS_pure ⟨rfl,l,o,rfl,a1,a3,a4,.inl hge⟩
   .rw[if_neg hge];refine wpS_bind (ask _ (by omega) ?_);dsimp only;cases hb:bb (hint-o)with
    |true =>
     rw[if_pos rfl];exact wpS_pure ⟨rfl,l,o,rfl,a1,a3,a4,.inr hb⟩
    |false =>
     rw[if_neg (by simp)];exact wpS_pure ⟨rfl,o,2*o+1,rfl,by omega,by omega,by omega,hb⟩
  case post =>
   rintro c st' ⟨rfl,l,o,rfl,a1,a3,a4,a5⟩;dsimp only;refine a5I (lo:=hint+1-min o (hint+1)) (hi:=hint-l) bb ask mono neg (by omega) (by omega) (λi hi=>?_) (λi h1 h2=>neg (hint-l) i h1 h2 a4) h;rcases a5 with a5|a5
   .omega
   .exact mono i (hint-o) (by omega) (by omega) a5
end
section
variable {O:KeyOrd}{kf:Keyed->O.α}{la lb o:List Keyed}{ia ib:Nat}
def leK(kf:Keyed->O.α)(x y:Keyed):Prop:=O.kle (kf x) (kf y)
noncomputable def ltK(kf:Keyed->O.α)(x y:Keyed):Bool:=O.blt (kf x) (kf y)
structure MS(kf:Keyed->O.α)(la lb o:List Keyed)(ia ib:Nat):Prop where
 perm:o.Perm (la.take ia++lb.take ib)
 sorted:o.Pairwise (leK kf)
 ra:∀x∈o,∀y∈la.drop ia,leK kf x y
 rb:∀x∈o,∀y∈lb.drop ib,leK kf x y
theorem V5{α:Type}{l:List α}{i:Nat}{x:α}(h:l[i]?=some x):l.drop i=x::l.drop (i+1):=by
 obtain⟨hi,e⟩:=List.getElem?_eq_some_iff.mp h;rw[List.drop_eq_getElem_cons hi,e]
theorem S6{l:List Keyed}{i:Nat}{x:Keyed}(hs:l.Pairwise (leK kf))(h:l[i]?=some x):∀y∈l.drop (i+1),leK kf x y:=by
 have:=hs.drop (i:=i);rw[V5 h]at this;exact(List.pairwise_cons.mp this).1
theorem Q4{α:Type}{l:List α}{i:Nat}{x:α}(h:l[i]?=some x):l.take (i+1)=l.take i++[x]:=by
 rw[List.take_add_one,h];rfl
theorem MS.stepA{x:Keyed}(h:MS kf la lb o ia ib)(hs:la.Pairwise (leK kf))(e:la[ia]?=some x)(hb:∀y∈lb.drop ib,leK kf x y):MS kf la lb (o++[x]) (ia+1) ib:=by
 have hx:x∈la.drop ia:=by rw[V5 e];exact List.mem_cons_self
 refine⟨?_,?_,λz hz y hy=>?_,λz hz y hy=>?_⟩
 .rw[Q4 e];have:=h.perm.append_right [x];refine this.trans ?_;rw[List.append_assoc,List.append_assoc];exact List.Perm.append_left _ List.perm_append_comm
 .rw[List.pairwise_append];exact⟨h.sorted,List.pairwise_singleton _ _,λz hz y hy=>by rw[List.mem_singleton.mp hy];exact h.ra z hz x hx⟩
 .have hy':y∈la.drop ia:=by rw[V5 e];exact List.mem_cons_of_mem _ hy
  rcases List.mem_append.mp hz with q|q
  .exact h.ra z q y hy'
  .rw[List.mem_singleton.mp q];exact S6 hs e y hy
 .rcases List.mem_append.mp hz with q|q
  .exact h.rb z q y hy
  .rw[List.mem_singleton.mp q];exact hb y hy
theorem MS.swap(h:MS kf la lb o ia ib):MS kf lb la o ib ia:=⟨h.perm.trans List.perm_append_comm,h.sorted,h.rb,h.ra⟩
theorem MS.stepB{x:Keyed}(h:MS kf la lb o ia ib)(hs:lb.Pairwise (leK kf))(e:lb[ib]?=some x)(ha:∀y∈la.drop ia,leK kf x y):MS kf la lb (o++[x]) ia (ib+1) :=
 (h.swap.stepA hs e ha).swap
theorem MS.bulkA(hs:la.Pairwise (leK kf)):∀(k:Nat) {o:List Keyed}{ia:Nat},MS kf la lb o ia ib->ia+k<=la.length->(∀i x,i<k->la[ia+i]?=some x->∀y∈lb.drop ib,leK kf x y)->MS kf la lb (o++(la.drop ia).take k) (ia+k) ib
 |0,o,ia,h,_,_=>by rw[List.take_zero,List.append_nil];exact h
 |k+1,o,ia,h,hl,hk=>by
  obtain⟨x,hx⟩:∃x,la[ia]?=some x:=⟨_,List.getElem?_eq_getElem (by omega)⟩;have h1:=h.stepA hs hx (hk 0 x (by omega) hx);have h2:=MS.bulkA hs k h1 (by omega) λi y hi e=>hk (i+1) y (by omega) (by rw[<-e];congr 1;omega);rw[V5 hx,List.take_succ_cons];rw[List.append_assoc]at h2;rw[show ia+(k+1)=ia+1+k by omega];exact h2
theorem MS.bulkB(hs:lb.Pairwise (leK kf)){k:Nat}(h:MS kf la lb o ia ib)(hl:ib+k<=lb.length)(hk:∀i x,i<k->lb[ib+i]?=some x->∀y∈la.drop ia,leK kf x y):MS kf la lb (o++(lb.drop ib).take k) ia (ib+k) :=
 (MS.bulkA hs k h.swap hl hk).swap
def a0w(kf:Keyed->O.α)(la lb o:List Keyed):Prop:=o.Perm (la++lb)/\o.Pairwise (leK kf)
theorem MS.done(h:MS kf la lb o ia ib)(hs:la.Pairwise (leK kf))(hb:ib=lb.length):a0w kf la lb (o++la.drop ia++lb.drop ib):=by
 subst hb;rw[List.drop_length,List.append_nil];have hp:=h.perm;rw[List.take_length]at hp;refine⟨?_,?_⟩
 .refine(hp.append_right _).trans ?_;rw[List.append_assoc];refine(List.Perm.append_left _ List.perm_append_comm).trans ?_;rw[<-List.append_assoc,List.take_append_drop]
 .rw[List.pairwise_append];exact⟨h.sorted,hs.drop,h.ra⟩
theorem MS.lastA(h:MS kf la lb o ia ib)(hsa:la.Pairwise (leK kf))(hs:lb.Pairwise (leK kf))(hl:∀y∈lb.drop ib,∀x∈la.drop ia,leK kf y x):a0w kf la lb (o++lb.drop ib++la.drop ia):=by
 refine⟨?_,?_⟩
 .have hp:=(h.perm.append_right (lb.drop ib)).append_right (la.drop ia);refine hp.trans ?_;rw[List.append_assoc (la.take ia),List.take_append_drop,List.append_assoc];refine(List.Perm.append_left _ List.perm_append_comm).trans ?_;rw[<-List.append_assoc,List.take_append_drop]
 .rw[List.pairwise_append];refine⟨?_,hsa.drop,λx hx y hy=>?_⟩
  .rw[List.pairwise_append];exact⟨h.sorted,hs.drop,h.rb⟩
  .rcases List.mem_append.mp hx with q|q
   .exact h.ra x q y hy
   .exact hl x q y hy
end
noncomputable def a1A:Array Keyed->Array Keyed->StateT SortSt Sem (Array Keyed):=sortPriv% PySem.Builtin.mergeLo
noncomputable def T9(g:Nat):StateT SortSt Sem Unit:=modify λs=>SortSt.mk' (kindOf s) (arrOf s) (pendingOf s) g (failedOf s)
noncomputable def N3(a b out:Array Keyed)(ia ib:Nat):Array Keyed:=out++a.extract ia a.size++b.extract ib b.size
noncomputable def W9(a b out:Array Keyed)(ia ib:Nat):Array Keyed:=out++b.extract ib b.size++a.extract ia a.size
abbrev T1:Type:=Option (Array Keyed)×Array Keyed×Nat×Nat×Nat×Nat
abbrev T2:Type:=Option (Array Keyed)×Array Keyed×Nat×Nat×Nat×Nat×Nat
noncomputable def loD(a b out:Array Keyed)(ia ib mg k k1:Nat):StateT SortSt Sem (ForInStep T2) :=
 elem' a ia>>=λx =>
 if (ia+1+1==a.size)=true then pure (.done (some (W9 a b (out.push x) (ia+1) ib),out.push x,ia+1,ib,mg,k,k1))
 else if (decide (k<7) && decide (k1<7))=true then pure (.done (none,out.push x,ia+1,ib,mg,k,k1))
 else pure (.yield (none,out.push x,ia+1,ib,mg,k,k1))
noncomputable def loC(a b out:Array Keyed)(ia ib mg k bc:Nat):StateT SortSt Sem (ForInStep T2) :=
 elem' b ib>>=λy =>
 if (ib+1==b.size)=true then pure (.done (some (N3 a b (out.push y) ia (ib+1)),out.push y,ia,ib+1,mg,k,bc))
 else elem' a ia>>=λx=>O3 true x b (ib+1) (b.size-(ib+1)) 0>>=λr =>
  match r with
  |some k1=>(if k1 > 0 then
    (if (ib+1+k1==b.size)=true then pure (.done (some (N3 a b (out.push y++b.extract (ib+1) (ib+1+k1)) ia (ib+1+k1)),out.push y++b.extract (ib+1) (ib+1+k1),ia,ib+1+k1,mg,k,k1))
    else loD a b (out.push y++b.extract (ib+1) (ib+1+k1)) ia (ib+1+k1) mg k k1)
   else loD a b (out.push y) ia (ib+1) mg k k1)
  |_=>pure (.done (some (N3 a b (out.push y) ia (ib+1)),out.push y,ia,ib+1,mg,k,bc))
noncomputable def loB(a b out:Array Keyed)(ia ib mg ac bc:Nat):StateT SortSt Sem (ForInStep T2) :=
 T9 mg>>=λ_=>elem' b ib>>=λy=>O3 false y a ia (a.size-ia) 0>>=λr =>
 match r with
 |some k=>(if k > 0 then
   (if (ia+k+1==a.size)=true then pure (.done (some (W9 a b (out++a.extract ia (ia+k)) (ia+k) ib),out++a.extract ia (ia+k),ia+k,ib,mg,k,bc))
   else if (ia+k==a.size)=true then pure (.done (some (N3 a b (out++a.extract ia (ia+k)) (ia+k) ib),out++a.extract ia (ia+k),ia+k,ib,mg,k,bc))
   else loC a b (out++a.extract ia (ia+k)) (ia+k) ib mg k bc)
  else loC a b out ia ib mg k bc)
 |_=>pure (.done (some (N3 a b out ia ib),out,ia,ib,mg,ac,bc))
noncomputable def loA(a b out:Array Keyed)(ia ib ac bc mg:Nat):StateT SortSt Sem (ForInStep T1) :=
 elem' b ib>>=λy=>elem' a ia>>=λx=>lt' y x>>=λr =>
 match r with
 |some bWins=>(if bWins=true then elem' b ib>>=λy =>
   (if (ib+1==b.size)=true then pure (.done (some (N3 a b (out.push y) ia (ib+1)),out.push y,ia,ib+1,0,bc+1))
   else if bc+1 ≥ mg then pure (.done (none,out.push y,ia,ib+1,0,bc+1))
   else pure (.yield (none,out.push y,ia,ib+1,0,bc+1)))
  else elem' a ia>>=λx =>
   (if (ia+1+1==a.size)=true then pure (.done (some (W9 a b (out.push x) (ia+1) ib),out.push x,ia+1,ib,ac+1,0))
   else if ac+1 ≥ mg then pure (.done (none,out.push x,ia+1,ib,ac+1,0))
   else pure (.yield (none,out.push x,ia+1,ib,ac+1,0))))
 |_=>pure (.done (some (N3 a b out ia ib),out,ia,ib,ac,bc))
theorem a3V(a b:Array Keyed):a1A a b=(do
 rule "list.sort.merge-lo"
 let y <-elem' b 0
 if (1==b.size)=true then pure (N3 a b #[y] 0 1)
 else if (0+1==a.size)=true then pure (W9 a b #[y] 0 1)
 else do
  let g <-get
  let r <-forIn [:a.size+b.size] ((none,#[y],0,1,gallopOf g):Option (Array Keyed)×Array Keyed×Nat×Nat×Nat) λ_ c=>do
   let r <-forIn [:a.size+b.size] ((none,c.2.1,c.2.2.1,c.2.2.2.1,0,0):T1) λ_ d=>loA a b d.2.1 d.2.2.1 d.2.2.2.1 d.2.2.2.2.1 d.2.2.2.2.2 c.2.2.2.2
   match r.1 with
   |some q=>pure (ForInStep.done (some q,r.2.1,r.2.2.1,r.2.2.2.1,c.2.2.2.2))
   |none=>do
    rule "list.sort.gallop"
    let t <-forIn [:a.size+b.size] ((none,r.2.1,r.2.2.1,r.2.2.2.1,c.2.2.2.2+1,r.2.2.2.2.1,r.2.2.2.2.2):T2) λ_ d =>
     if d.2.2.2.2.1 > 1 then loB a b d.2.1 d.2.2.1 d.2.2.2.1 (d.2.2.2.2.1-1) d.2.2.2.2.2.1 d.2.2.2.2.2.2 else loB a b d.2.1 d.2.2.1 d.2.2.2.1 d.2.2.2.2.1 d.2.2.2.2.2.1 d.2.2.2.2.2.2
    match t.1 with
    |some q=>pure (ForInStep.done (some q,t.2.1,t.2.2.1,t.2.2.2.1,t.2.2.2.2.1))
    |none=>do
     T9 (t.2.2.2.2.1+1)
     pure (ForInStep.yield (none,t.2.1,t.2.2.1,t.2.2.2.1,t.2.2.2.2.1+1))
  match r.1 with
  |some q=>pure q
  |none=>unsupported "internal:list.sort.merge-bound"):=by
 show(_>>=_)=(_>>=_);refine congrArg _ (funext λ_=>?_);dsimp only;refine congrArg _ (funext λy=>?_);refine ite_congr rfl (λ_=>rfl) (λ_=>ite_congr rfl (λ_=>rfl) λ_=>?_);refine congrArg _ (funext λg=>?_);refine congr (congrArg _ (congrArg _ (funext λ_=>funext λc=>?_))) (funext λr=>?_)
 .refine congr (congrArg _ (congrArg _ (funext λ_=>funext λd=>?_))) (funext λr=>?_)
  .rfl
  .rcases r with⟨_|q,r⟩
   .dsimp only;refine congrArg _ (funext λ_=>?_);refine congr (congrArg _ (congrArg _ (funext λ_=>funext λd=>?_))) (funext λr=>?_)
    .rfl
    .rcases r with⟨_|q,r⟩<;>rfl
   .rfl
 .rcases r with⟨_|q,r⟩
  .dsimp only
  .rfl
theorem a1a{α:Type}(a:Array α)(i:Nat):(a.extract i a.size).toList=a.toList.drop i:=by
 rw[Array.toList_extract];simp[List.extract_eq_drop_take'];rw[<-Array.length_toList,List.take_length]
theorem a1V{α:Type}(a:Array α)(i k:Nat):(a.extract i (i+k)).toList=(a.toList.drop i).take k:=by
 rw[Array.toList_extract];simp[List.extract_eq_drop_take]
theorem a4r(a b out:Array Keyed)(ia ib:Nat):(N3 a b out ia ib).toList=out.toList++a.toList.drop ia++b.toList.drop ib:=by
 unfold N3;rw[Array.toList_append,Array.toList_append,a1a,a1a]
theorem a4h(a b out:Array Keyed)(ia ib:Nat):(W9 a b out ia ib).toList=out.toList++b.toList.drop ib++a.toList.drop ia:=by
 unfold W9;rw[Array.toList_append,Array.toList_append,a1a,a1a]
section
variable {prog:Program}{w:World}{A:Around}{E:Value->Shared->Prop}{s:Shared}{κ:SortKind}{D:Keyed->Prop}{O:KeyOrd}{kf:Keyed->O.α}{a b out:Array Keyed}{ia ib:Nat}{st:SortSt}
def Good(st st':SortSt):Prop:=kindOf st'=kindOf st/\arrOf st'=arrOf st/\pendingOf st'=pendingOf st/\failedOf st'=failedOf st
structure Two(D:Keyed->Prop)(kf:Keyed->O.α)(a b:Array Keyed):Prop where
 da:∀(i:Nat) x,a[i]?=some x->D x
 db:∀(i:Nat) x,b[i]?=some x->D x
 sa:a.toList.Pairwise (leK kf)
 sb:b.toList.Pairwise (leK kf)
 last:∀y∈b.toList,∀x,a[a.size-1]?=some x->ltK kf y x=true
theorem R9{l:List Keyed}{i:Nat}{x z:Keyed}(hs:l.Pairwise (leK kf))(e:l[i]?=some x)(h:leK kf z x):∀y∈l.drop i,leK kf z y:=λy hy=>by
 rw[V5 e]at hy;rcases List.mem_cons.mp hy with rfl|hy
 .exact h
 .exact KeyOrd.kle_trans h (S6 hs e y hy)
def MI(kf:Keyed->O.α)(a b out:Array Keyed)(ia ib:Nat):Prop:=MS kf a.toList b.toList out.toList ia ib/\ia+1<a.size/\ib<b.size
def C6(kf:Keyed->O.α)(a b r:Array Keyed):Prop:=a0w kf a.toList b.toList r.toList
theorem V2(T:Two D kf a b)(h:MS kf a.toList b.toList out.toList ia ib)(hi:ia+1=a.size):C6 kf a b (W9 a b out ia ib):=by
 unfold C6;rw[a4h];refine h.lastA T.sa T.sb λy hy x hx=>?_;have hlt:ia<a.toList.length:=by rw[Array.length_toList];omega
 rw[List.drop_eq_getElem_cons hlt,List.drop_eq_nil_of_le (by rw[Array.length_toList];omega),List.mem_singleton]at hx;refine KeyOrd.kle_of_klt (T.last y (List.mem_of_mem_drop hy) x ?_);rw[hx,show a.size-1=ia by omega,<-Array.getElem?_toList,List.getElem?_eq_getElem hlt]
theorem V6(T:Two D kf a b)(h:MS kf a.toList b.toList out.toList ia ib)(hi:ib=b.size):C6 kf a b (N3 a b out ia ib):=by
 unfold C6;rw[a4r];exact h.done T.sa (by rw[Array.length_toList];exact hi)
theorem B3{arr:Array Keyed}{i:Nat}(hi:i<arr.size){Q:Keyed->SortSt->Prop}(h:∀x,arr[i]?=some x->arr.toList[i]?=some x->Q x st):wpS (model prog w) A E s (elem' arr i) Q st:=by
 rw[elem'_eq];have e:arr[i]?=some arr[i]:=getElem?_pos arr i hi;rw[e];exact wpS_pure (h _ e (by rw[Array.getElem?_toList];exact e))
def P2(kf:Keyed->O.α)(st:SortSt)(a b:Array Keyed)(c0:Nat)(c:T2)(st':SortSt):Prop:=Good st st'/\((∃r,c.1=some r/\C6 kf a b r)∨(c.1=none/\MI kf a b c.2.1 c.2.2.1 c.2.2.2.1/\c0<=c.2.2.1+c.2.2.2.1))
def Y2(kf:Keyed->O.α)(st:SortSt)(a b:Array Keyed)(c0:Nat)(c:T2)(st':SortSt):Prop:=Good st st'/\c.1=none/\MI kf a b c.2.1 c.2.2.1 c.2.2.2.1/\c0<=c.2.2.1+c.2.2.2.1
def R2'(kf:Keyed->O.α)(st:SortSt)(a b:Array Keyed)(c0:Nat)(r:ForInStep T2)(st':SortSt):Prop:=match r with | .done c'=>P2 kf st a b c0 c' st' | .yield c'=>Y2 kf st a b c0 c' st'
variable {c0 mg k k1 bc ac:Nat}{st':SortSt}
theorem a5B(T:Two D kf a b)(g:Good st st')(h:MI kf a b out ia ib)(hx:∀x,a.toList[ia]?=some x->∀y∈b.toList.drop ib,leK kf x y)(hc0:c0<=ia+ib):wpS (model prog w) A E s (loD a b out ia ib mg k k1) (R2' kf st a b c0) st':=by
 unfold loD;refine wpS_bind (B3 (by have:=h.2.1;omega) λx e1 e2=>?_);have hm:=h.1.stepA T.sa e2 (hx x e2);rw[<-Array.toList_push]at hm;split
 .rename_i e;exact wpS_pure ⟨g,.inl ⟨_,rfl,V2 T hm (eq_of_beq e)⟩⟩
 .rename_i e;have e:¬ia+1+1=a.size:=λz=>e (beq_iff_eq.mpr z);have hq:MI kf a b (out.push x) (ia+1) ib:=⟨hm,by have:=h.2.1;omega,h.2.2⟩;split
  .exact wpS_pure ⟨g,.inr ⟨rfl,hq,by show c0<=ia+1+ib;omega⟩⟩
  .exact wpS_pure ⟨g,rfl,hq,by show c0<=ia+1+ib;omega⟩
theorem gdK(a:Array Keyed){i:Nat}(hi:i<a.size):a[i]?=some (a.getD i (Value.none,Value.none)):=by
 rw[Array.getD_eq_getD_getElem?,getElem?_pos a i hi];rfl
theorem U6{l:List Keyed}(hs:l.Pairwise (leK kf)){i j:Nat}{x y:Keyed}(hij:i<=j)(ex:l[i]?=some x)(ey:l[j]?=some y):leK kf x y:=by
 by_cases e:i=j
 .subst e;rw[ex]at ey;cases ey;exact KeyOrd.kle_refl _
 .refine S6 hs ex y ?_;have:(l.drop (i+1))[j-(i+1)]?=some y:=by rw[List.getElem?_drop,<-ey];congr 1;omega
  exact List.mem_of_getElem? this
theorem a5C(T:Two D kf a b)(hcm:Cmp prog w A s κ D (ltK kf))(hk:kindOf st=κ)(g:Good st st')(h:MI kf a b out ia ib)(hy:∀y,b.toList[ib]?=some y->∀x∈a.toList.drop ia,leK kf y x)(hc0:c0<=ia+ib):wpS (model prog w) A E s (loC a b out ia ib mg k bc) (R2' kf st a b c0) st':=by
 unfold loC;obtain⟨hms,hia,hib⟩:=h;refine wpS_bind (B3 hib λy e1 e2=>?_);have hm:=hms.stepB T.sb e2 (hy y e2);rw[<-Array.toList_push]at hm;split
 .rename_i e;exact wpS_pure ⟨g,.inl ⟨_,rfl,V6 T hm (eq_of_beq e)⟩⟩
 .rename_i e;have e:¬ib+1=b.size:=λz=>e (beq_iff_eq.mpr z);refine wpS_bind (B3 (by omega) λx f1 f2=>?_);refine wpS_bind (J8 hcm (g.1.trans hk) (T.da _ _ f1) (λi=>ltK kf (b.getD (ib+1+i) (Value.none,Value.none)) x) (λi hi=>⟨_,gdK b (by omega),T.db _ _ (gdK b (by omega)),rfl⟩) (λi j hij hj hb=>?_) (by omega) λk1 q1 q2 q3=>?_)
  .refine KeyOrd.klt_of_kle_of_klt (U6 T.sb (i:=ib+1+i) (j:=ib+1+j) (by omega) ?_ ?_) hb
   .rw[Array.getElem?_toList];exact gdK b (by omega)
   .rw[Array.getElem?_toList];exact gdK b (by omega)
  .dsimp only;have hrest:∀(ib':Nat),ib'=ib+1+k1->ib'<b.size->∀x',a.toList[ia]?=some x'->∀y∈b.toList.drop ib',leK kf x' y:=λib' e1 e2 x' ex'=>by
    rw[f2]at ex';cases ex';have hb0:b.toList[ib']?=some (b.getD ib' (Value.none,Value.none)):=by rw[Array.getElem?_toList];exact gdK b e2
    refine R9 T.sb hb0 ?_;have:=q3 k1 (Nat.le_refl _) (by omega);rw[<-e1]at this;exact this
   split
   .have hbk:=MS.bulkB T.sb (k:=k1) hm (by rw[Array.length_toList];omega) λi z hi ez=>by
     refine R9 T.sa f2 ?_;have:=q2 i hi;rw[Array.getElem?_toList,gdK b (by omega)]at ez;cases ez;exact KeyOrd.kle_of_klt this
    rw[<-a1V,<-Array.toList_append]at hbk;split
    .rename_i e3;exact wpS_pure ⟨g,.inl ⟨_,rfl,V6 T hbk (eq_of_beq e3)⟩⟩
    .rename_i e3;have e3:¬ib+1+k1=b.size:=λz=>e3 (beq_iff_eq.mpr z);exact a5B T g ⟨hbk,hia,by omega⟩ (hrest _ rfl (by omega)) (by omega)
   .exact a5B T g ⟨hm,hia,by omega⟩ (hrest _ (by omega) (by omega)) (by omega)
theorem Q3{Q:Unit->SortSt->Prop}(h:∀st2,Good st' st2->Q () st2):wpS (model prog w) A E s (T9 mg) Q st':=by
 unfold T9;exact wpS_modify (h _ ⟨rfl,rfl,rfl,rfl⟩)
theorem Good.trans{st st' st2:SortSt}(h:Good st st')(h2:Good st' st2):Good st st2:=⟨h2.1.trans h.1,h2.2.1.trans h.2.1,h2.2.2.1.trans h.2.2.1,h2.2.2.2.trans h.2.2.2⟩
theorem a5D(T:Two D kf a b)(hcm:Cmp prog w A s κ D (ltK kf))(hk:kindOf st=κ)(g:Good st st')(h:MI kf a b out ia ib)(hc0:c0<=ia+ib):wpS (model prog w) A E s (loB a b out ia ib mg ac bc) (R2' kf st a b c0) st':=by
 unfold loB;obtain⟨hms,hia,hib⟩:=h;refine wpS_bind (Q3 λst2 g2=>?_);have g:=g.trans g2;refine wpS_bind (B3 hib λy e1 e2=>?_);refine wpS_bind (J8 hcm (g.1.trans hk) (T.db _ _ e1) (λi=>!(ltK kf y (a.getD (ia+i) (Value.none,Value.none)))) (λi hi=>⟨_,gdK a (by omega),T.da _ _ (gdK a (by omega)),rfl⟩) (λi j hij hj hb=>?_) (by omega) λk q1 q2 q3=>?_)
 .have hle:leK kf (a.getD (ia+j) (Value.none,Value.none)) y:=by
   unfold leK KeyOrd.kle;unfold ltK at hb;simpa using hb
  have:=KeyOrd.kle_trans (U6 T.sa (i:=ia+i) (j:=ia+j) (by omega) (by rw[Array.getElem?_toList];exact gdK a (by omega)) (by rw[Array.getElem?_toList];exact gdK a (by omega))) hle;unfold KeyOrd.kle at this;unfold ltK;rw[this];rfl
 .dsimp only;have hlast:ltK kf y (a.getD (a.size-1) (Value.none,Value.none))=true:=T.last y (List.mem_of_getElem? e2) _ (gdK a (by omega));have hkl:ia+k<a.size:=by
   refine Nat.lt_of_not_le λhge=>?_;have:=q2 (a.size-1-ia) (by omega);rw[show ia+(a.size-1-ia)=a.size-1 by omega,hlast]at this;cases this
  have hrest:∀ia',ia'=ia+k->∀y',b.toList[ib]?=some y'->∀x∈a.toList.drop ia',leK kf y' x:=λia' e y' ey=>by
   rw[e2]at ey;cases ey;have ha0:a.toList[ia']?=some (a.getD ia' (Value.none,Value.none)):=by rw[Array.getElem?_toList];exact gdK a (by omega)
   refine R9 T.sa ha0 ?_;have:=q3 k (Nat.le_refl _) (by omega);rw[<-e]at this;refine KeyOrd.kle_of_klt ?_;unfold KeyOrd.klt;unfold ltK at this;simpa using this
  split
  .have hbk:=MS.bulkA T.sa k hms (by rw[Array.length_toList];omega) λi z hi ez=>by
    refine R9 T.sb e2 ?_;have:=q2 i hi;rw[Array.getElem?_toList,gdK a (by omega)]at ez;cases ez;unfold leK KeyOrd.kle;unfold ltK at this;simpa using this
   rw[<-a1V,<-Array.toList_append]at hbk;split
   .rename_i e3;exact wpS_pure ⟨g,.inl ⟨_,rfl,V2 T hbk (eq_of_beq e3)⟩⟩
   .rename_i e3;have e3:¬ia+k+1=a.size:=λz=>e3 (beq_iff_eq.mpr z);split
    .rename_i e4;have e4:=eq_of_beq e4;omega
    .exact a5C T hcm hk g ⟨hbk,by omega,hib⟩ (hrest _ rfl) (by omega)
  .exact a5C T hcm hk g ⟨hms,hia,hib⟩ (hrest _ (by omega)) hc0
def P1(kf:Keyed->O.α)(st:SortSt)(a b:Array Keyed)(c0:Nat)(c:T1)(st':SortSt):Prop:=Good st st'/\((∃r,c.1=some r/\C6 kf a b r)∨(c.1=none/\MI kf a b c.2.1 c.2.2.1 c.2.2.2.1/\c0<=c.2.2.1+c.2.2.2.1))
def Y1(kf:Keyed->O.α)(st:SortSt)(a b:Array Keyed)(c0:Nat)(c:T1)(st':SortSt):Prop:=Good st st'/\c.1=none/\MI kf a b c.2.1 c.2.2.1 c.2.2.2.1/\c0<=c.2.2.1+c.2.2.2.1
def R1'(kf:Keyed->O.α)(st:SortSt)(a b:Array Keyed)(c0:Nat)(r:ForInStep T1)(st':SortSt):Prop:=match r with | .done c'=>P1 kf st a b c0 c' st' | .yield c'=>Y1 kf st a b c0 c' st'
theorem b0w(T:Two D kf a b)(hcm:Cmp prog w A s κ D (ltK kf))(hk:kindOf st=κ)(g:Good st st')(h:MI kf a b out ia ib)(hc0:c0<=ia+ib):wpS (model prog w) A E s (loA a b out ia ib ac bc mg) (R1' kf st a b (c0+1)) st':=by
 unfold loA;obtain⟨hms,hia,hib⟩:=h;refine wpS_bind (B3 hib λy e1 e2=>?_);refine wpS_bind (B3 (by omega) λx f1 f2=>?_);refine wpS_bind (X6 hcm (g.1.trans hk) (T.db _ _ e1) (T.da _ _ f1) ?_);dsimp only;cases hb:ltK kf y x with
 |true =>
  rw[if_pos rfl];refine wpS_bind (B3 hib λy' e1' e2'=>?_);rw[e2]at e2';cases e2';have hm:=hms.stepB T.sb e2 (R9 T.sa f2 (KeyOrd.kle_of_klt hb));rw[<-Array.toList_push]at hm;split
  .rename_i e;exact wpS_pure ⟨g,.inl ⟨_,rfl,V6 T hm (eq_of_beq e)⟩⟩
  .rename_i e;have e:¬ib+1=b.size:=λz=>e (beq_iff_eq.mpr z);have hq:MI kf a b (out.push y) ia (ib+1):=⟨hm,hia,by omega⟩;split
   .exact wpS_pure ⟨g,.inr ⟨rfl,hq,by show c0+1<=ia+(ib+1);omega⟩⟩
   .exact wpS_pure ⟨g,rfl,hq,by show c0+1<=ia+(ib+1);omega⟩
 |false =>
  rw[if_neg (by simp)];refine wpS_bind (B3 (by omega) λx' e1' e2'=>?_);rw[f2]at e2';cases e2';have hm:=hms.stepA T.sa f2 (R9 T.sb e2 hb);rw[<-Array.toList_push]at hm;split
  .rename_i e;exact wpS_pure ⟨g,.inl ⟨_,rfl,V2 T hm (eq_of_beq e)⟩⟩
  .rename_i e;have e:¬ia+1+1=a.size:=λz=>e (beq_iff_eq.mpr z);have hq:MI kf a b (out.push x) (ia+1) ib:=⟨hm,by omega,hib⟩;split
   .exact wpS_pure ⟨g,.inr ⟨rfl,hq,by show c0+1<=ia+1+ib;omega⟩⟩
   .exact wpS_pure ⟨g,rfl,hq,by show c0+1<=ia+1+ib;omega⟩
theorem P5{n:String}{Q:Unit->SortSt->Prop}(h:Q () st):wpS (model prog w) A E s (liftM (rule n):StateT SortSt Sem Unit) Q st:=wpS_lift (wpAny_rule ⟨rfl,h⟩)
theorem a3B(T:Two D kf a b)(hcm:Cmp prog w A s κ D (ltK kf))(hk:kindOf st=κ)(ha:0<a.size)(hb:0<b.size)(h0:∀y,b.toList[0]?=some y->∀x∈a.toList,leK kf y x){Q:Array Keyed->SortSt->Prop}
  (q:∀r st',C6 kf a b r->Good st st'->Q r st'):wpS (model prog w) A E s (a1A a b) Q st:=by
 rw[a3V];refine wpS_bind (P5 ?_);refine wpS_bind (B3 hb λy e1 e2=>?_);have hm0:MS kf a.toList b.toList (#[y]:Array Keyed).toList 0 1:=by
  have z:MS kf a.toList b.toList [] 0 0:=⟨.nil,.nil,(λ_ h=>nomatch h),λ_ h=>nomatch h⟩;exact z.stepB T.sb e2 (λx hx=>h0 y e2 x hx)
 have gr:Good st st:=⟨rfl,rfl,rfl,rfl⟩;split
 .rename_i e;exact wpS_pure (q _ _ (V6 T hm0 (eq_of_beq e)) gr)
 .rename_i e;have e:¬1=b.size:=λz=>e (beq_iff_eq.mpr z);split
  .rename_i e';exact wpS_pure (q _ _ (V2 T hm0 (eq_of_beq e')) gr)
  .rename_i e';have e':¬0+1=a.size:=λz=>e' (beq_iff_eq.mpr z);refine wpS_bind (wpS_get ?_);refine wpS_bind (wpS_mono (wpS_forRange (I:=λx c st'=>Good st st'/\c.1=none/\MI kf a b c.2.1 c.2.2.1 c.2.2.2.1/\x+1<=c.2.2.1+c.2.2.2.1)
    (Q:=λc st'=>Good st st'/\∃r,c.1=some r/\C6 kf a b r) ?step ?fin ⟨gr,rfl,⟨hm0,by show 0+1<a.size;omega,by show 1<b.size;omega⟩,Nat.le_refl _⟩) ?post)
   case post =>
    rintro c st' ⟨g,r,e1,e2⟩;obtain⟨c1,c2⟩:=c;dsimp only at e1;subst e1;exact wpS_pure (q _ _ e2 g)
   case fin =>
    rintro c st' ⟨g,e1,⟨_,h1,h2⟩,h3⟩;exfalso;omega
   case step =>
    rintro x c st1 _ hx ⟨g,e1,hMI,hx2⟩;refine wpS_bind (wpS_mono (wpS_forRange (I:=λz d st'=>Y1 kf st a b (x+1+min z 1) d st') (Q:=λd st'=>P1 kf st a b (x+2) d st') ?s1 ?f1 ⟨g,rfl,hMI,by show x+1+min 0 1<=c.2.2.1+c.2.2.2.1;omega⟩) ?p1)
    case f1 =>
     rintro d st' ⟨g,e1,h1,h2⟩;exact⟨g,.inr ⟨e1,h1,by omega⟩⟩
    case s1 =>
     rintro z d st' _ hz ⟨g,e1,h1,h2⟩;refine wpS_mono (b0w T hcm hk g h1 (c0:=x+1) (by omega)) λr st2 hr=>?_;cases r with
     |done c'=>exact hr
     | «yield» c'=>exact⟨hr.1,hr.2.1,hr.2.2.1,by have:=hr.2.2.2;omega⟩
    case p1 =>
     rintro d st' ⟨g,hd⟩;obtain⟨d1,d2⟩:=d;rcases hd with⟨r,e1,e2⟩|⟨e1,h1,h2⟩
     .dsimp only at e1;subst e1;exact wpS_pure ⟨g,r,rfl,e2⟩
     .dsimp only at e1;subst e1;refine wpS_bind (P5 ?_);refine wpS_bind (wpS_mono (wpS_forRange (I:=λz d st'=>Y2 kf st a b (x+2) d st') (Q:=λd st'=>P2 kf st a b (x+2) d st') ?s2 ?f2 ⟨g,rfl,h1,h2⟩) ?p2)
      case f2 =>
       rintro d st' ⟨g,e1,h1,h2⟩;exact⟨g,.inr ⟨e1,h1,h2⟩⟩
      case s2 =>
       rintro z d st' _ hz ⟨g,e1,h1,h2⟩;split
       .refine wpS_mono (a5D T hcm hk g h1 h2) λr st2 hr=>?_;cases r<;>exact hr
       .refine wpS_mono (a5D T hcm hk g h1 h2) λr st2 hr=>?_;cases r<;>exact hr
      case p2 =>
       rintro d st' ⟨g,hd⟩;obtain⟨d1,d2⟩:=d;rcases hd with⟨r,e1,e2⟩|⟨e1,h1,h2⟩
       .dsimp only at e1;subst e1;exact wpS_pure ⟨g,r,rfl,e2⟩
       .dsimp only at e1;subst e1;refine wpS_bind (Q3 λst3 g3=>?_);exact wpS_pure ⟨g.trans g3,rfl,h1,h2⟩
end
section
variable {O:KeyOrd}{kf:Keyed->O.α}{la lb o:List Keyed}{na nb:Nat}
structure MH(kf:Keyed->O.α)(la lb o:List Keyed)(na nb:Nat):Prop where
 perm:o.Perm (la.drop na++lb.drop nb)
 sorted:o.Pairwise (leK kf)
 ra:∀x∈la.take na,∀y∈o,leK kf x y
 rb:∀x∈lb.take nb,∀y∈o,leK kf x y
theorem a0C{l:List Keyed}{i:Nat}{x:Keyed}(hs:l.Pairwise (leK kf))(h:l[i]?=some x):∀y∈l.take i,leK kf y x:=λy hy=>by
 have:=hs.take (i:=i+1);rw[Q4 h,List.pairwise_append]at this;exact this.2.2 y hy x (List.mem_singleton.mpr rfl)
theorem MH.stepA{x:Keyed}(h:MH kf la lb o (na+1) nb)(hs:la.Pairwise (leK kf))(e:la[na]?=some x)(hb:∀y∈lb.take nb,leK kf y x):MH kf la lb (x::o) na nb:=by
 have hx:x∈la.take (na+1):=by rw[Q4 e];exact List.mem_append_right _ (List.mem_singleton.mpr rfl)
 refine⟨?_,?_,λz hz y hy=>?_,λz hz y hy=>?_⟩
 .rw[V5 e,List.cons_append];exact h.perm.cons x
 .rw[List.pairwise_cons];exact⟨λy hy=>h.ra x hx y hy,h.sorted⟩
 .rcases List.mem_cons.mp hy with rfl|hy
  .exact a0C hs e z hz
  .exact h.ra z (by rw[Q4 e];exact List.mem_append_left _ hz) y hy
 .rcases List.mem_cons.mp hy with rfl|hy
  .exact hb z hz
  .exact h.rb z hz y hy
theorem MH.swap(h:MH kf la lb o na nb):MH kf lb la o nb na:=⟨h.perm.trans List.perm_append_comm,h.sorted,h.rb,h.ra⟩
theorem MH.stepB{x:Keyed}(h:MH kf la lb o na (nb+1))(hs:lb.Pairwise (leK kf))(e:lb[nb]?=some x)(ha:∀y∈la.take na,leK kf y x):MH kf la lb (x::o) na nb:=(h.swap.stepA hs e ha).swap
theorem MH.bulkA(hs:la.Pairwise (leK kf)){at_:Nat}:∀(k:Nat) {o:List Keyed},MH kf la lb o (at_+k) nb->at_+k<=la.length->(∀i x,at_<=i->i<at_+k->la[i]?=some x->∀y∈lb.take nb,leK kf y x)->MH kf la lb ((la.take (at_+k)).drop at_++o) at_ nb
 |0,o,h,hl,_=>by
  rw[Nat.add_zero,List.drop_eq_nil_of_le (by rw[List.length_take];omega),List.nil_append];exact h
 |k+1,o,h,hl,hk=>by
  obtain⟨x,hx⟩:∃x,la[at_+k]?=some x:=⟨_,List.getElem?_eq_getElem (by omega)⟩;have h1:=MH.stepA (na:=at_+k) h hs hx (hk _ x (by omega) (by omega) hx);have h2:=MH.bulkA hs k h1 (by omega) λi y h1 h2 e=>hk i y h1 (by omega) e;rw[show at_+(k+1)=at_+k+1 by omega,Q4 hx,List.drop_append_of_le_length (by rw[List.length_take];omega),List.append_assoc];exact h2
theorem MH.bulkB(hs:lb.Pairwise (leK kf)){at_ k:Nat}(h:MH kf la lb o na (at_+k))(hl:at_+k<=lb.length)(hk:∀i x,at_<=i->i<at_+k->lb[i]?=some x->∀y∈la.take na,leK kf y x):MH kf la lb ((lb.take (at_+k)).drop at_++o) na at_ :=
 (MH.bulkA hs k h.swap hl hk).swap
theorem MH.done(h:MH kf la lb o 0 nb)(hs:lb.Pairwise (leK kf)):a0w kf la lb (la.take 0++lb.take nb++o):=by
 rw[List.take_zero,List.nil_append];have hp:=h.perm;rw[List.drop_zero]at hp;refine⟨?_,?_⟩
 .refine(List.Perm.append_left _ hp).trans ?_;rw[<-List.append_assoc];refine(List.Perm.append_right _ List.perm_append_comm).trans ?_;rw[List.append_assoc,List.take_append_drop]
 .rw[List.pairwise_append];exact⟨hs.take,h.sorted,h.rb⟩
theorem MH.firstB(h:MH kf la lb o na nb)(hsa:la.Pairwise (leK kf))(hs:lb.Pairwise (leK kf))(hl:∀y∈lb.take nb,∀x∈la.take na,leK kf y x):a0w kf la lb (lb.take nb++la.take na++o):=by
 refine⟨?_,?_⟩
 .refine(List.Perm.append_left _ h.perm).trans ?_;rw[List.append_assoc,<-List.append_assoc (la.take na),List.take_append_drop];refine List.perm_append_comm.trans ?_;rw[List.append_assoc];refine List.Perm.append_left _ (List.perm_append_comm.trans ?_);rw[List.take_append_drop]
 .rw[List.pairwise_append];refine⟨?_,h.sorted,λx hx y hy=>?_⟩
  .rw[List.pairwise_append];exact⟨hs.take,hsa.take,hl⟩
  .rcases List.mem_append.mp hx with q|q
   .exact h.rb x q y hy
   .exact h.ra x q y hy
end
noncomputable def a1B:Array Keyed->Array Keyed->StateT SortSt Sem (Array Keyed):=sortPriv% PySem.Builtin.mergeHi
noncomputable def N4(a b out:Array Keyed)(na nb:Nat):Array Keyed:=a.extract 0 na++b.extract 0 nb++out.reverse
noncomputable def S2(a b out:Array Keyed)(na nb:Nat):Array Keyed:=b.extract 0 nb++a.extract 0 na++out.reverse
abbrev U1:Type:=Option (Array Keyed)×Nat×Nat×Array Keyed×Nat×Nat
abbrev U2:Type:=Option (Array Keyed)×Nat×Nat×Array Keyed×Nat×Nat×Nat
noncomputable def hiD(a b:Array Keyed)(na nb:Nat)(out:Array Keyed)(mg k k1:Nat):StateT SortSt Sem (ForInStep U2) :=
 elem' a (na-1)>>=λx =>
 if (na-1==0)=true then pure (.done (some (N4 a b (out.push x) (na-1) nb),na-1,nb,out.push x,mg,k,k1))
 else if (decide (k<7) && decide (k1<7))=true then pure (.done (none,na-1,nb,out.push x,mg,k,k1))
 else pure (.yield (none,na-1,nb,out.push x,mg,k,k1))
noncomputable def hiC(a b:Array Keyed)(na nb:Nat)(out:Array Keyed)(mg k bc:Nat):StateT SortSt Sem (ForInStep U2) :=
 elem' b (nb-1)>>=λy =>
 if (nb-1==1)=true then pure (.done (some (S2 a b (out.push y) na (nb-1)),na,nb-1,out.push y,mg,k,bc))
 else elem' a (na-1)>>=λx=>O3 true x b 0 (nb-1) (nb-1-1)>>=λr =>
  match r with
  |some at_=>(if nb-1-at_ > 0 then
    (if (at_==1)=true then pure (.done (some (S2 a b (out.push y++(b.extract at_ (nb-1)).reverse) na at_),na,at_,out.push y++(b.extract at_ (nb-1)).reverse,mg,k,nb-1-at_))
    else if (at_==0)=true then pure (.done (some (N4 a b (out.push y++(b.extract at_ (nb-1)).reverse) na at_),na,at_,out.push y++(b.extract at_ (nb-1)).reverse,mg,k,nb-1-at_))
    else hiD a b na at_ (out.push y++(b.extract at_ (nb-1)).reverse) mg k (nb-1-at_))
   else hiD a b na (nb-1) (out.push y) mg k (nb-1-at_))
  |_=>pure (.done (some (N4 a b (out.push y) na (nb-1)),na,nb-1,out.push y,mg,k,bc))
noncomputable def hiB(a b:Array Keyed)(na nb:Nat)(out:Array Keyed)(mg ac bc:Nat):StateT SortSt Sem (ForInStep U2) :=
 T9 mg>>=λ_=>elem' b (nb-1)>>=λy=>O3 false y a 0 na (na-1)>>=λr =>
 match r with
 |some at_=>(if na-at_ > 0 then
   (if (at_==0)=true then pure (.done (some (N4 a b (out++(a.extract at_ na).reverse) at_ nb),at_,nb,out++(a.extract at_ na).reverse,mg,na-at_,bc))
   else hiC a b at_ nb (out++(a.extract at_ na).reverse) mg (na-at_) bc)
  else hiC a b na nb out mg (na-at_) bc)
 |_=>pure (.done (some (N4 a b out na nb),na,nb,out,mg,ac,bc))
noncomputable def hiA(a b:Array Keyed)(na nb:Nat)(out:Array Keyed)(ac bc mg:Nat):StateT SortSt Sem (ForInStep U1) :=
 elem' b (nb-1)>>=λy=>elem' a (na-1)>>=λx=>lt' y x>>=λr =>
 match r with
 |some aWins=>(if aWins=true then elem' a (na-1)>>=λx =>
   (if (na-1==0)=true then pure (.done (some (N4 a b (out.push x) (na-1) nb),na-1,nb,out.push x,ac+1,0))
   else if ac+1 ≥ mg then pure (.done (none,na-1,nb,out.push x,ac+1,0))
   else pure (.yield (none,na-1,nb,out.push x,ac+1,0)))
  else elem' b (nb-1)>>=λy =>
   (if (nb-1==1)=true then pure (.done (some (S2 a b (out.push y) na (nb-1)),na,nb-1,out.push y,0,bc+1))
   else if bc+1 ≥ mg then pure (.done (none,na,nb-1,out.push y,0,bc+1))
   else pure (.yield (none,na,nb-1,out.push y,0,bc+1))))
 |_=>pure (.done (some (N4 a b out na nb),na,nb,out,ac,bc))
theorem a3W(a b:Array Keyed):a1B a b=(do
 rule "list.sort.merge-hi"
 let y <-elem' a (a.size-1)
 if (a.size-1==0)=true then pure (N4 a b #[y] (a.size-1) b.size)
 else if (b.size==1)=true then pure (S2 a b #[y] (a.size-1) b.size)
 else do
  let g <-get
  let r <-forIn [:a.size+b.size] ((none,a.size-1,b.size,#[y],gallopOf g):Option (Array Keyed)×Nat×Nat×Array Keyed×Nat) λ_ c=>do
   let r <-forIn [:a.size+b.size] ((none,c.2.1,c.2.2.1,c.2.2.2.1,0,0):U1) λ_ d=>hiA a b d.2.1 d.2.2.1 d.2.2.2.1 d.2.2.2.2.1 d.2.2.2.2.2 c.2.2.2.2
   match r.1 with
   |some q=>pure (ForInStep.done (some q,r.2.1,r.2.2.1,r.2.2.2.1,c.2.2.2.2))
   |none=>do
    rule "list.sort.gallop"
    let t <-forIn [:a.size+b.size] ((none,r.2.1,r.2.2.1,r.2.2.2.1,c.2.2.2.2+1,r.2.2.2.2.1,r.2.2.2.2.2):U2) λ_ d =>
     if d.2.2.2.2.1 > 1 then hiB a b d.2.1 d.2.2.1 d.2.2.2.1 (d.2.2.2.2.1-1) d.2.2.2.2.2.1 d.2.2.2.2.2.2 else hiB a b d.2.1 d.2.2.1 d.2.2.2.1 d.2.2.2.2.1 d.2.2.2.2.2.1 d.2.2.2.2.2.2
    match t.1 with
    |some q=>pure (ForInStep.done (some q,t.2.1,t.2.2.1,t.2.2.2.1,t.2.2.2.2.1))
    |none=>do
     T9 (t.2.2.2.2.1+1)
     pure (ForInStep.yield (none,t.2.1,t.2.2.1,t.2.2.2.1,t.2.2.2.2.1+1))
  match r.1 with
  |some q=>pure q
  |none=>unsupported "internal:list.sort.merge-bound"):=by
 show(_>>=_)=(_>>=_);refine congrArg _ (funext λ_=>?_);dsimp only;refine congrArg _ (funext λy=>?_);refine ite_congr rfl (λ_=>rfl) (λ_=>ite_congr rfl (λ_=>rfl) λ_=>?_);refine congrArg _ (funext λg=>?_);refine congr (congrArg _ (congrArg _ (funext λ_=>funext λc=>?_))) (funext λr=>?_)
 .refine congr (congrArg _ (congrArg _ (funext λ_=>funext λd=>?_))) (funext λr=>?_)
  .rfl
  .rcases r with⟨_|q,r⟩
   .dsimp only;refine congrArg _ (funext λ_=>?_);refine congr (congrArg _ (congrArg _ (funext λ_=>funext λd=>?_))) (funext λr=>?_)
    .rfl
    .rcases r with⟨_|q,r⟩<;>rfl
   .rfl
 .rcases r with⟨_|q,r⟩
  .dsimp only
  .rfl
theorem a0r{α:Type}(a:Array α)(i n:Nat):(a.extract i n).toList=(a.toList.take n).drop i:=by
 rw[Array.toList_extract];simp[List.extract_eq_drop_take']
theorem a4s(a b out:Array Keyed)(na nb:Nat):(N4 a b out na nb).toList=a.toList.take na++b.toList.take nb++out.toList.reverse:=by
 unfold N4;rw[Array.toList_append,Array.toList_append,a0r,a0r,Array.toList_reverse,List.drop_zero,List.drop_zero]
theorem a3m(a b out:Array Keyed)(na nb:Nat):(S2 a b out na nb).toList=b.toList.take nb++a.toList.take na++out.toList.reverse:=by
 unfold S2;rw[Array.toList_append,Array.toList_append,a0r,a0r,Array.toList_reverse,List.drop_zero,List.drop_zero]
theorem Z7(out:Array Keyed)(x:Keyed):(out.push x).toList.reverse=x::out.toList.reverse:=by
 rw[Array.toList_push,List.reverse_append];rfl
theorem a6C(out a:Array Keyed)(i n:Nat):(out++(a.extract i n).reverse).toList.reverse=(a.toList.take n).drop i++out.toList.reverse:=by
 rw[Array.toList_append,List.reverse_append,Array.toList_reverse,List.reverse_reverse,a0r]
section
variable {prog:Program}{w:World}{A:Around}{E:Value->Shared->Prop}{s:Shared}{κ:SortKind}{D:Keyed->Prop}{O:KeyOrd}{kf:Keyed->O.α}{a b out:Array Keyed}{na nb:Nat}{st:SortSt}
def a2I(kf:Keyed->O.α)(a b:Array Keyed):Prop:=∀y,b.toList[0]?=some y->∀x∈a.toList,ltK kf y x=true
theorem R5{l:List Keyed}{i:Nat}{x z:Keyed}(hs:l.Pairwise (leK kf))(e:l[i]?=some x)(h:leK kf x z):∀y∈l.take (i+1),leK kf y z:=λy hy=>by
 rw[Q4 e]at hy;rcases List.mem_append.mp hy with hy|hy
 .exact KeyOrd.kle_trans (a0C hs e y hy) h
 .rw[List.mem_singleton.mp hy];exact h
def MJ(kf:Keyed->O.α)(a b out:Array Keyed)(na nb:Nat):Prop:=MH kf a.toList b.toList out.toList.reverse na nb/\1<=na/\2<=nb/\na<=a.size/\nb<=b.size
theorem V7(T:Two D kf a b)(h:MH kf a.toList b.toList out.toList.reverse na nb)(hi:na=0):C6 kf a b (N4 a b out na nb):=by
 subst hi;unfold C6;rw[a4s];exact h.done T.sb
theorem S1(T:Two D kf a b)(F:a2I kf a b)(h:MH kf a.toList b.toList out.toList.reverse na nb)(hi:nb=1)(hb:0<b.size):C6 kf a b (S2 a b out na nb):=by
 subst hi;unfold C6;rw[a3m];refine h.firstB T.sa T.sb λy hy x hx=>?_;have e:b.toList[0]?=some (b.getD 0 (Value.none,Value.none)):=by rw[Array.getElem?_toList];exact gdK b hb
 rw[Q4 e,List.take_zero,List.nil_append,List.mem_singleton]at hy;rw[hy];exact KeyOrd.kle_of_klt (F _ e x (List.mem_of_mem_take hx))
def P4(kf:Keyed->O.α)(st:SortSt)(a b:Array Keyed)(c0:Nat)(c:U2)(st':SortSt):Prop:=Good st st'/\((∃r,c.1=some r/\C6 kf a b r)∨(c.1=none/\MJ kf a b c.2.2.2.1 c.2.1 c.2.2.1/\c.2.1+c.2.2.1+c0<=a.size+b.size))
def Y4(kf:Keyed->O.α)(st:SortSt)(a b:Array Keyed)(c0:Nat)(c:U2)(st':SortSt):Prop:=Good st st'/\c.1=none/\MJ kf a b c.2.2.2.1 c.2.1 c.2.2.1/\c.2.1+c.2.2.1+c0<=a.size+b.size
def R4(kf:Keyed->O.α)(st:SortSt)(a b:Array Keyed)(c0:Nat)(r:ForInStep U2)(st':SortSt):Prop:=match r with | .done c'=>P4 kf st a b c0 c' st' | .yield c'=>Y4 kf st a b c0 c' st'
variable {c0 mg k k1 bc ac:Nat}{st':SortSt}
theorem a5E(T:Two D kf a b)(g:Good st st')(h:MJ kf a b out na nb)(hx:∀x,a.toList[na-1]?=some x->∀y∈b.toList.take nb,leK kf y x)(hc0:na+nb+c0<=a.size+b.size):wpS (model prog w) A E s (hiD a b na nb out mg k k1) (R4 kf st a b c0) st':=by
 unfold hiD;obtain⟨hms,h1,h2,h3,h4⟩:=h;refine wpS_bind (B3 (by omega) λx e1 e2=>?_);obtain⟨n,rfl⟩:∃n,na=n+1:=⟨na-1,by omega⟩;rw[Nat.add_sub_cancel]at e1 e2 hx⊢;have hm:=hms.stepA T.sa e2 (hx x e2);rw[<-Z7]at hm;split
 .rename_i e;exact wpS_pure ⟨g,.inl ⟨_,rfl,V7 T hm (eq_of_beq e)⟩⟩
 .rename_i e;have e:¬n=0:=λz=>e (beq_iff_eq.mpr z);have hq:MJ kf a b (out.push x) n nb:=⟨hm,by omega,h2,by omega,h4⟩;split
  .exact wpS_pure ⟨g,.inr ⟨rfl,hq,by show n+nb+c0<=_;omega⟩⟩
  .exact wpS_pure ⟨g,rfl,hq,by show n+nb+c0<=_;omega⟩
theorem a5F(T:Two D kf a b)(F:a2I kf a b)(hcm:Cmp prog w A s κ D (ltK kf))(hk:kindOf st=κ)(g:Good st st')(h:MJ kf a b out na nb)(hy:∀y,b.toList[nb-1]?=some y->∀x∈a.toList.take na,leK kf x y)(hc0:na+nb+c0<=a.size+b.size):wpS (model prog w) A E s (hiC a b na nb out mg k bc) (R4 kf st a b c0) st':=by
 unfold hiC;obtain⟨hms,h1,h2,h3,h4⟩:=h;refine wpS_bind (B3 (by omega) λy e1 e2=>?_);obtain⟨m,rfl⟩:∃m,nb=m+1:=⟨nb-1,by omega⟩;rw[Nat.add_sub_cancel]at e1 e2 hy⊢;have hm:=hms.stepB T.sb e2 (hy y e2);rw[<-Z7]at hm;split
 .rename_i e;exact wpS_pure ⟨g,.inl ⟨_,rfl,S1 T F hm (eq_of_beq e) (by omega)⟩⟩
 .rename_i e;have e:¬m=1:=λz=>e (beq_iff_eq.mpr z);refine wpS_bind (B3 (by omega) λx f1 f2=>?_);refine wpS_bind (J8 hcm (g.1.trans hk) (T.da _ _ f1) (λi=>ltK kf (b.getD (0+i) (Value.none,Value.none)) x) (λi hi=>⟨_,gdK b (by omega),T.db _ _ (gdK b (by omega)),rfl⟩) (λi j hij hj hb=>?_) (by omega) λat_ q1 q2 q3=>?_)
  .refine KeyOrd.klt_of_kle_of_klt (U6 T.sb (i:=0+i) (j:=0+j) (by omega) ?_ ?_) hb
   .rw[Array.getElem?_toList];exact gdK b (by omega)
   .rw[Array.getElem?_toList];exact gdK b (by omega)
  .dsimp only;have hat:1<=at_:=by
    refine Nat.pos_of_ne_zero λz=>?_;have:=q3 0 (by omega) (by omega);have hF:=F (b.getD 0 (Value.none,Value.none)) (by rw[Array.getElem?_toList];exact gdK b (by omega)) x (List.mem_of_getElem? f2);rw[Nat.zero_add]at this;rw[hF]at this;cases this
   have hrest:∀x',a.toList[na-1]?=some x'->∀nb',nb'=at_->∀y∈b.toList.take nb',leK kf y x':=λx' ex' nb' en=>by
    rw[f2]at ex';cases ex';obtain⟨n,hn⟩:∃n,nb'=n+1:=⟨nb'-1,by omega⟩;rw[hn];have hb0:b.toList[n]?=some (b.getD n (Value.none,Value.none)):=by rw[Array.getElem?_toList];exact gdK b (by omega)
    refine R5 T.sb hb0 (KeyOrd.kle_of_klt ?_);have:=q2 n (by omega);rw[Nat.zero_add]at this;exact this
   split
   .obtain⟨j,hj⟩:∃j,m=at_+j:=⟨m-at_,by omega⟩;have hbk:MH kf a.toList b.toList ((b.toList.take (at_+j)).drop at_++(out.push y).toList.reverse) na at_:=by
     rw[hj]at hm;refine MH.bulkB T.sb hm (by rw[Array.length_toList];omega) λi z i1 i2 ez=>?_;have:=q3 i i1 (by omega);rw[Nat.zero_add]at this;rw[Array.getElem?_toList,gdK b (by omega)]at ez;cases ez;have hle:leK kf x (b.getD i (Value.none,Value.none)):=this;have:=R5 T.sa f2 hle;rwa[show na-1+1=na by omega]at this
    rw[<-hj,<-a6C]at hbk;split
    .rename_i e3;exact wpS_pure ⟨g,.inl ⟨_,rfl,S1 T F hbk (eq_of_beq e3) (by omega)⟩⟩
    .rename_i e3;have e3:¬at_=1:=λz=>e3 (beq_iff_eq.mpr z);split
     .rename_i e4;have e4:=eq_of_beq e4;omega
     .exact a5E T g ⟨hbk,h1,by omega,h3,by omega⟩ (λx' ex'=>hrest x' ex' _ rfl) (by omega)
   .exact a5E T g ⟨hm,h1,by omega,h3,by omega⟩ (λx' ex'=>hrest x' ex' _ (by omega)) (by omega)
theorem a5G(T:Two D kf a b)(F:a2I kf a b)(hcm:Cmp prog w A s κ D (ltK kf))(hk:kindOf st=κ)(g:Good st st')(h:MJ kf a b out na nb)(hc0:na+nb+c0<=a.size+b.size):wpS (model prog w) A E s (hiB a b na nb out mg ac bc) (R4 kf st a b c0) st':=by
 unfold hiB;obtain⟨hms,h1,h2,h3,h4⟩:=h;refine wpS_bind (Q3 λst2 g2=>?_);have g:=g.trans g2;refine wpS_bind (B3 (by omega) λy e1 e2=>?_);refine wpS_bind (J8 hcm (g.1.trans hk) (T.db _ _ e1) (λi=>!(ltK kf y (a.getD (0+i) (Value.none,Value.none)))) (λi hi=>⟨_,gdK a (by omega),T.da _ _ (gdK a (by omega)),rfl⟩) (λi j hij hj hb=>?_) (by omega) λat_ q1 q2 q3=>?_)
 .have hle:leK kf (a.getD (0+j) (Value.none,Value.none)) y:=by
   unfold leK KeyOrd.kle;unfold ltK at hb;simpa using hb
  have:=KeyOrd.kle_trans (U6 T.sa (i:=0+i) (j:=0+j) (by omega) (by rw[Array.getElem?_toList];exact gdK a (by omega)) (by rw[Array.getElem?_toList];exact gdK a (by omega))) hle;unfold KeyOrd.kle at this;unfold ltK;rw[this];rfl
 .dsimp only;have hrest:∀na',na'=at_->∀y',b.toList[nb-1]?=some y'->∀x∈a.toList.take na',leK kf x y':=λna' e y' ey=>by
   rw[e2]at ey;cases ey;subst e;by_cases hz:na'=0
   .rw[hz,List.take_zero];exact λ_ z=>nomatch z
   obtain⟨n,rfl⟩:∃n,na'=n+1:=⟨na'-1,by omega⟩;have ha0:a.toList[n]?=some (a.getD n (Value.none,Value.none)):=by rw[Array.getElem?_toList];exact gdK a (by omega)
   refine R5 T.sa ha0 ?_;have:=q2 n (by omega);rw[Nat.zero_add]at this;unfold leK KeyOrd.kle;unfold ltK at this;simpa using this
  split
  .obtain⟨j,hj⟩:∃j,na=at_+j:=⟨na-at_,by omega⟩;have hbk:MH kf a.toList b.toList ((a.toList.take (at_+j)).drop at_++out.toList.reverse) at_ nb:=by
    rw[hj]at hms;refine MH.bulkA T.sa j hms (by rw[Array.length_toList];omega) λi z i1 i2 ez=>?_;have:=q3 i i1 (by omega);rw[Nat.zero_add]at this;rw[Array.getElem?_toList,gdK a (by omega)]at ez;cases ez;have hlt:O.klt (kf y) (kf (a.getD i (Value.none,Value.none))):=by
     unfold KeyOrd.klt;unfold ltK at this;simpa using this
    have:=R5 T.sb e2 (KeyOrd.kle_of_klt hlt);rwa[show nb-1+1=nb by omega]at this
   rw[<-hj,<-a6C]at hbk;split
   .rename_i e3;exact wpS_pure ⟨g,.inl ⟨_,rfl,V7 T hbk (eq_of_beq e3)⟩⟩
   .rename_i e3;have e3:¬at_=0:=λz=>e3 (beq_iff_eq.mpr z);exact a5F T F hcm hk g ⟨hbk,by omega,h2,by omega,h4⟩ (hrest _ rfl) (by omega)
  .exact a5F T F hcm hk g ⟨hms,h1,h2,h3,h4⟩ (hrest _ (by omega)) hc0
def P3(kf:Keyed->O.α)(st:SortSt)(a b:Array Keyed)(c0:Nat)(c:U1)(st':SortSt):Prop:=Good st st'/\((∃r,c.1=some r/\C6 kf a b r)∨(c.1=none/\MJ kf a b c.2.2.2.1 c.2.1 c.2.2.1/\c.2.1+c.2.2.1+c0<=a.size+b.size))
def Y3(kf:Keyed->O.α)(st:SortSt)(a b:Array Keyed)(c0:Nat)(c:U1)(st':SortSt):Prop:=Good st st'/\c.1=none/\MJ kf a b c.2.2.2.1 c.2.1 c.2.2.1/\c.2.1+c.2.2.1+c0<=a.size+b.size
def R3(kf:Keyed->O.α)(st:SortSt)(a b:Array Keyed)(c0:Nat)(r:ForInStep U1)(st':SortSt):Prop:=match r with | .done c'=>P3 kf st a b c0 c' st' | .yield c'=>Y3 kf st a b c0 c' st'
theorem b0x(T:Two D kf a b)(F:a2I kf a b)(hcm:Cmp prog w A s κ D (ltK kf))(hk:kindOf st=κ)(g:Good st st')(h:MJ kf a b out na nb)(hc0:na+nb+c0<=a.size+b.size):wpS (model prog w) A E s (hiA a b na nb out ac bc mg) (R3 kf st a b (c0+1)) st':=by
 unfold hiA;obtain⟨hms,h1,h2,h3,h4⟩:=h;refine wpS_bind (B3 (by omega) λy e1 e2=>?_);refine wpS_bind (B3 (by omega) λx f1 f2=>?_);refine wpS_bind (X6 hcm (g.1.trans hk) (T.db _ _ e1) (T.da _ _ f1) ?_);dsimp only;obtain⟨n,rfl⟩:∃n,na=n+1:=⟨na-1,by omega⟩;obtain⟨m,rfl⟩:∃m,nb=m+1:=⟨nb-1,by omega⟩;rw[Nat.add_sub_cancel]at e1 e2 f1 f2⊢;rw[Nat.add_sub_cancel];cases hb:ltK kf y x with
 |true =>
  rw[if_pos rfl];refine wpS_bind (B3 (by omega) λx' e1' e2'=>?_);rw[f2]at e2';cases e2';have hm:=hms.stepA T.sa f2 (R5 T.sb e2 (KeyOrd.kle_of_klt hb));rw[<-Z7]at hm;split
  .rename_i e;exact wpS_pure ⟨g,.inl ⟨_,rfl,V7 T hm (eq_of_beq e)⟩⟩
  .rename_i e;have e:¬n=0:=λz=>e (beq_iff_eq.mpr z);have hq:MJ kf a b (out.push x) n (m+1):=⟨hm,by omega,h2,by omega,h4⟩;split
   .exact wpS_pure ⟨g,.inr ⟨rfl,hq,by show n+(m+1)+(c0+1)<=_;omega⟩⟩
   .exact wpS_pure ⟨g,rfl,hq,by show n+(m+1)+(c0+1)<=_;omega⟩
 |false =>
  rw[if_neg (by simp)];refine wpS_bind (B3 (by omega) λy' e1' e2'=>?_);rw[e2]at e2';cases e2';have hm:=hms.stepB T.sb e2 (R5 T.sa f2 hb);rw[<-Z7]at hm;split
  .rename_i e;exact wpS_pure ⟨g,.inl ⟨_,rfl,S1 T F hm (eq_of_beq e) (by omega)⟩⟩
  .rename_i e;have e:¬m=1:=λz=>e (beq_iff_eq.mpr z);have hq:MJ kf a b (out.push y) (n+1) m:=⟨hm,h1,by omega,h3,by omega⟩;split
   .exact wpS_pure ⟨g,.inr ⟨rfl,hq,by show n+1+m+(c0+1)<=_;omega⟩⟩
   .exact wpS_pure ⟨g,rfl,hq,by show n+1+m+(c0+1)<=_;omega⟩
theorem a3C(T:Two D kf a b)(F:a2I kf a b)(hcm:Cmp prog w A s κ D (ltK kf))(hk:kindOf st=κ)(ha:0<a.size)(hb:0<b.size){Q:Array Keyed->SortSt->Prop}
  (q:∀r st',C6 kf a b r->Good st st'->Q r st'):wpS (model prog w) A E s (a1B a b) Q st:=by
 rw[a3W];refine wpS_bind (P5 ?_);refine wpS_bind (B3 (by omega) λy e1 e2=>?_);have hm0:MH kf a.toList b.toList (#[y]:Array Keyed).toList.reverse (a.size-1) b.size:=by
  have z:MH kf a.toList b.toList [] (a.size-1+1) b.size:=by
   refine⟨?_,.nil,(λ_ _ _ h=>nomatch h),λ_ _ _ h=>nomatch h⟩;rw[List.drop_eq_nil_of_le (by rw[Array.length_toList];omega),List.drop_eq_nil_of_le (by rw[Array.length_toList];omega)];exact .nil
  exact z.stepA T.sa e2 (λx hx=>KeyOrd.kle_of_klt (T.last x (List.mem_of_mem_take hx) y e1))
 have gr:Good st st:=⟨rfl,rfl,rfl,rfl⟩;split
 .rename_i e;exact wpS_pure (q _ _ (V7 T hm0 (eq_of_beq e)) gr)
 .rename_i e;have e:¬a.size-1=0:=λz=>e (beq_iff_eq.mpr z);split
  .rename_i e';exact wpS_pure (q _ _ (S1 T F hm0 (eq_of_beq e') hb) gr)
  .rename_i e';have e':¬b.size=1:=λz=>e' (beq_iff_eq.mpr z);refine wpS_bind (wpS_get ?_);refine wpS_bind (wpS_mono (wpS_forRange (I:=λx c st'=>Good st st'/\c.1=none/\MJ kf a b c.2.2.2.1 c.2.1 c.2.2.1/\c.2.1+c.2.2.1+(x+1)<=a.size+b.size)
    (Q:=λc st'=>Good st st'/\∃r,c.1=some r/\C6 kf a b r) ?step ?fin ⟨gr,rfl,⟨hm0,by show 1<=a.size-1;omega,by show 2<=b.size;omega,by show a.size-1<=a.size;omega,Nat.le_refl _⟩,by show a.size-1+b.size+(0+1)<=_;omega⟩) ?post)
   case post =>
    rintro c st' ⟨g,r,e1,e2⟩;obtain⟨c1,c2⟩:=c;dsimp only at e1;subst e1;exact wpS_pure (q _ _ e2 g)
   case fin =>
    rintro c st' ⟨g,e1,⟨_,h1,h2,_⟩,h3⟩;exfalso;omega
   case step =>
    rintro x c st1 _ hx ⟨g,e1,hMI,hx2⟩;refine wpS_bind (wpS_mono (wpS_forRange (I:=λz d st'=>Y3 kf st a b (x+1+min z 1) d st') (Q:=λd st'=>P3 kf st a b (x+2) d st') ?s1 ?f1 ⟨g,rfl,hMI,by show c.2.1+c.2.2.1+(x+1+min 0 1)<=_;omega⟩) ?p1)
    case f1 =>
     rintro d st' ⟨g,e1,h1,h2⟩;exact⟨g,.inr ⟨e1,h1,by omega⟩⟩
    case s1 =>
     rintro z d st' _ hz ⟨g,e1,h1,h2⟩;refine wpS_mono (b0x T F hcm hk g h1 (c0:=x+1) (by omega)) λr st2 hr=>?_;cases r with
     |done c'=>exact hr
     | «yield» c'=>exact⟨hr.1,hr.2.1,hr.2.2.1,by have:=hr.2.2.2;omega⟩
    case p1 =>
     rintro d st' ⟨g,hd⟩;obtain⟨d1,d2⟩:=d;rcases hd with⟨r,e1,e2⟩|⟨e1,h1,h2⟩
     .dsimp only at e1;subst e1;exact wpS_pure ⟨g,r,rfl,e2⟩
     .dsimp only at e1;subst e1;refine wpS_bind (P5 ?_);refine wpS_bind (wpS_mono (wpS_forRange (I:=λz d st'=>Y4 kf st a b (x+2) d st') (Q:=λd st'=>P4 kf st a b (x+2) d st') ?s2 ?f2 ⟨g,rfl,h1,h2⟩) ?p2)
      case f2 =>
       rintro d st' ⟨g,e1,h1,h2⟩;exact⟨g,.inr ⟨e1,h1,h2⟩⟩
      case s2 =>
       rintro z d st' _ hz ⟨g,e1,h1,h2⟩;split
       .refine wpS_mono (a5G T F hcm hk g h1 h2) λr st2 hr=>?_;cases r<;>exact hr
       .refine wpS_mono (a5G T F hcm hk g h1 h2) λr st2 hr=>?_;cases r<;>exact hr
      case p2 =>
       rintro d st' ⟨g,hd⟩;obtain⟨d1,d2⟩:=d;rcases hd with⟨r,e1,e2⟩|⟨e1,h1,h2⟩
       .dsimp only at e1;subst e1;exact wpS_pure ⟨g,r,rfl,e2⟩
       .dsimp only at e1;subst e1;refine wpS_bind (Q3 λst3 g3=>?_);exact wpS_pure ⟨g.trans g3,rfl,h1,h2⟩
end
noncomputable def a4P(arr merged:Array Keyed)(sa:Nat):Array Keyed:=merged.toList.zipIdx.foldl (λa (p,j)=>a.setIfInBounds (sa+j) p) arr
noncomputable def mgC(sa:Nat)(merged:Array Keyed):StateT SortSt Sem Bool :=
 (modify λs=>SortSt.mk' (kindOf s) (a4P (arrOf s) merged sa) (pendingOf s) (gallopOf s) (failedOf s))>>=λ_=>get>>=λs=>pure (failedOf s).isNone
noncomputable def mgB(s:SortSt)(sa na sb nb:Nat):StateT SortSt Sem Bool :=
 elem' (arrOf s) (sa+na-1)>>=λx=>O3 true x (arrOf s) sb nb (nb-1)>>=λr=>match r with
 |some n=>(if (n==0)=true then pure true
  else if na<=n then a1A ((arrOf s).extract sa sb) ((arrOf s).extract sb (sb+n))>>=mgC sa
  else a1B ((arrOf s).extract sa sb) ((arrOf s).extract sb (sb+n))>>=mgC sa)
 |_=>pure false
noncomputable def mgA(s:SortSt)(sa na sb nb:Nat):StateT SortSt Sem Bool :=
 elem' (arrOf s) sb>>=λy=>O3 false y (arrOf s) sa na 0>>=λr=>match r with
 |some k=>(if (na-k==0)=true then pure true else mgB s (sa+k) (na-k) sb nb)
 |_=>pure false
theorem a3X(i:Nat):mergeAt' i=(get>>=λs=>match ((pendingOf s)[i]?,(pendingOf s)[i+1]?)with
 |(some (sa,na,pw),some (sb,nb,_))=>set (SortSt.mk' (kindOf s) (arrOf s) (((pendingOf s).setIfInBounds i (sa,na+nb,pw)).eraseIdxIfInBounds (i+1)) (gallopOf s) (failedOf s))>>=λ_=>mgA s sa na sb nb
 |_=>liftM (unsupported "internal:list.sort.pending" : Sem Bool)):=by
 show(_>>=_)=(_>>=_);refine congrArg _ (funext λs=>?_);dsimp only;rcases(pendingOf s)[i]? with _|⟨sa,na,pw⟩
 .rfl
 rcases(pendingOf s)[i+1]? with _|⟨sb,nb,pw2⟩
 .rfl
 dsimp only;refine congrArg _ (funext λ_=>?_);unfold mgA;refine congrArg _ (funext λy=>?_);refine congrArg _ (funext λr=>?_);rcases r with _|k
 .rfl
 dsimp only;refine ite_congr rfl (λ_=>rfl) λ_=>?_;unfold mgB;refine congrArg _ (funext λx=>?_);refine congrArg _ (funext λr=>?_);rcases r with _|n
 .rfl
 rfl
theorem a2y:∀(l:List Keyed) (arr:Array Keyed) (sa j:Nat),sa+j+l.length<=arr.size ->
  ((l.zipIdx j).foldl (λa (p:Keyed×Nat)=>a.setIfInBounds (sa+p.2) p.1) arr).toList=arr.toList.take (sa+j)++l++arr.toList.drop (sa+j+l.length)
 |[],arr,sa,j,h=>by simp
 |x::l,arr,sa,j,h=>by
  rw[List.length_cons]at h;rw[List.zipIdx_cons,List.foldl_cons,a2y l _ sa (j+1) (by rw[Array.size_setIfInBounds];omega)];rw[Array.toList_setIfInBounds];have hlt:sa+j<arr.toList.length:=by rw[Array.length_toList];omega
  rw[List.length_cons,show sa+(j+1)=sa+j+1 by omega];rw[List.take_set,List.drop_set_of_lt (by omega)];rw[List.take_succ_eq_append_getElem hlt,List.set_append_right _ _ (by rw[List.length_take];omega)];rw[List.length_take,show sa+j-min (sa+j) arr.toList.length=0 by omega];simp[List.append_assoc];congr 1;omega
theorem a3P(arr merged:Array Keyed)(sa:Nat)(h:sa+merged.size<=arr.size):(a4P arr merged sa).toList=arr.toList.take sa++merged.toList++arr.toList.drop (sa+merged.size):=by
 have:=a2y merged.toList arr sa 0 (by rw[Array.length_toList];omega);rw[Nat.add_zero,Array.length_toList]at this;exact this
theorem b0v{M:Model}{A:Around}{E:Value->Shared->Prop}{s:Shared}{σ:Type}{st st2:σ}{Q:PUnit->σ->Prop}(h:Q ⟨⟩ st2):wpS M A E s (set st2:StateT σ Sem PUnit) Q st:=by
 unfold wpS;rw[StateT.run_set];exact wpAny_pure ⟨rfl,h⟩
section
variable {prog:Program}{w:World}{A:Around}{E:Value->Shared->Prop}{s:Shared}{κ:SortKind}{D:Keyed->Prop}{O:KeyOrd}{kf:Keyed->O.α}{st:SortSt}
structure Runs2(kf:Keyed->O.α)(D:Keyed->Prop)(arr:Array Keyed)(P LA LB R:List Keyed):Prop where
 eq:arr.toList=P++LA++LB++R
 d:∀x∈arr.toList,D x
 sa:LA.Pairwise (leK kf)
 sb:LB.Pairwise (leK kf)
 na:0<LA.length
 nb:0<LB.length
variable {arr:Array Keyed}{P LA LB R:List Keyed}
theorem Runs2.atA(h:Runs2 kf D arr P LA LB R){i:Nat}(hi:i<LA.length):arr[P.length+i]?=LA[i]?:=by
 rw[<-Array.getElem?_toList,h.eq,List.append_assoc,List.append_assoc,List.getElem?_append_right (by omega),List.getElem?_append_left (by omega)];congr 1;omega
theorem Runs2.atB(h:Runs2 kf D arr P LA LB R){i:Nat}(hi:i<LB.length):arr[P.length+LA.length+i]?=LB[i]?:=by
 rw[<-Array.getElem?_toList,h.eq,List.append_assoc,List.getElem?_append_right (by rw[List.length_append];omega),List.getElem?_append_left (by rw[List.length_append];omega)];congr 1;rw[List.length_append];omega
theorem Runs2.dA(h:Runs2 kf D arr P LA LB R):∀x∈LA,D x:=λx hx=>h.d x (by rw[h.eq];simp[hx])
theorem Runs2.dB(h:Runs2 kf D arr P LA LB R):∀x∈LB,D x:=λx hx=>h.d x (by rw[h.eq];simp[hx])
theorem Runs2.size(h:Runs2 kf D arr P LA LB R):arr.size=P.length+LA.length+LB.length+R.length:=by
 rw[<-Array.length_toList,h.eq];simp[Nat.add_assoc]
theorem Runs2.extA(h:Runs2 kf D arr P LA LB R)(k:Nat):(arr.extract (P.length+k) (P.length+LA.length)).toList=LA.drop k:=by
 rw[a0r,h.eq,List.append_assoc (P++LA),List.take_append_of_le_length (by simp)];rw[List.take_of_length_le (by simp),List.drop_append,List.drop_eq_nil_of_le (by omega),List.nil_append];congr 1;omega
theorem Runs2.extB(h:Runs2 kf D arr P LA LB R){k:Nat}(hk:k<=LB.length):(arr.extract (P.length+LA.length) (P.length+LA.length+k)).toList=LB.take k:=by
 rw[a1V,h.eq,List.append_assoc,List.drop_append_of_le_length (by simp),List.drop_eq_nil_of_le (by simp),List.nil_append,List.take_append_of_le_length hk]
theorem a3D{i pw pw2:Nat}{Q:Bool->SortSt->Prop}(hcm:Cmp prog w A s κ D (ltK kf))(hk:kindOf st=κ)(h:Runs2 kf D (arrOf st) P LA LB R)(hp:(pendingOf st)[i]?=some (P.length,LA.length,pw))(hp2:(pendingOf st)[i+1]?=some (P.length+LA.length,LB.length,pw2))(hf:failedOf st=none)
  (q:∀(st':SortSt) (M:List Keyed),kindOf st'=κ->failedOf st'=none->pendingOf st'=((pendingOf st).setIfInBounds i (P.length,LA.length+LB.length,pw)).eraseIdxIfInBounds (i+1)->a0w kf LA LB M->(arrOf st').toList=P++M++R->Q true st'):wpS (model prog w) A E s (mergeAt' i) Q st:=by
 rw[a3X];refine wpS_bind (wpS_get ?_);rw[hp,hp2];dsimp only;refine wpS_bind (b0v ?_);unfold mgA;have hsz:=heq_of_eq h.size;have hna:=h.na;have hnb:=h.nb;generalize hst2:SortSt.mk' (kindOf st) (arrOf st) (((pendingOf st).setIfInBounds i (P.length,LA.length+LB.length,pw)).eraseIdxIfInBounds (i+1)) (gallopOf st) (failedOf st)=st2;have k2:kindOf st2=κ:=by rw[<-hst2];exact hk
 have a2:arrOf st2=arrOf st:=by rw[<-hst2]
 have p2:pendingOf st2=((pendingOf st).setIfInBounds i (P.length,LA.length+LB.length,pw)).eraseIdxIfInBounds (i+1):=by rw[<-hst2]
 have f2:failedOf st2=none:=by rw[<-hst2];exact hf
 have whole:LA++LB=LA++LB->(∀x∈LA,∀y∈LB,leK kf x y)->Q true st2:=λ_ hle=>by
  refine q st2 (LA++LB) k2 f2 p2 ⟨.refl _,List.pairwise_append.mpr ⟨h.sa,h.sb,hle⟩⟩ ?_;rw[a2,h.eq];simp[List.append_assoc]
 refine wpS_bind (B3 (by have:=eq_of_heq hsz;omega) λy e1 _=>?_);have ey:LB[0]?=some y:=by rw[<-h.atB hnb];exact e1
 have hyB:∀z∈LB,leK kf y z:=R9 h.sb ey (KeyOrd.kle_refl _);have gA:∀i,i<LA.length->(arrOf st)[P.length+i]?=some (LA.getD i (Value.none,Value.none))/\LA[i]?=some (LA.getD i (Value.none,Value.none)):=λi hi=>by
  have:LA[i]?=some (LA.getD i (Value.none,Value.none)):=by rw[List.getD_eq_getElem?_getD,List.getElem?_eq_getElem hi];rfl
  exact⟨by rw[h.atA hi];exact this,this⟩
 have gB:∀i,i<LB.length->(arrOf st)[P.length+LA.length+i]?=some (LB.getD i (Value.none,Value.none))/\LB[i]?=some (LB.getD i (Value.none,Value.none)):=λi hi=>by
  have:LB[i]?=some (LB.getD i (Value.none,Value.none)):=by rw[List.getD_eq_getElem?_getD,List.getElem?_eq_getElem hi];rfl
  exact⟨by rw[h.atB hi];exact this,this⟩
 have le_of:∀{u v:Keyed},(!(ltK kf u v))=true->leK kf v u:=λ{u v} z=>by
  unfold leK KeyOrd.kle;unfold ltK at z;simpa using z
 refine wpS_bind (J8 hcm k2 (h.dB _ (List.mem_of_getElem? ey)) (λi=>!(ltK kf y (LA.getD i (Value.none,Value.none)))) (λi hi=>⟨_,(gA i hi).1,h.dA _ (List.mem_of_getElem? (gA i hi).2),rfl⟩) (λi j hij hj hb=>?_) hna λk q1 q2 q3=>?_)
 .have:=KeyOrd.kle_trans (U6 h.sa hij (gA i (by omega)).2 (gA j hj).2) (le_of hb);unfold KeyOrd.kle at this;unfold ltK;rw[this];rfl
 .dsimp only;have hAk:∀x∈LA.take k,leK kf x y:=λx hx=>by
   obtain⟨j,hj,e⟩:=List.mem_iff_getElem.mp hx;rw[List.length_take]at hj;have hjn:=Nat.lt_of_lt_of_le hj (Nat.min_le_right _ _);have:=le_of (q2 j (Nat.lt_of_lt_of_le hj (Nat.min_le_left _ _)));have e2:=(gA j hjn).2;rw[List.getElem_take]at e;rw[List.getElem?_eq_getElem hjn,e]at e2;injection e2 with e2
   rw[e2];exact this
  split
  .rename_i e;have e:=eq_of_beq e;refine wpS_pure (whole rfl λx hx z hz=>KeyOrd.kle_trans (hAk x ?_) (hyB z hz));rw[List.take_of_length_le (by omega)];exact hx
  .rename_i e;replace e:k<LA.length:=Nat.lt_of_sub_ne_zero λz=>e (beq_iff_eq.mpr z);clear q1;have hAd:∀x∈LA.drop k,ltK kf y x=true:=λx hx=>by
    obtain⟨j,hj,e⟩:=List.mem_iff_getElem.mp hx;rw[List.length_drop]at hj;rw[List.getElem_drop]at e;clear hsz hnb;have hkj:k+j<LA.length:=by omega
    have:=q3 (k+j) (Nat.le_add_right _ _) hkj;have e2:=(gA (k+j) hkj).2;rw[List.getElem?_eq_getElem hkj,e]at e2;injection e2 with e2
    rw[e2];simpa using this
   unfold mgB;refine wpS_bind (B3 (by have:=eq_of_heq hsz;omega) λx f1 _=>?_);rw[show P.length+k+(LA.length-k)-1=P.length+(LA.length-1) by omega]at f1;have ex:LA[LA.length-1]?=some x:=by rw[<-h.atA (by omega)];exact f1
   have hxA:∀z∈LA,leK kf z x:=λz hz=>by
    have:=R5 h.sa ex (KeyOrd.kle_refl _) z;rw[show LA.length-1+1=LA.length by omega,List.take_length]at this;exact this hz
   refine wpS_bind (J8 hcm k2 (h.dA _ (List.mem_of_getElem? ex)) (λi=>ltK kf (LB.getD i (Value.none,Value.none)) x) (λi hi=>⟨_,(gB i hi).1,h.dB _ (List.mem_of_getElem? (gB i hi).2),rfl⟩) (λi j hij hj hb=>?_) (by omega) λn r1 r2 r3=>?_)
   .exact KeyOrd.klt_of_kle_of_klt (U6 h.sb hij (gB i (by omega)).2 (gB j hj).2) hb
   .dsimp only;have hBd:∀z∈LB.drop n,leK kf x z:=λz hz=>by
     obtain⟨j,hj,e⟩:=List.mem_iff_getElem.mp hz;rw[List.length_drop]at hj;rw[List.getElem_drop]at e;have hnj:n+j<LB.length:=by clear hsz hna hnb;omega
     have:=r3 (n+j) (Nat.le_add_right _ _) hnj;have e2:=(gB (n+j) hnj).2;rw[List.getElem?_eq_getElem hnj,e]at e2;injection e2 with e2
     rw[e2];exact this
    have hBt:∀z∈LB.take n,ltK kf z x=true:=λz hz=>by
     obtain⟨j,hj,e⟩:=List.mem_iff_getElem.mp hz;rw[List.length_take]at hj;rw[List.getElem_take]at e;have hjn:=Nat.lt_of_lt_of_le hj (Nat.min_le_right _ _);have:=r2 j (Nat.lt_of_lt_of_le hj (Nat.min_le_left _ _));have e2:=(gB j hjn).2;rw[List.getElem?_eq_getElem hjn,e]at e2;injection e2 with e2
     rw[e2];exact this
    split
    .rename_i e;have e:=eq_of_beq e;refine wpS_pure (whole rfl λu hu z hz=>KeyOrd.kle_trans (hxA u hu) (hBd z ?_));rw[e,List.drop_zero];exact hz
    .rename_i en;replace en:0<n:=Nat.pos_of_ne_zero λz=>en (beq_iff_eq.mpr z);have eX:=h.extA k;have eY:=h.extB r1;generalize hXa:(arrOf st).extract (P.length+k) (P.length+LA.length)=Xa at eX;generalize hYa:(arrOf st).extract (P.length+LA.length) (P.length+LA.length+n)=Ya at eY;have sX:=heq_of_eq (show Xa.size=LA.length-k by rw[<-Array.length_toList,eX,List.length_drop]);have sY:=heq_of_eq (show Ya.size=n by rw[<-Array.length_toList,eY,List.length_take,Nat.min_eq_left r1]);have T:Two D kf Xa Ya:=by
      refine⟨λi z ez=>?_,λi z ez=>?_,by rw[eX];exact h.sa.drop,by rw[eY];exact h.sb.take,λz hz u eu=>?_⟩
      .refine h.dA z (List.mem_of_mem_drop (i:=k) ?_);rw[<-eX];rw[<-Array.getElem?_toList]at ez;exact List.mem_of_getElem? ez
      .refine h.dB z (List.mem_of_mem_take (i:=n) ?_);rw[<-eY];rw[<-Array.getElem?_toList]at ez;exact List.mem_of_getElem? ez
      .rw[eY]at hz;rw[<-Array.getElem?_toList,eX,List.getElem?_drop,eq_of_heq sX,show k+(LA.length-k-1)=LA.length-1 by omega,ex]at eu;cases eu;exact hBt z hz
     have F:a2I kf Xa Ya:=λz ez u hu=>by
      rw[eY,List.getElem?_take_of_lt en,ey]at ez;cases ez;rw[eX]at hu;exact hAd u hu
     have fin:∀(r:Array Keyed) (st3:SortSt),C6 kf Xa Ya r->Good st2 st3->wpS (model prog w) A E s (mgC (P.length+k) r) Q st3:=λr st3 hr g=>by
      unfold mgC;obtain⟨hpm,hso⟩:=hr;rw[eX,eY]at hpm;have hrl:=heq_of_eq (show r.size=LA.length-k+n by
       have:=hpm.length_eq;rw[List.length_append,List.length_drop,List.length_take,Array.length_toList,Nat.min_eq_left r1]at this;exact this)
      refine wpS_bind (wpS_modify (wpS_bind (wpS_get (wpS_pure ?_))));show Q (failedOf st3).isNone _;rw[g.2.2.2,f2];have hmem:∀z∈r.toList,z∈LA.drop k∨z∈LB.take n:=λz hz=>List.mem_append.mp (hpm.mem_iff.mp hz);refine q _ (LA.take k++r.toList++LB.drop n) (g.1.trans k2) rfl (g.2.2.1.trans p2) ⟨?_,?_⟩ ?_
      .refine((List.Perm.append_left _ hpm).append_right _).trans ?_;rw[<-List.append_assoc (LA.take k),List.take_append_drop,List.append_assoc,List.take_append_drop]
      .have sAk:∀u∈LA.take k,∀v∈LA.drop k,leK kf u v:=by
        have:=h.sa;rw[<-List.take_append_drop k LA,List.pairwise_append]at this;exact this.2.2
       have sBk:∀u∈LB.take n,∀v∈LB.drop n,leK kf u v:=by
        have:=h.sb;rw[<-List.take_append_drop n LB,List.pairwise_append]at this;exact this.2.2
       rw[List.pairwise_append,List.pairwise_append];refine⟨⟨h.sa.take,hso,λu hu v hv=>?_⟩,h.sb.drop,λu hu v hv=>?_⟩
       .rcases hmem v hv with z|z
        .exact sAk u hu v z
        .exact KeyOrd.kle_trans (hAk u hu) (hyB v (List.mem_of_mem_take z))
       .rcases List.mem_append.mp hu with z|z
        .exact KeyOrd.kle_trans (hxA u (List.mem_of_mem_take z)) (hBd v hv)
        .rcases hmem u z with z|z
         .exact KeyOrd.kle_trans (hxA u (List.mem_of_mem_drop z)) (hBd v hv)
         .exact sBk u z v hv
      .show(a4P (arrOf st3) r (P.length+k)).toList=_;rw[g.2.1,a2,a3P _ _ _ (by rw[eq_of_heq hrl,eq_of_heq hsz];clear hsz;omega),h.eq,eq_of_heq hrl];have e1:(P++LA++LB++R).take (P.length+k)=P++LA.take k:=by
        rw[List.append_assoc,List.append_assoc,List.take_append,List.take_of_length_le (by omega),show P.length+k-P.length=k by omega,List.take_append_of_le_length (by omega)]
       have e2:(P++LA++LB++R).drop (P.length+k+(LA.length-k+n))=LB.drop n++R:=by
        rw[List.append_assoc (P++LA),List.drop_append,List.drop_eq_nil_of_le (by rw[List.length_append];omega),List.nil_append,List.length_append,show P.length+k+(LA.length-k+n)-(P.length+LA.length)=n by omega,List.drop_append_of_le_length r1]
       rw[e1,e2];simp[List.append_assoc]
     split
     .exact wpS_bind (a3B T hcm k2 (by rw[eq_of_heq sX];omega) (by rw[eq_of_heq sY];exact en) (λz ez u hu=>KeyOrd.kle_of_klt (F z ez u hu)) λr st3 hr g=>fin r st3 hr g)
     .exact wpS_bind (a3C T F hcm k2 (by rw[eq_of_heq sX];omega) (by rw[eq_of_heq sY];exact en) λr st3 hr g=>fin r st3 hr g)
end
section
variable {prog:Program}{w:World}{A:Around}{E:Value->Shared->Prop}{s:Shared}{κ:SortKind}{D:Keyed->Prop}{O:KeyOrd}{kf:Keyed->O.α}{st:SortSt}
noncomputable def kx(kf:Keyed->O.α)(arr:Array Keyed)(i:Nat):O.α:=kf (arr.getD i (Value.none,Value.none))
def SoO(kf:Keyed->O.α)(arr:Array Keyed)(lo m:Nat):Prop:=∀i j,i<=j->j<m->O.kle (kx kf arr (lo+i)) (kx kf arr (lo+j))
def NiO(kf:Keyed->O.α)(arr:Array Keyed)(lo m:Nat):Prop:=∀i j,i<=j->j<m->O.kle (kx kf arr (lo+j)) (kx kf arr (lo+i))
def Kept(lo:Nat)(st st':SortSt):Prop:=kindOf st'=kindOf st/\pendingOf st'=pendingOf st/\failedOf st'=failedOf st/\(arrOf st').Perm (arrOf st)/\∀i,i<lo->(arrOf st')[i]?=(arrOf st)[i]?
theorem Kept.refl{lo:Nat}:Kept lo st st:=⟨rfl,rfl,rfl,.refl _,λ_ _=>rfl⟩
theorem Kept.trans{lo:Nat}{st' st2:SortSt}(h:Kept lo st st')(h2:Kept lo st' st2):Kept lo st st2:=⟨h2.1.trans h.1,h2.2.1.trans h.2.1,h2.2.2.1.trans h.2.2.1,h2.2.2.2.1.trans h.2.2.2.1,λi hi=>(h2.2.2.2.2 i hi).trans (h.2.2.2.2 i hi)⟩
def AllD(D:Keyed->Prop)(arr:Array Keyed):Prop:=∀x∈arr.toList,D x
theorem AllD.perm{a b:Array Keyed}(h:AllD D a)(p:b.Perm a):AllD D b:=λx hx=>h x ((Array.perm_iff_toList_perm.mp p).mem_iff.mp hx)
theorem S9{a b:Array Keyed}{i j:Nat}(h:a[i]?=b[j]?):kx kf a i=kx kf b j:=by
 unfold kx;rw[Array.getD_eq_getD_getElem?,Array.getD_eq_getD_getElem?,h]
theorem P6{i j:Nat}{Q:Option Bool->SortSt->Prop}(hcm:Cmp prog w A s κ D (ltK kf))(hk:kindOf st=κ)(hD:AllD D (arrOf st))(hi:i<(arrOf st).size)(hj:j<(arrOf st).size)(h:Q (some (O.blt (kx kf (arrOf st) i) (kx kf (arrOf st) j))) st):wpS (model prog w) A E s (ltAt' i j) Q st:=by
 rw[ltAt'_eq];refine wpS_bind (wpS_get ?_);refine wpS_bind (B3 hi λx e1 f1=>wpS_bind (B3 hj λy e2 f2=>?_));rw[gdK _ hi]at e1;rw[gdK _ hj]at e2;cases e1;cases e2;exact X6 hcm hk (hD _ (List.mem_of_getElem? f1)) (hD _ (List.mem_of_getElem? f2)) h
theorem a7S{src dst:Nat}{Q:Unit->SortSt->Prop}(h:Q () (setArr st (bubble (arrOf st) src (src-dst)))):wpS (model prog w) A E s (moveDown' src dst) Q st:=by
 rw[moveDown'_eq];exact wpS_modify h
theorem a0o{arr:Array Keyed}{src dst:Nat}(hs:src<arr.size)(hd:dst<=src)(i:Nat):kx kf (bubble arr src (src-dst)) i=if i=dst then kx kf arr src else if dst<i/\i<=src then kx kf arr (i-1)else kx kf arr i:=by
 have e:=getElem?_bubble hs (src-dst) (by omega) i;rw[show src-(src-dst)=dst by omega]at e;split
 .rename_i c;rw[if_pos c]at e;exact S9 e
 .rename_i c;rw[if_neg c]at e;split
  .rename_i c2;rw[if_pos c2]at e;exact S9 e
  .rename_i c2;rw[if_neg c2]at e;exact S9 e
theorem a1u{l j k:Nat}(h:l<j)(h2:j<=k):j-1<k:=by omega
section
variable {arr:Array Keyed}{lo k l i:Nat}(hs:lo+k<arr.size) (hd:l<=k)
include hs hd
theorem b0g(h:i<l):kx kf (bubble arr (lo+k) (lo+k-(lo+l))) (lo+i)=kx kf arr (lo+i):=by
 rw[a0o hs (by omega),if_neg (by omega),if_neg (by omega)]
theorem a5w:kx kf (bubble arr (lo+k) (lo+k-(lo+l))) (lo+l)=kx kf arr (lo+k):=by
 rw[a0o hs (by omega),if_pos rfl]
theorem a3u(h:l<i)(h2:i<=k):kx kf (bubble arr (lo+k) (lo+k-(lo+l))) (lo+i)=kx kf arr (lo+(i-1)):=by
 rw[a0o hs (by omega),if_neg (by omega),if_pos (by omega),Nat.add_sub_assoc (by omega)]
end
theorem a7T{lo n ok:Nat}{Q:Bool->SortSt->Prop}(hcm:Cmp prog w A s κ D (ltK kf))(hk:kindOf st=κ)(hD:AllD D (arrOf st))(hn:lo+n<=(arrOf st).size)(hok:ok<=n)(hs:SoO kf (arrOf st) lo ok)
  (h:∀st',Kept lo st st'->SoO kf (arrOf st') lo n->Q true st'):wpS (model prog w) A E s (binarySort' lo n ok) Q st:=by
 rw[binarySort'_eq];refine wpS_bind (wpS_mono (wpS_forRange (I:=λk c st'=>c=(none,())/\Kept lo st st'/\SoO kf (arrOf st') lo (min k n))
  (Q:=λc st'=>c=(none,())/\Kept lo st st'/\SoO kf (arrOf st') lo n) ?step ?fin ?init) ?post)
 case post =>
  rintro c st' ⟨rfl,hB',hs'⟩;exact wpS_pure (h st' hB' hs')
 case init =>
  refine⟨rfl,Kept.refl,λi j hij hj=>?_⟩;by_cases h1:ok=0
  .have:i=j:=by omega
   subst this;exact KeyOrd.kle_refl _
  .exact hs i j hij (by omega)
 case fin =>
  rintro c st' ⟨hc,hB',hs'⟩;refine⟨hc,hB',?_⟩;rwa[show min (max (max ok 1) n) n=n by omega]at hs'
 case step =>
  rintro k c st' hak hkn ⟨rfl,hB',hs'⟩;rw[show min k n=k by omega]at hs';have hz:lo+k<(arrOf st').size:=by have:=hB'.2.2.2.1.size_eq;omega
  have hD':=hD.perm hB'.2.2.2.1;have hkn':min (k+1) n=k+1:=by omega
  clear hn hok hak hkn;refine wpS_bind (wpS_mono (wpS_forRange (I:=λx c st''=>st''=st'/\∃l r,c=(none,l,r)/\l<=r/\r<=k/\r-l<=k-x /\
    (∀i,i<l->O.kle (kx kf (arrOf st') (lo+i)) (kx kf (arrOf st') (lo+k)))/\(∀i,r<=i->i<k->O.kle (kx kf (arrOf st') (lo+k)) (kx kf (arrOf st') (lo+i))))
   (Q:=λc st''=>st''=st'/\∃l r,c=(none,l,r)/\l<=k /\
    (∀i,i<l->O.kle (kx kf (arrOf st') (lo+i)) (kx kf (arrOf st') (lo+k)))/\(∀i,l<=i->i<k->O.kle (kx kf (arrOf st') (lo+k)) (kx kf (arrOf st') (lo+i)))) ?istep ?ifin ?iinit) ?ipost)
  case iinit=>exact⟨rfl,0,k,rfl,by omega,by omega,by omega,λi hi=>by omega,λi h1 h2=>by omega⟩
  case ifin =>
   rintro c st'' ⟨rfl,l,r,rfl,hlr,hrk,hm,hlo,hhi⟩;have:l=r:=by omega
   subst this;exact⟨rfl,l,l,rfl,hrk,hlo,hhi⟩
  case istep =>
   rintro x c st'' _ hxk ⟨rfl,l,r,rfl,hlr,hrk,hm,hlo,hhi⟩;dsimp only;by_cases hge:l ≥ r
   .rw[if_pos hge];have:l=r:=by omega
    subst this;exact wpS_pure ⟨rfl,l,l,rfl,hrk,hlo,hhi⟩
   .rw[if_neg hge];refine wpS_bind (P6 hcm (hB'.1.trans hk) hD' (by omega) (by omega) ?_);dsimp only;cases hless:O.blt (kx kf (arrOf st'') (lo+k)) (kx kf (arrOf st'') (lo+(l+r) / 2))with
    |true =>
     rw[if_pos rfl];refine wpS_pure ⟨rfl,l,(l+r) / 2,rfl,by omega,by omega,by omega,hlo,λi h1 h2=>?_⟩;exact KeyOrd.kle_trans (KeyOrd.kle_of_klt hless) (hs' _ _ h1 h2)
    |false =>
     rw[if_neg (by simp)];refine wpS_pure ⟨rfl,(l+r) / 2+1,r,rfl,by omega,by omega,by omega,λi h1=>?_,hhi⟩;exact KeyOrd.kle_trans (hs' i ((l+r) / 2) (by omega) (by omega)) hless
  case ipost =>
   rintro c st'' ⟨rfl,l,r,rfl,hlk,hlo,hhi⟩;refine wpS_bind (a7S (wpS_pure ⟨rfl,hB'.trans ⟨rfl,rfl,rfl,bubble_perm _ _ _,λi hi=>?_⟩,?_⟩))
   .show(bubble (arrOf st'') (lo+k) (lo+k-(lo+l)))[i]?=_;rw[getElem?_bubble hz _ (by omega),if_neg (by omega),if_neg (by omega)]
   rw[hkn'];clear hkn';intro i j hij hj;replace hj:j<=k:=Nat.le_of_lt_succ hj;show O.kle (kx kf (bubble (arrOf st'') (lo+k) (lo+k-(lo+l))) (lo+i)) (kx kf (bubble (arrOf st'') (lo+k) (lo+k-(lo+l))) (lo+j));rcases Nat.lt_trichotomy i l with c|rfl|c
   .rw[b0g hz hlk c];rcases Nat.lt_trichotomy j l with d|rfl|d
    .rw[b0g hz hlk d];exact hs' i j hij (Nat.lt_of_lt_of_le d hlk)
    .rw[a5w hz hlk];exact hlo i c
    .rw[a3u hz hlk d hj];exact hs' i (j-1) (Nat.le_sub_one_of_lt (Nat.lt_trans c d)) (a1u d hj)
   .rw[a5w hz hlk];rcases Nat.lt_or_eq_of_le hij with d|rfl
    .rw[a3u hz hlk d hj];exact hhi (j-1) (Nat.le_sub_one_of_lt d) (a1u d hj)
    .rw[a5w hz hlk];exact KeyOrd.kle_refl _
   .have d:=Nat.lt_of_lt_of_le c hij;rw[a3u hz hlk c (Nat.le_trans hij hj),a3u hz hlk d hj];exact hs' (i-1) (j-1) (Nat.sub_le_sub_right hij 1) (a1u d hj)
end
noncomputable def b0k(lo a nrem:Nat):StateT SortSt Sem AscSt:=forIn [a:nrem] ((none,a):AscSt) λ_ c=>ltAt' (lo+c.2) (lo+c.2-1)>>=λr=>match r with
 |some sm=>(if sm=true then pure (.done (none,c.2))else pure (.yield (none,c.2+1)))
 |_=>pure (.done (some none,c.2))
noncomputable def W4(lo n nrem:Nat):StateT SortSt Sem (Option Nat):=reverseSlice' lo (lo+n)>>=λ_=>b0k lo n nrem>>=λc=>match c.1 with
 |some r=>pure r
 |none=>pure (some c.2)
noncomputable def a6v(lo n nrem:Nat):StateT SortSt Sem DescSt:=forIn [n:nrem] ((none,n,0):DescSt) λ_ c=>ltAt' (lo+c.2.1) (lo+c.2.1-1)>>=λr=>match r with
 |some sm=>(if sm=true then(if c.2.2 > 0 then reverseSlice' (lo+c.2.1-(c.2.2+1)) (lo+c.2.1)>>=λ_=>pure (.yield (none,c.2.1+1,0))else pure (.yield (none,c.2.1+1,0)))
  else ltAt' (lo+c.2.1-1) (lo+c.2.1)>>=λr=>match r with
   |some lg=>(if lg=true then pure (.done (none,c.2.1,c.2.2))else pure (.yield (none,c.2.1+1,c.2.2+1)))
   |_=>pure (.done (some none,c.2.1,c.2.2)))
 |_=>pure (.done (some none,c.2.1,c.2.2))
noncomputable def dpO(lo n nrem:Nat):StateT SortSt Sem (Option Nat):=liftM (rule "list.sort.descending-run")>>=λ_=>a6v lo (n+1) nrem>>=λc=>match c.1 with
 |some r=>pure r
 |none=>(if c.2.2 > 0 then reverseSlice' (lo+c.2.1-(c.2.2+1)) (lo+c.2.1)>>=λ_=>W4 lo c.2.1 nrem else W4 lo c.2.1 nrem)
theorem a7t(lo nrem:Nat):countRun' lo nrem=(b0k lo 1 nrem>>=λc=>match c.1 with
 |some r=>pure r
 |none=>(if (c.2==nrem)=true then pure (some c.2)else if c.2 > 1 then ltAt' lo (lo+c.2-1)>>=λr=>match r with
   |some rose=>(if rose=true then pure (some c.2)else reverseSlice' lo (lo+c.2)>>=λ_=>dpO lo c.2 nrem)
   |_=>pure none
  else dpO lo c.2 nrem)):=by
 have t3:∀(n:Nat),(reverseSlice' lo (lo+n)>>=λ_=>b0k lo n nrem>>=λc=>match c.1 with|some r=>pure r|none=>pure (some c.2))=W4 lo n nrem:=λn=>rfl;rw[countRun'_eq];dsimp only;refine congr (congrArg _ ?_) (funext λc=>?_)
 .rfl
 rcases c with⟨_|q,n⟩
 .dsimp only;have dp:∀n:Nat,(liftM (rule "list.sort.descending-run")>>=λ_=>a6v lo (n+1) nrem>>=λc=>match c.1 with
    |some r=>pure r
    |none=>(if c.2.2 > 0 then reverseSlice' (lo+c.2.1-(c.2.2+1)) (lo+c.2.1)>>=λ_=>W4 lo c.2.1 nrem else W4 lo c.2.1 nrem))=dpO lo n nrem:=λn=>rfl
  have dq:∀{β:Type}{m:StateT SortSt Sem β}{f g:β->StateT SortSt Sem (Option Nat)},(∀c,f c=g c)->(m>>=f)=(m>>=g):=λh=>congrArg _ (funext h);refine ite_congr rfl (λ_=>rfl) λ_=>ite_congr rfl (λ_=>?_) λ_=>?_
  .refine dq λr=>?_;rcases r with _|r
   .rfl
   .dsimp only;refine ite_congr rfl (λ_=>rfl) λ_=>?_;refine dq λ_=>?_;rw[<-dp];refine dq λ_=>?_;refine congr (congrArg _ ?_) (funext λc=>?_)
    .rfl
    .rcases c with⟨_|q,n,z⟩
     .dsimp only;refine ite_congr rfl (λ_=>?_) λ_=>?_
      .refine dq λ_=>?_;refine dq λ_=>?_;refine congr (congrArg _ ?_) (funext λc=>?_)
       .rfl
       .rcases c with⟨_|q,n⟩<;>rfl
      .refine dq λ_=>?_;refine congr (congrArg _ ?_) (funext λc=>?_)
       .rfl
       .rcases c with⟨_|q,n⟩<;>rfl
     .rfl
  .rw[<-dp];refine dq λ_=>?_;refine congr (congrArg _ ?_) (funext λc=>?_)
   .rfl
   .rcases c with⟨_|q,n,z⟩
    .dsimp only;refine ite_congr rfl (λ_=>?_) λ_=>?_
     .refine dq λ_=>?_;refine dq λ_=>?_;refine congr (congrArg _ ?_) (funext λc=>?_)
      .rfl
      .rcases c with⟨_|q,n⟩<;>rfl
     .refine dq λ_=>?_;refine congr (congrArg _ ?_) (funext λc=>?_)
      .rfl
      .rcases c with⟨_|q,n⟩<;>rfl
    .rfl
 .rfl
section
variable {prog:Program}{w:World}{A:Around}{E:Value->Shared->Prop}{s:Shared}{κ:SortKind}{D:Keyed->Prop}{O:KeyOrd}{kf:Keyed->O.α}{st:SortSt}
theorem a0n{arr:Array Keyed}{i j:Nat}(hj:j<=arr.size)(k:Nat):kx kf (mirror arr i j ((j-i) / 2)) k=if i<=k/\k<j then kx kf arr (i+j-1-k)else kx kf arr k:=by
 have e:=getElem?_mirror_all (i:=i) hj k;split
 .rename_i c;rw[if_pos c]at e;exact S9 e
 .rename_i c;rw[if_neg c]at e;exact S9 e
theorem M4{arr:Array Keyed}{i j:Nat}(hj:j<=arr.size)(he:∀k,i<=k->k<j->kx kf arr k=kx kf arr (j-1))(k:Nat):kx kf (mirror arr i j ((j-i) / 2)) k=kx kf arr k:=by
 rw[a0n hj];split
 .rw[he _ (by omega) (by omega),he k (by omega) (by omega)]
 .rfl
theorem Kept.rev{lo i j:Nat}(hi:lo<=i)(hj:j<=(arrOf st).size):Kept lo st (setArr st (mirror (arrOf st) i j ((j-i) / 2))):=⟨rfl,rfl,rfl,mirror_perm _ _ _ _,λk hk=>by
 show(mirror (arrOf st) i j ((j-i) / 2))[k]?=_;rw[getElem?_mirror_all hj,if_neg (by omega)]⟩
theorem a3F{lo a nrem:Nat}{Q:AscSt->SortSt->Prop}(hcm:Cmp prog w A s κ D (ltK kf))(hk:kindOf st=κ)(hD:AllD D (arrOf st))(hn:lo+nrem<=(arrOf st).size)(ha:1<=a)(han:a<=nrem)(hs:SoO kf (arrOf st) lo a)
  (h:∀n,a<=n->n<=nrem->SoO kf (arrOf st) lo n->(n=nrem∨O.klt (kx kf (arrOf st) (lo+n)) (kx kf (arrOf st) (lo+(n-1))))->Q (none,n) st):wpS (model prog w) A E s (b0k lo a nrem) Q st:=by
 unfold b0k;refine wpS_forRange (I:=λx c st'=>st'=st/\c=(none,x)/\SoO kf (arrOf st) lo x) ?step ?fin ⟨rfl,rfl,hs⟩
 case fin =>
  rintro c st' ⟨rfl,rfl,hs'⟩;rw[Nat.max_eq_right han]at hs'⊢;exact h nrem han (Nat.le_refl _) hs' (.inl rfl)
 case step =>
  rintro x c st' hax hxn ⟨rfl,rfl,hs'⟩;dsimp only;replace ha:1<=x:=Nat.le_trans ha hax;rw[show lo+x-1=lo+(x-1) by clear hn han hax hxn;omega];refine wpS_bind (P6 hcm hk hD (by omega) (by omega) ?_);clear hn han;dsimp only;cases hless:O.blt (kx kf (arrOf st') (lo+x)) (kx kf (arrOf st') (lo+(x-1)))with
  |true =>
   rw[if_pos rfl];exact wpS_pure (h x hax (by omega) hs' (.inr hless))
  |false =>
   rw[if_neg (by simp)];refine wpS_pure ⟨rfl,rfl,λi j hij hj=>?_⟩;by_cases hjx:j<x
   .exact hs' i j hij hjx
   .have hj':j=x:=by omega
    subst hj';by_cases hi':i=j
    .subst hi';exact KeyOrd.kle_refl _
    .exact KeyOrd.kle_trans (hs' i (j-1) (by omega) (by omega)) hless
theorem a1h{lo n nrem:Nat}{Q:Option Nat->SortSt->Prop}(hcm:Cmp prog w A s κ D (ltK kf))(hk:kindOf st=κ)(hD:AllD D (arrOf st))(hn:lo+nrem<=(arrOf st).size)(h1:1<=n)(hnn:n<=nrem)(hs:NiO kf (arrOf st) lo n)
  (h:∀m st',Kept lo st st'->1<=m->m<=nrem->SoO kf (arrOf st') lo m->Q (some m) st'):wpS (model prog w) A E s (W4 lo n nrem) Q st:=by
 unfold W4;refine wpS_bind (wpS_reverse ?_);have hK:Kept lo st (setArr st (mirror (arrOf st) lo (lo+n) ((lo+n-lo) / 2))):=Kept.rev (Nat.le_refl _) (by omega);refine wpS_bind (a3F hcm (hK.1.trans hk) (hD.perm hK.2.2.2.1) (by rw[hK.2.2.2.1.size_eq];exact hn) h1 hnn (λi j hij hj=>?_) λm q1 q2 q3 _=>wpS_pure (h m _ hK (by omega) q2 q3));show O.kle (kx kf (mirror (arrOf st) lo (lo+n) ((lo+n-lo) / 2)) (lo+i)) (kx kf (mirror (arrOf st) lo (lo+n) ((lo+n-lo) / 2)) (lo+j));have hz:lo+n<=(arrOf st).size:=by omega
 rw[a0n hz,a0n hz];clear hn h1 hnn hz;rw[if_pos (by omega),if_pos (by omega),show lo+(lo+n)-1-(lo+i)=lo+(n-1-i) by omega,show lo+(lo+n)-1-(lo+j)=lo+(n-1-j) by omega];exact hs _ _ (by omega) (by omega)
theorem a6E{lo n nrem:Nat}{Q:DescSt->SortSt->Prop}(hcm:Cmp prog w A s κ D (ltK kf))(hk:kindOf st=κ)(hD:AllD D (arrOf st))(hn:lo+nrem<=(arrOf st).size)(h1:1<=n)(hnn:n<=nrem)(hs:NiO kf (arrOf st) lo n)
  (h:∀m neq st',Kept lo st st'->n<=m->m<=nrem->NiO kf (arrOf st') lo m->neq+1<=m->(∀i,lo+m-(neq+1)<=i->i<lo+m->kx kf (arrOf st') i=kx kf (arrOf st') (lo+m-1))->Q (none,m,neq) st'):wpS (model prog w) A E s (a6v lo n nrem) Q st:=by
 unfold a6v;refine wpS_forRange (I:=λx c st'=>∃neq,c=(none,x,neq)/\Kept lo st st'/\NiO kf (arrOf st') lo x/\neq+1<=x /\
   (∀i,lo+x-(neq+1)<=i->i<lo+x->kx kf (arrOf st') i=kx kf (arrOf st') (lo+x-1))) ?step ?fin ⟨0,rfl,Kept.refl,hs,by omega,λi h1 h2=>by congr 1;omega⟩
 case fin =>
  rintro c st' ⟨neq,rfl,hB',hs',hq,he⟩;rw[Nat.max_eq_right hnn]at hs' hq he⊢;exact h nrem neq st' hB' hnn (Nat.le_refl _) hs' hq he
 case step =>
  rintro x c st' hax hxn ⟨neq,rfl,hB',hs',hq,he⟩;dsimp only;have hz:lo+x<(arrOf st').size:=by rw[hB'.2.2.2.1.size_eq];exact Nat.lt_of_lt_of_le (Nat.add_lt_add_left hxn lo) hn
  have hD':=hD.perm hB'.2.2.2.1;replace hxn:x<=nrem:=Nat.le_of_lt hxn;have ex:HEq (lo+x-1) (lo+(x-1)):=heq_of_eq (by clear hn h1 hnn hax hxn hz;omega);have hz':lo+x-1<(arrOf st').size:=Nat.lt_of_le_of_lt (Nat.sub_le _ _) hz;clear hn h1 hnn;refine wpS_bind (P6 hcm (hB'.1.trans hk) hD' hz hz' ?_);dsimp only;rw[eq_of_heq ex]at he hz'⊢;cases hless:O.blt (kx kf (arrOf st') (lo+x)) (kx kf (arrOf st') (lo+(x-1)))with
  |true =>
   rw[if_pos rfl];have step1:∀xs:Array Keyed,(∀k,kx kf xs k=kx kf (arrOf st') k)->NiO kf xs lo (x+1):=by
    intro xs hk i j hij hj;rw[hk,hk];by_cases hjx:j<x
    .exact hs' i j hij hjx
    .have hj':j=x:=by omega
     subst hj';by_cases hi':i=j
     .subst hi';exact KeyOrd.kle_refl _
     .exact KeyOrd.kle_trans (KeyOrd.kle_of_klt hless) (hs' i (j-1) (by omega) (by omega))
   by_cases hneq:neq > 0
   .rw[if_pos hneq];refine wpS_bind (wpS_reverse (wpS_pure ⟨0,rfl,hB'.trans (Kept.rev (by clear hz hz' ex hax hxn hneq;omega) (Nat.le_of_lt hz)),step1 _ (M4 (Nat.le_of_lt hz) (λk q1 q2=>by rw[eq_of_heq ex];exact he k q1 q2)),Nat.succ_pos _,λi h1 h2=>by clear hz hz' ex hax hxn hneq hq;congr 1;omega⟩))
   .rw[if_neg hneq];exact wpS_pure ⟨0,rfl,hB',step1 _ (λ_=>rfl),Nat.succ_pos _,λi h1 h2=>by clear hz hz' ex hax hxn hneq hq;congr 1;omega⟩
  |false =>
   rw[if_neg (by simp)];refine wpS_bind (P6 hcm (hB'.1.trans hk) hD' hz' hz ?_);dsimp only;clear hz hz';cases hlarger:O.blt (kx kf (arrOf st') (lo+(x-1))) (kx kf (arrOf st') (lo+x))with
   |true =>
    rw[if_pos rfl];exact wpS_pure (h x neq st' hB' hax hxn hs' hq (by rw[eq_of_heq ex];exact he))
   |false =>
    rw[if_neg (by simp)];have heqx:kx kf (arrOf st') (lo+x)=kx kf (arrOf st') (lo+(x-1)):=KeyOrd.kle_antisymm hlarger hless;clear hax hxn;refine wpS_pure ⟨neq+1,rfl,hB',λi j hij hj=>?_,by omega,λi h1 h2=>?_⟩
    .by_cases hjx:j<x
     .exact hs' i j hij hjx
     .have hj':j=x:=by omega
      subst hj';by_cases hi':i=j
      .subst hi';exact KeyOrd.kle_refl _
      .rw[heqx];exact hs' i (j-1) (by omega) (by omega)
    .rw[show lo+(x+1)-1=lo+x by omega];by_cases hix:i=lo+x
     .subst hix;rfl
     .rw[heqx];exact he i (by omega) (by omega)
theorem a5H{lo n nrem:Nat}{Q:Option Nat->SortSt->Prop}(hcm:Cmp prog w A s κ D (ltK kf))(hk:kindOf st=κ)(hD:AllD D (arrOf st))(hn:lo+nrem<=(arrOf st).size)(hnn:n+1<=nrem)(hs:NiO kf (arrOf st) lo (n+1))
  (h:∀m st',Kept lo st st'->1<=m->m<=nrem->SoO kf (arrOf st') lo m->Q (some m) st'):wpS (model prog w) A E s (dpO lo n nrem) Q st:=by
 unfold dpO;refine wpS_bind (P5 ?_);refine wpS_bind (a6E hcm hk hD hn (by omega) hnn hs λm neq st' hB' hm1 hm2 hs' hq he=>?_);dsimp only;have hz:=heq_of_eq (hB'.2.2.2.1.size_eq:(arrOf st').size=(arrOf st).size);have hz2:lo+m<=(arrOf st').size:=by rw[eq_of_heq hz];exact Nat.le_trans (Nat.add_le_add_left hm2 lo) hn
 have hD':=hD.perm hB'.2.2.2.1;by_cases hneq:neq > 0
 .rw[if_pos hneq];have hK2:Kept lo st' (setArr st' (mirror (arrOf st') (lo+m-(neq+1)) (lo+m) ((lo+m-(lo+m-(neq+1))) / 2))):=Kept.rev (by omega) hz2;refine wpS_bind (wpS_reverse (a1h hcm (hK2.1.trans (hB'.1.trans hk)) (hD'.perm hK2.2.2.2.1) (by rw[hK2.2.2.2.1.size_eq,eq_of_heq hz];exact hn) (by omega) hm2 (λi j hij hj=>?_) λm2 st2 k2=>h m2 st2 (hB'.trans (hK2.trans k2))));show O.kle (kx kf (mirror (arrOf st') _ _ _) _) (kx kf (mirror (arrOf st') _ _ _) _);rw[M4 hz2 he,M4 hz2 he];exact hs' i j hij hj
 .rw[if_neg hneq];exact a1h hcm (hB'.1.trans hk) hD' (by rw[eq_of_heq hz];exact hn) (by omega) hm2 hs' λm2 st2 k2=>h m2 st2 (hB'.trans k2)
theorem a4B{lo nrem:Nat}{Q:Option Nat->SortSt->Prop}(hcm:Cmp prog w A s κ D (ltK kf))(hk:kindOf st=κ)(hD:AllD D (arrOf st))(hn:lo+nrem<=(arrOf st).size)(h1:1<=nrem)
  (h:∀m st',Kept lo st st'->1<=m->m<=nrem->SoO kf (arrOf st') lo m->Q (some m) st'):wpS (model prog w) A E s (countRun' lo nrem) Q st:=by
 rw[a7t];refine wpS_bind (a3F hcm hk hD hn (Nat.le_refl 1) h1 (λi j hij hj=>by have:i=j:=(by omega);subst this;exact KeyOrd.kle_refl _) λn hn1 hn2 hsn hor=>?_);dsimp only;by_cases hnn:n=nrem
 .rw[if_pos (by simpa using hnn)];exact wpS_pure (h n st Kept.refl hn1 hn2 hsn)
 .rw[if_neg (by simpa using hnn)];have hlt:O.klt (kx kf (arrOf st) (lo+n)) (kx kf (arrOf st) (lo+(n-1))):=hor.resolve_left hnn;replace hnn:n+1<=nrem:=by omega
  clear hor hn2 h1;replace hn2:=Nat.le_of_succ_le hnn;have hz:lo+n<(arrOf st).size:=Nat.lt_of_lt_of_le (Nat.add_lt_add_left hnn lo) hn;by_cases hgt:n > 1
  .rw[if_pos hgt];refine wpS_bind (P6 hcm hk hD (by omega) (by omega) ?_);dsimp only;have ex:lo+n-1=lo+(n-1):=by clear hn hnn hn2 hz;omega
   rw[ex];cases hrose:O.blt (kx kf (arrOf st) lo) (kx kf (arrOf st) (lo+(n-1)))with
   |true =>
    rw[if_pos rfl];exact wpS_pure (h n st Kept.refl hn1 hn2 hsn)
   |false =>
    rw[if_neg (by simp)];have hn':=hn;clear hn;have hall:∀k,k<n->kx kf (arrOf st) (lo+k)=kx kf (arrOf st) (lo+(n-1)):=by
     intro k hk;clear hz hnn hn2 ex;have a1:=hsn 0 k (Nat.zero_le _) hk;have a2:=hsn k (n-1) (by omega) (by omega);exact KeyOrd.kle_antisymm a2 (KeyOrd.kle_trans hrose a1)
    have hmr:∀k,kx kf (mirror (arrOf st) lo (lo+n) ((lo+n-lo) / 2)) k=kx kf (arrOf st) k:=M4 (Nat.le_of_lt hz) λk q1 q2=>by
     rw[ex];clear hz hnn hn2 ex hn';have:=hall (k-lo) (by omega);rwa[show lo+(k-lo)=k by omega]at this
    have hK2:Kept lo st (setArr st (mirror (arrOf st) lo (lo+n) ((lo+n-lo) / 2))):=Kept.rev (Nat.le_refl _) (Nat.le_of_lt hz);refine wpS_bind (wpS_reverse (a5H hcm (hK2.1.trans hk) (hD.perm hK2.2.2.2.1) (by rw[hK2.2.2.2.1.size_eq];exact hn') hnn (λi j hij hj=>?_) λm2 st2 k2=>h m2 st2 (hK2.trans k2)));show O.kle (kx kf (mirror (arrOf st) _ _ _) _) (kx kf (mirror (arrOf st) _ _ _) _);rw[hmr,hmr];clear hz hnn hn2 ex hn' hn1;by_cases hjn:j<n
    .rw[hall i (by omega),hall j hjn];exact KeyOrd.kle_refl _
    .have hj':j=n:=by omega
     subst hj';by_cases hi':i=j
     .subst hi';exact KeyOrd.kle_refl _
     .rw[hall i (by omega)];exact KeyOrd.kle_of_klt hlt
  .rw[if_neg hgt];have hn1':n=1:=by omega
   subst hn1';refine a5H hcm hk hD hn hnn (λi j hij hj=>?_) h;clear hz hnn hn2 hn hn1 hgt;by_cases hi':i=j
   .subst hi';exact KeyOrd.kle_refl _
   .have hi0:i=0:=by omega
    have hj1:j=1:=by omega
    subst hi0;subst hj1;exact KeyOrd.kle_of_klt hlt
end
noncomputable def a0L:Nat->List (List Keyed)->List (Nat×Nat)
 |_,[]=>[]
 |o,r::rs=>(o,r.length)::a0L (o+r.length) rs
theorem O1:∀(o:Nat) (X Y:List (List Keyed)),a0L o (X++Y)=a0L o X++a0L (o+X.flatten.length) Y
 |o,[],Y=>by simp[a0L]
 |o,r::X,Y=>by
  simp only[List.cons_append,a0L,O1 (o+r.length) X Y,List.flatten_cons,List.length_append,Nat.add_assoc]
theorem a1x:∀(o:Nat) (X:List (List Keyed)),(a0L o X).length=X.length
 |_,[]=>rfl
 |o,r::X=>by simp only[a0L,List.length_cons,a1x (o+r.length) X]
noncomputable abbrev ent(e:Nat×Nat×Nat):Nat×Nat:=(e.1,e.2.1)
section
variable {prog:Program}{w:World}{A:Around}{E:Value->Shared->Prop}{s:Shared}{κ:SortKind}{D:Keyed->Prop}{O:KeyOrd}{kf:Keyed->O.α}{st:SortSt}{a0:Array Keyed}
structure RI(kf:Keyed->O.α)(κ:SortKind)(a0:Array Keyed)(st:SortSt)(runs:List (List Keyed))(rest:List Keyed):Prop where
 kind:kindOf st=κ
 failed:failedOf st=none
 perm:(arrOf st).Perm a0
 eq:(arrOf st).toList=runs.flatten++rest
 sorted:∀r∈runs,r.Pairwise (leK kf)
 ne:∀r∈runs,0<r.length
 pend:(pendingOf st).toList.map ent=a0L 0 runs
theorem RI.size{runs:List (List Keyed)}{rest:List Keyed}(h:RI kf κ a0 st runs rest):(pendingOf st).size=runs.length:=by
 rw[<-Array.length_toList,<-List.length_map (f:=ent),h.pend,a1x]
theorem a0A{X Y:List (List Keyed)}{ra rb rest:List Keyed}{Q:Bool->SortSt->Prop}(hcm:Cmp prog w A s κ D (ltK kf))(hD:AllD D a0)(h:RI kf κ a0 st (X++ra::rb::Y) rest)
  (q:∀(st':SortSt) (M:List Keyed),RI kf κ a0 st' (X++M::Y) rest->M.length=ra.length+rb.length->Q true st'):wpS (model prog w) A E s (mergeAt' X.length) Q st:=by
 have hp:=h.pend;rw[O1,a0L,a0L]at hp;obtain⟨l1,l2,e0,e1,e2⟩:=List.map_eq_append_iff.mp hp;obtain⟨x,l3,e3,e4,e5⟩:=List.map_eq_cons_iff.mp e2;obtain⟨y,l4,e6,e7,e8⟩:=List.map_eq_cons_iff.mp e5;subst e3 e6;obtain⟨x1,x2,pw⟩:=x;obtain⟨y1,y2,pw2⟩:=y;rw[Nat.zero_add]at e4 e7 e8;have e4:(x1,x2)=(X.flatten.length,ra.length):=e4;have e7:(y1,y2)=(X.flatten.length+ra.length,rb.length):=e7;cases e4;cases e7;have hl1:l1.length=X.length:=by rw[<-List.length_map (f:=ent),e1,a1x]
 have g1:(pendingOf st)[X.length]?=some (X.flatten.length,ra.length,pw):=by
  rw[<-Array.getElem?_toList,e0,List.getElem?_append_right (by omega),show X.length-l1.length=0 by omega];rfl
 have g2:(pendingOf st)[X.length+1]?=some (X.flatten.length+ra.length,rb.length,pw2):=by
  rw[<-Array.getElem?_toList,e0,List.getElem?_append_right (by omega),show X.length+1-l1.length=1 by omega];rfl
 have hrun:Runs2 kf D (arrOf st) X.flatten ra rb (Y.flatten++rest):=by
  refine⟨?_,λz hz=>(hD.perm h.perm) z hz,h.sorted _ (by simp),h.sorted _ (by simp),h.ne _ (by simp),h.ne _ (by simp)⟩;rw[h.eq];simp[List.append_assoc]
 refine a3D hcm h.kind hrun g1 g2 h.failed λst' M k1 k2 k3 k4 k5=>?_;have hMl:M.length=ra.length+rb.length:=by rw[k4.1.length_eq,List.length_append]
 refine q st' M ⟨k1,k2,?_,?_,λr hr=>?_,λr hr=>?_,?_⟩ hMl
 .refine Array.perm_iff_toList_perm.mpr ?_;refine List.Perm.trans ?_ (Array.perm_iff_toList_perm.mp h.perm);rw[k5,hrun.eq];refine List.Perm.append_right _ ?_;rw[List.append_assoc X.flatten];exact List.Perm.append_left _ k4.1
 .rw[k5];simp[List.append_assoc]
 .rcases List.mem_append.mp hr with z|z
  .exact h.sorted r (List.mem_append_left _ z)
  .rcases List.mem_cons.mp z with rfl|z
   .exact k4.2
   .exact h.sorted r (List.mem_append_right _ (List.mem_cons_of_mem _ (List.mem_cons_of_mem _ z)))
 .rcases List.mem_append.mp hr with z|z
  .exact h.ne r (List.mem_append_left _ z)
  .rcases List.mem_cons.mp z with rfl|z
   .have:=h.ne ra (by simp);omega
   .exact h.ne r (List.mem_append_right _ (List.mem_cons_of_mem _ (List.mem_cons_of_mem _ z)))
 .rw[k3,Array.eraseIdxIfInBounds];have hz:(pendingOf st).size=X.length+(Y.length+2):=by rw[h.size];simp
  rw[dif_pos (by rw[Array.size_setIfInBounds];omega),Array.toList_eraseIdx,Array.toList_setIfInBounds,e0];rw[List.set_append_right _ _ (by omega),show X.length-l1.length=0 by omega,List.set_cons_zero];rw[List.eraseIdx_append_of_length_le (by omega),show X.length+1-l1.length=1 by omega];show(l1++(X.flatten.length,ra.length+rb.length,pw)::l4).map ent=_;rw[List.map_append,List.map_cons,e1,e8,O1,a0L,Nat.zero_add,hMl];show _++(X.flatten.length,ra.length+rb.length)::_=_;rw[Nat.add_assoc]
end
noncomputable def a0W(lo n:Nat):StateT SortSt Sem (ForInStep (Option Unit×Nat)) :=
 (modify λs=>setPending s ((pendingOf s).push (lo,n,0)))>>=λ_=>pure (.yield (none,lo+n))
noncomputable def T0(sz pw:Nat):StateT SortSt Sem (Option Unit×Unit) :=
 forIn [:sz] ((none,()):Option Unit×Unit) λ_ _=>get>>=λg=>match (if (pendingOf g).size > 1 then(pendingOf g)[(pendingOf g).size-2]? else none)with
  |some (_,_,older)=>(if older<=pw then pure (.done (none,()))else mergeAt' ((pendingOf g).size-2)>>=λb=>if (!b)=true then pure (.done (some (),()))else pure (.yield (none,())))
  |_=>pure (.done (none,()))
noncomputable def X3(sz lo n:Nat):StateT SortSt Sem (ForInStep (Option Unit×Nat)):=get>>=λg=>match (pendingOf g).back? with
 |some (s1,n1,_)=>T0 sz (power' sz (2*s1+n1) (2*s1+n1+n1+n) sz)>>=λc=>match c.1 with
  |some r=>pure (.done (some r,lo))
  |none=>(modify λs=>setPending s ((pendingOf s).modify ((pendingOf s).size-1) λx=>(x.1,x.2.1,power' sz (2*s1+n1) (2*s1+n1+n1+n) sz)))>>=λ_=>a0W lo n
 |_=>a0W lo n
noncomputable def a6j(sz:Nat):StateT SortSt Sem (Option Unit×Unit) :=
 forIn [:sz] ((none,()):Option Unit×Unit) λ_ _=>get>>=λg=>if (pendingOf g).size<=1 then pure (.done (none,()))
  else mergeAt' (if Option.any (λx=>decide (x<(pendingOf g)[(pendingOf g).size-2+1]?.elim 0 λx=>x.2.1)) (if (pendingOf g).size-2 > 0 then Option.map (λx=>x.2.1) (pendingOf g)[(pendingOf g).size-2-1]? else none)=true then(pendingOf g).size-2-1 else(pendingOf g).size-2)>>=λb=>if (!b)=true then pure (.done (some (),()))else pure (.yield (none,()))
section
variable {prog:Program}{w:World}{A:Around}{E:Value->Shared->Prop}{s:Shared}{κ:SortKind}{D:Keyed->Prop}{O:KeyOrd}{kf:Keyed->O.α}{st:SortSt}{a0:Array Keyed}{runs:List (List Keyed)}{rest:List Keyed}
theorem two_last{α:Type}{l:List α}(h:2<=l.length):∃X a b,l=X++[a,b]/\X.length=l.length-2:=by
 refine⟨l.take (l.length-2),l[l.length-2],l[l.length-1],?_,by rw[List.length_take];omega⟩;have e1:l.drop (l.length-2)=[l[l.length-2],l[l.length-1]]:=by
  rw[List.drop_eq_getElem_cons (by omega),List.drop_eq_getElem_cons (by omega),List.drop_eq_nil_of_le (by omega)];congr 2;congr 1;omega
 rw[<-e1,List.take_append_drop]
theorem a2K{sz pw:Nat}{Q:Option Unit×Unit->SortSt->Prop}(hcm:Cmp prog w A s κ D (ltK kf))(hD:AllD D a0)(h:RI kf κ a0 st runs rest)
  (q:∀st' runs',RI kf κ a0 st' runs' rest->runs'.flatten.length=runs.flatten.length->runs'.length<=runs.length->Q (none,()) st'):wpS (model prog w) A E s (T0 sz pw) Q st:=by
 unfold T0;refine wpS_forRange (I:=λ_ c st'=>c=(none,())/\∃runs',RI kf κ a0 st' runs' rest/\runs'.flatten.length=runs.flatten.length/\runs'.length<=runs.length) ?step (λc st' ⟨e,r',h1,h2,h3⟩=>by rw[e];exact q st' r' h1 h2 h3) ⟨rfl,runs,h,rfl,Nat.le_refl _⟩;rintro x c st' _ _ ⟨rfl,r',h1,h2,h3⟩;refine wpS_bind (wpS_get ?_);split
 .rename_i older heq;split
  .exact wpS_pure (q st' r' h1 h2 h3)
  .have hz:(pendingOf st').size > 1:=by
    refine Nat.lt_of_not_le λz=>?_;rw[if_neg (by omega)]at heq;cases heq
   have hs:=h1.size;obtain⟨X,ra,rb,e1,e2⟩:=two_last (l:=r') (by omega);rw[e1]at h1;rw[show(pendingOf st').size-2=X.length by omega];refine wpS_bind (a0A hcm hD h1 λst2 M k1 k2=>?_);rw[if_neg (by simp)];refine wpS_pure ⟨rfl,_,k1,?_,?_⟩
   .rw[<-h2,e1];simp[k2]
   .rw[e1]at h3;simp at h3⊢;omega
 .exact wpS_pure (q st' r' h1 h2 h3)
theorem a0z{lo n:Nat}{Q:ForInStep (Option Unit×Nat)->SortSt->Prop}{r:List Keyed}(h:RI kf κ a0 st runs (r++rest))(hr:r.Pairwise (leK kf))(hn:0<n)(hl:r.length=n)(hlo:lo=runs.flatten.length)
  (q:∀st',RI kf κ a0 st' (runs++[r]) rest->Q (.yield (none,lo+n)) st'):wpS (model prog w) A E s (a0W lo n) Q st:=by
 unfold a0W;refine wpS_bind (wpS_modify (wpS_pure (q _ ⟨h.kind,h.failed,h.perm,?_,λz hz=>?_,λz hz=>?_,?_⟩)))
 .show(arrOf st).toList=_;rw[h.eq];simp
 .rcases List.mem_append.mp hz with y|y
  .exact h.sorted z y
  .rw[List.mem_singleton.mp y];exact hr
 .rcases List.mem_append.mp hz with y|y
  .exact h.ne z y
  .rw[List.mem_singleton.mp y,hl];exact hn
 .show((pendingOf st).push (lo,n,0)).toList.map ent=_;rw[Array.toList_push,List.map_append,h.pend,O1,Nat.zero_add,hlo,<-hl];rfl
theorem map_modify{p:Array (Nat×Nat×Nat)}{i pw:Nat}:(p.modify i λx=>(x.1,x.2.1,pw)).toList.map ent=p.toList.map ent:=by
 rw[Array.toList_modify];refine List.ext_getElem? λj=>?_;rw[List.getElem?_map,List.getElem?_map,List.getElem?_modify];cases p.toList[j]? with
 |none=>rfl
 |some x =>
  by_cases e:i=j
  .simp[e]
  .simp[e]
theorem a4D{sz lo n:Nat}{Q:ForInStep (Option Unit×Nat)->SortSt->Prop}{r:List Keyed}(hcm:Cmp prog w A s κ D (ltK kf))(hD:AllD D a0)(h:RI kf κ a0 st runs (r++rest))(hr:r.Pairwise (leK kf))(hn:0<n)(hl:r.length=n)(hlo:lo=runs.flatten.length)
  (q:∀st' runs',RI kf κ a0 st' runs' rest->runs'.flatten.length=lo+n->runs'.length<=runs.length+1->Q (.yield (none,lo+n)) st'):wpS (model prog w) A E s (X3 sz lo n) Q st:=by
 unfold X3;refine wpS_bind (wpS_get ?_);split
 .refine wpS_bind (a2K hcm hD h λst' runs' k1 k2 k3=>?_);dsimp only;refine wpS_bind (wpS_modify ?_);refine a0z (runs:=runs') (rest:=rest) ⟨k1.kind,k1.failed,k1.perm,k1.eq,k1.sorted,k1.ne,map_modify.trans k1.pend⟩ hr hn hl (by rw[k2];exact hlo) λst2 k4=>q st2 _ k4 ?_ ?_
  .simp[k2,hl,hlo]
  .simp;omega
 .refine a0z h hr hn hl hlo λst2 k4=>q st2 _ k4 ?_ ?_
  .simp[hl,hlo]
  .simp
end
section
variable {prog:Program}{w:World}{A:Around}{E:Value->Shared->Prop}{s:Shared}{κ:SortKind}{D:Keyed->Prop}{O:KeyOrd}{kf:Keyed->O.α}{st:SortSt}{a0:Array Keyed}{runs:List (List Keyed)}{rest:List Keyed}
theorem b0j{α:Type}{l:List α}{i:Nat}(h:i+1<l.length):∃X a b Y,l=X++a::b::Y/\X.length=i:=by
 refine⟨l.take i,l[i],l[i+1],l.drop (i+1+1),?_,by rw[List.length_take];omega⟩;rw[<-List.drop_eq_getElem_cons (by omega),<-List.drop_eq_getElem_cons (by omega),List.take_append_drop]
theorem a3E{sz:Nat}{Q:Option Unit×Unit->SortSt->Prop}(hcm:Cmp prog w A s κ D (ltK kf))(hD:AllD D a0)(h:RI kf κ a0 st runs rest)(hl:runs.length<=sz)
  (q:∀st' runs',RI kf κ a0 st' runs' rest->runs'.length<=1->Q (none,()) st'):wpS (model prog w) A E s (a6j sz) Q st:=by
 unfold a6j;refine wpS_forRange (I:=λx c st'=>c=(none,())/\∃runs',RI kf κ a0 st' runs' rest/\runs'.length+x<=sz+1) ?step (λc st' ⟨e,r',h1,h2⟩=>by rw[e];exact q st' r' h1 (by omega)) ⟨rfl,runs,h,by omega⟩;rintro x c st' _ _ ⟨rfl,r',h1,h2⟩;refine wpS_bind (wpS_get ?_);have hs:=h1.size;split
 .exact wpS_pure (q st' r' h1 (by omega))
 .rename_i hz;have go:∀i,i+1<r'.length->wpS (model prog w) A E s ((mergeAt' i>>=λb=>if (!b)=true then pure (ForInStep.done (some (),()))else pure (ForInStep.yield (none,()))):StateT SortSt Sem (ForInStep (Option Unit×Unit))) (λr st''=>match r with|ForInStep.done c'=>Q c' st''|ForInStep.yield c'=>c'=(none,())/\∃runs',RI kf κ a0 st'' runs' rest/\runs'.length+(x+1)<=sz+1) st':=λi hi=>by
   obtain⟨X,ra,rb,Y,e1,e2⟩:=b0j hi;rw[e1]at h1 h2;rw[<-e2];refine wpS_bind (a0A hcm hD h1 λst2 M k1 k2=>?_);rw[if_neg (by simp)];refine wpS_pure ⟨rfl,_,k1,?_⟩;simp at h2⊢;omega
  refine wpS_mono (go _ ?_) (λr st'' hr=>by cases r<;>exact hr);by_cases hz3:(pendingOf st').size-2 > 0
  .rw[if_pos hz3];split<;>omega
  .rw[if_neg hz3,if_neg (by simp)];omega
theorem RI.kept{st':SortSt}(h:RI kf κ a0 st runs rest)(k:Kept runs.flatten.length st st'):RI kf κ a0 st' runs ((arrOf st').toList.drop runs.flatten.length):=by
 refine⟨k.1.trans h.kind,k.2.2.1.trans h.failed,k.2.2.2.1.trans h.perm,?_,h.sorted,h.ne,by rw[k.2.1];exact h.pend⟩;have e:(arrOf st').toList.take runs.flatten.length=runs.flatten:=by
  have e0:(arrOf st).toList.take runs.flatten.length=runs.flatten:=by rw[h.eq,List.take_left'];rfl
  rw[<-e0];refine List.ext_getElem? λi=>?_;rw[List.length_take];by_cases hi:i<runs.flatten.length
  .have hle:runs.flatten.length<=(arrOf st).toList.length:=by rw[h.eq,List.length_append];omega
   rw[List.getElem?_take_of_lt (by omega),List.getElem?_take_of_lt hi,Array.getElem?_toList,Array.getElem?_toList];exact k.2.2.2.2 i hi
  .rw[List.getElem?_eq_none (by rw[List.length_take];omega),List.getElem?_eq_none (by rw[List.length_take];omega)]
 rw[<-List.take_append_drop runs.flatten.length (arrOf st').toList,e];congr 1;rw[List.drop_append_of_le_length (Nat.le_refl _),List.drop_length,List.nil_append]
theorem b0D{arr:Array Keyed}{lo n:Nat}(h:SoO kf arr lo n)(hn:lo+n<=arr.size):((arr.toList.drop lo).take n).Pairwise (leK kf):=by
 rw[List.pairwise_iff_getElem];intro i j hi hj hij;rw[List.length_take,List.length_drop,Array.length_toList]at hi hj;have q:=h i j (Nat.le_of_lt hij) (by omega);unfold leK;have g:∀k,k<n->kx kf arr (lo+k)=kf (arr[lo+k]?.getD (Value.none,Value.none)):=λk _=>by unfold kx;rw[Array.getD_eq_getD_getElem?]
 rw[g i (by omega),g j (by omega),getElem?_pos arr _ (by omega),getElem?_pos arr _ (by omega)]at q;simp only[List.getElem_take,List.getElem_drop,Array.getElem_toList];exact q
theorem a1s:∀{runs:List (List Keyed)},(∀r∈runs,0<r.length)->runs.length<=runs.flatten.length
 |[],_=>Nat.le_refl _
 |r::runs,h=>by
  have:=a1s (runs:=runs) λz hz=>h z (List.mem_cons_of_mem _ hz);have:=h r List.mem_cons_self;simp only[List.length_cons,List.flatten_cons,List.length_append];omega
theorem a2h{α:Type}{m m':StateT SortSt Sem α}{Q:α->SortSt->Prop}(e:m=m')(h:wpS (model prog w) A E s m' Q st):wpS (model prog w) A E s m Q st:=by rw[e];exact h
theorem a0y{Q:Unit->SortSt->Prop}(hcm:Cmp prog w A s κ D (ltK kf))(hk:kindOf st=κ)(hD:AllD D (arrOf st))(hp:pendingOf st=#[])(hf:failedOf st=none)
  (q:∀st':SortSt,(arrOf st').Perm (arrOf st)->failedOf st'=none->(arrOf st').toList.Pairwise (leK kf)->Q () st'):wpS (model prog w) A E s sortRuns' Q st:=by
 rw[sortRuns'_eq];refine wpS_bind (wpS_get ?_);dsimp only;generalize hsz:(arrOf st).size=sz;have h0:RI kf κ (arrOf st) st [] (arrOf st).toList:=⟨hk,hf,.refl _,rfl,(λ_ z=>nomatch z),(λ_ z=>nomatch z),by rw[hp];rfl⟩;have zz:∀{st':SortSt}{runs:List (List Keyed)}{rest:List Keyed},RI kf κ (arrOf st) st' runs rest->(arrOf st').size=sz:=λh=>by rw[h.perm.size_eq];exact hsz
 have ll:∀{st':SortSt}{runs:List (List Keyed)}{rest:List Keyed},RI kf κ (arrOf st) st' runs rest->runs.flatten.length+rest.length=sz:=λh=>by
  have:=congrArg List.length h.eq;rw[Array.length_toList,zz h,List.length_append]at this;omega
 refine wpS_bind (wpS_mono (wpS_forRange (I:=λx c st'=>c.1=none/\∃runs rest,RI kf κ (arrOf st) st' runs rest/\c.2=runs.flatten.length/\x<=c.2)
  (Q:=λc st'=>c.1=none/\∃runs,RI kf κ (arrOf st) st' runs []/\runs.length<=sz) ?step ?fin ⟨rfl,[],_,h0,rfl,Nat.le_refl _⟩) ?post)
 case fin =>
  rintro c st' ⟨e1,runs,rest,h1,h2,h3⟩;have:=ll h1;have hr:rest=[]:=List.eq_nil_of_length_eq_zero (by omega);subst hr;exact⟨e1,runs,h1,by have:=a1s h1.ne;omega⟩
 case step =>
  rintro x c st' _ hx ⟨e1,runs,rest,h1,h2,h3⟩;obtain⟨c1,lo⟩:=c;dsimp only at e1 h2 h3⊢;subst e1;have hll:=ll h1;have hzz:=zz h1;by_cases hge:lo ≥ sz
  .rw[if_pos hge];have hr:rest=[]:=List.eq_nil_of_length_eq_zero (by omega);subst hr;exact wpS_pure ⟨rfl,runs,h1,by have:=a1s h1.ne;omega⟩
  .rw[if_neg hge];have hD':=hD.perm h1.perm;have add:∀(n:Nat) (st2:SortSt),Kept lo st' st2->0<n->lo+n<=sz->SoO kf (arrOf st2) lo n->wpS (model prog w) A E s (X3 sz lo n) (λr st''=>match r with|ForInStep.done c'=>c'.1=none/\∃runs,RI kf κ (arrOf st) st'' runs []/\runs.length<=sz|ForInStep.yield c'=>c'.1=none/\∃runs rest,RI kf κ (arrOf st) st'' runs rest/\c'.2=runs.flatten.length/\x+1<=c'.2) st2:=λn st2 hK hn0 hn1 hso=>by
    rw[h2]at hK;have hR:=h1.kept hK;rw[<-h2]at hR;have hz2:=zz hR;rw[<-List.take_append_drop n ((arrOf st2).toList.drop lo)]at hR;refine a4D hcm hD hR (b0D hso (by omega)) hn0 (by rw[List.length_take,List.length_drop,Array.length_toList];omega) h2 λst3 r3 k1 k2 k3=>⟨rfl,r3,_,k1,k2.symm,by show x+1<=lo+n;omega⟩
   refine wpS_bind (a4B hcm h1.kind hD' (by omega) (by omega) λm st2 hK hm1 hm2 hso=>?_);dsimp only;split
   .refine wpS_bind (P5 ?_);have hz2:(arrOf st2).size=sz:=by rw[hK.2.2.2.1.size_eq];exact hzz
    refine wpS_bind (a7T hcm (hK.1.trans h1.kind) (hD'.perm hK.2.2.2.1) (by omega) (by omega) hso λst3 hK3 hso3=>?_);rw[if_neg (by simp)];refine a2h (m':=X3 sz lo (min (sz-lo) (minRun' sz sz 0))) (by
     unfold X3;refine congrArg _ (funext λg=>?_);rcases(pendingOf g).back? with _|⟨s1,n1,z⟩
     .rfl
     .dsimp only;refine congr (congrArg _ ?_) (funext λc=>?_)
      .unfold T0;refine congrArg _ (funext λ_=>funext λ_=>congrArg _ (funext λg=>?_));generalize (if (pendingOf g).size > 1 then(pendingOf g)[(pendingOf g).size-2]? else none)=o;rcases o with _|⟨a,b,o⟩<;>rfl
      .rcases c with⟨_|q,c⟩<;>rfl) (wpS_mono (add _ st3 (hK.trans hK3) (by omega) (by omega) hso3) λr st'' hr=>by cases r<;>exact hr)
   .refine a2h (m':=X3 sz lo m) (by
     unfold X3;refine congrArg _ (funext λg=>?_);rcases(pendingOf g).back? with _|⟨s1,n1,z⟩
     .rfl
     .dsimp only;refine congr (congrArg _ ?_) (funext λc=>?_)
      .unfold T0;refine congrArg _ (funext λ_=>funext λ_=>congrArg _ (funext λg=>?_));generalize (if (pendingOf g).size > 1 then(pendingOf g)[(pendingOf g).size-2]? else none)=o;rcases o with _|⟨a,b,o⟩<;>rfl
      .rcases c with⟨_|q,c⟩<;>rfl) (wpS_mono (add _ st2 hK (by omega) (by omega) hso) λr st'' hr=>by cases r<;>exact hr)
 case post =>
  rintro c st' ⟨e1,runs,h1,h2⟩;obtain⟨c1,lo⟩:=c;dsimp only at e1;subst e1;dsimp only;refine wpS_bind (a3E (sz:=sz) hcm hD h1 h2 λst2 r2 k1 k2=>?_);dsimp only;refine wpS_pure (q st2 k1.perm k1.failed ?_);rw[k1.eq,List.append_nil]
  match r2,k2,k1.sorted with
  |[],_,_=>exact .nil
  |[r],_,hs=>simpa using hs r (by simp)
  |_::_::_,k2,_=>simp at k2
end
noncomputable def B9(h:Heap)(v:Value):List Int:=match v with
 |.ref b=>match h.get? b with
  |some o=>match o.data with
   |.seq xs _=>xs.toList.map numOf
   |_=>[]
  |none=>[]
 |_=>[]
theorem B7{h:Heap}{b:Addr}{its:Array Value}{r:List Int}(t:IsTup h b its)(i:IntsAre its.toList r):B9 h (.ref b)=r:=by
 obtain⟨o,h1,h2,n,h3⟩:=t;unfold B9;simp only[h1,h3];exact i.nums
theorem R0{α β:Type}{f:α->β}{os ls:List β}(h:os.Perm ls):∀{T:List α},ls=T.map f->∃T':List α,T'.Perm T/\T'.map f=os:=by
 induction h with
 |nil=>intro T e;cases T with|nil=>exact⟨[],.nil,rfl⟩|cons _ _=>cases e
 |cons x _ ih =>
  intro T e;cases T with
  |nil=>cases e
  |cons t T =>
   injection e with e1 e2
   obtain⟨T',h1,h2⟩:=ih e2;exact⟨t::T',h1.cons t,by rw[List.map_cons,h2,e1]⟩
 |swap x y l =>
  intro T e
  match T,e with
  |a::b::T,e =>
   injection e with e1 e2
   injection e2 with e2 e3
   exact⟨b::a::T,.swap a b T,by rw[List.map_cons,List.map_cons,e1,e2,e3]⟩
 |trans _ _ ih1 ih2 =>
  intro T e;obtain⟨T',h1,h2⟩:=ih2 e;obtain⟨T2,h3,h4⟩:=ih1 h2.symm;exact⟨T2,h3.trans h1,h4⟩
section
variable {prog:Program}{w:World}{A:Around}{E:Value->Shared->Prop}{s:Shared}
noncomputable def kfH(h:Heap):Keyed->OL.α:=λx=>(B9 h x.1:List Int)
def DH(h:Heap)(x:Keyed):Prop:=∃b its r,x.1=Value.ref b/\IsTup h b its/\IntsAre its.toList r
theorem b5E:Cmp prog w A s (tuples' true) (DH s.heap) (ltK (kfH s.heap)):=by
 rintro⟨x,x'⟩ ⟨y,y'⟩ C ⟨b,its,r,e1,t1,i1⟩ ⟨b',its',r',e2,t2,i2⟩ hc;dsimp only at e1 e2;subst e1 e2;have hc:C (HT.lexLt (B9 s.heap (.ref b)) (B9 s.heap (.ref b'))) s:=hc;rw[B7 t1 i1,B7 t2 i2]at hc;obtain⟨o,q1,q2,n,q3⟩:=t1;obtain⟨o',q1',q2',n',q3'⟩:=t2;refine kat_lt q1 q3 q1' q3' (a0G 0 i1 i2 ?_);have l1:its.size=r.length:=by rw[<-Array.length_toList];exact i1.length
 have l2:its'.size=r'.length:=by rw[<-Array.length_toList];exact i2.length
 rw[l1,l2,a4g];exact hc
theorem W2{a:Addr}{vs:List Value}{rss:LLI}{n:Nat}{P:Fin->Shared->Prop}(ho:s.heap.get? a=some (seqObj "list" vs.toArray n))(T:TupsAre s.heap vs rss)(hw:∀r∈rss,0<r.length)(hz:vs.length<=sizeLine)
  (h:∀os:List Value,os.Perm vs->os.Pairwise (λx y=>HT.lexLt (B9 s.heap y) (B9 s.heap x)=false)->P (.done (.ret .none)) {s with heap:=sortedHeap s.heap a vs os.toArray}) :
  wpAny (model prog w) A (Builtin.«list.sort» ⟨[.ref a],[]⟩) P E s:=by
 rw[list_sort_plain];have ha:a<s.heap.objs.size:=Heap.lt_size ho;refine wpAny_bind (listItems_at ho rfl ?_);refine wpAny_bind (listUpdate_at ho rfl ?_ (by rw[List.size_toArray];omega) (Nat.zero_le _));obtain⟨e1,ho1⟩:∃e1,(s.heap.update a (Obj.mapSeq λ_=>#[])).get? a=some (seqObj "list" #[] e1):=⟨_,get?_update_seq ho (λ_=>#[])⟩;refine wpAny_bind (seqEpoch_at ho1 rfl ?_);refine wpAny_bind (wpAny_newTuple ?_ (by show vs.length<=_;omega));refine wpAny_bind (wpAny_newList ?_ (Nat.zero_le _));refine wpAny_holding ?_;have ho6:(((s.heap.update a (Obj.mapSeq λ_=>#[])).push (seqObj "tuple" vs.toArray 0)).push (seqObj "list" #[] 0)).get? a=some (seqObj "list" #[] e1):=by
  rw[Heap.get?_push_ne _ _ _ (by rw[size_push',Heap.size_update];exact Nat.ne_of_lt (Nat.lt_succ_of_lt ha)),Heap.get?_push_ne _ _ _ (by rw[Heap.size_update];exact Nat.ne_of_lt ha)];exact ho1
 have keepT:∀b its,IsTup s.heap b its->IsTup (((s.heap.update a (Obj.mapSeq λ_=>#[])).push (seqObj "tuple" vs.toArray 0)).push (seqObj "list" #[] 0)) b its:=λb its ⟨o,q1,q2,q3⟩=>by
  have hb:b≠a:=λz=>by
   rw[z,ho]at q1;cases q1;have q2:Value.type "list"=Value.type "tuple":=q2;injection q2 with q2
   exact absurd q2 (by decide)
  refine⟨o,?_,q2,q3⟩;exact Heap.get?_push_of_some _ (Heap.get?_push_of_some _ (by rw[Heap.get?_update_ne _ _ _ _ hb];exact q1))
 have T6:=T.keeps keepT;show wpAny (model prog w) A _ P E {s with heap:=((s.heap.update a (Obj.mapSeq λ_=>#[])).push (seqObj "tuple" vs.toArray 0)).push (seqObj "list" #[] 0)};have rowEq:∀v∈vs,B9 (((s.heap.update a (Obj.mapSeq λ_=>#[])).push (seqObj "tuple" vs.toArray 0)).push (seqObj "list" #[] 0)) v=B9 s.heap v:=λv hv=>by
  obtain⟨i,hi⟩:=List.mem_iff_getElem?.mp hv;obtain⟨r,b,its,_,e2,e3,e4⟩:=T.2 i v hi;rw[e2,B7 e3 e4,B7 (keepT b its e3) e4]
 generalize hH6:((s.heap.update a (Obj.mapSeq λ_=>#[])).push (seqObj "tuple" vs.toArray 0)).push (seqObj "list" #[] 0)=H6 at ho6 T6 rowEq;dsimp only;have fin:∀os:List Value,os.Perm vs->os.Pairwise (λx y=>HT.lexLt (B9 s.heap y) (B9 s.heap x)=false)->P (.done (.ret .none)) {s with heap:=H6.update a (Obj.mapSeq λ_=>os.toArray)}:=λos h1 h2=>by
  have:=h os h1 h2;unfold sortedHeap at this;rw[hH6]at this;exact this
 by_cases h2:vs.toArray.size<2
 .have h2':vs.length<2:=by simpa using h2
  rw[if_pos h2,if_pos h2];refine wpAny_bind (wpAny_pure ?_);rw[StateT.run_pure];refine wpAny_bind (wpAny_pure ?_);dsimp only;refine wpAny_bind (seqEpoch_at ho6 rfl ?_);refine wpAny_bind (listUpdate_at ho6 rfl ?_ (Nat.zero_le _) (by rw[Array.size_map];show(pairsOf vs).size<=_;rw[pairsOf_size];omega));simp only[bne_self_eq_false,Bool.false_eq_true,if_false];have e:((vs.toArray.zip vs.toArray).map (·.2))=vs.toArray:=by
   apply Array.toList_inj.mp;simp[List.map_snd_zip]
  show wpAny _ _ _ _ _ {s with heap:=H6.update a (Obj.mapSeq λ_=>(vs.toArray.zip vs.toArray).map (·.2))};rw[e];refine wpAny_pure (fin vs (.refl _) ?_);rw[List.pairwise_iff_getElem];intro i j hi hj hij;omega
 .have h2':2<=vs.length:=by
   have:¬vs.length<2:=by simpa using h2
   omega
  rw[if_neg h2,if_neg h2];refine wpAny_bind (a2k T6 hw (by omega) ?_);have hDH:AllD (DH H6) (vs.toArray.zip vs.toArray):=λx hx=>by
   have hx':x∈vs.zip vs:=by simpa using hx
   obtain⟨_,hm⟩:=mem_zip_self hx';obtain⟨i,hi⟩:=List.mem_iff_getElem?.mp hm;obtain⟨r,b,its,_,e2,e3,e4⟩:=T6.2 i _ hi;exact⟨b,its,r,e2,e3,e4⟩
  refine wpAny_bind (wpAny_mono (a0y (s:={s with heap:=H6}) (st:=SortSt.mk' (tuples' true) (vs.toArray.zip vs.toArray) #[] 7 none) (kf:=kfH H6) (D:=DH H6) (b5E (s:={s with heap:=H6})) rfl hDH rfl rfl
   (Q:=λ_ st'=>(arrOf st').Perm (vs.toArray.zip vs.toArray)/\failedOf st'=none/\(arrOf st').toList.Pairwise (leK (kfH H6))) λst' q1 q2 q3=>⟨q1,q2,q3⟩) ?_ λ_ _ e=>e)
  rintro⟨⟨⟩,st'⟩ s' ⟨rfl,hp,hf,hs⟩;dsimp only at hp hf hs⊢;have hpl:(arrOf st').toList.Perm (vs.zip vs):=by
   have:=Array.perm_iff_toList_perm.mp hp;simpa using this
  have hos:((arrOf st').toList.map (·.2)).Perm vs:=by
   have:=hpl.map Prod.snd;rwa[List.map_snd_zip (Nat.le_refl _)]at this
  have hsame:∀x∈(arrOf st').toList,x.1=x.2/\x.1∈vs:=λx hx=>mem_zip_self (hpl.mem_iff.mp hx);have e:(arrOf st').map (·.2)=((arrOf st').toList.map (·.2)).toArray:=by
   apply Array.toList_inj.mp;simp
  refine wpAny_bind (seqEpoch_at ho6 rfl ?_);rw[e];refine wpAny_bind (listUpdate_at ho6 rfl ?_ (Nat.zero_le _) (by rw[List.size_toArray,hos.length_eq];omega));rw[hf];simp only[bne_self_eq_false,Bool.false_eq_true,if_false];refine wpAny_pure (fin _ hos ?_);rw[List.pairwise_map];refine hs.imp_of_mem λ{x y} hx hy hxy=>?_;have h1:=hsame x hx;have h2:=hsame y hy;rw[<-h1.1,<-h2.1,<-rowEq _ h1.2,<-rowEq _ h2.2];exact hxy
theorem a0Q{x:Value}{vs:List Value}{rss:LLI}{Q:Value->Shared->Prop}(hcol:∀(A':Around) (E':Value->Shared->Prop) (Q':List Value->Shared->Prop),(∀h1:Heap,(∀b o,s.heap.get? b=some o->h1.get? b=some o)->Q' vs {s with heap:=h1})->wpAny (model prog w) A' (collect x) Q' E' s)
  (T:TupsAre s.heap vs rss) (hw:∀r∈rss,0<r.length) (hz:vs.length<=sizeLine)
  (h:∀(h1 h':Heap) (os:List Value) (c:Nat),(∀b o,s.heap.get? b=some o->h1.get? b=some o)->(∀b o,h1.get? b=some o->h'.get? b=some o)->h'.get? h1.objs.size=some (seqObj "list" os.toArray c)->os.Perm vs->os.Pairwise (λx y=>HT.lexLt (B9 s.heap y) (B9 s.heap x)=false)->Q (.ref h1.objs.size) {s with heap:=h'}) :
  wpAny (model prog w) A (call (.builtin "sorted") [x]) Q E s:=by
 refine Calls.call_function_entry kind_sorted plain_sorted entry_sorted (args_sorted1 _) ?_;unfold Builtin.«sorted»;refine wpAny_bind (m:=checkCount "sorted" 1 1 _) (wpAny_pure ?_);refine wpAny_bind (hcol _ _ _ λh1 k1=>?_);refine wpAny_bind (wpAny_newList ?_ (by omega));have hoL:(h1.push (seqObj "list" vs.toArray 0)).get? h1.objs.size=some (seqObj "list" vs.toArray 0):=Heap.get?_push_size _ rfl;have keepT:∀b its,IsTup s.heap b its->IsTup (h1.push (seqObj "list" vs.toArray 0)) b its:=λb its ⟨o,q1,q2⟩=>⟨o,Heap.get?_push_of_some _ (k1 _ _ q1),q2⟩;have T2:=T.keeps keepT;have rowEq:∀v∈vs,B9 (h1.push (seqObj "list" vs.toArray 0)) v=B9 s.heap v:=λv hv=>by
  obtain⟨i,hi⟩:=List.mem_iff_getElem?.mp hv;obtain⟨r,b,its,_,e2,e3,e4⟩:=T.2 i v hi;rw[e2,B7 e3 e4,B7 (keepT b its e3) e4]
 show wpAny _ _ _ _ _ {s with heap:=h1.push (seqObj "list" vs.toArray 0)};refine wpAny_bind (wpAny_holding (wpAny_call_entry slot_list_sort ⟨_,hoL,rfl⟩ entry_list_sort (W2 (s:={s with heap:=h1.push (seqObj "list" vs.toArray 0)}) hoL T2 hw hz λos hp hs=>⟨_,rfl,?_⟩) (args_list_sort _)));obtain⟨c,hc⟩:=O6 (out:=os.toArray) hoL;refine wpAny_pure ⟨_,rfl,h h1 _ os c k1 (λb o e=>?_) hc hp (hs.imp_of_mem λ{x y} hx hy hxy=>?_)⟩
 .exact L3 b o (Nat.ne_of_lt (Heap.lt_size e)) (Heap.get?_push_of_some _ e)
 .rw[<-rowEq _ (hp.mem_iff.mp hx),<-rowEq _ (hp.mem_iff.mp hy)];exact hxy
end
def a8G(K:PySem.W.Frag):RL:=λxs H Q=>∃(p:Addr) (ys:List V) (rss:LLI),xs=[.ref p]/\(SqL K H p ys∨SqT K H p ys)/\Its H ys rss/\(∀r∈rss,0<r.length) /\
 ∀l zs tss,H l=none->Its H zs tss->tss.Perm rss->J7 tss->zs.Perm ys->Q (.ref l) (upd H l (.lst zs))
theorem T8:∀{ys:List V}{us:List Value}{rss:LLI},Vals ys us->ys.length=rss.length->∃T:List (Value×V×List Int),T.map (·.1)=us/\T.map (·.2.1)=ys/\T.map (·.2.2)=rss/\∀(i:Nat) t,T[i]?=some t->RelV t.2.1 t.1/\ys[i]?=some t.2.1/\rss[i]?=some t.2.2
 |[],us,rss,r,e=>by
  cases r;cases rss with
  |nil=>exact⟨[],rfl,rfl,rfl,λi t h=>by simp at h⟩
  |cons _ _=>cases e
 |y::ys,us,rss,r,e=>by
  cases r with
  |cons h hs =>
   cases rss with
   |nil=>cases e
   |cons r rss =>
    obtain⟨T,e1,e2,e3,e4⟩:=T8 hs (by simpa using e);refine⟨(_,y,r)::T,by rw[List.map_cons,e1],by rw[List.map_cons,e2],by rw[List.map_cons,e3],λi t ht=>?_⟩;cases i with
    |zero=>cases ht;exact⟨h,rfl,rfl⟩
    |succ i=>exact e4 i t ht
theorem N6:∀{T:List (Value×V×List Int)},(∀t∈T,RelV t.2.1 t.1)->Vals (T.map (·.2.1)) (T.map (·.1))
 |[],_=>.nil
 |t::T,h=>.cons (h t List.mem_cons_self) (N6 λu hu=>h u (List.mem_cons_of_mem _ hu))
section
variable {X:Cx}
theorem a5t(K:PySem.W.Frag)(hK:X.K=K:=by rfl):C8 X (.builtin "sorted") (a8G K):=by
 subst hK;intro pins s σ H xs us Q I rv h;obtain⟨p,ys,rss,rfl,hq,hI,hw,q⟩:=h;obtain⟨u,rfl,ru⟩:=rv.one;cases ru;obtain⟨its,ri,hz,hcol⟩:∃its:List Value,Vals ys its/\ys.length<=sizeLine/\∀(A':Around) (E':Value->Shared->Prop) (Q':List Value->Shared->Prop),(∀h1:Heap,(∀b o,s.heap.get? b=some o->h1.get? b=some o)->Q' its {s with heap:=h1})->wpAny (model X.prog X.w) A' (collect (.ref p)) Q' E' s:=by
  rcases hq with hq|hq
  .obtain⟨its,r',pl,hz⟩:=I.list hq;obtain⟨o,ho,hc,n,hd⟩:=pl.isList;have hlen:=r'.length;exact⟨its,r',hz,λA' E' Q' k=>wpAny_collect_seq p (.inl rfl) ho hc hd (λh' k'=>k h' k') (by simp only[List.size_toArray];omega)⟩
  .obtain⟨its,r',pl,hz⟩:=I.tuple hq;obtain⟨o,ho,hc,n,hd⟩:=pl;have hlen:=r'.length;exact⟨its,r',hz,λA' E' Q' k=>wpAny_collect_seq p (.inr rfl) ho hc hd (λh' k'=>k h' k') (by simp only[List.size_toArray];omega)⟩
 have hl:=ri.length;have TT:=a1O I hI ri;obtain⟨T,t1,t2,t3,t4⟩:=T8 ri hI.1;refine a0Q hcol TT hw (by omega) λh1 h' os c k1 k2 e hp hs=>?_;obtain⟨T',p1,p2⟩:=R0 (f:=λt:Value×V×List Int=>t.1) hp t1.symm;have I1:=I.kept (t':=s.toks) k1;have hT:∀t∈T',RelV t.2.1 t.1/\IT H t.2.1 t.2.2/\B9 s.heap t.1=t.2.2:=λt ht=>by
  obtain⟨i,hi⟩:=List.mem_iff_getElem?.mp (p1.mem_iff.mp ht);obtain⟨r1,r2,r3⟩:=t4 i t hi;obtain⟨row,q1,q2⟩:=hI.2 i _ r2;rw[r3]at q1;cases q1;have e5:its[i]?=some t.1:=by rw[<-t1,List.getElem?_map,hi];rfl
  obtain⟨r',b,its',f1,f2,f3,f4⟩:=TT.2 i _ e5;rw[r3]at f1;cases f1;exact⟨r1,q2,by rw[f2];exact B7 f3 f4⟩
 have hzp:(T'.map (·.2.1)).Perm ys:=by rw[<-t2];exact p1.map _
 have hv:Vals (T'.map (·.2.1)) os:=by rw[<-p2];exact N6 λt ht=>(hT t ht).1
 have I2:=I1.laid (h':=h') (a:=h1.objs.size) (o:=.lst (T'.map (·.2.1))) (t':=s.toks) k2 (Nat.le_refl _) ⟨by rw[hzp.length_eq];exact hz,os,c,hv,e⟩;refine⟨.ref h1.objs.size,_,I2,rfl,q _ _ (T'.map (·.2.2)) (I1.hok.fresh (Nat.le_refl _)) ⟨by rw[List.length_map,List.length_map],λi v ei=>?_⟩ (by rw[<-t3];exact p1.map _) ?_ hzp⟩
 .rw[List.getElem?_map]at ei⊢;cases e2:T'[i]? with
  |none=>rw[e2]at ei;cases ei
  |some t =>
   rw[e2]at ei;cases ei;exact⟨t.2.2,rfl,(hT t (List.mem_of_getElem? e2)).2.1⟩
 .unfold J7;rw[List.pairwise_map];rw[<-p2,List.pairwise_map]at hs;refine hs.imp_of_mem λ{x y} hx hy hxy=>?_;rw[(hT x hx).2.2,(hT y hy).2.2]at hxy;exact hxy
theorem a9C(K:PySem.W.Frag){e:Expr}{t:TA}{p pos:Pos}(hg:Gl X "sorted")(hm:X.mg "sorted"=none)(ha:JA X [e] t)(hK:X.K=K:=by rfl)(he:starEach [e] X.env=(false,eval e X.env)::starEach [] X.env:=by rfl)(hpl:(backTo pos (starEach [] X.env)).any (·.1)=false:=by rfl):JE X (.Call (.Name "sorted" p) [e] [] pos) (tCB (a8G K) t):=⟨C9 (a5t K hK) hg hm a0u ha.h (by decide) (by decide) he hpl⟩
end
def DRaw(h:Heap)(d:Addr)(es:Array DictEntry)(ep:Nat):Prop:=∃ob:Obj,h.get? d=some ob/\ob.ExactDict/\ob.data=.dict es ep
theorem DRaw.typ{s:Shared}{d:Addr}{es:Array DictEntry}{ep:Nat}(x:DRaw s.heap d es ep):s.TypeIs (.ref d) "dict":=by
 obtain⟨ob,e1,e2,_⟩:=x;exact⟨ob,e1,e2.1⟩
theorem DRaw.lt{h:Heap}{d:Addr}{es:Array DictEntry}{ep:Nat}(x:DRaw h d es ep):d<h.objs.size:=by
 obtain⟨ob,e1,_⟩:=x;exact Heap.lt_size e1
theorem DRaw.to{h h':Heap}{d:Addr}{es:Array DictEntry}{ep:Nat}(x:DRaw h d es ep)(k:∀ob,h.get? d=some ob->h'.get? d=some ob):DRaw h' d es ep:=by
 obtain⟨ob,e1,q⟩:=x;exact⟨ob,k _ e1,q⟩
section
variable {prog:Program}{w:World}{A:Around}{E:Value->Shared->Prop}{s:Shared}{it d:Addr}{i ep:Nat}{es:Array DictEntry}
theorem a8C{Q:Value->Shared->Prop}(hs:(d==sysModules)=false)(D:DRaw s.heap d es ep)
  (q:Q (.ref s.heap.objs.size) {s with heap:=s.heap.push {cls:=.type "dict_keyiterator",data:=.fields #[.ref d,.int 0 0,.int es.size 0,.int ep 0]}}):wpAny (model prog w) A (pyIter (.ref d)) Q E s:=by
 have ty:=D.typ;obtain⟨ob,e1,_,e3⟩:=D;refine wpAny_pyIter_slot ty PySem.F.slot_dict_iter (wpAny_call_entry PySem.F.slot_dict_iter ty PySem.F.entry_dict_iter ?body (PySem.F.args_dict_iter_1 _))
 case body =>
  unfold Builtin.«dict.__iter__» Builtin.Dict.dictSlotNone;refine wpAny_bind (wpAny_bind (wpAny_notOrdered_dict ty (wpAny_pure ?_)));show wpAny _ _ (Builtin.Dict.showsAll d>>=λ_=>_) _ _ _;unfold Builtin.Dict.showsAll;rw[if_neg (λz=>by rw[hs]at z;cases z)];refine wpAny_bind (wpAny_pure (wpAny_bind (wpAny_dictEntries e1 e3 (wpAny_bind (wpAny_dictEpoch e1 e3 ?_)))));refine wpAny_bind (wpAny_newObj_type (wpAny_pure ⟨_,rfl,"dict_keyiterator",_,⟨_,Heap.get?_push_size _ rfl,rfl⟩,PySem.F.slot_dict_keyiterator_next.lookup,?_⟩));exact q
theorem a8D{Q:Option Value->Shared->Prop}(I:s.heap.IsKeyIter it d i es.size ep)(D:DRaw s.heap d es ep)(hi:i<es.size)
  (q:∀h',h'.IsKeyIter it d (i+1) es.size ep->Heap.SameBut it s.heap h'->Q (some es[i].key) {s with heap:=h'}):wpAny (model prog w) A (pyNext (.ref it)) Q E s:=by
 obtain⟨oi,f1,f2,f3⟩:=id I;obtain⟨od,e1,e2,e3⟩:=D;unfold pyNext;refine wpAny_bind (wpAny_attempt (wpAny_callSpecial?_slot (name:=Str.ofString "__next__") I.typeIs PySem.F.slot_dict_keyiterator_next (wpAny_call_entry PySem.F.slot_dict_keyiterator_next I.typeIs PySem.F.entry_dict_keyiterator_next ?body (PySem.F.args_dict_keyiterator_next_1 _))))
 case body =>
  refine wpAny_bind (wpAny_pure (wpAny_bind (wpAny_bind ?_)))
  first|refine wpAny_bind (wpAny_typeNameOfWhole_keyiter I.typeIs (wpAny_pure ?_))|refine wpAny_bind (wpAny_typeNameOf_keyiter I.typeIs (wpAny_pure ?_))
  refine wpAny_bind (wpAny_fieldsOf f1 f3 ?_);rw[show Builtin.Dict_items.ownsTuple "dict_keyiterator"=false by decide,if_neg Bool.false_ne_true];show wpAny _ _ (if (Value.ref d==Value.none)=true then _ else _) _ _ _;have hnn:¬((Value.ref d==Value.none)=true):=Bool.false_ne_true;rw[if_neg hnn];refine wpAny_bind (wpAny_pure (wpAny_bind (wpAny_dictEntries e1 e3 ?_)));rw[if_neg (by simp)];refine wpAny_bind (wpAny_pure (wpAny_bind (wpAny_dictEpoch e1 e3 ?_)));rw[if_neg (by simp)];refine wpAny_pure ?_;dsimp only;rw[show(if (i:Int)<0 then(none:Option DictEntry)else es[(i:Int).toNat]?)=some es[i] by rw[if_neg (by omega),Int.toNat_natCast,Array.getElem?_eq_getElem hi]];dsimp only;refine wpAny_bind ?_
  first|refine wpAny_bind (wpAny_typeNameOfWhole_keyiter I.typeIs (wpAny_pure ?_))|refine wpAny_bind (wpAny_typeNameOf_keyiter I.typeIs (wpAny_pure ?_))
  refine wpAny_bind (wpAny_isOneOf_keyiter I.typeIs ?_);show wpAny _ _ (setField (.ref it) 1 (rawInt ((i:Int)+1))>>=λ_=>_) _ _ _;have I':(s.heap.update it (Obj.mapFields λz=>z.setIfInBounds 1 (rawInt ((i:Int)+1)))).IsKeyIter it d (i+1) es.size ep :=
   ⟨_,Heap.get?_update_self _ f1 (Obj.isFreed_of_fields (Obj.data_mapFields f3 _)),(Obj.cls_mapFields ..).trans f2,by rw[Obj.data_mapFields f3];simp[rawInt]⟩
  refine wpAny_bind (wpAny_setField f1 f3 (by simp) (wpAny_bind (wpAny_holding ?_)));refine wpAny_bind (wpAny_isOneOf_keyiter (s:={s with heap:=s.heap.update it (Obj.mapFields λz=>z.setIfInBounds 1 (rawInt ((i:Int)+1)))}) I'.typeIs ?_);exact wpAny_pure (wpAny_pure ⟨_,rfl,wpAny_pure (q _ I' (Heap.SameBut.update ..))⟩)
theorem b0M{Q:Option Value->Shared->Prop}(hh:A.handled=none)(I:s.heap.IsKeyIter it d i es.size ep)(D:DRaw s.heap d es ep)(hi:es.size<=i)
  (q:∀h',Heap.ExtBut it s.heap h'->Q none {s with heap:=h'}):wpAny (model prog w) A (pyNext (.ref it)) Q E s:=by
 obtain⟨oi,f1,f2,f3⟩:=id I;obtain⟨od,e1,e2,e3⟩:=D;unfold pyNext;refine wpAny_bind (wpAny_attempt (wpAny_callSpecial?_slot (name:=Str.ofString "__next__") I.typeIs PySem.F.slot_dict_keyiterator_next (wpAny_call_entry PySem.F.slot_dict_keyiterator_next I.typeIs PySem.F.entry_dict_keyiterator_next ?body (PySem.F.args_dict_keyiterator_next_1 _))))
 case body =>
  refine wpAny_bind (wpAny_pure (wpAny_bind (wpAny_bind ?_)))
  first|refine wpAny_bind (wpAny_typeNameOfWhole_keyiter I.typeIs (wpAny_pure ?_))|refine wpAny_bind (wpAny_typeNameOf_keyiter I.typeIs (wpAny_pure ?_))
  refine wpAny_bind (wpAny_fieldsOf f1 f3 ?_);rw[show Builtin.Dict_items.ownsTuple "dict_keyiterator"=false by decide,if_neg Bool.false_ne_true];show wpAny _ _ (if (Value.ref d==Value.none)=true then _ else _) _ _ _;have hnn:¬((Value.ref d==Value.none)=true):=Bool.false_ne_true;rw[if_neg hnn];refine wpAny_bind (wpAny_pure (wpAny_bind (wpAny_dictEntries e1 e3 ?_)));rw[if_neg (by simp)];refine wpAny_bind (wpAny_pure (wpAny_bind (wpAny_dictEpoch e1 e3 ?_)));rw[if_neg (by simp)];refine wpAny_pure ?_;dsimp only;rw[show(if (i:Int)<0 then(none:Option DictEntry)else es[(i:Int).toNat]?)=none by rw[if_neg (by omega),Int.toNat_natCast,Array.getElem?_eq_none hi]];dsimp only;refine wpAny_bind ?_
  first|refine wpAny_bind (wpAny_typeNameOfWhole_keyiter I.typeIs (wpAny_pure ?_))|refine wpAny_bind (wpAny_typeNameOf_keyiter I.typeIs (wpAny_pure ?_))
  show wpAny _ _ (setField (.ref it) 0 .none>>=λ_=>_) _ _ _;refine wpAny_bind (wpAny_setField f1 f3 (by simp) ?_);show wpAny _ _ (newExc (.type "StopIteration") []>>=λ_=>_) _ _ _;refine wpAny_bind ?_;simp only[newExc,newTuple];refine wpAny_bind (wpAny_newObj_type ?_ (by size_fits));refine wpAny_bind (m:=firstArgMember _ _) (wpAny_of_eq (a:=Value.none) (by first|rfl | (simp only[firstArgMember];rfl)) ?_);refine wpAny_newObj_type ?_ (by size_fits);simp only[raiseNew];refine wpAny_bind (wpAny_handled ?_);rw[show A.in1.handled=none from hh];refine wpAny_bind (wpAny_pure (wpAny_throw ?_));refine wpAny_bind (wpAny_isInstance (T:="StopIteration") (b:=true) ⟨_,Heap.get?_push_size _ rfl,rfl⟩ isSubtype_stop ?_);exact wpAny_pure (q _ (((Heap.SameBut.update ..).extBut.push _).push _))
theorem a6L(hh:A.handled=none)(J d:Addr)(hne:d≠J)(es:Array DictEntry)(ep:Nat) :
  Walks prog w A J [J,d] [J] es.size (λi v=>∃e,es[i]?=some e/\v=e.key) (λi h=>h.IsKeyIter J d i es.size ep/\DRaw h d es ep) where
 sub:=λb hb=>by rw[List.mem_singleton.mp hb];exact List.mem_cons_self
 frame:=λi h h' st hk=>⟨st.1.at λo e=>hk J List.mem_cons_self o e,st.2.to λo e=>hk d (List.mem_cons_of_mem _ List.mem_cons_self) o e⟩
 item:=λi s Q E hi st hQ=>a8D st.1 st.2 hi λh' I' sb=>hQ _ h' s.toks ⟨es[i],by simp[hi],rfl⟩ ⟨I',st.2.to λo e=>sb.extBut d o hne e⟩ λb o hb e=>sb.extBut b o (λz=>hb (by rw[z];exact List.mem_cons_self)) e
 done:=λs Q E st hQ=>b0M hh st.1 st.2 (Nat.le_refl _) λh' eb=>hQ h' s.toks λb o hb e=>eb b o (λz=>hb (by rw[z];exact List.mem_cons_self)) e
 self:=λ_ _ _ _ st hQ=>wpAny_pyIter_keyiter st.1 hQ
theorem a5W(hs:(d==sysModules)=false)(es:Array DictEntry)(ep:Nat):KdlSrc prog w "dict" d d es.size (λi v=>∃e,es[i]?=some e/\v=e.key) (λh=>DRaw h d es ep) where
 type:=λ_ D=>D.typ
 there:=λ_ D=>⟨D.lt,D.lt⟩
 keep:=λ_ _ D hk=>D.to λo e=>hk d (.inl rfl) o e
 notList:=by decide
 notTuple:=by decide
 hint:=λ_ _ _ _ D q=>kdl_hint_dict D.typ q
 iter:=λ_ _ hh D=>⟨_,_,λ_ _ q=>a8C hs D q,a6L hh _ d (Nat.ne_of_lt D.lt) es ep,⟨⟨_,Heap.get?_push_size _ rfl,rfl,rfl⟩,D.to λo e=>Heap.get?_push_of_some _ e⟩⟩
end
section
variable {prog:Program}{w:World}{A:Around}{E:Value->Shared->Prop}{s:Shared}
theorem a0P{x:Value}{vs:List Value}{rss:LLI}{Q:Value->Shared->Prop}(hcol:∀(E':Value->Shared->Prop) (Q':List Value->Shared->Prop),(∀(h1:Heap) (tk:Nat),(∀b o,s.heap.get? b=some o->h1.get? b=some o)->Q' vs {s with heap:=h1,toks:=tk})->wpAny (model prog w) A.in1 (collect x) Q' E' s)
  (T:TupsAre s.heap vs rss) (hw:∀r∈rss,0<r.length) (hz:vs.length<=sizeLine)
  (h:∀(h1 h':Heap) (os:List Value) (c tk:Nat),(∀b o,s.heap.get? b=some o->h1.get? b=some o)->(∀b o,h1.get? b=some o->h'.get? b=some o)->h'.get? h1.objs.size=some (seqObj "list" os.toArray c)->os.Perm vs->os.Pairwise (λx y=>HT.lexLt (B9 s.heap y) (B9 s.heap x)=false)->Q (.ref h1.objs.size) {s with heap:=h',toks:=tk}) :
  wpAny (model prog w) A (call (.builtin "sorted") [x]) Q E s:=by
 refine Calls.call_function_entry kind_sorted plain_sorted entry_sorted (args_sorted1 _) ?_;unfold Builtin.«sorted»;refine wpAny_bind (m:=checkCount "sorted" 1 1 _) (wpAny_pure ?_);refine wpAny_bind (hcol _ _ λh1 tk k1=>?_);refine wpAny_bind (wpAny_newList ?_ (by omega));have hoL:(h1.push (seqObj "list" vs.toArray 0)).get? h1.objs.size=some (seqObj "list" vs.toArray 0):=Heap.get?_push_size _ rfl;have keepT:∀b its,IsTup s.heap b its->IsTup (h1.push (seqObj "list" vs.toArray 0)) b its:=λb its ⟨o,q1,q2⟩=>⟨o,Heap.get?_push_of_some _ (k1 _ _ q1),q2⟩;have T2:=T.keeps keepT;have rowEq:∀v∈vs,B9 (h1.push (seqObj "list" vs.toArray 0)) v=B9 s.heap v:=λv hv=>by
  obtain⟨i,hi⟩:=List.mem_iff_getElem?.mp hv;obtain⟨r,b,its,_,e2,e3,e4⟩:=T.2 i v hi;rw[e2,B7 e3 e4,B7 (keepT b its e3) e4]
 show wpAny _ _ _ _ _ {s with heap:=h1.push (seqObj "list" vs.toArray 0),toks:=tk};refine wpAny_bind (wpAny_holding (wpAny_call_entry slot_list_sort ⟨_,hoL,rfl⟩ entry_list_sort (W2 (s:={s with heap:=h1.push (seqObj "list" vs.toArray 0),toks:=tk}) hoL T2 hw hz λos hp hs=>⟨_,rfl,?_⟩) (args_list_sort _)));obtain⟨c,hc⟩:=O6 (out:=os.toArray) hoL;refine wpAny_pure ⟨_,rfl,h h1 _ os c tk k1 (λb o e=>?_) hc hp (hs.imp_of_mem λ{x y} hx hy hxy=>?_)⟩
 .exact L3 b o (Nat.ne_of_lt (Heap.lt_size e)) (Heap.get?_push_of_some _ e)
 .rw[<-rowEq _ (hp.mem_iff.mp hx),<-rowEq _ (hp.mem_iff.mp hy)];exact hxy
end
noncomputable def IK(rss:LLI):List (List Key):=rss.map λr=>r.map Sum.inl
def a8F:RL:=λxs H Q=>∃(d:Addr) (kvs:List (List Key×V)) (rss:LLI),xs=[.ref d]/\H d=some (.dT kvs)/\kvs.map (·.1)=IK rss/\(∀r∈rss,0<r.length) /\
 ∀l zs tss,H l=none->Its H zs tss->tss.Perm rss->J7 tss->Q (.ref l) (upd H l (.lst zs))
theorem a6e{H:Hp}:∀{kvs:List (List Key×V)}{xs:List (List Key×Addr×Value)}{rss:LLI},KT H kvs xs->kvs.map (·.1)=IK rss->Its H (xs.map λx=>V.ref x.2.1) rss/\xs.length=rss.length:=by
 intro kvs xs rss r e;induction r generalizing rss with
 |nil =>
  cases rss with
  |nil=>exact⟨⟨rfl,λi v z=>by simp at z⟩,rfl⟩
  |cons _ _=>cases e
 |@cons p q ps qs h _ ih =>
  cases rss with
  |nil=>cases e
  |cons r rss =>
   injection e with e1 e2
   obtain⟨h1,h2⟩:=ih e2;refine⟨⟨by rw[List.length_map,List.length_cons,List.length_cons,h2],λi v hv=>?_⟩,by rw[List.length_cons,List.length_cons,h2]⟩;cases i with
   |zero =>
    cases hv;refine⟨r,rfl,q.2.1,rfl,?_⟩;have h3:=h.2.1;have e1:p.1=r.map Sum.inl:=e1;rw[e1,List.map_map]at h3;exact h3
   |succ i=>exact h1.2 i v hv
theorem a0f{α:Type}(f:α->Addr):∀xs:List α,Vals (xs.map λx=>V.ref (f x)) (xs.map λx=>Value.ref (f x))
 |[]=>.nil
 |x::xs=>.cons rfl (a0f f xs)
section
variable {X:Cx}
theorem a5s(hc:X.calm=true):C8 X (.builtin "sorted") a8F:=by
 intro pins s σ H xs us Q I rv h;obtain⟨d,kvs,rss,rfl,hd,hk,hw,q⟩:=h;obtain⟨u,rfl,ru⟩:=rv.one;cases ru;obtain⟨hz,hsys,ts,kt,ob,es,ep,e1,e2,e3,e4,e5⟩:=I.hok _ _ hd;obtain⟨hI,hlen⟩:=a6e kt hk;have hkl:kvs.length=ts.length:=Paired.length kt;have esz:es.size=ts.length:=by rw[<-Array.length_toList,e4,List.length_map]
 have D:DRaw s.heap d es ep:=⟨ob,e1,e2,e3⟩;have ri:Vals (ts.map λx=>V.ref x.2.1) (ts.map λx=>Value.ref x.2.1):=a0f (λx:List Key×Addr×Value=>x.2.1) ts;have hcol:∀(E':Value->Shared->Prop) (Q':List Value->Shared->Prop),(∀(h1:Heap) (tk:Nat),(∀b o,s.heap.get? b=some o->h1.get? b=some o)->Q' (ts.map λx=>Value.ref x.2.1) {s with heap:=h1,toks:=tk})->wpAny (model X.prog X.w) X.A.in1 (collect (.ref d)) Q' E' s:=λE' Q' k=>by
  refine kdu_collect (a5W hsys es ep) (show X.A.in1.handled=none from I.ok.hd hc) D (by omega) λh' tk acc kp hit=>?_;have:acc.toList=ts.map λx=>Value.ref x.2.1:=by
   refine List.ext_getElem? λi=>?_;rw[Array.getElem?_toList,List.getElem?_map];by_cases hi:i<ts.length
   .have hia:i<acc.size:=by rw[hit.1,esz];exact hi
    obtain⟨e,he,hv⟩:=hit.2 i acc[i] (by simp[hia]);have he':es.toList[i]?=some e:=by rw[Array.getElem?_toList];exact he
    rw[e4,List.getElem?_map,List.getElem?_eq_getElem hi]at he';injection he' with he'
    rw[Array.getElem?_eq_getElem hia,List.getElem?_eq_getElem hi,hv,<-he'];rfl
   .rw[Array.getElem?_eq_none (by rw[hit.1,esz];omega),List.getElem?_eq_none (by omega)];rfl
  rw[this];exact k h' tk kp
 have hl:=ri.length;have TT:=a1O I hI ri;obtain⟨T,t1,t2,t3,t4⟩:=T8 ri hI.1;refine a0P hcol TT hw (by rw[List.length_map];omega) λh1 h' os c tk k1 k2 e hp hs=>?_;obtain⟨T',p1,p2⟩:=R0 (f:=λt:Value×V×List Int=>t.1) hp t1.symm;have I1:=I.kept (t':=tk) k1;have hT:∀t∈T',RelV t.2.1 t.1/\IT H t.2.1 t.2.2/\B9 s.heap t.1=t.2.2:=λt ht=>by
  obtain⟨i,hi⟩:=List.mem_iff_getElem?.mp (p1.mem_iff.mp ht);obtain⟨r1,r2,r3⟩:=t4 i t hi;obtain⟨row,q1,q2⟩:=hI.2 i _ r2;rw[r3]at q1;cases q1;have e5:(ts.map λx=>Value.ref x.2.1)[i]?=some t.1:=by rw[<-t1,List.getElem?_map,hi];rfl
  obtain⟨r',b,its',f1,f2,f3,f4⟩:=TT.2 i _ e5;rw[r3]at f1;cases f1;exact⟨r1,q2,by rw[f2];exact B7 f3 f4⟩
 have hzl:(T'.map (·.2.1)).length<=sizeLine:=by
  have e6:=(p1.map (λt:Value×V×List Int=>t.2.1)).length_eq;rw[t2]at e6;simp only[List.length_map]at e6⊢;omega
 have hv:Vals (T'.map (·.2.1)) os:=by rw[<-p2];exact N6 λt ht=>(hT t ht).1
 have I2:=I1.laid (h':=h') (a:=h1.objs.size) (o:=.lst (T'.map (·.2.1))) (t':=tk) k2 (Nat.le_refl _) ⟨hzl,os,c,hv,e⟩;refine⟨.ref h1.objs.size,_,I2,rfl,q _ _ (T'.map (·.2.2)) (I1.hok.fresh (Nat.le_refl _)) ⟨by rw[List.length_map,List.length_map],λi v ei=>?_⟩ (by rw[<-t3];exact p1.map _) ?_⟩
 .rw[List.getElem?_map]at ei⊢;cases e2:T'[i]? with
  |none=>rw[e2]at ei;cases ei
  |some t =>
   rw[e2]at ei;cases ei;exact⟨t.2.2,rfl,(hT t (List.mem_of_getElem? e2)).2.1⟩
 .unfold J7;rw[List.pairwise_map];rw[<-p2,List.pairwise_map]at hs;refine hs.imp_of_mem λ{x y} hx hy hxy=>?_;rw[(hT x hx).2.2,(hT y hy).2.2]at hxy;exact hxy
end
end L2
namespace L2
open PySem PySem.Spec PyProof.Rows
variable {X:Cx}
end L2
namespace L2
open PySem PySem.Spec PyProof.Rows PySem.W
section
variable {prog:Program}{w:World}{A:Around}{E:Value->Shared->Prop}{s:Shared}{d:Addr}{ep:Nat}{es:Array DictEntry}
theorem b0L{Q:Value->Shared->Prop}(hs:(d==sysModules)=false)(D:DRaw s.heap d es ep)(hz:(es.size:Int)<2 ^ 63)
  (q:Q (.int es.size (s.toks+1)) {s with toks:=s.toks+1+1}):wpAny (model prog w) A (call (.builtin "len") [.ref d]) Q E s:=by
 refine Calls.call_function_entry kind_len plain_len entry_len (args_len1 _) ?_;have ty:=D.typ;obtain⟨ob,e1,_,e3⟩:=D;unfold Builtin.«len»;refine wpAny_bind (m:=oneArg "len" _) (wpAny_pure ?_);refine wpAny_bind (m:=callSpecial? (.ref d) (Str.ofString "__len__")) (wpAny_callSpecial?_slot (name:=Str.ofString "__len__") ty PySem.F.slot_dict_len (wpAny_call_entry PySem.F.slot_dict_len ty PySem.F.entry_dict_len ?body (PySem.F.args_dict_len_1 _)))
 case body =>
  show wpAny _ _ (dictSize d>>=λn=>_) _ _ _;unfold dictSize;refine wpAny_bind (wpAny_bind (wpAny_dictEntries e1 e3 (wpAny_pure ?_)));show wpAny _ _ (Builtin.Dict.pendingCount d>>=λn=>_) _ _ _;refine wpAny_bind (wpAny_pendingCount_other hs (wpAny_ret_mkInt ?_));show wpAny _ _ _ _ _ {s with toks:=s.toks+1};rw[show((es.size:Nat):Int)+((0:Nat):Int)=(es.size:Int) by simp];refine wpAny_bind (wpAny_holding (wpAny_pure (wpAny_bind (wpAny_letGo ?_))));show wpAny _ _ (if ((es.size:Nat):Int)<0 then _ else _) _ _ _;rw[if_neg (by omega)];show wpAny _ _ (if ((es.size:Nat):Int) ≥ 2 ^ 63 then _ else _) _ _ _;rw[if_neg (by omega)];exact wpAny_bind (wpAny_mkInt (wpAny_pure ⟨_,rfl,q⟩))
end
def b2E:RL:=λxs H Q=>∃(a:Addr) (kvs:List (List Key×V)),xs=[V.ref a]/\H a=some (.dT kvs)/\Q (.int kvs.length) H
section
variable {X:Cx}
theorem a7E:C8 X (.builtin "len") b2E:=by
 intro pins s σ H xs us Q I r h;obtain⟨a,kvs,rfl,ha,q⟩:=h;obtain⟨u,rfl,ru⟩:=r.one;cases ru;obtain⟨hz,hsys,ts,kt,ob,es,ep,e1,e2,e3,e4,e5⟩:=I.hok _ _ ha;have hkl:kvs.length=ts.length:=Paired.length kt;have esz:es.size=ts.length:=by rw[<-Array.length_toList,e4,List.length_map]
 have hz':=hz;rw[sizeLine_eq]at hz';refine b0L hsys ⟨ob,e1,e2,e3⟩ (by omega) ?_;rw[esz,<-hkl];exact⟨.int kvs.length,H,I.tok _,⟨_,rfl⟩,q⟩
variable {a b c e o i value:Expr}{es rest:List Expr}{ta tb tc te to td ty tv:TE}{t:TA}{pos p apos cpos p2 pos' tpos:Pos}
theorem a6o(hg:Gl X "len")(hm:X.mg "len"=none)(ha:JA X [e] t)(he:starEach [e] X.env=(false,eval e X.env)::starEach [] X.env:=by rfl)(hpl:(backTo pos (starEach [] X.env)).any (·.1)=false:=by rfl):JE X (.Call (.Name "len" p) [e] [] pos) (tCB b2E t):=⟨C9 a7E hg hm a5y ha.h (by decide) (by decide) he hpl⟩
theorem a9B(hg:Gl X "sorted")(hm:X.mg "sorted"=none)(ha:JA X [e] t)(hc:X.calm=true:=by rfl)(he:starEach [e] X.env=(false,eval e X.env)::starEach [] X.env:=by rfl)(hpl:(backTo pos (starEach [] X.env)).any (·.1)=false:=by rfl):JE X (.Call (.Name "sorted" p) [e] [] pos) (tCB a8F t):=⟨C9 (a5s hc) hg hm a0u ha.h (by decide) (by decide) he hpl⟩
theorem b5P(hu:X.A.units+60<cLine)(hi:JE X i ty)(ho:JE X o td)(hm:behindInMarks .In o=false):JE X (.Compare i [.In] [o] pos) (b4Z ty td):=⟨b3O (b3R (by omega) hi.h ho.h) hm⟩
theorem a7k(hu:X.A.units+60<cLine)(hi:JE X i ty)(ho:JE X o td)(hm:behindInMarks .NotIn o=false):JT X (.Compare i [.NotIn] [o] pos) (tB (a5L ty td)):=⟨b3w (a6T (by omega) hi.h ho.h) hm⟩
theorem b1K(hu:X.A.units+60<cLine)(ho:JE X o td)(hi:JE X i ty)(hv:JE X value tv)(hs:swapsWith value (some (.Subscript o i pos')) pos.line X.env=pure false:=by rfl):JS X (.Assign [.Subscript o i pos'] value pos) (b2w td ty tv):=⟨b0Y (by omega) ho.h hi.h hv.h hs⟩
theorem T5(K:PySem.W.Frag){f:Str}(he:JE X e ta)(hK:X.K=K:=by rfl)(hb:attributeBase e f X.env (eval e X.env)=eval e X.env:=by rfl):JE X (.Attribute e f pos) (b4Y K ta f):=by
 subst hK;exact⟨b3N he.h hb⟩
theorem a5e(K:PySem.W.Frag){f:Str}(ha:JE X o ta)(hv:JE X value tv)(hK:X.K=K:=by rfl)(hs:swapsWith value (some (.Attribute o f pos')) pos.line X.env=pure false:=by rfl):JS X (.Assign [.Attribute o f pos'] value pos) (b5a K ta tv f):=by
 subst hK;exact⟨b3A ha.h hv.h hs⟩
end
structure MethOk(P:Program)(w:World)(K:PySem.W.Frag)(mg:Str->Option Value)(base:Heap)(C:Addr)(m:Str)(k:Nat)(ps:List Str)(sp:Sp):Prop where
 ex:∃f fd,Meth K C m f/\Binds K fd ps []/\FnOk P w K mg base CX0 k f fd ps sp
structure MethAt(K:PySem.W.Frag)(C:Addr)(m qual:Str)(st:Stmt)(ps:List Str):Prop where
 ex:∃f fd,Meth K C m f/\Fun K m qual st f fd/\Binds K fd ps []
structure MakeOk(P:Program)(w:World)(K:PySem.W.Frag)(mg:Str->Option Value)(base:Heap)(x:Str)(C:Addr)(k:Nat)(ps:List Str)(sp:Sp):Prop where
 ex:∃f fd,mg x=some (.ref C)/\Mk K C f/\Binds K fd ps []/\FnOk P w K mg base CX0 k f fd ps sp
section
variable {P:Program}{w:World}{K:PySem.W.Frag}{mg:Str->Option Value}{base:Heap}{C:Addr}{m qual:Str}{st:Stmt}{N ps:List Str}{k:Nat}{sp:Sp}
theorem MethAt.fnJ(F:MethAt K C m qual st ps)(S:FnScope N ps (A2 st))(len:∀vs H Q E,sp vs H Q E->vs.length=ps.length)
  (hbody:∀(cdv:Value) (f:Addr) (A:Around) (outer:List Env) (s:Shared) (H:Hp) (vs:List V) (Q:VK) (E:XK),Room k (A.deeper (envOfC qual (A2 st) s.heap.objs.size f cdv))->sp vs H Q E ->
   ∃t,JB (G2 CX0 P w K mg base N qual (A2 st) f cdv A outer s H E).nox (D9 st) t/\t {nx:=λ_ H'=>Q .non H',rt:=Q} (start N vs) H):MethOk P w K mg base C m (k+1) ps sp:=by
 obtain⟨f,fd,h1,h2,h3⟩:=F.ex;exact⟨f,fd,h1,h3,h2.okJ S len λcdv=>hbody cdv f⟩
theorem MethOk.make{x:Str}(O:MethOk P w K mg base C "__init__" k ps sp)(hx:mg x=some (.ref C))(hm:PySem.W.makesIn K C=true)(hk:PySem.W.keepIn K (.ref C)=true):MakeOk P w K mg base x C k ps sp:=by
 obtain⟨f,fd,h1,h2,h3⟩:=O.ex;exact⟨f,fd,hx,⟨hm,h1.at_,h1.fn,hk⟩,h2,h3⟩
end
section
variable {X:Cx}{C:Addr}{m x:Str}{k:Nat}{ps:List Str}{sp:Sp}{o e:Expr}{es:List Expr}{ta:TE}{t:TA}{pos apos p:Pos}
theorem a3i{pl:Sem Bool}(O:MethOk X.prog X.w X.K X.mg X.base C m k ps sp)(c:Cls X.K C)(hr:Room k X.A)(he:JE X o ta)(ha:JA X (e::es) t)
  (hst:starEach (e::es) X.env=(false,eval e X.env)::starEach es X.env:=by rfl) (hpl:(backTo pos (starEach es X.env)).any (·.1)=false:=by rfl)
  (ht:eval (.Call (.Attribute o m apos) (e::es) [] pos) X.env=(eval o X.env>>=λov=>standAt apos.atName>>=λ_=>holding [ov] (getMethod ov m pl)>>=λp=>match p with | (f,first)=>callWith pos f first (backTo pos (starEach (e::es) X.env)) (backToKw pos (keywordEach [] X.env))):=by rfl) :
  JE X (.Call (.Attribute o m apos) (e::es) [] pos) (a8j C m sp [] E0 ta t):=by
 obtain⟨f,fd,h1,h2,h3⟩:=O.ex;exact⟨a6a (pl:=pl) he.h c h1 h3 hr h2 .nil a8Y ha.h hst hpl ht⟩
theorem b4s(O:MakeOk X.prog X.w X.K X.mg X.base x C k ps sp)(hr:Room (k+1) X.A)(hg:Gl X x)(ha:JA X (e::es) t)(hdb:(x==("__debug__" : Str))=false:=by decide)
  (he:starEach (e::es) X.env=(false,eval e X.env)::starEach es X.env:=by rfl) (hpl:(backTo pos (starEach es X.env)).any (·.1)=false:=by rfl) :
  JE X (.Call (.Name x p) (e::es) [] pos) (b2o C sp [] E0 t):=by
 obtain⟨f,fd,h0,h1,h2,h3⟩:=O.ex;exact⟨b1k h1 h3 hr hg h0 h2 .nil a8Y ha.h hdb he hpl⟩
end
end L2
namespace L2
open PySem PySem.Spec PyProof.Rows
section
variable {X:Cx}{k:Nat}{ps:List Str}{sp:Sp}{x y:Str}{p pos cpos pos' ip sp':Pos}{e:Expr}{es:List Expr}{t:TA}{i:Nat}{z:Int}{jj:Nat}
end
end L2
section
open PySem PyProof.Rows
end
namespace L2
open PySem PySem.Spec PyProof.Rows
section
variable {X:Cx}
variable {o e:Expr}{es:List Expr}{to:TE}{t:TA}{pos apos cpos:Pos}
end
end L2
namespace L2
theorem b5N{α:Type}{us:List α}(h:us.length=0):us=[]:=List.length_eq_zero_iff.mp h
theorem a7h{α:Type}{us:List α}(h:us.length=1):∃a,us=[a]:=by
 cases us with
 |nil=>cases h
 |cons a us=>exact⟨a,by rw[b5N (us:=us) (Nat.succ.inj h)]⟩
theorem Z9{α:Type}{us:List α}(h:us.length=2):∃a b,us=[a,b]:=by
 cases us with
 |nil=>cases h
 |cons a us=>obtain⟨b,e⟩:=a7h (us:=us) (Nat.succ.inj h);exact⟨a,b,by rw[e]⟩
theorem a2c{α:Type}{us:List α}(h:us.length=3):∃a b c,us=[a,b,c]:=by
 cases us with
 |nil=>cases h
 |cons a us=>obtain⟨b,c,e⟩:=Z9 (us:=us) (Nat.succ.inj h);exact⟨a,b,c,by rw[e]⟩
theorem a9q{α:Type}{us:List α}(h:us.length=4):∃a b c d,us=[a,b,c,d]:=by
 cases us with
 |nil=>cases h
 |cons a us=>obtain⟨b,c,d,e⟩:=a2c (us:=us) (Nat.succ.inj h);exact⟨a,b,c,d,by rw[e]⟩
theorem b5s{α:Type}{us:List α}(h:us.length=5):∃a b c d e,us=[a,b,c,d,e]:=by
 cases us with
 |nil=>cases h
 |cons a us=>obtain⟨b,c,d,e,q⟩:=a9q (us:=us) (Nat.succ.inj h);exact⟨a,b,c,d,e,by rw[q]⟩
section
open PySem PySem.Spec PyProof.Rows PySem.W
abbrev FnL(K:PySem.W.Frag)(f:Addr)(nm qn:Str)(st:Stmt)(oc:Value)(od:Option Addr)(sl:Array (Option Value))(kV dc pm:Value)(an:Option Addr)(cd ct:Value):Prop:=K.lookup f=some ⟨oc,od,.func (PySem.W.fnOf nm qn (O4 st) (D9 st) (A2 st) .none kV dc pm an cd ct),sl⟩
variable {K:PySem.W.Frag}{h:Heap}{mg:Str->Option Value}{x qn:Str}{st:Stmt}{f:Addr}{od an:Option Addr}{sl:Array (Option Value)}{oc kV dc pm cd ct:Value}{C:Addr}{m:Str}
theorem D5(X:K.In h)(G:h.Ns mainGlobals mg)(a:nsIn K mainGlobals x=some (some (.ref f)))(l:FnL K f x x st oc od sl kV dc pm an cd ct)(c:codeIn K cd x=true)(k:keepIn K (.ref f)=true){ps:List Str}
  (hb:∀(kV doc pm:Value) (an:Option Addr) (cdv ct:Value) (us:List Value),us.length=ps.length->bindArgs (fnOf x x (O4 st) (D9 st) (A2 st) .none kV doc pm an cdv ct) ⟨us,[]⟩=pure (ps.zip us)):FunAt K mg x st ps:=⟨f,_,mg_of X G a,a1R (st:=st) l c k,(a1R (st:=st) l c k).binds hb⟩
theorem a1C(a:findIn K (.ref C) m=some (some (.ref f)))(i:isFn K (.ref f)=true)(l:FnL K f m qn st oc od sl kV dc pm an cd ct)(c:codeIn K cd qn=true)(k:keepIn K (.ref f)=true){ps:List Str}
  (hb:∀(kV doc pm:Value) (an:Option Addr) (cdv ct:Value) (us:List Value),us.length=ps.length->bindArgs (fnOf m qn (O4 st) (D9 st) (A2 st) .none kV doc pm an cdv ct) ⟨us,[]⟩=pure (ps.zip us)):MethAt K C m qn st ps:=⟨f,_,⟨a,i,k⟩,a1R (st:=st) l c k,(a1R (st:=st) l c k).binds hb⟩
end
section
open PySem PySem.Spec PyProof.Rows PySem.W
variable {K:PySem.W.Frag}{h:Heap}{mg:Str->Option Value}{x nm qn:Str}{C N:Addr}{bs bm sub bmB above:List Value}{hd ab:Bool}{sn:List Str}{col:Option Bool}{dd:Option Addr}{k0 k1 k2 k3 k5:Option Value}{newId:String}
end
inductive Ex1{α0:Type}(p:α0->Prop):Prop
 |mk (a0:α0) (h:p a0):Ex1 p
inductive Ex2{α0 α1:Type}(p:α0->α1->Prop):Prop
 |mk (a0:α0) (a1:α1) (h:p a0 a1):Ex2 p
inductive Ex3{α0 α1 α2:Type}(p:α0->α1->α2->Prop):Prop
 |mk (a0:α0) (a1:α1) (a2:α2) (h:p a0 a1 a2):Ex3 p
inductive Ex4{α0 α1 α2 α3:Type}(p:α0->α1->α2->α3->Prop):Prop
 |mk (a0:α0) (a1:α1) (a2:α2) (a3:α3) (h:p a0 a1 a2 a3):Ex4 p
inductive Ex5{α0 α1 α2 α3 α4:Type}(p:α0->α1->α2->α3->α4->Prop):Prop
 |mk (a0:α0) (a1:α1) (a2:α2) (a3:α3) (a4:α4) (h:p a0 a1 a2 a3 a4):Ex5 p
inductive Ex6{α0 α1 α2 α3 α4 α5:Type}(p:α0->α1->α2->α3->α4->α5->Prop):Prop
 |mk (a0:α0) (a1:α1) (a2:α2) (a3:α3) (a4:α4) (a5:α5) (h:p a0 a1 a2 a3 a4 a5):Ex6 p
inductive Ex8{α0 α1 α2 α3 α4 α5 α6 α7:Type}(p:α0->α1->α2->α3->α4->α5->α6->α7->Prop):Prop
 |mk (a0:α0) (a1:α1) (a2:α2) (a3:α3) (a4:α4) (a5:α5) (a6:α6) (a7:α7) (h:p a0 a1 a2 a3 a4 a5 a6 a7):Ex8 p
inductive An2(a0 a1:Prop):Prop
 |mk (h0:a0) (h1:a1):An2 a0 a1
inductive An3(a0 a1 a2:Prop):Prop
 |mk (h0:a0) (h1:a1) (h2:a2):An3 a0 a1 a2
inductive An4(a0 a1 a2 a3:Prop):Prop
 |mk (h0:a0) (h1:a1) (h2:a2) (h3:a3):An4 a0 a1 a2 a3
inductive An5(a0 a1 a2 a3 a4:Prop):Prop
 |mk (h0:a0) (h1:a1) (h2:a2) (h3:a3) (h4:a4):An5 a0 a1 a2 a3 a4
inductive An6(a0 a1 a2 a3 a4 a5:Prop):Prop
 |mk (h0:a0) (h1:a1) (h2:a2) (h3:a3) (h4:a4) (h5:a5):An6 a0 a1 a2 a3 a4 a5
inductive An7(a0 a1 a2 a3 a4 a5 a6:Prop):Prop
 |mk (h0:a0) (h1:a1) (h2:a2) (h3:a3) (h4:a4) (h5:a5) (h6:a6):An7 a0 a1 a2 a3 a4 a5 a6
inductive An8(a0 a1 a2 a3 a4 a5 a6 a7:Prop):Prop
 |mk (h0:a0) (h1:a1) (h2:a2) (h3:a3) (h4:a4) (h5:a5) (h6:a6) (h7:a7):An8 a0 a1 a2 a3 a4 a5 a6 a7
end L2
namespace L2
namespace Tab
open PySem
def gI:Nat->Nat->Nat
 |0,x=>x
 |n+1,x=>5*gI n x+1
def gS:Nat->Nat
 |0=>0
 |n+1=>5*gS n+1
abbrev Pr:=SetTable.Probe
noncomputable def adv(mask:Nat)(p:Pr):Pr :=
 if p.more > 0 then {p with j:=p.j+1,more:=p.more-1} else
 {p with j:=(SetTable.leap mask p.i p.perturb).1,more:=SetTable.runEnd mask (SetTable.leap mask p.i p.perturb).1-(SetTable.leap mask p.i p.perturb).1,i:=(SetTable.leap mask p.i p.perturb).1,perturb:=(SetTable.leap mask p.i p.perturb).2}
noncomputable def b4T(mask:Nat)(p:Pr):Nat->Pr
 |0=>p
 |n+1=>adv mask (b4T mask p n)
noncomputable def b5J(mask i pt:Nat):Pr:={j:=i,more:=SetTable.runEnd mask i-i,i,perturb:=pt,dummy:=none}
noncomputable def st0(mask:Nat)(h:Int):Pr:=b5J mask (SetTable.bits h % (mask+1)) (SetTable.bits h)
noncomputable def pos(mask:Nat)(h:Int)(n:Nat):Nat:=(b4T mask (st0 mask h) n).j
def Ris(xs:Array Nat):Prop:=∀a b:Nat,a<b->b<xs.size->xs.getD a 0<xs.getD b 0
structure TabOk{α:Type}(t:SetTable)(es:Array (Int×α)):Prop where
 size:t.place.size=es.size
 dum:t.dummies=#[]
 ris:Ris t.place
 le:∀j∈t.place,j<=t.mask
 pow:∃k,3<=k/\t.mask+1=2 ^ k
 room:es.size<=t.mask
 reach:∀(i j:Nat) (e:Int×α),t.place[i]?=some j->es[i]?=some e->∃n,pos t.mask e.1 n=j/\∀m,m<n->pos t.mask e.1 m∈t.place
noncomputable def fr(owner:Array (Option Nat))(j:Nat):Bool:=(owner.getD j (some 0)).isNone
structure Lay(mask:Nat)(owner:Array (Option Nat))(hs:List Int):Prop where
 size:owner.size=mask+1
 val:∀j q:Nat,owner[j]?=some (some q)->∃h,hs[q]?=some h/\∃n,pos mask h n=j/\∀m,m<n->fr owner (pos mask h m)=false
 ex:∀q,q<hs.length->∃j:Nat,owner[j]?=some (some q)
 uniq:∀j j' q:Nat,owner[j]?=some (some q)->owner[j']?=some (some q)->j=j'
end Tab
end L2
namespace L2
namespace Tab
open PySem
section
variable {prog:Program}{w:World}{A:Around}{E:Value->Shared->Prop}{s:Shared}
abbrev TK(prog:Program)(w:World)(h:Heap)(r:List Int)(a:Addr):Prop:=IsTupleKey (intKind prog w) h r a
theorem items_int{r:List Int}{vs:List Value}(h:ItemsAre (intKind prog w) r vs):∀v∈vs,∃i t,v=.int i t:=by
 induction h with
 |nil=>intro v hv;cases hv
 |@cons k v ks vs h1 _ ih =>
  intro u hu;rcases List.mem_cons.mp hu with e|hu
  .obtain⟨t,ht⟩:=Value.isInt_shape h1;exact⟨k,t,e.trans ht⟩
  .exact ih u hu
noncomputable def hsh(prog:Program)(w:World)(r:List Int):Int:=tupleKeyHash (intKind prog w) r
noncomputable def ent(prog:Program)(w:World)(x:List Int×Addr):Int×Value:=(hsh prog w x.1,Value.ref x.2)
theorem fits_of{α:Type}{t:SetTable}{es:Array (Int×α)}(ok:TabOk t es):t.fits es.size=true:=by
 unfold SetTable.fits SetTable.fill;have:=ok.room;simp[ok.size,ok.dum,this]
end
end Tab
end L2
namespace L2
namespace Tab
open PySem
section
variable {prog:Program}{w:World}{A:Around}{R:Result->Shared->Prop}{I:Addr}{fp wr:List Addr}{G:Array GenState->Array GenState->Prop}{n:Nat}{P:Nat->Value->Prop}{St:Nat->Shared->Prop}
end
section
variable {prog:Program}{w:World}{A:Around}{E:Value->Shared->Prop}{s:Shared}
end
end Tab
end L2
namespace L2
namespace Tab
open PySem PySem.W
section
variable {prog:Program}{w:World}{A:Around}{E:Value->Shared->Prop}{s:Shared}{a it:Addr}{es:Array (Int×Value)}{ep i:Nat}{t:SetTable}
end
end Tab
end L2
namespace L2
open PySem PySem.Spec PyProof.Rows PySem.W Tab
section
variable {X:Cx}
variable {e:Expr}{es:List Expr}{t:TA}{p pos:Pos}
end
end L2
namespace L2
open PySem PySem.Spec PyProof.Rows
section
variable {X:Cx}{a b:Expr}{ta tb:TE}{pos:Pos}
end
theorem Its.app{H:Hp}{vs ws:List V}{rss qss:LLI}(h:Its H vs rss)(g:Its H ws qss):Its H (vs++ws) (rss++qss):=by
 refine⟨by rw[List.length_append,List.length_append,h.1,g.1],λi v e=>?_⟩;rcases Nat.lt_or_ge i vs.length with hi|hi
 .rw[List.getElem?_append_left hi]at e;rw[List.getElem?_append_left (by rw[<-h.1];exact hi)];exact h.2 i v e
 .rw[List.getElem?_append_right hi]at e;rw[List.getElem?_append_right (by rw[<-h.1];exact hi),<-h.1];exact g.2 _ v e
theorem Its.one{H:Hp}{v:V}{r:List Int}(h:IT H v r):Its H [v] [r]:=Its.nil.snoc h
section
open PySem.SeqAt
open PySem.AutoSeq1 (wpAny_loadPart')
open PySem.MeetsSeq PySem.MeetsSeq2 PySem.MeetsSeq3
end
section
variable {X:Cx}{pins:List (Addr×Obj)}{σ:St}{H:Hp}{s:Shared}
end
section
variable {prog:Program}{w:World}{A:Around}{I l S:Addr}{vs:List Value}{kw:List (Str×Value)}{R:Result->Shared->Prop}{h₀:Heap}{s:Shared}
def C7(h h':Heap):Prop:=∀b o,h.get? b=some o->h'.get? b=some o
end
section
variable {prog:Program}{w:World}{A:Around}{E:Value->Shared->Prop}{s:Shared}
theorem a0d{id:String}{b:Builtin}{args:List Value}{kw:List (Str×Value)}{Q:Value->Shared->Prop}(hk:builtinKind id=none)(hp:plainId id=true)
  (hb:entryFor table id=some b) (ha:argsOk id ⟨args,kw⟩)
  (hc:wpAny (model prog w) A.in1 (b ⟨args,kw⟩) (λfin s'=>match fin with
   |.done f=>(match (Except.ok f:Result)with | .ok (.ret v)=>Q v s' | .ok _=>False | .error e=>E e s')
   |.again c'=>c'.quiet=true/\codeAny (model prog w) A c' (λr s'=>match r with | .ok (.ret v)=>Q v s' | .ok _=>False | .error e=>E e s') s') E s) :
  wpAny (model prog w) A (call (.builtin id) args kw) Q E s:=by
 refine wpAny_call (codeAny_call_builtin hp hb ?_);simp only[checkBuiltinCall,hk];cases hsig:Manifest.signature? id with
 |none=>exact wpAny_pure hc
 |some sig =>
  have ha':Bind.checkArgs id sig ⟨args,kw⟩=pure ():=by simpa only[argsOk,hsig]using ha
  simp only[ha'];exact wpAny_pure hc
end
section
variable {X:Cx}{e:Expr}{t:TA}{p pos kp np:Pos}{nk:Nat}
end
section
variable {X:Cx}{e:Expr}{te:TE}{pos p2:Pos}
end
section
variable {prog:Program}{w:World}{A:Around}{I l S:Addr}{vs:List Value}{kw:List (Str×Value)}{R:Result->Shared->Prop}{h₀:Heap}{s:Shared}
theorem a7f(bt:Nat->Nat->Bool)(hh:A.handled=none)(hlI:l≠I)(hSI:S≠I)(hIn:h₀.get? I=none)(hSn:h₀.get? S=none)(hl:h₀.IsList l vs.toArray)
  (hcmp:∀(h:Heap) (tk:Nat) (i j:Nat) (vi vj:Value) (Q E:Value->Shared->Prop),C7 h₀ h->vs[i]?=some vi->vs[j]?=some vj->Q (.bool (bt i j)) {s with heap:=h,toks:=tk}->wpAny (model prog w) A.in1 (richCompare .Gt vi vj) Q E {s with heap:=h,toks:=tk})
  (hR:∀v h' tk,vs[argBest bt (vs.length-1)]?=some v->C7 h₀ h'->R (.ok (.ret v)) {s with heap:=h',toks:=tk}) :
  ∀(k j:Nat) (h:Heap) (t:Nat) (vb:Value) (c:Nat),vs.length-(j+1)=k->j+1<=vs.length->h.IsListIter I l (j+1)->C7 h₀ h->vs[argBest bt j]?=some vb->h.get? S=some {cls:=.type "list",dict:=none,data:=.seq #[vb,vb] c,slots:=#[]} ->
   codeAny (model prog w) A (.builtin "max.loop" ⟨[.ref I,.none,.ref S],kw⟩) R {s with heap:=h,toks:=t}:=by
 have hname:(toString "max" ++ toString ".loop" : String)="max.loop":=by decide
 have W:=Walks.list (prog:=prog) (w:=w) (A:=A.in1) hh I l hlI vs.toArray;have hsz:vs.toArray.size=vs.length:=List.size_toArray ..;have gI:∀{h h':Heap},C7 h₀ h->(∀b o,b∉[I]->h.get? b=some o->h'.get? b=some o)->C7 h₀ h':=λg hk b o e=>hk b o (λz=>by rw[List.mem_singleton.mp z,hIn]at e;cases e) (g b o e);have gS:∀{h:Heap}{f:Obj->Obj},C7 h₀ h->C7 h₀ (h.update S f):=λg b o e=>(Heap.get?_update_other _ _ (λz=>by rw[<-z,hSn]at e;cases e)).trans (g b o e);have lst:∀{h:Heap},C7 h₀ h->h.IsList l vs.toArray:=λg=>by
  obtain⟨o,h1,h2⟩:=id hl;exact⟨o,g _ _ h1,h2⟩
 intro k;induction k with
 |zero =>
  intro j h t vb c hk hj hst g hPb hS;have hin:j+1=vs.length:=by omega
  refine codeAny_builtin PySem.F.entry_max_loop ?_;rw[Around.under_plainId PySem.F.plain_max_loop _];show wpAny _ A.in1 (seqItems? (.ref S)>>=_) _ _ _;refine wpAny_bind (wpAny_seqItems hS rfl ?_);show wpAny _ A.in1 (tryCatch (pyNext (.ref I)) _>>=_) _ _ _;refine wpAny_bind (wpAny_tryCatch (W.done _ _ _ ⟨by rw[hsz,<-hin];exact hst,lst g⟩ λh' tk hk'=>?_));have hS':=hk' S _ (by simpa using hSI) hS;show wpAny _ A.in1 (updateSeq S (λ_=>#[])>>=_) _ _ _;refine wpAny_bind ?_;refine wpAny_updateSeq hS' rfl (wpAny_bind (wpAny_letGo (wpAny_pure ?_)));exact hR vb _ tk (by rw[<-hin];exact hPb) (gS (gI g hk'))
 |succ k ih =>
  intro j h t vb c hk hj hst g hPb hS;have hlt:j+1<vs.length:=by omega
  refine codeAny_builtin PySem.F.entry_max_loop ?_;rw[Around.under_plainId PySem.F.plain_max_loop _];show wpAny _ A.in1 (seqItems? (.ref S)>>=_) _ _ _;refine wpAny_bind (wpAny_seqItems hS rfl ?_);show wpAny _ A.in1 (tryCatch (pyNext (.ref I)) _>>=_) _ _ _;refine wpAny_bind (wpAny_tryCatch (W.item (j+1) _ _ _ (by rw[hsz];exact hlt) ⟨hst,lst g⟩ λv h' tk hP hst' hk'=>?_));have hv:vs[j+1]?=some v:=by simpa using hP
  have hS':=hk' S _ (by simpa using hSI) hS;have g':=gI g hk';show wpAny _ A.in1 (tryCatch (holding [v,v] (richCompare .Gt v vb>>=_)) _>>=_) _ _ _;refine wpAny_bind (wpAny_tryCatch (wpAny_holding (wpAny_bind (hcmp _ _ (j+1) (argBest bt j) v vb _ _ g' hv hPb ?_))));refine wpAny_bind (wpAny_holding (wpAny_truthy_bool ?_));refine wpAny_bind (wpAny_letGo (wpAny_pure ?_));cases hb:bt (j+1) (argBest bt j)with
  |true =>
   simp only[if_true];refine wpAny_bind ?_;refine wpAny_updateSeq hS' rfl (wpAny_bind (wpAny_letGo ?_));rw[hname];obtain⟨oI,hoI,hoc,hod⟩:=id hst'.1;refine wpAny_pure ⟨plainId_quiet PySem.F.plain_max_loop _,ih (j+1) _ _ v _ (by omega) hlt ⟨oI,(Heap.get?_update_other _ _ hSI).trans hoI,hoc,hod⟩ (gS g') (by simp only[argBest,hb,if_true];exact hv) (Heap.get?_update_self _ hS' rfl)⟩
  |false =>
   simp only[Bool.false_eq_true,if_false];refine wpAny_bind (wpAny_letGo ?_);rw[hname];refine wpAny_pure ⟨plainId_quiet PySem.F.plain_max_loop _,ih (j+1) _ _ vb c (by omega) hlt hst'.1 g' (by simp only[argBest,hb,Bool.false_eq_true,if_false];exact hPb) hS'⟩
theorem a7e(L:Nat->Int)(hh:A.handled=none)(hlI:l≠I)(hSI:S≠I)(hIn:h₀.get? I=none)(hSn:h₀.get? S=none)(hl:h₀.IsList l vs.toArray)
  (hkey:∀(h:Heap) (tk:Nat) (i:Nat) (vi:Value) (Q E:Value->Shared->Prop),C7 h₀ h->vs[i]?=some vi->(∀t tk2,Q (.int (L i) t) {s with heap:=h,toks:=tk2})->wpAny (model prog w) A.in1 (call (.builtin "len") [vi]) Q E {s with heap:=h,toks:=tk})
  (hR:∀v h' tk,v∈vs->C7 h₀ h'->R (.ok (.ret v)) {s with heap:=h',toks:=tk}) :
  ∀(k j:Nat) (h:Heap) (t:Nat) (vb:Value) (nb:Int) (tb:Tok) (c:Nat),vs.length-(j+1)=k->j+1<=vs.length->h.IsListIter I l (j+1)->C7 h₀ h->vb∈vs->h.get? S=some {cls:=.type "list",dict:=none,data:=.seq #[vb,.int nb tb] c,slots:=#[]} ->
   codeAny (model prog w) A (.builtin "min.loop" ⟨[.ref I,.builtin "len",.ref S],kw⟩) R {s with heap:=h,toks:=t}:=by
 have hname:(toString "min" ++ toString ".loop" : String)="min.loop":=by decide
 have W:=Walks.list (prog:=prog) (w:=w) (A:=A.in1) hh I l hlI vs.toArray;have hsz:vs.toArray.size=vs.length:=List.size_toArray ..;have gI:∀{h h':Heap},C7 h₀ h->(∀b o,b∉[I]->h.get? b=some o->h'.get? b=some o)->C7 h₀ h':=λg hk b o e=>hk b o (λz=>by rw[List.mem_singleton.mp z,hIn]at e;cases e) (g b o e);have gS:∀{h:Heap}{f:Obj->Obj},C7 h₀ h->C7 h₀ (h.update S f):=λg b o e=>(Heap.get?_update_other _ _ (λz=>by rw[<-z,hSn]at e;cases e)).trans (g b o e);have lst:∀{h:Heap},C7 h₀ h->h.IsList l vs.toArray:=λg=>by
  obtain⟨o,h1,h2⟩:=id hl;exact⟨o,g _ _ h1,h2⟩
 intro k;induction k with
 |zero =>
  intro j h t vb nb tb c hk hj hst g hPb hS;have hin:j+1=vs.length:=by omega
  refine codeAny_builtin PySem.F.entry_min_loop ?_;rw[Around.under_plainId PySem.F.plain_min_loop _];show wpAny _ A.in1 (seqItems? (.ref S)>>=_) _ _ _;refine wpAny_bind (wpAny_seqItems hS rfl ?_);show wpAny _ A.in1 (tryCatch (pyNext (.ref I)) _>>=_) _ _ _;refine wpAny_bind (wpAny_tryCatch (W.done _ _ _ ⟨by rw[hsz,<-hin];exact hst,lst g⟩ λh' tk hk'=>?_));have hS':=hk' S _ (by simpa using hSI) hS;show wpAny _ A.in1 (updateSeq S (λ_=>#[])>>=_) _ _ _;refine wpAny_bind ?_;refine wpAny_updateSeq hS' rfl (wpAny_bind (wpAny_letGo (wpAny_pure ?_)));exact hR vb _ tk hPb (gS (gI g hk'))
 |succ k ih =>
  intro j h t vb nb tb c hk hj hst g hPb hS;have hlt:j+1<vs.length:=by omega
  refine codeAny_builtin PySem.F.entry_min_loop ?_;rw[Around.under_plainId PySem.F.plain_min_loop _];show wpAny _ A.in1 (seqItems? (.ref S)>>=_) _ _ _;refine wpAny_bind (wpAny_seqItems hS rfl ?_);show wpAny _ A.in1 (tryCatch (pyNext (.ref I)) _>>=_) _ _ _;refine wpAny_bind (wpAny_tryCatch (W.item (j+1) _ _ _ (by rw[hsz];exact hlt) ⟨hst,lst g⟩ λv h' tk hP hst' hk'=>?_));have hv:vs[j+1]?=some v:=by simpa using hP
  have hS':=hk' S _ (by simpa using hSI) hS;have g':=gI g hk';refine wpAny_bind (wpAny_tryCatch (wpAny_holding (hkey _ _ (j+1) v _ _ g' hv λtv tk2=>?_)));refine wpAny_bind (wpAny_tryCatch (wpAny_holding (wpAny_bind (HT.rcLt_int _ _ _ _ _ _ _ _ _ _ ?_))));refine wpAny_bind (wpAny_holding (wpAny_truthy_bool ?_));refine wpAny_bind (wpAny_letGo (wpAny_pure ?_));cases hb:decide (L (j+1)<nb)with
  |true =>
   simp only[if_true];refine wpAny_bind ?_;refine wpAny_updateSeq hS' rfl (wpAny_bind (wpAny_letGo ?_));rw[hname];obtain⟨oI,hoI,hoc,hod⟩:=id hst'.1;refine wpAny_pure ⟨plainId_quiet PySem.F.plain_min_loop _,ih (j+1) _ _ v _ _ _ (by omega) hlt ⟨oI,(Heap.get?_update_other _ _ hSI).trans hoI,hoc,hod⟩ (gS g') (List.mem_of_getElem? hv) (Heap.get?_update_self _ hS' rfl)⟩
  |false =>
   simp only[Bool.false_eq_true,if_false];refine wpAny_bind (wpAny_letGo ?_);rw[hname];refine wpAny_pure ⟨plainId_quiet PySem.F.plain_min_loop _,ih (j+1) _ _ vb nb tb c (by omega) hlt hst'.1 g' hPb hS'⟩
end
section
variable {prog:Program}{w:World}{A:Around}{E:Value->Shared->Prop}{s:Shared}
theorem a0v(a v:Value):argsOk "max" ⟨[a],[(Str.ofString "default",v)]⟩:=by unfold argsOk;kernel_rfl
theorem a3x(a v:Value):argsOk "min" ⟨[a],[(Str.ofString "key",v)]⟩:=by unfold argsOk;kernel_rfl
theorem a8B(A:Around)(s:Shared)(a:Int)(t:Tok)(c:Int)(u:Tok)(prog:Program)(w:World)(E:Value->Shared->Prop)(Q:Value->Shared->Prop)(h:Q (.bool (decide (c<a))) s) :
  wpAny (model prog w) A (richCompare .Gt (.int a t) (.int c u)) Q E s :=
 (PyProof.Rows.gt_int h:wpAny (model prog w) A (compareOp .Gt (.int a t) (.int c u)) Q E s)
theorem a7C{l:Addr}{dv:Value}{vs:List Value}{Q:Value->Shared->Prop}(bt:Nat->Nat->Bool)(hh:A.handled=none)(hl:s.heap.IsList l vs.toArray)
  (hcmp:∀(h:Heap) (tk:Nat) (i j:Nat) (vi vj:Value) (Q E:Value->Shared->Prop),C7 s.heap h->vs[i]?=some vi->vs[j]?=some vj->Q (.bool (bt i j)) {s with heap:=h,toks:=tk}->wpAny (model prog w) A.in1 (richCompare .Gt vi vj) Q E {s with heap:=h,toks:=tk})
  (h0:vs=[]->∀h' tk,C7 s.heap h'->Q dv {s with heap:=h',toks:=tk}) (h1:∀v h' tk,vs[argBest bt (vs.length-1)]?=some v->C7 s.heap h'->Q v {s with heap:=h',toks:=tk}) :
  wpAny (model prog w) A (call (.builtin "max") [.ref l] [(Str.ofString "default",dv)]) Q E s:=by
 have hname:(toString "max" ++ toString ".loop" : String)="max.loop":=by decide
 obtain⟨ol,hol,_⟩:=id hl;have hll:l<s.heap.objs.size:=Heap.lt_size hol;refine a0d PySem.F.kind_max PySem.F.plain_max PySem.F.entry_max (a0v _ _) ?_;show wpAny _ A.in1 (Builtin.Builtins.bindParams "max" ["key","default"] 0 ⟨[],[(Str.ofString "default",dv)]⟩>>=_) _ _ s;refine wpAny_bind (wpAny_of_eq (show Builtin.Builtins.bindParams "max" ["key","default"] 0 ⟨[],[(Str.ofString "default",dv)]⟩=pure [none,some dv] from rfl) ?_);refine wpAny_bind (wpAny_pure ?_);refine wpAny_bind (wpAny_pyIter_list hl ?_);refine wpAny_bind (wpAny_newList ?_ (Nat.zero_le _));rw[hname];have hS:(s.heap.push {cls:=.type "list_iterator",data:=.fields #[.ref l,.int 0 0]}).objs.size=s.heap.objs.size+1:=size_push' ..;have hlI:l≠s.heap.objs.size:=Nat.ne_of_lt hll;have hSI:(s.heap.push {cls:=.type "list_iterator",data:=.fields #[.ref l,.int 0 0]}).objs.size≠s.heap.objs.size:=by rw[hS];exact Nat.ne_of_gt (Nat.lt_succ_self _)
 refine wpAny_pure ⟨plainId_quiet PySem.F.plain_max_loop _,?_⟩;have g0:C7 s.heap ((s.heap.push {cls:=.type "list_iterator",data:=.fields #[.ref l,.int 0 0]}).push (seqObj "list" #[] 0)):=λb x e=>Heap.get?_push_of_some _ (Heap.get?_push_of_some _ e);have gI:((s.heap.push {cls:=.type "list_iterator",data:=.fields #[.ref l,.int 0 0]}).push (seqObj "list" #[] 0)).get? s.heap.objs.size=some {cls:=.type "list_iterator",data:=.fields #[.ref l,.int 0 0]} :=
  Heap.get?_push_of_some _ (Heap.get?_push_size _ rfl)
 have gS:((s.heap.push {cls:=.type "list_iterator",data:=.fields #[.ref l,.int 0 0]}).push (seqObj "list" #[] 0)).get? (s.heap.push {cls:=.type "list_iterator",data:=.fields #[.ref l,.int 0 0]}).objs.size=some (seqObj "list" #[] 0):=Heap.get?_push_size _ rfl;have zI:s.heap.get? s.heap.objs.size=none:=Heap.get?_none_of_le (Nat.le_refl _);have zS:s.heap.get? (s.heap.push {cls:=.type "list_iterator",data:=.fields #[.ref l,.int 0 0]}).objs.size=none:=Heap.get?_none_of_le (by rw[hS];exact Nat.le_succ _);generalize (s.heap.push {cls:=.type "list_iterator",data:=.fields #[.ref l,.int 0 0]}).objs.size=S at hSI gS zS;have W:=Walks.list (prog:=prog) (w:=w) (A:=A.in1) hh s.heap.objs.size l hlI vs.toArray;have hsz:vs.toArray.size=vs.length:=List.size_toArray ..;have lst:∀{h:Heap},C7 s.heap h->h.IsList l vs.toArray:=λg=>by
  obtain⟨o,h1,h2⟩:=id hl;exact⟨o,g _ _ h1,h2⟩
 refine codeAny_builtin PySem.F.entry_max_loop ?_;rw[Around.under_plainId PySem.F.plain_max_loop _];show wpAny _ A.in1 (seqItems? (.ref _)>>=_) _ _ _;refine wpAny_bind (wpAny_seqItems gS rfl ?_);show wpAny _ A.in1 (tryCatch (pyNext (.ref s.heap.objs.size)) _>>=_) _ _ _;have gJ:∀{h h':Heap},C7 s.heap h->(∀b o,b∉[s.heap.objs.size]->h.get? b=some o->h'.get? b=some o)->C7 s.heap h':=λg hk b o e=>hk b o (λz=>by rw[List.mem_singleton.mp z,zI]at e;cases e) (g b o e);by_cases hne:vs=[]
 .subst hne;refine wpAny_bind (wpAny_tryCatch (W.done _ _ _ ⟨⟨_,gI,rfl,rfl⟩,lst g0⟩ λh' tk hk'=>?_));refine wpAny_bind (wpAny_rule (wpAny_pure ?_));exact h0 rfl h' tk (gJ g0 hk')
 .have hpos:0<vs.length:=List.length_pos_iff.mpr hne;refine wpAny_bind (wpAny_tryCatch (W.item 0 _ _ _ (by rw[hsz];exact hpos) ⟨⟨_,gI,rfl,rfl⟩,lst g0⟩ λv h' tk' hP hst' hk'=>?_));have hv:vs[0]?=some v:=by simpa using hP
  have hS':=hk' S _ (by simpa using hSI) gS;have g':=gJ g0 hk';show wpAny _ A.in1 (updateSeq S (λ_=>#[v,v])>>=_) _ _ _;refine wpAny_bind ?_;refine wpAny_updateSeq hS' rfl ?_;rw[hname];obtain⟨oI,hoI,hoc,hod⟩:=id hst'.1;exact wpAny_pure ⟨plainId_quiet PySem.F.plain_max_loop _,a7f (h₀:=s.heap) (s:=s) bt hh hlI hSI zI zS hl hcmp (λv' h'' tk'' hP' g''=>h1 v' h'' tk'' hP' g'') _ 0 _ _ v _ rfl hpos ⟨oI,(Heap.get?_update_other _ _ hSI).trans hoI,hoc,hod⟩ (λb o e=>(Heap.get?_update_other _ _ (λz=>by rw[<-z,zS]at e;cases e)).trans (g' b o e)) hv (Heap.get?_update_self _ hS' rfl)⟩
theorem a5u{l:Addr}{vs:List Value}{Q:Value->Shared->Prop}(L:Nat->Int)(hh:A.handled=none)(hl:s.heap.IsList l vs.toArray)
  (hkey:∀(h:Heap) (tk:Nat) (i:Nat) (vi:Value) (Q E:Value->Shared->Prop),C7 s.heap h->vs[i]?=some vi->(∀t tk2,Q (.int (L i) t) {s with heap:=h,toks:=tk2})->wpAny (model prog w) A.in1 (call (.builtin "len") [vi]) Q E {s with heap:=h,toks:=tk})
  (hpos:0<vs.length) (h1:∀v h' tk,v∈vs->C7 s.heap h'->Q v {s with heap:=h',toks:=tk}) :
  wpAny (model prog w) A (call (.builtin "min") [.ref l] [(Str.ofString "key",.builtin "len")]) Q E s:=by
 have hname:(toString "min" ++ toString ".loop" : String)="min.loop":=by decide
 obtain⟨ol,hol,_⟩:=id hl;have hll:l<s.heap.objs.size:=Heap.lt_size hol;refine a0d PySem.F.kind_min PySem.F.plain_min PySem.F.entry_min (a3x _ _) ?_;show wpAny _ A.in1 (Builtin.Builtins.bindParams "min" ["key","default"] 0 ⟨[],[(Str.ofString "key",.builtin "len")]⟩>>=_) _ _ s;refine wpAny_bind (wpAny_of_eq (show Builtin.Builtins.bindParams "min" ["key","default"] 0 ⟨[],[(Str.ofString "key",.builtin "len")]⟩=pure [some (.builtin "len"),none] from rfl) ?_);refine wpAny_bind (wpAny_pure ?_);refine wpAny_bind (wpAny_pyIter_list hl ?_);refine wpAny_bind (wpAny_newList ?_ (Nat.zero_le _));rw[hname];have hS:(s.heap.push {cls:=.type "list_iterator",data:=.fields #[.ref l,.int 0 0]}).objs.size=s.heap.objs.size+1:=size_push' ..;have hlI:l≠s.heap.objs.size:=Nat.ne_of_lt hll;have hSI:(s.heap.push {cls:=.type "list_iterator",data:=.fields #[.ref l,.int 0 0]}).objs.size≠s.heap.objs.size:=by rw[hS];exact Nat.ne_of_gt (Nat.lt_succ_self _)
 refine wpAny_pure ⟨plainId_quiet PySem.F.plain_min_loop _,?_⟩;have g0:C7 s.heap ((s.heap.push {cls:=.type "list_iterator",data:=.fields #[.ref l,.int 0 0]}).push (seqObj "list" #[] 0)):=λb x e=>Heap.get?_push_of_some _ (Heap.get?_push_of_some _ e);have gI:((s.heap.push {cls:=.type "list_iterator",data:=.fields #[.ref l,.int 0 0]}).push (seqObj "list" #[] 0)).get? s.heap.objs.size=some {cls:=.type "list_iterator",data:=.fields #[.ref l,.int 0 0]} :=
  Heap.get?_push_of_some _ (Heap.get?_push_size _ rfl)
 have gS:((s.heap.push {cls:=.type "list_iterator",data:=.fields #[.ref l,.int 0 0]}).push (seqObj "list" #[] 0)).get? (s.heap.push {cls:=.type "list_iterator",data:=.fields #[.ref l,.int 0 0]}).objs.size=some (seqObj "list" #[] 0):=Heap.get?_push_size _ rfl;have zI:s.heap.get? s.heap.objs.size=none:=Heap.get?_none_of_le (Nat.le_refl _);have zS:s.heap.get? (s.heap.push {cls:=.type "list_iterator",data:=.fields #[.ref l,.int 0 0]}).objs.size=none:=Heap.get?_none_of_le (by rw[hS];exact Nat.le_succ _);generalize (s.heap.push {cls:=.type "list_iterator",data:=.fields #[.ref l,.int 0 0]}).objs.size=S at hSI gS zS;have W:=Walks.list (prog:=prog) (w:=w) (A:=A.in1) hh s.heap.objs.size l hlI vs.toArray;have hsz:vs.toArray.size=vs.length:=List.size_toArray ..;have lst:∀{h:Heap},C7 s.heap h->h.IsList l vs.toArray:=λg=>by
  obtain⟨o,h1,h2⟩:=id hl;exact⟨o,g _ _ h1,h2⟩
 refine codeAny_builtin PySem.F.entry_min_loop ?_;rw[Around.under_plainId PySem.F.plain_min_loop _];show wpAny _ A.in1 (seqItems? (.ref _)>>=_) _ _ _;refine wpAny_bind (wpAny_seqItems gS rfl ?_);show wpAny _ A.in1 (tryCatch (pyNext (.ref s.heap.objs.size)) _>>=_) _ _ _;have gJ:∀{h h':Heap},C7 s.heap h->(∀b o,b∉[s.heap.objs.size]->h.get? b=some o->h'.get? b=some o)->C7 s.heap h':=λg hk b o e=>hk b o (λz=>by rw[List.mem_singleton.mp z,zI]at e;cases e) (g b o e);refine wpAny_bind (wpAny_tryCatch (W.item 0 _ _ _ (by rw[hsz];exact hpos) ⟨⟨_,gI,rfl,rfl⟩,lst g0⟩ λv h' tk' hP hst' hk'=>?_));have hv:vs[0]?=some v:=by simpa using hP
 have hS':=hk' S _ (by simpa using hSI) gS;have g':=gJ g0 hk';refine wpAny_bind (wpAny_tryCatch (wpAny_holding (hkey _ _ 0 v _ _ g' hv λtv tk2=>?_)));show wpAny _ A.in1 (updateSeq S (λ_=>#[v,_])>>=_) _ _ _;refine wpAny_bind ?_;refine wpAny_updateSeq hS' rfl ?_;rw[hname];obtain⟨oI,hoI,hoc,hod⟩:=id hst'.1;exact wpAny_pure ⟨plainId_quiet PySem.F.plain_min_loop _,a7e (h₀:=s.heap) (s:=s) L hh hlI hSI zI zS hl hkey (λv' h'' tk'' hP' g''=>h1 v' h'' tk'' hP' g'') _ 0 _ _ v _ _ _ rfl hpos ⟨oI,(Heap.get?_update_other _ _ hSI).trans hoI,hoc,hod⟩ (λb o e=>(Heap.get?_update_other _ _ (λz=>by rw[<-z,zS]at e;cases e)).trans (g' b o e)) (List.mem_of_getElem? hv) (Heap.get?_update_self _ hS' rfl)⟩
end
theorem a6A(f:Nat->Int):∀k,argBest (λi j=>decide (f j<f i)) k<=k/\∀j,j<=k->f j<=f (argBest (λi j=>decide (f j<f i)) k)
 |0=>⟨Nat.le_refl _,λj hj=>by rw[Nat.le_zero.mp hj];exact Int.le_refl _⟩
 |k+1=>by
  obtain⟨h1,h2⟩:=a6A f k;unfold argBest;split
  .rename_i hb;have hb:=of_decide_eq_true hb;refine⟨Nat.le_refl _,λj hj=>?_⟩;by_cases e:j=k+1
   .rw[e];exact Int.le_refl _
   .have:=h2 j (by omega);omega
  .rename_i hb;refine⟨by omega,λj hj=>?_⟩;by_cases e:j=k+1
   .rw[e];simp at hb;omega
   .exact h2 j (by omega)
def b5d(K:PySem.W.Frag)(d:Int):RL:=λxs H Q=>∃(p:Addr) (ns:List Int),xs=[.ref p]/\SqL K H p (ns.map V.int)/\(ns=[]->Q (.int d) H)/\∀M,M∈ns->(∀a∈ns,a<=M)->Q (.int M) H
def b5c(K:PySem.W.Frag):RL:=λxs H Q=>∃(p:Addr) (ys:List V),xs=[.ref p]/\SqL K H p ys/\0<ys.length/\(∀y∈ys,∃a zs,y=.ref a/\SqL K H a zs)/\∀y∈ys,Q y H
def b2D(K:PySem.W.Frag):RL:=λxs H Q=>∃(p:Addr) (ns:List Int),xs=[.ref p]/\SqT K H p (ns.map V.int)/\0<ns.length/\∀M,M∈ns->(∀a∈ns,M<=a)->Q (.int M) H
section
variable {X:Cx}{e:Expr}{t:TA}{p pos kp np:Pos}{nk:Nat}{d:Int}
theorem a6n(K:PySem.W.Frag)(hg:Gl X "max")(hm:X.mg "max"=none)(ha:JA X [e] t)(hc:X.calm=true:=by rfl)(hK:X.K=K:=by rfl)
  (he:backTo pos (starEach [e] X.env)=(false,eval e X.env)::backTo pos (starEach [] X.env):=by rfl) (hpl:(backTo pos (starEach [e] X.env)).any (·.1)=false:=by rfl) :
  JE X (.Call (.Name "max" p) [e] [⟨some "default",.Constant (.int d) nk np,kp⟩] pos) (tCB (b5d K d) t):=by
 subst hK;refine⟨λpins s σ H Q I h=>?_⟩;refine wpAny_Call_Name_kw (O7 I hg hm b0h ?_ (by decide) (by decide));refine callWith_kw (thn (ha.h pos pins s σ H _ I h) λus s1 ⟨vs,H1,I1,r1,q1⟩=>?_) he hpl;refine kws_cons (thn ((A5 (X:=X) (i:=d) (j:=nk) (pos:=np)).h pins s1 σ H1 (λv H'=>v=.int d/\H'=H1) I1 ⟨rfl,rfl⟩) λdv s2 ⟨v0,H0,I2,r0,e1,e2⟩=>kws_nil ?_);subst e1 e2;obtain⟨td,rfl⟩:=r0;obtain⟨l,ns,rfl,hs,q0,q1⟩:=q1;obtain⟨u,rfl,ru⟩:=r1.one;cases ru;obtain⟨its,ri,sq,hz⟩:=I2.list hs;have hlen:its.length=ns.length:=by rw[<-ri.length,List.length_map]
 have hat:∀(i:Nat) (vi:Value),its[i]?=some vi->∃t,vi=.int (ns.getD i 0) t/\i<ns.length:=λi vi hi=>by
  have hil:i<ns.length:=by rw[<-hlen];exact(List.getElem?_eq_some_iff.mp hi).1
  obtain⟨v',hv',rv⟩:=ri.get (i:=i) (x:=.int (ns[i])) (by rw[List.getElem?_map,List.getElem?_eq_getElem hil];rfl);rw[hi]at hv';cases hv';obtain⟨t,rfl⟩:=rv;exact⟨t,by rw[List.getD_eq_getElem?_getD,List.getElem?_eq_getElem hil];rfl,hil⟩
 refine a7C (λi j=>decide (ns.getD j 0<ns.getD i 0)) (I2.ok.hd hc) sq.isList (λh tk i j vi vj Q' E' g hi hj hq=>?_) (λe h' tk g=>?_) (λv h' tk hv g=>?_)
 .obtain⟨t1,rfl,_⟩:=hat i vi hi;obtain⟨t2,rfl,_⟩:=hat j vj hj;exact a8B _ _ _ _ _ _ _ _ _ _ hq
 .refine⟨.int d,H0,I2.kept (t':=tk) g,⟨_,rfl⟩,q0 ?_⟩;rw[e]at hlen;exact List.length_eq_zero_iff.mp hlen.symm
 .obtain⟨t1,rfl,hl⟩:=hat _ v hv;obtain⟨b1,b2⟩:=a6A (λi=>ns.getD i 0) (its.length-1);refine⟨.int _,H0,I2.kept (t':=tk) g,⟨_,rfl⟩,q1 _ ?_ λa ha=>?_⟩
  .rw[List.getD_eq_getElem?_getD,List.getElem?_eq_getElem hl];exact List.getElem_mem hl
  .obtain⟨j,hj⟩:=List.mem_iff_getElem?.mp ha;have hjl:=(List.getElem?_eq_some_iff.mp hj).1;have:=b2 j (by omega);simp only[List.getD_eq_getElem?_getD,hj,Option.getD_some]at this⊢;exact this
theorem b1L(K:PySem.W.Frag)(hg:Gl X "min")(hm:X.mg "min"=none)(hgl:Gl X "len")(hml:X.mg "len"=none)(ha:JA X [e] t)(hc:X.calm=true:=by rfl)(hK:X.K=K:=by rfl)
  (he:backTo pos (starEach [e] X.env)=(false,eval e X.env)::backTo pos (starEach [] X.env):=by rfl) (hpl:(backTo pos (starEach [e] X.env)).any (·.1)=false:=by rfl) :
  JE X (.Call (.Name "min" p) [e] [⟨some "key",.Name "len" np,kp⟩] pos) (tCB (b5c K) t):=by
 subst hK;refine⟨λpins s σ H Q I h=>?_⟩;refine wpAny_Call_Name_kw (O7 I hg hm a5x ?_ (by decide) (by decide));refine callWith_kw (thn (ha.h pos pins s σ H _ I h) λus s1 ⟨vs,H1,I1,r1,q1⟩=>?_) he hpl;refine kws_cons (O7 I1 hgl hml a5y (kws_nil ?_) (by decide) (by decide));obtain⟨l,ys,rfl,hs,hpos,hall,q1⟩:=q1;obtain⟨u,rfl,ru⟩:=r1.one;cases ru;obtain⟨its,ri,sq,hz⟩:=I1.list hs;have hlen:=ri.length;have hat:∀(i:Nat) (vi:Value),its[i]?=some vi->∃y,y∈ys/\ys[i]?=some y/\RelV y vi:=λi vi hi=>by
  have hil:i<ys.length:=by rw[hlen];exact(List.getElem?_eq_some_iff.mp hi).1
  obtain⟨v',hv',rv⟩:=ri.get (List.getElem?_eq_getElem hil);rw[hi]at hv';cases hv';exact⟨_,List.getElem_mem hil,List.getElem?_eq_getElem hil,rv⟩
 have hL:∃L:Nat->Int,∀i y,ys[i]?=some y->∃a zs,y=.ref a/\SqL X.K H1 a zs/\L i=zs.length:=by
  refine⟨λi=>if h:i<ys.length then((Classical.choose (Classical.choose_spec (hall (ys[i]) (List.getElem_mem h)))).length:Int)else 0,λi y hy=>?_⟩;have hil:=(List.getElem?_eq_some_iff.mp hy).1;rw[List.getElem?_eq_getElem hil]at hy;cases hy;have sp:=Classical.choose_spec (Classical.choose_spec (hall (ys[i]) (List.getElem_mem hil)));exact⟨_,_,sp.1,sp.2,by simp only[dif_pos hil]⟩
 obtain⟨L,hL⟩:=hL;refine a5u L (I1.ok.hd hc) sq.isList (λh tk i vi Q' E' g hi hq=>?_) (by rw[<-hlen];exact hpos) (λv h' tk hv g=>?_)
 .obtain⟨y,hy,hy2,ry⟩:=hat i vi hi;obtain⟨a,zs,rfl,hz,e1⟩:=hL i y hy2;cases ry;have I2:Inv X pins σ H1 {s1 with heap:=h,toks:=tk}:=I1.kept (t':=tk) g;obtain⟨its2,r2,sq2,hz2⟩:=I2.list hz;have hl2:=r2.length;have:=W8;refine Calls.call_len_list sq2.isList (by simp only[List.size_toArray]<;>omega) ?_;rw[List.size_toArray,<-hl2,<-e1];exact hq _ _
 .obtain⟨i,hi⟩:=List.mem_iff_getElem?.mp hv;obtain⟨y,hy,_,ry⟩:=hat i v hi;exact⟨y,H1,I1.kept (t':=tk) g,ry,q1 y hy⟩
theorem a7y(K:PySem.W.Frag)(hc:X.calm=true)(hK:X.K=K:=by rfl):C8 X (.builtin "min") (b2D K):=by
 subst hK;intro pins s σ H xs us Q I rv h;obtain⟨p,ns,rfl,hs,hn,q⟩:=h;obtain⟨u,rfl,ru⟩:=rv.one;cases ru;obtain⟨its,ri,sq,hz⟩:=I.tuple hs;have hlen:its.length=ns.length:=by rw[<-ri.length,List.length_map]
 have hat:∀(i:Nat) (vi:Value),its.toArray[i]?=some vi->∃t,vi=.int (ns.getD i 0) t:=λi vi hi=>by
  have hi:its[i]?=some vi:=by simpa using hi
  have hil:i<ns.length:=by rw[<-hlen];exact(List.getElem?_eq_some_iff.mp hi).1
  obtain⟨v',hv',rv⟩:=ri.get (i:=i) (x:=.int (ns[i])) (by rw[List.getElem?_map,List.getElem?_eq_getElem hil];rfl);rw[hi]at hv';cases hv';obtain⟨t,rfl⟩:=rv;exact⟨t,by rw[List.getD_eq_getElem?_getD,List.getElem?_eq_getElem hil];rfl⟩
 have hlt:=sq.lt;refine call_min_walk (wpAny_pyIter_tuple sq ?_);refine⟨_,_,_,_,_,_,λi j=>decide (ns.getD i 0<ns.getD j 0),rfl,Walks.tuple (A:=X.A.in1) (I.ok.hd hc) _ p (Nat.ne_of_lt hlt) its.toArray,⟨⟨_,Heap.get?_push_size _ rfl,rfl,rfl⟩,?_⟩,?_,by rw[List.size_toArray,hlen];exact hn,?_,?_⟩
 .obtain⟨o,h1,h2⟩:=sq;exact⟨o,Heap.get?_push_of_some _ h1,h2⟩
 .intro b hb;rw[size_push'];rcases List.mem_cons.mp hb with rfl|hb
  .exact Nat.lt_succ_self _
  .rw[List.mem_singleton.mp hb];exact Nat.lt_succ_of_lt hlt
 .intro i j vi vj s' Q' E' hi hj hq;obtain⟨t1,rfl⟩:=hat i vi hi;obtain⟨t2,rfl⟩:=hat j vj hj;exact HT.rcLt_int _ _ _ _ _ _ _ _ _ _ hq
 .intro v h' tk hv hk;obtain⟨t1,rfl⟩:=hat _ v hv;obtain⟨b1,b2⟩:=argBest_lt (λi=>ns.getD i 0) (its.toArray.size-1);rw[List.size_toArray]at b1 b2;refine⟨.int _,H,I.kept (t':=tk) (λb o e=>hk b o (λz=>?_) (Heap.get?_push_of_some _ e)),⟨_,rfl⟩,q _ ?_ λa ha=>?_⟩
  .rw[List.mem_singleton.mp z]at e;exact absurd (Heap.lt_size e) (Nat.lt_irrefl _)
  .rw[List.size_toArray,List.getD_eq_getElem?_getD,List.getElem?_eq_getElem (by omega)];exact List.getElem_mem _
  .obtain⟨j,hj⟩:=List.mem_iff_getElem?.mp ha;have hjl:=(List.getElem?_eq_some_iff.mp hj).1;have:=b2 j (by omega);rw[List.size_toArray];simp only[List.getD_eq_getElem?_getD,hj,Option.getD_some]at this⊢;exact this
theorem b1O(K:PySem.W.Frag)(hg:Gl X "min")(hm:X.mg "min"=none)(ha:JA X [e] t)(hc:X.calm=true:=by rfl)(hK:X.K=K:=by rfl)(he:starEach [e] X.env=(false,eval e X.env)::starEach [] X.env:=by rfl)(hpl:(backTo pos (starEach [] X.env)).any (·.1)=false:=by rfl):JE X (.Call (.Name "min" p) [e] [] pos) (tCB (b2D K) t):=⟨C9 (a7y K hc hK) hg hm a5x ha.h (by decide) (by decide) he hpl⟩
end
section
variable {prog:Program}{w:World}{A:Around}{E:Value->Shared->Prop}{s:Shared}
end
section
variable {X:Cx}
variable {e:Expr}{es:List Expr}{t:TA}{p pos:Pos}
end
end L2
namespace L2
open PySem PySem.Spec PyProof.Rows PySem.W
section
variable {X:Cx}{tg:Expr}
end
theorem a9K{kvs:List (List Key×V)}{rss:LLI}(hk:kvs.map (·.1)=IK rss):kvs.length=rss.length:=by
 have:=congrArg List.length hk;simpa[IK]using this
section
variable {X:Cx}
end
section
variable {X:Cx}{o e:Expr}{es:List Expr}{to:TE}{t:TA}{apos cpos:Pos}
end
theorem a2s{K:PySem.W.Frag}{src:List (Option Nat)}{σ caps:St}{Q:VK}{a:Addr}{vs:List V}{rss:LLI}{H:Hp}{te:TE}(f:List Int->V)(hl:vs.length<=sizeLine)(hmono:∀H',Same H H'->SqL K H' a vs)(hI:Its H vs rss)(hsrc:C1 src σ=none::caps)
  (hte:∀v r H1 Q1,r∈rss->IT H1 v r->Same H H1->(∀H2,Same H1 H2->Q1 (f r) H2)->te (some v::caps) H1 Q1) (hd:∀H1 p,Same H H1->H1 p=none->Q (.ref p) (upd H1 p (.lst (rss.map f)))):T7 src (A8 0) a1m te σ Q (Itl K a) H:=by
 refine a0s (xs:=vs) (by omega) (λi ys H'=>Same H H'/\ys=(rss.take i).map f) ⟨Same.refl H,by simp⟩ (λi ys H' _ h=>⟨hmono H' h.1,by rw[h.2,List.length_map];exact List.length_take_le _ _⟩) ?_ ?_
 .rintro i x ys H' hx ⟨s,rfl⟩;obtain⟨r,hr,hr2,hr3⟩:=hI.mem hx;show Sub _ ((C1 src σ).set 0 (some x))/\_;rw[hsrc];refine⟨Sub.one,hte x r H' _ hr (hr3.same s) s λH2 s2=>⟨s.trans s2,?_⟩⟩;rw[List.take_add_one,hr2];simp
 .rintro ys H' ⟨s,rfl⟩ p hp;rw[hI.1,List.take_length];exact hd H' p s hp
section
variable {X:Cx}{k:Nat}{ps:List Str}{sp:Sp}{x:Str}{p pos cpos:Pos}{e:Expr}{es:List Expr}{t:TA}
end
end L2
namespace L2
open PySem PySem.Spec PyProof.Rows
section
variable {X:Cx}
variable {e:Expr}{es:List Expr}{t:TA}{p pos:Pos}
end
end L2
namespace L2
open PySem PySem.Spec PyProof.Rows PySem.W
section
variable {prog:Program}{w:World}{κ:Type} [DecidableEq κ] {knd:HeapKind prog w κ}{A:Around}{E:Value->Shared->Prop}{s:Shared}
end
section
variable {prog:Program}{w:World}{κ:Type} [DecidableEq κ] (knd:HeapKind prog w κ)
end
section
variable {X:Cx}{pins:List (Addr×Obj)}{σ:St}{H:Hp}{s:Shared}{a b:Addr}{z:V}{r:Value}{kvs:List (List Key×V)}{k:List Key}{A:Around}{E:Value->Shared->Prop}
end
section
variable {X:Cx}{o e f:Expr}{apos cpos:Pos}{td ty tx:TE}
end
section
variable {X:Cx}
variable {e:Expr}{es:List Expr}{t:TA}{p pos:Pos}
end
end L2
namespace L2
open PySem PySem.Spec PyProof.Rows
open PySem.AutoSeq1 (wpAny_loadPart')
section
variable {prog:Program}{w:World}{A:Around}{E:Value->Shared->Prop}{s:Shared}
theorem a4u{R:List Value->Shared->Prop}{r:Addr}{a b c:Int}{t u v:Tok}{n:Nat}(hh:A.handled=none)(hr:IsRange s.heap r a b c t u v)(hs:Builtin.Range.small a b c=true)(hn:Builtin.Range.rangeSize a b c=n)(hl:n<=2 ^ 24)
  (h:∀(h':Heap) (tk:Nat) (acc:Array Value),(∀b o,s.heap.get? b=some o->h'.get? b=some o)->ItemsOf (λi v=>∃t,v=.int (a+i*c) t) acc n->R acc.toList {s with heap:=h',toks:=tk}) :
  wpAny (model prog w) A (collect (.ref r)) R E s:=by
 unfold collect;refine wpAny_bind (wpAny_runValue (codeAny_builtin entry_proto_collect' ?_));rw[Around.under_plainId PySem.F.plain_proto_collect _];show wpAny _ A.in1 (newList []>>=λl=>again (.builtin "list.__iadd__" ⟨[l,.ref r],[]⟩)) _ _ s;refine wpAny_bind (wpAny_newObj_type ?_);refine wpAny_pure ⟨plainId_quiet PySem.F.plain_list_iadd _,codeAny_builtin entry_list_iadd' ?_⟩;rw[Around.under_plainId PySem.F.plain_list_iadd _];have hS₁:(s.heap.push {cls:=.type "list",data:=.seq ([]:List Value).toArray}).get? s.heap.objs.size=some {cls:=.type "list",data:=.seq #[]}:=Heap.get?_push_size _ rfl;show wpAny _ A.in1 (Builtin.List.listExtendWith (.ref s.heap.objs.size) (.ref r) (.ref s.heap.objs.size)) _ _ _;have key:=wpAny_extend_range (prog:=prog) (w:=w) (A:=A) (s:={s with heap:=s.heap.push {cls:=.type "list",data:=.seq ([]:List Value).toArray}})
  (R:=λ(q:Result) (s':Shared)=>∃(h':Heap) (tk:Nat) (acc':Array Value) (c':Nat),q=.ok (.ret (.ref s.heap.objs.size))/\s'={s with heap:=h',toks:=tk} /\
   (∀b o,s.heap.get? b=some o->h'.get? b=some o)/\h'.get? s.heap.objs.size=some {cls:=.type "list",dict:=none,data:=.seq acc' c',slots:=#[]}/\ItemsOf (λi v=>∃t,v=.int (a+i*c) t) acc' n)
  hh (Heap.get?_push_of_some _ hr) hs hn hl s.heap.objs.size (.ref s.heap.objs.size) 0 hS₁
  (λh' tk acc' c' hk hS' hacc=>⟨h',tk,acc',c',rfl,rfl,λb o e=>hk b o (Nat.ne_of_lt (Heap.lt_size e)) (Heap.get?_push_of_some _ e),hS',hacc⟩)
 refine wpAny_mono key (λfin s' x=>?_) λe s' x=>?_
 .cases fin with
  |done f =>
   obtain⟨h',tk,acc',c',e,rfl,hk,hS',hacc⟩:=x;cases e;show wpAny _ A (load s.heap.objs.size>>=_) _ _ _;refine wpAny_bind (wpAny_load hS' ?_);exact wpAny_pure (h h' tk acc' hk hacc)
  |again c₁ =>
   refine⟨x.1,codeAny_mono x.2 λq s₂ y=>?_⟩;obtain⟨h',tk,acc',c',rfl,rfl,hk,hS',hacc⟩:=y;show wpAny _ A (load s.heap.objs.size>>=_) _ _ _;refine wpAny_bind (wpAny_load hS' ?_);exact wpAny_pure (h h' tk acc' hk hacc)
 .obtain⟨h',tk,acc',c',e,_⟩:=x;cases e
theorem a8c{d:Addr}{a b c:Int}{t u v:Tok}{n:Nat}(hs:Builtin.Range.small a b c=true)(hn:Builtin.Range.rangeSize a b c=n)(hl:n<=2 ^ 24)(hz:n<=sizeLine) :
  MeetsIn prog w (Builtin.«tuple.__new__» ⟨[.type "tuple",.ref d],[]⟩) (λA R s=>A.handled=none/\IsRange s.heap d a b c t u v /\
   ∀(h':Heap) (tk:Nat) (acc:Array Value),(∀b o,s.heap.get? b=some o->h'.get? b=some o)->ItemsOf (λi v=>∃t,v=.int (a+i*c) t) acc n->R (.ok (.ret (.ref h'.objs.size))) {s with heap:=h'.push {cls:=.type "tuple",data:=.seq acc},toks:=tk}) :=
 .of_wp λA R s h=>by
  obtain⟨hp,g,dd,tk,os⟩:=s;obtain⟨hh,ho,h⟩:=h;have hsub:=sub_tuple_self;have hinit:=init_tuple_lookup;have hmh:=madeHere_tuple;have hT:Shared.TypeIs ⟨hp,g,dd,tk,os⟩ (.ref d) "range":=⟨_,ho,rfl⟩
  wp_walk using wpAny_loadPart' ho,wpAny_typeOf hT,a4u (show A.in1.handled=none from hh) ho hs hn hl
  intro h' tk' acc hk hit;show wpAny _ _ (Builtin.Tuple.tupleExact acc.toList.toArray>>=λv=>ret v) _ _ _;unfold Builtin.Tuple.tupleExact;have e:acc.toList.toArray=acc:=by simp
  rw[e];refine wpAny_bind (wpAny_newObj_type ?_ (by show acc.size<=sizeLine;rw[hit.1];exact hz));exact wpAny_pure ⟨_,rfl,h h' tk' acc hk hit⟩
end
theorem a1w{α β:Type}{F:α->β->Prop}:∀{l₁:List α}{l₂:List β},l₁.length=l₂.length->(∀(i:Nat) x y,l₁[i]?=some x->l₂[i]?=some y->F x y)->Paired F l₁ l₂
 |[],[],_,_=>.nil
 |[],_::_,e,_=>nomatch e
 |_::_,[],e,_=>nomatch e
 |x::xs,y::ys,e,h=>.cons (h 0 x y rfl rfl) (a1w (by simpa using e) λi a b ha hb=>h (i+1) a b (by simpa using ha) (by simpa using hb))
def S4(n:Nat):List Int:=(List.range n).map λ(i:Nat)=>(i:Int)
theorem I0(n:Nat):(S4 n).length=n:=by simp[S4]
def b2A:RL:=λxs H Q=>∃j:Nat,xs=[.int j]/\j<2 ^ 62/\∀l,H l=none->Q (.ref l) (upd H l (.rng 0 j))
def b2y:RL:=λxs H Q=>∃(a:Addr) (n:Nat),xs=[.ref a]/\H a=some (.rng 0 n)/\n<=2 ^ 24/\n<=sizeLine/\∀l,H l=none->Q (.ref l) (upd H l (.tup ((S4 n).map V.int)))
section
variable {X:Cx}{e:Expr}{es:List Expr}{t:TA}{p pos:Pos}
theorem a7x:C8 X (.type "range") b2A:=by
 intro pins s σ H xs us Q I rv h;obtain⟨j,rfl,hj,q⟩:=h;obtain⟨u,rfl,ru⟩:=rv.one;obtain⟨t,rfl⟩:=ru;refine call_range_1 ?_;exact⟨.ref s.heap.objs.size,_,I.laid (a:=s.heap.objs.size) (o:=.rng 0 j) (λb o e=>Heap.get?_push_of_some _ e) (Nat.le_refl _) ⟨_,_,_,Heap.get?_push_size _ rfl⟩,rfl,q _ (I.hok.fresh (Nat.le_refl _))⟩
theorem b1N(hg:Gl X "range")(hm:X.mg "range"=none)(ha:JA X (e::es) t)(he:starEach (e::es) X.env=(false,eval e X.env)::starEach es X.env:=by rfl)(hpl:(backTo pos (starEach es X.env)).any (·.1)=false:=by rfl):JE X (.Call (.Name "range" p) (e::es) [] pos) (tCB b2A t):=⟨P8 a7x hg hm boot_range ha.h (by decide) (by decide) he hpl⟩
theorem a7v(hc:X.calm=true):C8 X (.type "tuple") b2y:=by
 intro pins s σ H xs us Q I rv h;obtain⟨d,n,rfl,hd,hn,hz,q⟩:=h;obtain⟨u,rfl,ru⟩:=rv.one;cases ru;obtain⟨t1,t2,t3,e1⟩:=(show ObjOk X.prog X.w H s.heap d (.rng 0 n)from I.hok _ _ hd);have hs:Builtin.Range.rangeSize 0 (n:Int) 1=n:=by rw[rangeSize_one];split<;>omega
 refine callType_newIn PySem.F.called_tuple (by decide) (PySem.F.typeCall_tuple_1 _) (PySem.F.newCall_tuple_1 _) (λobj=>PySem.F.args_object_init_2 obj _) PySem.F.entry_tuple_new (a8c (n:=n) (small_one (by omega) (by omega) (by omega) (by omega)) hs hn hz) ⟨show X.A.in1.handled=none from I.ok.hd hc,e1,λh' tk acc kp hit=>?_⟩;have I1:Inv X pins σ H {s with heap:=h',toks:=tk}:=I.kept (t':=tk) kp;have hv:Vals ((S4 n).map V.int) acc.toList:=by
  refine a1w ?_ λi x y hx hy=>?_
  .rw[List.length_map,I0,Array.length_toList,hit.1]
  .rw[Array.getElem?_toList]at hy;obtain⟨t,rfl⟩:=hit.2 i y hy;have hi:i<n:=by have:=(List.getElem?_eq_some_iff.mp hx).1;rw[List.length_map,I0]at this;exact this
   have:x=.int (i:Int):=by
    rw[List.getElem?_map,S4,List.getElem?_map,List.getElem?_range hi]at hx;simpa using hx.symm
   rw[this];exact⟨t,by simp⟩
 have I2:Inv X pins σ (upd H h'.objs.size (.tup ((S4 n).map V.int))) {s with heap:=h'.push {cls:=.type "tuple",data:=.seq acc},toks:=tk} :=
  I1.laid (t':=tk) (λb o e=>Heap.get?_push_of_some _ e) (Nat.le_refl _) (show ObjOk X.prog X.w _ _ _ (.tup ((S4 n).map V.int))from⟨by rw[List.length_map,I0];exact hz,acc.toList,hv,by rw[Array.toArray_toList];exact IsTup.new _ _⟩)
 exact⟨⟨_,Heap.get?_push_size _ rfl,rfl⟩,.ref h'.objs.size,_,I2,rfl,q _ (I1.hok.fresh (Nat.le_refl _))⟩
theorem b1M(hg:Gl X "tuple")(hm:X.mg "tuple"=none)(ha:JA X (e::es) t)(hc:X.calm=true:=by rfl)(he:starEach (e::es) X.env=(false,eval e X.env)::starEach es X.env:=by rfl)(hpl:(backTo pos (starEach es X.env)).any (·.1)=false:=by rfl):JE X (.Call (.Name "tuple" p) (e::es) [] pos) (tCB b2y t):=⟨P8 (a7v hc) hg hm a1Z ha.h (by decide) (by decide) he hpl⟩
end
end L2
namespace L2
open PySem PySem.Spec PyProof.Rows PySem.W
open Sem (wp)
section
variable {prog:Program}{w:World}{κ:Type} [DecidableEq κ] (kd:KeyKind prog w κ)
inductive Rfs(h:Heap):List (List κ)->List Value->Prop
 |nil:Rfs h [] []
 |cons {ks:List κ}{a:Addr}{kss:List (List κ)}{us:List Value}:IsTupleKey kd h ks a->Rfs h kss us->Rfs h (ks::kss) (.ref a::us)
def IsTT(h:Heap)(kss:List (List κ))(a:Addr):Prop:=∃ob its n,h.get? a=some ob/\ob.cls=.type "tuple"/\ob.data=.seq its n/\Rfs kd h kss its.toList
def a4J(kss:List (List κ)):Int:=reduceHash (Builtin.Tuple.tupleHashOf (kss.map (tupleKeyHash kd)))
def a2M(kss:List (List κ)):Nat:=(kss.map λks=>ks.length+1).sum+1
variable {kd}
theorem Rfs.inj{h:Heap}{x y:List (List κ)}{us:List Value}(hx:Rfs kd h x us)(hy:Rfs kd h y us):x=y:=by
 induction hx generalizing y with
 |nil=>cases hy;rfl
 |cons p _ ih=>cases hy with
  |cons q r=>rw[p.inj q,ih r]
theorem Rfs.keeps{h h':Heap}{x:List (List κ)}{us:List Value}{d:Addr}{ob:Obj}{es ep}(hx:Rfs kd h x us)(ho:h.get? d=some ob)(hd:ob.data=.dict es ep)(hs:Heap.SameBut d h h'):Rfs kd h' x us:=by
 induction hx with
 |nil=>exact .nil
 |cons p _ ih=>exact .cons (p.keeps ho hd hs) ih
theorem IsTT.typ{s:Shared}{kss:List (List κ)}{a:Addr}(x:IsTT kd s.heap kss a):s.TypeIs (.ref a) "tuple":=by
 obtain⟨ob,_,_,e1,e2,_⟩:=x;exact⟨ob,e1,e2⟩
theorem IsTT.inj{h:Heap}{a:Addr}{x y:List (List κ)}(hx:IsTT kd h x a)(hy:IsTT kd h y a):x=y:=by
 obtain⟨ob,its,n,e1,_,e3,e4⟩:=hx;obtain⟨ob',its',n',f1,_,f3,f4⟩:=hy;have e:=e1.symm.trans f1;injection e with e
 subst e;rw[e3]at f3;injection f3 with f3 _
 subst f3;exact e4.inj f4
theorem IsTT.keeps{h h':Heap}{kss:List (List κ)}{a d:Addr}{ob:Obj}{es ep}(x:IsTT kd h kss a)(ho:h.get? d=some ob)(hd:ob.data=.dict es ep)(hs:Heap.SameBut d h h'):IsTT kd h' kss a:=by
 obtain⟨ob',its,n,e1,e2,e3,e4⟩:=x;have hne:a≠d:=λe=>by
  subst e;have z:=e1.symm.trans ho;injection z with z
  subst z;rw[hd]at e3;exact nomatch e3
 exact⟨ob',its,n,(hs.2 a hne).trans e1,e2,e3,e4.keeps ho hd hs⟩
variable {A:Around}{E:Value->Shared->Prop}{s:Shared}
theorem b0A{kss:List (List κ)}{a:Addr}{Q:Int->Shared->Prop}(hu:A.units+8<cLine)(hk:IsTT kd s.heap kss a)(h:Q (a4J kd kss) {s with toks:=s.toks+a2M kss}) :
  wpAny (model prog w) A (pyHash (.ref a)) Q E s:=by
 have hT:=hk.typ;obtain⟨o,items,n,ho,_,hd,hi⟩:=hk;unfold pyHash
 first|unfold pyHashByItsType|skip
 first|refine wpAny_bind (wpAny_cRoomFor_or (.inr (by omega)) ?_)|skip
 refine wpAny_bind (wpAny_specialOf hT F.slot_tuple_hash.lookup ?_);show wpAny _ _ (if (some (Value.builtin "tuple.__hash__")==some Value.none)=true then _ else _) Q E s;rw[if_neg (by rw[beq_builtin_none];exact Bool.false_ne_true)];refine wpAny_bind (wpAny_specialOf hT F.slot_tuple_hash.lookup ?_);show wpAny _ _ (callSpecialIfBoundUnlessNone? (.ref a) "__hash__" _>>=_) Q E s;refine wpAny_bind (wpAny_callSpecialIfBoundUnlessNone?_slot hT F.slot_tuple_hash (wpAny_call_entry F.slot_tuple_hash hT F.entry_tuple_hash ?_ (F.args_tuple_hash_1 _)));show wpAny _ _ (Builtin.Tuple.tupleItemsOf (.ref a)>>=_) _ _ s;refine wpAny_bind (wpAny_tupleItemsOf ho hd ?_);refine wpAny_bind ?_;rw[<-Array.forIn_toList];refine wpAny_forIn_list _
  (λrest (b:Array Int) s'=>∃done left,kss=done++left/\Rfs kd s.heap left rest/\b.toList=done.map (tupleKeyHash kd)/\s'={s with toks:=s.toks+(done.map λks=>ks.length+1).sum})
  _ ?_ ?_ _ _ ⟨[],kss,rfl,hi,rfl,rfl⟩
 .rintro x rest b s' ⟨done,left,rfl,hl,hb,rfl⟩;cases hl with
  |@cons k a' ks' _ h1 hl' =>
   refine wpAny_bind (wpAny_pyHash_tuple (by first|exact(show A.units<cLine by omega)|exact(show A.units+1<cLine by omega)|exact(show A.units+2<cLine by omega)) (show IsTupleKey kd _ k a' from h1) ?_);have e1:((done++[k]).map λks=>ks.length+1).sum=(done.map λks=>ks.length+1).sum+(k.length+1):=by simp
   first
    |exact wpAny_pure ⟨done++[k],ks',by simp,hl',by simp[hb],by rw[e1];simp[Nat.add_assoc]⟩
    |exact wpAny_bind (wpAny_pure (wpAny_pure ⟨done++[k],ks',by simp,hl',by simp[hb],by rw[e1];simp[Nat.add_assoc]⟩))
 .rintro b s' ⟨done,left,rfl,hl,hb,rfl⟩;cases hl;rw[List.append_nil]at h;show wpAny _ _ (retInt (Builtin.Tuple.tupleHashOf b.toList)) _ _ _;rw[hb];refine wpAny_ret_mkInt ?_;show wpAny _ _ (if (decide (-(2:Int) ^ 63<=Builtin.Tuple.tupleHashOf (done.map (tupleKeyHash kd))) && decide (Builtin.Tuple.tupleHashOf (done.map (tupleKeyHash kd))<2 ^ 63))=true then _ else _) Q E _;unfold a4J a2M reduceHash at h;by_cases hr:(decide (-(2:Int) ^ 63<=Builtin.Tuple.tupleHashOf (done.map (tupleKeyHash kd))) && decide (Builtin.Tuple.tupleHashOf (done.map (tupleKeyHash kd))<2 ^ 63))=true
  .rw[if_pos hr];rw[if_pos hr]at h;exact wpAny_pure (by simpa[Nat.add_assoc]using h)
  .rw[if_neg hr];rw[if_neg hr]at h;exact wpAny_bind (wpAny_rule (wpAny_pure (by simpa[Nat.add_assoc]using h)))
theorem a6H{x y:List (List κ)}{a b:Addr}{P:Fin->Shared->Prop}(hu:A.units+4<cLine)(hx:IsTT kd s.heap x a)(hy:IsTT kd s.heap y b)(h:P (.done (.ret (.bool (decide (x=y))))) s) :
  wpAny (model prog w) A (Builtin.«tuple.__eq__» ⟨[.ref a,.ref b],[]⟩) P E s:=by
 have hTb:=hy.typ;obtain⟨oa,xs,na,hoa,_,hda,hia⟩:=hx;obtain⟨ob,ys,nb,hob,_,hdb,hib⟩:=hy;show wpAny _ _ (isInstance (.ref b) (.type "tuple")>>=_) _ _ s;refine wpAny_bind (wpAny_isInstance hTb isSubtype_tuple_tuple ?_);simp only[Bool.not_true,Bool.false_eq_true,if_false];refine wpAny_bind (wpAny_tupleItemsOf hoa hda ?_);refine wpAny_bind (wpAny_tupleItemsOf hob hdb ?_);refine wpAny_bind ?_;refine wpAny_forIn_list _
  (λrest r s'=>r.1=none/\s'=s/\∃x' y' xs' ys',rest=List.zip xs' ys'/\Rfs kd s.heap x' xs'/\Rfs kd s.heap y' ys'/\decide (x'=y')=decide (x=y)/\(xs'.length==ys'.length)=(xs.size==ys.size))
  _ ?_ ?_ _ _ ⟨rfl,rfl,x,y,xs.toList,ys.toList,rfl,hia,hib,rfl,by simp⟩
 .rintro⟨u,v⟩ rest r s' ⟨hr,rfl,x',y',xs',ys',hz,hx',hy',hdec,hlen⟩;cases hx' with
  |nil=>simp at hz
  |@cons k1 u' x'' xs'' h1 hx'' =>
   cases hy' with
   |nil=>simp at hz
   |@cons k2 v' y'' ys'' h2 hy'' =>
    simp only[List.zip_cons_cons,List.cons.injEq,Prod.mk.injEq]at hz;obtain⟨⟨rfl,rfl⟩,rfl⟩:=hz;refine wpAny_bind (wpAny_eqBool_tuple (x:=k1) (y:=k2) (by first|exact(show A.units<cLine by omega)|exact(show A.units+1<cLine by omega)|exact(show A.units+2<cLine by omega)) h1 h2 ?_);by_cases hk:k1=k2
    .subst hk;rw[decide_eq_true rfl];simp only[Bool.not_true,Bool.false_eq_true,if_false];refine wpAny_pure ⟨rfl,rfl,x'',y'',xs'',ys'',rfl,hx'',hy'',?_,by simpa using hlen⟩;rw[<-hdec];by_cases hxy:x''=y''
     .simp[hxy]
     .simp[hxy]
    .rw[decide_eq_false hk];simp only[Bool.not_false,if_true];have hf:decide (x=y)=false:=by rw[<-hdec];simp[hk]
     rw[hf]at h;exact wpAny_bind (wpAny_pure (wpAny_pure (wpAny_pure h)))
 .rintro⟨r1,r2⟩ s' ⟨hr,rfl,x',y',xs',ys',hz,hx',hy',hdec,hlen⟩;simp only at hr;subst hr;refine wpAny_pure ?_;have hfin:(xs.size==ys.size)=decide (x=y):=by
   rw[<-hdec,<-hlen];cases hx' with
   |nil=>cases hy' with
    |nil=>simp
    |cons _ _=>simp
   |cons _ _=>cases hy' with
    |nil=>simp
    |cons _ _=>simp at hz
  show P (.done (.ret (.bool (xs.size==ys.size)))) s';rw[hfin];exact h
theorem b4W{x y:List (List κ)}{a b:Addr}{Q:Bool->Shared->Prop}(hu:A.units+8<cLine)(hx:IsTT kd s.heap x a)(hy:IsTT kd s.heap y b)(h:Q (decide (x=y)) s) :
  wpAny (model prog w) A (eqBool (.ref a) (.ref b)) Q E s:=by
 unfold eqBool
 try with_reducible refine wpAny_holding ?_
 show wpAny _ _ (if (Value.ref a==Value.ref b)=true then _ else _) Q E s;by_cases hab:(Value.ref a==Value.ref b)=true
 .rw[if_pos hab];have e:a=b:=by have:=eq_of_beq hab;injection this
  subst e;obtain rfl:=hx.inj hy;exact wpAny_bind (wpAny_rule (wpAny_pure (by simpa using h)))
 .rw[if_neg hab];exact wpAny_bind (wpAny_richCompare_same_room (op:=.Eq) hx.typ hy.typ F.slot_tuple_eq
   (wpAny_call_entry F.slot_tuple_eq hx.typ F.entry_tuple_eq (a6H (by(try simp only[Around.in1_units]);omega) hx hy ⟨_,rfl,(λe=>nomatch e),wpAny_truthy_bool h⟩) (F.args_tuple_eq_2 _ _)) (by omega))
theorem a6N{m:Nat}{ks:List κ}{a:Addr}{Q:Bool->Shared->Prop}(hk:IsTupleKey kd s.heap ks a)(h:Q true s):wpAny (model prog w) A (eqIsQuiet (m+1) (.ref a)) Q E s:=by
 have hT:=hk.typeIs;obtain⟨o,items,n,ho,_,hd,hi⟩:=hk;unfold eqIsQuiet;refine wpAny_bind (wpAny_specialOf hT F.slot_tuple_eq.lookup ?_);show wpAny _ _ (isInstance (.ref a) (.type "tuple")>>=_) _ _ s;refine wpAny_bind (wpAny_isInstance hT isSubtype_tuple_tuple ?_);simp only[Bool.not_true,Bool.false_eq_true,if_false];refine wpAny_bind (wpAny_seqItems ho hd ?_);refine wpAny_bind ?_;show wpAny _ _ (forIn items _ _) _ _ s;rw[<-Array.forIn_toList];refine wpAny_forIn_list _ (λrest r s'=>r.1=none/\s'=s/\∀v∈rest,carriedByValue v=true) _ ?_ ?_ _ _ ⟨rfl,rfl,hi.byValue⟩
 .rintro v rest r s' ⟨hr,rfl,hall⟩;rw[eqIsQuiet_byValue _ (hall v List.mem_cons_self)];refine wpAny_bind (wpAny_pure ?_);simp only[Bool.not_true,Bool.false_eq_true,if_false];exact wpAny_pure ⟨rfl,rfl,λu hu'=>hall u (List.mem_cons_of_mem _ hu')⟩
 .rintro⟨r1,r2⟩ s' ⟨hr,rfl,_⟩;simp only at hr;subst hr;exact wpAny_pure h
theorem a8a{kss:List (List κ)}{a:Addr}{Q:Bool->Shared->Prop}(hk:IsTT kd s.heap kss a)(h:Q true s):wpAny (model prog w) A (eqIsQuiet 8 (.ref a)) Q E s:=by
 have hT:=hk.typ;obtain⟨o,items,n,ho,_,hd,hi⟩:=hk;unfold eqIsQuiet;refine wpAny_bind (wpAny_specialOf hT F.slot_tuple_eq.lookup ?_);show wpAny _ _ (isInstance (.ref a) (.type "tuple")>>=_) _ _ s;refine wpAny_bind (wpAny_isInstance hT isSubtype_tuple_tuple ?_);simp only[Bool.not_true,Bool.false_eq_true,if_false];refine wpAny_bind (wpAny_seqItems ho hd ?_);refine wpAny_bind ?_;show wpAny _ _ (forIn items _ _) _ _ s;rw[<-Array.forIn_toList];refine wpAny_forIn_list _ (λrest r s'=>r.1=none/\s'=s/\∃left,Rfs kd s.heap left rest) _ ?_ ?_ _ _ ⟨rfl,rfl,kss,hi⟩
 .rintro v rest r s' ⟨hr,rfl,left,hl⟩;cases hl with
  |cons h1 hl' =>
   refine wpAny_bind (a6N (m:=6) h1 ?_);simp only[Bool.not_true,Bool.false_eq_true,if_false];exact wpAny_pure ⟨rfl,rfl,_,hl'⟩
 .rintro⟨r1,r2⟩ s' ⟨hr,rfl,_⟩;simp only at hr;subst hr;exact wpAny_pure h
end
def a1l{prog:Program}{w:World}{κ:Type}[DecidableEq κ](kd:KeyKind prog w κ):HeapKind prog w (List (List κ)) where
 is:=IsTT kd
 hash:=a4J kd
 draws:=a2M
 room:=λA=>A.units+8<cLine
 inj:=λhx hy=>hx.inj hy
 keeps:=λx ho hd hs=>x.keeps ho hd hs
 pyHash:=λhu hk h=>b0A hu hk h
 eqBool:=λhu hx hy h=>b4W hu hx hy h
 quiet:=λhk h=>a8a hk h
def h2(kss:LLI):Int:=reduceHash (Builtin.Tuple.tupleHashOf (kss.map λks=>reduceHash (Builtin.Tuple.tupleHashOf (ks.map hashInt))))
def LdO(d:Addr)(xs:List (LLI×Addr×Value)):HO:=.ext λh=>(d==sysModules)=false/\xs.length<=sizeLine /\
 ∃ob es ep,h.get? d=some ob/\ob.ExactDict/\ob.data=.dict es ep/\es.toList=xs.map (λx=>⟨h2 x.1,.ref x.2.1,x.2.2⟩)/\(xs.map (·.1)).Nodup
def Tq(H:Hp)(a:Addr)(kss:LLI):Prop:=∃vs,H a=some (.tup vs)/\Its H vs kss
abbrev K2(H:Hp):List (LLI×V)->List (LLI×Addr×Value)->Prop:=Paired λp q=>p.1=q.1/\Tq H q.2.1 p.1/\RelV p.2 q.2.2
def LD(H:Hp)(d:Addr)(kvs:List (LLI×V)):Prop:=∃xs,H d=some (LdO d xs)/\K2 H kvs xs
theorem Tq.same{H H':Hp}{a:Addr}{kss:LLI}(h:Tq H a kss)(s:Same H H'):Tq H' a kss:=by
 obtain⟨vs,e,r⟩:=h;exact⟨vs,s _ _ e,r.1,λi v q=>let ⟨x,h1,y,h2,h3⟩:=r.2 i v q;⟨x,h1,y,h2,s _ _ h3⟩⟩
theorem Tq.off{H H':Hp}{a:Addr}{kss:LLI}(h:Tq H a kss)(s:∀b ys,H b=some (.tup ys)->H' b=some (.tup ys)):Tq H' a kss:=by
 obtain⟨vs,e,r⟩:=h;exact⟨vs,s _ _ e,r.1,λi v q=>let ⟨x,h1,y,h2,h3⟩:=r.2 i v q;⟨x,h1,y,h2,s _ _ h3⟩⟩
theorem LD.off{H H':Hp}{d:Addr}{kvs:List (LLI×V)}(h:LD H d kvs)(s:∀b ys,H b=some (.tup ys)->H' b=some (.tup ys))(e:H' d=H d):LD H' d kvs:=by
 obtain⟨xs,e1,r⟩:=h;exact⟨xs,e.trans e1,Paired.mapP r λ_ _ z=>⟨z.1,z.2.1.off s,z.2.2⟩⟩
theorem LD.same{H H':Hp}{d:Addr}{kvs:List (LLI×V)}(h:LD H d kvs)(s:Same H H'):LD H' d kvs:=by
 obtain⟨xs,e1,r⟩:=h;exact⟨xs,s _ _ e1,Paired.mapP r λ_ _ z=>⟨z.1,z.2.1.same s,z.2.2⟩⟩
theorem K2.val{H:Hp}{kvs:List (LLI×V)}{xs:List (LLI×Addr×Value)}(r:K2 H kvs xs)(k:LLI):RelO (N0 kvs k) ((atKey xs k).map (·.2)):=by
 induction r with
 |nil=>exact True.intro
 |@cons p q ps qs h t ih =>
  obtain⟨h1,_,h2⟩:=h;by_cases e:p.1=k
  .have b:atKey (q::qs) k=some q.2:=by simp[atKey,List.find?_cons,h1.symm.trans e]
   rw[X7 e,b];exact h2
  .have e':¬q.1=k:=λz=>e (h1.trans z);have b:atKey (q::qs) k=atKey qs k:=by simp[atKey,List.find?_cons,e']
   rw[X8 e,b];exact ih
theorem K2.put{H:Hp}{kvs:List (LLI×V)}{xs:List (LLI×Addr×Value)}(r:K2 H kvs xs)(k:LLI){b:Addr}{y:V}{u:Value}(hb:Tq H b k)(ry:RelV y u) :
  K2 H (Q9 kvs k y) (storedH xs k b u):=by
 have e:(kvs.any λkv=>decide (kv.1=k))=(atKey xs k).isSome:=by
  rw[P7,(K2.val r k).isSome_eq,Option.isSome_map]
 unfold Q9 storedH;rw[e];by_cases q:(atKey xs k).isSome=true
 .rw[if_pos q,if_pos q];clear e q;induction r with
  |nil=>exact .nil
  |@cons p q ps qs h t ih =>
   rw[List.map_cons,List.map_cons];refine .cons ?_ ih;obtain⟨h1,h2,h3⟩:=h;unfold putAt;by_cases e:p.1=k
   .rw[if_pos e,if_pos (h1.symm.trans e)];exact⟨h1,h2,ry⟩
   .rw[if_neg e,if_neg (λz=>e (h1.trans z))];exact⟨h1,h2,h3⟩
 .rw[if_neg q,if_neg q];exact Paired.snoc r ⟨rfl,hb,ry⟩
section
variable {P:Program}{w:World}{H:Hp}{h:Heap}{a:Addr}
theorem a4m:∀{ks:List Int}{us:List Value},Vals (ks.map V.int) us->ItemsAre (intKind P w) ks us
 |[],_,r=>by rw[List.map_nil]at r;cases r;exact .nil
 |k::ks,_,r=>by
  rw[List.map_cons]at r;cases r with
  |cons h t =>
   obtain⟨tk,e⟩:=(show ∃t,_=Value.int k t from h);subst e;exact .cons (by show Value.isInt k (.int k tk)=true;simp[Value.isInt]) (a4m t)
theorem b1T{ks:List Int}(ok:HOk P w H h)(e:H a=some (.tup (ks.map V.int))):IsTupleKey (intKind P w) h ks a:=by
 obtain⟨_,its,r,o,h1,h2,n,h3⟩:=(show ObjOk P w H h a (.tup (ks.map V.int))from ok a _ e);exact⟨o,its.toArray,n,h1,h2,h3,by simpa using a4m r⟩
theorem a8A(ok:HOk P w H h):∀{kss:LLI}{vs:List V}{us:List Value},Its H vs kss->Vals vs us->Rfs (intKind P w) h kss us
 |[],vs,us,i,r=>by
  obtain rfl:=List.length_eq_zero_iff.mp i.1;cases r;exact .nil
 |ks::kss,[],us,i,r=>nomatch i.1
 |ks::kss,v::vs,us,i,r=>by
  cases r with
  |cons h t =>
   obtain⟨x,e1,y,e2,e3⟩:=i.2 0 v rfl;simp only[List.getElem?_cons_zero,Option.some.injEq]at e1;subst e1 e2;cases(show _=Value.ref y from h);exact .cons (b1T ok e3) (a8A ok ⟨by have:=i.1;simp at this;exact this,λj u q=>i.2 (j+1) u (by simpa using q)⟩ t)
theorem a8b{kss:LLI}(ok:HOk P w H h)(e:Tq H a kss):IsTT (intKind P w) h kss a:=by
 obtain⟨vs,e,i⟩:=e;obtain⟨_,its,r,o,h1,h2,n,h3⟩:=(show ObjOk P w H h a (.tup vs)from ok a _ e);exact⟨o,its.toArray,n,h1,h2,h3,by simpa using a8A ok i r⟩
theorem a9r{kvs:List (LLI×V)}(ok:HOk P w H h)(e:LD H a kvs):kvs.length<=sizeLine/\(a==sysModules)=false/\∃xs,H a=some (LdO a xs)/\K2 H kvs xs/\h.DictOfH (a1l (intKind P w)) a xs:=by
 obtain⟨xs,e,r⟩:=e;obtain⟨⟨hs,hz,ob,es,ep,e1,e2,e3,e4,e5⟩,_⟩:=(show ObjOk P w H h a (LdO a xs)from ok a _ e);refine⟨by rw[Paired.length r];exact hz,hs,xs,e,r,ob,es,ep,e1,e2,e3,e4,λx hx=>?_,e5⟩;have all:∀{l:List (LLI×V)}{m:List (LLI×Addr×Value)},K2 H l m->∀x∈m,IsTT (intKind P w) h x.1 x.2.1:=by
  intro l m q;induction q with
  |nil=>intro x hx;exact nomatch hx
  |@cons p q ps qs hq t ih =>
   intro x hx;rcases List.mem_cons.mp hx with e|hx
   .subst e;rw[<-hq.1];exact a8b ok hq.2.1
   .exact ih x hx
 exact all r x hx
theorem a9s{H':Hp}{h':Heap}{xs:List (LLI×Addr×Value)}(hz:xs.length<=sizeLine)(hs:(a==sysModules)=false)(dd:h'.DictOfH (a1l (intKind P w)) a xs):ObjOk P w H' h' a (LdO a xs):=by
 obtain⟨ob,es,ep,e1,e2,e3,e4,_,e5⟩:=dd;refine⟨⟨hs,hz,ob,es,ep,e1,e2,e3,e4,e5⟩,⟨ob,e1⟩,λh1 h2 ⟨g1,g2,ob',es',ep',f1,f⟩ k=>⟨g1,g2,ob',es',ep',k _ f1,f⟩⟩
end
def b3j:TE:=λ_ H Q=>∀p,H p=none->Q (.ref p) (upd H p (LdO p []))
def b2p(td ty tx:TE):TE:=λσ H Q=>td σ H λx H1=>∃a kvs,x=.ref a/\LD H1 a kvs/\ty σ H1 λy H2=>tx σ H2 λz H3=>∃b kss,y=.ref b/\LD H3 a kvs/\Tq H3 b kss/\Q ((N0 kvs kss).getD z) H3
def b2v(td ty tv:TE):TS:=λD σ H=>tv σ H λv H1=>td σ H1 λx H2=>ty σ H2 λy H3=>∃a b kss kvs,x=.ref a/\y=.ref b/\LD H3 a kvs/\Tq H3 b kss/\kvs.length<sizeLine/\∀xs,LD (upd H3 a (LdO a xs)) a (Q9 kvs kss v)->D.nx σ (upd H3 a (LdO a xs))
section
variable {X:Cx}{o i e f value:Expr}{pos pos' apos cpos:Pos}{td ty tv tx:TE}
theorem b0W(hu:X.A.units+60<cLine)(ho:PE X o td)(hi:PE X i ty)(hv:PE X value tv)(hs:swapsWith value (some (.Subscript o i pos')) pos.line X.env=pure false) :
  PS X (.Assign [.Subscript o i pos'] value pos) (b2v td ty tv):=by
 intro pins s σ H D I h;refine wpAny_Assign_Subscript (thn (hv pins s σ H _ I h) λr s1 ⟨v,H1,I1,rv,q1⟩=>thn (ho pins s1 σ H1 _ I1 q1) λu s2 ⟨x,H2,I2,rx,q2⟩=>thn (hi pins s2 σ H2 _ I2 q2) λiv s3 ⟨y,H3,I3,ry,a,b,kss,kvs,ex,ey,hd,hk,hl,q3⟩=>?_) hs;subst ex ey;obtain rfl:u=Value.ref a:=rx;cases(show iv=Value.ref b from ry);obtain⟨z,hsys,xs,e,rel,dd⟩:=a9r I3.hok hd;have hz:xs.length<=sizeLine:=by rw[<-Paired.length rel];exact z
 refine wpAny_setItem_heap (hsz:=hz) (show(a1l (intKind X.prog X.w)).room X.A.in1 from by show X.A.in1.units+8<cLine;simp only[Around.in1_units];omega) (a8b I3.hok hk) dd λh' dd' hs=>?_;have rel':=K2.put rel kss hk rv;have hl':(storedH xs kss b r).length<=sizeLine:=by
  rw[<-Paired.length rel'];have:=O2 kvs kss v;omega
 obtain⟨q,_,_,hq,_⟩:=id dd';have keep:∀c ys,H3 c=some (.tup ys)->upd H3 a (LdO a (storedH xs kss b r)) c=some (.tup ys):=λc ys ec=>by
  rw[A3 (L6 ec e (λz=>nomatch z))];exact ec
 refine⟨σ,_,a1b I3 (by rw[e];exact True.intro) hs ⟨q,hq⟩ (a9s hl' hsys dd'),q3 _ ⟨_,A0,Paired.mapP rel' λ_ _ z=>⟨z.1,z.2.1.off keep,z.2.2⟩⟩⟩
theorem b1J(hu:X.A.units+60<cLine)(ho:JE X o td)(hi:JE X i ty)(hv:JE X value tv)(hs:swapsWith value (some (.Subscript o i pos')) pos.line X.env=pure false:=by rfl):JS X (.Assign [.Subscript o i pos'] value pos) (b2v td ty tv):=⟨b0W hu ho.h hi.h hv.h hs⟩
theorem b1P:JE X (.Dict [] [] pos) b3j:=⟨λpins s σ H Q I h =>
 wpAny_Dict_empty ⟨.ref s.heap.objs.size,_,I.laid (a:=s.heap.objs.size) (o:=LdO s.heap.objs.size []) (t':=s.toks) (λ_ _ q=>Heap.get?_push_of_some _ q) (Nat.le_refl _) (a9s (Nat.zero_le _) (beq_eq_false_iff_ne.mpr (Ne.symm (Nat.ne_of_lt I.big))) (Heap.DictOfH.new s.heap)),rfl,h _ (I.hok.fresh (Nat.le_refl _))⟩⟩
theorem b1l(hu:X.A.units+60<cLine)(ho:PE X o td)(he:PE X e ty)(hf:PE X f tx)(m:M2 X o "get" apos e f cpos):PE X (.Call (.Attribute o "get" apos) [e,f] [] cpos) (b2p td ty tx):=by
 intro pins s σ H Q I h;refine wpAny_Call_method m.base m.few m.line PySem.F.plainAttrs_dict PySem.F.slot_dict_get PySem.F.type_dict_get (thn (ho pins s σ H _ I h) λu s1 ⟨x,H1,I1,rx,a,kvs,ex,d,q1⟩=>?_);subst ex;obtain rfl:u=Value.ref a:=rx;obtain⟨_,_,xs1,_,_,dd1⟩:=a9r I1.hok d;refine⟨dd1.typeIs,λb q=>?_,?_⟩
 .cases q;obtain⟨ob,_,_,h1,h2,_⟩:=dd1;exact⟨ob,h1,h2.2.1⟩
 rw[m.trees];refine Calls.callWith_builtin rfl (Calls.evalArgs_plain (Calls.spliced_cons (thn (he pins s1 σ H1 _ I1 q1) λiv s2 ⟨y,H2,I2,ry,q2⟩ =>
  Calls.spliced_cons (thn (hf pins s2 σ H2 _ I2 q2) λfv s3 ⟨z,H3,I3,rz,b,kss,ey,hd,hk,q3⟩=>Calls.spliced_nil ?_))))
 subst ey;cases(show iv=Value.ref b from ry);obtain⟨_,hsys,xs,_,rel,dd⟩:=a9r I3.hok hd;refine call_meetsIn PySem.F.slot_dict_get dd.typeIs PySem.F.entry_dict_get (PySem.F.args_dict_get_3 _ _ _) (meetsH_dict_get_default (a1l (intKind X.prog X.w)) a b hsys fv) ⟨(show(a1l (intKind X.prog X.w)).room X.A.in1 from by show X.A.in1.units+8<cLine;simp only[Around.in1_units];omega),kss,xs,a8b I3.hok hk,dd,?_⟩;exact⟨_,H3,I3.tok _,(K2.val rel kss).getD rz,q3⟩
theorem b4t(hu:X.A.units+60<cLine)(ho:JE X o td)(he:JE X e ty)(hf:JE X f tx)(base:attributeBase o "get" X.env (eval o X.env)=eval o X.env:=by rfl)
  (few:((backTo cpos (starEach [e,f] X.env)).all (λx=>!x.1) && (backToKw cpos (keywordEach [] X.env)).all (λx=>x.1.isSome) && decide (([e,f]:List Expr).length+([]:List Keyword).length+(if ([]:List Keyword).isEmpty then 0 else 1)<30))=true:=by rfl)
  (line:(apos.endLine==cpos.line)=true:=by rfl) (trees:backTo cpos (starEach [e,f] X.env)=[(false,eval e X.env),(false,eval f X.env)]:=by rfl) :
  JE X (.Call (.Attribute o "get" apos) [e,f] [] cpos) (b2p td ty tx):=⟨b1l hu ho.h he.h hf.h ⟨base,few,line,trees⟩⟩
end
end L2
namespace L2
open PySem PySem.Spec PyProof.Rows PySem.W
section
variable {prog:Program}{w:World}{A:Around}{E:Value->Shared->Prop}{s:Shared}
theorem a1D{a:Addr}{vs:List Value}{rss:LLI}{n:Nat}{P:Fin->Shared->Prop}(ho:s.heap.get? a=some (seqObj "list" vs.toArray n))(T:TupsAre s.heap vs rss)(hw:2<=rss.length->∀r∈rss,0<r.length)(hz:vs.length<=sizeLine)
  (h:∀os:List Value,os.Perm vs->os.Pairwise (λx y=>HT.lexLt (B9 s.heap y) (B9 s.heap x)=false)->P (.done (.ret .none)) {s with heap:=sortedHeap s.heap a vs os.toArray}) :
  wpAny (model prog w) A (Builtin.«list.sort» ⟨[.ref a],[]⟩) P E s:=by
 rw[list_sort_plain];have ha:a<s.heap.objs.size:=Heap.lt_size ho;refine wpAny_bind (listItems_at ho rfl ?_);refine wpAny_bind (listUpdate_at ho rfl ?_ (by rw[List.size_toArray];omega) (Nat.zero_le _));obtain⟨e1,ho1⟩:∃e1,(s.heap.update a (Obj.mapSeq λ_=>#[])).get? a=some (seqObj "list" #[] e1):=⟨_,get?_update_seq ho (λ_=>#[])⟩;refine wpAny_bind (seqEpoch_at ho1 rfl ?_);refine wpAny_bind (wpAny_newTuple ?_ (by show vs.length<=_;omega));refine wpAny_bind (wpAny_newList ?_ (Nat.zero_le _));refine wpAny_holding ?_;have ho6:(((s.heap.update a (Obj.mapSeq λ_=>#[])).push (seqObj "tuple" vs.toArray 0)).push (seqObj "list" #[] 0)).get? a=some (seqObj "list" #[] e1):=by
  rw[Heap.get?_push_ne _ _ _ (by rw[size_push',Heap.size_update];exact Nat.ne_of_lt (Nat.lt_succ_of_lt ha)),Heap.get?_push_ne _ _ _ (by rw[Heap.size_update];exact Nat.ne_of_lt ha)];exact ho1
 have keepT:∀b its,IsTup s.heap b its->IsTup (((s.heap.update a (Obj.mapSeq λ_=>#[])).push (seqObj "tuple" vs.toArray 0)).push (seqObj "list" #[] 0)) b its:=λb its ⟨o,q1,q2,q3⟩=>by
  have hb:b≠a:=λz=>by
   rw[z,ho]at q1;cases q1;have q2:Value.type "list"=Value.type "tuple":=q2;injection q2 with q2
   exact absurd q2 (by decide)
  refine⟨o,?_,q2,q3⟩;exact Heap.get?_push_of_some _ (Heap.get?_push_of_some _ (by rw[Heap.get?_update_ne _ _ _ _ hb];exact q1))
 have T6:=T.keeps keepT;show wpAny (model prog w) A _ P E {s with heap:=((s.heap.update a (Obj.mapSeq λ_=>#[])).push (seqObj "tuple" vs.toArray 0)).push (seqObj "list" #[] 0)};have rowEq:∀v∈vs,B9 (((s.heap.update a (Obj.mapSeq λ_=>#[])).push (seqObj "tuple" vs.toArray 0)).push (seqObj "list" #[] 0)) v=B9 s.heap v:=λv hv=>by
  obtain⟨i,hi⟩:=List.mem_iff_getElem?.mp hv;obtain⟨r,b,its,_,e2,e3,e4⟩:=T.2 i v hi;rw[e2,B7 e3 e4,B7 (keepT b its e3) e4]
 generalize hH6:((s.heap.update a (Obj.mapSeq λ_=>#[])).push (seqObj "tuple" vs.toArray 0)).push (seqObj "list" #[] 0)=H6 at ho6 T6 rowEq;dsimp only;have fin:∀os:List Value,os.Perm vs->os.Pairwise (λx y=>HT.lexLt (B9 s.heap y) (B9 s.heap x)=false)->P (.done (.ret .none)) {s with heap:=H6.update a (Obj.mapSeq λ_=>os.toArray)}:=λos h1 h2=>by
  have:=h os h1 h2;unfold sortedHeap at this;rw[hH6]at this;exact this
 by_cases h2:vs.toArray.size<2
 .have h2':vs.length<2:=by simpa using h2
  rw[if_pos h2,if_pos h2];refine wpAny_bind (wpAny_pure ?_);rw[StateT.run_pure];refine wpAny_bind (wpAny_pure ?_);dsimp only;refine wpAny_bind (seqEpoch_at ho6 rfl ?_);refine wpAny_bind (listUpdate_at ho6 rfl ?_ (Nat.zero_le _) (by rw[Array.size_map];show(pairsOf vs).size<=_;rw[pairsOf_size];omega));simp only[bne_self_eq_false,Bool.false_eq_true,if_false];have e:((vs.toArray.zip vs.toArray).map (·.2))=vs.toArray:=by
   apply Array.toList_inj.mp;simp[List.map_snd_zip]
  show wpAny _ _ _ _ _ {s with heap:=H6.update a (Obj.mapSeq λ_=>(vs.toArray.zip vs.toArray).map (·.2))};rw[e];refine wpAny_pure (fin vs (.refl _) ?_);rw[List.pairwise_iff_getElem];intro i j hi hj hij;omega
 .have h2':2<=vs.length:=by
   have:¬vs.length<2:=by simpa using h2
   omega
  rw[if_neg h2,if_neg h2];refine wpAny_bind (a2k T6 (hw (by rw[<-T.1];exact h2')) (by omega) ?_);have hDH:AllD (DH H6) (vs.toArray.zip vs.toArray):=λx hx=>by
   have hx':x∈vs.zip vs:=by simpa using hx
   obtain⟨_,hm⟩:=mem_zip_self hx';obtain⟨i,hi⟩:=List.mem_iff_getElem?.mp hm;obtain⟨r,b,its,_,e2,e3,e4⟩:=T6.2 i _ hi;exact⟨b,its,r,e2,e3,e4⟩
  refine wpAny_bind (wpAny_mono (a0y (s:={s with heap:=H6}) (st:=SortSt.mk' (tuples' true) (vs.toArray.zip vs.toArray) #[] 7 none) (kf:=kfH H6) (D:=DH H6) (b5E (s:={s with heap:=H6})) rfl hDH rfl rfl
   (Q:=λ_ st'=>(arrOf st').Perm (vs.toArray.zip vs.toArray)/\failedOf st'=none/\(arrOf st').toList.Pairwise (leK (kfH H6))) λst' q1 q2 q3=>⟨q1,q2,q3⟩) ?_ λ_ _ e=>e)
  rintro⟨⟨⟩,st'⟩ s' ⟨rfl,hp,hf,hs⟩;dsimp only at hp hf hs⊢;have hpl:(arrOf st').toList.Perm (vs.zip vs):=by
   have:=Array.perm_iff_toList_perm.mp hp;simpa using this
  have hos:((arrOf st').toList.map (·.2)).Perm vs:=by
   have:=hpl.map Prod.snd;rwa[List.map_snd_zip (Nat.le_refl _)]at this
  have hsame:∀x∈(arrOf st').toList,x.1=x.2/\x.1∈vs:=λx hx=>mem_zip_self (hpl.mem_iff.mp hx);have e:(arrOf st').map (·.2)=((arrOf st').toList.map (·.2)).toArray:=by
   apply Array.toList_inj.mp;simp
  refine wpAny_bind (seqEpoch_at ho6 rfl ?_);rw[e];refine wpAny_bind (listUpdate_at ho6 rfl ?_ (Nat.zero_le _) (by rw[List.size_toArray,hos.length_eq];omega));rw[hf];simp only[bne_self_eq_false,Bool.false_eq_true,if_false];refine wpAny_pure (fin _ hos ?_);rw[List.pairwise_map];refine hs.imp_of_mem λ{x y} hx hy hxy=>?_;have h1:=hsame x hx;have h2:=hsame y hy;rw[<-h1.1,<-h2.1,<-rowEq _ h1.2,<-rowEq _ h2.2];exact hxy
theorem a0t{x:Value}{vs:List Value}{rss:LLI}{Q:Value->Shared->Prop}(hcol:∀(A':Around) (E':Value->Shared->Prop) (Q':List Value->Shared->Prop),(∀h1:Heap,(∀b o,s.heap.get? b=some o->h1.get? b=some o)->Q' vs {s with heap:=h1})->wpAny (model prog w) A' (collect x) Q' E' s)
  (T:TupsAre s.heap vs rss) (hw:2<=rss.length->∀r∈rss,0<r.length) (hz:vs.length<=sizeLine)
  (h:∀(h1 h':Heap) (os:List Value) (c:Nat),(∀b o,s.heap.get? b=some o->h1.get? b=some o)->(∀b o,h1.get? b=some o->h'.get? b=some o)->h'.get? h1.objs.size=some (seqObj "list" os.toArray c)->os.Perm vs->os.Pairwise (λx y=>HT.lexLt (B9 s.heap y) (B9 s.heap x)=false)->Q (.ref h1.objs.size) {s with heap:=h'}) :
  wpAny (model prog w) A (call (.builtin "sorted") [x]) Q E s:=by
 refine Calls.call_function_entry kind_sorted plain_sorted entry_sorted (args_sorted1 _) ?_;unfold Builtin.«sorted»;refine wpAny_bind (m:=checkCount "sorted" 1 1 _) (wpAny_pure ?_);refine wpAny_bind (hcol _ _ _ λh1 k1=>?_);refine wpAny_bind (wpAny_newList ?_ (by omega));have hoL:(h1.push (seqObj "list" vs.toArray 0)).get? h1.objs.size=some (seqObj "list" vs.toArray 0):=Heap.get?_push_size _ rfl;have keepT:∀b its,IsTup s.heap b its->IsTup (h1.push (seqObj "list" vs.toArray 0)) b its:=λb its ⟨o,q1,q2⟩=>⟨o,Heap.get?_push_of_some _ (k1 _ _ q1),q2⟩;have T2:=T.keeps keepT;have rowEq:∀v∈vs,B9 (h1.push (seqObj "list" vs.toArray 0)) v=B9 s.heap v:=λv hv=>by
  obtain⟨i,hi⟩:=List.mem_iff_getElem?.mp hv;obtain⟨r,b,its,_,e2,e3,e4⟩:=T.2 i v hi;rw[e2,B7 e3 e4,B7 (keepT b its e3) e4]
 show wpAny _ _ _ _ _ {s with heap:=h1.push (seqObj "list" vs.toArray 0)};refine wpAny_bind (wpAny_holding (wpAny_call_entry slot_list_sort ⟨_,hoL,rfl⟩ entry_list_sort (a1D (s:={s with heap:=h1.push (seqObj "list" vs.toArray 0)}) hoL T2 hw hz λos hp hs=>⟨_,rfl,?_⟩) (args_list_sort _)));obtain⟨c,hc⟩:=O6 (out:=os.toArray) hoL;refine wpAny_pure ⟨_,rfl,h h1 _ os c k1 (λb o e=>?_) hc hp (hs.imp_of_mem λ{x y} hx hy hxy=>?_)⟩
 .exact L3 b o (Nat.ne_of_lt (Heap.lt_size e)) (Heap.get?_push_of_some _ e)
 .rw[<-rowEq _ (hp.mem_iff.mp hx),<-rowEq _ (hp.mem_iff.mp hy)];exact hxy
end
def a8E(K:PySem.W.Frag):RL:=λxs H Q=>∃(p:Addr) (ys:List V) (rss:LLI),xs=[.ref p]/\(SqL K H p ys∨SqT K H p ys)/\Its H ys rss/\(2<=rss.length->∀r∈rss,0<r.length) /\
 ∀l zs tss,H l=none->Its H zs tss->tss.Perm rss->J7 tss->zs.Perm ys->Q (.ref l) (upd H l (.lst zs))
section
variable {X:Cx}
theorem a5r(K:PySem.W.Frag)(hK:X.K=K:=by rfl):C8 X (.builtin "sorted") (a8E K):=by
 subst hK;intro pins s σ H xs us Q I rv h;obtain⟨p,ys,rss,rfl,hq,hI,hw,q⟩:=h;obtain⟨u,rfl,ru⟩:=rv.one;cases ru;obtain⟨its,ri,hz,hcol⟩:∃its:List Value,Vals ys its/\ys.length<=sizeLine/\∀(A':Around) (E':Value->Shared->Prop) (Q':List Value->Shared->Prop),(∀h1:Heap,(∀b o,s.heap.get? b=some o->h1.get? b=some o)->Q' its {s with heap:=h1})->wpAny (model X.prog X.w) A' (collect (.ref p)) Q' E' s:=by
  rcases hq with hq|hq
  .obtain⟨its,r',pl,hz⟩:=I.list hq;obtain⟨o,ho,hc,n,hd⟩:=pl.isList;have hlen:=r'.length;exact⟨its,r',hz,λA' E' Q' k=>wpAny_collect_seq p (.inl rfl) ho hc hd (λh' k'=>k h' k') (by simp only[List.size_toArray];omega)⟩
  .obtain⟨its,r',pl,hz⟩:=I.tuple hq;obtain⟨o,ho,hc,n,hd⟩:=pl;have hlen:=r'.length;exact⟨its,r',hz,λA' E' Q' k=>wpAny_collect_seq p (.inr rfl) ho hc hd (λh' k'=>k h' k') (by simp only[List.size_toArray];omega)⟩
 have hl:=ri.length;have TT:=a1O I hI ri;obtain⟨T,t1,t2,t3,t4⟩:=T8 ri hI.1;refine a0t hcol TT hw (by omega) λh1 h' os c k1 k2 e hp hs=>?_;obtain⟨T',p1,p2⟩:=R0 (f:=λt:Value×V×List Int=>t.1) hp t1.symm;have I1:=I.kept (t':=s.toks) k1;have hT:∀t∈T',RelV t.2.1 t.1/\IT H t.2.1 t.2.2/\B9 s.heap t.1=t.2.2:=λt ht=>by
  obtain⟨i,hi⟩:=List.mem_iff_getElem?.mp (p1.mem_iff.mp ht);obtain⟨r1,r2,r3⟩:=t4 i t hi;obtain⟨row,q1,q2⟩:=hI.2 i _ r2;rw[r3]at q1;cases q1;have e5:its[i]?=some t.1:=by rw[<-t1,List.getElem?_map,hi];rfl
  obtain⟨r',b,its',f1,f2,f3,f4⟩:=TT.2 i _ e5;rw[r3]at f1;cases f1;exact⟨r1,q2,by rw[f2];exact B7 f3 f4⟩
 have hzp:(T'.map (·.2.1)).Perm ys:=by rw[<-t2];exact p1.map _
 have hv:Vals (T'.map (·.2.1)) os:=by rw[<-p2];exact N6 λt ht=>(hT t ht).1
 have I2:=I1.laid (h':=h') (a:=h1.objs.size) (o:=.lst (T'.map (·.2.1))) (t':=s.toks) k2 (Nat.le_refl _) ⟨by rw[hzp.length_eq];exact hz,os,c,hv,e⟩;refine⟨.ref h1.objs.size,_,I2,rfl,q _ _ (T'.map (·.2.2)) (I1.hok.fresh (Nat.le_refl _)) ⟨by rw[List.length_map,List.length_map],λi v ei=>?_⟩ (by rw[<-t3];exact p1.map _) ?_ hzp⟩
 .rw[List.getElem?_map]at ei⊢;cases e2:T'[i]? with
  |none=>rw[e2]at ei;cases ei
  |some t =>
   rw[e2]at ei;cases ei;exact⟨t.2.2,rfl,(hT t (List.mem_of_getElem? e2)).2.1⟩
 .unfold J7;rw[List.pairwise_map];rw[<-p2,List.pairwise_map]at hs;refine hs.imp_of_mem λ{x y} hx hy hxy=>?_;rw[(hT x hx).2.2,(hT y hy).2.2]at hxy;exact hxy
theorem a9A(K:PySem.W.Frag){e:Expr}{t:TA}{p pos:Pos}(hg:Gl X "sorted")(hm:X.mg "sorted"=none)(ha:JA X [e] t)(hK:X.K=K:=by rfl)(he:starEach [e] X.env=(false,eval e X.env)::starEach [] X.env:=by rfl)(hpl:(backTo pos (starEach [] X.env)).any (·.1)=false:=by rfl):JE X (.Call (.Name "sorted" p) [e] [] pos) (tCB (a8E K) t):=⟨C9 (a5r K hK) hg hm a0u ha.h (by decide) (by decide) he hpl⟩
end
end L2
namespace L2
open PySem PySem.Spec PyProof.Rows
section
variable {prog:Program}{w:World}{A:Around}{E:Value->Shared->Prop}{s:Shared}
end
section
variable {prog:Program}{w:World}{A:Around}{E:Value->Shared->Prop}
end
section
variable {X:Cx}{pins:List (Addr×Obj)}{σ:St}{H:Hp}{s:Shared}{h':Heap}
end
section
variable {X:Cx}{a e:Expr}{ta:TA}{te:TE}{p p2 pos pos2:Pos}
end
section
variable {X:Cx}{e tg:Expr}{te:TE}{p pos:Pos}
end
section
variable {X:Cx}{k k':Nat}{ps ps':List Str}{sp sp':Sp}{x x' y:Str}{p p' pos ipos cpos cpos' pos':Pos}{e e' c:Expr}{es es':List Expr}{t t':TA}{tc:TT}{i:Nat}
end
structure MethOkE(P:Program)(w:World)(K:PySem.W.Frag)(mg:Str->Option Value)(base:Heap)(C:Addr)(m:Str)(k:Nat)(ps:List Str)(sp:Sp):Prop where
 ex:∃f fd,Meth K C m f/\Binds K fd ps []/\FnOk P w K mg base (CXE P w) k f fd ps sp
theorem MethAt.fnE{P:Program}{w:World}{K:PySem.W.Frag}{mg:Str->Option Value}{base:Heap}{C:Addr}{m qual:Str}{st:Stmt}{N ps:List Str}{k:Nat}{sp:Sp}(F:MethAt K C m qual st ps)(S:FnScope N ps (A2 st))(len:∀vs H Q E,sp vs H Q E->vs.length=ps.length)
  (hbody:∀(cdv:Value) (f:Addr) (A:Around) (outer:List Env) (s:Shared) (H:Hp) (vs:List V) (Q:VK) (E:XK),Room k (A.deeper (envOfC qual (A2 st) s.heap.objs.size f cdv))->sp vs H Q E ->
   ∃t,JB (G2 (CXE P w) P w K mg base N qual (A2 st) f cdv A outer s H E) (D9 st) t/\t {nx:=λ_ H'=>Q .non H',rt:=Q} (start N vs) H):MethOkE P w K mg base C m (k+1) ps sp:=by
 obtain⟨f,fd,h1,h2,h3⟩:=F.ex;refine⟨f,fd,h1,h3,?_⟩;obtain⟨oc,od,kV,doc,pm,an,cdv,ct,osl,rfl,lk,hcd⟩:=h2.ex;refine a9R lk hcd S len λA outer s H vs Q E hr hsp=>?_;obtain⟨t,h,q⟩:=hbody cdv f A outer s H vs Q E hr hsp;exact⟨t,h.h,q⟩
theorem a6q{P:Program}{w:World}{K:PySem.W.Frag}{mg:Str->Option Value}{base:Heap}{N:List Str}{qual:Str}{scope:Scope}{f:Addr}{cd:Value}{A:Around}{outer:List Env}{s0:Shared}{H0:Hp}{E:XK}
  {C:Addr}{m:Str}{k:Nat}{ps:List Str}{sp:Sp}{o e:Expr}{es:List Expr}{ta:TE}{t:TA}{pos apos:Pos}{pl:Sem Bool}(O:MethOkE P w K mg base C m k ps sp) (c:Cls K C) (hr:Room k (G2 (CXE P w) P w K mg base N qual scope f cd A outer s0 H0 E).A)
  (he:JE (G2 (CXE P w) P w K mg base N qual scope f cd A outer s0 H0 E) o ta) (ha:JA (G2 (CXE P w) P w K mg base N qual scope f cd A outer s0 H0 E) (e::es) t)
  (hst:starEach (e::es) (G2 (CXE P w) P w K mg base N qual scope f cd A outer s0 H0 E).env=(false,eval e (G2 (CXE P w) P w K mg base N qual scope f cd A outer s0 H0 E).env)::starEach es (G2 (CXE P w) P w K mg base N qual scope f cd A outer s0 H0 E).env:=by rfl)
  (hpl:(backTo pos (starEach es (G2 (CXE P w) P w K mg base N qual scope f cd A outer s0 H0 E).env)).any (·.1)=false:=by rfl)
  (ht:eval (.Call (.Attribute o m apos) (e::es) [] pos) (G2 (CXE P w) P w K mg base N qual scope f cd A outer s0 H0 E).env=(eval o (G2 (CXE P w) P w K mg base N qual scope f cd A outer s0 H0 E).env>>=λov=>standAt apos.atName>>=λ_=>holding [ov] (getMethod ov m pl)>>=λp=>match p with | (f',first)=>callWith pos f' first (backTo pos (starEach (e::es) (G2 (CXE P w) P w K mg base N qual scope f cd A outer s0 H0 E).env)) (backToKw pos (keywordEach [] (G2 (CXE P w) P w K mg base N qual scope f cd A outer s0 H0 E).env))):=by rfl) :
  JE (G2 (CXE P w) P w K mg base N qual scope f cd A outer s0 H0 E) (.Call (.Attribute o m apos) (e::es) [] pos) (a8j C m sp [] E ta t):=by
 obtain⟨f',fd,h1,h2,h3⟩:=O.ex;exact⟨a6a (pl:=pl) he.h c h1 h3 hr h2 .nil b5o ha.h hst hpl ht⟩
def b4V(tc:TT)(ta tb:TX):TX:=λD R σ H=>tc σ H λc H0=>if c=true then ta D R σ H0 else tb D R σ H0
theorem b5t{X:Cx}{c:Expr}{tc:TT}{a b:List Stmt}{ta tb:TX}{pos:Pos}(hc:JT X c tc)(ha:JX X a ta)(hb:JX X b tb)(hx0:∀e s,¬X.xe e s:=by exact λ_ _ z=>z):JX X [.If c a b pos] (b4V tc ta tb):=by
 refine⟨λpins s σ H D R I h=>?_⟩;have one:∀{sts:List Stmt}{t:TX}(h:JX X sts t) {s1:Shared}{H1:Hp},Inv X pins σ H1 s1->t D R σ H1->wpAny (model X.prog X.w) X.A (execs sts X.env) (λf s'=>match f with | .next=>wpAny (model X.prog X.w) X.A (execs [] X.env) (SP X pins D) (XP X pins R) s'|f=>SP X pins D f s') (XP X pins R) s1:=by
  intro sts t h s1 H1 I1 q1;refine thn (h.h pins s1 σ H1 D R I1 q1) λf s2 q2=>?_;cases f with
  |next=>exact wpAny_execs_nil q2
  |brk=>exact q2
  |cont=>exact q2
  |ret v=>exact q2
 refine wpAny_execs_cons (wpAny_If (wpAny_mono (hc.h pins s σ H _ I h) (λd s1 ⟨H1,I1,q1⟩=>?_) λe s z=>absurd z (hx0 e s)));cases d with
 |true=>exact one ha I1 q1
 |false=>exact one hb I1 q1
end L2
namespace K24
open PySem PySem.Spec PyProof.Rows L2
noncomputable def top(i:Nat):Stmt:=PySem.Challenge.pw_leastlays_k24_no_more_than_most.main.body.getD i (.Pass ⟨0,0,0,0⟩)
noncomputable abbrev a5V:Stmt:=top 0
noncomputable abbrev Z3:Stmt:=top 2
noncomputable abbrev a0V:Stmt:=top 11
noncomputable abbrev a2U:Stmt:=top 12
noncomputable abbrev a0U:Stmt:=top 13
noncomputable abbrev a2T:Stmt:=top 14
noncomputable abbrev Z4:Stmt:=top 15
noncomputable abbrev a2W:Stmt:=top 17
noncomputable abbrev U4:Stmt:=top 18
noncomputable abbrev a0T:Stmt:=top 20
noncomputable abbrev U0:Stmt:=top 21
noncomputable abbrev Q6:Stmt:=top 22
noncomputable abbrev a2V:Stmt:=top 25
noncomputable abbrev O0:Stmt:=top 27
noncomputable abbrev Q7:Stmt:=top 28
noncomputable abbrev N7:Stmt:=top 29
noncomputable abbrev K0:Stmt:=top 30
noncomputable abbrev G5:Stmt:=top 31
noncomputable abbrev M0:Stmt:=top 32
noncomputable abbrev K1:Stmt:=top 33
noncomputable abbrev Q8:Stmt:=top 34
noncomputable abbrev E3:Stmt:=top 35
noncomputable abbrev N8:Stmt:=top 36
noncomputable abbrev M1:Stmt:=top 37
noncomputable abbrev G4:Stmt:=top 38
noncomputable abbrev J1:Stmt:=top 39
noncomputable abbrev a1r:Stmt:=top 40
noncomputable abbrev E4:Stmt:=R8 (top 23) 0
noncomputable abbrev E9:Stmt:=R8 (top 23) 1
noncomputable abbrev F0:Stmt:=R8 (top 23) 2
noncomputable abbrev D7:Stmt:=R8 (top 23) 3
noncomputable abbrev E8:Stmt:=R8 (top 23) 4
noncomputable abbrev S7:Stmt:=R8 (top 23) 5
noncomputable abbrev G1:Stmt:=R8 (top 23) 6
structure Tx(mg:Str->Option Value):Prop where
 b_ValueError:mg "ValueError"=none
 b_all:mg "all"=none
 b_any:mg "any"=none
 b_bool:mg "bool"=none
 b_enumerate:mg "enumerate"=none
 b_int:mg "int"=none
 b_isinstance:mg "isinstance"=none
 b_len:mg "len"=none
 b_list:mg "list"=none
 b_max:mg "max"=none
 b_min:mg "min"=none
 b_range:mg "range"=none
 b_sorted:mg "sorted"=none
 b_sum:mg "sum"=none
 b_tuple:mg "tuple"=none
 b_zip:mg "zip"=none
structure PotAt(H:Hp)(a:Addr)(n:Nat):Prop where
 ex:∃c t k:Int,H a=some (.lst [.int c,.int t,.int k])/\0<=t/\t<2 ^ 63/\0<=k/\k<=n
theorem PotAt.same{H H':Hp}{a:Addr}{n:Nat}(h:PotAt H a n)(s:Same H H'):PotAt H' a n:=let ⟨c,t,k,e,q⟩:=h.ex;⟨c,t,k,s _ _ e,q⟩
theorem PotAt.mono{H:Hp}{a:Addr}{n m:Nat}(h:PotAt H a n)(hm:n<=m):PotAt H a m:=let ⟨c,t,k,e,q1,q2,q3,q4⟩:=h.ex;⟨c,t,k,e,q1,q2,q3,by omega⟩
theorem X2{ns:List Int}{k:Nat}(h:k<ns.length):atI (ns.map V.int) (k:Int)=some (.int (ns.getD k 0)):=by
 refine a0e ?_;rw[List.getElem?_map,List.getElem?_eq_getElem h];simp[List.getD_eq_getElem?_getD,h]
theorem a8Q{H:Hp}{a:Addr}{n:Nat}(h:PotAt H a n){c:Addr}{xs:List V}(hc:H c=some (.tup xs)):c∉[a]:=by
 obtain⟨_,t,k,h1,_⟩:=h.ex;simp only[List.mem_cons,List.not_mem_nil,or_false];exact L6 hc h1 (by intro z;cases z)
theorem a2Y{H:Hp}{a:Addr}{n:Nat}(h:PotAt H a n){c:Addr}(hc:H c=none):c∉[a]:=by
 obtain⟨_,t,k,h1,_⟩:=h.ex;simp only[List.mem_cons,List.not_mem_nil,or_false];exact(A6 h1 hc).symm
theorem a5Z{H:Hp}{a:Addr}{n:Nat}(h:PotAt H a n){c:Addr}{o:HO}(hc:c∉[a]):PotAt (upd H c o) a n:=by
 simp only[List.mem_cons,List.not_mem_nil,or_false]at hc;obtain⟨c',t,k,e,q⟩:=h.ex;exact⟨c',t,k,by rw[A3 (Ne.symm hc)];exact e,q⟩
theorem IT.off{H H':Hp}{v:V}{ns:List Int}{a:Addr}{n:Nat}(h:IT H v ns)(hP:PotAt H a n)(o:Off [a] H H'):IT H' v ns:=by
 obtain⟨c,e,q⟩:=h;exact⟨c,e,o c _ (a8Q hP q) q⟩
theorem Its.off{H H':Hp}{vs:List V}{rss:LLI}{a:Addr}{n:Nat}(h:Its H vs rss)(hP:PotAt H a n)(o:Off [a] H H'):Its H' vs rss:=⟨h.1,λi v e=>let ⟨r,e1,e2⟩:=h.2 i v e;⟨r,e1,IT.off e2 hP o⟩⟩
theorem IT.put{H:Hp}{v:V}{ns:List Int}{c:Addr}{xs:List V}{o:HO}(h:IT H v ns)(hc:H c=some (.lst xs)):IT (upd H c o) v ns:=by
 obtain⟨a,e,q⟩:=h;exact⟨a,e,by rw[A3 (L6 q hc (by intro z;cases z))];exact q⟩
theorem Its.put{H:Hp}{vs:List V}{rss:LLI}{c:Addr}{xs:List V}{o:HO}(h:Its H vs rss)(hc:H c=some (.lst xs)):Its (upd H c o) vs rss:=⟨h.1,λi v e=>let ⟨r,e1,e2⟩:=h.2 i v e;⟨r,e1,IT.put e2 hc⟩⟩
theorem W6{H H1 H2:Hp}{a:Addr}(s:Same H H1)(ha:H a=none)(o:Off [a] H1 H2):Same H H2:=λb u e=>o b u (by simpa using A6 e ha) (s b u e)
theorem a2q{l:List Addr}{H H':Hp}{p:Addr}{o:HO}(s:Off l H H')(hp:H p=none):Off l H (upd H' p o):=λb u hb e=>by
 rw[A3 (A6 e hp)];exact s b u hb e
section
variable {P:Program}{w:World}{K:PySem.W.Frag}{mg:Str->Option Value}{base:Heap}
inductive IspCell(K:PySem.W.Frag)(vs:List V)(H:Hp)(Q:VK)(E:XK):Prop
 |mk (a:Addr) (ns:List Int) (ki:Int) (k:Nat) (_:vs=[.ref a,.int ki]) (_:ki=k) (_:SqL K H a (ns.map V.int)) (_:Q (.int (ns.getD k 0)) H):IspCell K vs H Q E
def a8s(K:PySem.W.Frag):Sp:=λvs H Q E=>IspCell K vs H Q E
theorem a2R:FnScope ["_law_script","_law_k"] ["_law_script","_law_k"] (A2 O0):=⟨rfl,rfl,rfl,by decide +kernel,rfl,by decide +kernel,by decide +kernel⟩
theorem b1E(F:FunAt K mg "_law_cell" O0 ["_law_script","_law_k"])(T:Tx mg):Ok P w K mg base "_law_cell" 1 ["_law_script","_law_k"] (a8s K):=by
 refine F.okJ a2R (λvs H Q E h=>?_) (λcdv f A outer s H vs Q E hr h=>?_)
 .obtain⟨a,ns,ki,k,rfl,_⟩:=h;rfl
 .obtain⟨a,ns,_,k,rfl,rfl,hS,q⟩:=h;refine⟨_,(A1 (E5 (a9y (jv 1) (G8 K rfl T.b_len (jaC (jv 0) jaN)))
 (A4 (B2 (L8 K (jv 0) (jv 1))))
 C2)
 (A4 (B2 A5))),?_⟩
  refine⟨_,rfl,_,rfl,a,_,rfl,.inl hS,_,_,rfl,rfl,_,rfl,Q0 (λe=>?_) (λe=>?_)⟩
  .have e':k<ns.length:=by
    have:(k:Int)<((ns.map V.int).length:Int):=by simpa using e
    rw[List.length_map]at this;omega
   exact⟨_,rfl,_,rfl,a,_,_,_,rfl,rfl,hS,X2 e',q⟩
  .have e':ns.length<=k:=by
    have:¬(k:Int)<((ns.map V.int).length:Int):=by simpa using e
    rw[List.length_map]at this;omega
   rw[show ns.getD k 0=0 by simp[List.getD_eq_getElem?_getD,e']]at q;exact q
inductive IspPot(K:PySem.W.Frag)(vs:List V)(H:Hp)(Q:VK)(E:XK):Prop
 |mk (a:Addr) (ns:List Int) (ki:Int) (k:Nat) (_:vs=[.ref a,.int ki]) (_:ki=k) (_:k<=1000) (_:SqL K H a (ns.map V.int)) (_:∀p H',H p=none->PotAt H' p 0->Same H H'->Q (.ref p) H'):IspPot K vs H Q E
def a8o(K:PySem.W.Frag):Sp:=λvs H Q E=>IspPot K vs H Q E
theorem sc__law_pot:FnScope ["_law_script","_law_k","_law_one"] ["_law_script","_law_k"] (A2 Q7):=⟨rfl,rfl,rfl,by decide +kernel,rfl,by decide +kernel,by decide +kernel⟩
theorem b4d(F:FunAt K mg "_law_pot" Q7 ["_law_script","_law_k"])(T:Tx mg)(O__law_cell:Ok P w K mg base "_law_cell" 1 ["_law_script","_law_k"] (a8s K)):Ok P w K mg base "_law_pot" 2 ["_law_script","_law_k"] (a8o K):=by
 refine F.okJ sc__law_pot (λvs H Q E h=>?_) (λcdv f A outer s H vs Q E hr h=>?_)
 .obtain⟨a,ns,ki,k,rfl,_⟩:=h;rfl
 .obtain⟨a,ns,_,k,rfl,rfl,hk,hS,kk⟩:=h;refine⟨_,(A1 (A9 (i:=2) sc__law_pot.nd rfl (Or.inl rfl) (B0 O__law_cell (hr.mono (by omega)) rfl (jaC (jv 0) (jaC (jv 1) jaN))))
 (A4 (B2 (K7 (jaC (T4 (jv 2) (a1L rfl T.b_int (jaC (b5v (jv 2) (b5y A5 A5)) jaN))) (jaC (J0 (J0 (a2v (jv 2) A5) (T4 A5 (jv 1))) A5) (jaC A5 jaN))))))),?_⟩
  refine⟨_,rfl,_,rfl,a,ns,_,k,rfl,rfl,hS,?_⟩;generalize ns.getD k 0=c;dsimp only[A8];refine⟨_,rfl,_,rfl,_,_,rfl,rfl,⟨by decide,by decide,by decide⟩,_,_,rfl,rfl,.inr ⟨_,rfl,?_⟩⟩;generalize decide (c ≥ 10 ^ Int.toNat 18)=d;refine⟨_,_,rfl,rfl,.inr (by cases d<;>decide),?_⟩;refine⟨_,rfl,_,_,rfl,rfl,by show(0:Int)<2305843009213693951;decide,?_⟩;refine⟨_,rfl,_,_,rfl,rfl,.inl ⟨by decide,by decide⟩,_,_,rfl,rfl,_,_,rfl,rfl,by show 3<=sizeLine;rw[sizeLine_eq];decide,λp hp=>?_⟩;have h1:0<=c % 2305843009213693951:=Int.emod_nonneg _ (by decide);have h2:c % 2305843009213693951<2305843009213693951:=Int.emod_lt_of_pos _ (by decide);exact kk p _ hp ⟨_,_,_,A0,by omega,by omega,by omega,by omega⟩ ((Same.refl H).upd hp)
inductive IspTake(vs:List V)(H:Hp)(Q:VK)(E:XK):Prop
 |mk (a:Addr) (n:Nat) (m:Int) (_:vs=[.ref a,.int m]) (_:PotAt H a n) (_:n<2 ^ 60) (_:0<m) (_:m<2 ^ 30) (_:∀r H',0<=r->r<m->PotAt H' a (n+1)->Off [a] H H'->Q (.int r) H'):IspTake  vs H Q E
def a0h:Sp:=λvs H Q E=>IspTake  vs H Q E
theorem sc__law_take:FnScope ["_law_pot_here","_law_many","_law_digit","_law_turn","_law_mixed"] ["_law_pot_here","_law_many"] (A2 N7):=⟨rfl,rfl,rfl,by decide +kernel,rfl,by decide +kernel,by decide +kernel⟩
theorem tk0{c t k:Int}:atI [V.int c,.int t,.int k] 0=some (.int c):=rfl
theorem tk1{c t k:Int}:atI [V.int c,.int t,.int k] 1=some (.int t):=rfl
theorem tk2{c t k:Int}:atI [V.int c,.int t,.int k] 2=some (.int k):=rfl
theorem b1x(F:FunAt K mg "_law_take" N7 ["_law_pot_here","_law_many"])(T:Tx mg):Ok P w K mg base "_law_take" 1 ["_law_pot_here","_law_many"] a0h:=by
 refine F.okJ sc__law_take (λvs H Q E h=>?_) (λcdv f A outer s H vs Q E hr h=>?_)
 .obtain⟨a,n,m,rfl,_⟩:=h;rfl
 .obtain⟨a,n,m,rfl,⟨c,t,k,ha,t0,t1,k0,k1⟩,hn,hm0,hm1,kk⟩:=h;refine⟨_,(A1 (E5 (a0H (L8 K (jv 0) A5) A5)
 (A1 (A9 (i:=2) sc__law_take.nd rfl (Or.inl rfl) (a2v (L8 K (jv 0) A5) (jv 1)))
 (A1 (a0q (a1N (L8 K (jv 0) A5) (jv 1)) (a3e (jv 0) A5))
 (A4 (B2 (jv 2)))))
 C2)
 (A1 (a0q (J0 (L8 K (jv 0) A5) A5) (a3e (jv 0) A5))
 (A1 (A9 (i:=3) sc__law_take.nd rfl (Or.inl rfl) (L8 K (jv 0) A5))
 (A1 (A9 (i:=4) sc__law_take.nd rfl (Or.inl rfl) (a2v (J0 (T4 (L8 K (jv 0) A5) (J0 A5 (T4 (T4 A5 (jv 3)) (jv 3)))) (T4 A5 (jv 3))) A5))
 (A1 (A9 (i:=4) sc__law_take.nd rfl (Or.inl rfl) (a2v (T4 (jv 4) (J0 (J0 (a2v (jv 4) A5) (T4 A5 (jv 3))) A5)) A5))
 (A4 (B2 (a2v (J0 (a1N (jv 4) A5) (a1N (jv 4) A5)) (jv 1))))))))),?_⟩
  refine⟨_,rfl,a,_,0,_,rfl,rfl,SqL.of ha,tk0,_,_,rfl,rfl,_,rfl,Q0 (λe=>?_) (λe=>?_)⟩
  .refine⟨_,rfl,a,_,0,_,rfl,rfl,SqL.of ha,tk0,_,rfl,_,_,rfl,rfl,hm0,?_⟩;dsimp only[A8];refine⟨_,rfl,a,_,0,_,rfl,rfl,SqL.of ha,tk0,_,rfl,_,_,rfl,rfl,⟨hm0,hm1⟩,?_⟩;refine⟨_,rfl,a,_,0,0,rfl,rfl,ha,rfl,?_⟩;exact⟨_,rfl,kk _ _ (Int.emod_nonneg _ (by omega)) (Int.emod_lt_of_pos _ hm0) ⟨_,_,_,A0,t0,t1,k0,by omega⟩ ((Off.refl _ _).set (by simp))⟩
  .refine⟨_,rfl,a,_,2,_,rfl,rfl,SqL.of ha,tk2,_,_,rfl,rfl,?_⟩;refine⟨_,rfl,a,_,2,2,rfl,rfl,ha,rfl,?_⟩;refine⟨_,rfl,a,_,2,_,rfl,rfl,SqL.of A0,tk2,?_⟩;dsimp only[A8];refine⟨_,rfl,a,_,1,_,rfl,rfl,SqL.of A0,tk1,?_⟩;have hk:=λ(r:Int) h0 h1=>kk r (upd H a (.lst ([V.int c,.int t,.int k].set 2 (.int (k+1))))) h0 h1 ⟨_,t,k+1,A0,t0,t1,by omega,by omega⟩ ((Off.refl _ _).set (by simp));simp only[b0C,a4L,A8,tOp,tUn,Y0,tC,rI,rI0,rU,b3i,S5,b3e,a8f,a8i,a8k,a1n,a4K,a3J,tCB,b0B,b3h,tSl,Y5,a3H,a1m,tB,b3k,tOr,b3g,a8l,b3f,a8h,tIf,b3d,rEq,rNe,b0H,ipI,b3p,b3q,List.set_cons_zero,List.set_cons_succ,List.getElem?_cons_zero,List.getElem?_cons_succ,Option.some.injEq,V.int.injEq,V.bl.injEq,exists_eq_left',exists_eq_left,exists_and_left,true_and,and_true,C1,List.map_cons,List.map_nil,Option.bind_none,Option.bind_some,Option.join_some,L2.start,List.length_cons,List.length_nil,Nat.reduceAdd,Nat.reduceSub,List.replicate_succ,List.replicate_zero,List.cons_append,List.nil_append];generalize hx1:(t*(48271+2*(k+1)*(k+1))+65537*(k+1)) % 2305843009213693921=x1;have h1a:0<=x1:=by rw[<-hx1];exact Int.emod_nonneg _ (by decide)
   have h1b:x1<2305843009213693921:=by rw[<-hx1];exact Int.emod_lt_of_pos _ (by decide)
   exact⟨.inl ⟨by decide,by decide⟩,.inl ⟨by omega,by omega⟩,.inl ⟨by omega,by omega⟩,.inl ⟨by decide,by decide⟩,by decide,by decide,.inl ⟨by decide,by decide⟩,.inl ⟨by omega,by omega⟩,by decide,⟨by decide,by decide⟩,⟨by decide,by decide⟩,hm0,hk _ (Int.emod_nonneg _ (by omega)) (Int.emod_lt_of_pos _ hm0)⟩
end
theorem b2S{n k:Nat}(h:k<n):ixN n (k:Int)=some k:=by
 unfold ixN;rw[if_pos (by omega),if_pos (by omega)];rfl
theorem b4i{ns:List Int}{r:Int}(h0:0<=r)(h1:r<ns.length):∃z,atI (ns.map V.int) r=some (.int z)/\z∈ns:=by
 obtain⟨k,rfl⟩:∃k:Nat,r=k:=⟨r.toNat,by omega⟩;have hk:k<ns.length:=by omega
 refine⟨_,X2 hk,?_⟩;rw[List.getD_eq_getElem?_getD,List.getElem?_eq_getElem hk];exact List.getElem_mem hk
theorem a3K(l:List Int)(h:∀x∈l,0<=x):0<=l.sum:=by
 induction l with
 |nil=>exact Int.le_refl _
 |cons x l ih =>
  have:=ih λy hy=>h y (List.mem_cons_of_mem _ hy);have:=h x (List.mem_cons_self ..);rw[List.sum_cons];omega
theorem a8m(l:List Int)(h:∀x∈l,0<=x)(y:Int)(hy:y∈l)(hp:0<y):0<l.sum:=by
 induction l with
 |nil=>cases hy
 |cons x l ih =>
  have h0:=a3K l λy hy=>h y (List.mem_cons_of_mem _ hy);have h1:=h x (List.mem_cons_self ..);rw[List.sum_cons];rcases List.mem_cons.mp hy with rfl|q
  .omega
  .have:=ih (λy hy=>h y (List.mem_cons_of_mem _ hy)) q;omega
theorem gdx{a b:List Int}(h:a.length=b.length)(e:∀j,j<b.length->a.getD j 0=b.getD j 0):a=b:=by
 refine List.ext_getElem h λi h1 h2=>?_;have:=e i h2;rw[List.getD_eq_getElem?_getD,List.getD_eq_getElem?_getD,List.getElem?_eq_getElem h1,List.getElem?_eq_getElem h2]at this;exact this
theorem L5{xs:List Int}{j:Nat}(h:j<xs.length):xs.getD j 0∈xs:=by
 rw[List.getD_eq_getElem?_getD,List.getElem?_eq_getElem h];exact List.getElem_mem h
theorem Q5(xs:List Int)(k:Nat)(z:Int)(j:Nat)(hk:k<xs.length):(xs.set k z).getD j 0=if j=k then z else xs.getD j 0:=by
 rw[List.getD_eq_getElem?_getD,List.getElem?_set];by_cases e:j=k
 .subst e;rw[if_pos rfl,if_pos hk,if_pos rfl];rfl
 .rw[if_neg (Ne.symm e),if_neg e,List.getD_eq_getElem?_getD]
theorem a2O{K:PySem.W.Frag}{H:Hp}{p:Addr}{kb:Bool}{us:List V}(h:H p=some (if kb then .tup us else .lst us)):SqK kb K H p us:=by
 cases kb
 .exact SqL.of h
 .exact SqT.of h
def K9(a b:List Int):List Int:=List.zipWith (λa b=>a+b) a b
def S3(c:Int)(r:List Int):List Int:=r.map λz=>c*z
def TgA:List Int->LLI->List Int->List Int
 |acc,r::rss,c::cs=>TgA (K9 acc (S3 c r)) rss cs
 |acc,_,_=>acc
theorem E7(a b:List Int)(h:a.length=b.length):(K9 a b).length=b.length:=by unfold K9;rw[List.length_zipWith];omega
theorem C3(c:Int)(r:List Int):(S3 c r).length=r.length:=List.length_map ..
theorem G3(a b:List Int)(h:a.length=b.length)(j:Nat):(K9 a b).getD j 0=a.getD j 0+b.getD j 0:=by
 unfold K9;rw[List.getD_eq_getElem?_getD,List.getD_eq_getElem?_getD,List.getD_eq_getElem?_getD,List.getElem?_zipWith];by_cases hj:j<a.length
 .rw[List.getElem?_eq_getElem hj,List.getElem?_eq_getElem (by omega)];rfl
 .rw[List.getElem?_eq_none (by omega),List.getElem?_eq_none (by omega)];rfl
theorem a0S(c:Int)(r:List Int)(j:Nat):(S3 c r).getD j 0=c*r.getD j 0:=by
 unfold S3;rw[List.getD_eq_getElem?_getD,List.getElem?_map,List.getD_eq_getElem?_getD];cases r[j]? with
 |none=>show(0:Int)=c*0;omega
 |some z=>rfl
theorem a6D{n:Nat}:∀(rss:LLI) (cs acc:List Int),(∀r∈rss,r.length=n)->acc.length=n->(TgA acc rss cs).length=n
 |[],cs,acc,_,h=>by cases cs<;>exact h
 |r::rss,[],acc,_,h=>h
 |r::rss,c::cs,acc,hr,h=>by
  have h1:=hr r (List.mem_cons_self ..);exact a6D rss cs _ (λq hq=>hr q (List.mem_cons_of_mem _ hq)) (by rw[E7 _ _ (by rw[C3];omega),C3,h1])
theorem V4{α:Type}{xs:List α}{i:Nat}{x:α}(h:xs[i]?=some x):xs.drop i=x::xs.drop (i+1):=by
 obtain⟨h1,h2⟩:=List.getElem?_eq_some_iff.mp h;rw[List.drop_eq_getElem_cons h1,h2]
theorem a1U(n:Nat):(List.replicate n [V.int 0]).flatten=(List.replicate n (0:Int)).map V.int:=by
 induction n with
 |zero=>rfl
 |succ n ih=>rw[List.replicate_succ,List.flatten_cons,ih,List.replicate_succ];rfl
section
variable {P:Program}{w:World}{K:PySem.W.Frag}{mg:Str->Option Value}{base:Heap}
theorem sqt{K:PySem.W.Frag}{H:Hp}{a:Addr}{xs:List V}(h:H a=some (.tup xs)):SqK true K H a xs:=SqT.of h
noncomputable def Bel(xs ys:List Int):Bool:=(List.zipWith (λa b=>decide (a<=b)) xs ys).all id
theorem b4R(xs ys:List Int):(List.zipWith (λa b=>V.bl (decide (a<=b))) xs ys).all trV=Bel xs ys:=by
 unfold Bel;induction xs generalizing ys with
 |nil=>rfl
 |cons x xs ih =>
  cases ys with
  |nil=>rfl
  |cons y ys=>simp only[List.zipWith_cons_cons,List.all_cons,ih ys];rfl
theorem X5{γ:Type}(f:Int->Int->Int)(g:Int->γ):∀xs ys:List Int,List.zipWith (λa b=>g (f a b)) xs ys=(List.zipWith f xs ys).map g
 |[],_=>rfl
 |_::_,[]=>rfl
 |x::xs,y::ys=>by rw[List.zipWith_cons_cons,List.zipWith_cons_cons,List.map_cons,X5 f g xs ys]
section
variable {P:Program}{w:World}{K:PySem.W.Frag}{mg:Str->Option Value}{base:Heap}
inductive IspZip(g:Int->Int->Int)(vs:List V)(H:Hp)(Q:VK)(E:XK):Prop
 |mk (x:_) (y:_) (xs:_) (ys:_) (_:vs=[x,y]) (_:IT H x xs) (_:IT H y ys) (_:xs.length<=1000) (_:∀v H',Same H H'->IT H' v (List.zipWith g xs ys)->Q v H'):IspZip g vs H Q E
def a5M(g:Int->Int->Int):Sp:=λvs H Q E=>IspZip g vs H Q E
theorem a8w:FnScope ["one","other"] ["one","other"] (A2 a0U):=⟨rfl,rfl,rfl,by decide +kernel,rfl,by decide +kernel,by decide +kernel⟩
theorem a9e(F:FunAt K mg "minus" a0U ["one","other"])(T:Tx mg):Ok P w K mg base "minus" 1 ["one","other"] (a5M λa b=>a-b):=by
 refine F.okJ a8w (λvs H Q E h=>?_) (λcdv f A outer s H vs Q E hr h=>?_)
 .obtain⟨x,y,xs,ys,rfl,_⟩:=h;rfl
 .obtain⟨_,_,xs,ys,rfl,⟨a,rfl,ha⟩,⟨b,rfl,hb⟩,hl,k⟩:=h;refine⟨_,(A4 (B2 (C5 K rfl T.b_tuple (jaC (E2 (N:=["a","b"]) (src:=[none,none]) (T3 K rfl T.b_zip (jaC (jv 0) (jaC (jv 1) jaN))) (by show D0 _ _=true;rfl) (by rfl) (by rfl)
 (λ_ _ _ _ _=>(J5 K 2 (B1 (A7 (i:=0) (show(["a","b"]:List Str).Nodup by decide +kernel) rfl (Or.inl rfl)) (B1 (A7 (i:=1) (show(["a","b"]:List Str).Nodup by decide +kernel) rfl (Or.inl rfl)) E6)))) (λ_ _ _ _ _=>G7) (λ_ _ _ _ _=>(a9E (jv 0) (jv 1)))) jaN)))),?_⟩
  refine⟨_,rfl,_,rfl,true,true,a,b,rfl,⟨_,SqT.of ha⟩,⟨_,SqT.of hb⟩,?_⟩;refine P0 (caps:=[]) (λx y=>V.int (x-y)) (sqt ha) (sqt hb) hl (λH' s=>⟨sqt (s _ _ ha),sqt (s _ _ hb)⟩) rfl (λx y H1 Q1 _ q=>⟨_,rfl,_,rfl,_,_,rfl,rfl,q⟩) λH1 p s hp=>?_;rw[X5 (λx y=>x-y) V.int];refine⟨p,_,rfl,.inl ⟨SqL.of A0,λl hl=>?_⟩⟩;exact k _ _ ((s.upd hp).upd hl) ⟨l,rfl,A0⟩
inductive IspBelow(vs:List V)(H:Hp)(Q:VK)(E:XK):Prop
 |mk (x:_) (y:_) (xs:_) (ys:_) (_:vs=[x,y]) (_:IT H x xs) (_:IT H y ys) (_:xs.length<=1000) (_:∀H',Same H H'->Q (.bl (Bel xs ys)) H'):IspBelow  vs H Q E
def a2P:Sp:=λvs H Q E=>IspBelow  vs H Q E
theorem a8x:FnScope ["one","other"] ["one","other"] (A2 a0V):=⟨rfl,rfl,rfl,by decide +kernel,rfl,by decide +kernel,by decide +kernel⟩
theorem a9i(F:FunAt K mg "below" a0V ["one","other"])(T:Tx mg):Ok P w K mg base "below" 1 ["one","other"] a2P:=by
 refine F.okJ a8x (λvs H Q E h=>?_) (λcdv f A outer s H vs Q E hr h=>?_)
 .obtain⟨x,y,xs,ys,rfl,_⟩:=h;rfl
 .obtain⟨_,_,xs,ys,rfl,⟨a,rfl,ha⟩,⟨b,rfl,hb⟩,hl,k⟩:=h;refine⟨_,(A4 (B2 (a3g K rfl T.b_all (jaC (E2 (N:=["a","b"]) (src:=[none,none]) (T3 K rfl T.b_zip (jaC (jv 0) (jaC (jv 1) jaN))) (by show D0 _ _=true;rfl) (by rfl) (by rfl)
 (λ_ _ _ _ _=>(J5 K 2 (B1 (A7 (i:=0) (show(["a","b"]:List Str).Nodup by decide +kernel) rfl (Or.inl rfl)) (B1 (A7 (i:=1) (show(["a","b"]:List Str).Nodup by decide +kernel) rfl (Or.inl rfl)) E6)))) (λ_ _ _ _ _=>G7) (λ_ _ _ _ _=>(a9x (jv 0) (jv 1)))) jaN)))),?_⟩
  refine⟨_,rfl,_,rfl,true,true,a,b,rfl,⟨_,SqT.of ha⟩,⟨_,SqT.of hb⟩,?_⟩;refine P0 (caps:=[]) (λx y=>V.bl (decide (x<=y))) (sqt ha) (sqt hb) hl (λH' s=>⟨sqt (s _ _ ha),sqt (s _ _ hb)⟩) rfl (λx y H1 Q1 _ q=>⟨_,rfl,_,rfl,_,_,rfl,rfl,q⟩) λH1 p s hp=>?_;refine⟨false,p,_,rfl,SqL.of A0,?_,?_⟩
  .rw[List.all_eq_true];intro v hv;obtain⟨i,hi,rfl⟩:=List.mem_iff_getElem.mp hv;rw[List.getElem_zipWith];rfl
  .rw[b4R];exact k _ (s.upd hp)
inductive IspSize(vs:List V)(H:Hp)(Q:VK)(E:XK):Prop
 |mk (x:V) (xs:List Int) (_:vs=[x]) (_:IT H x xs) (_:∀H',Same H H'->Q (.int xs.sum) H'):IspSize  vs H Q E
def a4N:Sp:=λvs H Q E=>IspSize  vs H Q E
theorem b0I:FnScope ["one"] ["one"] (A2 a2T):=⟨rfl,rfl,rfl,by decide +kernel,rfl,by decide +kernel,by decide +kernel⟩
theorem b1y(F:FunAt K mg "size" a2T ["one"])(T:Tx mg):Ok P w K mg base "size" 1 ["one"] a4N:=by
 refine F.okJ b0I (λvs H Q E h=>?_) (λcdv f A outer s H vs Q E hr h=>?_)
 .obtain⟨x,xs,rfl,_⟩:=h;rfl
 .obtain⟨_,xs,rfl,⟨a,rfl,ha⟩,k⟩:=h;refine⟨_,(A4 (B2 (a3f K rfl T.b_sum (jaC (jv 0) jaN)))),?_⟩;exact⟨_,rfl,true,a,xs,rfl,SqT.of ha,k H (Same.refl H)⟩
end
end
def less(rest r:List Int)(m:Int):List Int:=List.zipWith (λa b=>a-b) rest (r.map λz=>m*z)
def a7M(n:Nat)(r:List Int):Prop:=r.length=n/\(∀x∈r,0<=x/\x<1073741824)/\0<r.sum
theorem W7{r:List Int}(h:∀x∈r,0<=x)(hs:0<r.sum):∃i,i<r.length/\0<r.getD i 0:=by
 by_cases q:∃y∈r,0<y
 .obtain⟨y,hy,hp⟩:=q;obtain⟨i,hi,rfl⟩:=List.mem_iff_getElem.mp hy;exact⟨i,hi,by rw[List.getD_eq_getElem?_getD,List.getElem?_eq_getElem hi];exact hp⟩
 .have hall:∀y∈r,y=0:=λy hy=>by
   have:=h y hy;have:¬0<y:=λz=>q ⟨y,hy,z⟩;omega
  rw[List.eq_replicate_iff.mpr ⟨rfl,hall⟩]at hs;simp at hs
theorem C0{rest r:List Int}{m:Int}(h:rest.length=r.length):(less rest r m).length=r.length:=by
 unfold less;rw[List.length_zipWith,List.length_map];omega
theorem G6{rest r:List Int}{m:Int}(h:rest.length=r.length)(j:Nat):(less rest r m).getD j 0=rest.getD j 0-m*r.getD j 0:=by
 unfold less;rw[List.getD_eq_getElem?_getD,List.getD_eq_getElem?_getD,List.getD_eq_getElem?_getD,List.getElem?_zipWith,List.getElem?_map];by_cases hj:j<rest.length
 .rw[List.getElem?_eq_getElem hj,List.getElem?_eq_getElem (by omega)];rfl
 .rw[List.getElem?_eq_none (by omega),List.getElem?_eq_none (by omega)];show(0:Int)=0-m*0;omega
def ws(f:List Int->Int):LLI->List Int->Int
 |r::rss,c::cs=>c*f r+ws f rss cs
 |_,_=>0
def cv(n:Nat):LLI->List Int->List Int
 |r::rss,c::cs=>K9 (S3 c r) (cv n rss cs)
 |_,_=>List.replicate n 0
theorem N5{n:Nat}:∀{rss:LLI}{d:List Int},(∀r∈rss,r.length=n)->(cv n rss d).length=n
 |[],[],_=>List.length_replicate
 |[],_::_,_=>List.length_replicate
 |_::_,[],_=>List.length_replicate
 |r::rss,c::cs,h=>by
  have ih:=N5 (rss:=rss) (d:=cs) λq hq=>h q (List.mem_cons_of_mem _ hq);have:=h r List.mem_cons_self;show(K9 (S3 c r) (cv n rss cs)).length=n;rw[E7 _ _ (by rw[C3,ih];exact this),ih]
theorem K5(n j:Nat):(List.replicate n (0:Int)).getD j 0=0:=by
 rw[List.getD_eq_getElem?_getD,List.getElem?_replicate];split<;>rfl
theorem a0J{n:Nat}{j:Nat}:∀{rss:LLI}{d:List Int},(∀r∈rss,r.length=n)->(cv n rss d).getD j 0=ws (λr=>r.getD j 0) rss d
 |[],[],_=>K5 n j
 |[],_::_,_=>K5 n j
 |_::_,[],_=>K5 n j
 |r::rss,c::cs,h=>by
  have h':∀q∈rss,q.length=n:=λq hq=>h q (List.mem_cons_of_mem _ hq);have:=h r List.mem_cons_self;show(K9 (S3 c r) (cv n rss cs)).getD j 0=c*r.getD j 0+ws _ rss cs;rw[G3 _ _ (by rw[C3,N5 h'];exact this),a0S,a0J h']
theorem Y6:∀(a b:List Int),a.length=b.length->(K9 a b).sum=a.sum+b.sum
 |[],[],_=>rfl
 |[],_::_,h=>nomatch h
 |_::_,[],h=>nomatch h
 |x::a,y::b,h=>by
  have ih:=Y6 a b (by simpa using h);unfold K9 at ih⊢;rw[List.zipWith_cons_cons,List.sum_cons,List.sum_cons,List.sum_cons,ih];omega
theorem a1o(c:Int):∀(r:List Int),(S3 c r).sum=c*r.sum
 |[]=>by show(0:Int)=c*0;omega
 |x::r=>by
  have ih:=a1o c r;unfold S3 at ih⊢;rw[List.map_cons,List.sum_cons,List.sum_cons,ih,Int.mul_add]
theorem Z6(n:Nat):(List.replicate n (0:Int)).sum=0:=by
 induction n with
 |zero=>rfl
 |succ n ih=>rw[List.replicate_succ,List.sum_cons,ih];rfl
theorem a5p{n:Nat}:∀{rss:LLI}{d:List Int},(∀r∈rss,r.length=n)->(cv n rss d).sum=ws List.sum rss d
 |[],[],_=>Z6 n
 |[],_::_,_=>Z6 n
 |_::_,[],_=>Z6 n
 |r::rss,c::cs,h=>by
  have h':∀q∈rss,q.length=n:=λq hq=>h q (List.mem_cons_of_mem _ hq);have:=h r List.mem_cons_self;show(K9 (S3 c r) (cv n rss cs)).sum=c*r.sum+ws _ rss cs;rw[Y6 _ _ (by rw[C3,N5 h'];exact this),a1o,a5p h']
section
variable {f:List Int->Int}
theorem b2j:∀{rss:LLI}{d:List Int},(∀r∈rss,0<=f r)->(∀c∈d,0<=c)->0<=ws f rss d
 |[],[],_,_=>Int.le_refl _
 |[],_::_,_,_=>Int.le_refl _
 |_::_,[],_,_=>Int.le_refl _
 |r::rss,c::cs,hf,hd=>by
  have ih:=b2j (rss:=rss) (d:=cs) (λq hq=>hf q (List.mem_cons_of_mem _ hq)) λq hq=>hd q (List.mem_cons_of_mem _ hq);have:=Int.mul_nonneg (hd c List.mem_cons_self) (hf r List.mem_cons_self);show 0<=c*f r+ws f rss cs;omega
theorem b2l:∀{rss:LLI}{d:List Int}{k:Nat},(∀r∈rss,0<=f r)->(∀c∈d,0<=c)->d.length=rss.length->k<rss.length->d.getD k 0*f (rss.getD k [])<=ws f rss d
 |[],_,k,_,_,_,hk=>absurd hk (Nat.not_lt_zero _)
 |_::_,[],k,_,_,h,_=>nomatch h
 |r::rss,c::cs,0,hf,hd,h,hk=>by
  have:=b2j (rss:=rss) (d:=cs) (λq hq=>hf q (List.mem_cons_of_mem _ hq)) λq hq=>hd q (List.mem_cons_of_mem _ hq);show c*f r<=c*f r+ws f rss cs;omega
 |r::rss,c::cs,k+1,hf,hd,h,hk=>by
  have ih:=b2l (rss:=rss) (d:=cs) (k:=k) (λq hq=>hf q (List.mem_cons_of_mem _ hq)) (λq hq=>hd q (List.mem_cons_of_mem _ hq)) (by simpa using h) (by simpa using hk);have:=Int.mul_nonneg (hd c List.mem_cons_self) (hf r List.mem_cons_self);show cs.getD k 0*f (rss.getD k [])<=c*f r+ws f rss cs;omega
theorem a4z:∀{rss:LLI}{d:List Int}{k:Nat}(m:Int),d.length=rss.length->k<rss.length->ws f rss (d.set k m)=ws f rss d+(m-d.getD k 0)*f (rss.getD k [])
 |[],_,k,_,_,hk=>absurd hk (Nat.not_lt_zero _)
 |_::_,[],k,_,h,_=>nomatch h
 |r::rss,c::cs,0,m,h,hk=>by
  show m*f r+ws f rss cs=c*f r+ws f rss cs+(m-c)*f r;rw[Int.sub_mul];omega
 |r::rss,c::cs,k+1,m,h,hk=>by
  have ih:=a4z (rss:=rss) (d:=cs) (k:=k) m (by simpa using h) (by simpa using hk);show c*f r+ws f rss (cs.set k m)=c*f r+ws f rss cs+(m-cs.getD k 0)*f (rss.getD k []);rw[ih];omega
theorem b2k{M:Int}:∀{rss:LLI}{d:List Int},(∀c∈d,0<=c)->d.length=rss.length->(∀k,k<rss.length->d.getD k 0=0∨f (rss.getD k [])<=M)->ws f rss d<=d.sum*M
 |[],[],_,_,_=>by show(0:Int)<=0*M;omega
 |[],_::_,_,h,_=>nomatch h
 |_::_,[],_,h,_=>nomatch h
 |r::rss,c::cs,hd,h,hk=>by
  have ih:=b2k (rss:=rss) (d:=cs) (λq hq=>hd q (List.mem_cons_of_mem _ hq)) (by simpa using h) λk hk'=>hk (k+1) (by simpa using hk');have h0:=hd c List.mem_cons_self;show c*f r+ws f rss cs<=(c::cs).sum*M;rw[List.sum_cons,Int.add_mul];rcases hk 0 (by simp)with q|q
  .have q:c=0:=q;rw[q];omega
  .have q:f r<=M:=q;have:=Int.mul_le_mul_of_nonneg_left q h0;omega
theorem a4y:∀{rss:LLI}{d:List Int},(∀r∈rss,1<=f r)->(∀c∈d,0<=c)->d.length=rss.length->d.sum<=ws f rss d
 |[],[],_,_,_=>Int.le_refl _
 |[],_::_,_,_,h=>nomatch h
 |_::_,[],_,_,h=>nomatch h
 |r::rss,c::cs,hf,hd,h=>by
  have ih:=a4y (rss:=rss) (d:=cs) (λq hq=>hf q (List.mem_cons_of_mem _ hq)) (λq hq=>hd q (List.mem_cons_of_mem _ hq)) (by simpa using h);have h1:=Int.mul_le_mul_of_nonneg_left (hf r List.mem_cons_self) (hd c List.mem_cons_self);show(c::cs).sum<=c*f r+ws f rss cs;rw[List.sum_cons];omega
theorem b0t{m:Nat}:∀{rss:LLI},ws f rss (List.replicate m 0)=0:=by
 induction m with
 |zero=>intro rss;cases rss<;>rfl
 |succ m ih =>
  intro rss;cases rss with
  |nil=>rfl
  |cons r rss =>
   show 0*f r+ws f rss (List.replicate m 0)=0;rw[ih];omega
end
structure LY(n:Nat)(rss:LLI)(lo rest d:List Int):Prop where
 len:d.length=rss.length
 nn:∀c∈d,0<=c
 off:∀k:Nat,(k:Int)∉lo->d.getD k 0=0
 eq:cv n rss d=rest
def Lo(m:Nat)(lo:List Int):Prop:=lo.Nodup/\∀k∈lo,0<=k/\k<m
def Pts(n:Nat)(rss:LLI):Prop:=∀r∈rss,a7M n r
theorem Pts.len{n:Nat}{rss:LLI}(h:Pts n rss):∀r∈rss,r.length=n:=λr hr=>(h r hr).1
theorem gdm{rss:LLI}{k:Nat}(h:k<rss.length):rss.getD k []∈rss:=by
 rw[List.getD_eq_getElem?_getD,List.getElem?_eq_getElem h];exact List.getElem_mem h
theorem Pts.at{n:Nat}{rss:LLI}(h:Pts n rss){k:Nat}(hk:k<rss.length):a7M n (rss.getD k []):=h _ (gdm hk)
theorem gd0{r:List Int}(h:∀x∈r,0<=x)(j:Nat):0<=r.getD j 0:=by
 by_cases hj:j<r.length
 .exact h _ (L5 hj)
 .rw[List.getD_eq_getElem?_getD,List.getElem?_eq_none (by omega)];exact Int.le_refl _
theorem Pts.nn{n:Nat}{rss:LLI}(h:Pts n rss)(j:Nat):∀r∈rss,0<=r.getD j 0:=λr hr=>gd0 (λx hx=>((h r hr).2.1 x hx).1) j
theorem Pts.sz{n:Nat}{rss:LLI}(h:Pts n rss):∀r∈rss,1<=r.sum:=λr hr=>(h r hr).2.2
theorem LY.at{n:Nat}{rss:LLI}{lo rest d:List Int}(h:LY n rss lo rest d)(hp:Pts n rss)(j:Nat):ws (λr=>r.getD j 0) rss d=rest.getD j 0:=by
 rw[<-h.eq,a0J hp.len]
theorem LY.sum{n:Nat}{rss:LLI}{lo rest d:List Int}(h:LY n rss lo rest d)(hp:Pts n rss):ws List.sum rss d=rest.sum:=by
 rw[<-h.eq,a5p hp.len]
theorem LY.few{n:Nat}{rss:LLI}{lo rest d:List Int}(h:LY n rss lo rest d)(hp:Pts n rss):d.sum<=rest.sum:=by
 rw[<-h.sum hp];exact a4y hp.sz h.nn h.len
theorem LY.le{n:Nat}{rss:LLI}{lo rest d:List Int}(h:LY n rss lo rest d)(hp:Pts n rss){k:Nat}(hk:k<rss.length)(j:Nat):d.getD k 0*(rss.getD k []).getD j 0<=rest.getD j 0:=by
 rw[<-h.at hp j];exact b2l (f:=λr=>r.getD j 0) (hp.nn j) h.nn h.len hk
theorem LY.zero{n:Nat}{rss:LLI}{lo rest d:List Int}(hp:Pts n rss)(hr:∀x∈rest,x=0)(hrl:rest.length=n):LY n rss lo rest d↔d=List.replicate rss.length 0:=by
 constructor
 .intro h;refine List.eq_replicate_iff.mpr ⟨h.len,λc hc=>?_⟩;obtain⟨k,hk,rfl⟩:=List.mem_iff_getElem.mp hc;have hk':k<rss.length:=by rw[<-h.len];exact hk
  obtain⟨j,hj,hpos⟩:=W7 (λx hx=>((hp.at hk').2.1 x hx).1) (hp.at hk').2.2;have h1:=h.le hp hk' j;have h2:rest.getD j 0=0:=by
   by_cases hj':j<rest.length
   .exact hr _ (L5 hj')
   .rw[List.getD_eq_getElem?_getD,List.getElem?_eq_none (by omega)];rfl
  have e:d.getD k 0=d[k]:=by rw[List.getD_eq_getElem?_getD,List.getElem?_eq_getElem hk];rfl
  rw[h2,e]at h1;have h3:=h.nn _ hc;rcases Int.lt_or_eq_of_le h3 with q|q
  .have:=Int.mul_pos q hpos;omega
  .exact q.symm
 .rintro rfl;refine⟨List.length_replicate,λc hc=>by rw[List.eq_of_mem_replicate hc];exact Int.le_refl _,λk _=>K5 _ _,gdx (by rw[N5 hp.len,hrl]) λj hj=>?_⟩;rw[a0J hp.len,b0t,hr _ (L5 hj)]
theorem a1g:∀{xs ys:List Int},xs.length=ys.length->(Bel xs ys=true↔∀j,j<xs.length->xs.getD j 0<=ys.getD j 0)
 |[],[],_=>⟨λ_ j hj=>absurd hj (Nat.not_lt_zero _),λ_=>rfl⟩
 |[],_::_,h=>nomatch h
 |_::_,[],h=>nomatch h
 |x::xs,y::ys,h=>by
  have ih:=a1g (xs:=xs) (ys:=ys) (by simpa using h);have e:Bel (x::xs) (y::ys)=(decide (x<=y) && Bel xs ys):=rfl;rw[e,Bool.and_eq_true,decide_eq_true_eq,ih];constructor
  .rintro⟨h1,h2⟩ j hj;cases j with
   |zero=>exact h1
   |succ j=>exact h2 j (by simpa using hj)
  .exact λz=>⟨z 0 (by simp),λj hj=>z (j+1) (by simpa using hj)⟩
noncomputable def ft(rss:LLI)(lo rest:List Int):List Int:=lo.filter λk=>Bel (rss.getD k.toNat []) rest
theorem Lo.filter{m:Nat}{lo:List Int}(h:Lo m lo)(p:Int->Bool):Lo m (lo.filter p):=⟨h.1.filter _,λk hk=>h.2 k ((List.mem_filter.mp hk).1)⟩
theorem LY.ft{n:Nat}{rss:LLI}{lo rest d:List Int}(hp:Pts n rss)(hl:Lo rss.length lo)(hrl:rest.length=n):LY n rss (ft rss lo rest) rest d↔LY n rss lo rest d:=by
 constructor
 .exact λh=>⟨h.len,h.nn,λk hk=>h.off k λz=>hk ((List.mem_filter.mp z).1),h.eq⟩
 .intro h;refine⟨h.len,h.nn,λk hk=>?_,h.eq⟩;by_cases hm:(k:Int)∈lo
  .have hk':k<rss.length:=by have:=hl.2 _ hm;omega
   have hb:¬Bel (rss.getD k []) rest=true:=λz=>hk (List.mem_filter.mpr ⟨hm,by rw[Int.toNat_natCast];exact z⟩);have hb':∃j,j<n/\rest.getD j 0<(rss.getD k []).getD j 0:=by
    refine Classical.byContradiction λz=>hb ((a1g (by rw[(hp.at hk').1,hrl])).mpr λj hj=>?_);have:¬rest.getD j 0<(rss.getD k []).getD j 0:=λy=>z ⟨j,by rw[<-(hp.at hk').1];exact hj,y⟩;omega
   obtain⟨j,hj,hlt⟩:=hb';have h1:=h.le hp hk' j;by_cases hkd:k<d.length
   .have h2:=h.nn _ (L5 hkd);rcases Int.lt_or_eq_of_le h2 with q|q
    .have h3:1*(rss.getD k []).getD j 0<=d.getD k 0*(rss.getD k []).getD j 0:=Int.mul_le_mul_of_nonneg_right (by omega) (hp.nn j _ (gdm hk'));omega
    .exact q.symm
   .rw[List.getD_eq_getElem?_getD,List.getElem?_eq_none (by omega)];rfl
  .exact h.off k hm
def wo(lo:List Int)(k:Int):List Int:=lo.filter λx=>!decide (x=k)
theorem wo_mem{lo:List Int}{k x:Int}:x∈wo lo k↔x∈lo/\x≠k:=by
 unfold wo;rw[List.mem_filter];simp
theorem b2Z{lo:List Int}{k:Int}(h:k∈lo):(wo lo k).length+1<=lo.length:=by
 induction lo with
 |nil=>cases h
 |cons x lo ih =>
  unfold wo at ih⊢;rw[List.filter_cons];by_cases e:x=k
  .have:=List.length_filter_le (λx=>!decide (x=k)) lo;rw[if_neg (by simp[e]),List.length_cons];omega
  .rw[if_pos (by simp[e]),List.length_cons,List.length_cons];rcases List.mem_cons.mp h with q|q
   .exact absurd q.symm e
   .have:=ih q;omega
theorem a9p{rest r:List Int}(h:rest.length=r.length):less rest r 0=rest:=gdx (by rw[C0 h,h]) λj _=>by rw[G6 h];omega
theorem a9o{rest r:List Int}(m:Int)(h:rest.length=r.length):List.zipWith (λa b=>a-b) (less rest r m) r=less rest r (m+1):=by
 refine gdx (by rw[List.length_zipWith,C0 h,C0 h];omega) λj hj=>?_;rw[C0 h]at hj;have e:(List.zipWith (λa b=>a-b) (less rest r m) r).getD j 0=(less rest r m).getD j 0-r.getD j 0:=by
  rw[List.getD_eq_getElem?_getD,List.getD_eq_getElem?_getD,List.getD_eq_getElem?_getD,List.getElem?_zipWith,List.getElem?_eq_getElem hj,List.getElem?_eq_getElem (by rw[C0 h];exact hj)];rfl
 rw[e,G6 h,G6 h,Int.add_mul];omega
theorem LY.down{n:Nat}{rss:LLI}{lo rest d:List Int}{k:Nat}(h:LY n rss lo rest d)(hp:Pts n rss)(hk:k<rss.length)(hrl:rest.length=n):LY n rss (wo lo k) (less rest (rss.getD k []) (d.getD k 0)) (d.set k 0):=by
 have hl:rest.length=(rss.getD k []).length:=by rw[hrl,(hp.at hk).1]
 refine⟨by rw[List.length_set];exact h.len,λc hc=>?_,λi hi=>?_,gdx (by rw[N5 hp.len,C0 hl,(hp.at hk).1]) λj hj=>?_⟩
 .rcases List.mem_or_eq_of_mem_set hc with q|q
  .exact h.nn c q
  .rw[q];exact Int.le_refl _
 .rw[Q5 _ _ _ _ (by rw[h.len];exact hk)];split
  .rfl
  .rename_i e;exact h.off i λz=>hi (wo_mem.mpr ⟨z,by omega⟩)
 .rw[a0J hp.len,a4z (f:=λr=>r.getD j 0) 0 h.len hk,h.at hp j,G6 hl];rw[Int.sub_mul];omega
theorem LY.up{n:Nat}{rss:LLI}{lo rest d:List Int}{k:Nat}{m:Int}(h:LY n rss (wo lo k) (less rest (rss.getD k []) m) d)(hp:Pts n rss)(hk:k<rss.length)(hkl:(k:Int)∈lo)(hm:0<=m)(hrl:rest.length=n):LY n rss lo rest (d.set k m)/\d.getD k 0=0:=by
 have hl:rest.length=(rss.getD k []).length:=by rw[hrl,(hp.at hk).1]
 have h0:d.getD k 0=0:=h.off k λz=>(wo_mem.mp z).2 rfl;refine⟨⟨by rw[List.length_set];exact h.len,λc hc=>?_,λi hi=>?_,gdx (by rw[N5 hp.len,hrl]) λj hj=>?_⟩,h0⟩
 .rcases List.mem_or_eq_of_mem_set hc with q|q
  .exact h.nn c q
  .rw[q];exact hm
 .rw[Q5 _ _ _ _ (by rw[h.len];exact hk)];split
  .rename_i e;exact absurd hkl (by rw[<-e];exact hi)
  .exact h.off i λz=>hi (wo_mem.mp z).1
 .rw[a0J hp.len,a4z (f:=λr=>r.getD j 0) m h.len hk,h.at hp j,G6 hl,h0,Int.sub_zero];omega
def Tb:Nat->Nat->Nat
 |0=>λ_=>0
 |l+1=>λs=>Nat.rec (motive:=λ_=>Nat) (1+Tb l 0) (λt x=>x+Tb l (t+1)) s
theorem b5X(l s:Nat):Tb l s<=Tb l (s+1):=by
 cases l with
 |zero=>exact Nat.le_refl _
 |succ l=>show Tb (l+1) s<=Tb (l+1) s+Tb l (s+1);omega
theorem b0n(l:Nat){s t:Nat}(h:s<=t):Tb l s<=Tb l t:=by
 induction h with
 |refl=>exact Nat.le_refl _
 |step _ ih=>exact Nat.le_trans ih (b5X l _)
theorem b5Y(l s:Nat):Tb l s<=Tb (l+1) s:=by
 cases s with
 |zero=>show Tb l 0<=1+Tb l 0;omega
 |succ s=>show Tb l (s+1)<=Tb (l+1) s+Tb l (s+1);omega
theorem b0o{l k:Nat}(s:Nat)(h:l<=k):Tb l s<=Tb k s:=by
 induction h with
 |refl=>exact Nat.le_refl _
 |step _ ih=>exact Nat.le_trans ih (b5Y _ s)
theorem b5Z(l s:Nat):1<=Tb (l+1) s:=by
 induction s with
 |zero=>show 1<=1+Tb l 0;omega
 |succ s ih=>show 1<=Tb (l+1) s+Tb l (s+1);omega
def Tw(l s i:Nat):Nat:=if i<=s then Tb (l+1) (s-i)else 1
theorem b5V(l s:Nat):Tw l s 0=Tb (l+1) s:=by unfold Tw;rw[if_pos (Nat.zero_le _)];rfl
theorem b5U(l s i:Nat):1<=Tw l s i:=by unfold Tw;split;exact b5Z _ _;exact Nat.le_refl _
theorem b5T{l s i:Nat}(h:i<=s):Tw l s (i+1)+Tb l (s-i)<=Tw l s i:=by
 unfold Tw;rw[if_pos h];by_cases h2:i+1<=s
 .rw[if_pos h2];obtain⟨t,ht⟩:∃t,s-i=t+1:=⟨s-i-1,by omega⟩;rw[ht,show s-(i+1)=t by omega];exact Nat.le_refl _
 .rw[if_neg h2,show s-i=0 by omega];exact Nat.le_refl _
theorem a6B{xs:List V}{v:V}:atI (xs++[v]) (-1)=some v:=by
 have e:ixN (xs++[v]).length (-1)=some xs.length:=by
  unfold ixN;rw[if_neg (by decide),if_pos (by rw[List.length_append];simp;omega)];rw[List.length_append];simp;omega
 unfold atI;rw[e];simp
def Rl(rest r:List Int)(q:Nat):LLI:=(List.range (q+1)).map λi=>less rest r (i:Nat)
theorem a3y(rest r:List Int)(q:Nat):Rl rest r (q+1)=Rl rest r q++[less rest r ((q+1:Nat):Int)]:=by
 unfold Rl;rw[List.range_succ,List.map_append];rfl
theorem a4l{H:Hp}{zs:List V}{rss:LLI}{r:List Int}(h:Its H zs (rss++[r])):∃ys v,zs=ys++[v]/\Its H ys rss/\IT H v r:=by
 have hl:zs.length=rss.length+1:=by rw[h.1,List.length_append];rfl
 have hlt:rss.length<zs.length:=by omega
 refine⟨zs.take rss.length,zs[rss.length],?_,⟨by rw[List.length_take];omega,λi v e=>?_⟩,?_⟩
 .have e:=V4 (List.getElem?_eq_getElem hlt);rw[List.drop_of_length_le (show zs.length<=rss.length+1 by omega)]at e;rw[<-e,List.take_append_drop]
 .have hi:i<rss.length:=by
   have:=(List.getElem?_eq_some_iff.mp e).1;rw[List.length_take]at this;omega
  rw[List.getElem?_take_of_lt hi]at e;obtain⟨x,e1,e2⟩:=h.2 i v e;rw[List.getElem?_append_left hi]at e1;exact⟨x,e1,e2⟩
 .obtain⟨x,e1,e2⟩:=h.2 rss.length _ (List.getElem?_eq_getElem hlt);rw[List.getElem?_append_right (Nat.le_refl _),Nat.sub_self]at e1;cases e1;exact e2
theorem a1p{rest r:List Int}(h:rest.length=r.length)(m:Int):(less rest r m).sum=rest.sum-m*r.sum:=by
 have e:less rest r m=K9 rest (S3 (-m) r):=gdx (by rw[C0 h,E7 _ _ (by rw[C3,h]),C3]) λj hj=>by
  rw[G6 h,G3 _ _ (by rw[C3,h]),a0S,Int.neg_mul];omega
 rw[e,Y6 _ _ (by rw[C3,h]),a1o,Int.neg_mul];omega
theorem a3b{n:Nat}{rest r:List Int}{m:Int}(hr:rest.length=n)(hp:r.length=n)(h:∀j,j<n->m*r.getD j 0<=rest.getD j 0):∀x∈less rest r m,0<=x:=λx hx=>by
 obtain⟨i,hi,rfl⟩:=List.mem_iff_getElem.mp hx;have e:=G6 (rest:=rest) (r:=r) (m:=m) (by rw[hr,hp]) i;rw[List.getD_eq_getElem?_getD,List.getElem?_eq_getElem hi]at e;have e:(less rest r m)[i]=rest.getD i 0-m*r.getD i 0:=e;rw[C0 (by rw[hr,hp]),hp]at hi;have:=h i hi;omega
def Rs(n:Nat)(r:List Int):Prop:=r.length=n/\(∀x∈r,0<=x)/\r.sum<=1000000
theorem Rs.less{n:Nat}{rest r:List Int}{m:Int}(h:Rs n rest)(hp:a7M n r)(hm:0<=m)(hle:∀j,j<n->m*r.getD j 0<=rest.getD j 0):Rs n (less rest r m):=by
 have hl:rest.length=r.length:=by rw[h.1,hp.1]
 refine⟨by rw[C0 hl,hp.1],a3b h.1 hp.1 hle,?_⟩;rw[a1p hl];have:=Int.mul_nonneg hm (show 0<=r.sum by have:=hp.2.2;omega);have:=h.2.2;omega
theorem Rs.many{n:Nat}{rest r:List Int}{m:Int}(h:Rs n rest)(hp:a7M n r)(hm:0<=m)(hle:∀j,j<n->m*r.getD j 0<=rest.getD j 0):m<=rest.sum:=by
 have h1:=a3K _ (a3b h.1 hp.1 hle);rw[a1p (by rw[h.1,hp.1])]at h1;have h2:m*1<=m*r.sum:=Int.mul_le_mul_of_nonneg_left hp.2.2 hm;omega
section
variable {P:Program}{w:World}{K:PySem.W.Frag}{mg:Str->Option Value}{base:Heap}
inductive IspRests(vs:List V)(H:Hp)(Q:VK)(E:XK):Prop
 |mk (x y:V) (r rest:List Int) (n:Nat) (_:vs=[x,y]) (_:IT H x r) (_:IT H y rest) (_:n<=1000) (_:a7M n r) (_:Rs n rest) (_:∀(p:Addr) (zs:List V) (q:Nat) (H':Hp),H p=none->Same H H'->H' p=some (.lst zs)->Its H' zs (Rl rest r q)->(∀j,j<n->(q:Int)*r.getD j 0<=rest.getD j 0)->(∃j,j<n/\rest.getD j 0<((q:Int)+1)*r.getD j 0)->Q (.ref p) H'):IspRests  vs H Q E
def a5P:Sp:=λvs H Q E=>IspRests  vs H Q E
theorem sc_rests:FnScope ["one","rest","left"] ["one","rest"] (A2 a0T):=⟨rfl,rfl,rfl,by decide +kernel,rfl,by decide +kernel,by decide +kernel⟩
theorem a9c(F:FunAt K mg "rests" a0T ["one","rest"])(T:Tx mg)(O_below:Ok P w K mg base "below" 1 ["one","other"] a2P)(O_minus:Ok P w K mg base "minus" 1 ["one","other"] (a5M λa b=>a-b)):Ok P w K mg base "rests" 2 ["one","rest"] a5P:=by
 refine F.okJ sc_rests (λvs H Q E h=>?_) (λcdv f A outer s H vs Q E hr h=>?_)
 .obtain⟨x,y,r,rest,n,rfl,_⟩:=h;rfl
 .obtain⟨x,y,r,rest,n,rfl,hx,hy,hn,hP,hR,k⟩:=h;have hz:(3000000:Nat)<=sizeLine:=by rw[sizeLine_eq];decide
  have hll:rest.length=r.length:=by rw[hR.1,hP.1]
  refine⟨_,(A1 (A9 (i:=2) sc_rests.nd rfl (Or.inl rfl) (K7 (jaC (jv 1) jaN)))
 (A1 (a0a (G0 K (B0 O_below (hr.mono (by omega)) rfl (jaC (jv 0) (jaC (L8 K (jv 2) (a9G A5)) jaN))))
 (A4 (M6 (M7 K (jv 2) (jaC (B0 O_minus (hr.mono (by omega)) rfl (jaC (L8 K (jv 2) (a9G A5)) (jaC (jv 0) jaN))) jaN)))))
 (A4 (B2 (jv 2))))),?_⟩
  refine⟨_,rfl,by show 1<=sizeLine;omega,λp hp=>?_⟩;have hfr:=hp;have s1:=(Same.refl H).upd (o:=.lst [y]) hp;have e1:upd H p (.lst [y]) p=some (.lst [y]):=A0;have hy1:=hy.same s1;generalize upd H p (.lst [y])=H1 at s1 e1 hy1;dsimp only[A8];refine⟨λm σ H'=>∃(i:Nat) (zs:List V),m=rest.sum.toNat+1-i/\σ=[some x,some y,some (.ref p)]/\Same H H'/\H' p=some (.lst zs)/\Its H' zs (Rl rest r i)/\∀j,j<n->(i:Int)*r.getD j 0<=rest.getD j 0,⟨_,0,[y],rfl,rfl,s1,e1,?_,λj hj=>?_⟩,?_⟩
  .rw[show Rl rest r 0=[rest] by show[less rest r ((0:Nat):Int)]=_;rw[show((0:Nat):Int)=0 from rfl,a9p hll]];exact Its.one hy1
  .have:=gd0 hR.2.1 j;show 0*_<=_;omega
  rintro m σ H' ⟨i,zs,rfl,rfl,s',hp',hI',hle⟩;have hmany:=hR.many hP (by omega) hle;obtain⟨ys,v,rfl,hy0,hv⟩:∃ys v,zs=ys++[v]/\(∃ts,Its H' ys ts/\Rl rest r i=ts++[less rest r (i:Int)])/\IT H' v (less rest r (i:Int)):=by
   cases i with
   |zero =>
    have e:Rl rest r 0=[]++[less rest r ((0:Nat):Int)]:=rfl;rw[e]at hI';obtain⟨ys,v,e1,e2,e3⟩:=a4l hI';exact⟨ys,v,e1,⟨[],e2,rfl⟩,e3⟩
   |succ i =>
    rw[a3y]at hI';obtain⟨ys,v,e1,e2,e3⟩:=a4l hI';exact⟨ys,v,e1,⟨_,e2,a3y _ _ _⟩,e3⟩
  have hlen:(ys++[v]).length=i+1:=by rw[hI'.1,Rl,List.length_map,List.length_range]
  refine⟨_,rfl,_,rfl,_,rfl,p,_,_,_,rfl,rfl,SqL.of hp',a6B,x,v,r,_,rfl,hx.same s',hv,by rw[hP.1];exact hn,λH2 s2=>?_⟩;refine⟨_,rfl,Q0 (λe=>?_) (λe=>?_)⟩
  .have hb:=(a1g (by rw[C0 hll])).mp e;have hle':∀j,j<n->((i+1:Nat):Int)*r.getD j 0<=rest.getD j 0:=λj hj=>by
    have:=hb j (by rw[hP.1];exact hj);rw[G6 hll]at this;rw[Int.natCast_add,Int.add_mul];show(i:Int)*_+1*_<=_;omega
   have hmany':=hR.many hP (by omega) hle';refine⟨λσ H'=>∃zs:List V,σ=[some x,some y,some (.ref p)]/\Same H H'/\H' p=some (.lst zs)/\Its H' zs (Rl rest r (i+1)),λσ' H' ⟨zs,q1,q2,q3,q4⟩=>⟨_,by omega,i+1,zs,rfl,q1,q2,q3,q4,hle'⟩,?_⟩;have hp2:=s2 _ _ hp';refine⟨_,rfl,.inl ⟨rfl,_,SqL.of hp2⟩,_,rfl,_,rfl,p,_,_,_,rfl,rfl,SqL.of hp2,a6B,_,rfl,v,x,_,r,rfl,hv.same s2,(hx.same s').same s2,by rw[C0 hll,hP.1];exact hn,λv3 H3 s3 hv3=>?_⟩;have hp3:=s3 _ _ hp2;rw[a9o _ hll]at hv3;refine⟨p,_,_,rfl,rfl,hp3,by rw[hlen];have:=hR.2.2;omega,?_⟩;refine⟨_,rfl,λb u e=>by rw[A3 (A6 e hfr)];exact(s'.trans (s2.trans s3)) b u e,A0,?_⟩;rw[a3y];exact(((hI'.same s2).same s3).put hp3).app (Its.one (IT.put hv3 hp3))
  .have e':Bel r (less rest r (i:Int))=false:=by simpa using e
   refine⟨_,rfl,k p _ i _ hfr (s'.trans s2) (s2 _ _ hp') (hI'.same s2) hle ?_⟩;refine Classical.byContradiction λz=>e ((a1g (by rw[C0 hll])).mpr λj hj=>?_);rw[G6 hll];rw[hP.1]at hj;have:¬rest.getD j 0<((i:Int)+1)*r.getD j 0:=λy=>z ⟨j,hj,y⟩;rw[Int.add_mul]at this;omega
inductive IspWithout(vs:List V)(H:Hp)(Q:VK)(E:XK):Prop
 |mk (a:Addr) (lo:List Int) (k:Int) (_:vs=[.ref a,.int k]) (_:H a=some (.tup (lo.map V.int))) (_:lo.length<=1000) (_:∀(p:Addr) (H':Hp),Same H H'->H' p=some (.tup ((wo lo k).map V.int))->Q (.ref p) H'):IspWithout  vs H Q E
def a2m:Sp:=λvs H Q E=>IspWithout  vs H Q E
theorem a4Q:FnScope ["numbers","k"] ["numbers","k"] (A2 U0):=⟨rfl,rfl,rfl,by decide +kernel,rfl,by decide +kernel,by decide +kernel⟩
theorem a4T(F:FunAt K mg "without" U0 ["numbers","k"])(T:Tx mg):Ok P w K mg base "without" 1 ["numbers","k"] a2m:=by
 refine F.okJ a4Q (λvs H Q E h=>?_) (λcdv f A outer s H vs Q E hr h=>?_)
 .obtain⟨a,lo,k,rfl,_⟩:=h;rfl
 .obtain⟨a,lo,k0,rfl,ha,hl,k⟩:=h;refine⟨_,(A4 (B2 (C5 K rfl T.b_tuple (jaC (E2 (N:=["number","k"]) (src:=[none,some 1]) (O8 K (jv 0)) (by show D0 _ _=true;rfl) (by rfl) (by rfl)
 (λ_ _ _ _ _=>(A7 (i:=0) (show(["number","k"]:List Str).Nodup by decide +kernel) rfl (Or.inl rfl))) (λ_ _ _ _ _=>(a1K (b2N (jv 0) (jv 1)))) (λ_ _ _ _ _=>(jv 0))) jaN)))),?_⟩
  refine⟨_,rfl,a,rfl,⟨_,SqT.of ha⟩,?_⟩;refine a0g (caps:=[some (.int k0)]) V.int (λx=>!decide (x=k0)) hl (λH' s=>SqT.of (s _ _ ha)) rfl (λx H1 Q1 _ _ q=>⟨_,rfl,_,rfl,rfl,_,?_,q H1 (Same.refl _)⟩) λH1 p s hp=>?_
  .simp
  .refine⟨p,_,rfl,.inl ⟨SqL.of A0,λl hl=>?_⟩⟩;exact k l _ ((s.upd hp).upd hl) A0
end
structure Shrt(n:Nat)(ps:LLI)(rest:List Int)(b:Int)(t:Bool):Prop where
 yes:t=true->∃(f:List Int->Int) (M:Int),(f=List.sum∨∃j:Nat,f=λr=>r.getD j 0)/\(∀p∈ps,f p<=M)/\0<=M/\b*M<f rest
 no:t=false->∀j,j<n->∃M,rest.getD j 0<=b*M/\(M=0∨∃p∈ps,p.getD j 0=M)
section
variable {P:Program}{w:World}{K:PySem.W.Frag}{mg:Str->Option Value}{base:Heap}
inductive IspShort(vs:List V)(H:Hp)(Q:VK)(E:XK):Prop
 |mk (a:Addr) (y:V) (b:Int) (us:List V) (ps:LLI) (rest:List Int) (n:Nat) (_:vs=[.ref a,y,.int b]) (_:H a=some (.lst us)) (_:Its H us ps) (_:IT H y rest) (_:us.length<=1000) (_:n<=1000) (_:Rs n rest) (_:(∀p∈ps,a7M n p)) (_:0<=b) (_:b<=1000000) (_:∀(t:Bool) (H':Hp),Same H H'->Shrt n ps rest b t->Q (.bl t) H'):IspShort  vs H Q E
def a5O:Sp:=λvs H Q E=>IspShort  vs H Q E
theorem sc_is_short:FnScope ["parts","rest","budget","j","number"] ["parts","rest","budget"] (A2 Q6):=⟨rfl,rfl,rfl,by decide +kernel,rfl,by decide +kernel,by decide +kernel⟩
theorem a9b(F:FunAt K mg "is_short" Q6 ["parts","rest","budget"])(T:Tx mg)(O_size:Ok P w K mg base "size" 1 ["one"] a4N):Ok P w K mg base "is_short" 2 ["parts","rest","budget"] a5O:=by
 refine F.okJ sc_is_short (λvs H Q E h=>?_) (λcdv f A outer s H vs Q E hr h=>?_)
 .obtain⟨a,y,b,us,ps,rest,n,rfl,_⟩:=h;rfl
 .obtain⟨a,y,b,us,ps,rest,n,rfl,ha,hI,hy,hl,hn,hR,hP,hb0,hb1,k⟩:=h;have hz:(3000000:Nat)<=sizeLine:=by rw[sizeLine_eq];decide
  refine⟨_,(A1 (E5 (a0H (B0 O_size (hr.mono (by omega)) rfl (jaC (jv 1) jaN)) (T4 (jv 2) (a6n K rfl T.b_max (jaC (E2 (N:=["part"]) (src:=[none]) (R7 K (jv 0)) (by show D0 _ _=true;rfl) (by rfl) (by rfl)
 (λ_ _ _ _ _=>(A7 (i:=0) (show(["part"]:List Str).Nodup by decide +kernel) rfl (Or.inl rfl))) (λ_ _ _ _ _=>G7) (λ_ _ _ _ _=>(B0 O_size (hr.mono (by omega)) rfl (jaC (jv 0) jaN)))) jaN))))
 (A4 (B2 W0))
 C2)
 (A1 (J4 (a6m K rfl T.b_enumerate (jaC (jv 1) jaN)) (J5 K 2 (B1 (A7 (i:=3) sc_is_short.nd rfl (Or.inr rfl)) (B1 (A7 (i:=4) sc_is_short.nd rfl (Or.inl rfl)) E6)))
 (A4 (E5 (a0H (jv 4) (T4 (jv 2) (a6n K rfl T.b_max (jaC (E2 (N:=["part","j"]) (src:=[none,some 3]) (R7 K (jv 0)) (by show D0 _ _=true;rfl) (by rfl) (by rfl)
 (λ_ _ _ _ _=>(A7 (i:=0) (show(["part","j"]:List Str).Nodup by decide +kernel) rfl (Or.inl rfl))) (λ_ _ _ _ _=>G7) (λ_ _ _ _ _=>(a0I K (jv 0) (jv 1)))) jaN))))
 (A4 (B2 W0))
 C2)))
 (A4 (B2 W0)))),?_⟩
  refine Y9 (λσ H'=>σ=[some (.ref a),some y,some (.int b),none,none]/\Same H H') ?fin λfin=>?_
  case fin =>
   rintro σ H' ⟨rfl,s'⟩;obtain⟨va,rfl,hva⟩:=hy;refine⟨_,rfl,true,va,rfl,⟨_,SqT.of (s' _ _ hva)⟩,?_⟩;refine a4n (K:=K) (k:=true) (xs:=rest.map V.int) (λi σ H'=>Ex2 λo3 o4=>An3 (σ=[some (.ref a),some (.ref va),some (.int b),o3,o4]) (Same H H') (∀j,j<i->∃M,rest.getD j 0<=b*M/\(M=0∨∃p∈ps,p.getD j 0=M))) ⟨none,none,rfl,s',λj hj=>absurd hj (Nat.not_lt_zero _)⟩ (λi σ H' _ ⟨_,_,_,s',_⟩=>SqT.of (s' _ _ hva)) ?_ ?_
   .rintro i x σ H' p hx ⟨o3,o4,rfl,s',hj⟩ hp;obtain⟨x',hx',rfl⟩:=S0 hx;have hi:i<rest.length:=(List.getElem?_eq_some_iff.mp hx').1;have ex:rest.getD i 0=x':=by rw[List.getD_eq_getElem?_getD,hx'];rfl
    refine⟨p,[.int i,.int x'],rfl,SqT.of A0,rfl,.int i,[.int x'],rfl,.int x',[],rfl,rfl,?_⟩;have s3:=s'.upd (o:=.tup [.int i,.int x']) hp;generalize upd H' p (.tup [.int i,.int x'])=H4 at s3;dsimp only[A8];have ha4:=s3 _ _ ha;refine⟨_,rfl,_,rfl,_,rfl,a,rfl,⟨_,SqL.of ha4⟩,?_⟩;refine a2s (caps:=[some (.int i)]) (λr=>V.int (r.getD i 0)) (by omega) (λH' s5=>SqL.of (s5 _ _ ha4)) (hI.same s3) rfl (λv r H5 Q1 hr hv _ q=>?_) λH5 p5 s5 hp5=>?_
    .obtain⟨vb,rfl,hvb⟩:=hv;exact⟨_,rfl,_,rfl,vb,_,_,_,rfl,rfl,SqT.of hvb,X2 (by rw[(hP r hr).1,<-hR.1];exact hi),q H5 (Same.refl _)⟩
    have s6:=s3.trans (s5.upd (o:=.lst (ps.map λr=>V.int (r.getD i 0))) hp5);have e6:upd H5 p5 (.lst (ps.map λr=>V.int (r.getD i 0))) p5=some (.lst ((ps.map λr=>r.getD i 0).map V.int)):=by rw[A0,List.map_map];rfl
    generalize upd H5 p5 (.lst (ps.map λr=>V.int (r.getD i 0)))=H6 at s6 e6;have goal:∀M:Int,(∀p∈ps,p.getD i 0<=M)->0<=M->(M=0∨∃p∈ps,p.getD i 0=M)->(b*M<x'->Q (.bl true) H6)/\(¬b*M<x'->∀j,j<i+1->∃M,rest.getD j 0<=b*M/\(M=0∨∃p∈ps,p.getD j 0=M)):=λM h1 h2 h3=>by
     refine⟨λe=>k true H6 s6 ⟨λ_=>⟨_,M,.inr ⟨i,rfl⟩,h1,h2,by rw[ex];exact e⟩,λz=>nomatch z⟩,λe j hj'=>?_⟩;by_cases hji:j<i
     .exact hj j hji
     .rw[show j=i by omega,ex];exact⟨M,by omega,h3⟩
    refine⟨p5,_,rfl,SqL.of e6,λz=>?_,λM hM hall=>?_⟩
    .have hps:ps=[]:=List.map_eq_nil_iff.mp z;obtain⟨g1,g2⟩:=goal 0 (λp hp=>by rw[hps]at hp;cases hp) (Int.le_refl _) (.inl rfl);refine⟨_,_,rfl,rfl,.inl ⟨by omega,by omega⟩,_,_,rfl,rfl,_,rfl,Q0 (λe=>?_) (λe=>?_)⟩
     .exact g1 (of_decide_eq_true e)
     .exact⟨_,_,rfl,s6,g2 (λz=>e (decide_eq_true z))⟩
    .obtain⟨p0,hp0,e0⟩:=List.mem_map.mp hM;obtain⟨g1,g2⟩:=goal M (λp hp=>hall _ (List.mem_map.mpr ⟨p,hp,rfl⟩)) (by rw[<-e0];exact gd0 (λx hx=>((hP p0 hp0).2.1 x hx).1) i) (.inr ⟨p0,hp0,e0⟩);refine⟨_,_,rfl,rfl,.inl ⟨by omega,by omega⟩,_,_,rfl,rfl,_,rfl,Q0 (λe=>?_) (λe=>?_)⟩
     .exact g1 (of_decide_eq_true e)
     .exact⟨_,_,rfl,s6,g2 (λz=>e (decide_eq_true z))⟩
   .rintro σ H' ⟨o3,o4,rfl,s',hj⟩;refine k false H' s' ⟨(λz=>nomatch z),λ_ j hj'=>hj j (by rw[List.length_map,hR.1];exact hj')⟩
  refine⟨_,rfl,y,rest,rfl,hy,λH1 s1=>?_⟩;refine⟨_,rfl,_,rfl,a,rfl,⟨_,SqL.of (s1 _ _ ha)⟩,?_⟩;refine a2s (caps:=[]) (λr=>V.int r.sum) (by omega) (λH' s'=>SqL.of (s' _ _ (s1 _ _ ha))) (hI.same s1) rfl (λv r H2 Q1 _ hv _ q=>⟨_,rfl,v,r,rfl,hv,λH3 s3=>q H3 s3⟩) λH2 p2 s2 hp2=>?_;have s12:=s1.trans (s2.upd (o:=.lst (ps.map λr=>V.int r.sum)) hp2);have e2:upd H2 p2 (.lst (ps.map λr=>V.int r.sum)) p2=some (.lst ((ps.map List.sum).map V.int)):=by rw[A0,List.map_map];rfl
  generalize upd H2 p2 (.lst (ps.map λr=>V.int r.sum))=H3 at s12 e2;have goal:∀M:Int,(∀p∈ps,p.sum<=M)->0<=M->b*M<rest.sum->Q (.bl true) H3:=λM h1 h2 e=>k true H3 s12 ⟨λ_=>⟨_,M,.inl rfl,h1,h2,e⟩,λz=>nomatch z⟩;refine⟨p2,_,rfl,SqL.of e2,λz=>?_,λM hM hall=>?_⟩
  .have hps:ps=[]:=List.map_eq_nil_iff.mp z;refine⟨_,_,rfl,rfl,.inl ⟨by omega,by omega⟩,_,_,rfl,rfl,_,rfl,Q0 (λe=>?_) (λe=>fin _ _ ⟨rfl,s12⟩)⟩;exact goal 0 (λp hp=>by rw[hps]at hp;cases hp) (Int.le_refl _) (of_decide_eq_true e)
  .obtain⟨p0,hp0,e0⟩:=List.mem_map.mp hM;refine⟨_,_,rfl,rfl,.inl ⟨by omega,by omega⟩,_,_,rfl,rfl,_,rfl,Q0 (λe=>?_) (λe=>fin _ _ ⟨rfl,s12⟩)⟩;exact goal M (λp hp=>hall _ (List.mem_map.mpr ⟨p,hp,rfl⟩)) (by rw[<-e0];exact a3K _ λx hx=>((hP p0 hp0).2.1 x hx).1) (of_decide_eq_true e)
end
def lfl(pa la ma:Addr):List (Str×V):=[("parts",.ref pa),("lost",.ref la),("met",.ref ma)]
section
variable (pa la ma:Addr)
theorem U8:(lfl pa la ma).lookup ("parts" : Str)=some (.ref pa):=by with_unfolding_all rfl
theorem a4a:(lfl pa la ma).lookup ("lost" : Str)=some (.ref la):=by with_unfolding_all rfl
theorem Z8:(lfl pa la ma).lookup ("met" : Str)=some (.ref ma):=by with_unfolding_all rfl
theorem a4c:(lfl pa la ma).lookup ("fitting" : Str)=none:=by with_unfolding_all rfl
theorem a4d:(lfl pa la ma).lookup ("filling" : Str)=none:=by with_unfolding_all rfl
theorem a2b:(lfl pa la ma).lookup ("next_part" : Str)=none:=by with_unfolding_all rfl
theorem a4b:(lfl pa la ma).lookup ("is_lost" : Str)=none:=by with_unfolding_all rfl
theorem a3Z:(lfl pa la ma).lookup ("meet" : Str)=none:=by with_unfolding_all rfl
theorem b0Q:K6 "met" (.ref ma) (K6 "lost" (.ref la) (K6 "parts" (.ref pa) []))=lfl pa la ma:=by with_unfolding_all rfl
end
theorem lp{f:Str}{v:V}{fs:List (Str×V)}{k:Nat}(h:fs.length<=k):(K6 f v fs).length<=k+1:=by
 refine Nat.le_trans ?_ (Nat.succ_le_succ h);clear h;induction fs with
 |nil=>exact Nat.le_refl _
 |cons p r ih =>
  obtain⟨g,x⟩:=p;show(if g=f then(g,v)::r else(g,x)::K6 f v r).length<=_;split
  .simp
  .simpa using ih
structure LTx(K:PySem.W.Frag)(C:Addr):Prop where
 cl:Cls K C
 n1:NoAttr K C "parts"
 n2:NoAttr K C "lost"
 n3:NoAttr K C "met"
structure LOb(C:Addr)(H:Hp)(p pa la ma:Addr)(rss:LLI):Prop where
 ob:∃dx,H p=some (.ins C dx (lfl pa la ma))
 hp:∃us,H pa=some (.tup us)/\Its H us rss/\us.length<=1000
theorem LOb.same{C:Addr}{H H':Hp}{p pa la ma:Addr}{rss:LLI}(h:LOb C H p pa la ma rss)(s:Same H H'):LOb C H' p pa la ma rss:=by
 obtain⟨⟨dx,h1⟩,⟨us,h2,h3,h4⟩⟩:=h;exact⟨⟨dx,s _ _ h1⟩,⟨us,s _ _ h2,h3.same s,h4⟩⟩
theorem a3k{H:Hp}{us:List V}{rss:LLI}(h:Its H us rss){k:Nat}(hk:k<rss.length):∃v,us[k]?=some v/\IT H v (rss.getD k []):=by
 have hk':k<us.length:=by rw[h.1];exact hk
 obtain⟨r,e1,e2⟩:=h.2 k _ (List.getElem?_eq_getElem hk');refine⟨_,List.getElem?_eq_getElem hk',?_⟩;rw[List.getD_eq_getElem?_getD,e1];exact e2
theorem b4J{us:List V}{v:V}{k:Int}(h0:0<=k)(h:us[k.toNat]?=some v):atI us k=some v:=by
 obtain⟨m,rfl⟩:∃m:Nat,k=m:=⟨k.toNat,by omega⟩;exact a0e h
section
variable {P:Program}{w:World}{K:PySem.W.Frag}{mg:Str->Option Value}{base:Heap}{C:Addr}
inductive IspLInit(C:Addr)(vs:List V)(H:Hp)(Q:VK)(E:XK):Prop
 |mk (p dx pa:Addr) (_:vs=[.ref p,.ref pa]) (_:H p=some (.ins C dx [])) (_:∀(la ma:Addr) (H':Hp),H la=none->H ma=none->H' p=some (.ins C dx (lfl pa la ma))->H' la=some (LdO la [])->H' ma=some (.lst [])->(∀b o,H b=some o->b≠p->H' b=some o)->Q .non H'):IspLInit C vs H Q E
def a5U(C:Addr):Sp:=λvs H Q E=>IspLInit C vs H Q E
theorem W5:FnScope ["self","told"] ["self","told"] (A2 E4):=⟨rfl,rfl,rfl,by decide +kernel,rfl,by decide +kernel,by decide +kernel⟩
theorem a9h(FM:MethAt K C "__init__" "Laying.__init__" E4 ["self","told"])(U:LTx K C):MethOk P w K mg base C "__init__" 1 ["self","told"] (a5U C):=by
 refine FM.fnJ W5 (λvs H Q E h=>?_) (λcdv f A outer s H vs Q E hr h=>?_)
 .obtain⟨p,dx,pa,rfl,_⟩:=h;rfl
 .obtain⟨p,dx,pa,rfl,hp,k⟩:=h;refine⟨_,(A1 (a5e K (jv 0) (jv 1))
 (A1 (a5e K (jv 0) b1P)
 (A4 (a5e K (jv 0) (K7 jaN))))),?_⟩
  refine⟨_,rfl,_,rfl,p,C,dx,_,rfl,hp,U.cl,U.n1,by decide,?_⟩;have k1:∀b o,H b=some o->b≠p->upd H p (.ins C dx (K6 "parts" (.ref pa) [])) b=some o:=λb o e hb=>by rw[A3 hb];exact e
  have e1:upd H p (.ins C dx (K6 "parts" (.ref pa) [])) p=some (.ins C dx (K6 "parts" (.ref pa) [])):=A0;have n1:∀b,upd H p (.ins C dx (K6 "parts" (.ref pa) [])) b=none->H b=none:=λb e=>by
   by_cases hb:b=p
   .subst hb;rw[A0]at e;cases e
   .rwa[A3 hb]at e
  generalize upd H p (.ins C dx (K6 "parts" (.ref pa) []))=H1 at k1 e1 n1;intro la hla;have pl:p≠la:=A6 e1 hla;refine⟨_,rfl,p,C,dx,_,rfl,by rw[A3 pl];exact e1,U.cl,U.n2,Nat.lt_of_le_of_lt (lp (Nat.le_refl 0)) (by decide),?_⟩;refine⟨Nat.zero_le _,λma hma=>?_⟩;have pm:p≠ma:=λz=>by subst z;rw[A0]at hma;cases hma
  have hma1:upd H1 la (LdO la []) ma=none:=by rwa[A3 pm.symm]at hma
  have lm:la≠ma:=A6 (o:=LdO la []) A0 hma1;have hma0:H1 ma=none:=by rwa[A3 lm.symm]at hma1
  refine⟨_,rfl,p,C,dx,_,rfl,by rw[A3 pm];exact A0,U.cl,U.n3,Nat.lt_of_le_of_lt (lp (lp (Nat.le_refl 0))) (by decide),?_⟩;refine k la ma _ (n1 _ hla) (n1 _ hma0) ?_ ?_ ?_ λb o e hb=>?_
  .rw[A0,b0Q]
  .rw[A3 pl.symm,A3 lm,A3 pl.symm,A0]
  .rw[A3 pm.symm,A0]
  .have e2:=k1 b o e hb;rw[A3 hb,A3 (A6 e2 hma0),A3 hb,A3 (A6 e2 hla)];exact e2
inductive IspFit(C:Addr)(vs:List V)(H:Hp)(Q:VK)(E:XK):Prop
 |mk (p pa la ma a:Addr) (y:V) (rss:LLI) (lo rest:List Int) (n:Nat) (_:vs=[.ref p,.ref a,y]) (_:LOb C H p pa la ma rss) (_:H a=some (.tup (lo.map V.int))) (_:Lo rss.length lo) (_:lo.length<=1000) (_:IT H y rest) (_:rest.length=n) (_:Pts n rss) (_:n<=1000) (_:∀(q:Addr) (H':Hp),Same H H'->H' q=some (.tup ((ft rss lo rest).map V.int))->Q (.ref q) H'):IspFit C vs H Q E
def b2r(C:Addr):Sp:=λvs H Q E=>IspFit C vs H Q E
theorem Z1:FnScope ["self","loose","rest"] ["self","loose","rest"] (A2 E9):=⟨rfl,rfl,rfl,by decide +kernel,rfl,by decide +kernel,by decide +kernel⟩
theorem b4f(FM:MethAt K C "fitting" "Laying.fitting" E9 ["self","loose","rest"])(T:Tx mg)(U:LTx K C)(O_below:Ok P w K mg base "below" 1 ["one","other"] a2P):MethOk P w K mg base C "fitting" 2 ["self","loose","rest"] (b2r C):=by
 refine FM.fnJ Z1 (λvs H Q E h=>?_) (λcdv f A outer s H vs Q E hr h=>?_)
 .obtain⟨p,pa,la,ma,a,y,rss,lo,rest,n,rfl,_⟩:=h;rfl
 .obtain⟨p,pa,la,ma,a,y,rss,lo,rest,n,rfl,hO,ha,hL,hl,hy,hrl,hP,hn,k⟩:=h;obtain⟨⟨dx,ho⟩,⟨us,hu,hI,hul⟩⟩:=hO;refine⟨_,(A4 (B2 (C5 K rfl T.b_tuple (jaC (E2 (N:=["k","self","rest"]) (src:=[none,some 0,some 2]) (O8 K (jv 1)) (by show D0 _ _=true;rfl) (by rfl) (by rfl)
 (λ_ _ _ _ _=>(A7 (i:=0) (show(["k","self","rest"]:List Str).Nodup by decide +kernel) rfl (Or.inl rfl))) (λ_ _ _ _ _=>(a1K (G0 K (B0 O_below (hr.mono (by omega)) rfl (jaC (a0I K (T5 K (jv 1)) (jv 0)) (jaC (jv 2) jaN)))))) (λ_ _ _ _ _=>(jv 0))) jaN)))),?_⟩
  refine⟨_,rfl,a,rfl,⟨_,SqT.of ha⟩,?_⟩;refine a0g (caps:=[some (.ref p),some y]) V.int (λx=>Bel (rss.getD x.toNat []) rest) hl (λH' s=>SqT.of (s _ _ ha)) rfl (λx H1 Q1 hx s1 q=>?_) λH1 q1 s1 hq1=>?_
  .have hk:=hL.2 x hx;obtain⟨v,hv1,hv2⟩:=a3k (k:=x.toNat) hI (by omega);refine⟨_,rfl,p,C,dx,_,_,rfl,s1 _ _ ho,U.cl,U.n1,U8 pa la ma,_,rfl,pa,us,x,v,rfl,rfl,SqT.of (s1 _ _ hu),b4J hk.1 hv1,_,rfl,v,y,_,rest,rfl,hv2.same s1,hy.same s1,by rw[(hP.at (by omega)).1];exact hn,λH2 s2=>⟨_,rfl,q H2 s2⟩⟩
  .refine⟨q1,_,rfl,.inl ⟨SqL.of A0,λl hl=>?_⟩⟩;exact k l _ ((s1.upd hq1).upd hl) A0
def fl(rss:LLI)(lo:List Int)(j:Nat):List Int:=lo.filter λk=>decide (0<(rss.getD k.toNat []).getD j 0)
inductive IspFill(C:Addr)(vs:List V)(H:Hp)(Q:VK)(E:XK):Prop
 |mk (p pa la ma a:Addr) (j:Nat) (rss:LLI) (lo:List Int) (n:Nat) (_:vs=[.ref p,.ref a,.int j]) (_:LOb C H p pa la ma rss) (_:H a=some (.tup (lo.map V.int))) (_:Lo rss.length lo) (_:lo.length<=1000) (_:j<n) (_:Pts n rss) (_:n<=1000) (_:∀(q:Addr) (H':Hp),Same H H'->H' q=some (.lst ((fl rss lo j).map V.int))->Q (.ref q) H'):IspFill C vs H Q E
def a8r(C:Addr):Sp:=λvs H Q E=>IspFill C vs H Q E
theorem Z2:FnScope ["self","loose","j"] ["self","loose","j"] (A2 F0):=⟨rfl,rfl,rfl,by decide +kernel,rfl,by decide +kernel,by decide +kernel⟩
theorem b1D(FM:MethAt K C "filling" "Laying.filling" F0 ["self","loose","j"])(T:Tx mg)(U:LTx K C):MethOk P w K mg base C "filling" 1 ["self","loose","j"] (a8r C):=by
 refine FM.fnJ Z2 (λvs H Q E h=>?_) (λcdv f A outer s H vs Q E hr h=>?_)
 .obtain⟨p,pa,la,ma,a,j,rss,lo,n,rfl,_⟩:=h;rfl
 .obtain⟨p,pa,la,ma,a,j,rss,lo,n,rfl,hO,ha,hL,hl,hj,hP,hn,k⟩:=h;obtain⟨⟨dx,ho⟩,⟨us,hu,hI,hul⟩⟩:=hO;refine⟨_,(A4 (B2 (E2 (N:=["k","self","j"]) (src:=[none,some 0,some 2]) (O8 K (jv 1)) (by show D0 _ _=true;rfl) (by rfl) (by rfl)
 (λ_ _ _ _ _=>(A7 (i:=0) (show(["k","self","j"]:List Str).Nodup by decide +kernel) rfl (Or.inl rfl))) (λ_ _ _ _ _=>(a1K (a0H (a0I K (a0I K (T5 K (jv 1)) (jv 0)) (jv 2)) A5))) (λ_ _ _ _ _=>(jv 0))))),?_⟩
  refine⟨_,rfl,a,rfl,⟨_,SqT.of ha⟩,?_⟩;refine a0g (caps:=[some (.ref p),some (.int j)]) V.int (λx=>decide (0<(rss.getD x.toNat []).getD j 0)) hl (λH' s=>SqT.of (s _ _ ha)) rfl (λx H1 Q1 hx s1 q=>?_) λH1 q1 s1 hq1=>?_
  .have hk:=hL.2 x hx;obtain⟨v,hv1,vb,rfl,hv2⟩:=a3k (k:=x.toNat) hI (by omega);exact⟨_,rfl,p,C,dx,_,_,rfl,s1 _ _ ho,U.cl,U.n1,U8 pa la ma,_,rfl,pa,us,x,_,rfl,rfl,SqT.of (s1 _ _ hu),b4J hk.1 hv1,_,rfl,vb,_,_,_,rfl,rfl,SqT.of (s1 _ _ hv2),X2 (by rw[(hP.at (by omega)).1];exact hj),_,_,rfl,rfl,_,rfl,q H1 (Same.refl _)⟩
  .exact k q1 _ (s1.upd hq1) A0
end
theorem a7Y{kvs:List (LLI×V)}{k:LLI}{v:V}(h:N0 kvs k=some v):(k,v)∈kvs:=by
 unfold N0 at h;obtain⟨p,h1,h2⟩:=Option.map_eq_some_iff.mp h;have h3:=List.mem_of_find?_eq_some h1;have h4:p.1=k:=by simpa using List.find?_some h1
 rw[<-h4,<-h2];exact h3
theorem a8K{kvs:List (LLI×V)}{k:LLI}{v:V}{p:LLI×V}(h:p∈Q9 kvs k v):p∈kvs∨p=(k,v):=by
 unfold Q9 at h;split at h
 .obtain⟨q,hq,rfl⟩:=List.mem_map.mp h;by_cases e:q.1=k
  .rw[if_pos e];exact .inr (by rw[e])
  .rw[if_neg e];exact .inl hq
 .rcases List.mem_append.mp h with q|q
  .exact .inl q
  .exact .inr (List.mem_singleton.mp q)
def LsOk(n:Nat)(rss:LLI)(kvs:List (LLI×V)):Prop:=∀q∈kvs,∃(lo rest:List Int) (b:Int),q=([lo,rest],.int b)/\∀d,LY n rss lo rest d->b<d.sum
theorem LsOk.put{n:Nat}{rss:LLI}{kvs:List (LLI×V)}{lo rest:List Int}{b:Int}(h:LsOk n rss kvs)(hb:∀d,LY n rss lo rest d->b<d.sum):LsOk n rss (Q9 kvs [lo,rest] (.int b)):=λq hq=>by
 rcases a8K hq with z|z
 .exact h q z
 .exact⟨lo,rest,b,z,hb⟩
def b4O(n:Nat)(rss:LLI)(lo rest:List Int):Prop:=∀j,j<n->0<rest.getD j 0->∃k∈lo,0<(rss.getD k.toNat []).getD j 0
theorem a8t{n:Nat}{rss:LLI}{lo rest:List Int}{b:Int}{t:Bool}(h:Shrt n (lo.map λk=>rss.getD k.toNat []) rest b t)(ht:t=true)(hp:Pts n rss)(hl:Lo rss.length lo)(hb:0<=b):∀d,LY n rss lo rest d->b<d.sum:=λd hd=>by
 obtain⟨f,M,hf,hM,hM0,hlt⟩:=h.yes ht;have e:ws f rss d=f rest:=by
  rcases hf with rfl|⟨j,rfl⟩
  .exact hd.sum hp
  .exact hd.at hp j
 have h1:ws f rss d<=d.sum*M:=b2k hd.nn hd.len λk hk=>by
  by_cases hm:(k:Int)∈lo
  .exact .inr (hM _ (List.mem_map.mpr ⟨(k:Int),hm,by rw[Int.toNat_natCast]⟩))
  .exact .inl (hd.off k hm)
 rw[e]at h1;refine Int.not_le.mp λz=>?_;have:=Int.mul_le_mul_of_nonneg_right z hM0;omega
theorem b0F{n:Nat}{rss:LLI}{lo rest:List Int}{b:Int}{t:Bool}(h:Shrt n (lo.map λk=>rss.getD k.toNat []) rest b t)(ht:t=false)(hp:Pts n rss)(hl:Lo rss.length lo)(hb:0<=b):b4O n rss lo rest:=λj hj hpos=>by
 obtain⟨M,h1,h2⟩:=h.no ht j hj;rcases h2 with rfl|⟨p,hp',rfl⟩
 .omega
 .obtain⟨k,hk,rfl⟩:=List.mem_map.mp hp';have hkk:=hl.2 k hk;have h0:=hp.nn j _ (gdm (k:=k.toNat) (by omega));refine⟨k,hk,?_⟩;rcases Int.lt_or_eq_of_le h0 with q|q
  .exact q
  .rw[<-q]at h1;omega
section
variable {P:Program}{w:World}{K:PySem.W.Frag}{mg:Str->Option Value}{base:Heap}{C:Addr}
inductive IspNextP(C:Addr)(vs:List V)(H:Hp)(Q:VK)(E:XK):Prop
 |mk (p pa la ma a:Addr) (y:V) (rss:LLI) (lo rest:List Int) (n:Nat) (_:vs=[.ref p,.ref a,y]) (_:LOb C H p pa la ma rss) (_:H a=some (.tup (lo.map V.int))) (_:Lo rss.length lo) (_:lo.length<=1000) (_:IT H y rest) (_:rest.length=n) (_:Pts n rss) (_:n<=1000) (_:(∃j,j<n/\0<rest.getD j 0)) (_:b4O n rss lo rest) (_:∀(k:Int) (H':Hp),k∈lo->Same H H'->Q (.int k) H'):IspNextP C vs H Q E
def a5R(C:Addr):Sp:=λvs H Q E=>IspNextP C vs H Q E
theorem sc_Laying_next_part:FnScope ["self","loose","rest","places"] ["self","loose","rest"] (A2 D7):=⟨rfl,rfl,rfl,by decide +kernel,rfl,by decide +kernel,by decide +kernel⟩
theorem a9d(FM:MethAt K C "next_part" "Laying.next_part" D7 ["self","loose","rest"])(T:Tx mg)(CL_Laying:Cls K C)(O_Laying_filling:MethOk P w K mg base C "filling" 1 ["self","loose","j"] (a8r C)):MethOk P w K mg base C "next_part" 2 ["self","loose","rest"] (a5R C):=by
 refine FM.fnJ sc_Laying_next_part (λvs H Q E h=>?_) (λcdv f A outer s H vs Q E hr h=>?_)
 .obtain⟨p,pa,la,ma,a,y,rss,lo,rest,n,rfl,_⟩:=h;rfl
 .obtain⟨p,pa,la,ma,a,y,rss,lo,rest,n,rfl,hO,ha,hL,hl,hy,hrl,hP,hn,⟨j0,hj0,hpos0⟩,hF,k⟩:=h;have hz:(3000000:Nat)<=sizeLine:=by rw[sizeLine_eq];decide
  obtain⟨va,rfl,hva⟩:=id hy;obtain⟨dx,ho⟩:=hO.ob;refine⟨_,(A1 (a6h (i:=3) sc_Laying_next_part.nd rfl (Or.inl rfl) (N:=["j","rest"]) (src:=[none,some 2]) (M8 rfl T.b_range (jaC (G8 K rfl T.b_len (jaC (jv 2) jaN)) jaN)) (by show D0 _ _=true;rfl) (by rfl) (by rfl)
 (λ_ _ _ _ _=>(A7 (i:=0) (show(["j","rest"]:List Str).Nodup by decide +kernel) rfl (Or.inl rfl))) (λ_ _ _ _ _=>(a1K (a0H (a0I K (jv 1) (jv 0)) A5))) (λ_ _ _ _ _=>(jv 0)))
 (A4 (B2 (b5A K (b1L K rfl T.b_min rfl T.b_len (jaC (E2 (N:=["j","self","loose"]) (src:=[none,some 0,some 1]) (R7 K (jv 3)) (by show D0 _ _=true;rfl) (by rfl) (by rfl)
 (λ_ _ _ _ _=>(A7 (i:=0) (show(["j","self","loose"]:List Str).Nodup by decide +kernel) rfl (Or.inl rfl))) (λ_ _ _ _ _=>G7) (λ_ _ _ _ _=>(a3i O_Laying_filling CL_Laying (hr.mono (by omega)) (jv 1) (jaC (jv 2) (jaC (jv 0) jaN))))) jaN)) A5)))),?_⟩
  refine⟨_,rfl,va,_,rfl,.inr (SqT.of hva),_,rfl,by omega,by rw[List.length_map,hrl];omega,?_⟩;rw[List.length_map,hrl,Int.toNat_natCast];refine X0 (lo:=0) (n:=n) (by omega) (λi ys H'=>H'=H/\ys=((List.range i).filter λj=>decide (0<rest.getD j 0)).map λ(j:Nat)=>V.int (j:Int)) ⟨rfl,rfl⟩ (λi ys H' h=>by rw[h.2,List.length_map];exact Nat.le_trans (List.length_filter_le _ _) (by rw[List.length_range];exact Nat.le_refl _)) ?_ ?_
  .rintro i ys H' hi ⟨rfl,rfl⟩;rw[Int.zero_add];refine⟨Sub.one,_,rfl,_,rfl,va,_,_,_,rfl,rfl,SqT.of hva,X2 (by rw[hrl];exact hi),_,_,rfl,rfl,_,rfl,?_⟩;rw[List.range_succ,List.filter_append,List.map_append];refine Q0 (λe=>?_) (λe=>?_)
   .refine⟨_,rfl,rfl,?_⟩;rw[show([i].filter λj=>decide (0<rest.getD j 0))=[i] by rw[List.filter_cons,if_pos e];rfl];rfl
   .refine⟨rfl,?_⟩;rw[show([i].filter λj=>decide (0<rest.getD j 0))=[] by rw[List.filter_cons,if_neg e];rfl];rw[List.map_nil,List.append_nil]
  .rintro ys H' ⟨rfl,rfl⟩ pl hpl;have s1:=(Same.refl H').upd (o:=.lst (((List.range n).filter λj=>decide (0<rest.getD j 0)).map λ(j:Nat)=>V.int (j:Int))) hpl;have e1:upd H' pl (.lst (((List.range n).filter λj=>decide (0<rest.getD j 0)).map λ(j:Nat)=>V.int (j:Int))) pl=some (.lst (((List.range n).filter λj=>decide (0<rest.getD j 0)).map λ(j:Nat)=>V.int (j:Int))):=A0;generalize upd H' pl (.lst (((List.range n).filter λj=>decide (0<rest.getD j 0)).map λ(j:Nat)=>V.int (j:Int)))=H1 at s1 e1;dsimp only[A8];have hjs:∀j∈(List.range n).filter λj=>decide (0<rest.getD j 0),j<n/\0<rest.getD j 0:=λj hj=>by
    obtain⟨h1,h2⟩:=List.mem_filter.mp hj;exact⟨List.mem_range.mp h1,of_decide_eq_true h2⟩
   have hj0m:j0∈(List.range n).filter λj=>decide (0<rest.getD j 0):=List.mem_filter.mpr ⟨List.mem_range.mpr hj0,decide_eq_true hpos0⟩;have hjl:((List.range n).filter λj=>decide (0<rest.getD j 0)).length<=1000:=Nat.le_trans (List.length_filter_le _ _) (by rw[List.length_range];exact hn);generalize (List.range n).filter (λj=>decide (0<rest.getD j 0))=js at e1 hjs hj0m hjl;refine⟨_,rfl,pl,rfl,⟨_,SqL.of e1⟩,?_⟩;refine a0s (xs:=js.map λ(j:Nat)=>V.int (j:Int)) (by rw[List.length_map];omega) (λi ys H'=>Same H1 H'/\ys.length=i/\∀v∈ys,∃(c:Addr) (j:Nat),j∈js/\v=.ref c/\H' c=some (.lst ((fl rss lo j).map V.int))) ⟨Same.refl _,rfl,λv hv=>nomatch hv⟩ (λi ys H' _ h=>⟨SqL.of (h.1 _ _ e1),by rw[h.2.1];exact Nat.le_refl _⟩) ?_ ?_
   .rintro i x ys H2 hx ⟨s2,hyl,hys⟩;obtain⟨j,hj,rfl⟩:∃j∈js,x=V.int ((j:Nat):Int):=by
     rw[List.getElem?_map]at hx;obtain⟨j,h1,h2⟩:=Option.map_eq_some_iff.mp hx;exact⟨j,List.mem_of_getElem? h1,h2.symm⟩
    have s02:=s1.trans s2;refine⟨Sub.one,_,rfl,p,dx,_,rfl,s02 _ _ ho,a4d pa la ma,_,rfl,_,rfl,?_⟩;refine⟨p,pa,la,ma,a,j,rss,lo,n,rfl,hO.same s02,s02 _ _ ha,hL,hl,(hjs j hj).1,hP,hn,λq H3 s3 hq=>⟨s2.trans s3,by rw[List.length_append,hyl];rfl,λv hv=>?_⟩⟩;rcases List.mem_append.mp hv with z|z
    .obtain⟨c,j',h1,h2,h3⟩:=hys v z;exact⟨c,j',h1,h2,s3 _ _ h3⟩
    .exact⟨q,j,hj,List.mem_singleton.mp z,hq⟩
   .rintro ys H2 ⟨s2,hyl,hys⟩ pm hpm;rw[List.length_map]at hyl;have s3:=(Same.refl H2).upd (o:=.lst ys) hpm;have e3:upd H2 pm (.lst ys) pm=some (.lst ys):=A0;generalize upd H2 pm (.lst ys)=H3 at s3 e3;refine⟨pm,ys,rfl,SqL.of e3,?_,λv hv=>?_,λv hv=>?_⟩
    .rw[hyl];exact List.length_pos_of_mem hj0m
    .obtain⟨c,j,h1,h2,h3⟩:=hys v hv;exact⟨c,_,h2,SqL.of (s3 _ _ h3)⟩
    .obtain⟨c,j,h1,rfl,h3⟩:=hys v hv;have hjj:=hjs j h1;obtain⟨k1,hk1,hk2⟩:=hF j hjj.1 hjj.2;have hne:fl rss lo j≠[]:=λz=>by
      have:k1∈fl rss lo j:=List.mem_filter.mpr ⟨hk1,decide_eq_true hk2⟩;rw[z]at this;cases this
     obtain⟨k0,ks,e0⟩:=List.exists_cons_of_ne_nil hne;have hk0:k0∈lo:=by
      have:k0∈fl rss lo j:=by rw[e0];exact List.mem_cons_self
      exact(List.mem_filter.mp this).1
     refine .inl ⟨c,_,0,.int k0,rfl,rfl,SqL.of (s3 _ _ h3),by rw[e0];exact a0e (j:=0) rfl,?_⟩;exact k k0 _ hk0 ((s1.trans s2).trans s3)
structure LSt(C:Addr)(H:Hp)(p pa la ma:Addr)(rss:LLI)(kvs:List (LLI×V))(ms:LLI):Prop where
 ob:LOb C H p pa la ma rss
 lo:LD H la kvs
 me:∃fs,H ma=some (.lst fs)/\Its H fs ms
theorem LSt.same{C:Addr}{H H':Hp}{p pa la ma:Addr}{rss:LLI}{kvs:List (LLI×V)}{ms:LLI}(h:LSt C H p pa la ma rss kvs ms)(s:Same H H'):LSt C H' p pa la ma rss kvs ms :=
 ⟨h.ob.same s,h.lo.same s,let ⟨fs,e,q⟩:=h.me;⟨fs,s _ _ e,q.same s⟩⟩
inductive IspIsLost(C:Addr)(vs:List V)(H:Hp)(Q:VK)(E:XK):Prop
 |mk (p pa la ma a:Addr) (y:V) (b:Int) (rss:LLI) (kvs:List (LLI×V)) (ms:LLI) (lo rest:List Int) (n:Nat) (_:vs=[.ref p,.ref a,y,.int b]) (_:LSt C H p pa la ma rss kvs ms) (_:LsOk n rss kvs) (_:H a=some (.tup (lo.map V.int))) (_:Lo rss.length lo) (_:lo.length<=1000) (_:IT H y rest) (_:Rs n rest) (_:Pts n rss) (_:n<=1000) (_:0<=b) (_:b<=1000000) (_:∀(t:Bool) (H':Hp),Same H H'->(t=true->∀d,LY n rss lo rest d->b<d.sum)->(t=false->b4O n rss lo rest)->Q (.bl t) H'):IspIsLost C vs H Q E
def a3N(C:Addr):Sp:=λvs H Q E=>IspIsLost C vs H Q E
theorem Z0:FnScope ["self","loose","rest","budget"] ["self","loose","rest","budget"] (A2 E8):=⟨rfl,rfl,rfl,by decide +kernel,rfl,by decide +kernel,by decide +kernel⟩
theorem a6Z(FM:MethAt K C "is_lost" "Laying.is_lost" E8 ["self","loose","rest","budget"])(T:Tx mg)(U:LTx K C)(O_is_short:Ok P w K mg base "is_short" 2 ["parts","rest","budget"] a5O):MethOk P w K mg base C "is_lost" 3 ["self","loose","rest","budget"] (a3N C):=by
 refine FM.fnJ Z0 (λvs H Q E h=>?_) (λcdv f A outer s H vs Q E hr h=>?_)
 .obtain⟨p,pa,la,ma,a,y,b,rss,kvs,ms,lo,rest,n,rfl,_⟩:=h;rfl
 .obtain⟨p,pa,la,ma,a,y,b,rss,kvs,ms,lo,rest,n,rfl,hS,hK,ha,hL,hl,hy,hR,hP,hn,hb0,hb1,k⟩:=h;have hz:(3000000:Nat)<=sizeLine:=by rw[sizeLine_eq];decide
  have hu:=hr.u60;obtain⟨dx,ho⟩:=hS.ob.ob;refine⟨_,(A1 (E5 (b2O (b4t hu (T5 K (jv 0)) (L7 (jaC (jv 1) (jaC (jv 2) jaN))) (a9G A5)) (jv 3))
 (A4 (B2 W0))
 C2)
 (A4 (B2 (B0 O_is_short (hr.mono (by omega)) rfl (jaC (E2 (N:=["k","self"]) (src:=[none,some 0]) (O8 K (jv 1)) (by show D0 _ _=true;rfl) (by rfl) (by rfl)
 (λ_ _ _ _ _=>(A7 (i:=0) (show(["k","self"]:List Str).Nodup by decide +kernel) rfl (Or.inl rfl))) (λ_ _ _ _ _=>G7) (λ_ _ _ _ _=>(a0I K (T5 K (jv 1)) (jv 0)))) (jaC (jv 2) (jaC (jv 3) jaN))))))),?_⟩
  refine Y9 (λσ H'=>σ=[some (.ref p),some (.ref a),some y,some (.int b)]/\Same H H') ?fin λfin=>?_
  case fin =>
   rintro σ H1 ⟨rfl,s1⟩;obtain⟨us,hu1,hI,hul⟩:=hS.ob.hp;refine⟨_,rfl,a,rfl,⟨_,SqT.of (s1 _ _ ha)⟩,?_⟩;have hlm:∀k∈lo,0<=k/\k<rss.length:=hL.2;refine a0c (xs:=lo.map V.int) (by rw[List.length_map];omega) (λi ys H'=>Same H1 H'/\ys.length=i/\Its H' ys ((lo.take i).map λk=>rss.getD k.toNat [])) ⟨Same.refl _,rfl,.nil⟩ (λi ys H' _ h=>⟨SqT.of (h.1 _ _ (s1 _ _ ha)),by rw[h.2.1];exact Nat.le_refl _⟩) ?_ ?_
   .rintro i x ys H2 hx ⟨s2,hyl,hys⟩;obtain⟨k1,hk1,rfl⟩:=S0 hx;have hkk:=hlm k1 (List.mem_of_getElem? hk1);obtain⟨v,hv1,hv2⟩:=a3k (k:=k1.toNat) hI (by omega);have s02:=s1.trans s2;refine⟨Sub.one,_,rfl,p,C,dx,_,_,rfl,s02 _ _ ho,U.cl,U.n1,U8 pa la ma,_,rfl,pa,us,k1,v,rfl,rfl,SqT.of (s02 _ _ hu1),b4J hkk.1 hv1,s2,by rw[List.length_append,hyl];rfl,?_⟩;rw[List.take_add_one,hk1,List.map_append];exact hys.app (Its.one (hv2.same s02))
   .rintro ys H2 ⟨s2,hyl,hys⟩ pm hpm;rw[List.length_map]at hyl hys;rw[List.take_length]at hys;have s3:=(Same.refl H2).upd (o:=.lst ys) hpm;have e3:upd H2 pm (.lst ys) pm=some (.lst ys):=A0;generalize upd H2 pm (.lst ys)=H3 at s3 e3;have s03:=(s1.trans s2).trans s3;refine⟨_,rfl,_,rfl,pm,y,b,ys,_,rest,n,rfl,e3,hys.same s3,hy.same s03,by rw[hyl];exact hl,hn,hR,λq hq=>?_,hb0,hb1,λt H4 s4 ht=>?_⟩
    .obtain⟨k1,hk1,rfl⟩:=List.mem_map.mp hq;have:=hlm k1 hk1;exact hP.at (by omega)
    .exact k t H4 (s03.trans s4) (λz=>a8t ht z hP hL hb0) (λz=>b0F ht z hP hL hb0)
  refine⟨_,rfl,p,C,dx,_,_,rfl,ho,U.cl,U.n2,a4a pa la ma,la,kvs,rfl,hS.lo,_,rfl,_,rfl,by show 2<=sizeLine;omega,λtp htp=>?_⟩;have s1:=(Same.refl H).upd (o:=.tup [.ref a,y]) htp;have e1:upd H tp (.tup [.ref a,y]) tp=some (.tup [.ref a,y]):=A0;generalize upd H tp (.tup [.ref a,y])=H1 at s1 e1;have hT:Tq H1 tp [lo,rest]:=⟨[.ref a,y],e1,rfl,λi v e=>by
   match i,e with
   |0,e=>cases e;exact⟨lo,rfl,a,rfl,s1 _ _ ha⟩
   |1,e=>cases e;exact⟨rest,rfl,hy.same s1⟩
   |i+2,e=>exact nomatch e⟩
  refine⟨_,rfl,tp,[lo,rest],rfl,hS.lo.same s1,hT,_,rfl,?_⟩;cases ev:N0 kvs [lo,rest]with
  |none =>
   refine⟨_,_,rfl,rfl,false,congrArg V.bl (decide_eq_false (by show ¬b <= -1;omega)),L4 ?_⟩;exact fin _ _ ⟨rfl,s1⟩
  |some v =>
   obtain⟨lo',rest',bv,e,hbv⟩:=hK _ (a7Y ev);injection e with e2 e3
   injection e2 with e4 e5
   injection e5 with e5 _
   subst e3 e4 e5;refine⟨_,_,rfl,rfl,_,rfl,Q0 (λe=>?_) (λe=>fin _ _ ⟨rfl,s1⟩)⟩;have e':b<=bv:=of_decide_eq_true e;exact k true _ s1 (λ_ d hd=>by have:=hbv d hd;omega) (λz=>nomatch z)
end
theorem b4U{cs d:List Int}{k:Nat}{m:Int}(hl:cs.length=d.length)(hk:k<cs.length)(h1:cs.getD k 0=0)(h2:d.getD k 0=0):K9 (cs.set k m) d=K9 cs (d.set k m):=by
 have hl':(cs.set k m).length=d.length:=by rw[List.length_set];exact hl
 have hl2:cs.length=(d.set k m).length:=by rw[List.length_set];exact hl
 refine gdx (by rw[E7 _ _ hl',E7 _ _ hl2,List.length_set]) λj _=>?_;rw[G3 _ _ hl',G3 _ _ hl2,Q5 _ _ _ _ hk,Q5 _ _ _ _ (by omega)];by_cases e:j=k
 .subst e;rw[if_pos rfl,if_pos rfl,h1,h2];omega
 .rw[if_neg e,if_neg e]
theorem a8v{d:List Int}{k:Nat}(hk:k<d.length):(d.set k 0).set k (d.getD k 0)=d:=by
 rw[List.set_set];refine gdx (by rw[List.length_set]) λj _=>?_;rw[Q5 _ _ _ _ hk];split
 .rename_i e;rw[e]
 .rfl
theorem U7{α:Type}{a b:List α}(ha:a.Nodup)(hb:b.Nodup)(h:∀x∈a,x∉b):(a++b).Nodup:=List.nodup_append.mpr ⟨ha,hb,λx hx y hy e=>h x hx (by rw[e];exact hy)⟩
theorem a3a{α:Type}(a:α):[a].Nodup:=by simp
theorem b4K{n:Nat}{rs:List Int}(h:Rs n rs):(rs.map V.int).any trV=decide (0<rs.sum):=by
 rw[Bool.eq_iff_iff,List.any_eq_true,decide_eq_true_eq];constructor
 .rintro⟨v,hv,e⟩;obtain⟨z,hz,rfl⟩:=List.mem_map.mp hv;have hz0:=h.2.1 z hz;have:z≠0:=λq=>by subst q;cases e
  exact a8m rs h.2.1 z hz (by omega)
 .intro hs;obtain⟨i,hi,hp⟩:=W7 h.2.1 hs;refine⟨.int (rs.getD i 0),List.mem_map.mpr ⟨_,L5 hi,rfl⟩,?_⟩;show(rs.getD i 0 != 0)=true;exact bne_iff_ne.mpr (by omega)
theorem a5m(l:List Int):(l.map V.int).all a4p=true:=by
 rw[List.all_eq_true];intro v hv;obtain⟨_,_,rfl⟩:=List.mem_map.mp hv;rfl
theorem b0K{n:Nat}{rs:List Int}(h:Rs n rs)(h0:¬0<rs.sum):∀x∈rs,x=0:=λx hx=>by
 have h1:=h.2.1 x hx;refine Classical.byContradiction λz=>h0 (a8m rs h.2.1 x hx (by omega))
theorem LSt.tk{C:Addr}{H H':Hp}{p pa la ma:Addr}{rss:LLI}{kvs:List (LLI×V)}{ms:LLI}(h:LSt C H p pa la ma rss kvs ms)(o:Off [la,ma] H H'):∀b ys,H b=some (.tup ys)->H' b=some (.tup ys):=λb ys e=>by
 obtain⟨xs,e1,_⟩:=h.lo;obtain⟨fs,e2,_⟩:=h.me;refine o b _ ?_ e;simp only[List.mem_cons,List.not_mem_nil,or_false,not_or];exact⟨L6 e e1 (λz=>nomatch z),L6 e e2 (λz=>nomatch z)⟩
theorem IT.tk{H H':Hp}{v:V}{r:List Int}(h:∀b ys,H b=some (.tup ys)->H' b=some (.tup ys))(g:IT H v r):IT H' v r:=let ⟨a,e,q⟩:=g;⟨a,e,h _ _ q⟩
theorem Its.tk{H H':Hp}{vs:List V}{rss:LLI}(h:∀b ys,H b=some (.tup ys)->H' b=some (.tup ys))(g:Its H vs rss):Its H' vs rss:=⟨g.1,λi v e=>let ⟨r,e1,e2⟩:=g.2 i v e;⟨r,e1,IT.tk h e2⟩⟩
theorem b4D{K:PySem.W.Frag}{σ:L2.St}{H:Hp}{Q:VK}{i j l:Nat}{a:Addr}{xs:List Int}{k:Nat}{z:Int}(hi:σ[i]?=some (some (.ref a)))(hj:σ[j]?=some (some (.int k)))(hl:σ[l]?=some (some (.int z)))(ha:H a=some (.tup (xs.map V.int)))(hk:k<xs.length)(hz1:xs.length<=1000)(q:∀p H',Same H H'->H' p=some (.tup ((xs.set k z).map V.int))->Q (.ref p) H') :
  tOp a2X (tOp a2X (tSl (a8H K) (Y0 i) Y5 (a3H (Y0 j))) (b0B (a1n (Y0 l) a4K))) (tSl (a8H K) (Y0 i) (a3H (tOp (rI0 λi j=>.int (i+j)) (Y0 j) (tC (.int 1)))) Y5) σ H Q:=by
 have hz:(3000:Nat)<=sizeLine:=by rw[sizeLine_eq];decide
 refine⟨_,hi,_,hj,k,rfl,a,_,rfl,SqT.of ha,?_,λp hp=>?_⟩
 .rw[HT.sIx_none,HT.sIx_nat,List.length_map];omega
 .rw[b4B xs k (by omega)];have s1:Same H (upd H p (.tup ((xs.take k).map V.int))):=(Same.refl H).upd hp;have e1:upd H p (.tup ((xs.take k).map V.int)) p=some (.tup ((xs.take k).map V.int)):=A0;generalize upd H p (.tup ((xs.take k).map V.int))=H1 at s1 e1;refine⟨_,hl,by show 1<=sizeLine;omega,λp2 hp2=>?_⟩;have s2:Same H1 (upd H1 p2 (.tup [.int z])):=(Same.refl H1).upd hp2;have e2:upd H1 p2 (.tup [.int z]) p2=some (.tup [.int z]):=A0;generalize upd H1 p2 (.tup [.int z])=H2 at s2 e2;refine⟨p,p2,_,_,rfl,rfl,s2 _ _ e1,e2,?_,λp3 H3 s3 e3=>?_⟩
  .rw[List.length_map,List.length_take];show min k xs.length+1<=_;omega
  .have s13:Same H H3:=(s1.trans s2).trans s3;refine⟨_,hi,_,hj,_,_,rfl,rfl,_,rfl,a,_,rfl,SqT.of (s13 _ _ ha),?_,λp4 hp4=>?_⟩
   .rw[show((k:Int)+1)=((k+1:Nat):Int) by push_cast;rfl,HT.sIx_nat,List.length_map];omega
   .rw[show((k:Int)+1)=((k+1:Nat):Int) by push_cast;rfl,b4C xs (k+1) (by omega)];have s4:Same H3 (upd H3 p4 (.tup ((xs.drop (k+1)).map V.int))):=(Same.refl H3).upd hp4;refine⟨p3,p4,_,_,rfl,rfl,s4 _ _ e3,A0,?_,λp5 H5 s5 e5=>?_⟩
    .rw[List.length_append,List.length_map,List.length_map,List.length_take,List.length_drop];show min k xs.length+1+_<=_;omega
    .refine q p5 H5 ((s13.trans s4).trans s5) ?_;rw[e5,List.set_eq_take_append_cons_drop,if_pos hk,List.map_append,List.map_cons,List.append_assoc];rfl
def New(n:Nat)(rss:LLI)(lo rest cs x:List Int):Prop:=∃d,LY n rss lo rest d/\x=K9 cs d
def b5G(n:Nat)(rss:LLI)(lo rest cs:List Int)(k i:Nat)(x:List Int):Prop:=∃m,m<i/\New n rss (wo lo k) (less rest (rss.getD k []) (m:Nat)) (cs.set k (m:Nat)) x
section
variable {n:Nat}{rss:LLI}{lo rest cs:List Int}{k:Nat}
theorem a9l{m:Int}{x:List Int}(hcl:cs.length=rss.length)(hk:k<rss.length)(h:New n rss (wo lo k) (less rest (rss.getD k []) m) (cs.set k m) x):x.getD k 0=m:=by
 obtain⟨d,hd,rfl⟩:=h;rw[G3 _ _ (by rw[List.length_set,hcl,hd.len]),Q5 _ _ _ _ (by rw[hcl];exact hk),if_pos rfl,hd.off k λz=>(wo_mem.mp z).2 rfl];omega
theorem a4X{m:Nat}{x:List Int}(hp:Pts n rss)(hcl:cs.length=rss.length)(hk:k<rss.length)(hkl:(k:Int)∈lo)(hc0:cs.getD k 0=0)(hrl:rest.length=n)(h:New n rss (wo lo k) (less rest (rss.getD k []) m) (cs.set k m) x):New n rss lo rest cs x:=by
 obtain⟨d,hd,rfl⟩:=h;obtain⟨h1,h2⟩:=hd.up hp hk hkl (by omega) hrl;exact⟨_,h1,b4U (by rw[hcl,hd.len]) (by rw[hcl];exact hk) hc0 h2⟩
theorem a9m{q:Nat}{x:List Int}(hp:Pts n rss)(hcl:cs.length=rss.length)(hk:k<rss.length)(hc0:cs.getD k 0=0)(hrl:rest.length=n)(hq:∃j,j<n/\rest.getD j 0<((q:Int)+1)*(rss.getD k []).getD j 0)(h:New n rss lo rest cs x):b5G n rss lo rest cs k (q+1) x:=by
 obtain⟨d,hd,rfl⟩:=h;have hkd:k<d.length:=by rw[hd.len];exact hk
 have h0:=hd.nn _ (L5 hkd);obtain⟨j,hj,hlt⟩:=hq;have hle:=hd.le hp hk j;have hm:d.getD k 0<(q:Int)+1:=by
  refine Int.not_le.mp λz=>?_;have:=Int.mul_le_mul_of_nonneg_right z (hp.nn j _ (gdm hk));omega
 obtain⟨m,hm'⟩:∃m:Nat,d.getD k 0=m:=⟨(d.getD k 0).toNat,by omega⟩;refine⟨m,by omega,d.set k 0,?_,?_⟩
 .have:=hd.down hp hk hrl;rwa[hm']at this
 .rw[b4U (by rw[hcl,List.length_set,hd.len]) (by rw[hcl];exact hk) hc0 (by rw[Q5 _ _ _ _ hkd,if_pos rfl]),<-hm',a8v hkd]
end
theorem b4h{n:Nat}{rss:LLI}{lo rest cs x:List Int}(hp:Pts n rss)(hl:Lo rss.length lo)(hrl:rest.length=n):New n rss (ft rss lo rest) rest cs x↔New n rss lo rest cs x :=
 ⟨λ⟨d,h,e⟩=>⟨d,(LY.ft hp hl hrl).mp h,e⟩,λ⟨d,h,e⟩=>⟨d,(LY.ft hp hl hrl).mpr h,e⟩⟩
structure MPre(n:Nat)(rss:LLI)(lo rest cs:List Int)(kvs:List (LLI×V))(ms:LLI)(most:Nat):Prop where
 ls:LsOk n rss kvs
 hl:Lo rss.length lo
 ll:lo.length<=1000
 rs:Rs n rest
 pt:Pts n rss
 n1:n<=1000
 cl:cs.length=rss.length
 rl:rss.length<=1000
 c0:∀k:Nat,(k:Int)∈lo->cs.getD k 0=0
 tb:kvs.length+Tb lo.length rest.sum.toNat<=10000000
 mo:most<=1000000
 ml:ms.length<=most
section
variable {P:Program}{w:World}{K:PySem.W.Frag}{mg:Str->Option Value}{base:Heap}{C D:Addr}
inductive IspMeet(m:Nat)(C D:Addr)(vs:List V)(H:Hp)(Q:VK)(E:XK):Prop
 |mk (p pa la ma a c:Addr) (y:V) (rss:LLI) (kvs:List (LLI×V)) (ms:LLI) (lo rest cs:List Int) (n most:Nat) (_:vs=[.ref p,.ref a,y,.ref c,.int most]) (_:lo.length<m) (_:LSt C H p pa la ma rss kvs ms) (_:H a=some (.tup (lo.map V.int))) (_:IT H y rest) (_:H c=some (.tup (cs.map V.int))) (_:MPre n rss lo rest cs kvs ms most) (_:(∀(H':Hp) (kvs':List (LLI×V)) (N:LLI),LSt C H' p pa la ma rss kvs' (ms++N)->LsOk n rss kvs'->N.Nodup->(∀x,x∈N↔New n rss lo rest cs x)->ms.length+N.length<=most->kvs'.length<=kvs.length+Tb lo.length rest.sum.toNat->Off [la,ma] H H'->Q .non H')) (_:(∀(H':Hp) (N:LLI),N.Nodup->(∀x∈N,New n rss lo rest cs x)->most<ms.length+N.length->Off [la,ma] H H'->E (.ref D) none H')):IspMeet m C D vs H Q E
def a0j(m:Nat)(C D:Addr):Sp:=λvs H Q E=>IspMeet m C D vs H Q E
theorem sc_Laying_meet:FnScope ["self","loose","rest","counts","most","ahead","k","many","left"] ["self","loose","rest","counts","most"] (A2 G1):=⟨rfl,rfl,rfl,by decide +kernel,rfl,by decide +kernel,by decide +kernel⟩
theorem a9f(FM:MethAt K C "meet" "Laying.meet" G1 ["self","loose","rest","counts","most"]):MethOkE P w K mg base C "meet" 4 ["self","loose","rest","counts","most"] (a0j 0 C D):=by
 refine FM.fnE sc_Laying_meet (λvs H Q E h=>?_) (λcdv f A outer s H vs Q E hr h=>?_)
 .obtain⟨_,_,_,_,_,_,_,_,_,_,_,_,_,_,_,_,h,_⟩:=h;exact absurd h (Nat.not_lt_zero _)
 .obtain⟨_,_,_,_,_,_,_,_,_,_,_,_,_,_,_,_,h,_⟩:=h;exact absurd h (Nat.not_lt_zero _)
theorem b1A{m:Nat}(FM:MethAt K C "meet" "Laying.meet" G1 ["self","loose","rest","counts","most"])(T:Tx mg)(U:LTx K C)(O_size:Ok P w K mg base "size" 1 ["one"] a4N)(O_rests:Ok P w K mg base "rests" 2 ["one","rest"] a5P)(O_without:Ok P w K mg base "without" 1 ["numbers","k"] a2m)
  (O_Laying_fitting:MethOk P w K mg base C "fitting" 2 ["self","loose","rest"] (b2r C)) (O_Laying_next_part:MethOk P w K mg base C "next_part" 2 ["self","loose","rest"] (a5R C)) (O_Laying_is_lost:MethOk P w K mg base C "is_lost" 3 ["self","loose","rest","budget"] (a3N C)) (OC_TooMany:OwnCls "TooMany" D [.type "ValueError",.type "Exception",.type "BaseException",.type "object"] "ValueError.__new__" mg base) (OX_Laying_meet:MethOkE P w K mg base C "meet" (m+4) ["self","loose","rest","counts","most"] (a0j m C D)):MethOkE P w K mg base C "meet" (m+1+4) ["self","loose","rest","counts","most"] (a0j (m+1) C D):=by
 have CL_Laying:=U.cl;refine FM.fnE sc_Laying_meet (λvs H Q E h=>?_) (λcdv f A outer s H vs Q E hr h=>?_)
 .obtain⟨_,_,_,_,_,_,_,_,_,_,_,_,_,_,_,rfl,_⟩:=h;rfl
 .obtain⟨p,pa,la,ma,a,c,y,rss,kvs,ms,lo,rest,cs,n,most,rfl,hm,hS,ha,hy,hc,hM,kk,kE⟩:=h;have hz:(16000000:Nat)<=sizeLine:=by rw[sizeLine_eq];decide
  have hu:=hr.u60;obtain⟨dx,ho⟩:=hS.ob.ob;obtain⟨fs,hma,hfs⟩:=hS.me;have hrl:=hM.rs.1;have hfl:=hfs.1;refine⟨_,(A1 (E5 (R6 (G0 K (b4q K rfl T.b_any (jaC (jv 2) jaN))))
 (A1 (M6 (M7 K (T5 K (jv 0)) (jaC (jv 3) jaN)))
 (A1 (E5 (a0H (G8 K rfl T.b_len (jaC (T5 K (jv 0)) jaN)) (jv 4))
 (A4 (a4k OC_TooMany PySem.F.excBase_ValueError rfl PySem.F.excBase_ValueError rfl (jaC b2P jaN)))
 C2)
 (A4 a6i)))
 C2)
 (A1 (A9 (i:=1) sc_Laying_meet.nd rfl (Or.inl rfl) (a3i O_Laying_fitting CL_Laying (hr.mono (by omega)) (jv 0) (jaC (jv 1) (jaC (jv 2) jaN))))
 (A1 (E5 (G0 K (a3i O_Laying_is_lost CL_Laying (hr.mono (by omega)) (jv 0) (jaC (jv 1) (jaC (jv 2) (jaC (B0 O_size (hr.mono (by omega)) rfl (jaC (jv 2) jaN)) jaN)))))
 (A4 a6i)
 C2)
 (A1 (A9 (i:=5) sc_Laying_meet.nd rfl (Or.inl rfl) (G8 K rfl T.b_len (jaC (T5 K (jv 0)) jaN)))
 (A1 (A9 (i:=6) sc_Laying_meet.nd rfl (Or.inl rfl) (a3i O_Laying_next_part CL_Laying (hr.mono (by omega)) (jv 0) (jaC (jv 1) (jaC (jv 2) jaN))))
 (A1 (J4 (a6m K rfl T.b_enumerate (jaC (B0 O_rests (hr.mono (by omega)) rfl (jaC (a0I K (T5 K (jv 0)) (jv 6)) (jaC (jv 2) jaN))) jaN)) (J5 K 2 (B1 (A7 (i:=7) sc_Laying_meet.nd rfl (Or.inl rfl)) (B1 (A7 (i:=8) sc_Laying_meet.nd rfl (Or.inl rfl)) E6)))
 (A4 (M6 (a6q OX_Laying_meet CL_Laying (hr.mono (by omega)) (jv 0) (jaC (B0 O_without (hr.mono (by omega)) rfl (jaC (jv 1) (jaC (jv 6) jaN))) (jaC (jv 8) (jaC (a3h (a3h (b2Q K (jv 3) a6l (a6k (jv 6))) (L7 (jaC (jv 7) jaN))) (b2Q K (jv 3) (a6k (J0 (jv 6) A5)) a6l)) (jaC (jv 4) jaN))))))) (hp:=PassesOwn.leaving))
 (A4 (E5 (a4j (G8 K rfl T.b_len (jaC (T5 K (jv 0)) jaN)) (jv 5))
 (A4 (b1J hu (T5 K (jv 0)) (L7 (jaC (jv 1) (jaC (jv 2) jaN))) (B0 O_size (hr.mono (by omega)) rfl (jaC (jv 2) jaN))))
 C2)))))))),?_⟩
  obtain⟨va,rfl,hva⟩:=id hy;refine⟨_,rfl,true,va,_,rfl,SqT.of hva,a5m _,?_⟩;rw[b4K hM.rs];by_cases hpos:0<rest.sum
  case neg =>
   rw[decide_eq_false hpos];refine⟨false,rfl,a2d ?_⟩;have hz0:=b0K hM.rs hpos;have hN:∀x,x∈[cs]↔New n rss lo rest cs x:=λx=>by
    rw[List.mem_singleton];have e0:K9 cs (List.replicate rss.length 0)=cs:=gdx (by rw[E7 _ _ (by rw[List.length_replicate,hM.cl]),List.length_replicate,hM.cl]) λj _=>by
     rw[G3 _ _ (by rw[List.length_replicate,hM.cl]),K5];omega
    constructor
    .rintro rfl;exact⟨_,(LY.zero hM.pt hz0 hrl).mpr rfl,e0.symm⟩
    .rintro⟨d,hd,rfl⟩;rw[(LY.zero hM.pt hz0 hrl).mp hd,e0]
   have hlen:=hM.ml;have hmo:=hM.mo;refine⟨_,rfl,p,C,dx,_,_,rfl,ho,U.cl,U.n3,Z8 pa la ma,.inl ⟨rfl,_,SqL.of hma⟩,_,rfl,ma,fs,_,rfl,rfl,hma,by omega,?_⟩;have pm:p≠ma:=L6 ho hma (λz=>nomatch z);have ho1:upd H ma (.lst (fs++[.ref c])) p=some (.ins C dx (lfl pa la ma)):=by rw[A3 pm];exact ho
   have hma1:upd H ma (.lst (fs++[.ref c])) ma=some (.lst (fs++[.ref c])):=A0;have off:Off [la,ma] H (upd H ma (.lst (fs++[.ref c]))):=λb o hb e=>by
    simp only[List.mem_cons,List.not_mem_nil,or_false,not_or]at hb;rw[A3 hb.2];exact e
   have tk:=hS.tk off;refine⟨_,rfl,p,C,dx,_,_,rfl,ho1,U.cl,U.n3,Z8 pa la ma,ma,_,rfl,.inl (SqL.of hma1),_,rfl,_,_,rfl,rfl,_,rfl,Q0 (λe=>?_) (λe=>?_)⟩
   .have e':(most:Int)<((fs++[V.ref c]).length:Nat):=of_decide_eq_true e;rw[List.length_append,List.length_singleton]at e';exact⟨by rw[sizeLine_eq];decide,kE _ [cs] (a3a _) (λx hx=>(hN x).mp hx) (by rw[List.length_singleton];omega) off⟩
   have e':¬(most:Int)<((fs++[V.ref c]).length:Nat):=λz=>e (decide_eq_true z);rw[List.length_append,List.length_singleton]at e';refine kk _ kvs [cs] ⟨⟨⟨dx,ho1⟩,?_⟩,hS.lo.off tk (A3 λz=>?_),⟨_,hma1,(Its.tk tk hfs).app (Its.one ⟨c,rfl,tk _ _ hc⟩)⟩⟩ hM.ls (a3a _) hN (by rw[List.length_singleton];omega) (Nat.le_add_right _ _) off
   .obtain⟨us,h1,h2,h3⟩:=hS.ob.hp;exact⟨us,tk _ _ h1,Its.tk tk h2,h3⟩
   .obtain⟨xs,e1,_⟩:=hS.lo;rw[z,hma]at e1;exact nomatch e1
  case pos =>
   rw[decide_eq_true hpos];refine⟨true,rfl,L4 ?_⟩;refine⟨_,rfl,p,dx,_,rfl,ho,a4c pa la ma,_,rfl,_,rfl,?_⟩;refine⟨p,pa,la,ma,a,.ref va,rss,lo,rest,n,rfl,hS.ob,ha,hM.hl,hM.ll,hy,hrl,hM.pt,hM.n1,λa1 H1 s1 ha1=>?_⟩;dsimp only[A8];have hlo1:Lo rss.length (ft rss lo rest):=hM.hl.filter _;have hft:∀x,New n rss (ft rss lo rest) rest cs x↔New n rss lo rest cs x:=λx=>b4h hM.pt hM.hl hrl;have hlf:(ft rss lo rest).length<=lo.length:=List.length_filter_le _ _;have hsub:∀k∈ft rss lo rest,k∈lo:=λk hk=>(List.mem_filter.mp hk).1;generalize ft rss lo rest=lo1 at ha1 hlo1 hft hlf hsub;have hll:=hM.ll;have hS1:=hS.same s1;have hsm:=hM.rs.2.2;refine⟨_,rfl,p,dx,_,rfl,s1 _ _ ho,a4b pa la ma,_,rfl,_,rfl,_,rfl,.ref va,rest,rfl,hy.same s1,λH2 s2=>?_⟩;refine⟨p,pa,la,ma,a1,.ref va,rest.sum,rss,kvs,ms,lo1,rest,n,rfl,hS1.same s2,hM.ls,s2 _ _ ha1,hlo1,by omega,(hy.same s1).same s2,hM.rs,hM.pt,hM.n1,by omega,by omega,λt H3 s3 ht1 ht2=>?_⟩;have s03:=(s1.trans s2).trans s3;refine⟨t,rfl,Q0 (λe=>?_) (λe=>?_)⟩
   .refine kk _ kvs [] (by rw[List.append_nil];exact hS.same s03) hM.ls List.nodup_nil (λx=>⟨(λz=>nomatch z),λz=>?_⟩) hM.ml (Nat.le_add_right _ _) (s03.off);obtain⟨d,hd,_⟩:=(hft x).mpr z;have h1:=ht1 e d hd;have h2:=hd.few hM.pt;omega
   have hF:=ht2 (by simpa using e);have hma3:=s03 _ _ hma;refine⟨_,rfl,p,C,dx,_,_,rfl,s03 _ _ ho,U.cl,U.n3,Z8 pa la ma,ma,_,rfl,.inl (SqL.of hma3),?_⟩;dsimp only[A8];have ha3:=(s2.trans s3) _ _ ha1;obtain⟨j0,hj0,hj0p⟩:=W7 hM.rs.2.1 hpos;refine⟨_,rfl,p,dx,_,rfl,s03 _ _ ho,a2b pa la ma,_,rfl,_,rfl,?_⟩;refine⟨p,pa,la,ma,a1,.ref va,rss,lo1,rest,n,rfl,hS.ob.same s03,ha3,hlo1,by omega,hy.same s03,hrl,hM.pt,hM.n1,⟨j0,by rw[<-hrl];exact hj0,hj0p⟩,hF,λki H4 hki s4=>?_⟩;dsimp only[A8];have hkb:=hlo1.2 ki hki;obtain⟨k,rfl⟩:∃k:Nat,ki=k:=⟨ki.toNat,by omega⟩;have hk:k<rss.length:=by omega
   have hPk:=hM.pt.at hk;have s04:=s03.trans s4;obtain⟨us,hpa,hus,hul⟩:=hS.ob.hp;obtain⟨v,hv1,hv2⟩:=a3k (k:=k) hus hk;have hc0:cs.getD k 0=0:=hM.c0 k (hsub _ hki);refine⟨_,rfl,p,C,dx,_,_,rfl,s04 _ _ ho,U.cl,U.n1,U8 pa la ma,_,rfl,pa,us,_,v,rfl,rfl,SqT.of (s04 _ _ hpa),a0e hv1,_,rfl,?_⟩;refine⟨v,.ref va,_,rest,n,rfl,hv2.same s04,hy.same s04,hM.n1,hPk,hM.rs,λpr zs q H5 hprn s5 hpr hzs hle hgt=>?_⟩;refine⟨false,pr,rfl,⟨_,SqL.of hpr⟩,?_⟩;have s05:=s04.trans s5;have hS5:=hS.same s05;have hma5:=s05 _ _ hma;have hprm:pr≠ma:=(A6 (s04 _ _ hma) hprn).symm;have hprl:pr≠la:=by
    obtain⟨xs,e1,_⟩:=hS5.lo;exact L6 hpr e1 (λz=>nomatch z)
   have hqs:(q:Int)<=rest.sum:=hM.rs.many hPk (by omega) hle;have hzl:zs.length=q+1:=by rw[hzs.1,Rl,List.length_map,List.length_range]
   obtain⟨l,hl⟩:∃l,lo.length=l+1:=⟨lo.length-1,by have:=List.length_pos_of_mem (hsub _ hki);omega⟩;have hwl:(wo lo1 k).length<=l:=by have:=b2Z hki;omega
   have hTb:=hM.tb;rw[hl]at hTb;rw[hl]at kk;have hc5:=s05 _ _ hc;have ha5:=(s4.trans s5) _ _ ha3;refine a4n (K:=K) (k:=false) (xs:=zs) (λi σ H'=>Ex4 λ(o7 o8:Option V) (kvs':List (LLI×V)) (N:LLI)=>An8 (σ=[some (.ref p),some (.ref a1),some (.ref va),some (.ref c),some (.int most),some (.int fs.length),some (.int k),o7,o8]) (LSt C H' p pa la ma rss kvs' (ms++N)) (LsOk n rss kvs') (N.Nodup) ((∀x,x∈N↔b5G n rss lo1 rest cs k i x)) (ms.length+N.length<=most) (kvs'.length+Tw l rest.sum.toNat i<=kvs.length+Tb (l+1) rest.sum.toNat) (Off [la,ma] H5 H'))
    ⟨none,none,kvs,[],rfl,by rw[List.append_nil];exact hS5,hM.ls,List.nodup_nil,λx=>⟨(λz=>nomatch z),λ⟨m,h1,_⟩=>absurd h1 (Nat.not_lt_zero _)⟩,hM.ml,by rw[b5V];exact Nat.le_refl _,λb o _ e=>e⟩ (λi σ H' _ h=>by
     obtain⟨_,_,_,_,_,_,_,_,_,_,_,off⟩:=h;exact SqL.of (off pr _ (by simp only[List.mem_cons,List.not_mem_nil,or_false,not_or];exact⟨hprl,hprm⟩) hpr)) ?_ ?_
   .rintro i x σ H' pq hx ⟨o7,o8,kvs',N,rfl,hS',hK',hNd,hN,hMl,hT,off⟩ hpq;have hi:i<q+1:=by rw[<-hzl];exact(List.getElem?_eq_some_iff.mp hx).1
    have tk:=hS5.tk off;obtain⟨r,hr1,hr2⟩:=hzs.2 i x hx;have er:r=less rest (rss.getD k []) (i:Nat):=by
     rw[Rl,List.getElem?_map,List.getElem?_range hi]at hr1;exact(Option.some.inj hr1).symm
    subst er;refine⟨pq,[.int i,x],rfl,SqT.of A0,rfl,.int i,[x],rfl,x,[],rfl,rfl,?_⟩;have s6:=(Same.refl H').upd (o:=.tup [.int i,x]) hpq;generalize upd H' pq (.tup [.int i,x])=H6 at s6;dsimp only[A8];have hS6:=hS'.same s6;obtain⟨dx6,ho6⟩:=hS6.ob.ob;refine⟨_,rfl,p,dx6,_,rfl,ho6,a3Z pa la ma,?_⟩;have ha6:=s6 _ _ (tk _ _ ha5);refine⟨_,rfl,_,rfl,a1,lo1,_,rfl,ha6,by omega,λa7 H7 s7 ha7=>?_⟩;refine⟨_,rfl,?_⟩;have hc7:=s7 _ _ (s6 _ _ (tk _ _ hc5));refine b4D (i:=3) (j:=6) (l:=7) (a:=c) (xs:=cs) (k:=k) (z:=(i:Int)) rfl rfl rfl hc7 (by rw[hM.cl];exact hk) (by rw[hM.cl];exact hM.rl) λc8 H8 s8 hc8=>?_;refine⟨_,rfl,?_⟩;have s68:=s7.trans s8;have hlei:∀j,j<n->(i:Int)*(rss.getD k []).getD j 0<=rest.getD j 0:=λj hj=>by
     have h1:=hle j hj;have h2:(i:Int)*(rss.getD k []).getD j 0<=(q:Int)*(rss.getD k []).getD j 0:=Int.mul_le_mul_of_nonneg_right (by omega) (hM.pt.nn j _ (gdm hk));omega
    have hRi:=hM.rs.less hPk (by omega) hlei;have his:i<=rest.sum.toNat:=by omega
    have hsi:(less rest (rss.getD k []) (i:Nat)).sum.toNat<=rest.sum.toNat-i:=by
     rw[a1p (by rw[hrl,hPk.1])];have:(i:Int)*1<=(i:Int)*(rss.getD k []).sum:=Int.mul_le_mul_of_nonneg_left hPk.2.2 (by omega);omega
    have hTi:Tb (wo lo1 k).length (less rest (rss.getD k []) (i:Nat)).sum.toNat<=Tb l (rest.sum.toNat-i):=Nat.le_trans (b0o _ hwl) (b0n l hsi);have hTw:=b5T (l:=l) his;have hNk:∀x∈N,∃m,m<i/\x.getD k 0=(m:Int):=λx hx=>by
     obtain⟨m,h1,h2⟩:=(hN x).mp hx;exact⟨m,h1,a9l hM.cl hk h2⟩
    have hNu:∀x∈N,New n rss lo rest cs x:=λx hx=>by
     obtain⟨m,h1,h2⟩:=(hN x).mp hx;exact(hft x).mp (a4X hM.pt hM.cl hk hki hc0 hrl h2)
    refine⟨p,pa,la,ma,a7,c8,x,rss,kvs',ms++N,wo lo1 k,less rest (rss.getD k []) (i:Nat),cs.set k (i:Nat),n,most,rfl,by omega,hS6.same s68,s8 _ _ ha7,((IT.tk tk hr2).same s6).same s68,hc8,?_,λH9 kvs9 N9 hS9 hK9 hNd9 hN9 hl9 hT9 off9=>?_,λH9 N9 hNd9 hN9 hl9 off9=>?_⟩
    .refine⟨hK',hlo1.filter _,by omega,hRi,hM.pt,hM.n1,by rw[List.length_set];exact hM.cl,hM.rl,λk' hk'=>?_,by omega,hM.mo,by rw[List.length_append];exact hMl⟩;obtain⟨h1,h2⟩:=wo_mem.mp hk';rw[Q5 _ _ _ _ (by rw[hM.cl];exact hk),if_neg (by omega)];exact hM.c0 k' (hsub _ h1)
    .refine⟨_,_,kvs9,N++N9,rfl,by rw[<-List.append_assoc];exact hS9,hK9,U7 hNd hNd9 λx h1 h2=>?_,λx=>?_,by rw[List.length_append]at hl9⊢;omega,by omega,λb o hb e=>off9 b o hb (s68 _ _ (s6 _ _ (off b o hb e)))⟩
     .obtain⟨m,h3,h4⟩:=hNk x h1;have h5:=a9l hM.cl hk ((hN9 x).mp h2);omega
     .rw[List.mem_append,hN,hN9];constructor
      .rintro(⟨m,h1,h2⟩|h2)
       .exact⟨m,by omega,h2⟩
       .exact⟨i,by omega,h2⟩
      .rintro⟨m,h1,h2⟩;by_cases e:m=i
       .subst e;exact .inr h2
       .exact .inl ⟨m,by omega,h2⟩
    .refine kE H9 (N++N9) (U7 hNd hNd9 λx h1 h2=>?_) (λx hx=>?_) (by rw[List.length_append]at hl9⊢;omega) λb o hb e=>off9 b o hb (s68 _ _ (s6 _ _ (off b o hb (s05 _ _ e))))
     .obtain⟨m,h3,h4⟩:=hNk x h1;have h5:=a9l hM.cl hk (hN9 x h2);omega
     .rcases List.mem_append.mp hx with z|z
      .exact hNu x z
      .exact(hft x).mp (a4X hM.pt hM.cl hk hki hc0 hrl (hN9 x z))
   .rintro σ H' ⟨o7,o8,kvs',N,rfl,hS',hK',hNd,hN,hMl,hT,off⟩;rw[hzl]at hN hT;have hNf:∀x,x∈N↔New n rss lo rest cs x:=λx=>by
     rw[hN,<-hft];constructor
     .rintro⟨m,_,h2⟩;exact a4X hM.pt hM.cl hk hki hc0 hrl h2
     .exact λh=>a9m hM.pt hM.cl hk hc0 hrl hgt h
    have tk:=hS5.tk off;have off0:Off [la,ma] H H':=λb o hb e=>off b o hb (s05 _ _ e);obtain⟨dx',ho'⟩:=hS'.ob.ob;obtain⟨fs',hma',hfs'⟩:=hS'.me;have hTw1:=b5U l rest.sum.toNat (q+1);refine⟨_,rfl,p,C,dx',_,_,rfl,ho',U.cl,U.n3,Z8 pa la ma,ma,_,rfl,.inl (SqL.of hma'),_,rfl,rfl,_,rfl,Q0 (λe=>?_) (λe=>?_)⟩
    .have hN0:N=[]:=by
      have e1:=of_decide_eq_true e;injection e1 with e1
      have e2:=hfs'.1;rw[List.length_append]at e2;exact List.length_eq_zero_iff.mp (by omega)
     have hva':=tk _ _ (s05 _ _ hva);refine⟨_,rfl,.ref va,rest,rfl,⟨va,rfl,hva'⟩,λH6 s6=>?_⟩;refine⟨_,rfl,p,C,dx',_,_,rfl,s6 _ _ ho',U.cl,U.n2,a4a pa la ma,_,rfl,_,rfl,by show 2<=sizeLine;omega,λtp htp=>?_⟩;have s7:=(Same.refl H6).upd (o:=.tup [.ref a1,.ref va]) htp;have e7:upd H6 tp (.tup [.ref a1,.ref va]) tp=some (.tup [.ref a1,.ref va]):=A0;generalize upd H6 tp (.tup [.ref a1,.ref va])=H7 at s7 e7;have s67:=s6.trans s7;have ha7:=s67 _ _ (tk _ _ ha5);have hva7:=s67 _ _ hva';have hq:Tq H7 tp [lo1,rest]:=⟨[.ref a1,.ref va],e7,rfl,λi v e=>by
      match i,e with
      |0,e=>cases e;exact⟨lo1,rfl,a1,rfl,ha7⟩
      |1,e=>cases e;exact⟨rest,rfl,va,rfl,hva7⟩
      |i+2,e=>exact nomatch e⟩
     have hS7:=hS'.same s67;refine⟨la,tp,[lo1,rest],kvs',rfl,rfl,hS7.lo,hq,by omega,λxs hLD=>?_⟩;have off7:Off [la,ma] H7 (upd H7 la (LdO la xs)):=λb o hb e=>by
      simp only[List.mem_cons,List.not_mem_nil,or_false,not_or]at hb;rw[A3 hb.1];exact e
     have tk7:=hS7.tk off7;obtain⟨xs0,e0,_⟩:=hS7.lo;have nl:∀b o,H7 b=some o->(∀φ,o≠.ext φ)->upd H7 la (LdO la xs) b=some o:=λb o e hn=>by
      rw[A3 λz=>?_];exact e;rw[z,e0]at e;exact hn _ (Option.some.inj e).symm
     have hpl:=O2 kvs' [lo1,rest] (.int rest.sum);refine kk _ _ N ⟨⟨?_,?_⟩,hLD,?_⟩ (hK'.put λd hd=>?_) hNd hNf hMl (by omega) λb o hb e=>off7 b o hb (s67 _ _ (off0 b o hb e))
     .exact⟨dx',nl _ _ (s67 _ _ ho') (λφ z=>nomatch z)⟩
     .obtain⟨us',h1,h2,h3⟩:=hS7.ob.hp;exact⟨us',tk7 _ _ h1,Its.tk tk7 h2,h3⟩
     .exact⟨fs',nl _ _ (s67 _ _ hma') (λφ z=>nomatch z),Its.tk tk7 (hfs'.same s67)⟩
     .have h1:K9 cs d∈N:=(hNf _).mpr ((hft _).mp ⟨d,hd,rfl⟩);rw[hN0]at h1;cases h1
    .exact kk _ _ N hS' hK' hNd hNf hMl (by omega) off0
end
theorem a0D{α:Type}[DecidableEq α]:∀(a b:List α),a.Nodup->(∀x∈a,x∈b)->a.length<=b.length
 |[],b,_,_=>Nat.zero_le _
 |x::a,b,hn,h=>by
  obtain⟨h1,h2⟩:=List.nodup_cons.mp hn;have hx:=h x List.mem_cons_self;have:=a0D a (b.erase x) h2 λy hy=>(List.mem_erase_of_ne (λz:y=x=>h1 (z ▸ hy))).mpr (h y (List.mem_cons_of_mem _ hy));rw[List.length_erase_of_mem hx]at this;have:=List.length_pos_of_mem hx;rw[List.length_cons];omega
def Ev:Nat->Nat->LLI
 |0,_=>[[]]
 |m+1,s=>(List.range (s+1)).flatMap λc=>(Ev m (s-c)).map λl=>((c:Nat):Int)::l
def cn:Nat->Nat->Nat
 |0,_=>1
 |m+1,s=>((List.range (s+1)).map λc=>cn m (s-c)).sum
theorem a3A:∀m s,(Ev m s).length=cn m s
 |0,_=>rfl
 |m+1,s=>by
  show((List.range (s+1)).flatMap λc=>(Ev m (s-c)).map λl=>((c:Nat):Int)::l).length=((List.range (s+1)).map λc=>cn m (s-c)).sum;rw[List.length_flatMap];congr 1;refine List.map_congr_left λc _=>?_;rw[List.length_map,a3A m]
theorem a3z:∀{m s:Nat}{d:List Int},d.length=m->(∀x∈d,0<=x)->d.sum<=s->d∈Ev m s
 |0,s,d,h,_,_=>by rw[List.length_eq_zero_iff.mp h];exact List.mem_singleton.mpr rfl
 |m+1,s,[],h,_,_=>nomatch h
 |m+1,s,c::d,h,h0,hs=>by
  have hc:=h0 c List.mem_cons_self;have hd0:=a3K d λx hx=>h0 x (List.mem_cons_of_mem _ hx);rw[List.sum_cons]at hs;obtain⟨k,rfl⟩:∃k:Nat,c=k:=⟨c.toNat,by omega⟩;refine List.mem_flatMap.mpr ⟨k,List.mem_range.mpr (by omega),List.mem_map.mpr ⟨d,?_,rfl⟩⟩;exact a3z (by simpa using h) (λx hx=>h0 x (List.mem_cons_of_mem _ hx)) (by omega)
def fat:LLI->List Int->List Int
 |r::rss,c::cs=>(if r.sum=1 then 0 else c)::fat rss cs
 |_,_=>[]
theorem a6u:∀{rss:LLI}{d:List Int},d.length=rss.length->(fat rss d).length=rss.length
 |[],[],_=>rfl
 |[],_::_,h=>nomatch h
 |_::_,[],h=>nomatch h
 |r::rss,c::d,h=>by show(_::fat rss d).length=_;rw[List.length_cons,List.length_cons,a6u (by simpa using h)]
theorem a9S:∀{rss:LLI}{d:List Int},(∀c∈d,0<=c)->∀x∈fat rss d,0<=x
 |[],[],_,x,hx=>nomatch hx
 |[],_::_,_,x,hx=>nomatch hx
 |_::_,[],_,x,hx=>nomatch hx
 |r::rss,c::d,h,x,hx=>by
  rcases List.mem_cons.mp (show x∈(if r.sum=1 then 0 else c)::fat rss d from hx)with q|q
  .rw[q];split;exact Int.le_refl _;exact h c List.mem_cons_self
  .exact a9S (λy hy=>h y (List.mem_cons_of_mem _ hy)) x q
theorem a6t:∀{rss:LLI}{d:List Int},(∀r∈rss,1<=r.sum)->(∀c∈d,0<=c)->2*(fat rss d).sum<=ws List.sum rss d
 |[],[],_,_=>Int.le_refl _
 |[],_::_,_,_=>Int.le_refl _
 |_::_,[],_,_=>Int.le_refl _
 |r::rss,c::d,hr,h=>by
  have ih:=a6t (rss:=rss) (d:=d) (λq hq=>hr q (List.mem_cons_of_mem _ hq)) λy hy=>h y (List.mem_cons_of_mem _ hy);have h1:=hr r List.mem_cons_self;have h2:=h c List.mem_cons_self;show 2*((if r.sum=1 then 0 else c)::fat rss d).sum<=c*r.sum+ws List.sum rss d;rw[List.sum_cons];split
  .have:=Int.mul_nonneg h2 (show 0<=r.sum by omega);omega
  .have:c*2<=c*r.sum:=Int.mul_le_mul_of_nonneg_left (by omega) h2;omega
theorem a5n:∀{rss:LLI}{d:List Int}{k:Nat},d.length=rss.length->k<rss.length->(rss.getD k []).sum≠1->(fat rss d).getD k 0=d.getD k 0
 |[],_,k,_,hk,_=>absurd hk (Nat.not_lt_zero _)
 |_::_,[],k,h,_,_=>nomatch h
 |r::rss,c::d,0,h,_,hn=>by
  have hn:r.sum≠1:=hn;show(if r.sum=1 then 0 else c)=c;rw[if_neg hn]
 |r::rss,c::d,k+1,h,hk,hn=>a5n (rss:=rss) (d:=d) (k:=k) (by simpa using h) (by simpa using hk) hn
theorem b0u{f:List Int->Int}{k:Nat}:∀{rss:LLI}{d e:List Int},d.length=rss.length->e.length=rss.length->(∀i,i<rss.length->i≠k->d.getD i 0=e.getD i 0∨f (rss.getD i [])=0)->k<rss.length->ws f rss d-ws f rss e=(d.getD k 0-e.getD k 0)*f (rss.getD k []):=by
 intro rss;induction rss generalizing k with
 |nil=>intro d e _ _ _ hk;exact absurd hk (Nat.not_lt_zero _)
 |cons r rss ih =>
  intro d e hd he h hk;cases d with
  |nil=>cases hd
  |cons c d =>
   cases e with
   |nil=>cases he
   |cons c' e =>
    have hd':d.length=rss.length:=by simpa using hd
    have he':e.length=rss.length:=by simpa using he
    show c*f r+ws f rss d-(c'*f r+ws f rss e)=_;cases k with
    |zero =>
     have eq:ws f rss d=ws f rss e:=by
      have all:∀i,i<rss.length->d.getD i 0=e.getD i 0∨f (rss.getD i [])=0:=λi hi=>h (i+1) (by simpa using hi) (by omega);clear ih h hd he hk;induction rss generalizing d e with
      |nil=>cases d<;>cases e<;>rfl
      |cons q rss ih2 =>
       cases d with
       |nil=>cases hd'
       |cons x d =>
        cases e with
        |nil=>cases he'
        |cons x' e =>
         have h0:=all 0 (by simp);have:=ih2 d e (by simpa using hd') (by simpa using he') λi hi=>all (i+1) (by simpa using hi);show x*f q+ws f rss d=x'*f q+ws f rss e;rw[this];rcases h0 with z|z
         .have z:x=x':=z;rw[z]
         .have z:f q=0:=z;rw[z];omega
     rw[eq];show c*f r+ws f rss e-(c'*f r+ws f rss e)=(c-c')*f r;rw[Int.sub_mul];omega
    |succ k =>
     have h0:=h 0 (by simp) (by omega);have:=ih (k:=k) hd' he' (λi hi hne=>h (i+1) (by simpa using hi) (by omega)) (by simpa using hk);show c*f r+ws f rss d-(c'*f r+ws f rss e)=(d.getD k 0-e.getD k 0)*f (rss.getD k []);rw[<-this];rcases h0 with z|z
     .have z:c=c':=z;rw[z];omega
     .have z:f r=0:=z;rw[z];omega
theorem a1j{r:List Int}(h0:∀x∈r,0<=x)(h1:r.sum=1):∃j,j<r.length/\∀i,r.getD i 0=if i=j then 1 else 0:=by
 induction r with
 |nil=>cases h1
 |cons x r ih =>
  have hx:=h0 x List.mem_cons_self;have hr:=a3K r λy hy=>h0 y (List.mem_cons_of_mem _ hy);rw[List.sum_cons]at h1;by_cases e:x=0
  .obtain⟨j,hj,h⟩:=ih (λy hy=>h0 y (List.mem_cons_of_mem _ hy)) (by omega);refine⟨j+1,by simpa using hj,λi=>?_⟩;cases i with
   |zero=>rw[if_neg (by omega)];exact e
   |succ i =>
    rw[show(x::r).getD (i+1) 0=r.getD i 0 from rfl,h i];by_cases q:i=j
    .rw[if_pos q,if_pos (by omega)]
    .rw[if_neg q,if_neg (by omega)]
  .have hr0:r.sum=0:=by omega
   refine⟨0,by simp,λi=>?_⟩;cases i with
   |zero=>rw[if_pos rfl];show x=1;omega
   |succ i =>
    rw[if_neg (by omega)];show r.getD i 0=0;by_cases hi:i<r.length
    .have h2:=h0 _ (List.mem_cons_of_mem x (L5 hi));refine Classical.byContradiction λz=>?_;have:=a8m r (λy hy=>h0 y (List.mem_cons_of_mem _ hy)) _ (L5 hi) (by omega);omega
    .rw[List.getD_eq_getElem?_getD,List.getElem?_eq_none (by omega)];rfl
theorem b1X{n:Nat}{rss:LLI}{lo rest d e:List Int}(hp:Pts n rss)(hnd:rss.Nodup)(hd:LY n rss lo rest d)(he:LY n rss lo rest e)(h:fat rss d=fat rss e):d=e:=by
 refine gdx (by rw[hd.len,he.len]) λk hk=>?_;rw[he.len]at hk;have same:∀i,i<rss.length->(rss.getD i []).sum≠1->d.getD i 0=e.getD i 0:=λi hi hn=>by
  rw[<-a5n hd.len hi hn,<-a5n he.len hi hn,h]
 by_cases hs:(rss.getD k []).sum=1
 .obtain⟨j,hj,hu⟩:=a1j (λx hx=>((hp.at hk).2.1 x hx).1) hs;have:=b0u (f:=λr=>r.getD j 0) (k:=k) hd.len he.len (λi hi hne=>?_) hk
  .rw[hd.at hp j,he.at hp j,hu j,if_pos rfl]at this;omega
  .by_cases hi1:(rss.getD i []).sum=1
   .obtain⟨j',hj',hu'⟩:=a1j (λx hx=>((hp.at hi).2.1 x hx).1) hi1;by_cases ej:j=j'
    .exfalso;have e1:rss.getD i []=rss.getD k []:=gdx (by rw[(hp.at hi).1,(hp.at hk).1]) λx _=>by rw[hu x,hu' x,ej]
     rw[List.getD_eq_getElem?_getD,List.getD_eq_getElem?_getD,List.getElem?_eq_getElem hi,List.getElem?_eq_getElem hk]at e1;exact hne ((List.getElem?_inj hi hnd).mp (by rw[List.getElem?_eq_getElem hi,List.getElem?_eq_getElem hk];exact congrArg some e1))
    .exact .inr (by show(rss.getD i []).getD j 0=0;rw[hu' j,if_neg ej])
   .exact .inl (same i hi hi1)
 .exact same k hk hs
theorem a0m{α β:Type}{f:α->β}:∀{l:List α},l.Nodup->(∀x∈l,∀y∈l,f x=f y->x=y)->(l.map f).Nodup
 |[],_,_=>List.nodup_nil
 |x::l,h,hi=>by
  obtain⟨h1,h2⟩:=List.nodup_cons.mp h;rw[List.map_cons,List.nodup_cons];refine⟨λz=>?_,a0m h2 λa ha b hb=>hi a (List.mem_cons_of_mem _ ha) b (List.mem_cons_of_mem _ hb)⟩;obtain⟨y,hy,e⟩:=List.mem_map.mp z;rw[hi y (List.mem_cons_of_mem _ hy) x List.mem_cons_self e]at hy;exact h1 hy
theorem a9t{n:Nat}{rss:LLI}{lo rest:List Int}(hp:Pts n rss)(hnd:rss.Nodup)(hm:rss.length<=6)(hs:rest.sum<=60)(hs2:3<=rss.length->rest.sum<=14)(N:LLI)(hN:N.Nodup)(h:∀d∈N,LY n rss lo rest d):N.length<=1900:=by
 by_cases h3:3<=rss.length
 .have h14:=hs2 h3;have:=a0D (N.map (fat rss)) (Ev rss.length 7) (a0m hN λx hx y hy e=>b1X hp hnd (h x hx) (h y hy) e) λx hx=>by
   obtain⟨d,hd,rfl⟩:=List.mem_map.mp hx;have hd:=h d hd;refine a3z (a6u hd.len) (a9S hd.nn) ?_;have:=a6t hp.sz hd.nn;rw[hd.sum hp]at this;omega
  rw[List.length_map,a3A]at this;refine Nat.le_trans this ?_;have:rss.length=3∨rss.length=4∨rss.length=5∨rss.length=6:=by omega
  rcases this with e|e|e|e<;>rw[e]<;>decide +kernel
 .have:=a0D N (Ev rss.length 60) hN λd hd=>by
   have hd:=h d hd;refine a3z hd.len hd.nn ?_;have:=hd.few hp;omega
  rw[a3A]at this;refine Nat.le_trans this ?_;have:rss.length=0∨rss.length=1∨rss.length=2:=by omega
  rcases this with e|e|e<;>rw[e]<;>decide +kernel
def Lay(n:Nat)(rss:LLI)(rest d:List Int):Prop:=LY n rss (S4 rss.length) rest d
theorem upto_mem{n:Nat}{k:Int}:k∈S4 n↔0<=k/\k<n:=by
 unfold S4;rw[List.mem_map];constructor
 .rintro⟨i,hi,rfl⟩;have:=List.mem_range.mp hi;omega
 .exact λh=>⟨k.toNat,List.mem_range.mpr (by omega),by omega⟩
theorem b0z(n:Nat):Lo n (S4 n):=by
 refine⟨?_,λk hk=>upto_mem.mp hk⟩;unfold S4;exact a0m List.nodup_range λx _ y _ e=>by omega
theorem new_zero{n:Nat}{rss:LLI}{lo rest x:List Int}:New n rss lo rest (List.replicate rss.length 0) x↔LY n rss lo rest x:=by
 have e:∀d:List Int,d.length=rss.length->K9 (List.replicate rss.length 0) d=d:=λd hd=>gdx (by rw[E7 _ _ (by rw[List.length_replicate,hd])]) λj _=>by
  rw[G3 _ _ (by rw[List.length_replicate,hd]),K5];omega
 constructor
 .rintro⟨d,hd,rfl⟩;rw[e d hd.len];exact hd
 .exact λh=>⟨x,h,(e x h.len).symm⟩
section
variable {P:Program}{w:World}{K:PySem.W.Frag}{mg:Str->Option Value}{base:Heap}{C D:Addr}
inductive IspNought0(vs:List V)(H:Hp)(Q:VK)(E:XK):Prop
 |mk (n:Nat) (_:vs=[.int n]) (_:n<=1000) (_:∀(p:Addr) (H':Hp),Same H H'->H' p=some (.tup ((List.replicate n (0:Int)).map V.int))->Q (.ref p) H'):IspNought0  vs H Q E
def a0i:Sp:=λvs H Q E=>IspNought0  vs H Q E
theorem a6K:FnScope ["width"] ["width"] (A2 Z4):=⟨rfl,rfl,rfl,by decide +kernel,rfl,by decide +kernel,by decide +kernel⟩
theorem a4V(F:FunAt K mg "nought" Z4 ["width"]):Ok P w K mg base "nought" 1 ["width"] a0i:=by
 refine F.okJ a6K (λvs H Q E h=>?_) (λcdv f A outer s H vs Q E hr h=>?_)
 .obtain⟨n,rfl,_⟩:=h;rfl
 .obtain⟨n,rfl,h2,k⟩:=h;refine⟨_,(A4 (B2 (a9F (L7 (jaC A5 jaN)) (jv 0)))),?_⟩;have hz:(1000:Nat)<=sizeLine:=by rw[sizeLine_eq];decide
  refine⟨by show 1<=sizeLine;omega,λp hp=>⟨_,rfl,p,[.int 0],n,rfl,rfl,A0,by simp,by omega,?_,λq H' s e=>?_⟩⟩
  .show(1:Int)*n<=_;omega
  .rw[a1U,Int.toNat_natCast]at e;exact k _ _ (((Same.refl H).upd hp).trans s) e
structure LPre(n:Nat)(rss:LLI)(rest:List Int):Prop where
 pt:Pts n rss
 nd:rss.Nodup
 m6:rss.length<=6
 n1:n<=1000
 rl:rest.length=n
 r0:∀x∈rest,0<=x
 s6:rest.sum<=60
 s1:3<=rss.length->rest.sum<=14
theorem LPre.rs{n:Nat}{rss:LLI}{rest:List Int}(h:LPre n rss rest):Rs n rest:=⟨h.rl,h.r0,by have:=h.s6;omega⟩
theorem LPre.tb{n:Nat}{rss:LLI}{rest:List Int}(h:LPre n rss rest):Tb rss.length rest.sum.toNat<=10000000:=by
 have h6:=h.m6;by_cases h3:3<=rss.length
 .have h1:=h.s1 h3;refine Nat.le_trans (Nat.le_trans (b0o (k:=6) _ h6) (b0n 6 (t:=14) (by omega))) ?_;decide +kernel
 .have h1:=h.s6;refine Nat.le_trans (Nat.le_trans (b0o (k:=2) _ (by omega)) (b0n 2 (t:=60) (by omega))) ?_;decide +kernel
inductive IspLays(D:Addr)(vs:List V)(H:Hp)(Q:VK)(E:XK):Prop
 |mk (a:Addr) (y:V) (us:List V) (rss:LLI) (rest:List Int) (n most:Nat) (_:vs=[.ref a,y,.int most]) (_:H a=some (.tup us)) (_:Its H us rss) (_:IT H y rest) (_:LPre n rss rest) (_:most<=1000000) (_:(∀(l:Addr) (zs:List V) (tss:LLI) (H':Hp),Same H H'->H' l=some (.tup zs)->Its H' zs tss->J7 tss->tss.Nodup->(∀d,d∈tss↔Lay n rss rest d)->tss.length<=most->Q (.ref l) H')) (_:(∀(H':Hp) (N:LLI),Same H H'->N.Nodup->(∀d∈N,Lay n rss rest d)->most<N.length->E (.ref D) none H')):IspLays D vs H Q E
def a8p(D:Addr):Sp:=λvs H Q E=>IspLays D vs H Q E
theorem sc_lays:FnScope ["told","one","most","laying"] ["told","one","most"] (A2 a2V):=⟨rfl,rfl,rfl,by decide +kernel,rfl,by decide +kernel,by decide +kernel⟩
theorem b1B(F:FunAt K mg "lays" a2V ["told","one","most"])(T:Tx mg)(U:LTx K C)(O_Laying:MakeOk P w K mg base "Laying" C 1 ["self","told"] (a5U C))(OX_Laying_meet:MethOkE P w K mg base C "meet" 11 ["self","loose","rest","counts","most"] (a0j 7 C D))(O_nought:Ok P w K mg base "nought" 1 ["width"] a0i):OkE P w K mg base "lays" 12 ["told","one","most"] (a8p D):=by
 have CL_Laying:=U.cl;refine F.okE sc_lays (λvs H Q E h=>?_) (λcdv f A outer s H vs Q E hr h=>?_)
 .obtain⟨a,y,us,rss,rest,n,most,rfl,_⟩:=h;rfl
 .obtain⟨a,y,us,rss,rest,n,most,rfl,ha,hI,hy,hL,hmo,k,kE⟩:=h;have hz:(3000000:Nat)<=sizeLine:=by rw[sizeLine_eq];decide
  have h6:=hL.m6;have hul:us.length=rss.length:=hI.1;refine⟨_,(A1 (A9 (i:=3) sc_lays.nd rfl (Or.inl rfl) (b4s O_Laying (hr.mono (by omega)) rfl (jaC (jv 0) jaN)))
 (A1 (M6 (a6q OX_Laying_meet CL_Laying (hr.mono (by omega)) (jv 3) (jaC (b1M rfl T.b_tuple (jaC (b1N rfl T.b_range (jaC (G8 K rfl T.b_len (jaC (jv 0) jaN)) jaN)) jaN)) (jaC (jv 1) (jaC (B0 O_nought (hr.mono (by omega)) rfl (jaC (G8 K rfl T.b_len (jaC (jv 0) jaN)) jaN)) (jaC (jv 2) jaN))))))
 (A4 (B2 (C5 K rfl T.b_tuple (jaC (a9A K rfl T.b_sorted (jaC (T5 K (jv 3)) jaN)) jaN)))))),?_⟩
  refine⟨_,rfl,λp dx hp hdx hdp=>?_⟩;have s1:Same H (upd (upd H dx (.own p)) p (.ins C dx [])):=((Same.refl H).upd hdx).upd (by rw[A3 hdp.symm];exact hp);refine⟨p,dx,a,rfl,A0,λla ma H2 hla hma hp2 hla2 hma2 k2=>⟨rfl,?_⟩⟩;have s2:Same H H2:=λb o e=>k2 b o (s1 _ _ e) (A6 e hp);dsimp only[A8];have hO:LOb C H2 p a la ma rss:=⟨⟨dx,hp2⟩,⟨us,s2 _ _ ha,hI.same s2,by omega⟩⟩;refine⟨_,rfl,p,dx,_,rfl,hp2,a3Z a la ma,?_⟩;refine⟨_,rfl,a,_,rfl,.inr (SqT.of (s2 _ _ ha)),us.length,rfl,by omega,λpr hpr=>?_⟩;have s3:=(Same.refl H2).upd (o:=.rng 0 us.length) hpr;have e3:upd H2 pr (.rng 0 us.length) pr=some (.rng 0 us.length):=A0;generalize upd H2 pr (.rng 0 us.length)=H3 at s3 e3;refine⟨pr,us.length,rfl,e3,by omega,by omega,λpt hpt=>?_⟩;have s4:=s3.upd (o:=.tup ((S4 us.length).map V.int)) hpt;have e4:upd H3 pt (.tup ((S4 us.length).map V.int)) pt=some (.tup ((S4 us.length).map V.int)):=A0;generalize upd H3 pt (.tup ((S4 us.length).map V.int))=H4 at s4 e4;have s24:=s2.trans s4;refine⟨_,rfl,_,rfl,a,_,rfl,.inr (SqT.of (s24 _ _ ha)),us.length,rfl,by omega,λpn H5 s5 e5=>?_⟩;rw[hul]at e4 e5;have s25:=s4.trans s5;have s05:=s2.trans s25;refine⟨_,rfl,?_⟩;have hS5:LSt C H5 p a la ma rss [] []:=⟨hO.same s25,⟨[],s25 _ _ hla2,.nil⟩,⟨[],s25 _ _ hma2,.nil⟩⟩;refine⟨p,a,la,ma,pt,pn,y,rss,[],[],S4 rss.length,rest,List.replicate rss.length 0,n,most,rfl,by rw[I0];omega,hS5,s5 _ _ e4,hy.same s05,e5,⟨(λq hq=>nomatch hq),b0z _,by rw[I0];omega,hL.rs,hL.pt,hL.n1,List.length_replicate,by omega,λj _=>K5 _ _,?_,hmo,Nat.zero_le _⟩,λH6 kvs N hS6 _ hNd hN hl6 _ off=>?_,λH6 N hNd hN hl6 off=>?_⟩
  .rw[I0];have:=hL.tb;show 0+_<=_;omega
  .rw[List.nil_append]at hS6;obtain⟨dx6,ho6⟩:=hS6.ob.ob;obtain⟨fs,hm6,hfs⟩:=hS6.me;have tk:=hS5.tk off;have hN':∀d,d∈N↔Lay n rss rest d:=λd=>(hN d).trans new_zero;have s06:Same H H6:=λb o e=>off b o (by
    simp only[List.mem_cons,List.not_mem_nil,or_false,not_or];have q1:=A6 (s1 _ _ e) hla;have q2:=A6 (s1 _ _ e) hma;exact⟨q1,q2⟩) (s05 _ _ e)
   refine⟨_,rfl,p,C,dx6,_,_,rfl,ho6,U.cl,U.n3,Z8 a la ma,?_⟩;refine⟨ma,fs,N,rfl,.inl (SqL.of hm6),hfs,λh2 r hr=>?_,λl zs tss hl hzs hperm hris _=>?_⟩
   .have hr':=(hN' r).mp hr;rw[hr'.len];refine Nat.pos_of_ne_zero λz=>?_;have:N.length<=1:=a0D N [[]] hNd λd hd=>by
     have:=((hN' d).mp hd).len;rw[z]at this;rw[List.length_eq_zero_iff.mp this];exact List.mem_cons_self
    omega
   .have s7:=(Same.refl H6).upd (o:=.lst zs) hl;have e7:upd H6 l (.lst zs) l=some (.lst zs):=A0;generalize upd H6 l (.lst zs)=H7 at s7 e7;refine⟨l,_,rfl,.inl ⟨SqL.of e7,λq hq=>?_⟩⟩;have s8:=s7.upd (o:=.tup zs) hq;refine k q zs tss _ (s06.trans s8) A0 (hzs.same s8) hris (hperm.nodup_iff.mpr hNd) (λd=>?_) ?_
    .rw[hperm.mem_iff];exact hN' d
    .rw[hperm.length_eq];have hl6:0+N.length<=most:=hl6;omega
  .refine kE H6 N (λb o e=>off b o (by
    simp only[List.mem_cons,List.not_mem_nil,or_false,not_or];have q1:=A6 (s1 _ _ e) hla;have q2:=A6 (s1 _ _ e) hma;exact⟨q1,q2⟩) (s05 _ _ e)) hNd (λd hd=>new_zero.mp (hN d hd)) ?_
   have hl6:most<0+N.length:=hl6;omega
end
end K24
namespace L2
open PySem PySem.Spec PyProof.Rows
section
variable {prog:Program}{w:World}{A:Around}{E:Value->Shared->Prop}{s:Shared}
end
section
variable {X:Cx}{pos:Pos}
end
section
variable {X:Cx}{es:List Expr}{pos:Pos}
end
end L2
namespace L2
open PySem PySem.Spec PyProof.Rows PySem.W
def a8I:RL:=λxs H Q=>∃(d:Addr) (kvs:List (List Key×V)) (rss:LLI),xs=[.ref d]/\H d=some (.dT kvs)/\kvs.map (·.1)=IK rss/\∀l zs,H l=none->Its H zs rss->Q (.ref l) (upd H l (.lst zs))
section
variable {X:Cx}
theorem a5v(hc:X.calm=true):C8 X (.type "list") a8I:=by
 intro pins s σ H xs us Q I rv h;obtain⟨d,kvs,rss,rfl,hd,hk,q⟩:=h;obtain⟨u,rfl,ru⟩:=rv.one;cases ru;obtain⟨hz,hsys,ts,kt,ob,es,ep,e1,e2,e3,e4,e5⟩:=(show ObjOk X.prog X.w H s.heap d (.dT kvs)from I.hok _ _ hd);obtain⟨hI,hlen⟩:=a6e kt hk;have hkl:kvs.length=ts.length:=Paired.length kt;have esz:es.size=ts.length:=by rw[<-Array.length_toList,e4,List.length_map]
 have D:DRaw s.heap d es ep:=⟨ob,e1,e2,e3⟩;refine kdl_call (a5W hsys es ep) (I.ok.hd hc) D (by omega) λh' tk acc c kp hS hit=>?_;have ea:acc.toList=ts.map λx=>Value.ref x.2.1:=by
  refine List.ext_getElem? λi=>?_;rw[Array.getElem?_toList,List.getElem?_map];by_cases hi:i<ts.length
  .have hia:i<acc.size:=by rw[hit.1,esz];exact hi
   obtain⟨e,he,hv⟩:=hit.2 i acc[i] (by simp[hia]);have he':es.toList[i]?=some e:=by rw[Array.getElem?_toList];exact he
   rw[e4,List.getElem?_map,List.getElem?_eq_getElem hi]at he';injection he' with he'
   rw[Array.getElem?_eq_getElem hia,List.getElem?_eq_getElem hi,hv,<-he'];rfl
  .rw[Array.getElem?_eq_none (by rw[hit.1,esz];omega),List.getElem?_eq_none (by omega)];rfl
 have eacc:acc=(ts.map λx=>Value.ref x.2.1).toArray:=by rw[<-ea,Array.toArray_toList]
 rw[eacc]at hS;have I2:=I.laid (h':=h') (a:=s.heap.objs.size) (o:=.lst (ts.map λx=>V.ref x.2.1)) (t':=tk) kp (Nat.le_refl _) ⟨by rw[List.length_map];omega,_,c,a0f (λx:List Key×Addr×Value=>x.2.1) ts,hS⟩;exact⟨.ref s.heap.objs.size,_,I2,rfl,q _ _ (I.hok.fresh (Nat.le_refl _)) hI⟩
end
section
variable {X:Cx}{e:Expr}{es:List Expr}{t:TA}{p pos:Pos}
theorem a9D(hg:Gl X "list")(hm:X.mg "list"=none)(ha:JA X (e::es) t)(hc:X.calm=true:=by rfl)(he:starEach (e::es) X.env=(false,eval e X.env)::starEach es X.env:=by rfl)(hpl:(backTo pos (starEach es X.env)).any (·.1)=false:=by rfl):JE X (.Call (.Name "list" p) (e::es) [] pos) (tCB a8I t):=⟨P8 (a5v hc) hg hm b2d ha.h (by decide) (by decide) he hpl⟩
end
def a5K(tk tv:TE):TE:=λσ H Q=>∀p,H p=none->tk σ (upd H p (.dT [])) λx H1=>tv σ H1 λv H2=>H2 p=some (.dT [])/\∃(b:Addr) (k:List Key),x=.ref b/\H2 b=some (.tup (k.map kV))/\Q (.ref p) (upd H2 p (.dT [(k,v)]))
section
variable {X:Cx}{k v:Expr}{tk tv:TE}{pos:Pos}
theorem a6S(hu:X.A.units+60<cLine)(hk:PE X k tk)(hv:PE X v tv):PE X (.Dict [some k] [v] pos) (a5K tk tv):=by
 intro pins s σ H Q I q;have hn:=I.hok.fresh (Nat.le_refl s.heap.objs.size);have I1:=I.laid (a:=s.heap.objs.size) (o:=.dT []) (h':=s.heap.push {cls:=.type "dict",data:=.dict #[]}) (t':=s.toks) (λ_ _ q=>Heap.get?_push_of_some _ q) (Nat.le_refl _) (a9X s.heap I.big);rw[arm_eval_Dict,zip_pairTrees [some k] [v] X.env pos rfl rfl,dictDisplay_pairs (pairTrees [some k] [v] X.env pos) (by intro z;cases z) (show 1<17 by decide)];refine wpAny_bind (wpAny_standAt (wpAny_bind ?_));unfold subDict;refine wpAny_bind (wpAny_alloc ?_);refine wpAny_bind (wpAny_holding ?_);have hlen:(pairTrees [some k] [v] X.env pos).length<=15:=(show 1<=15 by decide);rw[if_pos hlen];refine wpAny_bind (pairTrees_cons_walk (thn (hk pins _ σ _ _ I1 (q _ hn)) λu s1 ⟨x,H1,I2,rx,q1⟩=>thn (hv pins s1 σ H1 _ I2 q1) λr s2 ⟨y,H2,I3,ry,q2⟩=>pairTrees_nil_walk ?_));obtain⟨e,b,ks,rfl,eb,q3⟩:=q2;cases(show u=Value.ref b from rx);refine wpAny_holding (wpAny_bind ?_);rw[List.forIn_cons];obtain⟨z,hd,xs,rel,dd⟩:=b2V I3.hok e;have hx0:xs=[]:=List.length_eq_zero_iff.mp (by rw[<-Paired.length rel];rfl);subst hx0;refine wpAny_bind (wpAny_bind (wpAny_dictSet_heap (A:=X.A) (knd:=tupleKind (D8 X.prog X.w)) (hsz:=Nat.zero_le _) (show X.A.units<cLine by omega) (a1G I3.hok eb) dd λh' dd' hs=>wpAny_pure ?_));dsimp only;rw[List.forIn_nil];refine wpAny_pure (wpAny_pure (wpAny_pure (wpAny_pure ⟨.ref s.heap.objs.size,_,?_,rfl,q3⟩)));obtain⟨o,es,ep,hq,h2,h3,h4,_,h5⟩:=dd';have hl:([(ks,y)]:List (List Key×V)).length<=sizeLine:=by show 1<=sizeLine;rw[sizeLine_eq];decide
 refine a1b I3 (by rw[e];exact True.intro) hs ⟨o,hq⟩ ⟨hl,hd,_,(show KT H2 [(ks,y)] _ from(rel.put ks eb ry)).keeps λc ys ec=>?_,o,es,ep,hq,h2,h3,h4,h5⟩;rw[A3 (L6 ec e (λz=>nomatch z))];exact ec
theorem a9H(hu:X.A.units+60<cLine)(hk:JE X k tk)(hv:JE X v tv):JE X (.Dict [some k] [v] pos) (a5K tk tv):=⟨a6S hu hk.h hv.h⟩
end
end L2
namespace K24
open PySem PySem.Spec PyProof.Rows L2
section
variable {P:Program}{w:World}{K:PySem.W.Frag}{mg:Str->Option Value}{base:Heap}
noncomputable def cV:Option Int->V
 |none=>.non
 |some c=>.int c
noncomputable def a3s(c:Option Int)(x:Int):Bool:=match c with|none=>true|some c=>decide (x<=c)
noncomputable def Wi(cs:List (Option Int))(xs:List Int):Bool:=(List.zipWith a3s cs xs).all id
theorem b4S(cs:List (Option Int))(xs:List Int):(List.zipWith (λc x=>V.bl (a3s c x)) cs xs).all trV=Wi cs xs:=by
 unfold Wi;induction cs generalizing xs with
 |nil=>rfl
 |cons c cs ih =>
  cases xs with
  |nil=>rfl
  |cons x xs=>rw[List.zipWith_cons_cons,List.zipWith_cons_cons,List.all_cons,List.all_cons,ih];rfl
inductive IspWithin(vs:List V)(H:Hp)(Q:VK)(E:XK):Prop
 |mk (a b:Addr) (cs:List (Option Int)) (xs:List Int) (_:vs=[.ref a,.ref b]) (_:H a=some (.tup (cs.map cV))) (_:H b=some (.tup (xs.map V.int))) (_:cs.length<=1000) (_:∀H',Same H H'->Q (.bl (Wi cs xs)) H'):IspWithin  vs H Q E
def a3L:Sp:=λvs H Q E=>IspWithin  vs H Q E
theorem a6J:FnScope ["caps","one"] ["caps","one"] (A2 Z3):=⟨rfl,rfl,rfl,by decide +kernel,rfl,by decide +kernel,by decide +kernel⟩
theorem a6W(F:FunAt K mg "within" Z3 ["caps","one"])(T:Tx mg):Ok P w K mg base "within" 1 ["caps","one"] a3L:=by
 refine F.okJ a6J (λvs H Q E h=>?_) (λcdv f A outer s H vs Q E hr h=>?_)
 .obtain⟨a,b,cs,xs,rfl,_⟩:=h;rfl
 .obtain⟨a,b,cs,xs,rfl,ha,hb,hl,k⟩:=h;refine⟨_,(A4 (B2 (a3g K rfl T.b_all (jaC (E2 (N:=["cap","number"]) (src:=[none,none]) (T3 K rfl T.b_zip (jaC (jv 0) (jaC (jv 1) jaN))) (by show D0 _ _=true;rfl) (by rfl) (by rfl)
 (λ_ _ _ _ _=>(J5 K 2 (B1 (A7 (i:=0) (show(["cap","number"]:List Str).Nodup by decide +kernel) rfl (Or.inl rfl)) (B1 (A7 (i:=1) (show(["cap","number"]:List Str).Nodup by decide +kernel) rfl (Or.inl rfl)) E6)))) (λ_ _ _ _ _=>G7) (λ_ _ _ _ _=>(b5Q (b4n (jv 0) a6p) (b2R (a9x (jv 1) (jv 0)))))) jaN)))),?_⟩
  refine⟨_,rfl,_,rfl,true,true,a,b,rfl,⟨_,SqT.of ha⟩,⟨_,SqT.of hb⟩,?_⟩;refine b0q (caps:=[]) cV V.int (λc x=>V.bl (a3s c x)) hl (λH' s=>⟨sqt (s _ _ ha),sqt (s _ _ hb)⟩) rfl (λc x H1 Q1 _ _ _ q=>?_) λH1 p s hp=>?_
  .cases c with
   |none=>exact⟨_,rfl,rfl,true,rfl,a2d (q _ (Same.refl _))⟩
   |some c=>exact⟨_,rfl,rfl,false,rfl,L4 ⟨_,rfl,_,rfl,_,_,rfl,rfl,q _ (Same.refl _)⟩⟩
  refine⟨false,p,_,rfl,SqL.of A0,?_,?_⟩
  .rw[List.all_eq_true];intro v hv;obtain⟨i,hi,rfl⟩:=List.mem_iff_getElem.mp hv;rw[List.getElem_zipWith];rfl
  .rw[b4S];exact k _ (s.upd hp)
end
def b2W(now xs:List Int):Prop:=now.length=xs.length/\∀j,j<xs.length->now.getD j 0<=xs.getD j 0
theorem a7U{cs:List (Option Int)}{v:List Int}(h:v.length=cs.length):Wi cs v=true↔∀j,j<cs.length->a3s (cs.getD j none) (v.getD j 0)=true:=by
 unfold Wi;induction cs generalizing v with
 |nil=>simp
 |cons c cs ih =>
  cases v with
  |nil=>cases h
  |cons x v =>
   rw[List.zipWith_cons_cons,List.all_cons,Bool.and_eq_true,ih (by simpa using h)];constructor
   .rintro⟨h1,h2⟩ j hj;cases j with
    |zero=>exact h1
    |succ j=>exact h2 j (by simpa using hj)
   .intro h1;exact⟨h1 0 (by simp),λj hj=>h1 (j+1) (by simpa using hj)⟩
theorem a7u{c:Option Int}{x y:Int}(h:a3s c y=true)(hx:x<=y):a3s c x=true:=by
 cases c with
 |none=>rfl
 |some c =>
  have:y<=c:=of_decide_eq_true h;exact decide_eq_true (by omega)
theorem a0R{cs:List (Option Int)}{u v:List Int}(hv:v.length=cs.length)(h:Wi cs v=true)(hu:b2W u v):Wi cs u=true:=by
 rw[a7U hv]at h;rw[a7U (by rw[hu.1];exact hv)];intro j hj;exact a7u (h j hj) (hu.2 j (by rw[hv];exact hj))
theorem b1S{a b:List Int}(h:a.map (Sum.inl:Int->Key)=b.map Sum.inl):a=b:=by
 induction a generalizing b with
 |nil=>cases b with|nil=>rfl|cons _ _=>cases h
 |cons x a ih =>
  cases b with
  |nil=>cases h
  |cons y b =>
   injection h with h1 h2
   injection h1 with h1
   rw[h1,ih h2]
theorem a1H{kvs:List (List Key×V)}{mss:LLI}{r:List Int}(e:kvs.map (·.1)=IK mss):N0 kvs (r.map Sum.inl)=none↔r∉mss:=by
 constructor
 .intro h hm;refine a7X h ?_;rw[e];exact List.mem_map.mpr ⟨r,hm,rfl⟩
 .intro h;cases hv:N0 kvs (r.map Sum.inl)with
  |none=>rfl
  |some v =>
   have:=b0y hv;rw[e]at this;obtain⟨q,hq,e2⟩:=List.mem_map.mp this;exact absurd (b1S e2 ▸ hq) h
theorem a9v{kvs:List (List Key×V)}{mss:LLI}{r:List Int}(e:kvs.map (·.1)=IK mss):(N0 kvs (r.map Sum.inl)).isSome=decide (r∈mss):=by
 by_cases h:r∈mss
 .rw[decide_eq_true h];cases hv:N0 kvs (r.map Sum.inl)with
  |none=>exact absurd h ((a1H e).mp hv)
  |some v=>rfl
 .rw[decide_eq_false h,(a1H e).mpr h];rfl
theorem a5b(r:List Int):(r.map (Sum.inl:Int->Key)).map kV=r.map V.int:=by rw[List.map_map];rfl
theorem b5r{v:List Int}(h:∀x∈v,0<=x)(j:Nat):0<=v.getD j 0:=by
 rw[List.getD_eq_getElem?_getD];cases e:v[j]? with
 |none=>simp
 |some x=>simpa using h x (List.mem_of_getElem? e)
def B5(u t:List Int):List Int:=List.zipWith (λa b=>a+b) u t
def addk(u:List Int)(k:Nat)(t:List Int):List Int:=List.zipWith (λa b=>a+(k:Int)*b) u t
theorem K8{u t:List Int}(h:u.length=t.length):(B5 u t).length=u.length:=by unfold B5;rw[List.length_zipWith];omega
theorem B6{u t:List Int}{k:Nat}(h:u.length=t.length):(addk u k t).length=u.length:=by unfold addk;rw[List.length_zipWith];omega
theorem a7P{g:Int->Int->Int}{u t:List Int}(h:u.length=t.length)(h0:g 0 0=0)(j:Nat):(List.zipWith g u t).getD j 0=g (u.getD j 0) (t.getD j 0):=by
 rw[List.getD_eq_getElem?_getD,List.getD_eq_getElem?_getD,List.getD_eq_getElem?_getD,List.getElem?_zipWith];by_cases hj:j<u.length
 .rw[List.getElem?_eq_getElem hj,List.getElem?_eq_getElem (by omega)];rfl
 .rw[List.getElem?_eq_none (by omega),List.getElem?_eq_none (by omega)];exact h0.symm
theorem a1e{u t:List Int}(h:u.length=t.length)(j:Nat):(B5 u t).getD j 0=u.getD j 0+t.getD j 0:=a7P h rfl j
theorem J6{u t:List Int}{k:Nat}(h:u.length=t.length)(j:Nat):(addk u k t).getD j 0=u.getD j 0+(k:Int)*t.getD j 0:=a7P (g:=λa b=>a+(k:Int)*b) h (by simp) j
theorem a5o{u v:List Int}(h:u.length=v.length)(hj:∀j,j<u.length->u.getD j 0=v.getD j 0):u=v:=by
 refine List.ext_getElem h λj h1 h2=>?_;have:=hj j h1;rw[List.getD_eq_getElem?_getD,List.getD_eq_getElem?_getD,List.getElem?_eq_getElem h1,List.getElem?_eq_getElem h2]at this;exact this
theorem V9{u t:List Int}(h:u.length=t.length):addk u 0 t=u:=a5o (B6 h) λj _=>by rw[J6 h];simp
theorem M9{u t:List Int}{k:Nat}(h:u.length=t.length):addk u (k+1) t=B5 (addk u k t) t:=a5o (by rw[B6 h,K8 (by rw[B6 h];exact h),B6 h]) λj _=>by
 rw[J6 h,a1e (by rw[B6 h];exact h),J6 h,Int.natCast_succ,Int.add_mul];omega
def Nv(n:Nat)(v:List Int):Prop:=v.length=n/\∀x∈v,0<=x
theorem Nv.at_{n:Nat}{v:List Int}(h:Nv n v)(j:Nat):0<=v.getD j 0:=b5r h.2 j
theorem b2K{n:Nat}{v:List Int}(hl:v.length=n)(h:∀j,j<n->0<=v.getD j 0):Nv n v:=by
 refine⟨hl,λx hx=>?_⟩;obtain⟨i,hi,rfl⟩:=List.mem_iff_getElem.mp hx;have:=h i (by omega);rwa[List.getD_eq_getElem?_getD,List.getElem?_eq_getElem hi]at this
theorem Nv.add{n:Nat}{u t:List Int}(hu:Nv n u)(ht:Nv n t):Nv n (B5 u t):=b2K (by rw[K8 (by rw[hu.1,ht.1]),hu.1]) λj _=>by
 rw[a1e (by rw[hu.1,ht.1])];have:=hu.at_ j;have:=ht.at_ j;omega
theorem Nv.addk{n k:Nat}{u t:List Int}(hu:Nv n u)(ht:Nv n t):Nv n (addk u k t):=b2K (by rw[B6 (by rw[hu.1,ht.1]),hu.1]) λj _=>by
 rw[J6 (by rw[hu.1,ht.1])];have:=hu.at_ j;have:=Int.mul_nonneg (Int.natCast_nonneg k) (ht.at_ j);omega
theorem a1k{n k:Nat}{u t:List Int}(hu:Nv n u)(ht:Nv n t):b2W u (addk u k t):=⟨by rw[B6 (by rw[hu.1,ht.1])],λj _=>by
 rw[J6 (by rw[hu.1,ht.1])];have:=Int.mul_nonneg (Int.natCast_nonneg k) (ht.at_ j);omega⟩
inductive SumOf(n:Nat):LLI->List Int->Prop
 |nil:SumOf n [] (List.replicate n 0)
 |snoc {tss:LLI}{u t:List Int}(k:Nat) (h:SumOf n tss u):SumOf n (tss++[t]) (addk u k t)
theorem a6c(n:Nat):Nv n (List.replicate n 0):=⟨List.length_replicate,λx hx=>by rw[(List.mem_replicate.mp hx).2];omega⟩
theorem SumOf.inv0{n:Nat}{v:List Int}(h:SumOf n [] v):v=List.replicate n 0:=by
 generalize e:([]:LLI)=l at h;cases h with
 |nil=>rfl
 |snoc k h=>simp at e
theorem SumOf.inv{n:Nat}{tss:LLI}{t v:List Int}(h:SumOf n (tss++[t]) v):∃u k,SumOf n tss u/\v=addk u k t:=by
 generalize e:tss++[t]=l at h;cases h with
 |nil=>simp at e
 |snoc k h =>
  obtain⟨rfl,e2⟩:=List.append_inj' e rfl;cases e2;exact⟨_,k,h,rfl⟩
theorem SumOf.nv{n:Nat}{tss:LLI}{v:List Int}(h:SumOf n tss v)(ht:∀t∈tss,Nv n t):Nv n v:=by
 induction h with
 |nil=>exact a6c n
 |snoc k h ih=>exact(ih λt z=>ht t (List.mem_append_left _ z)).addk (ht _ (by simp))
theorem SumOf.more{n:Nat}{tss:LLI}{v a:List Int}(h:SumOf n tss v)(ht:∀t∈tss,Nv n t)(ha:a∈tss):SumOf n tss (B5 v a):=by
 induction h with
 |nil=>cases ha
 |@snoc tss u t k h ih =>
  have ht':∀x∈tss,Nv n x:=λx z=>ht x (List.mem_append_left _ z);have hu:=h.nv ht';have htt:=ht t (by simp);by_cases e:a=t
  .subst e;rw[<-M9 (by rw[hu.1,htt.1])];exact .snoc _ h
  .have ha':a∈tss:=by
    rcases List.mem_append.mp ha with z|z
    .exact z
    .exact absurd (List.mem_singleton.mp z) e
   have hna:=ht' a ha';have:B5 (addk u k t) a=addk (B5 u a) k t:=by
    have l1:u.length=t.length:=by rw[hu.1,htt.1]
    have l2:u.length=a.length:=by rw[hu.1,hna.1]
    refine a5o (by rw[K8 (by rw[B6 l1];exact l2),B6 l1,B6 (by rw[K8 l2];exact l1),K8 l2]) λj _=>?_;rw[a1e (by rw[B6 l1];exact l2),J6 l1,J6 (by rw[K8 l2];exact l1),a1e l2];omega
   rw[this];exact .snoc k (ih ht' ha')
theorem SumOf.zeroN{n:Nat}:∀(m:Nat) (tss:LLI),tss.length=m->(∀t∈tss,Nv n t)->SumOf n tss (List.replicate n 0)
 |0,tss,h,_=>by
  rw[List.length_eq_zero_iff.mp h];exact .nil
 |m+1,tss,h,ht=>by
  have hne:tss≠[]:=λz=>by rw[z]at h;cases h
  have e:=List.dropLast_concat_getLast hne;have h1:=SumOf.zeroN m tss.dropLast (by rw[List.length_dropLast];omega) λx z=>ht x ((List.dropLast_sublist tss).subset z);have h2:=SumOf.snoc (t:=tss.getLast hne) 0 h1;rw[V9 (by rw[List.length_replicate,(ht _ (List.getLast_mem hne)).1]),e]at h2;exact h2
theorem SumOf.zero{n:Nat}{tss:LLI}(ht:∀t∈tss,Nv n t):SumOf n tss (List.replicate n 0):=SumOf.zeroN _ tss rfl ht
section
variable {P:Program}{w:World}{K:PySem.W.Frag}{mg:Str->Option Value}{base:Heap}
theorem b0J:FnScope ["one","other"] ["one","other"] (A2 a2U):=⟨rfl,rfl,rfl,by decide +kernel,rfl,by decide +kernel,by decide +kernel⟩
theorem b1z(F:FunAt K mg "plus" a2U ["one","other"])(T:Tx mg):Ok P w K mg base "plus" 1 ["one","other"] (a5M λa b=>a+b):=by
 refine F.okJ b0J (λvs H Q E h=>?_) (λcdv f A outer s H vs Q E hr h=>?_)
 .obtain⟨x,y,xs,ys,rfl,_⟩:=h;rfl
 .obtain⟨_,_,xs,ys,rfl,⟨a,rfl,ha⟩,⟨b,rfl,hb⟩,hl,k⟩:=h;refine⟨_,(A4 (B2 (C5 K rfl T.b_tuple (jaC (E2 (N:=["a","b"]) (src:=[none,none]) (T3 K rfl T.b_zip (jaC (jv 0) (jaC (jv 1) jaN))) (by show D0 _ _=true;rfl) (by rfl) (by rfl)
 (λ_ _ _ _ _=>(J5 K 2 (B1 (A7 (i:=0) (show(["a","b"]:List Str).Nodup by decide +kernel) rfl (Or.inl rfl)) (B1 (A7 (i:=1) (show(["a","b"]:List Str).Nodup by decide +kernel) rfl (Or.inl rfl)) E6)))) (λ_ _ _ _ _=>G7) (λ_ _ _ _ _=>(J0 (jv 0) (jv 1)))) jaN)))),?_⟩
  refine⟨_,rfl,_,rfl,true,true,a,b,rfl,⟨_,SqT.of ha⟩,⟨_,SqT.of hb⟩,?_⟩;refine P0 (caps:=[]) (λx y=>V.int (x+y)) (sqt ha) (sqt hb) hl (λH' s=>⟨sqt (s _ _ ha),sqt (s _ _ hb)⟩) rfl (λx y H1 Q1 _ q=>⟨_,rfl,_,rfl,_,_,rfl,rfl,q⟩) λH1 p s hp=>?_;rw[X5 (λx y=>x+y) V.int];refine⟨p,_,rfl,.inl ⟨SqL.of A0,λl hl=>?_⟩⟩;exact k _ _ ((s.upd hp).upd hl) ⟨l,rfl,A0⟩
structure Fnd(cs:List (Option Int))(most:Nat)(mss:LLI):Prop where
 nd:mss.Nodup
 nv:∀v∈mss,Nv cs.length v/\Wi cs v=true
structure Dk(H:Hp)(d:Addr)(mss:LLI):Prop where
 ex:∃kvs,H d=some (.dT kvs)/\kvs.map (·.1)=IK mss
theorem Dk.same{H H':Hp}{d:Addr}{mss:LLI}(h:Dk H d mss)(s:Same H H'):Dk H' d mss:=let ⟨kvs,h1,h2⟩:=h.ex;⟨kvs,s _ _ h1,h2⟩
inductive IspGrow(vs:List V)(H:Hp)(Q:VK)(E:XK):Prop
 |mk (d:Addr) (x:V) (c:Addr) (mi:Int) (most:Nat) (mss:LLI) (r:List Int) (cs:List (Option Int)) (_:vs=[.ref d,x,.ref c,.int mi]) (_:mi=most) (_:Dk H d mss) (_:Fnd cs most mss) (_:mss.length<=most+1) (_:IT H x r) (_:Nv cs.length r) (_:0<r.sum) (_:H c=some (.tup (cs.map cV))) (_:cs.length<=100) (_:most<=100000) (_:∀mss' H',Dk H' d mss'->Fnd cs most mss'->mss'.length<=most+1->(∀v∈mss,v∈mss')->(∀v∈mss',∃u∈mss,∃k,v=addk u k r)->(mss'.length<=most->∀v,(∃u∈mss,∃k,v=addk u k r/\Wi cs v=true)->v∈mss')->Off [d] H H'->Q .non H'):IspGrow  vs H Q E
def a8q:Sp:=λvs H Q E=>IspGrow  vs H Q E
theorem sc_grow:FnScope ["found","one","caps","most","start","more"] ["found","one","caps","most"] (A2 a2W):=⟨rfl,rfl,rfl,by decide +kernel,rfl,by decide +kernel,by decide +kernel⟩
theorem b1C(F':FunAt K mg "grow" a2W ["found","one","caps","most"])(T:Tx mg)(O_plus:Ok P w K mg base "plus" 1 ["one","other"] (a5M λa b=>a+b))(O_within:Ok P w K mg base "within" 1 ["caps","one"] a3L):Ok P w K mg base "grow" 2 ["found","one","caps","most"] a8q:=by
 refine F'.okJ sc_grow (λvs H Q E h=>?_) (λcdv f A outer s H vs Q E hr h=>?_)
 .obtain⟨d,x,c,mi,most,mss,r,cs,rfl,_⟩:=h;rfl
 .obtain⟨d,_,c,_,most,mss,r,cs,rfl,rfl,hD,hF,hfit,⟨xa,rfl,hx⟩,hrn,hrs,hc,h100,hmost,k⟩:=h;have hu:=hr.u60;have hz:(300000:Nat)<=sizeLine:=by rw[sizeLine_eq];decide
  obtain⟨kvs,hd,hk⟩:=id hD.ex;refine⟨_,(A4 (J4 (R7 K (a9D rfl T.b_list (jaC (jv 0) jaN))) (A7 (i:=4) sc_grow.nd rfl (Or.inl rfl))
 (A1 (A9 (i:=5) sc_grow.nd rfl (Or.inl rfl) (B0 O_plus (hr.mono (by omega)) rfl (jaC (jv 4) (jaC (jv 1) jaN))))
 (A4 (a0a (a5d (a5c (b5w (a6o rfl T.b_len (jaC (jv 0) jaN)) (jv 3)) (a5c (a7k hu (jv 5) (jv 0) (by with_unfolding_all rfl)) (a6g (G0 K (B0 O_within (hr.mono (by omega)) rfl (jaC (jv 2) (jaC (jv 5) jaN))))))))
 (A1 (b1K hu (jv 0) (jv 5) W0)
 (A4 (A9 (i:=5) sc_grow.nd rfl (Or.inl rfl) (B0 O_plus (hr.mono (by omega)) rfl (jaC (jv 5) (jaC (jv 1) jaN))))))))))),?_⟩
  refine⟨_,rfl,d,kvs,mss,rfl,hd,hk,λl zs hl hIz=>?_⟩;have s1:=(Same.refl H).upd (o:=.lst zs) hl;have e1:upd H l (.lst zs) l=some (.lst zs):=A0;have hI1:=hIz.same s1;have hd1:=s1 _ _ hd;have nld:l≠d:=(A6 hd hl).symm;generalize upd H l (.lst zs)=H1 at s1 e1 hI1 hd1;refine⟨l,rfl,⟨_,SqL.of e1⟩,?_⟩;refine a1S (K:=K) (a:=l) (xs:=zs) (λi σ H'=>Ex3 λ(o4 o5:Option V) (ms:LLI)=>An8 (σ=[some (.ref d),some (.ref xa),some (.ref c),some (.int most),o4,o5]) (Off [d] H1 H') (Dk H' d ms) (Fnd cs most ms) (ms.length<=most+1) ((∀v∈mss,v∈ms)) ((∀v∈ms,∃u∈mss,∃k,v=addk u k r)) ((ms.length<=most->∀v∈ms,v∉mss.drop i->Wi cs (B5 v r)=true->B5 v r∈ms)))
   ⟨none,none,mss,rfl,Off.refl _ _,⟨kvs,hd1,hk⟩,hF,hfit,(λv hv=>hv),(λv hv=>⟨v,hv,0,(V9 (by rw[(hF.nv v hv).1.1,hrn.1])).symm⟩),λ_ v hv hn=>absurd hv (by simpa using hn)⟩ (λi σ H' _ h=>by obtain⟨_,_,_,_,o',_⟩:=h;exact SqL.of (o' _ _ (by simpa using nld) e1)) ?_ ?_
  .rintro i x σ H2 hxi ⟨o4,o5,ms,rfl,off2,D2,F2,g2,h1,h2,h3⟩;obtain⟨u,hu1,hu2,hu3⟩:=hI1.mem hxi;obtain⟨ua,rfl,hua⟩:=hu3;have tk2:∀a xs,H1 a=some (HO.tup xs)->H2 a=some (.tup xs):=λa xs e=>off2 a _ (by simpa using L6 e hd1 (by intro z;cases z)) e;have hun:=(hF.nv u hu1).1
   try dsimp only[A8,List.set]
   refine⟨_,rfl,_,rfl,.ref ua,.ref xa,u,r,rfl,⟨ua,rfl,tk2 _ _ hua⟩,⟨xa,rfl,tk2 _ _ (s1 _ _ hx)⟩,by rw[hun.1];omega,λm3 H3 s3 hm3=>?_⟩
   try dsimp only[A8,List.set]
   have hdrop:mss.drop i=u::mss.drop (i+1):=by
    rw[List.drop_eq_getElem_cons (List.getElem?_eq_some_iff.mp hu2).1,(List.getElem?_eq_some_iff.mp hu2).2]
   refine⟨λm σ H'=>∃(mv:V) (ms:LLI) (pv:List Int),m=most+1-ms.length/\σ=[some (.ref d),some (.ref xa),some (.ref c),some (.int most),some (.ref ua),some mv]/\Off [d] H1 H'/\Dk H' d ms/\Fnd cs most ms/\ms.length<=most+1/\IT H' mv (B5 pv r)/\pv∈ms/\(∀v∈mss,v∈ms)/\(∀v∈ms,∃u∈mss,∃k,v=addk u k r)/\(ms.length<=most->∀v∈ms,v∉mss.drop (i+1)->v≠pv->Wi cs (B5 v r)=true->B5 v r∈ms),
    ⟨_,m3,ms,u,rfl,rfl,off2.trans s3.off,D2.same s3,F2,g2,hm3,h1 u hu1,h1,h2,λhle v hv hn hne hw=>h3 hle v hv (by rw[hdrop];exact λz=>(List.mem_cons.mp z).elim hne hn) hw⟩,?_⟩
   clear h1 h2 h3 g2 F2 D2 off2 tk2 hm3 s3 hua;rintro m σ H4 ⟨mv,ms,pv,rfl,rfl,off4,D4,F4,g4,hmv,hpv,h1,h2,h3⟩;obtain⟨kv4,hd4,hk4⟩:=id D4.ex;have hkl:=a9K hk4;have hpn:=(F4.nv pv hpv).1;obtain⟨ma,rfl,hma⟩:=id hmv;have done:(B5 pv r∈ms∨Wi cs (B5 pv r)=false)->ms.length<=most->∀v∈ms,v∉mss.drop (i+1)->Wi cs (B5 v r)=true->B5 v r∈ms:=λhor hle v hv hn hw=>by
    by_cases e:v=pv
    .subst e;rcases hor with z|z
     .exact z
     .rw[z]at hw;cases hw
    .exact h3 hle v hv hn e hw
   refine⟨_,rfl,d,kv4,rfl,hd4,_,rfl,_,_,rfl,rfl,_,rfl,?_⟩;by_cases hle:ms.length<=most
   case neg =>
    rw[show decide ((kv4.length:Int)<=(most:Int))=false from decide_eq_false (by omega)];exact L4 (L4 ⟨_,_,ms,rfl,off4,D4,F4,g4,h1,h2,λz=>absurd z hle⟩)
   rw[show decide ((kv4.length:Int)<=(most:Int))=true from decide_eq_true (by omega)];refine a2d ⟨_,rfl,_,rfl,d,_,rfl,DGet.t hd4 (by rw[a5b];exact hma),_,rfl,?_⟩;rw[a9v hk4];by_cases hm:B5 pv r∈ms
   .rw[decide_eq_true hm];exact L4 (L4 ⟨_,_,ms,rfl,off4,D4,F4,g4,h1,h2,done (.inl hm)⟩)
   .rw[decide_eq_false hm];have hc4:H4 c=some (.tup (cs.map cV)):=off4 _ _ (by simpa using L6 (s1 _ _ hc) hd1 (by intro z;cases z)) (s1 _ _ hc);have hx4:H4 xa=some (.tup (r.map V.int)):=off4 _ _ (by simpa using L6 (s1 _ _ hx) hd1 (by intro z;cases z)) (s1 _ _ hx);have hal:(B5 pv r).length=cs.length:=by rw[K8 (by rw[hpn.1,hrn.1]),hpn.1]
    refine a2d ⟨_,rfl,_,rfl,c,ma,cs,B5 pv r,rfl,hc4,hma,by omega,λH5 s5=>⟨Wi cs (B5 pv r),rfl,?_⟩⟩;cases eW:Wi cs (B5 pv r)with
    |false =>
     exact L4 ⟨_,_,ms,rfl,off4.trans s5.off,D4.same s5,F4,g4,h1,h2,done (.inr eW)⟩
    |true =>
     have hnew:Fnd cs most (ms++[B5 pv r]):=⟨a6d F4.nd hm,λv hv=>by
      rcases List.mem_append.mp hv with z|z
      .exact F4.nv v z
      .rw[List.mem_singleton.mp z];exact⟨hpn.add hrn,eW⟩⟩
     have hl1:([B5 pv r]:LLI).length=1:=rfl;refine a2d ⟨λσ' H'=>∃(mv:V),σ'=[some (.ref d),some (.ref xa),some (.ref c),some (.int most),some (.ref ua),some mv]/\Off [d] H1 H'/\Dk H' d (ms++[B5 pv r])/\IT H' mv (B5 (B5 pv r) r),λσ' H' ⟨mv',g1,g2,g3,g5⟩=>⟨most+1-(ms++[B5 pv r]).length,by rw[List.length_append];omega,mv',ms++[B5 pv r],B5 pv r,rfl,g1,g2,g3,hnew,by rw[List.length_append];omega,g5,by simp,λv hv=>List.mem_append_left _ (h1 v hv),λv hv=>?_,λ_ v hv hn hne hw=>?_⟩,?_⟩
     .rcases List.mem_append.mp hv with z|z
      .exact h2 v z
      .obtain⟨u',q1,k',q2⟩:=h2 pv hpv;rw[List.mem_singleton.mp z,q2,<-M9 (by rw[(hF.nv u' q1).1.1,hrn.1])];exact⟨u',q1,_,rfl⟩
     .rcases List.mem_append.mp hv with z|z
      .by_cases e:v=pv
       .subst e;simp
       .exact List.mem_append_left _ (h3 hle v z hn e hw)
      .exact absurd (List.mem_singleton.mp z) hne
     have hd5:=s5 _ _ hd4;refine⟨_,rfl,_,rfl,d,_,rfl,DPut.t (k:=(B5 pv r).map Sum.inl) hd5 (by rw[a5b];exact s5 _ _ hma) (by omega),?_⟩;rw[a8J _ ((a1H hk4).mpr hm)];have off6:Off [d] H1 (upd H5 d (.dT (kv4++[((B5 pv r).map Sum.inl,.bl true)]))):=(off4.trans s5.off).set (by simp);have D6:Dk (upd H5 d (.dT (kv4++[((B5 pv r).map Sum.inl,.bl true)]))) d (ms++[B5 pv r]):=⟨_,A0,by rw[List.map_append,hk4];simp[IK]⟩;have hma6:upd H5 d (.dT (kv4++[((B5 pv r).map Sum.inl,.bl true)])) ma=some (.tup ((B5 pv r).map V.int)):=by rw[A3 (L6 (s5 _ _ hma) hd5 (by intro z;cases z))];exact s5 _ _ hma
     have hx6:upd H5 d (.dT (kv4++[((B5 pv r).map Sum.inl,.bl true)])) xa=some (.tup (r.map V.int)):=by rw[A3 (L6 (s5 _ _ hx4) hd5 (by intro z;cases z))];exact s5 _ _ hx4
     generalize upd H5 d (.dT (kv4++[((B5 pv r).map Sum.inl,.bl true)]))=H6 at off6 D6 hma6 hx6;refine⟨_,rfl,_,rfl,.ref ma,.ref xa,B5 pv r,r,rfl,⟨ma,rfl,hma6⟩,⟨xa,rfl,hx6⟩,by omega,λm7 H7 s7 hm7=>?_⟩;exact⟨m7,rfl,off6.trans s7.off,D6.same s7,hm7⟩
  .rintro σ H2 ⟨o4,o5,ms,rfl,off2,D2,F2,g2,h1,h2,h3⟩;rw[hI1.1,List.drop_length]at h3;refine k ms H2 D2 F2 g2 h1 h2 (λhle v=>?_) (λa o ha e=>off2 a o ha (s1 a o e))
   .have cl:∀v∈ms,Wi cs (B5 v r)=true->B5 v r∈ms:=λv hv hw=>h3 hle v hv (by simp) hw;rintro⟨u,q1,k',rfl,hw⟩;have hun:=(hF.nv u q1).1;have hl:u.length=r.length:=by rw[hun.1,hrn.1]
    have key:∀j,j<=k'->addk u j r∈ms:=λj=>by
     induction j with
     |zero=>intro _;rw[V9 hl];exact h1 u q1
     |succ j ih =>
      intro hj;rw[M9 hl];refine cl _ (ih (by omega)) ?_;rw[<-M9 hl];refine a0R (by rw[B6 hl,hun.1]) hw ⟨by rw[B6 hl,B6 hl],λi _=>?_⟩;rw[J6 hl,J6 hl];have:=Int.mul_le_mul_of_nonneg_right (show((j+1:Nat):Int)<=(k':Int) by omega) (hrn.at_ i);omega
    exact key k' (Nat.le_refl _)
inductive IspAnswers(C:Addr)(vs:List V)(H:Hp)(Q:VK)(E:XK):Prop
 |mk (t c:Addr) (mi:Int) (most:Nat) (us:List V) (tss:LLI) (cs:List (Option Int)) (_:vs=[.ref t,.ref c,.int mi]) (_:mi=most) (_:H t=some (.tup us)) (_:Its H us tss) (_:(∀v∈tss,Nv cs.length v/\0<v.sum)) (_:H c=some (.tup (cs.map cV))) (_:1<=cs.length) (_:cs.length<=100) (_:most<=100000) (_:Wi cs (List.replicate cs.length 0)=true) (_:(∀q zs srt H',Same H H'->H' q=some (.tup zs)->Its H' zs srt->J7 srt->srt.Nodup->(∀v,v∈srt↔SumOf cs.length tss v/\Wi cs v=true)->srt.length<=most->Q (.ref q) H')) (_:(∀(H':Hp) (N:LLI),Same H H'->N.Nodup->(∀v∈N,SumOf cs.length tss v/\Wi cs v=true)->most<N.length->E (.ref C) none H')):IspAnswers C vs H Q E
def a2n(C:Addr):Sp:=λvs H Q E=>IspAnswers C vs H Q E
theorem sc_answers:FnScope ["told","caps","most","found","one"] ["told","caps","most"] (A2 U4):=⟨rfl,rfl,rfl,by decide +kernel,rfl,by decide +kernel,by decide +kernel⟩
theorem a3S{C:Addr}(F':FunAt K mg "answers" U4 ["told","caps","most"])(T:Tx mg)(O_nought:Ok P w K mg base "nought" 1 ["width"] a0i)(O_grow:Ok P w K mg base "grow" 2 ["found","one","caps","most"] a8q)(OC_TooMany:OwnCls "TooMany" C [.type "ValueError",.type "Exception",.type "BaseException",.type "object"] "ValueError.__new__" mg base):OkE P w K mg base "answers" 3 ["told","caps","most"] (a2n C):=by
 refine F'.okE sc_answers (λvs H Q E h=>?_) (λcdv f A outer s H vs Q E hr h=>?_)
 .obtain⟨t,c,mi,most,us,tss,cs,rfl,_⟩:=h;rfl
 .obtain⟨t,c,_,most,us,tss,cs,rfl,rfl,ht,hI,hT,hc,n1,n2,hmost,hw0,k,kE⟩:=h;have hu:=hr.u60;have hz:(300000:Nat)<=sizeLine:=by rw[sizeLine_eq];decide
  have hTn:∀v∈tss,Nv cs.length v:=λv hv=>(hT v hv).1;refine⟨_,(A1 (A9 (i:=3) sc_answers.nd rfl (Or.inl rfl) (a9H hu (B0 O_nought (hr.mono (by omega)) rfl (jaC (G8 K rfl T.b_len (jaC (jv 1) jaN)) jaN)) W0))
 (A1 (J4 (O8 K (jv 0)) (A7 (i:=4) sc_answers.nd rfl (Or.inl rfl))
 (A4 (M6 (B0 O_grow (hr.mono (by omega)) rfl (jaC (jv 3) (jaC (jv 4) (jaC (jv 1) (jaC (jv 2) jaN))))))) (hp:=PassesOwn.leaving))
 (A1 (E5 (a0H (a6o rfl T.b_len (jaC (jv 3) jaN)) (jv 2))
 (A4 (a4k OC_TooMany PySem.F.excBase_ValueError rfl PySem.F.excBase_ValueError rfl (jaC b2P jaN)))
 C2)
 (A4 (B2 (C5 K rfl T.b_tuple (jaC (a9B rfl T.b_sorted (jaC (jv 3) jaN)) jaN))))))),?_⟩
  intro d hd;have s0:=(Same.refl H).upd (o:=.dT []) hd;have e0:upd H d (.dT []) d=some (.dT []):=A0;generalize upd H d (.dT [])=H0 at s0 e0;refine⟨_,rfl,c,_,rfl,.inr (SqT.of (s0 _ _ hc)),_,rfl,by rw[List.length_map];omega,λva H1 s1 hva=>?_⟩;rw[List.length_map]at hva;refine⟨s1 _ _ e0,va,(List.replicate cs.length (0:Int)).map Sum.inl,rfl,by rw[a5b];exact hva,?_⟩
  try dsimp only[A8,List.set]
  have off1:Off [d] H (upd H1 d (.dT [((List.replicate cs.length (0:Int)).map Sum.inl,.bl true)])):=λa o ha e=>by
   rw[A3 (by simpa using ha)];exact s1 _ _ (s0 _ _ e)
  have D1:Dk (upd H1 d (.dT [((List.replicate cs.length (0:Int)).map Sum.inl,.bl true)])) d [List.replicate cs.length 0]:=⟨_,A0,rfl⟩;have F1:Fnd cs most [List.replicate cs.length 0]:=⟨by simp,λv hv=>by rw[List.mem_singleton.mp hv];exact⟨a6c _,hw0⟩⟩;generalize upd H1 d (.dT [((List.replicate cs.length (0:Int)).map Sum.inl,.bl true)])=H2 at off1 D1;have same:∀{H':Hp},Off [d] H H'->Same H H':=λo b u e=>o b u (by simpa using A6 e hd) e;refine⟨_,rfl,t,rfl,⟨_,SqT.of (same off1 _ _ ht)⟩,?_⟩;refine a0Z (K:=K) (a:=t) (xs:=us) (λi σ H'=>Ex2 λ(o4:Option V) (ms:LLI)=>An7 (σ=[some (.ref t),some (.ref c),some (.int most),some (.ref d),o4]) (Off [d] H H') (Dk H' d ms) (Fnd cs most ms) (ms.length<=most+1) ((∀v∈ms,SumOf cs.length (tss.take i) v)) ((ms.length<=most->∀v,SumOf cs.length (tss.take i) v->Wi cs v=true->v∈ms)))
   ⟨none,_,rfl,off1,D1,F1,by show 1<=_;omega,λv hv=>by rw[List.mem_singleton.mp hv];exact .nil,λ_ v hv _=>by rw[List.take_zero]at hv;rw[hv.inv0];simp⟩ (λi σ H' _ h=>by obtain⟨_,_,_,o',_⟩:=h;exact SqT.of (same o' _ _ ht)) ?_ ?_
  .rintro i x σ H3 hx ⟨o4,ms,rfl,off3,D3,F3,g3,hm,hc3⟩;obtain⟨r,hr1,hr2,hr3⟩:=hI.mem hx;have s3:=same off3
   try dsimp only[A8,List.set]
   refine⟨_,rfl,_,rfl,_,rfl,_,rfl,d,x,c,_,most,ms,r,cs,rfl,rfl,D3,F3,g3,hr3.same s3,(hT r hr1).1,(hT r hr1).2,s3 _ _ hc,n2,hmost,λms' H4 D4 F4 g4 hs4 hm4 hc4 off4=>?_⟩;have et:tss.take (i+1)=tss.take i++[r]:=by rw[List.take_add_one,hr2];rfl
   have hTi:∀v∈tss.take i,Nv cs.length v:=λv hv=>hTn v (List.mem_of_mem_take hv);refine⟨_,ms',rfl,off3.trans off4,D4,F4,g4,λv hv=>?_,λhle v hs hw=>?_⟩
   .obtain⟨u,hu1,k',rfl⟩:=hm4 v hv;rw[et];exact .snoc k' (hm u hu1)
   .rw[et]at hs;obtain⟨u,k',hu1,rfl⟩:=hs.inv;have hun:=hu1.nv hTi;have hlm:ms.length<=most:=Nat.le_trans (a0D ms ms' F3.nd hs4) hle;exact hc4 hle _ ⟨u,hc3 hlm u hu1 (a0R (by rw[B6 (by rw[hun.1,(hT r hr1).1.1]),hun.1]) hw (a1k hun (hT r hr1).1)),k',rfl,hw⟩
  .rintro σ H3 ⟨o4,ms,rfl,off3,D3,F3,g3,hm,hc3⟩;rw[hI.1,List.take_length]at hm hc3;obtain⟨kvs,hd3,hk3⟩:=id D3.ex;have hkl:=a9K hk3;refine⟨_,rfl,d,kvs,rfl,hd3,_,rfl,_,_,rfl,rfl,_,rfl,?_⟩;by_cases hle:ms.length<=most
   case neg =>
    rw[show decide ((most:Int)<(kvs.length:Int))=true from decide_eq_true (by omega)];exact a2d ⟨by rw[sizeLine_eq];decide,kE H3 ms (same off3) F3.nd (λv hv=>⟨hm v hv,(F3.nv v hv).2⟩) (by omega)⟩
   rw[show decide ((most:Int)<(kvs.length:Int))=false from decide_eq_false (by omega)];refine L4 ⟨_,rfl,d,kvs,ms,rfl,hd3,hk3,λr hr=>by rw[(F3.nv r hr).1.1];omega,λp zs srt hp hIz hpm hri=>⟨p,zs,rfl,.inl ⟨SqL.of A0,λq hq=>?_⟩⟩⟩;have s4:=((Same.refl H3).upd (o:=.lst zs) hp).upd (o:=.tup zs) hq;exact k q zs srt _ ((same off3).trans s4) A0 (hIz.same s4) hri (hpm.symm.nodup F3.nd) (λv=>hpm.mem_iff.trans ⟨λhv=>⟨hm v hv,(F3.nv v hv).2⟩,λhv=>hc3 hle v hv.1 hv.2⟩) (by rw[hpm.length_eq];exact hle)
end
theorem a4M{n:Nat}{cs:List (Option Int)}{tss ms:LLI}(hn:cs.length=n)(ht:∀t∈tss,Nv n t)(h0:List.replicate n 0∈ms)(hc:∀u∈ms,∀t∈tss,Wi cs (B5 u t)=true->B5 u t∈ms):∀{qss:LLI}{v:List Int},SumOf n qss v->(∀t∈qss,t∈tss)->Wi cs v=true->v∈ms:=by
 intro qss v h;induction h with
 |nil=>exact λ_ _=>h0
 |@snoc qss u t k h ih =>
  intro hs hw;have hq:∀x∈qss,x∈tss:=λx hx=>hs x (List.mem_append_left _ hx);have htt:t∈tss:=hs t (by simp);have hu:=h.nv λx hx=>ht x (hq x hx);have hT:=ht t htt;have hl:u.length=t.length:=by rw[hu.1,hT.1]
  have hum:=ih hq (a0R (by rw[B6 hl,hu.1,hn]) hw (a1k hu hT));have key:∀j,j<=k->addk u j t∈ms:=λj=>by
   induction j with
   |zero=>intro _;rw[V9 hl];exact hum
   |succ j ihj =>
    intro hj;rw[M9 hl];refine hc _ (ihj (by omega)) t htt ?_;rw[<-M9 hl];refine a0R (by rw[B6 hl,hu.1,hn]) hw ⟨by rw[B6 hl,B6 hl],λi _=>?_⟩;rw[J6 hl,J6 hl];have:=Int.mul_le_mul_of_nonneg_right (show((j+1:Nat):Int)<=(k:Int) by omega) (hT.at_ i);omega
  exact key k (Nat.le_refl _)
def b4P(cs:List (Option Int))(most:Nat):Prop:=∀l:LLI,l.Nodup->(∀v∈l,Nv cs.length v/\Wi cs v=true)->l.length<=most
theorem b2b(cs:List Int):(cs.map some).map cV=cs.map V.int:=by rw[List.map_map];rfl
theorem a7W:∀(cs xs:List Int),(List.zipWith (λx c=>V.bl (decide (x<=c))) xs cs).all trV=Wi (cs.map some) xs
 |[],[]=>rfl
 |[],_::_=>rfl
 |_::_,[]=>rfl
 |c::cs,x::xs=>by
  rw[List.zipWith_cons_cons,List.all_cons,a7W cs xs];show _=(List.zipWith a3s (some c::cs.map some) (x::xs)).all id;rw[List.zipWith_cons_cons,List.all_cons];rfl
section
variable {P:Program}{w:World}{K:PySem.W.Frag}{mg:Str->Option Value}{base:Heap}
inductive IspLSums(vs:List V)(H:Hp)(Q:VK)(E:XK):Prop
 |mk (a c:Addr) (us:List V) (tss:LLI) (cs:List Int) (n:Nat) (_:vs=[.ref a,.ref c]) (_:H a=some (.tup us)) (_:Its H us tss) (_:H c=some (.tup (cs.map V.int))) (_:cs.length=n) (_:1<=n) (_:n<=8) (_:(∀v∈tss,Nv n v)) (_:b4P (cs.map some) 300) (_:Wi (cs.map some) (List.replicate n 0)=true) (_:∀(l:Addr) (zs:List V) (srt:LLI) (H':Hp),Same H H'->H' l=some (.lst zs)->Its H' zs srt->J7 srt->srt.Nodup->(∀v,v∈srt↔SumOf n tss v/\Wi (cs.map some) v=true)->Q (.ref l) H'):IspLSums  vs H Q E
def a5T:Sp:=λvs H Q E=>IspLSums  vs H Q E
theorem sc__law_sums:FnScope ["_law_parts","_law_caps","_law_found","_law_at","_law_part","_law_now","_law_more","_law_fits"] ["_law_parts","_law_caps"] (A2 N8):=⟨rfl,rfl,rfl,by decide +kernel,rfl,by decide +kernel,by decide +kernel⟩
theorem a9g(F:FunAt K mg "_law_sums" N8 ["_law_parts","_law_caps"])(T:Tx mg):Ok P w K mg base "_law_sums" 1 ["_law_parts","_law_caps"] a5T:=by
 refine F.okJ sc__law_sums (λvs H Q E h=>?_) (λcdv f A outer s H vs Q E hr h=>?_)
 .obtain⟨a,c,us,tss,cs,n,rfl,_⟩:=h;rfl
 .obtain⟨a,c,us,tss,cs,n,rfl,ha,hI,hc,hcl,hn1,hn8,hT,hfit,hw0,k⟩:=h;have hz:(3000:Nat)<=sizeLine:=by rw[sizeLine_eq];decide
  have hu:=hr.u60;refine⟨_,(A1 (A9 (i:=2) sc__law_sums.nd rfl (Or.inl rfl) (K7 (jaC (a9F (L7 (jaC A5 jaN)) (G8 K rfl T.b_len (jaC (jv 1) jaN))) jaN)))
 (A1 (A9 (i:=3) sc__law_sums.nd rfl (Or.inl rfl) A5)
 (A1 (a0a (a9y (jv 3) (G8 K rfl T.b_len (jaC (jv 2) jaN)))
 (A1 (J4 (O8 K (jv 0)) (A7 (i:=4) sc__law_sums.nd rfl (Or.inl rfl))
 (A1 (A9 (i:=5) sc__law_sums.nd rfl (Or.inl rfl) (L8 K (jv 2) (jv 3)))
 (A1 (A9 (i:=6) sc__law_sums.nd rfl (Or.inl rfl) (C5 K rfl T.b_tuple (jaC (E2 (N:=["_law_have","_law_number"]) (src:=[none,none]) (T3 K rfl T.b_zip (jaC (jv 5) (jaC (jv 4) jaN))) (by show D0 _ _=true;rfl) (by rfl) (by rfl)
 (λ_ _ _ _ _=>(J5 K 2 (B1 (A7 (i:=0) (show(["_law_have","_law_number"]:List Str).Nodup by decide +kernel) rfl (Or.inl rfl)) (B1 (A7 (i:=1) (show(["_law_have","_law_number"]:List Str).Nodup by decide +kernel) rfl (Or.inl rfl)) E6)))) (λ_ _ _ _ _=>G7) (λ_ _ _ _ _=>(J0 (jv 0) (jv 1)))) jaN)))
 (A1 (A9 (i:=7) sc__law_sums.nd rfl (Or.inl rfl) (a3g K rfl T.b_all (jaC (E2 (N:=["_law_number","_law_cap"]) (src:=[none,none]) (T3 K rfl T.b_zip (jaC (jv 6) (jaC (jv 1) jaN))) (by show D0 _ _=true;rfl) (by rfl) (by rfl)
 (λ_ _ _ _ _=>(J5 K 2 (B1 (A7 (i:=0) (show(["_law_number","_law_cap"]:List Str).Nodup by decide +kernel) rfl (Or.inl rfl)) (B1 (A7 (i:=1) (show(["_law_number","_law_cap"]:List Str).Nodup by decide +kernel) rfl (Or.inl rfl)) E6)))) (λ_ _ _ _ _=>G7) (λ_ _ _ _ _=>(a9x (jv 0) (jv 1)))) jaN)))
 (A4 (E5 (a5d (a5c (G0 K (jv 7)) (a6g (a2u K hu (jv 6) (jv 2) (by with_unfolding_all rfl)))))
 (A4 (M6 (M7 K (jv 2) (jaC (jv 6) jaN))))
 C2))))))
 (A4 (A9 (i:=3) sc__law_sums.nd rfl (Or.inl rfl) (J0 (jv 3) A5)))))
 (A4 (B2 (a9C K rfl T.b_sorted (jaC (jv 2) jaN))))))),?_⟩
  refine⟨by show 1<=sizeLine;omega,λp1 hp1=>⟨_,rfl,c,_,rfl,.inr (SqT.of (B8 hc hp1)),p1,[.int 0],_,rfl,rfl,A0,by simp,?_,?_,λq1 H1 s1 e1=>?_⟩⟩
  .rw[List.length_map];omega
  .rw[List.length_map];show(1:Int)*_<=_;omega
  rw[List.length_map,a1U,Int.toNat_natCast,hcl]at e1;have s01:=((Same.refl H).upd (o:=.tup [.int 0]) hp1).trans s1;refine⟨by show 1<=sizeLine;omega,λl2 hl2=>?_⟩;have hfr:H l2=none:=s01.free hl2;have s02:=s01.upd (o:=.lst [.ref q1]) hl2;have e2:upd H1 l2 (.lst [.ref q1]) l2=some (.lst [.ref q1]):=A0;have e1':=B8 (o:=.lst [.ref q1]) e1 hl2;generalize upd H1 l2 (.lst [.ref q1])=H2 at s02 e2 e1';dsimp only[A8];have Fit:∀ms:LLI,ms.Nodup->(∀v∈ms,SumOf n tss v/\Wi (cs.map some) v=true)->ms.length<=300:=λms h1 h2=>hfit ms h1 λv hv=>⟨by rw[List.length_map,hcl];exact(h2 v hv).1.nv hT,(h2 v hv).2⟩;refine⟨λm σ H'=>∃(at':Nat) (o4 o5 o6 o7:Option V) (zs:List V) (ms:LLI),m=301-at'/\σ=[some (.ref a),some (.ref c),some (.ref l2),some (.int at'),o4,o5,o6,o7]/\Same H H'/\H' l2=some (.lst zs)/\Its H' zs ms/\ms.Nodup/\(∀v∈ms,SumOf n tss v/\Wi (cs.map some) v=true)/\List.replicate n 0∈ms/\at'<=ms.length/\(∀i u,i<at'->ms[i]?=some u->∀t∈tss,Wi (cs.map some) (B5 u t)=true->B5 u t∈ms),
   ⟨_,0,none,none,none,none,[.ref q1],[List.replicate n 0],rfl,rfl,s02,e2,Its.one ⟨q1,rfl,e1'⟩,by simp,λv hv=>by rw[List.mem_singleton.mp hv];exact⟨SumOf.zero hT,hw0⟩,by simp,Nat.zero_le _,λi u hi=>absurd hi (Nat.not_lt_zero _)⟩,?_⟩
  rintro m σ H3 ⟨at',o4,o5,o6,o7,zs,ms,rfl,rfl,s3,hl3,hI3,hnd,hS,h0,hat,hcl3⟩;have hzl:=hI3.1;have hb:=Fit ms hnd hS;refine⟨_,rfl,_,rfl,l2,zs,rfl,.inl (SqL.of hl3),_,_,rfl,rfl,_,rfl,Q0 (λe=>?_) (λe=>?_)⟩
  .have e':(at':Int)<(zs.length:Nat):=of_decide_eq_true e;obtain⟨x5,hx5⟩:∃x,zs[at']?=some x:=⟨zs[at'],List.getElem?_eq_getElem (by omega)⟩;obtain⟨u5,hu5,hxu5⟩:=hI3.2 _ _ hx5;refine⟨λσ H'=>∃(o4 o5 o6 o7:Option V) (zs:List V) (ms:LLI),σ=[some (.ref a),some (.ref c),some (.ref l2),some (.int ((at':Int)+1)),o4,o5,o6,o7]/\Same H H'/\H' l2=some (.lst zs)/\Its H' zs ms/\ms.Nodup/\(∀v∈ms,SumOf n tss v/\Wi (cs.map some) v=true)/\List.replicate n 0∈ms/\at'+1<=ms.length/\(∀i u,i<at'+1->ms[i]?=some u->∀t∈tss,Wi (cs.map some) (B5 u t)=true->B5 u t∈ms),λσ' H' h=>?_,?_⟩
   .obtain⟨o4,o5,o6,o7,zs,ms,q1,q2,q3,q4,q5,q6,q7,q8,q9⟩:=h;exact⟨_,by omega,at'+1,o4,o5,o6,o7,zs,ms,rfl,q1,q2,q3,q4,q5,q6,q7,q8,q9⟩
   refine⟨_,rfl,a,rfl,⟨_,SqT.of (s3 _ _ ha)⟩,?_⟩;refine a0Z (K:=K) (a:=a) (xs:=us) (λi σ H'=>Ex6 λ(o4 o5 o6 o7:Option V) (ws:List V) (qs:LLI)=>An7 (σ=[some (.ref a),some (.ref c),some (.ref l2),some (.int at'),o4,o5,o6,o7]) (Same H H') (H' l2=some (.lst (zs++ws))) (Its H' (zs++ws) (ms++qs)) ((ms++qs).Nodup) ((∀v∈ms++qs,SumOf n tss v/\Wi (cs.map some) v=true)) ((∀t∈tss.take i,Wi (cs.map some) (B5 u5 t)=true->B5 u5 t∈ms++qs)))
    ⟨o4,o5,o6,o7,[],[],rfl,s3,by rw[List.append_nil];exact hl3,by rw[List.append_nil,List.append_nil];exact hI3,by rw[List.append_nil];exact hnd,by rw[List.append_nil];exact hS,λt ht=>by rw[List.take_zero]at ht;cases ht⟩ (λi σ H' _ h=>by
     obtain⟨_,_,_,_,_,_,_,s',_⟩:=h;exact SqT.of (s' _ _ ha)) ?_ ?_
   .rintro i x σ H4 hx ⟨o4,o5,o6,o7,ws,qs,rfl,s4,hl4,hI4,hnd4,hS4,hd4⟩;obtain⟨r,hr1,hr2,ra,rfl,hra⟩:=hI.mem hx;have hrn:=hT r hr1;have hx4:(zs++ws)[at']?=some x5:=by rw[List.getElem?_append_left (by omega)];exact hx5
    obtain⟨u',hu',na,rfl,hna⟩:=hI4.2 _ _ hx4;have eu:u'=u5:=by
     rw[List.getElem?_append_left (by omega),hu5]at hu';exact(Option.some.inj hu').symm
    subst eu;have hum:=hS u' (List.mem_of_getElem? hu5);have hun:=hum.1.nv hT;have hra4:=s4 _ _ hra;have hlu:u'.length=r.length:=by rw[hun.1,hrn.1]
    dsimp only[A8];refine⟨_,rfl,_,rfl,l2,_,_,_,rfl,rfl,SqL.of hl4,a0e hx4,?_⟩;dsimp only[A8];refine⟨_,rfl,_,rfl,true,true,na,ra,rfl,⟨_,SqT.of hna⟩,⟨_,SqT.of hra4⟩,?_⟩;refine P0 (caps:=[]) (λx y=>V.int (x+y)) (sqt hna) (sqt hra4) (by rw[hun.1];omega) (λH' s=>⟨sqt (s _ _ hna),sqt (s _ _ hra4)⟩) rfl (λx y H1 Q1 _ q=>⟨_,rfl,_,rfl,_,_,rfl,rfl,q⟩) λH5 p5 s5 hp5=>?_;rw[X5 (λx y=>x+y) V.int];refine⟨p5,_,rfl,.inl ⟨SqL.of A0,λp6 hp6=>?_⟩⟩;have s6:=(s5.upd hp5).upd (o:=.tup ((List.zipWith (λx y=>x+y) u' r).map V.int)) hp6;have e6:upd (upd H5 p5 (.lst ((List.zipWith (λx y=>x+y) u' r).map V.int))) p6 (.tup ((List.zipWith (λx y=>x+y) u' r).map V.int)) p6=some (.tup ((List.zipWith (λx y=>x+y) u' r).map V.int)):=A0;generalize upd (upd H5 p5 (.lst ((List.zipWith (λx y=>x+y) u' r).map V.int))) p6 (.tup ((List.zipWith (λx y=>x+y) u' r).map V.int))=H6 at s6 e6;change H6 p6=some (.tup ((B5 u' r).map V.int))at e6;have hal:(B5 u' r).length=n:=by rw[K8 hlu,hun.1]
    dsimp only[A8];have hc6:=s6 _ _ (s4 _ _ hc);refine⟨_,rfl,_,rfl,true,true,p6,c,rfl,⟨_,SqT.of e6⟩,⟨_,SqT.of hc6⟩,?_⟩;refine P0 (caps:=[]) (λx y=>V.bl (decide (x<=y))) (sqt e6) (sqt hc6) (by omega) (λH' s=>⟨sqt (s _ _ e6),sqt (s _ _ hc6)⟩) rfl (λx y H1 Q1 _ q=>⟨_,rfl,_,rfl,_,_,rfl,rfl,q⟩) λH7 p7 s7 hp7=>?_;refine⟨false,p7,_,rfl,SqL.of A0,?_,?_⟩
    .rw[List.all_eq_true];intro v hv;obtain⟨i,hi,rfl⟩:=List.mem_iff_getElem.mp hv;rw[List.getElem_zipWith];rfl
    rw[a7W];have s47:=s6.trans (s7.upd (o:=.lst (List.zipWith (λx y=>V.bl (decide (x<=y))) (B5 u' r) cs)) hp7);have e7:=(s7.upd (o:=.lst (List.zipWith (λx y=>V.bl (decide (x<=y))) (B5 u' r) cs)) hp7) _ _ e6;generalize upd H7 p7 (.lst (List.zipWith (λx y=>V.bl (decide (x<=y))) (B5 u' r) cs))=H8 at s47 e7;have hl8:=s47 _ _ hl4;have hI8:=hI4.same s47;have ht1:tss.take (i+1)=tss.take i++[r]:=by rw[List.take_add_one,hr2];rfl
    dsimp only[A8];cases eW:Wi (cs.map some) (B5 u' r)with
    |false =>
     refine⟨_,rfl,false,rfl,L4 (L4 ?_)⟩;refine⟨_,_,_,_,ws,qs,rfl,s4.trans s47,hl8,hI8,hnd4,hS4,λt ht hw=>?_⟩;rw[ht1]at ht;rcases List.mem_append.mp ht with z|z
     .exact hd4 t z hw
     .rw[List.mem_singleton.mp z,eW]at hw;cases hw
    |true =>
     refine⟨_,rfl,true,rfl,a2d ?_⟩;refine⟨_,rfl,_,rfl,p6,l2,B5 u' r,false,zs++ws,ms++qs,rfl,e7,rfl,SqL.of hl8,hI8,_,rfl,Q0 (λe=>?_) (λe=>?_)⟩
     .have hnot:B5 u' r∉ms++qs:=λz=>by rw[decide_eq_true z]at e;cases e
      have hnd9:(ms++qs++[B5 u' r]).Nodup:=U7 hnd4 (a3a _) λv h1 h2=>by rw[List.mem_singleton.mp h2]at h1;exact hnot h1
      have hS9:∀v∈ms++qs++[B5 u' r],SumOf n tss v/\Wi (cs.map some) v=true:=λv hv=>by
       rcases List.mem_append.mp hv with z|z
       .exact hS4 v z
       .rw[List.mem_singleton.mp z];exact⟨hum.1.more hT hr1,eW⟩
      have hb9:=Fit _ hnd9 hS9;rw[List.length_append]at hb9;have hzl8:=hI8.1;refine⟨_,rfl,.inl ⟨rfl,_,SqL.of hl8⟩,_,rfl,l2,_,_,rfl,rfl,hl8,by omega,?_⟩;refine⟨_,_,_,_,ws++[.ref p6],qs++[B5 u' r],rfl,λb u e=>by rw[A3 (A6 e hfr)];exact(s4.trans s47) b u e,by rw[A0,List.append_assoc],by rw[<-List.append_assoc,<-List.append_assoc];exact(hI8.snoc ⟨p6,rfl,e7⟩).put hl8,by rw[<-List.append_assoc];exact hnd9,by rw[<-List.append_assoc];exact hS9,λt ht hw=>?_⟩;rw[<-List.append_assoc];rw[ht1]at ht;rcases List.mem_append.mp ht with z|z
      .exact List.mem_append_left _ (hd4 t z hw)
      .rw[List.mem_singleton.mp z];simp
     .have hin:B5 u' r∈ms++qs:=Classical.byContradiction λz=>by rw[decide_eq_false z]at e;exact e rfl
      refine⟨_,_,_,_,ws,qs,rfl,s4.trans s47,hl8,hI8,hnd4,hS4,λt ht hw=>?_⟩;rw[ht1]at ht;rcases List.mem_append.mp ht with z|z
      .exact hd4 t z hw
      .rw[List.mem_singleton.mp z];exact hin
   .rintro σ H4 ⟨o4,o5,o6,o7,ws,qs,rfl,s4,hl4,hI4,hnd4,hS4,hd4⟩;rw[hI.1,List.take_length]at hd4;refine⟨_,rfl,_,_,rfl,rfl,?_⟩;refine⟨_,_,_,_,zs++ws,ms++qs,rfl,s4,hl4,hI4,hnd4,hS4,List.mem_append_left _ h0,by rw[List.length_append];omega,λi u hi hu t ht hw=>?_⟩;by_cases ei:i=at'
    .subst ei;rw[List.getElem?_append_left (by omega),hu5]at hu;cases hu;exact hd4 t ht hw
    .rw[List.getElem?_append_left (by omega)]at hu;exact List.mem_append_left _ (hcl3 i u (by omega) hu t ht hw)
  .have e':¬(at':Int)<(zs.length:Nat):=λz=>e (decide_eq_true z);refine⟨_,rfl,l2,zs,ms,rfl,.inl (SqL.of hl3),hI3,λr hr=>by rw[((hS r hr).1.nv hT).1];omega,λl zs' srt hl hIz hpm hri _=>?_⟩;have s4:=s3.upd (o:=.lst zs') hl;refine k l zs' srt _ s4 A0 (hIz.same ((Same.refl H3).upd hl)) hri (hpm.symm.nodup hnd) λv=>hpm.mem_iff.trans ⟨λhv=>hS v hv,λ⟨h1,h2⟩=>?_⟩;refine a4M (cs:=cs.map some) (by rw[List.length_map,hcl]) hT h0 (λu hu t ht hw=>?_) h1 (λt ht=>ht) h2;obtain⟨i,hi⟩:=List.mem_iff_getElem?.mp hu;exact hcl3 i u (by have:=(List.getElem?_eq_some_iff.mp hi).1;omega) hi t ht hw
end
end K24
namespace K24
open PySem PySem.Spec PyProof.Rows L2
section
variable {P:Program}{w:World}{K:PySem.W.Frag}{mg:Str->Option Value}{base:Heap}
inductive IspVector(vs:List V)(H:Hp)(Q:VK)(E:XK):Prop
 |mk (a:Addr) (n:Nat) (mi:Int) (wd:Nat) (_:vs=[.ref a,.int wd,.int mi]) (_:1<=wd) (_:wd<=8) (_:0<=mi) (_:mi<=100000) (_:PotAt H a n) (_:n+100<2 ^ 60) (_:∀v xs H',xs.length=wd->(∀x∈xs,0<=x/\x<=mi+3)->0<xs.sum->IT H' v xs->PotAt H' a (n+30)->Off [a] H H'->Q v H'):IspVector  vs H Q E
def a3M:Sp:=λvs H Q E=>IspVector  vs H Q E
theorem sc__law_vector:FnScope ["_law_draw","_law_width","_law_most","_law_great","_law_found","_law_j","_law_number"] ["_law_draw","_law_width","_law_most"] (A2 K0):=⟨rfl,rfl,rfl,by decide +kernel,rfl,by decide +kernel,by decide +kernel⟩
theorem a6X(F:FunAt K mg "_law_vector" K0 ["_law_draw","_law_width","_law_most"])(T:Tx mg)(O__law_take:Ok P w K mg base "_law_take" 1 ["_law_pot_here","_law_many"] a0h):Ok P w K mg base "_law_vector" 2 ["_law_draw","_law_width","_law_most"] a3M:=by
 refine F.okJ sc__law_vector (λvs H Q E h=>?_) (λcdv f A outer s H vs Q E hr h=>?_)
 .obtain⟨a,n,mi,wd,rfl,_⟩:=h;rfl
 .obtain⟨a,n,mi,wd,rfl,hw1,hw,hm0,hm,hP,hn,kk⟩:=h;have hz:(3000:Nat)<=sizeLine:=by rw[sizeLine_eq];decide
  refine⟨_,(A1 (A9 (i:=3) sc__law_vector.nd rfl (Or.inl rfl) (b2M (B0 O__law_take (hr.mono (by omega)) rfl (jaC (jv 0) (jaC A5 jaN))) A5))
 (A1 (A9 (i:=4) sc__law_vector.nd rfl (Or.inl rfl) (K7 jaN))
 (A1 (J4 (M8 rfl T.b_range (jaC (jv 1) jaN)) (A7 (i:=5) sc__law_vector.nd rfl (Or.inl rfl))
 (A1 (A9 (i:=6) sc__law_vector.nd rfl (Or.inl rfl) (L8 K (K7 (jaC A5 (jaC A5 (jaC A5 (jaC A5 (jaC A5 (jaC A5 jaN))))))) (B0 O__law_take (hr.mono (by omega)) rfl (jaC (jv 0) (jaC A5 jaN)))))
 (A1 (E5 (G0 K (jv 3))
 (A4 (A9 (i:=6) sc__law_vector.nd rfl (Or.inl rfl) (B0 O__law_take (hr.mono (by omega)) rfl (jaC (jv 0) (jaC (J0 (jv 2) A5) jaN)))))
 C2)
 (A4 (M6 (M7 K (jv 4) (jaC (jv 6) jaN)))))))
 (A1 (E5 (a4j (a3f K rfl T.b_sum (jaC (jv 4) jaN)) A5)
 (A4 (a0q A5 (a3e (jv 4) (B0 O__law_take (hr.mono (by omega)) rfl (jaC (jv 0) (jaC (jv 1) jaN))))))
 C2)
 (A4 (B2 (C5 K rfl T.b_tuple (jaC (jv 4) jaN)))))))),?_⟩
  refine⟨_,rfl,a,n,8,rfl,hP,by omega,by decide,by decide,λr1 H1 h10 h11 hP1 off1=>?_⟩;refine⟨rfl,?_⟩;generalize decide (V.int r1=V.int 0)=gr;dsimp only[A8];refine⟨Nat.zero_le _,λpf hpf=>?_⟩;have hpf1:=a2Y hP1 hpf;have s2:=(Same.refl H1).upd (o:=.lst []) hpf;have e2:upd H1 pf (.lst []) pf=some (.lst []):=A0;have off2:=off1.trans (s2.off (l:=[a]));have hP2:=hP1.same s2;have hfr:H pf=none:=by
   rcases e:H pf with _|o
   .rfl
   .have:=off1 _ _ hpf1 e;rw[hpf]at this;cases this
  generalize upd H1 pf (.lst [])=H2 at s2 e2 off2 hP2;dsimp only[A8];refine⟨_,rfl,_,rfl,by omega,by omega,?_⟩;rw[Int.toNat_natCast];refine V3 (lo:=0) (n:=wd) (λi σ H'=>Ex2 λo5 o6=>An4 (σ=[some (.ref a),some (.int wd),some (.int mi),some (.bl gr),some (.ref pf),o5,o6]) (PotAt H' a (n+1+2*i)) (Off [a] H H') (∃xs:List Int,H' pf=some (.lst (xs.map V.int))/\xs.length=i/\∀x∈xs,0<=x/\x<=mi+3)) ⟨none,none,rfl,hP2,off2,[],e2,rfl,(λ_ z=>nomatch z)⟩ ?_ ?_
  .rintro i σ H' hi ⟨o5,o6,rfl,hP',off',xs,hx',hxl,hxs⟩;dsimp only[A8];refine⟨by show 6<=sizeLine;omega,λp2 hp2=>?_⟩;have hp2P:=a2Y hP' hp2;have s3:=(Same.refl H').upd (o:=.lst (([0,0,1,1,2,3]:List Int).map V.int)) hp2;have e3:upd H' p2 (.lst (([0,0,1,1,2,3]:List Int).map V.int)) p2=some (.lst (([0,0,1,1,2,3]:List Int).map V.int)):=A0;refine⟨_,rfl,a,_,6,rfl,hP'.same s3,by omega,by decide,by decide,λr3 H3 h30 h31 hP3 off3=>?_⟩;obtain⟨z0,hz1,hz2⟩:=b4i (ns:=[0,0,1,1,2,3]) h30 h31;have hz3:0<=z0/\z0<=3:=by
    simp only[List.mem_cons,List.not_mem_nil,or_false]at hz2;omega
   refine⟨p2,_,_,_,rfl,rfl,SqL.of (off3 _ _ hp2P e3),hz1,?_⟩;have hx3:=off3 _ _ hpf1 (s3 _ _ hx');have off3:=(off'.trans s3.off).trans off3;dsimp only[A8];refine Y9 (λσ H'=>Ex1 λz=>An6 (σ=[some (.ref a),some (.int wd),some (.int mi),some (.bl gr),some (.ref pf),some (.int (0+(i:Int))),some (.int z)]) (0<=z) (z<=mi+3) (PotAt H' a (n+1+2*(i+1))) (Off [a] H H') (H' pf=some (.lst (xs.map V.int)))) ?fin λfin=>?_
   case fin =>
    rintro σ H' ⟨z,rfl,z0,z1,hP',off',hx'⟩;refine⟨_,rfl,.inl ⟨rfl,_,SqL.of hx'⟩,_,rfl,pf,_,_,rfl,rfl,hx',by rw[List.length_map];omega,?_⟩;refine⟨_,_,rfl,a5Z hP' hpf1,a2q off' hfr,xs++[z],by rw[A0,List.map_append];rfl,by simp[hxl],λx hx=>?_⟩;rcases List.mem_append.mp hx with q|q
    .exact hxs x q
    .rw[List.mem_singleton.mp q];exact⟨z0,z1⟩
   refine⟨_,rfl,gr,rfl,Q0 (λe=>?_) (λe=>fin _ _ ⟨z0,rfl,hz3.1,by omega,hP3.mono (by omega),off3,hx3⟩)⟩;refine⟨_,rfl,_,rfl,_,_,rfl,rfl,a,_,_,rfl,hP3,by omega,by omega,by omega,λr4 H4 h40 h41 hP4 off4=>?_⟩;exact fin _ _ ⟨r4,rfl,h40,by omega,hP4.mono (by omega),off3.trans off4,off4 _ _ hpf1 hx3⟩
  .rintro σ H' ⟨o5,o6,rfl,hP',off',xs,hx',hxl,hxs⟩;dsimp only;refine Y9 (λσ H'=>Ex1 λ(ys:List Int)=>An7 (σ=[some (.ref a),some (.int wd),some (.int mi),some (.bl gr),some (.ref pf),o5,o6]) (ys.length=wd) ((∀x∈ys,0<=x/\x<=mi+3)) (0<ys.sum) (PotAt H' a (n+30)) (Off [a] H H') (H' pf=some (.lst (ys.map V.int)))) ?fin λfin=>?_
   case fin =>
    rintro σ H' ⟨ys,rfl,hyl,hys,hyp,hP',off',hx'⟩;refine⟨_,rfl,pf,_,rfl,.inl ⟨SqL.of hx',λq hq=>?_⟩⟩;have s5:=(Same.refl H').upd (o:=.tup (ys.map V.int)) hq;exact kk _ ys _ hyl hys hyp ⟨q,rfl,A0⟩ (hP'.same s5) (off'.trans s5.off)
   have hnn:∀x∈xs,0<=x:=λx hx=>(hxs x hx).1;have hs0:=a3K xs hnn;refine⟨_,rfl,false,pf,xs,rfl,SqL.of hx',rfl,_,rfl,Q0 (λe=>?_) (λe=>?_)⟩
   .refine⟨_,rfl,_,rfl,_,rfl,a,_,_,rfl,hP',by omega,by omega,by omega,λr H3 r0 r1 hP3 off3=>?_⟩;obtain⟨k,rfl⟩:∃k:Nat,r=k:=⟨r.toNat,by omega⟩;have hk:k<xs.length:=by omega
    have hx3:=off3 _ _ hpf1 hx';refine⟨pf,_,_,k,rfl,rfl,hx3,b2S (by rw[List.length_map];exact hk),?_⟩;refine fin _ _ ⟨xs.set k 1,rfl,by simp[hxl],λx hx=>?_,a8m _ (λx hx=>?_) 1 ?_ (by decide),a5Z (hP3.mono (by omega)) hpf1,a2q (off'.trans off3) hfr,by rw[A0,List.map_set]⟩
    .rcases List.mem_or_eq_of_mem_set hx with q|q
     .exact hxs x q
     .omega
    .rcases List.mem_or_eq_of_mem_set hx with q|q
     .exact hnn x q
     .omega
    .exact List.mem_set hk 1
   .refine fin _ _ ⟨xs,rfl,hxl,hxs,?_,hP'.mono (by omega),off',hx'⟩;have:¬xs.sum=0:=λz=>e (by rw[z];rfl);omega
inductive IspTogK(vs:List V)(H:Hp)(Q:VK)(E:XK):Prop
 |mk (p c:Addr) (kb kc:Bool) (us:List V) (rss:LLI) (cs:List Int) (n:Nat) (_:vs=[.ref p,.ref c,.int n]) (_:H p=some (if kb then .tup us else .lst us)) (_:Its H us rss) (_:H c=some (if kc then .tup (cs.map V.int)else .lst (cs.map V.int))) (_:1<=n) (_:n<=1000) (_:(∀r∈rss,r.length=n/\∀x∈r,0<=x/\x<2 ^ 60)) (_:∀v H',Same H H'->IT H' v (TgA (List.replicate n 0) rss cs)->Q v H'):IspTogK  vs H Q E
def a8n:Sp:=λvs H Q E=>IspTogK  vs H Q E
theorem sc__law_together:FnScope ["_law_parts","_law_counts","_law_width","_law_found","_law_part","_law_many","_law_j"] ["_law_parts","_law_counts","_law_width"] (A2 G5):=⟨rfl,rfl,rfl,by decide +kernel,rfl,by decide +kernel,by decide +kernel⟩
theorem b1w(F:FunAt K mg "_law_together" G5 ["_law_parts","_law_counts","_law_width"])(T:Tx mg):Ok P w K mg base "_law_together" 1 ["_law_parts","_law_counts","_law_width"] a8n:=by
 refine F.okJ sc__law_together (λvs H Q E h=>?_) (λcdv f A outer s H vs Q E hr h=>?_)
 .obtain⟨p,c,kb,kc,us,rss,cs,n,rfl,_⟩:=h;rfl
 .obtain⟨p,c,kb,kc,us,rss,cs,n,rfl,hp,hI,hc,hn1,hn,hR,kk⟩:=h;have hz:(3000:Nat)<=sizeLine:=by rw[sizeLine_eq];decide
  refine⟨_,(A1 (A9 (i:=3) sc__law_together.nd rfl (Or.inl rfl) (b5x (K7 (jaC A5 jaN)) (jv 2)))
 (A1 (J4 (T3 K rfl T.b_zip (jaC (jv 0) (jaC (jv 1) jaN))) (J5 K 2 (B1 (A7 (i:=4) sc__law_together.nd rfl (Or.inl rfl)) (B1 (A7 (i:=5) sc__law_together.nd rfl (Or.inl rfl)) E6)))
 (A4 (J4 (M8 rfl T.b_range (jaC (jv 2) jaN)) (A7 (i:=6) sc__law_together.nd rfl (Or.inl rfl))
 (A4 (a0q (J0 (L8 K (jv 3) (jv 6)) (T4 (a0I K (jv 4) (jv 6)) (jv 5))) (a3e (jv 3) (jv 6)))))))
 (A4 (B2 (C5 K rfl T.b_tuple (jaC (jv 3) jaN)))))),?_⟩
  refine⟨by show 1<=sizeLine;omega,λp1 hp1=>⟨_,rfl,p1,_,_,rfl,rfl,A0,by omega,by omega,?_,λpf hpf=>?_⟩⟩
  .show 1*(n:Int).toNat<=_;omega
  rw[a1U,Int.toNat_natCast];have s2:=((Same.refl H).upd (o:=.lst [.int 0]) hp1).upd (o:=.lst ((List.replicate n (0:Int)).map V.int)) hpf;have hfr:H pf=none:=((Same.refl H).upd (o:=.lst [.int 0]) hp1).free hpf;have e2:upd (upd H p1 (.lst [.int 0])) pf (.lst ((List.replicate n (0:Int)).map V.int)) pf=some (.lst ((List.replicate n (0:Int)).map V.int)):=A0;generalize upd (upd H p1 (.lst [.int 0])) pf (.lst ((List.replicate n (0:Int)).map V.int))=H2 at s2 e2;dsimp only[A8];refine⟨_,rfl,_,rfl,kb,kc,p,c,rfl,⟨_,a2O (s2 _ _ hp)⟩,⟨_,a2O (s2 _ _ hc)⟩,?_⟩;refine b1W (xs:=us) (zs:=cs.map V.int) (λi σ H'=>Ex4 λo4 o5 o6 acc=>An5 (σ=[some (.ref p),some (.ref c),some (.int n),some (.ref pf),o4,o5,o6]) (Same H H') (H' pf=some (.lst (acc.map V.int))) (acc.length=n) (TgA acc (rss.drop i) (cs.drop i)=TgA (List.replicate n 0) rss cs))
   ⟨none,none,none,_,rfl,s2,e2,List.length_replicate,rfl⟩ (λi σ H' _ _ h=>by obtain⟨_,_,_,_,_,s',_⟩:=h;exact⟨a2O (s' _ _ hp),a2O (s' _ _ hc)⟩) ?_ ?_
  .rintro i x z σ H' q hx hz' ⟨o4,o5,o6,acc,rfl,s',hpf',hal,hT⟩ hq;obtain⟨cz,hcz,rfl⟩:=S0 hz';obtain⟨r,hr,hri,ra,rfl,hra⟩:=hI.mem hx;have hrr:=hR r hr;rw[V4 hri,V4 hcz]at hT;refine⟨q,[.ref ra,.int cz],rfl,SqT.of A0,rfl,.ref ra,[.int cz],rfl,.int cz,[],rfl,rfl,?_⟩;have s3:=s'.upd (o:=.tup [.ref ra,.int cz]) hq;have hpf3:=B8 (o:=.tup [.ref ra,.int cz]) hpf' hq;generalize upd H' q (.tup [.ref ra,.int cz])=H3 at s3 hpf3;dsimp only[A8];refine⟨_,rfl,_,rfl,by omega,by omega,?_⟩;rw[Int.toNat_natCast];refine V3 (lo:=0) (n:=n) (λj σ H'=>Ex2 λo6 ys=>An5 (σ=[some (.ref p),some (.ref c),some (.int n),some (.ref pf),some (.ref ra),some (.int cz),o6]) (Same H H') (H' pf=some (.lst (ys.map V.int))) (ys.length=n) (∀k,ys.getD k 0=if k<j then(K9 acc (S3 cz r)).getD k 0 else acc.getD k 0)) ⟨o6,acc,rfl,s3,hpf3,hal,λk=>by rw[if_neg (by omega)]⟩ ?_ ?_
   .rintro j σ H' hj ⟨o6,ys,rfl,s4,hpf4,hyl,hys⟩;have hra4:H' ra=some (.tup (r.map V.int)):=s4 _ _ hra;dsimp only[A8];rw[Int.zero_add];have hrj:=hrr.2 _ (L5 (xs:=r) (j:=j) (by omega));refine⟨_,rfl,_,rfl,pf,_,_,_,rfl,rfl,SqL.of hpf4,X2 (by omega),_,rfl,_,rfl,ra,_,_,_,rfl,rfl,SqT.of hra4,X2 (by omega),_,rfl,_,_,rfl,rfl,.inl ⟨by omega,by omega⟩,_,_,rfl,rfl,?_⟩;refine⟨_,rfl,_,rfl,pf,_,_,j,rfl,rfl,hpf4,b2S (by rw[List.length_map];omega),?_⟩;refine⟨_,ys.set j (ys.getD j 0+r.getD j 0*cz),rfl,λb u e=>by rw[A3 (A6 e hfr)];exact s4 b u e,by rw[A0,List.map_set],by simp[hyl],λk=>?_⟩;rw[Q5 _ _ _ _ (by omega)];by_cases ek:k=j
    .subst ek;rw[if_pos rfl,if_pos (by omega),hys k,if_neg (by omega),G3 _ _ (by rw[C3];omega),a0S,Int.mul_comm]
    .rw[if_neg ek,hys k];by_cases hk:k<j
     .rw[if_pos hk,if_pos (by omega)]
     .rw[if_neg hk,if_neg (by omega)]
   .rintro σ H' ⟨o6,ys,rfl,s4,hpf4,hyl,hys⟩;have hvl:(K9 acc (S3 cz r)).length=n:=by rw[E7 _ _ (by rw[C3];omega),C3];exact hrr.1
    have e:ys=K9 acc (S3 cz r):=gdx (by omega) λk hk=>by rw[hys k,if_pos (by omega)]
    subst e;exact⟨_,_,_,_,rfl,s4,hpf4,hvl,hT⟩
  .rintro σ H' ⟨o4,o5,o6,acc,rfl,s',hpf',hal,hT⟩;have e:acc=TgA (List.replicate n 0) rss cs:=by
    rw[<-hT,List.length_map,hI.1];by_cases h:rss.length<=cs.length
    .rw[Nat.min_eq_left h,List.drop_length];cases cs.drop rss.length<;>rfl
    .rw[Nat.min_eq_right (by omega),List.drop_length];cases rss.drop cs.length<;>rfl
   subst e;refine⟨_,rfl,pf,_,rfl,.inl ⟨SqL.of hpf',λq hq=>?_⟩⟩;exact kk _ _ (s'.upd hq) ⟨q,rfl,A0⟩
end
theorem two_at(x y:Int)(c:Bool):∃m:Int,atI [V.int x,.int y] (if c=true then 1 else 0)=some (.int m)/\m=(if c=true then y else x):=by
 cases c
 .exact⟨x,rfl,rfl⟩
 .exact⟨y,rfl,rfl⟩
theorem b0m{n:Nat}:∀(rss:LLI) (cs acc:List Int),(∀r∈rss,r.length=n/\∀x∈r,0<=x)->(∀c∈cs,0<=c)->acc.length=n->(∀x∈acc,0<=x)->∀x∈TgA acc rss cs,0<=x
 |[],cs,acc,_,_,_,h=>by
  intro x hx;have hx:x∈acc:=by cases cs<;>exact hx
  exact h x hx
 |r::rss,[],acc,_,_,_,h=>h
 |r::rss,c::cs,acc,hr,hc,hl,h=>by
  obtain⟨h1,h2⟩:=hr r (List.mem_cons_self ..);have hll:acc.length=(S3 c r).length:=by rw[C3,h1,hl]
  refine b0m rss cs (K9 acc (S3 c r)) (λq hq=>hr q (List.mem_cons_of_mem _ hq)) (λq hq=>hc q (List.mem_cons_of_mem _ hq)) (by rw[E7 _ _ hll,C3,h1]) λy hy=>?_;obtain⟨i,hi,rfl⟩:=List.mem_iff_getElem.mp hy;have e:=G3 acc (S3 c r) hll i;rw[a0S,List.getD_eq_getElem?_getD,List.getElem?_eq_getElem hi]at e;have e:(K9 acc (S3 c r))[i]=acc.getD i 0+c*r.getD i 0:=e;rw[e];have q1:=gd0 h i;have q2:=gd0 h2 i;have:=Int.mul_nonneg (hc c (List.mem_cons_self ..)) q2;omega
structure Gd(n:Nat)(rss:LLI):Prop where
 pt:∀r∈rss,r.length=n/\(∀x∈r,0<=x/\x<=8)/\0<r.sum
 nd:rss.Nodup
 m6:rss.length<=6
 n1:1<=n
 n8:n<=8
theorem Gd.pts{n:Nat}{rss:LLI}(h:Gd n rss):Pts n rss:=λr hr=>let ⟨h1,h2,h3⟩:=h.pt r hr;⟨h1,λx hx=>⟨(h2 x hx).1,by have:=(h2 x hx).2;omega⟩,h3⟩
def mst(rss:LLI):Int:=if rss.length<3 then 60 else 14
theorem Gd.pre{n:Nat}{rss:LLI}{one:List Int}(h:Gd n rss)(hl:one.length=n)(h0:∀x∈one,0<=x)(hs:one.sum<=mst rss):LPre n rss one:=by
 unfold mst at hs;refine⟨h.pts,h.nd,h.m6,by have:=h.n8;omega,hl,h0,?_,λh3=>?_⟩
 .split at hs<;>omega
 .rw[if_neg (by omega)]at hs;exact hs
theorem Gd.nil{n:Nat}(h1:1<=n)(h8:n<=8):Gd n []:=⟨(λ_ z=>nomatch z),List.nodup_nil,Nat.zero_le _,h1,h8⟩
section
variable {P:Program}{w:World}{K:PySem.W.Frag}{mg:Str->Option Value}{base:Heap}
inductive IspSmall(K:PySem.W.Frag)(vs:List V)(H:Hp)(Q:VK)(E:XK):Prop
 |mk (a:Addr) (ns:List Int) (_:vs=[.ref a]) (_:SqL K H a (ns.map V.int)) (_:∀(q pa:Addr) (us:List V) (rss:LLI) (wd:Nat) (H':Hp),H' q=some (.tup [.ref pa,.int wd])->H' pa=some (.tup us)->Its H' us rss->Gd wd rss->Same H H'->Q (.ref q) H'):IspSmall K vs H Q E
def a5N(K:PySem.W.Frag):Sp:=λvs H Q E=>IspSmall K vs H Q E
theorem sc__law_small:FnScope ["_law_script","_law_head","_law_width","_law_many","_law_parts","_law_k","_law_part"] ["_law_script"] (A2 M0):=⟨rfl,rfl,rfl,by decide +kernel,rfl,by decide +kernel,by decide +kernel⟩
theorem a9a(F:FunAt K mg "_law_small" M0 ["_law_script"])(T:Tx mg)(O__law_take:Ok P w K mg base "_law_take" 1 ["_law_pot_here","_law_many"] a0h)(O__law_pot:Ok P w K mg base "_law_pot" 2 ["_law_script","_law_k"] (a8o K))(O__law_vector:Ok P w K mg base "_law_vector" 2 ["_law_draw","_law_width","_law_most"] a3M):Ok P w K mg base "_law_small" 3 ["_law_script"] (a5N K):=by
 refine F.okJ sc__law_small (λvs H Q E h=>?_) (λcdv f A outer s H vs Q E hr h=>?_)
 .obtain⟨a,ns,rfl,_⟩:=h;rfl
 .obtain⟨a,ns,rfl,hS,kk⟩:=h;have hz:(3000:Nat)<=sizeLine:=by rw[sizeLine_eq];decide
  have hu:=hr.u60;refine⟨_,(A1 (A9 (i:=1) sc__law_small.nd rfl (Or.inl rfl) (B0 O__law_pot (hr.mono (by omega)) rfl (jaC (jv 0) (jaC A5 jaN))))
 (A1 (A9 (i:=2) sc__law_small.nd rfl (Or.inl rfl) (L8 K (K7 (jaC (J0 A5 (B0 O__law_take (hr.mono (by omega)) rfl (jaC (jv 1) (jaC A5 jaN)))) (jaC (J0 A5 (B0 O__law_take (hr.mono (by omega)) rfl (jaC (jv 1) (jaC A5 jaN)))) jaN))) (a1L rfl T.b_int (jaC (b2M (B0 O__law_take (hr.mono (by omega)) rfl (jaC (jv 1) (jaC A5 jaN))) A5) jaN))))
 (A1 (A9 (i:=3) sc__law_small.nd rfl (Or.inl rfl) (B0 O__law_take (hr.mono (by omega)) rfl (jaC (jv 1) (jaC A5 jaN))))
 (A1 (A9 (i:=4) sc__law_small.nd rfl (Or.inl rfl) (K7 jaN))
 (A1 (J4 (M8 rfl T.b_range (jaC (jv 3) jaN)) (A7 (i:=5) sc__law_small.nd rfl (Or.inl rfl))
 (A1 (A9 (i:=6) sc__law_small.nd rfl (Or.inl rfl) (B0 O__law_vector (hr.mono (by omega)) rfl (jaC (B0 O__law_pot (hr.mono (by omega)) rfl (jaC (jv 0) (jaC (J0 A5 (jv 5)) jaN))) (jaC (jv 2) (jaC A5 jaN)))))
 (A4 (E5 (a2u K hu (jv 6) (jv 4) (by with_unfolding_all rfl))
 (A4 (M6 (M7 K (jv 4) (jaC (jv 6) jaN))))
 C2))))
 (A4 (B2 (L7 (jaC (C5 K rfl T.b_tuple (jaC (jv 4) jaN)) (jaC (jv 2) jaN)))))))))),?_⟩
  refine⟨_,rfl,a,ns,_,0,rfl,rfl,by omega,hS,λp H1 hp hP1 s1=>?_⟩;dsimp only[A8];refine⟨_,rfl,p,_,3,rfl,hP1,by omega,by decide,by decide,λr2 H2 h20 h21 hP2 off2=>?_⟩;refine⟨_,_,rfl,rfl,_,rfl,p,_,8,rfl,hP2,by omega,by decide,by decide,λr3 H3 h30 h31 hP3 off3=>?_⟩;refine⟨_,_,rfl,rfl,by show 2<=sizeLine;omega,λp4 hp4=>?_⟩;dsimp only;have s4:=(Same.refl H3).upd (o:=.lst [V.int (1+r2),.int (1+r3)]) hp4;have hp41:=a2Y hP3 hp4;refine⟨_,rfl,p,_,8,rfl,hP3.same s4,by omega,by decide,by decide,λr5 H5 h50 h51 hP5 off5=>?_⟩;refine⟨rfl,.inr ⟨_,rfl,?_⟩⟩;obtain⟨wi,hw1,hw2⟩:=two_at (1+r2) (1+r3) (decide (V.int r5=V.int 0));refine⟨p4,_,_,_,rfl,rfl,SqL.of (off5 _ _ hp41 A0),hw1,?_⟩;have off5:Off [p] H1 H5:=((off2.trans off3).trans s4.off).trans off5;have hwb:1<=wi/\wi<=8:=by rw[hw2];split<;>omega
  obtain⟨wd,rfl⟩:∃wd:Nat,wi=wd:=⟨wi.toNat,by omega⟩;have hwd:1<=wd/\wd<=8:=by omega
  clear hw1 hw2 off2 off3 s4 hp4 hp41 hP1 hP2 hP3;dsimp only[A8];refine⟨_,rfl,p,_,7,rfl,hP5,by omega,by decide,by decide,λr6 H6 h60 h61 hP6 off6=>?_⟩;obtain⟨mn,rfl⟩:∃mn:Nat,r6=mn:=⟨r6.toNat,by omega⟩;have hmn:mn<=6:=by omega
  have s10:Same H H6:=W6 s1 hp (off5.trans off6);clear off5 off6 hP5 hP6 s1;dsimp only[A8];refine⟨Nat.zero_le _,λpp hpp=>?_⟩;have hfr:H pp=none:=s10.free hpp;have s11:=s10.upd (o:=.lst []) hpp;have e11:upd H6 pp (.lst []) pp=some (.lst []):=A0;generalize upd H6 pp (.lst [])=H11 at s11 e11;dsimp only[A8];refine⟨_,rfl,_,rfl,by omega,by omega,?_⟩;rw[Int.toNat_natCast];refine V3 (lo:=0) (n:=mn) (λi σ H'=>Ex4 λ(o5 o6:Option V) (us:List V) (rss:LLI)=>An6 (σ=[some (.ref a),some (.ref p),some (.int wd),some (.int mn),some (.ref pp),o5,o6]) (Same H H') (H' pp=some (.lst us)) (Its H' us rss) (rss.length<=i) (Gd wd rss)) ⟨none,none,[],[],rfl,s11,e11,Its.nil,Nat.le_refl _,Gd.nil hwd.1 hwd.2⟩ ?_ ?_
  .rintro i σ H' hi ⟨o5,o6,us,rss,rfl,s',hpp',hI',hrl,hG⟩;dsimp only[A8];refine⟨_,rfl,_,rfl,_,_,rfl,rfl,a,ns,_,2+i,rfl,by omega,by omega,s'.seq hS,λp1 H1 hp1 hP1 s1=>?_⟩;refine⟨_,rfl,?_⟩;refine⟨p1,_,5,wd,rfl,hwd.1,hwd.2,by decide,by decide,hP1,by omega,λv2 xs H2 hxl hxs hxp hv2 _ off2=>?_⟩;have s2:Same H' H2:=W6 s1 hp1 off2;have sH2:=s'.trans s2;obtain⟨va,rfl,hva⟩:=hv2;dsimp only[A8];have hpp2:=s2 _ _ hpp';refine⟨_,rfl,_,rfl,va,pp,xs,false,us,rss,rfl,hva,rfl,SqL.of hpp2,hI'.same s2,_,rfl,Q0 (λe=>?_) (λe=>?_)⟩
   .refine⟨_,rfl,.inl ⟨rfl,_,SqL.of hpp2⟩,_,rfl,pp,_,_,rfl,rfl,hpp2,by rw[hI'.1];omega,?_⟩;refine⟨_,_,us++[.ref va],rss++[xs],rfl,λb u e=>by rw[A3 (A6 e hfr)];exact sH2 b u e,A0,((hI'.same s2).snoc ⟨va,rfl,hva⟩).put hpp2,by rw[List.length_append];simp;omega,⟨λr hr=>?_,U7 hG.nd (a3a _) λr h1 h2=>?_,by rw[List.length_append];simp;omega,hwd.1,hwd.2⟩⟩
    .rcases List.mem_append.mp hr with z|z
     .exact hG.pt r z
     .rw[List.mem_singleton.mp z];exact⟨hxl,λx hx=>hxs x hx,hxp⟩
    .rw[List.mem_singleton.mp h2]at h1;simp[h1]at e
   .exact⟨_,_,us,rss,rfl,sH2,hpp2,hI'.same s2,by omega,hG⟩
  .rintro σ H' ⟨o5,o6,us,rss,rfl,s',hpp',hI',hrl,hG⟩;refine⟨_,rfl,pp,_,rfl,.inl ⟨SqL.of hpp',λpa hpa=>?_⟩⟩;have s2:=(Same.refl H').upd (o:=.tup us) hpa;have e2:upd H' pa (.tup us) pa=some (.tup us):=A0;generalize upd H' pa (.tup us)=H2 at s2 e2;refine⟨_,rfl,by show 2<=sizeLine;omega,λq hq=>?_⟩;have s3:=(Same.refl H2).upd (o:=.tup [.ref pa,.int wd]) hq;exact kk q pa us rss wd _ A0 (s3 _ _ e2) ((hI'.same s2).same s3) hG ((s'.trans s2).trans s3)
def OnQ(a pa pc:Addr)(wd:Nat)(m:Int)(rss:LLI)(H:Hp)(σ:L2.St)(H':Hp):Prop :=
 ∃(v:V) (one:List Int),σ=[some (.ref a),some (.ref pa),some (.int wd),some (.int m),some (.ref pc),some v]/\IT H' v one/\one.length=wd/\(∀x∈one,0<=x)/\one.sum<=mst rss/\Off [a] H H'/\∃j:Nat,j<=100/\PotAt H' a j
inductive IspOneOf(vs:List V)(H:Hp)(Q:VK)(E:XK):Prop
 |mk (a pa:Addr) (wd:Nat) (us:List V) (rss:LLI) (_:vs=[.ref a,.ref pa,.int wd]) (_:PotAt H a 0) (_:H pa=some (.tup us)) (_:Its H us rss) (_:Gd wd rss) (_:∀(v:V) (one:List Int) (H':Hp),IT H' v one->one.length=wd->(∀x∈one,0<=x)->one.sum<=mst rss->Off [a] H H'->(∃j:Nat,j<=100/\PotAt H' a j)->Q v H'):IspOneOf  vs H Q E
def a5Q:Sp:=λvs H Q E=>IspOneOf  vs H Q E
theorem sc__law_one_of:FnScope ["_law_draw","_law_parts","_law_width","_law_most","_law_counts","_law_one"] ["_law_draw","_law_parts","_law_width"] (A2 K1):=⟨rfl,rfl,rfl,by decide +kernel,rfl,by decide +kernel,by decide +kernel⟩
theorem a6Y(F:FunAt K mg "_law_one_of" K1 ["_law_draw","_law_parts","_law_width"])(T:Tx mg)(O__law_take:Ok P w K mg base "_law_take" 1 ["_law_pot_here","_law_many"] a0h)(O__law_together:Ok P w K mg base "_law_together" 1 ["_law_parts","_law_counts","_law_width"] a8n):Ok P w K mg base "_law_one_of" 2 ["_law_draw","_law_parts","_law_width"] a5Q:=by
 refine F.okJ sc__law_one_of (λvs H Q E h=>?_) (λcdv f A outer s H vs Q E hr h=>?_)
 .obtain⟨a,pa,wd,us,rss,rfl,_⟩:=h;rfl
 .obtain⟨a,pa,wd,us,rss,rfl,hP,hpa,hI,hG,kk⟩:=h;have hz:(3000:Nat)<=sizeLine:=by rw[sizeLine_eq];decide
  have h6:=hG.m6;have h1:=hG.n1;have h8:=hG.n8;have hul:=hI.1;refine⟨_,(A1 (A9 (i:=3) sc__law_one_of.nd rfl (Or.inr rfl) (L8 K (K7 (jaC A5 (jaC A5 jaN))) (a1L rfl T.b_int (jaC (b5u (G8 K rfl T.b_len (jaC (jv 1) jaN)) A5) jaN))))
 (A1 (a6h (i:=4) sc__law_one_of.nd rfl (Or.inl rfl) (N:=["_law_part","_law_draw","_law_most"]) (src:=[none,some 0,some 3]) (O8 K (jv 1)) (by show D0 _ _=true;rfl) (by rfl) (by rfl)
 (λ_ _ _ _ _=>(A7 (i:=0) (show(["_law_part","_law_draw","_law_most"]:List Str).Nodup by decide +kernel) rfl (Or.inl rfl))) (λ_ _ _ _ _=>G7) (λ_ _ _ _ _=>(B0 O__law_take (hr.mono (by omega)) rfl (jaC (jv 1) (jaC (L8 K (K7 (jaC A5 (jaC A5 jaN))) (a1L rfl T.b_int (jaC (b2L (jv 2) A5) jaN))) jaN)))))
 (A1 (A9 (i:=5) sc__law_one_of.nd rfl (Or.inl rfl) (B0 O__law_together (hr.mono (by omega)) rfl (jaC (jv 1) (jaC (jv 4) (jaC (jv 2) jaN)))))
 (A1 (E5 (a5d (a4i (a4j (B0 O__law_take (hr.mono (by omega)) rfl (jaC (jv 0) (jaC A5 jaN))) A5) (a1J (a0H (a3f K rfl T.b_sum (jaC (jv 5) jaN)) (jv 3)))))
 (A4 (A9 (i:=5) sc__law_one_of.nd rfl (Or.inl rfl) (C5 K rfl T.b_tuple (jaC (E2 (N:=["_law_j","_law_draw","_law_most","_law_width"]) (src:=[none,some 0,some 3,some 2]) (M8 rfl T.b_range (jaC (jv 2) jaN)) (by show D0 _ _=true;rfl) (by rfl) (by rfl)
 (λ_ _ _ _ _=>(A7 (i:=0) (show(["_law_j","_law_draw","_law_most","_law_width"]:List Str).Nodup by decide +kernel) rfl (Or.inl rfl))) (λ_ _ _ _ _=>G7) (λ_ _ _ _ _=>(B0 O__law_take (hr.mono (by omega)) rfl (jaC (jv 1) (jaC (J0 A5 (a1N (jv 2) (jv 3))) jaN))))) jaN))))
 C2)
 (A4 (B2 (jv 5))))))),?_⟩
  refine⟨by show 2<=sizeLine;omega,λp4 hp4=>?_⟩;have s4:=(Same.refl H).upd (o:=.lst [V.int 14,.int 60]) hp4;have e4:upd H p4 (.lst [V.int 14,.int 60]) p4=some (.lst [V.int 14,.int 60]):=A0;generalize upd H p4 (.lst [V.int 14,.int 60])=H4 at s4 e4;refine⟨_,rfl,pa,us,rfl,.inr (SqT.of (s4 _ _ hpa)),_,_,rfl,rfl,.inr ⟨_,rfl,?_⟩⟩;obtain⟨m,hm1,hm2⟩:=two_at 14 60 (decide ((us.length:Int)<3));refine⟨p4,_,_,_,rfl,rfl,SqL.of e4,hm1,?_⟩;have hm:m=mst rss:=by
   rw[hm2];unfold mst;by_cases e:rss.length<3
   .rw[if_pos (decide_eq_true (by omega)),if_pos e]
   .rw[if_neg (by simp;omega),if_neg e]
  have hmb:m=14∨m=60:=by rw[hm];unfold mst;split<;>simp
  dsimp only[A8];refine⟨_,rfl,pa,rfl,⟨_,SqT.of (s4 _ _ hpa)⟩,?_⟩;refine a0c (xs:=us) (by omega) (λi ys H'=>PotAt H' a i/\Off [a] H H'/\∃cs:List Int,ys=cs.map V.int/\cs.length=i/\∀c∈cs,0<=c) ⟨hP.same s4,s4.off,[],rfl,rfl,λ_ z=>nomatch z⟩ (λi ys H' _ h=>?_) ?_ ?_
  .obtain⟨q1,q2,cs,rfl,hcl,_⟩:=h;exact⟨SqT.of (q2 _ _ (a8Q hP hpa) hpa),by rw[List.length_map,hcl];exact Nat.le_refl _⟩
  .rintro i x ys H' hx ⟨hP',off',cs,rfl,hcl,hcs⟩;have hi:i<us.length:=(List.getElem?_eq_some_iff.mp hx).1;refine⟨Sub.one,_,rfl,by show 2<=sizeLine;omega,λp5 hp5=>?_⟩;have s5:=(Same.refl H').upd (o:=.lst [V.int 3,.int 12]) hp5;have e5:upd H' p5 (.lst [V.int 3,.int 12]) p5=some (.lst [V.int 3,.int 12]):=A0;generalize upd H' p5 (.lst [V.int 3,.int 12])=H5 at s5 e5;refine⟨_,rfl,_,_,rfl,rfl,.inr ⟨_,rfl,?_⟩⟩;obtain⟨b,hb1,hb2⟩:=two_at 3 12 (decide ((14:Int)<m));have hbb:b=3∨b=12:=by rw[hb2];split<;>simp
   refine⟨p5,_,_,_,rfl,rfl,SqL.of e5,hb1,?_⟩;refine⟨a,i,b,rfl,hP'.same s5,by omega,by omega,by omega,λr H6 r0 r1 hP6 off6=>?_⟩;refine⟨hP6,(off'.trans s5.off).trans off6,cs++[r],by simp,by simp[hcl],λc hc=>?_⟩;rcases List.mem_append.mp hc with z|z
   .exact hcs c z
   .rw[List.mem_singleton.mp z];exact r0
  .rintro ys H5 ⟨hP5,off5,cs,rfl,hcl,hcs⟩ pc hpc;have s6:=(Same.refl H5).upd (o:=.lst (cs.map V.int)) hpc;have e6:upd H5 pc (.lst (cs.map V.int)) pc=some (.lst (cs.map V.int)):=A0;generalize upd H5 pc (.lst (cs.map V.int))=H6 at s6 e6;have off6:=off5.trans s6.off;have hP6:=hP5.same s6;dsimp only[A8];have hpa6:=off6 _ _ (a8Q hP hpa) hpa;have hI6:=Its.off hI hP off6;refine⟨_,rfl,_,rfl,_,rfl,pa,pc,true,false,us,rss,cs,wd,rfl,hpa6,hI6,e6,h1,by omega,λr hr=>⟨(hG.pt r hr).1,λx hx=>⟨((hG.pt r hr).2.1 x hx).1,by have:=((hG.pt r hr).2.1 x hx).2;omega⟩⟩,λv7 H7 s7 hv7=>?_⟩;have hP7:=hP6.same s7;have off7:=off6.trans s7.off;have hol:(TgA (List.replicate wd 0) rss cs).length=wd:=a6D rss cs _ (λr hr=>(hG.pt r hr).1) List.length_replicate;have hon:=b0m rss cs (List.replicate wd 0) (λr hr=>⟨(hG.pt r hr).1,λx hx=>((hG.pt r hr).2.1 x hx).1⟩) hcs List.length_replicate (λx hx=>by rw[List.eq_of_mem_replicate hx];exact Int.le_refl _);generalize TgA (List.replicate wd 0) rss cs=one at hv7 hol hon;dsimp only[A8];refine Y9 (λσ H'=>OnQ a pa pc wd m rss H σ H') ?fin λfin=>?_
   case fin =>
    rintro σ H' ⟨v,one,rfl,hv,q1,q2,q3,q4,q5⟩;exact⟨_,rfl,kk v one H' hv q1 q2 q3 q4 q5⟩
   have again:∀H8,PotAt H8 a (us.length+1)->Off [a] H H8->∀D:Ends,(∀σ H',OnQ a pa pc wd m rss H σ H'->D.nx σ H')->∀v0:V,a9L (a1n (Y0 2) a4K) [some (.ref a),some (.ref pa),some (.int wd),some (.int m),some (.ref pc),some v0] H8 (λJ H'=>T7 [none,some 0,some 3,some 2] (A8 0) a1m (a3J a0h [] E0 (a1n (Y0 1) (a1n (tOp (rI0 λi j=>V.int (i+j)) (tC (.int 1)) (tOp (rI b4Q λi j=>V.int (i / j)) (Y0 2) (Y0 3))) a4K))) [some (.ref a),some (.ref pa),some (.int wd),some (.int m),some (.ref pc),some v0] (λv H'=>a4K [some (.ref a),some (.ref pa),some (.int wd),some (.int m),some (.ref pc),some v0] H' λvs H1=>a4R K (v::vs) H1 λu H2=>D.nx [some (.ref a),some (.ref pa),some (.int wd),some (.int m),some (.ref pc),some u] H2) J H'):=by
    intro H8 hP8 off8 D hD v0;refine⟨_,rfl,_,rfl,by omega,by omega,?_⟩;rw[Int.toNat_natCast];have hdiv:0<=m / (wd:Int)/\m / (wd:Int)<=60/\(wd:Int)*(m / (wd:Int))<=m:=by
     refine⟨Int.ediv_nonneg (by omega) (by omega),?_,Int.mul_ediv_self_le (by omega)⟩;have:=Int.ediv_le_self (wd:Int) (show 0<=m by omega);omega
    refine X0 (lo:=0) (n:=wd) (by omega) (λi ys H'=>PotAt H' a (us.length+1+i)/\Off [a] H H'/\∃xs:List Int,ys=xs.map V.int/\xs.length=i/\(∀c∈xs,0<=c)/\xs.sum<=(i:Int)*(m / (wd:Int))) ⟨hP8,off8,[],rfl,rfl,(λ_ z=>nomatch z),by simp⟩ (λi ys H' h=>by
     obtain⟨_,_,xs,rfl,hxl,_⟩:=h;rw[List.length_map,hxl];exact Nat.le_refl _) ?_ ?_
    .rintro i ys H' hi ⟨hP',off',xs,rfl,hxl,hxs,hsum⟩;refine⟨Sub.one,_,rfl,_,rfl,_,rfl,_,_,rfl,rfl,⟨by omega,by omega⟩,_,_,rfl,rfl,?_⟩;refine⟨a,_,_,rfl,hP',by omega,by omega,by omega,λr H9 r0 r1 hP9 off9=>?_⟩;refine⟨hP9,off'.trans off9,xs++[r],by simp,by simp[hxl],λc hc=>?_,?_⟩
     .rcases List.mem_append.mp hc with z|z
      .exact hxs c z
      .rw[List.mem_singleton.mp z];exact r0
     .rw[List.sum_append];show xs.sum+(r+0)<=((i+1:Nat):Int)*_;rw[Int.natCast_add,Int.add_mul];show xs.sum+(r+0)<=_+1*_;omega
    .rintro ys H' ⟨hP',off',xs,rfl,hxl,hxs,hsum⟩ pl hpl;have s9:=(Same.refl H').upd (o:=.lst (xs.map V.int)) hpl;have e9:upd H' pl (.lst (xs.map V.int)) pl=some (.lst (xs.map V.int)):=A0;generalize upd H' pl (.lst (xs.map V.int))=H9 at s9 e9;refine⟨pl,_,rfl,.inl ⟨SqL.of e9,λq hq=>?_⟩⟩;have s10:=s9.upd (o:=.tup (xs.map V.int)) hq;exact hD _ _ ⟨.ref q,xs,rfl,⟨q,rfl,A0⟩,hxl,hxs,by rw[<-hm];omega,off'.trans s10.off,_,by omega,hP'.same s10⟩
   refine⟨_,rfl,a,_,3,rfl,hP7,by omega,by decide,by decide,λr8 H8 _ _ hP8 off8=>?_⟩;refine⟨rfl,_,rfl,?_⟩;have hv8:=IT.off hv7 hP7 off8;obtain⟨vb,rfl,hvb⟩:=id hv8;cases er:decide (V.int r8=V.int 0)with
   |true=>exact again H8 hP8 (off7.trans off8) _ fin _
   |false =>
    refine⟨_,rfl,true,vb,one,rfl,SqT.of hvb,_,rfl,_,_,rfl,rfl,_,rfl,Q0 (λe=>again H8 hP8 (off7.trans off8) _ fin _) (λe=>fin _ _ ⟨_,one,rfl,hv8,hol,hon,?_,off7.trans off8,_,by omega,hP8⟩)⟩;rw[<-hm];have:¬m<one.sum:=λz=>e (decide_eq_true z);omega
end
theorem a4f:∀{a b:List Int}{x y:Int},a.length=b.length->HT.lexLt a b=true->HT.lexLt (a++[x]) (b++[y])=true
 |[],[],_,_,_,h=>nomatch h
 |[],_::_,_,_,h,_=>nomatch h
 |_::_,[],_,_,h,_=>nomatch h
 |u::a,v::b,x,y,hl,h=>by
  rw[HT.lexLt_cons]at h;show HT.lexLt (u::(a++[x])) (v::(b++[y]))=true;rw[HT.lexLt_cons];by_cases e:u=v
  .rw[if_pos e]at h⊢;exact a4f (by simpa using hl) h
  .rw[if_neg e]at h⊢;exact h
theorem a4e{x y:Int}(h:x<y):∀(a:List Int),HT.lexLt (a++[x]) (a++[y])=true
 |[]=>by
  show HT.lexLt [x] [y]=true;rw[HT.lexLt_cons,if_neg (by omega)];exact decide_eq_true h
 |u::a=>by
  show HT.lexLt (u::(a++[x])) (u::(a++[y]))=true;rw[HT.lexLt_cons,if_pos rfl];exact a4e h a
theorem pw_take{α:Type}{R:α->α->Prop}{L:List α}{t:Nat}{x:α}(h:L.Pairwise R)(hx:L[t]?=some x):∀y∈L.take t,R y x:=λy hy=>by
 have e:L=L.take t++L.drop t:=(List.take_append_drop t L).symm;rw[e,List.pairwise_append]at h;exact h.2.2 y hy x (by rw[V4 hx];exact List.mem_cons_self)
abbrev Pr:=List Int×List Int
def ltP(a b:Pr):Prop:=HT.lexLt a.1 b.1=true
theorem a2r{L:List Pr}(h:L.Pairwise ltP):(L.map (·.1)).Nodup:=by
 unfold List.Nodup;rw[List.pairwise_map];refine h.imp λ{a b} hab e=>?_;unfold ltP at hab;rw[e,J9]at hab;cases hab
structure Al1(n:Nat)(rss:LLI)(one:List Int)(i:Nat)(x:Pr):Prop where
 cl:x.1.length=i
 cn:∀c∈x.1,0<=c
 ll:x.2.length=n
 ln:∀c∈x.2,0<=c
 eq:K9 x.2 (cv n (rss.take i) x.1)=one
structure AOk(n:Nat)(rss:LLI)(one:List Int)(i:Nat)(L:List Pr):Prop where
 snd:∀x∈L,Al1 n rss one i x
 cpl:∀cs:List Int,cs.length=i->(∀c∈cs,0<=c)->(∀j,j<n->ws (λr=>r.getD j 0) (rss.take i) cs<=one.getD j 0)->∃l,(cs,l)∈L
 srt:L.Pairwise ltP
def Bx(n:Nat)(r:List Int)(L:List Pr)(t:Nat)(x:Pr):Prop:=∃(cs l:List Int) (m:Nat),(cs,l)∈L.take t/\(∀j,j<n->(m:Int)*r.getD j 0<=l.getD j 0)/\x=(cs++[(m:Int)],less l r m)
theorem a2J{f:List Int->Int}:∀{rss:LLI}{cs:List Int}{r:List Int}{c:Int},cs.length=rss.length->ws f (rss++[r]) (cs++[c])=ws f rss cs+c*f r
 |[],[],r,c,_=>by show c*f r+0=0+c*f r;omega
 |[],_::_,_,_,h=>nomatch h
 |_::_,[],_,_,h=>nomatch h
 |q::rss,d::cs,r,c,h=>by
  show d*f q+ws f (rss++[r]) (cs++[c])=d*f q+ws f rss cs+c*f r;rw[a2J (by simpa using h)];omega
section
variable {n:Nat}{rss:LLI}{one:List Int}{i:Nat}{L:List Pr}
theorem K3(hp:Pts n rss)(i:Nat):Pts n (rss.take i):=λr hr=>hp r (List.mem_of_mem_take hr)
theorem Al1.at(hp:Pts n rss){x:Pr}(h:Al1 n rss one i x)(j:Nat):x.2.getD j 0+ws (λr=>r.getD j 0) (rss.take i) x.1=one.getD j 0:=by
 have:=G3 x.2 (cv n (rss.take i) x.1) (by rw[h.ll,N5 (K3 hp i).len]) j;rw[h.eq,a0J (K3 hp i).len]at this;exact this.symm
theorem Al1.sum(hp:Pts n rss){x:Pr}(h:Al1 n rss one i x)(hi:i<=rss.length):x.1.sum<=one.sum:=by
 have e:=Y6 x.2 (cv n (rss.take i) x.1) (by rw[h.ll,N5 (K3 hp i).len]);rw[h.eq,a5p (K3 hp i).len]at e;have h1:=a4y (f:=List.sum) (K3 hp i).sz h.cn (by rw[h.cl,List.length_take];omega);have h2:=a3K _ h.ln;omega
theorem Al1.next(hp:Pts n rss){r cs l:List Int}{m:Nat}(hr:rss[i]?=some r)(h:Al1 n rss one i (cs,l))(hol:one.length=n)(hm:∀j,j<n->(m:Int)*r.getD j 0<=l.getD j 0):Al1 n rss one (i+1) (cs++[(m:Int)],less l r m):=by
 have hP:=hp r (List.mem_of_getElem? hr);have hll:l.length=r.length:=by rw[h.ll,hP.1]
 have hi:i<rss.length:=(List.getElem?_eq_some_iff.mp hr).1;refine⟨by rw[List.length_append,h.cl];rfl,λc hc=>?_,by rw[C0 hll,hP.1],a3b h.ll hP.1 hm,?_⟩
 .rcases List.mem_append.mp hc with z|z
  .exact h.cn c z
  .rw[List.mem_singleton.mp z];omega
 .have hcl:(less l r (m:Int)).length=(cv n (rss.take (i+1)) (cs++[(m:Int)])).length:=by rw[N5 (K3 hp (i+1)).len,C0 hll,hP.1]
  refine gdx (by rw[E7 _ _ hcl,N5 (K3 hp (i+1)).len,hol]) λj _=>?_;have h1:=h.at hp j;rw[G3 _ _ hcl,a0J (K3 hp (i+1)).len,G6 hll,List.take_add_one,hr];rw[show(some r).toList=[r] from rfl,a2J (by rw[h.cl,List.length_take];omega)];show l.getD j 0-(m:Int)*r.getD j 0+(ws (λr=>r.getD j 0) (rss.take i) cs+(m:Int)*r.getD j 0)=one.getD j 0;have h1:l.getD j 0+ws (λr=>r.getD j 0) (rss.take i) cs=one.getD j 0:=h1;omega
theorem AOk.next(hp:Pts n rss){r:List Int}{M:List Pr}(hr:rss[i]?=some r)(h:AOk n rss one i L)(hol:one.length=n)(hM:∀x,x∈M↔Bx n r L L.length x)(hs:M.Pairwise ltP):AOk n rss one (i+1) M:=by
 have hP:=hp r (List.mem_of_getElem? hr);have hi:i<rss.length:=(List.getElem?_eq_some_iff.mp hr).1;refine⟨λx hx=>?_,λcs hcl hcn hle=>?_,hs⟩
 .obtain⟨cs,l,m,h1,h2,rfl⟩:=(hM x).mp hx;rw[List.take_length]at h1;exact(h.snd _ h1).next hp hr hol h2
 .obtain⟨ds,c,rfl⟩:∃ds c,cs=ds++[c]:=by
   have hne:cs≠[]:=λz=>by rw[z]at hcl;cases hcl
   exact⟨cs.dropLast,cs.getLast hne,(List.dropLast_concat_getLast hne).symm⟩
  have hdl:ds.length=i:=by rw[List.length_append]at hcl;simpa using hcl
  have hc:=hcn c (List.mem_append_right _ List.mem_cons_self);obtain⟨m,rfl⟩:∃m:Nat,c=m:=⟨c.toNat,by omega⟩;have e:∀j,ws (λr=>r.getD j 0) (rss.take (i+1)) (ds++[(m:Int)])=ws (λr=>r.getD j 0) (rss.take i) ds+(m:Int)*r.getD j 0:=λj=>by
   rw[List.take_add_one,hr];exact a2J (by rw[hdl,List.length_take];omega)
  have hr0:∀j,0<=(m:Int)*r.getD j 0:=λj=>Int.mul_nonneg (by omega) (gd0 (λx hx=>(hP.2.1 x hx).1) j);obtain⟨l,hl⟩:=h.cpl ds hdl (λc hc=>hcn c (List.mem_append_left _ hc)) λj hj=>by
   have:=hle j hj;have:=hr0 j;rw[e]at *;omega
  refine⟨less l r m,(hM _).mpr ⟨ds,l,m,by rw[List.take_length];exact hl,λj hj=>?_,rfl⟩⟩;have h1:=(h.snd _ hl).at hp j;have h2:=hle j hj;rw[e]at h2;have h1:l.getD j 0+ws (λr=>r.getD j 0) (rss.take i) ds=one.getD j 0:=h1;omega
theorem AOk.first(hol:one.length=n)(hon:∀x∈one,0<=x):AOk n rss one 0 [([],one)]:=by
 refine⟨λx hx=>?_,λcs hcl _ _=>?_,by simp⟩
 .rw[List.mem_singleton.mp hx];refine⟨rfl,(λc z=>nomatch z),hol,hon,?_⟩;show K9 one (List.replicate n 0)=one;refine gdx (by rw[E7 _ _ (by rw[hol,List.length_replicate]),List.length_replicate,hol]) λj _=>?_;rw[G3 _ _ (by rw[hol,List.length_replicate]),K5];omega
 .rw[List.length_eq_zero_iff.mp hcl];exact⟨one,List.mem_cons_self⟩
theorem b0l(hL:LPre n rss one){M:List Pr}{i:Nat}(hi:i<=rss.length)(hM:∀x∈M,Al1 n rss one i x)(hs:M.Pairwise ltP):M.length<=100000:=by
 have h6:=hL.m6;have key:∀s:Nat,one.sum<=s->M.length<=cn i s:=λs hs'=>by
  have:=a0D (M.map (·.1)) (Ev i s) (a2r hs) λx hx=>by
   obtain⟨y,hy,rfl⟩:=List.mem_map.mp hx;have h1:=hM y hy;exact a3z h1.cl h1.cn (by have:=h1.sum hL.pt hi;omega)
  rw[List.length_map,a3A]at this;exact this
 by_cases h3:3<=rss.length
 .refine Nat.le_trans (key 14 (by have:=hL.s1 h3;omega)) ?_;have:i=0∨i=1∨i=2∨i=3∨i=4∨i=5∨i=6:=by omega
  rcases this with e|e|e|e|e|e|e<;>rw[e]<;>decide +kernel
 .refine Nat.le_trans (key 60 (by have:=hL.s6;omega)) ?_;have:i=0∨i=1∨i=2:=by omega
  rcases this with e|e|e<;>rw[e]<;>decide +kernel
def a3o(L:List Pr):LLI:=(L.filter λx=>decide (x.2.sum=0)).map (·.1)
theorem b1Y(h:L.Pairwise ltP):J7 (a3o L)/\(a3o L).Nodup:=by
 have h1:(L.filter λx=>decide (x.2.sum=0)).Pairwise ltP:=h.sublist List.filter_sublist;refine⟨?_,a2r h1⟩;unfold J7 a3o;rw[List.pairwise_map];refine h1.imp λ{a b} hab=>?_;unfold ltP at hab;cases e:HT.lexLt b.1 a.1 with
 |false=>rfl
 |true=>have:=U9 _ _ _ hab e;rw[J9]at this;cases this
theorem b1Z(hL:LPre n rss one)(h:AOk n rss one rss.length L)(d:List Int):d∈a3o L↔Lay n rss one d:=by
 have off:∀d:List Int,d.length=rss.length->∀k:Nat,(k:Int)∉S4 rss.length->d.getD k 0=0:=λd hd k hk=>by
  have:¬k<rss.length:=λz=>hk (upto_mem.mpr ⟨by omega,by omega⟩);rw[List.getD_eq_getElem?_getD,List.getElem?_eq_none (by omega)];rfl
 unfold a3o;rw[List.mem_map];constructor
 .rintro⟨x,hx,rfl⟩;obtain⟨hx1,hx2⟩:=List.mem_filter.mp hx;have hx2:x.2.sum=0:=of_decide_eq_true hx2;have h1:=h.snd x hx1;refine⟨h1.cl,h1.cn,off _ h1.cl,gdx (by rw[N5 hL.pt.len,hL.rl]) λj hj=>?_⟩;have h2:=h1.at hL.pt j;rw[List.take_length]at h2;rw[a0J hL.pt.len];have h3:x.2.getD j 0=0:=by
   by_cases hjl:j<x.2.length
   .have h4:=h1.ln _ (L5 hjl);refine Classical.byContradiction λz=>?_;have:=a8m x.2 h1.ln _ (L5 hjl) (by omega);omega
   .rw[List.getD_eq_getElem?_getD,List.getElem?_eq_none (by omega)];rfl
  omega
 .intro hd;obtain⟨l,hl⟩:=h.cpl d hd.len hd.nn λj _=>by rw[List.take_length,hd.at hL.pt j];exact Int.le_refl _
  refine⟨(d,l),List.mem_filter.mpr ⟨hl,decide_eq_true ?_⟩,rfl⟩;have h1:=h.snd _ hl;have hz:∀x∈l,x=0:=λx hx=>by
   obtain⟨j,hj,rfl⟩:=List.mem_iff_getElem.mp hx;have h2:=h1.at hL.pt j;rw[List.take_length,hd.at hL.pt j]at h2;have h2:l.getD j 0+one.getD j 0=one.getD j 0:=h2;rw[List.getD_eq_getElem?_getD,List.getElem?_eq_getElem hj]at h2;have h2:l[j]+one.getD j 0=one.getD j 0:=h2;omega
  show l.sum=0;rw[List.eq_replicate_iff.mpr ⟨rfl,hz⟩];exact Z6 _
end
def PrL(H:Hp)(vs:List V)(L:List Pr):Prop:=vs.length=L.length/\∀(i:Nat) (v:V),vs[i]?=some v->∃(x:Pr) (b:Addr) (p q:V),L[i]?=some x/\v=.ref b/\H b=some (.tup [p,q])/\IT H p x.1/\IT H q x.2
theorem PrL.same{H H':Hp}{vs:List V}{L:List Pr}(h:PrL H vs L)(s:Same H H'):PrL H' vs L:=⟨h.1,λi v e=>let ⟨x,b,p,q,e1,e2,e3,e4,e5⟩:=h.2 i v e;⟨x,b,p,q,e1,e2,s _ _ e3,e4.same s,e5.same s⟩⟩
theorem PrL.put{H:Hp}{vs:List V}{L:List Pr}{c:Addr}{xs:List V}{o:HO}(h:PrL H vs L)(hc:H c=some (.lst xs)):PrL (upd H c o) vs L:=⟨h.1,λi v e=>let ⟨x,b,p,q,e1,e2,e3,e4,e5⟩:=h.2 i v e;⟨x,b,p,q,e1,e2,by rw[A3 (L6 e3 hc (by intro z;cases z))];exact e3,IT.put e4 hc,IT.put e5 hc⟩⟩
theorem PrL.nil{H:Hp}:PrL H [] []:=⟨rfl,λi v e=>by simp at e⟩
theorem PrL.snoc{H:Hp}{vs:List V}{L:List Pr}{x:Pr}{b:Addr}{p q:V}(h:PrL H vs L)(hb:H b=some (.tup [p,q]))(hp:IT H p x.1)(hq:IT H q x.2):PrL H (vs++[.ref b]) (L++[x]):=by
 refine⟨by simp[h.1],λi v e=>?_⟩;by_cases hi:i<vs.length
 .rw[List.getElem?_append_left hi]at e;rw[List.getElem?_append_left (by rw[<-h.1];exact hi)];exact h.2 i v e
 .have hi':vs.length<=i:=by omega
  rw[List.getElem?_append_right hi']at e;have h0:i-vs.length=0:=by have:=(List.getElem?_eq_some_iff.mp e).1;simpa using this
  rw[h0]at e;cases e;rw[List.getElem?_append_right (by rw[<-h.1];exact hi'),<-h.1,h0];exact⟨x,b,p,q,rfl,rfl,hb,hp,hq⟩
section
variable {P:Program}{w:World}{K:PySem.W.Frag}{mg:Str->Option Value}{base:Heap}
inductive IspAll(vs:List V)(H:Hp)(Q:VK)(E:XK):Prop
 |mk (a:Addr) (y:V) (us:List V) (rss:LLI) (one:List Int) (n:Nat) (_:vs=[.ref a,y]) (_:H a=some (.tup us)) (_:Its H us rss) (_:IT H y one) (_:LPre n rss one) (_:1<=n) (_:∀(l:Addr) (zs:List V) (tss:LLI) (H':Hp),Same H H'->H' l=some (.lst zs)->Its H' zs tss->J7 tss->tss.Nodup->(∀d,d∈tss↔Lay n rss one d)->Q (.ref l) H'):IspAll  vs H Q E
def b2u:Sp:=λvs H Q E=>IspAll  vs H Q E
theorem sc__law_all:FnScope ["_law_parts","_law_one","_law_some","_law_part","_law_more","_law_counts","_law_left","_law_many"] ["_law_parts","_law_one"] (A2 Q8):=⟨rfl,rfl,rfl,by decide +kernel,rfl,by decide +kernel,by decide +kernel⟩
theorem b4g(F:FunAt K mg "_law_all" Q8 ["_law_parts","_law_one"])(T:Tx mg):Ok P w K mg base "_law_all" 1 ["_law_parts","_law_one"] b2u:=by
 refine F.okJ sc__law_all (λvs H Q E h=>?_) (λcdv f A outer s H vs Q E hr h=>?_)
 .obtain⟨a,y,us,rss,one,n,rfl,_⟩:=h;rfl
 .obtain⟨a,y,us,rss,one,n,rfl,ha,hI,hy,hL,hn1,kk⟩:=h;have hz:(3000000:Nat)<=sizeLine:=by rw[sizeLine_eq];decide
  have hn:=hL.n1;have hol:=hL.rl;refine⟨_,(A1 (A9 (i:=2) sc__law_all.nd rfl (Or.inl rfl) (K7 (jaC (L7 (jaC (L7 jaN) (jaC (jv 1) jaN))) jaN)))
 (A1 (J4 (O8 K (jv 0)) (A7 (i:=3) sc__law_all.nd rfl (Or.inl rfl))
 (A1 (A9 (i:=4) sc__law_all.nd rfl (Or.inl rfl) (K7 jaN))
 (A1 (J4 (R7 K (jv 2)) (J5 K 2 (B1 (A7 (i:=5) sc__law_all.nd rfl (Or.inl rfl)) (B1 (A7 (i:=6) sc__law_all.nd rfl (Or.inl rfl)) E6)))
 (A1 (A9 (i:=7) sc__law_all.nd rfl (Or.inl rfl) A5)
 (A4 (a0a (b2O (b1O K rfl T.b_min (jaC (jv 6) jaN)) A5)
 (A1 (M6 (M7 K (jv 4) (jaC (L7 (jaC (a3h (jv 5) (L7 (jaC (jv 7) jaN))) (jaC (jv 6) jaN))) jaN)))
 (A1 (A9 (i:=6) sc__law_all.nd rfl (Or.inl rfl) (C5 K rfl T.b_tuple (jaC (E2 (N:=["_law_have","_law_less"]) (src:=[none,none]) (T3 K rfl T.b_zip (jaC (jv 6) (jaC (jv 3) jaN))) (by show D0 _ _=true;rfl) (by rfl) (by rfl)
 (λ_ _ _ _ _=>(J5 K 2 (B1 (A7 (i:=0) (show(["_law_have","_law_less"]:List Str).Nodup by decide +kernel) rfl (Or.inl rfl)) (B1 (A7 (i:=1) (show(["_law_have","_law_less"]:List Str).Nodup by decide +kernel) rfl (Or.inl rfl)) E6)))) (λ_ _ _ _ _=>G7) (λ_ _ _ _ _=>(a9E (jv 0) (jv 1)))) jaN)))
 (A4 (A9 (i:=7) sc__law_all.nd rfl (Or.inl rfl) (J0 (jv 7) A5)))))))))
 (A4 (A9 (i:=2) sc__law_all.nd rfl (Or.inl rfl) (jv 4))))))
 (A4 (B2 (E2 (N:=["_law_counts","_law_left"]) (src:=[none,none]) (R7 K (jv 2)) (by show D0 _ _=true;rfl) (by rfl) (by rfl)
 (λ_ _ _ _ _=>(J5 K 2 (B1 (A7 (i:=0) (show(["_law_counts","_law_left"]:List Str).Nodup by decide +kernel) rfl (Or.inl rfl)) (B1 (A7 (i:=1) (show(["_law_counts","_law_left"]:List Str).Nodup by decide +kernel) rfl (Or.inl rfl)) E6)))) (λ_ _ _ _ _=>(a1K (a4j (a3f K rfl T.b_sum (jaC (jv 1) jaN)) A5))) (λ_ _ _ _ _=>(jv 0))))))),?_⟩
  refine⟨Nat.zero_le _,λp0 hp0=>⟨_,rfl,by show 2<=sizeLine;omega,λp1 hp1=>⟨by show 1<=sizeLine;omega,λps hps=>?_⟩⟩⟩;have s1:=(((Same.refl H).upd (o:=.tup []) hp0).upd (o:=.tup [.ref p0,y]) hp1).upd (o:=.lst [.ref p1]) hps;have e0:upd (upd (upd H p0 (.tup [])) p1 (.tup [.ref p0,y])) ps (.lst [.ref p1]) p0=some (.tup []):=B8 (B8 A0 hp1) hps;have e1:upd (upd (upd H p0 (.tup [])) p1 (.tup [.ref p0,y])) ps (.lst [.ref p1]) p1=some (.tup [.ref p0,y]):=B8 A0 hps;have e2:upd (upd (upd H p0 (.tup [])) p1 (.tup [.ref p0,y])) ps (.lst [.ref p1]) ps=some (.lst [.ref p1]):=A0;generalize upd (upd (upd H p0 (.tup [])) p1 (.tup [.ref p0,y])) ps (.lst [.ref p1])=H1 at s1 e0 e1 e2;dsimp only[A8];refine⟨_,rfl,a,rfl,⟨_,SqT.of (s1 _ _ ha)⟩,?_⟩;refine a0Z (K:=K) (a:=a) (xs:=us) (λi σ H'=>Ex8 λ(pl:Addr) (zs:List V) (L:List Pr) (o3 o4 o5 o6 o7:Option V)=>An5 (σ=[some (.ref a),some y,some (.ref pl),o3,o4,o5,o6,o7]) (Same H H') (H' pl=some (.lst zs)) (PrL H' zs L) (AOk n rss one i L))
   ⟨ps,[.ref p1],[([],one)],none,none,none,none,none,rfl,s1,e2,PrL.nil.snoc (x:=([],one)) e1 ⟨p0,rfl,e0⟩ (hy.same s1),AOk.first hol hL.r0⟩ (λi σ H' _ h=>by
    obtain⟨_,_,_,_,_,_,_,_,_,s',_⟩:=h;exact SqT.of (s' _ _ ha)) ?_ ?_
  .rintro i x σ H2 hx ⟨pl,zs,L,o3,o4,o5,o6,o7,rfl,s2,hpl,hzs,hA⟩;have hi:i<us.length:=(List.getElem?_eq_some_iff.mp hx).1;obtain⟨r,hr1,hri,ra,rfl,hra⟩:=hI.mem hx;have hP:=hL.pt r hr1;have hil:i<rss.length:=by rw[<-hI.1];exact hi
   dsimp only[A8];refine⟨Nat.zero_le _,λpm hpm=>?_⟩;have hfrm:=s2.free hpm;have s3:=s2.upd (o:=.lst []) hpm;have s23:=(Same.refl H2).upd (o:=.lst []) hpm;have e3:upd H2 pm (.lst []) pm=some (.lst []):=A0;generalize upd H2 pm (.lst [])=H3 at s3 e3 s23;have npl:pl≠pm:=A6 hpl hpm;dsimp only[A8];refine⟨_,rfl,pl,rfl,⟨_,SqL.of (s23 _ _ hpl)⟩,?_⟩;refine a1S (K:=K) (a:=pl) (xs:=zs) (λt σ H'=>Ex5 λ(ws':List V) (M:List Pr) (o5 o6 o7:Option V)=>An8 (σ=[some (.ref a),some y,some (.ref pl),some (.ref ra),some (.ref pm),o5,o6,o7]) (Same H H') (H' pl=some (.lst zs)) (PrL H' zs L) (H' pm=some (.lst ws')) (PrL H' ws' M) ((∀x,x∈M↔Bx n r L t x)) (M.Pairwise ltP))
    ⟨[],[],o5,o6,o7,rfl,s3,s23 _ _ hpl,hzs.same s23,e3,PrL.nil,λx=>⟨(λz=>nomatch z),λ⟨_,_,_,z,_⟩=>by rw[List.take_zero]at z;cases z⟩,List.Pairwise.nil⟩ (λt σ H' _ h=>by
     obtain⟨_,_,_,_,_,_,_,hpl',_⟩:=h;exact SqL.of hpl') ?_ ?_
   .rintro t v σ H4 hv ⟨ws',M,o5,o6,o7,rfl,s4,hpl4,hzs4,hpm4,hws4,hM,hMs⟩;obtain⟨⟨cs,l⟩,b,p,q,ex,rfl,hb,hp,hq⟩:=hzs4.2 t v hv;have hxl:(cs,l)∈L:=List.mem_of_getElem? ex;have h1:=hA.snd _ hxl;obtain⟨pc,rfl,hpc⟩:=hp;refine⟨b,[.ref pc,q],rfl,SqT.of hb,rfl,.ref pc,[q],rfl,q,[],rfl,rfl,?_⟩;dsimp only[A8];refine⟨λmm σ H'=>∃(m:Nat) (ws':List V) (M:List Pr) (v:V),mm=one.sum.toNat+1-m/\σ=[some (.ref a),some y,some (.ref pl),some (.ref ra),some (.ref pm),some (.ref pc),some v,some (.int m)]/\Same H H'/\H' pl=some (.lst zs)/\PrL H' zs L/\H' pm=some (.lst ws')/\PrL H' ws' M/\IT H' v (less l r m)/\IT H' (.ref pc) cs/\(∀x,x∈M↔(Bx n r L t x∨∃m',m'<m/\x=(cs++[((m':Nat):Int)],less l r m')))/\M.Pairwise ltP/\(∀m',m'<m->∀j,j<n->(m':Int)*r.getD j 0<=l.getD j 0)/\(∀x∈M,Al1 n rss one (i+1) x),⟨_,0,ws',M,q,rfl,rfl,s4,hpl4,hzs4,hpm4,hws4,?_,⟨pc,rfl,hpc⟩,λx=>?_,hMs,λm' h=>absurd h (Nat.not_lt_zero _),λx hx=>?_⟩,?_⟩
    .show IT H4 q (less l r ((0:Nat):Int));rw[show((0:Nat):Int)=0 from rfl,a9p (by rw[h1.ll,hP.1])];exact hq
    .rw[hM];exact⟨.inl,λz=>z.elim id λ⟨_,z,_⟩=>absurd z (Nat.not_lt_zero _)⟩
    .obtain⟨cs',l',m',z1,z2,rfl⟩:=(hM x).mp hx;exact(hA.snd _ (List.mem_of_mem_take z1)).next hL.pt hri hol z2
    .rintro mm σ H5 ⟨m,ws5,M5,v,rfl,rfl,s5,hpl5,hzs5,hpm5,hws5,hv5,hpc5,hM5,hMs5,hm5,hA5⟩;obtain⟨va,rfl,hva⟩:=id hv5;have hll:l.length=r.length:=by rw[h1.ll,hP.1]
     have hlen:(less l r (m:Int)).length=n:=by rw[C0 hll,hP.1]
     refine⟨_,rfl,va,_,rfl,SqT.of hva,by omega,λMn hMn hall=>?_⟩;refine⟨_,_,rfl,rfl,_,rfl,Q0 (λe=>?_) (λe=>?_)⟩
     .have e':0<=Mn:=of_decide_eq_true e;have hle:∀j,j<n->(m:Int)*r.getD j 0<=l.getD j 0:=λj hj=>by
       have:=hall _ (L5 (xs:=less l r (m:Int)) (j:=j) (by omega));rw[G6 hll]at this;omega
      have hnx:=h1.next hL.pt hri hol hle;have hms:(m:Int)<=one.sum:=by
       have h2:=hnx.sum hL.pt (by omega);have h3:=a3K cs h1.cn;rw[List.sum_append]at h2;have h2:cs.sum+((m:Int)+0)<=one.sum:=h2;omega
      have hnew:∀x∈M5,ltP x (cs++[(m:Int)],less l r m):=λx hx=>by
       rcases(hM5 x).mp hx with⟨cs',l',m',z1,z2,rfl⟩|⟨m',z1,rfl⟩
       .have h2:=pw_take hA.srt ex _ z1;exact a4f (by rw[(hA.snd _ (List.mem_of_mem_take z1)).cl,h1.cl]) h2
       .exact a4e (by omega) cs
      have hM6:∀x∈M5++[(cs++[(m:Int)],less l r m)],Al1 n rss one (i+1) x:=λx hx=>by
       rcases List.mem_append.mp hx with z|z
       .exact hA5 x z
       .rw[List.mem_singleton.mp z];exact hnx
      have hMs6:(M5++[(cs++[(m:Int)],less l r m)]).Pairwise ltP:=by
       rw[List.pairwise_append];exact⟨hMs5,by simp,λx hx y hy=>by rw[List.mem_singleton.mp hy];exact hnew x hx⟩
      have hfew:=b0l hL (by omega) hM6 hMs6;rw[List.length_append,List.length_singleton]at hfew;refine⟨λσ H'=>∃(ws':List V) (v:V),σ=[some (.ref a),some y,some (.ref pl),some (.ref ra),some (.ref pm),some (.ref pc),some v,some (.int ((m:Int)+1))]/\Same H H'/\H' pl=some (.lst zs)/\PrL H' zs L/\H' pm=some (.lst ws')/\PrL H' ws' (M5++[(cs++[(m:Int)],less l r m)])/\IT H' v (less l r ((m+1:Nat):Int))/\IT H' (.ref pc) cs,λσ' H' h=>?_,?_⟩
      .obtain⟨ws',v,q1,q2,q3,q4,q5,q6,q7,q8⟩:=h;refine⟨_,by omega,m+1,ws',_,v,rfl,q1,q2,q3,q4,q5,q6,q7,q8,λx=>?_,hMs6,λm' hm'=>?_,hM6⟩
       .rw[List.mem_append,hM5,List.mem_singleton];constructor
        .rintro((z|⟨m',z1,z2⟩)|z)
         .exact .inl z
         .exact .inr ⟨m',by omega,z2⟩
         .exact .inr ⟨m,by omega,z⟩
        .rintro(z|⟨m',z1,z2⟩)
         .exact .inl (.inl z)
         .by_cases em:m'=m
          .subst em;exact .inr z2
          .exact .inl (.inr ⟨m',by omega,z2⟩)
       .by_cases em:m'=m
        .rw[em];exact hle
        .exact hm5 m' (by omega)
      obtain⟨pc',epc,hpc'⟩:=id hpc5;cases epc;refine⟨_,rfl,.inl ⟨rfl,_,SqL.of hpm5⟩,_,rfl,_,rfl,by show 1<=sizeLine;omega,λp6 hp6=>?_⟩;have s6:=(Same.refl H5).upd (o:=.tup [V.int m]) hp6;have e6:upd H5 p6 (.tup [V.int m]) p6=some (.tup [V.int m]):=A0;generalize upd H5 p6 (.tup [V.int m])=H6 at s6 e6;refine⟨pc,p6,_,_,rfl,rfl,s6 _ _ hpc',e6,by rw[List.length_map,h1.cl];show i+1<=_;have:=hL.m6;omega,λp7 H7 s7 e7=>?_⟩;have s57:=s6.trans s7;refine⟨_,rfl,by show 2<=sizeLine;omega,λp8 hp8=>?_⟩;have s8:=s57.upd (o:=.tup [.ref p7,.ref va]) hp8;have e8:upd H7 p8 (.tup [.ref p7,.ref va]) p8=some (.tup [.ref p7,.ref va]):=A0;have e7':=B8 (o:=.tup [.ref p7,.ref va]) e7 hp8;generalize upd H7 p8 (.tup [.ref p7,.ref va])=H8 at s8 e8 e7';have hpm8:=s8 _ _ hpm5;refine⟨pm,_,_,rfl,rfl,hpm8,by rw[hws5.1];omega,?_⟩;have hcm:IT H8 (.ref p7) (cs++[(m:Int)]):=⟨p7,rfl,by rw[e7',List.map_append];rfl⟩;have s58:Same H (upd H8 pm (.lst (ws5++[.ref p8]))):=λb u e=>by rw[A3 (A6 e hfrm)];exact(s5.trans s8) b u e
      have hpl9:upd H8 pm (.lst (ws5++[.ref p8])) pl=some (.lst zs):=by rw[A3 npl];exact s8 _ _ hpl5
      have hzs9:=(hzs5.same s8).put (o:=.lst (ws5++[.ref p8])) hpm8;have hpm9:upd H8 pm (.lst (ws5++[.ref p8])) pm=some (.lst (ws5++[.ref p8])):=A0;have hws9:=((hws5.same s8).snoc (x:=(cs++[(m:Int)],less l r m)) e8 hcm (hv5.same s8)).put (o:=.lst (ws5++[.ref p8])) hpm8;have hv9:=IT.put (o:=.lst (ws5++[.ref p8])) (hv5.same s8) hpm8;have hpc9:=IT.put (o:=.lst (ws5++[.ref p8])) (hpc5.same s8) hpm8;generalize upd H8 pm (.lst (ws5++[.ref p8]))=H9 at s58 hpl9 hzs9 hpm9 hws9 hv9 hpc9;obtain⟨va',eva,hva9⟩:=id hv9;cases eva;have hra9:=s58 _ _ hra;refine⟨_,rfl,_,rfl,true,true,va,ra,rfl,⟨_,SqT.of hva9⟩,⟨_,SqT.of hra9⟩,?_⟩;refine P0 (caps:=[]) (λx y=>V.int (x-y)) (sqt hva9) (sqt hra9) (by omega) (λH' s=>⟨sqt (s _ _ hva9),sqt (s _ _ hra9)⟩) rfl (λx y H1 Q1 _ q=>⟨_,rfl,_,rfl,_,_,rfl,rfl,q⟩) λH10 p10 s10 hp10=>?_;rw[X5 (λx y=>x-y) V.int,a9o _ hll];refine⟨p10,_,rfl,.inl ⟨SqL.of A0,λp11 hp11=>?_⟩⟩;have s11:=(s10.upd hp10).upd (o:=.tup ((less l r ((m:Int)+1)).map V.int)) hp11;have e11:upd (upd H10 p10 (.lst ((less l r ((m:Int)+1)).map V.int))) p11 (.tup ((less l r ((m:Int)+1)).map V.int)) p11=some (.tup ((less l r ((m:Int)+1)).map V.int)):=A0;generalize upd (upd H10 p10 (.lst ((less l r ((m:Int)+1)).map V.int))) p11 (.tup ((less l r ((m:Int)+1)).map V.int))=H11 at s11 e11;dsimp only[A8];refine⟨_,rfl,_,_,rfl,rfl,?_⟩;exact⟨_,.ref p11,rfl,s58.trans s11,s11 _ _ hpl9,hzs9.same s11,s11 _ _ hpm9,hws9.same s11,⟨p11,rfl,e11⟩,hpc9.same s11⟩
     .have e':¬0<=Mn:=λz=>e (decide_eq_true z);obtain⟨j,hj,hjn⟩:∃j,j<n/\l.getD j 0<(m:Int)*r.getD j 0:=by
       obtain⟨j,hj,rfl⟩:=List.mem_iff_getElem.mp hMn;refine⟨j,by omega,?_⟩;have h2:=G6 (m:=(m:Int)) hll j;rw[List.getD_eq_getElem?_getD,List.getElem?_eq_getElem hj]at h2;have h2:(less l r (m:Int))[j]=l.getD j 0-(m:Int)*r.getD j 0:=h2;omega
      refine⟨ws5,M5,_,_,_,rfl,s5,hpl5,hzs5,hpm5,hws5,λx=>?_,hMs5⟩;rw[hM5];constructor
      .rintro(⟨cs',l',m',z1,z2,z3⟩|⟨m',z1,z2⟩)
       .exact⟨cs',l',m',by rw[List.take_add_one];exact List.mem_append_left _ z1,z2,z3⟩
       .exact⟨cs,l,m',by rw[List.take_add_one,ex];exact List.mem_append_right _ List.mem_cons_self,hm5 m' z1,z2⟩
      .rintro⟨cs',l',m',z1,z2,z3⟩;rw[List.take_add_one,ex]at z1;rcases List.mem_append.mp z1 with z|z
       .exact .inl ⟨cs',l',m',z,z2,z3⟩
       .have z:(cs',l')=(cs,l):=List.mem_singleton.mp z;injection z with za zb
        subst za zb;refine .inr ⟨m',Classical.byContradiction λy=>?_,z3⟩;have h2:=z2 j hj;have h3:(m:Int)*r.getD j 0<=(m':Int)*r.getD j 0:=Int.mul_le_mul_of_nonneg_right (by omega) (gd0 (λx hx=>(hP.2.1 x hx).1) j);omega
   .rintro σ H4 ⟨ws',M,o5,o6,o7,rfl,s4,hpl4,hzs4,hpm4,hws4,hM,hMs⟩;refine⟨_,rfl,?_⟩;dsimp only[A8];exact⟨pm,ws',M,_,_,_,_,_,rfl,s4,hpm4,hws4,hA.next hL.pt hri hol (by rw[<-hzs4.1];exact hM) hMs⟩
  .rintro σ H2 ⟨pl,zs,L,o3,o4,o5,o6,o7,rfl,s2,hpl,hzs,hA⟩;rw[hI.1]at hA;refine⟨_,rfl,pl,rfl,⟨_,SqL.of hpl⟩,?_⟩;have hfew:=b0l hL (Nat.le_refl _) hA.snd hA.srt;have hzl:=hzs.1;refine a0s (xs:=zs) (by omega) (λi ys H'=>H'=H2/\ys.length<=i/\Its H' ys (a3o (L.take i))) ⟨rfl,Nat.le_refl _,Its.nil⟩ (λi ys H' _ h=>⟨by rw[h.1];exact SqL.of hpl,h.2.1⟩) ?_ ?_
   .rintro i v ys H' hv ⟨rfl,hyl,hys⟩;obtain⟨⟨cs,l⟩,b,p,q,ex,rfl,hb,hp,vb,rfl,hvb⟩:=hzs.2 i v hv;refine⟨b,[p,.ref vb],rfl,SqT.of hb,rfl,p,[.ref vb],rfl,.ref vb,[],rfl,rfl,?_⟩;refine⟨⟨rfl,λj v e=>?_⟩,?_⟩
    .match j,e with
     |0,e=>cases e
     |1,e=>cases e
     |j+2,e=>exact e
    refine⟨_,rfl,true,vb,l,rfl,SqT.of hvb,rfl,_,rfl,?_⟩;have ed:a3o (L.take (i+1))=a3o (L.take i)++(if l.sum=0 then[cs] else[]):=by
     unfold a3o;rw[List.take_add_one,ex,List.filter_append,List.map_append];congr 1;show(List.filter _ [(cs,l)]).map _=_;rw[List.filter_cons];by_cases e:l.sum=0
     .rw[if_pos (decide_eq_true e),if_pos e];rfl
     .rw[if_neg (λz=>e (of_decide_eq_true z)),if_neg e];rfl
    refine Q0 (λe=>?_) (λe=>?_)
    .have e':l.sum=0:=by
      have:=of_decide_eq_true e;injection this
     refine⟨_,rfl,rfl,by rw[List.length_append];simp;omega,?_⟩;rw[ed,if_pos e'];exact hys.app (Its.one hp)
    .have e':¬l.sum=0:=λz=>e (decide_eq_true (congrArg V.int z));refine⟨rfl,by omega,?_⟩;rw[ed,if_neg e',List.append_nil];exact hys
   .rintro ys H' ⟨rfl,hyl,hys⟩ p hp;rw[hzl,List.take_length]at hys;obtain⟨d1,d2⟩:=b1Y hA.srt;have s3:=(Same.refl H').upd (o:=.lst ys) hp;exact kk p ys _ _ (s2.trans s3) A0 (hys.same s3) d1 d2 (b1Z hL hA)
inductive IspCounts(vs:List V)(H:Hp)(Q:VK)(E:XK):Prop
 |mk (p:Addr) (m:Int) (cs:List Int) (_:vs=[.ref p,.int m]) (_:H p=some (.tup (cs.map V.int))) (_:(cs.length:Int)=m) (_:∀H',Same H H'->Q (.bl true) H'):IspCounts  vs H Q E
def a3O:Sp:=λvs H Q E=>IspCounts  vs H Q E
theorem sc__law_are_counts:FnScope ["_law_found","_law_many","_law_number"] ["_law_found","_law_many"] (A2 E3):=⟨rfl,rfl,rfl,by decide +kernel,rfl,by decide +kernel,by decide +kernel⟩
theorem a7a(F:FunAt K mg "_law_are_counts" E3 ["_law_found","_law_many"])(T:Tx mg):Ok P w K mg base "_law_are_counts" 1 ["_law_found","_law_many"] a3O:=by
 refine F.okJ sc__law_are_counts (λvs H Q E h=>?_) (λcdv f A outer s H vs Q E hr h=>?_)
 .obtain⟨p,m,cs,rfl,_⟩:=h;rfl
 .obtain⟨p,m,cs,rfl,hp,hm,k⟩:=h;have hu:=hr.u60;refine⟨_,(A1 (E5 (a5d (a4i (R6 (G0 K (O9 K rfl T.b_isinstance (jaC (jv 0) (jaC (a3j (v:=.ty "tuple") rfl T.b_tuple a1Z rfl) jaN))))) (a1J (b2N (G8 K rfl T.b_len (jaC (jv 0) jaN)) (jv 1)))))
 (A4 (B2 W0))
 C2)
 (A1 (J4 (O8 K (jv 0)) (A7 (i:=2) sc__law_are_counts.nd rfl (Or.inl rfl))
 (A4 (E5 (a5d (a4i (R6 (G0 K (O9 K rfl T.b_isinstance (jaC (jv 2) (jaC (a3j (v:=.ty "int") rfl T.b_int b0i rfl) jaN))))) (a1J (G0 K (O9 K rfl T.b_isinstance (jaC (jv 2) (jaC (a3j (v:=.ty "bool") rfl T.b_bool b2e rfl) jaN)))))))
 (A4 (B2 W0))
 C2)))
 (A4 (B2 W0)))),?_⟩
  refine⟨_,rfl,.ref p,"tuple",_,true,rfl,.tup hp,rfl,true,rfl,L4 ?_⟩;refine⟨_,rfl,p,_,rfl,.inr (SqT.of hp),_,rfl,rfl,false,?_,L4 ?_⟩
  .rw[List.length_map,hm];show V.bl (!decide _)=_;rw[decide_eq_true rfl];rfl
  refine⟨_,rfl,p,rfl,⟨_,SqT.of hp⟩,?_⟩;refine a0Z (K:=K) (a:=p) (xs:=cs.map V.int) (λi σ H'=>Ex1 λ(o2:Option V)=>An2 (σ=[some (.ref p),some (.int m),o2]) (H'=H)) ⟨none,rfl,rfl⟩ (λi σ H' _ h=>by obtain⟨_,_,e⟩:=h;rw[e];exact SqT.of hp) ?_ ?_
  .rintro i x σ H' hx ⟨o2,rfl,rfl⟩;obtain⟨c,_,rfl⟩:=S0 hx;dsimp only[A8];refine⟨_,rfl,.int c,"int",_,true,rfl,.int c,rfl,true,rfl,L4 ?_⟩;refine⟨_,rfl,.int c,"bool",_,false,rfl,.int c,(by with_unfolding_all rfl),false,rfl,L4 ?_⟩;exact⟨_,rfl,rfl⟩
  .rintro σ H' ⟨o2,rfl,rfl⟩;exact k H' (Same.refl _)
end
theorem a3Q:∀{a b:LLI},J7 a->J7 b->a.Nodup->b.Nodup->(∀v,v∈a↔v∈b)->a=b
 |[],[],_,_,_,_,_=>rfl
 |[],y::b,_,_,_,_,h=>by have:=(h y).mpr List.mem_cons_self;cases this
 |x::a,[],_,_,_,_,h=>by have:=(h x).mp List.mem_cons_self;cases this
 |x::a,y::b,ra,rb,na,nb,h=>by
  obtain⟨r1,r2⟩:=List.pairwise_cons.mp ra;obtain⟨q1,q2⟩:=List.pairwise_cons.mp rb;obtain⟨n1,n2⟩:=List.nodup_cons.mp na;obtain⟨m1,m2⟩:=List.nodup_cons.mp nb;have e:x=y:=by
   refine V0 x y ?_ ?_
   .rcases List.mem_cons.mp ((h x).mp List.mem_cons_self)with z|z
    .rw[z];exact J9 y
    .exact q1 x z
   .rcases List.mem_cons.mp ((h y).mpr List.mem_cons_self)with z|z
    .rw[z];exact J9 x
    .exact r1 y z
  subst e;rw[a3Q r2 q2 n2 m2 λv=>?_];constructor
  .intro hv;rcases List.mem_cons.mp ((h v).mp (List.mem_cons_of_mem _ hv))with z|z
   .exact absurd (z ▸ hv) n1
   .exact z
  .intro hv;rcases List.mem_cons.mp ((h v).mpr (List.mem_cons_of_mem _ hv))with z|z
   .exact absurd (z ▸ hv) m1
   .exact z
theorem a2g:bootBuiltins "ValueError"=some (.type "ValueError"):=by kernel_rfl
section
variable {P:Program}{w:World}{K:PySem.W.Frag}{mg:Str->Option Value}{base:Heap}
inductive IspRef(C:Addr)(vs:List V)(H:Hp)(Q:VK)(E:XK):Prop
 |mk (p:Addr) (_:vs=[.ref p]) (_:H p=some (a4q p C)) (_:∀H',Same H H'->Q (.bl true) H'):IspRef C vs H Q E
def b2q(C:Addr):Sp:=λvs H Q E=>IspRef C vs H Q E
theorem a0l:FnScope ["_law_caught"] ["_law_caught"] (A2 G4):=⟨rfl,rfl,rfl,by decide +kernel,rfl,by decide +kernel,by decide +kernel⟩
theorem a4U{D_NoAnswer D_NoLay D_NoLine D_NoText D_TooMany:Addr}(F:FunAt K mg "_law_too_many" G4 ["_law_caught"])(T:Tx mg)(M_NoAnswer:mg "NoAnswer"=some (.ref D_NoAnswer))(M_NoLay:mg "NoLay"=some (.ref D_NoLay))(M_NoLine:mg "NoLine"=some (.ref D_NoLine))(M_NoText:mg "NoText"=some (.ref D_NoText))(M_TooMany:mg "TooMany"=some (.ref D_TooMany))
  (Z:IsX K D_TooMany) (h1:PySem.W.kitOne K (.ref D_TooMany) (.ref D_TooMany)=some true) (h2:PySem.W.kitOne K (.ref D_TooMany) (.type "ValueError")=some true) (h3:PySem.W.kitAny K (.ref D_TooMany) [.ref D_NoAnswer,.ref D_NoLay,.ref D_NoLine,.ref D_NoText]=some false) :
  Ok P w K mg base "_law_too_many" 1 ["_law_caught"] (b2q D_TooMany):=by
 refine F.okJ a0l (λvs H Q E h=>?_) (λcdv f A outer s H vs Q E hr h=>?_)
 .obtain⟨p,rfl,_⟩:=h;rfl
 .obtain⟨p,rfl,hp,k⟩:=h;refine⟨_,(A1 (E5 (a5d (a4i (R6 (G0 K (N1 K rfl T.b_isinstance (jaC (jv 0) (jaC (a1M (v:=.ref D_TooMany) rfl M_TooMany rfl) jaN))))) (a1J (R6 (G0 K (N1 K rfl T.b_isinstance (jaC (jv 0) (jaC (a3j (v:=.ty "ValueError") rfl T.b_ValueError a2g rfl) jaN))))))))
 (A4 (B2 W0))
 C2)
 (A4 (B2 (b5z (N1 K rfl T.b_isinstance (jaC (jv 0) (jaC (L7 (jaC (a1M (v:=.ref D_NoAnswer) rfl M_NoAnswer rfl) (jaC (a1M (v:=.ref D_NoLay) rfl M_NoLay rfl) (jaC (a1M (v:=.ref D_NoLine) rfl M_NoLine rfl) (jaC (a1M (v:=.ref D_NoText) rfl M_NoText rfl) jaN))))) jaN))))))),?_⟩
  refine⟨_,rfl,p,D_TooMany,_,true,rfl,hp,Z,.inr (.inl ⟨_,rfl,h1⟩),true,rfl,L4 ?_⟩;refine⟨_,rfl,p,D_TooMany,_,true,rfl,hp,Z,.inl ⟨_,rfl,h2⟩,true,rfl,L4 ?_⟩;refine⟨_,rfl,by show 4<=sizeLine;rw[sizeLine_eq];decide,λtp htp=>?_⟩;refine⟨p,D_TooMany,_,false,rfl,B8 hp htp,Z,.inr (.inr ⟨tp,[D_NoAnswer,D_NoLay,D_NoLine,D_NoText],rfl,A0,h3⟩),?_⟩;exact⟨false,rfl,k _ ((Same.refl H).upd htp)⟩
end
end K24
namespace K24
open PySem PySem.Spec PyProof.Rows L2
def AskP(H:Hp)(z:Int)(a:Addr)(y:V)(us:List V)(rss:LLI)(G:List Int->Prop):Prop:=H a=some (.tup us)/\Its H us rss/\((z=0/\∃one n,IT H y one/\LPre n rss one/\∀d,G d↔Lay n rss one d)∨(z=1/\∃(c:Addr) (cs:List Int),y=.ref c/\H c=some (.tup (cs.map V.int))/\(∀v∈rss,Nv cs.length v/\0<v.sum)/\1<=cs.length/\cs.length<=100/\Wi (cs.map some) (List.replicate cs.length 0)=true/\∀d,G d↔SumOf cs.length rss d/\Wi (cs.map some) d=true))
theorem AskP.same{H H':Hp}{z:Int}{a:Addr}{y:V}{us:List V}{rss:LLI}{G:List Int->Prop}(h:AskP H z a y us rss G)(s:Same H H'):AskP H' z a y us rss G:=by
 obtain⟨h1,h2,h3⟩:=h;refine⟨s _ _ h1,h2.same s,?_⟩;rcases h3 with⟨e,one,n,h4,h5⟩|⟨e,c,cs,e1,h4,h5⟩
 .exact .inl ⟨e,one,n,h4.same s,h5⟩
 .exact .inr ⟨e,c,cs,e1,s _ _ h4,h5⟩
section
variable {P:Program}{w:World}{K:PySem.W.Frag}{mg:Str->Option Value}{base:Heap}
inductive IspAsk(C:Addr)(vs:List V)(H:Hp)(Q:VK)(E:XK):Prop
 |mk (z:Int) (a:Addr) (y:V) (us:List V) (rss:LLI) (G:List Int->Prop) (most:Nat) (_:vs=[.int z,.ref a,y,.int most]) (_:AskP H z a y us rss G) (_:most<=100000) (_:(∀q l zs srt H',Same H H'->H' q=some (.tup [.ref l,.non])->H' l=some (.tup zs)->Its H' zs srt->J7 srt->srt.Nodup->(∀d,d∈srt↔G d)->srt.length<=most->Q (.ref q) H')) (_:(∀q e H' (N:LLI),Same H H'->H' q=some (.tup [.non,.ref e])->H' e=some (a4q e C)->N.Nodup->(∀d∈N,G d)->most<N.length->Q (.ref q) H')):IspAsk C vs H Q E
def b2t(C:Addr):Sp:=λvs H Q E=>IspAsk C vs H Q E
theorem sc__law_asked:FnScope ["_law_which","_law_parts","_law_other","_law_most","_law_caught","_law_found","e"] ["_law_which","_law_parts","_law_other","_law_most"] (A2 M1):=⟨rfl,rfl,rfl,by decide +kernel,rfl,by decide +kernel,by decide +kernel⟩
theorem a9j{C D:Addr}(F:FunAt K mg "_law_asked" M1 ["_law_which","_law_parts","_law_other","_law_most"])(T:Tx mg)(OX_lays:OkE P w K mg base "lays" 12 ["told","one","most"] (a8p C))(OX_answers:OkE P w K mg base "answers" 3 ["told","caps","most"] (a2n C))
  (M_LayError:mg "LayError"=some (.ref D)) (X_LayError:ClsX K D []) (hCD:ClsX K C [.ref D]):Ok P w K mg base "_law_asked" 13 ["_law_which","_law_parts","_law_other","_law_most"] (b2t C):=by
 refine F.okJ sc__law_asked (λvs H Q E h=>?_) (λcdv f A outer s H vs Q E hr h=>?_)
 .obtain⟨z,a,y,us,rss,G,most,rfl,_⟩:=h;rfl
 .obtain⟨z,a,y,us,rss,G,most,rfl,⟨ha,hI,h⟩,hmo,k1,k2⟩:=h;have hz:(3000000:Nat)<=sizeLine:=by rw[sizeLine_eq];decide
  refine⟨_,(A1 (A9 (i:=4) sc__law_asked.nd rfl (Or.inl rfl) a6p)
 (A1 (A9 (i:=5) sc__law_asked.nd rfl (Or.inl rfl) a6p)
 (A1 (a9z K (j:=6) (b5t (a4j (jv 0) A5) (a9w (i:=5) OX_lays (hr.mono (by omega)) rfl sc__law_asked.nd rfl (Or.inl rfl) (jaC (jv 1) (jaC (jv 2) (jaC (jv 3) jaN)))) (a9w (i:=5) OX_answers (hr.mono (by omega)) rfl sc__law_asked.nd rfl (Or.inl rfl) (jaC (jv 1) (jaC (jv 2) (jaC (jv 3) jaN))))) rfl M_LayError X_LayError sc__law_asked.nd rfl rfl (λ_=>(A4 (A9 (i:=4) sc__law_asked.nd rfl (Or.inl rfl) (jv 6)))))
 (A4 (B2 (L7 (jaC (jv 5) (jaC (jv 4) jaN)))))))),?_⟩
  rcases h with⟨rfl,one,n,hy,hL,hG⟩|⟨rfl,c,cs,rfl,hc,hT,n1,n2,hw0,hG⟩
  .refine⟨_,rfl,rfl,true,rfl,a2d ?_⟩;refine⟨_,rfl,_,rfl,_,rfl,a,y,us,rss,one,n,most,rfl,ha,hI,hy,hL,by omega,λl zs srt H1 s1 hl hIz hri hnd hm hle=>?_,λH1 N s1 hN hNm hlt=>⟨C,rfl,hCD,λpe hpe=>?_⟩⟩
   .refine⟨_,rfl,_,rfl,by show 2<=sizeLine;omega,λq hq=>?_⟩;exact k1 q l zs srt _ (s1.upd hq) A0 (B8 hl hq) (hIz.same ((Same.refl H1).upd hq)) hri hnd (λd=>(hm d).trans (hG d).symm) hle
   .refine⟨_,rfl,?_⟩;dsimp only[A8];refine⟨_,rfl,_,rfl,by show 2<=sizeLine;omega,λq hq=>?_⟩;exact k2 q pe _ N ((s1.upd hpe).upd hq) A0 (B8 A0 hq) hN (λd hd=>(hG d).mpr (hNm d hd)) hlt
  .refine⟨_,rfl,rfl,false,rfl,L4 ?_⟩;have hlm:(cs.map some).length=cs.length:=List.length_map _;refine⟨_,rfl,_,rfl,_,rfl,a,c,_,most,us,rss,cs.map some,rfl,rfl,ha,hI,by rw[hlm];exact hT,by rw[b2b];exact hc,by omega,by omega,hmo,by rw[hlm];exact hw0,λl zs srt H1 s1 hl hIz hri hnd hm hle=>?_,λH1 N s1 hN hNm hlt=>⟨C,rfl,hCD,λpe hpe=>?_⟩⟩
   .rw[hlm]at hm;refine⟨_,rfl,_,rfl,by show 2<=sizeLine;omega,λq hq=>?_⟩;exact k1 q l zs srt _ (s1.upd hq) A0 (B8 hl hq) (hIz.same ((Same.refl H1).upd hq)) hri hnd (λd=>(hm d).trans (hG d).symm) hle
   .rw[hlm]at hNm;refine⟨_,rfl,?_⟩;dsimp only[A8];refine⟨_,rfl,_,rfl,by show 2<=sizeLine;omega,λq hq=>?_⟩;exact k2 q pe _ N ((s1.upd hpe).upd hq) A0 (B8 A0 hq) hN (λd hd=>(hG d).mpr (hNm d hd)) hlt
inductive IspBnd(vs:List V)(H:Hp)(Q:VK)(E:XK):Prop
 |mk (z:Int) (a:Addr) (y:V) (us:List V) (rss:LLI) (G:List Int->Prop) (l:Addr) (zs:List V) (tss:LLI) (wd:Int) (_:vs=[.int z,.ref a,y,.ref l,.int wd]) (_:AskP H z a y us rss G) (_:H l=some (.lst zs)) (_:Its H zs tss) (_:J7 tss) (_:tss.Nodup) (_:(∀d,d∈tss↔G d)) (_:(∀d∈tss,(d.length:Int)=wd)) (_:tss.length<=2000) (_:∀H',Same H H'->Q (.bl true) H'):IspBnd  vs H Q E
def b2s:Sp:=λvs H Q E=>IspBnd  vs H Q E
theorem sc__law_bounded:FnScope ["_law_which","_law_parts","_law_other","_law_due","_law_width","_law_many","_law_most","_law_found","_law_caught"] ["_law_which","_law_parts","_law_other","_law_due","_law_width"] (A2 J1):=⟨rfl,rfl,rfl,by decide +kernel,rfl,by decide +kernel,by decide +kernel⟩
theorem a4W{C:Addr}(F:FunAt K mg "_law_bounded" J1 ["_law_which","_law_parts","_law_other","_law_due","_law_width"])(T:Tx mg)(O__law_asked:Ok P w K mg base "_law_asked" 13 ["_law_which","_law_parts","_law_other","_law_most"] (b2t C))(O__law_too_many:Ok P w K mg base "_law_too_many" 1 ["_law_caught"] (b2q C))(O__law_are_counts:Ok P w K mg base "_law_are_counts" 1 ["_law_found","_law_many"] a3O):Ok P w K mg base "_law_bounded" 14 ["_law_which","_law_parts","_law_other","_law_due","_law_width"] b2s:=by
 refine F.okJ sc__law_bounded (λvs H Q E h=>?_) (λcdv f A outer s H vs Q E hr h=>?_)
 .obtain⟨z,a,y,us,rss,G,l,zs,tss,wd,rfl,_⟩:=h;rfl
 .obtain⟨z,a,y,us,rss,G,l,zs,tss,wd,rfl,hA,hl,hzs,hri,hnd,hm,hwd,hb,kk⟩:=h;have hz:(3000000:Nat)<=sizeLine:=by rw[sizeLine_eq];decide
  have hu:=hr.u60;have hzl:=hzs.1;refine⟨_,(A1 (A9 (i:=5) sc__law_bounded.nd rfl (Or.inl rfl) (G8 K rfl T.b_len (jaC (jv 3) jaN)))
 (A1 (J4 (R7 K (K7 (jaC (jv 5) (jaC (J0 (jv 5) A5) (jaC A5 (jaC (a9E (jv 5) A5) (jaC A5 (jaC (a1N (jv 5) A5) jaN)))))))) (A7 (i:=6) sc__law_bounded.nd rfl (Or.inl rfl))
 (A1 (a0q (B0 O__law_asked (hr.mono (by omega)) rfl (jaC (jv 0) (jaC (jv 1) (jaC (jv 2) (jaC (a5f rfl T.b_max (jaC A5 (jaC (jv 6) jaN))) jaN))))) (J5 K 2 (B1 (A7 (i:=7) sc__law_bounded.nd rfl (Or.inl rfl)) (B1 (A7 (i:=8) sc__law_bounded.nd rfl (Or.inl rfl)) E6))))
 (A4 (E5 (a9y (a5f rfl T.b_max (jaC A5 (jaC (jv 6) jaN))) (jv 5))
 (A4 (E5 (R6 (G0 K (B0 O__law_too_many (hr.mono (by omega)) rfl (jaC (jv 8) jaN))))
 (A4 (B2 W0))
 C2))
 (A4 (E5 (a5d (a4i (b1I (jv 8) a6p) (a1J (b4o K hu (jv 7) (C5 K rfl T.b_tuple (jaC (jv 3) jaN))))))
 (A4 (B2 W0))
 (A4 (E5 (R6 (G0 K (a3g K rfl T.b_all (jaC (E2 (N:=["_law_one","_law_width"]) (src:=[none,some 4]) (O8 K (jv 7)) (by show D0 _ _=true;rfl) (by rfl) (by rfl)
 (λ_ _ _ _ _=>(A7 (i:=0) (show(["_law_one","_law_width"]:List Str).Nodup by decide +kernel) rfl (Or.inl rfl))) (λ_ _ _ _ _=>G7) (λ_ _ _ _ _=>(B0 O__law_are_counts (hr.mono (by omega)) rfl (jaC (jv 0) (jaC (jv 1) jaN))))) jaN))))
 (A4 (B2 W0))
 C2))))))))
 (A4 (B2 W0)))),?_⟩
  refine⟨_,rfl,l,zs,rfl,.inl (SqL.of hl),?_⟩;dsimp only[A8];refine⟨_,rfl,_,rfl,_,_,rfl,rfl,_,rfl,_,_,rfl,rfl,_,rfl,_,_,rfl,rfl,⟨by decide,by decide⟩,by show 6<=sizeLine;omega,λp1 hp1=>?_⟩;obtain⟨L,eL,hL⟩:∃L:List Int,[V.int zs.length,V.int ((zs.length:Int)+1),V.int 2000,V.int ((zs.length:Int)-1),V.int 0,V.int ((zs.length:Int) / 2)]=L.map V.int/\∀x∈L,x<=2001:=⟨[(zs.length:Int),(zs.length:Int)+1,2000,(zs.length:Int)-1,0,(zs.length:Int) / 2],rfl,λx hx=>by
   simp only[List.mem_cons,List.not_mem_nil,or_false]at hx;omega⟩
  rw[eL];have s1:=(Same.refl H).upd (o:=.lst (L.map V.int)) hp1;have e1:upd H p1 (.lst (L.map V.int)) p1=some (.lst (L.map V.int)):=A0;generalize upd H p1 (.lst (L.map V.int))=H1 at s1 e1;refine⟨p1,rfl,⟨_,SqL.of e1⟩,?_⟩;refine a1S (K:=K) (a:=p1) (xs:=L.map V.int) (λi σ H'=>Ex3 λ(o6 o7 o8:Option V)=>An2 (σ=[some (.int z),some (.ref a),some y,some (.ref l),some (.int wd),some (.int zs.length),o6,o7,o8]) (Same H1 H')) ⟨none,none,none,rfl,Same.refl _⟩ (λi σ H' _ h=>by
   obtain⟨_,_,_,_,s'⟩:=h;exact SqL.of (s' _ _ e1)) ?_ ?_
  .rintro i x σ H2 hx ⟨o6,o7,o8,rfl,s2⟩;obtain⟨v,hv,rfl⟩:=S0 hx;have hvb:=hL v (List.mem_of_getElem? hv);have s02:=s1.trans s2;dsimp only[A8];obtain⟨mo,hmo⟩:∃mo:Nat,(if v > 0 then v else 0:Int)=mo:=⟨(if v > 0 then v else 0:Int).toNat,by split<;>omega⟩;have hmb:mo<=2001:=by
    have:(mo:Int)<=2001:=by rw[<-hmo];split<;>omega
    omega
   refine⟨_,rfl,_,rfl,_,rfl,_,rfl,_,_,rfl,z,a,y,us,rss,G,mo,congrArg (λt=>[V.int z,.ref a,y,.int t]) hmo,hA.same s02,by omega,λq l3 ws srt H3 s3 hq hl3 hws hri3 hnd3 hm3 hle=>?_,λq e3 H3 N s3 hq he3 hN hNm hlt=>?_⟩
   .have est:srt=tss:=a3Q hri3 hri hnd3 hnd λd=>(hm3 d).trans (hm d).symm;subst est;refine⟨q,[.ref l3,.non],rfl,SqT.of hq,rfl,.ref l3,[.non],rfl,.non,[],rfl,rfl,?_⟩;dsimp only[A8];refine⟨_,rfl,_,_,rfl,_,rfl,_,_,rfl,rfl,false,?_,L4 ?_⟩
    .rw[hmo];exact congrArg V.bl (decide_eq_false (by omega))
    have s03:=s02.trans s3;refine⟨_,rfl,rfl,false,rfl,L4 ?_⟩;refine⟨_,rfl,_,rfl,l,zs,rfl,.inl ⟨SqL.of (s03 _ _ hl),λp4 hp4=>?_⟩⟩;have s4:=(Same.refl H3).upd (o:=.tup zs) hp4;have e4:upd H3 p4 (.tup zs) p4=some (.tup zs):=A0;generalize upd H3 p4 (.tup zs)=H4 at s4 e4;refine⟨2,_,by decide,EqV.its (k:=true) (SqT.of (s4 _ _ hl3)) (SqT.of e4) (hws.same s4) (hzs.same (s03.trans s4)),⟨_,_,rfl,rfl⟩,false,by rw[decide_eq_true rfl];rfl,L4 ?_⟩;have hl4:=s4 _ _ hl3;have hws4:=hws.same s4;have hwl:=hws.1;refine⟨_,rfl,l3,rfl,⟨_,SqT.of hl4⟩,?_⟩;refine a0c (K:=K) (a:=l3) (xs:=ws) (by omega) (λi ys H'=>Same H4 H'/\ys=List.replicate i (V.bl true)) ⟨Same.refl _,rfl⟩ (λi ys H' _ h=>⟨SqT.of (h.1 _ _ hl4),by rw[h.2,List.length_replicate];exact Nat.le_refl _⟩) ?_ ?_
    .rintro i x ys H5 hx ⟨s5,rfl⟩;obtain⟨r,hr1,va,rfl,hva⟩:=hws4.2 i x hx;refine⟨Sub.one,_,rfl,_,rfl,va,wd,r,rfl,s5 _ _ hva,hwd r (List.mem_of_getElem? hr1),λH6 s6=>⟨s5.trans s6,by rw[List.replicate_succ']⟩⟩
    .rintro ys H5 ⟨s5,rfl⟩ p6 hp6;have hall:(List.replicate ws.length (V.bl true)).all trV=true/\(List.replicate ws.length (V.bl true)).all a4p=true:=by
      constructor<;>rw[List.all_eq_true]<;>intro v hv<;>rw[(List.mem_replicate.mp hv).2]<;>rfl
     refine⟨false,p6,_,rfl,SqL.of A0,hall.2,?_⟩;rw[hall.1];refine⟨true,rfl,L4 ?_⟩;exact⟨_,_,_,rfl,(((s2.trans s3).trans s4).trans s5).upd hp6⟩
   .have hNl:=a0D N tss hN λd hd=>(hm d).mpr (hNm d hd);refine⟨q,[.non,.ref e3],rfl,SqT.of hq,rfl,.non,[.ref e3],rfl,.ref e3,[],rfl,rfl,?_⟩;dsimp only[A8];refine⟨_,rfl,_,_,rfl,_,rfl,_,_,rfl,rfl,true,?_,a2d ?_⟩
    .rw[hmo];exact congrArg V.bl (decide_eq_true (by omega))
    refine⟨_,rfl,e3,rfl,he3,λH4 s4=>⟨true,rfl,L4 ?_⟩⟩;exact⟨_,_,_,rfl,(s2.trans s3).trans s4⟩
  .rintro σ H2 ⟨o6,o7,o8,rfl,s2⟩;exact kk H2 (s1.trans s2)
end
end K24
namespace K24
open PySem PySem.Spec PyProof.Rows L2
def grd:Nat->Nat->LLI
 |0,_=>[[]]
 |n+1,c=>(List.range (c+1)).flatMap λx=>(grd n c).map λl=>((x:Nat):Int)::l
theorem a6s:∀n c,(grd n c).length=(c+1) ^ n
 |0,_=>rfl
 |n+1,c=>by
  show((List.range (c+1)).flatMap λx=>(grd n c).map λl=>((x:Nat):Int)::l).length=_;rw[List.length_flatMap];have:∀m:Nat,((List.range m).map λx=>((grd n c).map λl=>((x:Nat):Int)::l).length).sum=m*(c+1) ^ n:=λm=>by
   induction m with
   |zero=>simp
   |succ m ih=>rw[List.range_succ,List.map_append,List.sum_append,ih,List.map_cons,List.length_map,a6s n c,Nat.succ_mul];simp
  rw[this,Nat.pow_succ,Nat.mul_comm]
theorem a7V{C:Nat}:∀(cs v:List Int),v.length=cs.length->(∀x∈v,0<=x)->(∀c∈cs,c<=C)->Wi (cs.map some) v=true->v∈grd cs.length C
 |[],[],_,_,_,_=>List.mem_singleton.mpr rfl
 |[],_::_,h,_,_,_=>nomatch h
 |_::_,[],h,_,_,_=>nomatch h
 |c::cs,x::v,h,h0,hc,hw=>by
  have hw:(List.zipWith a3s (some c::cs.map some) (x::v)).all id=true:=hw;rw[List.zipWith_cons_cons,List.all_cons,Bool.and_eq_true]at hw;have hx:x<=c:=of_decide_eq_true hw.1;have hx0:=h0 x List.mem_cons_self;have hc0:=hc c List.mem_cons_self;obtain⟨k,rfl⟩:∃k:Nat,x=k:=⟨x.toNat,by omega⟩;refine List.mem_flatMap.mpr ⟨k,List.mem_range.mpr (by omega),List.mem_map.mpr ⟨v,?_,rfl⟩⟩;exact a7V cs v (by simpa using h) (λy hy=>h0 y (List.mem_cons_of_mem _ hy)) (λy hy=>hc y (List.mem_cons_of_mem _ hy)) hw.2
theorem a2L:∀(cs:List Int),(∀c∈cs,0<=c)->Wi (cs.map some) (List.replicate cs.length 0)=true
 |[],_=>rfl
 |c::cs,h=>by
  have ih:=a2L cs λx hx=>h x (List.mem_cons_of_mem _ hx);show(List.zipWith a3s (some c::cs.map some) (0::List.replicate cs.length 0)).all id=true;rw[List.zipWith_cons_cons,List.all_cons,Bool.and_eq_true];exact⟨decide_eq_true (h c List.mem_cons_self),ih⟩
theorem fits_of{C:Nat}{cs:List Int}(hc:∀c∈cs,c<=C)(h:(C+1) ^ cs.length<=300):b4P (cs.map some) 300:=λl hl hv=>by
 have:=a0D l (grd cs.length C) hl λv hv'=>by
  obtain⟨h1,h2⟩:=hv v hv';rw[List.length_map]at h1;exact a7V cs v h1.1 h1.2 hc h2
 rw[a6s]at this;omega
section
variable {P:Program}{w:World}{K:PySem.W.Frag}{mg:Str->Option Value}{base:Heap}
theorem sc_law:FnScope ["_law_script","_law_parts","_law_width","_law_k","_law_draw","_law_one","_law_caps","_law_zero"] ["_law_script"] (A2 a1r):=⟨rfl,rfl,rfl,by decide +kernel,rfl,by decide +kernel,by decide +kernel⟩
theorem b4e{f:Addr}{fd:FuncData}(F:Fun K "law" "law" a1r f fd)(T:Tx mg)(O__law_pot:Ok P w K mg base "_law_pot" 2 ["_law_script","_law_k"] (a8o K))(O__law_small:Ok P w K mg base "_law_small" 3 ["_law_script"] (a5N K))(O__law_one_of:Ok P w K mg base "_law_one_of" 2 ["_law_draw","_law_parts","_law_width"] a5Q)(O__law_take:Ok P w K mg base "_law_take" 1 ["_law_pot_here","_law_many"] a0h)(O__law_all:Ok P w K mg base "_law_all" 1 ["_law_parts","_law_one"] b2u)(O__law_sums:Ok P w K mg base "_law_sums" 1 ["_law_parts","_law_caps"] a5T)(O__law_bounded:Ok P w K mg base "_law_bounded" 14 ["_law_which","_law_parts","_law_other","_law_due","_law_width"] b2s) :
  FnOk P w K mg base CX0 15 f fd ["_law_script"] (a5S K):=by
 refine F.okJ sc_law (λvs H Q E h=>?_) (λcdv A outer s H vs Q E hr h=>?_)
 .obtain⟨a,ns,rfl,_⟩:=h;rfl
 .obtain⟨a,ns,rfl,hS,hl,kk⟩:=h;have hz:(3000:Nat)<=sizeLine:=by rw[sizeLine_eq];decide
  refine⟨_,(A1 (a0q (B0 O__law_small (hr.mono (by omega)) rfl (jaC (jv 0) jaN)) (J5 K 2 (B1 (A7 (i:=1) sc_law.nd rfl (Or.inl rfl)) (B1 (A7 (i:=2) sc_law.nd rfl (Or.inr rfl)) E6))))
 (A1 (J4 (a7l rfl T.b_range (jaC A5 (jaC (a5f rfl T.b_max (jaC A5 (jaC (b4p rfl T.b_min (jaC A5 (jaC (G8 K rfl T.b_len (jaC (jv 0) jaN)) jaN))) jaN))) jaN))) (A7 (i:=3) sc_law.nd rfl (Or.inl rfl))
 (A1 (A9 (i:=4) sc_law.nd rfl (Or.inr rfl) (B0 O__law_pot (hr.mono (by omega)) rfl (jaC (jv 0) (jaC (jv 3) jaN))))
 (A1 (A9 (i:=5) sc_law.nd rfl (Or.inl rfl) (B0 O__law_one_of (hr.mono (by omega)) rfl (jaC (jv 4) (jaC (jv 1) (jaC (jv 2) jaN)))))
 (A1 (A9 (i:=6) sc_law.nd rfl (Or.inl rfl) (C5 K rfl T.b_tuple (jaC (E2 (N:=["_law_j","_law_draw","_law_width"]) (src:=[none,some 4,some 2]) (M8 rfl T.b_range (jaC (jv 2) jaN)) (by show D0 _ _=true;rfl) (by rfl) (by rfl)
 (λ_ _ _ _ _=>(A7 (i:=0) (show(["_law_j","_law_draw","_law_width"]:List Str).Nodup by decide +kernel) rfl (Or.inl rfl))) (λ_ _ _ _ _=>G7) (λ_ _ _ _ _=>(B0 O__law_take (hr.mono (by omega)) rfl (jaC (jv 1) (jaC (L8 K (K7 (jaC A5 (jaC A5 jaN))) (a1L rfl T.b_int (jaC (b2L (jv 2) A5) jaN))) jaN))))) jaN)))
 (A1 (E5 (R6 (G0 K (B0 O__law_bounded (hr.mono (by omega)) rfl (jaC A5 (jaC (jv 1) (jaC (jv 5) (jaC (B0 O__law_all (hr.mono (by omega)) rfl (jaC (jv 1) (jaC (jv 5) jaN))) (jaC (G8 K rfl T.b_len (jaC (jv 1) jaN)) jaN))))))))
 (A4 (B2 W0))
 C2)
 (A4 (E5 (R6 (G0 K (B0 O__law_bounded (hr.mono (by omega)) rfl (jaC A5 (jaC (jv 1) (jaC (jv 6) (jaC (B0 O__law_sums (hr.mono (by omega)) rfl (jaC (jv 1) (jaC (jv 6) jaN))) (jaC (jv 2) jaN))))))))
 (A4 (B2 W0))
 C2)))))))
 (A1 (A9 (i:=7) sc_law.nd rfl (Or.inl rfl) (b4r (L7 (jaC A5 jaN)) (jv 2)))
 (A4 (B2 (b5B (B0 O__law_bounded (hr.mono (by omega)) rfl (jaC A5 (jaC (L7 jaN) (jaC (jv 7) (jaC (K7 (jaC (L7 jaN) jaN)) (jaC A5 jaN)))))) (b2R (B0 O__law_bounded (hr.mono (by omega)) rfl (jaC A5 (jaC (L7 jaN) (jaC (jv 7) (jaC (K7 (jaC (jv 7) jaN)) (jaC (jv 2) jaN))))))))))))),?_⟩
  refine⟨_,rfl,a,ns,rfl,hS,λq pa us rss wd H1 hq hpa hI hG s1=>?_⟩;refine⟨q,[.ref pa,.int wd],rfl,SqT.of hq,rfl,.ref pa,[.int wd],rfl,.int wd,[],rfl,rfl,?_⟩;dsimp only[A8];have h8:=hG.n8;have h1:=hG.n1;refine⟨_,rfl,a,_,rfl,.inl (s1.seq hS),_,_,rfl,_,_,rfl,_,_,rfl,?_,?_⟩
  .refine⟨by decide,by decide,?_,?_⟩
   .rw[List.length_map];split<;>split<;>omega
   .rw[List.length_map];split<;>split<;>omega
  refine V3 (lo:=8) (λi σ H'=>Ex4 λo3 o4 o5 o6=>An2 (σ=[some (.ref a),some (.ref pa),some (.int wd),o3,o4,o5,o6,none]) (Same H1 H')) ⟨none,none,none,none,rfl,Same.refl _⟩ ?_ ?_
  .rintro i σ H' hi ⟨o3,o4,o5,o6,rfl,s'⟩;have hi25:i<25:=by
    refine Nat.lt_of_lt_of_le hi ?_;rw[List.length_map];split<;>split<;>omega
   have sH:=s1.trans s';dsimp only[A8];refine⟨_,rfl,_,rfl,a,ns,_,8+i,rfl,by omega,by omega,sH.seq hS,λpm H2 hpm hPm s2=>?_⟩;dsimp only[A8];have s12:=s'.trans s2;refine⟨_,rfl,_,rfl,_,rfl,pm,pa,wd,us,rss,rfl,hPm,s12 _ _ hpa,hI.same s12,hG,λv one H3 hv hol hon hsum off3 hj3=>?_⟩;obtain⟨j3,hj3,hP3⟩:=hj3;dsimp only[A8];refine⟨_,rfl,_,rfl,by omega,by omega,?_⟩;rw[Int.toNat_natCast];refine X0 (lo:=0) (n:=wd) (by omega) (λi ys H'=>PotAt H' pm (j3+i)/\Off [pm] H3 H'/\∃xs:List Int,ys=xs.map V.int/\xs.length=i/\∀c∈xs,0<=c/\c<=(if (3:Int)<wd then 1 else 4)) ⟨hP3,Off.refl _ _,[],rfl,rfl,λ_ z=>nomatch z⟩ (λi ys H' h=>by
    obtain⟨_,_,xs,rfl,hxl,_⟩:=h;rw[List.length_map,hxl];exact Nat.le_refl _) ?_ ?_
   .rintro i ys H4 hi ⟨hP4,off4,xs,rfl,hxl,hxs⟩;refine⟨Sub.one,_,rfl,by show 2<=sizeLine;omega,λp5 hp5=>?_⟩;have s5:=(Same.refl H4).upd (o:=.lst [V.int 5,.int 2]) hp5;have e5:upd H4 p5 (.lst [V.int 5,.int 2]) p5=some (.lst [V.int 5,.int 2]):=A0;generalize upd H4 p5 (.lst [V.int 5,.int 2])=H5 at s5 e5;refine⟨_,rfl,_,_,rfl,rfl,.inr ⟨_,rfl,?_⟩⟩;obtain⟨b,hb1,hb2⟩:=two_at 5 2 (decide ((3:Int)<wd));have hbb:(b=5/\¬(3:Int)<wd)∨(b=2/\(3:Int)<wd):=by
     rw[hb2];by_cases e:(3:Int)<wd
     .rw[if_pos (decide_eq_true e)];exact .inr ⟨rfl,e⟩
     .rw[if_neg (λz=>e (of_decide_eq_true z))];exact .inl ⟨rfl,e⟩
    refine⟨p5,_,_,_,rfl,rfl,SqL.of e5,hb1,?_⟩;refine⟨pm,j3+i,b,rfl,hP4.same s5,by omega,by omega,by omega,λr H6 r0 r1 hP6 off6=>?_⟩;refine⟨hP6,(off4.trans s5.off).trans off6,xs++[r],by simp,by simp[hxl],λc hc=>?_⟩;rcases List.mem_append.mp hc with z|z
    .exact hxs c z
    .rw[List.mem_singleton.mp z];refine⟨r0,?_⟩;rcases hbb with⟨e1,e2⟩|⟨e1,e2⟩
     .rw[if_neg e2];omega
     .rw[if_pos e2];omega
   .rintro ys H4 ⟨hP4,off4,cs,rfl,hcl,hcs⟩ p5 hp5;have hv4:=IT.off hv hP3 off4;have off4:=off3.trans off4;have s5:=(Same.refl H4).upd (o:=.lst (cs.map V.int)) hp5;have e5:upd H4 p5 (.lst (cs.map V.int)) p5=some (.lst (cs.map V.int)):=A0;generalize upd H4 p5 (.lst (cs.map V.int))=H5 at s5 e5;refine⟨p5,_,rfl,.inl ⟨SqL.of e5,λpc hpc=>?_⟩⟩;have s6:=s5.upd (o:=.tup (cs.map V.int)) hpc;have e6:upd H5 pc (.tup (cs.map V.int)) pc=some (.tup (cs.map V.int)):=A0;generalize upd H5 pc (.tup (cs.map V.int))=H6 at s6 e6;have s26:Same H' H6:=(W6 s2 hpm off4).trans s6;have hv6:=hv4.same s6;have s06:=s'.trans s26;dsimp only[A8];have hL:=hG.pre hol hon hsum;refine⟨_,rfl,_,rfl,_,rfl,_,rfl,pa,v,us,rss,one,wd,rfl,s06 _ _ hpa,hI.same s06,hv6,hL,h1,λl7 zs tss H7 s7 hl7 hzs hri hnd hmem=>?_⟩;have s07:=s06.trans s7;refine⟨_,rfl,pa,us,rfl,.inr (SqT.of (s07 _ _ hpa)),?_⟩;refine⟨0,pa,v,us,rss,Lay wd rss one,l7,zs,tss,_,rfl,⟨s07 _ _ hpa,hI.same s07,.inl ⟨rfl,one,wd,hv6.same s7,hL,λd=>Iff.rfl⟩⟩,hl7,hzs,hri,hnd,hmem,λd hd=>by rw[((hmem d).mp hd).len,hI.1],?_,λH8 s8=>⟨true,rfl,L4 ?_⟩⟩
    .have:=a9t hL.pt hL.nd hL.m6 hL.s6 hL.s1 tss hnd λd hd=>(hmem d).mp hd;omega
    have s08:=s07.trans s8;have s68:=s7.trans s8;have hT:∀t∈rss,Nv wd t:=λt ht=>⟨(hG.pt t ht).1,λx hx=>((hG.pt t ht).2.1 x hx).1⟩;have hfit:b4P (cs.map some) 300:=by
     by_cases e:(3:Int)<wd
     .refine fits_of (C:=1) (λc hc=>by have:=(hcs c hc).2;rw[if_pos e]at this;exact this) ?_;rw[hcl];exact Nat.le_trans (Nat.pow_le_pow_right (by decide) h8) (by decide)
     .refine fits_of (C:=4) (λc hc=>by have:=(hcs c hc).2;rw[if_neg e]at this;exact this) ?_;rw[hcl];exact Nat.le_trans (Nat.pow_le_pow_right (by decide) (show wd<=3 by omega)) (by decide)
    have hw0:Wi (cs.map some) (List.replicate wd 0)=true:=by
     have:=a2L cs λc hc=>(hcs c hc).1;rwa[hcl]at this
    refine⟨_,rfl,_,rfl,_,rfl,_,rfl,pa,pc,us,rss,cs,wd,rfl,s08 _ _ hpa,hI.same s08,s68 _ _ e6,hcl,h1,h8,hT,hfit,hw0,λl9 zs9 srt H9 s9 hl9 hzs9 hri9 hnd9 hm9=>?_⟩;have s09:=s08.trans s9;refine⟨_,rfl,?_⟩;refine⟨1,pa,.ref pc,us,rss,λd=>SumOf wd rss d/\Wi (cs.map some) d=true,l9,zs9,srt,_,rfl,⟨s09 _ _ hpa,hI.same s09,.inr ⟨rfl,pc,cs,rfl,s9 _ _ (s68 _ _ e6),λt ht=>by rw[hcl];exact⟨hT t ht,(hG.pt t ht).2.2⟩,by omega,by omega,by rw[hcl];exact hw0,λd=>by rw[hcl]⟩⟩,hl9,hzs9,hri9,hnd9,hm9,λd hd=>by rw[(((hm9 d).mp hd).1.nv hT).1],?_,λH10 s10=>⟨true,rfl,L4 ?_⟩⟩
    .have:=hfit srt hnd9 λd hd=>⟨by rw[List.length_map,hcl];exact((hm9 d).mp hd).1.nv hT,((hm9 d).mp hd).2⟩;omega
    exact⟨_,_,_,_,rfl,s09.trans s10⟩
  .rintro σ H' ⟨o3,o4,o5,o6,rfl,s'⟩;have fr:∀(c:Int) (m:Nat),(List.replicate m [V.int c]).flatten=(List.replicate m c).map V.int:=λc m=>by
    induction m with
    |zero=>rfl
    |succ m ih=>rw[List.replicate_succ,List.flatten_cons,ih,List.replicate_succ];rfl
   have h0s:(List.replicate wd (0:Int)).sum=0:=Z6 wd;have h0n:∀x∈List.replicate wd (0:Int),x=0:=λx hx=>List.eq_of_mem_replicate hx;have hL0:LPre wd [] (List.replicate wd 0):=(Gd.nil h1 h8).pre List.length_replicate (λx hx=>by rw[h0n x hx];exact Int.le_refl _) (by rw[h0s];decide);refine⟨by show 1<=sizeLine;omega,λp3 hp3=>⟨_,rfl,p3,[.int 0],_,rfl,rfl,A0,by simp,by omega,?_,λt4 H4 s4 e4=>?_⟩⟩
   .show(1:Int)*_<=_;omega
   rw[Int.toNat_natCast,fr]at e4;dsimp only[A8];refine⟨Nat.zero_le _,λt5 ht5=>⟨_,rfl,Nat.zero_le _,λt6 ht6=>⟨by show 1<=sizeLine;omega,λl7 hl7=>?_⟩⟩⟩;have s5:=(Same.refl H4).upd (o:=.tup []) ht5;have s6:=(s5.upd (o:=.tup []) ht6);have s7:=s6.upd (o:=.lst [.ref t6]) hl7;have q5:upd (upd (upd H4 t5 (.tup [])) t6 (.tup [])) l7 (.lst [.ref t6]) t5=some (.tup []):=B8 (B8 A0 ht6) hl7;have q6:upd (upd (upd H4 t5 (.tup [])) t6 (.tup [])) l7 (.lst [.ref t6]) t6=some (.tup []):=B8 A0 hl7;have q7:upd (upd (upd H4 t5 (.tup [])) t6 (.tup [])) l7 (.lst [.ref t6]) l7=some (.lst [.ref t6]):=A0;generalize upd (upd (upd H4 t5 (.tup [])) t6 (.tup [])) l7 (.lst [.ref t6])=H7 at s7 q5 q6 q7;have e7:=s7 _ _ e4;refine⟨0,t5,.ref t4,[],[],Lay wd [] (List.replicate wd 0),l7,[.ref t6],[[]],0,rfl,⟨q5,Its.nil,.inl ⟨rfl,_,wd,⟨t4,rfl,e7⟩,hL0,λd=>Iff.rfl⟩⟩,q7,Its.one ⟨t6,rfl,q6⟩,by simp[J7],by simp,λd=>?_,λd hd=>by rw[List.mem_singleton.mp hd];rfl,by decide,λH8 s8=>⟨true,rfl,a2d ?_⟩⟩
   .rw[List.mem_singleton];exact(LY.zero hL0.pt h0n List.length_replicate).symm
   have e8:=s8 _ _ e7;refine⟨Nat.zero_le _,λt9 ht9=>⟨_,rfl,_,rfl,by show 1<=sizeLine;omega,λl10 hl10=>?_⟩⟩;have s10:=((Same.refl H8).upd (o:=.tup []) ht9).upd (o:=.lst [.ref t4]) hl10;have q9:upd (upd H8 t9 (.tup [])) l10 (.lst [.ref t4]) t9=some (.tup []):=B8 A0 hl10;have q10:upd (upd H8 t9 (.tup [])) l10 (.lst [.ref t4]) l10=some (.lst [.ref t4]):=A0;generalize upd (upd H8 t9 (.tup [])) l10 (.lst [.ref t4])=H10 at s10 q9 q10;have e10:=s10 _ _ e8;have hwz:Wi ((List.replicate wd (0:Int)).map some) (List.replicate wd 0)=true:=by
    have:=a2L (List.replicate wd 0) λc hc=>by rw[h0n c hc];exact Int.le_refl _
    rwa[List.length_replicate]at this
   refine⟨_,rfl,?_⟩;exact⟨1,t9,.ref t4,[],[],λd=>SumOf wd [] d/\Wi ((List.replicate wd (0:Int)).map some) d=true,l10,[.ref t4],[List.replicate wd 0],_,rfl,⟨q9,Its.nil,.inr ⟨rfl,t4,List.replicate wd 0,rfl,e10,(λ_ z=>nomatch z),by rw[List.length_replicate];omega,by rw[List.length_replicate];omega,by rw[List.length_replicate];exact hwz,λd=>by rw[List.length_replicate]⟩⟩,q10,Its.one ⟨t4,rfl,e10⟩,by simp[J7],by simp,λd=>⟨λhd=>by rw[List.mem_singleton.mp hd];exact⟨.nil,hwz⟩,λhd=>by rw[hd.1.inv0];simp⟩,λd hd=>by rw[List.mem_singleton.mp hd,List.length_replicate],by simp,λH11 s11=>kk H11⟩
end
open PySem.W
theorem all_mk{l:PySem.W.OpenLaw}{w:World}{K:PySem.W.Frag}{h:Heap}{mg:Str->Option Value}{fa:Addr}(X:K.In h)(G:h.Ns mainGlobals mg)(hfa:mg "law"=some (.ref fa))
 (a1:nsIn K mainGlobals "_wall"=some (some (.ref f1))) (l1:FnL K f1 "_wall" "_wall" a5V o1 d1 s1 v1 x1 p1 n1 c1 t1) (c_1:codeIn K c1 "_wall"=true) (k1:keepIn K (.ref f1)=true)
 (a2:nsIn K mainGlobals "within"=some (some (.ref f2))) (l2:FnL K f2 "within" "within" Z3 o2 d2 s2 v2 x2 p2 n2 c2 t2) (c_2:codeIn K c2 "within"=true) (k2:keepIn K (.ref f2)=true)
 (a3:nsIn K mainGlobals "below"=some (some (.ref f3))) (l3:FnL K f3 "below" "below" a0V o3 d3 s3 v3 x3 p3 n3 c3 t3) (c_3:codeIn K c3 "below"=true) (k3:keepIn K (.ref f3)=true)
 (a4:nsIn K mainGlobals "plus"=some (some (.ref f4))) (l4:FnL K f4 "plus" "plus" a2U o4 d4 s4 v4 x4 p4 n4 c4 t4) (c_4:codeIn K c4 "plus"=true) (k4:keepIn K (.ref f4)=true)
 (a5:nsIn K mainGlobals "minus"=some (some (.ref f5))) (l5:FnL K f5 "minus" "minus" a0U o5 d5 s5 v5 x5 p5 n5 c5 t5) (c_5:codeIn K c5 "minus"=true) (k5:keepIn K (.ref f5)=true)
 (a6:nsIn K mainGlobals "size"=some (some (.ref f6))) (l6:FnL K f6 "size" "size" a2T o6 d6 s6 v6 x6 p6 n6 c6 t6) (c_6:codeIn K c6 "size"=true) (k6:keepIn K (.ref f6)=true)
 (a7:nsIn K mainGlobals "nought"=some (some (.ref f7))) (l7:FnL K f7 "nought" "nought" Z4 o7 d7 s7 v7 x7 p7 n7 c7 t7) (c_7:codeIn K c7 "nought"=true) (k7:keepIn K (.ref f7)=true)
 (a8:nsIn K mainGlobals "grow"=some (some (.ref f8))) (l8:FnL K f8 "grow" "grow" a2W o8 d8 s8 v8 x8 p8 n8 c8 t8) (c_8:codeIn K c8 "grow"=true) (k8:keepIn K (.ref f8)=true)
 (a9:nsIn K mainGlobals "answers"=some (some (.ref f9))) (l9:FnL K f9 "answers" "answers" U4 o9 d9 s9 v9 x9 p9 n9 c9 t9) (c_9:codeIn K c9 "answers"=true) (k9:keepIn K (.ref f9)=true)
 (a10:nsIn K mainGlobals "rests"=some (some (.ref f10))) (l10:FnL K f10 "rests" "rests" a0T o10 d10 s10 v10 x10 p10 n10 c10 t10) (c_10:codeIn K c10 "rests"=true) (k10:keepIn K (.ref f10)=true)
 (a11:nsIn K mainGlobals "without"=some (some (.ref f11))) (l11:FnL K f11 "without" "without" U0 o11 d11 s11 v11 x11 p11 n11 c11 t11) (c_11:codeIn K c11 "without"=true) (k11:keepIn K (.ref f11)=true)
 (a12:nsIn K mainGlobals "is_short"=some (some (.ref f12))) (l12:FnL K f12 "is_short" "is_short" Q6 o12 d12 s12 v12 x12 p12 n12 c12 t12) (c_12:codeIn K c12 "is_short"=true) (k12:keepIn K (.ref f12)=true)
 (a13:nsIn K mainGlobals "lays"=some (some (.ref f13))) (l13:FnL K f13 "lays" "lays" a2V o13 d13 s13 v13 x13 p13 n13 c13 t13) (c_13:codeIn K c13 "lays"=true) (k13:keepIn K (.ref f13)=true)
 (a14:nsIn K mainGlobals "_law_cell"=some (some (.ref f14))) (l14:FnL K f14 "_law_cell" "_law_cell" O0 o14 d14 s14 v14 x14 p14 n14 c14 t14) (c_14:codeIn K c14 "_law_cell"=true) (k14:keepIn K (.ref f14)=true)
 (a15:nsIn K mainGlobals "_law_pot"=some (some (.ref f15))) (l15:FnL K f15 "_law_pot" "_law_pot" Q7 o15 d15 s15 v15 x15 p15 n15 c15 t15) (c_15:codeIn K c15 "_law_pot"=true) (k15:keepIn K (.ref f15)=true)
 (a16:nsIn K mainGlobals "_law_take"=some (some (.ref f16))) (l16:FnL K f16 "_law_take" "_law_take" N7 o16 d16 s16 v16 x16 p16 n16 c16 t16) (c_16:codeIn K c16 "_law_take"=true) (k16:keepIn K (.ref f16)=true)
 (a17:nsIn K mainGlobals "_law_vector"=some (some (.ref f17))) (l17:FnL K f17 "_law_vector" "_law_vector" K0 o17 d17 s17 v17 x17 p17 n17 c17 t17) (c_17:codeIn K c17 "_law_vector"=true) (k17:keepIn K (.ref f17)=true)
 (a18:nsIn K mainGlobals "_law_together"=some (some (.ref f18))) (l18:FnL K f18 "_law_together" "_law_together" G5 o18 d18 s18 v18 x18 p18 n18 c18 t18) (c_18:codeIn K c18 "_law_together"=true) (k18:keepIn K (.ref f18)=true)
 (a19:nsIn K mainGlobals "_law_small"=some (some (.ref f19))) (l19:FnL K f19 "_law_small" "_law_small" M0 o19 d19 s19 v19 x19 p19 n19 c19 t19) (c_19:codeIn K c19 "_law_small"=true) (k19:keepIn K (.ref f19)=true)
 (a20:nsIn K mainGlobals "_law_one_of"=some (some (.ref f20))) (l20:FnL K f20 "_law_one_of" "_law_one_of" K1 o20 d20 s20 v20 x20 p20 n20 c20 t20) (c_20:codeIn K c20 "_law_one_of"=true) (k20:keepIn K (.ref f20)=true)
 (a21:nsIn K mainGlobals "_law_all"=some (some (.ref f21))) (l21:FnL K f21 "_law_all" "_law_all" Q8 o21 d21 s21 v21 x21 p21 n21 c21 t21) (c_21:codeIn K c21 "_law_all"=true) (k21:keepIn K (.ref f21)=true)
 (a22:nsIn K mainGlobals "_law_are_counts"=some (some (.ref f22))) (l22:FnL K f22 "_law_are_counts" "_law_are_counts" E3 o22 d22 s22 v22 x22 p22 n22 c22 t22) (c_22:codeIn K c22 "_law_are_counts"=true) (k22:keepIn K (.ref f22)=true)
 (a23:nsIn K mainGlobals "_law_sums"=some (some (.ref f23))) (l23:FnL K f23 "_law_sums" "_law_sums" N8 o23 d23 s23 v23 x23 p23 n23 c23 t23) (c_23:codeIn K c23 "_law_sums"=true) (k23:keepIn K (.ref f23)=true)
 (a24:nsIn K mainGlobals "_law_asked"=some (some (.ref f24))) (l24:FnL K f24 "_law_asked" "_law_asked" M1 o24 d24 s24 v24 x24 p24 n24 c24 t24) (c_24:codeIn K c24 "_law_asked"=true) (k24:keepIn K (.ref f24)=true)
 (a25:nsIn K mainGlobals "_law_too_many"=some (some (.ref f25))) (l25:FnL K f25 "_law_too_many" "_law_too_many" G4 o25 d25 s25 v25 x25 p25 n25 c25 t25) (c_25:codeIn K c25 "_law_too_many"=true) (k25:keepIn K (.ref f25)=true)
 (a26:nsIn K mainGlobals "_law_bounded"=some (some (.ref f26))) (l26:FnL K f26 "_law_bounded" "_law_bounded" J1 o26 d26 s26 v26 x26 p26 n26 c26 t26) (c_26:codeIn K c26 "_law_bounded"=true) (k26:keepIn K (.ref f26)=true)
 (a27:nsIn K mainGlobals "law"=some (some (.ref f27))) (l27:FnL K f27 "law" "law" a1r o27 d27 s27 v27 x27 p27 n27 c27 t27) (c_27:codeIn K c27 "law"=true) (k27:keepIn K (.ref f27)=true)
  (z1:PySem.W.nsIn K mainGlobals "ValueError"=some none) (z2:PySem.W.nsIn K mainGlobals "all"=some none) (z3:PySem.W.nsIn K mainGlobals "any"=some none) (z4:PySem.W.nsIn K mainGlobals "bool"=some none) (z5:PySem.W.nsIn K mainGlobals "enumerate"=some none) (z6:PySem.W.nsIn K mainGlobals "int"=some none) (z7:PySem.W.nsIn K mainGlobals "isinstance"=some none) (z8:PySem.W.nsIn K mainGlobals "len"=some none) (z9:PySem.W.nsIn K mainGlobals "list"=some none) (z10:PySem.W.nsIn K mainGlobals "max"=some none) (z11:PySem.W.nsIn K mainGlobals "min"=some none) (z12:PySem.W.nsIn K mainGlobals "range"=some none) (z13:PySem.W.nsIn K mainGlobals "sorted"=some none) (z14:PySem.W.nsIn K mainGlobals "sum"=some none) (z15:PySem.W.nsIn K mainGlobals "tuple"=some none) (z16:PySem.W.nsIn K mainGlobals "zip"=some none)
  {D_NoAnswer:Addr}(aD_NoAnswer:PySem.W.nsIn K mainGlobals "NoAnswer"=some (some (.ref D_NoAnswer))) {D_LayError:Addr}(aD_LayError:PySem.W.nsIn K mainGlobals "LayError"=some (some (.ref D_LayError))) {D_NoLay:Addr}(aD_NoLay:PySem.W.nsIn K mainGlobals "NoLay"=some (some (.ref D_NoLay))) {D_NoLine:Addr}(aD_NoLine:PySem.W.nsIn K mainGlobals "NoLine"=some (some (.ref D_NoLine))) {D_NoText:Addr}(aD_NoText:PySem.W.nsIn K mainGlobals "NoText"=some (some (.ref D_NoText))) {D_TooMany:Addr}(aD_TooMany:PySem.W.nsIn K mainGlobals "TooMany"=some (some (.ref D_TooMany))) {D_Laying:Addr}(aD_Laying:PySem.W.nsIn K mainGlobals "Laying"=some (some (.ref D_Laying))) (qx:PySem.W.excIn K D_TooMany [.type "ValueError",.type "Exception",.type "BaseException",.type "object"] "ValueError.__new__"=true) (q1:a1X K D_LayError []=true) (q2:a1X K D_TooMany [.ref D_LayError]=true) (q3:a1X K D_TooMany []=true) (q4:PySem.W.mroIn K D_TooMany (.type "object")=some true) (q5:PySem.W.findIn K (.ref D_TooMany) "__class__"=some (some (.builtin "object.__class__"))) (q6:PySem.W.findIn K (.ref D_TooMany) "__getattribute__"=some (some (.builtin "BaseException.__getattribute__"))) (q7:PySem.W.findIn K (.ref D_TooMany) "__getattr__"=some none) (q8:PySem.W.kitOne K (.ref D_TooMany) (.ref D_TooMany)=some true) (q9:PySem.W.kitOne K (.ref D_TooMany) (.type "ValueError")=some true) (q10:PySem.W.kitAny K (.ref D_TooMany) [.ref D_NoAnswer,.ref D_NoLay,.ref D_NoLine,.ref D_NoText]=some false) (pg_Laying:PySem.W.plainGet K D_Laying Str.empty=true) (hd_Laying:PySem.W.hasDictIn K D_Laying=true) (po_Laying:PySem.W.plainOver K D_Laying=true) (sa_Laying:PySem.W.findIn K (.ref D_Laying) "__setattr__"=some (some (.builtin "object.__setattr__"))) (mk_Laying:PySem.W.makesIn K D_Laying=true) (kc_Laying:PySem.W.keepIn K (.ref D_Laying)=true) (n_Laying_parts:PySem.W.findIn K (.ref D_Laying) "parts"=some none) (n_Laying_lost:PySem.W.findIn K (.ref D_Laying) "lost"=some none) (n_Laying_met:PySem.W.findIn K (.ref D_Laying) "met"=some none) (a_Laying___init__:findIn K (.ref D_Laying) "__init__"=some (some (.ref f_Laying___init__))) (i_Laying___init__:isFn K (.ref f_Laying___init__)=true) (l_Laying___init__:FnL K f_Laying___init__ "__init__" "Laying.__init__" E4 o_Laying___init__ d_Laying___init__ s0_Laying___init__ v_Laying___init__ x_Laying___init__ p_Laying___init__ n0_Laying___init__ c0_Laying___init__ t_Laying___init__) (c_Laying___init__:codeIn K c0_Laying___init__ "Laying.__init__"=true) (k_Laying___init__:keepIn K (.ref f_Laying___init__)=true) (a_Laying_fitting:findIn K (.ref D_Laying) "fitting"=some (some (.ref f_Laying_fitting))) (i_Laying_fitting:isFn K (.ref f_Laying_fitting)=true) (l_Laying_fitting:FnL K f_Laying_fitting "fitting" "Laying.fitting" E9 o_Laying_fitting d_Laying_fitting s0_Laying_fitting v_Laying_fitting x_Laying_fitting p_Laying_fitting n0_Laying_fitting c0_Laying_fitting t_Laying_fitting) (c_Laying_fitting:codeIn K c0_Laying_fitting "Laying.fitting"=true) (k_Laying_fitting:keepIn K (.ref f_Laying_fitting)=true) (a_Laying_filling:findIn K (.ref D_Laying) "filling"=some (some (.ref f_Laying_filling))) (i_Laying_filling:isFn K (.ref f_Laying_filling)=true) (l_Laying_filling:FnL K f_Laying_filling "filling" "Laying.filling" F0 o_Laying_filling d_Laying_filling s0_Laying_filling v_Laying_filling x_Laying_filling p_Laying_filling n0_Laying_filling c0_Laying_filling t_Laying_filling) (c_Laying_filling:codeIn K c0_Laying_filling "Laying.filling"=true) (k_Laying_filling:keepIn K (.ref f_Laying_filling)=true) (a_Laying_next_part:findIn K (.ref D_Laying) "next_part"=some (some (.ref f_Laying_next_part))) (i_Laying_next_part:isFn K (.ref f_Laying_next_part)=true) (l_Laying_next_part:FnL K f_Laying_next_part "next_part" "Laying.next_part" D7 o_Laying_next_part d_Laying_next_part s0_Laying_next_part v_Laying_next_part x_Laying_next_part p_Laying_next_part n0_Laying_next_part c0_Laying_next_part t_Laying_next_part) (c_Laying_next_part:codeIn K c0_Laying_next_part "Laying.next_part"=true) (k_Laying_next_part:keepIn K (.ref f_Laying_next_part)=true) (a_Laying_is_lost:findIn K (.ref D_Laying) "is_lost"=some (some (.ref f_Laying_is_lost))) (i_Laying_is_lost:isFn K (.ref f_Laying_is_lost)=true) (l_Laying_is_lost:FnL K f_Laying_is_lost "is_lost" "Laying.is_lost" E8 o_Laying_is_lost d_Laying_is_lost s0_Laying_is_lost v_Laying_is_lost x_Laying_is_lost p_Laying_is_lost n0_Laying_is_lost c0_Laying_is_lost t_Laying_is_lost) (c_Laying_is_lost:codeIn K c0_Laying_is_lost "Laying.is_lost"=true) (k_Laying_is_lost:keepIn K (.ref f_Laying_is_lost)=true) (a_Laying_reach:findIn K (.ref D_Laying) "reach"=some (some (.ref f_Laying_reach))) (i_Laying_reach:isFn K (.ref f_Laying_reach)=true) (l_Laying_reach:FnL K f_Laying_reach "reach" "Laying.reach" S7 o_Laying_reach d_Laying_reach s0_Laying_reach v_Laying_reach x_Laying_reach p_Laying_reach n0_Laying_reach c0_Laying_reach t_Laying_reach) (c_Laying_reach:codeIn K c0_Laying_reach "Laying.reach"=true) (k_Laying_reach:keepIn K (.ref f_Laying_reach)=true) (a_Laying_meet:findIn K (.ref D_Laying) "meet"=some (some (.ref f_Laying_meet))) (i_Laying_meet:isFn K (.ref f_Laying_meet)=true) (l_Laying_meet:FnL K f_Laying_meet "meet" "Laying.meet" G1 o_Laying_meet d_Laying_meet s0_Laying_meet v_Laying_meet x_Laying_meet p_Laying_meet n0_Laying_meet c0_Laying_meet t_Laying_meet) (c_Laying_meet:codeIn K c0_Laying_meet "Laying.meet"=true) (k_Laying_meet:keepIn K (.ref f_Laying_meet)=true) :
  ∃fd:FuncData,(∀(s:Shared) (v:Value),BindsTo s fd ⟨[v],[]⟩ [("_law_script",v)])/\∀base:Heap,K.In base->base.Ns mainGlobals mg->FnOk l.prog w K mg base CX0 15 fa fd ["_law_script"] (a5S K):=by
 have e:=hfa.symm.trans (PySem.W.mg_of X G a27);cases e;have T:Tx mg:=⟨PySem.W.mg_none_of X G z1,PySem.W.mg_none_of X G z2,PySem.W.mg_none_of X G z3,PySem.W.mg_none_of X G z4,PySem.W.mg_none_of X G z5,PySem.W.mg_none_of X G z6,PySem.W.mg_none_of X G z7,PySem.W.mg_none_of X G z8,PySem.W.mg_none_of X G z9,PySem.W.mg_none_of X G z10,PySem.W.mg_none_of X G z11,PySem.W.mg_none_of X G z12,PySem.W.mg_none_of X G z13,PySem.W.mg_none_of X G z14,PySem.W.mg_none_of X G z15,PySem.W.mg_none_of X G z16⟩;have F1:FunAt K mg "_wall" a5V ["k"]:=D5 X G a1 l1 c_1 k1 λ_ _ _ _ _ _ us hl=>by obtain⟨_,rfl⟩:=a7h hl;rfl
 have F2:FunAt K mg "within" Z3 ["caps","one"]:=D5 X G a2 l2 c_2 k2 λ_ _ _ _ _ _ us hl=>by obtain⟨_,_,rfl⟩:=Z9 hl;rfl
 have F3:FunAt K mg "below" a0V ["one","other"]:=D5 X G a3 l3 c_3 k3 λ_ _ _ _ _ _ us hl=>by obtain⟨_,_,rfl⟩:=Z9 hl;rfl
 have F4:FunAt K mg "plus" a2U ["one","other"]:=D5 X G a4 l4 c_4 k4 λ_ _ _ _ _ _ us hl=>by obtain⟨_,_,rfl⟩:=Z9 hl;rfl
 have F5:FunAt K mg "minus" a0U ["one","other"]:=D5 X G a5 l5 c_5 k5 λ_ _ _ _ _ _ us hl=>by obtain⟨_,_,rfl⟩:=Z9 hl;rfl
 have F6:FunAt K mg "size" a2T ["one"]:=D5 X G a6 l6 c_6 k6 λ_ _ _ _ _ _ us hl=>by obtain⟨_,rfl⟩:=a7h hl;rfl
 have F7:FunAt K mg "nought" Z4 ["width"]:=D5 X G a7 l7 c_7 k7 λ_ _ _ _ _ _ us hl=>by obtain⟨_,rfl⟩:=a7h hl;rfl
 have F8:FunAt K mg "grow" a2W ["found","one","caps","most"]:=D5 X G a8 l8 c_8 k8 λ_ _ _ _ _ _ us hl=>by obtain⟨_,_,_,_,rfl⟩:=a9q hl;rfl
 have F9:FunAt K mg "answers" U4 ["told","caps","most"]:=D5 X G a9 l9 c_9 k9 λ_ _ _ _ _ _ us hl=>by obtain⟨_,_,_,rfl⟩:=a2c hl;rfl
 have F10:FunAt K mg "rests" a0T ["one","rest"]:=D5 X G a10 l10 c_10 k10 λ_ _ _ _ _ _ us hl=>by obtain⟨_,_,rfl⟩:=Z9 hl;rfl
 have F11:FunAt K mg "without" U0 ["numbers","k"]:=D5 X G a11 l11 c_11 k11 λ_ _ _ _ _ _ us hl=>by obtain⟨_,_,rfl⟩:=Z9 hl;rfl
 have F12:FunAt K mg "is_short" Q6 ["parts","rest","budget"]:=D5 X G a12 l12 c_12 k12 λ_ _ _ _ _ _ us hl=>by obtain⟨_,_,_,rfl⟩:=a2c hl;rfl
 have F13:FunAt K mg "lays" a2V ["told","one","most"]:=D5 X G a13 l13 c_13 k13 λ_ _ _ _ _ _ us hl=>by obtain⟨_,_,_,rfl⟩:=a2c hl;rfl
 have F14:FunAt K mg "_law_cell" O0 ["_law_script","_law_k"]:=D5 X G a14 l14 c_14 k14 λ_ _ _ _ _ _ us hl=>by obtain⟨_,_,rfl⟩:=Z9 hl;rfl
 have F15:FunAt K mg "_law_pot" Q7 ["_law_script","_law_k"]:=D5 X G a15 l15 c_15 k15 λ_ _ _ _ _ _ us hl=>by obtain⟨_,_,rfl⟩:=Z9 hl;rfl
 have F16:FunAt K mg "_law_take" N7 ["_law_pot_here","_law_many"]:=D5 X G a16 l16 c_16 k16 λ_ _ _ _ _ _ us hl=>by obtain⟨_,_,rfl⟩:=Z9 hl;rfl
 have F17:FunAt K mg "_law_vector" K0 ["_law_draw","_law_width","_law_most"]:=D5 X G a17 l17 c_17 k17 λ_ _ _ _ _ _ us hl=>by obtain⟨_,_,_,rfl⟩:=a2c hl;rfl
 have F18:FunAt K mg "_law_together" G5 ["_law_parts","_law_counts","_law_width"]:=D5 X G a18 l18 c_18 k18 λ_ _ _ _ _ _ us hl=>by obtain⟨_,_,_,rfl⟩:=a2c hl;rfl
 have F19:FunAt K mg "_law_small" M0 ["_law_script"]:=D5 X G a19 l19 c_19 k19 λ_ _ _ _ _ _ us hl=>by obtain⟨_,rfl⟩:=a7h hl;rfl
 have F20:FunAt K mg "_law_one_of" K1 ["_law_draw","_law_parts","_law_width"]:=D5 X G a20 l20 c_20 k20 λ_ _ _ _ _ _ us hl=>by obtain⟨_,_,_,rfl⟩:=a2c hl;rfl
 have F21:FunAt K mg "_law_all" Q8 ["_law_parts","_law_one"]:=D5 X G a21 l21 c_21 k21 λ_ _ _ _ _ _ us hl=>by obtain⟨_,_,rfl⟩:=Z9 hl;rfl
 have F22:FunAt K mg "_law_are_counts" E3 ["_law_found","_law_many"]:=D5 X G a22 l22 c_22 k22 λ_ _ _ _ _ _ us hl=>by obtain⟨_,_,rfl⟩:=Z9 hl;rfl
 have F23:FunAt K mg "_law_sums" N8 ["_law_parts","_law_caps"]:=D5 X G a23 l23 c_23 k23 λ_ _ _ _ _ _ us hl=>by obtain⟨_,_,rfl⟩:=Z9 hl;rfl
 have F24:FunAt K mg "_law_asked" M1 ["_law_which","_law_parts","_law_other","_law_most"]:=D5 X G a24 l24 c_24 k24 λ_ _ _ _ _ _ us hl=>by obtain⟨_,_,_,_,rfl⟩:=a9q hl;rfl
 have F25:FunAt K mg "_law_too_many" G4 ["_law_caught"]:=D5 X G a25 l25 c_25 k25 λ_ _ _ _ _ _ us hl=>by obtain⟨_,rfl⟩:=a7h hl;rfl
 have F26:FunAt K mg "_law_bounded" J1 ["_law_which","_law_parts","_law_other","_law_due","_law_width"]:=D5 X G a26 l26 c_26 k26 λ_ _ _ _ _ _ us hl=>by obtain⟨_,_,_,_,_,rfl⟩:=b5s hl;rfl
 refine⟨fnOf "law" "law" (O4 a1r) (D9 a1r) (A2 a1r) .none v27 x27 p27 n27 c27 t27,λs v=>.of_eq rfl,λbase XB GB=>?_⟩;have M_NoAnswer:=PySem.W.mg_of X G aD_NoAnswer;have M_LayError:=PySem.W.mg_of X G aD_LayError;have M_NoLay:=PySem.W.mg_of X G aD_NoLay;have M_NoLine:=PySem.W.mg_of X G aD_NoLine;have M_NoText:=PySem.W.mg_of X G aD_NoText;have M_TooMany:=PySem.W.mg_of X G aD_TooMany;have M_Laying:=PySem.W.mg_of X G aD_Laying;have CL_Laying:Cls K D_Laying:=⟨pg_Laying,hd_Laying,po_Laying,sa_Laying⟩;have FM_Laying___init__:MethAt K D_Laying "__init__" "Laying.__init__" E4 ["self","told"]:=a1C a_Laying___init__ i_Laying___init__ l_Laying___init__ c_Laying___init__ k_Laying___init__ λ_ _ _ _ _ _ us hl=>by obtain⟨_,_,rfl⟩:=Z9 hl;rfl
 have FM_Laying_fitting:MethAt K D_Laying "fitting" "Laying.fitting" E9 ["self","loose","rest"]:=a1C a_Laying_fitting i_Laying_fitting l_Laying_fitting c_Laying_fitting k_Laying_fitting λ_ _ _ _ _ _ us hl=>by obtain⟨_,_,_,rfl⟩:=a2c hl;rfl
 have FM_Laying_filling:MethAt K D_Laying "filling" "Laying.filling" F0 ["self","loose","j"]:=a1C a_Laying_filling i_Laying_filling l_Laying_filling c_Laying_filling k_Laying_filling λ_ _ _ _ _ _ us hl=>by obtain⟨_,_,_,rfl⟩:=a2c hl;rfl
 have FM_Laying_next_part:MethAt K D_Laying "next_part" "Laying.next_part" D7 ["self","loose","rest"]:=a1C a_Laying_next_part i_Laying_next_part l_Laying_next_part c_Laying_next_part k_Laying_next_part λ_ _ _ _ _ _ us hl=>by obtain⟨_,_,_,rfl⟩:=a2c hl;rfl
 have FM_Laying_is_lost:MethAt K D_Laying "is_lost" "Laying.is_lost" E8 ["self","loose","rest","budget"]:=a1C a_Laying_is_lost i_Laying_is_lost l_Laying_is_lost c_Laying_is_lost k_Laying_is_lost λ_ _ _ _ _ _ us hl=>by obtain⟨_,_,_,_,rfl⟩:=a9q hl;rfl
 have FM_Laying_reach:MethAt K D_Laying "reach" "Laying.reach" S7 ["self","loose","rest","budget"]:=a1C a_Laying_reach i_Laying_reach l_Laying_reach c_Laying_reach k_Laying_reach λ_ _ _ _ _ _ us hl=>by obtain⟨_,_,_,_,rfl⟩:=a9q hl;rfl
 have FM_Laying_meet:MethAt K D_Laying "meet" "Laying.meet" G1 ["self","loose","rest","counts","most"]:=a1C a_Laying_meet i_Laying_meet l_Laying_meet c_Laying_meet k_Laying_meet λ_ _ _ _ _ _ us hl=>by obtain⟨_,_,_,_,_,rfl⟩:=b5s hl;rfl
 have FL:=a1R (st:=a1r) l27 c_27 k27;have UL:LTx K D_Laying:=⟨CL_Laying,n_Laying_parts,n_Laying_lost,n_Laying_met⟩;have MI:=(a9h (base:=base) (P:=l.prog) (w:=w) (mg:=mg) FM_Laying___init__ UL).make M_Laying mk_Laying kc_Laying;have BE:=a9i (base:=base) (P:=l.prog) (w:=w) F3 T;have SZ:=b1y (base:=base) (P:=l.prog) (w:=w) F6 T;have RE:=a9c F10 T BE (a9e F5 T);have WT:=a4T (base:=base) (P:=l.prog) (w:=w) F11 T;have FI:=b4f FM_Laying_fitting T UL BE;have NP:=a9d FM_Laying_next_part T CL_Laying (b1D (base:=base) (P:=l.prog) (w:=w) (mg:=mg) FM_Laying_filling T UL);have IL:=a6Z FM_Laying_is_lost T UL (a9b F12 T SZ);have OC:=b3T XB M_TooMany qx;have ME:MethOkE l.prog w K mg base D_Laying "meet" 11 ["self","loose","rest","counts","most"] (a0j 7 D_Laying D_TooMany):=by
  have e:=a9f (base:=base) (P:=l.prog) (w:=w) (mg:=mg) (K:=K) (D:=D_TooMany) FM_Laying_meet;have st:∀m,MethOkE l.prog w K mg base D_Laying "meet" (m+4) ["self","loose","rest","counts","most"] (a0j m D_Laying D_TooMany):=λm=>by
   induction m with
   |zero=>exact e
   |succ m ih=>exact b1A FM_Laying_meet T UL SZ RE WT FI NP IL OC ih
  exact st 7
 have TK:=b1x (base:=base) (P:=l.prog) (w:=w) F16 T;have PT:=b4d (base:=base) (P:=l.prog) (w:=w) F15 T (b1E F14 T);have NU:=a4V (base:=base) (P:=l.prog) (w:=w) (mg:=mg) F7;have LS:=b1B F13 T UL MI ME NU;have GR:=b1C F8 T (b1z F4 T) (a6W (base:=base) (P:=l.prog) (w:=w) F2 T);have AN:=a3S F9 T NU GR OC;have TM:=a4U (base:=base) (P:=l.prog) (w:=w) F25 T M_NoAnswer M_NoLay M_NoLine M_NoText M_TooMany ⟨a3q q3,q4,q5,q6,q7⟩ q8 q9 q10;have AK:=a9j F24 T LS AN M_LayError (a3q q1) (a3q q2);have BN:=a4W F26 T AK TM (a7a F22 T);exact b4e FL T PT (a9a F19 T TK PT (a6X F17 T TK)) (a6Y F20 T TK (b1w F18 T)) TK (b4g F21 T) (a9g F23 T) BN
end K24
namespace PySem.W.Fast
theorem tw15575882257224478015:True:=⟨⟩
theorem tw15683426162561925771:True:=⟨⟩
theorem tw11437626763522931192:True:=⟨⟩
theorem tw8042027338582288198:True:=⟨⟩
theorem tw13974399921420301671:True:=⟨⟩
theorem tw4426950463873882944:True:=⟨⟩
theorem tw11585514924082096724:True:=⟨⟩
theorem tw10060750249786166144:True:=⟨⟩
theorem tw11592044733483841433:True:=⟨⟩
theorem tw4149827867455983284:True:=⟨⟩
theorem tw7968951626831370764:True:=⟨⟩
theorem tw5435340634760764346:True:=⟨⟩
theorem tw16491799292631204124:True:=⟨⟩
theorem tw4475938029125188874:True:=⟨⟩
theorem tw933183477517495247:True:=⟨⟩
theorem tw10328747843398071446:True:=⟨⟩
theorem tw7431675528065188369:True:=⟨⟩
theorem tw4764817637935627263:True:=⟨⟩
theorem tw12129680820504496942:True:=⟨⟩
theorem tw6822274896418756532:True:=⟨⟩
theorem tw14990052990226036923:True:=⟨⟩
theorem tw10889297831678136967:True:=⟨⟩
theorem tw10649082030509610407:True:=⟨⟩
theorem tw3164666483984315808:True:=⟨⟩
theorem tw899031591552867938:True:=⟨⟩
theorem tw3194044046124779885:True:=⟨⟩
theorem tw5532291599299418698:True:=⟨⟩
theorem tw2081064100692233252:True:=⟨⟩
theorem tw7970847776723063522:True:=⟨⟩
theorem tw7149443012385544571:True:=⟨⟩
theorem tw4713151747822266023:True:=⟨⟩
theorem tw8151623183219770388:True:=⟨⟩
theorem tw15174481825433174242:True:=⟨⟩
theorem tw10436942212956525833:True:=⟨⟩
theorem tw17866015051989912300:True:=⟨⟩
theorem tw17623520529400253696:True:=⟨⟩
theorem tw8647470450577219064:True:=⟨⟩
theorem tw13464351612785101270:True:=⟨⟩
theorem tw3447968722640412880:True:=⟨⟩
theorem tw9515462137920372412:True:=⟨⟩
theorem tw14702017995911432373:True:=⟨⟩
theorem tw13130888739985141039:True:=⟨⟩
theorem tw1106418572909394434:True:=⟨⟩
theorem tw3610675328865487174:True:=⟨⟩
theorem tw17373512753100214262:True:=⟨⟩
theorem tw5715504006199689622:True:=⟨⟩
theorem tw10725390445071688712:True:=⟨⟩
theorem tw14342435071361163164:True:=⟨⟩
theorem tw10693481410878732631:True:=⟨⟩
theorem tw6249060751365939970:True:=⟨⟩
theorem tw15911194915473506340:True:=⟨⟩
theorem tw3486786662054058402:True:=⟨⟩
theorem tw14618170850561482189:True:=⟨⟩
theorem tw602043718438770472:True:=⟨⟩
theorem tw11208247556039533075:True:=⟨⟩
theorem tw15041763639211917840:True:=⟨⟩
theorem tw3695691349664582829:True:=⟨⟩
theorem tw13762899443550263592:True:=⟨⟩
theorem tw16232884615510958486:True:=⟨⟩
theorem tw14512110968715181833:True:=⟨⟩
theorem tw4183981222050776437:True:=⟨⟩
theorem tw14624457204710473147:True:=⟨⟩
theorem tw16003836911937618053:True:=⟨⟩
theorem tw13612950200542730870:True:=⟨⟩
theorem tw14639492790281758799:True:=⟨⟩
theorem tw12202533465031830580:True:=⟨⟩
theorem tw6867075763921058457:True:=⟨⟩
theorem tw8939344293528981272:True:=⟨⟩
theorem tw7661724126276420453:True:=⟨⟩
theorem tw1047173739430738192:True:=⟨⟩
theorem tw8543327955971855511:True:=⟨⟩
theorem tw11264025754935508562:True:=⟨⟩
theorem tw9552577360168875135:True:=⟨⟩
theorem tw16529485404877576004:True:=⟨⟩
theorem tw12758211021750491576:True:=⟨⟩
theorem tw12905035726101374823:True:=⟨⟩
theorem tw17553694033563792043:True:=⟨⟩
theorem tw677268127759529987:True:=⟨⟩
theorem tw12820236457654644233:True:=⟨⟩
theorem tw7873893787371686577:True:=⟨⟩
theorem tw15819048309014421767:True:=⟨⟩
theorem tw12357139237743573412:True:=⟨⟩
theorem tw968257920854244967:True:=⟨⟩
theorem tw5032015578450350424:True:=⟨⟩
theorem tw18231694424941254551:True:=⟨⟩
theorem tw16604465940555811923:True:=⟨⟩
theorem tw5406860950264175661:True:=⟨⟩
theorem tw10928214313187505353:True:=⟨⟩
theorem tw5603365252481252906:True:=⟨⟩
theorem tw3717425280508963542:True:=⟨⟩
theorem tw942471352442723036:True:=⟨⟩
theorem tw16039861062921988085:True:=⟨⟩
theorem tw8863137687795547904:True:=⟨⟩
theorem tw14772212239537430076:True:=⟨⟩
end PySem.W.Fast
open PySem PySem.W PyProof.Rows
set_option maxRecDepth 100000 in
set_option maxHeartbeats 0 in
theorem PySem.Challenge.cw_leastlays_k24_no_more_than_most_holds : PySem.Challenge.rw_leastlays_k24_no_more_than_most.Holds := by
 w_on;o_law;k_head;(case hw=>w_witness2)
 k_fill
 refine L2.law_walk (l:=PySem.Challenge.rw_leastlays_k24_no_more_than_most) 15 rfl rfl ⟨rfl,by decide,by decide⟩ (λw h Y=>PySem.W.kIn_of Y) ?F
 case F =>
  intro w mg fa h KX G hmg
  refine' K24.all_mk KX G hmg ?a1 ?l1 ?c_1 ?k1 ?a2 ?l2 ?c_2 ?k2 ?a3 ?l3 ?c_3 ?k3 ?a4 ?l4 ?c_4 ?k4 ?a5 ?l5 ?c_5 ?k5 ?a6 ?l6 ?c_6 ?k6 ?a7 ?l7 ?c_7 ?k7 ?a8 ?l8 ?c_8 ?k8 ?a9 ?l9 ?c_9 ?k9 ?a10 ?l10 ?c_10 ?k10 ?a11 ?l11 ?c_11 ?k11 ?a12 ?l12 ?c_12 ?k12 ?a13 ?l13 ?c_13 ?k13 ?a14 ?l14 ?c_14 ?k14 ?a15 ?l15 ?c_15 ?k15 ?a16 ?l16 ?c_16 ?k16 ?a17 ?l17 ?c_17 ?k17 ?a18 ?l18 ?c_18 ?k18 ?a19 ?l19 ?c_19 ?k19 ?a20 ?l20 ?c_20 ?k20 ?a21 ?l21 ?c_21 ?k21 ?a22 ?l22 ?c_22 ?k22 ?a23 ?l23 ?c_23 ?k23 ?a24 ?l24 ?c_24 ?k24 ?a25 ?l25 ?c_25 ?k25 ?a26 ?l26 ?c_26 ?k26 ?a27 ?l27 ?c_27 ?k27 ?z1 ?z2 ?z3 ?z4 ?z5 ?z6 ?z7 ?z8 ?z9 ?z10 ?z11 ?z12 ?z13 ?z14 ?z15 ?z16 ?aD_NoAnswer ?aD_LayError ?aD_NoLay ?aD_NoLine ?aD_NoText ?aD_TooMany ?aD_Laying ?qx ?q1 ?q2 ?q3 ?q4 ?q5 ?q6 ?q7 ?q8 ?q9 ?q10 ?pg_Laying ?hd_Laying ?po_Laying ?sa_Laying ?mk_Laying ?kc_Laying ?n_Laying_parts ?n_Laying_lost ?n_Laying_met ?a_Laying___init__ ?i_Laying___init__ ?l_Laying___init__ ?c_Laying___init__ ?k_Laying___init__ ?a_Laying_fitting ?i_Laying_fitting ?l_Laying_fitting ?c_Laying_fitting ?k_Laying_fitting ?a_Laying_filling ?i_Laying_filling ?l_Laying_filling ?c_Laying_filling ?k_Laying_filling ?a_Laying_next_part ?i_Laying_next_part ?l_Laying_next_part ?c_Laying_next_part ?k_Laying_next_part ?a_Laying_is_lost ?i_Laying_is_lost ?l_Laying_is_lost ?c_Laying_is_lost ?k_Laying_is_lost ?a_Laying_reach ?i_Laying_reach ?l_Laying_reach ?c_Laying_reach ?k_Laying_reach ?a_Laying_meet ?i_Laying_meet ?l_Laying_meet ?c_Laying_meet ?k_Laying_meet
  (case a1|l1|c_1|k1|a2|l2|c_2|k2|a3|l3|c_3|k3|a4|l4|c_4|k4|a5|l5|c_5|k5|a6|l6|c_6|k6|a7|l7|c_7|k7|a8|l8|c_8|k8|a9|l9|c_9|k9|a10|l10|c_10|k10|a11|l11|c_11|k11|a12|l12|c_12|k12|a13|l13|c_13|k13|a14|l14|c_14|k14|a15|l15|c_15|k15|a16|l16|c_16|k16|a17|l17|c_17|k17|a18|l18|c_18|k18|a19|l19|c_19|k19|a20|l20|c_20|k20|a21|l21|c_21|k21|a22|l22|c_22|k22|a23|l23|c_23|k23|a24|l24|c_24|k24|a25|l25|c_25|k25|a26|l26|c_26|k26|a27|l27|c_27|k27|z1|z2|z3|z4|z5|z6|z7|z8|z9|z10|z11|z12|z13|z14|z15|z16|aD_NoAnswer|aD_LayError|aD_NoLay|aD_NoLine|aD_NoText|aD_TooMany|aD_Laying=>(try unfold L2.FnL);k_is)
  (case qx|q1|q2|q3|q4|q5|q6|q7|q8|q9|q10=>first|k_is|kernel_rfl|rfl)
  (case pg_Laying|hd_Laying|po_Laying|sa_Laying|mk_Laying|kc_Laying|n_Laying_parts|n_Laying_lost|n_Laying_met|a_Laying___init__|i_Laying___init__|l_Laying___init__|c_Laying___init__|k_Laying___init__|a_Laying_fitting|i_Laying_fitting|l_Laying_fitting|c_Laying_fitting|k_Laying_fitting|a_Laying_filling|i_Laying_filling|l_Laying_filling|c_Laying_filling|k_Laying_filling|a_Laying_next_part|i_Laying_next_part|l_Laying_next_part|c_Laying_next_part|k_Laying_next_part|a_Laying_is_lost|i_Laying_is_lost|l_Laying_is_lost|c_Laying_is_lost|k_Laying_is_lost|a_Laying_reach|i_Laying_reach|l_Laying_reach|c_Laying_reach|k_Laying_reach|a_Laying_meet|i_Laying_meet|l_Laying_meet|c_Laying_meet|k_Laying_meet=>(try unfold L2.FnL);k_is)
#print axioms PySem.Challenge.cw_leastlays_k24_no_more_than_most_holds
